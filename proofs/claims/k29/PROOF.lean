import PyProof.Rows.All
import Wide.All
import OpenK.AllK
import Wide.FinOn
import Lean
import PyProof.EqAt
import PyProof.EqKinds
import PyProof.TupleCall
import PySem.Challenge.RW_motiffield_k29_lay
set_option compiler.extract_closed false
set_option Elab.async false
set_option linter.all false
set_option maxRecDepth 100000
set_option maxHeartbeats 4000000
local macro_rules|`(command|def $x:declId $s:optDeclSig $v:declVal)=>`(command|noncomputable def $x:declId $s:optDeclSig $v:declVal)
local macro_rules|`(command|abbrev $x:declId $s:optDeclSig $v:declVal)=>`(command|noncomputable abbrev $x:declId $s:optDeclSig $v:declVal)
local macro_rules|`(#[$x,*])=>`(⟨$x,*⟩)
theorem JM{p:Prop}(h:p:=by lia):p:=h
theorem JQ{p:Prop}(h:p:=by decide):p:=h
theorem JT{p:Prop}(h:p:=by decide+kernel):p:=h
theorem JU{p:Prop}(h:p:=by simp):p:=h
theorem Kv{p:Prop}(h:p:=by omega):p:=h
theorem KC{p:Prop}(h:p:=by k_memK):p:=h
theorem KE{p:Prop}(h:p:=by grind):p:=h
theorem KK{p:Prop}(h:p:=by walk_at "b2"):p:=h
theorem KL{p:Prop}(h:p:=by cases d<;>first|exact#[_,rfl,h]|exact False.elim h):p:=h
theorem Lw{p:Prop}(h:p:=by walk_at "b1"):p:=h
theorem Mi{p:Prop}(h:p:=by walk_at "b3"):p:=h
theorem Nh{p:Prop}(h:p:=by show(1:Nat)<1000;decide):p:=h
theorem N2{p:Prop}(h:p:=by rw[<-hY];rfl):p:=h
theorem Oa{p:Prop}(h:p:=by simp;lia):p:=h
open PySem renaming Str->A_
open Option renaming some->be,none->r_
open PySem renaming Value->KB,Addr->KF,Shared->KM,wpAny_bind->Os,mainGlobals->Pi,Expr->P3,Program->Q5,Stmt->Q6,wpAny->Q7,model->Q8,wpAny_pure->Q9,World->Q_,Around->Ra,assignEach->Rb,Heap->Rc,starEach->Re,FuncData->Rf,eval->Rg,attributeBase->Rh,Pos->Ri,wpAny_newObj_type->Rj,wpAny_Call_Name_kw->Rl,bootBuiltins->Rm,wpAny_mono->Rn,Obj->Ro,compareOp->Rp,swapsWith->Rq,PassesOwn->Rr,binaryOp->Rt,holding->Ru,wpAny_passesOwn->Rv,swapsWithSole->Rw,swappedStores->Rx,behindInMarks->Ry,sysModules->Rz,Scope->RA,wpAny_standAt->RB,ExceptHandler->RC,assign->RD,wpAny_getItem_str_slice->RE,excClassObj->RF,wpAny_holding->RG,wpAny_field->RH,sliceBounds->RI,bindArgs->RJ,NameKind->RK,wpAny_execs_nil->RL,standAt->RO,codeAny_mono->RP,Env->RQ,wpAny_truthy_bool->RR,wpAny_pyIter_enum->RS,wpAny_loadPart_at->RT,tupleKind->RV,noteFrame->RW,rawInt->RY,backTo->RZ,BindsTo->R1,post_val_or_str->R3,letOwnedTupleGo->R4,wpAny_setField->R5,keywordEach->R6,codeAny->R7,wpAny_isSubtype_exc->R8,wpAny_assign_Name->R',callerA->R_,setFlight->Sa,getMethod->Sb,IsPart->Sd,sizeLine_eq->Se,atKey->Sf,valueAt->Sg,setItem->Sh,getItem->Si,wpAny_letOwnedTupleGo_enum->Sj,wpAny_call->Sk,handleBy->Sl,dictSetDefault->Sm,backToKw->Sn,Operator->So,wpAny_comprehension_free->Sq,assignInOrder->Sr,cLine->Ss,bindL->Su,bindC->Sv,seqIndex_neg->Sx,release->Sy,leaving->Sz,codeAny_compStart_list->SA,call_meetsIn->SB,Sem->SF,wpAny_newFunctionEnv->SG,seqIndex_of->SH,bindName->SI,wpAny_call_exc_subT->SJ,wpAny_rule->SK,wpAny_entryPlaceOf->SL,wpAny_Name->SM,typeIs_str->SN,tupleKind_room_in1->SO,builtinsNs->SQ,wpAny_frameOf_fun->SR,relabel->SS,foldedSetIterable->SU,Tok->SW,Model->SX,Keyword->SY,CmpOp->SZ
open PyProof.Rows renaming envOfC->Rk,AllBare->RU,assignInOrder_cons->R9,subscriptTail_builtinR->Sw,IntsAre->SE,assignInOrder_nil->SV
open PySem.W renaming Frag->Ex,OpenLaw->HA,WalkO->Ih
open List renaming mem_singleton->FJ,mem_cons->FL,mem_cons_of_mem->FM,range->FN,mem_cons_self->FO,length_map->FP,getElem?_map->FS,size_toArray->FT,getElem?_eq_some_iff->FU,length_append->FV,length_cons->FW,lookup_cons->FY,getElem?_set_ne->F4,set_cons_succ->F5,set_cons_zero->F6,mem_append_right->F7,getElem?_eq_getElem->F8,mem_append->Ga,map_cons->Gc,mem_map->Gd,map_append->Gh,getElem?_eq_none->Gk,append_nil->Gn,nodup_cons->Go,getElem_mem->Gp,getElem?_range->Gq,replicate->Gr,getElem?_set_self->Gu,getElem?_append_left->Gv,length_set->Gx,all_eq_true->Gy,append_assoc->GC,lookup->GF,getElem?_append_right->GH,ext_getElem?->GI,getD->GL,drop_eq_getElem_cons->GM,mem_append_left->GN,mem_of_getElem?->GP,length_drop->GQ,map_nil->GR,find?_cons->GS,getElem?_set->GT,take_of_length_le->GV,nodup_append->GW,length_take->G2,length_singleton->G3,range_succ->G4,map_congr_left->G5,drop->G6,map_map->G7,not_mem_nil->G8,filterMap_cons->Hf,getElem?_take_of_lt->Hk,all_cons->Hl,any_cons->Hm,take_length->Hs,of_mem_zip->Hw,length->Hx,getElem?_replicate->Hy,contains_cons->HB,forIn_cons->HC,length_range->HR,getElem?_drop->HS,drop_zero->HU,drop_of_length_le->HV,map->HX,mem_of_mem_drop->HY,drop_eq_nil_of_le->HZ,mem_filter->Ia,mem_filterMap->Ib,filterMap_map->Ie,nodup_nil->Ik,take_succ->Io,dropLast_cons₂->Iq,eq_nil_of_length_eq_zero->Iu,map_take->IY,take_range->IZ,take_append_drop->I0,nil_append->Ja,drop_length->Jb
open Nat renaming le_refl->FK,le_trans->FQ,ne_of_lt->FR,lt_of_lt_of_le->F9,zero_le->Gb,pow_succ->GB,lt_irrefl->GD,ne_of_gt->GE,le_succ->GO,lt_or_ge->GU,mul_le_mul->GX,pow_le_pow_right->GZ,min_eq_left->G1,le_of_lt->Hd,le_of_eq->Hj,add_le_add->Hq,pow_pos->Hu,min_eq_right->Hv,le_of_not_lt->Hz,lt_succ_of_lt->HD,add_comm->HM,lt_succ_self->Ic,lt_of_le_of_lt->Ii,lt_trans->Ij,log2_lt->Il,succ_ne_self->Ir,le_max_left->ID,le_max_right->IE,pow_add->IF,add_sub_cancel->IJ,not_lt_zero->IL,mod_eq_of_lt->IR,zero_add->IU,mul_succ->IV,sub_zero->IW
open Bool renaming false_ne_true->FX,and_eq_true->Gf,eq_false_iff->Gi,eq_iff_iff->Hi,or_true->Hn
open Int renaming mul_pos->FZ,mul_comm->Ge,mul_le_mul_of_nonneg_right->Gg,mul_ediv_cancel->Gj,toNat_of_nonneg->Gm,le_trans->Gs,natAbs_mul->Gw,emod_nonneg->Gz,emod_lt_of_pos->GA,emod_def->GJ,mul_nonpos_of_nonpos_of_nonneg->GK,eq_of_mul_eq_mul_right->GY,emod_add_mul_ediv->G0,zero_add->G9,natCast_add->Ha,add_zero->Hb,toNat_natCast->Hc,dvd_mul_of_dvd_right->Hr,mul_neg->Ht,natAbs_add_le->HF,mul_nonneg->HG,fmod_eq_zero_of_dvd->HH,neg_mul->HI,natAbs_neg->HJ,eq_of_mul_eq_mul_left->HK,dvd_add->HL,mul_eq_zero->HN,sub_mul->HP,add_mul->HQ,add_assoc->HW,ediv_nonneg->H8,ediv_le_self->H9,natAbs_eq_zero->Im,fmod_nonneg_of_pos->Iv,fmod_lt_of_pos->Iw,natAbs_sub_le->Ix,mul_emod_left->Iy,mul_le_mul_of_nonneg_left->Iz,le_natAbs->IA,ofNat_le->IB,dvd_mul_of_dvd_left->IC,mul_fdiv_cancel_of_fmod_eq_zero->IG,dvd_antisymm->IH,zero_mul->II,add_mul_emod_self_right->IM,add_mul_ediv_right->IN,dvd_add_left->IP,dvd_mul_right->IQ,natCast_emod->IS,ediv_eq_zero_of_lt->IT
open Array renaming length_toList->Hg,getElem?_eq_some_iff->Ho,all_toList->HE,getElem?_eq_getElem->Ip,toList_inj->IK
open Option renaming getD_none->Ig
open PySem.W (InitBack InstAt any_some bind_fn callWith_K callWith_K0 cellsFrom_some clsIn codeIn codeRec_of emptyDict eq_bytes findIn findObj_own fnOf get_value handedIn hasDictIn hideAll hideAll_get hideAll_none hideAll_size instObj isFn isNs_of_in kIn_of keepIn ki_setAt ki_setBack kia_one kitOne kitx_bool kitx_dict kitx_float kitx_int kitx_list kitx_none kitx_own kitx_str kitx_tuple kun_itemsOf len_bytes lookIn looks_clsIn looks_findIn make_core makesIn makes_of methodCall_KW methodObj method_fn mg_none_of mg_of mroIn ne_bytes nsIn nsMap_none_of_in nsOkIn of_hideAll osa_open plainGet plainGet_of plainOver set_plain specialIn tailIn tail_of_in takerIn takesIn truthy_bytes typeIn)
def qZ0(_:0=0:=by rfl):=0
nonrec def zA0:=qZ0._auto_1
def qZ1(_:0=0:=by decide):=0
nonrec def zA1:=qZ1._auto_1
def qZ2(_:0=0:=by exact λ_=>rfl):=0
nonrec def zA2:=qZ2._auto_1
def qZ3(_:0=0:=by first|exact .inl rfl|exact .inr rfl|assumption):=0
nonrec def zA3:=qZ3._auto_1
def qZ4(_:0=0:=by first|exact Or.inl rfl|exact Or.inr rfl):=0
nonrec def zA4:=qZ4._auto_1
def qZ5(_:0=0:=by first|exact Or.inl rfl|exact Or.inr (Or.inl rfl)|exact Or.inr (Or.inr rfl)):=0
nonrec def zA5:=qZ5._auto_1
def qZ6(_:0=0:=by exact λ_ _=>rfl):=0
nonrec def zA6:=qZ6._auto_1
def qZ7(_:0=0:=by intros;rfl):=0
nonrec def zA7:=qZ7._auto_1
namespace PySem.W.Fast
def tw15885458470058077441:=Nat
def tw9388680952621020272:=Nat
def tw12847958592832781963:=Nat
def tw18274770084120928511:=Nat
def tw8306705430067972208:=Nat
def tw14556367535651206714:=Nat
def tw15167514682302581052:=Nat
def tw7660789375356037965:=Nat
def tw4956510481416579852:=Nat
def tw11498884097304673058:=Nat
def tw17158096250945685787:=Nat
def tw14933912174428617426:=Nat
def tw7885143340104019552:=Nat
def tw6058494665184939477:=Nat
def tw11059073125478662262:=Nat
def tw18357802226839687564:=Nat
def tw18271208259766742995:=Nat
def tw10005699743402496886:=Nat
def tw17180936822579843963:=Nat
def tw11178502441331654298:=Nat
def tw16593281977404796108:=Nat
def tw8433864735790459283:=Nat
def tw12595084721940719515:=Nat
def tw12477502614258978986:=Nat
def tw4228843822558858828:=Nat
def tw8233645032730511515:=Nat
def tw73807013240278313:=Nat
def tw15957142188484039043:=Nat
def tw18171582144833504498:=Nat
def tw14886548220967856720:=Nat
def tw17220664524509538737:=Nat
def tw1265477496326236948:=Nat
def tw9130937423758673367:=Nat
def tw11499068192962913456:=Nat
def tw4573182989546934601:=Nat
def tw17633177299183532243:=Nat
def tw18444181058555749340:=Nat
def tw18092181535787147148:=Nat
def tw9263187457108466538:=Nat
def tw13809274380238848050:=Nat
def tw10734265197811023072:=Nat
def tw4559397435065821111:=Nat
def tw18240016131406974039:=Nat
def tw2170684176652739845:=Nat
def tw10994217127669229304:=Nat
def tw649815405673470399:=Nat
def tw14000675574914291159:=Nat
def tw18328569122411785567:=Nat
def tw14183271398671239983:=Nat
def tw7182038053063672754:=Nat
def tw17794977426277555178:=Nat
def tw5409296123965360410:=Nat
def tw8811563534306715774:=Nat
def tw14278272550464240958:=Nat
def tw5016847631531427373:=Nat
def tw10070067043186660738:=Nat
def tw14480242814734195580:=Nat
def tw9903758204750701289:=Nat
def tw4510153388400254372:=Nat
def tw12929948774325784772:=Nat
def tw15769848873579436998:=Nat
def tw10773486587690527045:=Nat
def tw14691376821475829270:=Nat
def tw3062150866000359171:=Nat
def tw7368376265548467453:=Nat
def tw5570960808397922406:=Nat
def tw14158230086215403176:=Nat
def tw10355339302861557841:=Nat
def tw9515761034658006932:=Nat
def tw7132825876383052039:=Nat
def tw4147474532581837336:=Nat
def tw2118747315683019164:=Nat
def tw6001489881126345338:=Nat
def tw15898300465001870470:=Nat
def tw4477071419129784200:=Nat
def tw954138259541026228:=Nat
def tw7972295430048410507:=Nat
def tw17199732591391435018:=Nat
def tw11320765752084515744:=Nat
def tw174016301510460005:=Nat
def tw14542137112842066429:=Nat
def tw17226493919608125012:=Nat
def tw4457213489678532226:=Nat
def tw9485623019149906556:=Nat
def tw6569876003034649226:=Nat
def tw12552426221693207067:=Nat
def tw17221089085669052765:=Nat
def tw8495558026634943479:=Nat
def tw4035468408834857841:=Nat
def tw17253199174791129227:=Nat
def tw15180289957157411000:=Nat
def tw8084088313333839954:=Nat
def tw565887366554890674:=Nat
def tw5648892739358827653:=Nat
def tw3106651055008212643:=Nat
def tw12526549160059340915:=Nat
def tw6098876454289588037:=Nat
def tw11027392412551377901:=Nat
def tw8876925623477263065:=Nat
def tw2748251821087242866:=Nat
def tw17198016112569393836:=Nat
def tw10379453667446560501:=Nat
def tw14723992305776215794:=Nat
def tw10821619223292484121:=Nat
def tw310106650455810573:=Nat
def tw11244881716074476323:=Nat
def tw16968832878369991899:=Nat
def tw8751758180476394291:=Nat
def tw2797536368013243104:=Nat
def tw1157440373686126450:=Nat
def tw1647294345516973798:=Nat
def tw13845253393054505292:=Nat
def tw10356543372985708875:=Nat
def tw6507972031694512896:=Nat
def tw10742272484257562918:=Nat
def tw10145794397259426852:=Nat
def tw7913658134365468435:=Nat
def tw15683137859445941188:=Nat
def tw8482695739839954813:=Nat
def tw5676153537471901227:=Nat
def tw12948844606239933601:=Nat
def tw6097049675254743695:=Nat
def tw9924959965969320323:=Nat
def tw12299483033296731364:=Nat
def tw10850560609380600356:=Nat
def tw13245329439435790258:=Nat
def tw18207938602680857091:=Nat
def tw6656441744708369883:=Nat
def tw1472054502403249211:=Nat
def tw7954472602404382763:=Nat
def tw7570096505865076428:=Nat
def tw6803910065070699193:=Nat
def tw17572456256349171447:=Nat
def tw702495001708528411:=Nat
def tw17437778183999840870:=Nat
def tw4818812016201101920:=Nat
def tw16922168870203415662:=Nat
def tw8716387384812132016:=Nat
def tw13601592099242987553:=Nat
def tw14226815248616975180:=Nat
def tw11228725101202748107:=Nat
def tw3314902063579668363:=Nat
def tw9040805238948411404:=Nat
def tw13142575488214593218:=Nat
def tw8720052617438325587:=Nat
def tw13359506883385368818:=Nat
def tw21624042977905163:=Nat
def tw6203677336266831862:=Nat
def tw15873592287564646652:=Nat
def tw12316189413777490146:=Nat
def tw12640385655107568324:=Nat
def tw14880733391483425411:=Nat
def tw11057835219468475914:=Nat
def tw2117771775448019003:=Nat
def tw17775567140659847907:=Nat
def tw2565826985013843694:=Nat
def tw16973048389662691304:=Nat
def tw5257861621705725910:=Nat
def tw12180359091642490094:=Nat
def tw16194356011236909564:=Nat
def tw1831207771473431533:=Nat
def tw8199650801973462043:=Nat
def tw6806082663901254374:=Nat
def tw11493505112289763148:=Nat
def tw3900484286884716158:=Nat
def tw17190558265898424816:=Nat
def tw12865534607045499130:=Nat
def tw17598287263200982855:=Nat
def tw6290534953264601746:=Nat
def tw6800438793347562765:=Nat
def tw11367747736764704017:=Nat
def tw8373305324487894674:=Nat
def tw12186177871804595194:=Nat
def tw11736455573166140231:=Nat
def tw2148011603041727434:=Nat
def tw13973207128328904418:=Nat
def tw1546367057843106565:=Nat
def tw6659978227147514087:=Nat
def tw10807657098975235023:=Nat
def tw18200761581127148277:=Nat
def tw1283032858107492053:=Nat
def tw10240939151645602380:=Nat
def tw9846080418303390041:=Nat
def tw16907060334938935077:=Nat
def tw8923853928221545323:=Nat
def tw408302307051319157:=Nat
def tw8643957090220941633:=Nat
def tw9828009688532860077:=Nat
def tw17178680626205951217:=Nat
def tw11865129364514046566:=Nat
def tw4646792545603553250:=Nat
def tw10063985435681521331:=Nat
def tw16301724020925429918:=Nat
def tw10101865571598216930:=Nat
def tw16850058213697584369:=Nat
def tw7508740093666365276:=Nat
def tw16267379344661269608:=Nat
def tw16150065508284348087:=Nat
def tw491542623482683095:=Nat
def tw16532741490782791119:=Nat
def tw12617535293734338386:=Nat
def tw6196207014214689098:=Nat
def tw3140436026858372609:=Nat
def tw910260523673167757:=Nat
def tw15136593305160090967:=Nat
def tw12540510271429618797:=Nat
def tw3460962755601882913:=Nat
def tw8055064973443011712:=Nat
def tw5997194958657300167:=Nat
def tw2281357292434957273:=Nat
def tw9689387197701505619:=Nat
def tw2029391405233830277:=Nat
def tw5578175887319260042:=Nat
def tw7165894253399067975:=Nat
def tw6685993234738383207:=Nat
def tw6438796864764762362:=Nat
def tw1118893714726601081:=Nat
def tw15326248032582081358:=Nat
def tw15792620821012426215:=Nat
def tw463914320750467611:=Nat
def tw16556823581106341215:=Nat
def tw12751901180121720298:=Nat
def tw8525366569793970209:=Nat
def tw14243333741130216653:=Nat
def tw3149693075097218222:=Nat
def tw13786912959366951636:=Nat
def tw12334384482169545226:=Nat
def tw18179462104214399919:=Nat
def tw3506122998555400870:=Nat
def tw2106714940711738640:=Nat
def tw9371270984318129467:=Nat
def tw14937644388072897910:=Nat
def tw7119404486897441802:=Nat
def tw11218249733525467978:=Nat
def tw211131077034122087:=Nat
def tw7165858747713250489:=Nat
def tw12349435358631527773:=Nat
def tw3856488790373521718:=Nat
def tw12379746928221745421:=Nat
def tw15482438886609485232:=Nat
def tw7004689476625954900:=Nat
def tw13622235920167379041:=Nat
def tw16628004968874179459:=Nat
def tw8038680387050491349:=Nat
def tw18129821855321418975:=Nat
def tw12139846190179420761:=Nat
def tw11386558468963304116:=Nat
def tw108100293359077096:=Nat
def tw10394435276034168087:=Nat
def tw17466826941131415088:=Nat
def tw8116986782331400287:=Nat
def tw5474331162545354782:=Nat
def tw4482348267812644192:=Nat
def tw13618007219077668999:=Nat
def tw13884957925850448379:=Nat
def tw6793181875999022669:=Nat
def tw13172038993426994237:=Nat
def tw10637863268012213636:=Nat
def tw10789208073364606226:=Nat
def tw14135861100468366177:=Nat
def tw15686592846923758721:=Nat
def tw16769048443136664590:=Nat
def tw1622642285214597499:=Nat
def tw7313685026245112076:=Nat
def tw1479493890614333259:=Nat
def tw12662573988844387144:=Nat
def tw11584689167239849756:=Nat
def tw3270401977107908761:=Nat
def tw6212549571138538016:=Nat
def tw6867753330811107735:=Nat
def tw4623954964980929674:=Nat
def tw8716312262116381071:=Nat
def tw12381464563001028762:=Nat
def tw4633338592971488751:=Nat
def tw17079798641998824475:=Nat
def tw14859948474602634951:=Nat
def tw8200125762207816828:=Nat
def tw17441849235647728720:=Nat
def tw16201334596592994572:=Nat
def tw15348748624076136377:=Nat
def tw14101147066025080916:=Nat
def tw16916544594819289464:=Nat
def tw12328730276113741774:=Nat
def tw4433378514819740150:=Nat
def tw655059743159750573:=Nat
def tw11239742900546489321:=Nat
def tw239660140007724016:=Nat
def tw1957452115446519032:=Nat
def tw4092000978354027642:=Nat
def tw12083873530533952437:=Nat
def tw8385612254530885921:=Nat
def tw11379163765830904574:=Nat
def tw17045813398249787107:=Nat
def tw7745857745961489398:=Nat
def tw10997469759521290806:=Nat
def tw11291426820417378438:=Nat
def tw9960041868917305452:=Nat
def tw16555817651648021911:=Nat
def tw5247988186508398383:=Nat
def tw56426377260534098:=Nat
def tw8145536722928806469:=Nat
def tw11210333865172648170:=Nat
def tw5038297022449343441:=Nat
def tw8221536103739539684:=Nat
def tw3093800806955152674:=Nat
def tw4894398459111254963:=Nat
def tw8102470034858803010:=Nat
def tw7426821972259754899:=Nat
def tw10509836037615473992:=Nat
def tw12262900479299380351:=Nat
def tw11410473018707177081:=Nat
def tw4785145922275005221:=Nat
def tw10869226550546621626:=Nat
def tw7426393816615832115:=Nat
def tw6471397799667716604:=Nat
def tw8238953206755290179:=Nat
def tw11246061140901369096:=Nat
def tw10557792943165230484:=Nat
def tw15628458209039645160:=Nat
def tw14849130111563394817:=Nat
def tw17461164937500558598:=Nat
def tw10572762190396040287:=Nat
def tw11377877123043831755:=Nat
def tw10756003902125533608:=Nat
def tw9696112094093850515:=Nat
def tw14207170665325544949:=Nat
def tw2358013338145658926:=Nat
def tw3041263637230405330:=Nat
def tw13240926185217463938:=Nat
def tw3774264217065539136:=Nat
def tw6194876006766974349:=Nat
def tw9357092876866834984:=Nat
def tw6412097227023206728:=Nat
def tw13521999739797950920:=Nat
def tw1366565836994307489:=Nat
def tw3300024296336591163:=Nat
def tw16836027786091818289:=Nat
def tw17104246502095006423:=Nat
def tw16815131113528700772:=Nat
def tw835243393338149290:=Nat
def tw188299075054149052:=Nat
def tw13818551974841266469:=Nat
def tw13520891990231669229:=Nat
def tw11746472027000564075:=Nat
def tw5747108816432894947:=Nat
def tw10512464215377710169:=Nat
def tw15806648268413905977:=Nat
def tw14372045885926299730:=Nat
def tw10903890888035202864:=Nat
def tw16294478669248505772:=Nat
def tw1092511394789156867:=Nat
def tw4461825227358485397:=Nat
def tw8275142377225860294:=Nat
def tw4360799881947782631:=Nat
def tw2254028555393786535:=Nat
def tw9984750471150412885:=Nat
def tw16149093643005381113:=Nat
def tw24053872320787262:=Nat
def tw7525571082036510828:=Nat
def tw10241740212759716718:=Nat
def tw13460961130509731277:=Nat
def tw5822766452897613010:=Nat
def tw13225728447559668222:=Nat
def tw4512704254829363984:=Nat
def tw4077989011080639917:=Nat
def tw1116083825244489404:=Nat
def tw10789482880964918489:=Nat
def tw17005518763596706808:=Nat
def tw9821899485905416597:=Nat
def tw17469025020952571056:=Nat
def tw11706956358298738664:=Nat
def tw5103483965252887854:=Nat
def tw4866493946334594750:=Nat
def tw12215443712401267045:=Nat
def tw712672039992421874:=Nat
def tw16791170548976537684:=Nat
def tw15106901800568009588:=Nat
def tw13430427932189008290:=Nat
def tw14087938743232407432:=Nat
def tw10840483748669972084:=Nat
def tw2229014001797660814:=Nat
def tw12931236690937584999:=Nat
def tw16673429471708125831:=Nat
def tw17288286555582445412:=Nat
def tw18135954901064712577:=Nat
def tw4951955121823232212:=Nat
def tw12929000740280581554:=Nat
def tw12987475205517442660:=Nat
def tw13372552210670984058:=Nat
def tw572208207791492448:=Nat
def tw17464349787989979451:=Nat
def tw3373856903502194652:=Nat
def tw15702691527332231986:=Nat
def tw15449380651436748863:=Nat
def tw13291996824711132155:=Nat
def tw2965381564949721176:=Nat
def tw591416776338861366:=Nat
def tw3315163591129464364:=Nat
def tw2529984076306639666:=Nat
def tw6318951716358621417:=Nat
def tw3320242460161261700:=Nat
def tw10403491441556426397:=Nat
def tw1746054213715240283:=Nat
def tw3415399672215541365:=Nat
def tw796257982723776998:=Nat
def tw14012552282160077276:=Nat
def tw4931744982247829380:=Nat
def tw1141811349570033301:=Nat
def tw4075490745191067672:=Nat
def tw3893011050123662213:=Nat
def tw14061903244894195039:=Nat
def tw1785556399832067424:=Nat
def tw3725304066545358592:=Nat
def tw13151611888581017104:=Nat
def tw8782551159153638354:=Nat
def tw4124609539938557395:=Nat
def tw15835225839563964133:=Nat
def tw13258771512171383275:=Nat
def tw4058154606078988714:=Nat
def tw6710529537998010255:=Nat
def tw4012968365956040235:=Nat
def tw17741304001252076166:=Nat
def tw3286195330143959911:=Nat
def tw12830111540588916559:=Nat
def tw5348410732561805316:=Nat
def tw2010039305238804774:=Nat
def tw18446695068848719054:=Nat
def tw14673685357967958661:=Nat
def tw9274209169964488486:=Nat
def tw3441086070482604967:=Nat
def tw7676392551555772749:=Nat
def tw10418790525461922479:=Nat
def tw7562896270555608360:=Nat
def tw12527320887117592411:=Nat
def tw12249403298293911904:=Nat
def tw1817582506176811170:=Nat
def tw15989580036128332641:=Nat
def tw17428088480140254057:=Nat
def tw1260740948607708551:=Nat
def tw4648137317519770610:=Nat
def tw14178816751148218934:=Nat
def tw403198940774899679:=Nat
def tw15315881265156677482:=Nat
def tw14427713932978190582:=Nat
def tw5627926159393421313:=Nat
def tw2514666532674437001:=Nat
def tw14775862929509498050:=Nat
end PySem.W.Fast
section
namespace L2
open PySem PySem.Spec PyProof.Rows
abbrev Key:=Sum Int A_
def dQ:Key->KB->Bool
 |.inl k,v=>Value.isInt k v
 |.inr x,v=>Value.isStrOf x v
def keyH(w:Q_):Key->Int
 |.inl k=>hashInt k
 |.inr x=>hashStr w x
def keyIs_shape:∀{k:Key} {v:KB},dQ k v=true->(∃i t,k=Sum.inl i/\v=Value.int i t)\/(∃x t,k=Sum.inr x/\v=Value.str x t)
 |.inl i,v,h=>by
  obtain⟨t,e⟩:=Value.isInt_shape (k:=i) (v:=v) h;exact .inl #[i,t,rfl,e]
 |.inr x,v,h=>by
  obtain⟨t,e⟩:=Value.isStrOf_shape (x:=x) (v:=v) h;exact .inr #[x,t,rfl,e]
def vq(i:Int)(t:SW):dQ (.inl i) (.int i t)=true:=by simp[dQ,Value.isInt]
def vt(x:A_)(t:SW):dQ (.inr x) (.str x t)=true:=by simp[dQ,Value.isStrOf]
def vw(a b:Int):decide ((Sum.inl a:Key)=Sum.inl b)=(a==b):=by
 by_cases e:a=b
 .subst e;simp
 .have h:¬(Sum.inl a:Key)=Sum.inl b:=λq=>e (Sum.inl.inj q);rw[decide_eq_false h];exact(beq_eq_false_iff_ne.mpr e).symm
def vx(a b:A_):decide ((Sum.inr a:Key)=Sum.inr b)=decide (a=b):=by
 by_cases e:a=b
 .subst e;simp
 .have h:¬(Sum.inr a:Key)=Sum.inr b:=λq=>e (Sum.inr.inj q);rw[decide_eq_false h,decide_eq_false e]
def vy(a:Int)(b:A_):decide ((Sum.inl a:Key)=Sum.inr b)=false:=decide_eq_false (λq=>nomatch q)
def vz(a:A_)(b:Int):decide ((Sum.inr a:Key)=Sum.inl b)=false:=decide_eq_false (λq=>nomatch q)
def bD(prog:Q5)(w:Q_):PySem.KeyKind prog w Key where
 is:=dQ
 hash:=keyH w
 inj:=λv a b ha hb=>by
  rcases keyIs_shape ha with⟨i,t,rfl,rfl⟩|⟨x,t,rfl,rfl⟩
  .rcases keyIs_shape hb with⟨j,u,rfl,e⟩|⟨y,u,rfl,e⟩
   .injection e with e1 _;rw[e1]
   .exact nomatch e
  .rcases keyIs_shape hb with⟨j,u,rfl,e⟩|⟨y,u,rfl,e⟩
   .exact nomatch e
   .injection e with e1 _;rw[e1]
 byValue:=λk v h=>by
  rcases keyIs_shape h with⟨i,t,rfl,rfl⟩|⟨x,t,rfl,rfl⟩<;>rfl
 pyHash:=λhv h=>by
  rcases keyIs_shape hv with⟨i,t,rfl,rfl⟩|⟨x,t,rfl,rfl⟩
  .exact wpAny_pyHash_int h
  .exact wpAny_pyHash_str h
 eqBool:=λhu hv h=>by
  rcases keyIs_shape hu with⟨i,t,rfl,rfl⟩|⟨x,t,rfl,rfl⟩
  .rcases keyIs_shape hv with⟨j,u,rfl,rfl⟩|⟨y,u,rfl,rfl⟩
   .rw[vw]at h;exact wpAny_eqBool_int h
   .rw[vy]at h;exact SeqAt.EqAt.int_str i t y u _ _ _ _ h
  .rcases keyIs_shape hv with⟨j,u,rfl,rfl⟩|⟨y,u,rfl,rfl⟩
   .rw[vz]at h;exact SeqAt.EqAt.str_int x t j u _ _ _ _ h
   .rw[vx]at h;exact wpAny_eqBool_str h
 «strs»:=λk x t v h=>by
  rcases keyIs_shape h with⟨i,u,rfl,e⟩|⟨y,u,rfl,e⟩
  .exact nomatch e
  .injection e with e1 _;subst e1;cases v<;>rfl
def mixKind_int(prog:Q5)(w:Q_)(i:Int)(t:SW):(bD prog w).is (.inl i) (.int i t)=true:=vq i t
def vA(prog:Q5)(w:Q_)(x:A_)(t:SW):(bD prog w).is (.inr x) (.str x t)=true:=vt x t
inductive V where
 |non|bl (b:Bool)|int (i:Int)|str (x:Str)|byt (b:Array UInt8)|flt (b:UInt64)|ref (a:KF)|ty (n:String)
 deriving DecidableEq
def RelV:V->KB->Prop
 |.non,u=>u=Value.none
 |.bl b,u=>u=Value.bool b
 |.int i,u=>∃t,u=Value.int i t
 |.str x,u=>∃t,u=Value.str x t
 |.byt b,u=>∃t,u=Value.bytes b t
 |.flt b,u=>∃t,u=Value.float b t
 |.ref a,u=>u=Value.ref a
 |.ty n,u=>u=Value.type n
abbrev Vals:List V->List KB->Prop:=Paired RelV
variable{xs:List V}{us:List KB}
def Vals.length(r:Vals xs us):xs.length=us.length:=Paired.length r
def Vals.get:∀{xs:List V} {us:List KB} {i:Nat} {x:V},Vals xs us->xs[i]?=be x->∃u,us[i]?=be u/\RelV x u
 |_,_,_,_,.nil,e=>by simp at e
 |_,_,0,_,.cons r _,e=>by simp at e;subst e;exact#[_,rfl,r]
 |_,_,i+1,x,.cons _ t,e=>by
  obtain⟨u,h1,h2⟩:=Vals.get (i:=i) (x:=x) t (by simpa using e);exact#[u,by simpa using h1,h2]
def Vals.set{x:V}{u:KB}(r:RelV x u):∀{xs:List V} {us:List KB} (i:Nat),Vals xs us->Vals (xs.set i x) (us.set i u)
 |_,_,_,.nil=>.nil
 |_,_,0,.cons _ t=>.cons r t
 |_,_,i+1,.cons q t=>.cons q (Vals.set r i t)
def Vals.append:∀{xs ys:List V} {us ws:List KB},Vals xs us->Vals ys ws->Vals (xs++ys) (us++ws):=by
 intro xs ys us ws h s;induction h with
 |nil=>exact s
 |cons r _ e=>exact .cons r e
def Vals.take:∀{xs:List V} {us:List KB} (n:Nat),Vals xs us->Vals (xs.take n) (us.take n)
 |_,_,0,_=>.nil
 |_,_,_+1,.nil=>.nil
 |_,_,n+1,.cons r t=>.cons r (Vals.take n t)
def Vals.drop:∀{xs:List V} {us:List KB} (n:Nat),Vals xs us->Vals (xs.drop n) (us.drop n)
 |_,_,0,r=>r
 |_,_,_+1,.nil=>.nil
 |_,_,n+1,.cons _ t=>Vals.drop n t
def RelO:Option V->Option KB->Prop
 |some v,be u=>RelV v u
 |none,r_=>True
 |_,_=>False
def KV{κ:Type}:List (κ×V)->List (κ×KB)->Prop:=Paired λ(p:κ×V) (q:κ×KB)=>p.1=q.1/\RelV p.2 q.2
def kV:Key->V
 |.inl i=>.int i
 |.inr x=>.str x
inductive HO where
  |lst (xs:List V)
  |tup (xs:List V)
  |dK (a8:List (Key×V))|dT (a8:List (List Key×V))
  |set (S:Int->Bool) (n:Nat)
  |ins (C dx:KF) (fs:List (A_×V))
  |own (x:KF)
  |xd (fs:List (A_×V))
  |met (f x:KF)
  |rng (lo hi:Int)
  |frz (o:Ro) (u:HO)
  |tbl (ps:Array KB)
  |ext (φ:Rc->Prop)
abbrev Hp:=KF->Option HO
def upd(H:Hp)(a:KF)(o:HO):Hp:=λb=>if b=a then be o else H b
variable{H:Hp}{a:KF}{o:HO}
def aG:upd H a o a=be o:=by unfold upd;rw[if_pos rfl]
variable{b:KF}
def ay(h:b≠a):upd H a o b=H b:=by unfold upd;rw[if_neg h]
def vB{u:HO}(h:H a=be o)(h':H b=be u)(d:o≠u):a≠b:=by
 intro e;subst e;rw[h]at h';exact d (Option.some.inj h')
def cu(h:H a=be o)(h':H b=r_):a≠b:=by
 intro e;subst e;rw[h]at h';cases h'
section
variable (P:Q5)(w:Q_)
def ObjOk(H:Hp)(h:Rc)(a:KF):HO->Prop
 |.lst xs=>xs.length<=sizeLine/\∃(its:List KB) (n:Nat),Vals xs its/\h.get? a=be {cls:=.type "list",data:=.seq its.toArray n}
 |.tup xs=>xs.length<=sizeLine/\∃its:List KB,Vals xs its/\IsTup h a its.toArray
 |.dK a8=>a8.length<=sizeLine/\(a==Rz)=false/\∃vs,KV a8 vs/\h.DictOf (bD P w) a vs
 | .dT a8=>a8.length<=sizeLine/\(a==Rz)=false/\∃xs:List (List Key×KF×KB),
   Paired (λ(p:List Key×V) (q:List Key×KF×KB)=>p.1=q.1/\H q.2.1=be (.tup (p.1.map kV))/\RelV p.2 q.2.2) a8 xs/\
   ∃o es ep,h.get? a=be o/\o.ExactDict/\o.data=.dict es ep/\es.toList=xs.map (entryOfKey (RV (bD P w)))/\(xs.map (·.1)).Nodup
 |.set S n=>h.SetOf (intKind P w) a S n
 | .ins C dx fs=>H dx=be (.own a)/\fs.length<=1000/\dx≠a/\h.get? a=be (instObj C dx)/\
   ∃mA,h.Ns1 dx mA/\(∀f,RelO (fs.lookup f) (mA f))/\PySem.Within mA (fs.map (·.1))
 |.own _=>∃o,h.get? a=be o
 |.xd fs=>∃mA,h.Ns1 a mA/\∀f,RelO (fs.lookup f) (mA f)
 |.rng lo hi=>∃t u v,h.get? a=be {cls:=.type "range",data:=.fields [.int lo t,.int hi u,.int 1 v].toArray}
 |.frz o u=>h.get? a=be o/\ObjOk H h a u
 |.tbl ps=>h.get? a=be {cls:=.none,data:=.fields ps}
 |.met f x=>h.get? a=be (methodObj (.ref f) (.ref x))
 |.ext φ=>φ h/\(∃o,h.get? a=be o)/\∀h1 h2:Rc,φ h1->(∀o,h1.get? a=be o->h2.get? a=be o)->φ h2
def HOk(H:Hp)(h:Rc):Prop:=∀a o,H a=be o->ObjOk P w H h a o
end
section
variable {P:Q5}{w:Q_}{H H':Hp}{h h':Rc}{a:KF}{o:HO}
def ObjOk.lt(x:ObjOk P w H h a o):a<h.objs.size:=by
 cases o with
 |lst xs=>obtain⟨_,_,_,_,e⟩:=x;exact Heap.lt_size e
 |tup xs=>obtain⟨_,_,_,p⟩:=x;exact p.lt
 |dK a8=>obtain⟨_,_,_,_,o,_,_,e,_⟩:=x;exact Heap.lt_size e
 |dT a8=>obtain⟨_,_,_,_,o,_,_,e,_⟩:=x;exact Heap.lt_size e
 |set S n=>obtain⟨o,_,_,_,e,_⟩:=x;exact Heap.lt_size e
 |ins C dx fs=>obtain⟨_,_,_,e,_⟩:=x;exact Heap.lt_size e
 |own y=>obtain⟨_,e⟩:=x;exact Heap.lt_size e
 |xd fs=>obtain⟨_,⟨_,_,_,e,_⟩,_⟩:=x;exact Heap.lt_size e
 |rng lo hi=>obtain⟨_,_,_,e⟩:=x;exact Heap.lt_size e
 |frz ob u=>obtain⟨e,_⟩:=x;exact Heap.lt_size e
 |tbl ps=>exact Heap.lt_size (show h.get? a=be _ from x)
 |met f y=>exact Heap.lt_size (show h.get? a=be _ from x)
 |ext φ=>obtain⟨_,⟨_,e⟩,_⟩:=x;exact Heap.lt_size e
def Paired.mapP{α β:Type}{F G:α->β->Prop}:∀{l₁:List α} {l₂:List β},Paired F l₁ l₂->(∀a b,F a b->G a b)->Paired G l₁ l₂:=by
 intro l₁ l₂ h f;induction h with
 |nil=>exact .nil
 |cons r _ e=>exact .cons (f _ _ r) e
def ObjOk.stay(x:ObjOk P w H h a o)(k:∀b u,(b=a\/H b=be (.own a))->h.get? b=be u->h'.get? b=be u)
  (ho:∀b,H b=be (.own a)->H' b=be (.own a)) (ht:∀b xs,H b=be (.tup xs)->H' b=be (.tup xs)):ObjOk P w H' h' a o:=by
 induction o with
 |lst xs=>obtain⟨z,its,n,r,e⟩:=x;exact#[z,its,n,r,k _ _ (.inl rfl) e]
 |tup xs=>obtain⟨z,its,r,ob,e,c⟩:=x;exact#[z,its,r,ob,k _ _ (.inl rfl) e,c]
 |dK a8=>obtain⟨z,y,vs,r,ob,es,ep,e,c⟩:=x;exact#[z,y,vs,r,ob,es,ep,k _ _ (.inl rfl) e,c]
 |dT a8=>
  obtain⟨z,y,xs,r,ob,es,ep,e,c⟩:=x;exact#[z,y,xs,Paired.mapP r λp q z=>#[z.1,ht _ _ z.2.1,z.2.2],ob,es,ep,k _ _ (.inl rfl) e,c]
 |set S n=>obtain⟨ob,es,ep,t,e,c⟩:=x;exact#[ob,es,ep,t,k _ _ (.inl rfl) e,c]
 |ins C dx fs=>
  obtain⟨d,z,ne,e,mA,⟨od,es,ep,e2,c⟩,r⟩:=x;exact#[ho _ d,z,ne,k _ _ (.inl rfl) e,mA,#[od,es,ep,k _ _ (.inr d) e2,c],r]
 |own y=>obtain⟨ob,e⟩:=x;exact#[ob,k _ _ (.inl rfl) e]
 |xd fs=>obtain⟨mA,⟨od,es,ep,e,c⟩,r⟩:=x;exact#[mA,#[od,es,ep,k _ _ (.inl rfl) e,c],r]
 |rng lo hi=>obtain⟨t,u,v,e⟩:=x;exact#[t,u,v,k _ _ (.inl rfl) e]
 |frz ob u ih=>obtain⟨e,q⟩:=x;exact#[k _ _ (.inl rfl) e,ih q]
 |tbl ps=>
  have e:h.get? a=be {cls:=.none,data:=.fields ps}:=x;show h'.get? a=be {cls:=.none,data:=.fields ps};exact k a _ (.inl rfl) e
 |met f y=>
  have e:h.get? a=be (methodObj (.ref f) (.ref y)):=x;show h'.get? a=be (methodObj (.ref f) (.ref y));exact k a _ (.inl rfl) e
 |ext φ=>obtain⟨p,⟨o,e⟩,st⟩:=x;exact#[st _ _ p λo q=>k _ _ (.inl rfl) q,#[o,k _ _ (.inl rfl) e],st]
def HOk.lt(x:HOk P w H h)(e:H a=be o):a<h.objs.size:=(x a o e).lt
def HOk.fresh(x:HOk P w H h)(e:h.objs.size<=a):H a=none:=by
 cases q:H a with
 |none=>rfl
 |some u=>exact absurd (F9 (x.lt q) e) (GD _)
def HOk.kept(x:HOk P w H h)(k:∀b u,h.get? b=be u->h'.get? b=be u):HOk P w H h':=λa o e=>
 (x a o e).stay (λb u _ q=>k b u q) (λ_ q=>q) λ_ _ q=>q
def HOk.laid(x:HOk P w H h)(k:∀b u,h.get? b=be u->h'.get? b=be u)(hp:h.objs.size<=a)(new:ObjOk P w (upd H a o) h' a o):HOk P w (upd H a o) h':=λb u e=>by
 have hn:=x.fresh hp;by_cases hb:b=a
 .subst hb;rw[aG]at e;cases e;exact new
 .rw[ay hb]at e;exact(x b u e).stay (λc v _ q=>k c v q) (λc q=>by rw[ay (cu q hn)];exact q) λc xs q=>by rw[ay (cu q hn)];exact q
end
def Rd(H:Hp)(a:KF)(u:HO):Prop:=H a=be u\/∃o,H a=be (.frz o u)
variable{P:Q5}{w:Q_}{h:Rc}
def Rd.ok{u:HO}(r:Rd H a u)(x:HOk P w H h):ObjOk P w H h a u:=by
 rcases r with r|⟨o,r⟩
 .exact x a u r
 .obtain⟨_,q⟩:=x a _ r;exact q
def Mut:Option HO->Prop
 |some (.lst _)=>True
 |some (.dK _)=>True
 |some (.dT _)=>True
 |some (.set _ _)=>True
 |some (.ins _ _ _)=>True
 |some (.ext _)=>True
 |_=>False
section
variable {P:Q5}{w:Q_}{H:Hp}{h h':Rc}{x e:KF}{o':HO}
def HOk.write(ok:HOk P w H h)(mu:Mut (H x))(he:e=x\/H e=be (.own x))(k:∀b u,b≠e->h.get? b=be u->h'.get? b=be u)(x_:∃u,h'.get? e=be u)
  (new:ObjOk P w (upd H x o') h' x o'):HOk P w (upd H x o') h':=λb u q=>by
 have nown:∀c y,H c=be (.own y)->c≠x:=λc y r z=>by subst z;rw[r]at mu;exact mu
 have LY:∀c xs,H c=be (.tup xs)->c≠x:=λc xs r z=>by subst z;rw[r]at mu;exact mu
 by_cases hb:b=x
 .subst hb;rw[aG]at q;cases q;exact new
 .rw[ay hb]at q;by_cases JH:b=e
  .have q':H b=be (.own x):=by
    rcases he with z|z
    .exact absurd (JH.trans z) hb
    .rw[JH];exact z
   rw[q]at q';cases q';obtain⟨v,hv⟩:=x_;exact#[v,by rw[JH];exact hv]
  .refine(ok b u q).stay (λc v hc r=>k c v ?_ r) (λc r=>by rw[ay (nown c b r)];exact r) λc xs r=>by rw[ay (LY c xs r)];exact r
   rcases hc with rfl|hc
   .exact JH
   .rintro rfl;rcases he with z|z
    .exact nown c b hc z
    .rw[hc]at z;cases z;exact hb rfl
end
structure Un(fs ex:List KF)(H H':Hp)(h h':Rc):Prop where
 keep:∀b o,h.get? b=be o->H b=r_->b∉fs->b∉ex->h'.get? b=be o
 slot:∀b o,h.get? b=be o->H b=r_->b∈fs->b∉ex->∃sl,h'.get? b=be {o with slots:=sl}
 free:∀b o,h.get? b=be o->H b=r_->b∉ex->H' b=r_
 there:∀b o,h.get? b=be o->b∉ex->∃o',h'.get? b=be o'
 tups:∀b xs,H b=be (.tup xs)->H' b=be (.tup xs)
 frzs:∀b o u,H b=be (.frz o u)->H' b=be (.frz o u)
 tbls:∀b ps,H b=be (.tbl ps)->∃more,H' b=be (.tbl (ps++more))
section
variable {fs o_ ex NY:List KF}{H H1 H2:Hp}{h h1 h2 h':Rc}{a x e:KF}{o:HO}
def Un.any(u:Un fs ex H H1 h h1){b:KF}{ob:Ro}(q:h.get? b=be ob)(n:H b=r_)(hx:b∉ex):∃sl,h1.get? b=be {ob with slots:=sl}:=by
 by_cases hb:b∈fs
 .exact u.slot b ob q n hb hx
 .exact#[ob.slots,u.keep b ob q n hb hx]
def Un.kept(k:∀b u,h.get? b=be u->h'.get? b=be u):Un fs ex H H h h':=
 #[λb ob q _ _ _=>k b ob q,λb ob q _ _ _=>#[ob.slots,k b ob q],λ_ _ _ n _=>n,λb ob q _=>#[ob,k b ob q],λ_ _ q=>q,λ_ _ _ q=>q,λ_ ps q=>#[[].toArray,by rw[q];simp]]
def Un.refl:Un fs ex H H h h:=Un.kept λ_ _ q=>q
def Un.laid(k:∀b u,h.get? b=be u->h'.get? b=be u)(hp:h.objs.size<=a)(hn:H a=r_):Un fs ex H (upd H a o) h h' where
 keep:=λb u q _ _ _=>k b u q
 slot:=λb u q _ _ _=>#[u.slots,k b u q]
 free:=λb u q n _=>by rw[ay (FR (F9 (Heap.lt_size q) hp))];exact n
 there:=λb u q _=>#[u,k b u q]
 tups:=λb xs q=>by rw[ay (cu q hn)];exact q
 frzs:=λb u xs q=>by rw[ay (cu q hn)];exact q
 tbls:=λb ps q=>#[[].toArray,by rw[ay (cu q hn),q];simp]
def Un.write(mu:Mut (H x))(he:e=x\/H e=be (.own x))(k:∀b u,b≠e->h.get? b=be u->h'.get? b=be u)(x_:∃u,h'.get? e=be u):Un fs ex H (upd H x o) h h':=by
 have hx:∀b,H b=r_->b≠x:=λb n z=>by subst z;rw[n]at mu;exact mu
 have hb:∀b,H b=r_->b≠e:=λb n z=>by
  subst z;rcases he with r|r
  .exact hx b n r
  .rw[n]at r;cases r
 have hm:∀b u,H b=be u->¬Mut (be u)->b≠x:=λb u q nm z=>by subst z;rw[q]at mu;exact nm mu
 refine⟨λb u q n _ _=>k b u (hb b n) q,λb u q n _ _=>#[u.slots,k b u (hb b n) q],λb u q n _=>by rw[ay (hx b n)];exact n,λb u q _=>?_,
  λb xs q=>by rw[ay (hm b _ q λz=>z)];exact q,λb u xs q=>by rw[ay (hm b _ q λz=>z)];exact q,λb ps q=>#[[].toArray,by rw[ay (hm b _ q λz=>z),q];simp]⟩
 by_cases JH:b=e
 .subst JH;exact x_
 .exact#[u,k b u JH q]
end
def trk(h:Rc)(H:Hp):List KF:=(FN h.objs.size).filter λa=>(H a).isSome
def hidT(h:Rc)(H:Hp):Rc:=hideAll h (trk h H)
def vC(h:Rc)(H:Hp):(hidT h H).objs.size=h.objs.size:=hideAll_size _ _
def vD{o:Ro}(e:h.get? b=be o)(n:H b=r_):(hidT h H).get? b=be o:=
 hideAll_get _ e λhm=>by
  have q:(H b).isSome=true:=(Ia.mp hm).2;rw[n]at q;simp at q
def vE{o:Ro}(e:(hidT h H).get? b=be o):h.get? b=be o/\H b=none:=by
 have e':h.get? b=be o:=of_hideAll (trk h H) e;refine#[e',?_];cases q:H b with
 |none=>rfl
 |some x=>
  have hm:b∈trk h H:=Ia.mpr #[List.mem_range.mpr (Heap.lt_size e'),by simp[q]];have z:(hidT h H).get? b=none:=hideAll_none (trk h H) hm;rw[z]at e;cases e
structure Mod(K:Ex)(mg:Str->Option KB)(base:Rc):Prop where
 kin:K.In base
 glob:base.Ns Pi mg
 blt:∃mb,base.Ns SQ mb/\∀x:A_,x≠"__name__"->mb x=Rm x
 nolimit:base.NoLimit
structure Cx where
 prog:Q5
 w:Q_
 K:Ex
 mg:A_->Option KB
 base:Rc
 A:Ra
 N:List A_
 s₀:KM
 H₀:Hp
 env:RQ
 outer:List RQ
 stack:List RQ
 ex:List KF
 fn:A_->Bool
 calm:Bool
 pn:List (KF×Ro)
 xe:KB->KM->Prop
abbrev zSE(X:Cx)(e:P3)(es:List P3):Prop:=Re (e::es) X.env=(false,Rg e X.env)::Re es X.env
abbrev zPL(X:Cx)(p:Ri)(es:List P3):Prop:=(RZ p (Re es X.env)).any (·.1)=false
abbrev zHF(X:Cx)(p:Ri)(es:List P3):Prop:=((RZ p (Re es X.env)).all (λx=>!x.1)&&(Sn p (R6 [] X.env)).all (λx=>x.1.isSome)&&decide (es.length+([]:List SY).length+(if([]:List SY).isEmpty then 0 else 1)<30))=true
abbrev zFN(X:Cx)(x:A_):Prop:=X.fn x=true\/X.env.scope.names.lookup x=be .local
abbrev zND(x:A_):Prop:=(x==("__debug__":A_))=false
abbrev zNC(x:A_):Prop:=(x==("__classdict__":A_))=false
abbrev zFS(X:Cx)(e:P3)(y:KB):Prop:=SU e X.env y=pure y
def frs(l:List RQ):List KF:=l.filterMap (·.frame)
abbrev Cx.fs(X:Cx):List KF:=frs X.outer
def Vis(sc:RA)(x:A_):Prop:=sc.names.lookup x=be .local\/sc.names.lookup x=be .cell\/sc.names.lookup x=be .free
def Loc(sc:RA)(x:A_):Prop:=sc.names.lookup x=be .local\/sc.names.lookup x=be .cell
def Look(env:RQ)(h:Rc)(m:A_->Option KB)(x:A_)(u:KB):Prop:=
 (env.kindOf x=be .local/\m x=be u)\/((env.kindOf x=be .cell\/env.kindOf x=be .free)/\∃c,env.cells.lookup x=be c/\h.IsCell c (be u))
structure Cx.Ok(X:Cx):Prop where
 mod:Mod X.K X.mg X.base
 kind:X.env.scope.kind=.function
 glob:X.env.globals=Pi
 blt:X.env.builtins=SQ
 above:X.s₀.heap.objs.size<=X.env.locals
 inj:∀x y c,X.env.cells.lookup x=be c->X.env.cells.lookup y=be c->x=y
 has:∀x,(X.env.kindOf x=be .cell\/X.env.kindOf x=be .free)->∃c,X.env.cells.lookup x=be c
 cab:∀x c,X.fn x=true->X.env.cells.lookup x=be c->X.s₀.heap.objs.size<=c
 hd:X.calm=true->X.A.handled=r_
 frames:X.A.frames=be X.stack
 stk:X.stack=X.outer\/(X.stack=X.env::X.outer/\X.env.frame=be X.env.locals)
 exf:∀b∈X.ex,b≠X.env.locals/\∀x c,X.env.cells.lookup x=be c->c≠b
 bs:∀b o,X.base.get? b=be o->X.s₀.heap.get? b=be o/\X.H₀ b=r_
 bsz:X.base.objs.size<=X.s₀.heap.objs.size
 noex:∀b o,X.base.get? b=be o->b∉X.ex
 exfs:∀b∈X.ex,b∉X.fs
 funs:X.s₀.heap.FunFrames X.base X.outer
 frf:∀b∈X.fs,X.H₀ b=r_
structure Inv(X:Cx)(pins:List (KF×Ro))(σ:List (Option V))(H:Hp)(s:KM):Prop where
 ok:X.Ok
 os:s.os=X.s₀.os
 bare:RU s.gens
 base:Un X.fs X.ex X.H₀ H X.s₀.heap s.heap
 loc:∃m,s.heap.Ns X.env.locals m/\∀(i:Nat) (x:A_) (v:V),X.N[i]?=be x->σ[i]?=be (be v)->Vis X.env.scope x->∃u,RelV v u/\Look X.env s.heap m x u
 cell:∀x c,X.env.cells.lookup x=be c->∃v,s.heap.IsCell c v
 free:H X.env.locals=r_
 freeC:∀x c,X.env.cells.lookup x=be c->H c=r_
 pin:∀p∈X.pn++pins,s.heap.get? p.1=be p.2/\H p.1=r_/\p.1≠X.env.locals/\p.1∉X.fs/\∀v,p.2.data≠.cell v
 hok:HOk X.prog X.w H s.heap
 len:σ.length=X.N.length
section
variable {X:Cx}{pins:List (KF×Ro)}{σ:List (Option V)}{H H':Hp}{s:KM}{h':Rc}
def Cx.Ok.nofr(ok:X.Ok){b:KF}{o:Ro}(e:X.base.get? b=be o):b∉X.fs:=λhb=>by
 have:=(ok.funs.mem hb).1;rw[e]at this;cases this
def Inv.bs(I:Inv X pins σ H s):∀b o,X.base.get? b=be o->s.heap.get? b=be o/\H b=none:=λb o e=>
 #[I.base.keep b o (I.ok.bs b o e).1 (I.ok.bs b o e).2 (I.ok.nofr e) (I.ok.noex b o e),I.base.free b o (I.ok.bs b o e).1 (I.ok.bs b o e).2 (I.ok.noex b o e)]
def Inv.bk(I:Inv X pins σ H s):∀b o,X.base.get? b=be o->s.heap.get? b=be o:=λb o e=>(I.bs b o e).1
def Inv.mod(I:Inv X pins σ H s):Mod X.K X.mg X.base:=I.ok.mod
def Inv.kIn(I:Inv X pins σ H s):X.K.In s.heap:=I.ok.mod.kin.keeps I.bk
def Inv.lt(I:Inv X pins σ H s):X.env.locals<s.heap.objs.size:=let ⟨_,hn,_⟩:=I.loc;hn.lt
def Inv.sz(I:Inv X pins σ H s):X.s₀.heap.objs.size<=s.heap.objs.size:=FQ I.ok.above (Hd I.lt)
def Inv.nofs(I:Inv X pins σ H s){a:KF}(h:s.heap.objs.size<=a):a∉X.fs:=λhb=>by
 obtain⟨_,o,ho,_⟩:=I.ok.funs.mem hb;exact absurd (F9 (Heap.lt_size ho) (FQ I.sz h)) (GD _)
def Inv.cne(I:Inv X pins σ H s):∀x c,X.env.cells.lookup x=be c->c≠X.env.locals:=λx c e z=>by
 obtain⟨v,o,ho,hd⟩:=I.cell x c e;obtain⟨m,⟨o',es,ep,JI,i6,_⟩,_⟩:=I.loc;rw[z,JI]at ho;cases ho;rw[i6]at hd;cases hd
def Inv.funs(I:Inv X pins σ H s):s.heap.FunFrames X.base X.outer:=by
 have all:∀(l:List RQ),(∀b∈frs l,b∈X.fs)->X.s₀.heap.FunFrames X.base l->s.heap.FunFrames X.base l:=by
  intro l;induction l with
  |nil=>intro _ _;trivial
  |cons env r ih=>
   intro hs hl;obtain⟨hk,⟨L,o,hf,hn,ho,hd⟩,hr⟩:=hl;have hL:L∈X.fs:=hs L (by unfold frs;rw[Hf,hf];exact FO);obtain⟨sl,e⟩:=I.base.slot L o ho (I.ok.frf L hL) hL λz=>I.ok.exfs L z hL;exact#[hk,#[L,_,hf,hn,e,hd],ih (λb hb=>hs b (by unfold frs;rw[Hf,hf];exact FM _ hb)) hr]
 exact all X.outer (λ_ hb=>hb) I.ok.funs
def Inv.stack(I:Inv X pins σ H s):s.heap.FunFrames X.base X.stack:=by
 rcases I.ok.stk with e|⟨e,hf⟩
 .rw[e];exact I.funs
 .rw[e];obtain⟨m,hn,_⟩:=I.loc;refine .cons (by rw[I.ok.kind];decide) hf hn ?_ I.funs;exact Heap.get?_none_of_le (FQ I.ok.bsz I.ok.above)
def Inv.stkSub(I:Inv X pins σ H s):∀b∈frs X.stack,b∈X.env.locals::X.fs:=λb hb=>by
 rcases I.ok.stk with e|⟨e,hf⟩
 .rw[e]at hb;exact FM _ hb
 .rw[e]at hb;unfold frs at hb;rw[Hf,hf]at hb;exact hb
def Inv.stkFree(I:Inv X pins σ H s):∀b∈frs X.stack,H b=none:=λb hb=>by
 rcases FL.mp (I.stkSub b hb)with e|hb
 .rw[e];exact I.free
 .obtain⟨_,o,ho,_⟩:=I.ok.funs.mem hb;exact I.base.free b o ho (I.ok.frf b hb) λz=>I.ok.exfs b z hb
variable{g':Array GenState}{ch:List KF}
def Inv.step{t':Nat}{d':Drawn}(I:Inv X pins σ H s)
  (y7:∀b∈ch,(b∈X.ex\/X.s₀.heap.objs.size<=b)/\b≠X.env.locals/\(∀x c,X.env.cells.lookup x=be c->c≠b)/\∀p∈X.pn++pins,p.1≠b)
  (keep:∀b o,b≠X.env.locals->b∉X.fs->b∉ch->s.heap.get? b=be o->H b=r_->h'.get? b=be o)
  (slot:∀b o,b≠X.env.locals->b∈X.fs->b∉ch->s.heap.get? b=be o->H b=r_->∃sl,h'.get? b=be {o with slots:=sl}) (free:∀b o,b∉ch->s.heap.get? b=be o->H b=r_->H' b=r_)
  (there:∀b o,b∉ch->s.heap.get? b=be o->∃o',h'.get? b=be o')
  (tups:∀b xs,H b=be (.tup xs)->H' b=be (.tup xs)) (frzs:∀b o u,H b=be (.frz o u)->H' b=be (.frz o u)) (tbls:∀b ps,H b=be (.tbl ps)->∃more,H' b=be (.tbl (ps++more)))
  (ns:∀m,s.heap.Ns X.env.locals m->h'.Ns X.env.locals m) (hok:HOk X.prog X.w H' h') (hg:RU g'):
  Inv X pins σ H' {s with heap:=h',gens:=g',drawn:=d',toks:=t'}:=by
 have NZ:∀b o,X.s₀.heap.get? b=be o->b≠X.env.locals:=λb o e=>FR (F9 (Heap.lt_size e) I.ok.above);have Lo:∀b o,X.s₀.heap.get? b=be o->b∉X.ex->b∉ch:=λb o e hx hb=>by
  rcases(y7 b hb).1 with z|z
  .exact hx z
  .exact absurd (F9 (Heap.lt_size e) z) (GD _)
 have k9:∀x c,X.env.cells.lookup x=be c->∀v,s.heap.IsCell c v->h'.IsCell c v:=λx c e v ⟨o,ho,hd⟩=>by
  have Kt:c∉ch:=λz=>(y7 c z).2.2.1 x c e rfl;by_cases hc:c∈X.fs
  .obtain⟨sl,q⟩:=slot c o (I.cne x c e) hc Kt ho (I.freeC x c e);exact#[_,q,hd]
  .exact#[o,keep c o (I.cne x c e) hc Kt ho (I.freeC x c e),hd]
 refine#[I.ok,I.os,hg,#[λb o e n hb hx=>?_,λb o e n hb hx=>?_,λb o e n hx=>?_,λb o e hx=>?_,λb xs e=>tups b xs (I.base.tups b xs e),λb o xs e=>frzs b o xs (I.base.frzs b o xs e),λb ps e=>?_],?_,λx c e=>?_,?_,λx c e=>?_,λp hp=>?_,hok,I.len]
 .exact keep b o (NZ b o e) hb (Lo b o e hx) (I.base.keep b o e n hb hx) (I.base.free b o e n hx)
 .obtain⟨sl,e1⟩:=I.base.slot b o e n hb hx;obtain⟨u9,e2⟩:=slot b _ (NZ b o e) hb (Lo b o e hx) e1 (I.base.free b o e n hx);exact#[u9,e2]
 .obtain⟨o',e1⟩:=I.base.there b o e hx;exact free b o' (Lo b o e hx) e1 (I.base.free b o e n hx)
 .obtain⟨o',e1⟩:=I.base.there b o e hx;exact there b o' (Lo b o e hx) e1
 .obtain⟨m1,e1⟩:=I.base.tbls b ps e;obtain⟨m2,e2⟩:=tbls b _ e1;exact#[m1++m2,by rw[e2,Array.append_assoc]]
 .obtain⟨m,hn,hl⟩:=I.loc;refine#[m,ns m hn,λi x v e1 e2 e3=>?_];obtain⟨u,r,l⟩:=hl i x v e1 e2 e3;refine#[u,r,?_];rcases l with l|⟨k,c,e,z⟩
  .exact .inl l
  .exact .inr #[k,c,e,k9 x c e _ z]
 .obtain⟨v,z⟩:=I.cell x c e;exact#[v,k9 x c e v z]
 .obtain⟨m,⟨o,_,_,ho,_⟩,_⟩:=I.loc;exact free _ o (λz=>(y7 _ z).2.1 rfl) ho I.free
 .obtain⟨v,o,ho,hd⟩:=I.cell x c e;exact free c o (λz=>(y7 c z).2.2.1 x c e rfl) ho (I.freeC x c e)
 .obtain⟨e,n,ne,nf,d⟩:=I.pin p hp;have Kt:p.1∉ch:=λz=>(y7 p.1 z).2.2.2 p hp rfl;exact#[keep p.1 p.2 ne nf Kt e n,free p.1 p.2 Kt e n,ne,nf,d]
def Inv.un{t':Nat}(I:Inv X pins σ H s)(u:Un X.fs [] H H' s.heap h')(hok:HOk X.prog X.w H' h'):Inv X pins σ H' {s with heap:=h',toks:=t'}:=by
 obtain⟨m,⟨o,es,ep,ho,r⟩,_⟩:=id I.loc;obtain⟨sl,hL⟩:=u.any ho I.free JU;exact I.step (g':=s.gens) (d':=s.drawn) (ch:=[]) (λ_ z=>nomatch z) (λb o _ hb _ e n=>u.keep b o e n hb JU) (λb o _ hb _ e n=>u.slot b o e n hb JU) (λb o _ e n=>u.free b o e n JU) (λb o _ e=>u.there b o e JU) u.tups u.frzs u.tbls (λm' hm=>by
  obtain⟨o',LZ,L0,JI,r'⟩:=hm;rw[ho]at JI;cases JI;exact#[_,LZ,L0,hL,r']) hok I.bare
def Inv.call{t':Nat}{d':Drawn}(I:Inv X pins σ H s)(u:Un (frs X.stack) ch H H' s.heap h')(hok:HOk X.prog X.w H' h')(hg:RU g')
  (y7:∀b∈ch,(b∈X.ex\/X.s₀.heap.objs.size<=b)/\b≠X.env.locals/\(∀x c,X.env.cells.lookup x=be c->c≠b)/\∀p∈X.pn++pins,p.1≠b):
  Inv X pins σ H' {s with heap:=h',gens:=g',drawn:=d',toks:=t'}:=by
 obtain⟨m,⟨o,es,ep,ho,r⟩,_⟩:=id I.loc;obtain⟨sl,hL⟩:=u.any ho I.free λz=>(y7 _ z).2.1 rfl;exact I.step (ch:=ch) y7 (λb o hL hb hc e n=>u.keep b o e n (λz=>(FL.mp (I.stkSub b z)).elim hL hb) hc) (λb o _ _ hc e n=>u.any e n hc) (λb o hc e n=>u.free b o e n hc) (λb o hc e=>u.there b o e hc) u.tups u.frzs u.tbls (λm' hm=>by
  obtain⟨o',LZ,L0,JI,r'⟩:=hm;rw[ho]at JI;cases JI;exact#[_,LZ,L0,hL,r']) hok hg
def Inv.turned{t':Nat}{it:KF}(I:Inv X pins σ H s)(k:∀b o,b≠it->s.heap.get? b=be o->h'.get? b=be o)(hn:H it=r_)(hL:it≠X.env.locals)
  (h1:it∈X.ex\/X.s₀.heap.objs.size<=it) (h2:∀x c,X.env.cells.lookup x=be c->c≠it) (h3:∀p∈X.pn++pins,p.1≠it):Inv X pins σ H {s with heap:=h',toks:=t'}:=by
 have JJ:∀b u,H b=be u->b≠it:=λb u e z=>by rw[z,hn]at e;cases e
 refine I.step (g':=s.gens) (d':=s.drawn) (ch:=[it]) (λb hb=>?_) (λb o _ _ hc e _=>k b o (λz=>hc (by simp[z])) e) (λb o _ _ hc e _=>#[o.slots,k b o (λz=>hc (by simp[z])) e]) (λ_ _ _ _ n=>n)
  (λb o hc e=>#[o,k b o (λz=>hc (by simp[z])) e]) (λ_ _ e=>e) (λ_ _ _ e=>e) (λb ps e=>#[[].toArray,by rw[e];simp]) (λm hm=>?_) (λb u e=>?_) I.bare
 .have e:b=it:=by simpa using hb
  subst e;exact#[h1,hL,h2,h3]
 .obtain⟨o,es,ep,ho,r⟩:=hm;exact#[o,es,ep,k _ o (Ne.symm hL) ho,r]
 .refine(I.hok b u e).stay (λc v hc q=>k c v ?_ q) (λ_ q=>q) λ_ _ q=>q;rcases hc with z|z
  .rw[z];exact JJ b u e
  .exact JJ c _ z
def Inv.tok(I:Inv X pins σ H s)(t:Nat):Inv X pins σ H {s with toks:=t}:=I.un (h':=s.heap) (t':=t) Un.refl I.hok
def Inv.kept{t':Nat}(I:Inv X pins σ H s)(k:∀b u,s.heap.get? b=be u->h'.get? b=be u):Inv X pins σ H {s with heap:=h',toks:=t'}:=I.un (Un.kept k) (I.hok.kept k)
def Inv.laid{a:KF}{o:HO}{t':Nat}(I:Inv X pins σ H s)(k:∀b u,s.heap.get? b=be u->h'.get? b=be u)(hp:s.heap.objs.size<=a)(new:ObjOk X.prog X.w (upd H a o) h' a o):
  Inv X pins σ (upd H a o) {s with heap:=h',toks:=t'}:=I.un (Un.laid k hp (I.hok.fresh hp)) (I.hok.laid k hp new)
def Inv.write{x e:KF}{o:HO}{t':Nat}(I:Inv X pins σ H s)(mu:Mut (H x))(he:e=x\/H e=be (.own x))(k:∀b u,b≠e->s.heap.get? b=be u->h'.get? b=be u)(x_:∃u,h'.get? e=be u)
  (new:ObjOk X.prog X.w (upd H x o) h' x o):Inv X pins σ (upd H x o) {s with heap:=h',toks:=t'}:=I.un (Un.write mu he k x_) (I.hok.write mu he k x_ new)
def Inv.pins_of{Jp:List (KF×Ro)}(I:Inv X pins σ H s)(h:∀p∈Jp,s.heap.get? p.1=be p.2/\H p.1=r_/\p.1≠X.env.locals/\p.1∉X.fs/\∀v,p.2.data≠.cell v):Inv X Jp σ H s:=
 #[I.ok,I.os,I.bare,I.base,I.loc,I.cell,I.free,I.freeC,λp hp=>(Ga.mp hp).elim (λz=>I.pin p (GN _ z)) (h p),I.hok,I.len]
variable{x:A_}{i:Nat}
def pI{N:List A_}(hN:N.Nodup){j:Nat}(a:N[i]?=be x)(b:N[j]?=be x):i=j:=by
 obtain⟨h1,e1⟩:=FU.mp a;obtain⟨h2,e2⟩:=FU.mp b;exact(List.getElem_inj hN).mp (e1.trans e2.symm)
variable{E:KB->KM->Prop}{Q:Unit->KM->Prop}
def pJ{M:SX}{A:Ra}{v:V}{u:KB}(I:Inv X pins σ H s)(hN:X.N.Nodup)(hi:X.N[i]?=be x)(hx:Loc X.env.scope x)(r:RelV v u)
  (h:∀s',Inv X pins (σ.set i (be v)) H s'->(∃a,Heap.SameBut a s.heap s'.heap/\(a=X.env.locals\/X.env.cells.lookup x=be a))->Q () s') (hf:autoParam (zFN X x) zA3):Q7 M A (storeName X.env x u) Q E s:=by
 obtain⟨m,hn,hl⟩:=id I.loc;have JK:(X.env.scope.kind== .class||(X.env.scope.kind== .module&&X.env.locals !=X.env.globals))=false:=by rw[I.ok.kind];rfl
 have hiσ:i<σ.length:=by rw[I.len];exact(FU.mp hi).1
 have cne:=I.cne;have j3:∀{a:KF} {h':Rc},(∃o,s.heap.get? a=be o/\H a=r_)->Heap.SameBut a s.heap h'->HOk X.prog X.w H h':=λ{a h'} ha hs b ob e=>by
  obtain⟨_,_,i8⟩:=ha;refine(I.hok b ob e).stay (λc w' hc q=>(hs.2 c ?_).trans q) (λ_ q=>q) λ_ _ q=>q;rintro rfl;rcases hc with rfl|hc
  .rw[i8]at e;cases e
  .rw[i8]at hc;cases hc
 rcases hx with hk|hk
 .refine wpAny_storeName_local hk hn (λh' l9 hs=>?_) JK;obtain⟨oL,_,_,O7,_⟩:=id hn;refine h _ #[I.ok,I.os,I.bare,#[λb o e n hb hx=>?_,λb o e n hb hx=>?_,I.base.free,λb o e hx=>?_,I.base.tups,I.base.frzs,I.base.tbls],#[_,l9,λj y v' e1 e2 e3=>?_],λy c e=>?_,I.free,I.freeC,λp hp=>?_,j3 #[oL,O7,I.free] hs,by simpa using I.len] #[_,hs,.inl rfl]
  .exact(hs.2 b (FR (F9 (Heap.lt_size e) I.ok.above))).trans (I.base.keep b o e n hb hx)
  .obtain⟨sl,e1⟩:=I.base.slot b o e n hb hx;exact#[sl,(hs.2 b (FR (F9 (Heap.lt_size e) I.ok.above))).trans e1]
  .obtain⟨o',e1⟩:=I.base.there b o e hx;exact#[o',(hs.2 b (FR (F9 (Heap.lt_size e) I.ok.above))).trans e1]
  .by_cases hj:j=i
   .subst hj;rw[hi]at e1;cases e1;rw[Gu hiσ]at e2;cases e2;exact#[u,r,.inl #[hk,JU]]
   .rw[F4 (Ne.symm hj)]at e2;obtain⟨u',r',q⟩:=hl j y v' e1 e2 e3;refine#[u',r',?_];rcases q with⟨k,e⟩|⟨k,c,e,z⟩
    .refine .inl #[k,?_];have:y≠x:=λe=>hj (pI hN e1 (e ▸ hi));simp[this,e]
    .exact .inr #[k,c,e,z.sameBut hs (cne y c e)]
  .obtain⟨w',z⟩:=I.cell y c e;exact#[w',z.sameBut hs (cne y c e)]
  .obtain⟨e,n,ne,nf,d⟩:=I.pin p hp;exact#[(hs.2 p.1 ne).trans e,n,ne,nf,d]
 .have L3:X.fn x=true:=by
   rcases hf with z|z
   .exact z
   .rw[z]at hk;cases hk
  obtain⟨c,hc⟩:=I.ok.has x (.inl hk);obtain⟨w',z⟩:=I.cell x c hc;refine wpAny_storeName_cell I.ok.kind hk hc z (λh' Jq hs=>?_);obtain⟨oc,N0,L4⟩:=id z;refine h {s with heap:=h'} #[I.ok,I.os,I.bare,#[λb o e n hb hx=>?_,λb o e n hb hx=>?_,I.base.free,λb o e hx=>?_,I.base.tups,I.base.frzs,I.base.tbls],#[m,hn.sameBut hs (Ne.symm (cne x c hc)),λj y v' e1 e2 e3=>?_],λy c' e=>?_,I.free,I.freeC,λp hp=>?_,j3 #[oc,N0,I.freeC x c hc] hs,by simpa using I.len] #[c,hs,.inr hc]
  .exact(hs.2 b (FR (F9 (Heap.lt_size e) (I.ok.cab x c L3 hc)))).trans (I.base.keep b o e n hb hx)
  .obtain⟨sl,e1⟩:=I.base.slot b o e n hb hx;exact#[sl,(hs.2 b (FR (F9 (Heap.lt_size e) (I.ok.cab x c L3 hc)))).trans e1]
  .obtain⟨o',e1⟩:=I.base.there b o e hx;exact#[o',(hs.2 b (FR (F9 (Heap.lt_size e) (I.ok.cab x c L3 hc)))).trans e1]
  .by_cases hj:j=i
   .subst hj;rw[hi]at e1;cases e1;rw[Gu hiσ]at e2;cases e2;exact#[u,r,.inr #[.inl hk,c,hc,Jq]]
   .rw[F4 (Ne.symm hj)]at e2;obtain⟨u',r',q⟩:=hl j y v' e1 e2 e3;refine#[u',r',?_];rcases q with q|⟨k,c',e,z'⟩
    .exact .inl q
    .refine .inr #[k,c',e,z'.sameBut hs ?_];rintro rfl;exact hj (pI hN e1 (I.ok.inj _ _ _ e hc ▸ hi))
  .by_cases N1:c'=c
   .subst N1;exact#[_,Jq]
   .obtain⟨w2,z2⟩:=I.cell y c' e;exact#[w2,z2.sameBut hs N1]
  .obtain⟨e,n,ne,nf,d⟩:=I.pin p hp;refine#[(hs.2 p.1 ?_).trans e,n,ne,nf,d];intro q;rw[q,N0]at e;have q':oc=p.2:=Option.some.inj e;exact d w' (by rw[<-q'];exact L4)
def fk{M:SX}{A:Ra}{v:V}{u:KB}(I:Inv X pins σ H s)(hN:X.N.Nodup)(hi:X.N[i]?=be x)(hx:Loc X.env.scope x)(r:RelV v u)
  (h:∀s',Inv X pins (σ.set i (be v)) H s'->Q () s') (hf:autoParam (zFN X x) zA3):Q7 M A (storeName X.env x u) Q E s:=
 pJ I hN hi hx r (λs' I' _=>h s' I') hf
def Inv.call'{s':KM}(I:Inv X pins σ H s)(ho:s'.os=s.os)(u:Un (frs X.stack) ch H H' s.heap s'.heap)(hok:HOk X.prog X.w H' s'.heap)(hg:RU s'.gens)
  (y7:∀b∈ch,(b∈X.ex\/X.s₀.heap.objs.size<=b)/\b≠X.env.locals/\(∀x c,X.env.cells.lookup x=be c->c≠b)/\∀p∈X.pn++pins,p.1≠b):Inv X pins σ H' s':=by
 obtain⟨h',g',d',t',o'⟩:=s';have e:o'=s.os:=ho;subst e;exact I.call (g':=g') (t':=t') (d':=d') u hok hg y7
end
abbrev XK:=KB->Option KF->Hp->Prop
abbrev St:=List (Option V)
abbrev VK:=V->Hp->Prop
abbrev TE:=St->Hp->VK->Prop
abbrev TT:=St->Hp->(Bool->Hp->Prop)->Prop
abbrev TA:=St->Hp->(List V->Hp->Prop)->Prop
structure Ends where
 nx:St->Hp->Prop
 rt:VK
 bk:St->Hp->Prop:=λ_ _=>False
 ct:St->Hp->Prop:=λ_ _=>False
abbrev TS:=Ends->St->Hp->Prop
def EP(X:Cx)(pins:List (KF×Ro))(σ:St)(Q:VK)(u:KB)(s':KM):Prop:=∃v H',Inv X pins σ H' s'/\RelV v u/\Q v H'
def TP(X:Cx)(pins:List (KF×Ro))(σ:St)(Q:Bool->Hp->Prop)(b:Bool)(s':KM):Prop:=∃H',Inv X pins σ H' s'/\Q b H'
def AP(X:Cx)(pins:List (KF×Ro))(σ:St)(Q:List V->Hp->Prop)(us:List KB)(s':KM):Prop:=∃vs H',Inv X pins σ H' s'/\Vals vs us/\Q vs H'
def SP(X:Cx)(pins:List (KF×Ro))(D:Ends)(f:Flow)(s':KM):Prop:=
 match f with
 |.next=>∃σ' H',Inv X pins σ' H' s'/\D.nx σ' H'
 |.brk=>∃σ' H',Inv X pins σ' H' s'/\D.bk σ' H'
 |.cont=>∃σ' H',Inv X pins σ' H' s'/\D.ct σ' H'
 |.ret u=>∃v σ' H',Inv X pins σ' H' s'/\RelV v u/\D.rt v H'
def PE(X:Cx)(e:P3)(t:TE):Prop:=
 ∀(pins:List (KF×Ro)) (s:KM) (σ:St) (H:Hp) (Q:VK),Inv X pins σ H s->t σ H Q->Q7 (Q8 X.prog X.w) X.A (Rg e X.env) (EP X pins σ Q) X.xe s
def PT(X:Cx)(e:P3)(t:TT):Prop:=
 ∀(pins:List (KF×Ro)) (s:KM) (σ:St) (H:Hp) (Q:Bool->Hp->Prop),Inv X pins σ H s->t σ H Q->Q7 (Q8 X.prog X.w) X.A (isTrue e X.env (Rg e X.env)) (TP X pins σ Q) X.xe s
def PW(X:Cx)(e:P3)(t:TT):Prop:=
 ∀(fI:SF KB) (pins:List (KF×Ro)) (s:KM) (σ:St) (H:Hp) (Q:Bool->Hp->Prop),Inv X pins σ H s->t σ H Q->Q7 (Q8 X.prog X.w) X.A (isTrue e X.env fI) (TP X pins σ Q) X.xe s
variable{X:Cx}
def PW.pt{e:P3}{t:TT}(h:PW X e t):PT X e t:=h _
def PA(X:Cx)(es:List P3)(t:TA):Prop:=
 ∀(pos:Ri) (pins:List (KF×Ro)) (s:KM) (σ:St) (H:Hp) (Q:List V->Hp->Prop),Inv X pins σ H s->t σ H Q->Q7 (Q8 X.prog X.w) X.A (spliced (RZ pos (Re es X.env))) (AP X pins σ Q) X.xe s
def PS(X:Cx)(st:Q6)(t:TS):Prop:=
 ∀(pins:List (KF×Ro)) (s:KM) (σ:St) (H:Hp) (D:Ends),Inv X pins σ H s->t D σ H->Q7 (Q8 X.prog X.w) X.A (exec st X.env) (SP X pins D) X.xe s
def PSs(X:Cx)(st:List Q6)(t:TS):Prop:=
 ∀(pins:List (KF×Ro)) (s:KM) (σ:St) (H:Hp) (D:Ends),Inv X pins σ H s->t D σ H->Q7 (Q8 X.prog X.w) X.A (execs st X.env) (SP X pins D) X.xe s
variable{A:Ra}{E:KB->KM->Prop}{s:KM}
def thn{α:Type}{t:SF α}{Q Q':α->KM->Prop}{M:SX}(h:Q7 M A t Q E s)(hQ:∀a s,Q a s->Q' a s):Q7 M A t Q' E s:=Rn h hQ λ_ _ x=>x
section
variable {X:Cx}
def tVar(i:Nat):TE:=λσ H Q=>∃v,σ[i]?=be (be v)/\Q v H
def tC(v:V):TE:=λ_ H Q=>Q v H
variable{x:A_}{pos:Ri}
def dz{i:Nat}(hN:X.N[i]?=be x)(hv:Vis X.env.scope x)(hd:autoParam (zND x) zA1)(gV:autoParam (zNC x) zA1):PE X (.Name x pos) (tVar i):=by
 intro pins s σ H Q I h;obtain⟨v,e,h⟩:=h;obtain⟨m,hn,hl⟩:=I.loc;obtain⟨u,r,l⟩:=hl i x v hN e hv;have e_:EP X pins σ Q u s:=#[v,H,I,r,h];rcases l with⟨hk,hm⟩|⟨hk,c,hc,k_⟩
 .exact SM (wpAny_loadName_local I.ok.kind hk hn hm e_) hd
 .rcases hk with hk|hk
  .exact SM (wpAny_loadName_cell I.ok.kind hk hc k_ e_) hd
  .exact SM (wpAny_loadName_free I.ok.kind hk hc k_ e_ gV) hd
def vF{i j pos}:PE X (.Constant (.int i) j pos) (tC (.int i)):=λ_ _ _ H _ I h=>wpAny_Constant_int #[.int i,H,I.tok _,#[_,rfl],h]
def vG{b j pos}:PE X (.Constant (.bool b) j pos) (tC (.bl b)):=λ_ _ _ H _ I h=>Constant_bool #[.bl b,H,I,rfl,h]
def vH{j pos}:PE X (.Constant .none j pos) (tC .non):=λ_ _ _ H _ I h=>Constant_none #[.non,H,I,rfl,h]
def pK{x j pos}:PE X (.Constant (.str x) j pos) (tC (.str x)):=λ_ _ _ H _ I h=>Calls.Constant_str #[.str x,H,I.tok _,#[_,rfl],h]
def Gl(X:Cx)(x:A_):Prop:=X.env.kindOf x=be .globalImplicit
variable{E Q:KB->KM->Prop}{pins:List (KF×Ro)}{u:KB}
def cN{s:KM}{σ:St}{H:Hp}(I:Inv X pins σ H s)(hg:Gl X x)(hm:X.mg x=be u)(h:Q u s)
  (hd:autoParam (zND x) zA1):Q7 (Q8 X.prog X.w) X.A (Rg (.Name x pos) X.env) Q E s:=
 Calls.Name_function_global I.ok.kind hg (Calls.loadGlobal_global (by rw[I.ok.glob];exact I.mod.glob.keeps I.bk) hm h) hd
def dA{s:KM}{σ:St}{H:Hp}(I:Inv X pins σ H s)(hg:Gl X x)(hm:X.mg x=r_)(hv:Rm x=be u)(h:Q u s)
  (hn:autoParam (x≠"__name__") zA1) (hd:autoParam (zND x) zA1):Q7 (Q8 X.prog X.w) X.A (Rg (.Name x pos) X.env) Q E s:=by
 obtain⟨mb,h1,h2⟩:=I.mod.blt;exact Calls.Name_function_global I.ok.kind hg (Calls.loadGlobal_builtin (by rw[I.ok.glob];exact I.mod.glob.keeps I.bk) hm (by rw[I.ok.blt];exact h1.keeps I.bk) ((h2 x hn).trans hv) h) hd
def vI{v:V}(hg:Gl X x)(hm:X.mg x=be u)(r:RelV v u)(hd:autoParam (zND x) zA1):PE X (.Name x pos) (tC v):=
 λ_ _ _ H _ I h=>cN I hg hm #[v,H,I,r,h] hd
def pL{v:V}(hg:Gl X x)(hm:X.mg x=r_)(hv:Rm x=be u)(r:RelV v u)(hn:autoParam (x≠"__name__") zA1)(hd:autoParam (zND x) zA1):PE X (.Name x pos) (tC v):=
 λ_ _ _ H _ I h=>dA I hg hm hv #[v,H,I,r,h] hn hd
variable {a b:P3}{ta tb:TE}{pos:Ri}
variable {tA z9:TT}{b7:List P3}
def tAnd(t u:TT):TT:=λσ H Q=>t σ H λc H1=>if c=true then u σ H1 Q else Q false H1
def tOr(t u:TT):TT:=λσ H Q=>t σ H λc H1=>if c=true then Q true H1 else u σ H1 Q
def tNot(t:TT):TT:=λσ H Q=>t σ H λc H1=>Q (!c) H1
def pM(ha:PT X a tA):PW X (.BoolOp .And [a] pos) tA:=by
 intro wh pins s σ H Q I h;refine isTrue_and (thn (ha pins s σ H Q I h) λc s1 e=>?_);cases c with
 |true=>exact isTrue_and_nil e
 |false=>exact e
def pN(ha:PT X a tA):PW X (.BoolOp .Or [a] pos) tA:=by
 intro wh pins s σ H Q I h;refine isTrue_or (thn (ha pins s σ H Q I h) λc s1 e=>?_);cases c with
 |false=>exact isTrue_or_nil e
 |true=>exact e
def pO(ha:PT X a tA)(hb:PW X (.BoolOp .And (b::b7) pos) z9):PW X (.BoolOp .And (a::b::b7) pos) (tAnd tA z9):=by
 intro wh pins s σ H Q I h;refine isTrue_and (thn (ha pins s σ H _ I h) λc s1 c7=>?_);obtain⟨H1,I1,q1⟩:=c7;cases c with
 |true=>exact hb wh pins s1 σ H1 Q I1 q1
 |false=>exact#[H1,I1,q1]
def pP(ha:PT X a tA)(hb:PW X (.BoolOp .Or (b::b7) pos) z9):PW X (.BoolOp .Or (a::b::b7) pos) (tOr tA z9):=by
 intro wh pins s σ H Q I h;refine isTrue_or (thn (ha pins s σ H _ I h) λc s1 c7=>?_);obtain⟨H1,I1,q1⟩:=c7;cases c with
 |true=>exact#[H1,I1,q1]
 |false=>exact hb wh pins s1 σ H1 Q I1 q1
def pQ(ha:PT X a tA):PT X (.UnaryOp .Not a pos) (tNot tA):=by
 intro pins s σ H Q I h;exact isTrue_not (ha pins s σ H (λc H1=>Q (!c) H1) I h)
def vJ(ta tb:TE):TE:=λσ H Q=>ta σ H λx H1=>∃c,x=.bl c/\if c=true then tb σ H1 Q else Q (.bl false) H1
def vK(ta:TE):TE:=λσ H Q=>ta σ H λx H1=>∃c,x=.bl c/\Q (.bl (!c)) H1
def vL{op}{t:TE}(h:PE X a t):PE X (.BoolOp op [a] pos) t:=λpins s σ H Q I hw=>BoolOp_one (h pins s σ H Q I hw)
def vM(ha:PE X a ta)(hb:PE X (.BoolOp .And (b::b7) pos) tb):PE X (.BoolOp .And (a::b::b7) pos) (vJ ta tb):=by
 intro pins s σ H Q I h;refine BoolOp_and (thn (ha pins s σ H _ I h) λv s1 c7=>?_);obtain⟨x,H1,I1,r1,q1⟩:=c7;obtain⟨c,rfl,q1⟩:=q1;cases r1;refine RR ?_;cases c with
 |true=>exact hb pins s1 σ H1 Q I1 q1
 |false=>exact#[.bl false,H1,I1,rfl,q1]
def vN(ha:PE X a ta):PE X (.UnaryOp .Not a pos) (vK ta):=by
 intro pins s σ H Q I h;refine UnaryOp_ (thn (ha pins s σ H _ I h) λv s1 c7=>?_);obtain⟨x,H1,I1,r1,q1⟩:=c7;obtain⟨c,rfl,q1⟩:=q1;cases r1;exact not_of (RR #[.bl (!c),H1,I1,rfl,q1])
def tIf(t:TT)(ta tb:TE):TE:=λσ H Q=>t σ H λc H1=>if c=true then ta σ H1 Q else tb σ H1 Q
def vO{c:P3}(hc:PT X c tA)(ha:PE X a ta)(hb:PE X b tb):PE X (.IfExp c a b pos) (tIf tA ta tb):=by
 intro pins s σ H Q I h;refine wpAny_IfExp (thn (hc pins s σ H _ I h) λd s1 c7=>?_);obtain⟨H1,I1,q1⟩:=c7;cases d with
 |true=>exact ha pins s1 σ H1 Q I1 q1
 |false=>exact hb pins s1 σ H1 Q I1 q1
end
def SqL(K:Ex)(H:Hp)(a:KF)(xs:List V):Prop:=
 Rd H a (.lst xs)\/
  ∃(o:Ro) (its:Array KB) (n:Nat),K.lookup a=be o/\o.cls=.type "list"/\o.dict=r_/\o.data=.seq its n/\its.size<=sizeLine/\Vals xs its.toList
def SqT(K:Ex)(H:Hp)(a:KF)(xs:List V):Prop:=
 Rd H a (.tup xs)\/
  ∃(o:Ro) (its:Array KB) (n:Nat),K.lookup a=be o/\o.cls=.type "tuple"/\o.data=.seq its n/\its.size<=sizeLine/\Vals xs its.toList
def absV:KB->Option V
 |.none=>be .non
 |.bool b=>be (.bl b)
 |.int i _=>be (.int i)
 |.str x _=>be (.str x)
 |.bytes b _=>be (.byt b)
 |.float b _=>be (.flt b)
 |.ref a=>be (.ref a)
 |.type n=>be (.ty n)
 |_=>r_
variable{u:KB}
def RelV.abs{x:V}(r:RelV x u):absV u=be x:=by
 cases x with
 |non=>cases r;rfl
 |bl _=>cases r;rfl
 |int _=>obtain⟨t,rfl⟩:=r;rfl
 |str _=>obtain⟨t,rfl⟩:=r;rfl
 |byt _=>obtain⟨t,rfl⟩:=r;rfl
 |flt _=>obtain⟨t,rfl⟩:=r;rfl
 |ref _=>cases r;rfl
 |ty _=>cases r;rfl
def RelV.inj{x y:V}(r:RelV x u)(q:RelV y u):x=y:=Option.some.inj (r.abs.symm.trans q.abs)
def Vals.inj:∀{xs ys:List V} {us:List KB},Vals xs us->Vals ys us->xs=ys:=by
 intro xs ys us h;induction h generalizing ys with
 |nil=>intro g;cases g;rfl
 |cons r _ e=>
  intro g;cases g with
  |cons r' t'=>rw[r.inj r',e t']
section
variable {X:Cx}{pins:List (KF×Ro)}{σ:St}{H:Hp}{s:KM}{a:KF}{xs ys:List V}
def SqL.of{K:Ex}(h:H a=be (.lst xs)):SqL K H a xs:=.inl (.inl h)
def SqT.of{K:Ex}(h:H a=be (.tup xs)):SqT K H a xs:=.inl (.inl h)
def Inv.list(I:Inv X pins σ H s)(h:SqL X.K H a xs):∃its:List KB,Vals xs its/\PlainL s.heap a its.toArray/\xs.length<=sizeLine:=by
 rcases h with h|⟨o,its,n,hk,hc,hd,hs,hz,r⟩
 .obtain⟨z,its,n,r,e⟩:=h.ok I.hok;exact#[its,r,#[_,n,e,rfl,rfl,rfl],z]
 .refine#[its.toList,r,#[o,n,I.kIn a o hk,hc,hd,by simpa using hs],?_];have e:=r.length;simp only[Hg]at e;lia
def Inv.tuple(I:Inv X pins σ H s)(h:SqT X.K H a xs):∃its:List KB,Vals xs its/\IsTup s.heap a its.toArray/\xs.length<=sizeLine:=by
 rcases h with h|⟨o,its,n,hk,hc,hs,hz,r⟩
 .obtain⟨z,its,r,p⟩:=h.ok I.hok;exact#[its,r,p,z]
 .refine#[its.toList,r,#[o,I.kIn a o hk,hc,n,by simpa using hs],?_];have e:=r.length;simp only[Hg]at e;lia
def Inv.list_inj(I:Inv X pins σ H s)(h:SqL X.K H a xs)(h':SqL X.K H a ys):xs=ys:=by
 obtain⟨its,r,⟨o,n,e,_,_,d⟩,_⟩:=I.list h;obtain⟨its',r',⟨o',n',e',_,_,d'⟩,_⟩:=I.list h';rw[e]at e';cases e';rw[d]at d';injection d' with d1 _;have:its=its':=by simpa using congrArg Array.toList d1
 subst this;exact r.inj r'
end
abbrev Cx.wish(X:Cx)(E:KB->KM->Prop):Cx:={X with xe:=E}
abbrev Cx.nox(X:Cx):Cx:=X.wish λ_ _=>False
def Cx.Ok.wish(ok:X.Ok)(E:KB->KM->Prop):(X.wish E).Ok:=
 #[ok.mod,ok.kind,ok.glob,ok.blt,ok.above,ok.inj,ok.has,ok.cab,ok.hd,ok.frames,ok.stk,ok.exf,ok.bs,ok.bsz,ok.noex,ok.exfs,ok.funs,ok.frf]
def Cx.Ok.unwish(ok:(X.wish E).Ok):X.Ok:=
 #[ok.mod,ok.kind,ok.glob,ok.blt,ok.above,ok.inj,ok.has,ok.cab,ok.hd,ok.frames,ok.stk,ok.exf,ok.bs,ok.bsz,ok.noex,ok.exfs,ok.funs,ok.frf]
section
variable {X:Cx}{pins:List (KF×Ro)}{σ:St}{H:Hp}{s:KM}{E:KB->KM->Prop}
def Inv.wish(I:Inv X pins σ H s)(E:KB->KM->Prop):Inv (X.wish E) pins σ H s:=#[I.ok.wish E,I.os,I.bare,I.base,I.loc,I.cell,I.free,I.freeC,I.pin,I.hok,I.len]
def Inv.unwish(I:Inv (X.wish E) pins σ H s):Inv X pins σ H s:=#[I.ok.unwish,I.os,I.bare,I.base,I.loc,I.cell,I.free,I.freeC,I.pin,I.hok,I.len]
def SP.unwish{D:Ends}{f:Flow}{s':KM}(h:SP (X.wish E) pins D f s'):SP X pins D f s':=by
 cases f with
 |next=>obtain⟨σ',H',I,q⟩:=h;exact#[σ',H',I.unwish,q]
 |brk=>obtain⟨σ',H',I,q⟩:=h;exact#[σ',H',I.unwish,q]
 |cont=>obtain⟨σ',H',I,q⟩:=h;exact#[σ',H',I.unwish,q]
 |ret u=>obtain⟨v,σ',H',I,r,q⟩:=h;exact#[v,σ',H',I.unwish,r,q]
def PSs.nox{st:List Q6}{t:TS}(h:PSs X.nox st t):PSs X st t:=λpins s σ H D I hw=>
 Rn (h pins s σ H D (I.wish _) hw) (λ_ _ q=>q.unwish) λ_ _ z=>False.elim z
end
section
variable {X:Cx}{st:Q6}{b7:List Q6}{t u:TS}{e:P3}{te:TE}{pos:Ri}
def vP:TS:=λD σ H=>D.nx σ H
def tSeq(t u:TS):TS:=λD σ H=>t {D with nx:=u D} σ H
def pss_nil:PSs X [] vP:=λ_ _ σ H _ I h=>RL #[σ,H,I,h]
def gm(h1:PS X st t)(h2:PSs X b7 u):PSs X (st::b7) (tSeq t u):=by
 intro pins s σ H D I h;refine wpAny_execs_cons (thn (h1 pins s σ H {D with nx:=u D} I h) λf s1 q=>?_);cases f with
 |next=>
  obtain⟨σ',H',I',q⟩:=q;exact h2 pins s1 σ' H' D I' q
 |ret v=>exact q
 |brk=>exact q
 |cont=>exact q
def jr(h1:PS X st t):PSs X [st] t:=by
 intro pins s σ H D I h;refine wpAny_execs_cons (thn (h1 pins s σ H D I h) λf s1 q=>?_);cases f with
 |next=>exact RL q
 |ret v=>exact q
 |brk=>exact q
 |cont=>exact q
def Inv.quiet{pins:List (KF×Ro)}{σ:St}{H:Hp}{s:KM}(I:Inv X pins σ H s):interactive X.env=false:=by simp[interactive,I.ok.kind]
def vQ(te:TE):TS:=λD σ H=>te σ H λ_ H1=>D.nx σ H1
def js(he:PE X e te)(hs:autoParam (Rq e r_ pos.line X.env=pure false) zA0):PS X (.Expr e pos) (vQ te):=by
 intro pins s σ H D I h;exact wpAny_Expr_any (thn (he pins s σ H _ I h) λv s1 ⟨x,H1,I1,r1,q1⟩=>#[σ,H1,I1,q1]) I.quiet hs
def tRet(te:TE):TS:=λD σ H=>te σ H D.rt
def jt(he:PE X e te):PS X (.Return (be e) pos) (tRet te):=by
 intro pins s σ H D I h;exact wpAny_Return_some (thn (he pins s σ H _ I h) λv s1 ⟨x,H1,I1,r1,q1⟩=>#[x,σ,H1,I1,r1,q1])
def tIfS(c:TT)(t u:TS):TS:=λD σ H=>c σ H λb H1=>if b=true then t D σ H1 else u D σ H1
def pR{c:P3}{a b:List Q6}{tc:TT}(hc:PT X c tc)(ha:PSs X a t)(hb:PSs X b u):PS X (.If c a b pos) (tIfS tc t u):=by
 intro pins s σ H D I h;refine wpAny_If (thn (hc pins s σ H _ I h) λd s1 c7=>?_);obtain⟨H1,I1,q1⟩:=c7;cases d with
 |true=>exact ha pins s1 σ H1 D I1 q1
 |false=>exact hb pins s1 σ H1 D I1 q1
def vR:TS:=λ_ _ _=>False
def ps_never:PS X st vR:=λ_ _ _ _ _ _ h=>h.elim
end
abbrev TG:=V->St->Hp->(St->Hp->Prop)->Prop
abbrev TGs:=List V->St->Hp->(St->Hp->Prop)->Prop
def PG(X:Cx)(ge:P3)(t:TG):Prop:=
 ∀(pins:List (KF×Ro)) (s:KM) (σ:St) (H:Hp) (v:V) (u:KB) (Q:St->Hp->Prop),Inv X pins σ H s->RelV v u->t v σ H Q->
  Q7 (Q8 X.prog X.w) X.A (RD ge X.env u) (λ_ s'=>∃σ' H',Inv X pins σ' H' s'/\Q σ' H') X.xe s
def PGs(X:Cx)(ts:List P3)(t:TGs):Prop:=
 ∀(pins:List (KF×Ro)) (s:KM) (σ:St) (H:Hp) (vs:List V) (us:List KB) (Q:St->Hp->Prop),Inv X pins σ H s->Vals vs us->t vs σ H Q->
  Q7 (Q8 X.prog X.w) X.A (Sr ((Rb ts X.env).map (·.2)) us) (λ_ s'=>∃σ' H',Inv X pins σ' H' s'/\Q σ' H') X.xe s
abbrev TSet:=V->V->V->Hp->(Hp->Prop)->Prop
def PSet(X:Cx)(t:TSet):Prop:=
 ∀(pins:List (KF×Ro)) (s:KM) (σ:St) (H:Hp) (o i v:V) (ov iv u:KB) (Q:Hp->Prop),Inv X pins σ H s->RelV o ov->RelV i iv->RelV v u->t o i v H Q->
  Q7 (Q8 X.prog X.w) X.A (Sh ov iv u) (λ_ s'=>∃H',Inv X pins σ H' s'/\Q H') X.xe s
abbrev TIp:=V->V->Hp->VK->Prop
def PIp(X:Cx)(op:So)(t:TIp):Prop:=
 ∀(pins:List (KF×Ro)) (s:KM) (σ:St) (H:Hp) (x y:V) (v u:KB) (Q:VK),Inv X pins σ H s->RelV x v->RelV y u->t x y H Q->
  Q7 (Q8 X.prog X.w) X.A (inplaceOp op v u) (EP X pins σ Q) X.xe s
section
variable {X:Cx}{pos:Ri}
def fo(i:Nat):TG:=λv σ H Q=>Q (σ.set i (be v)) H
variable{i:Nat}{x:A_}
def dB(hN:X.N.Nodup)(hi:X.N[i]?=be x)(hx:Loc X.env.scope x)(hf:autoParam (zFN X x) zA3):PG X (.Name x pos) (fo i):=by
 intro pins s σ H v u Q I r h;exact R' (fk I hN hi hx r (λs' I'=>#[_,H,I',h]) hf)
def gNil:TGs:=λvs σ H Q=>vs=[]/\Q σ H
def vS(t:TG)(u:TGs):TGs:=λvs σ H Q=>∃v r,vs=v::r/\t v σ H λσ' H'=>u r σ' H' Q
def vT:PGs X [] gNil:=by
 intro pins s σ H vs us Q I r h;obtain⟨e,h⟩:=h;subst e;cases r;exact SV #[σ,H,I,h]
variable{e:P3}{es:List P3}
def vU{t:TG}{u:TGs}(h1:PG X e t)(h2:PGs X es u)
  (hs:autoParam ((Rb (e::es) X.env).map (·.2)=RD e X.env::(Rb es X.env).map (·.2)) zA0):PGs X (e::es) (vS t u):=by
 intro pins s σ H vs us Q I r h;obtain⟨v,vr,e1,h⟩:=h;subst e1;cases r with
 |cons r rr=>
  rw[hs];refine R9 (thn (h1 pins s σ H _ _ _ I r h) λ_ s1 c7=>?_);obtain⟨σ1,H1,I1,q1⟩:=c7;exact h2 pins s1 σ1 H1 _ _ Q I1 rr q1
def gTup(K:Ex)(n:Nat)(t:TGs):TG:=λv σ H Q=>∃a xs,v=.ref a/\SqT K H a xs/\xs.length=n/\t xs σ H Q
def gq{k:Nat}{t:TGs}{n:Nat}(hc:X.calm=true)(h:PGs X es t)
  (hn:autoParam ((Rb es X.env).length=n) zA0) (j5:autoParam ((Rb es X.env).findIdx? (·.1)=none) zA0):PG X (.Tuple es k pos) (gTup X.K n t):=by
 intro pins s σ H v u Q I r hw;obtain⟨a,xs,e1,hq,hl,hw⟩:=hw;subst e1;cases r;obtain⟨its,rv,ht,hz⟩:=I.tuple hq;refine assign_Tuple_tuple (I.ok.hd hc) ht (by simp[hn,<-hl,rv.length]) j5 λh' hx=>?_;have I1:Inv X pins σ H {s with heap:=h'}:=I.kept (t':=s.toks) λb o e=>hx b o (FR (Heap.lt_size e)) e;exact h pins _ σ H xs _ Q I1 (by simpa using rv) hw
def gSub(to ti:TE)(t:TSet):TG:=λv σ H Q=>to σ H λo H1=>ti σ H1 λi H2=>t o i v H2 λH3=>Q σ H3
def pS{o i:P3}{to ti:TE}{t:TSet}(ho:PE X o to)(hi:PE X i ti)(hs:PSet X t)
  (ha:∀v,RD (.Subscript o i pos) X.env v=(do
   let ov <-Ru [v] (Rg o X.env)
   let iv <-Ru [v,ov] (Rg i X.env)
   RO pos
   Ru [v,ov,iv] (Sh ov iv v)
   Sy [v,ov,iv] []):=by intro _;rfl):PG X (.Subscript o i pos) (gSub to ti t):=by
 intro pins s σ H v u Q I r h;rw[ha];refine Os (RG (thn (ho pins s σ H _ I h) λov s1 c7=>?_));obtain⟨x,H1,I1,r1,q1⟩:=c7;refine Os (RG (thn (hi pins s1 σ H1 _ I1 q1) λiv s2 c7=>?_));obtain⟨y,H2,I2,r2,q2⟩:=c7;refine Os (RB (Os (RG (thn (hs pins s2 σ H2 x y v ov iv u _ I2 r1 r2 r q2) λ_ s3 c7=>?_))));obtain⟨H3,I3,q3⟩:=c7;exact wpAny_release #[σ,H3,I3,q3]
def tAsg(te:TE)(g:TG):TS:=λD σ H=>te σ H λx H1=>g x σ H1 D.nx
variable{te:TE}
def fq{tg:P3}{g:TG}(he:PE X e te)(hg:PG X tg g)(hs:autoParam (Rw [tg] e pos.line X.env=pure false) zA0)(hw:autoParam (Rx [tg] e X.env=pure none) zA0)
  (h1:autoParam ((Rb [tg] X.env).map (·.2)=[RD tg X.env]) zA0):PS X (.Assign [tg] e pos) (tAsg te g):=by
 intro pins s σ H D I h;refine wpAny_Assign_stores (thn (he pins s σ H _ I h) λv s1 hh=>?_) hs hw;obtain⟨x,H1,I1,r1,q1⟩:=hh;rw[h1];exact thn (hg pins s1 σ H1 x v _ I1 r1 q1) λ_ s2 q=>q
def ju{d9:Ri}(hN:X.N.Nodup)(hi:X.N[i]?=be x)(hx:Loc X.env.scope x)(he:PE X e te)(hs:autoParam (Rq e (be (.Name x d9)) pos.line X.env=pure false) zA0)(hf:autoParam (zFN X x) zA3):
  PS X (.Assign [.Name x d9] e pos) (tAsg te (fo i)):=by
 intro pins s σ H D I h;refine wpAny_Assign_Name (thn (he pins s σ H _ I h) λv s1 hh=>?_) hs;obtain⟨y,H1,I1,r1,q1⟩:=hh;exact fk I1 hN hi hx r1 (λs2 I2=>#[_,H1,I2,q1]) hf
def tPar(i j:Nat)(ta:TA):TS:=λD σ H=>ta σ H λvs H1=>∃v w,vs=[v,w]/\D.nx ((σ.set i (be v)).set j (be w)) H1
def vV{j:Nat}{y:A_}{a b:P3}{ta:TA}{px py pt:Ri}{kt k2 JL}(hc:X.calm=true)(hN:X.N.Nodup)(hi:X.N[i]?=be x)(hj:X.N[j]?=be y)(L5:i≠j)
  (hx:X.env.scope.names.lookup x=be .local) (hy:X.env.scope.names.lookup y=be .local) (ha:PA X [a,b] ta)
  (hw:Rx [.Tuple [.Name x px,.Name y py] kt pt] (.Tuple [a,b] k2 JL) X.env=pure (be [x,y]))
  (hs:autoParam (Rw [.Tuple [.Name x px,.Name y py] kt pt] (.Tuple [a,b] k2 JL) pos.line X.env=pure false) zA0):
  PS X (.Assign [.Tuple [.Name x px,.Name y py] kt pt] (.Tuple [a,b] k2 JL) pos) (tPar i j ta):=by
 intro pins s σ H D I h;rw[exec_Assign_arm];refine Os (RB ?_);rw[hs];refine Os (Q9 ?_);rw[if_neg JQ];refine Os (Tuple_ (thn (ha _ pins s σ H _ I h) λus s1 c7=>?_));obtain⟨vs,H1,I1,r1,q1⟩:=c7;obtain⟨v,w,e1,q1⟩:=q1;subst e1;obtain⟨u1,u2,rfl,rv,g5⟩:∃u1 u2,us=[u1,u2]/\RelV v u1/\RelV w u2:=by
  cases r1 with
  |cons p q=>
   cases q with
   |cons p' q'=>
    cases q';exact#[_,_,rfl,p,p']
 refine Rj ?_ (by show 2<=sizeLine;decide);have I2:Inv X pins σ H1 {s1 with heap:=s1.heap.push {cls:=.type "tuple",data:=.seq [u1,u2].toArray} }:=I1.kept (t':=s1.toks) λb o e=>Heap.get?_push_of_some _ e;rw[hw];refine Os (Q9 ?_);show Q7 (Q8 X.prog X.w) X.A (do rule "assign.swapped-stores";let items <-unpackItems (.ref s1.heap.objs.size) 2 r_;Sr [λv=>SI X.env y v,λv=>SI X.env x v] items.reverse;pure Flow.next) _ _ _;refine Os (SK (Os (unpackItems_tuple (items:=[u1,u2].toArray) (I.ok.hd hc) (IsTup.new s1.heap _) λh' gt=>?_)));have I3:=I2.kept (h':=h') (t':=s1.toks) λb o e=>gt b o (FR (Heap.lt_size e)) e;show Q7 _ _ (Sr [λv=>SI X.env y v,λv=>SI X.env x v] [u2,u1]>>=λ_=>pure Flow.next) _ _ _;refine Os (R9 (wpAny_bindName (fk I3 hN hj (.inl hy) g5 (λs2 I4=>?_) (.inr hy))));refine R9 (wpAny_bindName (fk I4 hN hi (.inl hx) rv (λs3 I5=>SV (Q9 ?_)) (.inr hx)));rw[List.set_comm _ _ (Ne.symm L5)]at I5;exact#[_,H1,I5,q1]
def vW(to ti te:TE)(z_:V->V->Hp->VK->Prop)(Lp:TIp)(A':TSet):TS:=λD σ H=>to σ H λo H1=>ti σ H1 λi H2=>z_ o i H2 λx H3=>te σ H3 λy H4=>Lp x y H4 λz H5=>A' o i z H5 λH6=>D.nx σ H6
def PGet(X:Cx)(t:V->V->Hp->VK->Prop):Prop:=
 ∀(pins:List (KF×Ro)) (s:KM) (σ:St) (H:Hp) (o i:V) (ov iv:KB) (Q:VK),Inv X pins σ H s->RelV o ov->RelV i iv->t o i H Q->
  Q7 (Q8 X.prog X.w) X.A (Si ov iv) (EP X pins σ Q) X.xe s
def vX{o i:P3}{to ti:TE}{z_:V->V->Hp->VK->Prop}{Lp:TIp}{A':TSet}{op:So}{Ku:Ri}(ho:PE X o to)(hi:PE X i ti)(hg:PGet X z_)(he:PE X e te)(hp:PIp X op Lp)(hs:PSet X A')
  (ha:autoParam (∀ov iv new,augStore i ov iv new=(do Ru [new,ov,iv] (Sh ov iv new);Sy [new,ov,iv] [];pure .next)) zA7):PS X (.AugAssign (.Subscript o i Ku) op e pos) (vW to ti te z_ Lp A'):=by
 intro pins s σ H D I h;refine wpAny_AugAssign_SubscriptAny (thn (ho pins s σ H _ I h) λov s1 hh=>?_) ha;obtain⟨x1,H1,I1,r1,q1⟩:=hh;refine thn (hi pins s1 σ H1 _ I1 q1) λiv s2 c7=>?_;obtain⟨x2,H2,I2,r2,q2⟩:=c7;refine thn (hg pins s2 σ H2 x1 x2 ov iv _ I2 r1 r2 q2) λd8 s3 c7=>?_;obtain⟨x3,H3,I3,r3,q3⟩:=c7;refine thn (he pins s3 σ H3 _ I3 q3) λv s4 c7=>?_;obtain⟨x4,H4,I4,r4,q4⟩:=c7;refine thn (hp pins s4 σ H4 x3 x4 d8 v _ I4 r3 r4 q4) λnew s5 c7=>?_;obtain⟨x5,H5,I5,r5,q5⟩:=c7;exact thn (hs pins s5 σ H5 x1 x2 x5 ov iv new _ I5 r1 r2 r5 q5) λ_ s6 ⟨H6,I6,q6⟩=>#[σ,H6,I6,q6]
def ipI(f:Int->Int->Int):TIp:=λx y H Q=>∃i j,x=.int i/\y=.int j/\Q (.int (f i j)) H
def vY:PIp X .Add (ipI λi j=>i+j):=by
 intro pins s σ H x y v u Q I r1 r2 h;obtain⟨i,j,e1,e2,q⟩:=h;subst e1;subst e2;obtain⟨t,rfl⟩:=r1;obtain⟨t',rfl⟩:=r2;exact iadd_int #[.int _,H,I.tok _,#[_,rfl],q]
def vZ(c:TT)(tb:TS):TS:=λD σ H=>∃W:Nat->St->Hp->Prop,(∃m,W m σ H)/\∀m σ H,W m σ H->
 c σ H λb H1=>if b=true then ∃N:St->Hp->Prop,(∀σ' H',N σ' H'->∃m',m'<m/\W m' σ' H')/\tb {D with nx:=N,ct:=N,bk:=D.nx} σ H1 else D.nx σ H1
def pT{c:P3}{body:List Q6}{tc:TT}{tb:TS}(hp:Rr (Q8 X.prog X.w) X.A X.env X.xe)(hc:PT X c tc)(hb:PSs X body tb):PS X (.While c body [] pos) (vZ tc tb):=by
 intro pins s σ H D I h;obtain⟨W,⟨m0,w0⟩,c8⟩:=h;refine wpAny_While (codeAny_whileLoop (λn s'=>∃σ' H',Inv X pins σ' H' s'/\W n σ' H') ?_ m0 #[σ,H,I,w0]);rintro n s1⟨σ1,H1,I1,w1⟩;refine Rv hp (thn (hc pins s1 σ1 H1 _ I1 (c8 n σ1 H1 w1)) λb s2 c7=>?_);obtain⟨H2,I2,q2⟩:=c7;cases b with
 |true=>
  obtain⟨N,hN,q2⟩:=q2;rw[if_pos rfl];refine Rv hp (thn (hb pins s2 σ1 H2 _ I2 q2) λf s3 q3=>?_);cases f with
  |next=>
   obtain⟨σ3,H3,I3,n3⟩:=q3;obtain⟨m',hm,w3⟩:=hN σ3 H3 n3;exact#[m',hm,σ3,H3,I3,w3]
  |cont=>
   obtain⟨σ3,H3,I3,n3⟩:=q3;obtain⟨m',hm,w3⟩:=hN σ3 H3 n3;exact#[m',hm,σ3,H3,I3,w3]
  |brk=>exact q3
  |ret v=>exact q3
 |false=>
  rw[if_neg FX];exact RL #[σ1,H2,I2,q2]
end
structure It where
 go:Nat->Hp->Prop
 yld:Nat->Hp->V->Hp->Prop
 stop:Nat->Hp->Prop
def FpOk(X:Cx)(pins:List (KF×Ro))(H:Hp)(b:KF):Prop:=
 H b=r_/\b≠X.env.locals/\b∉X.fs/\(b∈X.ex\/X.s₀.heap.objs.size<=b)/\(∀x c,X.env.cells.lookup x=be c->c≠b)/\∀p∈X.pn++pins,p.1≠b
variable{σ:St}
def Inv.fpOk{pins:List (KF×Ro)}{H':Hp}(I:Inv X pins σ H s)(hb:s.heap.objs.size<=b)(hn:H' b=r_):FpOk X pins H' b:=by
 refine#[hn,GE (F9 I.lt hb),I.nofs hb,.inr (FQ I.sz hb),λx c e z=>?_,λp hp z=>?_]
 .obtain⟨v,q⟩:=I.cell x c e;exact absurd (F9 q.lt (by rw[z];exact hb)) (GD _)
 .exact absurd (F9 (Heap.lt_size (I.pin p hp).1) (by rw[z];exact hb)) (GD _)
structure Turn(P:Q5)(w:Q_)(K:Ex)(tg:P3)(J:It)(fp:List KF)(it:KF)(tn:Nat->Rc->Prop):Prop where
 mem:it∈fp
 obj:∀i h,tn i h->∀b∈fp,∃o,h.get? b=be o/\∀v,o.data≠.cell v
 keep:∀i h h',tn i h->(∀b∈fp,∀o,h.get? b=be o->h'.get? b=be o)->tn i h'
 item:∀(X:Cx),X.prog=P->X.w=w->X.K=K->X.calm=true->∀(i:Nat) (pins:List (KF×Ro)) (s:KM) (σ:St) (H:Hp) (E:KB->KM->Prop),Inv X pins σ H s->(∀b∈fp,FpOk X pins H b)->tn i s.heap->J.go i H->
  Q7 (Q8 P w) X.A (pyNext (.ref it)) (λr s1=>∃u,r=be u/\
   Q7 (Q8 P w) X.A (R4 tg (.ref it) u) (λ_ s2=>∃x H',Inv X pins σ H' s2/\RelV x u/\J.yld i H x H'/\tn (i+1) s2.heap/\∀b∈fp,H' b=r_) E s1) E s
 done:∀(X:Cx),X.prog=P->X.w=w->X.K=K->X.calm=true->∀(i:Nat) (pins:List (KF×Ro)) (s:KM) (σ:St) (H:Hp) (E:KB->KM->Prop),Inv X pins σ H s->(∀b∈fp,FpOk X pins H b)->tn i s.heap->J.stop i H->
  Q7 (Q8 P w) X.A (pyNext (.ref it)) (λr s1=>r=r_/\Inv X pins σ H s1) E s
 self:∀(A:Ra) (i:Nat) (s:KM) (Q:KB->KM->Prop) (E:KB->KM->Prop),tn i s.heap->Q (.ref it) s->Q7 (Q8 P w) A (pyIter (.ref it)) Q E s
abbrev TI:=St->Hp->(It->Hp->Prop)->Prop
def PIE(X:Cx)(pins:List (KF×Ro))(σ:St)(tg:P3)(R:It->Hp->Prop)(Lq:KB)(s2:KM):Prop:=
 ∃(it:KF) (fp:List KF) (tn:Nat->Rc->Prop) (J:It) (H':Hp),Lq=.ref it/\Inv X pins σ H' s2/\Turn X.prog X.w X.K tg J fp it tn/\tn 0 s2.heap/\(∀b∈fp,FpOk X pins H' b)/\R J H'
def PI(X:Cx)(tg iter:P3)(wi:TI):Prop:=
 ∀(pins:List (KF×Ro)) (s:KM) (σ:St) (H:Hp) (R:It->Hp->Prop),Inv X pins σ H s->wi σ H R->
  Q7 (Q8 X.prog X.w) X.A (Rg iter X.env) (λv s1=>Q7 (Q8 X.prog X.w) X.A (pyIter v) (PIE X pins σ tg R) X.xe s1) X.xe s
variable{tg:P3}
def jv{M:SX}{it:KF}{o:Ro}{n:String}{vs:Array KB}{Q:Unit->KM->Prop}(ho:s.heap.get? it=be o)(hc:o.cls=.type n)(hd:o.data=.fields vs)
    (hn:["enumerate","zip","dict_itemiterator","dict_reverseitemiterator","odict_iterator","itertools.zip_longest","itertools.pairwise"].contains n=false) (hQ:Q () s):Q7 M A (R4 tg (.ref it) u) Q E s:=by
  unfold R4;cases tg<;>first
    |exact Q9 hQ
    |(cases u<;>first
        |exact Q9 hQ
        |( refine Os (wpAny_load ho ?_)
           rw[hc,hd];show Q7 M A (if(["enumerate","zip","dict_itemiterator","dict_reverseitemiterator","odict_iterator","itertools.zip_longest","itertools.pairwise"].contains n&&vs[0]?==be (RY _))=true then _ else _) Q E s;rw[if_neg (by intro h;rw[hn,Bool.false_and]at h;cases h)];exact Q9 hQ))
def Itl(K:Ex)(a:KF):It:=
 #[λi H=>∃xs x,SqL K H a xs/\xs[i]?=be x,λi H x H'=>H'=H/\∀xs,SqL K H a xs->xs[i]?=be x,λi H=>∃xs,SqL K H a xs/\xs.length<=i]
def Itr(lo:Int)(n:Nat):It:=#[λi _=>i<n,λi H x H'=>H'=H/\x=.int (lo+i),λi _=>n<=i]
variable{K:Ex}
def wa(a it:KF):Turn P w K tg (Itl K a) [it] it (λi h=>h.IsListIter it a i) where
 mem:=JU
 obj:=λi h st b hb=>by
  have e:b=it:=by simpa using hb
  subst e;obtain⟨o,e,c,d⟩:=st;exact#[o,e,λv z=>by rw[d]at z;cases z]
 keep:=λi h h' st k=>st.at λo e=>k it JU o e
 item:=by
  intro X hP hw hK hc i pins s σ H E I hf st hg;subst hP hw hK;obtain⟨xs,x,hq,hx⟩:=hg;obtain⟨its,rv,p,hz⟩:=I.list hq;obtain⟨u,hu,ru⟩:=rv.get hx;obtain⟨f0,f1,f2,f3,f4,f5⟩:=hf it JU;refine wpAny_pyNext_list_item st p.isList (x:=u) (by simpa using hu) λh' y8 sb=>?_;have I1:Inv X pins σ H {s with heap:=h'}:=I.turned (t':=s.toks) (λb o hb e=>(sb.2 b hb).trans e) f0 f1 f3 f4 f5;obtain⟨o,e,c,d⟩:=id y8;exact#[u,rfl,jv (s:={s with heap:=h'}) e c d JQ #[x,H,I1,ru,#[rfl,λys hy=>by rw[I.list_inj hy hq];exact hx],y8,λb hb=>(hf b hb).1]]
 done:=by
  intro X hP hw hK hc i pins s σ H E I hf st hg;subst hP hw hK;obtain⟨xs,hq,hx⟩:=hg;obtain⟨its,rv,p,hz⟩:=I.list hq;obtain⟨f0,f1,f2,f3,f4,f5⟩:=hf it JU;have hl:=rv.length;exact wpAny_pyNext_list_end (I.ok.hd hc) st p.isList Oa λh' eb=>#[rfl,I.turned (t':=s.toks) (λb o hb e=>eb b o hb e) f0 f1 f3 f4 f5]
 self:=λ_ _ _ _ _ st h=>wpAny_pyIter_listiter st h
def wc(it:KF)(lo:Int)(n:Nat):Turn P w K tg (Itr lo n) [it] it (λi h=>IsRangeIter h it (lo+(i:Nat)*1) ((n:Int)-(i:Nat)) 1) where
 mem:=JU
 obj:=λi h st b hb=>by
  have e:b=it:=by simpa using hb
  subst e;exact⟨_,st,λv z=>by
   have z':Data.fields _=Data.cell v:=z;cases z'⟩
 keep:=λi h h' st k=>k it JU _ st
 item:=by
  intro X hP hw hK hc i pins s σ H E I hf st hg;subst hP hw hK;obtain⟨f0,f1,f2,f3,f4,f5⟩:=hf it JU;have W:=Walks.range (prog:=X.prog) (w:=X.w) (I.ok.hd hc) it lo 1 n;refine W.item i s _ _ hg st λv h' tk hv y8 kk=>?_;obtain⟨t,rfl⟩:=hv;have I1:Inv X pins σ H {s with heap:=h',toks:=tk}:=I.turned (λb o hb e=>kk b o (by simpa using hb) e) f0 f1 f3 f4 f5;refine#[_,rfl,jv (s:={s with heap:=h',toks:=tk}) (n:="range_iterator") y8 rfl rfl JQ #[.int (lo+i),H,I1,#[t,?_],#[rfl,rfl],y8,λb hb=>(hf b hb).1]];rw[Int.mul_one]
 done:=by
  intro X hP hw hK hc i pins s σ H E I hf st hg;subst hP hw hK;obtain⟨f0,f1,f2,f3,f4,f5⟩:=hf it JU;exact wpAny_pyNext_range_end (I.ok.hd hc) st (by have:n<=i:=hg;lia) λh' eb=>#[rfl,I.turned (t':=s.toks) (λb o hb e=>eb b o hb e) f0 f1 f3 f4 f5]
 self:=λ_ _ _ _ _ st h=>wpAny_pyIter_rangeiter st h
section
variable {X:Cx}{tg:P3}
def pU(K:Ex)(tl:TE):TI:=λσ H R=>tl σ H λx H1=>∃a,x=.ref a/\(∃xs,SqL K H1 a xs)/\R (Itl K a) H1
def jw{l:P3}{tl:TE}(hl:PE X l tl):PI X tg l (pU X.K tl):=by
 intro pins s σ H R I h;refine thn (hl pins s σ H _ I h) λv s1 c7=>?_;obtain⟨x,H1,I1,r1,q1⟩:=c7;obtain⟨a,e,⟨xs,hq⟩,q⟩:=q1;subst e;cases r1;obtain⟨its,rv,p,hz⟩:=I1.list hq;refine wpAny_pyIter_list p.isList ?_;refine#[s1.heap.objs.size,[s1.heap.objs.size],_,_,H1,rfl,I1.kept (t':=s1.toks) λb o e=>Heap.get?_push_of_some _ e,wa a _,#[_,Heap.get?_push_size _ rfl,rfl,rfl],λb hb=>?_,q];have e:b=s1.heap.objs.size:=by simpa using hb
 subst e;exact I1.fpOk (FK _) (I1.hok.fresh (FK _))
variable{pins:List (KF×Ro)}{σ:St}{H:Hp}{s:KM}
def pV{R:It->Hp->Prop}{E:KB->KM->Prop}{lo hi:Int}{t u v:SW}{tk:Nat}(I:Inv X pins σ H s)(h1:-(2^62)<=lo)(h2:lo<2^62)(h3:-(2^62)<=hi)(h4:hi<2^62)
  (q:R (Itr lo (hi-lo).toNat) H):Q7 (Q8 X.prog X.w) X.A (pyIter (.ref s.heap.objs.size)) (PIE X pins σ tg R) E {s with heap:=s.heap.push {cls:=.type "range",data:=.fields [.int lo t,.int hi u,.int 1 v].toArray},toks:=tk}:=by
 refine wpAny_pyIter_range (IsRange.new ..) (small_one h1 h2 h3 h4) ?_;have I1:Inv X pins σ H {s with heap:=s.heap.push {cls:=.type "range",data:=.fields [.int lo t,.int hi u,.int 1 v].toArray},toks:=tk}:=I.kept λb o e=>Heap.get?_push_of_some _ e;refine⟨(s.heap.push {cls:=.type "range",data:=.fields [.int lo t,.int hi u,.int 1 v].toArray}).objs.size,[(s.heap.push {cls:=.type "range",data:=.fields [.int lo t,.int hi u,.int 1 v].toArray}).objs.size],_,_,H,rfl,
  I1.kept (t':=tk) λb o e=>Heap.get?_push_of_some _ e,wc _ lo (hi-lo).toNat,?_,λb hb=>?_,q⟩
 .have e1:lo+((0:Nat):Int)*1=lo:=by simp
  have e2:(((hi-lo).toNat:Nat):Int)-((0:Nat):Int)=Builtin.Range.rangeSize lo hi 1:=by rw[rangeSize_one];split<;>lia
  show IsRangeIter _ _ (lo+((0:Nat):Int)*1) ((((hi-lo).toNat:Nat):Int)-((0:Nat):Int)) 1;rw[e1,e2];exact Heap.get?_push_size _ rfl
 .have e:b=(s.heap.push {cls:=.type "range",data:=.fields [.int lo t,.int hi u,.int 1 v].toArray}).objs.size:=by simpa using hb
  subst e;exact I1.fpOk (FK _) (I1.hok.fresh (FK _))
def pW(ta:TA):TI:=λσ H R=>ta σ H λvs H1=>∃j:Int,vs=[.int j]/\-(2^62)<=j/\j<2^62/\R (Itr 0 j.toNat) H1
def we(ta:TA):TI:=λσ H R=>ta σ H λvs H1=>∃i j:Int,vs=[.int i,.int j]/\(-(2^62)<=i/\i<2^62/\-(2^62)<=j/\j<2^62)/\R (Itr i (j-i).toNat) H1
variable{pos:Ri}
def gu{a:P3}{ta:TA}{p:Ri}(hg:Gl X "range")(hm:X.mg "range"=r_)(ha:PA X [a] ta)(hs:autoParam (Re [a] X.env=[(false,Rg a X.env)]) zA0):PI X tg (.Call (.Name "range" p) [a] [] pos) (pW ta):=by
 intro pins s σ H R I h;refine Call_ (dA I hg hm boot_range (PyProof.Rows.callWith_type1 (thn (ha pos pins s σ H _ I h) λus s1 hh=>?_) hs rfl));obtain⟨vs,H1,I1,r1,q1⟩:=hh;obtain⟨j,e,q1,q2,q⟩:=q1;subst e;cases r1 with
 |cons r rr=>
  cases rr;obtain⟨t,rfl⟩:=r;exact call_range_1 (pV I1 JM JM q1 q2 (by simpa using q))
def wg{a b:P3}{ta:TA}{p:Ri}(hg:Gl X "range")(hm:X.mg "range"=r_)(ha:PA X [a,b] ta)(hs:autoParam (Re [a,b] X.env=[(false,Rg a X.env),(false,Rg b X.env)]) zA0)(j9:autoParam (Re [b] X.env=[(false,Rg b X.env)]) zA0):
  PI X tg (.Call (.Name "range" p) [a,b] [] pos) (we ta):=by
 intro pins s σ H R I h;refine Call_ (dA I hg hm boot_range (PyProof.Rows.callWith_type1 (thn (ha pos pins s σ H _ I h) λus s1 hh=>?_) (by rw[hs,j9]) (by rw[j9];rfl)));obtain⟨vs,H1,I1,r1,q1⟩:=hh;obtain⟨i,j,e,⟨q1,q2,q3,q4⟩,q⟩:=q1;subst e;cases r1 with
 |cons r rr=>
  cases rr with
  |cons r' rr=>
   cases rr;obtain⟨t,rfl⟩:=r;obtain⟨t',rfl⟩:=r';exact call_range_2 (pV I1 q1 q2 q3 q4 q)
def tFor(wi:TI)(g:TG)(tb:TS):TS:=λD σ H=>wi σ H λJ H1=>∃W:Nat->Nat->St->Hp->Prop,(∃m,W 0 m σ H1)/\∀i m σ H,W i m σ H->
 (J.stop i H/\D.nx σ H)\/(J.go i H/\∃N:St->Hp->Prop,(∀σ' H',N σ' H'->∃m',m'<m/\W (i+1) m' σ' H')/\∀x H',J.yld i H x H'->g x σ H' λσ2 H2=>tb {D with nx:=N,ct:=N,bk:=D.nx} σ2 H2)
def gv(fp:List KF)(h:Rc):List (KF×Ro):=fp.filterMap λb=>(h.get? b).map λo=>(b,o)
variable{fp:List KF}
def dR{h:Rc}{b:KF}{o:Ro}(hb:b∈fp)(e:h.get? b=be o):(b,o)∈gv fp h:=Ib.mpr #[b,hb,by rw[e];rfl]
def wj{h:Rc}{p:KF×Ro}(hp:p∈gv fp h):p.1∈fp/\h.get? p.1=be p.2:=by
 obtain⟨b,hb,e⟩:=Ib.mp hp;cases q:h.get? b with
 |none=>rw[q]at e;cases e
 |some o=>
  rw[q]at e;have e':(b,o)=p:=Option.some.inj e;subst e';exact#[hb,q]
def Inv.pinned(I:Inv X pins σ H s)(hf:∀b∈fp,FpOk X pins H b)(ho:∀b∈fp,∃o,s.heap.get? b=be o/\∀v,o.data≠.cell v):Inv X (pins++gv fp s.heap) σ H s:=
 I.pins_of λp hp=>(Ga.mp hp).elim (λz=>I.pin p (F7 _ z)) λz=>by
  obtain⟨hb,e⟩:=wj z;obtain⟨f0,f1,f2,_⟩:=hf p.1 hb;obtain⟨o,e',d⟩:=ho p.1 hb;rw[e]at e';cases e';exact#[e,f0,f1,f2,d]
def Inv.unpinned{pl:List (KF×Ro)}(I:Inv X (pins++pl) σ H s):Inv X pins σ H s:=I.pins_of λp hp=>I.pin p (F7 _ (GN _ hp))
def cE{iter:P3}{body:List Q6}{wi:TI}{g:TG}{tb:TS}(hp:Rr (Q8 X.prog X.w) X.A X.env X.xe)(hc:X.calm=true)(hi:PI X tg iter wi)(hg:PG X tg g)(hb:PSs X body tb)
  (hs:∀x,SU iter X.env x=pure x:=by intro _;rfl):PS X (.For tg iter body [] pos) (tFor wi g tb):=by
 intro pins s σ H D I h;refine wpAny_For (thn (hi pins s σ H _ I h) λv s1 h1=>thn h1 λLq s2 h2=>?_) hs;obtain⟨it,fp,tn,J,H2,e,I2,T,p6,f2,W,⟨m0,w0⟩,c8⟩:=h2;subst e;have l_:∀{H':Hp},(∀b∈fp,H' b=r_)->∀b∈fp,FpOk X pins H' b:=λhn b hb=>#[hn b hb,(f2 b hb).2];refine codeAny_forLoop_any (λn s'=>∃i σ' H',Inv X pins σ' H' s'/\tn i s'.heap/\(∀b∈fp,H' b=r_)/\W i n σ' H') ?_ m0 #[0,σ,H2,I2,p6,λb hb=>(f2 b hb).1,w0];rintro n s3⟨i,σ3,H3,I3,y9,N3,w3⟩;rcases c8 i n σ3 H3 w3 with⟨stop,qn⟩|⟨go,N,hN,step⟩
 .refine Rv hp (thn (T.done X rfl rfl rfl hc i pins s3 σ3 H3 X.xe I3 (l_ N3) y9 stop) λr s4 c7=>?_);obtain⟨hr,I4⟩:=c7;subst hr;exact RL #[σ3,H3,I4,qn]
 .refine Rv hp (thn (T.item X rfl rfl rfl hc i pins s3 σ3 H3 X.xe I3 (l_ N3) y9 go) λr s4 c7=>?_);obtain⟨u,hr,h4⟩:=c7;subst hr;refine Rv hp (thn h4 λ_ s5 c7=>?_);obtain⟨x,H5,I5,r5,y5,B_,L6⟩:=c7;have O8:=I5.pinned (l_ L6) (T.obj _ _ B_);refine Rv hp (thn (hg _ s5 σ3 H5 x u _ O8 r5 (step x H5 y5)) λ_ s6 c7=>?_);obtain⟨σ6,H6,I6,q6⟩:=c7;refine Rv hp (thn (hb _ s6 σ6 H6 _ I6 q6) λf s7 q7=>?_);have again:∀{σ7:St} {H7:Hp},Inv X (pins++gv fp s5.heap) σ7 H7 s7->N σ7 H7->∃m,m<n/\∃i σ' H',Inv X pins σ' H' s7/\tn i s7.heap/\(∀b∈fp,H' b=r_)/\W i m σ' H':=λ{σ7 H7} I7 n7=>by
   obtain⟨m',hm,w7⟩:=hN σ7 H7 n7;refine#[m',hm,i+1,σ7,H7,I7.unpinned,T.keep _ _ _ B_ λb hb o e=>(I7.pin (b,o) (F7 _ (F7 _ (dR hb e)))).1,λb hb=>?_,w7];obtain⟨o,e,d⟩:=T.obj _ _ B_ b hb;exact(I7.pin (b,o) (F7 _ (F7 _ (dR hb e)))).2.1
  cases f with
  |next=>obtain⟨σ7,H7,I7,n7⟩:=q7;exact again I7 n7
  |cont=>obtain⟨σ7,H7,I7,n7⟩:=q7;exact again I7 n7
  |brk=>obtain⟨σ7,H7,I7,q7⟩:=q7;exact#[σ7,H7,I7.unpinned,q7]
  |ret v=>obtain⟨x7,σ7,H7,I7,r7,q7⟩:=q7;exact#[x7,σ7,H7,I7.unpinned,r7,q7]
end
def jx{g:TG}{tb:TS}{D:Ends}(Pv:Nat->St->Hp->Prop)(h0:Pv 0 σ H)(hl:∀i σ H,i<=xs.length->Pv i σ H->SqL K H a xs)
  (hs:∀i x σ H,xs[i]?=be x->Pv i σ H->g x σ H λσ2 H2=>tb {D with nx:=Pv (i+1),ct:=Pv (i+1),bk:=D.nx} σ2 H2) (hd:∀σ H,Pv xs.length σ H->D.nx σ H):
  ∃W:Nat->Nat->St->Hp->Prop,(∃m,W 0 m σ H)/\∀i m σ H,W i m σ H->
   ((Itl K a).stop i H/\D.nx σ H)\/((Itl K a).go i H/\∃N:St->Hp->Prop,(∀σ' H',N σ' H'->∃m',m'<m/\W (i+1) m' σ' H')/\∀x H',(Itl K a).yld i H x H'->g x σ H' λσ2 H2=>tb {D with nx:=N,ct:=N,bk:=D.nx} σ2 H2):=by
 refine#[λi m σ H=>m=xs.length-i/\i<=xs.length/\Pv i σ H,#[xs.length,JU,Gb _,h0],?_];rintro i m σ H ⟨rfl,hi,p⟩;have q:=hl i σ H hi p;by_cases f7:i<xs.length
 .refine .inr #[#[xs,xs[i],q,by simp[f7]],Pv (i+1),λσ' H' p'=>#[xs.length-(i+1),JM,rfl,f7,p'],λx H' y=>?_];obtain⟨e,y⟩:=y;subst e;exact hs i x σ _ (y xs q) p
 .have e:i=xs.length:=by lia
  subst e;exact .inl #[#[xs,q,FK _],hd σ H p]
def jy{lo:Int}{n:Nat}{g:TG}{tb:TS}{D:Ends}(Pv:Nat->St->Hp->Prop)(h0:Pv 0 σ H)
  (hs:∀i σ H,i<n->Pv i σ H->g (.int (lo+i)) σ H λσ2 H2=>tb {D with nx:=Pv (i+1),ct:=Pv (i+1),bk:=D.nx} σ2 H2) (hd:∀σ H,Pv n σ H->D.nx σ H):
  ∃W:Nat->Nat->St->Hp->Prop,(∃m,W 0 m σ H)/\∀i m σ H,W i m σ H->
   ((Itr lo n).stop i H/\D.nx σ H)\/((Itr lo n).go i H/\∃N:St->Hp->Prop,(∀σ' H',N σ' H'->∃m',m'<m/\W (i+1) m' σ' H')/\∀x H',(Itr lo n).yld i H x H'->g x σ H' λσ2 H2=>tb {D with nx:=N,ct:=N,bk:=D.nx} σ2 H2):=by
 refine#[λi m σ H=>m=n-i/\i<=n/\Pv i σ H,#[n,JU,Gb _,h0],?_];rintro i m σ H ⟨rfl,hi,p⟩;by_cases f7:i<n
 .refine .inr #[f7,Pv (i+1),λσ' H' p'=>#[n-(i+1),JM,rfl,f7,p'],λx H' y=>?_];obtain⟨e,y⟩:=y;subst e y;exact hs i σ _ f7 p
 .have e:i=n:=by lia
  subst e;exact .inl #[FK _,hd σ H p]
abbrev R2:=V->V->Hp->VK->Prop
def OpR(X:Cx)(f:KB->KB->SF KB)(r:R2):Prop:=
 ∀(pins:List (KF×Ro)) (s:KM) (σ:St) (H:Hp) (x y:V) (v u:KB) (Q:VK),Inv X pins σ H s->RelV x v->RelV y u->r x y H Q->
  Q7 (Q8 X.prog X.w) X.A (f v u) (EP X pins σ Q) X.xe s
def UnR(X:Cx)(f:KB->SF KB)(r:V->Hp->VK->Prop):Prop:=
 ∀(pins:List (KF×Ro)) (s:KM) (σ:St) (H:Hp) (x:V) (v:KB) (Q:VK),Inv X pins σ H s->RelV x v->r x H Q->
  Q7 (Q8 X.prog X.w) X.A (f v) (EP X pins σ Q) X.xe s
def bE(X:Cx)(f:KB)(r:List V->Hp->VK->Prop):Prop:=
 ∀(pins:List (KF×Ro)) (s:KM) (σ:St) (H:Hp) (xs:List V) (us:List KB) (Q:VK),Inv X pins σ H s->Vals xs us->r xs H Q->
  Q7 (Q8 X.prog X.w) X.A (call f us) (EP X pins σ Q) X.xe s
def TruR(X:Cx)(r:V->Hp->(Bool->Hp->Prop)->Prop):Prop:=
 ∀(pins:List (KF×Ro)) (s:KM) (σ:St) (H:Hp) (x:V) (v:KB) (Q:Bool->Hp->Prop),Inv X pins σ H s->RelV x v->r x H Q->
  Q7 (Q8 X.prog X.w) X.A (truthy v) (TP X pins σ Q) X.xe s
def tOp(r:R2)(ta tb:TE):TE:=λσ H Q=>ta σ H λx H1=>tb σ H1 λy H2=>r x y H2 Q
def tUn(r:V->Hp->VK->Prop)(ta:TE):TE:=λσ H Q=>ta σ H λx H1=>r x H1 Q
def rI(C:Int->Int->Prop)(g:Int->Int->V):R2:=λx y H Q=>∃i j,x=.int i/\y=.int j/\C i j/\Q (g i j) H
def rI0(g:Int->Int->V):R2:=λx y H Q=>∃i j,x=.int i/\y=.int j/\Q (g i j) H
def rU(g:Int->V):V->Hp->VK->Prop:=λx H Q=>∃i,x=.int i/\Q (g i) H
section
variable {X:Cx}{a b c:P3}{ta tb tc:TE}{pos:Ri}
variable{f:KB->KB->SF KB}
def binT(ha:PE X a ta)(hb:PE X b tb){pins:List (KF×Ro)}{s:KM}{σ:St}{H:Hp}{R:V->V->Hp->Prop}(I:Inv X pins σ H s)
  (h:ta σ H λx H1=>tb σ H1 λy H2=>R x y H2) {Q:KB->KM->Prop} 
  (hf:∀v u s2 x y H2,Inv X pins σ H2 s2->RelV x v->RelV y u->R x y H2->Q7 (Q8 X.prog X.w) X.A (f v u) Q X.xe s2):
  Q7 (Q8 X.prog X.w) X.A (Rg a X.env) (λv s₁=>Q7 (Q8 X.prog X.w) X.A (Rg b X.env) (λu s₂=>Q7 (Q8 X.prog X.w) X.A (f v u) Q X.xe s₂) X.xe s₁) X.xe s:=by
 refine thn (ha pins s σ H _ I h) λv s1 c7=>?_;obtain⟨x,H1,I1,r1,q1⟩:=c7;refine thn (hb pins s1 σ H1 _ I1 q1) λu s2 c7=>?_;obtain⟨y,H2,I2,r2,q2⟩:=c7;exact hf v u s2 x y H2 I2 r1 r2 q2
def jz{op:So}{r:R2}(ho:OpR X (Rt op) r)(ha:PE X a ta)(hb:PE X b tb):PE X (.BinOp a op b pos) (tOp r ta tb):=by
 intro pins s σ H Q I h;exact wpAny_BinOp (binT ha hb I h λv u s2 x y H2 I2 rx ry q=>ho pins s2 σ H2 x y v u Q I2 rx ry q)
def wk{op:UnaryOp}{r:V->Hp->VK->Prop}(ho:UnR X (unaryOp op) r)(ha:PE X a ta):PE X (.UnaryOp op a pos) (tUn r ta):=by
 intro pins s σ H Q I h;exact UnaryOp_ (thn (ha pins s σ H _ I h) λv s1 ⟨x,H1,I1,r1,q1⟩=>ho pins s1 σ H1 x v Q I1 r1 q1)
variable{g:Int->Int->Int}
def opI{C:Int->Int->Prop}
  (rule:∀(i j:Int) (t u:SW) (s:KM) (Q:KB->KM->Prop) (E:KB->KM->Prop),C i j->Q (.int (g i j) s.toks) {s with toks:=s.toks+1}->Q7 (Q8 X.prog X.w) X.A (f (.int i t) (.int j u)) Q E s):
  OpR X f (rI C λi j=>.int (g i j)):=by
 intro pins s σ H x y v u Q I rx ry h;obtain⟨i,j,rfl,rfl,hc,q⟩:=h;obtain⟨t,rfl⟩:=rx;obtain⟨t',rfl⟩:=ry;exact rule i j t t' s _ _ hc #[.int (g i j),H,I.tok _,#[_,rfl],q]
def opI0
  (rule:∀(i j:Int) (t u:SW) (s:KM) (Q:KB->KM->Prop) (E:KB->KM->Prop),Q (.int (g i j) s.toks) {s with toks:=s.toks+1}->Q7 (Q8 X.prog X.w) X.A (f (.int i t) (.int j u)) Q E s):
  OpR X f (rI0 λi j=>.int (g i j)):=by
 intro pins s σ H x y v u Q I rx ry h;obtain⟨i,j,rfl,rfl,q⟩:=h;obtain⟨t,rfl⟩:=rx;obtain⟨t',rfl⟩:=ry;exact rule i j t t' s _ _ #[.int (g i j),H,I.tok _,#[_,rfl],q]
def opB0{g:Int->Int->Bool}
  (rule:∀(i j:Int) (t u:SW) (s:KM) (Q:KB->KM->Prop) (E:KB->KM->Prop),Q (.bool (g i j)) s->Q7 (Q8 X.prog X.w) X.A (f (.int i t) (.int j u)) Q E s):
  OpR X f (rI0 λi j=>.bl (g i j)):=by
 intro pins s σ H x y v u Q I rx ry h;obtain⟨i,j,rfl,rfl,q⟩:=h;obtain⟨t,rfl⟩:=rx;obtain⟨t',rfl⟩:=ry;exact rule i j t t' s _ _ #[.bl (g i j),H,I,rfl,q]
def CDiv(i j:Int):Prop:=0<j/\j<1073741824
def CMul(i j:Int):Prop:=(-(2^64)<i/\i<2^64)\/(-(2^64)<j/\j<2^64)
def CMul.ok{i j:Int}(h:CMul i j):IntMulOk i j:=by
 rcases h with⟨h1,h2⟩|⟨h1,h2⟩
 .exact .of_left (intBits_le_64 h1 h2)
 .exact .of_right (intBits_le_64 h1 h2)
def wl:OpR X (Rt .Add) (rI0 λi j=>.int (i+j)):=opI0 λ_ _ _ _ _ _ _ q=>add_int q
def pX:OpR X (Rt .Sub) (rI0 λi j=>.int (i-j)):=opI0 λ_ _ _ _ _ _ _ q=>sub_int q
def wm:OpR X (Rt .Mult) (rI CMul λi j=>.int (i*j)):=opI λ_ _ _ _ _ _ _ hc q=>mul_int q hc.ok
def wn:OpR X (Rt .FloorDiv) (rI CDiv λi j=>.int (i/j)):=opI λi j _ _ _ _ _ hc q=>by
 have h1:(0:Int)<j:=hc.1;have h2:j<1073741824:=hc.2;exact floordiv_int JM (by rw[Int.fdiv_eq_ediv_of_nonneg i JM];exact q) (.inl (PyProof.noPylong_small JM))
def wo:OpR X (Rt .Mod) (rI (λ_ j=>0<j) λi j=>.int (i%j)):=opI λi j _ _ _ _ _ hc q=>by
 have h1:(0:Int)<j:=hc;exact mod_int' JM (by rw[Int.fmod_eq_emod_of_nonneg i JM];exact q)
def wr:OpR X (Rt .Mod) (rI (λ_ j=>j≠0) λi j=>.int (i.fmod j)):=opI λ_ _ _ _ _ _ _ hc q=>mod_int' hc q
def unI{f:KB->SF KB}{g:Int->Int}
  (rule:∀(i:Int) (t:SW) (s:KM) (Q:KB->KM->Prop) (E:KB->KM->Prop),Q (.int (g i) s.toks) {s with toks:=s.toks+1}->Q7 (Q8 X.prog X.w) X.A (f (.int i t)) Q E s):
  UnR X f (rU λi=>.int (g i)):=by
 intro pins s σ H x v Q I rx h;obtain⟨i,rfl,q⟩:=h;obtain⟨t,rfl⟩:=rx;exact rule i t s _ _ #[.int (g i),H,I.tok _,#[_,rfl],q]
def wt:UnR X (unaryOp .USub) (rU λi=>.int (-i)):=unI λ_ _ _ _ _ q=>neg_int q
end
def scal:V->V->Bool
 |.non,.non=>true|.non,.int _=>true|.int _,.non=>true|.non,.bl _=>true|.bl _,.non=>true|.non,.str _=>true|.str _,.non=>true
 |.int _,.int _=>true|.bl _,.bl _=>true|.str _,.str _=>true|.byt _,.byt _=>true
 |.int _,.str _=>true|.str _,.int _=>true|.bl _,.str _=>true|.str _,.bl _=>true
 |_,_=>false
def rEq:R2:=λx y H Q=>scal x y=true/\Q (.bl (decide (x=y))) H
def rNe:R2:=λx y H Q=>scal x y=true/\Q (.bl (!decide (x=y))) H
def pY{i j:Int}:decide (V.int i=V.int j)=(i==j):=by
 rw[Hi];simp
def pZ{i j:Bool}:decide (V.bl i=V.bl j)=(i==j):=by
 rw[Hi];simp
def qc{i j:A_}:decide (V.str i=V.str j)=(i==j):=by
 rw[Hi];simp
def qd{i j:Array UInt8}:decide (V.byt i=V.byt j)=(i.toList==j.toList):=by
 rw[Hi];cases i;cases j;simp
section
variable {X:Cx}{a b c:P3}{ta tb tc:TE}{pos:Ri}
def aO{pins:List (KF×Ro)}{σ:St}{H:Hp}{s:KM}{Q:VK}{k k':Bool}(I:Inv X pins σ H s)(q:Q (.bl k) H)(e:k=k'):EP X pins σ Q (.bool k') s:=by
 subst e;exact#[.bl k,H,I,rfl,q]
def jA:OpR X (Rp .Eq) rEq:=by
 intro pins s σ H x y v u Q I rx ry h;obtain⟨hs,q⟩:=h;cases x with
 |non=>
  cases rx;cases y with
  |non=>cases ry;exact PySem.EqNone.eq_none_none (aO I q JU)
  |bl j=>cases ry;exact PySem.EqNone.eq_none_bool (aO I q JU)
  |int j=>obtain⟨t',rfl⟩:=ry;exact PySem.EqNone.eq_none_int (aO I q JU)
  |str j=>obtain⟨t',rfl⟩:=ry;exact PySem.EqNone.eq_none_str (aO I q JU)
  |_=>exact absurd (show false=true from hs) FX
 |bl i=>
  cases rx;cases y with
  |non=>cases ry;exact PySem.EqNone.eq_bool_none (aO I q JU)
  |bl j=>cases ry;exact eq_bool (aO I q pZ)
  |str j=>obtain⟨t',rfl⟩:=ry;exact PySem.EqMixed.eq_bool_str (aO I q JU)
  |_=>exact absurd (show false=true from hs) FX
 |int i=>
  obtain⟨t,rfl⟩:=rx;cases y with
  |non=>cases ry;exact PySem.EqNone.eq_int_none (aO I q JU)
  |int j=>obtain⟨t',rfl⟩:=ry;exact eq_int (aO I q pY)
  |str j=>obtain⟨t',rfl⟩:=ry;exact PySem.EqMixed.eq_int_str (aO I q JU)
  |_=>exact absurd (show false=true from hs) FX
 |str i=>
  obtain⟨t,rfl⟩:=rx;cases y with
  |non=>cases ry;exact PySem.EqNone.eq_str_none (aO I q JU)
  |bl j=>cases ry;exact PySem.EqMixed.eq_str_bool (aO I q JU)
  |int j=>obtain⟨t',rfl⟩:=ry;exact PySem.EqMixed.eq_str_int (aO I q JU)
  |str j=>obtain⟨t',rfl⟩:=ry;exact eq_str (aO I q qc)
  |_=>exact absurd (show false=true from hs) FX
 |byt i=>
  obtain⟨t,rfl⟩:=rx;cases y with
  |byt j=>obtain⟨t',rfl⟩:=ry;exact eq_bytes (aO I q qd)
  |_=>exact absurd (show false=true from hs) FX
 |_=>cases y<;>exact absurd (show false=true from hs) FX
def qe:OpR X (Rp .NotEq) rNe:=by
 intro pins s σ H x y v u Q I rx ry h;obtain⟨hs,q⟩:=h;cases x with
 |non=>
  cases rx;cases y with
  |non=>cases ry;exact PySem.EqNone.ne_none_none (aO I q JU)
  |bl j=>cases ry;exact PySem.EqNone.ne_none_bool (aO I q JU)
  |int j=>obtain⟨t',rfl⟩:=ry;exact PySem.EqNone.ne_none_int (aO I q JU)
  |str j=>obtain⟨t',rfl⟩:=ry;exact PySem.EqNone.ne_none_str (aO I q JU)
  |_=>exact absurd (show false=true from hs) FX
 |bl i=>
  cases rx;cases y with
  |non=>cases ry;exact PySem.EqNone.ne_bool_none (aO I q JU)
  |bl j=>cases ry;exact ne_bool (aO I q (congrArg not pZ))
  |str j=>obtain⟨t',rfl⟩:=ry;exact PySem.EqMixed.ne_bool_str (aO I q JU)
  |_=>exact absurd (show false=true from hs) FX
 |int i=>
  obtain⟨t,rfl⟩:=rx;cases y with
  |non=>cases ry;exact PySem.EqNone.ne_int_none (aO I q JU)
  |int j=>obtain⟨t',rfl⟩:=ry;exact ne_int (aO I q (congrArg not pY))
  |str j=>obtain⟨t',rfl⟩:=ry;exact PySem.EqMixed.ne_int_str (aO I q JU)
  |_=>exact absurd (show false=true from hs) FX
 |str i=>
  obtain⟨t,rfl⟩:=rx;cases y with
  |non=>cases ry;exact PySem.EqNone.ne_str_none (aO I q JU)
  |bl j=>cases ry;exact PySem.EqMixed.ne_str_bool (aO I q JU)
  |int j=>obtain⟨t',rfl⟩:=ry;exact PySem.EqMixed.ne_str_int (aO I q JU)
  |str j=>obtain⟨t',rfl⟩:=ry;exact ne_str (aO I q (congrArg not qc))
  |_=>exact absurd (show false=true from hs) FX
 |byt i=>
  obtain⟨t,rfl⟩:=rx;cases y with
  |byt j=>obtain⟨t',rfl⟩:=ry;exact ne_bytes (aO I q (congrArg not qd))
  |_=>exact absurd (show false=true from hs) FX
 |_=>cases y<;>exact absurd (show false=true from hs) FX
def qf:OpR X (Rp .Lt) (rI0 λi j=>.bl (decide (i<j))):=opB0 λ_ _ _ _ _ _ _ q=>lt_int q
def wu:OpR X (Rp .LtE) (rI0 λi j=>.bl (decide (i<=j))):=opB0 λ_ _ _ _ _ _ _ q=>le_int q
def jB:OpR X (Rp .Gt) (rI0 λi j=>.bl (decide (j<i))):=opB0 λ_ _ _ _ _ _ _ q=>gt_int q
def wv:OpR X (Rp .GtE) (rI0 λi j=>.bl (decide (j<=i))):=opB0 λ_ _ _ _ _ _ _ q=>ge_int q
def qg:OpR X (Rp .Is) (λx y H Q=>y=.non/\Q (.bl (decide (x=.non))) H):=by
 intro pins s σ H x y v u Q I rx ry h;obtain⟨rfl,q⟩:=h;cases ry;refine is_none_gen (aO I q ?_);cases x<;>first
  |(cases rx;rfl)
  |(obtain⟨t,rfl⟩:=rx;rfl)
variable{r:R2}
def OpR.or{f:KB->KB->SF KB}{r':R2}(h:OpR X f r)(h':OpR X f r'):OpR X f (λx y H Q=>r x y H Q\/r' x y H Q):=by
 intro pins s σ H x y v u Q I rx ry q;rcases q with q|q
 .exact h pins s σ H x y v u Q I rx ry q
 .exact h' pins s σ H x y v u Q I rx ry q
variable{op:SZ}
def nomark(b:P3)(h:autoParam (op≠.In) zA1)(h2:autoParam (op≠.NotIn) zA1):Ry op b=false:=by
 have e1:(op==CmpOp.In)=false:=by cases op<;>first|rfl|exact absurd rfl h
 have e2:(op==CmpOp.NotIn)=false:=by cases op<;>first|rfl|exact absurd rfl h2
 cases b<;>simp[Ry,e1,e2]
def ww(ho:OpR X (Rp op) r)(ha:PE X a ta)(hb:PE X b tb)(hm:Ry op b=false):PE X (.Compare a [op] [b] pos) (tOp r ta tb):=by
 intro pins s σ H Q I h;exact wpAny_Compare1 (binT ha hb I h λv u s2 x y H2 I2 rx ry q=>ho pins s2 σ H2 x y v u Q I2 rx ry q) hm
def wx(t:TE):TT:=λσ H Q=>t σ H λx H'=>∃k,x=.bl k/\Q k H'
def qh(ho:OpR X (Rp op) r)(ha:PE X a ta)(hb:PE X b tb)(hm:Ry op b=false):PT X (.Compare a [op] [b] pos) (wx (tOp r ta tb)):=by
 intro pins s σ H Q I h;refine wpAny_isTrue_Compare1 (thn (ha pins s σ H _ I h) λv s1 ⟨x,H1,I1,r1,q1⟩=>thn (hb pins s1 σ H1 _ I1 q1) λu s2 ⟨y,H2,I2,r2,q2⟩=>
  thn (ho pins s2 σ H2 x y v u _ I2 r1 r2 q2) λc s3 hh=>?_) hm
 obtain⟨z,H3,I3,r3,k,e,q3⟩:=hh;subst e;cases r3;exact RR #[H3,I3,q3]
def TruV(K:Ex)(x:V)(H:Hp)(k:Bool):Prop:=
 match x with
 |.non=>k=false
 |.bl b=>k=b
 |.int i=>k=(i !=0)
 |.str y=>y.length<=sizeLine/\k=((y.length:Int) !=0)
 |.byt y=>y.size<=sizeLine/\k=((y.size:Int) !=0)
 |.ref p=>(∃xs,SqL K H p xs/\k=!xs.isEmpty)\/(∃xs,SqT K H p xs/\k=!xs.isEmpty)\/∃a8,H p=be (.dK a8)/\k=!a8.isEmpty
 |_=>False
def wy{κ:Type}{a8:List (κ×V)}{vs:List (κ×KB)}(r:KV a8 vs):(!vs.isEmpty)=!a8.isEmpty:=by
 cases r<;>rfl
def isEmpty_of{xs:List V}{its:List KB}(r:Vals xs its):(!its.toArray.isEmpty)=!xs.isEmpty:=by
 cases r<;>simp
def line63:(sizeLine:Nat)<2^63:=by rw[Se];decide
def wz:TruR X (λx H Q=>∃k,TruV X.K x H k/\Q k H):=by
 intro pins s σ H x v Q I rx h;obtain⟨k,e,q⟩:=h;have hl:=line63;have hs:sizeLine=16777216:=Se;cases x with
 |non=>
  cases rx;have e':k=false:=e;subst e';exact truthy_none #[H,I,q]
 |bl b=>
  cases rx;have e':k=b:=e;subst e';exact RR #[H,I,q]
 |int i=>
  obtain⟨t,rfl⟩:=rx;have e':k=(i !=0):=e;subst e';exact PySem.P.truthy_int #[H,I,q]
 |str y=>
  obtain⟨t,rfl⟩:=rx;obtain⟨hy,e'⟩:y.length<=sizeLine/\k=((y.length:Int) !=0):=e;subst e';exact PySem.P.truthy_str JM #[H,I.tok _,q]
 |byt y=>
  obtain⟨t,rfl⟩:=rx;obtain⟨hy,e'⟩:y.size<=sizeLine/\k=((y.size:Int) !=0):=e;subst e';exact truthy_bytes JM #[H,I.tok _,q]
 |ref p=>
  cases rx;have e':(∃xs,SqL X.K H p xs/\k=!xs.isEmpty)\/(∃xs,SqT X.K H p xs/\k=!xs.isEmpty)\/∃a8,H p=be (.dK a8)/\k=!a8.isEmpty:=e;rcases e' with⟨xs,hx,e'⟩|⟨xs,hx,e'⟩|⟨a8,hx,e'⟩
  .subst e';obtain⟨its,r,pl,hz⟩:=I.list hx;have b9:=r.length;exact wpAny_truthy_list pl.isList (by simp only[FT];lia) #[H,I.tok _,by rw[isEmpty_of r];exact q]
  .subst e';obtain⟨its,r,pl,hz⟩:=I.tuple hx;have b9:=r.length;exact truthy_tuple pl (by simp only[FT];lia) #[H,I.tok _,by rw[isEmpty_of r];exact q]
  .subst e';obtain⟨hz,hS,vs,r,m⟩:a8.length<=sizeLine/\(p==Rz)=false/\∃vs,KV a8 vs/\s.heap.DictOf (bD X.prog X.w) p vs:=I.hok p _ hx;have b9:a8.length=vs.length:=Paired.length r;exact wpAny_truthy_dict hS m JM #[H,I.tok _,by rw[wy r];exact q]
 |_=>exact(show False from e).elim
def qi(ha:PE X a ta)(he:∀fI,isTrue a X.env fI=(do let v <-fI;RO a.pos;Ru [v] (truthy v))):
  PT X a (λσ H Q=>ta σ H λx H'=>∃k,TruV X.K x H' k/\Q k H'):=by
 intro pins s σ H Q I h;exact isTrue_plain (thn (ha pins s σ H _ I h) λv s1 ⟨x,H1,I1,r1,q1⟩=>wz pins s1 σ H1 x v Q I1 r1 q1) (he _)
def wA:OpR X (Rt .Add) (λx y H Q=>∃i j,x=.str i/\y=.str j/\i.length+j.length<=sizeLine/\Q (.str (i++j)) H):=by
 intro pins s σ H x y v u Q I rx ry h;obtain⟨i,j,rfl,rfl,hz,q⟩:=h;obtain⟨t,rfl⟩:=rx;obtain⟨t',rfl⟩:=ry;exact add_str (λt' tk=>#[.str (i++j),H,I.tok _,#[_,rfl],q]) hz
variable{us:List KB}
def bU{x:V}(r:Vals [x] us):∃u,us=[u]/\RelV x u:=by
 cases r with
 |cons r1 r2=>cases r2;exact#[_,rfl,r1]
def fu{x y:V}(r:Vals [x,y] us):∃u w',us=[u,w']/\RelV x u/\RelV y w':=by
 cases r with
 |cons r1 r2=>
  cases r2 with
  |cons r3 r4=>cases r4;exact#[_,_,rfl,r1,r3]
def wB:bE X (.builtin "abs") (λxs H Q=>∃i,xs=[.int i]/\Q (.int (if i<0 then -i else i)) H):=by
 intro pins s σ H xs us Q I r h;obtain⟨i,rfl,q⟩:=h;obtain⟨u,rfl,t,rfl⟩:=bU r;exact call_abs_int λu tk=>#[.int (if i<0 then -i else i),H,I.tok _,#[_,rfl],q]
def wC(hc:X.calm=true):bE X (.builtin "max") (λxs H Q=>∃i j,xs=[.int i,.int j]/\Q (.int (if j>i then j else i)) H):=by
 intro pins s σ H xs us Q I r h;obtain⟨i,j,rfl,q⟩:=h;obtain⟨u,w',rfl,⟨t,rfl⟩,⟨t',rfl⟩⟩:=fu r;refine max_two_ints (I.ok.hd hc) λh' tk k=>#[_,H,I.kept k,?_,q];by_cases hj:j>i
 .rw[if_pos hj,if_pos hj];exact#[_,rfl]
 .rw[if_neg hj,if_neg hj];exact#[_,rfl]
def wE(hc:X.calm=true):bE X (.builtin "min") (λxs H Q=>∃i j,xs=[.int i,.int j]/\Q (.int (if j<i then j else i)) H):=by
 intro pins s σ H xs us Q I r h;obtain⟨i,j,rfl,q⟩:=h;obtain⟨u,w',rfl,⟨t,rfl⟩,⟨t',rfl⟩⟩:=fu r;refine min_two_ints (I.ok.hd hc) λh' tk k=>#[_,H,I.kept k,?_,q];by_cases hj:j<i
 .rw[if_pos hj,if_pos hj];exact#[_,rfl]
 .rw[if_neg hj,if_neg hj];exact#[_,rfl]
def wF:bE X (.type "int") (λxs H Q=>(∃i,xs=[.int i]/\Q (.int i) H)\/∃k,xs=[.bl k]/\Q (.int (if k then 1 else 0)) H):=by
 intro pins s σ H xs us Q I r h;rcases h with⟨i,rfl,q⟩|⟨k,rfl,q⟩
 .obtain⟨u,rfl,t,rfl⟩:=bU r;exact call_int_int #[.int i,H,I,#[_,rfl],q]
 .obtain⟨u,rfl,r1⟩:=bU r;cases r1;exact call_int_bool #[.int (if k then 1 else 0),H,I.tok _,#[_,rfl],q]
def wG:bE X (.type "str") (λxs H Q=>∃i,xs=[.int i]/\i.natAbs.log2<1920/\Q (.str (toString i)) H):=by
 intro pins s σ H xs us Q I r h;obtain⟨i,rfl,hz,q⟩:=h;obtain⟨u,rfl,t,rfl⟩:=bU r;exact PySem.P.str_of_int hz #[.str _,H,I.tok _,#[_,rfl],q]
def LenV(K:Ex)(x:V)(H:Hp)(n:Nat):Prop:=
 match x with
 |.str y=>y.length<=sizeLine/\n=y.length
 |.byt y=>y.size<=sizeLine/\n=y.size
 |.ref p=>(∃xs,SqL K H p xs/\n=xs.length)\/∃xs,SqT K H p xs/\n=xs.length
 |_=>False
def jC:bE X (.builtin "len") (λxs H Q=>∃x n,xs=[x]/\LenV X.K x H n/\Q (.int n) H):=by
 intro pins s σ H xs us Q I r h;obtain⟨x,n,rfl,e,q⟩:=h;obtain⟨u,rfl,rx⟩:=bU r;have hl:=line63;have hs:sizeLine=16777216:=Se;cases x with
 |str y=>
  obtain⟨t,rfl⟩:=rx;obtain⟨hy,e'⟩:y.length<=sizeLine/\n=y.length:=e;subst e';exact len_str JM #[.int _,H,I.tok _,#[_,rfl],q]
 |byt y=>
  obtain⟨t,rfl⟩:=rx;obtain⟨hy,e'⟩:y.size<=sizeLine/\n=y.size:=e;subst e';exact len_bytes JM #[.int _,H,I.tok _,#[_,rfl],q]
 |ref p=>
  cases rx;have e':(∃xs,SqL X.K H p xs/\n=xs.length)\/∃xs,SqT X.K H p xs/\n=xs.length:=e;rcases e' with⟨xs,hx,e'⟩|⟨xs,hx,e'⟩
  .subst e';obtain⟨its,r',pl,hz⟩:=I.list hx;have b9:=r'.length;exact Calls.call_len_list pl.isList (by simp only[FT];lia) #[.int xs.length,H,I.tok _,#[_,by simp only[FT];rw[b9]],q]
  .subst e';obtain⟨its,r',pl,hz⟩:=I.tuple hx;have b9:=r'.length;exact len_tuple pl (by simp only[FT];lia) #[.int xs.length,H,I.tok _,#[_,by simp only[FT];rw[b9]],q]
 |_=>exact(show False from e).elim
end
structure ObjM(h:Rc)(x dx C:KF)(mA:Str->Option KB):Prop where
 obj:h.get? x=be (instObj C dx)
 ns:h.Ns1 dx mA
 ne:dx≠x
variable{mA:A_->Option KB}
def wH{dx:KF}(n:h.Ns1 dx mA):∃od,h.get? dx=be od/\∀name,lookIn name od=be (mA name):=by
 obtain⟨o,es,ep,ho,hd,hk,_,hm⟩:=n;refine#[o,ho,λname=>?_];have e:=hm name;unfold nsFind findBy at e;rw[<-Array.find?_toList]at e;unfold lookIn;rw[hd];dsimp only;split
 .rename_i y q;rw[q]at e;exact congrArg be e
 .rename_i q;rw[q]at e;have a:es.toList.any (·.refKey)=false:=by
   rw[List.any_eq_false];intro y hy;obtain⟨z,t,m4⟩:=hk y (Array.mem_toList_iff.mp hy);simp[DictEntry.refKey,m4]
  have a':¬es.toList.any (·.refKey)=true:=by rw[a];exact FX
  rw[if_neg a'];exact congrArg be e
variable{C:KF}
def ObjM.look{x dx:KF}(I:ObjM h x dx C mA):∃od,InstAt h x (instObj C dx) C (be od)/\∀name,lookIn name od=be (mA name):=
 let ⟨od,ho,hl⟩:=wH I.ns
 #[od,#[I.obj,rfl,rfl,ho],hl]
section
variable {prog:Q5}{w:Q_}{A:Ra}{E:KB->KM->Prop}{s:KM}{K:Ex}{x dx C f:KF}{mA:A_->Option KB}{name:A_}{v:KB}
def wI{L7:Bool}{Q:KB->KM->Prop}(X:K.In s.heap)(I:ObjM s.heap x dx C mA)(hg:plainGet K C name=true)(hh:hasDictIn K C=true)
  (ha:findIn K (.ref C) name=be r_) (hv:mA name=be v) (O9:handedIn v=true) (h:Q v {s with toks:=s.toks+1}):
  Q7 (Q8 prog w) A (getAttr (.ref x) name L7) Q E s:=by
 obtain⟨od,J,hl⟩:=I.look;exact get_value X J (plainGet_of hg).1 (findObj_own hh ha rfl (by rw[hl,hv])) O9 h
def wJ{pl:SF Bool}{Q:KB×List KB->KM->Prop}(X:K.In s.heap)(I:ObjM s.heap x dx C mA)(hg:plainGet K C name=true)
  (hf:findIn K (.ref C) name=be (be (.ref f))) (ht:isFn K (.ref f)=true) (hv:mA name=r_) (h:Q (.ref f,[.ref x]) s):
  Q7 (Q8 prog w) A (Sb (.ref x) name pl) Q E s:=by
 obtain⟨od,J,hl⟩:=I.look;exact method_fn X J (plainGet_of hg).1 (plainGet_of hg).2 hf (beq_iff_eq.mp ht) (by show(lookIn name od).map (·.isSome)=be false;rw[hl,hv];rfl) h
def wK{ns:List A_}{Q:Unit->KM->Prop}(X:K.In s.heap)(I:ObjM s.heap x dx C mA)
  (hs:findIn K (.ref C) "__setattr__"=be (be (.builtin "object.__setattr__"))) (hp:plainOver K C=true) (ht:takerIn K C name=be r_) (hh:hasDictIn K C=true)
  (hw:PySem.Within mA ns) (g8:ns.length<=sizeLine)
  (h:∀h',ObjM h' x dx C (λy=>if y=name then be v else mA y)->Heap.SameBut dx s.heap h'->Q () {s with heap:=h',toks:=s.toks+2}):
  Q7 (Q8 prog w) A (setAttr (.ref x) name v) Q E s:=by
 obtain⟨od,J,hl⟩:=I.look;refine set_plain X J hs (osa_open (s:={s with toks:=s.toks+1}) (r:=r_) X J hp ht λb=>?_);obtain⟨cd,hc,i6⟩:=any_some hh;have hx:s.heap.get? x=be #[.ref C,be dx,.plain,[].toArray]:=I.obj;refine Os (Q9 (Os (Os (wpAny_loadPart hx (Os (PySem.W.Looks.here (s:={s with toks:=s.toks+1}) (looks_clsIn X hc) ?_))))));rw[i6];refine Q9 (a:=be dx) (Os (Q9 (Os ?_)));refine wpAny_nsSet1 (s:={s with toks:=s.toks+1}) I.ns λh' JN j9=>?_;obtain⟨oD,Qz,QA,O_,Pa,Pb⟩:=JN.count (PySem.Within.cons name v hw);refine Os (wpAny_lookBehind O_ (by rw[Pa];exact pastItsLine_dict (FQ Pb (by rw[FW];lia))) ?_);exact Q9 (h _ #[(j9.2 _ (Ne.symm I.ne)).trans I.obj,JN,I.ne] j9)
def wL{R:Result->KM->Prop}{vs:List KB}{kw:List (A_×KB)}(X:K.In s.heap)(hm:makesIn K C=true)
  (hi:findIn K (.ref C) "__init__"=be (be (.ref f))) (hf:typeIn K (.ref f)=be (.type "function"))
  (h:R7 (Q8 prog w) (A.under (.builtin "type.__call__" #[.ref C::vs,kw])) (.call (.ref f) #[.ref (s.heap.objs.size+1)::vs,kw]) (InitBack (s.heap.objs.size+1) R)
   {s with heap:=(s.heap.push emptyDict).push (instObj C s.heap.objs.size)}):
  R7 (Q8 prog w) A (.call (.ref C) #[vs,kw]) R s:=by
 obtain⟨hh,g,d,t,os⟩:=s;exact make_core (makes_of X hm) (looks_findIn X hi) (λself=>bind_fn X self hf) (.inl rfl) h
end
def putF(f:A_)(v:V):List (A_×V)->List (A_×V)
 |[]=>[(f,v)]
 |(g,x)::r=>if g=f then(g,v)::r else(g,x)::putF f v r
def qj(f g:A_)(v:V):∀fs:List (A_×V),(putF f v fs).lookup g=if g=f then be v else fs.lookup g
 |[]=>by
  show GF g [(f,v)]=_;by_cases h:g=f
  .have hb:(g==f)=true:=beq_iff_eq.mpr h;simp only[GF,hb,if_pos h]
  .have hb:(g==f)=false:=beq_eq_false_iff_ne.mpr h;simp only[GF,hb,if_neg h]
 |(k,x)::r=>by
  have ih:=qj f g v r;rw[show putF f v ((k,x)::r)=(if k=f then(k,v)::r else(k,x)::putF f v r)from rfl];by_cases hk:k=f
  .rw[if_pos hk];by_cases h:g=k
   .have hb:(g==k)=true:=beq_iff_eq.mpr h;simp only[GF,hb,if_pos (h.trans hk)]
   .have hb:(g==k)=false:=beq_eq_false_iff_ne.mpr h;simp only[GF,hb,if_neg (λe:g=f=>h (e.trans hk.symm))]
  .rw[if_neg hk];by_cases h:g=k
   .have hb:(g==k)=true:=beq_iff_eq.mpr h;simp only[GF,hb,if_neg (λe:g=f=>hk (h.symm.trans e))]
   .have hb:(g==k)=false:=beq_eq_false_iff_ne.mpr h;simp only[GF,hb];exact ih
def jD(f:A_)(v:V):∀fs:List (A_×V),f∈(putF f v fs).map (·.1)/\∀g,g∈fs.map (·.1)->g∈(putF f v fs).map (·.1)
 |[]=>#[by simp[putF],λg h=>by simp at h]
 |(k,x)::r=>by
  obtain⟨i1,i2⟩:=jD f v r;rw[show putF f v ((k,x)::r)=(if k=f then(k,v)::r else(k,x)::putF f v r)from rfl];by_cases hk:k=f
  .rw[if_pos hk];subst hk;exact#[JU,λg h=>by simpa using h]
  .rw[if_neg hk];refine#[?_,λg h=>?_]
   .rw[Gc];exact FM _ i1
   .rw[Gc]at h ⊢;rcases FL.mp h with e|e
    .exact FL.mpr (.inl e)
    .exact FM _ (i2 g e)
def qk(f:A_)(v:V):∀fs:List (A_×V),(putF f v fs).length<=fs.length+1
 |[]=>by simp[putF]
 |(k,x)::r=>by
  have ih:=qk f v r;rw[show putF f v ((k,x)::r)=(if k=f then(k,v)::r else(k,x)::putF f v r)from rfl];by_cases hk:k=f
  .rw[if_pos hk,FW,FW];lia
  .rw[if_neg hk,FW,FW];lia
def RelO.some_of{v:V}{o:Option KB}(r:RelO (be v) o):∃u,o=be u/\RelV v u:=by
 cases o with
 |none=>exact(show False from r).elim
 |some u=>exact#[u,rfl,r]
def RelO.none_of{o:Option KB}(r:RelO r_ o):o=none:=by
 cases o with
 |none=>rfl
 |some u=>exact(show False from r).elim
def wM{v:V}(r:RelV v u):handedIn u=true:=by
 cases v with
 |non=>cases(show u=Value.none from r);rfl
 |bl b=>cases(show u=Value.bool b from r);rfl
 |int i=>obtain⟨t,e⟩:=(show ∃t,u=Value.int i t from r);cases e;rfl
 |str x=>obtain⟨t,e⟩:=(show ∃t,u=Value.str x t from r);cases e;rfl
 |byt b=>obtain⟨t,e⟩:=(show ∃t,u=Value.bytes b t from r);cases e;rfl
 |flt b=>obtain⟨t,e⟩:=(show ∃t,u=Value.float b t from r);cases e;rfl
 |ref a=>cases(show u=Value.ref a from r);rfl
 |ty n=>cases(show u=Value.type n from r);rfl
section
variable {P:Q5}{w:Q_}{H H':Hp}{h h':Rc}{a C dx:KF}{fs o_:List (A_×V)}
def gw(hok:HOk P w H h)(e:H a=be (.ins C dx fs)):∃mA,ObjM h a dx C mA/\(∀f,RelO (fs.lookup f) (mA f))/\PySem.Within mA (fs.map (·.1))/\fs.length<=1000/\H dx=be (.own a):=by
 obtain⟨d,z,ne,ob,mA,n,r,q⟩:=(show ObjOk P w H h a (.ins C dx fs)from hok a _ e);exact#[mA,#[ob,n,ne],r,q,z,d]
end
structure Cls(K:Ex)(C:KF):Prop where
 pg:plainGet K C Str.empty=true
 hd:hasDictIn K C=true
 po:plainOver K C=true
 sa:findIn K (.ref C) "__setattr__"=be (be (.builtin "object.__setattr__"))
def Cls.get(c:Cls K C)(f:A_):plainGet K C f=true:=c.pg
def NoAttr(K:Ex)(C:KF)(f:A_):Prop:=findIn K (.ref C) f=be r_
def NoAttr.taker{f:A_}(n:NoAttr K C f):takerIn K C f=be none:=by
 unfold takerIn;rw[show findIn K (.ref C) f=be r_ from n];rfl
structure Meth(K:Ex)(C:KF)(m:Str)(f:KF):Prop where
 at_:findIn K (.ref C) m=be (be (.ref f))
 fn:isFn K (.ref f)=true
 kp:keepIn K (.ref f)=true
section
variable {X:Cx}{pins:List (KF×Ro)}{σ:St}{H:Hp}{s:KM}{a C dx:KF}{fs:List (A_×V)}{f:A_}{v:V}{A:Ra}{E:KB->KM->Prop}
variable{Q:KB->KM->Prop}
def wO{b:Bool}(I:Inv X pins σ H s)(e:H a=be (.ins C dx fs))(c:Cls X.K C)(n:NoAttr X.K C f)(l:fs.lookup f=be v)
  (h:∀u s',Inv X pins σ H s'->RelV v u->Q u s'):Q7 (Q8 X.prog X.w) A (getAttr (.ref a) f b) Q E s:=by
 obtain⟨mA,O,r,_,_,_⟩:=gw I.hok e;obtain⟨u,hu,ru⟩:=RelO.some_of (v:=v) (o:=mA f) (by rw[<-l];exact r f);exact wI I.kIn O (c.get f) c.hd n hu (wM ru) (h u _ (I.tok _) ru)
def jE{m:A_}{g:KF}{pl:SF Bool}{Q:KB×List KB->KM->Prop}(I:Inv X pins σ H s)(e:H a=be (.ins C dx fs))(c:Cls X.K C)(k:Meth X.K C m g)(l:fs.lookup m=r_)
  (h:Q (.ref g,[.ref a]) s):Q7 (Q8 X.prog X.w) A (Sb (.ref a) m pl) Q E s:=by
 obtain⟨mA,O,r,_,_,_⟩:=gw I.hok e;have hn:mA m=none:=RelO.none_of (by rw[<-l];exact r m);exact wJ I.kIn O (c.get m) k.at_ k.fn hn h
def wP{y:V}{u:KB}{Q:Unit->KM->Prop}(I:Inv X pins σ H s)(e:H a=be (.ins C dx fs))(c:Cls X.K C)(n:NoAttr X.K C f)(hl:fs.length<1000)(ry:RelV y u)
  (h:∀s',Inv X pins σ (upd H a (.ins C dx (putF f y fs))) s'->Q () s'):Q7 (Q8 X.prog X.w) A (setAttr (.ref a) f u) Q E s:=by
 obtain⟨mA,O,r,wi,_,ho⟩:=gw I.hok e;have hz:(fs.map (·.1)).length<=sizeLine:=by rw[FP,Se];lia
 refine wK I.kIn O c.sa c.po n.taker c.hd wi hz λh' O' sb=>h _ ?_;have hd:∃o,h'.get? dx=be o:=let ⟨o,_,_,e',_⟩:=O'.ns;#[o,e']
 refine I.write (x:=a) (e:=dx) (by rw[e];exact True.intro) (.inr ho) (λb q hb z=>(sb.2 b hb).trans z) hd ?_;refine#[by rw[ay O.ne];exact ho,?_,O.ne,O'.obj,_,O'.ns,λg=>?_,λg hg=>?_]
 .have:=qk f y fs;lia
 .show RelO ((putF f y fs).lookup g) (if g=f then be u else mA g);rw[qj];by_cases q:g=f
  .rw[if_pos q,if_pos q];exact ry
  .rw[if_neg q,if_neg q];exact r g
 .by_cases q:g=f
  .rw[q];exact(jD f y fs).1
  .refine(jD f y fs).2 g (wi g λz=>hg ?_);show(if g=f then be u else mA g)=r_;rw[if_neg q];exact z
def Inv.made(I:Inv X pins σ H s):Inv X pins σ (upd (upd H s.heap.objs.size (.own (s.heap.objs.size+1))) (s.heap.objs.size+1) (.ins C s.heap.objs.size []))
  {s with heap:=(s.heap.push emptyDict).push (instObj C s.heap.objs.size)}:=by
 have e1:(s.heap.push emptyDict).get? s.heap.objs.size=be emptyDict:=Heap.get?_push_size s.heap rfl;have e2:((s.heap.push emptyDict).push (instObj C s.heap.objs.size)).get? (s.heap.objs.size+1)=be (instObj C s.heap.objs.size):=by
  have:=Heap.get?_push_size (s.heap.push emptyDict) (o:=instObj C s.heap.objs.size) rfl;rwa [Heap.size_push]at this
 have e3:(s.heap.push emptyDict).Ns s.heap.objs.size (λ_=>r_):=#[emptyDict,[].toArray,_,e1,rfl,(λe he=>absurd he JU),λ_=>rfl];have I1:=I.laid (a:=s.heap.objs.size) (o:=.own (s.heap.objs.size+1)) (h':=s.heap.push emptyDict) (t':=s.toks) (λb u q=>Heap.get?_push_of_some _ q) (FK _) #[_,e1];refine I1.laid (a:=s.heap.objs.size+1) (o:=.ins C s.heap.objs.size []) (t':=s.toks) (λb u q=>Heap.get?_push_of_some _ q) (Hj (Heap.size_push _ _)) ?_;have ne:s.heap.objs.size≠s.heap.objs.size+1:=FR (Ic _);refine#[by rw[ay ne,aG],Gb _,ne,e2,λ_=>r_,(Heap.Ns1.of_empty e3).at λo q=>Heap.get?_push_of_some _ q,λ_=>True.intro,λy hy=>absurd rfl hy]
def attr_of{prog:Q5}{w:Q_}{env:RQ}{e:P3}{f:A_}{pos:Ri}{s:KM}(hb:Rh e f env (Rg e env)=Rg e env)
  (h:Q7 (Q8 prog w) A (Rg e env) (λo s₁=>Q7 (Q8 prog w) A (getAttr o f true) Q E s₁) E s):Q7 (Q8 prog w) A (Rg (.Attribute e f pos) env) Q E s:=
 Attribute_any_ h (by rw[arm_eval_Attribute,hb])
end
def tFld(K:Ex)(ta:TE)(f:A_):TE:=λσ H Q=>ta σ H λx H1=>∃a C dx fs v,x=.ref a/\H1 a=be (.ins C dx fs)/\Cls K C/\NoAttr K C f/\fs.lookup f=be v/\Q v H1
def sFld(K:Ex)(ta tv:TE)(f:A_):TS:=λD σ H=>tv σ H λy H1=>ta σ H1 λx H2=>∃a C dx fs,x=.ref a/\H2 a=be (.ins C dx fs)/\Cls K C/\NoAttr K C f/\fs.length<1000/\
 D.nx σ (upd H2 a (.ins C dx (putF f y fs)))
section
variable {X:Cx}{o e value:P3}{f:A_}{pos d9 Ku:Ri}{ta tv:TE}
def ql(he:PE X e ta)(hb:Rh e f X.env (Rg e X.env)=Rg e X.env):PE X (.Attribute e f pos) (tFld X.K ta f):=by
 intro pins s σ H Q I h;refine attr_of hb (thn (he pins s σ H _ I h) λu s1 c7=>?_);obtain⟨x,H1,I1,rx,a,C,dx,fs,v,ex,ea,c,n,l,q⟩:=c7;subst ex;obtain rfl:u=Value.ref a:=rx;exact wO I1 ea c n l λu' s2 I2 ru=>#[v,H1,I2,ru,q]
def qm(ha:PE X o ta)(hv:PE X value tv)(hs:Rq value (be (.Attribute o f d9)) pos.line X.env=pure false):PS X (.Assign [.Attribute o f d9] value pos) (sFld X.K ta tv f):=by
 intro pins s σ H D I h;refine plainObj_wpAny_Assign_Attribute (thn (hv pins s σ H _ I h) λu s1 ⟨y,H1,I1,ry,q⟩=>thn (ha pins s1 σ H1 _ I1 q) λov s2 hh=>?_) hs;obtain⟨x,H2,I2,rx,a,C,dx,fs,ex,ea,c,n,l,q2⟩:=hh;subst ex;obtain rfl:ov=Value.ref a:=rx;exact wP I2 ea c n l ry λs3 I3=>#[σ,_,I3,q2]
end
section
variable {X:Cx}{pins:List (KF×Ro)}{σ:St}{H:Hp}{s:KM}{A:Ra}{E:KB->KM->Prop}{Q:KB->KM->Prop}{c:KB}{b:Bool}
inductive TyOf(K:Ex)(H:Hp):V->KB->Prop where
 |non:TyOf K H .non (.type "NoneType")
 |bl (x:Bool):TyOf K H (.bl x) (.type "bool")
 |int (i:Int):TyOf K H (.int i) (.type "int")
 |str (x:Str):TyOf K H (.str x) (.type "str")
 |flt (x:UInt64):TyOf K H (.flt x) (.type "float")
 |lst {a:KF} {xs:List V} (e:H a=some (.lst xs)):TyOf K H (.ref a) (.type "list")
 |frz {a:KF} {o:Ro} {xs:List V} (e:H a=some (.frz o (.lst xs))):TyOf K H (.ref a) (.type "list")
 |tup {a:KF} {xs:List V} (e:H a=some (.tup xs)):TyOf K H (.ref a) (.type "tuple")
 |dK {a:KF} {a8:List (Key×V)} (e:H a=some (.dK a8)):TyOf K H (.ref a) (.type "dict")
 |dT {a:KF} {a8:List (List Key×V)} (e:H a=some (.dT a8)):TyOf K H (.ref a) (.type "dict")
 |ins {a C dx:KF} {fs:List (Str×V)} (e:H a=some (.ins C dx fs)) (cl:Cls K C) (ha:findIn K (.ref C) "__class__"=some (some (.builtin "object.__class__")))
   (hn:specialIn K (.builtin "object.__class__") "__get__"=be (be (.builtin "getset_descriptor.__get__"))) (N4:takesIn K (.builtin "object.__class__")=be true)
   (hm:mroIn K C (.type "object")=be true):TyOf K H (.ref a) (.ref C)
def wQ{x:V}{u t:KB}(I:Inv X pins σ H s)(rx:RelV x u)(ty:TyOf X.K H x t)(e:kitOne X.K t c=be b)(h:∀tk,Q (.bool b) {s with toks:=tk}):
  Q7 (Q8 X.prog X.w) A (call (.builtin "isinstance") [u,c]) Q E s:=by
 cases ty with
 |non=>cases(show u=Value.none from rx);exact kia_one kitx_none I.kIn True.intro e (λz=>nomatch z) h
 |bl y=>cases(show u=Value.bool y from rx);exact kia_one kitx_bool I.kIn True.intro e (λz=>nomatch z) h
 |int i=>obtain⟨t,q⟩:=(show ∃t,u=Value.int i t from rx);cases q;exact kia_one kitx_int I.kIn True.intro e (λz=>nomatch z) h
 |str y=>obtain⟨t,q⟩:=(show ∃t,u=Value.str y t from rx);cases q;exact kia_one kitx_str I.kIn True.intro e (λz=>nomatch z) h
 |flt y=>obtain⟨t,q⟩:=(show ∃t,u=Value.float y t from rx);cases q;exact kia_one kitx_float I.kIn True.intro e (λz=>nomatch z) h
 |@lst a xs ea=>
  cases(show u=Value.ref a from rx);obtain⟨_,_,n,_,h1⟩:=(show ObjOk X.prog X.w H s.heap a (.lst xs)from I.hok a _ ea);exact kia_one kitx_list I.kIn #[_,h1,rfl] e (λz=>nomatch z) h
 |@frz a ob xs ea=>
  cases(show u=Value.ref a from rx);obtain⟨_,_,_,n,_,h1⟩:=(show ObjOk X.prog X.w H s.heap a (.frz ob (.lst xs))from I.hok a _ ea);exact kia_one kitx_list I.kIn #[_,h1,rfl] e (λz=>nomatch z) h
 |@tup a xs ea=>
  cases(show u=Value.ref a from rx);obtain⟨_,_,_,p⟩:=(show ObjOk X.prog X.w H s.heap a (.tup xs)from I.hok a _ ea);obtain⟨o,h1,h2,_⟩:=p;exact kia_one kitx_tuple I.kIn #[o,h1,h2] e (λz=>nomatch z) h
 |@dK a a8 ea=>
  cases(show u=Value.ref a from rx);obtain⟨_,_,vs,_,p⟩:=(show ObjOk X.prog X.w H s.heap a (.dK a8)from I.hok a _ ea);obtain⟨o,es,ep,h1,h2,_⟩:=p;exact kia_one kitx_dict I.kIn #[o,h1,h2.1] e (λz=>nomatch z) h
 |@dT a a8 ea=>
  cases(show u=Value.ref a from rx);obtain⟨_,_,xs,_,o,es,ep,h1,h2,_⟩:=(show ObjOk X.prog X.w H s.heap a (.dT a8)from I.hok a _ ea);exact kia_one kitx_dict I.kIn #[o,h1,h2.1] e (λz=>nomatch z) h
 |@ins a C dx fs ea cl ha hn N4 hm=>
  cases(show u=Value.ref a from rx);obtain⟨mA,O,_⟩:=gw I.hok ea;obtain⟨od,J,_⟩:=O.look;exact kia_one (kitx_own (cl.get _) cl.hd ha hn N4 hm) I.kIn J e (λz=>nomatch z) h
end
structure Room(k:Nat)(A:Ra):Prop where
 hd:A.handled=r_
 dp:A.depth+3*k+5<recursionLimit
 un:A.units+16*k+200<Ss
variable{k:Nat}
def Room.mono{j:Nat}(r:Room k A)(h:j<=k):Room j A:=#[r.hd,by have:=r.dp;lia,by have:=r.un;lia]
def Room.deeper(r:Room (k+1) A)(env:RQ):Room k (A.deeper env):=
 #[r.hd,by have:=r.dp;show A.depth+1+3*k+5<_;lia,by have:=r.un;show A.units+3+16*k+200<_;lia]
variable{kw:List (A_×KB)}
def wR:(A.under (.builtin "type.__call__" #[.ref C::us,kw])).depth=A.depth+1:=by
 first|rfl|simp[Around.under,Code.weight,Code.isCreation,Code.isGuard,Code.isCaller,Code.frames,Code.isFrame,guardIds]
def wS:(A.under (.builtin "type.__call__" #[.ref C::us,kw])).units=A.units+1:=by
 first|rfl|simp[Around.under,Code.cUnits,Code.frames,Code.isFrame]
def Room.make(r:Room (k+1) A)(C:KF)(us:List KB)(kw:List (A_×KB)):Room k (A.under (.builtin "type.__call__" #[.ref C::us,kw])):=
 #[r.hd,by have:=r.dp;rw[wR];lia,by have:=r.un;rw[wS];lia]
def Room.depth(r:Room k A):A.depth<recursionLimit:=by have:=r.dp;lia
def Room.units(r:Room k A):A.units+64<Ss:=by have:=r.un;lia
def tNil:TA:=λ_ H Q=>Q [] H
def qo(ta:TE)(tr:TA):TA:=λσ H Q=>ta σ H λx H1=>tr σ H1 λxs H2=>Q (x::xs) H2
section
variable {X:Cx}{e:P3}{es:List P3}{te:TE}{t:TA}{pos:Ri}
def pa_nil:PA X [] tNil:=λ_ _ _ _ H Q I h=>Calls.spliced_nil #[[],H,I,.nil,h]
def bv(ha:PE X e te)(hr:PA X es t)(hs:autoParam (zSE X e es) zA0):PA X (e::es) (qo te t):=by
 intro pos pins s σ H Q I h;rw[hs];show Q7 _ _ (spliced ((false,Rg e X.env)::RZ pos (Re es X.env))) _ _ s;refine Calls.spliced_cons (thn (ha pins s σ H _ I h) λu s1 c7=>?_);obtain⟨x,H1,I1,r1,q1⟩:=c7;exact thn (hr pos pins s1 σ H1 _ I1 q1) λus s2 ⟨xs,H2,I2,r2,q2⟩=>#[x::xs,H2,I2,.cons r1 r2,q2]
def tTup(t:TA):TE:=λσ H Q=>t σ H λxs H1=>xs.length<=sizeLine/\∀p,H1 p=r_->Q (.ref p) (upd H1 p (.tup xs))
def tLst(t:TA):TE:=λσ H Q=>t σ H λxs H1=>xs.length<=sizeLine/\∀p,H1 p=r_->Q (.ref p) (upd H1 p (.lst xs))
def qp{x1}(h:PA X es t):PE X (.Tuple es x1 pos) (tTup t):=by
 intro pins s σ H Q I hq;refine wpAny_Tuple_spliced (thn (h pos pins s σ H _ I hq) λus s1 ⟨xs,H1,I1,r,z,q⟩=>#[by rw[<-r.length];exact z,?_]);have hf:H1 s1.heap.objs.size=none:=I1.hok.fresh (FK _);refine#[.ref s1.heap.objs.size,upd H1 s1.heap.objs.size (.tup xs),I1.laid (t':=s1.toks) (λb u e=>Heap.get?_push_of_some _ e) (FK _) ?_,rfl,q _ hf];exact#[z,us,r,#[_,Heap.get?_push_size _ rfl,rfl,_,rfl]]
def gx(h:PA X es t):PE X (.List es pos) (tLst t):=by
 intro pins s σ H Q I hq;refine wpAny_List_spliced (thn (h pos pins s σ H _ I hq) λus s1 ⟨xs,H1,I1,r,z,q⟩=>#[by rw[<-r.length];exact z,?_]);have hf:H1 s1.heap.objs.size=none:=I1.hok.fresh (FK _);refine#[.ref s1.heap.objs.size,upd H1 s1.heap.objs.size (.lst xs),I1.laid (t':=s1.toks) (λb u e=>Heap.get?_push_of_some _ e) (FK _) ?_,rfl,q _ hf];exact#[z,us,0,r,Heap.get?_push_size _ rfl]
end
abbrev Sp:=List V->Hp->VK->XK->Prop
abbrev CXT:=List RQ->Hp->KM->XK->KB->KM->Prop
structure Env0(P:Q5)(w:Q_)(K:Ex)(mg:Str->Option KB)(base:Rc)(A:Ra)(outer:List RQ)(s:KM)(H:Hp):Prop where
 frames:A.frames=be outer
 mod:Mod K mg base
 bs:∀b o,base.get? b=be o->s.heap.get? b=be o/\H b=r_
 bsz:base.objs.size<=s.heap.objs.size
 funs:s.heap.FunFrames base outer
 frf:∀b∈frs outer,H b=r_
 hok:HOk P w H s.heap
 bare:RU s.gens
def CE(outer:List RQ)(P:Q5)(w:Q_)(H:Hp)(s:KM)(Q:VK)(u:KB)(s':KM):Prop:=
 ∃v H',s'.os=s.os/\RU s'.gens/\Un (frs outer) [] H H' s.heap s'.heap/\HOk P w H' s'.heap/\RelV v u/\Q v H'
def CR(CX:CXT)(outer:List RQ)(P:Q5)(w:Q_)(H:Hp)(s:KM)(Q:VK)(E:XK)(r:Result)(s':KM):Prop:=
 match r with
 |.ok (.ret u)=>CE outer P w H s Q u s'
 |.ok _=>False
 |.error e=>CX outer H s E e s'
structure FnOk(P:Q5)(w:Q_)(K:Ex)(mg:Str->Option KB)(base:Rc)(CX:CXT)(k:Nat)(f:KF)(fd:Rf)(ps:List Str)(sp:Sp):Prop where
 len:∀vs H Q E,sp vs H Q E->vs.length=ps.length
 run:∀(A:Ra) (outer:List RQ) (s:KM) (H:Hp) (args:Args) (us:List KB) (vs:List V) (Q:VK) (E:XK),Room k A->Env0 P w K mg base A outer s H->R1 s fd args (ps.zip us)->Vals vs us->sp vs H Q E->
  R7 (Q8 P w) A (.call (.ref f) args) (CR CX outer P w H s Q E) s
variable{f:KF}{mg:A_->Option KB}{base:Rc}{CX:CXT}{fd:Rf}{ps:List A_}{sp:Sp}
def FnOk.mono{j:Nat}(F:FnOk P w K mg base CX j f fd ps sp)(h:j<=k):
  FnOk P w K mg base CX k f fd ps sp:=#[F.len,λA outer s H args us vs Q E hr=>F.run A outer s H args us vs Q E (hr.mono h)]
def FnOk.imp{Jr:Sp}(F:FnOk P w K mg base CX k f fd ps sp)
  (h:∀vs H Q E,Jr vs H Q E->sp vs H Q E):FnOk P w K mg base CX k f fd ps Jr:=
 #[λvs H Q E q=>F.len vs H Q E (h _ _ _ _ q),λA outer s H args us vs Q E hr he hb hv hs=>F.run A outer s H args us vs Q E hr he hb hv (h _ _ _ _ hs)]
variable{outer:List RQ}
def Env0.make(e:Env0 P w K mg base A outer s H)(C:KF)(us:List KB)(kw:List (A_×KB)):
  Env0 P w K mg base (A.under (.builtin "type.__call__" #[.ref C::us,kw])) outer s H:=#[by first|exact e.frames|(simpa[Around.under,Code.envs,Code.isFrame,pushEnvs]using e.frames),e.mod,e.bs,e.bsz,e.funs,e.frf,e.hok,e.bare]
section
variable {X:Cx}{pins:List (KF×Ro)}{σ:St}{H:Hp}{s s':KM}
def Inv.env0(I:Inv X pins σ H s):Env0 X.prog X.w X.K X.mg X.base X.A X.stack s H:=
 #[I.ok.frames,I.ok.mod,I.bs,FQ I.ok.bsz I.sz,I.stack,I.stkFree,I.hok,I.bare]
def Inv.after{Q:VK}{u:KB}(I:Inv X pins σ H s)(h:CE X.stack X.prog X.w H s Q u s'):EP X pins σ Q u s':=by
 obtain⟨v,H',os,bare,un,hok,r,q⟩:=h;obtain⟨hh,g,d,t,Pc⟩:=s';obtain rfl:Pc=s.os:=os;exact#[v,H',I.call (h':=hh) (g':=g) (d':=d) (t':=t) (ch:=[]) un hok bare (λb z=>absurd z JU),r,q]
end
def qq(sp:Sp)(f8:List V)(E:XK)(t:TA):TE:=λσ H Q=>t σ H λvs H1=>sp (vs++f8) H1 Q E
def wT(C:KF)(sp:Sp)(f8:List V)(E:XK)(t:TA):TE:=λσ H Q=>t σ H λvs H1=>∀x dx,H1 x=r_->H1 dx=r_->dx≠x->
 sp (.ref x::(vs++f8)) (upd (upd H1 dx (.own x)) x (.ins C dx [])) (λv H2=>v=.non/\Q (.ref x) H2) E
def Binds(K:Ex)(fd:Rf)(ps:List A_)(ds:List KB):Prop:=
 ∀(s:KM) (us:List KB),K.In s.heap->(us++ds).length=ps.length->R1 s fd #[us,[]] (ps.zip (us++ds))
def Binds.all(h:∀us:List KB,us.length=ps.length->RJ fd #[us,[]]=pure (ps.zip us)):Binds K fd ps []:=λs us _ hl=>by
 rw[Gn]at hl ⊢;exact .of_eq (h us hl)
def fv(CX:CXT)(X:Cx)(E:XK):Prop:=∀(pins:List (KF×Ro)) (σ:St) (H:Hp) (s:KM) (e:KB) (s':KM),Inv X pins σ H s->CX X.stack H s E e s'->X.xe e s'
section
variable {X:Cx}{CX:CXT}{k:Nat}{f C:KF}{fd:Rf}{ps:List A_}{sp:Sp}{f8:List V}{ds:List KB}{E:XK}{x m:A_}{p pos b_:Ri}{e o:P3}{es:List P3}{ta:TE}{t:TA}
variable{pins:List (KF×Ro)}{us:List KB}{vs:List V}
def wU{σ:St}{H:Hp}{s:KM}{Q:VK}(F:FnOk X.prog X.w X.K X.mg X.base CX k f fd ps sp)(hr:Room k X.A)(hb:Binds X.K fd ps ds)(hd:Vals f8 ds)(hx:fv CX X E)
  (I:Inv X pins σ H s) (r:Vals vs us) (h:sp (vs++f8) H Q E):Q7 (Q8 X.prog X.w) X.A (call (.ref f) us) (EP X pins σ Q) X.xe s:=by
 have r2:Vals (vs++f8) (us++ds):=r.append hd;have hl:(us++ds).length=ps.length:=by rw[<-r2.length];exact F.len _ _ _ _ h
 refine Sk (RP (F.run X.A X.stack s H #[us,[]] (us++ds) (vs++f8) Q E hr I.env0 (hb s us I.kIn hl) r2 h) λr s' hq=>?_);cases r with
 |error e=>exact hx pins σ H s e s' I hq
 |ok fl=>
  cases fl with
  |ret u=>exact I.after hq
  |next=>exact False.elim hq
  |brk=>exact False.elim hq
  |cont=>exact False.elim hq
def wV(F:FnOk X.prog X.w X.K X.mg X.base CX k f fd ps sp)(hr:Room k X.A)(hg:Gl X x)(hm:X.mg x=be (.ref f))(hk:keepIn X.K (.ref f)=true)(hb:Binds X.K fd ps ds)(hd:Vals f8 ds)(hx:fv CX X E)
  (ha:PA X (e::es) t) (d7:autoParam (zND x) zA1) (he:autoParam (zSE X e es) zA0) (c_:autoParam (zPL X pos es) zA0):
  PE X (.Call (.Name x p) (e::es) [] pos) (qq sp f8 E t):=by
 intro pins s σ H Q I h;refine Rl (cN I hg hm ?_ d7);refine callWith_K (h₀:=X.base) I.ok.mod.kin hk (thn (ha pos pins s σ H _ I h) λus s1 ⟨vs,H1,I1,r,q⟩=>#[I1.kIn,?_]) he c_;exact wU F hr hb hd hx I1 r q
structure Mk(K:Ex)(C f:KF):Prop where
 makes:makesIn K C=true
 init:findIn K (.ref C) "__init__"=be (be (.ref f))
 fn:isFn K (.ref f)=true
 kp:keepIn K (.ref C)=true
def wW{σ:St}{H:Hp}{s:KM}{Q:VK}(M:Mk X.K C f)(F:FnOk X.prog X.w X.K X.mg X.base CX k f fd ps sp)(hr:Room (k+1) X.A)(hb:Binds X.K fd ps ds)(hd:Vals f8 ds)
  (hx:fv CX X E) (I:Inv X pins σ H s) (r:Vals vs us)
  (h:∀x dx,H x=r_->H dx=r_->dx≠x->sp (.ref x::(vs++f8)) (upd (upd H dx (.own x)) x (.ins C dx [])) (λv H2=>v=.non/\Q (.ref x) H2) E):
  Q7 (Q8 X.prog X.w) X.A (call (.ref C) us) (EP X pins σ Q) X.xe s:=by
 have hq:=h (s.heap.objs.size+1) s.heap.objs.size (I.hok.fresh (GO _)) (I.hok.fresh (FK _)) (FR (Ic _));have I2:=Inv.made (C:=C) I;have r2:Vals (V.ref (s.heap.objs.size+1)::(vs++f8)) (Value.ref (s.heap.objs.size+1)::(us++ds)):=.cons rfl (r.append hd);have hl:(Value.ref (s.heap.objs.size+1)::us++ds).length=ps.length:=by
  have e:=r2.length;rw[F.len _ _ _ _ hq]at e;exact e.symm
 refine Sk (wL (f:=f) I.kIn M.makes M.init (beq_iff_eq.mp M.fn) (RP (F.run _ X.stack _ _ #[Value.ref (s.heap.objs.size+1)::us,[]] (Value.ref (s.heap.objs.size+1)::(us++ds)) _ _ E (hr.make C us [])
  (I2.env0.make C us []) (hb _ (Value.ref (s.heap.objs.size+1)::us) I2.kIn hl) r2 hq) λr s' C_=>?_))
 cases r with
 |error e=>exact hx pins σ _ _ e s' I2 C_
 |ok fl=>
  cases fl with
  |ret u=>
   obtain⟨v,H',I3,rv,ev,q3⟩:=I2.after C_;subst ev;exact#[rv,#[V.ref (s.heap.objs.size+1),H',I3,rfl,q3]]
  |next=>exact False.elim C_
  |brk=>exact False.elim C_
  |cont=>exact False.elim C_
def gy(M:Mk X.K C f)(F:FnOk X.prog X.w X.K X.mg X.base CX k f fd ps sp)(hr:Room (k+1) X.A)(hg:Gl X x)(hm:X.mg x=be (.ref C))(hb:Binds X.K fd ps ds)(hd:Vals f8 ds)(hx:fv CX X E)
  (ha:PA X (e::es) t) (d7:autoParam (zND x) zA1) (he:autoParam (zSE X e es) zA0) (c_:autoParam (zPL X pos es) zA0):
  PE X (.Call (.Name x p) (e::es) [] pos) (wT C sp f8 E t):=by
 intro pins s σ H Q I h;refine Rl (cN I hg hm ?_ d7);refine callWith_K (h₀:=X.base) I.ok.mod.kin M.kp (thn (ha pos pins s σ H _ I h) λus s1 ⟨vs,H1,I1,r,q⟩=>#[I1.kIn,?_]) he c_;exact wW M F hr hb hd hx I1 r q
end
structure FnScope(N P:List Str)(sc:RA):Prop where
 kind:sc.kind=.function
 co:sc.isCoroutine=false
 gen:sc.isGenerator=false
 nd:N.Nodup
 pre:N.take P.length=P
 par:∀x∈P,sc.names.lookup x=be .local\/sc.names.lookup x=be .cell
 nofree:∀y∈sc.names,y.2≠.free
def qr{kindOf:A_->Option RK}{x:A_}:∀{binds:List (A_×KB)} {m:A_->Option KB},(∀v,(x,v)∉binds)->Su kindOf binds m x=m x
 |[],_,_=>rfl
 |(n,v)::r,m,h=>by
  unfold Su;rw[qr λw hw=>h w (FM _ hw)];split
  .have:x≠n:=by rintro rfl;exact h v FO
   simp[this]
  .rfl
def bindC_out{kindOf:A_->Option RK}{x:A_}:∀{binds:List (A_×KB)} {m:A_->Option KB},(∀v,(x,v)∉binds)->Sv kindOf binds m x=m x
 |[],_,_=>rfl
 |(n,v)::r,m,h=>by
  unfold Sv;rw[bindC_out λw hw=>h w (FM _ hw)];split
  .rfl
  .have:x≠n:=by rintro rfl;exact h v FO
   simp[this]
def bindL_get{kindOf:A_->Option RK}{x:A_}{v:KB}:∀{P:List A_} {vs:List KB} {i:Nat} {m:A_->Option KB},P.Nodup->P[i]?=be x->vs[i]?=be v->kindOf x=be .local->
  Su kindOf (P.zip vs) m x=be v
 |[],_,_,_,_,h,_,_=>by simp at h
 |_::_,[],_,_,_,_,h,_=>by simp at h
 |p::P,w::vs,0,m,nd,h1,h2,hk=>by
  simp at h1 h2;subst h1;subst h2;show Su kindOf ((p,w)::P.zip vs) m p=_;unfold Su;rw[qr λv hv=>(Go.mp nd).1 (Hw hv).1,if_pos hk];simp
 |p::P,w::vs,i+1,m,nd,h1,h2,hk=>by
  show Su kindOf ((p,w)::P.zip vs) m x=_;unfold Su;exact bindL_get (i:=i) (Go.mp nd).2 (by simpa using h1) (by simpa using h2) hk
def qt{kindOf:A_->Option RK}{x:A_}{v:KB}:∀{P:List A_} {vs:List KB} {i:Nat} {m:A_->Option KB},P.Nodup->P[i]?=be x->vs[i]?=be v->kindOf x≠be .local->
  Sv kindOf (P.zip vs) m x=be v
 |[],_,_,_,_,h,_,_=>by simp at h
 |_::_,[],_,_,_,_,h,_=>by simp at h
 |p::P,w::vs,0,m,nd,h1,h2,hk=>by
  simp at h1 h2;subst h1;subst h2;show Sv kindOf ((p,w)::P.zip vs) m p=_;unfold Sv;rw[bindC_out λv hv=>(Go.mp nd).1 (Hw hv).1,if_neg hk];simp
 |p::P,w::vs,i+1,m,nd,h1,h2,hk=>by
  show Sv kindOf ((p,w)::P.zip vs) m x=_;unfold Sv;exact qt (i:=i) (Go.mp nd).2 (by simpa using h1) (by simpa using h2) hk
def start(N:List A_)(vs:List V):St:=vs.map be++Gr (N.length-vs.length) r_
def cxOf(CX:CXT)(P:Q5)(w:Q_)(K:Ex)(mg:A_->Option KB)(base:Rc)(N:List A_)(qual:A_)(scope:RA)(f:KF)(cd:KB)(A:Ra)(outer:List RQ)(s:KM)(H:Hp)(E:XK):Cx where
 prog:=P
 w:=w
 K:=K
 mg:=mg
 base:=base
 A:=A.deeper (Rk qual scope s.heap.objs.size f cd)
 N:=N
 s₀:=s
 H₀:=H
 env:=Rk qual scope s.heap.objs.size f cd
 outer:=outer
 stack:=Rk qual scope s.heap.objs.size f cd::outer
 ex:=[]
 calm:=true
 fn:=λ_=>true
 pn:=[]
 xe:=λe s'=>Q7 (Q8 P w) (A.deeper (Rk qual scope s.heap.objs.size f cd)) (Sz (Rk qual scope s.heap.objs.size f cd) e) (λ_ L8=>CX outer H s E e L8) (λe' L8=>CX outer H s E e' L8) s'
def cell_has{sc:RA}{n:Nat}{x:A_}(h:sc.names.lookup x=be .cell):∃c,(cellsFrom n sc.names []).lookup x=be c:=by
 have q:=cellsFrom_some sc.names n [] (.inl h);exact Option.isSome_iff_exists.mp q
variable{N:List A_}{scope:RA}
def wX{qual:A_}{cd:KB}{s1:KM}{E:XK}{vs:List V}
  (S:FnScope N ps scope) (hd:A.handled=r_) (e0:Env0 P w K mg base A outer s H) (hl:vs.length=ps.length) (r:Vals vs us)
  (x:InCallC s s.heap.objs.size (Su (Rk qual scope s.heap.objs.size f cd).kindOf (ps.zip us) λ_=>r_) (cellsFrom (s.heap.objs.size+1) scope.names []) (Sv (Rk qual scope s.heap.objs.size f cd).kindOf (ps.zip us) λ_=>r_) s1):
  Inv (cxOf CX P w K mg base N qual scope f cd A outer s H E) [] (start N vs) H s1:=by
 have c_:ps.length<=N.length:=by have:=congrArg Hx S.pre;rw[G2]at this;lia
 obtain⟨h1,tk,rfl,hk⟩:=x.done;have Kw:∀b:KF,b∉(cxOf CX P w K mg base N qual scope f cd A outer s H E).ex:=λb z=>absurd (show b∈([]:List KF)from z) JU;refine⟨#[e0.mod,S.kind,rfl,rfl,FK _,λy z c h1 h2=>?_,λy hy=>?_,λy c _ h=>?_,λ_=>hd,Around.frames_deeper e0.frames,.inr #[rfl,rfl],λb z=>absurd z (Kw b),e0.bs,e0.bsz,λb _ _=>Kw b,λb z=>absurd z (Kw b),e0.funs,e0.frf],
  rfl,e0.bare,Un.kept hk,#[_,x.toInCall.ns,λi y v h1 h2 h3=>?_],λy c h=>#[_,x.cell y c h],e0.hok.fresh (FK _),λy c h=>?_,λp hp=>absurd (show p∈([]:List (KF×Ro))from hp) JU,e0.hok.kept hk,?_⟩
 .exact name_of_addr x.apart (PySem.mem_of_lookup h1) (PySem.mem_of_lookup h2)
 .have hy:scope.names.lookup y=be .cell\/scope.names.lookup y=be .free:=hy;rcases hy with hy|hy
  .exact cell_has hy
  .exact absurd rfl (S.nofree _ (PySem.mem_of_lookup hy))
 .exact Hd (x.above y c (PySem.mem_of_lookup h))
 .have hi:i<vs.length:=by
   unfold start at h2;by_cases hi:i<vs.length
   .exact hi
   .rw[GH (by simpa using hi)]at h2;rw[Hy]at h2;split at h2<;>cases h2
  have ha:vs[i]?=be v:=by
   unfold start at h2;rw[Gv (by simpa using hi),FS]at h2;cases e:vs[i]? with
   |none=>rw[e]at h2;cases h2
   |some a=>rw[e]at h2;cases h2;rfl
  obtain⟨u,hu,rv⟩:=r.get ha;have hp:ps[i]?=be y:=by
   rw[<-S.pre,Hk JM];exact h1
  have N5:ps.Nodup:=by rw[<-S.pre];exact S.nd.sublist (List.take_sublist _ _)
  refine#[u,rv,?_];rcases S.par y (GP hp)with k|k
  .exact .inl #[k,bindL_get N5 hp hu k]
  .obtain⟨c,e⟩:=cell_has (n:=s.heap.objs.size+1) k;refine .inr #[.inl k,c,e,?_];have q:=x.cell y c e;rw[qt N5 hp hu (by show scope.names.lookup y≠_;rw[k];decide)]at q;exact q
 .exact e0.hok.fresh (Hd (x.above y c (PySem.mem_of_lookup h)))
 .unfold start;show _=N.length;rw[FV,FP,List.length_replicate];lia
def wY{name qual:A_}{params:Arguments}{body:List Q6}{dV kV doc pm cdv ct oc:KB}{an od:Option KF}
  {osl:Array (Option KB)}   (lk:K.lookup f=be #[oc,od,.func (fnOf name qual params body scope dV kV doc pm an cdv ct),osl]) (gV:codeIn K cdv qual=true) (S:FnScope N ps scope)
  (len:∀vs H Q E,sp vs H Q E->vs.length=ps.length)
  (a9:∀(A:Ra) (outer:List RQ) (s:KM) (H:Hp) (vs:List V) (Q:VK) (E:XK),Room k (A.deeper (Rk qual scope s.heap.objs.size f cdv))->sp vs H Q E->
   ∃t,PSs (cxOf CX P w K mg base N qual scope f cdv A outer s H E) body t/\t {nx:=λ_ H'=>Q .non H',rt:=Q} (start N vs) H):
  FnOk P w K mg base CX (k+1) f (fnOf name qual params body scope dV kV doc pm an cdv ct) ps sp:=by
 refine#[len,λA outer s H args us vs Q E hr e0 hb r Js=>?_];have hl:=len _ _ _ _ Js;have KX:K.In s.heap:=e0.mod.kin.keeps λb o e=>(e0.bs b o e).1;have Pd:s.heap.NoLimit:=e0.mod.nolimit.keeps λb o e=>(e0.bs b o e).1;have Kx:∀y∈ps.zip us,scope.names.lookup y.1=be .local\/(scope.names.lookup y.1=be .cell/\((cellsFrom (s.heap.objs.size+1) scope.names []).lookup y.1).isSome=true):=λ⟨n,v⟩ hy=>by
  rcases S.par n (Hw hy).1 with q|q
  .exact .inl q
  .exact .inr #[q,cellsFrom_some _ _ _ (.inl q)]
 refine codeAny_call_function hr.depth (KX _ _ lk) rfl S.co S.gen rfl (codeRec_of KX gV) (hb _ _ _ _ ?_);refine wpAny_newFunctionEnv_cells S.kind Kx λenv he s1 x=>?_;subst he;refine#[Pd.keeps x.toInCall.keep,codeAny_func ?_];obtain⟨t,ht,hq⟩:=a9 A outer s H vs Q E (hr.deeper _) Js;have I:Inv (cxOf CX P w K mg base N qual scope f cdv A outer s H E) [] (start N vs) H s1:=wX S hr.hd e0 hl r x;refine Rn (ht [] s1 (start N vs) H _ I hq) (λfl s' hs=>?_) λe s' hs=>hs;have e_:∀{σ':St} {H':Hp} {v:V} {u:KB},Inv (cxOf CX P w K mg base N qual scope f cdv A outer s H E) [] σ' H' s'->RelV v u->Q v H'->CE outer P w H s Q u s':=
  λ{σ' H' v u} J rv q=>#[v,H',J.os,J.bare,J.base,J.hok,rv,q]
 cases fl with
 |ret u=>
  obtain⟨v,σ',H',J,rv,q⟩:=hs;exact e_ J rv q
 |next=>
  obtain⟨σ',H',J,q⟩:=hs;exact e_ (v:=V.non) (u:=Value.none) J rfl q
 |brk=>
  obtain⟨_,_,_,q⟩:=hs;exact False.elim q
 |cont=>
  obtain⟨_,_,_,q⟩:=hs;exact False.elim q
section
variable {X:Cx}{x:A_}{p pos:Ri}{e:P3}{es:List P3}{t:TA}{id T:String}{r:List V->Hp->VK->Prop}
def tCB(r:List V->Hp->VK->Prop)(t:TA):TE:=λσ H Q=>t σ H λvs H1=>r vs H1 Q
def fw(hc:bE X (.builtin id) r)(hg:Gl X x)(hm:X.mg x=r_)(hv:Rm x=be (.builtin id))(ha:PA X (e::es) t)(hn:autoParam (x≠"__name__") zA1)(d7:autoParam (zND x) zA1)
  (he:autoParam (zSE X e es) zA0) (c_:autoParam (zPL X pos es) zA0):PE X (.Call (.Name x p) (e::es) [] pos) (tCB r t):=by
 intro pins s σ H Q I h;refine Rl (dA I hg hm hv ?_ hn d7);exact PyProof.Rows.callWith_builtin1 (thn (ha pos pins s σ H _ I h) λus s1 ⟨vs,H1,I1,r1,q1⟩=>hc pins s1 σ H1 vs us Q I1 r1 q1) he c_
def qu(hc:bE X (.type T) r)(hg:Gl X x)(hm:X.mg x=r_)(hv:Rm x=be (.type T))(ha:PA X (e::es) t)(hn:autoParam (x≠"__name__") zA1)(d7:autoParam (zND x) zA1)
  (he:autoParam (zSE X e es) zA0) (c_:autoParam (zPL X pos es) zA0):PE X (.Call (.Name x p) (e::es) [] pos) (tCB r t):=by
 intro pins s σ H Q I h;refine Rl (dA I hg hm hv ?_ hn d7);exact PyProof.Rows.callWith_type1 (thn (ha pos pins s σ H _ I h) λus s1 ⟨vs,H1,I1,r1,q1⟩=>hc pins s1 σ H1 vs us Q I1 r1 q1) he c_
end
end L2
namespace HT
open PySem PyProof.Rows
section
variable {prog:Q5}{w:Q_}{A:Ra}{E:KB->KM->Prop}{s:KM}
variable{Q:KB->KM->Prop}
def cat_tup{t b:KF}{vs ws:List KB}(ht:IsTup s.heap t vs.toArray)(hb:IsTup s.heap b ws.toArray)(hv:vs≠[])
  (h1:ws=[]->Q (.ref t) s) (h2:ws≠[]->Q (.ref s.heap.objs.size) {s with heap:=s.heap.push {cls:=.type "tuple",data:=.seq (vs++ws).toArray} })
  (g8:vs.length+ws.length<=sizeLine):Q7 (Q8 prog w) A (Rt .Add (.ref t) (.ref b)) Q E s:=by
 obtain⟨⟨cls,dd,data,sl⟩,ho,hc,n,hd⟩:=id ht;obtain⟨⟨Pe,N6,data2,N7⟩,Lr,N8,n2,Ls⟩:=id hb;simp only at hc hd N8 Ls;subst hc hd N8 Ls;have e:vs.toArray++ws.toArray=(vs++ws).toArray:=JU
 by_cases hw:ws=[]
 .exact concat_meets #[_,ho,rfl] #[_,Lr,rfl] noFill_tuple_add seq_tuple_add PySem.F.slot_tuple_add PySem.F.entry_tuple_add (PySem.F.args_tuple_add_2 _ _)
   (tuple_addW1 t b vs.toArray ws.toArray n n2 dd N6 sl N7 (by simpa using hv) (by simp[hw])) #[ho,Lr,h1 hw]
 .refine concat_meets #[_,ho,rfl] #[_,Lr,rfl] noFill_tuple_add seq_tuple_add PySem.F.slot_tuple_add PySem.F.entry_tuple_add (PySem.F.args_tuple_add_2 _ _)
   (tuple_addW2 t b vs.toArray ws.toArray n n2 dd N6 sl N7 (by simpa using hv) (by simpa using hw) (by rw[FT,FT];exact g8)) #[ho,Lr,?_]
  rw[e];exact h2 hw
def sIx(n d:Nat):Option Int->Nat
 |none=>d
 |some v=>if v<0 then(v+(n:Int)).toNat else min v.toNat n
def sIx_le(n d:Nat)(hd:d<=n)(o:Option Int):sIx n d o<=n:=by
 cases o with
 |none=>exact hd
 |some v=>
  show(if v<0 then(v+(n:Int)).toNat else min v.toNat n)<=n;by_cases hv:v<0
  .rw[if_pos hv];lia
  .rw[if_neg hv];exact Nat.min_le_right _ _
def qv(v:Int)(n d:Nat):(if v<0 then max (v+(n:Int)) 0 else min v (n:Int))=((sIx n d (be v):Nat):Int):=by
 show(if v<0 then max (v+(n:Int)) 0 else min v (n:Int))=(((if v<0 then(v+(n:Int)).toNat else min v.toNat n):Nat):Int);by_cases hv:v<0
 .simp only[if_pos hv];lia
 .simp only[if_neg hv];lia
def wZ(lo hi:Option Int)(n:Nat):Builtin.Slice.sliceAdjust lo hi 1 (n:Int)=(((sIx n 0 lo:Nat):Int),((sIx n n hi:Nat):Int)):=by
 have h1:¬((1:Int)<0):=JM
 unfold Builtin.Slice.sliceAdjust;simp only[h1,if_false];refine Prod.ext ?_ ?_
 .cases lo with
  |none=>rfl
  |some v=>exact qv v n 0
 .cases hi with
  |none=>rfl
  |some v=>exact qv v n n
def xa(i j:Nat):Builtin.Slice.slicePlaces (i:Int) (j:Int) 1=j-i:=by
 unfold Builtin.Slice.slicePlaces;have h1:(1:Int)>0:=JM
 simp only[h1,if_true,Int.ediv_one];split<;>lia
def qw{v:KB}{o:Option Int}{Q:Option Int->KM->Prop}(p:Sd v o)(h:Q o s):Q7 (Q8 prog w) A (Builtin.Slice.slicePartIndex v) Q E s:=by
 cases p with
 |none=>exact slicePart_none h
 |int i t=>exact slicePart_int h
variable{lo hi:Option Int}
def xb{sl:KF}{vl vu:KB}{n:Nat}{Q:Int×Int×Nat->KM->Prop}(hs:s.heap.IsSliceOf sl vl vu .none)(pl:Sd vl lo)(pu:Sd vu hi)
  (h:Q (((sIx n 0 lo:Nat):Int),1,sIx n n hi-sIx n 0 lo) s):Q7 (Q8 prog w) A (Builtin.Slice.sliceApplied (.ref sl) (pure (n:Int))) Q E s:=by
 obtain⟨os,D',N9,Lu⟩:=id hs;unfold Builtin.Slice.sliceApplied Builtin.Slice.sliceFields;refine Os (Os (RH D' Lu (x:=vl) rfl (Os (RH D' Lu (x:=vu) rfl (Os (RH D' Lu (x:=.none) rfl (Q9 ?_)))))));refine Os (slicePart_none ?_);show Q7 _ _ (if((1:Int)==0)=true then _ else _) _ _ s;rw[if_neg JQ];refine Os (qw pl (Os (qw pu (Os (Q9 ?_)))));show Q7 _ _ (match Builtin.Slice.sliceAdjust lo hi 1 (n:Int)with|(lo,hi)=>pure (lo,(1:Int),Builtin.Slice.slicePlaces lo hi 1)) _ _ s;rw[wZ lo hi n];show Q7 _ _ (pure (((sIx n 0 lo:Nat):Int),(1:Int),Builtin.Slice.slicePlaces ((sIx n 0 lo:Nat):Int) ((sIx n n hi:Nat):Int) 1)) _ _ s;rw[xa];exact Q9 h
def xc(xs:Array KB)(i k:Nat):((FN k).filterMap λ(m:Nat)=>xs[((i:Int)+(m:Int)*1).toNat]?).toArray=((xs.toList.drop i).take k).toArray:=by
 have e:(λ(m:Nat)=>xs[((i:Int)+(m:Int)*1).toNat]?)=λm=>xs[i+m]?:=by
  funext m;have:((i:Int)+(m:Int)*1).toNat=i+m:=JM
  rw[this]
 rw[e];have:=pick_run xs i k;rw[Ie]at this;have e2:((λx=>xs[x]?) ∘ λx=>i+x)=λm=>xs[i+m]?:=rfl;rw[e2]at this;rw[this]
def getItem_tuple_cut{t sl:KF}{items:Array KB}{vl vu:KB}(ht:IsTup s.heap t items)(hs:s.heap.IsSliceOf sl vl vu .none)(pl:Sd vl lo)(pu:Sd vu hi)
  (hw:¬(sIx items.size 0 lo=0/\sIx items.size items.size hi=items.size))
  (h:Q (.ref s.heap.objs.size) {s with heap:=s.heap.push {cls:=.type "tuple",data:=.seq ((items.toList.drop (sIx items.size 0 lo)).take (sIx items.size items.size hi-sIx items.size 0 lo)).toArray} })
  (g8:items.size<=sizeLine):Q7 (Q8 prog w) A (Si (.ref t) (.ref sl)) Q E s:=by
 have g6:sizeOk (.seq ((items.toList.drop (sIx items.size 0 lo)).take (sIx items.size items.size hi-sIx items.size 0 lo)).toArray):=by
  show((items.toList.drop (sIx items.size 0 lo)).take (sIx items.size items.size hi-sIx items.size 0 lo)).toArray.size<=sizeLine;rw[FT,G2,GQ,Hg];lia
 have hj:sIx items.size items.size hi<=items.size:=sIx_le _ _ (FK _) hi;obtain⟨os,D',N9,Lu⟩:=id hs;have Pf:s.TypeIs (.ref sl) "slice":=#[os,D',N9];unfold Si
 try with_reducible refine RG ?_
 first|refine Os (Q9 ?_)|skip
 refine Os (wpAny_sequenceKey ht.typeIs JQ ?_);refine Os (wpAny_callSpecial?_slot (name:=Str.ofString "__getitem__") ht.typeIs PyProof.Rows.slot_tuple_getitem
  (wpAny_call_entry PyProof.Rows.slot_tuple_getitem ht.typeIs entry_tuple_getitem ?_ (args_tuple_getitem _ _)))
 show Q7 _ _ (Builtin.Tuple.tupleItemsOf (.ref t)>>=_) _ _ s;refine Os (tupleItemsOf_ ht ?_);refine Os (wpAny_typeOf Pf ?_);rw[if_pos JQ];refine Os (xb hs pl pu ?_);have J7:¬((((sIx items.size 0 lo:Nat):Int)==0&&(1:Int)==1&&(sIx items.size items.size hi-sIx items.size 0 lo)==items.size)=true):=by
  intro q;rw[Gf,Gf]at q;have q1:((sIx items.size 0 lo:Nat):Int)=0:=eq_of_beq q.1.1;have q2:sIx items.size items.size hi-sIx items.size 0 lo=items.size:=eq_of_beq q.2;exact hw #[JM,JM]
 show Q7 _ _ (if(((sIx items.size 0 lo:Nat):Int)==0&&(1:Int)==1&&(sIx items.size items.size hi-sIx items.size 0 lo)==items.size)=true then _ else _) _ _ s;rw[if_neg J7,xc]
 first
  |exact Os (m:=Builtin.Tuple.tupleExact _) (Rj (Q9 ⟨_,rfl,Q9 h⟩) g6)
  |exact Os (m:=Builtin.Tuple.tupleExact _) (Rj (Os (Q9 (Q9 ⟨_,rfl,Q9 h⟩))) g6)
  |exact Os (Os (m:=Builtin.Tuple.tupleExact _) (Rj (Q9 (Q9 ⟨_,rfl,Q9 h⟩)) g6))
  |exact Os (Os (m:=Builtin.Tuple.tupleExact _) (Rj (Q9 ⟨_,rfl,Q9 h⟩) g6))
end
end HT
namespace L2
open PySem PySem.Spec PyProof.Rows
abbrev TO:=St->Hp->(Option Int->Hp->Prop)->Prop
def PO(X:Cx)(e:Option P3)(t:TO):Prop:=
 ∀(pins:List (KF×Ro)) (s:KM) (σ:St) (H:Hp) (Q:Option Int->Hp->Prop),Inv X pins σ H s->t σ H Q->
  Q7 (Q8 X.prog X.w) X.A (evalPart e X.env) (λu s'=>∃o H',Inv X pins σ H' s'/\Sd u o/\Q o H') X.xe s
def xf:TO:=λ_ H Q=>Q r_ H
def xg(t:TE):TO:=λσ H Q=>t σ H λx H1=>∃i,x=.int i/\Q (be i) H1
section
variable {X:Cx}{e:P3}{te:TE}{lo hi:Option P3}{tl th:TO}{pos p2:Ri}
def jF:PO X r_ xf:=by
 intro pins s σ H Q I h;rw[evalPart_none];exact Q9 #[r_,H,I,.none,h]
def jG(h:PE X e te):PO X (be e) (xg te):=by
 intro pins s σ H Q I hw;rw[evalPart_some];refine thn (h pins s σ H _ I hw) λu s1 c7=>?_;obtain⟨x,H1,I1,r1,q1⟩:=c7;obtain⟨i,rfl,q⟩:=q1;obtain⟨t,rfl⟩:=r1;exact#[be i,H1,I1,.int i t,q]
def SlR(X:Cx)(r:V->Option Int->Option Int->Hp->VK->Prop):Prop:=
 ∀(pins:List (KF×Ro)) (s:KM) (σ:St) (H:Hp) (x:V) (v vl vu:KB) (lo hi:Option Int) (sl:KF) (Q:VK),Inv X pins σ H s->RelV x v->s.heap.IsSliceOf sl vl vu .none->Sd vl lo->Sd vu hi->r x lo hi H Q->
  ∃T id,typeLookup (.type T) "__getitem__"=pure (be (.builtin id))/\s.TypeIs v T/\Q7 (Q8 X.prog X.w) X.A (Si v (.ref sl)) (EP X pins σ Q) X.xe s
variable{r:V->Option Int->Option Int->Hp->VK->Prop}
def SlR.or{r':V->Option Int->Option Int->Hp->VK->Prop}(h:SlR X r)(h':SlR X r'):SlR X (λx lo hi H Q=>r x lo hi H Q\/r' x lo hi H Q):=by
 intro pins s σ H x v vl vu lo hi sl Q I rx hs pl pu q;rcases q with q|q
 .exact h pins s σ H x v vl vu lo hi sl Q I rx hs pl pu q
 .exact h' pins s σ H x v vl vu lo hi sl Q I rx hs pl pu q
def tSl(r:V->Option Int->Option Int->Hp->VK->Prop)(te:TE)(tl th:TO):TE:=λσ H Q=>te σ H λx H1=>tl σ H1 λl H2=>th σ H2 λu H3=>r x l u H3 Q
def jH(hr:SlR X r)(he:PE X e te)(hl:PO X lo tl)(hu:PO X hi th):PE X (.Subscript e (.Slice lo hi r_ p2) pos) (tSl r te tl th):=by
 intro pins s σ H Q I h;refine Subscript_ (thn (he pins s σ H _ I h) λv s1 c7=>?_);obtain⟨x,H1,I1,r1,q1⟩:=c7;refine wpAny_Slice (thn (hl pins s1 σ H1 _ I1 q1) λvl s2 ⟨l,H2,I2,pl,q2⟩=>thn (hu pins s2 σ H2 _ I2 q2) λvu s3 c7=>?_);obtain⟨u,H3,I3,pu,q3⟩:=c7;rw[evalPart_none];refine Q9 ?_;have I4:Inv X pins σ H3 {s3 with heap:=s3.heap.push {cls:=.type "slice",data:=.fields [vl,vu,.none].toArray} }:=I3.kept (t':=s3.toks) λb ob q=>Heap.get?_push_of_some _ q;obtain⟨T,id,hT,ht,hg⟩:=hr pins {s3 with heap:=s3.heap.push {cls:=.type "slice",data:=.fields [vl,vu,.none].toArray} } σ H3 x v vl vu l u s3.heap.objs.size Q I4 r1 (Heap.IsSliceOf.new ..) pl pu q3;show Q7 (Q8 X.prog X.w) X.A (subscriptTail e (.Slice lo hi r_ p2) v (.ref s3.heap.objs.size)) (EP X pins σ Q) X.xe {s3 with heap:=s3.heap.push {cls:=.type "slice",data:=.fields [vl,vu,.none].toArray} };exact tail_any (ops:=[.ref s3.heap.objs.size,v]) ht hT hg (by with_unfolding_all rfl)
def cutV(xs:List V)(lo hi:Option Int):List V:=(xs.drop (HT.sIx xs.length 0 lo)).take (HT.sIx xs.length xs.length hi-HT.sIx xs.length 0 lo)
def qy(xs:List V)(lo hi:Option Int):(cutV xs lo hi).length<=xs.length:=by
 unfold cutV;rw[G2,GQ];lia
def rSlT(K:Ex):V->Option Int->Option Int->Hp->VK->Prop:=λx lo hi H Q=>∃a xs,x=.ref a/\SqT K H a xs/\
 ¬(HT.sIx xs.length 0 lo=0/\HT.sIx xs.length xs.length hi=xs.length)/\∀p,H p=r_->Q (.ref p) (upd H p (.tup (cutV xs lo hi)))
def xh:SlR X (rSlT X.K):=by
 intro pins s σ H x v vl vu lo hi sl Q I rx hs pl pu h;obtain⟨a,xs,rfl,hx,hw,q⟩:=h;cases rx;obtain⟨its,r,ht,hz⟩:=I.tuple hx;have b9:its.toArray.size=xs.length:=by rw[FT];exact r.length.symm
 refine#["tuple",_,PyProof.Rows.slot_tuple_getitem.lookup,ht.typeIs,?_];refine HT.getItem_tuple_cut ht hs pl pu (by rw[b9];exact hw) ?_ (by rw[b9];exact hz);rw[b9];refine#[.ref s.heap.objs.size,_,I.laid (t':=s.toks) (o:=.tup (cutV xs lo hi)) (λb ob q=>Heap.get?_push_of_some _ q) (FK _) ?_,rfl,q _ (I.hok.fresh (FK _))];exact#[FQ (qy xs lo hi) hz,_,(r.drop (HT.sIx xs.length 0 lo)).take (HT.sIx xs.length xs.length hi-HT.sIx xs.length 0 lo),IsTup.new _ _]
def qz(K:Ex):R2:=λx y H Q=>∃a b xs ys,x=.ref a/\y=.ref b/\SqT K H a xs/\SqT K H b ys/\xs≠[]/\xs.length+ys.length<=sizeLine/\
 (ys=[]->Q (.ref a) H)/\(ys≠[]->∀p,H p=r_->Q (.ref p) (upd H p (.tup (xs++ys))))
def Vals.nil_iff{xs:List V}{us:List KB}(r:Vals xs us):us=[]↔xs=[]:=by
 cases r with
 |nil=>simp
 |cons _ _=>simp
def xi:OpR X (Rt .Add) (qz X.K):=by
 intro pins s σ H x y v u Q I rx ry h;obtain⟨a,b,xs,ys,rfl,rfl,ha,hb,hx,hz,q1,q2⟩:=h;cases rx;cases ry;obtain⟨its,r1,p1,_⟩:=I.tuple ha;obtain⟨l5,r2,p2,_⟩:=I.tuple hb;refine HT.cat_tup p1 p2 (λz=>hx (r1.nil_iff.mp z)) (λz=>#[.ref a,H,I,rfl,q1 (r2.nil_iff.mp z)]) (λz=>?_) (by rw[<-r1.length,<-r2.length];exact hz);refine#[.ref s.heap.objs.size,_,I.laid (t':=s.toks) (o:=.tup (xs++ys)) (λb ob q=>Heap.get?_push_of_some _ q) (FK _) ?_,rfl,q2 (λw=>z (r2.nil_iff.mpr w)) _ (I.hok.fresh (FK _))];exact#[by rw[FV];exact hz,_,r1.append r2,IsTup.new _ _]
end
def ixN(n:Nat)(i:Int):Option Nat:=if 0<=i then(if i<n then be i.toNat else r_)else if -(n:Int)<=i then be (i+n).toNat else r_
def atI{α:Type}(xs:List α)(i:Int):Option α:=(ixN xs.length i).bind λj=>xs[j]?
def qA{n:Nat}{i:Int}{j:Nat}(h:ixN n i=be j):seqIndex? i n=be j/\j<n/\-(n:Int)<=i/\i<n:=by
 unfold ixN at h;by_cases h0:0<=i
 .rw[if_pos h0]at h;by_cases h1:i<n
  .rw[if_pos h1]at h;have e:i.toNat=j:=Option.some.inj h;exact#[by rw[SH h0 h1,e],JM,JM,h1]
  .rw[if_neg h1]at h;cases h
 .rw[if_neg h0]at h;by_cases h1:-(n:Int)<=i
  .rw[if_pos h1]at h;have e:(i+n).toNat=j:=Option.some.inj h;exact#[by rw[Sx JM h1,e],JM,h1,JM]
  .rw[if_neg h1]at h;cases h
def atI_get{α:Type}{xs:List α}{i:Int}{v:α}(h:atI xs i=be v):∃j,seqIndex? i xs.length=be j/\xs[j]?=be v/\j<xs.length/\-(xs.length:Int)<=i/\i<xs.length:=by
 unfold atI at h;cases e:ixN xs.length i with
 |none=>rw[e]at h;cases h
 |some j=>
  rw[e]at h;obtain⟨h1,h2,h3,h4⟩:=qA e;exact#[j,h1,h,h2,h3,h4]
def ce{α:Type}{xs:List α}{j:Nat}{v:α}(h:xs[j]?=be v):atI xs (j:Int)=be v:=by
 have hj:j<xs.length:=(FU.mp h).1;have e:ixN xs.length (j:Int)=be j:=by
  unfold ixN;rw[if_pos JM,if_pos JM];simp
 unfold atI;rw[e];exact h
def dS(b:P3):Prop:=∀o i,subscripted b false o i=operate [o,i] (Si o i)
def IxR(X:Cx)(r:R2):Prop:=
 ∀(value slice:P3) (pins:List (KF×Ro)) (s:KM) (σ:St) (H:Hp) (x y:V) (v u:KB) (Q:VK),Inv X pins σ H s->RelV x v->RelV y u->r x y H Q->
  subscripted slice false v u=operate [v,u] (Si v u)->Q7 (Q8 X.prog X.w) X.A (subscriptTail value slice v u) (EP X pins σ Q) X.xe s
def MtR(X:Cx)(id:String)(r:V->List V->Hp->VK->Prop):Prop:=
 ∀(pins:List (KF×Ro)) (s:KM) (σ:St) (H:Hp) (x:V) (xs:List V) (v:KB) (us:List KB) (Q:VK),Inv X pins σ H s->RelV x v->Vals xs us->r x xs H Q->
  Q7 (Q8 X.prog X.w) X.A (call (.builtin id) (v::us)) (EP X pins σ Q) X.xe s
section
variable {X:Cx}{a b:P3}{ta tb:TE}{pos:Ri}
def IxR.or{r r':R2}(h:IxR X r)(h':IxR X r'):IxR X (λx y H Q=>r x y H Q\/r' x y H Q):=by
 intro value slice pins s σ H x y v u Q I rx ry q hs;rcases q with q|q
 .exact h value slice pins s σ H x y v u Q I rx ry q hs
 .exact h' value slice pins s σ H x y v u Q I rx ry q hs
def pe_ix{r:R2}(hr:IxR X r)(ha:PE X a ta)(hb:PE X b tb)(hs:dS b):PE X (.Subscript a b pos) (tOp r ta tb):=by
 intro pins s σ H Q I h;exact Subscript_ (binT ha hb I h λv u s2 x y H2 I2 rx ry q=>hr a b pins s2 σ H2 x y v u Q I2 rx ry q (hs _ _))
def rIxL(K:Ex):R2:=λx y H Q=>∃p xs i v,x=.ref p/\y=.int i/\SqL K H p xs/\atI xs i=be v/\Q v H
def rIxT(K:Ex):R2:=λx y H Q=>∃p xs i v,x=.ref p/\y=.int i/\SqT K H p xs/\atI xs i=be v/\Q v H
def rIxS:R2:=λx y H Q=>∃z i c,x=.str z/\y=.int i/\z.length<=sizeLine/\atI z.cps.toList i=be c/\Q (.str #[[c].toArray]) H
def ix_list:IxR X (rIxL X.K):=by
 intro value slice pins s σ H x y v u Q I rx ry h hs;obtain⟨p,xs,i,z,rfl,rfl,hq,he,q⟩:=h;cases rx;obtain⟨t,rfl⟩:=ry;obtain⟨its,r,pl,hz⟩:=I.list hq;obtain⟨j,h1,h2,h3,h4,h5⟩:=atI_get he;obtain⟨w,ew,g5⟩:=r.get h2;have hl:=r.length;have hn:=line63;have e_:EP X pins σ Q w s:=#[z,H,I,g5,q];by_cases h0:0<=i
 .have hj:i.toNat=j:=by
   rw[SH h0 h5]at h1;exact Option.some.inj h1
  exact item_listR pl.isList h0 JM (by rw[hj];simpa using ew) e_ hs
 .have hj:(i+(its.toArray.size:Int)).toNat=j:=by
   rw[Sx JM h4]at h1;rw[FT,<-hl];exact Option.some.inj h1
  exact Sw (x:=w) pl.isList.typeIs slot_list_getitem.lookup
   (wpAny_getItem_list_neg (Q:=λr s'=>r=w/\EP X pins σ Q r s') pl.isList JM (by rw[FT]<;>lia) JM (by rw[hj];simpa using ew) #[rfl,e_]) hs
def ix_tup:IxR X (rIxT X.K):=by
 intro value slice pins s σ H x y v u Q I rx ry h hs;obtain⟨p,xs,i,z,rfl,rfl,hq,he,q⟩:=h;cases rx;obtain⟨t,rfl⟩:=ry;obtain⟨its,r,pl,hz⟩:=I.tuple hq;obtain⟨j,h1,h2,h3,h4,h5⟩:=atI_get he;obtain⟨w,ew,g5⟩:=r.get h2;have hl:=r.length;have hn:=line63;have e_:EP X pins σ Q w s:=#[z,H,I,g5,q];exact Sw (x:=w) pl.typeIs slot_tuple_getitem.lookup
  (getItem_tuple (j:=j) (Q:=λr s'=>r=w/\EP X pins σ Q r s') pl JM JM (by rw[FT,<-hl];exact h1) (by simpa using ew) #[rfl,e_]) hs
def xj:IxR X rIxS:=by
 intro value slice pins s σ H x y v u Q I rx ry h hs;obtain⟨z,i,c,rfl,rfl,hz,he,q⟩:=h;obtain⟨t,rfl⟩:=rx;obtain⟨t',rfl⟩:=ry;obtain⟨j,h1,h2,h3,h4,h5⟩:=atI_get he;have hl:z.cps.toList.length=z.length:=by simp[Str.length]
 rw[hl]at h1 h4 h5;have hn:=line63;exact tail_any (SN s z t) slot_str_getitem.lookup (getItem_str (c:=c) (by
  have e1:decide (i< -(2^63:Int))=false:=decide_eq_false JM;have e2:decide (i>=2^63)=false:=decide_eq_false JM;rw[e1,e2,Bool.or_false]) (by rw[h1];simpa using h2) #[.str #[[c].toArray],H,I.tok _,#[_,rfl],q]) hs
def rIx(K:Ex):R2:=λx y H Q=>rIxL K x y H Q\/rIxT K x y H Q\/rIxS x y H Q
def qB:IxR X (rIx X.K):=ix_list.or (ix_tup.or xj)
def xk(its:List KB)(n j:Nat)(u:KB):Obj.mapSeq (·.setIfInBounds j u) {cls:=.type "list",data:=.seq its.toArray n}={cls:=.type "list",data:=.seq (its.set j u).toArray n}:=by
 simp[Obj.mapSeq]
def Inv.lst{pins:List (KF×Ro)}{σ:St}{H:Hp}{s:KM}{p:KF}{xs:List V}(I:Inv X pins σ H s)(h:H p=be (.lst xs)):
  ∃(its:List KB) (n:Nat),Vals xs its/\s.heap.get? p=be {cls:=.type "list",data:=.seq its.toArray n}/\xs.length<=sizeLine:=by
 obtain⟨z,its,n,r,e⟩:=I.hok p _ h;exact#[its,n,r,e,z]
variable{pins:List (KF×Ro)}{s:KM}
def Inv.lstUpd{σ:St}{H:Hp}{p:KF}{xs ys:List V}{its its':List KB}{n n':Nat}{f:Ro->Ro}(I:Inv X pins σ H s)(h:H p=be (.lst xs))
  (ho:s.heap.get? p=be {cls:=.type "list",data:=.seq its.toArray n}) (hf:f {cls:=.type "list",data:=.seq its.toArray n}={cls:=.type "list",data:=.seq its'.toArray n'}) (r:Vals ys its') (hz:ys.length<=sizeLine) (t:Nat):
  Inv X pins σ (upd H p (.lst ys)) {s with heap:=s.heap.update p f,toks:=t}:=by
 have e:(s.heap.update p f).get? p=be {cls:=.type "list",data:=.seq its'.toArray n'}:=by
  rw[Heap.get?_update_self f ho (by rw[hf]<;>rfl),hf]
 refine I.write (x:=p) (e:=p) (by rw[h];trivial) (.inl rfl) (λb u hb q=>(Heap.get?_update_other _ _ (Ne.symm hb)).trans q) #[_,e] ?_;exact#[hz,its',n',r,e]
def xm:V->V->V->Hp->(Hp->Prop)->Prop:=λo i v H Q=>∃p xs k j,o=.ref p/\i=.int k/\H p=be (.lst xs)/\ixN xs.length k=be j/\Q (upd H p (.lst (xs.set j v)))
def jI:PSet X xm:=by
 intro pins s σ H o i v ov iv u Q I ro ri rv h;obtain⟨p,xs,k,j,rfl,rfl,hp,hj,q⟩:=h;cases ro;obtain⟨t,rfl⟩:=ri;obtain⟨its,n,r,ho,hz⟩:=I.lst hp;obtain⟨h1,h2,h3,h4⟩:=qA hj;have hl:=r.length;have hn:=line63;have I':Inv X pins σ (upd H p (.lst (xs.set j v))) {s with heap:=s.heap.update p (Obj.mapSeq (·.setIfInBounds j u))}:=
  I.lstUpd hp ho (xk its n j u) (r.set rv j) (by rw[Gx];exact hz) s.toks
 by_cases h0:0<=k
 .have hk:k.toNat=j:=by
   rw[SH h0 h4]at h1;exact Option.some.inj h1
  exact ki_setAt ho h0 JM (by rw[FT,<-hl];exact h4) (by rw[hk];exact#[_,I',q])
 .have hk:(k+(its.toArray.size:Int)).toNat=j:=by
   rw[Sx JM h3]at h1;rw[FT,<-hl];exact Option.some.inj h1
  exact ki_setBack ho JM (by rw[FT,<-hl];exact h3) JM (by rw[hk];exact#[_,I',q])
def xn(lo hi:Option Int)(n:Nat):(RI lo hi r_ n).1=((HT.sIx n 0 lo:Nat):Int)/\(RI lo hi r_ n).2.1=((HT.sIx n n hi:Nat):Int)/\(RI lo hi r_ n).2.2=1:=by
 refine#[?_,?_,rfl]
 .cases lo with
  |none=>simp[RI,HT.sIx]
  |some i=>
   simp only[RI,HT.sIx,Ig,show(1:Int)>0 by decide,if_true];by_cases h:i<0
   .simp only[h,if_true]<;>lia
   .simp only[h,if_false]<;>lia
 .cases hi with
  |none=>simp[RI,HT.sIx]
  |some i=>
   simp only[RI,HT.sIx,Ig,show(1:Int)>0 by decide,if_true];by_cases h:i<0
   .simp only[h,if_true]<;>lia
   .simp only[h,if_false]<;>lia
def xo(its:List KB)(lo hi:Option Int):slicePick its.toArray lo hi r_=((its.drop (HT.sIx its.length 0 lo)).take (HT.sIx its.length its.length hi-HT.sIx its.length 0 lo)).toArray:=by
 obtain⟨h1,h2,h3⟩:=xn lo hi its.toArray.size;unfold slicePick;rw[h1,h2,h3];simp only[sliceRange_one,pick_run,FT]<;>rfl
def rSlL(K:Ex):V->Option Int->Option Int->Hp->VK->Prop:=λx lo hi H Q=>∃a xs,x=.ref a/\SqL K H a xs/\∀p,H p=r_->Q (.ref p) (upd H p (.lst (cutV xs lo hi)))
def jJ:SlR X (rSlL X.K):=by
 intro pins s σ H x v vl vu lo hi sl Q I rx hs pl pu h;obtain⟨a,xs,rfl,hx,q⟩:=h;cases rx;obtain⟨its,r,ht,hz⟩:=I.list hx;have b9:=r.length;refine#["list",_,slot_list_getitem.lookup,ht.isList.typeIs,?_];refine wpAny_getItem_list_slice ht.isList hs pl pu .none JU ?_ (by rw[FT]<;>lia);rw[xo,<-b9];refine#[.ref s.heap.objs.size,_,I.laid (t':=s.toks) (o:=.lst (cutV xs lo hi)) (λb ob q=>Heap.get?_push_of_some _ q) (FK _) ?_,rfl,q _ (I.hok.fresh (FK _))];exact#[FQ (qy xs lo hi) hz,_,0,(r.drop (HT.sIx xs.length 0 lo)).take (HT.sIx xs.length xs.length hi-HT.sIx xs.length 0 lo),Heap.get?_push_size _ rfl]
def cv:V->Bool
 |.non=>true
 |.bl _=>true
 |.int _=>true
 |.str _=>true
 |_=>false
def eqV:V->V->Bool
 |.non,.non=>true
 |.bl a,.bl b=>a==b
 |.bl a,.int b=>(if a then 1 else 0)==b
 |.int a,.bl b=>a==(if b then 1 else 0)
 |.int a,.int b=>a==b
 |.str a,.str b=>a==b
 |_,_=>false
variable{x:V}
def eqAt_V{A:Ra}{y:V}{u v:KB}(ry:RelV y u)(rx:RelV x v)(fy:cv y=true)(fx:cv x=true):SeqAt.EqAt A s u v (eqV y x):=by
 cases y with
 |non=>
  cases ry;cases x with
  |non=>cases rx;exact SeqAt.EqAt.same _
  |bl b=>cases rx;exact SeqAt.EqAt.none_bool b
  |int b=>obtain⟨t,rfl⟩:=rx;exact SeqAt.EqAt.none_int b t
  |str b=>obtain⟨t,rfl⟩:=rx;exact SeqAt.EqAt.none_str b t
  |_=>exact absurd (show false=true from fx) FX
 |bl a=>
  cases ry;cases x with
  |non=>cases rx;exact SeqAt.EqAt.bool_none a
  |bl b=>cases rx;exact SeqAt.EqAt.bool_bool a b
  |int b=>obtain⟨t,rfl⟩:=rx;exact SeqAt.EqAt.bool_int a b t
  |str b=>obtain⟨t,rfl⟩:=rx;exact SeqAt.EqAt.bool_str a b t
  |_=>exact absurd (show false=true from fx) FX
 |int a=>
  obtain⟨t',rfl⟩:=ry;cases x with
  |non=>cases rx;exact SeqAt.EqAt.int_none a t'
  |bl b=>cases rx;exact SeqAt.EqAt.int_bool a t' b
  |int b=>obtain⟨t,rfl⟩:=rx;exact SeqAt.EqAt.int_int a t' b t
  |str b=>obtain⟨t,rfl⟩:=rx;exact SeqAt.EqAt.int_str a t' b t
  |_=>exact absurd (show false=true from fx) FX
 |str a=>
  obtain⟨t',rfl⟩:=ry;cases x with
  |non=>cases rx;exact SeqAt.EqAt.str_none a t'
  |bl b=>cases rx;exact SeqAt.EqAt.str_bool a t' b
  |int b=>obtain⟨t,rfl⟩:=rx;exact SeqAt.EqAt.str_int a t' b t
  |str b=>obtain⟨t,rfl⟩:=rx;exact SeqAt.EqAt.str_str a t' b t
  |_=>exact absurd (show false=true from fx) FX
 |_=>exact absurd (show false=true from fy) FX
def eqU(x:V)(u:KB):Bool:=match u with
 |.none=>eqV .non x
 |.bool b=>eqV (.bl b) x
 |.int i _=>eqV (.int i) x
 |.str z _=>eqV (.str z) x
 |_=>false
def qC{y:V}{u:KB}(r:RelV y u)(f:cv y=true):eqU x u=eqV y x:=by
 cases y with
 |non=>cases r;rfl
 |bl b=>cases r;rfl
 |int i=>obtain⟨t,rfl⟩:=r;rfl
 |str z=>obtain⟨t,rfl⟩:=r;rfl
 |_=>exact absurd (show false=true from f) FX
def jK{x:V}:∀{xs:List V} {us:List KB},Vals xs us->xs.all cv=true->us.any (eqU x)=xs.any λy=>eqV y x
 |_,_,.nil,_=>rfl
 |y::xs,u::us,.cons r t,f=>by
  rw[Hl,Gf]at f;rw[Hm,Hm,qC r f.1,jK t f.2]
def mem_eqAt{A:Ra}{s:KM}{x:V}{v:KB}(rx:RelV x v)(fx:cv x=true):∀{xs:List V} {us:List KB},Vals xs us->xs.all cv=true->∀u∈us,SeqAt.EqAt A s u v (eqU x u)
 |_,_,.nil,_=>λu hu=>by cases hu
 |y::xs,u::us,.cons r t,f=>λu' hu=>by
  rw[Hl,Gf]at f;rcases FL.mp hu with rfl|hu
  .rw[qC r f.1];exact eqAt_V r rx f.1 fx
  .exact mem_eqAt rx fx t f.2 u' hu
def inV(x:V)(xs:List V):Bool:=xs.any λy=>eqV y x
def rIn(K:Ex)(neg:Bool):R2:=λx y H Q=>∃p xs,y=.ref p/\(SqL K H p xs\/SqT K H p xs)/\cv x=true/\xs.all cv=true/\Q (.bl (if neg then !inV x xs else inV x xs)) H
def xp:OpR X (Rp .NotIn) (rIn X.K true):=by
 intro pins s σ H x y v u Q I rx ry h;obtain⟨p,xs,rfl,hq,fx,fs,q⟩:=h;cases ry;rcases hq with hq|hq
 .obtain⟨its,r,pl,hz⟩:=I.list hq;refine SeqAt.notIn_listAt (eqU x) pl.isList (λw hw=>mem_eqAt rx fx r fs w (by simpa using hw)) #[.bl _,H,I,rfl,?_];rw[show its.toArray.any (eqU x)=its.any (eqU x)by simp,jK r fs];exact q
 .obtain⟨its,r,pl,hz⟩:=I.tuple hq;refine SeqAt.notIn_tupleAt (eqU x) pl (λw hw=>mem_eqAt rx fx r fs w (by simpa using hw)) #[.bl _,H,I,rfl,?_];rw[show its.toArray.any (eqU x)=its.any (eqU x)by simp,jK r fs];exact q
def xq:OpR X (Rp .NotIn) (λx y H Q=>∃i j,x=.str i/\y=.str j/\Q (.bl (!(!(Builtin.Str.occurrences j i 0 j.length 1).isEmpty))) H):=by
 intro pins s σ H x y v u Q I rx ry h;obtain⟨i,j,rfl,rfl,q⟩:=h;obtain⟨t,rfl⟩:=rx;obtain⟨t',rfl⟩:=ry;exact notIn_str #[.bl _,H,I,rfl,q]
def xr:bE X (.type "list") (λxs H Q=>∃p ys,xs=[.ref p]/\(SqL X.K H p ys\/SqT X.K H p ys)/\∀l,H l=r_->Q (.ref l) (upd H l (.lst ys))):=by
 intro pins s σ H xs us Q I r h;obtain⟨p,ys,rfl,hq,q⟩:=h;obtain⟨u,rfl,rx⟩:=bU r;cases rx;have e_:∀(its:List KB),Vals ys its->ys.length<=sizeLine->∀(h':Rc) (c':Nat),(∀b o',s.heap.get? b=be o'->h'.get? b=be o')->
   h'.get? s.heap.objs.size=be {cls:=.type "list",dict:=r_,data:=.seq its.toArray c',slots:=[].toArray}->EP X pins σ Q (.ref s.heap.objs.size) {s with heap:=h'}:=λits r' hz h' c' kp e=>
  #[.ref s.heap.objs.size,_,I.laid (t':=s.toks) kp (FK _) (show ObjOk X.prog X.w _ h' _ (.lst ys)from#[hz,its,c',r',e]),rfl,q _ (I.hok.fresh (FK _))]
 rcases hq with hq|hq
 .obtain⟨its,r',pl,hz⟩:=I.list hq;have b9:=r'.length;obtain⟨o,ho,hc,n,hd⟩:=pl.isList;exact call_list_seq p (.inl rfl) ho hc hd (λh' c' kp e=>e_ its r' hz h' c' kp e) (by simp only[FT]<;>lia)
 .obtain⟨its,r',pl,hz⟩:=I.tuple hq;have b9:=r'.length;obtain⟨o,ho,hc,n,hd⟩:=pl;exact call_list_seq p (.inr rfl) ho hc hd (λh' c' kp e=>e_ its r' hz h' c' kp e) (by simp only[FT]<;>lia)
def tyV(K:Ex)(T:String)(x:V)(H:Hp):Prop:=match x with
 |.str _=>T="str"
 |.int _=>T="int"
 | .ref p=>(T="list"/\∃xs,SqL K H p xs)\/(T="tuple"/\∃o,K.lookup p=be o/\o.cls=.type "tuple"/\o.dict=r_)\/
   (T="dict"/\((∃a8,H p=be (.dK a8))\/∃a8,H p=be (.dT a8)))\/(T="set"/\∃S n,H p=be (.set S n))
 |_=>False
def xt{σ:St}{H:Hp}{T:String}{v:KB}(I:Inv X pins σ H s)(r:RelV x v)(ty:tyV X.K T x H):
  s.TypeIs v T/\∀a,v=.ref a->∃ob,s.heap.get? a=be ob/\ob.dict=none:=by
 cases x with
 |str z=>
  obtain⟨t,rfl⟩:=r;cases(show T="str" from ty);exact#[SN s z t,λ_ e=>nomatch e]
 |int i=>
  obtain⟨t,rfl⟩:=r;cases(show T="int" from ty);exact#[typeIs_int s i t,λ_ e=>nomatch e]
 |ref p=>
  cases r;rcases ty with⟨rfl,xs,hq⟩|⟨rfl,o,hk,hc,hd⟩|⟨rfl,hk⟩|⟨rfl,S,n,hk⟩
  .obtain⟨its,_,pl,_⟩:=I.list hq;refine#[pl.isList.typeIs,λa e=>?_];cases e;obtain⟨o,n,e,c,hd,_⟩:=pl;exact#[o,e,hd]
  .refine#[#[o,I.kIn p o hk,hc],λa e=>?_];cases e;exact#[o,I.kIn _ o hk,hd]
  .have z:∃o,s.heap.get? p=be o/\o.ExactDict:=by
    rcases hk with⟨a8,hk⟩|⟨a8,hk⟩
    .obtain⟨_,_,_,_,o,_,_,e,ex,_⟩:=I.hok p _ hk;exact#[o,e,ex]
    .obtain⟨_,_,_,_,o,_,_,e,ex,_⟩:=I.hok p _ hk;exact#[o,e,ex]
   obtain⟨o,e,ex⟩:=z;refine#[#[o,e,ex.1],λa e2=>?_];cases e2;exact#[o,e,ex.2.1]
  .obtain⟨o,_,_,_,e,ex,_⟩:=I.hok p _ hk;refine#[#[o,e,ex.1],λa e2=>?_];cases e2;exact#[o,e,ex.2.1]
 |_=>exact False.elim ty
def tBM(K:Ex)(T:String)(r:V->List V->Hp->VK->Prop)(to:TE)(t:TA):TE:=λσ H Q=>to σ H λx H1=>tyV K T x H1/\t σ H1 λxs H2=>r x xs H2 Q
variable {o e:P3}{es:List P3}{to:TE}{t:TA}{name:A_}{b_ a_:Ri}{T id:String}{r:V->List V->Hp->VK->Prop}
def dU(pa:PlainAttrs T)(slot:Slot T name id)(L9:typeOf (.builtin id)=pure (.type "method_descriptor"))(hm:MtR X id r)(ho:PE X o to)(ha:PA X (e::es) t)
  (c5:autoParam (Rh o name X.env (Rg o X.env)=Rg o X.env) zA0)
  (e8:((RZ a_ (Re (e::es) X.env)).all (λx=>!x.1)&&(Sn a_ (R6 [] X.env)).all (λx=>x.1.isSome)
   && decide ((e::es).length+([]:List SY).length+(if([]:List SY).isEmpty then 0 else 1)<30))=true:=by rfl)
  (c9:autoParam ((b_.endLine==a_.line)=true) zA0) (hs:autoParam (zSE X e es) zA0) (m5:autoParam (zPL X a_ es) zA0):
  PE X (.Call (.Attribute o name b_) (e::es) [] a_) (tBM X.K T r to t):=by
 intro pins s σ H Q I h;refine wpAny_Call_method_late c5 e8 c9 rfl (thn (ho pins s σ H _ I h) λv s1 c7=>?_);obtain⟨x,H1,I1,r1,ty,q1⟩:=c7;obtain⟨h1,h2⟩:=xt I1 r1 ty;refine#[T,id,pa,slot,L9,h1,h2,?_];have hA:=ha a_ pins s1 σ H1 _ I1 q1;rw[hs]at hA ⊢;refine Calls.callWith_builtin (by show(false||(RZ a_ (Re es X.env)).any (·.1))=false;rw[m5]<;>rfl) (Calls.evalArgs_plain ?_);exact thn hA λus s2 ⟨vs,H2,I2,r2,q2⟩=>hm pins s2 σ H2 x vs v us Q I2 r1 r2 q2
end
def MtM(X:Cx)(id:String)(r:V->List V->Hp->VK->Prop):Prop:=
 ∀(pins:List (KF×Ro)) (s:KM) (σ:St) (H:Hp) (x:V) (xs:List V) (v:KB) (us:List KB) (Q:VK),Inv X pins σ H s->RelV x v->Vals xs us->r x xs H Q->
  Q7 (Q8 X.prog X.w) X.A (call (.builtin id) (v::us)) (EP X pins σ Q) X.xe s
def Vals.one:∀{x:V} {us:List KB},Vals [x] us->∃u,us=[u]/\RelV x u:=by
 intro x us h;cases h with
 |cons r h=>cases h;exact#[_,rfl,r]
def Vals.zero:∀{us:List KB},Vals [] us->us=[]
 |_,.nil=>rfl
def Vals.dropLast{xs:List V}{us:List KB}(h:Vals xs us):Vals xs.dropLast us.dropLast:=by
 induction h with
 |nil=>exact .nil
 |cons r t ih=>
  cases t with
  |nil=>exact .nil
  |cons q t'=>exact .cons r ih
section
variable {X:Cx}{pins:List (KF×Ro)}{σ:St}{H:Hp}{s:KM}{l b:KF}{xs ys zs:List V}
variable{its:List KB}
def Inv.lset{its':List KB}{n:Nat}{f:Array KB->Array KB}{t':Nat}(I:Inv X pins σ H s)(hH:H l=be (.lst xs))
  (e:s.heap.get? l=be {cls:=.type "list",data:=.seq its.toArray n}) (hf:f its.toArray=its'.toArray) (hv:Vals ys its') (hz:ys.length<=sizeLine):
  Inv X pins σ (upd H l (.lst ys)) {s with heap:=s.heap.update l (Obj.mapSeq f),toks:=t'}:=by
 have q:=PySem.IsL.update e f;rw[hf]at q;refine I.write (x:=l) (e:=l) (by rw[hH];exact trivial) (.inl rfl) (λb' u hb hu=>(Heap.get?_update_other s.heap (Obj.mapSeq f) (Ne.symm hb)).trans hu) #[_,q] ?_;exact#[hz,its',_,hv,q]
def Inv.lnew{t':Nat}(I:Inv X pins σ H s)(hv:Vals ys its)(hz:ys.length<=sizeLine):
  Inv X pins σ (upd H s.heap.objs.size (.lst ys)) {s with heap:=s.heap.push {cls:=.type "list",data:=.seq its.toArray},toks:=t'}:=
 I.laid (λ_ _ q=>Heap.get?_push_of_some _ q) (FK _) #[hz,its,0,hv,Heap.get?_push_size _ rfl]
def Inv.fresh(I:Inv X pins σ H s):H s.heap.objs.size=none:=I.hok.fresh (FK _)
def Inv.lstM(I:Inv X pins σ H s)(hH:H l=be (.lst xs)):xs.length<=sizeLine/\∃(its:List KB) (n:Nat),Vals xs its/\xs.length=its.length/\s.heap.get? l=be {cls:=.type "list",data:=.seq its.toArray n}:=by
 obtain⟨z,its,n,r,e⟩:=I.hok l _ hH;exact#[z,its,n,r,r.length,e]
def xu{n:Nat}(h:n<=sizeLine):Builtin.List.listTooLong n=false:=by
 unfold Builtin.List.listTooLong;exact decide_eq_false JM
end
section
variable {X:Cx}
def xw:V->List V->Hp->VK->Prop:=λx vs H Q=>∃l xs y,x=.ref l/\vs=[y]/\H l=be (.lst xs)/\xs.length<sizeLine/\Q .non (upd H l (.lst (xs++[y])))
def jL:MtM X "list.append" xw:=by
 intro pins s σ H x vs v us Q I rx rv h;obtain⟨l,xs,y,rfl,rfl,hH,hz,q⟩:=h;cases rx;obtain⟨u,rfl,ru⟩:=rv.one;obtain⟨z,its,n,r,hl,e⟩:=I.lstM hH;refine call_meets F.slot_list_append #[_,e,rfl] F.entry_list_append (F.args_list_append_2 _ _) (PySem.list_append l its.toArray n u (by rw[FT];lia)) #[e,?_];refine#[.non,_,I.lset (its':=its++[u]) hH e JU (r.append (.cons ru .nil)) ?_,rfl,q];rw[FV,G3];lia
def xx:V->List V->Hp->VK->Prop:=λx vs H Q=>∃l b xs zs,x=.ref l/\vs=[.ref b]/\H l=be (.lst xs)/\H b=be (.lst zs)/\xs.length+zs.length<=sizeLine/\Q .non (upd H l (.lst (xs++zs)))
def FE:MtM X "list.extend" xx:=by
 intro pins s σ H x vs v us Q I rx rv h;obtain⟨l,b,xs,zs,rfl,rfl,hH,hB,hz,q⟩:=h;cases rx;obtain⟨u,rfl,ru⟩:=rv.one;cases ru;obtain⟨z,its,n,r,hl,e⟩:=I.lstM hH;obtain⟨z2,l5,n2,r2,Lv,e2⟩:=I.lstM hB;have g8:its.toArray.size+l5.toArray.size<=sizeLine:=by rw[FT,FT];lia
 have Ky:¬(!its.toArray.isEmpty&&Builtin.List.listTooLong (its.toArray.size+l5.toArray.size))=true:=by
  rw[xu g8,Bool.and_false];exact FX
 refine call_meets F.slot_list_extend #[_,e,rfl] F.entry_list_extend (F.args_list_extend_2 _ _)
  (AutoSeq1.list_extend_list_list_0 l its.toArray n b l5.toArray n2 Ky (by rw[FT];lia) JM) #[e,e2,?_]
 refine#[.non,_,I.lset (its':=its++l5) hH e JU (r.append r2) ?_,rfl,q];rw[FV];lia
def rCat:R2:=λx y H Q=>∃l b xs zs,x=.ref l/\y=.ref b/\H l=be (.lst xs)/\H b=be (.lst zs)/\xs.length+zs.length<=sizeLine/\∀p,H p=r_->Q (.ref p) (upd H p (.lst (xs++zs)))
def qD:OpR X (Rt .Add) rCat:=by
 intro pins s σ H x y v u Q I rx ry h;obtain⟨l,b,xs,zs,rfl,rfl,hH,hB,hz,q⟩:=h;cases rx;cases ry;obtain⟨z,its,n,r,hl,e⟩:=I.lstM hH;obtain⟨z2,l5,n2,r2,Lv,e2⟩:=I.lstM hB;refine PySem.P.add_list e e2 ?_ (by rw[FT,FT];lia);have ea:its.toArray++l5.toArray=(its++l5).toArray:=JU
 rw[ea];exact#[.ref _,_,I.lnew (t':=s.toks) (r.append r2) (by rw[FV];lia),rfl,q _ I.fresh]
end
end L2
namespace N_
open PySem PySem.W PySem.Calls PyProof.Rows
variable{P:Params}
def xy{h:Rc}:∀(ns:List Int) (vs:List KB),WellAll P h vs (ns.map WData.int)->SE vs ns:=by
 intro ns;induction ns with
 |nil=>
  intro vs w;rw[GR]at w;cases w;exact .nil
 |cons n ns ih=>
  intro vs w;rw[Gc]at w;cases w with
  |cons a b=>
   cases a;exact .cons _ _ (ih _ b)
variable{l:OpenLaw}
def xz{n:Nat}(hn:l.most=be n){h:Rc}{args:List WData}{JO:List KB}
  (D_:l.row.toRowW.claim.pre args=true) (L':WellAll P h JO args):
  ∃a vs ns,JO=[Value.ref a]/\args=[WData.list (ns.map WData.int)]/\h.get? a=be {cls:=.type "list",data:=.seq vs.toArray}/\SE vs ns/\ns.length<=n:=by
 have Pg:WShape.hasAll [] args [.list .int]=true:=(pre_splitW D_).1;have hc:l.pre.holds [] {args:=args}=true:=(pre_splitW D_).2;obtain⟨d,r,rfl,h1,h2⟩:=hasAllW_cons Pg;obtain rfl:=hasAllW_nil h2;obtain⟨xs,rfl,h3⟩:=hasW_list h1;obtain⟨ns,rfl⟩:=items_int h3;have b9:ns.length<=n:=by
  unfold OpenLaw.pre at hc;have h4:(WTm.not (.lt (.lit (.int (n:Int))) (.len (.arg 0)))).holds [] {args:=[.list (ns.map .int)]}=true:=by
   have h4:=(holds_andW hc).1;rw[hn]at h4;exact h4
  have h5:=condW_of h4 (w_not (w_lt w_lit (w_len_list (w_arg rfl))));rw[FP]at h5;refine Hz λq=>?_;have q':(n:Int)<((ns.length:Nat):Int):=JM
  first
   |(rw[decide_eq_true q']at h5;exact absurd h5 JQ)
   |(simp at h5;lia)
 cases L' with
 |cons w1 w2=>
  cases w2;cases w1 with
  |list ho E_=>exact#[_,_,ns,rfl,rfl,ho,xy ns _ E_,b9]
def xA(l:OpenLaw)(args:List WData):l.row.toRowW.claim.post args (.bool true) args=true:=
 postW_of (r:=l.row.toRowW) (X:=(true==true))
  (show WShape.has [] (.bool true) .bool=true by first|rfl|decide|simp[WShape.has,WShape.arms,WShape.armsAll])
  (show(WTm.eq .res (.lit (.bool true))).value [] {args:=args,res:=be (.bool true),after:=args}=be (.bool (true==true))from w_eq_bool (w_res rfl) w_lit) rfl
def attach_call{n:Nat}{q:Q5}{i9:List A_}{XP:(A_->Option KB)->Rc->Prop}{YP:Q_->Rc->Prop}{d:DefRec}
  (hn:l.most=be n) (Kz:d.params.defaults=[])
  (call:∀(w:Q_) (s₀ s₁:KM) (mg mb:A_->Option KB) (fa:KF) (o:Ro) (pm cd doc:KB) (a:KF) (vs:List KB) (ns:List Int),
   Ground q i9 [] XP w s₀ mg mb s₁.heap->YP w s₁.heap->
   s₁.heap.get? fa=be o->o.data=.func (docDef d.name d.params d.body d.scope pm cd doc)->s₁.heap.CodeRec cd d.name->mg d.name=be (.ref fa)->
   s₁.heap.get? a=be {cls:=.type "list",data:=.seq vs.toArray}->SE vs ns->ns.length<=n->s₁.gens=[].toArray->
   R7 (Q8 l.prog w) R_ (.call (.ref fa) #[[.ref a],[]]) (λr s'=>r=.ok (.ret (.bool true))/\OldK s₁.heap s'.heap/\s'.os=s₁.os/\RU s'.gens) s₁):
  WalkO q i9 XP YP l.row.toRowW d [] (λf vs=>PySem.call f vs):=by
 intro w s₀ s₁ mg mb G Y fa o pm cd doc dV kV ho hd gV hD g_ hg args JO as D_ Ph QB L' QC;obtain rfl:dV=.none:=Dflts.none hD Kz;obtain rfl:kV=.none:=Dflts.noKw hD;obtain⟨a,vs,ns,rfl,rfl,JP,u_,b9⟩:=xz hn D_ L';refine enter_call (RP (call w s₀ s₁ mg mb fa o pm cd doc a vs ns G Y ho (fd_plain hd) gV g_ JP u_ b9 hg) λr s' hq=>?_);obtain⟨rfl,h2,h3,h4⟩:=hq;exact#[.inl #[.bool true,.bool true,[],rfl,λ_=>rfl,.bool true,xA l _,λ_=>#[List.Pairwise.nil,λ_ hm=>(nomatch hm)]],h2,h3,h4]
end N_
namespace L2
open PySem PySem.Spec PyProof.Rows
def qE:∀{vs:List KB} {ns:List Int},SE vs ns->Vals (ns.map V.int) vs
 |_,_,.nil=>.nil
 |_,_,.cons n t h=>.cons #[t,rfl] (qE h)
def Only(H:Hp):Prop:=∀b,H b=r_\/∃o xs,H b=be (.frz o (.lst xs))
variable{P:Q5}{w:Q_}{k:Nat}{a:KF}
def xB{K:Ex}{mg mb:A_->Option KB}{CX:CXT}{fa:KF}{fd:Rf}{x:A_}{sp:Sp}{s₁:KM}{vs:List KB}{ns:List Int}
  (KX:K.In s₁.heap) (hns:s₁.heap.Ns Pi mg) (hb:s₁.heap.Ns SQ mb) (Pj:∀x:A_,x≠"__name__"->mb x=Rm x) (L_:s₁.heap.NoLimit) (hg:s₁.gens=[].toArray)
  (ha:s₁.heap.get? a=be {cls:=.type "list",data:=.seq vs.toArray}) (hi:SE vs ns) (hl:ns.length<=sizeLine) (hr:Room k R_)
  (F:∀base:Rc,K.In base->base.Ns Pi mg->FnOk P w K mg base CX k fa fd [x] sp) (KA:∀(s:KM) (u:KB),R1 s fd #[[u],[]] [(x,u)])
  (Js:∀H:Hp,Only H->SqL K H a (ns.map V.int)->sp [.ref a] H (λv _=>v=.bl true) λ_ _ _=>False)
  (Ma:∀H e s',CX [] H s₁ (λ_ _ _=>False) e s'->False):
  R7 (Q8 P w) R_ (.call (.ref fa) #[[.ref a],[]]) (λr s'=>r=.ok (.ret (.bool true))/\OldK s₁.heap s'.heap/\s'.os=s₁.os/\RU s'.gens) s₁:=by
 have rv:=qE hi;have Mb:=hi.length;have KD:∀H:Hp,Only H->SqL K H a (ns.map V.int)->HOk P w H s₁.heap->(∀b,H b≠r_->b=a)->(H a≠r_->K.lookup a=r_)->
   R7 (Q8 P w) R_ (.call (.ref fa) #[[.ref a],[]]) (λr s'=>r=.ok (.ret (.bool true))/\OldK s₁.heap s'.heap/\s'.os=s₁.os/\RU s'.gens) s₁:=by
  intro H hO hS hok hA hK;have n_:∀{b:KF} {o:Ro},s₁.heap.get? b=be o->H b=r_->(hidT s₁.heap H).get? b=be o:=λe n=>vD e n;have Kw:∀{b:KF} {o:Ro} {es:Array DictEntry} {ep:Nat},s₁.heap.get? b=be o->o.data=.dict es ep->H b=none:=λ{b o es ep} e d=>by
   cases q:H b with
   |none=>rfl
   |some u=>
    have e':b=a:=hA b (by rw[q];simp);subst e';rw[ha]at e;cases e;have d':Data.seq vs.toArray _=Data.dict es ep:=d;cases d'
  have Lx:∀{b:KF} {m:A_->Option KB},s₁.heap.Ns b m->(hidT s₁.heap H).Ns b m:=λ{b m} ⟨o,es,ep,e,d,r⟩=>#[o,es,ep,n_ e (Kw e d),d,r];have Ob:K.In (hidT s₁.heap H):=λb o e=>n_ (KX b o e) (by
   cases q:H b with
   |none=>rfl
   |some u=>
    have e':b=a:=hA b (by rw[q];simp);subst e';rw[hK (by rw[q];simp)]at e;cases e)
  have hM:Mod K mg (hidT s₁.heap H):=#[Ob,Lx hns,#[mb,Lx hb,Pj],let ⟨mc,h1,h2⟩:=L_;#[mc,Lx h1,h2]];have e0:Env0 P w K mg (hidT s₁.heap H) R_ [] s₁ H:=#[rfl,hM,λb o e=>vE e,Hj (vC _ _),trivial,λb hb=>absurd (show b∈([]:List KF)from hb) JU,hok,.of_eq hg];refine RP ((F _ Ob (Lx hns)).run R_ [] s₁ H #[[.ref a],[]] [.ref a] [.ref a] _ _ hr e0 (KA s₁ (.ref a)) (.cons rfl .nil) (Js H hO hS)) λr s' h=>?_;cases r with
  |error e=>exact(Ma H e s' h).elim
  |ok fl=>
   cases fl with
   |next=>exact False.elim h
   |brk=>exact False.elim h
   |cont=>exact False.elim h
   |ret u=>
    obtain⟨v,H',os,bare,un,Mc,r',q⟩:=h;have q':v=.bl true:=q;subst q';obtain rfl:u=Value.bool true:=r';refine#[rfl,OldK.of_keep λb o e=>?_,os,bare];cases q:H b with
    |none=>exact un.keep b o e q (by intro z;exact absurd (show b∈([]:List KF)from z) JU) JU
    |some u=>
     rcases hO b with z|⟨ob,xs,z⟩
     .rw[q]at z;cases z
     .have z2:=un.frzs b ob _ z;obtain⟨e1,_⟩:=hok b _ z;obtain⟨e2,_⟩:=Mc b _ z2;rw[e]at e1;cases e1;exact e2
 cases hk:K.lookup a with
 |some o=>
  have e:=KX a o hk;rw[ha]at e;cases e;refine KD (λ_=>r_) (λ_=>.inl rfl) (.inr #[_,vs.toArray,_,hk,rfl,rfl,rfl,by rw[FT,Mb];exact hl,by simpa using rv]) (λb u z=>by have z':(r_:Option HO)=be u:=z;cases z') (λb z=>absurd rfl z) λz=>absurd rfl z
 |none=>
  refine KD (λb=>if b=a then be (.frz {cls:=.type "list",data:=.seq vs.toArray} (.lst (ns.map V.int)))else r_) (λb=>?_) (.inl (.inr #[{cls:=.type "list",data:=.seq vs.toArray},if_pos rfl])) (λb u z=>?_) (λb z=>?_) λ_=>hk
  .by_cases hb:b=a
   .exact .inr #[_,_,if_pos hb]
   .exact .inl (if_neg hb)
  .by_cases hb:b=a
   .have z':=(if_pos hb).symm.trans z;cases z';subst hb;exact#[ha,by rw[FP];exact hl,vs,_,rv,ha]
   .have z':=(if_neg hb).symm.trans z;cases z'
  .by_cases hb:b=a
   .exact hb
   .exact absurd (if_neg hb) z
def walk_of{l:HA}{n:Nat}{q:Q5}{i9:List A_}{XP:(A_->Option KB)->Rc->Prop}{YP:Q_->Rc->Prop}{d:DefRec}{K:Params->Ex}{CX:Q_->CXT}{sp:Q_->Sp}{x:A_}
  (hn:l.most=be n) (JN:n<=sizeLine) (Kz:d.params.defaults=[]) (hr:Room k R_)
  (hY:∀(w:Q_) (h:Rc),YP w h->(K w.params).In h)
  (F:∀(w:Q_) (mg:A_->Option KB) (fa:KF) (h:Rc),(K w.params).In h->h.Ns Pi mg->mg d.name=be (.ref fa)->
   ∃fd:Rf,(∀(s:KM) (u:KB),R1 s fd #[[u],[]] [(x,u)])/\
    ∀base:Rc,(K w.params).In base->base.Ns Pi mg->FnOk l.prog w (K w.params) mg base (CX w) k fa fd [x] (sp w))
  (Js:∀(w:Q_) (H:Hp) (a:KF) (ns:List Int),ns.length<=n->Only H->SqL (K w.params) H a (ns.map V.int)->sp w [.ref a] H (λv _=>v=.bl true) λ_ _ _=>False)
  (Ma:∀(w:Q_) (H:Hp) (s:KM) (e:KB) (s':KM),CX w [] H s (λ_ _ _=>False) e s'->False):
  Ih q i9 XP YP l.row.toRowW d [] (λf vs=>PySem.call f vs):=by
 refine N_.attach_call hn Kz λw s₀ s₁ mg mb fa o pm cd doc a vs ns G Y ho hd gV g_ JP u_ b9 hg=>?_;have KX:=hY w _ Y;obtain⟨fd,hb,hF⟩:=F w mg fa _ KX G.T.g g_;exact xB KX G.T.g G.T.b G.T.builtins G.T.nolimit hg JP u_ (FQ b9 JN) hr hF hb (λH hO hS=>Js w H a ns b9 hO hS) λH e s'=>Ma w H s₁ e s'
def aQ(s:Q6)(j:Nat):Q6:=match s with
 |.ClassDef _ _ _ body _ _ _ _ _ _ _=>body.getD j (.Pass #[0,0,0,0])
 |_=>.Pass #[0,0,0,0]
def bz(s:Q6):Arguments:=match s with
 |.FunctionDef _ a _ _ _ _ _ _ _ _=>a
 |_=>{posonlyargs:=[],args:=[],vararg:=r_,kwonlyargs:=[],kw_defaults:=[],kwarg:=r_,defaults:=[]}
def aL(s:Q6):List Q6:=match s with
 |.FunctionDef _ _ b _ _ _ _ _ _ _=>b
 |_=>[]
def ah(s:Q6):RA:=match s with
 |.FunctionDef _ _ _ _ _ _ sc _ _ _=>sc
 |_=>{kind:=.function,names:=[],isGenerator:=false,isCoroutine:=false}
abbrev E0:XK:=λ_ _ _=>False
structure FunG(K:Ex)(dV:KB)(x qual:Str)(st:Q6)(f:KF)(fd:Rf):Prop where
 ex:∃(oc:KB) (od:Option KF) (kV doc pm:KB) (an:Option KF) (cdv ct:KB) (osl:Array (Option KB)),
  fd=fnOf x qual (bz st) (aL st) (ah st) dV kV doc pm an cdv ct/\K.lookup f=be #[oc,od,.func fd,osl]/\codeIn K cdv qual=true
 kp:keepIn K (.ref f)=true
abbrev Fun(K:Ex):A_->A_->Q6->KF->Rf->Prop:=FunG K .none
section
variable {P:Q5}{w:Q_}{K:Ex}{mg:A_->Option KB}{base:Rc}
def Fun.binds{x qual:A_}{st:Q6}{f:KF}{fd:Rf}{ps:List A_}(F:Fun K x qual st f fd)
  (h:∀(kV doc pm:KB) (an:Option KF) (cdv ct:KB) (us:List KB),us.length=ps.length->RJ (fnOf x qual (bz st) (aL st) (ah st) .none kV doc pm an cdv ct) #[us,[]]=pure (ps.zip us)):Binds K fd ps []:=by
 obtain⟨oc,od,kV,doc,pm,an,cdv,ct,osl,rfl,lk,gV⟩:=F.ex;exact .all (h kV doc pm an cdv ct)
def jM{x qual:A_}{st:Q6}{f:KF}{oc:KB}{od an:Option KF}{osl:Array (Option KB)}{kV doc pm cdv ct:KB}(l:K.lookup f=be #[oc,od,.func (fnOf x qual (bz st) (aL st) (ah st) .none kV doc pm an cdv ct),osl])
  (c:codeIn K cdv qual=true) (k:keepIn K (.ref f)=true):Fun K x qual st f (fnOf x qual (bz st) (aL st) (ah st) .none kV doc pm an cdv ct):=#[#[oc,od,kV,doc,pm,an,cdv,ct,osl,rfl,l,c],k]
end
def qF{A:Ra}(hr:Room k A):A.units+1<Ss:=Ii (Nat.add_le_add_left (JQ:1<=64) _) hr.units
def xC{n:Nat}(h:n<=1000):n<sizeLine:=Ii h JQ
def ite2{c A B:Prop}[Decidable c](h1:c->A)(h2:¬c->B):if c then A else B:=by
 by_cases h:c
 .rw[if_pos h];exact h1 h
 .rw[if_neg h];exact h2 h
def Same(H H':Hp):Prop:=∀b o,H b=be o->H' b=be o
def Same.refl(H:Hp):Same H H:=λ_ _ h=>h
variable{H:Hp}
def Same.trans{H1 H2:Hp}(a:Same H H1)(b:Same H1 H2):Same H H2:=λc o h=>b c o (a c o h)
variable{H':Hp}
def Same.free(e:Same H H'){l:KF}(h:H' l=Option.none):H l=Option.none:=by
 cases q:H l with
 |none=>rfl
 |some o=>
  rw[e l o q]at h;cases h
def Same.seq{K:Ex}{xs:List V}(e:Same H H')(h:SqL K H a xs):SqL K H' a xs:=by
 rcases h with(h|⟨o,h⟩)|h
 .exact .inl (.inl (e _ _ h))
 .exact .inl (.inr #[o,e _ _ h])
 .exact .inr h
section
variable {κ:Type}[DecidableEq κ]
def valV(a8:List (κ×V))(k:κ):Option V:=(a8.find? λkv=>decide (kv.1=k)).map (·.2)
def jN{p:κ×V}{r:List (κ×V)}{k:κ}(e:p.1=k):valV (p::r) k=be p.2:=by simp[valV,GS,e]
def jO{p:κ×V}{r:List (κ×V)}{k:κ}(e:¬p.1=k):valV (p::r) k=valV r k:=by simp[valV,GS,e]
def RelO.getD{o:Option V}{u:Option KB}{d:V}{d':KB}(r:RelO o u)(rd:RelV d d'):RelV (o.getD d) (u.getD d'):=by
 cases o with
 |none=>cases u with
  |none=>exact rd
  |some _=>exact(show False from r).elim
 |some _=>cases u with
  |none=>exact(show False from r).elim
  |some _=>exact r
def KV.val{a8:List (κ×V)}{vs:List (κ×KB)}(r:KV a8 vs)(k:κ):RelO (valV a8 k) (Sg vs k):=by
 unfold KV at r;induction r with
 |nil=>exact True.intro
 |@cons p q ps qs h t ih=>
  obtain⟨h1,h2⟩:=h;by_cases e:p.1=k
  .have e':q.1=k:=h1.symm.trans e;have b:Sg (q::qs) k=be q.2:=by simp[Sg,GS,e']
   rw[jN e,b];exact h2
  .have e':¬q.1=k:=λz=>e (h1.trans z);have b:Sg (q::qs) k=Sg qs k:=by simp[Sg,GS,e']
   rw[jO e,b];exact ih
end
def qG{k:Key}{u:KB}(r:RelV (kV k) u):(bD P w).is k u=true:=by
 cases k with
 |inl i=>obtain⟨t,e⟩:=(show ∃t,u=Value.int i t from r);subst e;exact mixKind_int P w i t
 |inr x=>obtain⟨t,e⟩:=(show ∃t,u=Value.str x t from r);subst e;exact vA P w x t
def qH{P:Q5}{w:Q_}:∀{ks:List Key} {us:List KB},Vals (ks.map kV) us->ItemsAre (bD P w) ks us
 |[],_,r=>by rw[GR]at r;cases r;exact .nil
 |k::ks,_,r=>by
  rw[Gc]at r;cases r with
  |cons h t=>exact .cons (qG h) (qH t)
abbrev KT(H:Hp):List (List Key×V)->List (List Key×KF×KB)->Prop:=Paired λp q=>p.1=q.1/\H q.2.1=be (.tup (p.1.map kV))/\RelV p.2 q.2.2
variable{xs:List (List Key×KF×KB)}{a8:List (List Key×V)}
def KT.val(r:KT H a8 xs)(k:List Key):RelO (valV a8 k) ((Sf xs k).map (·.2)):=by
 induction r with
 |nil=>exact True.intro
 |@cons p q ps qs h t ih=>
  obtain⟨h1,_,h2⟩:=h;by_cases e:p.1=k
  .have e':q.1=k:=h1.symm.trans e;have b:Sf (q::qs) k=be q.2:=by simp[Sf,GS,e']
   rw[jN e,b];exact h2
  .have e':¬q.1=k:=λz=>e (h1.trans z);have b:Sf (q::qs) k=Sf qs k:=by simp[Sf,GS,e']
   rw[jO e,b];exact ih
def KT.keeps(r:KT H a8 xs)(ht:∀b ys,H b=be (.tup ys)->H' b=be (.tup ys)):KT H' a8 xs:=
 Paired.mapP r λ_ _ z=>#[z.1,ht _ _ z.2.1,z.2.2]
section
variable {P:Q5}{w:Q_}{H:Hp}{h:Rc}{a:KF}
def qI{u:HO}(ok:HOk P w H h)(e:Rd H a u):ObjOk P w H h a u:=e.ok ok
def xD{a8:List (Key×V)}(ok:HOk P w H h)(e:Rd H a (.dK a8)):a8.length<=sizeLine/\(a==Rz)=false/\∃vs,KV a8 vs/\h.DictOf (bD P w) a vs:=
 show ObjOk P w H h a (.dK a8)from qI ok e
def key_of{ks:List Key}(ok:HOk P w H h)(e:H a=be (.tup (ks.map kV))):(RV (bD P w)).is h ks a:=by
 obtain⟨_,its,r,o,h1,h2,n,h3⟩:=(show ObjOk P w H h a (.tup (ks.map kV))from ok a _ e);exact#[o,its.toArray,n,h1,h2,h3,by simpa using qH r]
variable{a8:List (List Key×V)}
def qJ(ok:HOk P w H h)(e:Rd H a (.dT a8)):a8.length<=sizeLine/\(a==Rz)=false/\
  ∃xs,KT H a8 xs/\h.DictOfH (RV (bD P w)) a xs:=by
 obtain⟨z,y,xs,r,o,es,ep,h1,h2,h3,h4,h5⟩:=(show ObjOk P w H h a (.dT a8)from qI ok e);refine#[z,y,xs,r,o,es,ep,h1,h2,h3,h4,λx hx=>?_,h5];have all:∀{l:List (List Key×V)} {m:List (List Key×KF×KB)},KT H l m->∀x∈m,(RV (bD P w)).is h x.1 x.2.1:=by
  intro l m q;induction q with
  |nil=>intro x hx;exact nomatch hx
  |@cons p q ps qs hq t ih=>
   intro x hx;rcases FL.mp hx with e|hx
   .subst e;exact key_of ok (by rw[<-hq.1];exact hq.2.1)
   .exact ih x hx
 exact all r x hx
def xE(ok:HOk P w H h)(e:H a=be (.dT a8)):a8.length<=sizeLine/\(a==Rz)=false/\
  ∃xs,KT H a8 xs/\h.DictOfH (RV (bD P w)) a xs:=qJ ok (.inl e)
end
def DGet(H:Hp)(a:KF)(y:V)(r:Option V):Prop:=
 (∃a8 k,Rd H a (.dK a8)/\y=kV k/\r=valV a8 k)\/∃a8 k b,Rd H a (.dT a8)/\y=.ref b/\H b=be (.tup (k.map kV))/\r=valV a8 k
def DGet.t{b:KF}{k:List Key}(e:H a=be (.dT a8))(eb:H b=be (.tup (k.map kV))):DGet H a (.ref b) (valV a8 k):=.inr #[a8,k,b,.inl e,rfl,eb,rfl]
section
variable {X:Cx}{pins:List (KF×Ro)}{σ:St}{H:Hp}{s:KM}{a:KF}{y v:V}{u r:KB}{o:Option V}{A:Ra}{E:KB->KM->Prop}
def Inv.big(I:Inv X pins σ H s):Rz<s.heap.objs.size:=by
 have h:Pi<s.heap.objs.size:=(I.mod.glob.keeps I.bk).lt;exact Ij JQ h
def xF{h':Rc}{t':Nat}{ob:HO}(I:Inv X pins σ H s)(mu:Mut (H a))(hs:Heap.SameBut a s.heap h')(he:∃q,h'.get? a=be q)(new:ObjOk X.prog X.w (upd H a ob) h' a ob):
  Inv X pins σ (upd H a ob) {s with heap:=h',toks:=t'}:=
 I.write (x:=a) (e:=a) mu (.inl rfl) (λb q hb z=>(hs.2 b hb).trans z) he new
end
def xG(h:Rc)(hb:Rz<h.objs.size):ObjOk P w H (h.push {cls:=.type "dict",data:=.dict [].toArray}) h.objs.size (.dT []):=
 #[Gb _,beq_eq_false_iff_ne.mpr (Ne.symm (FR hb)),[],.nil,_,[].toArray,0,Heap.get?_push_size _ rfl,#[rfl,rfl,rfl],rfl,rfl,Ik]
def xH:TE:=λ_ H Q=>∀p,H p=r_->Q (.ref p) (upd H p (.dT []))
section
variable {X:Cx}{pos:Ri}
def pe_dnewT:PE X (.Dict [] [] pos) xH:=λpins s σ H Q I h=>
 wpAny_Dict_empty #[.ref s.heap.objs.size,_,I.laid (a:=s.heap.objs.size) (o:=.dT []) (t':=s.toks) (λ_ _ q=>Heap.get?_push_of_some _ q) (FK _) (xG s.heap I.big),rfl,h _ (I.hok.fresh (FK _))]
end
section
variable {X:Cx}{pins:List (KF×Ro)}{σ:St}{H:Hp}{s:KM}{a:KF}{y d:V}{u r:KB}{o:Option V}{A:Ra}{E:KB->KM->Prop}
def xI{Q:KB->KM->Prop}(hu:A.units+1<Ss)(I:Inv X pins σ H s)(g:DGet H a y o)(ry:RelV y u)(rd:RelV d r)(h:∀w' s',Inv X pins σ H s'->RelV (o.getD d) w'->Q w' s'):
  Q7 (Q8 X.prog X.w) A (call (.builtin "dict.get") [.ref a,u,r]) Q E s:=by
 rcases g with⟨a8,k,e,ey,l⟩|⟨a8,k,b,e,ey,eb,l⟩
 .subst ey;obtain⟨z,hd,vs,JR,dd⟩:=xD I.hok e;refine SB PySem.F.slot_dict_get dd.typeIs PySem.F.entry_dict_get (PySem.F.args_dict_get_3 _ _ _) (meets_dict_get_default (bD X.prog X.w) a (qG ry) hd r) #[_,dd.mapOf,h _ _ (I.tok _) ?_];rw[l];exact(JR.val k).getD rd
 .subst ey;cases(show u=Value.ref b from ry);obtain⟨z,hd,xs,JR,dd⟩:=qJ I.hok e;refine SB PySem.F.slot_dict_get dd.typeIs PySem.F.entry_dict_get (PySem.F.args_dict_get_3 _ _ _) (meetsH_dict_get_default (RV (bD X.prog X.w)) a b hd r) #[SO hu,k,xs,key_of I.hok eb,dd,h _ _ (I.tok _) ?_];rw[l];exact(JR.val k).getD rd
end
end L2
end
section
open PySem PySem.Spec PyProof.Rows L2
namespace Exc
open PySem PySem.Spec PyProof.Rows PySem.W L2
def aZ:List KB->Bool
 |.ref _::r=>aZ r
 |l=>l==[.type "ValueError",.type "Exception",.type "BaseException",.type "object"]
def xJ(self:KB):∀{l:List KB},aZ l=true->refuseLoop self "__setattr__" l=pure ()
 |.ref c::r,e=>by rw[refuseLoop_ref];exact xJ self (by unfold aZ at e;exact e)
 |[],e=>by simp[aZ]at e
 |.type n::r,e=>by
  have e':(Value.type n::r)=[.type "ValueError",.type "Exception",.type "BaseException",.type "object"]:=by simpa[aZ]using e
  rw[e'];exact PySem.F.store_ValueError.passes self
 |.none::r,e=>by simp[aZ]at e
 |.bool _::r,e=>by simp[aZ]at e
 |.int _ _::r,e=>by simp[aZ]at e
 |.float _ _::r,e=>by simp[aZ]at e
 |.str _ _::r,e=>by simp[aZ]at e
 |.bytes _ _::r,e=>by simp[aZ]at e
 |.builtin _::r,e=>by simp[aZ]at e
def qK{T:String}(hT:[Value.type "ValueError",.type "Exception",.type "BaseException",.type "object"].contains (.type T)=true):∀{l:List KB},aZ l=true->l.contains (.type T)=true
 |.ref c::r,e=>by rw[HB,qK hT (l:=r) (by unfold aZ at e;exact e),Hn]
 |[],e=>by simp[aZ]at e
 |.type n::r,e=>by
  have e':(Value.type n::r)=[.type "ValueError",.type "Exception",.type "BaseException",.type "object"]:=by simpa[aZ]using e
  rw[e'];exact hT
 |.none::r,e=>by simp[aZ]at e
 |.bool _::r,e=>by simp[aZ]at e
 |.int _ _::r,e=>by simp[aZ]at e
 |.float _ _::r,e=>by simp[aZ]at e
 |.str _ _::r,e=>by simp[aZ]at e
 |.bytes _ _::r,e=>by simp[aZ]at e
 |.builtin _::r,e=>by simp[aZ]at e
abbrev veLine:List KB:=[.type "ValueError",.type "Exception",.type "BaseException",.type "object"]
section
variable {prog:Q5}{w:Q_}{A:Ra}{E:KB->KM->Prop}{s:KM}{env:RQ}
variable {nm q:A_}{C N:KF}{bs bm:List KB}{hdct:Bool}{sn:List A_}{sub:List KB}{ab:Bool}{col:Option Bool}{dd:Option KF}{k0 k1 k2 k3 k5:Option KB}{newId:String}
variable{Q:Flow->KM->Prop}
def xK{x:SF KB}(c5:bm.contains (.type "BaseException")=true)(hh:A.handled=r_)
  (h:Q7 (Q8 prog w) A x (λv s₁=>∃e t od sl,v=.ref e/\s₁.heap.get? C=be (RF nm q C N bs bm hdct sn sub ab col dd k0 k1 k2 k3 k5 newId)/\
   s₁.heap.get? e=be #[.ref C,od,.fields [.ref t,.none,.none,.none,.bool false,.none].toArray,sl]/\E (.ref e) s₁) E s):
  Q7 (Q8 prog w) A (raiseStmt env (be x) r_) Q E s:=by
 have Md:(Value.ref C::bm).contains (.type "BaseException")=true:=by rw[HB,c5,Hn]
 unfold raiseStmt;refine Os (Rn h (λv s₁ h₁=>?_) λ_ _ x=>x);obtain⟨e,t,od,sl,rfl,hC,he,hE⟩:=h₁;obtain⟨hp,g,d,tk,os⟩:=s₁
 repeat(first|(with_reducible refine RT he ?_)|(with_reducible refine RT hC ?_)|(with_reducible refine R8 hC ?_;rw[Md])|wp_step)
 exact wpAny_raiseNew_none hh hE
def qL{x:P3}{pos:Ri}(c5:bm.contains (.type "BaseException")=true)(hh:A.handled=r_)
  (h:Q7 (Q8 prog w) A (Rg x env) (λv s₁=>∃e t od sl,v=.ref e/\s₁.heap.get? C=be (RF nm q C N bs bm hdct sn sub ab col dd k0 k1 k2 k3 k5 newId)/\
   s₁.heap.get? e=be #[.ref C,od,.fields [.ref t,.none,.none,.none,.bool false,.none].toArray,sl]/\E (.ref e) s₁) E s):
  Q7 (Q8 prog w) A (exec (.Raise (be x) r_ pos) env) Q E s:=by
 rw[arm_exec_Raise];show Q7 (Q8 prog w) A (do RO pos;raiseStmt env (be (do let v <-Rg x env;RO pos;pure v)) r_) Q E s;exact Os (RB (xK c5 hh (Os (Rn h (λv s₁ h₁=>Os (RB (Q9 h₁))) λ_ _ x=>x))))
end
def ExAt(h:Rc)(e C:KF)(od:Option KF)(T:KF)(fl:KB):Prop:=
 ∃sl vs oT ts,h.get? e=be #[.ref C,od,.fields vs,sl]/\vs[1]?=be (.ref T)/\T≠e/\h.get? T=be oT/\oT.data=.fields ts/\ts[3]?=be fl
structure Stay(fs ex:List KF)(h h':Rc):Prop where
 keep:∀b o,h.get? b=be o->b∉ex->b∉fs->h'.get? b=be o
 slot:∀b o,h.get? b=be o->b∉ex->∃sl,h'.get? b=be {o with slots:=sl}
 there:∀b o,h.get? b=be o->∃o',h'.get? b=be o'
section
variable {M:SX}{A:Ra}{E:KB->KM->Prop}{s:KM}{env:RQ}{outer:List RQ}{base:Rc}{L e C T:KF}{od:Option KF}
variable{Q:Unit->KM->Prop}
def qM{sl:Array (Option KB)}{vs:Array KB}(m6:A.frames=be (env::outer))(hl:s.heap.FunFrames base (env::outer))(hf:env.frame=be L)
  (he:s.heap.get? e=be #[.ref C,od,.fields vs,sl]) (h1:vs[1]?=be .none)
  (h:∀h' T,ExAt h' e C od T (RY L)->s.heap.objs.size<=T->Stay (frs (env::outer)) [e] s.heap h'->Q () {s with heap:=h'}):Q7 M A (RW (.ref e) env) Q E s:=by
 have g8:1<vs.size:=(Ho.mp h1).1;have JS:e∉(env::outer).filterMap (·.frame):=λhm=>by
  obtain⟨_,o,ho,hnf⟩:=hl.mem hm;rw[he]at ho;injection ho with ho;subst ho;exact hnf vs rfl
 unfold RW;simp only[hf];refine Os (RH he rfl h1 ?_);rw[if_neg JQ];refine Os (SR m6 hl hf λh₁ hs₁=>Os (SL λpl c_=>?_));unfold EntryCells.newEntry newFields;refine Os (Rj ?_ (c_.sizeOk5 _ _ _ _ _));have he₁:h₁.get? e=be #[.ref C,od,.fields vs,sl]:=(hs₁.2.1 e JS).trans he;have fresh:h₁.get? h₁.objs.size=none:=Heap.get?_none_of_le (FK _);generalize KG:({cls:=.type "traceback",dict:=r_,data:=.fields ([Value.none,.ref L,.none,RY L,.none]++(if pl.isEmpty then Gr 6 Value.none else pl)).toArray}:Ro)=oT;have he₂:=Heap.get?_push_of_some (h:=h₁) oT he₁;have v3:h₁.objs.size≠e:=GE (Heap.lt_size he₁);refine R5 he₂ rfl g8 (h _ h₁.objs.size ?_ ?_ ?_)
 .refine#[sl,vs.setIfInBounds 1 (.ref h₁.objs.size),oT,([Value.none,.ref L,.none,RY L,.none]++(if pl.isEmpty then Gr 6 Value.none else pl)).toArray,?_,by simp[g8],v3,?_,by rw[<-KG],JU]
  .rw[Heap.get?_update_self _ he₂ rfl];rfl
  .rw[Heap.get?_update_other _ _ (Ne.symm v3)];exact Heap.get?_push_size h₁ (by rw[<-KG];rfl)
 .exact Hj hs₁.1.symm
 .have kp:∀b o,b≠e->h₁.get? b=be o->((h₁.push oT).update e (Obj.mapFields (·.setIfInBounds 1 (Value.ref h₁.objs.size)))).get? b=be o:=λb o hb z=>by
   rw[Heap.get?_update_other _ _ (Ne.symm hb)];exact Heap.get?_push_of_some _ z
  refine#[λb o q n m=>kp b o (λz=>n (by simp[z])) ((hs₁.2.1 b m).trans q),λb o q n=>?_,λb o q=>?_]
  .obtain⟨u9,z⟩:=hs₁.2.2 b o q;exact#[u9,kp b _ (λz=>n (by simp[z])) z]
  .by_cases hb:b=e
   .subst hb;exact#[_,Heap.get?_update_self _ he₂ rfl]
   .obtain⟨u9,z⟩:=hs₁.2.2 b o q;exact#[_,kp b _ hb z]
def qN(m6:A.frames=be (env::outer))(hl:s.heap.FunFrames base (env::outer))(hf:env.frame=be L)(hx:ExAt s.heap e C od T .none)
  (h:∀h' T',ExAt h' e C od T' (RY L)->s.heap.objs.size<=T'->Stay (frs (env::outer)) [T,e] s.heap h'->Q () {s with heap:=h'}):Q7 M A (RW (.ref e) env) Q E s:=by
 obtain⟨sl,vs,oT,ts,he,h1,v3,hT,j_,h3⟩:=hx;have g8:1<vs.size:=(Ho.mp h1).1;have Ly:3<ts.size:=(Ho.mp h3).1;have JS:e∉(env::outer).filterMap (·.frame):=λhm=>by
  obtain⟨_,o,ho,hnf⟩:=hl.mem hm;rw[he]at ho;injection ho with ho;subst ho;exact hnf vs rfl
 unfold RW;simp only[hf];refine Os (RH he rfl h1 ?_);rw[if_pos (show(Value.ref T !=Value.none)=true from JU)];refine Os (RH hT j_ h3 ?_);rw[if_neg (show¬((Value.none==RY L)=true)from by simp[RY])];refine Os (R5 hT j_ Ly ?_);have other:∀b,b≠T->(s.heap.update T (Obj.mapFields (·.setIfInBounds 3 Value.none))).get? b=s.heap.get? b:=λb hb=>Heap.get?_update_other _ _ (Ne.symm hb);have nT:∀b o,s.heap.get? b=be o->(∀vs,o.data≠.fields vs)->b≠T:=λb o hb hnf q=>by
  rw[q,hT]at hb;injection hb with hb;subst hb;exact hnf ts j_
 have Me:(s.heap.update T (Obj.mapFields (·.setIfInBounds 3 Value.none))).FunFrames base (env::outer):=hl.of_keeps λb o hb hnf=>#[o,(other b (nT b o hb hnf)).trans hb,rfl];have Pk:∃o',(s.heap.update T (Obj.mapFields (·.setIfInBounds 3 Value.none))).get? T=be o':=#[_,Heap.get?_update_self _ hT (Obj.isFreed_of_fields (Obj.data_mapFields j_ _))];refine Os (SR m6 Me hf λh₁ hs₁=>Os (SL λpl c_=>?_));unfold EntryCells.newEntry newFields;refine Os (Rj ?_ (c_.sizeOk5 _ _ _ _ _));have he₁:h₁.get? e=be #[.ref C,od,.fields vs,sl]:=(hs₁.2.1 e JS).trans ((other e (Ne.symm v3)).trans he);have fresh:h₁.get? h₁.objs.size=none:=Heap.get?_none_of_le (FK _);generalize KG:({cls:=.type "traceback",dict:=r_,data:=.fields ([Value.ref T,.ref L,.none,RY L,.none]++(if pl.isEmpty then Gr 6 Value.none else pl)).toArray}:Ro)=Mf;have he₂:=Heap.get?_push_of_some (h:=h₁) Mf he₁;have KH:h₁.objs.size≠e:=GE (Heap.lt_size he₁);refine R5 he₂ rfl g8 (h _ h₁.objs.size ?_ ?_ ?_)
 .refine#[sl,vs.setIfInBounds 1 (.ref h₁.objs.size),Mf,([Value.ref T,.ref L,.none,RY L,.none]++(if pl.isEmpty then Gr 6 Value.none else pl)).toArray,?_,by simp[g8],KH,?_,by rw[<-KG],JU]
  .rw[Heap.get?_update_self _ he₂ rfl];rfl
  .rw[Heap.get?_update_other _ _ (Ne.symm KH)];exact Heap.get?_push_size h₁ (by rw[<-KG];rfl)
 .exact Hj (hs₁.1.trans (Heap.size_after_update _ _ _)).symm
 .have kp:∀b o,b≠e->h₁.get? b=be o->((h₁.push Mf).update e (Obj.mapFields (·.setIfInBounds 1 (Value.ref h₁.objs.size)))).get? b=be o:=λb o hb z=>by
   rw[Heap.get?_update_other _ _ (Ne.symm hb)];exact Heap.get?_push_of_some _ z
  refine#[λb o q n m=>kp b o (λz=>n (by simp[z])) ((hs₁.2.1 b m).trans ((other b (λz=>n (by simp[z]))).trans q)),λb o q n=>?_,λb o q=>?_]
  .obtain⟨u9,z⟩:=hs₁.2.2 b o ((other b (λz=>n (by simp[z]))).trans q);exact#[u9,kp b _ (λz=>n (by simp[z])) z]
  .by_cases hb:b=e
   .subst hb;exact#[_,Heap.get?_update_self _ he₂ rfl]
   .have:∃o',(s.heap.update T (Obj.mapFields (·.setIfInBounds 3 Value.none))).get? b=be o':=by
     by_cases hb:b=T
     .rw[hb];exact Pk
     .exact#[o,(other _ hb).trans q]
    obtain⟨o',q'⟩:=this;obtain⟨u9,z⟩:=hs₁.2.2 b o' q';exact#[_,kp b _ hb z]
def flight_none{fl:KB}(hx:ExAt s.heap e C od T fl)(h:∀h',ExAt h' e C od T .none->Stay [] [T] s.heap h'->Q () {s with heap:=h'}):Q7 M A (Sa (.ref e) r_) Q E s:=by
 obtain⟨sl,vs,oT,ts,he,h1,v3,hT,j_,h3⟩:=hx;have Ly:3<ts.size:=(Ho.mp h3).1;unfold Sa;refine Os (RH he rfl h1 ?_);rw[if_pos (show(Value.ref T !=Value.none)=true from JU)];refine R5 hT j_ Ly (h _ ?_ ?_)
 .exact#[sl,vs,_,_,(Heap.get?_update_other _ _ v3).trans he,h1,v3,Heap.get?_update_self _ hT (Obj.isFreed_of_fields (Obj.data_mapFields j_ _)),Obj.data_mapFields j_ _,by simp[Ly]]
 .have other:∀b o,b∉[T]->s.heap.get? b=be o->(s.heap.update T (Obj.mapFields (·.setIfInBounds 3 ((r_:Option KF).elim Value.none λf=>RY f)))).get? b=be o:=λb o hb q=>(Heap.get?_update_other _ _ (λz=>hb (by simp[z]))).trans q;refine#[λb o q n _=>other b o n q,λb o q n=>#[o.slots,other b o n q],λb o q=>?_];by_cases hb:b=T
  .subst hb;exact#[_,Heap.get?_update_self _ hT (Obj.isFreed_of_fields (Obj.data_mapFields j_ _))]
  .exact#[o,other b o (by simp[hb]) q]
end
def CX1(P:Q5)(w:Q_):CXT:=λouter H s E ev s'=>∃e C od T H',ev=.ref e/\s'.os=s.os/\RU s'.gens/\Un (frs outer) [] H H' s.heap s'.heap/\HOk P w H' s'.heap/\ExAt s'.heap e C od T .none/\s.heap.get? e=r_/\s.heap.get? T=r_/\H' e=r_/\H' T=r_/\E (.ref C) od H'
variable{fs ex:List KF}
def fz{P:Q5}{w:Q_}{H:Hp}{h h':Rc}(x:HOk P w H h)(st:Stay fs ex h h')(hf:∀b∈fs,H b=r_)(he:∀b∈ex,H b=r_):HOk P w H h':=λa o q=>
 (x a o q).stay (λb u hb r=>by
  have hn:H b≠none:=by
   rcases hb with rfl|hb
   .rw[q];exact λz=>nomatch z
   .rw[hb];exact λz=>nomatch z
  exact st.keep b u r (λz=>hn (he b z)) (λz=>hn (hf b z))) (λ_ q=>q) λ_ _ q=>q
def gz{o_:List KF}{H H':Hp}{h h1 h2:Rc}(u:Un fs [] H H' h h1)(st:Stay o_ ex h1 h2)(f9:∀b∈ex,h.get? b=r_)(Lz:∀b∈o_,b∈fs\/h.get? b=r_):Un fs [] H H' h h2 where
 keep:=λb o q n hb hx=>st.keep b o (u.keep b o q n hb hx) (λz=>by rw[f9 b z]at q;cases q) (λz=>(Lz b z).elim hb λy=>by rw[y]at q;cases q)
 slot:=λb o q n hb hx=>by
  obtain⟨sl,e1⟩:=u.slot b o q n hb hx;obtain⟨u9,e2⟩:=st.slot b _ e1 (λz=>by rw[f9 b z]at q;cases q);exact#[u9,e2]
 free:=u.free
 there:=λb o q hx=>by
  obtain⟨o1,e1⟩:=u.there b o q hx;exact st.there b o1 e1
 tups:=u.tups
 frzs:=u.frzs
 tbls:=u.tbls
section
variable {P:Q5}{w:Q_}{K:Ex}{mg:A_->Option KB}{base:Rc}{N:List A_}{qual:A_}{scope:RA}{f:KF}{cd:KB}{A:Ra}{outer:List RQ}{s:KM}{H:Hp}{E E':XK}
def qO{b:KF}(hb:b∈frs (Rk qual scope s.heap.objs.size f cd::outer)):b∈frs outer\/s.heap.get? b=none:=by
 unfold frs at hb;rw[Hf]at hb;rcases FL.mp (show b∈s.heap.objs.size::outer.filterMap (·.frame)from hb)with e|e
 .rw[e];exact .inr (Heap.get?_none_of_le (FK _))
 .exact .inl e
def jP{pins:List (KF×Ro)}{σ:L2.St}{H1:Hp}{s1:KM}{e C:KF}{od:Option KF}{sl:Array (Option KB)}{vs:Array KB}(I:Inv (cxOf (CX1 P w) P w K mg base N qual scope f cd A outer s H E') pins σ H1 s1)
  (he:s1.heap.get? e=be #[.ref C,od,.fields vs,sl]) (h1:vs[1]?=be .none) (He:H1 e=r_) (ne:s.heap.get? e=r_) (hE:E' (.ref C) od H1):(cxOf (CX1 P w) P w K mg base N qual scope f cd A outer s H E').xe (.ref e) s1:=by
 show Q7 _ _ (Sz _ _) _ _ _;unfold Sz;refine Os (qM I.ok.frames I.stack rfl he h1 λh2 T2 ox v4 p6=>flight_none (s:={s1 with heap:=h2}) ox λh3 KI y9=>?_);have F_:s1.heap.get? T2=none:=Heap.get?_none_of_le v4;have f1:∀b,s1.heap.get? b=r_->s.heap.get? b=none:=λb q=>by
  cases z:s.heap.get? b with
  |none=>rfl
  |some o=>
   obtain⟨o',z'⟩:=I.base.there b o z (by exact λy=>absurd (show b∈([]:List KF)from y) JU);rw[q]at z';cases z'
 have hok:HOk P w H1 s1.heap:=I.hok;have Jt:H1 T2=none:=hok.fresh v4;have u2:Un (frs outer) [] H H1 s.heap h2:=gz (show Un (frs outer) [] H H1 s.heap s1.heap from I.base) p6 (λb hb=>by rw[FJ.mp hb];exact ne) λb hb=>qO hb;have u3:Un (frs outer) [] H H1 s.heap h3:=gz u2 y9 (λb hb=>by rw[FJ.mp hb];exact f1 T2 F_) λb hb=>by cases hb
 have k2:=fz hok p6 (λb hb=>I.stkFree b hb) (λb hb=>by rw[FJ.mp hb];exact He);have k3:=fz k2 y9 (λb hb=>by cases hb) (λb hb=>by rw[FJ.mp hb];exact Jt);exact#[e,C,od,T2,H1,rfl,I.os,I.bare,u3,k3,KI,ne,f1 T2 F_,He,Jt,hE]
end
end Exc
namespace L2
def Same.tup{K:Ex}{H H':Hp}{a:KF}{xs:List V}(e:Same H H')(h:SqT K H a xs):SqT K H' a xs:=by
 rcases h with(h|⟨o,h⟩)|h
 .exact .inl (.inl (e _ _ h))
 .exact .inl (.inr #[o,e _ _ h])
 .exact .inr h
end L2
namespace My
def fA{X:Cx}:fv (Exc.CX1 X.prog X.w) X E0:=λ_ _ _ _ _ _ _ h=>by
 obtain⟨e,C,od,T,H',_,_,_,_,_,_,_,_,_,_,h⟩:=h;exact h.elim
def Fun.okC{P:Q5}{w:Q_}{K:Ex}{mg:A_->Option KB}{base:Rc}{CX:CXT}{x qual:A_}{st:Q6}{f:KF}{fd:Rf}{N ps:List A_}{k:Nat}{sp:Sp}{dV:KB}(F:FunG K dV x qual st f fd)(S:FnScope N ps (ah st))(len:∀vs H Q E,sp vs H Q E->vs.length=ps.length)
  (a9:∀(cdv:KB) (A:Ra) (outer:List RQ) (s:KM) (H:Hp) (vs:List V) (Q:VK) (E:XK),Room k (A.deeper (Rk qual (ah st) s.heap.objs.size f cdv))->sp vs H Q E->
   ∃t,PSs (cxOf CX P w K mg base N qual (ah st) f cdv A outer s H E) (aL st) t/\t {nx:=λ_ H'=>Q .non H',rt:=Q} (start N vs) H):FnOk P w K mg base CX (k+1) f fd ps sp:=by
 obtain⟨oc,od,kV,doc,pm,an,cdv,ct,osl,rfl,lk,gV⟩:=F.ex;refine wY lk gV S len λA outer s H vs Q E hr Js=>?_;exact a9 cdv A outer s H vs Q E hr Js
def Cal(P:Q5)(w:Q_)(K:Ex)(mg:A_->Option KB)(base:Rc)(n:Nat)(x:A_)(ps:List A_)(sp:Sp):Prop:=
 ∃f fd,FnOk P w K mg base (Exc.CX1 P w) n f fd ps sp/\Binds K fd ps []/\keepIn K (.ref f)=true/\mg x=be (.ref f)
def Tx(K:Ex)(mg:A_->Option KB)(x:A_)(st:Q6)(ps:List A_):Prop:=
 ∃f fd,Fun K x x st f fd/\Binds K fd ps []/\mg x=be (.ref f)
section
variable {X:Cx}{n m:Nat}{ps:List A_}{sp:Sp}{x:A_}{p pos:Ri}{e:P3}{es:List P3}{t:TA}
def xL(C:Cal X.prog X.w X.K X.mg X.base n x ps sp)(hr:Room m X.A)(ha:PA X (e::es) t)(hg:autoParam (Gl X x) zA0)(hn:autoParam (n<=m) zA1)(d7:autoParam (zND x) zA1)
  (he:autoParam (zSE X e es) zA0) (c_:autoParam (zPL X pos es) zA0):
  PE X (.Call (.Name x p) (e::es) [] pos) (qq sp [] E0 t):=by
 obtain⟨f,fd,F,hb,hk,hm⟩:=C;exact wV F (hr.mono hn) hg hm hk hb .nil fA ha d7 he c_
end
def aP{H:Hp}{p:KF}(h:H p=r_)(o:HO):Same H (upd H p o):=λb u q=>by rw[ay (cu q h)];exact q
def sz{n:Nat}(h:n<=1000):n<=sizeLine:=Hd (xC h)
end My
namespace L2
section
variable {X:Cx}
variable{e:P3}
def PE.anti{t t':TE}(h:PE X e t)(a:∀s H Q,t' s H Q->t s H Q):PE X e t':=λpins s σ H Q I q=>h pins s σ H Q I (a _ _ _ q)
def PT.anti{t t':TT}(h:PT X e t)(a:∀s H Q,t' s H Q->t s H Q):PT X e t':=λpins s σ H Q I q=>h pins s σ H Q I (a _ _ _ q)
def PW.anti{t t':TT}(h:PW X e t)(a:∀s H Q,t' s H Q->t s H Q):PW X e t':=λwh pins s σ H Q I q=>h wh pins s σ H Q I (a _ _ _ q)
def PA.anti{e:List P3}{t t':TA}(h:PA X e t)(a:∀s H Q,t' s H Q->t s H Q):PA X e t':=λp pins s σ H Q I q=>h p pins s σ H Q I (a _ _ _ q)
def PS.anti{e:Q6}{t t':TS}(h:PS X e t)(a:∀E s H,t' E s H->t E s H):PS X e t':=λpins s σ H Q I q=>h pins s σ H Q I (a _ _ _ q)
def PSs.anti{e:List Q6}{t t':TS}(h:PSs X e t)(a:∀E s H,t' E s H->t E s H):PSs X e t':=λpins s σ H Q I q=>h pins s σ H Q I (a _ _ _ q)
end
end L2
namespace My
inductive D where
 |non|bl (b:Bool)|int (i:Int)|str (x:Str)|tup (xs:List D)|lst (xs:List D)
  |rol (xs:List D)
  |obj (x:A_) (fs:List (A_×D))
  |exc (x:A_) (fs:List (A_×D))
  |own (xs:List D)
  |ptr (a:KF)
  |dti (a8:List ((Int×Int)×Int))
def dtiV(a8:List ((Int×Int)×Int)):List (List Key×V):=a8.map λe=>([.inl e.1.1,.inl e.1.2],.int e.2)
def XO(e C:KF)(od:Option KF):HO:=.ext λh=>∃vs sl,h.get? e=be #[.ref C,od,.fields vs,sl]
mutual
def Rep(K:Ex)(H:Hp):D->V->Prop
 |.non,v=>v=.non
 |.bl b,v=>v=.bl b
 |.int i,v=>v=.int i
 |.str x,v=>v=.str x
 |.tup ds,v=>∃a vs,v=.ref a/\H a=be (.tup vs)/\Reps K H ds vs
 |.lst ds,v=>∃a vs,v=.ref a/\H a=be (.lst vs)/\Reps K H ds vs
 |.rol ds,v=>∃a vs,v=.ref a/\SqL K H a vs/\Reps K H ds vs
 |.obj x fs,v=>∃a C dx vs,v=.ref a/\nsIn K Pi x=be (be (.ref C))/\H a=be (.ins C dx vs)/\RepF K H fs vs
 |.exc x fs,v=>∃a C od vs,v=.ref a/\nsIn K Pi x=be (be (.ref C))/\H a=be (XO a C od)/\RepF K H fs vs/\((od=r_/\vs=[])\/∃b,od=be b/\H b=be (.xd vs))
 |.own _,_=>False
 |.ptr a,v=>v=.ref a
 |.dti a8,v=>∃a,v=.ref a/\H a=be (.dT (dtiV a8))
def RepF(K:Ex)(H:Hp):List (A_×D)->List (A_×V)->Prop
 |[],vs=>vs=[]
 |(f,d)::ds,vs=>∃v r,vs=(f,v)::r/\Rep K H d v/\RepF K H ds r
def Reps(K:Ex)(H:Hp):List D->List V->Prop
 |[],vs=>vs=[]
 |d::ds,vs=>∃v r,vs=v::r/\Rep K H d v/\Reps K H ds r
end
mutual
def Rep.mono{K:Ex}{H H':Hp}(g:Same H H'):∀(d:D) (v:V),Rep K H d v->Rep K H' d v
 |.non,v,h=>by unfold Rep at h ⊢;exact h
 |.bl b,v,h=>by unfold Rep at h ⊢;exact h
 |.int b,v,h=>by unfold Rep at h ⊢;exact h
 |.str b,v,h=>by unfold Rep at h ⊢;exact h
 |.tup ds,v,h=>by
  unfold Rep at h ⊢;obtain⟨a,vs,e,q,r⟩:=h;exact#[a,vs,e,g _ _ q,Reps.mono g ds vs r]
 |.lst ds,v,h=>by
  unfold Rep at h ⊢;obtain⟨a,vs,e,q,r⟩:=h;exact#[a,vs,e,g _ _ q,Reps.mono g ds vs r]
 |.rol ds,v,h=>by
  unfold Rep at h ⊢;obtain⟨a,vs,e,q,r⟩:=h;exact#[a,vs,e,g.seq q,Reps.mono g ds vs r]
 |.obj C fs,v,h=>by
  unfold Rep at h ⊢;obtain⟨a,C,dx,vs,e,n,q,r⟩:=h;exact#[a,C,dx,vs,e,n,g _ _ q,RepF.mono g fs vs r]
 |.exc C fs,v,h=>by
  unfold Rep at h ⊢;obtain⟨a,C,od,vs,e,n,q,r,d⟩:=h;exact#[a,C,od,vs,e,n,g _ _ q,RepF.mono g fs vs r,d.imp id λ⟨b,h1,h2⟩=>#[b,h1,g _ _ h2]]
 |.own ds,v,h=>by
  unfold Rep at h ⊢;exact h
 |.ptr a,v,h=>by unfold Rep at h ⊢;exact h
 |.dti a8,v,h=>by
  unfold Rep at h ⊢;obtain⟨a,e,q⟩:=h;exact#[a,e,g _ _ q]
def RepF.mono{K:Ex}{H H':Hp}(g:Same H H'):∀(ds:List (A_×D)) (vs:List (A_×V)),RepF K H ds vs->RepF K H' ds vs
 |[],vs,h=>by unfold RepF at h ⊢;exact h
 |(f,d)::ds,vs,h=>by
  unfold RepF at h ⊢;obtain⟨v,r,e,q1,q2⟩:=h;exact#[v,r,e,Rep.mono g d v q1,RepF.mono g ds r q2]
def Reps.mono{K:Ex}{H H':Hp}(g:Same H H'):∀(ds:List D) (vs:List V),Reps K H ds vs->Reps K H' ds vs
 |[],vs,h=>by unfold Reps at h ⊢;exact h
 |d::ds,vs,h=>by
  unfold Reps at h ⊢;obtain⟨v,r,e,q1,q2⟩:=h;exact#[v,r,e,Rep.mono g d v q1,Reps.mono g ds r q2]
end
section
variable {K:Ex}{H:Hp}
variable{v:V}
def rep_non:Rep K H .non v↔v=.non:=by unfold Rep;exact Iff.rfl
def rep_bl{b:Bool}:Rep K H (.bl b) v↔v=.bl b:=by unfold Rep;exact Iff.rfl
def rep_int{i:Int}:Rep K H (.int i) v↔v=.int i:=by unfold Rep;exact Iff.rfl
variable{x:A_}
def rep_str:Rep K H (.str x) v↔v=.str x:=by unfold Rep;exact Iff.rfl
variable{ds:List My.D}
def rep_tupS:Rep K H (.tup ds) v↔∃a vs,v=.ref a/\H a=be (.tup vs)/\Reps K H ds vs:=by
 constructor
 .intro h;unfold Rep at h;exact h
 .intro h;unfold Rep;exact h
def rep_tup_mp(h:Rep K H (.tup ds) v):∃a vs,v=.ref a/\SqT K H a vs/\Reps K H ds vs:=by
 obtain⟨a,vs,e,q,r⟩:=rep_tupS.mp h;exact#[a,vs,e,SqT.of q,r]
def rep_ptr{a:KF}:Rep K H (.ptr a) v↔v=.ref a:=by unfold Rep;exact Iff.rfl
def rep_dti{a8:List ((Int×Int)×Int)}:Rep K H (.dti a8) v↔∃a,v=.ref a/\H a=be (.dT (dtiV a8)):=by
 constructor
 .intro h;unfold Rep at h;exact h
 .intro h;unfold Rep;exact h
def rep_lst:Rep K H (.lst ds) v↔∃a vs,v=.ref a/\H a=be (.lst vs)/\Reps K H ds vs:=by
 constructor
 .intro h;unfold Rep at h;exact h
 .intro h;unfold Rep;exact h
def rep_rol:Rep K H (.rol ds) v↔∃a vs,v=.ref a/\SqL K H a vs/\Reps K H ds vs:=by
 constructor
 .intro h;unfold Rep at h;exact h
 .intro h;unfold Rep;exact h
variable{fs:List (A_×My.D)}
def rep_obj:Rep K H (.obj x fs) v↔∃a C dx vs,v=.ref a/\nsIn K Pi x=be (be (.ref C))/\H a=be (.ins C dx vs)/\RepF K H fs vs:=by
 constructor
 .intro h;unfold Rep at h;exact h
 .intro h;unfold Rep;exact h
def rep_exc:Rep K H (.exc x fs) v↔∃a C od vs,v=.ref a/\nsIn K Pi x=be (be (.ref C))/\H a=be (XO a C od)/\RepF K H fs vs/\((od=r_/\vs=[])\/∃b,od=be b/\H b=be (.xd vs)):=by
 constructor
 .intro h;unfold Rep at h;exact h
 .intro h;unfold Rep;exact h
def rep_own:¬Rep K H (.own ds) v:=by intro h;unfold Rep at h;exact h
variable{vs:List (A_×V)}
def repf_nil:RepF K H [] vs↔vs=[]:=by unfold RepF;exact Iff.rfl
def repf_cons{f:A_}{d:D}{ds:List (A_×D)}:RepF K H ((f,d)::ds) vs↔∃v r,vs=(f,v)::r/\Rep K H d v/\RepF K H ds r:=by
 constructor
 .intro h;unfold RepF at h;exact h
 .intro h;unfold RepF;exact h
def RepF.look{f:A_}{d:D}:∀{fs:List (A_×D)} {vs:List (A_×V)},RepF K H fs vs->fs.lookup f=be d->∃v,vs.lookup f=be v/\Rep K H d v
 |[],_,_,e=>by cases e
 |(g,x)::fs,vs,h,e=>by
  obtain⟨v,r,rfl,h1,h2⟩:=repf_cons.mp h;rw[FY]at e ⊢;split at e
  .cases e;exact#[v,rfl,h1]
  .exact RepF.look h2 e
def RepF.none{f:A_}:∀{fs:List (A_×D)} {vs:List (A_×V)},RepF K H fs vs->fs.lookup f=Option.none->vs.lookup f=Option.none
 |[],vs,h,_=>by rw[repf_nil.mp h];rfl
 |(g,x)::fs,vs,h,e=>by
  obtain⟨v,r,rfl,h1,h2⟩:=repf_cons.mp h;rw[FY]at e ⊢;split at e
  .cases e
  .exact RepF.none h2 e
def reps_nil{vs:List V}:Reps K H [] vs↔vs=[]:=by unfold Reps;exact Iff.rfl
def reps_cons{d:D}{vs:List V}:Reps K H (d::ds) vs↔∃v r,vs=v::r/\Rep K H d v/\Reps K H ds r:=by
 constructor
 .intro h;unfold Reps at h;exact h
 .intro h;unfold Reps;exact h
def Reps.length:∀{ds:List D} {vs:List V},Reps K H ds vs->vs.length=ds.length
 |[],vs,h=>by rw[reps_nil.mp h];rfl
 |d::ds,vs,h=>by
  obtain⟨v,r,rfl,_,h2⟩:=reps_cons.mp h;rw[FW,FW,Reps.length h2]
def Reps.get:∀{ds:List D} {vs:List V} {i:Nat} {d:D},Reps K H ds vs->ds[i]?=be d->∃v,vs[i]?=be v/\Rep K H d v
 |[],_,_,_,_,e=>by simp at e
 |x::ds,vs,0,d,h,e=>by
  obtain⟨v,r,rfl,h1,_⟩:=reps_cons.mp h;simp at e;subst e;exact#[v,rfl,h1]
 |x::ds,vs,i+1,d,h,e=>by
  obtain⟨v,r,rfl,_,h2⟩:=reps_cons.mp h;obtain⟨u,q1,q2⟩:=Reps.get (i:=i) h2 (by simpa using e);exact#[u,by simpa using q1,q2]
def Reps.ints:∀{ns:List Int} {vs:List V},Reps K H (ns.map D.int) vs↔vs=ns.map V.int
 |[],vs=>reps_nil
 |n::ns,vs=>by
  rw[Gc,reps_cons,Gc];constructor
  .rintro⟨v,r,rfl,h1,h2⟩;rw[rep_int.mp h1,Reps.ints.mp h2]
  .rintro rfl;exact#[_,_,rfl,rep_int.mpr rfl,Reps.ints.mpr rfl]
end
abbrev SD:=List (Option D)
def gA:D->Bool|.own _=>true|_=>false
structure RepS(K:Ex)(B F H:Hp)(t:SD)(s:L2.St):Prop where
 len:s.length=t.length
 val:∀(i:Nat) d,t[i]?=be (be d)->gA d=false->∃v,s[i]?=be (be v)/\Rep K F d v
 own:∀(i:Nat) ds,t[i]?=be (be (.own ds))->∃a vs,s[i]?=be (be (.ref a))/\H a=be (.lst vs)/\B a=r_/\F a=r_/\Reps K F ds vs
 apart:∀(i j:Nat) di dj a,t[i]?=be (be (.own di))->t[j]?=be (be (.own dj))->s[i]?=be (be (.ref a))->s[j]?=be (be (.ref a))->i=j
structure Grow(F H F' H':Hp):Prop where
 ff:Same F F'
 fh:Same F' H'
 hh:Same H H'
 out:∀b,F b=r_->H b≠r_->F' b=r_
variable{F H:Hp}
def Grow.refl(h:Same F H):Grow F H F H:=#[Same.refl F,h,Same.refl H,λ_ h _=>h]
def Grow.trans{F1 H1 F2 H2:Hp}(g:Grow F H F1 H1)(k:Grow F1 H1 F2 H2):Grow F H F2 H2:=
 ⟨g.ff.trans k.ff,k.fh,g.hh.trans k.hh,λb h1 h2=>k.out b (g.out b h1 h2) (by
  cases e:H b with
  |none=>exact absurd e h2
  |some o=>rw[g.hh b o e];exact λz=>nomatch z)⟩
def Grow.new{p:KF}(h:Same F H)(hp:H p=r_)(o:HO):Grow F H (upd F p o) (upd H p o):=by
 have fp:F p=none:=h.free hp;refine#[aP fp o,λb u e=>?_,aP hp o,λb h1 h2=>?_]
 .by_cases hb:b=p
  .subst hb;rw[aG]at e ⊢;exact e
  .rw[ay hb]at e ⊢;exact h b u e
 .by_cases hb:b=p
  .subst hb;exact absurd hp h2
  .rw[ay hb];exact h1
class Jx where
 B:Hp
 F0:Hp
 RX:SD->A_->List (A_×D)->Prop
structure Kept[J:Jx](B F0 F H:Hp):Prop where
 bh:Same B H
 fh:Same F H
 f0:Same F0 F
 out:∀b,F0 b=r_->B b≠r_->F b=r_
 eb:B=J.B
 jf:Same J.F0 F0
 jo:∀b,J.F0 b=r_->B b≠r_->F0 b=r_
variable{B:Hp}
def Kept.kf[J:Jx]{F0:Hp}(k:Kept B F0 F H):Kept B J.F0 F H:=#[k.bh,k.fh,k.jf.trans k.f0,λb h1 h2=>k.out b (k.jo b h1 h2) h2,k.eb,Same.refl _,λ_ h _=>h]
def Kept.grow[Jx]{F0 F' H':Hp}(k:Kept B F0 F H)(g:Grow F H F' H'):Kept B F0 F' H':=
 ⟨k.bh.trans g.hh,g.fh,k.f0.trans g.ff,λb h1 h2=>g.out b (k.out b h1 h2) (by
  cases e:B b with
  |none=>exact absurd e h2
  |some o=>rw[k.bh b o e];exact λz=>nomatch z),k.eb,k.jf,k.jo⟩
section
variable {K:Ex}{B F H F' H':Hp}{t:SD}{s:L2.St}
def RepS.grow(g:Grow F H F' H')(h:RepS K B F H t s):RepS K B F' H' t s where
 len:=h.len
 val:=λi d e no=>let ⟨v,q1,q2⟩:=h.val i d e no;#[v,q1,q2.mono g.ff]
 own:=λi ds e=>by
  obtain⟨a,vs,q1,q2,q3,q4,q5⟩:=h.own i ds e;exact#[a,vs,q1,g.hh a _ q2,q3,g.out a q4 (by rw[q2];exact λz=>nomatch z),q5.mono g.ff]
 apart:=h.apart
variable{i:Nat}
def RepS.set{d:D}{v:V}(h:RepS K B F H t s)(r:Rep K F d v):RepS K B F H (t.set i (be d)) (s.set i (be v)):=by
 have no:gA d=false:=by
  cases d with
  |own ds=>exact absurd r rep_own
  |_=>rfl
 have get:∀{j:Nat} {x:D},(t.set i (be d))[j]?=be (be x)->(j=i/\x=d/\i<t.length)\/(j≠i/\t[j]?=be (be x)):=λ{j x} e=>by
  by_cases hj:i=j
  .subst hj;rw[GT]at e;simp at e;exact .inl #[rfl,e.2.symm,e.1]
  .rw[F4 hj]at e;exact .inr #[λz=>hj z.symm,e]
 refine#[by rw[Gx,Gx];exact h.len,λj x e nx=>?_,λj ds e=>?_,λj k dj dk a e1 e2 e3 e4=>?_]
 .rcases get e with⟨rfl,rfl,hl⟩|⟨hj,e⟩
  .exact#[v,by rw[Gu (by rw[h.len];exact hl)],r]
  .obtain⟨u,q1,q2⟩:=h.val j x e nx;exact#[u,by rw[F4 (λz=>hj z.symm)];exact q1,q2]
 .rcases get e with⟨rfl,rfl,hl⟩|⟨hj,e⟩
  .cases no
  .obtain⟨a,vs,q1,q⟩:=h.own j ds e;exact#[a,vs,by rw[F4 (λz=>hj z.symm)];exact q1,q]
 .rcases get e1 with⟨rfl,rfl,hl⟩|⟨hj,e1⟩
  .cases no
  .rcases get e2 with⟨rfl,rfl,hl⟩|⟨hk,e2⟩
   .cases no
   .rw[F4 (λz=>hj z.symm)]at e3;rw[F4 (λz=>hk z.symm)]at e4;exact h.apart j k dj dk a e1 e2 e3 e4
variable{ds:List My.D}
def RepS.setOwn{a:KF}{vs:List V}(h:RepS K B F H t s)(hB:B a=r_)(hF:F a=r_)(r:Reps K F ds vs)
  (free:∀(j:Nat) dj,j≠i->t[j]?=be (be (.own dj))->s[j]?≠be (be (.ref a))):RepS K B F (upd H a (.lst vs)) (t.set i (be (.own ds))) (s.set i (be (.ref a))):=by
 have get:∀{j:Nat} {x:D},(t.set i (be (.own ds)))[j]?=be (be x)->(j=i/\x=.own ds/\i<t.length)\/(j≠i/\t[j]?=be (be x)):=λ{j x} e=>by
  by_cases hj:i=j
  .subst hj;rw[GT]at e;simp at e;exact .inl #[rfl,e.2.symm,e.1]
  .rw[F4 hj]at e;exact .inr #[λz=>hj z.symm,e]
 refine#[by rw[Gx,Gx];exact h.len,λj x e nx=>?_,λj dj e=>?_,λj k dj dk b e1 e2 e3 e4=>?_]
 .rcases get e with⟨rfl,rfl,hl⟩|⟨hj,e⟩
  .cases nx
  .obtain⟨u,q1,q2⟩:=h.val j x e nx;exact#[u,by rw[F4 (λz=>hj z.symm)];exact q1,q2]
 .rcases get e with⟨rfl,e,hl⟩|⟨hj,e⟩
  .cases e;exact#[a,vs,by rw[Gu (by rw[h.len];exact hl)],aG,hB,hF,r]
  .obtain⟨b,us,q1,q2,q⟩:=h.own j dj e;have ne:b≠a:=λz=>free j dj hj e (z ▸ q1);exact#[b,us,by rw[F4 (λz=>hj z.symm)];exact q1,by rw[ay ne];exact q2,q]
 .rcases get e1 with⟨hj,c1,hl⟩|⟨hj,f1⟩
  .rcases get e2 with⟨hk,c2,Lv⟩|⟨hk,f2⟩
   .rw[hj,hk]
   .rw[hj,Gu (by rw[h.len];exact hl)]at e3;rw[F4 (λz=>hk z.symm)]at e4;cases e3;exact absurd e4 (free k dk hk f2)
  .rcases get e2 with⟨hk,c2,Lv⟩|⟨hk,f2⟩
   .rw[hk,Gu (by rw[h.len];exact Lv)]at e4;rw[F4 (λz=>hj z.symm)]at e3;cases e4;exact absurd e3 (free j dj hj f1)
   .rw[F4 (λz=>hj z.symm)]at e3;rw[F4 (λz=>hk z.symm)]at e4;exact h.apart j k dj dk b f1 f2 e3 e4
def RepS.freeze[Jx]{F0:Hp}(h:RepS K B F H t s)(k:Kept B F0 F H)(e:t[i]?=be (be (.own ds))):∃F',Kept B F0 F' H/\RepS K B F' H (t.set i (be (.lst ds))) s:=by
 obtain⟨a,vs,q1,q2,q3,q4,q5⟩:=h.own i ds e;have hl:i<t.length:=(FU.mp e).1;have g:Same F (upd F a (.lst vs)):=aP q4 _;have get:∀{j:Nat} {x:D},(t.set i (be (.lst ds)))[j]?=be (be x)->(j=i/\x=.lst ds)\/(j≠i/\t[j]?=be (be x)):=λ{j x} e=>by
  by_cases hj:i=j
  .subst hj;rw[GT]at e;simp at e;exact .inl #[rfl,e.2.symm]
  .rw[F4 hj]at e;exact .inr #[λz=>hj z.symm,e]
 refine#[upd F a (.lst vs),#[k.bh,λb o z=>?_,k.f0.trans g,λb h1 h2=>?_,k.eb,k.jf,k.jo],#[by rw[Gx];exact h.len,λj x e' nx=>?_,λj dj e'=>?_,λj l dj dl b e1 e2 e3 e4=>?_]]
 .by_cases hb:b=a
  .subst hb;rw[aG]at z;cases z;exact q2
  .rw[ay hb]at z;exact k.fh b o z
 .by_cases hb:b=a
  .subst hb;exact absurd q3 h2
  .rw[ay hb];exact k.out b h1 h2
 .rcases get e' with⟨rfl,rfl⟩|⟨hj,e'⟩
  .exact#[.ref a,q1,rep_lst.mpr #[a,vs,rfl,aG,q5.mono g]]
  .obtain⟨u,p1,p2⟩:=h.val j x e' nx;exact#[u,p1,p2.mono g]
 .rcases get e' with⟨rfl,c⟩|⟨hj,e'⟩
  .cases c
  .obtain⟨b,us,p1,p2,p3,p4,p5⟩:=h.own j dj e';have ne:b≠a:=λz=>hj (h.apart j i dj ds a e' e (z ▸ p1) q1);exact#[b,us,p1,p2,p3,by rw[ay ne];exact p4,p5.mono g]
 .rcases get e1 with⟨rfl,c⟩|⟨hj,e1⟩
  .cases c
  .rcases get e2 with⟨rfl,c⟩|⟨hk,e2⟩
   .cases c
   .exact h.apart j l dj dl b e1 e2 e3 e4
end
def startD(N:List A_)(ds:List D):SD:=ds.map be++Gr (N.length-ds.length) r_
variable{K:Ex}
def Rep.noown{d:D}{v:V}(r:Rep K F d v):gA d=false:=by
 cases d with
 |own ds=>exact absurd r rep_own
 |_=>rfl
def dD{N:List A_}{ds:List D}{vs:List V}(h:Reps K F ds vs):RepS K B F H (startD N ds) (L2.start N vs):=by
 have hl:=h.length;have get:∀(i:Nat) d,(startD N ds)[i]?=be (be d)->∃v,(L2.start N vs)[i]?=be (be v)/\Rep K F d v:=λi d e=>by
  unfold startD at e;unfold L2.start;by_cases hi:i<ds.length
  .rw[Gv (by simpa using hi),FS]at e;cases q:ds[i]? with
   |none=>rw[q]at e;cases e
   |some x=>
    rw[q]at e;cases e;obtain⟨v,q1,q2⟩:=h.get q;exact#[v,by rw[Gv (by simpa[hl]using hi),FS,q1];rfl,q2]
  .rw[GH (by simpa using hi),Hy]at e;split at e<;>cases e
 refine#[by unfold startD L2.start;simp[hl],λi d e _=>get i d e,λi d e=>?_,λi j di dj a e=>?_]
 .obtain⟨v,_,r⟩:=get i _ e;exact absurd r rep_own
 .obtain⟨v,_,r⟩:=get i _ e;exact absurd r rep_own
abbrev TD:=SD->(D->Prop)->Prop
abbrev TDT:=SD->(Bool->Prop)->Prop
abbrev TDA:=SD->(List D->Prop)->Prop
structure EndsD where
 nx:SD->Prop
 rt:D->Prop
 bk:SD->Prop:=λ_=>False
 ct:SD->Prop:=λ_=>False
abbrev TSD:=EndsD->SD->Prop
def lE(K:Ex)[J:Jx](t:TD):TE:=λs H Q=>∃B F z,Kept B J.F0 F H/\RepS K B F H z s/\∃R:D->Prop,t z R/\∀d v F' H',Grow F H F' H'->R d->Rep K F' d v->Q v H'
def lT(K:Ex)[J:Jx](t:TDT):TT:=λs H Q=>∃B F z,Kept B J.F0 F H/\RepS K B F H z s/\∃R:Bool->Prop,t z R/\∀b F' H',Grow F H F' H'->R b->Q b H'
def lA(K:Ex)[J:Jx](t:TDA):TA:=λs H Q=>∃B F z,Kept B J.F0 F H/\RepS K B F H z s/\∃R:List D->Prop,t z R/\∀ds vs F' H',Grow F H F' H'->R ds->Reps K F' ds vs->Q vs H'
structure EndsOk[Jx](K:Ex)(B F0:Hp)(ED:EndsD)(E:Ends):Prop where
 nx:∀z' s' F' H',Kept B F0 F' H'->ED.nx z'->RepS K B F' H' z' s'->E.nx s' H'
 rt:∀d v F' H',Kept B F0 F' H'->ED.rt d->Rep K F' d v->E.rt v H'
 bk:∀z' s' F' H',Kept B F0 F' H'->ED.bk z'->RepS K B F' H' z' s'->E.bk s' H'
 ct:∀z' s' F' H',Kept B F0 F' H'->ED.ct z'->RepS K B F' H' z' s'->E.ct s' H'
def lS(K:Ex)[Jx](t:TSD):TS:=λE s H=>∃B F0 F z,Kept B F0 F H/\RepS K B F H z s/\∃ED:EndsD,t ED z/\EndsOk K B F0 ED E
abbrev DE(X:Cx)[Jx](e:P3)(t:TD):Prop:=PE X e (lE X.K t)
abbrev DT(X:Cx)[Jx](e:P3)(t:TDT):Prop:=PT X e (lT X.K t)
abbrev DW(X:Cx)[Jx](e:P3)(t:TDT):Prop:=PW X e (lT X.K t)
abbrev DA(X:Cx)[Jx](es:List P3)(t:TDA):Prop:=PA X es (lA X.K t)
abbrev DS(X:Cx)[Jx](st:Q6)(t:TSD):Prop:=PS X st (lS X.K t)
abbrev DSs(X:Cx)[Jx](st:List Q6)(t:TSD):Prop:=PSs X st (lS X.K t)
structure WDE(X:Cx)[Jx](e:P3)(t:TD):Prop where
 out:DE X e t
structure WDT(X:Cx)[Jx](e:P3)(t:TDT):Prop where
 out:DT X e t
structure WDW(X:Cx)[Jx](e:P3)(t:TDT):Prop where
 out:DW X e t
structure WDA(X:Cx)[Jx](es:List P3)(t:TDA):Prop where
 out:DA X es t
structure WDS(X:Cx)[Jx](st:Q6)(t:TSD):Prop where
 out:DS X st t
structure WDSs(X:Cx)[Jx](st:List Q6)(t:TSD):Prop where
 out:DSs X st t
section
variable {X:Cx}
def okR(R:D->Prop):D->Prop|.own _=>False|d=>R d
def dVar(i:Nat):TD:=λz R=>match z[i]? with|some (be d)=>okR R d|_=>False
def dC(d:D):TD:=λ_ R=>R d
variable{x:A_}
def aa[Jx](i:Nat){pos:Ri}(hN:autoParam (X.N[i]?=be x) zA0)(hv:autoParam (Vis X.env.scope x) zA5)(hd:autoParam (zND x) zA1)
  (gV:autoParam (zNC x) zA1):WDE X (.Name x pos) (dVar i):=⟨(dz hN hv hd gV).anti λs H Q h=>by
 obtain⟨B,F,z,kf,r,R,h1,h2⟩:=h;have fh:=kf.fh;unfold dVar at h1;split at h1
 .rename_i d e;have no:gA d=false:=by
   cases d with
   |own ds=>exact False.elim h1
   |_=>rfl
  have Pl:R d:=by
   cases d with
   |own ds=>exact False.elim h1
   |_=>exact h1
  obtain⟨v,q1,q2⟩:=r.val i d e no;exact#[v,q1,h2 d v F H (Grow.refl fh) Pl q2]
 .exact h1.elim⟩
variable{e:P3}{d:My.D}
def de_c[Jx]{v:V}(h:PE X e (tC v))(r:∀H,Rep X.K H d v):DE X e (dC d):=h.anti λs H Q q=>by
 obtain⟨B,F,z,kf,_,R,h1,h2⟩:=q;have fh:=kf.fh;exact h2 d v F H (Grow.refl fh) h1 (r F)
def ad[Jx]{i j pos}:WDE X (.Constant (.int i) j pos) (dC (.int i)):=#[de_c vF λ_=>rep_int.mpr rfl]
def bA[Jx]{b j pos}:WDE X (.Constant (.bool b) j pos) (dC (.bl b)):=#[de_c vG λ_=>rep_bl.mpr rfl]
def cO[Jx]{j pos}:WDE X (.Constant .none j pos) (dC .non):=#[de_c vH λ_=>rep_non.mpr rfl]
def aA[Jx]{x j pos}:WDE X (.Constant (.str x) j pos) (dC (.str x)):=#[de_c pK λ_=>rep_str.mpr rfl]
abbrev RD2:=D->D->(D->Prop)->Prop
def dOp(r:RD2)(ta tb:TD):TD:=λz R=>ta z λx=>tb z λy=>r x y R
def aY(K:Ex)(r:R2)(rd:RD2):Prop:=∀x y u v F H R Q,Same F H->rd x y R->Rep K F x u->Rep K F y v->(∀d w F' H',Grow F H F' H'->R d->Rep K F' d w->Q w H')->r u v H Q
variable{r:R2}{rd:RD2}
def jQ[Jx]{ta tb:TD}(L:aY X.K r rd)(h:PE X e (tOp r (lE X.K ta) (lE X.K tb))):DE X e (dOp rd ta tb):=h.anti λs H Q q=>by
 obtain⟨B,F,z,kf,rs,R,h1,h2⟩:=q;have fh:=kf.fh;refine#[B,F,z,kf,rs,_,h1,λx u F1 H1 g1 hx rx=>?_];refine#[B,F1,z,kf.grow g1,rs.grow g1,_,hx,λy v F2 H2 g2 hy ry=>?_];exact L x y u v F2 H2 R Q g2.fh hy (rx.mono g2.ff) ry λd w F' H' g3=>h2 d w F' H' (g1.trans (g2.trans g3))
variable {a b c:P3}{ta tb tc:TD}{pos:Ri}
def dE[Jx]{op:So}(ho:OpR X (Rt op) r)(L:aY X.K r rd)(ha:DE X a ta)(hb:DE X b tb):DE X (.BinOp a op b pos) (dOp rd ta tb):=jQ L (jz ho ha hb)
def qP[Jx]{op:SZ}(ho:OpR X (Rp op) r)(L:aY X.K r rd)(ha:DE X a ta)(hb:DE X b tb)(hm:Ry op b=false):DE X (.Compare a [op] [b] pos) (dOp rd ta tb):=jQ L (ww ho ha hb hm)
def xM[Jx](hr:IxR X r)(L:aY X.K r rd)(ha:DE X a ta)(hb:DE X b tb)(hs:autoParam (dS b) zA6):DE X (.Subscript a b pos) (dOp rd ta tb):=jQ L (pe_ix hr ha hb hs)
def kdI(d:D)(k:Int->Prop):Prop:=match d with|.int i=>k i|_=>False
def kdB(d:D)(k:Bool->Prop):Prop:=match d with|.bl i=>k i|_=>False
def kdS(d:D)(k:A_->Prop):Prop:=match d with|.str i=>k i|_=>False
def kdL(d:D)(k:List D->Prop):Prop:=match d with|.lst i=>k i|_=>False
def kdT(d:D)(k:List D->Prop):Prop:=match d with|.tup i=>k i|_=>False
def kdN(d:D)(p:Prop):Prop:=match d with|.non=>p|_=>False
def kd1(ds:List D)(k:D->Prop):Prop:=match ds with|[x]=>k x|_=>False
def kd2(ds:List D)(k:D->D->Prop):Prop:=match ds with|[x,y]=>k x y|_=>False
def kdI.of{k:Int->Prop}(h:kdI d k):∃i,d=.int i/\k i:=KL
def kdB.of{k:Bool->Prop}(h:kdB d k):∃i,d=.bl i/\k i:=KL
def kdS.of{k:A_->Prop}(h:kdS d k):∃i,d=.str i/\k i:=KL
variable{k:List My.D->Prop}
def kdL.of(h:kdL d k):∃i,d=.lst i/\k i:=KL
def kdT.of(h:kdT d k):∃i,d=.tup i/\k i:=KL
def kdP(d:D)(k:KF->Prop):Prop:=match d with|.ptr i=>k i|_=>False
def kdP.of{k:KF->Prop}(h:kdP d k):∃i,d=.ptr i/\k i:=KL
def kdN.of{p:Prop}(h:kdN d p):d=.non/\p:=by cases d<;>first|exact#[rfl,h]|exact False.elim h
variable{ds:List My.D}
def kd1.of{k:D->Prop}(h:kd1 ds k):∃x,ds=[x]/\k x:=by
 cases ds with
 |nil=>exact False.elim h
 |cons x r=>cases r with
  |nil=>exact#[x,rfl,h]
  |cons=>exact False.elim h
def kd2.of{k:D->D->Prop}(h:kd2 ds k):∃x y,ds=[x,y]/\k x y:=by
 cases ds with
 |nil=>exact False.elim h
 |cons x r=>cases r with
  |nil=>exact False.elim h
  |cons y r=>cases r with
   |nil=>exact#[x,y,rfl,h]
   |cons=>exact False.elim h
def rdI0(f:Int->Int->D):RD2:=λx y R=>kdI x λi=>kdI y λj=>R (f i j)
def rdI1(C:Int->Int->Prop)(f:Int->Int->D):RD2:=λx y R=>kdI x λi=>kdI y λj=>C i j/\R (f i j)
variable{K:Ex}{f:Int->Int->My.D}{g:Int->Int->V}
def fB(k:∀F i j,Rep K F (f i j) (g i j)):aY K (rI0 g) (rdI0 f):=by
 intro x y u v F H R Q fh h rx ry q;replace h:=kdI.of h;obtain⟨i,rfl,h⟩:=h;replace h:=kdI.of h;obtain⟨j,rfl,h⟩:=h;exact#[i,j,rep_int.mp rx,rep_int.mp ry,q _ _ F H (Grow.refl fh) h (k F i j)]
def fC{C:Int->Int->Prop}(k:∀F i j,Rep K F (f i j) (g i j)):aY K (rI C g) (rdI1 C f):=by
 intro x y u v F H R Q fh h rx ry q;replace h:=kdI.of h;obtain⟨i,rfl,h⟩:=h;replace h:=kdI.of h;obtain⟨j,rfl,h⟩:=h;exact#[i,j,rep_int.mp rx,rep_int.mp ry,h.1,q _ _ F H (Grow.refl fh) h.2 (k F i j)]
def jR:RD2:=λx y R=>match x with
 |.int i=>kdI y λj=>R (.int (i+j))
 |.str i=>kdS y λj=>i.length+j.length<=1000000/\R (.str (i++j))
 |.lst xs=>kdL y λys=>xs.length+ys.length<=1000000/\R (.lst (xs++ys))
 |.tup xs=>kdT y λys=>(xs≠[]/\ys≠[]/\xs.length+ys.length<=1000000)/\R (.tup (xs++ys))
 |_=>False
def qQ(K:Ex):R2:=λx y H Q=>rI0 (λi j=>.int (i+j)) x y H Q\/((λx y H Q=>∃i j,x=.str i/\y=.str j/\i.length+j.length<=sizeLine/\Q (.str (i++j)) H) x y H Q\/(rCat x y H Q\/qz K x y H Q))
def qR:OpR X (Rt .Add) (qQ X.K):=OpR.or wl (OpR.or wA (OpR.or qD xi))
def Reps.append{K:Ex}{F:Hp}:∀{xs ys:List D} {us vs:List V},Reps K F xs us->Reps K F ys vs->Reps K F (xs++ys) (us++vs)
 |[],ys,us,vs,r1,r2=>by rw[reps_nil.mp r1];exact r2
 |x::xs,ys,us,vs,r1,r2=>by
  obtain⟨u,ur,rfl,a1,a2⟩:=reps_cons.mp r1;exact reps_cons.mpr #[u,ur++vs,rfl,a1,Reps.append a2 r2]
def Reps.ne_nil{F:Hp}{xs:List D}{us:List V}(r:Reps K F xs us)(h:xs≠[]):us≠[]:=by
 cases xs with
 |nil=>exact absurd rfl h
 |cons x xs=>obtain⟨u,ur,rfl,_⟩:=reps_cons.mp r;exact λz=>nomatch z
def qS:aY K (qQ K) jR:=by
 intro x y u v F H R Q fh h rx ry q;cases x with
 |int i=>
  replace h:=kdI.of h;obtain⟨j,rfl,h⟩:=h;exact .inl #[_,_,rep_int.mp rx,rep_int.mp ry,q _ _ F H (Grow.refl fh) h (rep_int.mpr rfl)]
 |str i=>
  replace h:=kdS.of h;obtain⟨j,rfl,h⟩:=h;exact .inr (.inl #[_,_,rep_str.mp rx,rep_str.mp ry,FQ h.1 JQ,q _ _ F H (Grow.refl fh) h.2 (rep_str.mpr rfl)])
 |lst xs=>
  replace h:=kdL.of h;obtain⟨ys,rfl,h⟩:=h;obtain⟨a,us,rfl,hq,rr⟩:=rep_lst.mp rx;obtain⟨b,vs,rfl,C_,J8⟩:=rep_lst.mp ry;refine .inr (.inr (.inl #[a,b,us,vs,rfl,rfl,fh _ _ hq,fh _ _ C_,by rw[rr.length,J8.length];exact FQ h.1 JQ,λp hp=>?_]));exact q _ _ _ _ (Grow.new fh hp _) h.2 (rep_lst.mpr #[p,_,rfl,aG,(rr.append J8).mono (aP (fh.free hp) _)])
 |tup xs=>
  replace h:=kdT.of h;obtain⟨ys,rfl,h⟩:=h;obtain⟨a,us,rfl,hq,rr⟩:=rep_tup_mp rx;obtain⟨b,vs,rfl,C_,J8⟩:=rep_tup_mp ry;obtain⟨⟨n1,n2,hz⟩,h⟩:=h;refine .inr (.inr (.inr #[a,b,us,vs,rfl,rfl,fh.tup hq,fh.tup C_,rr.ne_nil n1,by rw[rr.length,J8.length];exact FQ hz JQ,λz=>absurd z (J8.ne_nil n2),λ_ p hp=>?_]));exact q _ _ _ _ (Grow.new fh hp _) h (rep_tupS.mpr #[p,_,rfl,aG,(rr.append J8).mono (aP (fh.free hp) _)])
 |_=>exact False.elim h
def ao[Jx](ha:WDE X a ta)(hb:WDE X b tb):WDE X (.BinOp a .Add b pos) (dOp jR ta tb):=#[have ha:=ha.out;have hb:=hb.out;dE qR qS ha hb]
def jS:RD2:=rdI0 λi j=>.int (i-j)
def qT:aY K (rI0 λi j=>.int (i-j)) jS:=fB λ_ _ _=>rep_int.mpr rfl
def bj[Jx](ha:WDE X a ta)(hb:WDE X b tb):WDE X (.BinOp a .Sub b pos) (dOp jS ta tb):=#[have ha:=ha.out;have hb:=hb.out;dE pX qT ha hb]
def qU:RD2:=λx y R=>kdI x λi=>kdI y λj=>CMul i j/\R (.int (i*j))
def xN:aY K (rI CMul λi j=>.int (i*j)) qU:=fC λ_ _ _=>rep_int.mpr rfl
def ax[Jx](ha:WDE X a ta)(hb:WDE X b tb):WDE X (.BinOp a .Mult b pos) (dOp qU ta tb):=#[have ha:=ha.out;have hb:=hb.out;dE wm xN ha hb]
def qV:RD2:=λx y R=>kdI x λi=>kdI y λj=>(0<j/\j<1073741824)/\R (.int (i/j))
def xO:aY K (rI CDiv λi j=>.int (i/j)) qV:=fC λ_ _ _=>rep_int.mpr rfl
def aR[Jx](ha:WDE X a ta)(hb:WDE X b tb):WDE X (.BinOp a .FloorDiv b pos) (dOp qV ta tb):=#[have ha:=ha.out;have hb:=hb.out;dE wn xO ha hb]
def qW(i j:Int):Prop:=j≠0/\j.natAbs<4611686018427387904
def xP:OpR X (Rt .FloorDiv) (rI qW λi j=>.int (i.fdiv j)):=opI λ_ j _ _ _ _ _ hc q=>floordiv_int hc.1 q (.inl (PyProof.noPylong_of_log2 (Ij ((Il (λz=>hc.1 (Im.mp z))).mpr (show j.natAbs<2^62 from hc.2)) JQ)))
def qX:RD2:=λx y R=>kdI x λi=>kdI y λj=>(j≠0/\j.natAbs<4611686018427387904)/\R (.int (i.fdiv j))
def xQ:aY K (rI qW λi j=>.int (i.fdiv j)) qX:=fC λ_ _ _=>rep_int.mpr rfl
def xR[Jx](ha:WDE X a ta)(hb:WDE X b tb):WDE X (.BinOp a .FloorDiv b pos) (dOp qX ta tb):=#[have ha:=ha.out;have hb:=hb.out;dE xP xQ ha hb]
def qY:RD2:=λx y R=>kdI x λi=>kdI y λj=>0<j/\R (.int (i%j))
def xS:aY K (rI (λ_ j=>0<j) λi j=>.int (i%j)) qY:=fC λ_ _ _=>rep_int.mpr rfl
def az[Jx](ha:WDE X a ta)(hb:WDE X b tb):WDE X (.BinOp a .Mod b pos) (dOp qY ta tb):=#[have ha:=ha.out;have hb:=hb.out;dE wo xS ha hb]
def qZ:RD2:=λx y R=>kdI x λi=>kdI y λj=>j≠0/\R (.int (i.fmod j))
def xT:aY K (rI (λ_ j=>j≠0) λi j=>.int (i.fmod j)) qZ:=fC λ_ _ _=>rep_int.mpr rfl
def ra[Jx](ha:WDE X a ta)(hb:WDE X b tb):WDE X (.BinOp a .Mod b pos) (dOp qZ ta tb):=#[have ha:=ha.out;have hb:=hb.out;dE wr xT ha hb]
def rdLt:RD2:=rdI0 λi j=>.bl (decide (i<j))
def rb:aY K (rI0 λi j=>.bl (decide (i<j))) rdLt:=fB λ_ _ _=>rep_bl.mpr rfl
def rdLe:RD2:=rdI0 λi j=>.bl (decide (i<=j))
def xU:aY K (rI0 λi j=>.bl (decide (i<=j))) rdLe:=fB λ_ _ _=>rep_bl.mpr rfl
def rdGt:RD2:=rdI0 λi j=>.bl (decide (j<i))
def jT:aY K (rI0 λi j=>.bl (decide (j<i))) rdGt:=fB λ_ _ _=>rep_bl.mpr rfl
def xV[Jx](ha:WDE X a ta)(hb:WDE X b tb):WDE X (.Compare a [.Gt] [b] pos) (dOp rdGt ta tb):=#[have ha:=ha.out;have hb:=hb.out;qP jB jT ha hb (nomark _)]
def rdGe:RD2:=rdI0 λi j=>.bl (decide (j<=i))
def xW:aY K (rI0 λi j=>.bl (decide (j<=i))) rdGe:=fB λ_ _ _=>rep_bl.mpr rfl
def rdEq:RD2:=λx y R=>match x with
 |.int i=>kdI y λj=>R (.bl (decide (i=j)))
 |.bl i=>kdB y λj=>R (.bl (decide (i=j)))
 |.str i=>kdS y λj=>R (.bl (decide (i=j)))
 |.non=>kdN y (R (.bl true))
 |_=>False
def rdNe:RD2:=λx y R=>match x with
 |.int i=>kdI y λj=>R (.bl (!decide (i=j)))
 |.bl i=>kdB y λj=>R (.bl (!decide (i=j)))
 |.str i=>kdS y λj=>R (.bl (!decide (i=j)))
 |.non=>kdN y (R (.bl false))
 |_=>False
def jU:aY K rEq rdEq:=by
 intro x y u v F H R Q fh h rx ry q;cases x with
 |int i=>
  replace h:=kdI.of h;obtain⟨j,rfl,h⟩:=h;rw[rep_int.mp rx,rep_int.mp ry];exact#[rfl,q _ _ F H (Grow.refl fh) h (rep_bl.mpr JU)]
 |bl i=>
  replace h:=kdB.of h;obtain⟨j,rfl,h⟩:=h;rw[rep_bl.mp rx,rep_bl.mp ry];exact#[rfl,q _ _ F H (Grow.refl fh) h (rep_bl.mpr JU)]
 |str i=>
  replace h:=kdS.of h;obtain⟨j,rfl,h⟩:=h;rw[rep_str.mp rx,rep_str.mp ry];exact#[rfl,q _ _ F H (Grow.refl fh) h (rep_bl.mpr JU)]
 |non=>
  replace h:=kdN.of h;obtain⟨rfl,h⟩:=h;rw[rep_non.mp rx,rep_non.mp ry];exact#[rfl,q _ _ F H (Grow.refl fh) h (rep_bl.mpr JU)]
 |_=>exact False.elim h
def re:aY K rNe rdNe:=by
 intro x y u v F H R Q fh h rx ry q;cases x with
 |int i=>
  replace h:=kdI.of h;obtain⟨j,rfl,h⟩:=h;rw[rep_int.mp rx,rep_int.mp ry];exact#[rfl,q _ _ F H (Grow.refl fh) h (rep_bl.mpr JU)]
 |bl i=>
  replace h:=kdB.of h;obtain⟨j,rfl,h⟩:=h;rw[rep_bl.mp rx,rep_bl.mp ry];exact#[rfl,q _ _ F H (Grow.refl fh) h (rep_bl.mpr JU)]
 |str i=>
  replace h:=kdS.of h;obtain⟨j,rfl,h⟩:=h;rw[rep_str.mp rx,rep_str.mp ry];exact#[rfl,q _ _ F H (Grow.refl fh) h (rep_bl.mpr JU)]
 |non=>
  replace h:=kdN.of h;obtain⟨rfl,h⟩:=h;rw[rep_non.mp rx,rep_non.mp ry];exact#[rfl,q _ _ F H (Grow.refl fh) h (rep_bl.mpr JU)]
 |_=>exact False.elim h
def cF[Jx](ha:WDE X a ta)(hb:WDE X b tb):WDE X (.Compare a [.Eq] [b] pos) (dOp rdEq ta tb):=#[have ha:=ha.out;have hb:=hb.out;qP jA jU ha hb (nomark _)]
def rg:D->Bool|.non=>true|_=>false
def rdIs(f:Bool->Bool):RD2:=λx y R=>kdN y (R (.bl (f (rg x))))
def xX{H:Hp}{x:D}{u:V}(r:Rep K H x u):decide (u=.non)=rg x:=by
 cases x with
 |non=>rw[rep_non.mp r];rfl
 |bl b=>rw[rep_bl.mp r];rfl
 |int b=>rw[rep_int.mp r];rfl
 |str b=>rw[rep_str.mp r];rfl
 |tup b=>obtain⟨a,vs,rfl,_⟩:=rep_tup_mp r;rfl
 |lst b=>obtain⟨a,vs,rfl,_⟩:=rep_lst.mp r;rfl
 |rol b=>obtain⟨a,vs,rfl,_⟩:=rep_rol.mp r;rfl
 |obj C b=>obtain⟨a,C,dx,vs,rfl,_⟩:=rep_obj.mp r;rfl
 |exc C b=>obtain⟨a,C,od,vs,rfl,_⟩:=rep_exc.mp r;rfl
 |own b=>exact absurd r rep_own
 |ptr b=>rw[rep_ptr.mp r];rfl
 |dti b=>obtain⟨a,rfl,_⟩:=rep_dti.mp r;rfl
def rh:aY K (λx y H Q=>y=.non/\Q (.bl (decide (x=.non))) H) (rdIs id):=by
 intro x y u v F H R Q fh h rx ry q;replace h:=kdN.of h;obtain⟨rfl,h⟩:=h;exact#[rep_non.mp ry,q _ _ F H (Grow.refl fh) h (rep_bl.mpr (by rw[xX rx];rfl))]
def rdIx:RD2:=λx y R=>kdI y λi=>match x with
 |.tup ds=>∃d,atI ds i=be d/\R d
 |.lst ds=>∃d,atI ds i=be d/\R d
 |.rol ds=>∃d,atI ds i=be d/\R d
 |.str x=>∃c,(x.length<=1000000/\atI x.cps.toList i=be c)/\R (.str #[[c].toArray])
 |_=>False
def Reps.at{H:Hp}{vs:List V}{i:Int}(r:Reps K H ds vs)(e:atI ds i=be d):∃v,atI vs i=be v/\Rep K H d v:=by
 unfold atI at e ⊢;rw[r.length];cases q:ixN ds.length i with
 |none=>rw[q]at e;cases e
 |some j=>
  rw[q]at e;exact r.get e
def rj:aY K (rIx K) rdIx:=by
 intro x y u v F H R Q fh h rx ry q;replace h:=kdI.of h;obtain⟨i,rfl,h⟩:=h;cases x with
 |tup ds=>
  obtain⟨d,e,h⟩:=h;obtain⟨a,vs,e1,hq,rs⟩:=rep_tup_mp rx;obtain⟨w,e2,g5⟩:=rs.at e;exact .inr (.inl #[a,vs,_,w,e1,rep_int.mp ry,fh.tup hq,e2,q d w F H (Grow.refl fh) h g5])
 |lst ds=>
  obtain⟨d,e,h⟩:=h;obtain⟨a,vs,e1,hq,rs⟩:=rep_lst.mp rx;obtain⟨w,e2,g5⟩:=rs.at e;exact .inl #[a,vs,_,w,e1,rep_int.mp ry,fh.seq (SqL.of hq),e2,q d w F H (Grow.refl fh) h g5]
 |rol ds=>
  obtain⟨d,e,h⟩:=h;obtain⟨a,vs,e1,hq,rs⟩:=rep_rol.mp rx;obtain⟨w,e2,g5⟩:=rs.at e;exact .inl #[a,vs,_,w,e1,rep_int.mp ry,fh.seq hq,e2,q d w F H (Grow.refl fh) h g5]
 |str x=>
  obtain⟨c,⟨hz,e⟩,h⟩:=h;exact .inr (.inr #[_,_,c,rep_str.mp rx,rep_int.mp ry,FQ hz JQ,e,q _ _ F H (Grow.refl fh) h (rep_str.mpr rfl)])
 |_=>exact False.elim h
def af[Jx](ha:WDE X a ta)(hb:WDE X b tb)(hs:autoParam (dS b) zA6):WDE X (.Subscript a b pos) (dOp rdIx ta tb):=#[have ha:=ha.out;have hb:=hb.out;xM qB rj ha hb hs]
def dUn(r:D->(D->Prop)->Prop)(ta:TD):TD:=λz R=>ta z λx=>r x R
def rk:D->(D->Prop)->Prop:=λx R=>match x with|.int i=>R (.int (-i))|_=>False
def bW[Jx](ha:WDE X a ta):WDE X (.UnaryOp .USub a pos) (dUn rk ta):=⟨have ha:=ha.out;(wk wt ha).anti λs H Q h=>by
 obtain⟨B,F,z,kf,rs,R,h1,h2⟩:=h;have fh:=kf.fh;refine#[B,F,z,kf,rs,_,h1,λx u F1 H1 g1 hx rx=>?_];unfold rk at hx;split at hx
 .exact#[_,rep_int.mp rx,h2 _ _ F1 H1 g1 hx (rep_int.mpr rfl)]
 .exact hx.elim⟩
def dNil:TDA:=λ_ R=>R []
def xY(ta:TD)(tr:TDA):TDA:=λz R=>ta z λx=>tr z λxs=>R (x::xs)
def ae[Jx]:WDA X [] dNil:=⟨pa_nil.anti λs H Q h=>by
 obtain⟨B,F,z,kf,rs,R,h1,h2⟩:=h;have fh:=kf.fh;exact h2 [] [] F H (Grow.refl fh) h1 (reps_nil.mpr rfl)⟩
variable{es:List P3}{t:TDA}
def ac[Jx]{te:TD}(ha:WDE X e te)(hr:WDA X es t)(hs:autoParam (zSE X e es) zA0):WDA X (e::es) (xY te t):=⟨have ha:=ha.out;have hr:=hr.out;(bv ha hr hs).anti λs H Q h=>by
 obtain⟨B,F,z,kf,rs,R,h1,h2⟩:=h;have fh:=kf.fh;refine#[B,F,z,kf,rs,_,h1,λx u F1 H1 g1 hx rx=>?_];refine#[B,F1,z,kf.grow g1,rs.grow g1,_,hx,λxs us F2 H2 g2 hy ry=>?_];exact h2 _ _ F2 H2 (g1.trans g2) hy (reps_cons.mpr #[_,_,rfl,rx.mono g2.ff,ry])⟩
def dTup(t:TDA):TD:=λz R=>t z λxs=>xs.length<=1000/\R (.tup xs)
def dLst(t:TDA):TD:=λz R=>t z λxs=>xs.length<=1000/\R (.lst xs)
def aN[Jx]{x1}(h:WDA X es t):WDE X (.Tuple es x1 pos) (dTup t):=⟨have h:=h.out;(qp h).anti λs H Q q=>by
 obtain⟨B,F,z,kf,rs,R,h1,h2⟩:=q;have fh:=kf.fh;refine#[B,F,z,kf,rs,_,h1,λds vs F1 H1 g1 hx rx=>?_];have hl:=rx.length;refine#[sz (by rw[hl];exact hx.1),λp hp=>?_];exact h2 _ _ _ _ (g1.trans (Grow.new g1.fh hp _)) hx.2 (rep_tupS.mpr #[p,vs,rfl,aG,rx.mono (aP (g1.fh.free hp) _)])⟩
def bw[Jx](h:WDA X es t):WDE X (.List es pos) (dLst t):=⟨have h:=h.out;(gx h).anti λs H Q q=>by
 obtain⟨B,F,z,kf,rs,R,h1,h2⟩:=q;have fh:=kf.fh;refine#[B,F,z,kf,rs,_,h1,λds vs F1 H1 g1 hx rx=>?_];have hl:=rx.length;refine#[sz (by rw[hl];exact hx.1),λp hp=>?_];exact h2 _ _ _ _ (g1.trans (Grow.new g1.fh hp _)) hx.2 (rep_lst.mpr #[p,vs,rfl,aG,rx.mono (aP (g1.fh.free hp) _)])⟩
abbrev SpD:=List D->(D->Prop)->Prop
def lSp(K:Ex)(S:SpD):Sp:=λvs H Q _=>∃F ds,Same F H/\Reps K F ds vs/\∃R:D->Prop,S ds R/\∀d v F' H',Grow F H F' H'->R d->Rep K F' d v->Q v H'
def xZ(S:SpD)(t:TDA):TD:=λz R=>t z λds=>S ds R
abbrev CalD(P:Q5)(w:Q_)(K:Ex)(mg:A_->Option KB)(base:Rc)(n:Nat)(x:A_)(ps:List A_)(S:SpD):Prop:=Cal P w K mg base n x ps (lSp K S)
variable{p:Ri}
def aC[Jx]{n m:Nat}{ps:List A_}{S:SpD}(C:CalD X.prog X.w X.K X.mg X.base n x ps S)(hr:Room m X.A)(ha:WDA X (e::es) t)(hg:autoParam (Gl X x) zA0)(hn:autoParam (n<=m) zA1)(d7:autoParam (zND x) zA1)
  (he:autoParam (zSE X e es) zA0) (c_:autoParam (zPL X pos es) zA0):WDE X (.Call (.Name x p) (e::es) [] pos) (xZ S t):=⟨have ha:=ha.out;(xL C hr ha hg hn d7 he c_).anti λs H Q h=>by
 obtain⟨B,F,z,kf,rs,R,h1,h2⟩:=h;have fh:=kf.fh;refine#[B,F,z,kf,rs,_,h1,λds vs F1 H1 g1 hx rx=>?_];exact#[F1,ds,g1.fh,by rw[Gn];exact rx,R,hx,λd v F' H' g=>h2 d v F' H' (g1.trans g)]⟩
abbrev RDn:=List D->(D->Prop)->Prop
def cf(K:Ex)(r:List V->Hp->VK->Prop)(rd:RDn):Prop:=∀ds vs F H R Q,Same F H->rd ds R->Reps K F ds vs->(∀d w F' H',Grow F H F' H'->R d->Rep K F' d w->Q w H')->r vs H Q
def dCB(r:RDn)(t:TDA):TD:=λz R=>t z λds=>r ds R
def gB[Jx]{id:String}{r:List V->Hp->VK->Prop}{rd:RDn}(hc:bE X (.builtin id) r)(L:cf X.K r rd)(hm:X.mg x=r_)(hv:Rm x=be (.builtin id))(ha:DA X (e::es) t)(hg:autoParam (Gl X x) zA0)(hn:autoParam (x≠"__name__") zA1)(d7:autoParam (zND x) zA1)
  (he:autoParam (zSE X e es) zA0) (c_:autoParam (zPL X pos es) zA0):DE X (.Call (.Name x p) (e::es) [] pos) (dCB rd t):=(fw hc hg hm hv ha hn d7 he c_).anti λs H Q h=>by
 obtain⟨B,F,z,kf,rs,R,h1,h2⟩:=h;have fh:=kf.fh;refine#[B,F,z,kf,rs,_,h1,λds vs F1 H1 g1 hx rx=>?_];exact L ds vs F1 H1 R Q g1.fh hx rx λd w F' H' g=>h2 d w F' H' (g1.trans g)
def jV:RDn:=λds R=>kd1 ds λx=>match x with
 |.tup xs=>R (.int xs.length)
 |.lst xs=>R (.int xs.length)
 |.rol xs=>R (.int xs.length)
 |.str x=>x.length<=1000000/\R (.int x.length)
 |_=>False
def rl:cf K (λxs H Q=>∃x n,xs=[x]/\LenV K x H n/\Q (.int n) H) jV:=by
 intro ds vs F H R Q fh h rx q;replace h:=kd1.of h;obtain⟨x,rfl,h⟩:=h;obtain⟨v,r,rfl,h1,h2⟩:=reps_cons.mp rx;rw[reps_nil.mp h2];cases x with
 |tup xs=>
  obtain⟨a,us,rfl,hq,rs⟩:=rep_tup_mp h1;exact#[.ref a,us.length,rfl,.inr #[us,fh.tup hq,rfl],q _ _ F H (Grow.refl fh) h (rep_int.mpr (by rw[rs.length]))]
 |lst xs=>
  obtain⟨a,us,rfl,hq,rs⟩:=rep_lst.mp h1;exact#[.ref a,us.length,rfl,.inl #[us,fh.seq (SqL.of hq),rfl],q _ _ F H (Grow.refl fh) h (rep_int.mpr (by rw[rs.length]))]
 |rol xs=>
  obtain⟨a,us,rfl,hq,rs⟩:=rep_rol.mp h1;exact#[.ref a,us.length,rfl,.inl #[us,fh.seq hq,rfl],q _ _ F H (Grow.refl fh) h (rep_int.mpr (by rw[rs.length]))]
 |str x=>
  rw[rep_str.mp h1];exact#[.str _,_,rfl,#[FQ h.1 JQ,rfl],q _ _ F H (Grow.refl fh) h.2 (rep_int.mpr rfl)]
 |_=>exact False.elim h
def cj[Jx](hm:X.mg "len"=r_)(ha:WDA X [e] t)(hg:autoParam (Gl X "len") zA0)(he:autoParam (zSE X e []) zA0):WDE X (.Call (.Name "len" p) [e] [] pos) (dCB jV t):=#[have ha:=ha.out;gB jC rl hm PySem.boot_len ha hg JQ JQ he]
def rn:RDn:=λds R=>kd1 ds λx=>kdI x λi=>R (.int (if i<0 then -i else i))
def ya:cf K (λxs H Q=>∃i,xs=[.int i]/\Q (.int (if i<0 then -i else i)) H) rn:=by
 intro ds vs F H R Q fh h rx q;replace h:=kd1.of h;obtain⟨x,rfl,h⟩:=h;replace h:=kdI.of h;obtain⟨i,rfl,h⟩:=h;obtain⟨v,r,rfl,h1,h2⟩:=reps_cons.mp rx;rw[reps_nil.mp h2,rep_int.mp h1];exact#[_,rfl,q _ _ F H (Grow.refl fh) h (rep_int.mpr rfl)]
def dW[Jx](hm:X.mg "abs"=r_)(ha:WDA X [e] t)(hg:autoParam (Gl X "abs") zA0)(he:autoParam (zSE X e []) zA0):WDE X (.Call (.Name "abs" p) [e] [] pos) (dCB rn t):=#[have ha:=ha.out;gB wB ya hm PyProof.Rows.boot_abs ha hg JQ JQ he]
end
section
variable {X:Cx}{a b c e:P3}{ta tb tc te:TD}{pos:Ri}
def dTst(t:TD):TDT:=λz R=>t z λx=>match x with|.bl k=>R k|_=>False
def dF[Jx]{op:SZ}{r:R2}{rd:RD2}(ho:OpR X (Rp op) r)(L:aY X.K r rd)(ha:DE X a ta)(hb:DE X b tb)(hm:Ry op b=false):DT X (.Compare a [op] [b] pos) (dTst (dOp rd ta tb)):=(qh ho ha hb hm).anti λs H Q q=>by
 obtain⟨B,F,z,kf,rs,R,h1,h2⟩:=q;have fh:=kf.fh;refine#[B,F,z,kf,rs,_,h1,λx u F1 H1 g1 hx rx=>?_];refine#[B,F1,z,kf.grow g1,rs.grow g1,_,hx,λy v F2 H2 g2 hy ry=>?_];refine L x y u v F2 H2 _ _ g2.fh hy (rx.mono g2.ff) ry λd w F' H' g3 hd rd=>?_;split at hd
 .exact#[_,rep_bl.mp rd,h2 _ F' H' (g1.trans (g2.trans g3)) hd]
 .exact hd.elim
def fD[Jx](ha:WDE X a ta)(hb:WDE X b tb):WDT X (.Compare a [.Lt] [b] pos) (dTst (dOp rdLt ta tb)):=#[have ha:=ha.out;have hb:=hb.out;dF qf rb ha hb (nomark _)]
def yb[Jx](ha:WDE X a ta)(hb:WDE X b tb):WDT X (.Compare a [.LtE] [b] pos) (dTst (dOp rdLe ta tb)):=#[have ha:=ha.out;have hb:=hb.out;dF wu xU ha hb (nomark _)]
def rq[Jx](ha:WDE X a ta)(hb:WDE X b tb):WDT X (.Compare a [.Gt] [b] pos) (dTst (dOp rdGt ta tb)):=#[have ha:=ha.out;have hb:=hb.out;dF jB jT ha hb (nomark _)]
def rA[Jx](ha:WDE X a ta)(hb:WDE X b tb):WDT X (.Compare a [.GtE] [b] pos) (dTst (dOp rdGe ta tb)):=#[have ha:=ha.out;have hb:=hb.out;dF wv xW ha hb (nomark _)]
def bq[Jx](ha:WDE X a ta)(hb:WDE X b tb):WDT X (.Compare a [.Eq] [b] pos) (dTst (dOp rdEq ta tb)):=#[have ha:=ha.out;have hb:=hb.out;dF jA jU ha hb (nomark _)]
def cw[Jx](ha:WDE X a ta)(hb:WDE X b tb):WDT X (.Compare a [.NotEq] [b] pos) (dTst (dOp rdNe ta tb)):=#[have ha:=ha.out;have hb:=hb.out;dF qe re ha hb (nomark _)]
def rB[Jx](ha:WDE X a ta)(hb:WDE X b tb):WDT X (.Compare a [.Is] [b] pos) (dTst (dOp (rdIs id) ta tb)):=#[have ha:=ha.out;have hb:=hb.out;dF qg rh ha hb (nomark _)]
def dTru(t:TD):TDT:=λz R=>t z λx=>match x with
 |.non=>R false
 |.bl k=>R k
 |.int i=>R (i !=0)
 |.str y=>y.length<=1000/\R ((y.length:Int) !=0)
 |.tup xs=>R (!xs.isEmpty)
 |.lst xs=>R (!xs.isEmpty)
 |.rol xs=>R (!xs.isEmpty)
 |_=>False
variable{K:Ex}
def Reps.isEmpty{H:Hp}{ds:List D}{vs:List V}(r:Reps K H ds vs):vs.isEmpty=ds.isEmpty:=by
 cases ds with
 |nil=>rw[reps_nil.mp r];rfl
 |cons d ds=>obtain⟨v,r',rfl,_⟩:=reps_cons.mp r;rfl
def cx[Jx](ha:WDE X a ta)(he:autoParam (∀fI,isTrue a X.env fI=(do let v <-fI;RO a.pos;Ru [v] (truthy v))) zA2):WDT X a (dTru ta):=⟨have ha:=ha.out;(qi ha he).anti λs H Q q=>by
 obtain⟨B,F,z,kf,rs,R,h1,h2⟩:=q;have fh:=kf.fh;refine#[B,F,z,kf,rs,_,h1,λx u F1 H1 g1 hx rx=>?_];split at hx
 .rw[rep_non.mp rx];exact#[false,rfl,h2 _ F1 H1 g1 hx]
 .rw[rep_bl.mp rx];exact#[_,rfl,h2 _ F1 H1 g1 hx]
 .rw[rep_int.mp rx];exact#[_,rfl,h2 _ F1 H1 g1 hx]
 .rw[rep_str.mp rx];exact#[_,#[sz hx.1,rfl],h2 _ F1 H1 g1 hx.2]
 .obtain⟨p,vs,rfl,hq,rr⟩:=rep_tup_mp rx;exact#[_,.inr (.inl #[vs,g1.fh.tup hq,by rw[rr.isEmpty]]),h2 _ F1 H1 g1 hx]
 .obtain⟨p,vs,rfl,hq,rr⟩:=rep_lst.mp rx;exact#[_,.inl #[vs,g1.fh.seq (SqL.of hq),by rw[rr.isEmpty]],h2 _ F1 H1 g1 hx]
 .obtain⟨p,vs,rfl,hq,rr⟩:=rep_rol.mp rx;exact#[_,.inl #[vs,g1.fh.seq hq,by rw[rr.isEmpty]],h2 _ F1 H1 g1 hx]
 .exact hx.elim⟩
variable {tA z9:TDT}{b7:List P3}
def dAnd(t u:TDT):TDT:=λz R=>t z λc=>if c=true then u z R else R false
def dOr(t u:TDT):TDT:=λz R=>t z λc=>if c=true then R true else u z R
def dNot(t:TDT):TDT:=λz R=>t z λc=>R (!c)
def rC[Jx](ha:WDT X a tA):WDW X (.BoolOp .And [a] pos) tA:=#[have ha:=ha.out;pM ha]
def fE[Jx](ha:WDT X a tA):WDW X (.BoolOp .Or [a] pos) tA:=#[have ha:=ha.out;pN ha]
def rD[Jx](ha:WDT X a tA)(hb:WDW X (.BoolOp .And (b::b7) pos) z9):WDW X (.BoolOp .And (a::b::b7) pos) (dAnd tA z9):=⟨have ha:=ha.out;have hb:=hb.out;(pO ha hb).anti λs H Q q=>by
 obtain⟨B,F,z,kf,rs,R,h1,h2⟩:=q;have fh:=kf.fh;refine#[B,F,z,kf,rs,_,h1,λk F1 H1 g1 hx=>?_];cases k with
 |true=>exact#[B,F1,z,kf.grow g1,rs.grow g1,R,hx,λb F' H' g=>h2 b F' H' (g1.trans g)]
 |false=>exact h2 _ F1 H1 g1 hx⟩
def fF[Jx](ha:WDT X a tA)(hb:WDW X (.BoolOp .Or (b::b7) pos) z9):WDW X (.BoolOp .Or (a::b::b7) pos) (dOr tA z9):=⟨have ha:=ha.out;have hb:=hb.out;(pP ha hb).anti λs H Q q=>by
 obtain⟨B,F,z,kf,rs,R,h1,h2⟩:=q;have fh:=kf.fh;refine#[B,F,z,kf,rs,_,h1,λk F1 H1 g1 hx=>?_];cases k with
 |false=>exact#[B,F1,z,kf.grow g1,rs.grow g1,R,hx,λb F' H' g=>h2 b F' H' (g1.trans g)]
 |true=>exact h2 _ F1 H1 g1 hx⟩
def dG[Jx](h:WDW X a tA):WDT X a tA:=#[have h:=h.out;PW.pt h]
def dX[Jx](ha:WDT X a tA):WDT X (.UnaryOp .Not a pos) (dNot tA):=⟨have ha:=ha.out;(pQ ha).anti λs H Q q=>by
 obtain⟨B,F,z,kf,rs,R,h1,h2⟩:=q;have fh:=kf.fh;exact#[B,F,z,kf,rs,_,h1,λk F1 H1 g1 hx=>h2 _ F1 H1 g1 hx]⟩
def yc(ta tb:TD):TD:=λz R=>ta z λx=>match x with|.bl k=>if k=true then tb z R else R (.bl false)|_=>False
def yd(ta:TD):TD:=λz R=>ta z λx=>match x with|.bl k=>R (.bl (!k))|_=>False
def fG[Jx]{op}(h:WDE X a ta):WDE X (.BoolOp op [a] pos) ta:=#[have h:=h.out;vL h]
def fH[Jx](ha:WDE X a ta)(hb:WDE X (.BoolOp .And (b::b7) pos) tb):WDE X (.BoolOp .And (a::b::b7) pos) (yc ta tb):=⟨have ha:=ha.out;have hb:=hb.out;(vM ha hb).anti λs H Q q=>by
 obtain⟨B,F,z,kf,rs,R,h1,h2⟩:=q;have fh:=kf.fh;refine#[B,F,z,kf,rs,_,h1,λx u F1 H1 g1 hx rx=>?_];split at hx
 .rename_i k;refine#[k,rep_bl.mp rx,?_];cases k with
  |true=>exact#[B,F1,z,kf.grow g1,rs.grow g1,R,hx,λd v F' H' g=>h2 d v F' H' (g1.trans g)]
  |false=>exact h2 _ _ F1 H1 g1 hx (rep_bl.mpr rfl)
 .exact hx.elim⟩
def ye[Jx](ha:WDE X a ta):WDE X (.UnaryOp .Not a pos) (yd ta):=⟨have ha:=ha.out;(vN ha).anti λs H Q q=>by
 obtain⟨B,F,z,kf,rs,R,h1,h2⟩:=q;have fh:=kf.fh;refine#[B,F,z,kf,rs,_,h1,λx u F1 H1 g1 hx rx=>?_];split at hx
 .exact#[_,rep_bl.mp rx,h2 _ _ F1 H1 g1 hx (rep_bl.mpr rfl)]
 .exact hx.elim⟩
def tyD:D->String
 |.non=>"NoneType"|.bl _=>"bool"|.int _=>"int"|.str _=>"str"|.tup _=>"tuple"|.lst _=>"list"|.rol _=>"list"|.obj _ _=>"object"|.exc _ _=>"object"|.own _=>"list"|.ptr _=>"object"|.dti _=>"dict"
def cG(t:String)(x:D):Bool:=tyD x==t||(tyD x=="bool" && t=="int")
def TyQ(K:Ex)(H:Hp)(x:V)(t:String):Prop:=TyOf K H x (.type t)\/(t="tuple"/\∃a xs,x=.ref a/\SqT K H a xs)\/(t="list"/\∃a xs,x=.ref a/\SqL K H a xs)
def rE:bE X (.builtin "isinstance") (λxs H Q=>∃x t c k,xs=[x,.ty c]/\TyQ X.K H x t/\kitOne X.K (.type t) (.type c)=be k/\Q (.bl k) H):=by
 intro pins s σ H xs us Q I r h;obtain⟨x,t,c,k,rfl,ty,e,q⟩:=h;obtain⟨u,u',rfl,rx,rc⟩:=fu r;cases(show u'=Value.type c from rc);rcases ty with ty|⟨rfl,a,ys,rfl,hq⟩|⟨rfl,a,ys,rfl,hq⟩
 .exact wQ I rx ty e λtk=>#[.bl k,H,I.tok _,rfl,q]
 .cases(show u=Value.ref a from rx);obtain⟨its,_,⟨o,h1,h2,_⟩,_⟩:=I.tuple hq;exact kia_one kitx_tuple I.kIn #[o,h1,h2] e (λz=>nomatch z) λtk=>#[.bl k,H,I.tok _,rfl,q]
 .cases(show u=Value.ref a from rx);obtain⟨its,_,pl,_⟩:=I.list hq;obtain⟨o,n,h1,h2,_⟩:=pl;exact kia_one kitx_list I.kIn #[o,h1,h2] e (λz=>nomatch z) λtk=>#[.bl k,H,I.tok _,rfl,q]
def cH:D->Bool|.obj _ _=>false|.exc _ _=>false|.ptr _=>false|.dti _=>false|_=>true
def rF{F H:Hp}{x:D}{u:V}(fh:Same F H)(r:Rep K F x u)(no:cH x=true):TyQ K H u (tyD x):=by
 cases x with
 |non=>rw[rep_non.mp r];exact .inl .non
 |bl b=>rw[rep_bl.mp r];exact .inl (.bl b)
 |int b=>rw[rep_int.mp r];exact .inl (.int b)
 |str b=>rw[rep_str.mp r];exact .inl (.str b)
 |tup b=>obtain⟨a,vs,rfl,hq,_⟩:=rep_tup_mp r;exact .inr (.inl #[rfl,a,vs,rfl,fh.tup hq])
 |lst b=>obtain⟨a,vs,rfl,hq,_⟩:=rep_lst.mp r;exact .inr (.inr #[rfl,a,vs,rfl,fh.seq (SqL.of hq)])
 |rol b=>obtain⟨a,vs,rfl,hq,_⟩:=rep_rol.mp r;exact .inr (.inr #[rfl,a,vs,rfl,fh.seq hq])
 |obj C b=>cases no
 |exc C b=>cases no
 |ptr b=>cases no
 |dti b=>cases no
 |own b=>exact absurd r rep_own
def jW(t:String):D->(D->Prop)->Prop:=λx R=>match x with|.obj _ _=>False|.exc _ _=>False|.ptr _=>False|.dti _=>False|x=>R (.bl (cG t x))
def fJ[Jx]{p p2:Ri}{y:A_}{t:String}(hm:X.mg "isinstance"=r_)(Mg:X.mg y=r_)(ha:WDE X a ta)(hv:Rm y=be (.type t))
  (hk:∀x:D,cH x=true->kitOne X.K (.type (tyD x)) (.type t)=be (cG t x)) (hg:autoParam (Gl X "isinstance") zA0) (Mh:autoParam (Gl X y) zA0) (hn:autoParam (y≠"__name__") zA1) (d7:autoParam (zND y) zA1)
  (k6:autoParam (Re [a,.Name y p2] X.env=(false,Rg a X.env)::Re [.Name y p2] X.env) zA0) (j9:autoParam (Re [.Name y p2] X.env=(false,Rg (.Name y p2) X.env)::Re [] X.env) zA0) (c_:autoParam ((RZ pos (Re [.Name y p2] X.env)).any (·.1)=false) zA0):WDE X (.Call (.Name "isinstance" p) [a,.Name y p2] [] pos) (dUn (jW t) ta):=⟨have ha:=ha.out;(fw rE hg hm PyProof.Rows.boot_isinstance (bv ha (bv (pL (v:=.ty t) Mh Mg hv rfl hn d7) pa_nil j9) k6) JQ JQ k6 c_).anti λs H Q q=>by
 obtain⟨B,F,z,kf,rs,R,h1,h2⟩:=q;have fh:=kf.fh;refine#[B,F,z,kf,rs,_,h1,λx u F1 H1 g1 hx rx=>?_];have no:cH x=true:=by
  cases x with
  |obj C b=>exact False.elim hx
  |exc C b=>exact False.elim hx
  |ptr b=>exact False.elim hx
  |dti b=>exact False.elim hx
  |_=>rfl
 have gt:R (.bl (cG t x)):=by
  cases x with
  |obj C b=>exact False.elim hx
  |exc C b=>exact False.elim hx
  |ptr b=>exact False.elim hx
  |dti b=>exact False.elim hx
  |_=>exact hx
 exact#[u,tyD x,t,_,rfl,rF g1.fh rx no,hk x no,h2 _ _ F1 H1 g1 gt (rep_bl.mpr rfl)]⟩
def yf:∀x:D,cH x=true->kitOne K (.type (tyD x)) (.type "int")=be (cG "int" x):=by intro x no;cases x<;>first|rfl|cases no
def kit_bool:∀x:D,cH x=true->kitOne K (.type (tyD x)) (.type "bool")=be (cG "bool" x):=by intro x no;cases x<;>first|rfl|cases no
def kit_list:∀x:D,cH x=true->kitOne K (.type (tyD x)) (.type "list")=be (cG "list" x):=by intro x no;cases x<;>first|rfl|cases no
def kit_str:∀x:D,cH x=true->kitOne K (.type (tyD x)) (.type "str")=be (cG "str" x):=by intro x no;cases x<;>first|rfl|cases no
def toV:D->Option V
 |.non=>be .non|.bl b=>be (.bl b)|.int i=>be (.int i)|.str x=>be (.str x)|_=>r_
def bX(d:D):Bool:=(toV d).isSome
def eqF:D->D->Bool
 |.non,.non=>true
 |.bl a,.bl b=>a==b
 |.bl a,.int b=>(if a then 1 else 0)==b
 |.int a,.bl b=>a==(if b then 1 else 0)
 |.int a,.int b=>a==b
 |.str a,.str b=>a==b
 |_,_=>false
end
section
variable {X:Cx}{a b:P3}{ta tb:TD}{pos:Ri}
def yg{K:Ex}{H:Hp}{x y:D}{u v:V}(rx:Rep K H x u)(ry:Rep K H y v)(fx:bX x=true)(fy:bX y=true):eqV u v=eqF x y:=by
 cases x with
 |tup _=>cases fx
 |lst _=>cases fx
 |rol _=>cases fx
 |obj _ _=>cases fx
 |exc _ _=>cases fx
 |ptr _=>cases fx
 |dti _=>cases fx
 |own _=>cases fx
 |non=>rw[rep_non.mp rx];cases y with
  |tup _=>cases fy
  |lst _=>cases fy
  |rol _=>cases fy
  |obj _ _=>cases fy
  |exc _ _=>cases fy
  |ptr _=>cases fy
  |dti _=>cases fy
  |own _=>cases fy
  |non=>rw[rep_non.mp ry];rfl
  |bl _=>rw[rep_bl.mp ry];rfl
  |int _=>rw[rep_int.mp ry];rfl
  |str _=>rw[rep_str.mp ry];rfl
 |bl _=>rw[rep_bl.mp rx];cases y with
  |tup _=>cases fy
  |lst _=>cases fy
  |rol _=>cases fy
  |obj _ _=>cases fy
  |exc _ _=>cases fy
  |ptr _=>cases fy
  |dti _=>cases fy
  |own _=>cases fy
  |non=>rw[rep_non.mp ry];rfl
  |bl _=>rw[rep_bl.mp ry];rfl
  |int _=>rw[rep_int.mp ry];rfl
  |str _=>rw[rep_str.mp ry];rfl
 |int _=>rw[rep_int.mp rx];cases y with
  |tup _=>cases fy
  |lst _=>cases fy
  |rol _=>cases fy
  |obj _ _=>cases fy
  |exc _ _=>cases fy
  |ptr _=>cases fy
  |dti _=>cases fy
  |own _=>cases fy
  |non=>rw[rep_non.mp ry];rfl
  |bl _=>rw[rep_bl.mp ry];rfl
  |int _=>rw[rep_int.mp ry];rfl
  |str _=>rw[rep_str.mp ry];rfl
 |str _=>rw[rep_str.mp rx];cases y with
  |tup _=>cases fy
  |lst _=>cases fy
  |rol _=>cases fy
  |obj _ _=>cases fy
  |exc _ _=>cases fy
  |ptr _=>cases fy
  |dti _=>cases fy
  |own _=>cases fy
  |non=>rw[rep_non.mp ry];rfl
  |bl _=>rw[rep_bl.mp ry];rfl
  |int _=>rw[rep_int.mp ry];rfl
  |str _=>rw[rep_str.mp ry];rfl
def gC{K:Ex}{H:Hp}{x:D}{u:V}(rx:Rep K H x u)(fx:bX x=true):cv u=true:=by
 cases x with
 |tup _=>cases fx
 |lst _=>cases fx
 |rol _=>cases fx
 |obj _ _=>cases fx
 |exc _ _=>cases fx
 |ptr _=>cases fx
 |dti _=>cases fx
 |own _=>cases fx
 |non=>rw[rep_non.mp rx];rfl
 |bl _=>rw[rep_bl.mp rx];rfl
 |int _=>rw[rep_int.mp rx];rfl
 |str _=>rw[rep_str.mp rx];rfl
def gD{K:Ex}{H:Hp}:∀{xs:List D} {us:List V},Reps K H xs us->xs.all bX=true->us.all cv=true
 |[],us,r,_=>by rw[reps_nil.mp r];rfl
 |x::xs,us,r,f=>by
  obtain⟨v,vr,rfl,r1,r2⟩:=reps_cons.mp r;rw[Hl,Gf]at f ⊢;exact#[gC r1 f.1,gD r2 f.2]
end
section
variable {X:Cx}{a b c e:P3}{ta tb tc te:TD}{pos:Ri}{st:Q6}{b7:List Q6}{t u:TSD}
def yh:TSD:=λE z=>E.nx z
def dSeq(t u:TSD):TSD:=λE z=>t {E with nx:=u E} z
def bc[Jx]:WDSs X [] yh:=⟨pss_nil.anti λE s H q=>by
 obtain⟨B,F0,F,z,k,rs,ED,h,e⟩:=q;exact e.nx z s F H k h rs⟩
def ai[Jx](h1:WDS X st t)(h2:WDSs X b7 u):WDSs X (st::b7) (dSeq t u):=⟨have h1:=h1.out;have h2:=h2.out;(gm h1 h2).anti λE s H q=>by
 obtain⟨B,F0,F,z,k,rs,ED,h,e⟩:=q;exact#[B,F0,F,z,k,rs,{ED with nx:=u ED},h,#[λz' s' F' H' k' hz r'=>#[B,F0,F',z',k',r',ED,hz,e],e.rt,e.bk,e.ct]]⟩
def au[Jx](h1:WDS X st t):WDSs X [st] t:=#[have h1:=h1.out;jr h1]
def dFrz(i:Nat)(t:TSD):TSD:=λE z=>match z[i]? with|some (be (.own ds))=>t E (z.set i (be (.lst ds)))|_=>False
def dY[Jx](i:Nat){KJ:List Q6}(h:WDSs X KJ t):WDSs X KJ (dFrz i t):=⟨have h:=h.out;PSs.anti h λE s H q=>by
 obtain⟨B,F0,F,z,k,rs,ED,h,e⟩:=q;unfold dFrz at h;split at h
 .rename_i ds ez;obtain⟨F',k',r'⟩:=rs.freeze k ez;exact#[B,F0,F',_,k',r',ED,h,e]
 .exact h.elim⟩
def dRet(te:TD):TSD:=λE z=>te z E.rt
def aD[Jx](he:WDE X e te):WDS X (.Return (be e) pos) (dRet te):=⟨have he:=he.out;(jt he).anti λE s H q=>by
 obtain⟨B,F0,F,z,k,rs,ED,h,e⟩:=q;exact#[B,F,z,k.kf,rs,_,h,λd v F' H' g hd rd=>e.rt d v F' H' (k.grow g) hd rd]⟩
def yi(te:TD):TSD:=λE z=>te z λ_=>E.nx z
def rG[Jx](he:WDE X e te)(hs:autoParam (Rq e r_ pos.line X.env=pure false) zA0):WDS X (.Expr e pos) (yi te):=⟨have he:=he.out;(js he hs).anti λE s H q=>by
 obtain⟨B,F0,F,z,k,rs,ED,h,e⟩:=q;exact#[B,F,z,k.kf,rs,_,h,λd v F' H' g hd rd=>e.nx z s F' H' (k.grow g) hd (rs.grow g)]⟩
def dIfS(c:TDT)(t u:TSD):TSD:=λE z=>c z λb=>if b=true then t E z else u E z
variable{l r:List Q6}
def rH[Jx]{c:P3}{tc:TDT}(hc:DT X c tc)(ha:DSs X l t)(hb:DSs X r u):DS X (.If c l r pos) (dIfS tc t u):=(pR hc ha hb).anti λE s H q=>by
 obtain⟨B,F0,F,z,k,rs,ED,h,e⟩:=q;refine#[B,F,z,k.kf,rs,_,h,λb F1 H1 g hk=>?_];cases b with
 |true=>exact#[B,F0,F1,z,k.grow g,rs.grow g,ED,hk,e]
 |false=>exact#[B,F0,F1,z,k.grow g,rs.grow g,ED,hk,e]
def dIfJ(c:TDT)(t u:TSD):TSD:=λE z=>∃J:SD->Prop,(c z λb=>if b=true then t {E with nx:=J} z else u {E with nx:=J} z)/\∀z',J z'->E.nx z'
def fK[Jx]{c:P3}{tc:TDT}(hc:WDT X c tc)(ha:WDSs X l t)(hb:WDSs X r u):WDS X (.If c l r pos) (dIfJ tc t u):=⟨have hc:=hc.out;have ha:=ha.out;have hb:=hb.out;(rH hc ha hb).anti λE s H q=>by
 obtain⟨B,F0,F,z,k,rs,ED,⟨J,h,j⟩,e⟩:=q;exact#[B,F0,F,z,k,rs,{ED with nx:=J},h,#[λz' s' F' H' k' hz r'=>e.nx z' s' F' H' k' (j z' hz) r',e.rt,e.bk,e.ct]]⟩
def dSet(i:Nat)(te:TD):TSD:=λE z=>∃P:D->Prop,te z P/\∀d,P d->E.nx (z.set i (be d))
variable{x:A_}
def aq[Jx](i:Nat){d9:Ri}(hN:X.N.Nodup)(he:WDE X e te)(hi:autoParam (X.N[i]?=be x) zA0)(hx:autoParam (Loc X.env.scope x) zA4)(hs:autoParam (Rq e (be (.Name x d9)) pos.line X.env=pure false) zA0)
  (hf:autoParam (zFN X x) zA3):WDS X (.Assign [.Name x d9] e pos) (dSet i te):=⟨have he:=he.out;(ju hN hi hx he hs hf).anti λE s H q=>by
 obtain⟨B,F0,F,z,k,rs,ED,⟨P,h,j⟩,e⟩:=q;exact#[B,F,z,k.kf,rs,P,h,λd v F' H' g hd rd=>e.nx _ _ F' H' (k.grow g) (j d hd) ((rs.grow g).set rd)]⟩
def dNew(i:Nat)(ta:TDA):TSD:=λE z=>ta z λds=>ds.length<=1000/\E.nx (z.set i (be (.own ds)))
variable{es:List P3}
def fL[Jx](i:Nat){d9 p2:Ri}{ta:TDA}(hN:X.N.Nodup)(he:WDA X es ta)(hi:autoParam (X.N[i]?=be x) zA0)(hx:autoParam (Loc X.env.scope x) zA4)(hs:autoParam (Rq (.List es p2) (be (.Name x d9)) pos.line X.env=pure false) zA0)
  (hf:autoParam (zFN X x) zA3):WDS X (.Assign [.Name x d9] (.List es p2) pos) (dNew i ta):=⟨have he:=he.out;(ju hN hi hx (gx he) hs hf).anti λE s H q=>by
 obtain⟨B,F0,F,z,k,rs,ED,h,e⟩:=q;refine#[B,F,z,k.kf,rs,_,h,λds vs F1 H1 g hd rd=>?_];have hl:=rd.length;refine#[sz (by rw[hl];exact hd.1),λp hp=>?_];have k1:=k.grow g;have r1:=rs.grow g;have hB:B p=none:=k1.bh.free hp;have hF:F1 p=none:=k1.fh.free hp;refine e.nx _ _ F1 _ #[k1.bh.trans (aP hp _),k1.fh.trans (aP hp _),k1.f0,k1.out,k1.eb,k1.jf,k1.jo] hd.2 (r1.setOwn hB hF rd λj dj hj e1 e2=>?_);obtain⟨a,us,q1,q2,_⟩:=r1.own j dj e1;rw[e2]at q1;cases q1;rw[hp]at q2;cases q2⟩
def dApp(i:Nat)(te:TD):TSD:=λE z=>match z[i]? with|some (be (.own ds))=>(te z λd=>ds.length<=100000/\E.nx (z.set i (be (.own (ds++[d])))))|_=>False
def dZ{K:Ex}{F:Hp}{d:D}{v:V}(r:Rep K F d v):Reps K F [d] [v]:=reps_cons.mpr #[v,[],rfl,r,reps_nil.mpr rfl]
def fM[Jx](i:Nat){p1 b_ a_:Ri}(he:WDE X e te)(hN:autoParam (X.N[i]?=be x) zA0)(hv:autoParam (Vis X.env.scope x) zA5)(hd:autoParam (zND x) zA1)
  (gV:autoParam (zNC x) zA1) (k6:autoParam (zSE X e []) zA0)
  (c5:autoParam (Rh (.Name x p1) "append" X.env (Rg (.Name x p1) X.env)=Rg (.Name x p1) X.env) zA0)
  (e8:autoParam (zHF X a_ [e]) zA0)
  (c9:autoParam ((b_.endLine==a_.line)=true) zA0) (G':autoParam (Rq (.Call (.Attribute (.Name x p1) "append" b_) [e] [] a_) r_ pos.line X.env=pure false) zA0):WDS X (.Expr (.Call (.Attribute (.Name x p1) "append" b_) [e] [] a_) pos) (dApp i te):=⟨have he:=he.out;(js (dU PySem.F.plainAttrs_list PySem.F.slot_list_append PySem.F.type_list_append jL (dz hN hv hd gV) (bv he pa_nil k6) c5 e8 c9 k6) G').anti λE s H q=>by
 obtain⟨B,F0,F,z,k,rs,ED,h,e⟩:=q;unfold dApp at h;split at h
 .rename_i ds ez;obtain⟨a,vs,q1,q2,q3,q4,q5⟩:=rs.own i ds ez;refine#[.ref a,q1,.inl #[rfl,vs,SqL.of q2],?_];refine#[B,F,z,k.kf,rs,_,h,λd v F1 H1 g hd rd=>?_];have k1:=k.grow g;have r1:=rs.grow g;have a1:H1 a=be (.lst vs):=g.hh a _ q2;have f1:F1 a=none:=g.out a q4 (by rw[q2];exact λz=>nomatch z);have hl:vs.length=ds.length:=q5.length;have hz:vs.length<sizeLine:=by
   have h1:ds.length<=100000:=hd.1;have h2:(100000:Nat)<sizeLine:=JQ
   lia
  refine#[a,vs,v,rfl,rfl,a1,hz,?_];have same:∀{G:Hp},G a=r_->Same G H1->Same G (upd H1 a (.lst (vs++[v]))):=λ{G} ga gs b o eb=>by
   have ne:b≠a:=λz=>by rw[z,ga]at eb;cases eb
   rw[ay ne];exact gs b o eb
  have r2:=r1.setOwn (i:=i) (a:=a) (vs:=vs++[v]) (ds:=ds++[d]) q3 f1 ((q5.mono g.ff).append (dZ rd)) (λj dj hj e1 e2=>hj (rs.apart j i dj ds a e1 ez e2 q1));have es:s.set i (be (.ref a))=s:=by
   apply GI;intro n;by_cases hn:i=n
   .subst hn;rw[Gu (FU.mp q1).1,q1]
   .rw[F4 hn]
  rw[es]at r2;exact e.nx _ s F1 _ #[same q3 k1.bh,same f1 k1.fh,k1.f0,k1.out,k1.eb,k1.jf,k1.jo] hd.2 r2
 .exact h.elim⟩
def aS:List Nat->List D->SD->SD
 |i::is,d::ds,z=>aS is ds (z.set i (be d))
 |_,_,z=>z
def DGs(X:Cx)(ts:List P3)(is:List Nat):Prop:=∃u:TGs,PGs X ts u/\∀(ds:List D) (vs:List V) (z:SD) (s:L2.St) (B F H:Hp) (Q:L2.St->Hp->Prop),ds.length=is.length->Reps X.K F ds vs->RepS X.K B F H z s->(∀s',RepS X.K B F H (aS is ds z) s'->Q s' H)->u vs s H Q
def dH[Jx]:DGs X [] []:=⟨_,vT,λds vs z s B F H Q hl r rs q=>by
 cases ds with
 |nil=>exact#[reps_nil.mp r,q s rs]
 |cons _ _=>cases hl⟩
variable{p:Ri}{is:List Nat}
def dg_cons[Jx](i:Nat)(hN:X.N.Nodup)(h2:DGs X es is)(hi:autoParam (X.N[i]?=be x) zA0)(hx:autoParam (Loc X.env.scope x) zA4)(hf:autoParam (zFN X x) zA3)
  (hs:autoParam ((Rb (.Name x p::es) X.env).map (·.2)=RD (.Name x p) X.env::(Rb es X.env).map (·.2)) zA0):DGs X (.Name x p::es) (i::is):=by
 obtain⟨u,hu,k⟩:=h2;refine#[_,vU (dB hN hi hx hf) hu hs,λds vs z s B F H Q hl r rs q=>?_];cases ds with
 |nil=>cases hl
 |cons d ds=>
  obtain⟨v,vr,rfl,r1,r2⟩:=reps_cons.mp r;exact#[v,vr,rfl,k ds vr _ _ B F H Q (Nat.succ.inj hl) r2 (rs.set r1) q]
def yj(is:List Nat)(te:TD):TSD:=λE z=>te z λx=>match x with|.tup ds=>ds.length=is.length/\E.nx (aS is ds z)|_=>False
def rJ[Jx]{k:Nat}(hc:X.calm=true)(he:WDE X e te)(hg:DGs X es is)(hn:autoParam ((Rb es X.env).length=is.length) zA0)(j5:autoParam ((Rb es X.env).findIdx? (·.1)=none) zA0)
  (hs:autoParam (Rw [.Tuple es k p] e pos.line X.env=pure false) zA0) (hw:autoParam (Rx [.Tuple es k p] e X.env=pure none) zA0) (h1:autoParam ((Rb [.Tuple es k p] X.env).map (·.2)=[RD (.Tuple es k p) X.env]) zA0):WDS X (.Assign [.Tuple es k p] e pos) (yj is te):=⟨by
 have he:=he.out;obtain⟨u,hu,kk⟩:=hg;refine(fq he (gq hc hu hn j5) hs hw h1).anti λE s H q=>?_;obtain⟨B,F0,F,z,k,rs,ED,h,e⟩:=q;refine#[B,F,z,k.kf,rs,_,h,λd v F' H' g hd rd=>?_];split at hd
 .obtain⟨p,vs,rfl,hq,rr⟩:=rep_tup_mp rd;exact#[p,vs,rfl,g.fh.tup hq,by rw[rr.length];exact hd.1,kk _ vs z s B F' H' _ hd.1 rr (rs.grow g) λs' r'=>e.nx _ _ F' H' (k.grow g) hd.2 r']
 .exact hd.elim⟩
def dPar(i j:Nat)(ta:TDA):TSD:=λE z=>ta z λds=>match ds with|[x,y]=>E.nx ((z.set i (be x)).set j (be y))|_=>False
def yk[Jx](i j:Nat){y:A_}{t:TDA}{px py pt:Ri}{kt k2 JL}(hc:X.calm=true)(hN:X.N.Nodup)(ha:WDA X [a,b] t)(hi:autoParam (X.N[i]?=be x) zA0)(hj:autoParam (X.N[j]?=be y) zA0)(L5:autoParam (i≠j) zA1)
  (hx:autoParam (X.env.scope.names.lookup x=be .local) zA0) (hy:autoParam (X.env.scope.names.lookup y=be .local) zA0)
  (hw:autoParam (Rx [.Tuple [.Name x px,.Name y py] kt pt] (.Tuple [a,b] k2 JL) X.env=pure (be [x,y])) zA0)
  (hs:autoParam (Rw [.Tuple [.Name x px,.Name y py] kt pt] (.Tuple [a,b] k2 JL) pos.line X.env=pure false) zA0):WDS X (.Assign [.Tuple [.Name x px,.Name y py] kt pt] (.Tuple [a,b] k2 JL) pos) (dPar i j t):=⟨have ha:=ha.out;(vV hc hN hi hj L5 hx hy ha hw hs).anti λE s H q=>by
 obtain⟨B,F0,F,z,k,rs,ED,h,e⟩:=q;refine#[B,F,z,k.kf,rs,_,h,λds vs F' H' g hd rd=>?_];split at hd
 .obtain⟨v,r,rfl,r1,r2⟩:=reps_cons.mp rd;obtain⟨w,r,rfl,r3,r4⟩:=reps_cons.mp r2;rw[reps_nil.mp r4];exact#[v,w,rfl,e.nx _ _ F' H' (k.grow g) hd (((rs.grow g).set r1).set r3)]
 .exact hd.elim⟩
def yl(c:TDT)(tb:TSD):TSD:=λE z=>∃W:Nat->SD->Prop,(∃m,W m z)/\∀m z,W m z->
 c z λb=>if b=true then tb {E with nx:=λz'=>∃m',m'<m/\W m' z',ct:=λz'=>∃m',m'<m/\W m' z',bk:=E.nx} z else E.nx z
variable{body:List Q6}
def fN[Jx]{c:P3}{tc:TDT}{tb:TSD}(hp:Rr (Q8 X.prog X.w) X.A X.env X.xe)(hc:WDT X c tc)(hb:WDSs X body tb):WDS X (.While c body [] pos) (yl tc tb):=⟨have hc:=hc.out;have hb:=hb.out;(pT hp hc hb).anti λE s H q=>by
 obtain⟨B,F0,F,z,k,rs,ED,⟨W,⟨m0,w0⟩,c8⟩,e⟩:=q;refine#[λm s' H'=>∃F' z',Kept B F0 F' H'/\RepS X.K B F' H' z' s'/\W m z',#[m0,F,z,k,rs,w0],?_];rintro m s1 H1⟨F1,z1,k1,r1,w1⟩;refine#[B,F1,z1,k1.kf,r1,_,c8 m z1 w1,λb F2 H2 g2 hk=>?_];cases b with
 |true=>
  refine#[λs3 H3=>∃F3 z3,Kept B F0 F3 H3/\RepS X.K B F3 H3 z3 s3/\∃m',m'<m/\W m' z3,λs3 H3 ⟨F3,z3,k3,r3,m',l,w3⟩=>#[m',l,F3,z3,k3,r3,w3],?_];exact#[B,F0,F2,z1,k1.grow g2,r1.grow g2,_,hk,#[λz3 s3 F3 H3 k3 h3 r3=>#[F3,z3,k3,r3,h3],e.rt,e.nx,λz3 s3 F3 H3 k3 h3 r3=>#[F3,z3,k3,r3,h3]]]
 |false=>exact e.nx z1 s1 F2 H2 (k1.grow g2) hk (r1.grow g2)⟩
abbrev TDI:=SD->(List D->Prop)->Prop
def dItL(t:TD):TDI:=λz R=>t z λx=>match x with|.lst ds=>R ds|.rol ds=>R ds|_=>False
def dItR(t:TD):TDI:=λz R=>t z λx=>match x with|.int n=>(0<=n/\n<2^62)/\R ((FN n.toNat).map λk=>D.int ((k:Nat):Int))|_=>False
def dFor(i:Nat)(ti:TDI)(tb:TSD):TSD:=λE z=>ti z λds=>∃W:Nat->SD->Prop,W 0 z/\(∀k x z,ds[k]?=be x->W k z->tb {E with nx:=W (k+1),ct:=W (k+1),bk:=E.nx} (z.set i (be x)))/\∀z,W ds.length z->E.nx z
def Reps.get'{K:Ex}{H:Hp}{ds:List D}{vs:List V}{k:Nat}{v:V}(r:Reps K H ds vs)(e:vs[k]?=be v):∃d,ds[k]?=be d/\Rep K H d v:=by
 have hk:k<ds.length:=by rw[<-r.length];exact(FU.mp e).1
 obtain⟨u,q1,q2⟩:=r.get (F8 hk);rw[e]at q1;cases q1;exact#[_,F8 hk,q2]
def gE[Jx](i:Nat){tb:TSD}(hp:Rr (Q8 X.prog X.w) X.A X.env X.xe)(hc:X.calm=true)(hN:X.N.Nodup)(he:WDE X e te)(hb:WDSs X body tb)(hi:autoParam (X.N[i]?=be x) zA0)(hx:autoParam (Loc X.env.scope x) zA4)
  (hf:autoParam (zFN X x) zA3) (hs:autoParam (∀y,zFS X e y) zA2):WDS X (.For (.Name x p) e body [] pos) (dFor i (dItL te) tb):=⟨have he:=he.out;have hb:=hb.out;(cE hp hc (jw he) (dB hN hi hx hf) hb hs).anti λE s H q=>by
 obtain⟨B,F0,F,z,kp,rs,ED,h,e⟩:=q;refine#[B,F,z,kp.kf,rs,_,h,λd v F1 H1 g1 hd rd=>?_];split at hd
 .obtain⟨p,vs,rfl,hq,rr⟩:=rep_lst.mp rd;obtain⟨W,w0,c8,out⟩:=hd;refine#[p,rfl,#[vs,g1.fh.seq (SqL.of hq)],jx (K:=X.K) (a:=p) (xs:=vs) (λk s' H'=>∃F' z',Kept B F0 F' H'/\Same F1 F'/\RepS X.K B F' H' z' s'/\W k z') #[F1,z,kp.grow g1,Same.refl F1,rs.grow g1,w0] (λk s' H' _ ⟨F',z',k',g',r',w'⟩=>k'.fh.seq (g'.seq (SqL.of hq))) ?_ ?_]
  .rintro k y s' H' hk⟨F',z',k',g',r',w'⟩;obtain⟨d,hd,ry⟩:=rr.get' hk;refine#[B,F',F',_,#[k'.bh,k'.fh,Same.refl F',λb h1 _=>h1,k'.eb,k'.jf.trans k'.f0,λb h1 h2=>k'.out b (k'.jo b h1 h2) h2],r'.set (ry.mono g'),_,c8 k d z' hd w',?_];have up:∀{F2 H2:Hp},Kept B F' F2 H2->Kept B F0 F2 H2:=λk2=>#[k2.bh,k2.fh,k'.f0.trans k2.f0,λb h1 h2=>k2.out b (k'.out b h1 h2) h2,k'.eb,k'.jf,k'.jo];exact#[λz3 s3 F3 H3 k3 h3 r3=>#[F3,z3,up k3,g'.trans k3.f0,r3,h3],λd v F3 H3 k3=>e.rt d v F3 H3 (up k3),λz3 s3 F3 H3 k3=>e.nx z3 s3 F3 H3 (up k3),λz3 s3 F3 H3 k3 h3 r3=>#[F3,z3,up k3,g'.trans k3.f0,r3,h3]]
  .rintro s' H'⟨F',z',k',g',r',w'⟩;exact e.nx z' s' F' H' k' (out z' (by rw[<-rr.length];exact w')) r'
 .obtain⟨p,vs,rfl,hq,rr⟩:=rep_rol.mp rd;obtain⟨W,w0,c8,out⟩:=hd;refine#[p,rfl,#[vs,g1.fh.seq hq],jx (K:=X.K) (a:=p) (xs:=vs) (λk s' H'=>∃F' z',Kept B F0 F' H'/\Same F1 F'/\RepS X.K B F' H' z' s'/\W k z') #[F1,z,kp.grow g1,Same.refl F1,rs.grow g1,w0] (λk s' H' _ ⟨F',z',k',g',r',w'⟩=>k'.fh.seq (g'.seq hq)) ?_ ?_]
  .rintro k y s' H' hk⟨F',z',k',g',r',w'⟩;obtain⟨d,hd,ry⟩:=rr.get' hk;refine#[B,F',F',_,#[k'.bh,k'.fh,Same.refl F',λb h1 _=>h1,k'.eb,k'.jf.trans k'.f0,λb h1 h2=>k'.out b (k'.jo b h1 h2) h2],r'.set (ry.mono g'),_,c8 k d z' hd w',?_];have up:∀{F2 H2:Hp},Kept B F' F2 H2->Kept B F0 F2 H2:=λk2=>#[k2.bh,k2.fh,k'.f0.trans k2.f0,λb h1 h2=>k2.out b (k'.out b h1 h2) h2,k'.eb,k'.jf,k'.jo];exact#[λz3 s3 F3 H3 k3 h3 r3=>#[F3,z3,up k3,g'.trans k3.f0,r3,h3],λd v F3 H3 k3=>e.rt d v F3 H3 (up k3),λz3 s3 F3 H3 k3=>e.nx z3 s3 F3 H3 (up k3),λz3 s3 F3 H3 k3 h3 r3=>#[F3,z3,up k3,g'.trans k3.f0,r3,h3]]
  .rintro s' H'⟨F',z',k',g',r',w'⟩;exact e.nx z' s' F' H' k' (out z' (by rw[<-rr.length];exact w')) r'
 .exact hd.elim⟩
def cy[Jx](i:Nat){p1 p2:Ri}{tb:TSD}(hp:Rr (Q8 X.prog X.w) X.A X.env X.xe)(hc:X.calm=true)(hN:X.N.Nodup)(hm:X.mg "range"=r_)(he:WDE X e te)(hb:WDSs X body tb)(hg:autoParam (Gl X "range") zA0)(hi:autoParam (X.N[i]?=be x) zA0)(hx:autoParam (Loc X.env.scope x) zA4)
  (hf:autoParam (zFN X x) zA3) (hs:autoParam (∀y,zFS X (.Call (.Name "range" p1) [e] [] p2) y) zA2) (m7:autoParam (zSE X e []) zA0) (f6:autoParam (Re [e] X.env=[(false,Rg e X.env)]) zA0):WDS X (.For (.Name x p) (.Call (.Name "range" p1) [e] [] p2) body [] pos) (dFor i (dItR te) tb):=⟨have he:=he.out;have hb:=hb.out;(cE hp hc (gu hg hm (bv he pa_nil m7) f6) (dB hN hi hx hf) hb hs).anti λE s H q=>by
 obtain⟨B,F0,F,z,kp,rs,ED,h,e⟩:=q;refine#[B,F,z,kp.kf,rs,_,h,λd v F1 H1 g1 hd rd=>?_];split at hd
 .rename_i n;obtain⟨⟨b1,b2⟩,W,w0,c8,out⟩:=hd;have hl:((FN n.toNat).map λk=>D.int ((k:Nat):Int)).length=n.toNat:=by simp
  refine#[n,by rw[rep_int.mp rd],JM,b2,jy (lo:=0) (n:=n.toNat) (λk s' H'=>∃F' z',Kept B F0 F' H'/\RepS X.K B F' H' z' s'/\W k z') #[F1,z,kp.grow g1,rs.grow g1,w0] ?_ ?_]
  .rintro k s' H' hk⟨F',z',k',r',w'⟩;have e1:(0:Int)+(k:Int)=(k:Int):=by lia
   exact#[B,F0,F',_,k',r'.set (d:=.int (k:Int)) (rep_int.mpr (by rw[e1])),_,c8 k (.int (k:Int)) z' (by simp[hk]) w',#[λz3 s3 F3 H3 k3 h3 r3=>#[F3,z3,k3,r3,h3],e.rt,e.nx,λz3 s3 F3 H3 k3 h3 r3=>#[F3,z3,k3,r3,h3]]]
  .rintro s' H'⟨F',z',k',r',w'⟩;exact e.nx z' s' F' H' k' (out z' (by rw[hl];exact w')) r'
 .exact hd.elim⟩
end
section
variable {P:Q5}{w:Q_}{K:Ex}{mg:A_->Option KB}{base:Rc}
variable{N ps:List A_}
def _root_.L2.Fun.okD{x qual:A_}{st:Q6}{f:KF}{fd:Rf}{k:Nat}{S:SpD}(T:Fun K x qual st f fd)(F:FnScope N ps (ah st))(len:∀ds R,S ds R->ds.length=ps.length)
  (a9:∀(cdv:KB) (A:Ra) (outer:List RQ) (s:KM) (H:Hp) (E:XK) (J:Jx),Room k (A.deeper (Rk qual (ah st) s.heap.objs.size f cdv))->
   ∃t,DSs (cxOf (Exc.CX1 P w) P w K mg base N qual (ah st) f cdv A outer s H E).nox (aL st) t/\∀ds R,S ds R->t {nx:=λ_=>R .non,rt:=R} (startD N ds)):FnOk P w K mg base (Exc.CX1 P w) (k+1) f fd ps (lSp K S):=by
 refine Fun.okC T F (λvs H Q E h=>?_) (λcdv A outer s H vs Q E hr h=>?_)
 .obtain⟨F,ds,fh,rs,R,h,_⟩:=h;rw[rs.length];exact len ds R h
 .obtain⟨F,ds,fh,rs,R,h,q⟩:=h
  letI:Jx:=#[H,F,λ_ _ _=>False]
  obtain⟨t,ht,hq⟩:=a9 cdv A outer s H E inferInstance hr;refine#[_,ht.nox,H,F,F,startD N ds,#[Same.refl H,fh,Same.refl F,λ_ h _=>h,rfl,Same.refl F,λ_ h _=>h],dD rs,_,hq ds R h,#[λz' s' F' H' k hn _=>q _ _ F' H' #[k.f0,k.fh,k.bh,k.out] hn (rep_non.mpr rfl),λd v F' H' k hd rd=>q d v F' H' #[k.f0,k.fh,k.bh,k.out] hd rd,λ_ _ _ _ _ h _=>h.elim,λ_ _ _ _ _ h _=>h.elim]]
def Tx.okD{x:A_}{st:Q6}{k:Nat}{S:SpD}(T:Tx K mg x st ps)(F:FnScope N ps (ah st))(len:∀ds R,S ds R->ds.length=ps.length)
  (a9:∀(f:KF) (cdv:KB) (A:Ra) (outer:List RQ) (s:KM) (H:Hp) (E:XK) (J:Jx),Room k (A.deeper (Rk x (ah st) s.heap.objs.size f cdv))->
   ∃t,DSs (cxOf (Exc.CX1 P w) P w K mg base N x (ah st) f cdv A outer s H E).nox (aL st) t/\∀ds R,S ds R->t {nx:=λ_=>R .non,rt:=R} (startD N ds)):CalD P w K mg base (k+1) x ps S:=by
 obtain⟨f,fd,T,hb,hm⟩:=T;exact#[f,fd,T.okD F len λcdv A outer s H E J hr=>a9 f cdv A outer s H E J hr,hb,T.kp,hm]
end
def eg:SpD:=λds R=>∃ns:List Int,ds=[.rol (ns.map D.int)]/\ns.length<=63/\R (.bl true)
def ym{a:KF}{ns:List Int}(hl:ns.length<=63)(hS:SqL K H a (ns.map V.int)){E:XK}:lSp K eg [.ref a] H (λv _=>v=.bl true) E:=
 #[H,[.rol (ns.map D.int)],Same.refl H,reps_cons.mpr #[_,_,rfl,rep_rol.mpr #[a,_,rfl,hS,Reps.ints.mpr rfl],reps_nil.mpr rfl],λd=>d=.bl true,#[ns,rfl,hl,rfl],λd v F' H' _ hd rd=>by subst hd;exact rep_bl.mp rd]
section
variable {X:Cx}{a b c e:P3}{ta tb tc te:TD}{pos:Ri}
variable{p:Ri}{es:List P3}{t:TDA}
def jX[Jx]{x:A_}{T:String}{r:List V->Hp->VK->Prop}{rd:RDn}(hc:bE X (.type T) r)(L:cf X.K r rd)(hm:X.mg x=r_)(hv:Rm x=be (.type T))(ha:DA X (e::es) t)(hg:autoParam (Gl X x) zA0)(hn:autoParam (x≠"__name__") zA1)(d7:autoParam (zND x) zA1)
  (he:autoParam (zSE X e es) zA0) (c_:autoParam (zPL X pos es) zA0):DE X (.Call (.Name x p) (e::es) [] pos) (dCB rd t):=(qu hc hg hm hv ha hn d7 he c_).anti λs H Q h=>by
 obtain⟨B,F,z,kf,rs,R,h1,h2⟩:=h;have fh:=kf.fh;refine#[B,F,z,kf,rs,_,h1,λds vs F1 H1 g1 hx rx=>?_];exact L ds vs F1 H1 R Q g1.fh hx rx λd w F' H' g=>h2 d w F' H' (g1.trans g)
def rdStr:RDn:=λds R=>match ds with|[.int i]=>i.natAbs<18446744073709551616/\R (.str (toString i))|_=>False
variable{K:Ex}
def yn:cf K (λxs H Q=>∃i,xs=[.int i]/\i.natAbs.log2<1920/\Q (.str (toString i)) H) rdStr:=by
 intro ds vs F H R Q fh h rx q;unfold rdStr at h;split at h
 .obtain⟨v,r,rfl,h1,h2⟩:=reps_cons.mp rx;rw[reps_nil.mp h2,rep_int.mp h1];refine#[_,rfl,?_,q _ _ F H (Grow.refl fh) h.2 (rep_str.mpr rfl)];rename_i i;by_cases h0:i.natAbs=0
  .rw[h0];decide
  .have:=(Il h0).mpr (show i.natAbs<2^64 from h.1);lia
 .exact h.elim
def cP[Jx](hm:X.mg "str"=r_)(ha:WDA X [e] t)(hg:autoParam (Gl X "str") zA0)(he:autoParam (zSE X e []) zA0):WDE X (.Call (.Name "str" p) [e] [] pos) (dCB rdStr t):=#[have ha:=ha.out;jX wG yn hm PyProof.Rows.boot_str ha hg JQ JQ he]
def jY:RDn:=λds R=>kd1 ds λx=>match x with
 |.int i=>R (.int i)
 |.bl k=>R (.int (if k then 1 else 0))
 |.str x=>∃n,(PySem.intText? x=be n/\x.length<=640)/\R (.int n)
 |_=>False
def rK:bE X (.type "int") (λxs H Q=>((∃i,xs=[.int i]/\Q (.int i) H)\/∃k,xs=[.bl k]/\Q (.int (if k then 1 else 0)) H)\/∃x n,xs=[.str x]/\PySem.intText? x=be n/\x.length<=640/\Q (.int n) H):=by
 intro pins s σ H xs us Q I r h;rcases h with h|⟨x,n,rfl,h1,h2,q⟩
 .exact wF pins s σ H xs us Q I r h
 .obtain⟨u,rfl,t,rfl⟩:=bU r;exact PySem.W.KIN.call_text h1 h2 #[.int n,H,I.tok _,#[_,rfl],q]
def rL:cf K (λxs H Q=>((∃i,xs=[.int i]/\Q (.int i) H)\/∃k,xs=[.bl k]/\Q (.int (if k then 1 else 0)) H)\/∃x n,xs=[.str x]/\PySem.intText? x=be n/\x.length<=640/\Q (.int n) H) jY:=by
 intro ds vs F H R Q fh h rx q;replace h:=kd1.of h;obtain⟨x,rfl,h⟩:=h;obtain⟨v,r,rfl,h1,h2⟩:=reps_cons.mp rx;rw[reps_nil.mp h2];cases x with
 |int i=>
  rw[rep_int.mp h1];exact .inl (.inl #[_,rfl,q _ _ F H (Grow.refl fh) h (rep_int.mpr rfl)])
 |bl k=>
  rw[rep_bl.mp h1];exact .inl (.inr #[_,rfl,q _ _ F H (Grow.refl fh) h (rep_int.mpr rfl)])
 |str x=>
  rw[rep_str.mp h1];obtain⟨n,⟨e1,e2⟩,h⟩:=h;exact .inr #[_,n,rfl,e1,e2,q _ _ F H (Grow.refl fh) h (rep_int.mpr rfl)]
 |_=>exact False.elim h
def gG[Jx](hm:X.mg "int"=r_)(ha:WDA X [e] t)(hg:autoParam (Gl X "int") zA0)(he:autoParam (zSE X e []) zA0):WDE X (.Call (.Name "int" p) [e] [] pos) (dCB jY t):=#[have ha:=ha.out;jX rK rL hm PyProof.Rows.boot_int ha hg JQ JQ he]
def rM:RDn:=λds R=>kd1 ds λx=>match x with|.lst xs=>R (.lst xs)|.tup xs=>R (.lst xs)|.rol xs=>R (.lst xs)|_=>False
def yo:cf K (λxs H Q=>∃p ys,xs=[.ref p]/\(SqL K H p ys\/SqT K H p ys)/\∀l,H l=r_->Q (.ref l) (upd H l (.lst ys))) rM:=by
 intro ds vs F H R Q fh h rx q;replace h:=kd1.of h;obtain⟨x,rfl,h⟩:=h;obtain⟨v,r,rfl,h1,h2⟩:=reps_cons.mp rx;rw[reps_nil.mp h2];cases x with
 |lst xs=>
  obtain⟨a,us,rfl,hq,rs⟩:=rep_lst.mp h1;exact#[a,us,rfl,.inl (fh.seq (SqL.of hq)),λl hl=>q _ _ _ _ (Grow.new fh hl _) h (rep_lst.mpr #[l,us,rfl,aG,rs.mono (aP (fh.free hl) _)])]
 |tup xs=>
  obtain⟨a,us,rfl,hq,rs⟩:=rep_tup_mp h1;exact#[a,us,rfl,.inr (fh.tup hq),λl hl=>q _ _ _ _ (Grow.new fh hl _) h (rep_lst.mpr #[l,us,rfl,aG,rs.mono (aP (fh.free hl) _)])]
 |rol xs=>
  obtain⟨a,us,rfl,hq,rs⟩:=rep_rol.mp h1;exact#[a,us,rfl,.inl (fh.seq hq),λl hl=>q _ _ _ _ (Grow.new fh hl _) h (rep_lst.mpr #[l,us,rfl,aG,rs.mono (aP (fh.free hl) _)])]
 |_=>exact False.elim h
def yp[Jx](hm:X.mg "list"=r_)(ha:WDA X [e] t)(hg:autoParam (Gl X "list") zA0)(he:autoParam (zSE X e []) zA0):WDE X (.Call (.Name "list" p) [e] [] pos) (dCB rM t):=#[have ha:=ha.out;jX xr yo hm PyProof.Rows.boot_list ha hg JQ JQ he]
def rN:RDn:=λds R=>kd2 ds λx y=>kdI x λi=>kdI y λj=>R (.int (if j>i then j else i))
def rO:RDn:=λds R=>kd2 ds λx y=>kdI x λi=>kdI y λj=>R (.int (if j<i then j else i))
def yq:cf K (λxs H Q=>∃i j,xs=[.int i,.int j]/\Q (.int (if j>i then j else i)) H) rN:=by
 intro ds vs F H R Q fh h rx q;replace h:=kd2.of h;obtain⟨x,y,rfl,h⟩:=h;replace h:=kdI.of h;obtain⟨i,rfl,h⟩:=h;replace h:=kdI.of h;obtain⟨j,rfl,h⟩:=h;obtain⟨v,r,rfl,h1,h2⟩:=reps_cons.mp rx;obtain⟨v',r',rfl,h3,h4⟩:=reps_cons.mp h2;rw[reps_nil.mp h4,rep_int.mp h1,rep_int.mp h3];exact#[_,_,rfl,q _ _ F H (Grow.refl fh) h (rep_int.mpr rfl)]
def yr:cf K (λxs H Q=>∃i j,xs=[.int i,.int j]/\Q (.int (if j<i then j else i)) H) rO:=by
 intro ds vs F H R Q fh h rx q;replace h:=kd2.of h;obtain⟨x,y,rfl,h⟩:=h;replace h:=kdI.of h;obtain⟨i,rfl,h⟩:=h;replace h:=kdI.of h;obtain⟨j,rfl,h⟩:=h;obtain⟨v,r,rfl,h1,h2⟩:=reps_cons.mp rx;obtain⟨v',r',rfl,h3,h4⟩:=reps_cons.mp h2;rw[reps_nil.mp h4,rep_int.mp h1,rep_int.mp h3];exact#[_,_,rfl,q _ _ F H (Grow.refl fh) h (rep_int.mpr rfl)]
def eo[Jx](hc:X.calm=true)(hm:X.mg "max"=r_)(ha:WDA X [e,a] t)(hg:autoParam (Gl X "max") zA0)(he:autoParam (zSE X e [a]) zA0)(c_:autoParam (zPL X pos [a]) zA0):WDE X (.Call (.Name "max" p) [e,a] [] pos) (dCB rN t):=#[have ha:=ha.out;gB (wC hc) yq hm PyProof.Rows.boot_max ha hg JQ JQ he c_]
def rP[Jx](hc:X.calm=true)(hm:X.mg "min"=r_)(ha:WDA X [e,a] t)(hg:autoParam (Gl X "min") zA0)(he:autoParam (zSE X e [a]) zA0)(c_:autoParam (zPL X pos [a]) zA0):WDE X (.Call (.Name "min" p) [e,a] [] pos) (dCB rO t):=#[have ha:=ha.out;gB (wE hc) yr hm PyProof.Rows.boot_min ha hg JQ JQ he c_]
def cI:List D->Option (List A_)
 |[]=>be []
 |.str x::r=>(cI r).map (x::·)
 |_=>r_
def rQ{K:Ex}{F:Hp}:∀{ds:List D} {xs:List A_} {vs:List V} {us:List KB},cI ds=be xs->Reps K F ds vs->Vals vs us->StrsAre us xs
 |[],xs,vs,us,e,r,q=>by
  cases e;rw[reps_nil.mp r]at q;cases q;exact .nil
 | .str x::ds,xs,vs,us,e,r,q=>by
  obtain⟨v,r',rfl,h1,h2⟩:=reps_cons.mp r;rw[rep_str.mp h1]at q;cases q with
  |cons q1 q2=>
   obtain⟨t,rfl⟩:=q1;cases e2:cI ds with
   |none=>simp[cI,e2]at e
   |some ys=>
    simp[cI,e2]at e;subst e;exact .cons x t (rQ e2 h2 q2)
def yt:V->List V->Hp->VK->Prop:=λx vs H Q=>∃o6 l xs ys,x=.str o6/\vs=[.ref l]/\H l=be (.lst xs)/\(∀us,Vals xs us->StrsAre us ys)/\(ys.map (·.length)).sum+ys.length*o6.length<=16777216/\Q (.str (Txt.join o6 ys)) H
def yu:MtR X "str.join" yt:=by
 intro pins s σ H x vs v us Q I rx rv h;obtain⟨o6,l,xs,ys,rfl,rfl,hl,hs,hz,q⟩:=h;obtain⟨t,rfl⟩:=rx;obtain⟨u,rfl,ru⟩:=bU rv;cases ru;obtain⟨its,r,pl,_⟩:=I.list (SqL.of hl);exact PyProof.Rows.join_list pl.isList (by simpa using hs its r) hz λt' k=>#[.str _,H,I.tok _,#[_,rfl],q]
def yw(o6:A_)(te:TD):TD:=λz R=>te z λx=>match x with
 |.lst ds=>∃ys,cI ds=be ys/\(ys.map (·.length)).sum+ys.length*o6.length<=1000000/\R (.str (Txt.join o6 ys))
 |_=>False
variable{k:Nat}
def jZ[Jx]{o6:A_}{p1 b_ a_:Ri}(he:WDE X e te)(k6:autoParam (zSE X e []) zA0)
  (c5:autoParam (Rh (.Constant (.str o6) k p1) "join" X.env (Rg (.Constant (.str o6) k p1) X.env)=Rg (.Constant (.str o6) k p1) X.env) zA0)
  (e8:autoParam (zHF X a_ [e]) zA0)
  (c9:autoParam ((b_.endLine==a_.line)=true) zA0):WDE X (.Call (.Attribute (.Constant (.str o6) k p1) "join" b_) [e] [] a_) (yw o6 te):=⟨have he:=he.out;(dU PySem.F.plainAttrs_str PySem.F.slot_str_join PySem.F.type_str_join yu pK (bv he pa_nil k6) c5 e8 c9 k6).anti λs H Q q=>by
 obtain⟨B,F,z,kf,rs,R,h1,h2⟩:=q;have fh:=kf.fh;refine#[rfl,?_];refine#[B,F,z,kf,rs,_,h1,λx u F1 H1 g1 hx rx=>?_];split at hx
 .obtain⟨ys,e1,e2,hx⟩:=hx;obtain⟨l,vs,rfl,hq,rr⟩:=rep_lst.mp rx;exact#[o6,l,vs,ys,rfl,rfl,g1.fh _ _ hq,λus q=>rQ e1 rr q,FQ e2 JQ,h2 _ _ F1 H1 g1 hx (rep_str.mpr rfl)]
 .exact hx.elim⟩
def dOix(i:Nat)(tb:TD):TD:=λz R=>match z[i]? with
 |some (be (.own ds))=>tb z λy=>match y with|.int k=>∃d,atI ds k=be d/\R d|_=>False
 |_=>False
def yx[Jx](i:Nat){x:A_}(hb:WDE X b tb)(hN:autoParam (X.N[i]?=be x) zA0)(hv:autoParam (Vis X.env.scope x) zA5)(hd:autoParam (zND x) zA1)
  (gV:autoParam (zNC x) zA1) (hs:autoParam (dS b) zA6):WDE X (.Subscript (.Name x p) b pos) (dOix i tb):=⟨have hb:=hb.out;(pe_ix ix_list (dz hN hv hd gV) hb hs).anti λs H Q q=>by
 obtain⟨B,F,z,kf,rs,R,h1,h2⟩:=q;have fh:=kf.fh;unfold dOix at h1;split at h1
 .rename_i ds ez;obtain⟨a,vs,q1,q2,q3,q4,q5⟩:=rs.own i ds ez;refine#[.ref a,q1,B,F,z,kf,rs,_,h1,λy v F1 H1 g1 hy ry=>?_];split at hy
  .obtain⟨d,e1,hR⟩:=hy;obtain⟨w,e2,g5⟩:=(q5.mono g1.ff).at e1;exact#[a,vs,_,w,rfl,rep_int.mp ry,SqL.of (g1.hh _ _ q2),e2,h2 d w F1 H1 g1 hR g5]
  .exact hy.elim
 .exact h1.elim⟩
def cutD(xs:List D)(lo hi:Option Int):List D:=(xs.drop (HT.sIx xs.length 0 lo)).take (HT.sIx xs.length xs.length hi-HT.sIx xs.length 0 lo)
def Reps.drop{K:Ex}{F:Hp}:∀(n:Nat) {xs:List D} {us:List V},Reps K F xs us->Reps K F (xs.drop n) (us.drop n)
 |0,_,_,r=>r
 |n+1,[],us,r=>by rw[reps_nil.mp r];exact reps_nil.mpr rfl
 |n+1,x::xs,us,r=>by
  obtain⟨u,ur,rfl,_,a2⟩:=reps_cons.mp r;exact Reps.drop n a2
def Reps.take{K:Ex}{F:Hp}:∀(n:Nat) {xs:List D} {us:List V},Reps K F xs us->Reps K F (xs.take n) (us.take n)
 |0,_,_,_=>reps_nil.mpr rfl
 |n+1,[],us,r=>by rw[reps_nil.mp r];exact reps_nil.mpr rfl
 |n+1,x::xs,us,r=>by
  obtain⟨u,ur,rfl,a1,a2⟩:=reps_cons.mp r;exact reps_cons.mpr #[u,_,rfl,a1,Reps.take n a2]
def Reps.cut{F:Hp}{xs:List D}{us:List V}(r:Reps K F xs us)(lo hi:Option Int):Reps K F (cutD xs lo hi) (cutV us lo hi):=by
 unfold cutD cutV;rw[r.length];exact(r.drop _).take _
def yy(ta tb:TD):TD:=λz R=>ta z λx=>tb z λy=>match x,y with|.lst xs,.int i=>R (.lst (cutD xs (be i) r_))|_,_=>False
def yz[Jx]{p2:Ri}(ha:WDE X a ta)(hb:WDE X b tb):WDE X (.Subscript a (.Slice (be b) r_ r_ p2) pos) (yy ta tb):=⟨have ha:=ha.out;have hb:=hb.out;(jH jJ ha (jG hb) jF).anti λs H Q q=>by
 obtain⟨B,F,z,kf,rs,R,h1,h2⟩:=q;have fh:=kf.fh;refine#[B,F,z,kf,rs,_,h1,λx u F1 H1 g1 hx rx=>?_];refine#[B,F1,z,kf.grow g1,rs.grow g1,_,hx,λy v F2 H2 g2 hy ry=>?_];split at hy
 .refine#[_,rep_int.mp ry,?_];obtain⟨l,vs,rfl,hq,rr⟩:=rep_lst.mp (rx.mono g2.ff);refine#[l,vs,rfl,SqL.of (g2.fh _ _ hq),λp hp=>?_];exact h2 _ _ _ _ (g1.trans (g2.trans (Grow.new g2.fh hp _))) hy (rep_lst.mpr #[p,_,rfl,aG,(rr.cut _ _).mono (aP (g2.fh.free hp) _)])
 .exact hy.elim⟩
def rR{t:TGs}{n:Nat}(hc:X.calm=true)(h:PGs X es t)(hn:autoParam ((Rb es X.env).length=n) zA0)(j5:autoParam ((Rb es X.env).findIdx? (·.1)=none) zA0):
  PG X (.Tuple es k pos) (λv σ H Q=>∃a xs,v=.ref a/\SqL X.K H a xs/\xs.length=n/\t xs σ H Q):=by
 intro pins s σ H v u Q I r hw;obtain⟨a,xs,e1,hq,hl,hw⟩:=hw;subst e1;cases r;obtain⟨its,rv,pl,hz⟩:=I.list hq;have e2:(Rb es X.env).length=its.toArray.size:=by simp[hn,<-hl,rv.length]
 rw[PyProof.Rows.assign_Tuple];refine Os (RB ?_);unfold unpack;rw[e2,j5];refine Os (RG (kun_itemsOf (I.ok.hd hc) pl.isList λh' hx=>?_));have I1:Inv X pins σ H {s with heap:=h'}:=I.kept (t':=s.toks) λb o e=>hx b o (FR (Heap.lt_size e)) e;exact h pins _ σ H xs _ Q I1 (by simpa using rv) hw
def yB(is:List Nat)(te:TD):TSD:=λE z=>te z λx=>match x with|.lst ds=>ds.length=is.length/\E.nx (aS is ds z)|_=>False
def yD[Jx]{is:List Nat}(hc:X.calm=true)(he:WDE X e te)(hg:DGs X es is)(hn:autoParam ((Rb es X.env).length=is.length) zA0)(j5:autoParam ((Rb es X.env).findIdx? (·.1)=none) zA0)
  (hs:autoParam (Rw [.Tuple es k p] e pos.line X.env=pure false) zA0) (hw:autoParam (Rx [.Tuple es k p] e X.env=pure none) zA0) (h1:autoParam ((Rb [.Tuple es k p] X.env).map (·.2)=[RD (.Tuple es k p) X.env]) zA0):WDS X (.Assign [.Tuple es k p] e pos) (yB is te):=⟨by
 have he:=he.out;obtain⟨u,hu,kk⟩:=hg;refine(fq he (rR hc hu hn j5) hs hw h1).anti λE s H q=>?_;obtain⟨B,F0,F,z,k,rs,ED,h,e⟩:=q;refine#[B,F,z,k.kf,rs,_,h,λd v F' H' g hd rd=>?_];split at hd
 .obtain⟨p,vs,rfl,hq,rr⟩:=rep_lst.mp rd;exact#[p,vs,rfl,SqL.of (g.fh _ _ hq),by rw[rr.length];exact hd.1,kk _ vs z s B F' H' _ hd.1 rr (rs.grow g) λs' r'=>e.nx _ _ F' H' (k.grow g) hd.2 r']
 .exact hd.elim⟩
end
end My
namespace L2
def kd{env:RQ}:∀(names:List (A_×RK)) (s9:List (A_×KF)),(∀n,(n,NameKind.free)∈names->∃c,env.cells.lookup n=be c)->
  ∃cl,(forIn (m:=SF) names s9 λx r=>match x with
     |(name,kind)=>if(kind==NameKind.free)=true then(do let a <-cellOf env name;pure (ForInStep.yield ((name,a)::r)))else pure (ForInStep.yield r))=(pure cl:SF (List (A_×KF)))/\
   (∀n c,cl.lookup n=be c->env.cells.lookup n=be c\/s9.lookup n=be c)/\(∀n,(n,NameKind.free)∈names->∃c,cl.lookup n=be c)/\∀n c,s9.lookup n=be c->∃c',cl.lookup n=be c'
 |[],s9,_=>#[s9,rfl,(λ_ _ h=>.inr h),(λ_ h=>by cases h),(λ_ c h=>#[c,h])]
 |(name,kind)::r,s9,h=>by
  by_cases hk:(kind==NameKind.free)=true
  .have ek:kind=.free:=by simpa using hk
   subst ek;obtain⟨c,hc⟩:=h name FO;obtain⟨cl,e,p1,p2,p3⟩:=kd r ((name,c)::s9) λn q=>h n (FM _ q);refine#[cl,?_,λn c' q=>?_,λn q=>?_,λn c' q=>?_]
   .rw[HC];have ec:cellOf env name=pure c:=by unfold cellOf;rw[hc]
    simp only[hk,if_true,ec];exact e
   .rcases p1 n c' q with z|z
    .exact .inl z
    .rw[FY]at z;split at z
     .rename_i q2;have en:n=name:=by simpa using q2
      cases z;exact .inl (en ▸ hc)
     .exact .inr z
   .rcases FL.mp q with z|z
    .cases z;exact p3 _ c (by rw[FY];simp)
    .exact p2 n z
   .by_cases hn:n=name
    .subst hn;exact p3 n c (by rw[FY];simp)
    .exact p3 n c' (by rw[FY,beq_eq_false_iff_ne.mpr hn];exact q)
  .obtain⟨cl,e,p1,p2,p3⟩:=kd r s9 λn q=>h n (FM _ q);refine#[cl,?_,p1,λn q=>?_,p3]
   .rw[HC];simp only[hk];exact e
   .rcases FL.mp q with z|z
    .cases z;exact absurd rfl hk
    .exact p2 n z
def closure_is{env:RQ}{scope:RA}(h:∀n,(n,NameKind.free)∈scope.names->∃c,env.cells.lookup n=be c):
  ∃cl,closureFor scope env=pure cl/\(∀n c,cl.lookup n=be c->env.cells.lookup n=be c)/\∀n,(n,NameKind.free)∈scope.names->∃c,cl.lookup n=be c:=by
 obtain⟨cl,e,p1,p2,_⟩:=kd scope.names [] h;refine#[cl,?_,λn c q=>(p1 n c q).elim id (λz=>nomatch z),p2];unfold closureFor;show(forIn (m:=SF) scope.names [] _>>=λs=>pure s)=pure cl;rw[e];rfl
def gH{env:RQ}:∀{names:List (A_×RK)} {n:A_} {k:RK},(∀y∈names,y.2≠.cell)->k=.cell\/k=.free->
  (names.map λ(n,k)=>if(k==NameKind.free&&env.scope.kind== .function&&env.kindOf n==be .cell)then(n,NameKind.cell)else(n,k)).lookup n=be k->(n,NameKind.free)∈names
 |[],_,_,_,_,h=>by simp at h
 |(a,b)::r,n,k,hc,hk,h=>by
  rw[Gc]at h;by_cases hb:(b==NameKind.free&&env.scope.kind== .function&&env.kindOf a==be .cell)=true
  .have eb:b=.free:=by
    have:=(Gf _ _ ▸ ((Gf _ _ ▸ hb).1)).1;simpa using this
   simp only[hb,if_true]at h;rw[FY]at h;split at h
   .rename_i q;have en:n=a:=by simpa using q
    subst en eb;exact FO
   .exact FM _ (gH (λy q=>hc y (FM _ q)) hk h)
  .simp only[hb]at h;rw[if_neg JU,FY]at h;split at h
   .rename_i q;have en:n=a:=by simpa using q
    cases h;subst en;rcases hk with z|z
    .exact absurd z (hc _ FO)
    .rw[z];exact FO
   .exact FM _ (gH (λy q=>hc y (FM _ q)) hk h)
section
variable {prog:Q5}{w:Q_}{A:Ra}{R:Result->KM->Prop}{s:KM}
abbrev rS(g9:List P3)(env:RQ):SF Bool:=forIn g9 true λc r=>if r=true then do let ok <-isTrue c env (Rg c env);pure (ForInStep.yield ok)else pure (ForInStep.yield r)
def yF{f_ ge iter:P3}{g9:List P3}{scope:RA}{pos:Ri}{it s9:KB}{env:RQ}(I:Nat->KM->Prop)
  (c8:∀n s,I n s->Q7 (Q8 prog w) A (pyNext it) (λr s₁=>match r with
   |none=>R (.ok .next) s₁
   |some v=>Q7 (Q8 prog w) A (R4 ge it v) (λ_ s₁'=>Q7 (Q8 prog w) A (RD ge env v) (λ_ s₂=>Q7 (Q8 prog w) A (rS g9 env) (λok s₂'=>if ok=true then Q7 (Q8 prog w) A (Rg f_ env) (λx s₃=>
     Q7 (Q8 prog w) A (call (.builtin "list.append") [s9,x]) (λ_ s₄=>∃m,m<n/\I m s₄) (λ_ _=>False) s₃)
     (λ_ _=>False) s₂' else ∃m,m<n/\I m s₂') (λ_ _=>False) s₂) (λ_ _=>False) s₁') (λ_ _=>False) s₁) (λ_ _=>False) s)
  (n:Nat) (h:I n s):
  R7 (Q8 prog w) A (.compLoop (.ListComp f_ [#[ge,iter,g9,0]] scope pos) 0 it s9 env) R s:=by
 refine codeAny_loop rfl I (λn s hI=>?_) n h;show Q7 _ _ ((compTurn (.ListComp f_ [#[ge,iter,g9,0]] scope pos) 0 it s9 env).onRaise (λx=>do RW x env;theTreesLotGoes x)) _ _ s;refine wpAny_noted ?_;rw[compTurn_list];refine Os (RB (Os (Rn (c8 n s hI) (λr s₁ h₁=>?_) λ_ _ h'=>h'.elim)));cases r with
 |none=>exact Q9 h₁
 |some v=>
  refine Os (Rn h₁ (λ_ s₁' h₁'=>Os (Rn h₁' (λ_ s₂ h₂=>Os (Rn h₂ (λok s₃ h₃=>?_) λ_ _ h'=>h'.elim)) λ_ _ h'=>h'.elim)) λ_ _ h'=>h'.elim);cases ok with
  |false=>exact Q9 #[rfl,h₃]
  |true=>
   exact Os (Os (Rn h₃ (λx s₄ h₄=>Os (Rn h₄ (λ_ s₅ h₅=>Q9 (Q9 #[rfl,h₅])) λ_ _ h'=>h'.elim)) λ_ _ h'=>h'.elim))
end
def bP(X:Cx)(scope:RA)(cl:List (A_×KF))(x:A_)(s₀:KM)(H₀:Hp)(fp:List KF):Cx where
 prog:=X.prog
 w:=X.w
 K:=X.K
 mg:=X.mg
 base:=X.base
 A:=X.A
 N:=X.N.map (λn=>if n=x then("":A_)else n)++[x]
 s₀:=s₀
 H₀:=H₀
 env:=compEnvC scope cl s₀.heap.objs.size X.env
 outer:=X.stack
 stack:=X.stack
 ex:=fp
 fn:=λ_=>false
 calm:=X.calm
 pn:=[]
 xe:=λ_ _=>False
structure CompScope(X:Cx)(scope:RA)(x:Str):Prop where
 kind:scope.kind=.function
 nocell:∀y∈scope.names,y.2≠.cell
 names:∀y∈scope.names,y.2=.local->scope.names.lookup y.1=be .local
 own:scope.names.lookup x=be .local
 free:∀n,(n,NameKind.free)∈scope.names->X.env.kindOf n=be .cell
 vis:∀n∈X.N,n≠x->Vis (SS scope X.env) n->(n,NameKind.free)∈scope.names
 empty:¬Vis (SS scope X.env) ("":A_)
 cells:∀n,(n,NameKind.free)∈scope.names->(SS scope X.env).names.lookup n=be .cell
 nd:(X.N.map (λn=>if n=x then("":A_)else n)++[x]).Nodup
section
variable {X:Cx}{pins:List (KF×Ro)}{σ:St}{H:Hp}{s:KM}{scope:RA}{cl:List (A_×KF)}{x:A_}{fp:List KF}
def rT(I:Inv X pins σ H s)(S:CompScope X scope x)(c1:∀n c,cl.lookup n=be c->X.env.cells.lookup n=be c)(c2:∀n,(n,NameKind.free)∈scope.names->∃c,cl.lookup n=be c)
  (hf:∀b∈fp,FpOk X pins H b) (hl:∀b∈fp,b<s.heap.objs.size):(bP X scope cl x s H fp).Ok where
 mod:=I.ok.mod
 kind:=S.kind
 glob:=I.ok.glob
 blt:=I.ok.blt
 above:=FK _
 inj:=λy z c h1 h2=>I.ok.inj y z c (c1 y c h1) (c1 z c h2)
 has:=λn hn=>by
  rcases hn with hn|hn
  .exact c2 n (gH S.nocell (.inl rfl) hn)
  .exact c2 n (gH S.nocell (.inr rfl) hn)
 cab:=λ_ _ h=>nomatch h
 hd:=I.ok.hd
 frames:=I.ok.frames
 stk:=.inl rfl
 exf:=λb hb=>#[FR (hl b hb),λy c h=>(hf b hb).2.2.2.2.1 y c (c1 y c h)]
 bs:=I.bs
 bsz:=FQ I.ok.bsz I.sz
 noex:=λb o e hb=>by
  have h1:=I.ok.noex b o e;rcases(hf b hb).2.2.2.1 with z|z
  .exact h1 z
  .exact absurd (F9 (Heap.lt_size e) (FQ I.ok.bsz z)) (GD _)
 exfs:=λb hb hs=>by
  rcases FL.mp (I.stkSub b hs)with z|z
  .exact(hf b hb).2.1 z
  .exact(hf b hb).2.2.1 z
 funs:=I.stack
 frf:=I.stkFree
def rV{h':Rc}{t':Nat}(I:Inv X pins σ H s)(S:CompScope X scope x)(c1:∀n c,cl.lookup n=be c->X.env.cells.lookup n=be c)(c2:∀n,(n,NameKind.free)∈scope.names->∃c,cl.lookup n=be c)
  (hf:∀b∈fp,FpOk X pins H b) (hl:∀b∈fp,b<s.heap.objs.size) {m:A_->Option KB} (hn:h'.Ns s.heap.objs.size m) (k:∀b o,s.heap.get? b=be o->h'.get? b=be o):
  Inv (bP X scope cl x s H fp) [] (σ++[r_]) H {s with heap:=h',toks:=t'}:=by
 refine#[rT I S c1 c2 hf hl,rfl,I.bare,Un.kept k,#[m,hn,λi n v e1 e2 e3=>?_],λn c e=>?_,I.hok.fresh (FK _),λn c e=>I.freeC n c (c1 n c e),λp hp=>absurd (show p∈([]:List (KF×Ro))from hp) JU,I.hok.kept k,?_]
 .have hi:i<σ.length:=by
   rcases GU i σ.length with q|q
   .exact q
   .rw[GH q]at e2;cases hz:i-σ.length with
    |zero=>rw[hz]at e2;simp at e2
    |succ z=>rw[hz]at e2;simp at e2
  rw[Gv hi]at e2;have LA:i<X.N.length:=by rw[<-I.len];exact hi
  have J9:(X.N.map (λn=>if n=x then("":A_)else n)++[x])[i]?=be n:=e1;rw[Gv (by simpa using LA),FS,F8 LA]at J9;simp only[Option.map_some,Option.some.injEq]at J9;by_cases hx:X.N[i]=x
  .rw[if_pos hx]at J9;subst J9;exact absurd e3 S.empty
  .rw[if_neg hx]at J9;subst J9;have i8:=S.vis _ (Gp LA) hx e3;have k_:=S.free _ i8;obtain⟨c,hc⟩:=c2 _ i8;obtain⟨mX,QF,Pm⟩:=I.loc;obtain⟨u,ru,lk⟩:=Pm i X.N[i] v (F8 LA) e2 (.inr (.inl k_));refine#[u,ru,.inr #[?_,c,hc,?_]]
   .exact .inl (S.cells _ i8)
   .rcases lk with⟨kl,_⟩|⟨_,c',Jq,p8⟩
    .rw[k_]at kl;cases kl
    .have:c=c':=by
      have:=c1 _ c hc;rw[Jq]at this;exact(Option.some.inj this).symm
     subst this;obtain⟨o,ho,hd⟩:=p8;exact#[o,k _ _ ho,hd]
 .obtain⟨v,o,ho,hd⟩:=I.cell n c (c1 n c e);exact#[v,o,k _ _ ho,hd]
 .show(σ++[r_]).length=(X.N.map _++[x]).length;rw[FV,FV,FP,I.len];rfl
end
def fO(wi:TI)(tt:TT)(g4:TE):TE:=λσ H Q=>wi σ H λJ H1=>∀D,H1 D=r_->∃W:Nat->Nat->Hp->Prop,(∃m,W 0 m (upd H1 D (.lst [])))/\∀i m H,W i m H->
 (J.stop i H/\Q (.ref D) H)\/(J.go i H/\∀x H',J.yld i H x H'->tt (σ++[be x]) H' λb H1=>if b=true then g4 (σ++[be x]) H1 λy H''=>∃vs,H'' D=be (.lst vs)/\vs.length<sizeLine/\∃m',m'<m/\W (i+1) m' (upd H'' D (.lst (vs++[y])))else ∃m',m'<m/\W (i+1) m' H1)
def PIf(X:Cx)(g9:List P3)(t:TT):Prop:=
 ∀(pins:List (KF×Ro)) (s:KM) (σ:St) (H:Hp) (Q:Bool->Hp->Prop),Inv X pins σ H s->t σ H Q->Q7 (Q8 X.prog X.w) X.A (rS g9 X.env) (TP X pins σ Q) X.xe s
def pif_nil{X:Cx}:PIf X [] (λ_ H Q=>Q true H):=λpins s σ H Q I q=>wpAny_tests_nil #[H,I,q]
def PIf.anti{X:Cx}{e:List P3}{t t':TT}(h:PIf X e t)(a:∀s H Q,t' s H Q->t s H Q):PIf X e t':=λpins s σ H Q I q=>h pins s σ H Q I (a _ _ _ q)
section
variable {X:Cx}
variable{f_ iter:P3}{g9:List P3}{x:A_}{px pos:Ri}{scope:RA}{tt:TT}{g4:TE}
def rW{pins:List (KF×Ro)}{s2:KM}{σ:St}{H1:Hp}{cl:List (A_×KF)}{it:KF}{fp:List KF}{tn:Nat->Rc->Prop}{J:It}{Qs:Hp->Prop}{R:Result->KM->Prop}{W:Nat->Nat->Hp->Prop}{m0:Nat}{h₁:Rc}(hc:X.calm=true)(S:CompScope X scope x)
  (hq:∀cl s₀ H₀ fp,PIf (bP X scope cl x s₀ H₀ fp) g9 tt) (he:∀cl s₀ H₀ fp,PE (bP X scope cl x s₀ H₀ fp) f_ g4) (c1:∀n c,cl.lookup n=be c->X.env.cells.lookup n=be c) (c2:∀n,(n,NameKind.free)∈scope.names->∃c,cl.lookup n=be c)
  (I1:Inv X pins σ H1 s2) (T:Turn X.prog X.w X.K (.Name x px) J fp it tn) (st:tn 0 s2.heap) (f1:∀b∈fp,FpOk X pins H1 b) (w0:W 0 m0 (upd H1 s2.heap.objs.size (.lst [])))
  (step:∀i m H,W i m H->(J.stop i H/\Qs H)\/(J.go i H/\∀x H',J.yld i H x H'->tt (σ++[be x]) H' λb H1=>if b=true then g4 (σ++[be x]) H1 λy H''=>∃vs,H'' s2.heap.objs.size=be (.lst vs)/\vs.length<sizeLine/\∃m',m'<m/\W (i+1) m' (upd H'' s2.heap.objs.size (.lst (vs++[y])))else ∃m',m'<m/\W (i+1) m' H1))
  (I4:Inv (bP X scope cl x {s2 with heap:=s2.heap.push {cls:=.type "list",data:=.seq ([]:List KB).toArray},toks:=s2.toks} (upd H1 s2.heap.objs.size (.lst [])) fp) [] (σ++[r_]) (upd H1 s2.heap.objs.size (.lst [])) {s2 with heap:=h₁,toks:=s2.toks+([]:List (A_×KB)).length}) (t0:tn 0 h₁)
  (Mj:∀H' s4 m,Inv X pins σ H' s4->s4.heap.Ns (s2.heap.push {cls:=.type "list",data:=.seq ([]:List KB).toArray}).objs.size m->H' (s2.heap.push {cls:=.type "list",data:=.seq ([]:List KB).toArray}).objs.size=r_->Qs H'->R (.ok .next) s4):
  R7 (Q8 X.prog X.w) X.A (.compLoop (.ListComp f_ [#[.Name x px,iter,g9,0]] scope pos) 0 (.ref it) (.ref s2.heap.objs.size) (compEnvC scope cl (s2.heap.push {cls:=.type "list",data:=.seq ([]:List KB).toArray}).objs.size X.env)) R {s2 with heap:=h₁,toks:=s2.toks+([]:List (A_×KB)).length}:=by
 have f7:∀b∈fp,b<s2.heap.objs.size:=λb hb=>by
  obtain⟨o,ho,_⟩:=T.obj _ _ st b hb;exact Heap.lt_size ho
 have I3:Inv X pins σ (upd H1 s2.heap.objs.size (.lst [])) {s2 with heap:=s2.heap.push {cls:=.type "list",data:=.seq ([]:List KB).toArray},toks:=s2.toks}:=I1.lnew (its:=[]) (ys:=[]) .nil (Gb _);have g8:∀b∈fp,b<(s2.heap.push {cls:=.type "list",data:=.seq ([]:List KB).toArray}).objs.size:=λb hb=>by
  rw[Heap.size_push];exact HD (f7 b hb)
 have y_:∀b∈fp,FpOk X pins (upd H1 s2.heap.objs.size (.lst [])) b:=λb hb=>#[by rw[ay (FR (f7 b hb))];exact(f1 b hb).1,(f1 b hb).2];have LB:=rT (x:=x) (fp:=fp) I3 S c1 c2 y_ g8;generalize hY:bP X scope cl x {s2 with heap:=s2.heap.push {cls:=.type "list",data:=.seq ([]:List KB).toArray},toks:=s2.toks} (upd H1 s2.heap.objs.size (.lst [])) fp=Y at I4 LB;have yP:Y.prog=X.prog:=N2
 have yW:Y.w=X.w:=N2
 have yK:Y.K=X.K:=N2
 have yA:Y.A=X.A:=N2
 have yN:Y.N=X.N.map (λn=>if n=x then("":A_)else n)++[x]:=N2
 have yE:Y.env=compEnvC scope cl (s2.heap.push {cls:=.type "list",data:=.seq ([]:List KB).toArray}).objs.size X.env:=N2
 have yX:Y.xe=λ_ _=>False:=N2
 have yC:Y.calm=true:=by rw[<-hY];exact hc
 have Oc:Y.ex=fp:=N2
 have Pn:Y.pn=[]:=N2
 have Po:Y.fs=frs X.stack:=N2
 have Pp:Y.H₀=upd H1 s2.heap.objs.size (.lst []):=N2
 have Od:Y.s₀={s2 with heap:=s2.heap.push {cls:=.type "list",data:=.seq ([]:List KB).toArray},toks:=s2.toks}:=N2
 have Pq:PE Y f_ g4:=by rw[<-hY];exact he _ _ _ _
 have Pr:PIf Y g9 tt:=by rw[<-hY];exact hq _ _ _ _
 have l_:∀{H':Hp},(∀b∈fp,H' b=r_)->∀b∈fp,FpOk Y [] H' b:=λ{H'} hn b hb=>by
  have i_:b∈Y.ex:=by rw[Oc];exact hb
  exact#[hn b hb,(LB.exf b i_).1,LB.exfs b i_,.inl i_,λn c e=>(LB.exf b i_).2 n c e,by rw[Pn];simp]
 have KN:Y.env.scope.names.lookup x=be .local:=by rw[yE];exact lookup_relabel_local S.own
 have Ml:Y.N[X.N.length]?=be x:=by rw[yN];simp
 have Ps:Y.N.Nodup:=by rw[yN];exact S.nd
 have Mm:Y.env.locals=(s2.heap.push {cls:=.type "list",data:=.seq ([]:List KB).toArray}).objs.size:=by rw[yE];rfl
 have e_:∀(o:Option V) (H':Hp) (s':KM),Inv Y [] (σ++[o]) H' s'->Inv X pins σ H' s':=λo H' s' I'=>by
  have bs:=I'.base;rw[Po,Oc,Pp,Od]at bs;refine I3.call' (ch:=fp) ?_ bs ?_ I'.bare ?_
  .have:=I'.os;rw[Od]at this;exact this
  .have:=I'.hok;rw[yP,yW]at this;exact this
  .exact λb hb=>#[(y_ b hb).2.2.2.1,(y_ b hb).2.1,(y_ b hb).2.2.2.2.1,(y_ b hb).2.2.2.2.2]
 refine yF (λn s'=>∃i o H',Inv Y [] (σ++[o]) H' s'/\tn i s'.heap/\(∀b∈fp,H' b=r_)/\W i n H') ?_ m0 #[0,r_,_,I4,t0,λb hb=>(y_ b hb).1,w0];rintro n s3⟨i,o,H3,I5,t3,f3,w3⟩;rcases step i n H3 w3 with⟨stop,q⟩|⟨go,q⟩
 .have dn:=T.done Y yP yW yK yC i [] s3 _ H3 (λ_ _=>False) I5 (l_ f3) t3 stop;rw[yA]at dn;refine thn dn λr s4 c7=>?_;obtain⟨hr,I6⟩:=c7;subst hr;obtain⟨m,hn,_⟩:=I6.loc;have m6:=I6.free;rw[Mm]at hn m6;exact Mj H3 s4 m (e_ o H3 s4 I6) hn m6 q
 .have Of:=T.item Y yP yW yK yC i [] s3 _ H3 (λ_ _=>False) I5 (l_ f3) t3 go;rw[yA]at Of;refine thn Of λr s4 c7=>?_;obtain⟨u,hr,h4⟩:=c7;subst hr;refine thn h4 λ_ s5 c7=>?_;obtain⟨xv,H5,I6,r5,y5,B_,L6⟩:=c7;have Pt:=I6.pinned (l_ L6) (T.obj _ _ B_);rw[<-yE];refine R' (fk Pt Ps Ml (.inl KN) r5 (λs6 I7=>?_) (.inr KN));have Mn:(σ++[o]).set X.N.length (be xv)=σ++[be xv]:=by
   rw[<-I1.len];simp
  rw[Mn]at I7;have tv:=Pr _ s6 _ H5 _ I7 (q xv H5 y5);rw[yP,yW,yA,yX]at tv;refine thn tv λb Pu c7=>?_;obtain⟨Pw,LC,qb⟩:=c7;cases b with
  |false=>
   obtain⟨m',hm,w7⟩:=qb;refine#[m',hm,i+1,be xv,_,LC.unpinned,T.keep _ _ _ B_ λb hb ob e=>(LC.pin (b,ob) (F7 _ (F7 _ (dR hb e)))).1,λb hb=>?_,w7];obtain⟨ob,e,d⟩:=T.obj _ _ B_ b hb;exact(LC.pin (b,ob) (F7 _ (F7 _ (dR hb e)))).2.1
  |true=>
  have ev:=Pq _ Pu _ Pw _ LC qb;rw[yP,yW,yA,yX]at ev;refine thn ev λyv s7 c7=>?_;obtain⟨y,H6,I8,ry,vs,Px,b9,m',hm,w7⟩:=c7;have ap:=jL (X:=Y) _ s7 _ H6 (.ref s2.heap.objs.size) [y] (.ref s2.heap.objs.size) [yv] (λ_ H7=>H7=upd H6 s2.heap.objs.size (.lst (vs++[y]))) I8 rfl (.cons ry .nil) #[_,vs,y,rfl,rfl,Px,b9,rfl];rw[yP,yW,yA,yX]at ap;refine thn ap λ_ s8 c7=>?_;obtain⟨_,H7,I9,_,e7⟩:=c7;subst e7;refine#[m',hm,i+1,be xv,_,I9.unpinned,T.keep _ _ _ B_ λb hb ob e=>(I9.pin (b,ob) (F7 _ (F7 _ (dR hb e)))).1,λb hb=>?_,w7];obtain⟨ob,e,d⟩:=T.obj _ _ B_ b hb;exact(I9.pin (b,ob) (F7 _ (F7 _ (dR hb e)))).2.1
def rX{wi:TI}(hc:X.calm=true)(S:CompScope X scope x)(hi:PI X (.Name x px) iter wi)
  (hq:∀cl s₀ H₀ fp,PIf (bP X scope cl x s₀ H₀ fp) g9 tt) (he:∀cl s₀ H₀ fp,PE (bP X scope cl x s₀ H₀ fp) f_ g4) (hs:autoParam (∀y,zFS X iter y) zA2):
  PE X (.ListComp f_ [#[.Name x px,iter,g9,0]] scope pos) (fO wi tt g4):=by
 intro pins s σ H Q I h;obtain⟨cl,p8,c1,c2⟩:=closure_is (env:=X.env) (scope:=scope) (λn q=>I.ok.has n (.inl (S.free n q)));rw[eval_ListComp];refine Sq (use:=r_) rfl hs p8 S.kind S.names (thn (hi pins s σ H _ I h) λv s1 h1=>thn h1 λLq s2 h2=>?_);obtain⟨it,fp,tn,J,H1,e,I1,T,st,f1,hr⟩:=h2;subst e;have f7:∀b∈fp,b<s2.heap.objs.size:=λb hb=>by
  obtain⟨o,ho,_⟩:=T.obj _ _ st b hb;exact Heap.lt_size ho
 have hD:H1 s2.heap.objs.size=none:=I1.hok.fresh (FK _);obtain⟨W,⟨m0,w0⟩,step⟩:=hr _ hD;refine Rj (SG S.nocell (by intro y hy;simp at hy) (λh₁ hns₁ hsb₁=>?_) S.kind);have I3:Inv X pins σ (upd H1 s2.heap.objs.size (.lst [])) {s2 with heap:=s2.heap.push {cls:=.type "list",data:=.seq ([]:List KB).toArray},toks:=s2.toks}:=I1.lnew (its:=[]) (ys:=[]) .nil (Gb _);have g8:∀b∈fp,b<(s2.heap.push {cls:=.type "list",data:=.seq ([]:List KB).toArray}).objs.size:=λb hb=>by
  rw[Heap.size_push];exact HD (f7 b hb)
 have y_:∀b∈fp,FpOk X pins (upd H1 s2.heap.objs.size (.lst [])) b:=λb hb=>#[by rw[ay (FR (f7 b hb))];exact(f1 b hb).1,(f1 b hb).2];have kp:∀b o,(s2.heap.push {cls:=.type "list",data:=.seq ([]:List KB).toArray}).get? b=be o->h₁.get? b=be o:=λb o e=>
  (hsb₁.2 b (FR (Heap.lt_size e))).trans (Heap.get?_push_of_some _ e)
 have I4:=rV (x:=x) (fp:=fp) (t':=s2.toks+([]:List (A_×KB)).length) I3 S c1 c2 y_ g8 hns₁ kp;have G_:(s2.heap.push {cls:=.type "list",data:=.seq ([]:List KB).toArray}).objs.size≠X.env.locals:=GE I3.lt;have H_:∀z c,X.env.cells.lookup z=be c->c≠(s2.heap.push {cls:=.type "list",data:=.seq ([]:List KB).toArray}).objs.size:=λz c e=>by
  obtain⟨vv,oo,ho,_⟩:=I3.cell z c e;exact FR (Heap.lt_size ho)
 have JV:∀p∈X.pn++pins,p.1≠(s2.heap.push {cls:=.type "list",data:=.seq ([]:List KB).toArray}).objs.size:=λp hp=>FR (Heap.lt_size (I3.pin p hp).1);have p7:=rW (pos:=pos) (iter:=iter) (R:=compPost (Q8 X.prog X.w) X.A X.xe r_ (EP X pins σ Q) (.ref s2.heap.objs.size) (s2.heap.push {cls:=.type "list",data:=.seq ([]:List KB).toArray}).objs.size) hc S hq he c1 c2 I1 T st f1 w0 step I4 (T.keep _ _ _ st (λb hb ob e=>kp b ob (Heap.get?_push_of_some _ e))) λH' s4 m IX hn m6 q=>
  #[m,hn,λh' hsb=>#[.ref s2.heap.objs.size,H',IX.turned (t':=s4.toks) (it:=(s2.heap.push {cls:=.type "list",data:=.seq ([]:List KB).toArray}).objs.size) (λb ob hb e=>(hsb.2 b hb).trans e) m6 G_ (.inr I3.sz) H_ JV,rfl,q]]
 exact SA p7 (T.self _ _ _ _ _ (T.keep _ _ _ st (λb hb ob e=>kp b ob (Heap.get?_push_of_some _ e))) p7)
def rY{y:A_}{py l6:Ri}{wi:TI}{ix:Nat}(hc:X.calm=true)(S:CompScope X scope x)(hi:PI X (.Name x px) iter wi)
  (hq:∀cl s₀ H₀ fp,PIf (bP X scope cl x s₀ H₀ fp) g9 tt) (he:∀cl s₀ H₀ fp,PE (bP X scope cl x s₀ H₀ fp) f_ g4) (hN:X.N.Nodup) (KO:X.N[ix]?=be y) (hy:Loc X.env.scope y) (hf:zFN X y)
  (G':Rq (.ListComp f_ [#[.Name x px,iter,g9,0]] scope pos) (be (.Name y py)) l6.line X.env=pure true) (hs:autoParam (∀y,zFS X iter y) zA2):
  PS X (.Assign [.Name y py] (.ListComp f_ [#[.Name x px,iter,g9,0]] scope pos) l6) (tAsg (fO wi tt g4) (fo ix)):=by
 intro pins s σ H DE I h;have h:wi σ H λJ H1=>∀D,H1 D=r_->∃W:Nat->Nat->Hp->Prop,(∃m,W 0 m (upd H1 D (.lst [])))/\∀i m H,W i m H->
  (J.stop i H/\DE.nx (σ.set ix (be (.ref D))) H)\/(J.go i H/\∀x H',J.yld i H x H'->tt (σ++[be x]) H' λb H1=>if b=true then g4 (σ++[be x]) H1 λy H''=>∃vs,H'' D=be (.lst vs)/\vs.length<sizeLine/\∃m',m'<m/\W (i+1) m' (upd H'' D (.lst (vs++[y])))else ∃m',m'<m/\W (i+1) m' H1):=h
 obtain⟨cl,p8,c1,c2⟩:=closure_is (env:=X.env) (scope:=scope) (λn q=>I.ok.has n (.inl (S.free n q)));rw[exec_Assign_Name_used _ _ _ _ G'];refine Os (RB (Os ?_));show Q7 _ X.A (do let _ <-comprehension (.ListComp f_ [#[.Name x px,iter,g9,0]] scope pos) scope X.env _ (newList []) false (Rg iter X.env) (be (RD (.Name y py) X.env))) _ _ s;refine Os (Rn (Sq (use:=be (RD (.Name y py) X.env)) (Q:=λ_ s'=>SP X pins DE .next s') rfl hs p8 S.kind S.names
  (thn (hi pins s σ H _ I h) λv s1 h1=>thn h1 λLq s2 h2=>?_)) (λ_ s' hq=>Q9 (Q9 hq)) λ_ _ e=>e)
 obtain⟨it,fp,tn,J,H1,e,I1,T,st,f1,hr⟩:=h2;subst e;have f7:∀b∈fp,b<s2.heap.objs.size:=λb hb=>by
  obtain⟨o,ho,_⟩:=T.obj _ _ st b hb;exact Heap.lt_size ho
 have hD:H1 s2.heap.objs.size=none:=I1.hok.fresh (FK _);obtain⟨W,⟨m0,w0⟩,step⟩:=hr _ hD;refine Rj (SG S.nocell (by intro y hy;simp at hy) (λh₁ hns₁ hsb₁=>?_) S.kind);have I3:Inv X pins σ (upd H1 s2.heap.objs.size (.lst [])) {s2 with heap:=s2.heap.push {cls:=.type "list",data:=.seq ([]:List KB).toArray},toks:=s2.toks}:=I1.lnew (its:=[]) (ys:=[]) .nil (Gb _);have g8:∀b∈fp,b<(s2.heap.push {cls:=.type "list",data:=.seq ([]:List KB).toArray}).objs.size:=λb hb=>by
  rw[Heap.size_push];exact HD (f7 b hb)
 have y_:∀b∈fp,FpOk X pins (upd H1 s2.heap.objs.size (.lst [])) b:=λb hb=>#[by rw[ay (FR (f7 b hb))];exact(f1 b hb).1,(f1 b hb).2];have kp:∀b o,(s2.heap.push {cls:=.type "list",data:=.seq ([]:List KB).toArray}).get? b=be o->h₁.get? b=be o:=λb o e=>
  (hsb₁.2 b (FR (Heap.lt_size e))).trans (Heap.get?_push_of_some _ e)
 have I4:=rV (x:=x) (fp:=fp) (t':=s2.toks+([]:List (A_×KB)).length) I3 S c1 c2 y_ g8 hns₁ kp;have G_:(s2.heap.push {cls:=.type "list",data:=.seq ([]:List KB).toArray}).objs.size≠X.env.locals:=GE I3.lt;have H_:∀z c,X.env.cells.lookup z=be c->c≠(s2.heap.push {cls:=.type "list",data:=.seq ([]:List KB).toArray}).objs.size:=λz c e=>by
  obtain⟨vv,oo,ho,_⟩:=I3.cell z c e;exact FR (Heap.lt_size ho)
 have JV:∀p∈X.pn++pins,p.1≠(s2.heap.push {cls:=.type "list",data:=.seq ([]:List KB).toArray}).objs.size:=λp hp=>FR (Heap.lt_size (I3.pin p hp).1);have p7:=rW (pos:=pos) (iter:=iter) (R:=compPost (Q8 X.prog X.w) X.A X.xe (be (RD (.Name y py) X.env)) (λ_ s'=>SP X pins DE .next s') (.ref s2.heap.objs.size) (s2.heap.push {cls:=.type "list",data:=.seq ([]:List KB).toArray}).objs.size) hc S hq he c1 c2 I1 T st f1 w0 step I4 (T.keep _ _ _ st (λb hb ob e=>kp b ob (Heap.get?_push_of_some _ e))) λH' s4 m IX hn m6 q=>by
  show Q7 _ X.A (RD (.Name y py) X.env (.ref s2.heap.objs.size)) _ _ s4;refine R' (pJ IX hN KO hy (v:=.ref s2.heap.objs.size) rfl (λs5 I7 ⟨a,hsb,ha⟩=>?_) hf);have Mo:(s2.heap.push {cls:=.type "list",data:=.seq ([]:List KB).toArray}).objs.size≠a:=by
   rcases ha with e|e
   .rw[e];exact G_
   .exact λz=>H_ y a e z.symm
  exact#[m,hn.sameBut hsb Mo,λh' LD=>#[_,H',I7.turned (t':=s5.toks) (it:=(s2.heap.push {cls:=.type "list",data:=.seq ([]:List KB).toArray}).objs.size) (λb ob hb e=>(LD.2 b hb).trans e) m6 G_ (.inr I3.sz) H_ JV,q]]
 exact SA p7 (T.self _ _ _ _ _ (T.keep _ _ _ st (λb hb ob e=>kp b ob (Heap.get?_push_of_some _ e))) p7)
end
end L2
namespace My
def RepS.snoc{K:Ex}{B F H:Hp}{z:SD}{s:L2.St}{d:D}{v:V}(h:RepS K B F H z s)(r:Rep K F d v):RepS K B F H (z++[be d]) (s++[be v]):=by
 have no:=r.noown;have get:∀{j:Nat} {x:D},(z++[be d])[j]?=be (be x)->(j<z.length/\z[j]?=be (be x))\/(j=z.length/\x=d):=λ{j x} e=>by
  rcases GU j z.length with q|q
  .rw[Gv q]at e;exact .inl #[q,e]
  .rw[GH q]at e;cases hz:j-z.length with
   |zero=>rw[hz]at e;simp at e;exact .inr #[JM,e.symm]
   |succ n=>rw[hz]at e;simp at e
 have lt:∀{j:Nat},j<z.length->(s++[be v])[j]?=s[j]?:=λ{j} q=>Gv (by rw[h.len];exact q);refine#[by rw[FV,FV,h.len];rfl,λj x e nx=>?_,λj ds e=>?_,λj k dj dk a e1 e2 e3 e4=>?_]
 .rcases get e with⟨q,e⟩|⟨q,rfl⟩
  .rw[lt q];exact h.val j x e nx
  .exact#[v,by rw[q,GH (by rw[h.len];exact FK _),h.len];simp,r]
 .rcases get e with⟨q,e⟩|⟨q,e⟩
  .rw[lt q];exact h.own j ds e
  .rw[<-e]at no;cases no
 .rcases get e1 with⟨q,e1⟩|⟨q,e1⟩
  .rcases get e2 with⟨q2,e2⟩|⟨q2,e2⟩
   .rw[lt q]at e3;rw[lt q2]at e4;exact h.apart j k dj dk a e1 e2 e3 e4
   .rw[<-e2]at no;cases no
  .rw[<-e1]at no;cases no
def okB:Bool->Bool->Prop->Prop->Prop
 |_,true,A,_=>A
 |false,false,_,B=>B
 |true,false,_,_=>False
def cmpG(nf:Bool)(tt:TDT)(te:TD)(z:SD)(R:D->Prop)(items:List D):Prop:=items.length<=100000/\∃W:Nat->List D->Prop,W 0 []/\(∀k x ys,items[k]?=be x->(nf=true->ys.length=k)->W k ys->tt (z++[be x]) λb=>okB nf b (te (z++[be x]) λy=>W (k+1) (ys++[y])) (W (k+1) ys))/\∀ys,(nf=true->ys.length=items.length)->W items.length ys->R (.lst ys)
def cmpP(te:TD)(z:SD)(R:D->Prop)(items:List D):Prop:=items.length<=100000/\∃W:Nat->List D->Prop,W 0 []/\(∀k x ys,items[k]?=be x->ys.length=k->W k ys->te (z++[be x]) λy=>W (k+1) (ys++[y]))/\∀ys,ys.length=items.length->W items.length ys->R (.lst ys)
def gI(ti:TDI)(te:TD):TD:=λz R=>ti z (cmpP te z R)
def dT1:TDT:=λ_ R=>R true
abbrev DIf(X:Cx)[Jx](g9:List P3)(t:TDT):Prop:=PIf X g9 (lT X.K t)
variable{X:Cx}
def gJ[Jx]:DIf X [] dT1:=pif_nil.anti λs H Q q=>by
 obtain⟨B,F,z,kf,rs,R,h1,h2⟩:=q;exact h2 true F H (Grow.refl kf.fh) h1
structure ItIs(K:Ex)(J:It)(F1 H1:Hp)(items:List D):Prop where
 go:∀k F' H',Grow F1 H1 F' H'->k<items.length->J.go k H'
 yld:∀k F' H' x H'',Grow F1 H1 F' H'->k<items.length->J.yld k H' x H''->H''=H'/\∃d,items[k]?=be d/\Rep K F' d x
 stop:∀F' H',Grow F1 H1 F' H'->J.stop items.length H'
def ItOk[Jx](K:Ex)(wi:TI)(ti:TDI):Prop:=∀{s:L2.St} {H B F:Hp} {z:SD} {P:List D->Prop} {Q:It->Hp->Prop},Kept B Jx.F0 F H->RepS K B F H z s->ti z P->(∀items J F1 H1,Grow F H F1 H1->P items->ItIs K J F1 H1 items->Q J H1)->wi s H Q
section
variable {X:Cx}
variable{K:Ex}{H:Hp}{s:L2.St}{R:My.D->Prop}{items:List My.D}
def ke[Jx]{B F F1 H1:Hp}{z:SD}{Q:VK}{nf:Bool}{tt:TDT}{te:TD}{J:It}(kf:Kept B Jx.F0 F H)(g1:Grow F H F1 H1)(rs:RepS K B F H z s)(h2:∀D ys us F' H',H D=r_->F' D=r_->Grow F H F' H'->H' D=be (.lst us)->Reps K F' ys us->R (.lst ys)->Q (.ref D) H')
    (it:ItIs K J F1 H1 items) (hd:cmpG nf tt te z R items):
    ∀D,H1 D=r_->∃W:Nat->Nat->Hp->Prop,(∃m,W 0 m (upd H1 D (.lst [])))/\∀i m H,W i m H->
      (J.stop i H/\Q (.ref D) H)\/(J.go i H/\∀x H',J.yld i H x H'->lT K tt (s++[be x]) H' λb H1=>if b=true then lE K te (s++[be x]) H1 λy H''=>∃vs,H'' D=be (.lst vs)/\vs.length<sizeLine/\∃m',m'<m/\W (i+1) m' (upd H'' D (.lst (vs++[y])))else ∃m',m'<m/\W (i+1) m' H1):=by
  intro D hD;obtain⟨hz,W,w0,c8,out⟩:=hd;have Py:F1 D=none:=g1.fh.free hD;have hH:H D=none:=g1.hh.free hD;refine⟨λk m H'=>m=items.length-k/\k<=items.length/\∃F' ys us,Grow F1 H1 F' H'/\H' D=be (.lst us)/\F' D=r_/\Reps K F' ys us/\(ys.length<=k/\(nf=true->ys.length=k))/\W k ys,
    #[items.length,JU,Gb _,F1,[],[],#[Same.refl F1,g1.fh.trans (aP hD _),aP hD _,λb h _=>h],aG,Py,reps_nil.mpr rfl,#[FK _,λ_=>rfl],w0],?_⟩
  rintro k m H'⟨rfl,hk,F',ys,us,G,hu,hF,ry,hl,w⟩;by_cases f7:k<items.length
  . refine .inr #[it.go k F' H' G f7,λx H'' hy=>?_];obtain⟨e,d,hd,rd⟩:=it.yld k F' H' x H'' G f7 hy;subst e;refine#[B,F',z++[be d],kf.grow (g1.trans G),(rs.grow (g1.trans G)).snoc rd,_,c8 k d ys hd hl.2 w,λb F3 H3 g3 hb=>?_];have Mp:H3 D=be (.lst us):=g3.hh D _ hu;have LF:F3 D=none:=g3.out D hF (by rw[hu];exact λq=>nomatch q);cases b with
    |false=>
      cases nf with
      |true=>exact hb.elim
      |false=>exact#[items.length-(k+1),JM,rfl,JM,F3,ys,us,G.trans g3,Mp,LF,ry.mono g3.ff,#[JM,λz=>nomatch z],hb]
    |true=>
    refine#[B,F3,z++[be d],(kf.grow (g1.trans G)).grow g3,((rs.grow (g1.trans G)).snoc rd).grow g3,_,(show te _ _ from by cases nf<;>exact hb),λy yv F2 H2 g2 hw rv=>?_];have Pz:H2 D=be (.lst us):=g2.hh D _ Mp;have I_:F2 D=none:=g2.out D LF (by rw[Mp];exact λq=>nomatch q);have QG:us.length<=k:=by rw[ry.length];exact hl.1
    refine⟨us,Pz,by     have:(100000:Nat)<sizeLine:=by decide
                        lia,items.length-(k+1),JM,rfl,JM,F2,ys++[y],us++[yv],?_,aG,I_,((ry.mono g3.ff).mono g2.ff).append (dZ rv),#[Oa,λz=>by simp[hl.2 z]],hw⟩
    have GG:=(G.trans g3).trans g2;refine#[GG.ff,λb o e=>?_,λb o e=>?_,GG.out]
    . have ne:b≠D:=λq=>by rw[q,I_]at e;cases e
      rw[ay ne];exact GG.fh b o e
    . have ne:b≠D:=λq=>by rw[q,hD]at e;cases e
      rw[ay ne];exact GG.hh b o e
  . have ek:k=items.length:=by lia
    subst ek;exact .inl #[it.stop F' H' G,h2 D ys us F' H' hH hF (g1.trans G) hu ry (out ys hl.2 w)]
def yG{F F' H':Hp}{D:KF}{us:List V}(GG:Grow F H F' H')(hu:H' D=be (.lst us))(hF:F' D=r_)(hH:H D=r_):Grow F H (upd F' D (.lst us)) H':=by
 refine#[GG.ff.trans (aP hF _),λb o e=>?_,GG.hh,λb h1 h3=>?_]
 .by_cases hb:b=D
  .subst hb;rw[aG]at e;cases e;exact hu
  .rw[ay hb]at e;exact GG.fh b o e
 .have ne:b≠D:=λq=>h3 (q ▸ hH);rw[ay ne];exact GG.out b h1 h3
variable {f_ iter:P3}{g9:List P3}{x:A_}{px pos:Ri}{scope:RA}{ti te:TD}{tt:TDT}{wi:TI}{v5:TDI}
def rZ[Jx]{nf:Bool}{G:SD->(D->Prop)->List D->Prop}(hG:∀z R items,G z R items->cmpG nf tt te z R items)(hI:ItOk K wi v5){Q:VK}(q:lE K (λz R=>v5 z (G z R)) s H Q):fO wi (lT K tt) (lE K te) s H Q:=by
 obtain⟨B,F,z,kf,rs,R,h1,h2⟩:=q;exact hI kf rs h1 λitems J F1 H1 g1 hg it=>ke kf g1 rs (λD ys us F' H' hH hF GG hu ry hR=>h2 (.lst ys) (.ref D) _ H' (yG GG hu hF hH) hR (rep_lst.mpr #[D,us,rfl,aG,ry.mono (aP hF _)])) it (hG _ _ _ hg)
def cmpP.g{z:SD}(h:cmpP te z R items):cmpG true dT1 te z R items:=
 let ⟨hz,W,w0,c8,out⟩:=h
 #[hz,W,w0,λk x ys e l w=>c8 k x ys e (l rfl) w,λys l w=>out ys (l rfl) w]
def itL[Jx]:ItOk K (pU K (lE K ti)) (dItL ti):=λ{s H B F z P Q} kf rs h1 h2=>by
 refine#[B,F,z,kf,rs,_,h1,λd v F1 H1 g1 hd rd=>?_];have key:∀(items:List D) (p:KF) (vs:List V),SqL K F1 p vs->Reps K F1 items vs->P items->∃a,V.ref p=.ref a/\(∃xs,SqL K H1 a xs)/\Q (Itl K a) H1:=λitems p vs hq rr hd=>by
  refine#[p,rfl,#[vs,g1.fh.seq hq],h2 items _ F1 H1 g1 hd #[λk F' H' G hk=>?_,λk F' H' x H'' G hk hy=>?_,λF' H' G=>?_]]
  .have m8:k<vs.length:=by rw[rr.length];exact hk
   exact#[vs,vs[k],G.hh.seq (g1.fh.seq hq),by simp[m8]]
  .obtain⟨e,hy⟩:=hy;obtain⟨d,e2,r2⟩:=rr.get' (hy vs (G.hh.seq (g1.fh.seq hq)));exact#[e,d,e2,r2.mono G.ff]
  .exact#[vs,G.hh.seq (g1.fh.seq hq),by rw[rr.length];exact FK _]
 split at hd
 .obtain⟨p,vs,rfl,hq,rr⟩:=rep_lst.mp rd;exact key _ p vs (SqL.of hq) rr hd
 .obtain⟨p,vs,rfl,hq,rr⟩:=rep_rol.mp rd;exact key _ p vs hq rr hd
 .exact hd.elim
def itR[Jx]:ItOk K (pW (qo (lE K ti) tNil)) (dItR ti):=λ{s H B F z P Q} kf rs h1 h2=>by
 refine#[B,F,z,kf,rs,_,h1,λd v F1 H1 g1 hd rd=>?_];split at hd
 .rename_i n;obtain⟨⟨b1,b2⟩,hd⟩:=hd;have hl:((FN n.toNat).map λk=>D.int ((k:Nat):Int)).length=n.toNat:=by simp
  refine#[n,by rw[rep_int.mp rd],JM,b2,h2 _ _ F1 H1 g1 hd #[λk F' H' G hk=>by rw[hl]at hk;exact hk,λk F' H' x H'' G hk hy=>?_,λF' H' G=>by show n.toNat<=_;rw[hl];exact FK _]];rw[hl]at hk;obtain⟨e,rfl⟩:=hy;exact#[e,.int (k:Int),by simp[hk],rep_int.mpr (by congr 1;lia)]
 .exact hd.elim
def kg[Jx]{p1 p2:Ri}(hc:X.calm=true)(S:CompScope X scope x)(hm:X.mg "range"=r_)(hi:WDE X iter ti)(he:∀cl s₀ H₀ fp,WDE (bP X scope cl x s₀ H₀ fp) f_ te)(hg:autoParam (Gl X "range") zA0)
  (hs:autoParam (∀y,zFS X (.Call (.Name "range" p1) [iter] [] p2) y) zA2) (m7:autoParam (zSE X iter []) zA0) (f6:autoParam (Re [iter] X.env=[(false,Rg iter X.env)]) zA0):WDE X (.ListComp f_ [#[.Name x px,.Call (.Name "range" p1) [iter] [] p2,[],0]] scope pos) (gI (dItR ti) te):=#[have hi:=hi.out;have he:=λcl s₀ H₀ fp=>(he cl s₀ H₀ fp).out;(rX hc S (gu hg hm (bv hi pa_nil m7) f6) (λ_ _ _ _=>gJ) he hs).anti λs H Q q=>rZ (λ_ _ _=>cmpP.g) itR q]
def yH[Jx]{E:Ends}{ix:Nat}(hI:ItOk K wi v5)(q:lS K (dSet ix (gI v5 te)) E s H):tAsg (fO wi (lT K dT1) (lE K te)) (fo ix) E s H:=by
 obtain⟨B,F0,F,z,k,rs,ED,⟨P,h,j⟩,e⟩:=q;exact rZ (λ_ _ _=>cmpP.g) hI #[B,F,z,k.kf,rs,P,h,λd v F' H' g hd rd=>e.nx _ _ F' H' (k.grow g) (j d hd) ((rs.grow g).set rd)]
def yI[Jx](ix:Nat){y:A_}{py l6:Ri}(hc:X.calm=true)(S:CompScope X scope x)(hN:X.N.Nodup)(hi:WDE X iter ti)(he:∀cl s₀ H₀ fp,WDE (bP X scope cl x s₀ H₀ fp) f_ te)(KO:autoParam (X.N[ix]?=be y) zA0)(hy:autoParam (Loc X.env.scope y) zA4)
  (hf:autoParam (zFN X y) zA3) (G':autoParam (Rq (.ListComp f_ [#[.Name x px,iter,[],0]] scope pos) (be (.Name y py)) l6.line X.env=pure true) zA0) (hs:autoParam (∀y,zFS X iter y) zA2):WDS X (.Assign [.Name y py] (.ListComp f_ [#[.Name x px,iter,[],0]] scope pos) l6) (dSet ix (gI (dItL ti) te)):=#[have hi:=hi.out;have he:=λcl s₀ H₀ fp=>(he cl s₀ H₀ fp).out;(rY hc S (jw hi) (λ_ _ _ _=>gJ) he hN KO hy hf G' hs).anti λE s H q=>yH itL q]
end
def eA(scope fsc:RA):List (A_×RK):=scope.names.map λ(n,k)=>if(k==NameKind.free&&fsc.kind== .function&&fsc.names.lookup n==be .cell)then(n,NameKind.cell)else(n,k)
def visB(l:List (A_×RK))(n:A_):Bool:=l.lookup n==be .local||l.lookup n==be .cell||l.lookup n==be .free
def cQ(scope fsc:RA)(N:List A_)(x:A_):Bool:=
 scope.kind== .function&&scope.names.all (λy=>!(y.2== .cell))&&scope.names.all (λy=>!(y.2== .local)||scope.names.lookup y.1==be .local)&&scope.names.lookup x==be .local &&
 scope.names.all (λy=>!(y.2== .free)||fsc.names.lookup y.1==be .cell)&&N.all (λn=>decide (n=x)||!visB (eA scope fsc) n||scope.names.any (λy=>decide (y=(n,NameKind.free))))&&!visB (eA scope fsc) "" &&
 scope.names.all (λy=>!(y.2== .free)||(eA scope fsc).lookup y.1==be .cell)&&decide (N.map (λn=>if n=x then("":A_)else n)++[x]).Nodup
def se{l:List (A_×RK)}{n:A_}(h:l.lookup n=be .local\/l.lookup n=be .cell\/l.lookup n=be .free):visB l n=true:=by
 unfold visB;rcases h with h|h|h<;>rw[h]<;>rfl
def compScope{scope:RA}{x:A_}(h:cQ scope X.env.scope X.N x=true):CompScope X scope x:=by
 unfold cQ at h;simp only[Gf]at h;obtain⟨⟨⟨⟨⟨⟨⟨⟨h1,h2⟩,h3⟩,h4⟩,h5⟩,h6⟩,h7⟩,h8⟩,h9⟩:=h;have er:(SS scope X.env).names=eA scope X.env.scope:=rfl;refine#[by simpa using h1,λy hy=>?_,λy hy e=>?_,by simpa using h4,λn hn=>?_,λn hn ne v=>?_,λv=>?_,λn hn=>?_,of_decide_eq_true h9]
 .have:=Gy.mp h2 y hy;simpa using this
 .have:=Gy.mp h3 y hy;rw[e]at this;simpa using this
 .have:=Gy.mp h5 _ hn;show X.env.scope.names.lookup n=be .cell;simpa using this
 .have:=Gy.mp h6 n hn;have v':visB (eA scope X.env.scope) n=true:=se v;rw[v']at this;simp[ne]at this;exact this
 .have v':visB (eA scope X.env.scope) ""=true:=se v;rw[v']at h7;cases h7
 .have:=Gy.mp h8 _ hn;rw[er];simpa using this
def putD(f:A_)(v:D):List (A_×D)->List (A_×D)
 |[]=>[(f,v)]
 |(g,x)::r=>if g=f then(g,v)::r else(g,x)::putD f v r
def RepF.put{K:Ex}{F:Hp}{f:A_}{d:D}{v:V}(r:Rep K F d v):∀{fs:List (A_×D)} {ws:List (A_×V)},RepF K F fs ws->RepF K F (putD f d fs) (putF f v ws)
 |[],ws,h=>by
  rw[repf_nil.mp h];exact repf_cons.mpr #[v,[],rfl,r,repf_nil.mpr rfl]
 |(g,x)::fs,ws,h=>by
  obtain⟨w,JW,rfl,h1,h2⟩:=repf_cons.mp h;unfold putD putF;by_cases e:g=f
  .rw[if_pos e,if_pos e];exact repf_cons.mpr #[v,JW,rfl,r,h2]
  .rw[if_neg e,if_neg e];exact repf_cons.mpr #[w,_,rfl,h1,RepF.put r h2]
def RepF.length{K:Ex}{F:Hp}:∀{fs:List (A_×D)} {ws:List (A_×V)},RepF K F fs ws->ws.length=fs.length
 |[],ws,h=>by rw[repf_nil.mp h];rfl
 |(g,x)::fs,ws,h=>by
  obtain⟨w,JW,rfl,h1,h2⟩:=repf_cons.mp h;rw[FW,FW,RepF.length h2]
def ClsA(K:Ex)(x f:A_):Prop:=∃C,nsIn K Pi x=be (be (.ref C))/\Cls K C/\NoAttr K C f
section
variable {X:Cx}{a b c e:P3}{ta tb tc te:TD}{pos:Ri}
def dFld(x f:A_)(te:TD):TD:=λz R=>te z λd=>match d with|.obj y fs=>y=x/\∃d,fs.lookup f=be d/\R d|_=>False
variable{x:A_}
def eB[Jx]{f:A_}(h:ClsA X.K x f)(he:WDE X e te)(hb:autoParam (Rh e f X.env (Rg e X.env)=Rg e X.env) zA0):WDE X (.Attribute e f pos) (dFld x f te):=⟨have he:=he.out;(ql he hb).anti λs H Q q=>by
 obtain⟨C,hn,hc,hf⟩:=h;obtain⟨B,F,z,kf,rs,R,h1,h2⟩:=q;have fh:=kf.fh;refine#[B,F,z,kf,rs,_,h1,λd u F1 H1 g1 hx rx=>?_];split at hx
 .obtain⟨rfl,d,hl,hR⟩:=hx;obtain⟨a,C',dx,vs,rfl,l9,q,r⟩:=rep_obj.mp rx;rw[hn]at l9;cases l9;obtain⟨v,l,rv⟩:=r.look hl;exact#[a,C,dx,vs,v,rfl,g1.fh _ _ q,hc,hf,l,h2 d v F1 H1 g1 hR rv]
 .exact hx.elim⟩
def sf[Jx]{d:D}{v:V}{u:KB}(hm:X.mg x=be u)(r:RelV v u)(rd:∀H,Rep X.K H d v)(hg:autoParam (Gl X x) zA0)(hd:autoParam (zND x) zA1):DE X (.Name x pos) (dC d):=de_c (vI hg hm r hd) rd
def eE[Jx]{i:Int}(h:∃t,X.mg x=be (.int i t))(hg:autoParam (Gl X x) zA0)(hd:autoParam (zND x) zA1):WDE X (.Name x pos) (dC (.int i)):=⟨by
 obtain⟨t,h⟩:=h;exact sf (v:=.int i) h #[t,rfl] (λ_=>rep_int.mpr rfl) hg hd⟩
def eF[Jx]{y:A_}(h:∃t,X.mg x=be (.str y t))(hg:autoParam (Gl X x) zA0)(hd:autoParam (zND x) zA1):WDE X (.Name x pos) (dC (.str y)):=⟨by
 obtain⟨t,h⟩:=h;exact sf (v:=.str y) h #[t,rfl] (λ_=>rep_str.mpr rfl) hg hd⟩
end
abbrev SiD:=List D->(List (A_×D)->Prop)->Prop
def lSi(K:Ex)(C:KF)(S:SiD):Sp:=λvs H Q _=>∃a dx us H1 F ds,vs=.ref a::us/\H=upd (upd H1 dx (.own a)) a (.ins C dx [])/\H1 a=r_/\H1 dx=r_/\dx≠a/\Same F H1/\Reps K F ds us/\
 ∃R:List (A_×D)->Prop,S ds R/\∀fs ws Jc F' H',Grow F H1 F' H'->R fs->H' a=be (.ins C Jc ws)->F' a=r_->RepF K F' fs ws->Q .non H'
def CalM(P:Q5)(w:Q_)(K:Ex)(mg:A_->Option KB)(base:Rc)(n:Nat)(x:A_)(ps:List A_)(S:SiD):Prop:=
 ∃C f fd,nsIn K Pi x=be (be (.ref C))/\mg x=be (.ref C)/\Mk K C f/\FnOk P w K mg base (Exc.CX1 P w) n f fd ps (lSi K C S)/\Binds K fd ps []
def yJ(x:A_)(S:SiD)(t:TDA):TD:=λz R=>t z λds=>S ds λfs=>R (.obj x fs)
def kh[Jx]{pos:Ri}{n m:Nat}{ps:List A_}{S:SiD}{x:A_}{p:Ri}{e:P3}{es:List P3}{t:TDA}(M:CalM X.prog X.w X.K X.mg X.base n x ps S)(hr:Room m X.A)(ha:WDA X (e::es) t)(hg:autoParam (Gl X x) zA0)(hn:autoParam (n+1<=m) zA1)(d7:autoParam (zND x) zA1)
  (he:autoParam (zSE X e es) zA0) (c_:autoParam (zPL X pos es) zA0):WDE X (.Call (.Name x p) (e::es) [] pos) (yJ x S t):=⟨by
 have ha:=ha.out;obtain⟨C,f,fd,hns,g_,mk,F,hb⟩:=M;refine(gy mk F (hr.mono hn) hg g_ hb .nil fA ha d7 he c_).anti λs H Q q=>?_;obtain⟨B,F,z,kf,rs,R,h1,h2⟩:=q;have fh:=kf.fh;refine#[B,F,z,kf,rs,_,h1,λds vs F1 H1 g1 hx rx=>?_];intro a dx ha m9 m_;refine#[a,dx,vs,H1,F1,ds,by rw[Gn],rfl,ha,m9,m_,g1.fh,rx,_,hx,λfs ws Jc F' H' g hR k8 p9 rf=>#[rfl,?_]];have s1:Same F' (upd F' a (.ins C Jc ws)):=aP p9 _;refine h2 (.obj x fs) (.ref a) (upd F' a (.ins C Jc ws)) H' #[(g1.ff.trans g.ff).trans s1,λb o q=>?_,g1.hh.trans g.hh,λb q1 q2=>?_] hR (rep_obj.mpr #[a,C,Jc,ws,rfl,hns,aG,RepF.mono s1 fs ws rf])
 .by_cases hb:b=a
  .subst hb;rw[aG]at q;cases q;exact k8
  .rw[ay hb]at q;exact g.fh b o q
 .by_cases hb:b=a
  .subst hb;exact absurd (g1.hh.free ha) q2
  .rw[ay hb];exact(g1.trans g).out b q1 q2⟩
abbrev TID:=SD->List (A_×D)->(List (A_×D)->Prop)->Prop
def lI(K:Ex)[J:Jx](x:A_)(t:TID):TS:=λE σ H=>∃C a dx ws F z fs,nsIn K Pi x=be (be (.ref C))/\σ[0]?=be (be (.ref a))/\H a=be (.ins C dx ws)/\J.B a=r_/\F a=r_/\Kept J.B J.F0 F H/\RepS K J.B F H z σ/\RepF K F fs ws/\
 ∃R:List (A_×D)->Prop,t z fs R/\∀o_ JW F' H',Kept J.B J.F0 F' H'->R o_->H' a=be (.ins C dx JW)->F' a=r_->RepF K F' o_ JW->E.nx σ H'
abbrev DI(X:Cx)[Jx](x:A_)(st:List Q6)(t:TID):Prop:=PSs X st (lI X.K x t)
structure WDI(X:Cx)[Jx](x:Str)(st:List Q6)(t:TID):Prop where
 out:DI X x st t
section
variable {X:Cx}{x f:A_}{e:P3}{te:TD}{pos d9 p:Ri}{b7:List Q6}{tr:TID}
def yL:TID:=λ_ fs R=>R fs
def yM(f:A_)(te:TD)(tr:TID):TID:=λz fs R=>te z λd=>fs.length<1000/\tr z (putD f d fs) R
def dI[Jx]:WDI X x [] yL:=⟨pss_nil.anti λE s H q=>by
 obtain⟨C,a,dx,ws,F,z,fs,hn,h0,k8,l7,p9,g,rs,rf,R,hR,k⟩:=q;exact k fs ws F H g hR k8 p9 rf⟩
def RepS.other{K:Ex}{B F H:Hp}{z:SD}{σ:L2.St}{a:KF}{o o':HO}(rs:RepS K B F H z σ)(h:H a=be o)(hl:∀vs,o≠.lst vs):RepS K B F (upd H a o') z σ:=
 ⟨rs.len,rs.val,λi ds e=>by
  obtain⟨b,vs,q1,q2,q⟩:=rs.own i ds e;have ne:b≠a:=by
   rintro rfl;rw[h]at q2;cases q2;exact hl vs rfl
  exact#[b,vs,q1,by rw[ay ne];exact q2,q],rs.apart⟩
def bF[J:Jx]{ps:Ri}{sx:A_}(hA:ClsA X.K x f)(he:WDE X e te)(hr:WDI X x b7 tr)(hN:autoParam (X.N[0]?=be sx) zA0)(hv:autoParam (Vis X.env.scope sx) zA5)(hd:autoParam (zND sx) zA1)
  (gV:autoParam (zNC sx) zA1) (hs:autoParam (Rq e (be (.Attribute (.Name sx ps) f d9)) pos.line X.env=pure false) zA0):WDI X x (.Assign [.Attribute (.Name sx ps) f d9] e pos::b7) (yM f te tr):=⟨have he:=he.out;have hr:=hr.out;(gm (qm (dz (i:=0) hN hv hd gV) he hs) hr).anti λE s H q=>by
 obtain⟨C,a,dx,ws,F,z,fs,hn,h0,k8,l7,p9,g,rs,rf,R,hR,k⟩:=q;obtain⟨C',l9,hc,hf⟩:=hA;rw[hn]at l9;cases l9;refine#[_,F,z,g,rs,_,hR,λd v F2 H2 g2 hx rv=>?_];have k2:=g.grow g2;have Og:=g2.hh a _ k8;have I_:F2 a=none:=g2.out a p9 (by rw[k8];exact λz=>nomatch z);refine#[.ref a,h0,a,C,dx,ws,rfl,Og,hc,hf,by rw[rf.length];exact hx.1,?_];have PB:Same F2 (upd H2 a (.ins C dx (putF f v ws))):=λb o q=>by
  have ne:b≠a:=by rintro rfl;rw[I_]at q;cases q
  rw[ay ne];exact g2.fh b o q
 have z6:Same J.B (upd H2 a (.ins C dx (putF f v ws))):=λb o q=>by
  have ne:b≠a:=by rintro rfl;rw[l7]at q;cases q
  rw[ay ne];exact k2.bh b o q
 exact#[C,a,dx,putF f v ws,F2,z,putD f d fs,hn,h0,aG,l7,I_,#[z6,PB,k2.f0,k2.out,k2.eb,k2.jf,k2.jo],(rs.grow g2).other Og (λ_ z=>nomatch z),RepF.put rv (RepF.mono g2.ff fs ws rf),R,hx.2,k]⟩
end
section
variable {P:Q5}{w:Q_}{K:Ex}{mg:A_->Option KB}{base:Rc}
def yO{K:Ex}{B F H:Hp}{z:SD}{σ:L2.St}{v:V}(rs:RepS K B F H z σ):RepS K B F H (r_::z) (be v::σ):=
  ⟨by rw[FW,FW,rs.len],λi d e no=>by
    cases i with
    |zero=>cases e
    |succ i=>exact rs.val i d e no,λi ds e=>by
    cases i with
    |zero=>cases e
    |succ i=>exact rs.own i ds e,λi j di dj a e1 e2 e3 e4=>by
    cases i with
    |zero=>cases e1
    |succ i=>
      cases j with
      |zero=>cases e2
      |succ j=>rw[rs.apart i j di dj a e1 e2 e3 e4]⟩
def Cls.okI{x qual:A_}{st:Q6}{f C:KF}{fd:Rf}{N:List A_}{p0:A_}{ps:List A_}{k:Nat}{S:SiD}(T:Fun K "__init__" qual st f fd)(hb:Binds K fd (p0::ps) [])(F:FnScope (p0::N) (p0::ps) (ah st))(len:∀ds R,S ds R->ds.length=ps.length)
  (hns:nsIn K Pi x=be (be (.ref C))) (g_:mg x=be (.ref C)) (mk:Mk K C f)
  (a9:∀(cdv:KB) (A:Ra) (outer:List RQ) (s:KM) (H:Hp) (E:XK) (J:Jx),Room k (A.deeper (Rk qual (ah st) s.heap.objs.size f cdv))->
   ∃t,DI (cxOf (Exc.CX1 P w) P w K mg base (p0::N) qual (ah st) f cdv A outer s H E).nox x (aL st) t/\∀ds R,S ds R->t (r_::startD N ds) [] R):CalM P w K mg base (k+1) x (p0::ps) S:=by
 refine#[C,f,fd,hns,g_,mk,Fun.okC T F (λvs H Q E h=>?_) (λcdv A outer s H vs Q E hr h=>?_),hb]
 .obtain⟨a,dx,us,H1,F,ds,rfl,_,_,_,_,_,rs,R,h,_⟩:=h;rw[FW,FW,rs.length,len ds R h]
 .obtain⟨a,dx,us,H1,F1,ds,rfl,rfl,ha,m9,m_,fh,rs,R,h,q⟩:=h
  letI:Jx:=#[H1,F1,λ_ _ _=>False]
  obtain⟨t,ht,hq⟩:=a9 cdv A outer s _ E inferInstance hr;have Fa:F1 a=none:=fh.free ha;have hl:L2.start (p0::N) (.ref a::us)=be (.ref a)::L2.start N us:=by
   unfold L2.start;rw[Gc,FW,FW,Nat.add_sub_add_right];rfl
  have s1:Same H1 (upd (upd H1 dx (.own a)) a (.ins C dx [])):=(aP m9 _).trans (aP (by rw[ay (Ne.symm m_)];exact ha) _);refine#[_,ht.nox,C,a,dx,[],F1,r_::startD N ds,[],hns,by rw[hl];rfl,aG,ha,Fa,#[s1,fh.trans s1,Same.refl F1,λ_ h _=>h,rfl,Same.refl F1,λ_ h _=>h],?_,repf_nil.mpr rfl,R,hq ds R h,λo_ JW F' H' g hR k8 p9 rf=>q o_ JW dx F' H' #[g.f0,g.fh,g.bh,g.out] hR k8 p9 rf];rw[hl];exact yO (dD rs)
end
section
variable {X:Cx}{a b c e:P3}{ta tb tc te:TD}{pos:Ri}
def yQ(t u:TD):TDI:=λz R=>t z λx=>u z λy=>match x,y with|.int i,.int j=>(-(2^62)<=i/\i<2^62/\-(2^62)<=j/\j<2^62)/\R ((FN (j-i).toNat).map λk=>D.int (i+((k:Nat):Int)))|_,_=>False
def yR[Jx](i:Nat){x:A_}{p p1 p2:Ri}{body:List Q6}{Oh:TSD}(hp:Rr (Q8 X.prog X.w) X.A X.env X.xe)(hc:X.calm=true)(hN:X.N.Nodup)(hm:X.mg "range"=r_)(ha:WDE X a ta)(i_:WDE X b tb)(hb:WDSs X body Oh)(hg:autoParam (Gl X "range") zA0)(hi:autoParam (X.N[i]?=be x) zA0)(hx:autoParam (Loc X.env.scope x) zA4)
  (hf:autoParam (zFN X x) zA3) (hs:autoParam (∀y,zFS X (.Call (.Name "range" p1) [a,b] [] p2) y) zA2) (m7:autoParam (zSE X a [b]) zA0) (Mq:autoParam (zSE X b []) zA0) (f6:autoParam (Re [a,b] X.env=[(false,Rg a X.env),(false,Rg b X.env)]) zA0) (Mr:autoParam (Re [b] X.env=[(false,Rg b X.env)]) zA0):WDS X (.For (.Name x p) (.Call (.Name "range" p1) [a,b] [] p2) body [] pos) (dFor i (yQ ta tb) Oh):=⟨have ha:=ha.out;have i_:=i_.out;have hb:=hb.out;(cE hp hc (wg hg hm (bv ha (bv i_ pa_nil Mq) m7) f6 Mr) (dB hN hi hx hf) hb hs).anti λE s H q=>by
 obtain⟨B,F0,F,z,kp,rs,ED,h,e⟩:=q;refine#[B,F,z,kp.kf,rs,_,h,λd1 v1 F1 H1 g1 h1 r1=>?_];refine#[B,F1,z,kp.kf.grow g1,rs.grow g1,_,h1,λd2 v2 F2 H2 g2 h2 r2=>?_];split at h2
 .rename_i lo v7;obtain⟨bd,W,w0,c8,out⟩:=h2;have hl:((FN (v7-lo).toNat).map λk=>D.int (lo+((k:Nat):Int))).length=(v7-lo).toNat:=by simp
  refine#[lo,v7,by rw[rep_int.mp r1,rep_int.mp r2],bd,jy (lo:=lo) (n:=(v7-lo).toNat) (λk s' H'=>∃F' z',Kept B F0 F' H'/\RepS X.K B F' H' z' s'/\W k z') #[F2,z,(kp.grow g1).grow g2,(rs.grow g1).grow g2,w0] ?_ ?_]
  .rintro k s' H' hk⟨F',z',k',r',w'⟩;exact#[B,F0,F',_,k',r'.set (d:=.int (lo+(k:Int))) (rep_int.mpr rfl),_,c8 k (.int (lo+(k:Int))) z' (by simp[hk]) w',#[λz3 s3 F3 H3 k3 h3 r3=>#[F3,z3,k3,r3,h3],e.rt,e.nx,λz3 s3 F3 H3 k3 h3 r3=>#[F3,z3,k3,r3,h3]]]
  .rintro s' H'⟨F',z',k',r',w'⟩;exact e.nx z' s' F' H' k' (out z' (by rw[hl];exact w')) r'
 .exact h2.elim⟩
def RepS.change[Jx]{K:Ex}{B F0 F H:Hp}{z:SD}{s:L2.St}{i:Nat}{ds Ms:List D}{a:KF}{o7:List V}(rs:RepS K B F H z s)(k:Kept B F0 F H)(ez:z[i]?=be (be (.own ds)))(q1:s[i]?=be (be (.ref a)))(hB:B a=r_)(hF:F a=r_)(r:Reps K F Ms o7):
  Kept B F0 F (upd H a (.lst o7))/\RepS K B F (upd H a (.lst o7)) (z.set i (be (.own Ms))) s:=by
 have same:∀{G:Hp},G a=r_->Same G H->Same G (upd H a (.lst o7)):=λ{G} ga gs b o eb=>by
  have ne:b≠a:=λz=>by rw[z,ga]at eb;cases eb
  rw[ay ne];exact gs b o eb
 have r2:=rs.setOwn (i:=i) (a:=a) (vs:=o7) (ds:=Ms) hB hF r (λj dj hj e1 e2=>hj (rs.apart j i dj ds a e1 ez e2 q1));have es:s.set i (be (.ref a))=s:=by
  apply GI;intro n;by_cases hn:i=n
  .subst hn;rw[Gu (FU.mp q1).1,q1]
  .rw[F4 hn]
 rw[es]at r2;exact#[#[same hB k.bh,same hF k.fh,k.f0,k.out,k.eb,k.jf,k.jo],r2]
def Reps.put{K:Ex}{F:Hp}{d:D}{v:V}(r:Rep K F d v):∀{ds:List D} {vs:List V} (j:Nat),Reps K F ds vs->Reps K F (ds.set j d) (vs.set j v)
 |[],vs,j,h=>by rw[reps_nil.mp h];exact reps_nil.mpr rfl
 |x::ds,vs,0,h=>by
  obtain⟨u,us,rfl,h1,h2⟩:=reps_cons.mp h;exact reps_cons.mpr #[v,us,rfl,r,h2]
 |x::ds,vs,j+1,h=>by
  obtain⟨u,us,rfl,h1,h2⟩:=reps_cons.mp h;exact reps_cons.mpr #[u,_,rfl,h1,Reps.put r j h2]
def si(i:Nat)(te ti:TD):TSD:=λE z=>match z[i]? with
 |some (be (.own ds))=>te z λd=>ti z λy=>match y with|.int k=>∃j,ixN ds.length k=be j/\E.nx (z.set i (be (.own (ds.set j d))))|_=>False
 |_=>False
def yT[Jx](i:Nat){x:A_}{p1 p2:Ri}(he:WDE X e te)(hb:WDE X b tb)(hN:autoParam (X.N[i]?=be x) zA0)(hv:autoParam (Vis X.env.scope x) zA5)(hd:autoParam (zND x) zA1)
  (gV:autoParam (zNC x) zA1)
  (ha:∀v,RD (.Subscript (.Name x p1) b p2) X.env v=(do
   let ov <-Ru [v] (Rg (.Name x p1) X.env)
   let iv <-Ru [v,ov] (Rg b X.env)
   RO p2
   Ru [v,ov,iv] (Sh ov iv v)
   Sy [v,ov,iv] []):=by intro _;rfl)
  (hs:autoParam (Rw [.Subscript (.Name x p1) b p2] e pos.line X.env=pure false) zA0) (hw:autoParam (Rx [.Subscript (.Name x p1) b p2] e X.env=pure none) zA0)
  (h1:autoParam ((Rb [.Subscript (.Name x p1) b p2] X.env).map (·.2)=[RD (.Subscript (.Name x p1) b p2) X.env]) zA0):WDS X (.Assign [.Subscript (.Name x p1) b p2] e pos) (si i te tb):=⟨have he:=he.out;have hb:=hb.out;(fq he (pS (dz hN hv hd gV) hb jI ha) hs hw h1).anti λE s H q=>by
 obtain⟨B,F0,F,z,k,rs,ED,h,e⟩:=q;unfold si at h;split at h
 .rename_i ds ez;refine#[B,F,z,k.kf,rs,_,h,λd v F1 H1 g1 hx rv=>?_];obtain⟨a,vs,q1,q2,q3,q4,q5⟩:=(rs.grow g1).own i ds ez;refine#[.ref a,q1,B,F1,z,k.kf.grow g1,rs.grow g1,_,hx,λy w F2 H2 g2 hy ry=>?_];split at hy
  .obtain⟨j,ej,hn⟩:=hy;have r2:=(rs.grow g1).grow g2;have k2:=(k.grow g1).grow g2;have I_:F2 a=none:=g2.out a q4 (by rw[q2];exact λz=>nomatch z);refine#[a,vs,_,j,rfl,rep_int.mp ry,g2.hh _ _ q2,by rw[q5.length];exact ej,?_];obtain⟨k3,r3⟩:=r2.change k2 ez q1 q3 I_ (Reps.put (rv.mono g2.ff) j (q5.mono g2.ff));exact e.nx _ s F2 _ k3 hn r3
  .exact hy.elim
 .exact h.elim⟩
end
end My
namespace My
open Exc
abbrev XD:=A_->List (A_×D)->Prop
def ErrD(K:Ex)(F:Hp)(x:A_)(fs:List (A_×D))(C:KF)(od:Option KF):Prop:=
 nsIn K Pi x=be (be (.ref C))/\∃vs,RepF K F fs vs/\((od=r_/\vs=[])\/∃b,od=be b/\F b=be (.xd vs))
abbrev SpX:=List D->(D->Prop)->XD->Prop
def lSpX(K:Ex)(S:SpX):Sp:=λvs H Q E=>∃F ds,Same F H/\Reps K F ds vs/\∃(R:D->Prop) (RX:XD),S ds R RX/\(∀d v F' H',Grow F H F' H'->R d->Rep K F' d v->Q v H')/\
 ∀x fs C od F' H',Grow F H F' H'->RX x fs->ErrD K F' x fs C od->E (.ref C) od H'
def Exd(X:Cx)(H:Hp)(s:KM)(e C:KF)(od:Option KF):Prop:=
  H e=r_/\X.s₀.heap.get? e=r_/\(∀p∈X.pn,p.1≠e)/\
  ((∃sl vs,s.heap.get? e=be #[.ref C,od,.fields vs,sl]/\vs[1]?=be .none)\/
    ∃T,ExAt s.heap e C od T .none/\X.s₀.heap.get? T=r_/\H T=r_/\∀p∈X.pn,p.1≠T)
def XOk(X:Cx)[J:Jx]:Prop:=∀(σ:L2.St) (z:SD) (F H:Hp) (s:KM) (e C:KF) (od:Option KF) (x:A_) (fs:List (A_×D)),Inv X [] σ H s->Kept J.B J.F0 F H->RepS X.K J.B F H z σ->J.RX z x fs->ErrD X.K F x fs C od->Exd X H s e C od->X.xe (.ref e) s
variable{X:Cx}{pins:List (KF×Ro)}{σ:L2.St}{H:Hp}{s:KM}
def Inv.nopins(I:Inv X pins σ H s):Inv X [] σ H s:=I.pins_of λp hp=>by cases hp
section
variable {X:Cx}{k:Nat}{f:KF}{fd:Rf}{ps:List A_}{sp:Sp}{E:XK}
def gK{pins:List (KF×Ro)}{σ:L2.St}{H:Hp}{s:KM}{Q:VK}{us:List KB}{vs:List V}(F:FnOk X.prog X.w X.K X.mg X.base (CX1 X.prog X.w) k f fd ps sp)(hr:Room k X.A)(hb:Binds X.K fd ps [])
  (hx:∀e s',CX1 X.prog X.w X.stack H s E e s'->X.xe e s') (I:Inv X pins σ H s) (r:Vals vs us) (h:sp vs H Q E):Q7 (Q8 X.prog X.w) X.A (call (.ref f) us) (EP X pins σ Q) X.xe s:=by
 have hl:us.length=ps.length:=by rw[<-L2.Vals.length r];exact F.len _ _ _ _ h
 have i_:=hb s us I.kIn (by rw[Gn];exact hl);rw[Gn]at i_;refine Sk (RP (F.run X.A X.stack s H #[us,[]] us vs Q E hr I.env0 i_ r h) λr s' hq=>?_);cases r with
 |error e=>exact hx e s' hq
 |ok fl=>
  cases fl with
  |ret u=>exact I.after hq
  |next=>exact False.elim hq
  |brk=>exact False.elim hq
  |cont=>exact False.elim hq
end
def cR{b:KF}(I:Inv X pins σ H s)(f9:X.ex=[])(q:s.heap.get? b=r_):X.s₀.heap.get? b=none:=by
 cases z:X.s₀.heap.get? b with
 |none=>rfl
 |some o=>
  obtain⟨o',z'⟩:=I.base.there b o z (by rw[f9];simp);rw[q]at z';cases z'
def pn_free{b:KF}(I:Inv X pins σ H s)(q:s.heap.get? b=r_):∀p∈X.pn,p.1≠b:=λp hp z=>by
 have:=(I.pin p (GN _ hp)).1;rw[z,q]at this;cases this
def XOk.out[J:Jx](hx:XOk X)(f9:X.ex=[]){z:SD}{s':KM}{ev:KB}(I:Inv X pins σ H s)
  (h:CX1 X.prog X.w X.stack H s (λCv od H'=>∃x fs C F',Cv=.ref C/\Kept J.B J.F0 F' H'/\RepS X.K J.B F' H' z σ/\J.RX z x fs/\ErrD X.K F' x fs C od) ev s'):X.xe ev s':=by
 obtain⟨e,C,od,T,H',rfl,D',hb,un,hok,Mt,ne,nT,He,HT,x,fs,C',F',hC,kk,rr,hR,er⟩:=h;cases hC;have I':Inv X pins σ H' s':=I.call' D' un hok hb (λb z=>absurd z JU);exact hx σ z F' H' s' e C od x fs (Inv.nopins I') kk rr hR er #[He,cR I f9 ne,pn_free I ne,.inr #[T,Mt,cR I f9 nT,HT,pn_free I nT]]
abbrev CalX(P:Q5)(w:Q_)(K:Ex)(mg:A_->Option KB)(base:Rc)(n:Nat)(x:A_)(ps:List A_)(S:SpX):Prop:=Cal P w K mg base n x ps (lSpX K S)
def yU[J:Jx](S:SpX)(t:TDA):TD:=λz R=>t z λds=>S ds R (J.RX z)
variable{ps:List A_}{x:A_}
def sj[J:Jx]{pos:Ri}{n m:Nat}{S:SpX}{p:Ri}{e:P3}{es:List P3}{t:TDA}(C:CalX X.prog X.w X.K X.mg X.base n x ps S)(hx:XOk X)(hr:Room m X.A)(ha:WDA X (e::es) t)(f9:autoParam (X.ex=[]) zA0)(hg:autoParam (Gl X x) zA0)(hn:autoParam (n<=m) zA1)(d7:autoParam (zND x) zA1)
  (he:autoParam (zSE X e es) zA0) (c_:autoParam (zPL X pos es) zA0):WDE X (.Call (.Name x p) (e::es) [] pos) (yU S t):=⟨by
 have ha:=ha.out;obtain⟨f,fd,F,hb,hk,hm⟩:=C;intro pins s σ H Q I h;obtain⟨B,Fr,z,kf,rs,R,h1,h2⟩:=h;obtain rfl:B=J.B:=kf.eb;refine Rl (cN I hg hm ?_ d7);refine callWith_K (h₀:=X.base) I.ok.mod.kin hk (thn (ha pos pins s σ H (λvs H1=>lSpX X.K S vs H1 Q (λCv od H'=>∃x fs C F',Cv=.ref C/\Kept J.B J.F0 F' H'/\RepS X.K J.B F' H' z σ/\J.RX z x fs/\ErrD X.K F' x fs C od)) I #[_,Fr,z,kf,rs,_,h1,λds vs F1 H1 g1 hx rx=>?_]) λus s1 ⟨vs,H1,I1,r,q⟩=>#[I1.kIn,?_]) he c_
 .exact#[F1,ds,g1.fh,rx,R,J.RX z,hx,λd v F' H' g=>h2 d v F' H' (g1.trans g),λx fs C od F' H' g hR er=>#[x,fs,C,F',rfl,(kf.grow g1).grow g,(rs.grow g1).grow g,hR,er]]
 .exact gK F (hr.mono hn) hb (λe s' hq=>hx.out f9 I1 hq) I1 r q⟩
section
variable {P:Q5}{w:Q_}{K:Ex}{mg:A_->Option KB}{base:Rc}
variable{N:List A_}
def ki{qual:A_}{scope:RA}{f:KF}{cd:KB}{A:Ra}{outer:List RQ}{s:KM}{H:Hp}{E':XK}{pins:List (KF×Ro)}{σ:L2.St}{H':Hp}{s':KM}{e C T:KF}{od:Option KF}
  (I':Inv (cxOf (CX1 P w) P w K mg base N qual scope f cd A outer s H E') pins σ H' s') (hx:ExAt s'.heap e C od T .none) (ne:s.heap.get? e=r_) (nT:s.heap.get? T=r_) (He:H' e=r_) (HT:H' T=r_) (hE:E' (.ref C) od H'):
  (cxOf (CX1 P w) P w K mg base N qual scope f cd A outer s H E').xe (.ref e) s':=by
 show Q7 _ _ (Sz _ _) _ _ _;unfold Sz;refine Os (qN I'.ok.frames I'.stack rfl hx λh2 T2 ox v4 p6=>flight_none (s:={s' with heap:=h2}) ox λh3 KI y9=>?_);have F_:s'.heap.get? T2=none:=Heap.get?_none_of_le v4;have f1:∀b,s'.heap.get? b=r_->s.heap.get? b=none:=λb q=>cR I' rfl q;have hok:HOk P w H' s'.heap:=I'.hok;have Jt:H' T2=none:=hok.fresh v4;have PC:∀b∈[T,e],s.heap.get? b=none:=λb hb=>by
  rcases FL.mp hb with z|z
  .rw[z];exact nT
  .rw[FJ.mp z];exact ne
 have u2:Un (frs outer) [] H H' s.heap h2:=gz (show Un (frs outer) [] H H' s.heap s'.heap from I'.base) p6 PC λb hb=>qO hb;have u3:Un (frs outer) [] H H' s.heap h3:=gz u2 y9 (λb hb=>by rw[FJ.mp hb];exact f1 T2 F_) λb hb=>by cases hb
 have k2:=fz hok p6 (λb hb=>I'.stkFree b hb) (λb hb=>by
  rcases FL.mp hb with z|z
  .rw[z];exact HT
  .rw[FJ.mp z];exact He)
 have k3:=fz k2 y9 (λb hb=>by cases hb) (λb hb=>by rw[FJ.mp hb];exact Jt);exact#[e,C,od,T2,H',rfl,I'.os,I'.bare,u3,k3,KI,ne,f1 T2 F_,He,Jt,hE]
variable{ps:List A_}
def _root_.L2.Fun.okX{x:A_}{st:Q6}{f:KF}{fd:Rf}{k:Nat}{S:SpX}(T:Fun K x x st f fd)(F:FnScope N ps (ah st))(len:∀ds R RX,S ds R RX->ds.length=ps.length)
  (a9:∀(cdv:KB) (A:Ra) (outer:List RQ) (s:KM) (H:Hp) (E:XK) (J:Jx),Room k (A.deeper (Rk x (ah st) s.heap.objs.size f cdv))->XOk (cxOf (CX1 P w) P w K mg base N x (ah st) f cdv A outer s H E)->
   ∃t,DSs (cxOf (CX1 P w) P w K mg base N x (ah st) f cdv A outer s H E) (aL st) t/\∀ds R RX,(∀z,J.RX z=RX)->S ds R RX->t {nx:=λ_=>R .non,rt:=R} (startD N ds)):FnOk P w K mg base (CX1 P w) (k+1) f fd ps (lSpX K S):=by
 refine Fun.okC T F (λvs H Q E h=>?_) (λcdv A outer s H vs Q E hr h=>?_)
 .obtain⟨F,ds,fh,rs,R,RX,h,_⟩:=h;rw[rs.length];exact len ds R RX h
 .obtain⟨F,ds,fh,rs,R,RX,h,q,qx⟩:=h
  letI:Jx:=#[H,F,λ_=>RX]
  have hx:XOk (cxOf (CX1 P w) P w K mg base N x (ah st) f cdv A outer s H E):=by
   intro σ z F' H' s' e C od y fs I kk rr hR er ⟨He,ne,_,hx⟩;have hE:E (.ref C) od H':=qx y fs C od F' H' #[kk.f0,kk.fh,kk.bh,kk.out] hR er;rcases hx with⟨sl,vs,h1,h2⟩|⟨T,h1,h2,h3,_⟩
   .exact jP I h1 h2 He ne hE
   .exact ki I h1 ne h2 He h3 hE
  obtain⟨t,ht,hq⟩:=a9 cdv A outer s H E inferInstance hr hx;refine#[_,ht,H,F,F,startD N ds,#[Same.refl H,fh,Same.refl F,λ_ h _=>h,rfl,Same.refl F,λ_ h _=>h],dD rs,_,hq ds R RX (λ_=>rfl) h,#[λz' s' F' H' k hn _=>q _ _ F' H' #[k.f0,k.fh,k.bh,k.out] hn (rep_non.mpr rfl),λd v F' H' k hd rd=>q d v F' H' #[k.f0,k.fh,k.bh,k.out] hd rd,λ_ _ _ _ _ h _=>h.elim,λ_ _ _ _ _ h _=>h.elim]]
def Tx.okX{x:A_}{st:Q6}{k:Nat}{S:SpX}(T:Tx K mg x st ps)(F:FnScope N ps (ah st))(len:∀ds R RX,S ds R RX->ds.length=ps.length)
  (a9:∀(f:KF) (cdv:KB) (A:Ra) (outer:List RQ) (s:KM) (H:Hp) (E:XK) (J:Jx),Room k (A.deeper (Rk x (ah st) s.heap.objs.size f cdv))->XOk (cxOf (CX1 P w) P w K mg base N x (ah st) f cdv A outer s H E)->
   ∃t,DSs (cxOf (CX1 P w) P w K mg base N x (ah st) f cdv A outer s H E) (aL st) t/\∀ds R RX,(∀z,J.RX z=RX)->S ds R RX->t {nx:=λ_=>R .non,rt:=R} (startD N ds)):CalX P w K mg base (k+1) x ps S:=by
 obtain⟨f,fd,T,hb,hm⟩:=T;exact#[f,fd,T.okX F len λcdv A outer s H E J hr hx=>a9 f cdv A outer s H E J hr hx,hb,T.kp,hm]
end
variable{P:Q5}{w:Q_}{a:KF}
def ObjOk.there{h:Rc}{o:HO}(x:ObjOk P w H h a o):∃u,h.get? a=be u:=by
 cases o with
 |lst xs=>obtain⟨_,_,_,_,e⟩:=x;exact#[_,e]
 |tup xs=>obtain⟨_,_,_,o,e,_⟩:=x;exact#[_,e]
 |dK a8=>obtain⟨_,_,_,_,o,_,_,e,_⟩:=x;exact#[_,e]
 |dT a8=>obtain⟨_,_,_,_,o,_,_,e,_⟩:=x;exact#[_,e]
 |set S n=>obtain⟨o,_,_,_,e,_⟩:=x;exact#[_,e]
 |ins C dx fs=>obtain⟨_,_,_,e,_⟩:=x;exact#[_,e]
 |own y=>exact x
 |xd fs=>obtain⟨_,⟨_,_,_,e,_⟩,_⟩:=x;exact#[_,e]
 |rng lo hi=>obtain⟨_,_,_,e⟩:=x;exact#[_,e]
 |frz ob u=>obtain⟨e,_⟩:=x;exact#[_,e]
 |tbl ps=>exact#[_,(show h.get? a=be _ from x)]
 |met f y=>exact#[_,(show h.get? a=be _ from x)]
 |ext φ=>obtain⟨_,e,_⟩:=x;exact e
def kj{h:Rc}(x:HOk P w H h)(e:h.get? a=r_):H a=none:=by
 cases q:H a with
 |none=>rfl
 |some o=>
  obtain⟨u,hu⟩:=ObjOk.there (x a o q);rw[e]at hu;cases hu
structure ErrK(K:Ex)(mg:Str->Option KB)(x:Str)(C N:KF)(bm:List KB):Prop where
 ns:nsIn K Pi x=be (be (.ref C))
 mg:mg x=be (.ref C)
 kp:keepIn K (.ref C)=true
 obj:∃nm q bs sn sub ab col dd k0 k1 k2 k3 k5,K.lookup C=be (RF nm q C N bs bm true sn sub ab col dd k0 k1 k2 k3 k5 "ValueError.__new__")
 tail:tailIn K veLine bm=true
structure ErrN(K:Ex)(N:KF):Prop where
 ok:nsOkIn K N=true
 no:nsIn K N "__init__"=be r_
def sk{K:Ex}:∀{l:List KB},tailIn K veLine l=true->aZ l=true
 |[],e=>by simp[tailIn,veLine]at e
 |v::r,e=>by
  unfold tailIn at e;rcases Bool.or_eq_true_iff.mp e with q|q
  .rw[beq_iff_eq.mp q];decide+kernel
  .split at q
   .split at q
    .simp only[Gf,beq_iff_eq]at q;unfold aZ;exact sk q.2
    .cases q
   .cases q
variable{K:Ex}{mg:A_->Option KB}{C N:KF}{bm:List KB}
def ErrK.base(k:ErrK K mg x C N bm):bm.contains (.type "BaseException")=true:=qK JT (sk k.tail)
section
variable {X:Cx}[J:Jx]{x:A_}{C N:KF}{bm:List KB}{e:P3}{es:List P3}{t:TDA}{p a_ pos:Ri}
def yV(x:A_)(t:TDA):TSD:=λ_ z=>t z λds=>ds.length<=1000/\J.RX z x []
def yY(h:∃C N bm,ErrK X.K X.mg x C N bm/\ErrN X.K N)(hx:XOk X)(hc:X.calm=true)(ha:WDA X (e::es) t)(f9:autoParam (X.ex=[]) zA0)(hg:autoParam (Gl X x) zA0)(d7:autoParam (zND x) zA1)
  (he:autoParam (zSE X e es) zA0) (c_:autoParam (zPL X a_ es) zA0):WDS X (.Raise (be (.Call (.Name x p) (e::es) [] a_)) r_ pos) (yV x t):=⟨by
 have ha:=ha.out;obtain⟨C,N,bm,k,kn⟩:=h;intro pins s σ H D I h;obtain⟨B,F0,F,z,kf,rs,ED,h,ee⟩:=h;obtain rfl:B=J.B:=kf.eb;obtain⟨nm,q,bs,sn,sub,ab,col,dd,k0,k1,k2,k3,k5,lk⟩:=k.obj;refine qL (nm:=nm) (q:=q) (C:=C) (N:=N) (bs:=bs) (bm:=bm) (hdct:=true) (sn:=sn) (sub:=sub) (ab:=ab) (col:=col) (dd:=dd) (k0:=k0) (k1:=k1) (k2:=k2) (k3:=k3) (k5:=k5) (newId:="ValueError.__new__") k.base (I.ok.hd hc) ?_;refine Rl (cN I hg k.mg ?_ d7);refine callWith_K (h₀:=X.base) I.ok.mod.kin k.kp (thn (ha a_ pins s σ H (λvs H1=>∃F1,vs.length<=1000/\Grow F H F1 H1/\J.RX z x []) I #[_,F,z,kf.kf,rs,_,h,λds vs F1 H1 g1 hx rx=>#[F1,by rw[rx.length];exact hx.1,g1,hx.2]]) λus s1 hh=>#[hh.elim λ_ h=>h.elim λ_ h=>h.1.kIn,?_]) he c_;obtain⟨vs,H1,I1,r,F1,hl,g1,hR⟩:=hh;have hC:=I1.kIn _ _ lk;obtain⟨hp,gg,dr,tk,os⟩:=s1;refine SJ PySem.F.excBase_ValueError (tail_of_in I1.kIn k.tail) hC (.of_isNs (isNs_of_in I1.kIn kn.ok)) (nsMap_none_of_in I1.kIn kn.ok kn.no) (λh' ea hm=>?_) (by show us.length<=_;rw[<-L2.Vals.length r];exact sz hl);obtain⟨ta,h1,h2,h3⟩:=hm.there;have I2:Inv X pins σ H1 #[h',gg,dr,tk,os]:=I1.kept (t':=tk) hm.keeps;refine#[ea,ta,r_,[].toArray,rfl,hm.keeps _ _ hC,h1,?_];exact hx σ z F1 H1 _ ea C r_ x [] (Inv.nopins I2) (kf.kf.grow g1) (rs.grow g1) hR #[k.ns,[],repf_nil.mpr rfl,.inl #[rfl,rfl]] #[kj I1.hok hm.new,cR I1 f9 hm.new,pn_free I1 hm.new,.inl #[[].toArray,_,h1,rfl]]⟩
end
def yZ{o:HO}(h:H a=be o):upd H a o=H:=by
 funext b;unfold upd;by_cases q:b=a
 .rw[if_pos q,q,h]
 .rw[if_neg q]
section
variable {M:SX}{A:Ra}{E:KB->KM->Prop}{h:Rc}{g:Array GenState}{d:Drawn}{t:Nat}{os:OsState}
variable {nm q:A_}{C N:KF}{bs bm:List KB}{hdct:Bool}{sn:List A_}{sub:List KB}{ab:Bool}{col:Option Bool}{dd:Option KF}{k0 k1 k2 k3 k5:Option KB}{newId:String}
variable {Oi q':A_}{C' N':KF}{Oj KP:List KB}{KQ:Bool}{Ol:List A_}{KR:List KB}{Om:Bool}{KS:Option Bool}{LG:Option KF}{On Oo Op Oq Ot:Option KB}{JX:String}
def za{e:KF}{oe:Ro}{b:Bool}{Q:Bool->KM->Prop}(hC:h.get? C=be (RF nm q C N bs bm hdct sn sub ab col dd k0 k1 k2 k3 k5 newId))(hD:h.get? C'=be (RF Oi q' C' N' Oj KP KQ Ol KR Om KS LG On Oo Op Oq Ot JX))
  (he:h.get? e=be oe) (JK:oe.cls=.ref C) (c5:KP.contains (.type "BaseException")=true) (hb:(Value.ref C::bm).contains (.ref C')=b) (hq:Q b #[h,g,d,t,os]):Q7 M A (excMatches (.ref e) (.ref C')) Q E #[h,g,d,t,os]:=by
 have Md:(Value.ref C'::KP).contains (.type "BaseException")=true:=by rw[HB,c5,Hn]
 have f:=tc_notTuple;unfold excMatches
 repeat(first|(with_reducible refine RT he ?_;rw[JK])|with_reducible refine RT hD ?_|(with_reducible refine R8 hD ?_;rw[Md])|(with_reducible refine R8 hC ?_;rw[hb])|wp_step)
 cases b with
 |true=>wp_walk;exact hq
 |false=>wp_walk;exact hq
end
abbrev _root_.L2.Cx.held(X:Cx)(e:KF):Cx:={X with A:=X.A.mark (be (.ref e)),calm:=false,xe:=λ_ _=>False}
section
variable {X:Cx}{pins:List (KF×Ro)}{σ:L2.St}{H:Hp}{s:KM}{e:KF}
def Cx.Ok.held(ok:X.Ok):(X.held e).Ok:=
 #[ok.mod,ok.kind,ok.glob,ok.blt,ok.above,ok.inj,ok.has,ok.cab,(λz=>nomatch z),ok.frames,ok.stk,ok.exf,ok.bs,ok.bsz,ok.noex,ok.exfs,ok.funs,ok.frf]
def Inv.held(I:Inv X pins σ H s):Inv (X.held e) pins σ H s:=#[Cx.Ok.held I.ok,I.os,I.bare,I.base,I.loc,I.cell,I.free,I.freeC,I.pin,I.hok,I.len]
def Inv.unheld(ok:X.Ok)(I:Inv (X.held e) pins σ H s):Inv X pins σ H s:=#[ok,I.os,I.bare,I.base,I.loc,I.cell,I.free,I.freeC,I.pin,I.hok,I.len]
def SP.unheld{D:Ends}{f:Flow}{s':KM}(ok:X.Ok)(h:SP (X.held e) pins D f s'):SP X pins D f s':=by
 cases f with
 |next=>obtain⟨σ',H',I,q⟩:=h;exact#[σ',H',Inv.unheld ok I,q]
 |brk=>obtain⟨σ',H',I,q⟩:=h;exact#[σ',H',Inv.unheld ok I,q]
 |cont=>obtain⟨σ',H',I,q⟩:=h;exact#[σ',H',Inv.unheld ok I,q]
 |ret u=>obtain⟨v,σ',H',I,r,q⟩:=h;exact#[v,σ',H',Inv.unheld ok I,r,q]
def Inv.stay{h':Rc}{o_ ex:List KF}(I:Inv X pins σ H s)(st:Stay o_ ex s.heap h')(Lz:∀b∈o_,b∈frs X.stack)(hH:∀b∈ex,H b=r_)(h0:∀b∈ex,X.s₀.heap.get? b=r_)(hL:∀b∈ex,b≠X.env.locals)(hc:∀b∈ex,∀x c,X.env.cells.lookup x=be c->c≠b)
  (hp:∀b∈ex,∀p∈X.pn++pins,p.1≠b):Inv X pins σ H {s with heap:=h'}:=by
 have hok:HOk X.prog X.w H h':=fz I.hok st (λb hb=>I.stkFree b (Lz b hb)) hH;have sub:∀b∈o_,b=X.env.locals\/b∈X.fs:=λb hb=>FL.mp (I.stkSub b (Lz b hb));have nL:∀b o,X.s₀.heap.get? b=be o->b≠X.env.locals:=λb o q=>FR (F9 (Heap.lt_size q) I.ok.above);have Ou:∀b o,X.s₀.heap.get? b=be o->b∉ex:=λb o q z=>by rw[h0 b z]at q;cases q
 have k9:∀x c v,X.env.cells.lookup x=be c->s.heap.IsCell c v->h'.IsCell c v:=λx c v e ⟨o,ho,hd⟩=>by
  obtain⟨sl,z⟩:=st.slot c o ho (λz=>hc c z x c e rfl);exact#[_,z,hd]
 refine#[I.ok,I.os,I.bare,#[λb o e n hb hx=>?_,λb o e n hb hx=>?_,I.base.free,λb o e hx=>?_,I.base.tups,I.base.frzs,I.base.tbls],?_,λy c e=>?_,I.free,I.freeC,λp Mu=>?_,hok,I.len]
 .exact st.keep b o (I.base.keep b o e n hb hx) (Ou b o e) (λz=>(sub b z).elim (nL b o e) hb)
 .obtain⟨sl,e1⟩:=I.base.slot b o e n hb hx;obtain⟨u9,e2⟩:=st.slot b _ e1 (Ou b o e);exact#[u9,e2]
 .obtain⟨o',e1⟩:=I.base.there b o e hx;exact st.there b o' e1
 .obtain⟨m,⟨o,es,ep,ho,r⟩,hl⟩:=I.loc;obtain⟨sl,z⟩:=st.slot _ o ho (λz=>hL _ z rfl);refine#[m,#[_,es,ep,z,r],λj y v' e1 e2 e3=>?_];obtain⟨u',r',q⟩:=hl j y v' e1 e2 e3;refine#[u',r',?_];rcases q with q|⟨k,c,e,z⟩
  .exact .inl q
  .exact .inr #[k,c,e,k9 y c _ e z]
 .obtain⟨w',z⟩:=I.cell y c e;exact#[w',k9 y c _ e z]
 .obtain⟨e,n,ne,nf,d⟩:=I.pin p Mu;exact#[st.keep _ _ e (λz=>hp _ z p Mu rfl) (λz=>(sub _ z).elim ne nf),n,ne,nf,d]
end
def subE(x c:A_):Bool:=x==c||c=="MotifError"
structure ErrsK(K:Ex)(mg:Str->Option KB)(es:List Str):Prop where
 cls:∀x∈es,∃C N bm,ErrK K mg x C N bm
 sub:∀x∈es,∀y∈es,∀C C',nsIn K Pi x=be (be (.ref C))->nsIn K Pi y=be (be (.ref C'))->mroIn K C (.ref C')=be (subE x y)
def ErrsK.has{es:List A_}(k:ErrsK K mg es){y:A_}{C' N':KF}{KP:List KB}(hx:x∈es)(hy:y∈es)(a:ErrK K mg x C N bm)(b:ErrK K mg y C' N' KP):(Value.ref C::bm).contains (.ref C')=subE x y:=by
 have h:=k.sub x hx y hy C C' a.ns b.ns;obtain⟨nm,q,bs,sn,sub,ab,col,dd,k0,k1,k2,k3,k5,lk⟩:=a.obj;unfold mroIn clsIn at h;rw[lk]at h;simp only[Option.bind_some,List.isEmpty_cons,Bool.false_eq_true,if_false,Option.some.injEq]at h;exact h
structure Held(X:Cx)(pins:List (KF×Ro))(H:Hp)(s:KM)(e C:KF)(od:Option KF)(T:KF):Prop where
 ex:ExAt s.heap e C od T .none
 He:H e=r_
 HT:H T=r_
 e0:X.s₀.heap.get? e=r_
 T0:X.s₀.heap.get? T=r_
 eP:∀p∈X.pn++pins,p.1≠e
 TP:∀p∈X.pn++pins,p.1≠T
section
variable {X:Cx}{pins:List (KF×Ro)}{σ:L2.St}{H:Hp}{s:KM}
variable{vs:Array KB}
def km{b:KF}{o:Ro}(I:Inv X pins σ H s)(h:s.heap.get? b=be o)(hd:o.data=.fields vs):b≠X.env.locals:=λz=>by
 obtain⟨m,⟨o',es,ep,ho,i6,_⟩,_⟩:=I.loc;rw[<-z,h]at ho;cases ho;rw[hd]at i6;cases i6
def fld_cell{b:KF}{o:Ro}(I:Inv X pins σ H s)(h:s.heap.get? b=be o)(hd:o.data=.fields vs):∀x c,X.env.cells.lookup x=be c->c≠b:=λx c q z=>by
 obtain⟨v,o',ho,i6⟩:=I.cell x c q;rw[z,h]at ho;cases ho;rw[hd]at i6;cases i6
def Held.flight{e C T:KF}{od:Option KF}{h':Rc}(I:Inv X pins σ H s)(k:Held X pins H s e C od T)(hx:ExAt h' e C od T .none)(st:Stay [] [T] s.heap h'):Inv X pins σ H {s with heap:=h'}/\Held X pins H {s with heap:=h'} e C od T:=by
 obtain⟨sl,vs,oT,ts,he,h1,v3,hT,j_,h3⟩:=k.ex;refine#[Inv.stay I st (λb hb=>by cases hb) (λb hb=>?_) (λb hb=>?_) (λb hb=>?_) (λb hb=>?_) (λb hb=>?_),#[hx,k.He,k.HT,k.e0,k.T0,k.eP,k.TP]]<;>rw[FJ.mp hb]
 .exact k.HT
 .exact k.T0
 .exact km I hT j_
 .exact fld_cell I hT j_
 .exact k.TP
end
abbrev TH:=A_->List (A_×D)->TSD
def DH(X:Cx)[J:Jx](hs:List RC)(th:TH):Prop:=
 ∀(pins:List (KF×Ro)) (s:KM) (σ:L2.St) (H:Hp) (D:Ends) (e C:KF) (od:Option KF) (T:KF) (x:A_) (fs:List (A_×My.D)) (B F0 F:Hp) (z:SD) (ED:EndsD),Inv X pins σ H s->Held X pins H s e C od T->Kept B F0 F H->RepS X.K B F H z σ->ErrD X.K F x fs C od->
  th x fs ED z->EndsOk X.K B F0 ED D->Q7 (Q8 X.prog X.w) X.A (Sl (.ref e) X.env hs) (SP X pins D) X.xe s
structure WDH(X:Cx)[Jx](hs:List RC)(th:TH):Prop where
 out:DH X hs th
section
variable {X:Cx}[J:Jx]{es:List A_}{c:A_}{b₀:Q6}{Ju:List Q6}{pos pc:Ri}{b7:List RC}{t:TSD}{r:TH}
def zb:TH:=λ_ _ _ _=>False
def zc(es:List A_)(c:A_)(t:TSD)(r:TH):TH:=λx fs E z=>(x∈es/\c∈es)/\if subE x c=true then t E z else r x fs E z
def zd:WDH X [] zb:=#[λ_ _ _ _ _ _ _ _ _ _ _ _ _ _ _ _ _ _ _ _ _ h _=>h.elim]
def ze(hE:ErrsK X.K X.mg es)(hs:∀e,WDSs (X.held e) (b₀::Ju) t)(hr:WDH X b7 r)(hg:autoParam (Gl X c) zA0)(d7:autoParam (zND c) zA1):WDH X (.ExceptHandler (be (.Name c pc)) r_ (b₀::Ju) pos::b7) (zc es c t r):=⟨by
 have hs:=λe=>(hs e).out;have hr:=hr.out;intro pins s σ H D e C od T x fs B F0 F z ED I hd k rs er ht ee;obtain⟨⟨Ov,Ow⟩,ht⟩:=ht;obtain⟨Cc,Nc,QH,kc⟩:=hE.cls c Ow;obtain⟨Ox,Nx,QI,kx⟩:=hE.cls x Ov;obtain rfl:Ox=C:=by have h1:=kx.ns;rw[er.1]at h1;cases h1;rfl
 have hb:=hE.has Ov Ow kx kc;obtain⟨nm,q,bs,sn,sub,ab,col,dd,k0,k1,k2,k3,k5,lk⟩:=kx.obj;obtain⟨Oi,q',Oj,Ol,KR,Om,KS,LG,On,Oo,Op,Oq,Ot,PD⟩:=kc.obj;refine wpAny_handleBy_cons (codeAny_handlers_test (cN (X:=X.held e) (Inv.held I) hg kc.mg ?_ d7)) (by intro q;cases q);obtain⟨sl,vs,oT,ts,he,h1,v3,hT,j_,h3⟩:=id hd.ex;refine za (g:=s.gens) (d:=s.drawn) (t:=s.toks) (os:=s.os) (I.kIn _ _ lk) (I.kIn _ _ PD) he rfl kc.base hb ?_;cases KU:subE x c with
 |true=>
  rw[KU,if_pos rfl]at ht;refine codeAny_handlers_suite (flight_none hd.ex λh' gt y8=>?_);obtain⟨I',_⟩:=Held.flight I hd gt y8;exact Rn (hs e pins _ σ H D (Inv.held I') #[B,F0,F,z,k,rs,ED,ht,ee]) (λf s1 q=>SP.unheld I.ok q) λ_ _ z=>False.elim z
 |false=>
  rw[KU,if_neg FX]at ht;exact hr pins s σ H D e Ox od T x fs B F0 F z ED I hd k rs er ht ee⟩
end
abbrev _root_.L2.Cx.tried(X:Cx)(pn:List (KF×Ro))(xe:KB->KM->Prop):Cx:={X with pn:=pn,xe:=xe}
section
variable {X:Cx}{pn pins:List (KF×Ro)}{xe:KB->KM->Prop}{σ:L2.St}{H:Hp}{s:KM}
def Cx.Ok.tried(ok:X.Ok):(X.tried pn xe).Ok:=#[ok.mod,ok.kind,ok.glob,ok.blt,ok.above,ok.inj,ok.has,ok.cab,ok.hd,ok.frames,ok.stk,ok.exf,ok.bs,ok.bsz,ok.noex,ok.exfs,ok.funs,ok.frf]
def Inv.tried(I:Inv X pins σ H s):Inv (X.tried (X.pn++pins) xe) [] σ H s:=#[Cx.Ok.tried I.ok,I.os,I.bare,I.base,I.loc,I.cell,I.free,I.freeC,λp hp=>I.pin p (by simpa using hp),I.hok,I.len]
def Inv.untried(ok:X.Ok)(I:Inv (X.tried (X.pn++pins) xe) [] σ H s):Inv X pins σ H s:=#[ok,I.os,I.bare,I.base,I.loc,I.cell,I.free,I.freeC,λp hp=>I.pin p (by simpa using hp),I.hok,I.len]
def SP.untried{D:Ends}{f:Flow}{s':KM}(ok:X.Ok)(h:SP (X.tried (X.pn++pins) xe) [] D f s'):SP X pins D f s':=by
 cases f with
 |next=>obtain⟨σ',H',I,q⟩:=h;exact#[σ',H',Inv.untried ok I,q]
 |brk=>obtain⟨σ',H',I,q⟩:=h;exact#[σ',H',Inv.untried ok I,q]
 |cont=>obtain⟨σ',H',I,q⟩:=h;exact#[σ',H',Inv.untried ok I,q]
 |ret u=>obtain⟨v,σ',H',I,r,q⟩:=h;exact#[v,σ',H',Inv.untried ok I,r,q]
end
def zf{h₀:RC}{hs:List RC}{σ':L2.St}{H':Hp}{s':KM}{D:Ends}{e:KF}{od:Option KF}{xe:KB->KM->Prop}(I2:Inv X pins σ' H' s')
  (hd:Exd (X.tried (X.pn++pins) xe) H' s' e C od) (f9:X.ex=[]) (v8:X.stack=X.env::X.outer) (m6:X.env.frame=be X.env.locals)
  (hh:∀s4 T2,Inv X pins σ' H' s4->Held X pins H' s4 e C od T2->Q7 (Q8 X.prog X.w) X.A (Sl (.ref e) X.env (h₀::hs)) (SP X pins D) X.xe s4):
  Q7 (Q8 X.prog X.w) X.A (RW (.ref e) X.env) (λ_ s₂=>Q7 (Q8 X.prog X.w) X.A (Sa (.ref e) r_) (λ_ s₃=>Q7 (Q8 X.prog X.w) X.A (Sl (.ref e) X.env (h₀::hs)) (SP X pins D) X.xe s₃) X.xe s₂) X.xe s':=by
 obtain⟨He,e0,eP,hd⟩:=hd;have stk:s'.heap.FunFrames X.base (X.env::X.outer):=by rw[<-v8];exact I2.stack
 have Oy:X.A.frames=be (X.env::X.outer):=by rw[<-v8];exact I2.ok.frames
 have e_:∀(p_:Rc) (T2:KF) (ex:List KF),(∀b∈ex,H' b=r_/\X.s₀.heap.get? b=r_/\(∃o vs,s'.heap.get? b=be o/\o.data=.fields vs)/\∀p∈X.pn++pins,p.1≠b)->ExAt p_ e C od T2 (RY X.env.locals)->s'.heap.objs.size<=T2->Stay (frs (X.env::X.outer)) ex s'.heap p_->
   Q7 (Q8 X.prog X.w) X.A (Sa (.ref e) r_) (λ_ s₃=>Q7 (Q8 X.prog X.w) X.A (Sl (.ref e) X.env (h₀::hs)) (SP X pins D) X.xe s₃) X.xe {s' with heap:=p_}:=by
  intro p_ T2 ex v9 ox v4 p6;have F_:s'.heap.get? T2=none:=Heap.get?_none_of_le v4;have I3:Inv X pins σ' H' {s' with heap:=p_}:=Inv.stay I2 p6 (λb hb=>by rw[v8];exact hb) (λb hb=>(v9 b hb).1) (λb hb=>(v9 b hb).2.1) (λb hb=>let ⟨_,_,q1,q2⟩:=(v9 b hb).2.2.1;km I2 q1 q2) (λb hb=>let ⟨_,_,q1,q2⟩:=(v9 b hb).2.2.1;fld_cell I2 q1 q2) (λb hb=>(v9 b hb).2.2.2);obtain⟨sl,vs,oT,ts,he,g1,v3,hT,j_,g3⟩:=id ox;have Jt:H' T2=none:=kj I2.hok F_;have T0:X.s₀.heap.get? T2=none:=cR I2 f9 F_;have TP:∀p∈X.pn++pins,p.1≠T2:=λp hp z=>by
   have:=(I2.pin p hp).1;rw[z,F_]at this;cases this
  refine flight_none (s:={s' with heap:=p_}) ox λh3 KI y9=>?_;have I4:Inv X pins σ' H' {s' with heap:=h3}:=Inv.stay (s:={s' with heap:=p_}) I3 y9 (λb hb=>by cases hb) (λb hb=>by rw[FJ.mp hb];exact Jt) (λb hb=>by rw[FJ.mp hb];exact T0) (λb hb=>by rw[FJ.mp hb];exact km I3 hT j_) (λb hb=>by rw[FJ.mp hb];exact fld_cell I3 hT j_) (λb hb=>by rw[FJ.mp hb];exact TP);exact hh _ T2 I4 #[KI,He,Jt,e0,T0,eP,TP]
 rcases hd with⟨sl,vs,he,hv⟩|⟨T,J_,T0,HT,TP⟩
 .refine qM Oy stk m6 he hv λp_ T2 ox v4 p6=>e_ p_ T2 [e] (λb hb=>?_) ox v4 p6;rw[FJ.mp hb];exact#[He,e0,#[_,_,he,rfl],eP]
 .obtain⟨sl,vs,oT,ts,he,g1,v3,hT,j_,g3⟩:=id J_;refine qN Oy stk m6 J_ λp_ T2 ox v4 p6=>e_ p_ T2 [T,e] (λb hb=>?_) ox v4 p6;rcases FL.mp hb with z|z
  .rw[z];exact#[HT,T0,#[_,_,hT,j_],TP]
  .rw[FJ.mp z];exact#[He,e0,#[_,_,he,rfl],eP]
def zg:tailIn K veLine veLine=true:=by
 unfold tailIn;rfl
variable{sl:Array (Option KB)}
def so{c:KB}{d:Option KF}{es:Array DictEntry}{ep:Nat}(l:K.lookup N=be #[c,d,.dict es ep,sl])(h:es.toList.all (λe=>match e.key with|.str _ _=>true|_=>false)=true):nsOkIn K N=true:=by
 unfold nsOkIn;rw[l];dsimp only;rw[<-HE];exact h
def zh{M:KF}{c0:KB}{dd:Option KF}{cd:ClassData}(l:K.lookup M=be #[c0,dd,.cls cd,sl])(hn:cd.ns=N)(h1:nsOkIn K N=true)(h2:nsIn K N "__init__"=be r_):tailIn K veLine (.ref M::veLine)=true:=by
 unfold tailIn;subst hn;dsimp only;rw[l];dsimp only;rw[h1,h2,zg];simp
def zi(S:SpX):SpD:=λds R=>S ds R λ_ _=>False
def CalX.no{base:Rc}{n:Nat}{S:SpX}(C:CalX P w K mg base n x ps S):CalD P w K mg base n x ps (zi S):=by
 obtain⟨f,fd,F,hb,hk,hm⟩:=C;refine#[f,fd,F.imp λvs H Q E h=>?_,hb,hk,hm];obtain⟨F,ds,fh,rs,R,h,q⟩:=h;exact#[F,ds,fh,rs,R,_,h,q,λ_ _ _ _ _ _ _ z=>z.elim]
end My
namespace My
def repS(x:A_)(n:Nat):Str:=#[(Gr n x.cps.toList).flatten.toArray]
def sq{α:Type}(l:List α):∀m:Nat,(FN m).filterMap (λk=>l[k]?)=l.take m
 |0=>by simp
 |m+1=>by
  rw[G4,List.filterMap_append,sq l m,Io];cases h:l[m]?<;>simp[h]
def zj(lo hi:Option Int)(n:Nat):Builtin.Str.strSliceIndices lo hi 1 n=(FN (HT.sIx n n hi-HT.sIx n 0 lo)).map λk=>HT.sIx n 0 lo+k:=by
 have Jd:∀(i:Int) (d:Nat),max 0 (min (if i<0 then i+(n:Int)else i) (n:Int))=((HT.sIx n d (be i):Nat):Int):=by
  intro i d;show max 0 (min (if i<0 then i+(n:Int)else i) (n:Int))=(((if i<0 then(i+(n:Int)).toNat else min i.toNat n):Nat):Int);by_cases h:i<0
  .rw[if_pos h,if_pos h];lia
  .rw[if_neg h,if_neg h];lia
 have h1:Builtin.Str.strSliceIndices lo hi 1 n=sliceRange ((HT.sIx n 0 lo:Nat):Int) ((HT.sIx n n hi:Nat):Int) 1:=by
  unfold Builtin.Str.strSliceIndices;simp only[show(1:Int)>0 by decide,if_true];cases lo with
  |none=>cases hi with
   |none=>rfl
   |some j=>rw[<-Jd j n];rfl
  |some i=>cases hi with
   |none=>rw[<-Jd i 0];rfl
   |some j=>rw[<-Jd i 0,<-Jd j n]
 rw[h1];unfold sliceRange;simp only[show(1:Int)>0 by decide,if_true];have e3:(if((HT.sIx n 0 lo:Nat):Int)<((HT.sIx n n hi:Nat):Int)then(((HT.sIx n n hi:Nat):Int)-((HT.sIx n 0 lo:Nat):Int)+1-1)/1 else 0).toNat=HT.sIx n n hi-HT.sIx n 0 lo:=by
  split<;>lia
 rw[e3];apply G5;intro k _;lia
def slice_cps(y:A_)(lo hi:Option Int):Txt.slice y lo hi=#[((y.cps.toList.drop (HT.sIx y.length 0 lo)).take (HT.sIx y.length y.length hi-HT.sIx y.length 0 lo)).toArray]:=by
 have la:HT.sIx y.length 0 lo<=y.length:=HT.sIx_le _ _ (Gb _) lo;have lb:HT.sIx y.length y.length hi<=y.length:=HT.sIx_le _ _ (FK _) hi;unfold Txt.slice;rw[zj];split
 .rename_i h;have hl:HT.sIx y.length y.length hi-HT.sIx y.length 0 lo=y.length:=by simpa using h
  have ha:HT.sIx y.length 0 lo=0\/y.length=0:=JM
  rw[hl];obtain⟨cp⟩:=y;have e:(G6 (HT.sIx (Str.mk cp).length 0 lo) cp.toList)=cp.toList:=by
   rcases ha with ha|ha
   .rw[ha];rfl
   .have:cp=[].toArray:=Array.eq_empty_of_size_eq_zero ha;subst this;simp
  show(#[cp]:A_)=#[((G6 (HT.sIx (Str.mk cp).length 0 lo) cp.toList).take cp.size).toArray];rw[e,GV JU]
 .congr 2;rw[Ie];have:=sq (y.cps.toList.drop (HT.sIx y.length 0 lo)) (HT.sIx y.length y.length hi-HT.sIx y.length 0 lo);rw[<-this];congr 1;funext k;simp
section
variable {X:Cx}[J:Jx]{a b c e:P3}{ta tb tc te:TD}{pos:Ri}
def FF:RD2:=λx y R=>match x,y with
 |.int i,.int j=>CMul i j/\R (.int (i*j))
 |.str i,.int n=>(-(2^62)<=n/\n<=1000000/\i.length*n.toNat<=1000000)/\R (.str (repS i n.toNat))
 |.lst xs,.int n=>(-(2^62)<=n/\n<=1000000/\xs.length*n.toNat<=1000000)/\R (.lst (Gr n.toNat xs).flatten)
 |_,_=>False
def zk:SlR X (λx lo hi H Q=>∃y,x=.str y/\y.length<=sizeLine/\Q (.str (Txt.slice y lo hi)) H):=by
 intro pins s σ H x v vl vu lo hi sl Q I rx hs pl pu h;obtain⟨y,rfl,hz,q⟩:=h;obtain⟨t,rfl⟩:=rx;have e_:∀t' k,EP X pins σ Q (.str (Txt.slice y lo hi) t') {s with toks:=k}:=λt' k=>#[.str _,H,I.tok k,#[_,rfl],q];have le:=FQ (Txt.slice_le y lo hi) hz;refine#["str",_,PySem.F.slot_str_getitem.lookup,SN _ _ _,?_];cases pl with
 |none=>cases pu with
  |none=>exact RE (l:=r_) (u:=r_) (st:=r_) hs rfl (R3 #[le,e_])
  |int j tj=>exact RE (l:=r_) (u:=be (j,tj)) (st:=r_) hs rfl (R3 #[le,e_])
 |int i ti=>cases pu with
  |none=>exact RE (l:=be (i,ti)) (u:=r_) (st:=r_) hs rfl (R3 #[le,e_])
  |int j tj=>exact RE (l:=be (i,ti)) (u:=be (j,tj)) (st:=r_) hs rfl (R3 #[le,e_])
abbrev TDO:=SD->(Option Int->Prop)->Prop
def zl:TDO:=λ_ R=>R r_
def zm(te:TD):TDO:=λz R=>te z λx=>match x with|.int i=>R (be i)|_=>False
def lO(K:Ex)[J:Jx](t:TDO):TO:=λs H Q=>∃B F z,Kept B J.F0 F H/\RepS K B F H z s/\∃R:Option Int->Prop,t z R/\∀o F' H',Grow F H F' H'->R o->Q o H'
abbrev DPO(X:Cx)[Jx](e:Option P3)(t:TDO):Prop:=PO X e (lO X.K t)
structure WDPO(X:Cx)[Jx](e:Option P3)(t:TDO):Prop where
 out:DPO X e t
def PO.anti{X:Cx}{e:Option P3}{t t':TO}(h:PO X e t)(a:∀s H Q,t' s H Q->t s H Q):PO X e t':=λpins s σ H Q I q=>h pins s σ H Q I (a _ _ _ q)
def fP:WDPO X r_ zl:=⟨PO.anti jF λs H Q q=>by
 obtain⟨B,F,z,kf,rs,R,h1,h2⟩:=q;exact h2 r_ F H (Grow.refl kf.fh) h1⟩
def dJ(he:WDE X e te):WDPO X (be e) (zm te):=⟨have he:=he.out;PO.anti (jG he) λs H Q q=>by
 obtain⟨B,F,z,kf,rs,R,h1,h2⟩:=q;refine#[B,F,z,kf,rs,_,h1,λx u F1 H1 g1 hx rx=>?_];split at hx
 .exact#[_,rep_int.mp rx,h2 _ F1 H1 g1 hx]
 .exact hx.elim⟩
def rdSl:D->Option Int->Option Int->(D->Prop)->Prop:=λx lo hi R=>match x with
 |.str y=>y.length<=1000000/\R (.str (Txt.slice y lo hi))
 |.lst xs=>R (.lst (cutD xs lo hi))
 |.rol xs=>R (.lst (cutD xs lo hi))
 |.tup xs=>¬(HT.sIx xs.length 0 lo=0/\HT.sIx xs.length xs.length hi=xs.length)/\R (.tup (cutD xs lo hi))
 |_=>False
def dSl(ta:TD)(tl th:TDO):TD:=λz R=>ta z λx=>tl z λlo=>th z λhi=>rdSl x lo hi R
def eI{lo hi:Option P3}{tl th:TDO}{p2:Ri}(ha:WDE X a ta)(hl:WDPO X lo tl)(hu:WDPO X hi th):WDE X (.Subscript a (.Slice lo hi r_ p2) pos) (dSl ta tl th):=⟨have ha:=ha.out;have hl:=hl.out;have hu:=hu.out;(jH (SlR.or zk (SlR.or jJ xh)) ha hl hu).anti λs H Q q=>by
 obtain⟨B,F,z,kf,rs,R,h1,h2⟩:=q;refine#[B,F,z,kf,rs,_,h1,λx u F1 H1 g1 hx rx=>?_];refine#[B,F1,z,kf.grow g1,rs.grow g1,_,hx,λlo F2 H2 g2 hy=>?_];refine#[B,F2,z,(kf.grow g1).grow g2,(rs.grow g1).grow g2,_,hy,λhi F3 H3 g3 hw=>?_];have g:=g1.trans (g2.trans g3);have LH:=(rx.mono g2.ff).mono g3.ff;unfold rdSl at hw;split at hw
 .exact .inl #[_,rep_str.mp LH,FQ hw.1 JQ,h2 _ _ F3 H3 g hw.2 (rep_str.mpr rfl)]
 .obtain⟨l,vs,rfl,hq,rr⟩:=rep_lst.mp LH;refine .inr (.inl #[l,vs,rfl,SqL.of (g3.fh _ _ hq),λp hp=>?_]);exact h2 _ _ _ _ (g.trans (Grow.new g3.fh hp _)) hw (rep_lst.mpr #[p,_,rfl,aG,(rr.cut _ _).mono (aP (g3.fh.free hp) _)])
 .obtain⟨l,vs,rfl,hq,rr⟩:=rep_rol.mp LH;refine .inr (.inl #[l,vs,rfl,g3.fh.seq hq,λp hp=>?_]);exact h2 _ _ _ _ (g.trans (Grow.new g3.fh hp _)) hw (rep_lst.mpr #[p,_,rfl,aG,(rr.cut _ _).mono (aP (g3.fh.free hp) _)])
 .obtain⟨l,vs,rfl,hq,rr⟩:=rep_tup_mp LH;refine .inr (.inr #[l,vs,rfl,g3.fh.tup hq,by rw[rr.length];exact hw.1,λp hp=>?_]);exact h2 _ _ _ _ (g.trans (Grow.new g3.fh hp _)) hw.2 (rep_tupS.mpr #[p,_,rfl,aG,(rr.cut _ _).mono (aP (g3.fh.free hp) _)])
 .exact hw.elim⟩
def rdIn(neg:Bool):RD2:=λx y R=>match y with
 |.str j=>kdS x λi=>R (.bl (if neg then !(!(Builtin.Str.occurrences j i 0 j.length 1).isEmpty)else !(Builtin.Str.occurrences j i 0 j.length 1).isEmpty))
 |.lst ys=>(bX x=true/\ys.all bX=true)/\R (.bl (if neg then !(ys.any λy=>eqF y x)else ys.any λy=>eqF y x))
 |.rol ys=>(bX x=true/\ys.all bX=true)/\R (.bl (if neg then !(ys.any λy=>eqF y x)else ys.any λy=>eqF y x))
 |.tup ys=>(bX x=true/\ys.all bX=true)/\R (.bl (if neg then !(ys.any λy=>eqF y x)else ys.any λy=>eqF y x))
 |_=>False
def gL{K:Ex}{H:Hp}{x:D}{u:V}(rx:Rep K H x u)(fx:bX x=true):∀{ys:List D} {vs:List V},Reps K H ys vs->ys.all bX=true->inV u vs=ys.any λy=>eqF y x
 |[],vs,r,_=>by rw[reps_nil.mp r];rfl
 |y::ys,vs,r,f=>by
  obtain⟨v,vr,rfl,r1,r2⟩:=reps_cons.mp r;rw[Hl,Gf]at f;have ih:=gL rx fx r2 f.2;unfold inV at ih ⊢;rw[Hm,Hm,ih,yg r1 rx f.1 fx]
def rInV(K:Ex)(neg:Bool):R2:=λx y H Q=>(∃i j,x=.str i/\y=.str j/\Q (.bl (if neg then !(!(Builtin.Str.occurrences j i 0 j.length 1).isEmpty)else !(Builtin.Str.occurrences j i 0 j.length 1).isEmpty)) H)\/rIn K neg x y H Q
def zn{K:Ex}{neg:Bool}:aY K (rInV K neg) (rdIn neg):=by
 intro x y u v F H R Q fh h rx ry q;cases y with
 |str j=>
  replace h:=kdS.of h;obtain⟨i,rfl,h⟩:=h;exact .inl #[_,_,rep_str.mp rx,rep_str.mp ry,q _ _ F H (Grow.refl fh) h (rep_bl.mpr rfl)]
 |lst ys=>
  obtain⟨⟨f1,f2⟩,h⟩:=h;obtain⟨l,vs,rfl,hq,rr⟩:=rep_lst.mp ry;exact .inr #[l,vs,rfl,.inl (fh.seq (SqL.of hq)),gC rx f1,gD rr f2,q _ _ F H (Grow.refl fh) h (rep_bl.mpr (by rw[gL rx f1 rr f2]))]
 |rol ys=>
  obtain⟨⟨f1,f2⟩,h⟩:=h;obtain⟨l,vs,rfl,hq,rr⟩:=rep_rol.mp ry;exact .inr #[l,vs,rfl,.inl (fh.seq hq),gC rx f1,gD rr f2,q _ _ F H (Grow.refl fh) h (rep_bl.mpr (by rw[gL rx f1 rr f2]))]
 |tup ys=>
  obtain⟨⟨f1,f2⟩,h⟩:=h;obtain⟨l,vs,rfl,hq,rr⟩:=rep_tup_mp ry;exact .inr #[l,vs,rfl,.inr (fh.tup hq),gC rx f1,gD rr f2,q _ _ F H (Grow.refl fh) h (rep_bl.mpr (by rw[gL rx f1 rr f2]))]
 |_=>exact False.elim h
def zo:OpR X (Rp .NotIn) (rInV X.K true):=OpR.or xq xp
end
end My
namespace L2
def Its(x:A_):It:=#[λi _=>i<x.length,λi H v H'=>H'=H/\∃c,x.cps[i]?=be c/\v=.str #[[c].toArray],λi _=>x.length<=i]
def zp{P:Q5}{w:Q_}{K:Ex}{tg:P3}(x:A_)(t:SW)(it:KF):Turn P w K tg (Its x) [it] it (λi h=>h.IsStrIter it "str_ascii_iterator" x t i) where
 mem:=JU
 obj:=λi h st b hb=>by
  have e:b=it:=by simpa using hb
  subst e;obtain⟨o,e,c,d⟩:=st;exact#[o,e,λv z=>by rw[d]at z;cases z]
 keep:=λi h h' st k=>by
  obtain⟨o,e,r⟩:=st;exact#[o,k it JU o e,r]
 item:=by
  intro X hP hw hK hc i pins s σ H E I hf st hg;subst hP hw hK;have hi:i<x.cps.size:=hg;obtain⟨f0,f1,f2,f3,f4,f5⟩:=hf it JU;refine wpAny_pyNext_ascii_item st (c:=x.cps[i]) (Ip hi) λh' y8 sb=>?_;have I1:Inv X pins σ H {s with heap:=h',toks:=s.toks+1}:=I.turned (t':=s.toks+1) (λb o hb e=>(sb.2 b hb).trans e) f0 f1 f3 f4 f5;obtain⟨o,e,c,d⟩:=id y8;exact#[_,rfl,jv (s:={s with heap:=h',toks:=s.toks+1}) e c d JQ #[.str #[[x.cps[i]].toArray],H,I1,#[_,rfl],#[rfl,_,Ip hi,rfl],y8,λb hb=>(hf b hb).1]]
 done:=by
  intro X hP hw hK hc i pins s σ H E I hf st hg;subst hP hw hK;have hi:x.cps.size<=i:=hg;obtain⟨f0,f1,f2,f3,f4,f5⟩:=hf it JU;exact wpAny_pyNext_ascii_end (I.ok.hd hc) st (Array.getElem?_eq_none hi) λh' eb=>#[rfl,I.turned (t':=s.toks) (λb o hb e=>eb b o hb e) f0 f1 f3 f4 f5]
 self:=λA i s Q E st hQ=>wpAny_pyIter_striter_ascii st hQ
def iStr(tl:TE):TI:=λσ H R=>tl σ H λv H1=>∃x,v=.str x/\x.cps.all (·<128)=true/\R (Its x) H1
def sr{X:Cx}{tg l:P3}{tl:TE}(hl:PE X l tl):PI X tg l (iStr tl):=by
 intro pins s σ H R I h;refine thn (hl pins s σ H _ I h) λv s1 c7=>?_;obtain⟨v1,H1,I1,r1,q1⟩:=c7;obtain⟨x,rfl,ha,q⟩:=q1;obtain⟨t,rfl⟩:=r1;refine wpAny_pyIter_ascii ha ?_;refine#[s1.heap.objs.size,[s1.heap.objs.size],_,_,H1,rfl,I1.kept (t':=s1.toks) λb o e=>Heap.get?_push_of_some _ e,zp x t _,#[_,Heap.get?_push_size _ rfl,rfl,rfl],λb hb=>?_,q];have e:b=s1.heap.objs.size:=by simpa using hb
 subst e;exact I1.fpOk (FK _) (I1.hok.fresh (FK _))
def zq{x:A_}{g:TG}{tb:TS}{D:Ends}{σ:St}{H:Hp}(Pv:Nat->St->Hp->Prop)(h0:Pv 0 σ H)
  (hs:∀i c σ H,x.cps[i]?=be c->Pv i σ H->g (.str #[[c].toArray]) σ H λσ2 H2=>tb {D with nx:=Pv (i+1),ct:=Pv (i+1),bk:=D.nx} σ2 H2) (hd:∀σ H,Pv x.length σ H->D.nx σ H):
  ∃W:Nat->Nat->St->Hp->Prop,(∃m,W 0 m σ H)/\∀i m σ H,W i m σ H->
   ((Its x).stop i H/\D.nx σ H)\/((Its x).go i H/\∃N:St->Hp->Prop,(∀σ' H',N σ' H'->∃m',m'<m/\W (i+1) m' σ' H')/\∀v H',(Its x).yld i H v H'->g v σ H' λσ2 H2=>tb {D with nx:=N,ct:=N,bk:=D.nx} σ2 H2):=by
 refine#[λi m σ H=>m=x.length-i/\i<=x.length/\Pv i σ H,#[x.length,JU,Gb _,h0],?_];rintro i m σ H ⟨rfl,hi,p⟩;by_cases f7:i<x.length
 .refine .inr #[f7,Pv (i+1),λσ' H' p'=>#[x.length-(i+1),JM,rfl,f7,p'],λv H' y=>?_];obtain⟨e,c,hc,rfl⟩:=y;subst e;exact hs i c σ _ hc p
 .have e:i=x.length:=by lia
  subst e;exact .inl #[FK _,hd σ H p]
end L2
namespace My
section
variable {X:Cx}[J:Jx]{a b c e:P3}{ta tb tc te:TD}{pos:Ri}
def bG(x:A_):List D:=x.cps.toList.map λc=>D.str #[[c].toArray]
def dItS(t:TD):TDI:=λz R=>t z λy=>match y with|.str x=>x.cps.all (·<128)=true/\R (bG x)|_=>False
def gM{x:A_}{k c:Nat}(h:x.cps[k]?=be c):(bG x)[k]?=be (.str #[[c].toArray]):=by
 unfold bG;rw[FS,Array.getElem?_toList,h];rfl
def eJ(x:A_):(bG x).length=x.length:=by unfold bG;rw[FP];simp[Str.length]
def zr(i:Nat){x:A_}{p:Ri}{body:List Q6}{tb:TSD}(hp:Rr (Q8 X.prog X.w) X.A X.env X.xe)(hc:X.calm=true)(hN:X.N.Nodup)(he:WDE X e te)(hb:WDSs X body tb)(hi:autoParam (X.N[i]?=be x) zA0)(hx:autoParam (Loc X.env.scope x) zA4)
  (hf:autoParam (zFN X x) zA3) (hs:autoParam (∀y,zFS X e y) zA2):WDS X (.For (.Name x p) e body [] pos) (dFor i (dItS te) tb):=⟨have he:=he.out;have hb:=hb.out;(cE hp hc (sr he) (dB hN hi hx hf) hb hs).anti λE s H q=>by
 obtain⟨B,F0,F,z,kp,rs,ED,h,e⟩:=q;refine#[B,F,z,kp.kf,rs,_,h,λd v F1 H1 g1 hd rd=>?_];split at hd
 .rename_i y;obtain⟨ha,W,w0,c8,out⟩:=hd;refine#[y,rep_str.mp rd,ha,zq (λk s' H'=>∃F' z',Kept B F0 F' H'/\RepS X.K B F' H' z' s'/\W k z') #[F1,z,kp.grow g1,rs.grow g1,w0] ?_ ?_]
  .rintro k c s' H' hk⟨F',z',k',r',w'⟩;exact#[B,F0,F',_,k',r'.set (d:=.str #[[c].toArray]) (rep_str.mpr rfl),_,c8 k (.str #[[c].toArray]) z' (gM hk) w',#[λz3 s3 F3 H3 k3 h3 r3=>#[F3,z3,k3,r3,h3],e.rt,e.nx,λz3 s3 F3 H3 k3 h3 r3=>#[F3,z3,k3,r3,h3]]]
  .rintro s' H'⟨F',z',k',r',w'⟩;exact e.nx z' s' F' H' k' (out z' (by rw[eJ];exact w')) r'
 .exact hd.elim⟩
variable {f_ iter:P3}{x:A_}{px:Ri}{scope:RA}{ti:TD}
def itS{K:Ex}:ItOk K (iStr (lE K ti)) (dItS ti):=λ{s H B F z P Q} kf rs h1 h2=>by
 refine#[B,F,z,kf,rs,_,h1,λd v F1 H1 g1 hd rd=>?_];split at hd
 .rename_i y;obtain⟨ha,hd⟩:=hd;have hl:=eJ y;refine#[y,rep_str.mp rd,ha,h2 _ _ F1 H1 g1 hd #[λk F' H' G hk=>by rw[hl]at hk;exact hk,λk F' H' v H'' G hk hy=>?_,λF' H' G=>by show y.length<=_;rw[hl];exact FK _]];obtain⟨e,c,hc,rfl⟩:=hy;exact#[e,.str #[[c].toArray],gM hc,rep_str.mpr rfl]
 .exact hd.elim
end
section
variable {X:Cx}[J:Jx]{a b c e o:P3}{es:List P3}{ta tb tc te to:TD}{t:TDA}{pos:Ri}
abbrev RTx:=A_->List D->(D->Prop)->Prop
def dTx(r:RTx)(to:TD)(t:TDA):TD:=λz R=>to z λx=>match x with|.str y=>t z λds=>r y ds R|_=>False
def MtS(X:Cx)(id:String)(r:RTx):Prop:=∃rv:V->List V->Hp->VK->Prop,MtR X id rv/\∀(y:A_) (ds:List D) (vs:List V) (F H:Hp) (R:D->Prop) (Q:VK),Reps X.K F ds vs->r y ds R->(∀d v,(∀G,Rep X.K G d v)->R d->Q v H)->rv (.str y) vs H Q
variable{b_ a_:Ri}
def ko{name:A_}{id:String}{r:RTx}(slot:Slot "str" name id)(L9:typeOf (.builtin id)=pure (.type "method_descriptor"))(hm:MtS X id r)(ho:DE X o to)(ha:DA X (e::es) t)
  (c5:autoParam (Rh o name X.env (Rg o X.env)=Rg o X.env) zA0)
  (e8:autoParam (zHF X a_ (e::es)) zA0)
  (c9:autoParam ((b_.endLine==a_.line)=true) zA0) (hs:autoParam (zSE X e es) zA0) (m5:autoParam (zPL X a_ es) zA0):
  DE X (.Call (.Attribute o name b_) (e::es) [] a_) (dTx r to t):=by
 obtain⟨rv,hm,L⟩:=hm;refine(dU PySem.F.plainAttrs_str slot L9 hm ho ha c5 e8 c9 hs m5).anti λs H Q q=>?_;obtain⟨B,F,z,kf,rs,R,h1,h2⟩:=q;refine#[B,F,z,kf,rs,_,h1,λx u F1 H1 g1 hx rx=>?_];split at hx
 .rename_i y;rw[rep_str.mp rx];refine#[rfl,B,F1,z,kf.grow g1,rs.grow g1,_,hx,λds vs F2 H2 g2 hy ry=>?_];exact L y ds vs F2 H2 R Q ry hy λd v rd hR=>h2 d v F2 H2 (g1.trans g2) hR (rd F2)
 .exact hx.elim
def FG:RTx:=λy ds R=>match ds with|[.str p]=>R (.bl (Txt.startswith y p))|_=>False
def rEnds:RTx:=λy ds R=>match ds with|[.str p]=>R (.bl (Txt.endswith y p))|_=>False
def ms_ends:MtS X "str.endswith" rEnds:=by
 refine#[λx vs H Q=>∃y p,x=.str y/\vs=[.str p]/\Q (.bl (Txt.endswith y p)) H,?_,?_]
 .intro pins s σ H x vs v us Q I rx rv h;obtain⟨y,p,rfl,rfl,q⟩:=h;obtain⟨t,rfl⟩:=rx;obtain⟨u,rfl,t',rfl⟩:=bU rv;exact SC.endswith #[.bl _,H,I,rfl,q]
 .intro y ds vs F H R Q r h q;unfold rEnds at h;split at h
  .obtain⟨v,vr,rfl,h1,h2⟩:=reps_cons.mp r;rw[reps_nil.mp h2,rep_str.mp h1];exact#[_,_,rfl,rfl,q _ _ (λ_=>rep_bl.mpr rfl) h]
  .exact h.elim
def zt(ho:WDE X o to)(ha:WDA X [e] t)(c5:autoParam (Rh o "endswith" X.env (Rg o X.env)=Rg o X.env) zA0)
  (e8:autoParam (zHF X a_ [e]) zA0)
  (c9:autoParam ((b_.endLine==a_.line)=true) zA0) (hs:autoParam (zSE X e []) zA0):WDE X (.Call (.Attribute o "endswith" b_) [e] [] a_) (dTx rEnds to t):=#[have ho:=ho.out;have ha:=ha.out;ko PySem.F.slot_str_endswith PySem.F.type_str_endswith ms_ends ho ha c5 e8 c9 hs]
def rSIndex:RTx:=λy ds R=>match ds with|[.str p]=>∃i b7,Builtin.Str.occurrences y p 0 y.length 1=i::b7/\R (.int (i:Nat))|_=>False
def zu:MtS X "str.index" rSIndex:=by
 refine#[λx vs H Q=>∃y p i b7,x=.str y/\vs=[.str p]/\Builtin.Str.occurrences y p 0 y.length 1=i::b7/\Q (.int (i:Nat)) H,?_,?_]
 .intro pins s σ H x vs v us Q I rx rv h;obtain⟨y,p,i,b7,rfl,rfl,ho,q⟩:=h;obtain⟨t,rfl⟩:=rx;obtain⟨u,rfl,t',rfl⟩:=bU rv;exact SC.index ho #[.int _,H,I.tok _,#[_,rfl],q]
 .intro y ds vs F H R Q r h q;unfold rSIndex at h;split at h
  .obtain⟨i,b7,ho,h⟩:=h;obtain⟨v,vr,rfl,h1,h2⟩:=reps_cons.mp r;rw[reps_nil.mp h2,rep_str.mp h1];exact#[_,_,i,b7,rfl,rfl,ho,q _ _ (λ_=>rep_int.mpr rfl) h]
  .exact h.elim
def ss(ho:WDE X o to)(ha:WDA X [e] t)(c5:autoParam (Rh o "index" X.env (Rg o X.env)=Rg o X.env) zA0)
  (e8:autoParam (zHF X a_ [e]) zA0)
  (c9:autoParam ((b_.endLine==a_.line)=true) zA0) (hs:autoParam (zSE X e []) zA0):WDE X (.Call (.Attribute o "index" b_) [e] [] a_) (dTx rSIndex to t):=#[have ho:=ho.out;have ha:=ha.out;ko PySem.F.slot_str_index PySem.F.type_str_index zu ho ha c5 e8 c9 hs]
def Reps.init{K:Ex}{F:Hp}:∀{ds:List D} {vs:List V},Reps K F ds vs->Reps K F ds.dropLast vs.dropLast
 |[],vs,r=>by rw[reps_nil.mp r];exact reps_nil.mpr rfl
 |[d],vs,r=>by
  obtain⟨v,vr,rfl,_,h2⟩:=reps_cons.mp r;rw[reps_nil.mp h2];exact reps_nil.mpr rfl
 |d::d2::ds,vs,r=>by
  obtain⟨v,vr,rfl,h1,h2⟩:=reps_cons.mp r;obtain⟨v2,QJ,rfl,h3,h4⟩:=reps_cons.mp h2;rw[Iq,Iq];exact reps_cons.mpr #[v,_,rfl,h1,Reps.init h2]
end
end My
namespace My
open Exc
section
variable {X:Cx}{a b c e:P3}{ta tb tc te:TD}{pos:Ri}{st:Q6}{b7:List Q6}{t u:TSD}
def br[Jx]{c:P3}{l r:List Q6}{tc:TDT}(hc:WDT X c tc)(ha:WDSs X l t)(hb:WDSs X r u):WDS X (.If c l r pos) (dIfS tc t u):=#[rH (c:=c) (l:=l) (r:=r) (tc:=tc) (hc:=hc.out) (ha:=ha.out) (hb:=hb.out)]
end
section
variable {P:Q5}{w:Q_}{K:Ex}{mg:A_->Option KB}{base:Rc}
variable{x:A_}{st:Q6}{N ps:List A_}{k:Nat}
def Tx.okDW{S:SpD}(T:Tx K mg x st ps)(F:FnScope N ps (ah st))(len:∀ds R,S ds R->ds.length=ps.length)
  (a9:∀(f:KF) (cdv:KB) (A:Ra) (outer:List RQ) (s:KM) (H:Hp) (E:XK) (J:Jx),Room k (A.deeper (Rk x (ah st) s.heap.objs.size f cdv))->
   ∃t,WDSs (cxOf (Exc.CX1 P w) P w K mg base N x (ah st) f cdv A outer s H E).nox (aL st) t/\∀ds R,S ds R->t {nx:=λ_=>R .non,rt:=R} (startD N ds)):CalD P w K mg base (k+1) x ps S:=
 Tx.okD T F len λf cdv A outer s H E J hr=>let ⟨t,h,q⟩:=a9 f cdv A outer s H E J hr;#[t,h.out,q]
def Tx.okXW{S:SpX}(T:Tx K mg x st ps)(F:FnScope N ps (ah st))(len:∀ds R RX,S ds R RX->ds.length=ps.length)
  (a9:∀(f:KF) (cdv:KB) (A:Ra) (outer:List RQ) (s:KM) (H:Hp) (E:XK) (J:Jx),Room k (A.deeper (Rk x (ah st) s.heap.objs.size f cdv))->XOk (cxOf (CX1 P w) P w K mg base N x (ah st) f cdv A outer s H E)->
   ∃t,WDSs (cxOf (CX1 P w) P w K mg base N x (ah st) f cdv A outer s H E) (aL st) t/\∀ds R RX,(∀z,J.RX z=RX)->S ds R RX->t {nx:=λ_=>R .non,rt:=R} (startD N ds)):CalX P w K mg base (k+1) x ps S:=
 Tx.okX T F len λf cdv A outer s H E J hr hx=>let ⟨t,h,q⟩:=a9 f cdv A outer s H E J hr hx;#[t,h.out,q]
def Cls.okIW{qual:A_}{f C:KF}{fd:Rf}{p0:A_}{S:SiD}(T:Fun K "__init__" qual st f fd)(hb:Binds K fd (p0::ps) [])(F:FnScope (p0::N) (p0::ps) (ah st))(len:∀ds R,S ds R->ds.length=ps.length)
  (hns:nsIn K Pi x=be (be (.ref C))) (g_:mg x=be (.ref C)) (mk:Mk K C f)
  (a9:∀(cdv:KB) (A:Ra) (outer:List RQ) (s:KM) (H:Hp) (E:XK) (J:Jx),Room k (A.deeper (Rk qual (ah st) s.heap.objs.size f cdv))->
   ∃t,WDI (cxOf (Exc.CX1 P w) P w K mg base (p0::N) qual (ah st) f cdv A outer s H E).nox x (aL st) t/\∀ds R,S ds R->t (r_::startD N ds) [] R):CalM P w K mg base (k+1) x (p0::ps) S:=
 Cls.okI T hb F len hns g_ mk λcdv A outer s H E J hr=>let ⟨t,h,q⟩:=a9 cdv A outer s H E J hr;#[t,h.out,q]
end
inductive MO where
 |ins (x:Str) (fs:List (Str×D))|lst (ds:List D)|dti (a8:List ((Int×Int)×Int))
abbrev MS:=List (KF×MO)
def MRep(K:Ex)(F H:Hp)(a:KF):MO->Prop
 |.ins x fs=>∃C dx ws,nsIn K Pi x=be (be (.ref C))/\H a=be (.ins C dx ws)/\RepF K F fs ws
 |.lst ds=>∃vs,H a=be (.lst vs)/\Reps K F ds vs
 |.dti a8=>H a=be (.dT (dtiV a8))
def aj(M:MS):List KF:=M.map (·.1)
def mget:MS->KF->Option MO
 |[],_=>r_
 |(b,o)::r,a=>if b=a then be o else mget r a
def mput:MS->KF->MO->MS
 |[],_,_=>[]
 |(b,p)::r,a,o=>if b=a then(b,o)::r else(b,p)::mput r a o
def mdel:MS->KF->MS
 |[],_=>[]
 |(b,p)::r,a=>if b=a then r else(b,p)::mdel r a
def bn:∀{M:MS} {a:KF} {o:MO},mget M a=be o->(a,o)∈M
 |[],_,_,h=>by cases h
 |(b,p)::r,a,o,h=>by
  unfold mget at h;split at h
  .rename_i e;subst e;cases h;exact FO
  .exact FM _ (bn h)
variable{M:MS}{a:KF}{o:MO}
def bt(h:(a,o)∈M):a∈aj M:=Gd.mpr #[_,h,rfl]
def gN:∀(M:MS) (a:KF) (o:MO),aj (mput M a o)=aj M
 |[],_,_=>rfl
 |(b,p)::r,a,o=>by
  unfold mput;split
  .rfl
  .show b::aj (mput r a o)=b::aj r;rw[gN r a o]
def mem_put:∀{M:MS} {a b:KF} {o q:MO},(aj M).Nodup->(b,q)∈mput M a o->(b=a/\q=o/\a∈aj M)\/(b≠a/\(b,q)∈M)
 |[],_,_,_,_,_,h=>by cases h
 |(c,p)::r,a,b,o,q,nd,h=>by
  have Jv:c∉aj r/\(aj r).Nodup:=Go.mp nd;unfold mput at h;split at h
  .rename_i e;subst e;rcases FL.mp h with z|z
   .cases z;exact .inl #[rfl,rfl,FO]
   .have:b∈aj r:=bt z;exact .inr #[λe=>Jv.1 (e ▸ this),FM _ z]
  .rename_i ne;rcases FL.mp h with z|z
   .cases z;exact .inr #[ne,FO]
   .rcases mem_put Jv.2 z with⟨e1,e2,e3⟩|⟨e1,e2⟩
    .exact .inl #[e1,e2,FM _ e3]
    .exact .inr #[e1,FM _ e2]
def kq:∀{M:MS} {a b:KF} {q:MO},(aj M).Nodup->(b,q)∈mdel M a->b≠a/\(b,q)∈M
 |[],_,_,_,_,h=>by cases h
 |(c,p)::r,a,b,q,nd,h=>by
  have Jv:c∉aj r/\(aj r).Nodup:=Go.mp nd;unfold mdel at h;split at h
  .rename_i e;subst e;exact#[λe=>Jv.1 (e ▸ bt h),FM _ h]
  .rename_i ne;rcases FL.mp h with z|z
   .cases z;exact#[ne,FO]
   .obtain⟨e1,e2⟩:=kq Jv.2 z;exact#[e1,FM _ e2]
def del_sub:∀{M:MS} {a:KF},(aj (mdel M a)).Sublist (aj M)
 |[],_=>.slnil
 |(c,p)::r,a=>by
  unfold mdel;split
  .exact List.sublist_cons_self _ _
  .exact List.Sublist.cons_cons _ del_sub
variable{K:Ex}{F H F' H':Hp}
def MRep.mono(ff:Same F F')(hh:∀o,H a=be o->H' a=be o):∀{o:MO},MRep K F H a o->MRep K F' H' a o
 |.ins x fs,⟨C,dx,ws,n,h,r⟩=>#[C,dx,ws,n,hh _ h,RepF.mono ff fs ws r]
 |.lst ds,⟨vs,h,r⟩=>#[vs,hh _ h,Reps.mono ff ds vs r]
 |.dti a8,h=>hh _ h
def MRep.there:∀{o:MO},MRep K F H a o->H a≠r_
 |.ins x fs,⟨C,dx,ws,n,h,r⟩=>by rw[h];exact λz=>nomatch z
 |.lst ds,⟨vs,h,r⟩=>by rw[h];exact λz=>nomatch z
 |.dti a8,h=>by rw[show H a=_ from h];exact λz=>nomatch z
structure RepM(K:Ex)(F H:Hp)(M:MS):Prop where
 nd:(aj M).Nodup
 ok:∀a o,(a,o)∈M->MRep K F H a o
 fr:∀a,a∈aj M->F a=r_
def RepM.nil:RepM K F H []:=#[Ik,(λ_ _ h=>nomatch h),(λ_ h=>nomatch h)]
def RepM.here(r:RepM K F H M)(h:a∈aj M):H a≠none:=by
 obtain⟨⟨b,o⟩,h1,rfl⟩:=Gd.mp h;exact(r.ok _ _ h1).there
structure GrowM(M M':MS)(F H F' H':Hp):Prop where
 ff:Same F F'
 fh:Same F' H'
 hh:∀b o,b∉aj M->H b=be o->H' b=be o
 out:∀b,b∉aj M->F b=r_->H b≠r_->F' b=r_
 ks:∀b,b∈aj M'->b∈aj M\/H b=r_
def Grow.toM(g:Grow F H F' H'):GrowM M M F H F' H':=#[g.ff,g.fh,λb o _ h=>g.hh b o h,λb _ h1 h2=>g.out b h1 h2,λb h=>.inl h]
def GrowM.refl(h:Same F H):GrowM M M F H F H:=(Grow.refl h).toM
def GrowM.trans{M1 M2:MS}{F1 H1 F2 H2:Hp}(g:GrowM M M1 F H F1 H1)(k:GrowM M1 M2 F1 H1 F2 H2):GrowM M M2 F H F2 H2 where
  ff:=g.ff.trans k.ff
  fh:=k.fh
  hh:=λb o nb h=>k.hh b o (λz=>by rcases g.ks b z with q|q;exact nb q;rw[q]at h;cases h) (g.hh b o nb h)
  out:=λb nb h1 h2=>k.out b (λz=>by rcases g.ks b z with q|q;exact nb q;exact h2 q) (g.out b nb h1 h2) (by
    cases e:H b with
    |none=>exact absurd e h2
    |some o=>rw[g.hh b o nb e];exact λz=>nomatch z)
  ks :=λb h=>by
    rcases k.ks b h with q|q
    . exact g.ks b q
    . by_cases nb:b∈aj M
      . exact .inl nb
      . right;cases e:H b with
        |none=>rfl
        |some o=>rw[g.hh b o nb e]at q;cases q
def RepM.grow(r:RepM K F H M)(g:Grow F H F' H'):RepM K F' H' M:=
 #[r.nd,λa o h=>(r.ok a o h).mono g.ff λo e=>g.hh a o e,λa h=>g.out a (r.fr a h) (r.here h)]
variable{ho:HO}
def RepM.put{o':MO}(r:RepM K F H M)(e:mget M a=be o)(h:MRep K F (upd H a ho) a o'):RepM K F (upd H a ho) (mput M a o'):=
 ⟨by rw[gN];exact r.nd,λb q hb=>by
  rcases mem_put r.nd hb with⟨rfl,rfl,_⟩|⟨ne,hb⟩
  .exact h
  .exact(r.ok b q hb).mono (Same.refl F) λu z=>by rw[ay ne];exact z,λb hb=>r.fr b (by rw[gN]at hb;exact hb)⟩
def GrowM.put{o':MO}(fh:Same F H)(fa:F a=r_)(e:mget M a=be o):GrowM M (mput M a o') F H F (upd H a ho) where
 ff:=Same.refl F
 fh:=λb u z=>by
  have ne:b≠a:=by rintro rfl;rw[fa]at z;cases z
  rw[ay ne];exact fh b u z
 hh:=λb u nb z=>by
  have ne:b≠a:=by rintro rfl;exact nb (bt (bn e))
  rw[ay ne];exact z
 out:=λb _ h _=>h
 ks:=λb h=>.inl (by rw[gN]at h;exact h)
def RepM.new{p:KF}(r:RepM K F H M)(fh:Same F H)(hp:H p=r_)(h:MRep K F (upd H p ho) p o):RepM K F (upd H p ho) ((p,o)::M):=by
 have np:p∉aj M:=λz=>r.here z hp;refine#[Go.mpr #[np,r.nd],λb q hb=>?_,λb hb=>?_]
 .rcases FL.mp hb with z|z
  .cases z;exact h
  .exact(r.ok b q z).mono (Same.refl F) λu z'=>by rw[ay (λe:b=p=>np (e ▸ bt z))];exact z'
 .rcases FL.mp hb with z|z
  .rw[z];exact fh.free hp
  .exact r.fr b z
def GrowM.new{p:KF}(fh:Same F H)(hp:H p=r_):GrowM M ((p,o)::M) F H F (upd H p ho) where
 ff:=Same.refl F
 fh:=fh.trans (aP hp _)
 hh:=λb u _ z=>aP hp _ b u z
 out:=λb _ h _=>h
 ks:=λb h=>by
  rcases FL.mp h with z|z
  .exact .inr (by rw[z];exact hp)
  .exact .inl z
structure RepZ(K:Ex)(B F H:Hp)(z:SD)(s:L2.St)(M:MS):Prop where
 rs:RepS K B F H z s
 no:∀(i:Nat) ds,z[i]?≠be (be (.own ds))
 rm:RepM K F H M
 mb:∀a,a∈aj M->B a=r_
variable{B:Hp}{M':MS}
def Kept.growM[Jx]{F0:Hp}(k:Kept B F0 F H)(mb:∀a,a∈aj M->B a=r_)(g:GrowM M M' F H F' H'):Kept B F0 F' H' where
 bh:=λb o e=>g.hh b o (λz=>by rw[mb b z]at e;cases e) (k.bh b o e)
 fh:=g.fh
 f0:=k.f0.trans g.ff
 out:=λb h1 h2=>g.out b (λz=>h2 (mb b z)) (k.out b h1 h2) (by
  cases e:B b with
  |none=>exact absurd e h2
  |some o=>rw[k.bh b o e];exact λz=>nomatch z)
 eb:=k.eb
 jf:=k.jf
 jo:=k.jo
variable{z:SD}{s:L2.St}
def RepS.growM(r:RepS K B F H z s)(no:∀(i:Nat) ds,z[i]?≠be (be (.own ds)))(g:GrowM M M' F H F' H'):RepS K B F' H' z s where
 len:=r.len
 val:=λi d e n=>let ⟨v,q1,q2⟩:=r.val i d e n;#[v,q1,q2.mono g.ff]
 own:=λi ds e=>absurd e (no i ds)
 apart:=r.apart
def RepZ.growM(r:RepZ K B F H z s M)(bh:Same B H)(g:GrowM M M' F H F' H')(rm:RepM K F' H' M'):RepZ K B F' H' z s M':=
 ⟨r.rs.growM r.no g,r.no,rm,λa h=>by
  rcases g.ks a h with q|q
  .exact r.mb a q
  .exact bh.free q⟩
def RepZ.set{i:Nat}{d:D}{v:V}(r:RepZ K B F H z s M)(rd:Rep K F d v):RepZ K B F H (z.set i (be d)) (s.set i (be v)) M:=
 ⟨r.rs.set rd,λj ds e=>by
  by_cases hj:i=j
  .subst hj;rw[GT]at e;simp at e;have:=rd.noown;rw[e.2]at this;cases this
  .rw[F4 hj]at e;exact r.no j ds e,r.rm,r.mb⟩
class Jm extends Jx where
 RM:SD->MS->XD
abbrev TME:=SD->MS->(D->MS->Prop)->Prop
abbrev TMT:=SD->MS->(Bool->MS->Prop)->Prop
abbrev TMA:=SD->MS->(List D->MS->Prop)->Prop
structure EndsM where
 nx:SD->MS->Prop
 rt:D->MS->Prop
 bk:SD->MS->Prop:=λ_ _=>False
 ct:SD->MS->Prop:=λ_ _=>False
abbrev TMS:=EndsM->SD->MS->Prop
def mE(K:Ex)[J:Jm](t:TME):TE:=λs H Q=>∃F z M,Kept J.B J.F0 F H/\RepZ K J.B F H z s M/\∃R:D->MS->Prop,t z M R/\∀d v M' F' H',GrowM M M' F H F' H'->R d M'->Rep K F' d v->RepM K F' H' M'->Q v H'
def mT(K:Ex)[J:Jm](t:TMT):TT:=λs H Q=>∃F z M,Kept J.B J.F0 F H/\RepZ K J.B F H z s M/\∃R:Bool->MS->Prop,t z M R/\∀b M' F' H',GrowM M M' F H F' H'->R b M'->RepM K F' H' M'->Q b H'
def mA(K:Ex)[J:Jm](t:TMA):TA:=λs H Q=>∃F z M,Kept J.B J.F0 F H/\RepZ K J.B F H z s M/\∃R:List D->MS->Prop,t z M R/\∀ds vs M' F' H',GrowM M M' F H F' H'->R ds M'->Reps K F' ds vs->RepM K F' H' M'->Q vs H'
structure EndsOkM[J:Jm](K:Ex)(F0:Hp)(ED:EndsM)(E:Ends):Prop where
 nx:∀z' s' M' F' H',Kept J.B F0 F' H'->ED.nx z' M'->RepZ K J.B F' H' z' s' M'->E.nx s' H'
 rt:∀d v M' F' H',Kept J.B F0 F' H'->ED.rt d M'->Rep K F' d v->RepM K F' H' M'->(∀a,a∈aj M'->J.B a=r_)->E.rt v H'
 bk:∀z' s' M' F' H',Kept J.B F0 F' H'->ED.bk z' M'->RepZ K J.B F' H' z' s' M'->E.bk s' H'
 ct:∀z' s' M' F' H',Kept J.B F0 F' H'->ED.ct z' M'->RepZ K J.B F' H' z' s' M'->E.ct s' H'
def mS(K:Ex)[J:Jm](t:TMS):TS:=λE s H=>∃F0 F z M,Kept J.B F0 F H/\RepZ K J.B F H z s M/\∃ED:EndsM,t ED z M/\EndsOkM K F0 ED E
structure ME(X:Cx)[Jm](e:P3)(t:TME):Prop where
 out:PE X e (mE X.K t)
structure MT(X:Cx)[Jm](e:P3)(t:TMT):Prop where
 out:PT X e (mT X.K t)
structure MW(X:Cx)[Jm](e:P3)(t:TMT):Prop where
 out:PW X e (mT X.K t)
structure MA(X:Cx)[Jm](es:List P3)(t:TMA):Prop where
 out:PA X es (mA X.K t)
structure MSt(X:Cx)[Jm](st:Q6)(t:TMS):Prop where
 out:PS X st (mS X.K t)
structure MSs(X:Cx)[Jm](st:List Q6)(t:TMS):Prop where
 out:PSs X st (mS X.K t)
section
variable {X:Cx}{a b c e:P3}{ta tb:TME}{pos:Ri}
def mP(t:TD):TME:=λz M R=>t z λd=>R d M
def mPT(t:TDT):TMT:=λz M R=>t z λd=>R d M
def mPA(t:TDA):TMA:=λz M R=>t z λd=>R d M
def ag[J:Jm]{t:TD}(h:WDE X e t):ME X e (mP t):=⟨PE.anti h.out λs H Q q=>by
 obtain⟨F,z,M,k,r,R,h1,h2⟩:=q;exact#[J.B,F,z,k,r.rs,_,h1,λd v F' H' g hd rd=>h2 d v M F' H' g.toM hd rd (r.rm.grow g)]⟩
def bH[J:Jm]{t:TDT}(h:WDT X e t):MT X e (mPT t):=⟨PT.anti h.out λs H Q q=>by
 obtain⟨F,z,M,k,r,R,h1,h2⟩:=q;exact#[J.B,F,z,k,r.rs,_,h1,λd F' H' g hd=>h2 d M F' H' g.toM hd (r.rm.grow g)]⟩
variable{es:List P3}
def aB[J:Jm]{t:TDA}(h:WDA X es t):MA X es (mPA t):=⟨PA.anti h.out λs H Q q=>by
 obtain⟨F,z,M,k,r,R,h1,h2⟩:=q;exact#[J.B,F,z,k,r.rs,_,h1,λd v F' H' g hd rd=>h2 d v M F' H' g.toM hd rd (r.rm.grow g)]⟩
def mOp(r:RD2)(ta tb:TME):TME:=λz M R=>ta z M λx M1=>tb z M1 λy M2=>r x y λd=>R d M2
variable{r:R2}{rd:RD2}
def su[J:Jm]{e:P3}{ta tb:TME}(L:aY X.K r rd)(h:PE X e (tOp r (mE X.K ta) (mE X.K tb))):ME X e (mOp rd ta tb):=⟨h.anti λs H Q q=>by
 obtain⟨F,z,M,k,rs,R,h1,h2⟩:=q;refine#[F,z,M,k,rs,_,h1,λx u M1 F1 H1 g1 hx rx m1=>?_];refine#[F1,z,M1,k.growM rs.mb g1,rs.growM k.bh g1 m1,_,hx,λy v M2 F2 H2 g2 hy ry m2=>?_];exact L x y u v F2 H2 _ Q g2.fh hy (rx.mono g2.ff) ry λd w F3 H3 g3 hd rd=>h2 d w M2 F3 H3 ((g1.trans g2).trans g3.toM) hd rd (m2.grow g3)⟩
def sy[J:Jm]{op:So}(ho:OpR X (Rt op) r)(L:aY X.K r rd)(ha:ME X a ta)(hb:ME X b tb):ME X (.BinOp a op b pos) (mOp rd ta tb):=su L (jz ho ha.out hb.out)
def sA[J:Jm](ha:ME X a ta)(hb:ME X b tb)(hs:autoParam (dS b) zA6):ME X (.Subscript a b pos) (mOp rdIx ta tb):=su rj (pe_ix qB ha.out hb.out hs)
def gO[Jm](ha:ME X a ta)(hb:ME X b tb):ME X (.BinOp a .Add b pos) (mOp jR ta tb):=sy qR qS ha hb
def cS[Jm](ha:ME X a ta)(hb:ME X b tb):ME X (.BinOp a .Sub b pos) (mOp jS ta tb):=sy pX qT ha hb
def mTst(t:TME):TMT:=λz M R=>t z M λx M1=>match x with|.bl k=>R k M1|_=>False
def eK[J:Jm]{op:SZ}(ho:OpR X (Rp op) r)(L:aY X.K r rd)(ha:ME X a ta)(hb:ME X b tb)(hm:Ry op b=false):MT X (.Compare a [op] [b] pos) (mTst (mOp rd ta tb)):=⟨(qh ho ha.out hb.out hm).anti λs H Q q=>by
 obtain⟨F,z,M,k,rs,R,h1,h2⟩:=q;refine#[F,z,M,k,rs,_,h1,λx u M1 F1 H1 g1 hx rx m1=>?_];refine#[F1,z,M1,k.growM rs.mb g1,rs.growM k.bh g1 m1,_,hx,λy v M2 F2 H2 g2 hy ry m2=>?_];refine L x y u v F2 H2 _ _ g2.fh hy (rx.mono g2.ff) ry λd w F3 H3 g3 hd rd=>?_;dsimp only at hd;split at hd
 .exact#[_,rep_bl.mp rd,h2 _ M2 F3 H3 ((g1.trans g2).trans g3.toM) hd (m2.grow g3)]
 .exact hd.elim⟩
def sB[Jm](ha:ME X a ta)(hb:ME X b tb):MT X (.Compare a [.Lt] [b] pos) (mTst (mOp rdLt ta tb)):=eK qf rb ha hb (nomark _)
def zv[Jm](ha:ME X a ta)(hb:ME X b tb):MT X (.Compare a [.Gt] [b] pos) (mTst (mOp rdGt ta tb)):=eK jB jT ha hb (nomark _)
def gP[Jm](ha:ME X a ta)(hb:ME X b tb):MT X (.Compare a [.Eq] [b] pos) (mTst (mOp rdEq ta tb)):=eK jA jU ha hb (nomark _)
def kr[Jm](ha:ME X a ta)(hb:ME X b tb):MT X (.Compare a [.NotEq] [b] pos) (mTst (mOp rdNe ta tb)):=eK qe re ha hb (nomark _)
def sC[Jm](ha:ME X a ta)(hb:ME X b tb):MT X (.Compare a [.Is] [b] pos) (mTst (mOp (rdIs id) ta tb)):=eK qg rh ha hb (nomark _)
def zw[Jm](ha:ME X a ta)(hb:ME X b tb)(hm:autoParam (Ry .NotIn b=false) zA0):MT X (.Compare a [.NotIn] [b] pos) (mTst (mOp (rdIn true) ta tb)):=eK zo zn ha hb hm
variable {tA tB:TMT}{b7:List P3}
def mt_w[Jm](h:MW X a tA):MT X a tA:=#[PW.pt h.out]
def zx[Jm](ha:MT X a tA):MW X (.BoolOp .And [a] pos) tA:=#[pM ha.out]
def gQ[Jm](ha:MT X a tA):MW X (.BoolOp .Or [a] pos) tA:=#[pN ha.out]
def mAnd(tA tB:TMT):TMT:=λz M R=>tA z M λk M1=>if k=true then tB z M1 R else R false M1
def mOr(tA tB:TMT):TMT:=λz M R=>tA z M λk M1=>if k=true then R true M1 else tB z M1 R
def zy[J:Jm](ha:MT X a tA)(hb:MW X (.BoolOp .And (b::b7) pos) tB):MW X (.BoolOp .And (a::b::b7) pos) (mAnd tA tB):=⟨(pO ha.out hb.out).anti λs H Q q=>by
 obtain⟨F,z,M,k,rs,R,h1,h2⟩:=q;refine#[F,z,M,k,rs,_,h1,λx M1 F1 H1 g1 hx m1=>?_];cases x with
 |true=>exact#[F1,z,M1,k.growM rs.mb g1,rs.growM k.bh g1 m1,R,hx,λy M2 F2 H2 g2 hy m2=>h2 y M2 F2 H2 (g1.trans g2) hy m2]
 |false=>exact h2 _ M1 F1 H1 g1 hx m1⟩
def gR[J:Jm](ha:MT X a tA)(hb:MW X (.BoolOp .Or (b::b7) pos) tB):MW X (.BoolOp .Or (a::b::b7) pos) (mOr tA tB):=⟨(pP ha.out hb.out).anti λs H Q q=>by
 obtain⟨F,z,M,k,rs,R,h1,h2⟩:=q;refine#[F,z,M,k,rs,_,h1,λx M1 F1 H1 g1 hx m1=>?_];cases x with
 |false=>exact#[F1,z,M1,k.growM rs.mb g1,rs.growM k.bh g1 m1,R,hx,λy M2 F2 H2 g2 hy m2=>h2 y M2 F2 H2 (g1.trans g2) hy m2]
 |true=>exact h2 _ M1 F1 H1 g1 hx m1⟩
def mIf(tc:TMT)(ta tb:TME):TME:=λz M R=>tc z M λk M1=>if k=true then ta z M1 R else tb z M1 R
def fQ[J:Jm]{tc:TMT}(hc:MT X c tc)(ha:ME X a ta)(hb:ME X b tb):ME X (.IfExp c a b pos) (mIf tc ta tb):=⟨(vO hc.out ha.out hb.out).anti λs H Q q=>by
 obtain⟨F,z,M,k,rs,R,h1,h2⟩:=q;refine#[F,z,M,k,rs,_,h1,λx M1 F1 H1 g1 hx m1=>?_];cases x with
 |true=>exact#[F1,z,M1,k.growM rs.mb g1,rs.growM k.bh g1 m1,R,hx,λd v M2 F2 H2 g2 hy rd m2=>h2 d v M2 F2 H2 (g1.trans g2) hy rd m2]
 |false=>exact#[F1,z,M1,k.growM rs.mb g1,rs.growM k.bh g1 m1,R,hx,λd v M2 F2 H2 g2 hy rd m2=>h2 d v M2 F2 H2 (g1.trans g2) hy rd m2]⟩
def mNil:TMA:=λ_ M R=>R [] M
def zz(ta:TME)(tr:TMA):TMA:=λz M R=>ta z M λx M1=>tr z M1 λxs M2=>R (x::xs) M2
def aW[J:Jm]:MA X [] mNil:=⟨pa_nil.anti λs H Q q=>by
 obtain⟨F,z,M,k,rs,R,h1,h2⟩:=q;exact h2 [] [] M F H (GrowM.refl k.fh) h1 (reps_nil.mpr rfl) rs.rm⟩
variable{t:TMA}
def aE[J:Jm]{e:P3}{te:TME}(ha:ME X e te)(hr:MA X es t)(hs:autoParam (zSE X e es) zA0):MA X (e::es) (zz te t):=⟨(bv ha.out hr.out hs).anti λs H Q q=>by
 obtain⟨F,z,M,k,rs,R,h1,h2⟩:=q;refine#[F,z,M,k,rs,_,h1,λx u M1 F1 H1 g1 hx rx m1=>?_];refine#[F1,z,M1,k.growM rs.mb g1,rs.growM k.bh g1 m1,_,hx,λxs us M2 F2 H2 g2 hy ry m2=>?_];exact h2 _ _ M2 F2 H2 (g1.trans g2) hy (reps_cons.mpr #[_,_,rfl,rx.mono g2.ff,ry]) m2⟩
def mTup(t:TMA):TME:=λz M R=>t z M λxs M1=>xs.length<=1000/\R (.tup xs) M1
def sE[J:Jm]{x1}(h:MA X es t):ME X (.Tuple es x1 pos) (mTup t):=⟨(qp h.out).anti λs H Q q=>by
 obtain⟨F,z,M,k,rs,R,h1,h2⟩:=q;refine#[F,z,M,k,rs,_,h1,λds vs M1 F1 H1 g1 hx rx m1=>?_];have hl:=rx.length;refine#[sz (by rw[hl];exact hx.1),λp hp=>?_];have gn:=Grow.new g1.fh hp (.tup vs);exact h2 _ _ M1 _ _ (g1.trans gn.toM) hx.2 (rep_tupS.mpr #[p,vs,rfl,aG,rx.mono (aP (g1.fh.free hp) _)]) (m1.grow gn)⟩
def mLst(t:TMA):TME:=λz M R=>t z M λxs M1=>xs.length<=1000/\∀p,p∉aj M1->R (.ptr p) ((p,.lst xs)::M1)
def ku[J:Jm](h:MA X es t):ME X (.List es pos) (mLst t):=⟨(gx h.out).anti λs H Q q=>by
 obtain⟨F,z,M,k,rs,R,h1,h2⟩:=q;refine#[F,z,M,k,rs,_,h1,λds vs M1 F1 H1 g1 hx rx m1=>?_];have hl:=rx.length;refine#[sz (by rw[hl];exact hx.1),λp hp=>?_];exact h2 _ _ _ F1 _ (g1.trans (GrowM.new g1.fh hp)) (hx.2 p λz=>m1.here z hp) (rep_ptr.mpr rfl) (m1.new g1.fh hp #[vs,aG,rx])⟩
def mCB(r:RDn)(t:TMA):TME:=λz M R=>t z M λds M1=>r ds λd=>R d M1
variable{x:A_}{p:Ri}
def zA[J:Jm]{e:P3}{id:String}{r:List V->Hp->VK->Prop}{rd:RDn}(hc:bE X (.builtin id) r)(L:cf X.K r rd)(hm:X.mg x=r_)(hv:Rm x=be (.builtin id))(ha:MA X (e::es) t)(hg:autoParam (Gl X x) zA0)(hn:autoParam (x≠"__name__") zA1)(d7:autoParam (zND x) zA1)
  (he:autoParam (zSE X e es) zA0) (c_:autoParam (zPL X pos es) zA0):ME X (.Call (.Name x p) (e::es) [] pos) (mCB rd t):=⟨(fw hc hg hm hv ha.out hn d7 he c_).anti λs H Q h=>by
 obtain⟨F,z,M,k,rs,R,h1,h2⟩:=h;refine#[F,z,M,k,rs,_,h1,λds vs M1 F1 H1 g1 hx rx m1=>?_];exact L ds vs F1 H1 _ Q g1.fh hx rx λd w F' H' g hd rd=>h2 d w M1 F' H' (g1.trans g.toM) hd rd (m1.grow g)⟩
def sF[Jm]{e:P3}(hm:X.mg "len"=r_)(ha:MA X [e] t)(hg:autoParam (Gl X "len") zA0)(he:autoParam (zSE X e []) zA0):ME X (.Call (.Name "len" p) [e] [] pos) (mCB jV t):=zA jC rl hm PySem.boot_len ha hg JQ JQ he
def zB[J:Jm]{e:P3}{T:String}{r:List V->Hp->VK->Prop}{rd:RDn}(hc:bE X (.type T) r)(L:cf X.K r rd)(hm:X.mg x=r_)(hv:Rm x=be (.type T))(ha:MA X (e::es) t)(hg:autoParam (Gl X x) zA0)(hn:autoParam (x≠"__name__") zA1)(d7:autoParam (zND x) zA1)
  (he:autoParam (zSE X e es) zA0) (c_:autoParam (zPL X pos es) zA0):ME X (.Call (.Name x p) (e::es) [] pos) (mCB rd t):=⟨(qu hc hg hm hv ha.out hn d7 he c_).anti λs H Q h=>by
 obtain⟨F,z,M,k,rs,R,h1,h2⟩:=h;refine#[F,z,M,k,rs,_,h1,λds vs M1 F1 H1 g1 hx rx m1=>?_];exact L ds vs F1 H1 _ Q g1.fh hx rx λd w F' H' g hd rd=>h2 d w M1 F' H' (g1.trans g.toM) hd rd (m1.grow g)⟩
def sG[Jm](hm:X.mg "int"=r_)(ha:MA X [e] t)(hg:autoParam (Gl X "int") zA0)(he:autoParam (zSE X e []) zA0):ME X (.Call (.Name "int" p) [e] [] pos) (mCB jY t):=zB rK rL hm PyProof.Rows.boot_int ha hg JQ JQ he
def cT(M:MS)(d:D)(x:A_)(fs:List (A_×D)):Prop:=match d with|.ptr a=>mget M a=be (.ins x fs)|.obj y gs=>y=x/\gs=fs|_=>False
def mFld(x f:A_)(te:TME):TME:=λz M R=>te z M λd M1=>∃fs,cT M1 d x fs/\∃d',fs.lookup f=be d'/\R d' M1
def gS{K:Ex}{F H:Hp}{M:MS}{d:D}{v:V}{fs:List (A_×D)}(fh:Same F H)(rm:RepM K F H M)(rd:Rep K F d v)(h:cT M d x fs):∃a C dx ws,v=.ref a/\nsIn K Pi x=be (be (.ref C))/\H a=be (.ins C dx ws)/\RepF K F fs ws:=by
 unfold cT at h;split at h
 .rename_i a;obtain⟨C,dx,ws,n,h1,h2⟩:=rm.ok _ _ (bn h);exact#[a,C,dx,ws,rep_ptr.mp rd,n,h1,h2]
 .obtain⟨rfl,rfl⟩:=h;obtain⟨a,C,dx,ws,e,n,h1,h2⟩:=rep_obj.mp rd;exact#[a,C,dx,ws,e,n,fh _ _ h1,h2]
 .exact h.elim
def aF[J:Jm]{f:A_}(hA:ClsA X.K x f)(he:ME X e ta)(hb:autoParam (Rh e f X.env (Rg e X.env)=Rg e X.env) zA0):ME X (.Attribute e f pos) (mFld x f ta):=⟨(ql he.out hb).anti λs H Q q=>by
 obtain⟨C,hn,hc,hf⟩:=hA;obtain⟨F,z,M,k,rs,R,h1,h2⟩:=q;refine#[F,z,M,k,rs,_,h1,λd u M1 F1 H1 g1 hx rx m1=>?_];obtain⟨fs,hi,d',hl,hR⟩:=hx;obtain⟨a,C',dx,ws,rfl,l9,hH,rf⟩:=gS g1.fh m1 rx hi;rw[hn]at l9;cases l9;obtain⟨v,l,rv⟩:=rf.look hl;exact#[a,C,dx,ws,v,rfl,hH,hc,hf,l,h2 d' v M1 F1 H1 g1 hR rv m1]⟩
end
abbrev XDM:=A_->List (A_×D)->MS->Prop
abbrev SpM:=List D->MS->(D->MS->Prop)->XDM->Prop
def lSpM(K:Ex)(S:SpM):Sp:=λvs H Q E=>∃F ds M,Same F H/\Reps K F ds vs/\RepM K F H M/\∃(R:D->MS->Prop) (RX:XDM),S ds M R RX/\(∀d v M' F' H',GrowM M M' F H F' H'->R d M'->Rep K F' d v->RepM K F' H' M'->Q v H')/\
 ∀x fs C od M' F' H',GrowM M M' F H F' H'->RX x fs M'->ErrD K F' x fs C od->RepM K F' H' M'->E (.ref C) od H'
abbrev CalMM(P:Q5)(w:Q_)(K:Ex)(mg:A_->Option KB)(base:Rc)(n:Nat)(x:A_)(ps:List A_)(S:SpM):Prop:=Cal P w K mg base n x ps (lSpM K S)
def ofX(S:SpX):SpM:=λds M R RX=>S ds (λd=>R d M) λx fs=>RX x fs M
def ofD(S:SpD):SpM:=λds M R _=>S ds λd=>R d M
variable{vs:List V}
def zC{S:SpX}{Q:VK}{E:XK}(h:lSpM K (ofX S) vs H Q E):lSpX K S vs H Q E:=by
 obtain⟨F,ds,M,fh,rs,rm,R,RX,hS,q,qx⟩:=h;exact#[F,ds,fh,rs,_,_,hS,λd v F' H' g hd rd=>q d v M F' H' g.toM hd rd (rm.grow g),λx fs C od F' H' g hR er=>qx x fs C od M F' H' g.toM hR er (rm.grow g)]
def zD{S:SpD}{Q:VK}{E:XK}(h:lSpM K (ofD S) vs H Q E):lSp K S vs H Q E:=by
 obtain⟨F,ds,M,fh,rs,rm,R,RX,hS,q,qx⟩:=h;exact#[F,ds,fh,rs,_,hS,λd v F' H' g hd rd=>q d v M F' H' g.toM hd rd (rm.grow g)]
section
variable {P:Q5}{w:Q_}{K:Ex}{mg:A_->Option KB}{base:Rc}{n:Nat}{x:A_}{ps:List A_}
def CalX.toM{S:SpX}(C:CalX P w K mg base n x ps S):CalMM P w K mg base n x ps (ofX S):=by
 obtain⟨f,fd,F,hb,hk,hm⟩:=C;exact#[f,fd,F.imp λvs H Q E h=>zC h,hb,hk,hm]
def CalD.toM{S:SpD}(C:CalD P w K mg base n x ps S):CalMM P w K mg base n x ps (ofD S):=by
 obtain⟨f,fd,F,hb,hk,hm⟩:=C;exact#[f,fd,F.imp λvs H Q E h=>zD h,hb,hk,hm]
def CalMth(P:Q5)(w:Q_)(K:Ex)(mg:A_->Option KB)(base:Rc)(n:Nat)(x m:A_)(ps:List A_)(sp:Sp):Prop:=
 ∃C f fd,nsIn K Pi x=be (be (.ref C))/\Cls K C/\Meth K C m f/\FnOk P w K mg base (CX1 P w) n f fd ps sp/\Binds K fd ps []
variable{sp:Sp}
def Cal.mono{n':Nat}(h:Cal P w K mg base n x ps sp)(hn:n<=n'):Cal P w K mg base n' x ps sp:=by
 obtain⟨f,fd,F,h⟩:=h;exact#[f,fd,F.mono hn,h]
def Cal.imp{Jr:Sp}(h:Cal P w K mg base n x ps sp)(i:∀vs H Q E,Jr vs H Q E->sp vs H Q E):Cal P w K mg base n x ps Jr:=by
 obtain⟨f,fd,F,h⟩:=h;exact#[f,fd,F.imp i,h]
def CalMth.imp{m:A_}{Jr:Sp}(h:CalMth P w K mg base n x m ps sp)(i:∀vs H Q E,Jr vs H Q E->sp vs H Q E):CalMth P w K mg base n x m ps Jr:=by
 obtain⟨C,f,fd,h1,h2,h3,h4,h5⟩:=h;exact#[C,f,fd,h1,h2,h3,h4.imp i,h5]
end
def XOkM(X:Cx)[J:Jm]:Prop:=∀(σ:L2.St) (z:SD) (M:MS) (F H:Hp) (s:KM) (e C:KF) (od:Option KF) (x:A_) (fs:List (A_×D)),Inv X [] σ H s->Kept J.B J.F0 F H->RepZ X.K J.B F H z σ M->J.RM z M x fs->ErrD X.K F x fs C od->Exd X H s e C od->X.xe (.ref e) s
def EX(X:Cx)[J:Jm](z:SD)(σ:L2.St):XK:=λCv od H'=>∃x fs C M' F',Cv=.ref C/\Kept J.B J.F0 F' H'/\RepZ X.K J.B F' H' z σ M'/\J.RM z M' x fs/\ErrD X.K F' x fs C od
def XOkM.out{X:Cx}[J:Jm](hx:XOkM X)(f9:X.ex=[]){pins:List (KF×Ro)}{σ:L2.St}{s s':KM}{ev:KB}(I:Inv X pins σ H s)
  (h:CX1 X.prog X.w X.stack H s (EX X z σ) ev s'):X.xe ev s':=by
 obtain⟨e,C,od,T,H',rfl,D',hb,un,hok,Mt,ne,nT,He,HT,x,fs,C',M',F',hC,kk,rr,hR,er⟩:=h;cases hC;have I':Inv X pins σ H' s':=I.call' D' un hok hb (λb z=>absurd z JU);exact hx σ z M' F' H' s' e C od x fs (Inv.nopins I') kk rr hR er #[He,cR I f9 ne,pn_free I ne,.inr #[T,Mt,cR I f9 nT,HT,pn_free I nT]]
section
variable {X:Cx}[J:Jm]{a b c e o:P3}{ta tb te:TME}{pos p b_ a_:Ri}{n m:Nat}{ps:List A_}{S:SpM}{x:A_}{es:List P3}{t:TMA}
def zE(S:SpM)(t:TMA):TME:=λz M R=>t z M λds M1=>S ds M1 R λx fs M'=>J.RM z M' x fs
variable{ds:List My.D}{vs:List V}
def gT{σ:L2.St}{z:SD}{M M1:MS}{F H F1 H1:Hp}{Q:VK}{R:D->MS->Prop}(k:Kept J.B J.F0 F H)(rs:RepZ X.K J.B F H z σ M)(g1:GrowM M M1 F H F1 H1)(m1:RepM X.K F1 H1 M1)(rx:Reps X.K F1 ds vs)
  (hS:S ds M1 R λx fs M'=>J.RM z M' x fs) (h2:∀d v M' F' H',GrowM M M' F H F' H'->R d M'->Rep X.K F' d v->RepM X.K F' H' M'->Q v H'):lSpM X.K S vs H1 Q (EX X z σ):=
 #[F1,ds,M1,g1.fh,rx,m1,R,_,hS,λd v M' F' H' g hd rd m'=>h2 d v M' F' H' (g1.trans g) hd rd m',λy fs C od M' F' H' g hR er m'=>#[y,fs,C,M',F',rfl,(k.growM rs.mb g1).growM (rs.growM k.bh g1 m1).mb g,(rs.growM k.bh g1 m1).growM (k.growM rs.mb g1).bh g m',hR,er]]
def aM(C:CalMM X.prog X.w X.K X.mg X.base n x ps S)(hx:XOkM X)(hr:Room m X.A)(ha:MA X (e::es) t)(f9:autoParam (X.ex=[]) zA0)(hg:autoParam (Gl X x) zA0)(hn:autoParam (n<=m) zA1)(d7:autoParam (zND x) zA1)
  (he:autoParam (zSE X e es) zA0) (c_:autoParam (zPL X pos es) zA0):
  ME X (.Call (.Name x p) (e::es) [] pos) (zE S t):=by
 obtain⟨f,fd,F,hb,hk,hm⟩:=C;refine#[λpins s σ H Q I h=>?_];obtain⟨Fr,z,M,k,rs,R,h1,h2⟩:=h;refine Rl (cN I hg hm ?_ d7);refine callWith_K (h₀:=X.base) I.ok.mod.kin hk (thn (ha.out pos pins s σ H (λvs H1=>lSpM X.K S vs H1 Q (EX X z σ)) I #[Fr,z,M,k,rs,_,h1,λds vs M1 F1 H1 g1 hx rx m1=>gT k rs g1 m1 rx hx h2]) λus s1 hh=>#[hh.elim λ_ h=>h.elim λ_ h=>h.1.kIn,?_]) he c_;obtain⟨vs,H1,I1,r,q⟩:=hh;exact gK F (hr.mono hn) hb (λe s' hq=>hx.out f9 I1 hq) I1 r q
def sH(cs:List A_)(m:A_)(S:A_->SpM)(to:TME)(t:TMA):TME:=λz M R=>to z M λd M1=>∃x,x∈cs/\∃fs,cT M1 d x fs/\fs.lookup m=r_/\t z M1 λds M2=>S x (d::ds) M2 R λx fs M'=>J.RM z M' x fs
variable{cs:List A_}{pl:SF Bool}
def aV{nm:A_}{S:A_->SpM}(C:∀x,x∈cs->CalMth X.prog X.w X.K X.mg X.base n x nm ps (lSpM X.K (S x)))(hx:XOkM X)(hr:Room m X.A)(ho:ME X o te)(ha:MA X (e::es) t)(f9:autoParam (X.ex=[]) zA0)(hn:autoParam (n<=m) zA1)
  (j5:autoParam (zSE X e es) zA0) (c_:autoParam (zPL X pos es) zA0)
  (ht:Rg (.Call (.Attribute o nm b_) (e::es) [] pos) X.env=(do
   let ov <-Rg o X.env
   RO b_.atName
   let (f,first) <-Ru [ov] (Sb ov nm pl)
   callWith pos f first (RZ pos (Re (e::es) X.env)) (Sn pos (R6 [] X.env))):=by rfl):
  ME X (.Call (.Attribute o nm b_) (e::es) [] pos) (sH cs nm S te t):=by
 refine#[λpins s σ H Q I h=>?_];obtain⟨Fr,z,M,k,rs,R,h1,h2⟩:=h;refine methodCall_KW (pl:=pl) (thn (ho.out pins s σ H (λv H1=>∃d M1 F1,GrowM M M1 Fr H F1 H1/\Rep X.K F1 d v/\RepM X.K F1 H1 M1/\∃x,x∈cs/\∃fs,cT M1 d x fs/\fs.lookup nm=r_/\t z M1 λds M2=>S x (d::ds) M2 R λx fs M'=>J.RM z M' x fs) I #[Fr,z,M,k,rs,_,h1,λd v M1 F1 H1 g1 hd rd m1=>#[d,M1,F1,g1,rd,m1,hd]]) λu s1 hh=>?_) ht;obtain⟨v,H1,I1,rv,d,M1,F1,g1,rd,m1,x,Mv,fs,hi,hl,hq⟩:=hh;obtain⟨C',f,fd,hns,p8,Jw,F,hb⟩:=C x Mv;obtain⟨a,C2,dx,ws,rfl,l8,hH,rf⟩:=gS g1.fh m1 rd hi;rw[hns]at l8;cases l8;obtain rfl:u=Value.ref a:=rv;refine jE I1 hH p8 Jw (rf.none hl) ?_;refine callWith_K (first:=[.ref a]) (h₀:=X.base) I.ok.mod.kin Jw.kp (thn (ha.out pos pins s1 σ H1 (λvs H2=>lSpM X.K (S x) (.ref a::vs) H2 Q (EX X z σ)) I1 #[F1,z,M1,k.growM rs.mb g1,rs.growM k.bh g1 m1,_,hq,λds vs M2 F2 H2 g2 hx rx m2=>gT k rs (g1.trans g2) m2 (reps_cons.mpr #[_,_,rfl,rd.mono g2.ff,rx]) hx h2]) λus s2 hh=>#[hh.elim λ_ h=>h.elim λ_ h=>h.1.kIn,?_]) j5 c_;obtain⟨vs,H2,I2,r,q2⟩:=hh;exact gK (us:=.ref a::us) (vs:=.ref a::vs) F (hr.mono hn) hb (λe s' hq=>hx.out f9 I2 hq) I2 (.cons rfl r) q2
def bI{nm:A_}{S:A_->SpM}(C:∀x,x∈cs->CalMth X.prog X.w X.K X.mg X.base n x nm ps (lSpM X.K (S x)))(hx:XOkM X)(hr:Room m X.A)(ho:ME X o te)(f9:autoParam (X.ex=[]) zA0)(hn:autoParam (n<=m) zA1)
  (ht:Rg (.Call (.Attribute o nm b_) [] [] pos) X.env=(do
   let ov <-Rg o X.env
   RO b_.atName
   let (f,first) <-Ru [ov] (Sb ov nm pl)
   callWith pos f first (RZ pos (Re [] X.env)) (Sn pos (R6 [] X.env))):=by rfl):
  ME X (.Call (.Attribute o nm b_) [] [] pos) (sH cs nm S te mNil):=by
 refine#[λpins s σ H Q I h=>?_];obtain⟨Fr,z,M,k,rs,R,h1,h2⟩:=h;refine methodCall_KW (pl:=pl) (thn (ho.out pins s σ H (λv H1=>∃d M1 F1,GrowM M M1 Fr H F1 H1/\Rep X.K F1 d v/\RepM X.K F1 H1 M1/\∃x,x∈cs/\∃fs,cT M1 d x fs/\fs.lookup nm=r_/\S x [d] M1 R λx fs M'=>J.RM z M' x fs) I #[Fr,z,M,k,rs,_,h1,λd v M1 F1 H1 g1 hd rd m1=>#[d,M1,F1,g1,rd,m1,hd]]) λu s1 hh=>?_) ht;obtain⟨v,H1,I1,rv,d,M1,F1,g1,rd,m1,x,Mv,fs,hi,hl,hq⟩:=hh;obtain⟨C',f,fd,hns,p8,Jw,F,hb⟩:=C x Mv;obtain⟨a,C2,dx,ws,rfl,l8,hH,rf⟩:=gS g1.fh m1 rd hi;rw[hns]at l8;cases l8;obtain rfl:u=Value.ref a:=rv;refine jE I1 hH p8 Jw (rf.none hl) ?_;refine callWith_K0 (first:=[.ref a]) I1.kIn Jw.kp (gK (E:=EX X z σ) (us:=[.ref a]) (vs:=[.ref a]) F (hr.mono hn) hb (λe s' hq=>hx.out f9 I1 hq) I1 (.cons rfl .nil) ?_);exact gT k rs g1 m1 (dZ rd) hq h2
def make_of{C:KF}{S:SiD}{x:A_}{σ:L2.St}{z:SD}{M M1:MS}{F H F1 H1:Hp}{a dx:KF}{Q:VK}{E:XK}{T:List (A_×D)->Prop}(g1:GrowM M M1 F H F1 H1)(m1:RepM X.K F1 H1 M1)(rx:Reps X.K F1 ds vs)(hS:S ds T)
  (ha:H1 a=r_) (m9:H1 dx=r_) (m_:dx≠a) (q:∀fs ws dx F' H',Grow F1 H1 F' H'->T fs->H' a=be (.ins C dx ws)->F' a=r_->RepF X.K F' fs ws->Q (.ref a) H'):
  lSi X.K C S (.ref a::(vs++[])) (upd (upd H1 dx (.own a)) a (.ins C dx [])) (λv H2=>v=.non/\Q (.ref a) H2) E:=
 #[a,dx,vs,H1,F1,ds,by rw[Gn],rfl,ha,m9,m_,g1.fh,rx,_,hS,λfs ws Jc F' H' g hR k8 p9 rf=>#[rfl,q fs ws Jc F' H' g hR k8 p9 rf]]
def zF(x:A_)(S:SiD)(t:TMA):TME:=λz M R=>t z M λds M1=>S ds λfs=>R (.obj x fs) M1
def gU{S:SiD}(M:CalM X.prog X.w X.K X.mg X.base n x ps S)(hr:Room m X.A)(ha:MA X (e::es) t)(hg:autoParam (Gl X x) zA0)(hn:autoParam (n+1<=m) zA1)(d7:autoParam (zND x) zA1)
  (he:autoParam (zSE X e es) zA0) (c_:autoParam (zPL X pos es) zA0):
  ME X (.Call (.Name x p) (e::es) [] pos) (zF x S t):=by
 obtain⟨C,f,fd,hns,g_,mk,F,hb⟩:=M;refine#[(gy mk F (hr.mono hn) hg g_ hb .nil fA ha.out d7 he c_).anti λs H Q q=>?_];obtain⟨F,z,M,k,rs,R,h1,h2⟩:=q;refine#[F,z,M,k,rs,_,h1,λds vs M1 F1 H1 g1 hx rx m1=>?_];intro a dx ha m9 m_;refine make_of (σ:=s) (z:=z) (x:=x) g1 m1 rx hx ha m9 m_ λfs ws dx F' H' g hR k8 p9 rf=>?_;have s1:Same F' (upd F' a (.ins C dx ws)):=aP p9 _;have g2:Grow F1 H1 (upd F' a (.ins C dx ws)) H':=⟨g.ff.trans s1,λb o q=>by
  by_cases hb:b=a
  .subst hb;rw[aG]at q;cases q;exact k8
  .rw[ay hb]at q;exact g.fh b o q,g.hh,λb q1 q2=>by
  by_cases hb:b=a
  .subst hb;exact absurd ha q2
  .rw[ay hb];exact g.out b q1 q2⟩
 exact h2 (.obj x fs) (.ref a) M1 (upd F' a (.ins C dx ws)) H' (g1.trans g2.toM) hR (rep_obj.mpr #[a,C,dx,ws,rfl,hns,aG,RepF.mono s1 fs ws rf]) (m1.grow g2)
def zG(x:A_)(S:SiD)(t:TMA):TME:=λz M R=>t z M λds M1=>S ds λfs=>∀a,a∉aj M1->R (.ptr a) ((a,.ins x fs)::M1)
def zH{S:SiD}(M:CalM X.prog X.w X.K X.mg X.base n x ps S)(hr:Room m X.A)(ha:MA X (e::es) t)(hg:autoParam (Gl X x) zA0)(hn:autoParam (n+1<=m) zA1)(d7:autoParam (zND x) zA1)
  (he:autoParam (zSE X e es) zA0) (c_:autoParam (zPL X pos es) zA0):
  ME X (.Call (.Name x p) (e::es) [] pos) (zG x S t):=by
 obtain⟨C,f,fd,hns,g_,mk,F,hb⟩:=M;refine#[(gy mk F (hr.mono hn) hg g_ hb .nil fA ha.out d7 he c_).anti λs H Q q=>?_];obtain⟨F,z,M,k,rs,R,h1,h2⟩:=q;refine#[F,z,M,k,rs,_,h1,λds vs M1 F1 H1 g1 hx rx m1=>?_];intro a dx ha m9 m_;refine make_of (σ:=s) (z:=z) (x:=x) g1 m1 rx hx ha m9 m_ λfs ws dx F' H' g hR k8 p9 rf=>?_;have na:a∉aj M1:=λz=>m1.here z ha;have m2:=m1.grow g;refine h2 (.ptr a) (.ref a) _ F' H' (g1.trans #[g.ff,g.fh,λb o _ q=>g.hh b o q,λb _ q1 q2=>g.out b q1 q2,λb q=>?_]) (hR a na) (rep_ptr.mpr rfl) #[Go.mpr #[na,m2.nd],λb o q=>?_,λb q=>?_]
 .rcases FL.mp q with q|q
  .exact .inr (by rw[q];exact ha)
  .exact .inl q
 .rcases FL.mp q with q|q
  .cases q;exact#[C,dx,ws,hns,k8,rf]
  .exact m2.ok b o q
 .rcases FL.mp q with q|q
  .rw[q];exact p9
  .exact m2.fr b q
end
section
variable {X:Cx}{x:A_}{e:P3}{es:List P3}{t:TA}{p a_ pos:Ri}{n m:Nat}{ps:List A_}{S:SiD}
def sI(X:Cx)(σ:L2.St)(F1 H1:Hp)(x:A_)(fs:List (A_×D)):Prop:=∀F' H' s' e C od,Inv X [] σ H' s'->Grow F1 H1 F' H'->ErrD X.K F' x fs C od->Exd X H' s' e C od->X.xe (.ref e) s'
def zI(h:∃C N bm,ErrK X.K X.mg x C N bm/\ErrN X.K N)(hc:X.calm=true)(ha:PA X (e::es) t)(f9:autoParam (X.ex=[]) zA0)(hg:autoParam (Gl X x) zA0)(d7:autoParam (zND x) zA1)
  (he:autoParam (zSE X e es) zA0) (c_:autoParam (zPL X a_ es) zA0):
  PS X (.Raise (be (.Call (.Name x p) (e::es) [] a_)) r_ pos) (λ_ σ H=>t σ H λvs H1=>vs.length<=1000/\∃F1,Same F1 H1/\sI X σ F1 H1 x []):=by
 obtain⟨C,N,bm,k,kn⟩:=h;intro pins s σ H D I h;obtain⟨nm,q,bs,sn,sub,ab,col,dd,k0,k1,k2,k3,k5,lk⟩:=k.obj;refine qL (nm:=nm) (q:=q) (C:=C) (N:=N) (bs:=bs) (bm:=bm) (hdct:=true) (sn:=sn) (sub:=sub) (ab:=ab) (col:=col) (dd:=dd) (k0:=k0) (k1:=k1) (k2:=k2) (k3:=k3) (k5:=k5) (newId:="ValueError.__new__") k.base (I.ok.hd hc) ?_;refine Rl (cN I hg k.mg ?_ d7);refine callWith_K (h₀:=X.base) I.ok.mod.kin k.kp (thn (ha a_ pins s σ H _ I h) λus s1 hh=>#[hh.elim λ_ h=>h.elim λ_ h=>h.1.kIn,?_]) he c_;obtain⟨vs,H1,I1,r,hl,F1,PF,hR⟩:=hh;have hC:=I1.kIn _ _ lk;obtain⟨hp,gg,dr,tk,os⟩:=s1;refine SJ PySem.F.excBase_ValueError (tail_of_in I1.kIn k.tail) hC (.of_isNs (isNs_of_in I1.kIn kn.ok)) (nsMap_none_of_in I1.kIn kn.ok kn.no) (λh' ea hm=>?_) (by show us.length<=_;rw[<-L2.Vals.length r];exact sz hl);obtain⟨ta,h1,h2,h3⟩:=hm.there;have I2:Inv X pins σ H1 #[h',gg,dr,tk,os]:=I1.kept (t':=tk) hm.keeps;refine#[ea,ta,r_,[].toArray,rfl,hm.keeps _ _ hC,h1,?_];exact hR F1 H1 _ ea C r_ (Inv.nopins I2) (Grow.refl PF) #[k.ns,[],repf_nil.mpr rfl,.inl #[rfl,rfl]] #[kj I1.hok hm.new,cR I1 f9 hm.new,pn_free I1 hm.new,.inl #[[].toArray,_,h1,rfl]]
end
section
variable {X:Cx}[J:Jm]{x:A_}{e:P3}{es:List P3}{t:TMA}{p a_ pos:Ri}{n m:Nat}{ps:List A_}{S:SiD}
def zJ{σ:L2.St}{z:SD}{M M1:MS}{F H F1 H1:Hp}{fs:List (A_×D)}(hx:XOkM X)(k:Kept J.B J.F0 F H)(rs:RepZ X.K J.B F H z σ M)(g1:GrowM M M1 F H F1 H1)(m1:RepM X.K F1 H1 M1)(hR:J.RM z M1 x fs):sI X σ F1 H1 x fs:=λF' H' s' e C od I g er ex=>
 hx σ z M1 F' H' s' e C od x fs I ((k.growM rs.mb g1).grow g) ((rs.growM k.bh g1 m1).growM (k.growM rs.mb g1).bh g.toM (m1.grow g)) hR er ex
def zK(x:A_)(t:TMA):TMS:=λ_ z M=>t z M λds M1=>ds.length<=1000/\J.RM z M1 x []
def zL(h:∃C N bm,ErrK X.K X.mg x C N bm/\ErrN X.K N)(hx:XOkM X)(hc:X.calm=true)(ha:MA X (e::es) t)(f9:autoParam (X.ex=[]) zA0)(hg:autoParam (Gl X x) zA0)(d7:autoParam (zND x) zA1)
  (he:autoParam (zSE X e es) zA0) (c_:autoParam (zPL X a_ es) zA0):
  MSt X (.Raise (be (.Call (.Name x p) (e::es) [] a_)) r_ pos) (zK x t):=⟨(zI h hc ha.out f9 hg d7 he c_).anti λE s H q=>by
 obtain⟨F0,F,z,M,k,rs,ED,h,ee⟩:=q;exact#[F,z,M,k.kf,rs,_,h,λds vs M1 F1 H1 g1 gt rx m1=>#[by rw[rx.length];exact gt.1,F1,g1.fh,zJ hx k.kf rs g1 m1 gt.2]]⟩
end
section
variable {X:Cx}[J:Jm]{a b c e:P3}{ta tb tc te:TME}{pos:Ri}{st:Q6}{b7:List Q6}{t u:TMS}
def zM:TMS:=λE z M=>E.nx z M
def mSeq(t u:TMS):TMS:=λE z M=>t {E with nx:=u E} z M
def bf:MSs X [] zM:=⟨pss_nil.anti λE s H q=>by
 obtain⟨F0,F,z,M,k,rs,ED,h,e⟩:=q;exact e.nx z s M F H k h rs⟩
def ar(h1:MSt X st t)(h2:MSs X b7 u):MSs X (st::b7) (mSeq t u):=⟨(gm h1.out h2.out).anti λE s H q=>by
 obtain⟨F0,F,z,M,k,rs,ED,h,e⟩:=q;exact#[F0,F,z,M,k,rs,{ED with nx:=u ED},h,#[λz' s' M' F' H' k' hz r'=>#[F0,F',z',M',k',r',ED,hz,e],e.rt,e.bk,e.ct]]⟩
def av(h1:MSt X st t):MSs X [st] t:=#[jr h1.out]
def mRet(te:TME):TMS:=λE z M=>te z M E.rt
def aH(he:ME X e te):MSt X (.Return (be e) pos) (mRet te):=⟨(jt he.out).anti λE s H q=>by
 obtain⟨F0,F,z,M,k,rs,ED,h,e⟩:=q;exact#[F,z,M,k.kf,rs,_,h,λd v M' F' H' g hd rd m'=>e.rt d v M' F' H' (k.growM rs.mb g) hd rd m' (rs.growM k.bh g m').mb]⟩
def zN(te:TME):TMS:=λE z M=>te z M λ_ M1=>E.nx z M1
def bQ(he:ME X e te)(hs:autoParam (Rq e r_ pos.line X.env=pure false) zA0):MSt X (.Expr e pos) (zN te):=⟨(js he.out hs).anti λE s H q=>by
 obtain⟨F0,F,z,M,k,rs,ED,h,e⟩:=q;exact#[F,z,M,k.kf,rs,_,h,λd v M' F' H' g hd rd m'=>e.nx z s M' F' H' (k.growM rs.mb g) hd (rs.growM k.bh g m')]⟩
def mIfS(c:TMT)(t u:TMS):TMS:=λE z M=>c z M λb M1=>if b=true then t E z M1 else u E z M1
variable{l r:List Q6}
def bo{c:P3}{tc:TMT}(hc:MT X c tc)(ha:MSs X l t)(hb:MSs X r u):MSt X (.If c l r pos) (mIfS tc t u):=⟨(pR hc.out ha.out hb.out).anti λE s H q=>by
 obtain⟨F0,F,z,M,k,rs,ED,h,e⟩:=q;refine#[F,z,M,k.kf,rs,_,h,λb M1 F1 H1 g hk m1=>?_];cases b with
 |true=>exact#[F0,F1,z,M1,k.growM rs.mb g,rs.growM k.bh g m1,ED,hk,e]
 |false=>exact#[F0,F1,z,M1,k.growM rs.mb g,rs.growM k.bh g m1,ED,hk,e]⟩
def mIfJ(c:TMT)(t u:TMS):TMS:=λE z M=>∃J:SD->MS->Prop,(c z M λb M1=>if b=true then t {E with nx:=J} z M1 else u {E with nx:=J} z M1)/\∀z' M',J z' M'->E.nx z' M'
def gW{c:P3}{tc:TMT}(hc:MT X c tc)(ha:MSs X l t)(hb:MSs X r u):MSt X (.If c l r pos) (mIfJ tc t u):=⟨(bo hc ha hb).out.anti λE s H q=>by
 obtain⟨F0,F,z,M,k,rs,ED,⟨J,h,j⟩,e⟩:=q;exact#[F0,F,z,M,k,rs,{ED with nx:=J},h,#[λz' s' M' F' H' k' hz r'=>e.nx z' s' M' F' H' k' (j z' M' hz) r',e.rt,e.bk,e.ct]]⟩
def mSet(i:Nat)(te:TME):TMS:=λE z M=>∃P:D->MS->Prop,te z M P/\∀d M',P d M'->E.nx (z.set i (be d)) M'
def aJ(i:Nat){x:A_}{d9:Ri}(hN:X.N.Nodup)(he:ME X e te)(hi:autoParam (X.N[i]?=be x) zA0)(hx:autoParam (Loc X.env.scope x) zA4)(hs:autoParam (Rq e (be (.Name x d9)) pos.line X.env=pure false) zA0)
  (hf:autoParam (zFN X x) zA3):MSt X (.Assign [.Name x d9] e pos) (mSet i te):=⟨(ju hN hi hx he.out hs hf).anti λE s H q=>by
 obtain⟨F0,F,z,M,k,rs,ED,⟨P,h,j⟩,e⟩:=q;exact#[F,z,M,k.kf,rs,P,h,λd v M' F' H' g hd rd m'=>e.nx _ _ M' F' H' (k.growM rs.mb g) (j d M' hd) ((rs.growM k.bh g m').set rd)]⟩
def zO(x f:A_)(to te:TME):TMS:=λE z M=>te z M λd M1=>to z M1 λo M2=>match o with|.ptr a=>∃fs,mget M2 a=be (.ins x fs)/\fs.length<1000/\E.nx z (mput M2 a (.ins x (putD f d fs)))|_=>False
def bY{x f:A_}{o:P3}{to:TME}{d9:Ri}(hA:ClsA X.K x f)(ho:ME X o to)(he:ME X e te)(hs:autoParam (Rq e (be (.Attribute o f d9)) pos.line X.env=pure false) zA0):
  MSt X (.Assign [.Attribute o f d9] e pos) (zO x f to te):=⟨(qm ho.out he.out hs).anti λE s H q=>by
 obtain⟨C,hn,hc,hf⟩:=hA;obtain⟨F0,F,z,M,k,rs,ED,h,ee⟩:=q;refine#[F,z,M,k.kf,rs,_,h,λd v M1 F1 H1 g1 hx rd m1=>?_];have k1:=k.growM rs.mb g1;have JY:=rs.growM k.bh g1 m1;refine#[F1,z,M1,k1.kf,JY,_,hx,λo' v' M2 F2 H2 g2 hy ro m2=>?_];have k2:=k1.growM JY.mb g2;have Ka:=JY.growM k1.bh g2 m2;split at hy
 .rename_i a;obtain⟨fs,hm,hl,PH⟩:=hy;obtain⟨C',dx,ws,l9,hH,rf⟩:=m2.ok _ _ (bn hm);rw[hn]at l9;cases l9;have fa:=m2.fr a (bt (bn hm));refine#[a,C,dx,ws,rep_ptr.mp ro,hH,hc,hf,by rw[rf.length];exact hl,?_];have m3:RepM X.K F2 (upd H2 a (.ins C dx (putF f v ws))) (mput M2 a (.ins x (putD f d fs))):=m2.put hm #[C,dx,_,hn,aG,RepF.put (rd.mono g2.ff) rf];have g3:GrowM M2 (mput M2 a (.ins x (putD f d fs))) F2 H2 F2 (upd H2 a (.ins C dx (putF f v ws))):=GrowM.put k2.fh fa hm;exact ee.nx z s _ F2 _ (k2.growM Ka.mb g3) PH (Ka.growM k2.bh g3 m3)
 .exact hy.elim⟩
def zP(c:TMT)(tb:TMS):TMS:=λE z M=>∃W:Nat->SD->MS->Prop,(∃m,W m z M)/\∀m z M,W m z M->
 c z M λb M1=>if b=true then tb {E with nx:=λz' M'=>∃m',m'<m/\W m' z' M',ct:=λz' M'=>∃m',m'<m/\W m' z' M',bk:=E.nx} z M1 else E.nx z M1
def zQ{c:P3}{body:List Q6}{tc:TMT}{tb:TMS}(hp:Rr (Q8 X.prog X.w) X.A X.env X.xe)(hc:MT X c tc)(hb:MSs X body tb):MSt X (.While c body [] pos) (zP tc tb):=⟨(pT hp hc.out hb.out).anti λE s H q=>by
 obtain⟨F0,F,z,M,k,rs,ED,⟨W,⟨m0,w0⟩,c8⟩,e⟩:=q;refine#[λm s' H'=>∃F' z' M',Kept J.B F0 F' H'/\RepZ X.K J.B F' H' z' s' M'/\W m z' M',#[m0,F,z,M,k,rs,w0],?_];rintro m s1 H1⟨F1,z1,M1,k1,r1,w1⟩;refine#[F1,z1,M1,k1.kf,r1,_,c8 m z1 M1 w1,λb M2 F2 H2 g2 hk m2=>?_];cases b with
 |true=>
  refine#[λs3 H3=>∃F3 z3 M3,Kept J.B F0 F3 H3/\RepZ X.K J.B F3 H3 z3 s3 M3/\∃m',m'<m/\W m' z3 M3,λs3 H3 ⟨F3,z3,M3,k3,r3,m',l,w3⟩=>#[m',l,F3,z3,M3,k3,r3,w3],?_];exact#[F0,F2,z1,M2,k1.growM r1.mb g2,r1.growM k1.bh g2 m2,_,hk,#[λz3 s3 M3 F3 H3 k3 h3 r3=>#[F3,z3,M3,k3,r3,h3],e.rt,e.nx,λz3 s3 M3 F3 H3 k3 h3 r3=>#[F3,z3,M3,k3,r3,h3]]]
 |false=>exact e.nx z1 s1 M2 F2 H2 (k1.growM r1.mb g2) hk (r1.growM k1.bh g2 m2)⟩
end
section
variable {X:Cx}[J:Jm]{a b c e o:P3}{ta tb tc te to:TME}{pos:Ri}{st:Q6}{b7:List Q6}{t u:TMS}
abbrev TMI:=SD->MS->(List D->MS->Prop)->Prop
def mItR(t:TME):TMI:=λz M R=>t z M λx M1=>match x with|.int n=>(0<=n/\n<2^62)/\R ((FN n.toNat).map λk=>D.int ((k:Nat):Int)) M1|_=>False
def mFor(i:Nat)(ti:TMI)(tb:TMS):TMS:=λE z M=>ti z M λds M1=>∃W:Nat->SD->MS->Prop,W 0 z M1/\(∀k x z M,ds[k]?=be x->W k z M->tb {E with nx:=W (k+1),ct:=W (k+1),bk:=E.nx} (z.set i (be x)) M)/\∀z M,W ds.length z M->E.nx z M
def zR(i:Nat){x:A_}{p p1 p2:Ri}{body:List Q6}{tb:TMS}(hp:Rr (Q8 X.prog X.w) X.A X.env X.xe)(hc:X.calm=true)(hN:X.N.Nodup)(hm:X.mg "range"=r_)(he:ME X e te)(hb:MSs X body tb)(hg:autoParam (Gl X "range") zA0)(hi:autoParam (X.N[i]?=be x) zA0)(hx:autoParam (Loc X.env.scope x) zA4)
  (hf:autoParam (zFN X x) zA3) (hs:autoParam (∀y,zFS X (.Call (.Name "range" p1) [e] [] p2) y) zA2) (m7:autoParam (zSE X e []) zA0) (f6:autoParam (Re [e] X.env=[(false,Rg e X.env)]) zA0):
  MSt X (.For (.Name x p) (.Call (.Name "range" p1) [e] [] p2) body [] pos) (mFor i (mItR te) tb):=⟨(cE hp hc (gu hg hm (bv he.out pa_nil m7) f6) (dB hN hi hx hf) hb.out hs).anti λE s H q=>by
 obtain⟨F0,F,z,M,kp,rs,ED,h,e⟩:=q;refine#[F,z,M,kp.kf,rs,_,h,λd v M1 F1 H1 g1 hd rd m1=>?_];split at hd
 .rename_i n;obtain⟨⟨b1,b2⟩,W,w0,c8,out⟩:=hd;have hl:((FN n.toNat).map λk=>D.int ((k:Nat):Int)).length=n.toNat:=by simp
  refine#[n,by rw[rep_int.mp rd],JM,b2,jy (lo:=0) (n:=n.toNat) (λk s' H'=>∃F' z' M',Kept J.B F0 F' H'/\RepZ X.K J.B F' H' z' s' M'/\W k z' M') #[F1,z,M1,kp.growM rs.mb g1,rs.growM kp.bh g1 m1,w0] ?_ ?_]
  .rintro k s' H' hk⟨F',z',M',k',r',w'⟩;have e1:(0:Int)+(k:Int)=(k:Int):=by lia
   exact#[F0,F',_,M',k',r'.set (d:=.int (k:Int)) (rep_int.mpr (by rw[e1])),_,c8 k (.int (k:Int)) z' M' (by simp[hk]) w',#[λz3 s3 M3 F3 H3 k3 h3 r3=>#[F3,z3,M3,k3,r3,h3],e.rt,e.nx,λz3 s3 M3 F3 H3 k3 h3 r3=>#[F3,z3,M3,k3,r3,h3]]]
  .rintro s' H'⟨F',z',M',k',r',w'⟩;exact e.nx z' s' M' F' H' k' (out z' M' (by rw[hl];exact w')) r'
 .exact hd.elim⟩
def zS(te:TME):TME:=λz M R=>te z M λd M1=>match d with|.ptr a=>∃ds,mget M1 a=be (.lst ds)/\R (.int ds.length) M1|_=>False
def sJ{p:Ri}(hm:X.mg "len"=r_)(ha:ME X e te)(hg:autoParam (Gl X "len") zA0)(he:autoParam (zSE X e []) zA0):ME X (.Call (.Name "len" p) [e] [] pos) (zS te):=⟨(fw jC hg hm PySem.boot_len (bv ha.out pa_nil he) JQ JQ he).anti λs H Q h=>by
 obtain⟨F,z,M,k,rs,R,h1,h2⟩:=h;refine#[F,z,M,k,rs,_,h1,λd v M1 F1 H1 g1 hx rx m1=>?_];split at hx
 .rename_i a;obtain⟨ds,hm,hR⟩:=hx;obtain⟨vs,hH,rr⟩:=m1.ok _ _ (bn hm);exact#[.ref a,vs.length,by rw[rep_ptr.mp rx],.inl #[vs,SqL.of hH,rfl],h2 _ _ M1 F1 H1 g1 hR (rep_int.mpr (by rw[rr.length])) m1]
 .exact hx.elim⟩
def mIxP(ta tb:TME):TME:=λz M R=>ta z M λx M1=>tb z M1 λy M2=>kdP x λa=>kdI y λi=>∃ds,mget M2 a=be (.lst ds)/\∃d,atI ds i=be d/\R d M2
def zT(ha:ME X a ta)(hb:ME X b tb)(hs:autoParam (dS b) zA6):ME X (.Subscript a b pos) (mIxP ta tb):=⟨(pe_ix ix_list ha.out hb.out hs).anti λs H Q h=>by
 obtain⟨F,z,M,k,rs,R,h1,h2⟩:=h;refine#[F,z,M,k,rs,_,h1,λx u M1 F1 H1 g1 hx rx m1=>?_];refine#[F1,z,M1,k.growM rs.mb g1,rs.growM k.bh g1 m1,_,hx,λy v M2 F2 H2 g2 hy ry m2=>?_];obtain⟨p,rfl,JZ⟩:=kdP.of hy;obtain⟨i,rfl,ds,hm,d,hd,hR⟩:=kdI.of JZ;obtain⟨vs,hH,rr⟩:=m2.ok _ _ (bn hm);obtain⟨w,e2,g5⟩:=rr.at hd;exact#[p,vs,_,w,rep_ptr.mp rx,rep_int.mp ry,SqL.of hH,e2,h2 d w M2 F2 H2 (g1.trans g2) hR g5 m2]⟩
def zU(to te:TME):TME:=λz M R=>to z M λo M1=>match o with|.ptr a=>(∃ds,mget M1 a=be (.lst ds))/\te z M1 λd M2=>∃ds,mget M2 a=be (.lst ds)/\ds.length<=100000/\R .non (mput M2 a (.lst (ds++[d])))|_=>False
def ky{b_ a_:Ri}(ho:ME X o to)(he:ME X e te)(k6:autoParam (zSE X e []) zA0)
  (c5:autoParam (Rh o "append" X.env (Rg o X.env)=Rg o X.env) zA0)
  (e8:autoParam (zHF X a_ [e]) zA0)
  (c9:autoParam ((b_.endLine==a_.line)=true) zA0):
  ME X (.Call (.Attribute o "append" b_) [e] [] a_) (zU to te):=⟨(dU PySem.F.plainAttrs_list PySem.F.slot_list_append PySem.F.type_list_append jL ho.out (bv he.out pa_nil k6) c5 e8 c9 k6).anti λs H Q h=>by
 obtain⟨F,z,M,k,rs,R,h1,h2⟩:=h;refine#[F,z,M,k,rs,_,h1,λx u M1 F1 H1 g1 hx rx m1=>?_];split at hx
 .rename_i a;obtain⟨⟨QK,Mw⟩,hx⟩:=hx;obtain⟨PJ,PK,QL⟩:=m1.ok _ _ (bn Mw);rw[rep_ptr.mp rx];refine#[.inl #[rfl,PJ,SqL.of PK],?_];refine#[F1,z,M1,k.growM rs.mb g1,rs.growM k.bh g1 m1,_,hx,λd v M2 F2 H2 g2 hd rd m2=>?_];obtain⟨ds,hm,hl,hR⟩:=hd;obtain⟨vs,hH,rr⟩:=m2.ok _ _ (bn hm);have hz:vs.length<sizeLine:=by
   rw[rr.length];have h2:(100000:Nat)<sizeLine:=JQ
   lia
  refine#[a,vs,v,rfl,rfl,hH,hz,?_];exact h2 _ _ _ F2 _ (g1.trans (g2.trans (GrowM.put g2.fh (m2.fr a (bt (bn hm))) hm))) hR (rep_non.mpr rfl) (m2.put hm #[_,aG,rr.append (dZ rd)])
 .exact hx.elim⟩
def frzD:MO->D|.ins x fs=>.obj x fs|.lst ds=>.lst ds|.dti a8=>.dti a8
def mFrz(i:Nat)(t:TMS):TMS:=λE z M=>match z[i]? with|some (be (.ptr a))=>∃o,mget M a=be o/\t E (z.set i (be (frzD o))) (mdel M a)|_=>False
def sK(i:Nat){KJ:List Q6}(h:MSs X KJ t):MSs X KJ (mFrz i t):=⟨PSs.anti h.out λE s H q=>by
 obtain⟨F0,F,z,M,k,rs,ED,h,e⟩:=q;unfold mFrz at h;split at h
 .rename_i a ez;obtain⟨o,hm,h⟩:=h;have mem:=bn hm;have fa:=rs.rm.fr a (bt mem);have ba:=rs.mb a (bt mem);obtain⟨v,hv,rv⟩:=rs.rs.val i _ ez rfl;have PL:=rep_ptr.mp rv;subst PL;have hok:=rs.rm.ok a o mem;obtain⟨ho,k8,Mx⟩:∃ho,H a=be ho/\∀F',Same F F'->F' a=be ho->Rep X.K F' (frzD o) (.ref a):=by
   cases o with
   |ins x fs=>obtain⟨C,dx,ws,n,h1,h2⟩:=hok;exact#[_,h1,λF' s' hF=>rep_obj.mpr #[a,C,dx,ws,rfl,n,hF,RepF.mono s' fs ws h2]]
   |lst ds=>obtain⟨vs,h1,h2⟩:=hok;exact#[_,h1,λF' s' hF=>rep_lst.mpr #[a,vs,rfl,hF,h2.mono s']]
   |dti a8=>exact#[_,hok,λF' s' hF=>rep_dti.mpr #[a,rfl,hF]]
  have s1:Same F (upd F a ho):=aP fa _;have hs:s.set i (be (.ref a))=s:=by
   apply GI;intro n;by_cases hn:i=n
   .subst hn;rw[Gu (FU.mp hv).1,hv]
   .rw[F4 hn]
  have k1:Kept J.B F0 (upd F a ho) H:=⟨k.bh,λb u q=>by
   by_cases hb:b=a
   .subst hb;rw[aG]at q;cases q;exact k8
   .rw[ay hb]at q;exact k.fh b u q,k.f0.trans s1,λb h1 h2=>by
   by_cases hb:b=a
   .subst hb;exact absurd ba h2
   .rw[ay hb];exact k.out b h1 h2,k.eb,k.jf,k.jo⟩
  have r0:RepS X.K J.B (upd F a ho) H z s:=#[rs.rs.len,λi d e n=>let ⟨v,q1,q2⟩:=rs.rs.val i d e n;#[v,q1,q2.mono s1],λi ds e=>absurd e (rs.no i ds),rs.rs.apart];have PM:RepM X.K (upd F a ho) H (mdel M a):=⟨rs.rm.nd.sublist del_sub,λb q hb=>by
   obtain⟨ne,hb⟩:=kq rs.rm.nd hb;exact(rs.rm.ok b q hb).mono s1 λ_ z=>z,λb hb=>by
   obtain⟨⟨b',q⟩,i_,rfl⟩:=Gd.mp hb;obtain⟨ne,Oz⟩:=kq rs.rm.nd i_;rw[ay ne];exact rs.rm.fr _ (bt Oz)⟩
  have z0:RepZ X.K J.B (upd F a ho) H z s (mdel M a):=#[r0,rs.no,PM,λb hb=>rs.mb b (del_sub.subset hb)];have z1:=z0.set (i:=i) (Mx _ s1 aG);rw[hs]at z1;exact#[F0,_,_,_,k1,z1,ED,h,e]
 .exact h.elim⟩
end
def kz{N:List A_}{ds:List D}(rs:Reps K F ds vs):∀(i:Nat) d,(startD N ds)[i]?≠be (be (.own d)):=by
 intro i d e;unfold startD at e;by_cases hi:i<ds.length
 .rw[Gv (by simpa using hi),FS]at e;cases q:ds[i]? with
  |none=>rw[q]at e;cases e
  |some x=>
   rw[q]at e;cases e;obtain⟨v,_,q2⟩:=rs.get q;exact rep_own q2
 .rw[GH (by simpa using hi),Hy]at e;split at e
  .cases e
  .cases e
def growM_nil(g:GrowM [] M' F H F' H'):Grow F H F' H':=#[g.ff,g.fh,λb o h=>g.hh b o (λz=>nomatch z) h,λb h1 h2=>g.out b (λz=>nomatch z) h1 h2]
section
variable {P:Q5}{w:Q_}{K:Ex}{mg:A_->Option KB}{base:Rc}
variable{x:A_}{ps:List A_}{S:SpM}
def CalMM.toX{n:Nat}{S0:SpX}(C:CalMM P w K mg base n x ps S)(h:∀ds R RX,S0 ds R RX->S ds [] (λd _=>R d) λx fs _=>RX x fs):CalX P w K mg base n x ps S0:=by
 obtain⟨f,fd,F,hb,hk,hm⟩:=C;refine#[f,fd,F.imp λvs H Q E q=>?_,hb,hk,hm];obtain⟨F,ds,fh,rs,R,RX,hS,q1,q2⟩:=q;exact#[F,ds,[],fh,rs,RepM.nil,_,_,h ds R RX hS,λd v M' F' H' g hd rd _=>q1 d v F' H' (growM_nil g) hd rd,λy fs C od M' F' H' g hR er _=>q2 y fs C od F' H' (growM_nil g) hR er]
open Classical in
def Fun.okM{x qual:A_}{st:Q6}{f:KF}{fd:Rf}{N ps:List A_}{k:Nat}{S:SpM}{dV:KB}(T:FunG K dV x qual st f fd)(F:FnScope N ps (ah st))(len:∀ds M R RX,S ds M R RX->ds.length=ps.length)
  (a9:∀(cdv:KB) (A:Ra) (outer:List RQ) (s:KM) (H:Hp) (E:XK) (J:Jm),Room k (A.deeper (Rk qual (ah st) s.heap.objs.size f cdv))->XOkM (cxOf (CX1 P w) P w K mg base N qual (ah st) f cdv A outer s H E)->
   ∃t,MSs (cxOf (CX1 P w) P w K mg base N qual (ah st) f cdv A outer s H E) (aL st) t/\∀ds M R RX,(∀z,J.RM z=λM' x fs=>RX x fs M')->S ds M R RX->t {nx:=λ_ M'=>R .non M',rt:=R} (startD N ds) M):FnOk P w K mg base (CX1 P w) (k+1) f fd ps (lSpM K S):=by
 refine Fun.okC T F (λvs H Q E h=>?_) (λcdv A outer s H vs Q E hr h=>?_)
 .obtain⟨F,ds,M,fh,rs,rm,R,RX,h,_⟩:=h;rw[rs.length];exact len ds M R RX h
 .obtain⟨F,ds,M,fh,rs,rm,R,RX,h,q,qx⟩:=h
  let B:Hp:=λb=>if b∈aj M then r_ else H b
  have OA:∀{b:KF},b∈aj M->B b=none:=λ{b} h=>if_pos h;have LI:∀{b:KF},b∉aj M->B b=H b:=λ{b} h=>if_neg h
  letI:Jm:={B:=B,F0:=F,RX:=λ_ _ _=>False,RM:=λ_ M' x fs=>RX x fs M'}
  have gr:∀{M':MS} {F' H':Hp},Kept B F F' H'->(∀a,a∈aj M'->B a=r_)->GrowM M M' F H F' H':=λ{M' F' H'} k mb=>⟨k.f0,k.fh,λb o nb e=>k.bh b o (by rw[LI nb];exact e),λb nb h1 h2=>k.out b h1 (by rw[LI nb];exact h2),λb hb=>by
   by_cases nb:b∈aj M
   .exact .inl nb
   .right;rw[<-LI nb];exact mb b hb⟩
  have hx:XOkM (cxOf (CX1 P w) P w K mg base N qual (ah st) f cdv A outer s H E):=by
   intro σ z M' F' H' s' e C od y fs I kk rr hR er ⟨He,ne,_,hx⟩;have hE:E (.ref C) od H':=qx y fs C od M' F' H' (gr kk rr.mb) hR er rr.rm;rcases hx with⟨sl,vs,h1,h2⟩|⟨T,h1,h2,h3,_⟩
   .exact jP I h1 h2 He ne hE
   .exact ki I h1 ne h2 He h3 hE
  obtain⟨t,ht,hq⟩:=a9 cdv A outer s H E inferInstance hr hx;have k0:Kept B F F H:=⟨λb o e=>by
   by_cases nb:b∈aj M
   .rw[OA nb]at e;cases e
   .rw[LI nb]at e;exact e,fh,Same.refl F,λ_ h _=>h,rfl,Same.refl F,λ_ h _=>h⟩
  have r0:RepZ K B F H (startD N ds) (L2.start N vs) M:=#[dD rs,kz rs,rm,λa h=>OA h];exact#[_,ht.out,F,F,startD N ds,M,k0,r0,_,hq ds M R RX (λ_=>rfl) h,#[λz' s' M' F' H' k hn r=>q _ _ M' F' H' (gr k r.mb) hn (rep_non.mpr rfl) r.rm,λd v M' F' H' k hd rd Mz mb=>q d v M' F' H' (gr k mb) hd rd Mz,λ_ _ _ _ _ _ h _=>h.elim,λ_ _ _ _ _ _ h _=>h.elim]]
variable{N:List A_}
def Tx.okM{st:Q6}{k:Nat}(T:Tx K mg x st ps)(F:FnScope N ps (ah st))(len:∀ds M R RX,S ds M R RX->ds.length=ps.length)
  (a9:∀(f:KF) (cdv:KB) (A:Ra) (outer:List RQ) (s:KM) (H:Hp) (E:XK) (J:Jm),Room k (A.deeper (Rk x (ah st) s.heap.objs.size f cdv))->XOkM (cxOf (CX1 P w) P w K mg base N x (ah st) f cdv A outer s H E)->
   ∃t,MSs (cxOf (CX1 P w) P w K mg base N x (ah st) f cdv A outer s H E) (aL st) t/\∀ds M R RX,(∀z,J.RM z=λM' x fs=>RX x fs M')->S ds M R RX->t {nx:=λ_ M'=>R .non M',rt:=R} (startD N ds) M):CalMM P w K mg base (k+1) x ps S:=by
 obtain⟨f,fd,T,hb,hm⟩:=T;exact#[f,fd,Fun.okM T F len λcdv A outer s H E J hr hx=>a9 f cdv A outer s H E J hr hx,hb,T.kp,hm]
def Txm(K:Ex)(x m:A_)(qual:A_)(st:Q6)(ps:List A_):Prop:=
 ∃C f fd,nsIn K Pi x=be (be (.ref C))/\Cls K C/\Meth K C m f/\Fun K m qual st f fd/\Binds K fd ps []
def Txm.okM{m qual:A_}{st:Q6}{k:Nat}(T:Txm K x m qual st ps)(F:FnScope N ps (ah st))(len:∀ds M R RX,S ds M R RX->ds.length=ps.length)
  (a9:∀(f:KF) (cdv:KB) (A:Ra) (outer:List RQ) (s:KM) (H:Hp) (E:XK) (J:Jm),Room k (A.deeper (Rk qual (ah st) s.heap.objs.size f cdv))->XOkM (cxOf (CX1 P w) P w K mg base N qual (ah st) f cdv A outer s H E)->
   ∃t,MSs (cxOf (CX1 P w) P w K mg base N qual (ah st) f cdv A outer s H E) (aL st) t/\∀ds M R RX,(∀z,J.RM z=λM' x fs=>RX x fs M')->S ds M R RX->t {nx:=λ_ M'=>R .non M',rt:=R} (startD N ds) M):CalMth P w K mg base (k+1) x m ps (lSpM K S):=by
 obtain⟨C,f,fd,h1,h2,h3,T,hb⟩:=T;exact#[C,f,fd,h1,h2,h3,Fun.okM T F len λcdv A outer s H E J hr hx=>a9 f cdv A outer s H E J hr hx,hb]
end
end My
namespace L2
section
variable {X:Cx}{pins:List (KF×Ro)}{σ:St}{H:Hp}{s:KM}{h':Rc}
def Inv.turned2{t':Nat}{e it:KF}(I:Inv X pins σ H s)(k:∀b o,b≠e->b≠it->s.heap.get? b=be o->h'.get? b=be o)(he:FpOk X pins H e)(hi:FpOk X pins H it):Inv X pins σ H {s with heap:=h',toks:=t'}:=by
 obtain⟨e0,e1,e2,e3,e4,e5⟩:=he;obtain⟨i0,i1,i2,i3,i4,i5⟩:=hi;have JJ:∀b u,H b=be u->b≠e/\b≠it:=λb u q=>#[(λz=>by rw[z,e0]at q;cases q),(λz=>by rw[z,i0]at q;cases q)];have nc:∀{b:KF},b∉[e,it]->b≠e/\b≠it:=λ{b} h=>#[λz=>h (by simp[z]),λz=>h (by simp[z])];refine I.step (g':=s.gens) (d':=s.drawn) (ch:=[e,it]) (λb hb=>?_) (λb o _ _ hc q _=>k b o (nc hc).1 (nc hc).2 q) (λb o _ _ hc q _=>#[o.slots,k b o (nc hc).1 (nc hc).2 q]) (λ_ _ _ _ n=>n)
  (λb o hc q=>#[o,k b o (nc hc).1 (nc hc).2 q]) (λ_ _ q=>q) (λ_ _ _ q=>q) (λb ps q=>#[[].toArray,by rw[q];simp]) (λm hm=>?_) (λb u q=>?_) I.bare
 .rcases FL.mp hb with z|z
  .rw[z];exact#[e3,e1,e4,e5]
  .rw[FJ.mp z];exact#[i3,i1,i4,i5]
 .obtain⟨o,es,ep,ho,r⟩:=hm;exact#[o,es,ep,k _ o (Ne.symm e1) (Ne.symm i1) ho,r]
 .refine(I.hok b u q).stay (λc v hc q'=>k c v ?_ ?_ q') (λ_ q=>q) λ_ _ q=>q
  .rcases hc with z|z
   .rw[z];exact(JJ b u q).1
   .exact(JJ c _ z).1
  .rcases hc with z|z
   .rw[z];exact(JJ b u q).2
   .exact(JJ c _ z).2
end
def Itel(K:Ex)(a:KF):It:=
 #[λi H=>∃xs x,SqL K H a xs/\xs[i]?=be x,λi H x H'=>∃T v,H T=r_/\x=.ref T/\H'=upd H T (.tup [.int i,v])/\∀xs,SqL K H a xs->xs[i]?=be v,λi H=>∃xs,SqL K H a xs/\xs.length<=i]
def Ites(x:A_):It:=#[λi _=>i<x.length,λi H v H'=>∃T c,H T=r_/\v=.ref T/\H'=upd H T (.tup [.int i,.str #[[c].toArray]])/\x.cps[i]?=be c,λi _=>i=x.length]
variable{P:Q5}{w:Q_}
def zV{H:Hp}{h:Rc}{T:KF}{i:Int}{t:SW}{v:V}{u:KB}(r:RelV v u)(q:h.get? T=be {cls:=.type "tuple",data:=.seq [.int i t,u].toArray}):ObjOk P w H h T (.tup [.int i,v]):=
 #[by show 2<=sizeLine;decide,[.int i t,u],.cons #[t,rfl] (.cons r .nil),#[_,q,rfl,_,rfl]]
def sL{X:Cx}{pins:List (KF×Ro)}{σ:St}{H:Hp}{s:KM}{h':Rc}{t':Nat}{e it:KF}{i:Int}{t:SW}{v:V}{u:KB}(I:Inv X pins σ H s)(he:FpOk X pins H e)(hi:FpOk X pins H it)(le:e<s.heap.objs.size)(li:it<s.heap.objs.size)(r:RelV v u)
  (hT:h'.get? s.heap.objs.size=be {cls:=.type "tuple",data:=.seq [.int i t,u].toArray}) (hk:∀b o,b≠e->b≠it->s.heap.get? b=be o->h'.get? b=be o):Inv X pins σ (upd H s.heap.objs.size (.tup [.int i,v])) {s with heap:=h',toks:=t'}:=by
 have I1:Inv X pins σ (upd H s.heap.objs.size (.tup [.int i,v])) {s with heap:=s.heap.push {cls:=.type "tuple",data:=.seq [.int i t,u].toArray},toks:=t'}:=
  I.laid (λb o q=>Heap.get?_push_of_some _ q) (FK _) (zV r (Heap.get?_push_size _ rfl))
 have fp:∀{b:KF},FpOk X pins H b->b<s.heap.objs.size->FpOk X pins (upd H s.heap.objs.size (.tup [.int i,v])) b:=λ{b} h l=>#[by rw[ay (FR l)];exact h.1,h.2];refine I1.turned2 (h':=h') (t':=t') (λb o h1 h2 q=>?_) (fp he le) (fp hi li);rcases Heap.get?_push_cases (show(s.heap.push {cls:=.type "tuple",data:=.seq [.int i t,u].toArray}).get? b=be o from q)with⟨rfl,rfl⟩|q2
 .exact hT
 .exact hk b o h1 h2 q2
variable{q8:List P3}
def zW{K:Ex}{x1:Nat}{tp:Ri}(a e it:KF)(Kb:e≠it):Turn P w K (.Tuple q8 x1 tp) (Itel K a) [e,it] e (λi h=>(∃d8,IsEnum h e it i d8)/\h.IsListIter it a i) where
 mem:=JU
 obj:=λi h st b hb=>by
  obtain⟨⟨d8,he⟩,hit⟩:=st;rcases FL.mp hb with z|z
  .rw[z];exact#[_,he,λv z=>by cases z]
  .rw[FJ.mp z];obtain⟨o,ho,c,d⟩:=hit;exact#[o,ho,λv z=>by rw[d]at z;cases z]
 keep:=λi h h' st k=>#[let ⟨d8,he⟩:=st.1;#[d8,k e JU _ he],st.2.at λo q=>k it JU o q]
 item:=by
  intro X hP hw hK hc i pins s σ H E I hf st hg;subst hP hw hK;obtain⟨xs,x,hq,hx⟩:=hg;obtain⟨its,rv,p,hz⟩:=I.list hq;obtain⟨u,hu,ru⟩:=rv.get hx;obtain⟨⟨d8,he⟩,hit⟩:=st;have fe:=hf e JU;have fi:=hf it JU;have le:e<s.heap.objs.size:=Heap.lt_size he;have li:it<s.heap.objs.size:=by obtain⟨o,ho,_⟩:=hit;exact Heap.lt_size ho
  refine wpAny_pyNext_enum_item he hit p.isList (x:=u) (by simpa using hu) Kb λh' x_ J0 hT g8 hk=>?_;refine#[_,rfl,Sj x_ λh2 MB j9=>?_];have n4:Heap.SameBut e h' h2:=j9;have nT:s.heap.objs.size≠e:=GE le;have I1:Inv X pins σ (upd H s.heap.objs.size (.tup [.int i,x])) {s with heap:=h2,toks:=s.toks+1}:=sL I fe fi le li ru ((n4.2 _ nT).trans hT) λb o h1 h3 q=>(n4.2 b h1).trans (hk b o h1 h3 q);refine#[.ref s.heap.objs.size,_,I1,rfl,#[_,x,I.hok.fresh (FK _),rfl,rfl,λys hy=>by rw[I.list_inj hy hq];exact hx],#[#[u,by simpa using MB],J0.at λo q=>(n4.2 it (Ne.symm Kb)).trans q],λb hb=>?_];rcases FL.mp hb with z|z
  .rw[z,ay (FR le)];exact fe.1
  .rw[FJ.mp z,ay (FR li)];exact fi.1
 done:=by
  intro X hP hw hK hc i pins s σ H E I hf st hg;subst hP hw hK;obtain⟨xs,hq,hx⟩:=hg;obtain⟨its,rv,p,hz⟩:=I.list hq;obtain⟨⟨d8,he⟩,hit⟩:=st;have hl:=rv.length;obtain⟨f0,f1,f2,f3,f4,f5⟩:=hf it JU;exact wpAny_pyNext_enum_end (I.ok.hd hc) he hit p.isList Oa λh' eb=>#[rfl,I.turned (t':=s.toks) (λb o hb q=>eb b o hb q) f0 f1 f3 f4 f5]
 self:=λ_ _ _ _ _ st h=>let ⟨⟨d8,he⟩,_⟩:=st;RS he h
def zX{K:Ex}{x1:Nat}{tp:Ri}(x:A_)(t:SW)(e it:KF)(Kb:e≠it):Turn P w K (.Tuple q8 x1 tp) (Ites x) [e,it] e (λi h=>(∃d8,IsEnum h e it i d8)/\h.IsStrIter it "str_ascii_iterator" x t i) where
 mem:=JU
 obj:=λi h st b hb=>by
  obtain⟨⟨d8,he⟩,hit⟩:=st;rcases FL.mp hb with z|z
  .rw[z];exact#[_,he,λv z=>by cases z]
  .rw[FJ.mp z];obtain⟨o,ho,c,d⟩:=hit;exact#[o,ho,λv z=>by rw[d]at z;cases z]
 keep:=λi h h' st k=>#[let ⟨d8,he⟩:=st.1;#[d8,k e JU _ he],let ⟨o,ho,r⟩:=st.2;#[o,k it JU o ho,r]]
 item:=by
  intro X hP hw hK hc i pins s σ H E I hf st hg;subst hP hw hK;have hi:i<x.cps.size:=hg;obtain⟨⟨d8,he⟩,hit⟩:=st;have fe:=hf e JU;have fi:=hf it JU;have le:e<s.heap.objs.size:=Heap.lt_size he;have li:it<s.heap.objs.size:=by obtain⟨o,ho,_⟩:=hit;exact Heap.lt_size ho
  refine wpAny_pyNext_enum_itemD (Draws.strAscii (A:=X.A.in1) (by exact I.ok.hd hc) it x t) he hit hi Kb (by simp[Kb]) λu h' tk hP x_ J0 hT g8 hk=>?_;obtain⟨c,tu,Jq,rfl⟩:=hP;refine#[_,rfl,Sj x_ λh2 MB j9=>?_];have n4:Heap.SameBut e h' h2:=j9;have nT:s.heap.objs.size≠e:=GE le;have I1:Inv X pins σ (upd H s.heap.objs.size (.tup [.int i,.str #[[c].toArray]])) {s with heap:=h2,toks:=tk+1}:=sL I fe fi le li #[tu,rfl] ((n4.2 _ nT).trans hT) λb o h1 h3 q=>(n4.2 b h1).trans (hk b o h1 h3 q);refine#[.ref s.heap.objs.size,_,I1,rfl,#[_,c,I.hok.fresh (FK _),rfl,rfl,Jq],#[#[_,by simpa using MB],let ⟨o,ho,r⟩:=J0;#[o,(n4.2 it (Ne.symm Kb)).trans ho,r]],λb hb=>?_];rcases FL.mp hb with z|z
  .rw[z,ay (FR le)];exact fe.1
  .rw[FJ.mp z,ay (FR li)];exact fi.1
 done:=by
  intro X hP hw hK hc i pins s σ H E I hf st hg;subst hP hw hK;have hi:i=x.cps.size:=hg;subst hi;obtain⟨⟨d8,he⟩,hit⟩:=st;obtain⟨f0,f1,f2,f3,f4,f5⟩:=hf it JU;exact wpAny_pyNext_enum_endD (Draws.strAscii (A:=X.A.in1) (by exact I.ok.hd hc) it x t) he hit λh' eb=>#[rfl,I.turned (t':=s.toks) (λb o hb q=>eb b o hb q) f0 f1 f3 f4 f5]
 self:=λ_ _ _ _ _ st h=>let ⟨⟨d8,he⟩,_⟩:=st;RS he h
def iEnL(K:Ex)(ta:TA):TI:=λσ H R=>ta σ H λvs H1=>∃a,vs=[.ref a]/\(∃xs,SqL K H1 a xs)/\R (Itel K a) H1
def iEnS(ta:TA):TI:=λσ H R=>ta σ H λvs H1=>∃x,vs=[.str x]/\x.cps.all (·<128)=true/\R (Ites x) H1
section
variable {X:Cx}{q8:List P3}{x1:Nat}{tp p pos:Ri}{l:P3}{ta:TA}
def zY(hg:Gl X "enumerate")(hm:X.mg "enumerate"=r_)(ha:PA X [l] ta)(hs:autoParam (Re [l] X.env=[(false,Rg l X.env)]) zA0):PI X (.Tuple q8 x1 tp) (.Call (.Name "enumerate" p) [l] [] pos) (iEnL X.K ta):=by
 intro pins s σ H R I h;refine Call_ (dA I hg hm PyProof.Rows.boot_enumerate (PyProof.Rows.callWith_type1 (thn (ha pos pins s σ H _ I h) λus s1 ⟨vs,H1,I1,r1,q1⟩=>?_) hs rfl));obtain⟨a,rfl,⟨xs,hq⟩,q⟩:=q1;obtain⟨u,rfl,ru⟩:=bU r1;cases ru;obtain⟨its,rv,pl,hz⟩:=I1.list hq;refine call_enumerate_list pl.isList λh' he hit g8 hk=>?_;have I2:Inv X pins σ H1 {s1 with heap:=h'}:=I1.kept (t':=s1.toks) hk;refine RS he ?_;have ne:s1.heap.objs.size+1≠s1.heap.objs.size:=Ir _;refine#[s1.heap.objs.size+1,[s1.heap.objs.size+1,s1.heap.objs.size],_,_,H1,rfl,I2,zW a _ _ ne,#[#[_,he],hit],λb hb=>?_,q];rcases FL.mp hb with z|z
 .rw[z];exact I1.fpOk (GO _) (I1.hok.fresh (GO _))
 .rw[FJ.mp z];exact I1.fpOk (FK _) (I1.hok.fresh (FK _))
def sM(hg:Gl X "enumerate")(hm:X.mg "enumerate"=r_)(ha:PA X [l] ta)(hs:autoParam (Re [l] X.env=[(false,Rg l X.env)]) zA0):PI X (.Tuple q8 x1 tp) (.Call (.Name "enumerate" p) [l] [] pos) (iEnS ta):=by
 intro pins s σ H R I h;refine Call_ (dA I hg hm PyProof.Rows.boot_enumerate (PyProof.Rows.callWith_type1 (thn (ha pos pins s σ H _ I h) λus s1 ⟨vs,H1,I1,r1,q1⟩=>?_) hs rfl));obtain⟨x,rfl,MC,q⟩:=q1;obtain⟨u,rfl,t,rfl⟩:=bU r1;refine call_enumerate_str λh' he hit g8 hk=>?_;have I2:Inv X pins σ H1 {s1 with heap:=h'}:=I1.kept (t':=s1.toks) hk;refine RS he ?_;have ne:s1.heap.objs.size+1≠s1.heap.objs.size:=Ir _;have PN:strIterType x="str_ascii_iterator":=by unfold strIterType;rw[MC];rfl
 rw[PN]at hit;refine#[s1.heap.objs.size+1,[s1.heap.objs.size+1,s1.heap.objs.size],_,_,H1,rfl,I2,zX x t _ _ ne,#[#[_,he],hit],λb hb=>?_,q];rcases FL.mp hb with z|z
 .rw[z];exact I1.fpOk (GO _) (I1.hok.fresh (GO _))
 .rw[FJ.mp z];exact I1.fpOk (FK _) (I1.hok.fresh (FK _))
end
end L2
namespace My
open Exc
section
variable {X:Cx}[J:Jm]{a b c e o:P3}{ta tb tc te to:TME}{pos:Ri}{st:Q6}{b7:List Q6}{t u:TMS}
def kA{K:Ex}{F:Hp}:∀(is:List Nat) (ds:List D) (vs:List V) (z:SD),Reps K F ds vs->(∀(i:Nat) d,z[i]?≠be (be (.own d)))->∀(i:Nat) d,(aS is ds z)[i]?≠be (be (.own d))
 |[],_,_,z,_,h=>h
 |_::_,[],_,z,_,h=>h
 |i::is,d::ds,vs,z,r,h=>by
  obtain⟨v,vr,rfl,r1,r2⟩:=reps_cons.mp r;refine kA is ds vr _ r2 λj q e=>?_;by_cases hj:i=j
  .subst hj;rw[GT]at e;simp at e;have:=r1.noown;rw[e.2]at this;cases this
  .rw[F4 hj]at e;exact h j q e
def mItE(t:TME):TMI:=λz M R=>t z M λx M1=>match x with|.lst ds=>R ds M1|_=>False
def zZ(t:TME):TMI:=λz M R=>t z M λx M1=>match x with|.str x=>x.cps.all (·<128)=true/\R (bG x) M1|_=>False
def sO(is:List Nat)(ti:TMI)(tb:TMS):TMS:=λE z M=>ti z M λds M1=>∃W:Nat->SD->MS->Prop,W 0 z M1/\(∀(k:Nat) x z M,ds[k]?=be x->W k z M->tb {E with nx:=W (k+1),ct:=W (k+1),bk:=E.nx} (aS is [.int k,x] z) M)/\∀z M,W ds.length z M->E.nx z M
variable{is:List Nat}
def sP{K:Ex}{F0 F1 H1:Hp}{z:SD}{s:L2.St}{M1:MS}{E:Ends}{ED:EndsM}{It':It}{g:TG}{tb:TMS}{KW:TS}{ds:List D}(hK:K=X.K)(k1:Kept J.B F0 F1 H1)(JY:RepZ K J.B F1 H1 z s M1)(e:EndsOkM K F0 ED E)(b9:is.length=2)
  (go:∀k F' H',Same F1 F'->Same F' H'->k<ds.length->It'.go k H') (stop:∀F' H',Same F1 F'->Same F' H'->It'.stop ds.length H')
  (yld:∀k F' H' x H'',Same F1 F'->Same F' H'->k<ds.length->It'.yld k H' x H''->∃T d v,H' T=r_/\x=.ref T/\H''=upd H' T (.tup [.int k,v])/\ds[k]?=be d/\Rep K F' d v)
  (hg:∀(dd:List D) (vs:List V) (T:KF) (z:SD) (s:L2.St) (F H:Hp) (Q:L2.St->Hp->Prop),dd.length=2->H T=be (.tup vs)->Reps K F dd vs->RepS K J.B F H z s->(∀s',RepS K J.B F H (aS is dd z) s'->Q s' H)->g (.ref T) s H Q)
  (MD:∀E s H,mS K tb E s H->KW E s H)
  (hd:∃W:Nat->SD->MS->Prop,W 0 z M1/\(∀(k:Nat) x z M,ds[k]?=be x->W k z M->tb {ED with nx:=W (k+1),ct:=W (k+1),bk:=ED.nx} (aS is [.int k,x] z) M)/\∀z M,W ds.length z M->ED.nx z M):
  ∃W:Nat->Nat->L2.St->Hp->Prop,(∃m,W 0 m s H1)/\∀i m σ H,W i m σ H->
   (It'.stop i H/\E.nx σ H)\/(It'.go i H/\∃N:L2.St->Hp->Prop,(∀σ' H',N σ' H'->∃m',m'<m/\W (i+1) m' σ' H')/\∀x H',It'.yld i H x H'->g x σ H' λσ2 H2=>KW {E with nx:=N,ct:=N,bk:=E.nx} σ2 H2):=by
 obtain⟨W,w0,c8,out⟩:=hd;refine#[λk m s' H'=>m=ds.length-k/\k<=ds.length/\∃F' z' M',Kept J.B F0 F' H'/\Same F1 F'/\RepZ K J.B F' H' z' s' M'/\W k z' M',#[ds.length,JU,Gb _,F1,z,M1,k1,Same.refl F1,JY,w0],?_];rintro k m s' H'⟨rfl,hk,F',z',M',k',g',r',w'⟩;by_cases f7:k<ds.length
 .refine .inr #[go k F' H' g' k'.fh f7,λs3 H3=>∃F3 z3 M3,Kept J.B F0 F3 H3/\Same F1 F3/\RepZ K J.B F3 H3 z3 s3 M3/\W (k+1) z3 M3,λs3 H3 h3=>#[ds.length-(k+1),JM,rfl,f7,h3],λx H'' hy=>?_];obtain⟨T,d,v,hT,rfl,rfl,hd,rd⟩:=yld k F' H' x H'' g' k'.fh f7 hy;have gn:=Grow.new k'.fh hT (.tup [.int k,v]);have k2:=k'.grow gn;have r2:=r'.growM k'.bh gn.toM (r'.rm.grow gn);have rp:Reps K (upd F' T (.tup [.int k,v])) [.int k,d] [.int k,v]:=reps_cons.mpr #[_,_,rfl,rep_int.mpr rfl,dZ (rd.mono gn.ff)];refine hg [.int k,d] _ T z' s' _ _ _ rfl aG rp r2.rs λs2 Ka=>MD _ _ _ ?_;have gF:Same F1 (upd F' T (.tup [.int k,v])):=g'.trans gn.ff;refine#[upd F' T (.tup [.int k,v]),upd F' T (.tup [.int k,v]),_,M',#[k2.bh,k2.fh,Same.refl _,λb h1 _=>h1,k2.eb,k2.jf.trans k2.f0,λb h1 h2=>k2.out b (k2.jo b h1 h2) h2],#[Ka,kA is _ _ z' rp r2.no,r2.rm,r2.mb],_,c8 k d z' M' hd w',?_];have up:∀{F3 H3:Hp},Kept J.B (upd F' T (.tup [.int k,v])) F3 H3->Kept J.B F0 F3 H3:=λk3=>#[k3.bh,k3.fh,k2.f0.trans k3.f0,λb h1 h2=>k3.out b (k2.out b h1 h2) h2,k2.eb,k2.jf,k2.jo];exact#[λz3 s3 M3 F3 H3 k3 h3 r3=>#[F3,z3,M3,up k3,gF.trans k3.f0,r3,h3],λd v M3 F3 H3 k3=>e.rt d v M3 F3 H3 (up k3),λz3 s3 M3 F3 H3 k3=>e.nx z3 s3 M3 F3 H3 (up k3),λz3 s3 M3 F3 H3 k3 h3 r3=>#[F3,z3,M3,up k3,gF.trans k3.f0,r3,h3]]
 .have ek:k=ds.length:=by lia
  subst ek;exact .inl #[stop F' H' g' k'.fh,e.nx z' s' M' F' H' k' (out z' M' w') r']
variable{es:List P3}{body:List Q6}
def Aa{x1:Nat}{tp p1 p2:Ri}{tb:TMS}(hp:Rr (Q8 X.prog X.w) X.A X.env X.xe)(hc:X.calm=true)(hm:X.mg "enumerate"=r_)(he:ME X e te)(hG:DGs X es is)(hb:MSs X body tb)(b9:autoParam (is.length=2) zA0)(hg:autoParam (Gl X "enumerate") zA0)
  (hn:autoParam ((Rb es X.env).length=2) zA0) (j5:autoParam ((Rb es X.env).findIdx? (·.1)=none) zA0)
  (hs:autoParam (∀y,zFS X (.Call (.Name "enumerate" p1) [e] [] p2) y) zA2) (m7:autoParam (zSE X e []) zA0) (f6:autoParam (Re [e] X.env=[(false,Rg e X.env)]) zA0):
  MSt X (.For (.Tuple es x1 tp) (.Call (.Name "enumerate" p1) [e] [] p2) body [] pos) (sO is (mItE te) tb):=by
 obtain⟨ug,KY,kk⟩:=hG;refine#[(cE hp hc (zY hg hm (bv he.out pa_nil m7) f6) (gq hc KY hn j5) hb.out hs).anti λE s H q=>?_];obtain⟨F0,F,z,M,kp,rs,ED,h,e⟩:=q;refine#[F,z,M,kp.kf,rs,_,h,λd v M1 F1 H1 g1 hd rd m1=>?_];split at hd
 .rename_i ds;obtain⟨p,vs,rfl,hq,rr⟩:=rep_lst.mp rd;refine#[p,rfl,#[vs,SqL.of (g1.fh _ _ hq)],sP (It':=Itel X.K p) rfl (kp.growM rs.mb g1) (rs.growM kp.bh g1 m1) e b9 (λk F' H' s1 s2 hk=>?_) (λF' H' s1 s2=>?_) (λk F' H' x H'' s1 s2 hk hy=>?_) (λdd o7 T z s F H Q hl hT rp v_ hQ=>?_) (λ_ _ _ h=>h) hd]
  .have m8:k<vs.length:=by rw[rr.length];exact hk
   exact#[vs,vs[k],SqL.of (s2 _ _ (s1 _ _ hq)),by simp[m8]]
  .exact#[vs,SqL.of (s2 _ _ (s1 _ _ hq)),by rw[rr.length];exact FK _]
  .obtain⟨T,v,hT,e1,e2,hv⟩:=hy;obtain⟨d,hd,rd⟩:=rr.get' (hv vs (SqL.of (s2 _ _ (s1 _ _ hq))));exact#[T,d,v,hT,e1,e2,hd,rd.mono s1]
  .exact#[T,o7,rfl,SqT.of hT,by rw[rp.length];exact hl,kk dd o7 z s J.B F H Q (by rw[hl,b9]) rp v_ hQ]
 .exact hd.elim
def Ab{x1:Nat}{tp p1 p2:Ri}{tb:TMS}(hp:Rr (Q8 X.prog X.w) X.A X.env X.xe)(hc:X.calm=true)(hm:X.mg "enumerate"=r_)(he:ME X e te)(hG:DGs X es is)(hb:MSs X body tb)(b9:autoParam (is.length=2) zA0)(hg:autoParam (Gl X "enumerate") zA0)
  (hn:autoParam ((Rb es X.env).length=2) zA0) (j5:autoParam ((Rb es X.env).findIdx? (·.1)=none) zA0)
  (hs:autoParam (∀y,zFS X (.Call (.Name "enumerate" p1) [e] [] p2) y) zA2) (m7:autoParam (zSE X e []) zA0) (f6:autoParam (Re [e] X.env=[(false,Rg e X.env)]) zA0):
  MSt X (.For (.Tuple es x1 tp) (.Call (.Name "enumerate" p1) [e] [] p2) body [] pos) (sO is (zZ te) tb):=by
 obtain⟨ug,KY,kk⟩:=hG;refine#[(cE hp hc (sM hg hm (bv he.out pa_nil m7) f6) (gq hc KY hn j5) hb.out hs).anti λE s H q=>?_];obtain⟨F0,F,z,M,kp,rs,ED,h,e⟩:=q;refine#[F,z,M,kp.kf,rs,_,h,λd v M1 F1 H1 g1 hd rd m1=>?_];split at hd
 .rename_i x;obtain⟨ha,hd⟩:=hd;have hl:=eJ x;refine#[x,by rw[rep_str.mp rd],ha,sP (It':=Ites x) rfl (kp.growM rs.mb g1) (rs.growM kp.bh g1 m1) e b9 (λk F' H' s1 s2 hk=>?_) (λF' H' s1 s2=>?_) (λk F' H' x H'' s1 s2 hk hy=>?_) (λdd o7 T z s F H Q hl hT rp v_ hQ=>?_) (λ_ _ _ h=>h) hd]
  .rw[hl]at hk;exact hk
  .exact hl
  .obtain⟨T,c,hT,e1,e2,hc⟩:=hy;exact#[T,.str #[[c].toArray],.str #[[c].toArray],hT,e1,e2,gM hc,rep_str.mpr rfl]
  .exact#[T,o7,rfl,SqT.of hT,by rw[rp.length];exact hl,kk dd o7 z s J.B F H Q (by rw[hl,b9]) rp v_ hQ]
 .exact hd.elim
end
end My
namespace L2
section
variable {prog:Q5}{w:Q_}{K:Type}[DecidableEq K]{j6:HeapKind prog w K}{A:Ra}{E:KB->KM->Prop}{s:KM}{d a:KF}{k:K}{xs:List (K×KF×KB)}
def Ac{v:KB}{Q:KB->KM->Prop}(hu:j6.room A)(m4:j6.is s.heap k a)(hm:s.heap.DictOfH j6 d xs)
  (h1:∀p,Sf xs k=be p->Q p.2 {s with toks:=s.toks+j6.draws k})
  (h2:Sf xs k=r_->∀h',h'.DictOfH j6 d (xs++[(k,a,v)])->Heap.SameBut d s.heap h'->Q v {s with heap:=h',toks:=s.toks+j6.draws k})
  (g8:xs.length<=sizeLine):Q7 (Q8 prog w) A (Sm d (.ref a) v) Q E s:=by
 obtain⟨o,es,ep,ho,hc,hd,he,OB,hn⟩:=hm;unfold Sm
 try with_reducible refine RG ?_
 refine Os (j6.pyHash hu m4 ?_);refine Os (wpAny_dictFind_heap (s:={s with toks:=s.toks+j6.draws k}) hu m4 ho hd he OB hn ?_ ?_)
 .intro J7;have MF:k∉xs.map (·.1):=not_mem_keys_of_get J7;refine Os (SK (Os (wpAny_updateDictKeys (hz:=by have e:=size_of_entries he;lia) (s:={s with toks:=s.toks+j6.draws k}) ho hd (Q9 (h2 (atKey_none_of_get J7) _ ⟨_,_,ep+1,Heap.get?_update_self _ ho (Obj.isFreed_of_dict (Obj.data_mapDictKeys hd _)),
   hc.mapDictKeys _,Obj.data_mapDictKeys hd _,?_,?_,?_⟩ (Heap.SameBut.update ..))))))
  .simp[he,entryOfKey]
  .intro x hx;rcases Ga.mp hx with hx|hx
   .exact j6.keeps (OB x hx) ho hd (Heap.SameBut.update ..)
   .simp only[FJ]at hx;subst hx;exact j6.keeps m4 ho hd (Heap.SameBut.update ..)
  .rw[Gh,GW];refine#[hn,JU,?_];intro x hx y hy;simp only[Gc,GR,FJ]at hy;subst hy;exact λe=>MF (e ▸ hx)
 .intro j p hj;refine Os (wpAny_dictEntries (s:={s with toks:=s.toks+j6.draws k}) ho hd ?_);rw[entry_at he j,hj];exact Os (SK (Q9 (h1 p (atKey_of_get hn hj))))
def Ad(j6:HeapKind prog w K)(d a:KF)(hd:(d==Rz)=false)(v:KB):
  MeetsIn prog w (Builtin.«dict.setdefault» #[[.ref d,.ref a,v],[]]) (λA R s=>j6.room A.in1/\∃k xs,j6.is s.heap k a/\s.heap.DictOfH j6 d xs/\xs.length<=sizeLine/\
   (∀p,Sf xs k=be p->R (.ok (.ret p.2)) {s with toks:=s.toks+j6.draws k})/\
   (Sf xs k=r_->∀h',h'.DictOfH j6 d (xs++[(k,a,v)])->Heap.SameBut d s.heap h'->R (.ok (.ret v)) {s with heap:=h',toks:=s.toks+j6.draws k})):=
 .of_wp λA R s hh=>by
  obtain⟨hu,k,xs,m4,hm,hz,h1,h2⟩:=hh;unfold Builtin.«dict.setdefault»;refine Os ?_;unfold Builtin.Dict.keyAndDefault;refine Os (wpAny_notOrdered_dict hm.typeIs ?_);show Q7 _ _ (pure (d,Value.ref a,be v)) _ _ s;refine Q9 ?_;show Q7 _ _ (if(d==Rz)=true then _ else(Sm d (.ref a) v>>=_)) _ _ s;rw[if_neg (by rw[hd];exact FX)];exact Os (Ac hu m4 hm (λp hp=>Q9 #[p.2,rfl,h1 p hp]) (λhn h' MG LD=>Q9 #[v,rfl,h2 hn h' MG LD]) hz)
end
end L2
namespace My
open Exc
def lookD:List ((Int×Int)×Int)->Int->Int->Option Int
 |[],_,_=>r_
 |((a,b),h)::r,x,y=>if a=x/\b=y then be h else lookD r x y
def kB(x y:Int):∀a8:List ((Int×Int)×Int),valV (dtiV a8) [.inl x,.inl y]=(lookD a8 x y).map V.int
 |[]=>rfl
 |((a,b),h)::r=>by
  show valV (([.inl a,.inl b],V.int h)::dtiV r) _=_;unfold lookD;by_cases e:a=x/\b=y
  .rw[if_pos e,jN (by rw[e.1,e.2])];rfl
  .rw[if_neg e,jO (λz=>e (by
    have z':([Sum.inl a,Sum.inl b]:List Key)=[.inl x,.inl y]:=z;injection z' with z1 z2;injection z2 with z2 _;exact#[Sum.inl.inj z1,Sum.inl.inj z2])),kB x y r]
def sdD(a8:List ((Int×Int)×Int))(x y v:Int):List ((Int×Int)×Int):=if(lookD a8 x y).isSome then a8 else a8++[((x,y),v)]
def Ae:V->List V->Hp->VK->Prop:=λx vs H Q=>∃a b i j d a8,x=.ref a/\vs=[.ref b,.int d]/\H a=be (.dT (dtiV a8))/\H b=be (.tup [.int i,.int j])/\Q (.int ((lookD a8 i j).getD d)) H
def Af{X:Cx}(hu:X.A.units+1<Ss):MtR X "dict.get" Ae:=by
 intro pins s σ H x vs v us Q I rx rv h;obtain⟨a,b,i,j,d,a8,rfl,rfl,ha,hb,q⟩:=h;obtain⟨u,u',rfl,ru,rd⟩:=fu rv;cases(show v=Value.ref a from rx);refine xI hu I (DGet.t (k:=[.inl i,.inl j]) ha hb) ru rd λw' s' I' g5=>#[.int ((lookD a8 i j).getD d),H,I',?_,q];rw[kB]at g5;cases e:lookD a8 i j with
 |none=>rw[e]at g5;exact g5
 |some z=>rw[e]at g5;exact g5
def rSdT:V->List V->Hp->VK->Prop:=λx vs H Q=>∃a b i j d a8,x=.ref a/\vs=[.ref b,.int d]/\H a=be (.dT (dtiV a8))/\H b=be (.tup [.int i,.int j])/\a8.length<100000/\∀w,Q (.int w) (upd H a (.dT (dtiV (sdD a8 i j d))))
variable{a:KF}
def Ag{H:Hp}{o:HO}(h:H a=be o):upd H a o=H:=by
 funext b;by_cases e:b=a
 .subst e;rw[aG,h]
 .rw[ay e]
def Ah{X:Cx}(hu:X.A.units+1<Ss):MtR X "dict.setdefault" rSdT:=by
 intro pins s σ H x vs v us Q I rx rv h;obtain⟨a,b,i,j,d,a8,rfl,rfl,ha,hb,hl,q⟩:=h;obtain⟨u,u',rfl,ru,t,rfl⟩:=fu rv;cases(show v=Value.ref a from rx);cases(show u=Value.ref b from ru);obtain⟨z,hd,xs,JR,dd⟩:=xE I.hok ha;have b9:xs.length=a8.length:=by rw[<-Paired.length JR];simp[dtiV]
 have big:(100000:Nat)<sizeLine:=JQ
 have i_:H b=be (.tup (([.inl i,.inl j]:List Key).map kV)):=hb;have j7:=JR.val [.inl i,.inl j];rw[kB]at j7;refine SB PySem.F.slot_dict_setdefault dd.typeIs PySem.F.entry_dict_setdefault (PySem.F.args_dict_setdefault_3 _ _ _) (Ad (RV (bD X.prog X.w)) a b hd (.int d t)) #[SO hu,[.inl i,.inl j],xs,key_of I.hok i_,dd,JM,λp hp=>?_,λhn h' LG hs=>?_]
 .rw[hp]at j7;cases e:lookD a8 i j with
  |none=>rw[e]at j7;exact j7.elim
  |some w=>
   rw[e]at j7;have:=q w;unfold sdD at this;rw[e]at this;have e2:(if(be w:Option Int).isSome then a8 else a8++[((i,j),d)])=a8:=rfl;rw[e2,Ag ha]at this;exact#[.int w,H,I.tok _,j7,this]
 .rw[hn]at j7;cases e:lookD a8 i j with
  |some w=>rw[e]at j7;exact j7.elim
  |none=>
   have e2:sdD a8 i j d=a8++[((i,j),d)]:=by unfold sdD;rw[e];rfl
   have e3:dtiV (sdD a8 i j d)=dtiV a8++[([.inl i,.inl j],.int d)]:=by rw[e2];simp[dtiV]
   obtain⟨o,es,ep,ho,hx,h3,h4,_,h5⟩:=LG;have new:ObjOk X.prog X.w (upd H a (.dT (dtiV (sdD a8 i j d)))) h' a (.dT (dtiV (sdD a8 i j d))):=by
    refine#[by rw[e3,FV];simp[dtiV];lia,hd,_,?_,o,es,ep,ho,hx,h3,h4,h5];rw[e3];refine KT.keeps (H:=H) (Paired.snoc (a:=(([.inl i,.inl j]:List Key),V.int d)) (b:=(([.inl i,.inl j]:List Key),b,Value.int d t)) JR #[rfl,i_,#[t,rfl]]) λc ys ec=>?_;rw[ay (vB ec ha (λz=>nomatch z))];exact ec
   exact#[.int d,_,xF I (by rw[ha];exact True.intro) hs #[o,ho] new,#[t,rfl],q d]
section
variable {X:Cx}[J:Jm]{a b c e o f:P3}{ta tb tc te to:TME}{pos b_ a_:Ri}{t:TMA}
def mD0:TME:=λ_ M R=>R (.dti []) M
def Ai:ME X (.Dict [] [] pos) mD0:=⟨pe_dnewT.anti λs H Q q=>by
 obtain⟨F,z,M,k,rs,R,h1,h2⟩:=q;intro p hp;have gn:=Grow.new k.fh hp (.dT []);exact h2 _ _ M _ _ gn.toM h1 (rep_dti.mpr #[p,rfl,aG]) (rs.rm.grow gn)⟩
def mDN:TME:=λ_ M R=>∀p,p∉aj M->R (.ptr p) ((p,.dti [])::M)
def Aj:ME X (.Dict [] [] pos) mDN:=⟨pe_dnewT.anti λs H Q q=>by
 obtain⟨F,z,M,k,rs,R,h1,h2⟩:=q;intro p hp;exact h2 _ _ _ F _ (GrowM.new k.fh hp) (h1 p λz=>rs.rm.here z hp) (rep_ptr.mpr rfl) (rs.rm.new k.fh hp aG)⟩
def kdK(ds:List D)(k:Int->Int->Int->Prop):Prop:=kd2 ds λa b=>kdT a λl=>kd2 l λx y=>kdI x λi=>kdI y λj=>kdI b (k i j)
def kdK.of{ds:List D}{k:Int->Int->Int->Prop}(h:kdK ds k):∃i j x,ds=[.tup [.int i,.int j],.int x]/\k i j x:=by
 obtain⟨a,b,rfl,h2⟩:=kd2.of h;obtain⟨l,rfl,h3⟩:=kdT.of h2;obtain⟨x,y,rfl,h4⟩:=kd2.of h3;obtain⟨i,rfl,h5⟩:=kdI.of h4;obtain⟨j,rfl,h6⟩:=kdI.of h5;obtain⟨v,rfl,h7⟩:=kdI.of h6;exact#[i,j,v,rfl,h7]
def Ak(to:TME)(t:TMA):TME:=λz M R=>to z M λd M1=>match d with|.dti a8=>(t z M1 λds M2=>kdK ds λi j x=>R (.int ((lookD a8 i j).getD x)) M2)|_=>False
def Al(hu:X.A.units+1<Ss)(ho:ME X o to)(ha:MA X [e,f] t)(c5:autoParam (Rh o "get" X.env (Rg o X.env)=Rg o X.env) zA0)
  (e8:autoParam (zHF X a_ [e,f]) zA0)
  (c9:autoParam ((b_.endLine==a_.line)=true) zA0) (k6:autoParam (zSE X e [f]) zA0) (c_:autoParam (zPL X a_ [f]) zA0):
  ME X (.Call (.Attribute o "get" b_) [e,f] [] a_) (Ak to t):=⟨(dU PySem.F.plainAttrs_dict PySem.F.slot_dict_get PySem.F.type_dict_get (Af hu) ho.out ha.out c5 e8 c9 k6 c_).anti λs H Q h=>by
 obtain⟨F,z,M,k,rs,R,h1,h2⟩:=h;refine#[F,z,M,k,rs,_,h1,λx u M1 F1 H1 g1 hx rx m1=>?_];split at hx
 .rename_i a8;obtain⟨p,rfl,hp⟩:=rep_dti.mp rx;refine#[.inr (.inr (.inl #[rfl,.inr #[_,g1.fh _ _ hp]])),?_];refine#[F1,z,M1,k.growM rs.mb g1,rs.growM k.bh g1 m1,_,hx,λds vs M2 F2 H2 g2 hd rd m2=>?_];obtain⟨i,j,x,rfl,hd⟩:=kdK.of hd
  focus
   obtain⟨v1,r1,rfl,q1,q2⟩:=reps_cons.mp rd;obtain⟨v2,r2,rfl,q3,q4⟩:=reps_cons.mp q2;rw[reps_nil.mp q4,rep_int.mp q3];obtain⟨b,us,rfl,hb,ru⟩:=rep_tupS.mp q1;have MH:us=[.int i,.int j]:=(Reps.ints (ns:=[i,j])).mp ru;subst MH;exact#[p,b,i,j,x,a8,rfl,rfl,g2.fh _ _ (g2.ff _ _ hp),g2.fh _ _ hb,h2 _ _ M2 F2 H2 (g1.trans g2) hd (rep_int.mpr rfl) m2]
 .exact hx.elim⟩
def mDsd(to:TME)(t:TMA):TME:=λz M R=>to z M λd M1=>match d with|.ptr a=>(∃a8,mget M1 a=be (.dti a8))/\(t z M1 λds M2=>kdK ds λi j x=>∃a8,mget M2 a=be (.dti a8)/\a8.length<100000/\∀w,R (.int w) (mput M2 a (.dti (sdD a8 i j x))))|_=>False
def Am(hu:X.A.units+1<Ss)(ho:ME X o to)(ha:MA X [e,f] t)(c5:autoParam (Rh o "setdefault" X.env (Rg o X.env)=Rg o X.env) zA0)
  (e8:autoParam (zHF X a_ [e,f]) zA0)
  (c9:autoParam ((b_.endLine==a_.line)=true) zA0) (k6:autoParam (zSE X e [f]) zA0) (c_:autoParam (zPL X a_ [f]) zA0):
  ME X (.Call (.Attribute o "setdefault" b_) [e,f] [] a_) (mDsd to t):=⟨(dU PySem.F.plainAttrs_dict PySem.F.slot_dict_setdefault PySem.F.type_dict_setdefault (Ah hu) ho.out ha.out c5 e8 c9 k6 c_).anti λs H Q h=>by
 obtain⟨F,z,M,k,rs,R,h1,h2⟩:=h;refine#[F,z,M,k,rs,_,h1,λx u M1 F1 H1 g1 hx rx m1=>?_];split at hx
 .rename_i a;obtain⟨⟨QM,Mw⟩,hx⟩:=hx;rw[rep_ptr.mp rx];refine#[.inr (.inr (.inl #[rfl,.inr #[_,m1.ok _ _ (bn Mw)]])),?_];refine#[F1,z,M1,k.growM rs.mb g1,rs.growM k.bh g1 m1,_,hx,λds vs M2 F2 H2 g2 hd rd m2=>?_];obtain⟨i,j,x,rfl,a8,hm,hl,hR⟩:=kdK.of hd
  focus
   obtain⟨v1,r1,rfl,q1,q2⟩:=reps_cons.mp rd;obtain⟨v2,r2,rfl,q3,q4⟩:=reps_cons.mp q2;rw[reps_nil.mp q4,rep_int.mp q3];obtain⟨b,us,rfl,hb,ru⟩:=rep_tupS.mp q1;have MH:us=[.int i,.int j]:=(Reps.ints (ns:=[i,j])).mp ru;subst MH;refine#[a,b,i,j,x,a8,rfl,rfl,m2.ok _ _ (bn hm),g2.fh _ _ hb,hl,λw=>?_];exact h2 _ _ _ F2 _ (g1.trans (g2.trans (GrowM.put g2.fh (m2.fr a (bt (bn hm))) hm))) (hR w) (rep_int.mpr rfl) (m2.put hm aG)
 .exact hx.elim⟩
end
section
variable {P:Q5}{w:Q_}{K:Ex}{mg:A_->Option KB}{base:Rc}
open Classical in
def Cls.okIM{x qual:A_}{st:Q6}{f C:KF}{fd:Rf}{N:List A_}{p0:A_}{ps:List A_}{k:Nat}{S:SiD}(T:Fun K "__init__" qual st f fd)(hb:Binds K fd (p0::ps) [])(F:FnScope N (p0::ps) (ah st))(len:∀ds R,S ds R->ds.length=ps.length)
  (hns:nsIn K Pi x=be (be (.ref C))) (g_:mg x=be (.ref C)) (mk:Mk K C f)
  (a9:∀(cdv:KB) (A:Ra) (outer:List RQ) (s:KM) (H:Hp) (E:XK) (J:Jm),Room k (A.deeper (Rk qual (ah st) s.heap.objs.size f cdv))->XOkM (cxOf (CX1 P w) P w K mg base N qual (ah st) f cdv A outer s H E).nox->
   ∃t,MSs (cxOf (CX1 P w) P w K mg base N qual (ah st) f cdv A outer s H E).nox (aL st) t/\∀a ds R,(∀z M x fs,¬J.RM z M x fs)->S ds R->t {nx:=λ_ M'=>∃fs,M'=[(a,.ins x fs)]/\R fs,rt:=λ_ _=>False} (startD N (.ptr a::ds)) [(a,.ins x [])]):CalM P w K mg base (k+1) x (p0::ps) S:=by
 refine#[C,f,fd,hns,g_,mk,Fun.okC T F (λvs H Q E h=>?_) (λcdv A outer s H vs Q E hr h=>?_),hb]
 .obtain⟨a,dx,us,H1,F,ds,rfl,_,_,_,_,_,rs,R,h,_⟩:=h;rw[FW,FW,rs.length,len ds R h]
 .obtain⟨a,dx,us,H1,F1,ds,rfl,rfl,ha,m9,m_,fh,rs,R,h,q⟩:=h
  let H:Hp:=upd (upd H1 dx (.own a)) a (.ins C dx [])
  let B:Hp:=λb=>if b=a then r_ else H b
  have KZ:B a=none:=if_pos rfl;have hB:∀{b:KF},b≠a->B b=H b:=λ{b} h=>if_neg h;have l7:∀{b:KF} {o:HO},H1 b=be o->b≠a/\H b=be o:=λ{b o} e=>by
   have n1:b≠a:=cu e ha;exact#[n1,by show upd _ _ _ b=_;rw[ay n1,ay (cu e m9)];exact e]
  letI:Jm:={B:=B,F0:=F1,RX:=λ_ _ _=>False,RM:=λ_ _ _ _=>False}
  have hx:XOkM (cxOf (CX1 P w) P w K mg base N qual (ah st) f cdv A outer s H E).nox:=λσ z M' F' H' s' e C od y fs I kk rr hR er _=>hR.elim;obtain⟨t,ht,hq⟩:=a9 cdv A outer s H E inferInstance hr hx;have Fa:F1 a=none:=fh.free ha;have k0:Kept B F1 F1 H:=⟨λb o e=>by
   by_cases n:b=a
   .rw[n,KZ]at e;cases e
   .rw[hB n]at e;exact e,λb o e=>(l7 (fh b o e)).2,Same.refl F1,λ_ h _=>h,rfl,Same.refl F1,λ_ h _=>h⟩
  have v_:Reps K F1 (.ptr a::ds) (.ref a::us):=reps_cons.mpr #[_,_,rfl,rep_ptr.mpr rfl,rs];have MI:RepM K F1 H [(a,.ins x [])]:=⟨by simp[aj],λb o hb=>by
   have e:=FJ.mp hb;cases e;exact#[C,dx,[],hns,aG,repf_nil.mpr rfl],λb hb=>by
   have e:b=a:=by simpa[aj]using hb
   rw[e];exact Fa⟩
  have r0:RepZ K B F1 H (startD N (.ptr a::ds)) (L2.start N (.ref a::us)) [(a,.ins x [])]:=⟨dD v_,kz v_,MI,λb hb=>by
   have e:b=a:=by simpa[aj]using hb
   rw[e];exact KZ⟩
  refine#[_,ht.out.nox,F1,F1,_,_,k0,r0,_,hq a ds R (λ_ _ _ _ z=>z) h,#[λz' s' M' F' H' kk hn r=>?_,λd v M' F' H' kk hd rd Mz mb=>hd.elim,λ_ _ _ _ _ _ h _=>h.elim,λ_ _ _ _ _ _ h _=>h.elim]];obtain⟨fs,rfl,hR⟩:=hn;obtain⟨C',Jc,ws,l9,k8,rf⟩:=r.rm.ok a _ (FJ.mpr rfl);have JN:nsIn K Pi x=be (be (.ref C')):=l9;rw[hns]at JN;cases JN;exact q fs ws Jc F' H' ⟨kk.f0,kk.fh,λb o e=>kk.bh b o (by show B b=be o;rw[hB (l7 e).1];exact(l7 e).2),λb h1 h2=>kk.out b h1 (by
   show B b≠r_;cases e:H1 b with
   |none=>exact absurd e h2
   |some o=>rw[hB (l7 e).1,(l7 e).2];exact λz=>nomatch z)⟩ hR k8 (r.rm.fr a (by simp[aj])) rf
end
section
variable {P:Q5}{w:Q_}{K:Ex}{mg:A_->Option KB}{base:Rc}{n:Nat}{x m:A_}{ps:List A_}
variable{S:SpM}
def CalMth.one(h:CalMth P w K mg base n x m ps (lSpM K S)):∀y,y∈[x]->CalMth P w K mg base n y m ps (lSpM K ((λ_=>S) y)):=λy hy=>by
 rw[FJ.mp hy];exact h
def sQ{f:KF}{fd:Rf}{sp:Sp}(h:∀vs H Q E,¬sp vs H Q E):FnOk P w K mg base (CX1 P w) n f fd ps sp:=#[λvs H Q E q=>(h _ _ _ _ q).elim,λA outer s H args us vs Q E _ _ _ _ q=>(h _ _ _ _ q).elim]
def sR(h:∀ds M R RX,¬S ds M R RX):∀vs H Q E,¬lSpM K S vs H Q E:=by
 rintro vs H Q E⟨F,ds,M,_,_,_,R,RX,q,_⟩;exact h ds M R RX q
def CalMth.never{qual:A_}{st:Q6}(T:Txm K x m qual st ps)(h:∀ds M R RX,¬S ds M R RX):CalMth P w K mg base n x m ps (lSpM K S):=by
 obtain⟨C,f,fd,h1,h2,h3,T,hb⟩:=T;exact#[C,f,fd,h1,h2,h3,sQ (sR h),hb]
def CalMM.never{st:Q6}(T:Tx K mg x st ps)(h:∀ds M R RX,¬S ds M R RX):CalMM P w K mg base n x ps S:=by
 obtain⟨f,fd,T,hb,hm⟩:=T;exact#[f,fd,sQ (sR h),hb,T.kp,hm]
end
section
variable {X:Cx}[J:Jm]{a b c e:P3}{ta tb:TME}{pos:Ri}
def mUn(r:D->(D->Prop)->Prop)(ta:TME):TME:=λz M R=>ta z M λx M1=>r x λd=>R d M1
end
def kC(S:SpM):SpM:=λds M R RX=>∃M1 M2,M=M1++M2/\S ds M2 (λd M'=>R d (M1++M')) λx fs M'=>RX x fs (M1++M')
def keys_app{M1 M2:MS}:a∈aj (M1++M2)↔a∈aj M1\/a∈aj M2:=by unfold aj;rw[Gh,Ga]
variable{K:Ex}
def kD{S:SpM}{vs:List V}{H:Hp}{Q:VK}{E:XK}(h:lSpM K (kC S) vs H Q E):lSpM K S vs H Q E:=by
 obtain⟨F,ds,M,fh,rs,rm,R,RX,⟨M1,M2,rfl,hS⟩,q,qx⟩:=h;have nd:(aj M1++aj M2).Nodup:=by have:=rm.nd;unfold aj at this ⊢;rw[Gh]at this;exact this
 have MJ:∀{a:KF},a∈aj M1->a∉aj M2:=λ{a} h1 h2=>(GW.mp nd).2.2 a h1 a h2 rfl;have PP:RepM K F H M2:=#[(GW.mp nd).2.1,λa o h=>rm.ok a o (F7 _ h),λa h=>rm.fr a (keys_app.mpr (.inr h))];have up:∀{M':MS} {F' H':Hp},GrowM M2 M' F H F' H'->RepM K F' H' M'->GrowM (M1++M2) (M1++M') F H F' H'/\RepM K F' H' (M1++M'):=λ{M' F' H'} g r=>by
  have OC:∀{a:KF},a∈aj M1->H a≠none:=λ{a} h=>rm.here (keys_app.mpr (.inl h));have MK:∀{a:KF},a∈aj M1->a∉aj M':=λ{a} h1 h2=>by
   rcases g.ks a h2 with z|z
   .exact MJ h1 z
   .exact OC h1 z
  refine#[#[g.ff,g.fh,λb o nb e=>g.hh b o (λz=>nb (keys_app.mpr (.inr z))) e,λb nb h1 h2=>g.out b (λz=>nb (keys_app.mpr (.inr z))) h1 h2,λb hb=>?_],#[?_,λa o h=>?_,λa h=>?_]]
  .rcases keys_app.mp hb with z|z
   .exact .inl (keys_app.mpr (.inl z))
   .exact(g.ks b z).imp (λz=>keys_app.mpr (.inr z)) id
  .unfold aj;rw[Gh];exact GW.mpr #[(GW.mp nd).1,r.nd,λa h1 b h2 e=>MK h1 (e ▸ h2)]
  .rcases Ga.mp h with z|z
   .have ka:a∈aj M1:=bt z;exact(rm.ok a o (GN _ z)).mono g.ff λo e=>g.hh a o (MJ ka) e
   .exact r.ok a o z
  .rcases keys_app.mp h with z|z
   .exact g.out a (MJ z) (rm.fr a (keys_app.mpr (.inl z))) (OC z)
   .exact r.fr a z
 exact#[F,ds,M2,fh,rs,PP,_,_,hS,λd v M' F' H' g hd rd m'=>q d v _ F' H' (up g m').1 hd rd (up g m').2,λx fs C od M' F' H' g hR er m'=>qx x fs C od _ F' H' (up g m').1 hR er (up g m').2]
section
variable {P:Q5}{w:Q_}{K:Ex}{mg:A_->Option KB}{base:Rc}{n:Nat}{x m:A_}{ps:List A_}{S:SpM}
def CalMM.frame(C:CalMM P w K mg base n x ps S):CalMM P w K mg base n x ps (kC S):=C.imp λ_ _ _ _ h=>kD h
def CalMth.frame(C:CalMth P w K mg base n x m ps (lSpM K S)):CalMth P w K mg base n x m ps (lSpM K (kC S)):=C.imp λ_ _ _ _ h=>kD h
end
def nilX(S:SpX):SpM:=λds M R RX=>M=[]/\∃(R0:D->Prop) (Je:XD),S ds R0 Je/\(∀d M',R0 d->R d M')/\∀x fs M',Je x fs->RX x fs M'
def CalMM.nilX{P:Q5}{w:Q_}{mg:A_->Option KB}{base:Rc}{n:Nat}{x:A_}{ps:List A_}{S:SpX}(C:CalMM P w K mg base n x ps (nilX S)):CalX P w K mg base n x ps S:=C.toX λ_ R RX h=>#[rfl,R,RX,h,λ_ _ h=>h,λ_ _ _ h=>h]
mutual
def bZ:D->Bool
 |.non=>true|.bl _=>true|.int _=>true|.str _=>true|.ptr _=>true
 |.tup ds=>flats ds
 |.lst ds=>flats ds
 |_=>false
def flats:List D->Bool
 |[]=>true
 |d::ds=>bZ d&&flats ds
end
def cutF(F:Hp)(a:KF):Hp:=λb=>if b=a then r_ else F b
variable{F:Hp}
def fR{b:KF}(h:b≠a):cutF F a b=F b:=if_neg h
mutual
def Rep.cutF{K:Ex}{F:Hp}{a:KF}{C:KF}{dx:KF}{ws:List (A_×V)}(ea:F a=be (.ins C dx ws)):∀(d:D) (v:V),bZ d=true->Rep K F d v->Rep K (My.cutF F a) d v
 |.non,v,_,h=>by unfold Rep at h ⊢;exact h
 |.bl b,v,_,h=>by unfold Rep at h ⊢;exact h
 |.int b,v,_,h=>by unfold Rep at h ⊢;exact h
 |.str b,v,_,h=>by unfold Rep at h ⊢;exact h
 |.ptr b,v,_,h=>by unfold Rep at h ⊢;exact h
 |.tup ds,v,n,h=>by
  unfold Rep at h ⊢;obtain⟨p,vs,e,q,r⟩:=h;have ne:p≠a:=λz=>by rw[z,ea]at q;cases q
  exact#[p,vs,e,by rw[fR ne];exact q,Reps.cutF ea ds vs (by unfold bZ at n;exact n) r]
 |.lst ds,v,n,h=>by
  unfold Rep at h ⊢;obtain⟨p,vs,e,q,r⟩:=h;have ne:p≠a:=λz=>by rw[z,ea]at q;cases q
  exact#[p,vs,e,by rw[fR ne];exact q,Reps.cutF ea ds vs (by unfold bZ at n;exact n) r]
 |.rol _,_,n,_=>by unfold bZ at n;cases n
 |.obj _ _,_,n,_=>by unfold bZ at n;cases n
 |.exc _ _,_,n,_=>by unfold bZ at n;cases n
 |.own _,_,n,_=>by unfold bZ at n;cases n
 |.dti _,_,n,_=>by unfold bZ at n;cases n
def Reps.cutF{K:Ex}{F:Hp}{a:KF}{C:KF}{dx:KF}{ws:List (A_×V)}(ea:F a=be (.ins C dx ws)):∀(ds:List D) (vs:List V),flats ds=true->Reps K F ds vs->Reps K (My.cutF F a) ds vs
 |[],vs,_,h=>by unfold Reps at h ⊢;exact h
 |d::ds,vs,n,h=>by
  unfold flats at n;rw[Gf]at n;unfold Reps at h ⊢;obtain⟨v,r,e,q1,q2⟩:=h;exact#[v,r,e,Rep.cutF ea d v n.1 q1,Reps.cutF ea ds r n.2 q2]
end
def ck(a:KF)(o:D)(d:D):D:=match d with|.ptr b=>if b=a then o else .ptr b|d=>d
def An{F2:Hp}{o d:D}{v:V}(g:Same F F2)(ro:Rep K F2 o (.ref a))(h:Rep K F d v):Rep K F2 (ck a o d) v:=by
 unfold ck;split
 .rename_i b;split
  .rename_i e;rw[rep_ptr.mp h,e];exact ro
  .exact rep_ptr.mpr (rep_ptr.mp h)
 .exact h.mono g
def sS{F2:Hp}{o:D}(g:Same F F2)(ro:Rep K F2 o (.ref a)){ds:List D}:∀{vs:List V},Reps K F ds vs->Reps K F2 (ds.map (ck a o)) vs:=by
 induction ds with
 |nil=>intro vs h;rw[reps_nil.mp h];exact reps_nil.mpr rfl
 |cons d ds ih=>
  intro vs h;obtain⟨v,r,rfl,q1,q2⟩:=reps_cons.mp h;exact reps_cons.mpr #[v,r,rfl,An g ro q1,ih q2]
def NoOwn(z:SD):Prop:=∀(i:Nat) ds,z[i]?≠be (be (.own ds))
def ofB(B H:Hp)(M:MS):Hp:=λb=>if b∈aj M then H b else B b
def jOf(B H F:Hp)(M:MS):Jx:=#[ofB B H M,F,λ_ _ _=>False]
def endD(E:EndsM)(M:MS):EndsD:=#[λz=>E.nx z M/\NoOwn z,λd=>E.rt d M,λz=>E.bk z M/\NoOwn z,λz=>E.ct z M/\NoOwn z]
section
variable {X:Cx}[J:Jm]
variable{B H:Hp}{M:MS}
def kE{b:KF}(h:b∈aj M):ofB B H M b=H b:=if_pos h
def kF{b:KF}(h:b∉aj M):ofB B H M b=B b:=if_neg h
variable{K:Ex}{F0 F:Hp}{z:SD}{s:L2.St}
def cU{F' H':Hp}(k:Kept J.B F0 F H)(rz:RepZ K J.B F H z s M)(k':@Kept (jOf J.B H F M) (ofB J.B H M) F F' H'):Kept J.B F0 F' H'/\RepM K F' H' M:=by
 have nk:∀b,J.B b≠r_->b∉aj M:=λb e z=>e (rz.mb b z);obtain⟨bh,fh,f0,out,_,_,_⟩:=k';refine#[#[λb o e=>?_,fh,k.f0.trans f0,λb h1 h2=>?_,k.eb,k.jf,k.jo],rz.rm.nd,λb o hb=>(rz.rm.ok b o hb).mono f0 λo e=>?_,λb hb=>?_]
 .exact bh b o (by rw[kF (nk b (by rw[e];exact λz=>nomatch z))];exact e)
 .exact out b (k.out b h1 h2) (by rw[kF (nk b h2)];exact h2)
 .exact bh b o (by rw[kE (bt hb)];exact e)
 .exact out b (rz.rm.fr b hb) (by rw[kE hb];exact rz.rm.here hb)
def gX{B':Hp}(r:RepS K B F H z s)(no:NoOwn z):RepS K B' F H z s:=#[r.len,r.val,λi ds e=>absurd e (no i ds),r.apart]
def Ao(k:Kept J.B F0 F H):@Kept (jOf J.B H F M) (ofB J.B H M) F F H:=
 @Kept.mk (jOf J.B H F M) _ _ _ _ (λb o e=>by
  by_cases hb:b∈aj M
  .rw[kE hb]at e;exact e
  .rw[kF hb]at e;exact k.bh b o e) k.fh (Same.refl F) (λ_ h _=>h) rfl (Same.refl F) (λ_ h _=>h)
def Ap{ED:EndsM}{D:Ends}(k:Kept J.B F0 F H)(rz:RepZ K J.B F H z s M)(e:EndsOkM K F0 ED D):@EndsOk (jOf J.B H F M) K (ofB J.B H M) F (endD ED M) D:=
 @EndsOk.mk (jOf J.B H F M) _ _ _ _ _ (λz' s' F' H' k' hz r'=>e.nx z' s' M F' H' (cU k rz k').1 hz.1 #[gX r' hz.2,hz.2,(cU k rz k').2,rz.mb])
  (λd v F' H' k' hd rd=>e.rt d v M F' H' (cU k rz k').1 hd rd (cU k rz k').2 rz.mb)
  (λz' s' F' H' k' hz r'=>e.bk z' s' M F' H' (cU k rz k').1 hz.1 #[gX r' hz.2,hz.2,(cU k rz k').2,rz.mb])
  (λz' s' F' H' k' hz r'=>e.ct z' s' M F' H' (cU k rz k').1 hz.1 #[gX r' hz.2,hz.2,(cU k rz k').2,rz.mb])
def mTry(tb:Jm->TMS)(th:TH):TMS:=λE z M=>∃RM:SD->MS->XD,(∀J':Jm,J'.RM=RM->tb J' E z M)/\∀z' M' x fs,RM z' M' x fs->th x fs (endD E M') z'
def jTry(B F0:Hp)(RM:SD->MS->XD):Jm:={B:=B,F0:=F0,RX:=λ_ _ _=>False,RM:=RM}
variable{RM:SD->MS->XD}
def Kept.reM(k:Kept J.B F0 F H):@Kept (jTry J.B F0 RM).toJx J.B F0 F H:=@Kept.mk (jTry J.B F0 RM).toJx J.B F0 F H k.bh k.fh k.f0 k.out rfl (Same.refl F0) (λ_ h _=>h)
def Kept.unM{F' H':Hp}(k:Kept J.B F0 F H)(k':@Kept (jTry J.B F0 RM).toJx J.B F0 F' H'):Kept J.B F0 F' H':=by
 obtain⟨a,b,c,d,_,_,_⟩:=k';exact#[a,b,c,d,k.eb,k.jf,k.jo]
def Aq{body:List Q6}{h₀:RC}{hs:List RC}{pos:Ri}{tb:Jm->TMS}{th:TH}
  (hb:∀(pn:List (KF×Ro)) (xe:KB->KM->Prop) (J':Jm),Rr (Q8 X.prog X.w) X.A X.env xe->@XOkM (X.tried pn xe) J'->@MSs (X.tried pn xe) J' body (tb J'))
  (hh:∀J':Jx,@WDH X J' (h₀::hs) th) (f9:autoParam (X.ex=[]) zA0) (v8:autoParam (X.stack=X.env::X.outer) zA0) (m6:autoParam (X.env.frame=be X.env.locals) zA0):MSt X (.Try body (h₀::hs) [] [] pos) (mTry tb th):=⟨by
 intro pins s σ H D I h;obtain⟨F0,F,z,M,k,rz,ED,⟨RM,h1,h2⟩,ee⟩:=h;have ok:=I.ok;have hx:@XOkM (X.tried (X.pn++pins) (λe s₁=>Q7 (Q8 X.prog X.w) X.A (RW e X.env) (λ_ s₂=>Q7 (Q8 X.prog X.w) X.A (Sa e r_) (λ_ s₃=>Q7 (Q8 X.prog X.w) X.A (Sl e X.env (h₀::hs)) (SP X pins D) X.xe s₃) X.xe s₂) X.xe s₁)) (jTry J.B F0 RM):=by
  intro σ' z' M' F' H' s' e C od x fs I1 kk rr hR er hd;have k2:Kept J.B F0 F' H':=Kept.unM k kk;exact zf (Inv.untried ok I1) hd f9 v8 m6 λs4 T2 I4 hl=>@WDH.out X (jOf J.B H' F' M') _ _ (hh _) pins s4 σ' H' D e C od T2 x fs (ofB J.B H' M') F' F' z' (endD ED M') I4 hl (Ao k2) (gX rr.rs rr.no) er (h2 z' M' x fs hR) (Ap k2 rr ee)
 refine wpAny_Try_except (Rn (@MSs.out _ (jTry J.B F0 RM) _ _ (hb (X.pn++pins) _ (jTry J.B F0 RM) PassesOwn.looking hx) [] s σ H D (Inv.tried I) ?_) (λf s1 q=>?_) λe s1 q=>q)
 .exact#[F0,F,z,M,Kept.reM k,rz,ED,h1 (jTry J.B F0 RM) rfl,@EndsOkM.mk (jTry J.B F0 RM) _ _ _ _ (λz' s' M' F' H' k'=>ee.nx z' s' M' F' H' (Kept.unM k k')) (λd v M' F' H' k'=>ee.rt d v M' F' H' (Kept.unM k k')) (λz' s' M' F' H' k'=>ee.bk z' s' M' F' H' (Kept.unM k k')) (λz' s' M' F' H' k'=>ee.ct z' s' M' F' H' (Kept.unM k k'))]
 .have q:=SP.untried ok q;cases f with
  |next=>exact RL q
  |ret v=>exact q
  |brk=>exact q
  |cont=>exact q⟩
end
end My
namespace My
section
variable {K:Ex}{h:Rc}{mg:A_->Option KB}{x y m q f:A_}{st:Q6}{ps:List A_}
abbrev NsC(K:Ex)(x:A_)(C:KF):Prop:=nsIn K Pi x=be (be (.ref C))
variable{C:KF}
def NsC.uniq{D:KF}(a:NsC K x C)(b:NsC K x D):C=D:=by
 have e:=a.symm.trans b;cases e;rfl
abbrev BindA(x q:A_)(st:Q6)(ps:List A_):Prop:=∀(kV doc pm:KB) (an:Option KF) (cdv ct:KB) (us:List KB),us.length=ps.length->RJ (fnOf x q (bz st) (aL st) (ah st) .none kV doc pm an cdv ct) #[us,[]]=pure (ps.zip us)
def FnIn(K:Ex)(x:A_)(st:Q6):Prop:=∃f fd,NsC K x f/\Fun K x x st f fd
variable{oc kV dc pm cd ct:KB}{od an:Option KF}{sl:Array (Option KB)}
def fnIn_mk{f:KF}(a:nsIn K Pi x=be (be (.ref f)))(l:K.lookup f=be #[oc,od,.func (fnOf x x (bz st) (aL st) (ah st) .none kV dc pm an cd ct),sl])(c:codeIn K cd x=true)(k:keepIn K (.ref f)=true):FnIn K x st:=#[f,_,a,jM l c k]
def FnIn.tx(T:FnIn K x st)(X:K.In h)(G:h.Ns Pi mg)(b:BindA x x st ps):Tx K mg x st ps:=by
 obtain⟨f,fd,a,F⟩:=T;exact#[f,fd,F,F.binds b,mg_of X G a]
def FnIn.law{p:A_}(T:FnIn K x st)(X:K.In h)(G:h.Ns Pi mg){fa:KF}(ML:mg x=be (.ref fa))(b:∀(kV doc pm:KB) (an:Option KF) (cdv ct v:KB),RJ (fnOf x x (bz st) (aL st) (ah st) .none kV doc pm an cdv ct) #[[v],[]]=pure [(p,v)]):∃fd,(∀(s:KM) (v:KB),R1 s fd #[[v],[]] [(p,v)])/\Fun K x x st fa fd:=by
 obtain⟨f,fd,a,F⟩:=T;have e:=ML.symm.trans (mg_of X G a);cases e;refine#[fd,λs v=>?_,F];obtain⟨oc,od,kV,doc,pm,an,cdv,ct,osl,rfl,lk,gV⟩:=F.ex;exact .of_eq (b _ _ _ _ _ _ v)
variable{us:List KB}
def bg{x:A_}{xs:List A_}(h:us.length=(x::xs).length):∃u t,us=u::t/\t.length=xs.length:=by
 cases us with
 |nil=>cases h
 |cons u t=>exact#[u,t,rfl,Nat.succ.inj h]
def len_0(h:us.length=([]:List A_).length):us=[]:=Iu h
variable{x0:A_}
def Ar(b:∀(kV doc pm:KB) (an:Option KF) (cdv ct u0:KB),RJ (fnOf x q (bz st) (aL st) (ah st) .none kV doc pm an cdv ct) #[[u0],[]]=pure [(x0,u0)]):BindA x q st [x0]:=λkV doc pm an cdv ct us hl=>by
 obtain⟨u0,t0,rfl,h0⟩:=bg hl;cases len_0 h0;exact b kV doc pm an cdv ct u0
variable{x1:A_}
def bind2(b:∀(kV doc pm:KB) (an:Option KF) (cdv ct u0 u1:KB),RJ (fnOf x q (bz st) (aL st) (ah st) .none kV doc pm an cdv ct) #[[u0,u1],[]]=pure [(x0,u0),(x1,u1)]):BindA x q st [x0,x1]:=λkV doc pm an cdv ct us hl=>by
 obtain⟨u0,t0,rfl,h0⟩:=bg hl;obtain⟨u1,t1,rfl,h1⟩:=bg h0;cases len_0 h1;exact b kV doc pm an cdv ct u0 u1
variable{x2:A_}
def bind3(b:∀(kV doc pm:KB) (an:Option KF) (cdv ct u0 u1 u2:KB),RJ (fnOf x q (bz st) (aL st) (ah st) .none kV doc pm an cdv ct) #[[u0,u1,u2],[]]=pure [(x0,u0),(x1,u1),(x2,u2)]):BindA x q st [x0,x1,x2]:=λkV doc pm an cdv ct us hl=>by
 obtain⟨u0,t0,rfl,h0⟩:=bg hl;obtain⟨u1,t1,rfl,h1⟩:=bg h0;obtain⟨u2,t2,rfl,h2⟩:=bg h1;cases len_0 h2;exact b kV doc pm an cdv ct u0 u1 u2
variable{x3:A_}
def bind4(b:∀(kV doc pm:KB) (an:Option KF) (cdv ct u0 u1 u2 u3:KB),RJ (fnOf x q (bz st) (aL st) (ah st) .none kV doc pm an cdv ct) #[[u0,u1,u2,u3],[]]=pure [(x0,u0),(x1,u1),(x2,u2),(x3,u3)]):BindA x q st [x0,x1,x2,x3]:=λkV doc pm an cdv ct us hl=>by
 obtain⟨u0,t0,rfl,h0⟩:=bg hl;obtain⟨u1,t1,rfl,h1⟩:=bg h0;obtain⟨u2,t2,rfl,h2⟩:=bg h1;obtain⟨u3,t3,rfl,h3⟩:=bg h2;cases len_0 h3;exact b kV doc pm an cdv ct u0 u1 u2 u3
def bind5{x4:A_}(b:∀(kV doc pm:KB) (an:Option KF) (cdv ct u0 u1 u2 u3 u4:KB),RJ (fnOf x q (bz st) (aL st) (ah st) .none kV doc pm an cdv ct) #[[u0,u1,u2,u3,u4],[]]=pure [(x0,u0),(x1,u1),(x2,u2),(x3,u3),(x4,u4)]):BindA x q st [x0,x1,x2,x3,x4]:=λkV doc pm an cdv ct us hl=>by
 obtain⟨u0,t0,rfl,h0⟩:=bg hl;obtain⟨u1,t1,rfl,h1⟩:=bg h0;obtain⟨u2,t2,rfl,h2⟩:=bg h1;obtain⟨u3,t3,rfl,h3⟩:=bg h2;obtain⟨u4,t4,rfl,h4⟩:=bg h3;cases len_0 h4;exact b kV doc pm an cdv ct u0 u1 u2 u3 u4
def bind6{x4 x5:A_}(b:∀(kV doc pm:KB) (an:Option KF) (cdv ct u0 u1 u2 u3 u4 u5:KB),RJ (fnOf x q (bz st) (aL st) (ah st) .none kV doc pm an cdv ct) #[[u0,u1,u2,u3,u4,u5],[]]=pure [(x0,u0),(x1,u1),(x2,u2),(x3,u3),(x4,u4),(x5,u5)]):BindA x q st [x0,x1,x2,x3,x4,x5]:=λkV doc pm an cdv ct us hl=>by
 obtain⟨u0,t0,rfl,h0⟩:=bg hl;obtain⟨u1,t1,rfl,h1⟩:=bg h0;obtain⟨u2,t2,rfl,h2⟩:=bg h1;obtain⟨u3,t3,rfl,h3⟩:=bg h2;obtain⟨u4,t4,rfl,h4⟩:=bg h3;obtain⟨u5,t5,rfl,h5⟩:=bg h4;cases len_0 h5;exact b kV doc pm an cdv ct u0 u1 u2 u3 u4 u5
structure ClF(K:Ex)(x:Str)(C:KF):Prop where
 ns:NsC K x C
 cl:Cls K C
 ha:findIn K (.ref C) "__class__"=be (be (.builtin "object.__class__"))
 hn:specialIn K (.builtin "object.__class__") "__get__"=be (be (.builtin "getset_descriptor.__get__"))
 ht:takesIn K (.builtin "object.__class__")=be true
 hm:mroIn K C (.type "object")=be true
def ClIn(K:Ex)(x:A_):Prop:=∃C,ClF K x C
def clIn_mk(a:nsIn K Pi x=be (be (.ref C)))(pg:plainGet K C Str.empty=true)(hd:hasDictIn K C=true)(po:plainOver K C=true)(sa:findIn K (.ref C) "__setattr__"=be (be (.builtin "object.__setattr__")))
  (ha:findIn K (.ref C) "__class__"=be (be (.builtin "object.__class__"))) (hn:specialIn K (.builtin "object.__class__") "__get__"=be (be (.builtin "getset_descriptor.__get__"))) (ht:takesIn K (.builtin "object.__class__")=be true) (hm:mroIn K C (.type "object")=be true):ClIn K x:=#[C,a,#[pg,hd,po,sa],ha,hn,ht,hm]
def NoIn(K:Ex)(x f:A_):Prop:=∃C,NsC K x C/\findIn K (.ref C) f=be r_
def noIn_mk(a:nsIn K Pi x=be (be (.ref C)))(b:findIn K (.ref C) f=be r_):NoIn K x f:=#[C,a,b]
def ClIn.a(c:ClIn K x)(n:NoIn K x f):ClsA K x f:=by
 obtain⟨C,k⟩:=c;obtain⟨D,a,b⟩:=n;cases NsC.uniq k.ns a;exact#[C,a,k.cl,b]
def MtIn(K:Ex)(x m q:A_)(st:Q6):Prop:=∃C f fd,NsC K x C/\Meth K C m f/\Fun K m q st f fd
def mtIn_mk{f:KF}(a:nsIn K Pi x=be (be (.ref C)))(b:findIn K (.ref C) m=be (be (.ref f)))(i:isFn K (.ref f)=true)(l:K.lookup f=be #[oc,od,.func (fnOf m q (bz st) (aL st) (ah st) .none kV dc pm an cd ct),sl])(c:codeIn K cd q=true)(k:keepIn K (.ref f)=true):MtIn K x m q st:=#[C,f,_,a,#[b,i,k],jM l c k]
def MtIn.txm(T:MtIn K x m q st)(c:ClIn K x)(b:BindA m q st ps):Txm K x m q st ps:=by
 obtain⟨C,k⟩:=c;obtain⟨D,f,fd,a,mt,F⟩:=T;cases NsC.uniq k.ns a;exact#[C,f,fd,a,k.cl,mt,F,F.binds b]
def InIn(K:Ex)(x q:A_)(st:Q6):Prop:=∃C f fd,NsC K x C/\Mk K C f/\Fun K "__init__" q st f fd
def inIn_mk{f:KF}(a:nsIn K Pi x=be (be (.ref C)))(mk:makesIn K C=true)(b:findIn K (.ref C) "__init__"=be (be (.ref f)))(i:isFn K (.ref f)=true)(kp:keepIn K (.ref C)=true)(l:K.lookup f=be #[oc,od,.func (fnOf "__init__" q (bz st) (aL st) (ah st) .none kV dc pm an cd ct),sl])(c:codeIn K cd q=true)(k:keepIn K (.ref f)=true):InIn K x q st:=#[C,f,_,a,#[mk,b,i,kp],jM l c k]
def Txi(K:Ex)(mg:A_->Option KB)(x q:A_)(st:Q6)(ps:List A_):Prop:=∃C f fd,NsC K x C/\mg x=be (.ref C)/\Mk K C f/\Fun K "__init__" q st f fd/\Binds K fd ps []
def InIn.txi(T:InIn K x q st)(X:K.In h)(G:h.Ns Pi mg)(b:BindA "__init__" q st ps):Txi K mg x q st ps:=by
 obtain⟨C,f,fd,a,mk,F⟩:=T;exact#[C,f,fd,a,mg_of X G a,mk,F,F.binds b]
def CiIn(K:Ex)(x:A_)(i:Int):Prop:=∃t,nsIn K Pi x=be (be (.int i t))
def CsIn(K:Ex)(x y:A_):Prop:=∃t,nsIn K Pi x=be (be (.str y t))
def ciIn_mk{i:Int}{t:SW}(a:nsIn K Pi x=be (be (.int i t))):CiIn K x i:=#[t,a]
def csIn_mk{t:SW}(a:nsIn K Pi x=be (be (.str y t))):CsIn K x y:=#[t,a]
def CiIn.g{i:Int}(c:CiIn K x i)(X:K.In h)(G:h.Ns Pi mg):∃t,mg x=be (.int i t):=let ⟨t,a⟩:=c;#[t,mg_of X G a]
def CsIn.g(c:CsIn K x y)(X:K.In h)(G:h.Ns Pi mg):∃t,mg x=be (.str y t):=let ⟨t,a⟩:=c;#[t,mg_of X G a]
def NnIn(K:Ex)(x:A_):Prop:=nsIn K Pi x=be r_
def nnIn_mk(a:nsIn K Pi x=be r_):NnIn K x:=a
structure ErF(K:Ex)(x:Str)(bm:List KB)(C N:KF):Prop where
 ns:NsC K x C
 kp:keepIn K (.ref C)=true
 ob:∃nm q bs sn sub ab col dd k0 k1 k2 k3 k5,K.lookup C=be (RF nm q C N bs bm true sn sub ab col dd k0 k1 k2 k3 k5 "ValueError.__new__")
structure ErN(K:Ex)(N:KF):Prop where
 ok:nsOkIn K N=true
 no:nsIn K N "__init__"=be r_
def EbIn(K:Ex):Prop:=∃C N,ErF K "MotifError" Exc.veLine C N/\ErN K N
def EdIn(K:Ex)(x:A_)(C N:KF):Prop:=∃B,NsC K "MotifError" B/\ErF K x (.ref B::Exc.veLine) C N
def E0In(K:Ex)(x:A_):Prop:=∃C N,EdIn K x C N/\ErN K N
def EmIn(K:Ex)(x y:A_):Prop:=∃C D,NsC K x C/\NsC K y D/\mroIn K C (.ref D)=be (subE x y)
section
variable {B C D N:KF}{nm qn:A_}{bs:List KB}{sn:List A_}{sub:List KB}{ab:Bool}{col:Option Bool}{dd:Option KF}{k0 k1 k2 k3 k5:Option KB}{nc:KB}{nd:Option KF}{ne:Array DictEntry}{np:Nat}{nl:Array (Option KB)}
def ebIn_mk(a:nsIn K Pi "MotifError"=be (be (.ref C)))(kp:keepIn K (.ref C)=true)(o:K.lookup C=be (RF nm qn C N bs Exc.veLine true sn sub ab col dd k0 k1 k2 k3 k5 "ValueError.__new__"))(nk:K.lookup N=be #[nc,nd,.dict ne np,nl])(al:ne.toList.all (λe=>match e.key with|.str _ _=>true|_=>false)=true)(ni:nsIn K N "__init__"=be r_):EbIn K:=#[C,N,#[a,kp,_,_,_,_,_,_,_,_,_,_,_,_,_,o],so nk al,ni]
def e0In_mk(b:nsIn K Pi "MotifError"=be (be (.ref B)))(a:nsIn K Pi x=be (be (.ref C)))(kp:keepIn K (.ref C)=true)(o:K.lookup C=be (RF nm qn C N bs (.ref B::Exc.veLine) true sn sub ab col dd k0 k1 k2 k3 k5 "ValueError.__new__"))(nk:K.lookup N=be #[nc,nd,.dict ne np,nl])(al:ne.toList.all (λe=>match e.key with|.str _ _=>true|_=>false)=true)(ni:nsIn K N "__init__"=be r_):E0In K x:=#[C,N,#[B,b,a,kp,_,_,_,_,_,_,_,_,_,_,_,_,_,o],so nk al,ni]
def emIn_mkT(e:subE x y=true)(a:nsIn K Pi x=be (be (.ref C)))(c:nsIn K Pi y=be (be (.ref D)))(d:mroIn K C (.ref D)=be true):EmIn K x y:=#[C,D,a,c,e ▸ d]
def emIn_mkF(e:subE x y=false)(a:nsIn K Pi x=be (be (.ref C)))(c:nsIn K Pi y=be (be (.ref D)))(d:mroIn K C (.ref D)=be false):EmIn K x y:=#[C,D,a,c,e ▸ d]
end
def EdIn.k{N:KF}(e:EdIn K x C N)(b:EbIn K)(X:K.In h)(G:h.Ns Pi mg):∃bm,ErrK K mg x C N bm:=by
 obtain⟨B,hB,k⟩:=e;obtain⟨B',N',kb,n⟩:=b;cases NsC.uniq kb.ns hB;obtain⟨_,_,_,_,_,_,_,_,_,_,_,_,_,o⟩:=kb.ob;exact#[_,k.ns,mg_of X G k.ns,k.kp,k.ob,zh o rfl n.ok n.no]
def E0In.k(e:E0In K x)(b:EbIn K)(X:K.In h)(G:h.Ns Pi mg):∃C N bm,ErrK K mg x C N bm/\ErrN K N:=by
 obtain⟨C,N,k,n⟩:=e;obtain⟨bm,z⟩:=k.k b X G;exact#[C,N,bm,z,n.ok,n.no]
def AllP(p:A_->Prop):List A_->Prop
 |[]=>True
 |a::l=>p a/\AllP p l
def AllP.mem{p:A_->Prop}:∀{l:List A_},AllP p l->∀x∈l,p x
 |_::_,h,_,.head _=>h.1
 |_::_,h,_,.tail _ m=>AllP.mem h.2 _ m
def As{es:List A_}(c:AllP (λx=>∃C N bm,ErrK K mg x C N bm) es)(s:AllP (λx=>AllP (λy=>EmIn K x y) es) es):ErrsK K mg es:=by
 refine#[c.mem,λx hx y hy C C' h1 h2=>?_];obtain⟨A,B,a,b,m⟩:=(s.mem x hx).mem y hy;cases NsC.uniq a h1;cases NsC.uniq b h2;exact m
end
structure Bx where
 P:Q5
 w:Q_
 K:Ex
 mg:A_->Option KB
 base:Rc
abbrev Bx.T(V:Bx)(x:A_)(st:Q6)(ps:List A_):Prop:=Tx V.K V.mg x st ps
abbrev Bx.Tm(V:Bx)(x m q:A_)(st:Q6)(ps:List A_):Prop:=Txm V.K x m q st ps
abbrev Bx.Ti(V:Bx)(x q:A_)(st:Q6)(ps:List A_):Prop:=Txi V.K V.mg x q st ps
abbrev Bx.Ek(V:Bx)(es:List A_):Prop:=ErrsK V.K V.mg es
abbrev Bx.m(V:Bx)(x:A_):Prop:=V.mg x=r_
abbrev Bx.gi(V:Bx)(x:A_)(i:Int):Prop:=∃t,V.mg x=be (.int i t)
abbrev Bx.gs(V:Bx)(x y:A_):Prop:=∃t,V.mg x=be (.str y t)
abbrev Bx.a(V:Bx)(x f:A_):Prop:=ClsA V.K x f
abbrev Bx.D(V:Bx)(n:Nat)(x:A_)(ps:List A_)(S:SpD):Prop:=CalD V.P V.w V.K V.mg V.base n x ps S
abbrev Bx.X(V:Bx)(n:Nat)(x:A_)(ps:List A_)(S:SpX):Prop:=CalX V.P V.w V.K V.mg V.base n x ps S
abbrev Bx.MM(V:Bx)(n:Nat)(x:A_)(ps:List A_)(S:SpM):Prop:=CalMM V.P V.w V.K V.mg V.base n x ps S
abbrev Bx.M(V:Bx)(n:Nat)(x:A_)(ps:List A_)(S:SiD):Prop:=CalM V.P V.w V.K V.mg V.base n x ps S
abbrev Bx.Q(V:Bx)(n:Nat)(x m:A_)(ps:List A_)(S:SpM):Prop:=CalMth V.P V.w V.K V.mg V.base n x m ps (lSpM V.K S)
abbrev Bx.n(V:Bx)(x:A_):Prop:=∃C N bm,ErrK V.K V.mg x C N bm/\ErrN V.K N
section
variable {P:Q5}{w:Q_}{K:Ex}{mg:A_->Option KB}{base:Rc}
variable{N ps:List A_}
def Txi.okI{x qual:A_}{st:Q6}{p0:A_}{k:Nat}{S:SiD}(T:Txi K mg x qual st (p0::ps))(F:FnScope (p0::N) (p0::ps) (ah st))(len:∀ds R,S ds R->ds.length=ps.length)
  (a9:∀(f:KF) (cdv:KB) (A:Ra) (outer:List RQ) (s:KM) (H:Hp) (E:XK) (J:Jx),Room k (A.deeper (Rk qual (ah st) s.heap.objs.size f cdv))->
   ∃t,WDI (cxOf (Exc.CX1 P w) P w K mg base (p0::N) qual (ah st) f cdv A outer s H E).nox x (aL st) t/\∀ds R,S ds R->t (r_::startD N ds) [] R):CalM P w K mg base (k+1) x (p0::ps) S:=by
 obtain⟨C,f,fd,a,b,c,d,e⟩:=T;exact Cls.okIW d e F len a b c (a9 f)
def Txi.okIM{x qual:A_}{st:Q6}{p0:A_}{k:Nat}{S:SiD}(T:Txi K mg x qual st (p0::ps))(F:FnScope N (p0::ps) (ah st))(len:∀ds R,S ds R->ds.length=ps.length)
  (a9:∀(f:KF) (cdv:KB) (A:Ra) (outer:List RQ) (s:KM) (H:Hp) (E:XK) (J:Jm),Room k (A.deeper (Rk qual (ah st) s.heap.objs.size f cdv))->XOkM (cxOf (Exc.CX1 P w) P w K mg base N qual (ah st) f cdv A outer s H E).nox->
   ∃t,MSs (cxOf (Exc.CX1 P w) P w K mg base N qual (ah st) f cdv A outer s H E).nox (aL st) t/\∀a ds R,(∀z M x fs,¬J.RM z M x fs)->S ds R->t {nx:=λ_ M'=>∃fs,M'=[(a,.ins x fs)]/\R fs,rt:=λ_ _=>False} (startD N (.ptr a::ds)) [(a,.ins x [])]):CalM P w K mg base (k+1) x (p0::ps) S:=by
 obtain⟨C,f,fd,a,b,c,d,e⟩:=T;exact Cls.okIM d e F len a b c (a9 f)
end
section
variable {X:Cx}[J:Jx]{a b c e o f_ iter:P3}{es:List P3}{ta tb tc te to ti tj:TD}{tt:TDT}{t:TDA}{pos px:Ri}{x:A_}{scope:RA}
def sT(ix:Nat)(v5:TDI)(te:TD):TSD:=λE z=>v5 z (cmpP te z λd=>match d with|.lst ys=>E.nx (z.set ix (be (.own ys)))|_=>False)
def Au{K:Ex}{E:Ends}{s:L2.St}{H:Hp}{ix:Nat}{wi:TI}{v5:TDI}(hI:ItOk K wi v5)(q:lS K (sT ix v5 te) E s H):tAsg (fO wi (lT K dT1) (lE K te)) (fo ix) E s H:=by
 obtain⟨B,F0,F,z,k,rs,ED,h,e⟩:=q;refine hI k.kf rs h λitems J F1 H1 g1 hg it=>ke (Q:=λv H=>E.nx (s.set ix (be v)) H) k.kf g1 rs (λD ys us F' H' hH hF GG hu ry hR=>?_) it (cmpP.g hg);have r2:=(rs.grow GG).setOwn (i:=ix) (a:=D) (k.bh.free hH) hF ry λj dj _ q1 q2=>by
  obtain⟨a,vs,p1,p2,_⟩:=rs.own j dj q1;rw[p1]at q2;cases q2;rw[hH]at p2;cases p2
 rw[yZ hu]at r2;exact e.nx _ _ F' H' (k.grow GG) hR r2
def Av(ix:Nat){y:A_}{py l6:Ri}(hc:X.calm=true)(S:CompScope X scope x)(hN:X.N.Nodup)(hi:WDE X iter ti)(he:∀cl s₀ H₀ fp,WDE (bP X scope cl x s₀ H₀ fp) f_ te)(KO:autoParam (X.N[ix]?=be y) zA0)(hy:autoParam (Loc X.env.scope y) zA4)
  (hf:autoParam (zFN X y) zA3) (G':autoParam (Rq (.ListComp f_ [#[.Name x px,iter,[],0]] scope pos) (be (.Name y py)) l6.line X.env=pure true) zA0) (hs:autoParam (∀y,zFS X iter y) zA2):
  WDS X (.Assign [.Name y py] (.ListComp f_ [#[.Name x px,iter,[],0]] scope pos) l6) (sT ix (dItS ti) te):=#[(rY hc S (sr hi.out) (λ_ _ _ _=>gJ) (λa b c d=>(he a b c d).out) hN KO hy hf G' hs).anti λE s H q=>Au itS q]
def FH:RDn:=λds R=>match ds with|[.lst xs]=>∃ns:List Int,xs=ns.map D.int/\0<ns.length/\∀m,m∈ns->(∀a∈ns,m<=a)->R (.int m)|_=>False
def rSCount:RTx:=λy ds R=>match ds with|[.str p]=>R (.int (Builtin.Str.occurrences y p 0 y.length (y.length+1)).length)|_=>False
def Aw:MtS X "str.count" rSCount:=by
 refine#[λx vs H Q=>∃y p,x=.str y/\vs=[.str p]/\Q (.int (Builtin.Str.occurrences y p 0 y.length (y.length+1)).length) H,?_,?_]
 .intro pins s σ H x vs v us Q I rx rv h;obtain⟨y,p,rfl,rfl,q⟩:=h;obtain⟨t,rfl⟩:=rx;obtain⟨u,rfl,t',rfl⟩:=bU rv;exact SC.count #[.int _,H,I.tok _,#[_,rfl],q]
 .intro y ds vs F H R Q r h q;unfold rSCount at h;split at h
  .obtain⟨v,vr,rfl,h1,h2⟩:=reps_cons.mp r;rw[reps_nil.mp h2,rep_str.mp h1];exact#[_,_,rfl,rfl,q _ _ (λ_=>rep_int.mpr rfl) h]
  .exact h.elim
def sU{b_ a_:Ri}(ho:WDE X o to)(ha:WDA X [e] t)(c5:autoParam (Rh o "count" X.env (Rg o X.env)=Rg o X.env) zA0)
  (e8:autoParam (zHF X a_ [e]) zA0)
  (c9:autoParam ((b_.endLine==a_.line)=true) zA0) (hs:autoParam (zSE X e []) zA0):WDE X (.Call (.Attribute o "count" b_) [e] [] a_) (dTx rSCount to t):=#[ko PySem.F.slot_str_count PySem.F.type_str_count Aw ho.out ha.out c5 e8 c9 hs]
def Ax(is:List Nat)(ti:TDI)(tb:TSD):TSD:=λE z=>ti z λds=>∃W:Nat->SD->Prop,W 0 z/\(∀(k:Nat) x z,ds[k]?=be x->W k z->tb {E with nx:=W (k+1),ct:=W (k+1),bk:=E.nx} (aS is [.int k,x] z))/\∀z,W ds.length z->E.nx z
variable{is:List Nat}
def Ay{K:Ex}{B F0 F1 H1:Hp}{z:SD}{s:L2.St}{E:Ends}{ED:EndsD}{It':It}{g:TG}{tb:TSD}{KW:TS}{ds:List D}(k1:Kept B F0 F1 H1)(JY:RepS K B F1 H1 z s)(e:EndsOk K B F0 ED E)
  (go:∀k F' H',Same F1 F'->Same F' H'->k<ds.length->It'.go k H') (stop:∀F' H',Same F1 F'->Same F' H'->It'.stop ds.length H')
  (yld:∀k F' H' x H'',Same F1 F'->Same F' H'->k<ds.length->It'.yld k H' x H''->∃T d v,H' T=r_/\x=.ref T/\H''=upd H' T (.tup [.int k,v])/\ds[k]?=be d/\Rep K F' d v)
  (hg:∀(dd:List D) (vs:List V) (T:KF) (z:SD) (s:L2.St) (F H:Hp) (Q:L2.St->Hp->Prop),dd.length=2->H T=be (.tup vs)->Reps K F dd vs->RepS K B F H z s->(∀s',RepS K B F H (aS is dd z) s'->Q s' H)->g (.ref T) s H Q)
  (MD:∀E s H,lS K tb E s H->KW E s H)
  (hd:∃W:Nat->SD->Prop,W 0 z/\(∀(k:Nat) x z,ds[k]?=be x->W k z->tb {ED with nx:=W (k+1),ct:=W (k+1),bk:=ED.nx} (aS is [.int k,x] z))/\∀z,W ds.length z->ED.nx z):
  ∃W:Nat->Nat->L2.St->Hp->Prop,(∃m,W 0 m s H1)/\∀i m σ H,W i m σ H->
   (It'.stop i H/\E.nx σ H)\/(It'.go i H/\∃N:L2.St->Hp->Prop,(∀σ' H',N σ' H'->∃m',m'<m/\W (i+1) m' σ' H')/\∀x H',It'.yld i H x H'->g x σ H' λσ2 H2=>KW {E with nx:=N,ct:=N,bk:=E.nx} σ2 H2):=by
 obtain⟨W,w0,c8,out⟩:=hd;refine#[λk m s' H'=>m=ds.length-k/\k<=ds.length/\∃F' z',Kept B F0 F' H'/\Same F1 F'/\RepS K B F' H' z' s'/\W k z',#[ds.length,JU,Gb _,F1,z,k1,Same.refl F1,JY,w0],?_];rintro k m s' H'⟨rfl,hk,F',z',k',g',r',w'⟩;by_cases f7:k<ds.length
 .refine .inr #[go k F' H' g' k'.fh f7,λs3 H3=>∃F3 z3,Kept B F0 F3 H3/\Same F1 F3/\RepS K B F3 H3 z3 s3/\W (k+1) z3,λs3 H3 h3=>#[ds.length-(k+1),JM,rfl,f7,h3],λx H'' hy=>?_];obtain⟨T,d,v,hT,rfl,rfl,hd,rd⟩:=yld k F' H' x H'' g' k'.fh f7 hy;have gn:=Grow.new k'.fh hT (.tup [.int k,v]);have k2:=k'.grow gn;have rp:Reps K (upd F' T (.tup [.int k,v])) [.int k,d] [.int k,v]:=reps_cons.mpr #[_,_,rfl,rep_int.mpr rfl,dZ (rd.mono gn.ff)];refine hg [.int k,d] _ T z' s' _ _ _ rfl aG rp (r'.grow gn) λs2 Ka=>MD _ _ _ ?_;have gF:Same F1 (upd F' T (.tup [.int k,v])):=g'.trans gn.ff;refine#[B,upd F' T (.tup [.int k,v]),upd F' T (.tup [.int k,v]),_,#[k2.bh,k2.fh,Same.refl _,λb h1 _=>h1,k2.eb,k2.jf.trans k2.f0,λb h1 h2=>k2.out b (k2.jo b h1 h2) h2],Ka,_,c8 k d z' hd w',?_];have up:∀{F3 H3:Hp},Kept B (upd F' T (.tup [.int k,v])) F3 H3->Kept B F0 F3 H3:=λk3=>#[k3.bh,k3.fh,k2.f0.trans k3.f0,λb h1 h2=>k3.out b (k2.out b h1 h2) h2,k2.eb,k2.jf,k2.jo];exact#[λz3 s3 F3 H3 k3 h3 r3=>#[F3,z3,up k3,gF.trans k3.f0,r3,h3],λd v F3 H3 k3=>e.rt d v F3 H3 (up k3),λz3 s3 F3 H3 k3=>e.nx z3 s3 F3 H3 (up k3),λz3 s3 F3 H3 k3 h3 r3=>#[F3,z3,up k3,gF.trans k3.f0,r3,h3]]
 .have ek:k=ds.length:=by lia
  subst ek;exact .inl #[stop F' H' g' k'.fh,e.nx z' s' F' H' k' (out z' w') r']
def Az{es:List P3}{x1:Nat}{tp p1 p2:Ri}{body:List Q6}{tb:TSD}(hp:Rr (Q8 X.prog X.w) X.A X.env X.xe)(hc:X.calm=true)(hm:X.mg "enumerate"=r_)(he:WDE X e te)(hG:DGs X es is)(hb:WDSs X body tb)(b9:autoParam (is.length=2) zA0)(hg:autoParam (Gl X "enumerate") zA0)
  (hn:autoParam ((Rb es X.env).length=2) zA0) (j5:autoParam ((Rb es X.env).findIdx? (·.1)=none) zA0)
  (hs:autoParam (∀y,zFS X (.Call (.Name "enumerate" p1) [e] [] p2) y) zA2) (m7:autoParam (zSE X e []) zA0) (f6:autoParam (Re [e] X.env=[(false,Rg e X.env)]) zA0):
  WDS X (.For (.Tuple es x1 tp) (.Call (.Name "enumerate" p1) [e] [] p2) body [] pos) (Ax is (dItS te) tb):=by
 obtain⟨ug,KY,kk⟩:=hG;refine#[(cE hp hc (sM hg hm (bv he.out pa_nil m7) f6) (gq hc KY hn j5) hb.out hs).anti λE s H q=>?_];obtain⟨B,F0,F,z,kp,rs,ED,h,e⟩:=q;refine#[B,F,z,kp.kf,rs,_,h,λd v F1 H1 g1 hd rd=>?_];split at hd
 .rename_i x;obtain⟨ha,hd⟩:=hd;have hl:=eJ x;refine#[x,by rw[rep_str.mp rd],ha,Ay (It':=Ites x) (kp.grow g1) (rs.grow g1) e (λk F' H' s1 s2 hk=>?_) (λF' H' s1 s2=>?_) (λk F' H' x H'' s1 s2 hk hy=>?_) (λdd o7 T z s F H Q hl hT rp v_ hQ=>?_) (λ_ _ _ h=>h) hd]
  .rw[hl]at hk;exact hk
  .exact hl
  .obtain⟨T,c,hT,e1,e2,hc⟩:=hy;exact#[T,.str #[[c].toArray],.str #[[c].toArray],hT,e1,e2,gM hc,rep_str.mpr rfl]
  .exact#[T,o7,rfl,SqT.of hT,by rw[rp.length];exact hl,kk dd o7 z s B F H Q (by rw[hl,b9]) rp v_ hQ]
 .exact hd.elim
def AA(K:Ex):R2:=λx y H Q=>∃p xs i z,x=.ref p/\y=.int i/\0<=i/\SqL K H p xs/\xs[i.toNat]?=be z/\Q z H
def AB:PGet X (AA X.K):=by
 intro pins s σ H x y v u Q I rx ry h;obtain⟨p,xs,i,z,rfl,rfl,h0,hq,he,q⟩:=h;cases rx;obtain⟨t,rfl⟩:=ry;obtain⟨its,r,pl,hz⟩:=I.list hq;obtain⟨w,ew,g5⟩:=r.get he;have hl:=r.length;have hn:=line63;have hi:=(FU.mp he).1;exact wpAny_getItem_list pl.isList h0 JM (by simpa using ew) #[z,H,I,g5,q]
def sV(i:Nat)(ti te:TD):TSD:=λE z=>match z[i]? with
 |some (be (.own ds))=>ti z λy=>(match y with|.int k=>∃n,0<=k/\ds[k.toNat]?=be (.int n)/\te z λd=>(match d with|.int m=>E.nx (z.set i (be (.own (ds.set k.toNat (.int (n+m))))))|_=>False)|_=>False)
 |_=>False
def AC(i:Nat){x:A_}{p1 p2:Ri}(hb:WDE X b tb)(he:WDE X e te)(hN:autoParam (X.N[i]?=be x) zA0)(hv:autoParam (Vis X.env.scope x) zA5)(hd:autoParam (zND x) zA1)
  (gV:autoParam (zNC x) zA1)
  (ha:autoParam (∀ov iv new,augStore b ov iv new=(do Ru [new,ov,iv] (Sh ov iv new);Sy [new,ov,iv] [];pure .next)) zA7):
  WDS X (.AugAssign (.Subscript (.Name x p1) b p2) .Add e pos) (sV i tb te):=⟨(vX (dz hN hv hd gV) hb.out AB he.out vY jI ha).anti λE s H q=>by
 obtain⟨B,F0,F,z,k,rs,ED,h,e⟩:=q;unfold sV at h;split at h
 .rename_i ds ez;obtain⟨a,vs,q1,q2,q3,q4,q5⟩:=rs.own i ds ez;refine#[.ref a,q1,B,F,z,k.kf,rs,_,h,λy w F2 H2 g2 hy ry=>?_];split at hy
  .rename_i k';obtain⟨n,k0,en,hn⟩:=hy;have I_:F2 a=none:=g2.out a q4 (by rw[q2];exact λz=>nomatch z);obtain⟨v,ev,rv⟩:=q5.get en;refine#[a,vs,_,v,rfl,rep_int.mp ry,k0,SqL.of (g2.hh _ _ q2),ev,B,F2,z,k.kf.grow g2,rs.grow g2,_,hn,λd u F3 H3 g3 hd rd=>?_];split at hd
   .have r2:=(rs.grow g2).grow g3;have k2:=(k.grow g2).grow g3;have LF:F3 a=none:=g3.out a I_ (by rw[g2.hh _ _ q2];exact λz=>nomatch z);rw[rep_int.mp rv,rep_int.mp rd];have f7:=(FU.mp en).1;refine#[_,_,rfl,rfl,a,vs,_,k'.toNat,rfl,rep_int.mp ry,g3.hh _ _ (g2.hh _ _ q2),by unfold ixN;rw[q5.length,if_pos k0,if_pos JM],?_];obtain⟨k3,r3⟩:=r2.change k2 ez q1 q3 LF (Reps.put (d:=.int _) (v:=.int _) (rep_int.mpr rfl) k'.toNat ((q5.mono g2.ff).mono g3.ff));exact e.nx _ s F3 _ k3 hd r3
   .exact hd.elim
  .exact hy.elim
 .exact h.elim⟩
end
mutual
def noL:D->Bool
 |.non=>true|.bl _=>true|.int _=>true|.str _=>true|.ptr _=>true|.dti _=>true
 |.tup ds=>noLs ds
 |.obj _ fs=>noLF fs
 |_=>false
def noLs:List D->Bool
 |[]=>true
 |d::ds=>noL d&&noLs ds
def noLF:List (A_×D)->Bool
 |[]=>true
 |(_,d)::ds=>noL d&&noLF ds
end
def nlF(F:Hp):Hp:=λb=>match F b with|some (.lst _)=>r_|o=>o
def kG{F:Hp}{b:KF}{o:HO}(e:F b=be o)(h:∀vs,o≠.lst vs):nlF F b=be o:=by
 unfold nlF;rw[e];cases o with
 |lst vs=>exact absurd rfl (h vs)
 |_=>rfl
mutual
def Rep.nl{K:Ex}{F:Hp}:∀(d:D) (v:V),noL d=true->Rep K F d v->Rep K (nlF F) d v
 |.non,v,_,h=>by unfold Rep at h ⊢;exact h
 |.bl b,v,_,h=>by unfold Rep at h ⊢;exact h
 |.int b,v,_,h=>by unfold Rep at h ⊢;exact h
 |.str b,v,_,h=>by unfold Rep at h ⊢;exact h
 |.ptr b,v,_,h=>by unfold Rep at h ⊢;exact h
 |.dti a8,v,_,h=>by
  unfold Rep at h ⊢;obtain⟨a,e,q⟩:=h;exact#[a,e,kG q λ_ z=>nomatch z]
 |.tup ds,v,n,h=>by
  unfold Rep at h ⊢;obtain⟨a,vs,e,q,r⟩:=h;exact#[a,vs,e,kG q (λ_ z=>nomatch z),Reps.nl ds vs (by unfold noL at n;exact n) r]
 |.obj x fs,v,n,h=>by
  unfold Rep at h ⊢;obtain⟨a,C,dx,vs,e,n1,q,r⟩:=h;exact#[a,C,dx,vs,e,n1,kG q (λ_ z=>nomatch z),RepF.nl fs vs (by unfold noL at n;exact n) r]
 |.lst _,_,n,_=>by unfold noL at n;cases n
 |.rol _,_,n,_=>by unfold noL at n;cases n
 |.exc _ _,_,n,_=>by unfold noL at n;cases n
 |.own _,_,n,_=>by unfold noL at n;cases n
def RepF.nl{K:Ex}{F:Hp}:∀(ds:List (A_×D)) (vs:List (A_×V)),noLF ds=true->RepF K F ds vs->RepF K (nlF F) ds vs
 |[],vs,_,h=>by unfold RepF at h ⊢;exact h
 |(f,d)::ds,vs,n,h=>by
  unfold noLF at n;rw[Gf]at n;unfold RepF at h ⊢;obtain⟨v,r,e,q1,q2⟩:=h;exact#[v,r,e,Rep.nl d v n.1 q1,RepF.nl ds r n.2 q2]
def Reps.nl{K:Ex}{F:Hp}:∀(ds:List D) (vs:List V),noLs ds=true->Reps K F ds vs->Reps K (nlF F) ds vs
 |[],vs,_,h=>by unfold Reps at h ⊢;exact h
 |d::ds,vs,n,h=>by
  unfold noLs at n;rw[Gf]at n;unfold Reps at h ⊢;obtain⟨v,r,e,q1,q2⟩:=h;exact#[v,r,e,Rep.nl d v n.1 q1,Reps.nl ds r n.2 q2]
end
end My
end
section
namespace My
open PySem PySem.Spec PyProof.Rows L2
variable{w:Int}
def b64B(h:0<w)(h':w<=33554432):-(2^64)<w/\w<2^64:=JM
variable{s:Int}
def s64B(h:0<=s)(h':s<w)(QO:w<=33554432):-(2^64)<s/\s<2^64:=JM
def d30B(h:0<w)(h':w<=33554432):0<w/\w<1073741824:=JM
variable{x y:Int}
def ab24(h:x.natAbs<=12)(h':y.natAbs<=12):(x+y).natAbs<=24:=FQ (HF x y) (Hq h h')
def sq0(a:Int):0<=a*a:=(Int.le_total 0 a).elim (λq=>HG q q) (λq=>Int.mul_nonneg_of_nonpos_of_nonpos q q)
def u64(h:w=1\/w=-1\/w=0):-(2^64)<w/\w<2^64:=JM
def n64{k:Nat}(h:w.natAbs<=k)(hk:autoParam (k<=1073741823) zA1):-(2^64)<w/\w<2^64:=JM
variable{a b:Int}
def i64(h:a<=w)(h':w<=b)(ha:autoParam ( -1000000000001<=a) zA1)(hb:autoParam (b<=1000000000001) zA1):-(2^64)<w/\w<2^64:=JM
def AD{X Y Z A B r:Nat}(h1:X<=Y)(h2:X=Z+2*B)(h3:1*A<=Z)(h5:Y<=A+r)(h6:r<B):False:=Kv
def fdm(a b:Int)(hb:b≠0):(a-a.fdiv b*b).natAbs<b.natAbs/\(a.fdiv b).natAbs<=a.natAbs+1:=by
 have e:=Int.fmod_def a b;have e2:a-a.fdiv b*b=a.fmod b:=by rw[e,Ge]
 rw[e2];have r:(a.fmod b).natAbs<b.natAbs:=by
  rcases(JM:0<b\/b<0)with h|h
  .have h1:=Iv a h;have h2:=Iw a h;lia
  .have h1:=Iv (-a) (show 0< -b by lia);have h2:=Iw (-a) (show 0< -b by lia);rw[Int.neg_fmod_neg]at h1 h2;lia
 refine#[r,?_];have e3:(b*a.fdiv b).natAbs=b.natAbs*(a.fdiv b).natAbs:=Gw _ _;have e4:=Int.mul_fdiv_self a b;rcases GU (a.natAbs+1) (a.fdiv b).natAbs with c|c
 .have h1:b.natAbs*(a.natAbs+2)<=b.natAbs*(a.fdiv b).natAbs:=Nat.mul_le_mul_left _ c;have h2:b.natAbs*(a.natAbs+2)=b.natAbs*a.natAbs+2*b.natAbs:=by rw[Nat.mul_add,Nat.mul_comm _ 2]
  have h3:1*a.natAbs<=b.natAbs*a.natAbs:=Nat.mul_le_mul_right _ JM;have h5:(b*a.fdiv b).natAbs<=a.natAbs+(a.fmod b).natAbs:=by rw[e4];exact Ix a _
  rw[e3]at h5;exact(AD h1 h2 h3 h5 r).elim
 .exact c
def Uni(a b c d p0 p1 q0 q1:Int):Prop:=∃m n k l:Int,(m*l-n*k=1\/m*l-n*k=-1)/\p0=m*a+n*c/\p1=m*b+n*d/\q0=k*a+l*c/\q1=k*b+l*d
def Uni.refl(a b c d:Int):Uni a b c d a b c d:=#[1,0,0,1,.inl JQ,JM,JM,JM,JM]
variable{c d p0 p1 q0 q1:Int}
def Uni.step(t:Int)(h:Uni a b c d p0 p1 q0 q1):Uni a b c d q0 q1 (p0-t*q0) (p1-t*q1):=by
 obtain⟨m,n,k,l,hd,rfl,rfl,rfl,rfl⟩:=h;refine#[k,l,m-t*k,n-t*l,?_,rfl,rfl,KE,KE];rcases hd with h|h
 .right;grind
 .left;grind
def Uni.neg(h:Uni a b c d p0 p1 q0 q1):Uni a b c d (-p0) (-p1) q0 q1:=by
 obtain⟨m,n,k,l,hd,rfl,rfl,rfl,rfl⟩:=h;refine#[-m,-n,k,l,?_,KE,KE,rfl,rfl];rcases hd with h|h
 .right;grind
 .left;grind
def Uni.inv(h:Uni a b c d p0 p1 q0 q1):Uni p0 p1 q0 q1 a b c d:=by
 obtain⟨m,n,k,l,hd,rfl,rfl,rfl,rfl⟩:=h;rcases hd with h|h
 .exact#[l,-n,-k,m,.inl KE,KE,KE,KE,KE]
 .exact#[-l,n,k,-m,.inr KE,KE,KE,KE,KE]
def Uni.det(h:Uni a b c d p0 p1 q0 q1):p0*q1-p1*q0=a*d-b*c\/p0*q1-p1*q0=-(a*d-b*c):=by
 obtain⟨m,n,k,l,hd,rfl,rfl,rfl,rfl⟩:=h;rcases hd with h|h
 .left;grind
 .right;grind
def Lev(a b c d p0 p1 q0:Int):Prop:=0<=p1/\Uni a b c d p0 p1 q0 0
def FamOf(a b c d w h s:Int):Prop:=0<w/\0<h/\0<=s/\s<w/\Uni a b c d w 0 s h
def AE(x:Int):(if x<0 then -x else x)=x\/(if x<0 then -x else x)=-x:=by
 split<;>simp
def AF(h:x≠0):0<(if x<0 then -x else x):=by split<;>lia
def fS(hn:¬a*d=b*c)(h:Lev a b c d p0 p1 q0):FamOf a b c d (if q0<0 then -q0 else q0) p1 (p0%(if q0<0 then -q0 else q0)):=by
 obtain⟨hp,hu⟩:=h;have dt:=hu.det;have PQ:q0≠0:=by
  rintro rfl;simp at dt;lia
 have QP:p1≠0:=by
  rintro rfl;simp at dt;lia
 have hw:=AF PQ;have hs:=AE q0;generalize (if q0<0 then -q0 else q0)=w at hw hs;refine#[hw,JM,Gz _ JM,GA _ hw,?_];have em:=GJ p0 w;generalize p0%w=s at em;generalize p0/w=t at em;obtain⟨m,n,k,l,hd,e1,e2,e3,e4⟩:=hu;rcases hs with e|e
 .refine#[k,l,m-t*k,n-t*l,?_,KE,KE,KE,KE];rcases hd with h|h
  .right;grind
  .left;grind
 .refine#[-k,-l,m+t*k,n+t*l,?_,KE,KE,KE,KE];rcases hd with h|h
  .left;grind
  .right;grind
variable{h i j:Int}
def in_fam(hh:0<h)(ex:x=i*w+j*s)(ey:y=j*h):y%h=0/\(x-y/h*s)%w=0:=by
 subst ex ey;rw[Gj _ JM];refine#[Iy _ _,?_];have e:i*w+j*s-j*s=i*w:=JM
 rw[e];exact Iy _ _
variable{u v:Int}
def sW(eu:u=i*a+j*c)(ev:v=i*b+j*d):(u*d-v*c).fmod (a*d-b*c)=0/\(a*v-b*u).fmod (a*d-b*c)=0:=by
 subst eu ev;refine#[HH #[i,KE],HH #[j,KE]]
def FamOf.cells(f:FamOf a b c d w h s):w*h=a*d-b*c\/w*h=-(a*d-b*c):=by
 have:=f.2.2.2.2.det;simpa using this
def bJ{A B:Nat}(h1:a.natAbs<=A)(h2:d.natAbs<=B):(a*d).natAbs<=A*B:=by
 rw[Gw];exact GX h1 h2
variable{g:Int}
def AG{gap:Int}{N:Nat}(hg:0<g)(c0:0<=c)(cg:c<=g)(h:gap.natAbs<=N):(c*gap/g).natAbs<=N:=by
 have h1:(c*gap).natAbs<=g.natAbs*N:=by rw[Gw];exact GX Kv h
 have e:((g.natAbs*N:Nat):Int)=N*g:=by rw[Int.natCast_mul,Int.natAbs_of_nonneg Kv,Ge]
 have l1:=Int.le_ediv_of_mul_le (a:=-(N:Int)) (b:=c*gap) hg (by rw[HI];omega);have l2:=Int.ediv_le_of_le_mul (a:=c*gap) (b:=(N:Int)) hg Kv;omega
def cV(hw:0<w)(hh:0<h):w<=w*h/\h<=w*h:=by
 have h1:=Iz (show 1<=h by lia) (show 0<=w by lia);have h2:=Gg (show 1<=w by lia) (show 0<=h by lia);lia
def FamOf.bd(f:FamOf a b c d w h s){N:Nat}(hN:(a*d-b*c).natAbs<=N):w<=N/\h<=N/\s<N:=by
 obtain⟨h1,h2⟩:=cV f.1 f.2.1;have h3:w*h<=N:=by
  rcases f.cells with e|e<;>rw[e]
  .exact Gs IA (IB.mpr hN)
  .exact Gs IA (IB.mpr (by rw[HJ];exact hN))
 exact#[Gs h1 h3,Gs h2 h3,Int.lt_of_lt_of_le f.2.2.2.1 (Gs h1 h3)]
def Meas(x y g u:Int):Prop:=0<=g/\(∃i,x=i*g)/\(∃j,y=j*g)/\∃n,g=u*x+n*y
variable{q:Int}
def sX(h:0<=g/\∃m n k l:Int,(m*l-n*k=1\/m*l-n*k=-1)/\u=m*1+n*0/\g=m*x+n*y/\q=k*1+l*0/\0=k*x+l*y):Meas x y g u:=by
 obtain⟨h0,m,n,k,l,hd,e1,e2,e3,e4⟩:=h;refine#[h0,?_,?_,n,KE]
 .rcases hd with h|h
  .exact#[l,KE]
  .exact#[-l,KE]
 .rcases hd with h|h
  .exact#[-k,KE]
  .exact#[k,KE]
def Meas.pos(h:Meas x y g u)(hx:0<x):0<g:=by
 obtain⟨h0,⟨i,hi⟩,_⟩:=h;rcases(JM:g=0\/0<g)with e|e
 .subst e;simp at hi;lia
 .exact e
def Meas.le(h:Meas x y g u)(hx:0<x):g<=x:=by
 have hg:=h.pos hx;obtain⟨h0,⟨i,hi⟩,_⟩:=h;have QQ:0<i:=by
  rcases(JM:i<=0\/0<i)with e|e
  .have:=GK e h0;lia
  .exact e
 have:=Gg (show 1<=i by lia) h0;lia
structure MetR(w1 h1 s1 w2 h2 s2 w h s A:Int):Prop where
 w0:0<w
 h0:0<h
 s0:0<=s
 sw:s<w
 in1:∃i,w=i*w1
 in2:∃i,w=i*w2
 up1:∃i j,s=i*w1+j*s1/\h=j*h1
 up2:∃i j,s=i*w2+j*s2/\h=j*h2
 A0:0<A
 cells:w*h*A=w1*h1*w2*h2
 d11:A∣w1*h1
 d12:A∣w1*h2
 d21:A∣w2*h1
 d22:A∣w2*h2
 ds:A∣s1*h2-h1*s2
 all:∀x y:Int,(∃i j,x=i*w1+j*s1/\y=j*h1)->(∃i j,x=i*w2+j*s2/\y=j*h2)->∃i j,x=i*w+j*s/\y=j*h
 comb:∀G:Int,G∣w1*h1->G∣w1*h2->G∣w2*h1->G∣w2*h2->G∣s1*h2-h1*s2->G∣A
def dL(h:0<x*y)(hy:0<y):0<x:=by
 rcases(JM:x<=0\/0<x)with e|e
 .have:=GK e (show 0<=y by lia);lia
 .exact e
def kH(ha:0<a)(h:a*b=a*c):b=c:=HK JM h
def r1(k j c:Int):k*(j*c)=j*(c*k):=KE
def r2(j u c n d:Int):j*(u*c+n*d)=u*(j*c)+n*d*j:=KE
def r3(u j d n j1:Int):u*(j*d)+n*d*j1=d*(u*j+n*j1):=KE
def r4(j u c n d:Int):j*(u*c+n*d)=u*c*j+n*(j*d):=KE
def r5(u c j n j1:Int):u*c*j+n*(j1*c)=c*(u*j+n*j1):=KE
def r6(g e i1 a i2 b d T s1 c s2:Int)(q:i1*(a*(e*g))+d*T*s1=i2*(b*(e*g))+c*T*s2):g*(e*(i1*a-i2*b))=T*(c*s2-d*s1):=KE
def r7(g T f:Int):g*(T*f)=T*(f*g):=KE
def r8(T v e q f:Int):T*(v*e+q*f)=v*T*e+q*(T*f):=KE
def r9(v T e q m:Int):v*T*e+q*(e*m)=e*(v*T+q*m):=KE
def r10(e r f:Int):e*r*f=e*(r*f):=KE
def r11(i u a n b:Int):i*(u*a+n*b)=u*(i*a)+n*b*i:=KE
def r12(u r f i2 b n i1:Int):u*(r*f+i2*b)+n*b*i1=u*(r*f)+b*(u*i2+n*i1):=KE
def r13(u r f b M a e g d s1 t:Int):(u*(r*f)+b*M)*(a*(e*g))+d*(e*r)*s1=(M+r*t)*(a*b*(e*g))+r*(e*(d*s1)+f*u*(a*(e*g))-a*b*(e*g)*t):=KE
def r14(d e r c k:Int):d*(e*r)*(c*k)=r*(c*d*k*e):=KE
variable{k e f gg u' s1 s2:Int}
def AH{n n' t i1 j1 i2 j2:Int}(hk:0<k)(Jf:0<gg)(he:0<e)
  (q9:u*a+n*b=1) (n5:u'*c+n'*d=1) (gap:c*s2-d*s1=f*gg) (q_:v*e+q*f=1)
  (hs:s=e*(d*s1)+f*u*(a*(e*gg))-a*b*(e*gg)*t) (x1:x=i1*(a*(e*gg))+j1*s1) (y1:y=j1*(c*k)) (x2:x=i2*(b*(e*gg))+j2*s2) (y2:y=j2*(d*k)):
  ∃i j,x=i*(a*b*(e*gg))+j*s/\y=j*(c*d*k*e):=by
 have h1:j1*c=j2*d:=kH hk (by rw[r1 k j1 c,r1 k j2 d,<-y1,<-y2]);have LJ:j1=d*(u'*j2+n'*j1):=by
  have p:=r2 j1 u' c n' d;rw[n5,h1,r3]at p;lia
 have OD:j2=c*(u'*j2+n'*j1):=by
  have p:=r4 j2 u' c n' d;rw[n5,<-h1,r5]at p;lia
 generalize u'*j2+n'*j1=T at LJ OD;have q1:i1*(a*(e*gg))+d*T*s1=i2*(b*(e*gg))+c*T*s2:=by rw[<-LJ,<-OD,<-x1,<-x2]
 have h2:e*(i1*a-i2*b)=T*f:=kH Jf (by rw[r6 gg e i1 a i2 b d T s1 c s2 q1,r7,gap]);have eT:T=e*(v*T+q*(i1*a-i2*b)):=by
  have p:=r8 T v e q f;rw[q_,<-h2,r9]at p;lia
 generalize hr:v*T+q*(i1*a-i2*b)=r at eT;have h3:i1*a-i2*b=r*f:=kH he (by rw[h2,eT,r10]);have h4:i1=u*(r*f)+b*(u*i2+n*i1):=by
  have p:=r11 i1 u a n b;have q3:i1*a=r*f+i2*b:=JM
  rw[q9,q3,r12]at p;lia
 generalize u*i2+n*i1=M at h4;refine#[M+r*t,r,?_,?_]
 .rw[hs,x1,LJ,eT,<-r13,<-h4]
 .rw[y1,LJ,eT,r14]
def AI{n n' t:Int}(ha:0<a)(hb:0<b)(hc:0<c)(hd:0<d)(he:0<e)(hk:0<k)(Jf:0<gg)
  (q9:u*a+n*b=1) (n5:u'*c+n'*d=1) (gap:c*s2-d*s1=f*gg) (q_:v*e+q*f=1)
  (hs:s=e*(d*s1)+f*u*(a*(e*gg))-a*b*(e*gg)*t) (m1:0<=s) (m2:s<a*b*(e*gg)):
  MetR (a*(e*gg)) (c*k) s1 (b*(e*gg)) (d*k) s2 (a*b*(e*gg)) (c*d*k*e) s (k*gg):=by
 have hg:0<e*gg:=FZ he Jf;have hW:0<a*b*(e*gg):=FZ (FZ ha hb) hg;have MN:d*s1=c*s2-f*gg:=JM
 have ua:u*a=1-n*b:=JM
 refine#[hW,FZ (FZ (FZ hc hd) hk) he,m1,m2,#[b,?_],#[a,?_],#[f*u-t*b,d*e,?_,?_],#[-(f*n)-t*a,c*e,?_,?_],FZ hk Jf,?_,#[a*e*c,?_],#[a*e*d,?_],#[b*e*c,?_],#[b*e*d,?_],#[-f,?_],?_,?_]
 .grind
 .grind
 .grind
 .grind
 .rw[hs,MN];have x2:f*u*(a*(e*gg))=f*(u*a)*(e*gg):=by grind
  rw[x2,ua];grind
 .grind
 .grind
 .grind
 .grind
 .grind
 .grind
 .have:s1*(d*k)-c*k*s2=-(k*(c*s2-d*s1)):=by grind
  rw[this,gap];grind
 .rintro x y⟨i1,j1,x1,z1⟩ ⟨i2,j2,x2,z2⟩;exact AH hk Jf he q9 n5 gap q_ hs x1 z1 x2 z2
 .rintro G⟨y1,z1⟩ ⟨y2,z2⟩ ⟨y3,z3⟩ ⟨y4,z4⟩ ⟨y5,z5⟩;refine#[v*(u'*u*y1+n'*u*y2+u'*n*y3+n'*n*y4)-q*y5,?_];have k1:k*(e*gg)=G*(u'*u*y1+n'*u*y2+u'*n*y3+n'*n*y4):=by
   have p1:k*(e*gg)=(u'*c+n'*d)*(u*a+n*b)*(k*(e*gg)):=by rw[q9,n5];grind
   have p2:(u'*c+n'*d)*(u*a+n*b)*(k*(e*gg))=u'*u*(a*(e*gg)*(c*k))+n'*u*(a*(e*gg)*(d*k))+u'*n*(b*(e*gg)*(c*k))+n'*n*(b*(e*gg)*(d*k)):=KE
   rw[p1,p2,z1,z2,z3,z4];grind
  have k2:k*(f*gg)=-(G*y5):=by
   rw[<-z5,<-gap];grind
  have k3:k*gg=(v*e+q*f)*(k*gg):=by rw[q_];grind
  have k4:(v*e+q*f)*(k*gg)=v*(k*(e*gg))+q*(k*(f*gg)):=KE
  rw[k3,k4,k1,k2];grind
variable{w1 h1 w2 h2:Int}
def kI{s_:Int}(LK:0<w1)(K0:0<w2)(OE:0<h1)(z6:0<h2)
  (M1:Meas w1 w2 g u) (M2:Meas h1 h2 k u')
  (M3:Meas g (h1*h2/k/h2*s2-h1*h2/k/h1*s1) gg s_):
  MetR w1 h1 s1 w2 h2 s2 (w1*w2/g) (h1*h2/k*(g/gg)) ((g/gg*(h1*h2/k/h1*s1)+g/gg*(h1*h2/k/h2*s2-h1*h2/k/h1*s1)/g*u*w1)%(w1*w2/g)) (k*gg):=by
 have hg:=M1.pos LK;have hk:=M2.pos OE;have Jf:=M3.pos hg;obtain⟨_,⟨a,ea⟩,⟨b,eb⟩,n,en⟩:=M1;obtain⟨_,⟨c,ec⟩,⟨d,ed⟩,n',QR⟩:=M2;have ha:0<a:=dL (ea ▸ LK) hg;have hb:0<b:=dL (eb ▸ K0) hg;have hc:0<c:=dL (ec ▸ OE) hk;have hd:0<d:=dL (ed ▸ z6) hk;have q9:u*a+n*b=1:=by
  have p:(u*a+n*b)*g=1*g:=by
   have:(u*a+n*b)*g=u*(a*g)+n*(b*g):=by grind
   rw[this,<-ea,<-eb];lia
  exact GY JM p
 have n5:u'*c+n'*d=1:=by
  have p:(u'*c+n'*d)*k=1*k:=by
   have:(u'*c+n'*d)*k=u'*(c*k)+n'*(d*k):=by grind
   rw[this,<-ec,<-ed];lia
  exact GY JM p
 have eW:w1*w2/g=a*b*g:=by
  have:w1*w2=(a*b*g)*g:=by rw[ea,eb];grind
  rw[this];exact Gj _ JM
 have eR:h1*h2/k=c*d*k:=by
  have:h1*h2=(c*d*k)*k:=by rw[ec,ed];grind
  rw[this];exact Gj _ JM
 have PR:h1*h2/k/h1=d:=by
  rw[eR];have:c*d*k=d*h1:=by rw[ec];grind
  rw[this];exact Gj _ JM
 have PU:h1*h2/k/h2=c:=by
  rw[eR];have:c*d*k=c*h2:=by rw[ed];grind
  rw[this];exact Gj _ JM
 rw[PR,PU]at M3 ⊢;obtain⟨_,⟨e,ee⟩,⟨f,ef⟩,q,eq⟩:=M3;have he:0<e:=dL (ee ▸ hg) Jf;have q_:s_*e+q*f=1:=by
  have p:(s_*e+q*f)*gg=1*gg:=by
   have:(s_*e+q*f)*gg=s_*(e*gg)+q*(f*gg):=by grind
   rw[this,<-ee,<-ef];lia
  exact GY JM p
 have eC:g/gg=e:=by rw[ee];exact Gj _ JM
 have eS:e*(c*s2-d*s1)/g=f:=by
  have:e*(c*s2-d*s1)=f*g:=by rw[ef,ee];grind
  rw[this];exact Gj _ JM
 rw[eC,eS,eW,eR];have hW:0<a*b*g:=FZ (FZ ha hb) hg;have em:=GJ (e*(d*s1)+f*u*w1) (a*b*g);have m1:=Gz (e*(d*s1)+f*u*w1) (show a*b*g≠0 by lia);have m2:=GA (e*(d*s1)+f*u*w1) hW;generalize (e*(d*s1)+f*u*w1)%(a*b*g)=s at em m1 m2 ⊢;generalize (e*(d*s1)+f*u*w1)/(a*b*g)=t at em;subst ea eb ec ed;subst ee;exact AI ha hb hc hd he hk Jf q9 n5 ef q_ em m1 m2
def kJ(hx:0<x)(hy:0<y)(M:Meas x y g u):0<x*y/g/\x*y/g<=x*y/\x*y/g/x*1<=y/\0<=x*y/g/x/\x*y/g/y<=x/\0<=x*y/g/y:=by
 have hg:=M.pos hx;obtain⟨_,⟨a,ea⟩,⟨b,eb⟩,_⟩:=M;have ha:0<a:=dL (ea ▸ hx) hg;have hb:0<b:=dL (eb ▸ hy) hg;have e1:x*y/g=a*b*g:=by
  have:x*y=(a*b*g)*g:=by rw[ea,eb];grind
  rw[this];exact Gj _ JM
 have e2:a*b*g/x=b:=by
  have:a*b*g=b*x:=by rw[ea];grind
  rw[this];exact Gj _ JM
 have e3:a*b*g/y=a:=by
  have:a*b*g=a*y:=by rw[eb];grind
  rw[this];exact Gj _ JM
 have p1:0<a*b*g:=FZ (FZ ha hb) hg;have q1:=(cV (w:=b) (h:=g) hb hg).1;have q2:=(cV (w:=a) (h:=g) ha hg).1;have q3:x*y=a*b*g*g:=by rw[ea,eb];grind
 have q4:=(cV (w:=a*b*g) (h:=g) p1 hg).1;rw[e1,e2,e3];lia
def cell(ns:List Int)(k:Int):Int:=ns.getD k.toNat 0
variable{ns:List Int}
def sY(h0:0<=k)(h1:k<(ns.length:Int)):atI (ns.map D.int) k=be (.int (cell ns k)):=by
 obtain⟨j,rfl⟩:∃j:Nat,k=(j:Int):=#[k.toNat,JM];have hk:j<ns.length:=JM
 refine ce ?_;rw[FS,F8 hk];simp[cell,GL,F8 hk]
def AJ(h1:(ns.length:Int)<=k):cell ns k=0:=by
 have hk:ns.length<=k.toNat:=JM
 simp[cell,GL,Gk hk]
def FI(k:Int):∃m,atI [D.int 12,D.int 720] (k%2)=be (.int m)/\(m=12\/m=720):=by
 rcases(JM:k%2=0\/k%2=1)with e|e
 .rw[e];exact#[12,rfl,.inl rfl]
 .rw[e];exact#[720,rfl,.inr rfl]
def cJ(h:0<b):0<=a%b:=Gz a JM
def cK(h:0<b):a%b<b:=GA a h
def AK:SpD:=λds R=>∃(ns:List Int) (k:Int),ds=[.rol (ns.map D.int),.int k]/\0<=k/\R (.int (cell ns k))
def AL:SpD:=λds R=>∃i:Int,ds=[.int i]/\R (.bl true)
def AM:SpD:=λds R=>∃w h s x y:Int,ds=[.tup [.int w,.int h,.int s],.int x,.int y]/\0<w/\0<h/\h<1073741824/\0<=s/\s<1073741824/\
 R (.bl (decide (y%h=0/\(x-y/h*s)%w=0)))
def AN:SpD:=λds R=>∃a b c d u v:Int,ds=[.tup [.int a,.int b],.tup [.int c,.int d],.int u,.int v]/\a.natAbs<1073741824/\b.natAbs<1073741824/\c.natAbs<1073741824/\d.natAbs<1073741824/\
 ¬a*d=b*c/\R (.bl (decide ((u*d-v*c).fmod (a*d-b*c)=0/\(a*v-b*u).fmod (a*d-b*c)=0)))
def AO:SpD:=λds R=>∃x y:Int,ds=[.int x,.int y]/\∀g:Int,0<=g->g∣x->g∣y->(∀e,e∣x->e∣y->e∣g)->R (.int g)
def sZ:e∣(if x<0 then -x else x)↔e∣x:=by
 split
 .exact Int.dvd_neg
 .exact Iff.rfl
def tf(hb:e∣b):e∣a%b↔e∣a:=by
 have e1:=GJ a b;rw[e1];constructor
 .intro h;have:=HL h (IC (c:=a/b) hb);simpa using this
 .intro h;exact Int.dvd_sub h (IC hb)
def AQ:SpD:=λds R=>∃w h s x y:Int,ds=[.tup [.int w,.int h,.int s],.int x,.int y]/\0<w/\0<h/\h<1073741824/\0<=s/\s<1073741824/\
 R (.tup [.int ((x-y/h*s)%w),.int (y%h)])
def AR:SpD:=λds R=>∃a b c d:Int,ds=[.tup [.int a,.int b],.tup [.int c,.int d]]/\b.natAbs<4611686018427387904/\d.natAbs<4611686018427387904/\
 ∀p0 p1 q0,Lev a b c d p0 p1 q0->R (.tup [.tup [.int p0,.int p1],.tup [.int q0,.int 0]])
def AS:SpD:=λds R=>∃a b c d:Int,ds=[.tup [.int a,.int b],.tup [.int c,.int d]]/\a.natAbs<4611686018427387904/\b.natAbs<4611686018427387904/\c.natAbs<4611686018427387904/\d.natAbs<4611686018427387904/\
 (a*d=b*c->R .non)/\(¬a*d=b*c->∀w h s,FamOf a b c d w h s->R (.tup [.int w,.int h,.int s]))
def AT:SpD:=λds R=>∃w h s:Int,ds=[.tup [.int w,.int h,.int s]]/\0<w/\R (.tup [.int w,.int h,.int (-s%w)])
def AU:SpD:=λds R=>∃w h s:Int,ds=[.tup [.int w,.int h,.int s]]/\0<w/\0<h/\w<4611686018427387904/\h<4611686018427387904/\0<=s/\s<4611686018427387904/\
 ∀w' h' s',FamOf 0 w (-h) s w' h' s'->R (.tup [.int w',.int h',.int s'])
def AV:SpD:=λds R=>∃x y:Int,ds=[.int x,.int y]/\x.natAbs<4611686018427387904/\y.natAbs<4611686018427387904/\∀g u,Meas x y g u->R (.tup [.int g,.int u])
def AW:SpD:=λds R=>∃w1 h1 s1 w2 h2 s2:Int,ds=[.tup [.int w1,.int h1,.int s1],.tup [.int w2,.int h2,.int s2]]/\0<w1/\w1<=33554432/\0<h1/\h1<=33554432/\0<=s1/\s1<w1/\0<w2/\w2<=33554432/\0<h2/\h2<=33554432/\0<=s2/\s2<w2/\
 ∀w h s A,MetR w1 h1 s1 w2 h2 s2 w h s A->R (.tup [.int w,.int h,.int s])
def Drawn(xs:List Int):Prop:=∀x∈xs,0<=x/\x<5040
variable{xs:List Int}
def Drawn.at(h:Drawn xs)(k:Int):0<=cell xs k/\cell xs k<5040:=by
 by_cases hk:k.toNat<xs.length
 .have:cell xs k=xs[k.toNat]:=by simp[cell,GL,F8 hk]
  rw[this];exact h _ (Gp hk)
 .have:cell xs k=0:=by simp[cell,GL,Gk (Hz hk)]
  lia
def cz(h0:0<=k)(h:k.toNat<xs.length):atI (xs.map D.int) k=be (.int (cell xs k)):=sY h0 JM
def tm:xs.map D.int++[D.int v]=(xs++[v]).map D.int:=JU
def tw(h:Drawn xs)(h1:0<=v)(h2:v<5040):Drawn (xs++[v]):=by
 intro x hx;rcases Ga.mp hx with q|q
 .exact h x q
 .rw[FJ.mp q];exact#[h1,h2]
def AX:SpD:=λds R=>∃(ns:List Int) (k:Int) (n:Nat),ds=[.rol (ns.map D.int),.int k,.int n]/\0<=k/\n<=100/\∀xs:List Int,xs.length=n->Drawn xs->R (.lst (xs.map D.int))
def AY:SpD:=λds R=>∃xs:List Int,ds=[.lst (xs.map D.int)]/\8<=xs.length/\Drawn xs/\
 ∀a b c d:Int,(-12<=a/\a<=12)->(-12<=b/\b<=12)->(-12<=c/\c<=12)->(-12<=d/\d<=12)->¬a*d=b*c->R (.lst [.tup [.int a,.int b],.tup [.int c,.int d]])
abbrev cs(x:A_):List Nat:=x.cps.toList
def bx(x:A_):(cs x).length=x.length:=by simp[Str.length]
def tz:cs ""=[]:=rfl
def bK(x y:A_):cs (x++y)=cs x++cs y:=by
 show((x++y:A_)).cps.toList=_;rw[show(x++y:A_).cps=x.cps++y.cps from rfl,Array.toList_append]
def aI(x y:A_):(x++y).length=x.length+y.length:=by rw[<-bx,bK,FV,bx,bx]
def bb(c:Nat):Prop:=c=46\/(49<=c/\c<=54)
def kK:∀(L:List A_),cI (L.map D.str)=be L
 |[]=>rfl
 |x::L=>by simp[cI,kK L]
def eL(x:A_):Prop:=0<x.length/\x.length<=7/\∀c∈cs x,bb c
def AZ{x:A_}(h:eL x)(v:Int):∃c,(x.length<=1000000/\atI (cs x) (v%(x.length:Int))=be c)/\bb c:=by
 have h1:=cJ (a:=v) (show 0<(x.length:Int)by have:=h.1;lia);have h2:=cK (a:=v) (show 0<(x.length:Int)by have:=h.1;lia);obtain⟨j,ej⟩:∃j:Nat,v%(x.length:Int)=(j:Int):=#[(v%(x.length:Int)).toNat,JM];have hj:j<(cs x).length:=by rw[bx];lia
 refine#[(cs x)[j],#[by have:=h.2.1;lia,?_],h.2.2 _ (Gp hj)];rw[ej];exact ce (F8 hj)
def A1:eL "1.23456":=#[JT,JT,by unfold bb;decide+kernel]
def A2:eL "12":=#[JT,JT,by unfold bb;decide+kernel]
def A3:eL "1.":=#[JT,JT,by unfold bb;decide+kernel]
def A4:eL "...2":=#[JT,JT,by unfold bb;decide+kernel]
def A5(k:Int):∃x,atI [D.str "1.23456",D.str "12",D.str "1.",D.str "...2"] (k%4)=be (.str x)/\eL x:=by
 rcases(JM:k%4=0\/k%4=1\/k%4=2\/k%4=3)with e|e|e|e<;>rw[e]
 .exact#[_,rfl,A1]
 .exact#[_,rfl,A2]
 .exact#[_,rfl,A3]
 .exact#[_,rfl,A4]
def A6(k:Int):∃m,atI [D.int 1,D.int 70] (k%2)=be (.int m)/\(m=1\/m=70):=by
 rcases(JM:k%2=0\/k%2=1)with e|e<;>rw[e]
 .exact#[1,rfl,.inl rfl]
 .exact#[70,rfl,.inr rfl]
structure Rows(L:List Str):Prop where
 many:1<=L.length/\L.length<=8
 wide:∃w,(1<=w/\w<=8)/\∀l∈L,l.length=w/\∀c∈cs l,bb c
variable{L:List A_}
def Rows.of{w t:Nat}(h1:1<=t)(h2:t<=8)(hl:L.length=t)(w1:1<=w)(w2:w<=8)(h:∀l∈L,l.length=w/\∀c∈cs l,bb c):Rows L:=#[JM,w,#[w1,w2],h]
def A7{x:A_}{c:Nat}{i:Nat}(h1:x.length=i)(h2:∀c∈cs x,bb c)(hc:bb c):(x++#[[c].toArray]:A_).length=i+1/\∀c'∈cs (x++#[[c].toArray]),bb c':=by
 refine#[by rw[aI,h1];rfl,λc' q=>?_];rw[bK]at q;rcases Ga.mp q with q|q
 .exact h2 _ q
 .have:c'=c:=by simpa[cs]using q
  rw[this];exact hc
def A8{x:A_}:L.map D.str++[D.str x]=(L++[x]).map D.str:=JU
def cX(L:List A_)(a b c d:Int):Str:=("["++Txt.join "/" L)++((((((((";":A_)++(toString a:String))++",")++(toString b:String))++";")++(toString c:String))++",")++(toString d:String))++"]"
def bB(h:-12<=a/\a<=12):((toString a:String):A_).length<=3:=by
 have key:∀k:Fin 25,((toString (((k.val:Nat):Int)-12):String):A_).length<=3:=JT
 have:=key #[(a+12).toNat,JM];have e:(((a+12).toNat:Nat):Int)-12=a:=JM
 rw[e]at this;exact this
def B12(a:Int):Prop:=-12<=a/\a<=12
def B12.lt(h:B12 a):a.natAbs<1073741824:=by unfold B12 at h;lia
def tD{w:Nat}(h:∀l∈L,l.length=w):(L.map (·.length)).sum=L.length*w:=by
 induction L with
 |nil=>simp
 |cons x L ih=>
  rw[Gc,List.sum_cons,ih (λl hl=>h l (FM _ hl)),h x FO,FW,Nat.succ_mul,HM]
def tE(h:Rows L):(L.map (·.length)).sum+L.length*("/":A_).length<=72:=by
 obtain⟨h1,w,hw,h2⟩:=h;rw[tD (λl hl=>(h2 l hl).1)];have e:("/":A_).length=1:=rfl;rw[e];have:=GX h1.2 hw.2;lia
def A9:SpD:=λds R=>∃xs:List Int,ds=[.lst (xs.map D.int)]/\40<=xs.length/\Drawn xs/\∀L:List A_,Rows L->R (.lst (L.map D.str))
def Ba:SpD:=λds R=>∃(L:List A_) (a b c d:Int),ds=[.lst (L.map D.str),.tup [.int a,.int b],.tup [.int c,.int d]]/\Rows L/\B12 a/\B12 b/\B12 c/\B12 d/\R (.str (cX L a b c d))
structure Leaf where
 rows:List A_
 a:Int
 b:Int
 c:Int
 d:Int
 w0:Int
 w1:Int
 w2:Int
 w3:Int
 w4:Int
 w5:Int
 hues:List Int
def Leaf.D(l:Leaf):My.D:=.tup [.lst (l.rows.map D.str),.tup [.int l.a,.int l.b],.tup [.int l.c,.int l.d],.tup [.int l.w0,.int l.w1,.int l.w2,.int l.w3,.int l.w4,.int l.w5],.lst (l.hues.map D.int)]
structure Leaf.Ok(l:Leaf):Prop where
 rows:Rows l.rows
 a:B12 l.a
 b:B12 l.b
 c:B12 l.c
 d:B12 l.d
 ne:¬l.a*l.d=l.b*l.c
 w0:l.w0.natAbs<=1
 w1:l.w1.natAbs<=1
 w2:l.w2.natAbs<=1
 w3:l.w3.natAbs<=1
 w4:l.w4.natAbs<=1000
 w5:l.w5.natAbs<=1000
 many:l.hues.length=7
 hue:∀h∈l.hues,0<=h/\h<=6
def onB(a b c d u v:Int):Bool:=decide ((u*d-v*c).fmod (a*d-b*c)=0/\(a*v-b*u).fmod (a*d-b*c)=0)
def scanRow(f:Int->Bool):Nat->List Nat->Option Nat
 |_,[]=>r_
 |i,c::r=>if c≠46/\f i=true then be c else scanRow f (i+1) r
def bL(f:Int->Int->Bool):Nat->List A_->Option Nat
 |_,[]=>r_
 |j,l::r=>match scanRow (λi=>f i j) 0 (cs l)with|some c=>be c|none=>bL f (j+1) r
def Leaf.hit(l:Leaf)(x y:Int):Option Nat:=bL (λi j=>onB l.a l.b l.c l.d (l.w0*x+l.w1*y+l.w4-i) (l.w2*x+l.w3*y+l.w5-j)) 0 l.rows
def Leaf.shows(l:Leaf)(x y:Int):Int:=match l.hit x y with|some c=>cell l.hues ((c:Int)-48)|none=>0
def one_sign{c:Nat}:(#[[c].toArray]:A_)="."↔c=46:=by
 constructor
 .intro h;have:([c].toArray:Array Nat)=(".":A_).cps:=congrArg Str.cps h;have e:([c].toArray:Array Nat).toList=(".":A_).cps.toList:=by rw[this]
  have e2:(".":A_).cps.toList=[46]:=rfl;rw[e2]at e;simpa using e
 .rintro rfl;rfl
def digit_of{c:Nat}(h:49<=c/\c<=54):PySem.intText? (#[[c].toArray]:A_)=be ((c:Int)-48):=by
 rcases(JM:c=49\/c=50\/c=51\/c=52\/c=53\/c=54)with e|e|e|e|e|e<;>subst e<;>decide+kernel
def at_str{j:Nat}{x:A_}(h:L[j]?=be x):atI (L.map D.str) (j:Int)=be (.str x):=ce (by rw[FS,h];rfl)
def cm{n:Int}{k:Nat}{x:D}(h:((FN n.toNat).map λk=>D.int ((k:Nat):Int))[k]?=be x):k<n.toNat/\x=.int (k:Int):=by
 have hk:k<n.toNat:=by simpa using(FU.mp h).1
 refine#[hk,?_];simp[hk]at h;exact h.symm
def ca{n:Int}:((FN n.toNat).map λk=>D.int ((k:Nat):Int)).length=n.toNat:=JU
def aT:List Leaf->Int->Int->Int
 |[],_,_=>0
 |l::r,x,y=>if l.shows x y≠0 then l.shows x y else aT r x y
variable{hs:List Int}
def Bb(h:∀h∈hs,0<=h/\h<=6)(k:Int):0<=cell hs k/\cell hs k<=6:=by
 by_cases hk:k.toNat<hs.length
 .have:cell hs k=hs[k.toNat]:=by simp[cell,GL,F8 hk]
  rw[this];exact h _ (Gp hk)
 .have:cell hs k=0:=by simp[cell,GL,Gk (Hz hk)]
  lia
variable{l:Leaf}
def Leaf.shows_le(h:l.Ok)(x y:Int):0<=l.shows x y/\l.shows x y<=6:=by
 unfold Leaf.shows;split
 .exact Bb h.hue _
 .lia
def tF:∀{ls:List Leaf} (x y:Int),(∀l∈ls,l.Ok)->0<=aT ls x y/\aT ls x y<=6
 |[],_,_,_=>by simp[aT]
 |l::r,x,y,h=>by
  unfold aT;split
  .exact Leaf.shows_le (h l FO) x y
  .exact tF x y λl' q=>h l' (FM _ q)
def bu(L:List A_)(a b c d:Int):Leaf:=#[L,a,b,c,d,1,0,0,1,0,0,[0,1,2,3,4,5,6]]
def Bc:SpD:=λds R=>∃(ns:List Int) (k:Int),ds=[.rol (ns.map D.int),.int k]/\0<=k/\
 ∀(L:List A_) (a b c d:Int),Rows L->B12 a->B12 b->B12 c->B12 d->¬a*d=b*c->R (.lst [.str (cX L a b c d),.int 0,.lst [(bu L a b c d).D]])
def Bd:SpD:=λds R=>∃(l:Leaf) (x y:Int),ds=[l.D,.int x,.int y]/\l.Ok/\R (.int (l.shows x y))
def Be:SpD:=λds R=>∃(ls:List Leaf) (x y:Int),ds=[.lst (ls.map Leaf.D),.int x,.int y]/\(∀l∈ls,l.Ok)/\R (.int (aT ls x y))
inductive Pat where
 |mot (L:List Str) (a b c d:Int)
 |over (p q:Pat)
 |sh (a b:Int) (p:Pat)
 |mir (p:Pat)
 |tur (p:Pat)
 |hue (f g:Int) (p:Pat)
def Pat.text:Pat->A_
 |.mot L a b c d=>cX L a b c d
 |.over p q=>(((("(":A_)++p.text)++"|")++q.text)++")"
 |.sh a b p=>((((("s":A_)++(toString a:String))++",")++(toString b:String))++":")++p.text
 |.mir p=>("m":A_)++p.text
 |.tur p=>("t":A_)++p.text
 |.hue f g p=>((("h":A_)++(toString f:String))++(toString g:String))++p.text
def Pat.depth:Pat->Nat
 |.mot ..=>0
 |.over p q=>1+max p.depth q.depth
 |.sh _ _ p=>p.depth+1
 |.mir p=>p.depth+1
 |.tur p=>p.depth+1
 |.hue _ _ p=>p.depth+1
def Leaf.by(l:Leaf)(b0 b1 b2 b3 b4 b5:Int):Leaf:=
 {l with w0:=l.w0*b0+l.w1*b2,w1:=l.w0*b1+l.w1*b3,w2:=l.w2*b0+l.w3*b2,w3:=l.w2*b1+l.w3*b3,w4:=l.w4+l.w0*b4+l.w1*b5,w5:=l.w5+l.w2*b4+l.w3*b5}
def bC(f g h:Int):Int:=if h=f then g else h
def Leaf.dye(l:Leaf)(f g:Int):Leaf:={l with hues:=l.hues.map (bC f g)}
def Pat.leaves:Pat->List Leaf
 |.mot L a b c d=>[bu L a b c d]
 |.over p q=>p.leaves++q.leaves
 |.sh a b p=>p.leaves.map (λl=>l.by 1 0 0 1 (-a) (-b))
 |.mir p=>p.leaves.map (λl=>l.by (-1) 0 0 1 0 0)
 |.tur p=>p.leaves.map (λl=>l.by 0 1 (-1) 0 0 0)
 |.hue f g p=>p.leaves.map (λl=>(l.by 1 0 0 1 0 0).dye f g)
def Pat.show:Pat->Int->Int->Int
 |.mot L a b c d,x,y=>(bu L a b c d).shows x y
 |.over p q,x,y=>if p.show x y≠0 then p.show x y else q.show x y
 |.sh a b p,x,y=>p.show (x-a) (y-b)
 |.mir p,x,y=>p.show (-x) y
 |.tur p,x,y=>p.show y (-x)
 |.hue f g p,x,y=>bC f g (p.show x y)
def Pat.Wf:Pat->Prop
 |.mot L a b c d=>Rows L/\B12 a/\B12 b/\B12 c/\B12 d/\¬a*d=b*c
 |.over p q=>p.Wf/\q.Wf
 |.sh a b p=>B12 a/\B12 b/\p.Wf
 |.mir p=>p.Wf
 |.tur p=>p.Wf
 |.hue f g p=>(1<=f/\f<=6)/\(1<=g/\g<=6)/\p.Wf
def Leaf.by_shows(l:Leaf)(b0 b1 b2 b3 b4 b5 x y:Int):(l.by b0 b1 b2 b3 b4 b5).shows x y=l.shows (b0*x+b1*y+b4) (b2*x+b3*y+b5):=by
 have e1:(l.w0*b0+l.w1*b2)*x+(l.w0*b1+l.w1*b3)*y+(l.w4+l.w0*b4+l.w1*b5)=l.w0*(b0*x+b1*y+b4)+l.w1*(b2*x+b3*y+b5)+l.w4:=KE
 have e2:(l.w2*b0+l.w3*b2)*x+(l.w2*b1+l.w3*b3)*y+(l.w5+l.w2*b4+l.w3*b5)=l.w2*(b0*x+b1*y+b4)+l.w3*(b2*x+b3*y+b5)+l.w5:=KE
 simp only[Leaf.shows,Leaf.hit,Leaf.by,e1,e2]
def fT(b0 b1 b2 b3 b4 b5 x y:Int):∀ls:List Leaf,aT (ls.map (λl=>l.by b0 b1 b2 b3 b4 b5)) x y=aT ls (b0*x+b1*y+b4) (b2*x+b3*y+b5)
 |[]=>rfl
 |l::r=>by
  rw[Gc,aT,aT,Leaf.by_shows,fT b0 b1 b2 b3 b4 b5 x y r]
def scanRow_sign{f:Int->Bool}:∀{cs:List Nat} {i c:Nat},(∀c∈cs,bb c)->scanRow f i cs=be c->49<=c/\c<=54
 |[],_,_,_,h=>by cases h
 |a::r,i,c,hs,h=>by
  rw[scanRow]at h;split at h
  .rename_i q;cases h;have:=hs a FO;unfold bb at this;have:=q.1;lia
  .exact scanRow_sign (λc q=>hs c (FM _ q)) h
def kL{f:Int->Int->Bool}:∀{L:List A_} {j c:Nat},(∀l∈L,∀c∈cs l,bb c)->bL f j L=be c->49<=c/\c<=54
 |[],_,_,_,h=>by cases h
 |a::r,j,c,hs,h=>by
  rw[bL]at h;split at h
  .rename_i q;cases h;exact scanRow_sign (hs a FO) q
  .exact kL (λl q=>hs l (FM _ q)) h
def Bf(h:k.toNat<hs.length):cell (hs.map (bC f g)) k=bC f g (cell hs k):=by
 simp[cell,GL,FS,F8 h]
def Leaf.dye_shows(ok:l.Ok)(hf:1<=f)(x y:Int):(l.dye f g).shows x y=bC f g (l.shows x y):=by
 have e:(l.dye f g).hit x y=l.hit x y:=rfl;unfold Leaf.shows;rw[e];cases h:l.hit x y with
 |none=>simp[bC];lia
 |some c=>
  have hc:49<=c/\c<=54:=kL (λl' q=>let ⟨_,_,_,h⟩:=ok.rows;(h l' q).2) h;exact Bf (by rw[ok.many];lia)
def tG(hf:1<=f)(hg:1<=g):bC f g h=0↔h=0:=by
 unfold bC;split<;>lia
def tH{f g:Int}(hf:1<=f)(hg:1<=g)(x y:Int):∀ls:List Leaf,(∀l∈ls,l.Ok)->aT (ls.map (λl=>l.dye f g)) x y=bC f g (aT ls x y)
 |[],_=>by simp[aT,bC];lia
 |l::r,h=>by
  rw[Gc,aT,aT,Leaf.dye_shows (h l FO) hf,tH hf hg x y r λl q=>h l (FM _ q)];by_cases z:l.shows x y=0
  .rw[if_neg (λq=>q ((tG hf hg).mpr z)),if_neg (λq=>q z)]
  .rw[if_pos (λq=>z ((tG hf hg).mp q)),if_pos z]
def tI(x y:Int):∀(a b:List Leaf),aT (a++b) x y=if aT a x y≠0 then aT a x y else aT b x y
 |[],b=>by simp[aT]
 |l::r,b=>by
  rw[List.cons_append,aT,aT];by_cases z:l.shows x y≠0
  .rw[if_pos z,if_pos z,if_pos z]
  .rw[if_neg z,if_neg z,tI x y r b]
structure Leaf.Near(l:Leaf)(n:Nat):Prop where
 u0:(l.w0.natAbs=1/\l.w1=0/\l.w2=0/\l.w3.natAbs=1)\/(l.w0=0/\l.w1.natAbs=1/\l.w2.natAbs=1/\l.w3=0)
 w4:l.w4.natAbs<=24*n
 w5:l.w5.natAbs<=24*n
variable{n:Nat}
def Leaf.Near.mono{m:Nat}(h:l.Near n)(k:n<=m):l.Near m:=#[h.u0,by have:=h.w4;lia,by have:=h.w5;lia]
def Leaf.Near.unit(h:l.Near n):(l.w0=1\/l.w0=-1\/l.w0=0)/\(l.w1=1\/l.w1=-1\/l.w1=0)/\(l.w2=1\/l.w2=-1\/l.w2=0)/\(l.w3=1\/l.w3=-1\/l.w3=0):=by
 have k:∀{w:Int},w.natAbs=1->w=1\/w=-1\/w=0:=λ{w} e=>(Int.natAbs_eq w).imp (λz=>by rw[z,e];rfl) λz=>.inl (by rw[z,e];rfl);rcases h.u0 with⟨p,q,r,t⟩|⟨p,q,r,t⟩
 .exact#[k p,.inr (.inr q),.inr (.inr r),k t]
 .exact#[.inr (.inr p),k q,k r,.inr (.inr t)]
def tJ(h:w=1\/w=-1\/w=0):w.natAbs<=1:=by rcases h with rfl|rfl|rfl<;>decide
def near_add(h:e.natAbs<=24*n)(hw:w=1\/w=-1\/w=0)(hv:v=1\/v=-1\/v=0)(ha:B12 a)(hb:B12 b):(e+w* -a+v* -b).natAbs<=24*(n+1):=by
 have m:∀{w a:Int},(w=1\/w=-1\/w=0)->B12 a->(w* -a).natAbs<=12:=λ{w a} hw ha=>by
  rw[Gw,HJ];exact GX (tJ hw) (show a.natAbs<=12 by unfold B12 at ha;clear hw;lia)
 rw[show 24*(n+1)=24*n+12+12 from rfl];exact FQ (HF _ _) (Hq (FQ (HF _ _) (Hq h (m hw ha))) (m hv hb))
def Bg(h:l.Near n)(ha:B12 a)(hb:B12 b):(l.by 1 0 0 1 (-a) (-b)).Near (n+1):=by
 obtain⟨h0,h1,h2,h3⟩:=h.unit;exact#[by simpa[Leaf.by]using h.u0,near_add h.w4 h0 h1 ha hb,near_add h.w5 h2 h3 ha hb]
def Bh(h:l.Near n):(l.by (-1) 0 0 1 0 0).Near (n+1):=by
 have p:=h.w4;have q:=h.w5;exact#[by simpa[Leaf.by]using h.u0,by simp[Leaf.by];lia,by simp[Leaf.by];lia]
def Bi(h:l.Near n):(l.by 0 1 (-1) 0 0 0).Near (n+1):=by
 have p:=h.w4;have q:=h.w5;refine#[?_,by simp[Leaf.by];lia,by simp[Leaf.by];lia];rcases h.u0 with⟨a,b,c,d⟩|⟨a,b,c,d⟩
 .exact .inr (by simp[Leaf.by,a,b,c,d])
 .exact .inl (by simp[Leaf.by,a,b,c,d])
def tK(h:l.Near n):((l.by 1 0 0 1 0 0).dye f g).Near (n+1):=by
 have p:=h.w4;have q:=h.w5;exact#[by simpa[Leaf.by,Leaf.dye]using h.u0,by simp[Leaf.by,Leaf.dye];lia,by simp[Leaf.by,Leaf.dye];lia]
structure Leaf.Good(l:Leaf):Prop where
 rows:Rows l.rows
 a:B12 l.a
 b:B12 l.b
 c:B12 l.c
 d:B12 l.d
 ne:¬l.a*l.d=l.b*l.c
 many:l.hues.length=7
 hue:∀h∈l.hues,0<=h/\h<=6
def Leaf.ok_of(g:l.Good)(h:l.Near n)(hn:n<=40):l.Ok:=by
 have:=h.u0;have:=h.w4;have:=h.w5;exact#[g.rows,g.a,g.b,g.c,g.d,g.ne,JM,JM,JM,JM,JM,JM,g.many,g.hue]
def Pat.leaf_good:∀{p:Pat},p.Wf->∀l∈p.leaves,l.Good/\l.Near p.depth
 |.mot L a b c d,h,l,q=>by
  have:l=bu L a b c d:=by simpa[Pat.leaves]using q
  subst this;obtain⟨h1,h2,h3,h4,h5,h6⟩:=h;exact#[#[h1,h2,h3,h4,h5,h6,rfl,by intro h q;simp[bu]at q;lia],#[by simp[bu],by simp[bu],by simp[bu]]]
 |.over p r,h,l,q=>by
  rcases Ga.mp q with q|q
  .obtain⟨g,n⟩:=Pat.leaf_good h.1 l q;exact#[g,n.mono (by simp only[Pat.depth];lia)]
  .obtain⟨g,n⟩:=Pat.leaf_good h.2 l q;exact#[g,n.mono (by simp only[Pat.depth];lia)]
 |.sh a b p,h,l,q=>by
  obtain⟨l',q',rfl⟩:=Gd.mp q;obtain⟨g,n⟩:=Pat.leaf_good h.2.2 l' q';exact#[#[g.rows,g.a,g.b,g.c,g.d,g.ne,g.many,g.hue],Bg n h.1 h.2.1]
 |.mir p,h,l,q=>by
  obtain⟨l',q',rfl⟩:=Gd.mp q;obtain⟨g,n⟩:=Pat.leaf_good (p:=p) h l' q';exact#[#[g.rows,g.a,g.b,g.c,g.d,g.ne,g.many,g.hue],Bh n]
 |.tur p,h,l,q=>by
  obtain⟨l',q',rfl⟩:=Gd.mp q;obtain⟨g,n⟩:=Pat.leaf_good (p:=p) h l' q';exact#[#[g.rows,g.a,g.b,g.c,g.d,g.ne,g.many,g.hue],Bi n]
 |.hue f k p,h,l,q=>by
  obtain⟨l',q',rfl⟩:=Gd.mp q;obtain⟨g,n⟩:=Pat.leaf_good (p:=p) h.2.2 l' q';refine#[#[g.rows,g.a,g.b,g.c,g.d,g.ne,?_,λv hv=>?_],tK n]
  .show(l'.hues.map _).length=7;rw[FP];exact g.many
  .obtain⟨u,hu,rfl⟩:=Gd.mp hv;have:=g.hue u hu;have:=h.2.1;unfold bC;split<;>lia
variable{p:Pat}
def Pat.leaf_ok(h:p.Wf)(hd:p.depth<=40):∀l∈p.leaves,l.Ok:=λl q=>Leaf.ok_of (Pat.leaf_good h l q).1 (Pat.leaf_good h l q).2 hd
def Pat.show_leaves:∀{p:Pat},p.Wf->p.depth<=40->∀x y,aT p.leaves x y=p.show x y
 |.mot L a b c d,_,_,x,y=>by
  simp only[Pat.leaves,Pat.show,aT];split
  .rfl
  .lia
 |.over p q,h,hd,x,y=>by
  simp only[Pat.depth]at hd;rw[Pat.leaves,tI,Pat.show_leaves h.1 JM,Pat.show_leaves h.2 JM,Pat.show]
 |.sh a b p,h,hd,x,y=>by
  simp only[Pat.depth]at hd;rw[Pat.leaves,fT,Pat.show_leaves h.2.2 JM,Pat.show];congr 1<;>lia
 |.mir p,h,hd,x,y=>by
  simp only[Pat.depth]at hd;rw[Pat.leaves,fT,Pat.show_leaves (p:=p) h JM,Pat.show];congr 1<;>lia
 |.tur p,h,hd,x,y=>by
  simp only[Pat.depth]at hd;rw[Pat.leaves,fT,Pat.show_leaves (p:=p) h JM,Pat.show];congr 1<;>lia
 |.hue f g p,h,hd,x,y=>by
  simp only[Pat.depth]at hd;have e:p.leaves.map (λl=>(l.by 1 0 0 1 0 0).dye f g)=(p.leaves.map (λl=>l.by 1 0 0 1 0 0)).map (λl=>l.dye f g):=by rw[G7];rfl
  rw[Pat.leaves,e,tH h.1.1 h.2.1.1,fT,Pat.show_leaves h.2.2 JM,Pat.show]
  .congr 2<;>lia
  .intro l q;obtain⟨l',q',rfl⟩:=Gd.mp q;obtain⟨g',n⟩:=Pat.leaf_good h.2.2 l' q';have n':=tK (f:=f) (g:=g) n;have:(l'.by 1 0 0 1 0 0).Near (p.depth+1):=#[n'.u0,n'.w4,n'.w5];exact Leaf.ok_of #[g'.rows,g'.a,g'.b,g'.c,g'.d,g'.ne,g'.many,g'.hue] this JM
def Pat.D(p:Pat):My.D:=.lst [.str p.text,.int p.depth,.lst (p.leaves.map Leaf.D)]
def Leaf.T(dy:Bool)(d8 new b0 b1 b2 b3 b4 b5:Int)(l:Leaf):Leaf:=if dy then(l.by b0 b1 b2 b3 b4 b5).dye d8 new else l.by b0 b1 b2 b3 b4 b5
def eN(h:1<=a/\a<=6):((toString a:String):A_).length<=3:=bB JM
def Wraps(p:Pat)(H:Prop)(R:My.D->Prop):Prop:=(5<=p.depth->R p.D)/\(p.depth<5->R (Pat.mir p).D/\R (Pat.tur p).D/\(∀a b,B12 a->B12 b->R (Pat.sh a b p).D)/\(H->∀f g:Int,(1<=f/\f<=6)->(1<=g/\g<=6)->R (Pat.hue f g p).D))
variable{A:Int}{R:My.D->Prop}
def Bj(h:Wraps p (j=3) R)(hd:p.depth<5){k B d8 new:Int}(hA:B12 A)(hB:B12 B)(ho:1<=d8/\d8<=6)(hn:1<=new/\new<=6)(hj:0<=j/\j<4):
  ∃(hs:A_) (b0 b1 b2 b3 b4 b5:Int),atI [D.str "m",D.str "t",D.str ((((("s":A_)++(toString A:String))++",")++(toString B:String))++":"),D.str ((("h":A_)++(toString d8:String))++(toString new:String))] j=be (.str hs)/\
   atI ([D.tup [.int (-1),.int 0,.int 0,.int 1,.int 0,.int 0],D.tup [.int 0,.int 1,.int (-1),.int 0,.int 0,.int 0]]++[D.tup [.int 1,.int 0,.int 0,.int 1,.int (-A),.int (-B)],D.tup [.int 1,.int 0,.int 0,.int 1,.int 0,.int 0]]) j=be (.tup [.int b0,.int b1,.int b2,.int b3,.int b4,.int b5])/\
   (b0.natAbs<=1/\b1.natAbs<=1/\b2.natAbs<=1/\b3.natAbs<=1/\b4.natAbs<=12/\b5.natAbs<=12)/\hs.length<=20/\
   R (.lst [.str (hs++p.text),.int (p.depth+1),.lst ((p.leaves.map (Leaf.T (decide (j=3)) d8 new b0 b1 b2 b3 b4 b5)).map Leaf.D)]):=by
 obtain⟨h1,h2,h3,h4⟩:=h.2 hd;have l1:("s":A_).length=1:=rfl;have l2:(",":A_).length=1:=rfl;have l3:(":":A_).length=1:=rfl;have l4:("h":A_).length=1:=rfl;have lA:=bB hA;have lB:=bB hB;have lo:=eN ho;have ln:=eN hn;have eD:∀n:Nat,D.int ((n+1:Nat):Int)=D.int ((n:Int)+1):=λn=>by congr 1
 unfold B12 at hA hB;rcases(JM:j=0\/j=1\/j=2\/j=3)with rfl|rfl|rfl|rfl
 .exact#[_,_,_,_,_,_,_,rfl,rfl,JM,JQ,h1]
 .exact#[_,_,_,_,_,_,_,rfl,rfl,JM,JQ,h2]
 .refine#[_,_,_,_,_,_,_,rfl,rfl,JM,?_,h3 A B hA hB]
  repeat rw[aI]
  lia
 .refine#[_,_,_,_,_,_,_,rfl,rfl,JM,?_,h4 rfl d8 new ho hn]
  repeat rw[aI]
  lia
def Bk(h d8 new:Int):atI [D.int h,D.int new] (if decide (h=d8)=true then(1:Int)else 0)=be (.int (bC d8 new h)):=by
 unfold bC;by_cases e:h=d8
 .rw[if_pos e,if_pos (by simpa using e)];rfl
 .rw[if_neg e,if_neg (by simpa using e)];rfl
def kM{α:Type}{xs:List α}{k:Nat}{x:α}(h:xs[k]?=be x):xs.take (k+1)=xs.take k++[x]:=by
 have hk:k<xs.length:=(FU.mp h).1;rw[Io,h];rfl
def Pat.leaves_len:∀(p:Pat),p.leaves.length<=2^p.depth
 |.mot ..=>FK _
 |.over p q=>by
  have h1:=p.leaves_len;have h2:=q.leaves_len;have m1:2^p.depth<=2^(max p.depth q.depth):=GZ JQ (ID _ _);have m2:2^q.depth<=2^(max p.depth q.depth):=GZ JQ (IE _ _);rw[Pat.leaves,FV,Pat.depth,IF];lia
 |.sh a b p=>by rw[Pat.leaves,FP,Pat.depth,GB];have:=p.leaves_len;lia
 |.mir p=>by rw[Pat.leaves,FP,Pat.depth,GB];have:=p.leaves_len;lia
 |.tur p=>by rw[Pat.leaves,FP,Pat.depth,GB];have:=p.leaves_len;lia
 |.hue f g p=>by rw[Pat.leaves,FP,Pat.depth,GB];have:=p.leaves_len;lia
def Pat.leaves_32(h:p.depth<=5):p.leaves.length<=32:=FQ p.leaves_len (GZ JQ h)
def Bl:SpD:=λds R=>∃(p:Pat) (draw:Int),ds=[p.D,.int draw]/\p.Wf/\p.depth<=5/\p.text.length<=100000/\Wraps p (draw%4=3) R
def tL(hn:¬a*d=b*c)(h:(u*d-v*c).fmod (a*d-b*c)=0/\(a*v-b*u).fmod (a*d-b*c)=0):∃i j,u=i*a+j*c/\v=i*b+j*d:=by
 have hz:a*d-b*c≠0:=Kv
 obtain⟨i,ei⟩:(a*d-b*c)∣(u*d-v*c):=#[_,(IG h.1).symm];obtain⟨j,ej⟩:(a*d-b*c)∣(a*v-b*u):=#[_,(IG h.2).symm];refine#[i,j,?_,?_]
 .have:(a*d-b*c)*u=(a*d-b*c)*(i*a+j*c):=by
   have q1:(a*d-b*c)*u=a*(u*d-v*c)+c*(a*v-b*u):=KE
   rw[q1,ei,ej];grind
  exact HK hz this
 .have:(a*d-b*c)*v=(a*d-b*c)*(i*b+j*d):=by
   have q1:(a*d-b*c)*v=b*(u*d-v*c)+d*(a*v-b*u):=KE
   rw[q1,ei,ej];grind
  exact HK hz this
def Uni.trans{x0 x1 y0 y1:Int}(h:Uni a b c d p0 p1 q0 q1)(k:Uni p0 p1 q0 q1 x0 x1 y0 y1):Uni a b c d x0 x1 y0 y1:=by
 obtain⟨m,n,k1,l,hd,rfl,rfl,rfl,rfl⟩:=h;obtain⟨m',n',k',l',i6,rfl,rfl,rfl,rfl⟩:=k;have dt:(m'*m+n'*k1)*(k'*n+l'*l)-(m'*n+n'*l)*(k'*m+l'*k1)=(m'*l'-n'*k')*(m*l-n*k1):=KE
 refine#[m'*m+n'*k1,m'*n+n'*l,k'*m+l'*k1,k'*n+l'*l,?_,KE,KE,KE,KE];rw[dt];rcases hd with e|e<;>rcases i6 with e'|e'<;>rw[e,e']<;>decide
def eO:∀(n:Nat) (a b c d:Int),d.natAbs<=n->∃p0 p1 q0,Lev a b c d p0 p1 q0
 |n,a,b,c,d,hn=>by
  by_cases hd:d=0
  .subst hd;by_cases hb:0<=b
   .exact#[a,b,c,hb,Uni.refl a b c 0]
   .exact#[-a,-b,c,JM,(Uni.refl a b c 0).neg]
  .match n,hn with
   |0,hn=>exact absurd (JM:d=0) hd
   |n+1,hn=>
    have lt:=(fdm b d hd).1;obtain⟨p0,p1,q0,h0,hu⟩:=eO n c d (a-b.fdiv d*c) (b-b.fdiv d*d) JM;exact#[p0,p1,q0,h0,((Uni.refl a b c d).step (b.fdiv d)).trans hu]
def Bm(hn:¬a*d=b*c)(g0:0<=g)(g1:g∣b)(g2:g∣d)(g3:∀e,e∣b->e∣d->e∣g):
  ∃w s,FamOf a b c d w g s:=by
 obtain⟨p0,p1,q0,hL⟩:=eO d.natAbs a b c d (FK _);have hF:=fS hn hL;have hp:=hF.2.1;obtain⟨m,n,k,l,_,e1,e2,e3,e4⟩:=hL.2;obtain⟨m',n',k',l',_,f1,f2,f3,f4⟩:=hL.2.inv;have d1:p1∣g:=g3 p1 #[m',by rw[f2];grind] #[k',by rw[f4];grind];have d2:g∣p1:=by
  rw[e2];exact HL (Hr g1) (Hr g2)
 have:p1=g:=IH JM g0 d1 d2;subst this;exact#[_,_,hF]
def FamOf.uniq_lean(f:FamOf a b c d w h s)(e1:x=i*a+j*c)(e2:h=i*b+j*d)(h0:0<=x)(h1:x<=s):x=s:=by
 obtain⟨hw,hh,hs,G',hu⟩:=f;obtain⟨m,n,k,l,_,f1,f2,f3,f4⟩:=hu.inv;have ex:x=(i*m+j*k)*w+(i*n+j*l)*s:=by rw[e1,f1,f3];grind
 have eh:h=(i*n+j*l)*h:=by
  have:i*b+j*d=(i*n+j*l)*h:=by rw[f2,f4];grind
  rw[<-this];exact e2
 have one:i*n+j*l=1:=by
  have:(i*n+j*l)*h=1*h:=by lia
  exact GY JM this
 rw[one]at ex;generalize i*m+j*k=t at ex;have:t*w=x-s:=JM
 rcases(JM:t<=-1\/t=0\/1<=t)with z|z|z
 .have:=Gg z (show 0<=w by lia);lia
 .subst z;lia
 .have:=Gg z (show 0<=w by lia);lia
def notT{c:Prop}[Decidable c](h:(!decide c)=true):¬c:=by
 intro q;rw[decide_eq_true q]at h;cases h
def notF{c:Prop}[Decidable c](h:¬(!decide c)=true):c:=by
 rcases Classical.em c with q|q
 .exact q
 .rw[decide_eq_false q]at h;exact absurd rfl h
def Leaf.o0(l:Leaf):Int:=l.w0*l.a+l.w2*l.b
def Leaf.o1(l:Leaf):Int:=l.w1*l.a+l.w3*l.b
def Leaf.t0(l:Leaf):Int:=l.w0*l.c+l.w2*l.d
def Leaf.t1(l:Leaf):Int:=l.w1*l.c+l.w3*l.d
def cY(h:w=1\/w=-1\/w=0)(ha:B12 a):(w*a).natAbs<=12:=by
 rw[Gw];exact GX (tJ h) (show a.natAbs<=12 by unfold B12 at ha;clear h;lia)
def tM(ha:B12 a)(hb:B12 b):(a*b).natAbs<=144:=by
 unfold B12 at ha hb;rw[Gw];exact FQ (GX (show a.natAbs<=12 by lia) (show b.natAbs<=12 by lia)) JQ
def Leaf.sizes(g:l.Good)(h:l.Near n):l.o0.natAbs<=24/\l.o1.natAbs<=24/\l.t0.natAbs<=24/\l.t1.natAbs<=24/\¬l.o0*l.t1=l.o1*l.t0/\(l.o0*l.t1-l.o1*l.t0).natAbs<=288:=by
 obtain⟨h0,h1,h2,h3⟩:=h.unit;have a0:=cY h0 g.a;have a1:=cY h1 g.a;have b2:=cY h2 g.b;have b3:=cY h3 g.b;have c0:=cY h0 g.c;have c1:=cY h1 g.c;have d2:=cY h2 g.d;have d3:=cY h3 g.d;have dt:l.o0*l.t1-l.o1*l.t0=(l.w0*l.w3-l.w1*l.w2)*(l.a*l.d-l.b*l.c):=by unfold Leaf.o0 Leaf.o1 Leaf.t0 Leaf.t1;grind
 have dw:(l.w0*l.w3-l.w1*l.w2).natAbs=1:=by
  rcases h.u0 with⟨p,q,r,t⟩|⟨p,q,r,t⟩
  .rw[q,II,Int.sub_zero,Gw,p,t]
  .rw[p,II,Int.zero_sub,HJ,Gw,q,r]
 have da:(l.o0*l.t1-l.o1*l.t0).natAbs=(l.a*l.d-l.b*l.c).natAbs:=by rw[dt,Gw,dw,Nat.one_mul]
 refine#[ab24 a0 b2,ab24 a1 b3,ab24 c0 d2,ab24 c1 d3,λz=>g.ne ?_,?_]
 .rw[z,Int.sub_self]at da;exact Int.sub_eq_zero.mp (Im.mp da.symm)
 .rw[da];exact FQ (Ix _ _) (Hq (tM g.a g.d) (tM g.b g.c))
def Bn:SpD:=λds R=>∃(l:Leaf) (n:Nat),ds=[l.D]/\l.Good/\l.Near n/\∀w h s:Int,FamOf l.o0 l.o1 l.t0 l.t1 w h s->w*h<=288->R (.tup [.int w,.int h,.int s])
def Bo(h1:y%h=0/\(x-y/h*s)%w=0):∃i j,x=i*w+j*s/\y=j*h:=by
 refine#[(x-y/h*s)/w,y/h,?_,?_]
 .have:=G0 (x-y/h*s) w;rw[h1.2]at this;rw[Ge w]at this;lia
 .have:=G0 y h;rw[h1.1,Ge h]at this;lia
def eQ(x y:Int):∃g u,Meas x y g u:=by
 obtain⟨p0,p1,q0,hL⟩:=eO y.natAbs 1 x 0 y (FK _);exact#[p1,p0,sX #[hL.1,hL.2]]
def Meas.gcd{G:Int}(h:Meas x y g u)(g0:0<=G)(g1:G∣x)(g2:G∣y)(g3:∀e,e∣x->e∣y->e∣G):G=g:=by
 obtain⟨h0,⟨i,ei⟩,⟨j,ej⟩,n,en⟩:=h;refine IH g0 h0 ?_ (g3 g #[i,by rw[ei,Ge]] #[j,by rw[ej,Ge]]);rw[en];exact HL (Hr g1) (Hr g2)
structure Fm(w h s:Int):Prop where
 w0:0<w
 w1:w<=720
 h0:0<h
 h1:h<=720
 s0:0<=s
 sw:s<w
def Bp(f:Fm w1 h1 s1)(k:Fm w2 h2 s2):∃g u w h s A,Meas w1 w2 g u/\w=w1*w2/g/\MetR w1 h1 s1 w2 h2 s2 w h s A:=by
 obtain⟨g,u,M1⟩:=eQ w1 w2;obtain⟨k',u',M2⟩:=eQ h1 h2;obtain⟨gg,s_,M3⟩:=eQ g (h1*h2/k'/h2*s2-h1*h2/k'/h1*s1);exact#[g,u,_,_,_,_,M1,rfl,kI f.w0 k.w0 f.h0 k.h0 M1 M2 M3]
def MetR.high(M:MetR w1 h1 s1 w2 h2 s2 w h s A)(hh:0<h1)(hj:1<=j)(e1:∃i,x=i*w1+j*s1)(e2:∃i k,x=i*w2+k*s2/\j*h1=k*h2):h<=j*h1/\(j*h1=h->0<=x->x<w->x=s):=by
 obtain⟨i,e1⟩:=e1;obtain⟨i',k,e3,e4⟩:=e2;obtain⟨a,b,e5,e6⟩:=M.all x (j*h1) #[i,j,e1,rfl] #[i',k,e3,e4];have hp:0<j*h1:=FZ JM hh;have hb:1<=b:=by
  rcases(JM:b<=0\/1<=b)with z|z
  .have:=GK z (show 0<=h by have:=M.h0;lia);lia
  .exact z
 refine#[?_,λe x0 x1=>?_]
 .have:=Gg hb (show 0<=h by have:=M.h0;lia);lia
 .have ob:b=1:=by
   have:b*h=1*h:=by lia
   exact GY (by have:=M.h0;lia) this
  rw[ob]at e5;have s0:=M.s0;have sw:=M.sw;have:a*w=x-s:=JM
  rcases(JM:a<=-1\/a=0\/1<=a)with z|z|z
  .have:=Gg z (show 0<=w by lia);lia
  .subst z;lia
  .have:=Gg z (show 0<=w by lia);lia
def Bq:SpD:=λds R=>∃w1 h1 s1 w2 h2 s2:Int,ds=[.tup [.int w1,.int h1,.int s1],.tup [.int w2,.int h2,.int s2]]/\Fm w1 h1 s1/\Fm w2 h2 s2/\
 ∀w h s A,MetR w1 h1 s1 w2 h2 s2 w h s A->(w*h<=720->R (.tup [.int w,.int h,.int s]))/\(720<w*h->R .non)
def Br{S:Int}(hw:0<w1)(hx:x<w1)(x0:0<=x)(hS:0<=S)(e:S=i*w1+s)(e2:∃i',x=i'*w1+s):∃k,S=x+k*w1/\0<=k:=by
 obtain⟨i',e2⟩:=e2;refine#[i-i',KE,?_];rcases(JM:i-i'<=-1\/0<=i-i')with z|z
 .have:=Gg z (show 0<=w1 by lia);have:(i-i')*w1=S-x:=by grind
  lia
 .exact z
def InF(w h s x y:Int):Prop:=∃i j,x=i*w+j*s/\y=j*h
def Leaf.Lat(l:Leaf)(x y:Int):Prop:=∃i j,x=i*l.o0+j*l.t0/\y=i*l.o1+j*l.t1
def FamOf.lat(f:FamOf a b c d w h s)(x y:Int):InF w h s x y↔∃i j,x=i*a+j*c/\y=i*b+j*d:=by
 obtain⟨_,_,_,_,hu⟩:=f;obtain⟨m,n,k,l,_,e1,e2,e3,e4⟩:=id hu;obtain⟨m',n',k',l',_,f1,f2,f3,f4⟩:=hu.inv;constructor
 .rintro⟨i,j,rfl,rfl⟩;refine#[i*m+j*k,i*n+j*l,by rw[e1,e3];grind,?_];have z:i*0+j*h=(i*m+j*k)*b+(i*n+j*l)*d:=by rw[e2,e4];grind
  lia
 .rintro⟨i,j,rfl,rfl⟩;refine#[i*m'+j*k',i*n'+j*l',by rw[f1,f3];grind,by rw[f2,f4];grind]
def MetR.lat(M:MetR w1 h1 s1 w2 h2 s2 w h s A)(x y:Int):InF w h s x y↔InF w1 h1 s1 x y/\InF w2 h2 s2 x y:=by
 constructor
 .rintro⟨i,j,rfl,rfl⟩;obtain⟨a1,e1⟩:=M.in1;obtain⟨a2,e2⟩:=M.in2;obtain⟨b1,c1,e3,e4⟩:=M.up1;obtain⟨b2,c2,e5,e6⟩:=M.up2;refine#[#[i*a1+j*b1,j*c1,?_,?_],#[i*a2+j*b2,j*c2,?_,?_]]
  .rw[e1,e3];grind
  .rw[e4];grind
  .rw[e2,e5];grind
  .rw[e6];grind
 .rintro⟨h1,h2⟩;exact M.all x y h1 h2
variable{w' h' s':Int}
def InF.le(hw:0<w)(hh:0<h)(MP:0<w')(MQ:0<h')(sub:∀x y,InF w' h' s' x y->InF w h s x y):w*h<=w'*h'/\w<=w'/\h<=h':=by
 obtain⟨i,j,e1,e2⟩:=sub w' 0 #[1,0,JM,JM];have j0:j=0:=by
  rcases HN.mp e2.symm with z|z
  .exact z
  .lia
 subst j0;have i1:1<=i:=by
  rcases(JM:i<=0\/1<=i)with z|z
  .have:=GK z (show 0<=w by lia);lia
  .exact z
 obtain⟨i',j',e3,e4⟩:=sub s' h' #[0,1,JM,JM];have j1:1<=j':=by
  rcases(JM:j'<=0\/1<=j')with z|z
  .have:=GK z (show 0<=h by lia);lia
  .exact z
 have a1:=Gg i1 (show 0<=w by lia);have a2:=Gg j1 (show 0<=h by lia);have b1:w<=w':=JM
 have b2:h<=h':=JM
 exact#[Int.mul_le_mul b1 b2 JM JM,b1,b2]
def InF.uniq(hw:0<w)(hh:0<h)(hs:0<=s)(G':s<w)(MP:0<w')(MQ:0<h')(LD:0<=s')(PV:s'<w')(e:∀x y,InF w h s x y↔InF w' h' s' x y):w=w'/\h=h'/\s=s':=by
 obtain⟨_,a1,a2⟩:=InF.le hw hh MP MQ (λx y q=>(e x y).mpr q);obtain⟨_,b1,b2⟩:=InF.le MP MQ hw hh (λx y q=>(e x y).mp q);have ew:w=w':=JM
 have eh:h=h':=JM
 subst ew eh;refine#[rfl,rfl,?_];obtain⟨i,j,e1,e2⟩:=(e s h).mp #[0,1,JM,JM];have j1:j=1:=by
  have:j*h=1*h:=by lia
  exact GY JM this
 subst j1;have:i*w=s-s':=JM
 rcases(JM:i<=-1\/i=0\/1<=i)with z|z|z
 .have:=Gg z (show 0<=w by lia);lia
 .subst z;lia
 .have:=Gg z (show 0<=w by lia);lia
structure Fam0(w h s:Int):Prop where
 w0:0<w
 h0:0<h
 s0:0<=s
 sw:s<w
def tN(f:Fam0 w1 h1 s1)(k:Fam0 w2 h2 s2):∃w h s,Fam0 w h s/\∀x y,InF w h s x y↔InF w1 h1 s1 x y/\InF w2 h2 s2 x y:=by
 obtain⟨g,u,M1⟩:=eQ w1 w2;obtain⟨k',u',M2⟩:=eQ h1 h2;obtain⟨gg,s_,M3⟩:=eQ g (h1*h2/k'/h2*s2-h1*h2/k'/h1*s1);have M:=kI f.w0 k.w0 f.h0 k.h0 M1 M2 M3;exact#[_,_,_,#[M.w0,M.h0,M.s0,M.sw],M.lat]
def Leaf.fam_ex(g:l.Good)(h:l.Near n):∃w k s,Fam0 w k s/\∀x y,InF w k s x y↔l.Lat x y:=by
 obtain⟨_,_,_,_,ne,_⟩:=Leaf.sizes g h;obtain⟨p0,p1,q0,hL⟩:=eO l.t1.natAbs l.o0 l.o1 l.t0 l.t1 (FK _);have f:=fS ne hL;exact#[_,_,_,#[f.1,f.2.1,f.2.2.1,f.2.2.2.1],f.lat]
def bM(ls:List Leaf)(x y:Int):Prop:=∀l∈ls,l.Lat x y
def tO{n:Nat}:∀(ls:List Leaf) (w h s:Int),Fam0 w h s->(∀l∈ls,l.Good/\l.Near n)->∃w' h' s',Fam0 w' h' s'/\∀x y,InF w' h' s' x y↔InF w h s x y/\bM ls x y
 |[],w,h,s,f,_=>#[w,h,s,f,λx y=>#[λq=>#[q,λl z=>by cases z],λq=>q.1]]
 |l::r,w,h,s,f,g=>by
  obtain⟨w1,h1,s1,f1,e1⟩:=Leaf.fam_ex (g l FO).1 (g l FO).2;obtain⟨w2,h2,s2,f2,e2⟩:=tN f f1;obtain⟨w3,h3,s3,f3,e3⟩:=tO r w2 h2 s2 f2 λl' q=>g l' (FM _ q);refine#[w3,h3,s3,f3,λx y=>?_];rw[e3,e2,e1];constructor
  .rintro⟨⟨a,b⟩,c⟩;exact#[a,λl' q=>(FL.mp q).elim (λz=>z ▸ b) (c l')]
  .rintro⟨a,b⟩;exact#[#[a,b l FO],λl' q=>b l' (FM _ q)]
def cut1(d:D)(ds:List D):cutD (d::ds) (be 1) r_=ds:=by
 unfold cutD;have e1:HT.sIx (d::ds).length 0 (be 1)=1:=by simp[HT.sIx]
 have e2:HT.sIx (d::ds).length (d::ds).length r_=(d::ds).length:=by simp[HT.sIx]
 rw[e1,e2,List.drop_one,List.tail_cons,FW,IJ,Hs]
def Bs:SpD:=λds R=>∃(ls:List Leaf) (n:Nat),ds=[.lst (ls.map Leaf.D)]/\ls≠[]/\(∀l∈ls,l.Good/\l.Near n)/\
 ∀w h s:Int,Fam0 w h s->(∀x y,InF w h s x y↔bM ls x y)->(w*h<=720->R (.tup [.int w,.int h,.int s]))/\(720<w*h->R .non)
def Pat.Lat:Pat->Int->Int->Prop
 |.mot _ a b c d,x,y=>∃i j,x=i*a+j*c/\y=i*b+j*d
 |.over p q,x,y=>p.Lat x y/\q.Lat x y
 |.sh _ _ p,x,y=>p.Lat x y
 |.mir p,x,y=>p.Lat (-x) y
 |.tur p,x,y=>p.Lat y (-x)
 |.hue _ _ p,x,y=>p.Lat x y
def Leaf.by_lat(l:Leaf)(b0 b1 b2 b3 b4 b5 x y:Int):(l.by b0 b1 b2 b3 b4 b5).Lat x y↔∃u v,l.Lat u v/\x=b0*u+b2*v/\y=b1*u+b3*v:=by
 have e0:(l.by b0 b1 b2 b3 b4 b5).o0=b0*l.o0+b2*l.o1:=by simp only[Leaf.o0,Leaf.o1,Leaf.by];grind
 have e1:(l.by b0 b1 b2 b3 b4 b5).o1=b1*l.o0+b3*l.o1:=by simp only[Leaf.o0,Leaf.o1,Leaf.by];grind
 have e2:(l.by b0 b1 b2 b3 b4 b5).t0=b0*l.t0+b2*l.t1:=by simp only[Leaf.t0,Leaf.t1,Leaf.by];grind
 have e3:(l.by b0 b1 b2 b3 b4 b5).t1=b1*l.t0+b3*l.t1:=by simp only[Leaf.t0,Leaf.t1,Leaf.by];grind
 unfold Leaf.Lat;rw[e0,e1,e2,e3];generalize l.o0=o0;generalize l.o1=o1;generalize l.t0=t0;generalize l.t1=t1;constructor
 .rintro⟨i,j,rfl,rfl⟩;exact#[_,_,#[i,j,rfl,rfl],KE,KE]
 .rintro⟨_,_,⟨i,j,rfl,rfl⟩,rfl,rfl⟩;exact#[i,j,KE,KE]
def Leaf.dye_lat(l:Leaf)(f g x y:Int):(l.dye f g).Lat x y↔l.Lat x y:=Iff.rfl
def Bt(a b:List Leaf)(x y:Int):bM (a++b) x y↔bM a x y/\bM b x y:=by
 constructor
 .intro h;exact#[λl q=>h l (GN _ q),λl q=>h l (F7 _ q)]
 .rintro⟨h1,h2⟩ l q;rcases Ga.mp q with q|q
  .exact h1 l q
  .exact h2 l q
def latAll_map{f:Leaf->Leaf}(hf:∀l:Leaf,(f l).Lat x y↔l.Lat u v)(ls:List Leaf):bM (ls.map f) x y↔bM ls u v:=by
 constructor
 .intro h l q;exact(hf l).mp (h _ (Gd.mpr #[l,q,rfl]))
 .intro h l q;obtain⟨l',q',rfl⟩:=Gd.mp q;exact(hf l').mpr (h l' q')
def tP(l:Leaf)(e f x y:Int):(l.by 1 0 0 1 e f).Lat x y↔l.Lat x y:=by
 rw[Leaf.by_lat];constructor
 .rintro⟨u,v,h,e1,e2⟩;have e1:x=u:=by lia
  have e2:y=v:=JM
  rw[e1,e2];exact h
 .intro h;exact#[x,y,h,JM,JM]
def Pat.lat_leaves:∀(p:Pat) (x y:Int),bM p.leaves x y↔p.Lat x y
 | .mot L a b c d,x,y=>by
  have e0:(bu L a b c d).o0=a:=by simp[Leaf.o0,bu]
  have e1:(bu L a b c d).o1=b:=by simp[Leaf.o1,bu]
  have e2:(bu L a b c d).t0=c:=by simp[Leaf.t0,bu]
  have e3:(bu L a b c d).t1=d:=by simp[Leaf.t1,bu]
  have e:(bu L a b c d).Lat x y↔(Pat.mot L a b c d).Lat x y:=by
   unfold Leaf.Lat;rw[e0,e1,e2,e3];exact Iff.rfl
  rw[<-e];constructor
  .intro h;exact h _ FO
  .intro h l q;rw[FJ.mp q];exact h
 |.over p q,x,y=>by rw[Pat.leaves,Bt,Pat.lat_leaves p,Pat.lat_leaves q,Pat.Lat]
 |.sh a b p,x,y=>by rw[Pat.leaves,latAll_map (λl=>tP l _ _ x y),Pat.lat_leaves p,Pat.Lat]
 | .mir p,x,y=>by
  have e:∀l:Leaf,(l.by (-1) 0 0 1 0 0).Lat x y↔l.Lat (-x) y:=λl=>by
   rw[Leaf.by_lat];constructor
   .rintro⟨u,v,h,e1,e2⟩;have e1:-x=u:=by lia
    have e2:y=v:=JM
    rw[e1,e2];exact h
   .intro h;exact#[-x,y,h,JM,JM]
  rw[Pat.leaves,latAll_map e,Pat.lat_leaves p,Pat.Lat]
 | .tur p,x,y=>by
  have e:∀l:Leaf,(l.by 0 1 (-1) 0 0 0).Lat x y↔l.Lat y (-x):=λl=>by
   rw[Leaf.by_lat];constructor
   .rintro⟨u,v,h,e1,e2⟩;have e1:-x=v:=by lia
    have e2:y=u:=JM
    rw[e1,e2];exact h
   .intro h;exact#[y,-x,h,JM,JM]
  rw[Pat.leaves,latAll_map e,Pat.lat_leaves p,Pat.Lat]
 |.hue f g p,x,y=>by
  rw[Pat.leaves,latAll_map (λl=>(Leaf.dye_lat _ f g x y).trans (tP l _ _ x y)),Pat.lat_leaves p,Pat.Lat]
structure Pat.Fam(p:Pat)(w h s:Int):Prop where
 f:Fam0 w h s
 lat:∀x y,InF w h s x y↔p.Lat x y
def Pat.Fam.uniq(a:p.Fam w h s)(b:p.Fam w' h' s'):w=w'/\h=h'/\s=s':=
 InF.uniq a.f.w0 a.f.h0 a.f.s0 a.f.sw b.f.w0 b.f.h0 b.f.s0 b.f.sw λx y=>(a.lat x y).trans (b.lat x y).symm
def Pat.Fam.mot(k:FamOf a b c d w h s):(Pat.mot L a b c d).Fam w h s:=#[#[k.1,k.2.1,k.2.2.1,k.2.2.2.1],k.lat]
def Pat.Fam.sh(a b:Int)(k:p.Fam w h s):(Pat.sh a b p).Fam w h s:=#[k.f,k.lat]
def Pat.Fam.hue(a b:Int)(k:p.Fam w h s):(Pat.hue a b p).Fam w h s:=#[k.f,k.lat]
def Pat.Fam.mir(k:p.Fam w h s):(Pat.mir p).Fam w h (-s%w):=by
 refine#[#[k.f.w0,k.f.h0,cJ k.f.w0,cK k.f.w0],λx y=>?_];show _↔p.Lat (-x) y;rw[<-k.lat];have e:=GJ (-s) w;generalize -s%w=r at e;generalize -s/w=t at e;constructor
 .rintro⟨i,j,rfl,rfl⟩;exact#[j*t-i,j,by rw[e];grind,rfl]
 .rintro⟨i,j,ex,rfl⟩;exact#[j*t-i,j,by rw[e];grind,rfl]
def Pat.Fam.tur(k:p.Fam w h s)(f:FamOf 0 w (-h) s w' h' s'):(Pat.tur p).Fam w' h' s':=by
 refine#[#[f.1,f.2.1,f.2.2.1,f.2.2.2.1],λx y=>?_];show _↔p.Lat y (-x);rw[<-k.lat,f.lat];constructor
 .rintro⟨i,j,rfl,rfl⟩;exact#[i,j,KE,KE]
 .rintro⟨i,j,ex,ey⟩;exact#[i,j,KE,KE]
def Pat.Fam.over{q:Pat}(k1:p.Fam w1 h1 s1)(k2:q.Fam w2 h2 s2)(M:MetR w1 h1 s1 w2 h2 s2 w h s A):(Pat.over p q).Fam w h s:=by
 refine#[#[M.w0,M.h0,M.s0,M.sw],λx y=>?_];rw[M.lat,k1.lat,k2.lat];exact Iff.rfl
def kN(hw:0<w)(hh:0<h):∃w' h' s',FamOf 0 w (-h) s w' h' s'/\w'*h'=w*h:=by
 have hp:0<w*h:=FZ hw hh;have hn:¬0*s=w* -h:=by rw[Ht];lia
 obtain⟨p0,p1,q0,hL⟩:=eO s.natAbs 0 w (-h) s (FK _);have f:=fS hn hL;refine#[_,_,_,f,?_];have Mu:=FZ f.1 f.2.1;have c:=f.cells;rw[Ht]at c;lia
def tQ(hn:¬a*d=b*c):∃w h s,FamOf a b c d w h s/\(Pat.mot L a b c d).Fam w h s:=by
 obtain⟨p0,p1,q0,hL⟩:=eO d.natAbs a b c d (FK _);have f:=fS hn hL;exact#[_,_,_,f,.mot f]
def Pat.fam_ex:∀{p:Pat},p.Wf->∃w h s,p.Fam w h s
 |.mot L a b c d,h=>by
  obtain⟨w,k,s,_,f⟩:=tQ (L:=L) h.2.2.2.2.2;exact#[w,k,s,f]
 |.over p q,h=>by
  obtain⟨w1,h1,s1,f1⟩:=Pat.fam_ex h.1;obtain⟨w2,h2,s2,f2⟩:=Pat.fam_ex h.2;obtain⟨w,k,s,f,e⟩:=tN f1.f f2.f;refine#[w,k,s,f,λx y=>?_];rw[e,f1.lat,f2.lat];exact Iff.rfl
 |.sh a b p,h=>by
  obtain⟨w,k,s,f⟩:=Pat.fam_ex h.2.2;exact#[w,k,s,f.sh a b]
 |.mir p,h=>by
  obtain⟨w,k,s,f⟩:=Pat.fam_ex (p:=p) h;exact#[w,k,_,f.mir]
 |.tur p,h=>by
  obtain⟨w,k,s,f⟩:=Pat.fam_ex (p:=p) h;obtain⟨w',k',s',f',_⟩:=kN (s:=s) f.f.w0 f.f.h0;exact#[w',k',s',f.tur f']
 |.hue a b p,h=>by
  obtain⟨w,k,s,f⟩:=Pat.fam_ex h.2.2;exact#[w,k,s,f.hue a b]
def Pat.Fits(p:Pat):Prop:=∃w h s,p.Fam w h s/\w*h<=720
def Pat.fits_mot(ha:B12 a)(hb:B12 b)(hc:B12 c)(hd:B12 d)(hn:¬a*d=b*c):(Pat.mot L a b c d).Fits:=by
 obtain⟨w,h,s,k,f⟩:=tQ (L:=L) hn;refine#[w,h,s,f,?_];have kc:=k.cells;unfold B12 at*;have m1:=bJ (a:=a) (d:=d) (A:=12) (B:=12) JM JM;have m2:=bJ (a:=b) (d:=c) (A:=12) (B:=12) JM JM;lia
def Pat.Fits.sh(a b:Int)(k:p.Fits):(Pat.sh a b p).Fits:=by
 obtain⟨w,h,s,f,q⟩:=k;exact#[w,h,s,f.sh a b,q]
def Pat.Fits.hue(a b:Int)(k:p.Fits):(Pat.hue a b p).Fits:=by
 obtain⟨w,h,s,f,q⟩:=k;exact#[w,h,s,f.hue a b,q]
def Pat.Fits.mir(k:p.Fits):(Pat.mir p).Fits:=by
 obtain⟨w,h,s,f,q⟩:=k;exact#[w,h,_,f.mir,q]
def Pat.Fits.tur(k:p.Fits):(Pat.tur p).Fits:=by
 obtain⟨w,h,s,f,q⟩:=k;obtain⟨w',k',s',f',e⟩:=kN (s:=s) f.f.w0 f.f.h0;exact#[w',k',s',f.tur f',JM]
def Bu(hL:Rows L)(ha:B12 a)(hb:B12 b)(hc:B12 c)(hd:B12 d):(cX L a b c d).length<=100:=by
 have la:=bB ha;have lb:=bB hb;have lc:=bB hc;have ld:=bB hd;have l1:(";":A_).length=1:=rfl;have l2:(",":A_).length=1:=rfl;have l3:("[":A_).length=1:=rfl;have l4:("]":A_).length=1:=rfl;have ls:=tE hL;have lj:=StrLaws.join_length_le "/" L;have lg:(Txt.join "/" L).length<=72:=by
  have e:Txt.join "/" L=Str.join "/" L:=StrLaws.glued_eq_join _ _;rw[e];exact FQ lj ls
 unfold cX
 repeat rw[aI]
 lia
def Pat.text_len:∀{p:Pat},p.Wf->p.text.length+10<=110*2^p.depth
 |.mot L a b c d,h=>by
  have:=Bu h.1 h.2.1 h.2.2.1 h.2.2.2.1 h.2.2.2.2.1;show(cX L a b c d).length+10<=110*2^0;lia
 |.over p q,h=>by
  have h1:=Pat.text_len h.1;have h2:=Pat.text_len h.2;have m1:2^p.depth<=2^(max p.depth q.depth):=GZ JQ (ID _ _);have m2:2^q.depth<=2^(max p.depth q.depth):=GZ JQ (IE _ _);have l1:("(":A_).length=1:=rfl;have l2:("|":A_).length=1:=rfl;have l3:(")":A_).length=1:=rfl;rw[Pat.text,Pat.depth,IF]
  repeat rw[aI]
  lia
 |.sh a b p,h=>by
  have h1:=Pat.text_len h.2.2;have la:=bB h.1;have lb:=bB h.2.1;have l1:("s":A_).length=1:=rfl;have l2:(",":A_).length=1:=rfl;have l3:(":":A_).length=1:=rfl;have:0<2^p.depth:=Hu JQ;rw[Pat.text,Pat.depth,GB]
  repeat rw[aI]
  lia
 |.mir p,h=>by
  have h1:=Pat.text_len (p:=p) h;have l1:("m":A_).length=1:=rfl;have:0<2^p.depth:=Hu JQ;rw[Pat.text,Pat.depth,GB,aI];lia
 |.tur p,h=>by
  have h1:=Pat.text_len (p:=p) h;have l1:("t":A_).length=1:=rfl;have:0<2^p.depth:=Hu JQ;rw[Pat.text,Pat.depth,GB,aI];lia
 |.hue f g p,h=>by
  have h1:=Pat.text_len h.2.2;have la:=eN h.1;have lb:=eN h.2.1;have l1:("h":A_).length=1:=rfl;have:0<2^p.depth:=Hu JQ;rw[Pat.text,Pat.depth,GB]
  repeat rw[aI]
  lia
def Pat.leaves_pos:∀p:Pat,0<p.leaves.length
 |.mot ..=>Nat.zero_lt_one
 |.over p q=>by rw[Pat.leaves,FV];have:=p.leaves_pos;lia
 |.sh _ _ p=>by rw[Pat.leaves,FP];exact p.leaves_pos
 |.mir p=>by rw[Pat.leaves,FP];exact p.leaves_pos
 |.tur p=>by rw[Pat.leaves,FP];exact p.leaves_pos
 |.hue _ _ p=>by rw[Pat.leaves,FP];exact p.leaves_pos
def Pat.text_short(h:p.Wf)(hd:p.depth<=5):p.text.length<=3510:=by
 have h1:=Pat.text_len h;have h2:2^p.depth<=2^5:=GZ JQ hd;lia
structure Pat.Ok(p:Pat):Prop where
 wf:p.Wf
 deep:p.depth<=5
 fits:p.Fits
def Wraps.of{H:Prop}(h:p.Ok)(hR:∀q:Pat,q.Ok->R q.D):Wraps p H R:=by
 refine#[λ_=>hR p h,λhd=>#[hR _ #[h.wf,?_,h.fits.mir],hR _ #[h.wf,?_,h.fits.tur],λa b ha hb=>hR _ #[#[ha,hb,h.wf],?_,h.fits.sh a b],λ_ f g hf hg=>hR _ #[#[hf,hg,h.wf],?_,h.fits.hue f g]]]<;>(simp only[Pat.depth];lia)
def Bv:SpD:=λds R=>∃p q:Pat,ds=[p.D,q.D]/\p.Wf/\q.Wf/\p.depth<=5/\q.depth<=5/\R p.D/\(p.depth<5->q.depth<5->(Pat.over p q).Fits->R (Pat.over p q).D)
def Bw:SpD:=λds R=>∃(ns:List Int) (k:Int),ds=[.rol (ns.map D.int),.int k]/\0<=k/\∀p:Pat,p.Ok->R p.D
end My
end
section
open PySem PySem.Spec PyProof.Rows L2
namespace My
def By:TMS:=λ_ _ _=>False
def gY{X:Cx}[Jm]{st:Q6}:MSt X st By:=⟨ps_never.anti λE s H q=>by
 obtain⟨F0,F,z,M,k,rs,ED,h,e⟩:=q;exact h.elim⟩
end My
end
section
namespace My
open PySem PySem.Spec PyProof.Rows L2
abbrev isSg(c:Nat):Bool:=c==46||(49<=c&&c<=54)
def numL(a:Int):List Nat:=cs (toString a:String)
variable{a:Int}
def tR(h:B12 a){P:Int->Prop}(hP:∀k:Fin 25,P (((k.val:Nat):Int)-12)):P a:=by
 unfold B12 at h;have:=hP #[(a+12).toNat,JM];have e:(((a+12).toNat:Nat):Int)-12=a:=JM
 rw[e]at this;exact this
def isNumL(l:List Nat):Prop:=(∃c,(48<=c/\c<=57)/\l=[c])\/(∃c,(48<=c/\c<=50)/\l=[49,c])\/(∃c,(49<=c/\c<=57)/\l=[45,c])\/∃c,(48<=c/\c<=50)/\l=[45,49,c]
def numL_is(h:B12 a):isNumL (numL a):=by
 have key:∀k:Fin 25,(numL (((k.val:Nat):Int)-12))∈([[45,49,50],[45,49,49],[45,49,48],[45,57],[45,56],[45,55],[45,54],[45,53],[45,52],[45,51],[45,50],[45,49],[48],[49],[50],[51],[52],[53],[54],[55],[56],[57],[49,48],[49,49],[49,50]]:List (List Nat)):=JT
 have h1:=tR (P:=λa=>numL a∈([[45,49,50],[45,49,49],[45,49,48],[45,57],[45,56],[45,55],[45,54],[45,53],[45,52],[45,51],[45,50],[45,49],[48],[49],[50],[51],[52],[53],[54],[55],[56],[57],[49,48],[49,49],[49,50]]:List (List Nat))) h key;revert h1;generalize numL a=l;intro h1;unfold isNumL;simp only[FL,G8,or_false]at h1;rcases h1 with e|e|e|e|e|e|e|e|e|e|e|e|e|e|e|e|e|e|e|e|e|e|e|e|e<;>subst e
 all_goals first
  |exact .inl ⟨_,JQ,rfl⟩
  |exact .inr (.inl ⟨_,JQ,rfl⟩)
  |exact .inr (.inr (.inl ⟨_,JQ,rfl⟩))
  |exact .inr (.inr (.inr ⟨_,JQ,rfl⟩))
def endS(c:Nat):Prop:=c=44\/c=59\/c=58\/c=93
def rowsL:List (List Nat)->List Nat
 |[]=>[]
 |[x]=>x
 |x::y::r=>x++47::rowsL (y::r)
variable{c:Nat}
def Bz(h:bb c):isSg c=true:=by
 unfold bb at h;unfold isSg;rcases h with h|h
 .subst h;rfl
 .have:(decide (49<=c)&&decide (c<=54))=true:=by simp[h]
  rw[this,Hn]
def motL(L:List (List Nat))(a b c d:Int):List Nat:=91::(rowsL L++59::(numL a++44::(numL b++59::(numL c++44::(numL d++[93])))))
def Pat.tl:Pat->List Nat
 |.mot L a b c d=>motL (L.map cs) a b c d
 |.over p q=>40::(p.tl++124::(q.tl++[41]))
 |.sh a b p=>115::(numL a++44::(numL b++58::p.tl))
 |.mir p=>109::p.tl
 |.tur p=>116::p.tl
 |.hue f g p=>104::(numL f++(numL g++p.tl))
def tS:∀L:List A_,cs (Str.join "/" L)=rowsL (L.map cs)
 |[]=>rfl
 |[x]=>rfl
 |x::y::L=>by
  show cs (x++"/"++Str.join "/" (y::L))=cs x++47::rowsL ((y::L).map cs);rw[bK,bK,tS (y::L),GC];rfl
def cZ:∀p:Pat,cs p.text=p.tl
 |.mot L a b c d=>by
  show cs (cX L a b c d)=motL (L.map cs) a b c d;unfold cX motL;have e:Txt.join "/" L=Str.join "/" L:=StrLaws.glued_eq_join _ _;rw[e]
  repeat rw[bK]
  rw[tS];simp only[GC];rfl
 |.over p q=>by
  rw[Pat.text,Pat.tl]
  repeat rw[bK]
  rw[cZ p,cZ q];simp only[GC];rfl
 |.sh a b p=>by
  rw[Pat.text,Pat.tl]
  repeat rw[bK]
  rw[cZ p];simp only[GC];rfl
 |.mir p=>by
  rw[Pat.text,Pat.tl,bK,cZ p];rfl
 |.tur p=>by
  rw[Pat.text,Pat.tl,bK,cZ p];rfl
 |.hue f g p=>by
  rw[Pat.text,Pat.tl]
  repeat rw[bK]
  rw[cZ p];simp only[GC];rfl
def hueL{f:Int}(h:1<=f/\f<=6):numL f=[(48+f).toNat]:=by
 have key:∀k:Fin 6,numL (((k.val:Nat):Int)+1)=[49+k.val]:=JT
 have:=key #[(f-1).toNat,JM];have e:(((f-1).toNat:Nat):Int)+1=f:=JM
 rw[e]at this;rw[this];congr 1;show 49+(f-1).toNat=(48+f).toNat;lia
def rowsT(L:List (List Nat)):List Nat:=L.flatMap λy=>47::y
def tT:∀(x:List Nat) (L:List (List Nat)),rowsL (x::L)=x++rowsT L
 |x,[]=>by simp[rowsL,rowsT]
 |x,y::L=>by
  rw[rowsL,tT y L];simp[rowsT]
def gZ{x y:A_}(h:cs x=cs y):x=y:=by
 obtain⟨a⟩:=x;obtain⟨b⟩:=y;have:a=b:=IK.mp h;rw[this]
variable{x:Int}
def numS(h:B12 x):numL x=[48]\/∃pre c y,(pre=[]\/pre=[45])/\(49<=c/\c<=57)/\numL x=pre++c::y/\(y=[]\/(c=49/\∃d,(48<=d/\d<=50)/\y=[d])):=by
 rcases numL_is h with⟨c,hc,e⟩|⟨c,hc,e⟩|⟨c,hc,e⟩|⟨c,hc,e⟩
 .by_cases z:c=48
  .exact .inl (by rw[e,z])
  .exact .inr #[[],c,[],.inl rfl,JM,e,.inl rfl]
 .exact .inr #[[],49,[c],.inl rfl,JQ,e,.inr #[rfl,c,hc,rfl]]
 .exact .inr #[[45],c,[],.inr rfl,hc,e,.inl rfl]
 .exact .inr #[[45],49,[c],.inr rfl,JQ,e,.inr #[rfl,c,hc,rfl]]
variable{A B:Prop}
def ifT{c:Prop}[Decidable c](h:c)(a:A):if c then A else B:=by rw[if_pos h];exact a
def ifdT{p:Prop}[Decidable p](h:p)(a:A):if decide p=true then A else B:=by rw[if_pos (decide_eq_true h)];exact a
def ifdF{p:Prop}[Decidable p](h:¬p)(b:B):if decide p=true then A else B:=by rw[if_neg (by simpa using h)];exact b
def rdF(t:A_)(k:Nat):List (A_×D):=[("text",.str t),("place",.int k)]
def RdM(a:KF)(t:A_)(k:Nat):MS:=[(a,.ins "Reading" (rdF t k))]
variable{o:MO}
def dM{a:KF}:mget [(a,o)] a=be o:=by unfold mget;rw[if_pos rfl]
def hU{a:KF}{o':MO}:mput [(a,o)] a o'=[(a,o')]:=by unfold mput;rw[if_pos rfl]
variable{t:A_}{k:Nat}
def aU{a:KF}:mget (RdM a t k) a=be (.ins "Reading" (rdF t k)):=dM
def kO:(rdF t k).lookup ("text":A_)=be (.str t):=rfl
def eU:(rdF t k).lookup ("place":A_)=be (.int k):=by
 unfold rdF;rw[FY,show(("place":A_)==("text":A_))=false by decide+kernel];rfl
def BA:putD ("place":A_) (.int ((k:Int)+1)) (rdF t k)=rdF t (k+1):=by
 unfold rdF putD;rw[if_neg JT];unfold putD;rw[if_pos rfl];rfl
def db:(rdF t k).lookup ("may_take":A_)=none:=by
 unfold rdF;rw[FY,show(("may_take":A_)==("text":A_))=false by decide+kernel,FY,show(("may_take":A_)==("place":A_))=false by decide+kernel];rfl
def cb:(rdF t k).lookup ("take":A_)=none:=by
 unfold rdF;rw[FY,show(("take":A_)==("text":A_))=false by decide+kernel,FY,show(("take":A_)==("place":A_))=false by decide+kernel];rfl
structure At(t:Str)(k:Nat)(l:List Nat):Prop where
 eq:(cs t).drop k=l
 le:k<=t.length
 sz:t.length<=100000
def At.nil(h:At t k []):k=t.length:=by
 have h1:=congrArg Hx h.eq;rw[GQ,bx]at h1;have:=h.le;simp at h1;lia
variable{l:List Nat}
def At.lt(h:At t k (c::l)):k<t.length:=by
 have h1:=congrArg Hx h.eq;rw[GQ,bx]at h1;simp at h1;lia
def At.get(h:At t k (c::l)):(cs t)[k]?=be c:=by
 have h1:=congrArg (·[0]?) h.eq;simpa using h1
def At.next(h:At t k (c::l)):At t (k+1) l:=by
 refine#[?_,h.lt,h.sz];have h1:=congrArg (G6 1) h.eq;rw[List.drop_drop]at h1;simpa using h1
def At.app{t:A_}:∀{x l:List Nat} {k:Nat},At t k (x++l)->At t (k+x.length) l
 |[],_,_,h=>h
 |c::x,l,k,h=>by
  have h1:At t (k+1+x.length) l:=At.app (At.next h);have e:k+1+x.length=k+(c::x).length:=by rw[FW];lia
  rw[e]at h1;exact h1
variable{al:A_}
def tU:(!(!(Builtin.Str.occurrences al #[[c].toArray] 0 al.length 1).isEmpty))=!decide (c∈cs al):=by
 rw[StrLaws.found_one]
def mayS(al:A_):List Nat->A_|c::_=>if c∈cs al then#[[c].toArray]else ""|[]=>""
def mayN(al:A_):List Nat->Nat|c::_=>if c∈cs al then 1 else 0|[]=>0
def eV(h:c∈cs al):mayS al (c::l)=#[[c].toArray]:=if_pos h
def eX(h:c∈cs al):mayN al (c::l)=1:=if_pos h
def dN(h:c∉cs al):mayS al (c::l)="":=if_neg h
def dO(h:c∉cs al):mayN al (c::l)=0:=if_neg h
def BB:SiD:=λds R=>∃t:A_,ds=[.str t]/\R (rdF t 0)
def BC:SpM:=λds M R RX=>∃(a:KF) (t:A_) (k:Nat) (l:List Nat) (al:A_),ds=[.ptr a,.str al]/\M=RdM a t k/\At t k l/\R (.str (mayS al l)) (RdM a t (k+mayN al l))
def BD:SpM:=λds M R _=>∃(a:KF) (t:A_) (k c:Nat) (l:List Nat) (al:A_),ds=[.ptr a,.str al]/\M=RdM a t k/\At t k (c::l)/\c∈cs al/\R (.str #[[c].toArray]) (RdM a t (k+1))
def BE(h:B12 x):PySem.intText? #[(numL x).toArray]=be x:=
 tR (P:=λx=>PySem.intText? #[(numL x).toArray]=be x) h JT
def fU(x y:List Nat):((#[x.toArray]:A_)++#[y.toArray]:A_)=#[(x++y).toArray]:=by
 apply gZ;rw[bK]
def digits19:c∈cs "123456789"↔49<=c/\c<=57:=by
 refine#[λh=>?_,λ⟨h1,h2⟩=>?_]
 .exact(show ∀c∈cs "123456789",49<=c/\c<=57 by decide+kernel) c h
 .obtain⟨k,rfl⟩:=Nat.le.dest h1;exact(show ∀k,k<9->49+k∈cs "123456789" by decide+kernel) k JM
def digits02:c∈cs "012"↔48<=c/\c<=50:=by
 have e:cs "012"=[48,49,50]:=rfl;rw[e];simp;lia
def BF(w:List Nat)(c:Nat):Txt.endswith #[(w++[c]).toArray] "1"=decide (c=49):=by
 unfold Txt.endswith;have e1:("1":A_).length=1:=rfl;have e2:(#[(w++[c]).toArray]:A_).length=w.length+1:=by simp[Str.length]
 rw[e1,e2];have e3:decide (0+1<=w.length+1)=true:=JU
 rw[e3,Bool.true_and,IJ];unfold Builtin.Str.subAt;have e4:(#[(w++[c]).toArray]:A_).cps.extract w.length (w.length+("1":A_).length)=[c].toArray:=by
  apply IK.mp;simp[Array.toList_extract,e1]
 rw[e4];have e5:("1":A_).cps=[49].toArray:=rfl;rw[e5];by_cases h:c=49
 .subst h;rfl
 .simp[h]
def BG:SpM:=λds M R _=>∃(a:KF) (t:A_) (k:Nat) (x:Int) (e:Nat) (l:List Nat),ds=[.ptr a]/\M=RdM a t k/\B12 x/\endS e/\At t k (numL x++e::l)/\R (.int x) (RdM a t (k+(numL x).length))
def BH:SpM:=λds M R _=>∃(a:KF) (t:A_) (k:Nat) (x y:Int) (e:Nat) (l:List Nat),ds=[.ptr a]/\M=RdM a t k/\B12 x/\B12 y/\endS e/\At t k (numL x++44::(numL y++e::l))/\R (.tup [.int x,.int y]) (RdM a t (k+(numL x).length+1+(numL y).length))
def signs_is:c∈cs ".123456"↔isSg c=true:=by
 have e:cs ".123456"=[46,49,50,51,52,53,54]:=rfl;rw[e];simp;lia
def eY(x:List Nat):(#[x.toArray]:A_).length=x.length:=by simp[Str.length]
def tV(h:isSg c=false):c∉cs ".123456":=λz=>by rw[signs_is.mp z]at h;cases h
def S_line_from:SpM:=λds M R _=>∃(a:KF) (t:A_) (k n m:Nat) (x l:List Nat),ds=[.ptr a,.int n,.int m]/\M=RdM a t k/\At t k (x++l)/\(∀c∈x,bb c)/\n<=x.length/\x.length<=m/\m<=8/\(x.length=m\/∃c l',l=c::l'/\isSg c=false)/\R (.str #[x.toArray]) (RdM a t (k+x.length))
def BI{p a:KF}(h:p≠a):mget ((p,o)::RdM a t k) a=be (.ins "Reading" (rdF t k)):=by
 unfold mget;rw[if_neg h];exact dM
variable{M:MS}
def cL{p:KF}:mget ((p,o)::M) p=be o:=by unfold mget;rw[if_pos rfl]
def tW{p:KF}{o':MO}:mput ((p,o)::M) p o'=(p,o')::M:=by unfold mput;rw[if_pos rfl]
def kP{p:KF}:mdel ((p,o)::M) p=M:=by unfold mdel;rw[if_pos rfl]
structure RowsL(L:List (List Nat))(w:Nat):Prop where
 many:1<=L.length/\L.length<=8
 w1:1<=w
 w8:w<=8
 each:∀x∈L,x.length=w/\∀c∈x,bb c
def lstD(L:List (List Nat)):List D:=L.map λx=>D.str #[x.toArray]
def BJ:SpM:=λds M R _=>∃(a:KF) (t:A_) (k:Nat) (L:List (List Nat)) (w:Nat) (l:List Nat),ds=[.ptr a]/\M=RdM a t k/\RowsL L w/\At t k (rowsL L++59::l)/\R (.lst (lstD L)) (RdM a t (k+(rowsL L).length))
def hmX(w h s:Int)(i j:Int):Int:=(i-j/h*s)%w
def hRow(w h s:Int)(j:Nat):Nat->List Nat->List ((Int×Int)×Int)->List ((Int×Int)×Int)
 |_,[],kv=>kv
 |i,c::r,kv=>hRow w h s j (i+1) r (if c=46 then kv else sdD kv (hmX w h s i j) ((j:Int)%h) ((c:Int)-48))
def hAll(w h s:Int):Nat->List (List Nat)->List ((Int×Int)×Int)->List ((Int×Int)×Int)
 |_,[],kv=>kv
 |j,x::r,kv=>hAll w h s (j+1) r (hRow w h s j 0 x kv)
def tX(kv:List ((Int×Int)×Int))(x y v:Int):(sdD kv x y v).length<=kv.length+1:=by
 unfold sdD;split
 .lia
 .rw[FV];simp
def BK(h:49<=c/\c<=54):∃i b7,Builtin.Str.occurrences ".123456" #[[c].toArray] 0 (".123456":A_).length 1=i::b7/\((i:Nat):Int)=(c:Int)-48:=by
 rcases(JM:c=49\/c=50\/c=51\/c=52\/c=53\/c=54)with e|e|e|e|e|e<;>subst e
 .exact#[1,[],JT,JQ]
 .exact#[2,[],JT,JQ]
 .exact#[3,[],JT,JQ]
 .exact#[4,[],JT,JQ]
 .exact#[5,[],JT,JQ]
 .exact#[6,[],JT,JQ]
def BL{x:List Nat}(h:∀c∈x,bb c):(#[x.toArray]:A_).cps.all (·<128)=true:=by
 rw[<-HE,Gy];intro c hc;have:=h c hc;unfold bb at this;simp;lia
def BM{L:List (List Nat)}{j:Nat}{d:D}(h:(lstD L)[j]?=be d):∃x,L[j]?=be x/\d=.str #[x.toArray]:=by
 unfold lstD at h;rw[FS]at h;cases e:L[j]? with
 |none=>rw[e]at h;cases h
 |some x=>rw[e]at h;cases h;exact#[x,rfl,rfl]
variable{i:Nat}
def BN{x:List Nat}{d:D}(h:(bG #[x.toArray])[i]?=be d):∃c,x[i]?=be c/\d=.str #[[c].toArray]:=by
 unfold bG at h;rw[FS]at h;cases e:x[i]? with
 |none=>simp[e]at h
 |some c=>simp[e]at h;exact#[c,rfl,h.symm]
def tY{α:Type}{l:List α}{x:α}(h:l[i]?=be x):l.drop i=x::l.drop (i+1):=by
 have hi:i<l.length:=(FU.mp h).1;rw[GM hi];congr 1;rw[F8 hi]at h;exact Option.some.inj h
def BO:SpM:=λds M R RX=>∃(L:List (List Nat)) (wd:Nat) (w h s:Int),ds=[.lst (lstD L),.tup [.int w,.int h,.int s]]/\RowsL L wd/\0<w/\0<h/\h<1073741824/\0<=s/\s<1073741824/\R (.dti (hAll w h s 0 L [])) M
def moF(k:Nat)(sh:D)(hu:List ((Int×Int)×Int)):List (A_×D):=[("place",.int k),("shifts",sh),("hues",.dti hu)]
def BP:SiD:=λds R=>∃(k:Nat) (L:List (List Nat)) (wd:Nat) (a b c d:Int),ds=[.int k,.lst (lstD L),.tup [.int a,.int b],.tup [.int c,.int d]]/\RowsL L wd/\B12 a/\B12 b/\B12 c/\B12 d/\¬a*d=b*c/\
 ∀w h s,FamOf a b c d w h s->R (moF k (.tup [.int w,.int h,.int s]) (hAll w h s 0 L []))
variable{v:My.D}
def BQ:putD ("place":A_) v []=([("place",v)]:List (A_×D)):=rfl
variable{u:My.D}
def BR:putD ("shifts":A_) v [("place",u)]=([("place",u),("shifts",v)]:List (A_×D)):=by
 unfold putD;rw[if_neg JT];rfl
def BS{t:D}:putD ("hues":A_) v [("place",t),("shifts",u)]=([("place",t),("shifts",u),("hues",v)]:List (A_×D)):=by
 unfold putD;rw[if_neg JT];unfold putD;rw[if_neg JT];rfl
def tZ:([("place",u),("shifts",v)]:List (A_×D)).lookup ("shifts":A_)=be v:=by
 rw[FY,show(("shifts":A_)==("place":A_))=false by decide+kernel];rfl
def BT:SiD:=λds R=>∃(x y:A_) (fs gs:List (A_×D)),ds=[.obj x fs,.obj y gs]/\R [("above",.obj x fs),("below",.obj y gs)]
def BU:SiD:=λds R=>∃(x:A_) (fs:List (A_×D)) (a b:Int),ds=[.obj x fs,.int a,.int b]/\R [("form",.obj x fs),("x",.int a),("y",.int b)]
def BV:SiD:=λds R=>∃(x:A_) (fs:List (A_×D)),ds=[.obj x fs]/\R [("form",.obj x fs)]
def BW:SiD:=λds R=>∃(x:A_) (fs:List (A_×D)),ds=[.obj x fs]/\R [("form",.obj x fs)]
def BX:SiD:=λds R=>∃(x:A_) (fs:List (A_×D)) (a b:Int),ds=[.obj x fs,.int a,.int b]/\R [("form",.obj x fs),("old",.int a),("new",.int b)]
def FormOf:Pat->D->Prop
 |.mot L a b c d,v=>∃(k:Nat) (w h s:Int),v=.obj "Motif" (moF k (.tup [.int w,.int h,.int s]) (hAll w h s 0 (L.map cs) []))/\FamOf a b c d w h s
 |.over p q,v=>∃u u',v=.obj "Over" [("above",u),("below",u')]/\FormOf p u/\FormOf q u'
 |.sh a b p,v=>∃u,v=.obj "Shifted" [("form",u),("x",.int a),("y",.int b)]/\FormOf p u
 |.mir p,v=>∃u,v=.obj "Mirror" [("form",u)]/\FormOf p u
 |.tur p,v=>∃u,v=.obj "Turn" [("form",u)]/\FormOf p u
 |.hue f g p,v=>∃u,v=.obj "Rehue" [("form",u),("old",.int f),("new",.int g)]/\FormOf p u
def Pat.cls:Pat->A_
 |.mot ..=>"Motif"|.over ..=>"Over"|.sh ..=>"Shifted"|.mir ..=>"Mirror"|.tur ..=>"Turn"|.hue ..=>"Rehue"
variable{f g:A_}{r:List (A_×My.D)}
def bN(h:(f==g)=false)(hr:r.lookup f=r_):(((g,v)::r:List (A_×D))).lookup f=none:=by
 rw[FY,h];exact hr
structure ObjM(p:Pat)(fs:List (Str×D)):Prop where
 nl:noLF fs=true
 fam:fs.lookup ("family":A_)=r_
 shw:fs.lookup ("shows":A_)=r_
variable{p:Pat}
def FormOf.objm:∀{v:D},FormOf p v->∃fs,v=.obj p.cls fs/\ObjM p fs:=by
 have n1 {g:A_} {u:D} {f:A_} (h:(f==g)=false):([(g,u)]:List (A_×D)).lookup f=none:=bN h rfl;have nn {fs:List (A_×D)} {x:A_} (h:noLF fs=true):noL (.obj x fs)=true:=by simp[noL,h]
 induction p with
 |mot L a b c d=>
  rintro _⟨k,w,h,s,rfl,_⟩;exact#[_,rfl,by simp[noL,noLF,noLs,moF],bN JT (bN JT (n1 JT)),bN JT (bN JT (n1 JT))]
 |over p q i j=>
  rintro _⟨u,u',rfl,h1,h2⟩;obtain⟨fs,rfl,o1⟩:=i h1;obtain⟨gs,rfl,o2⟩:=j h2;exact#[_,rfl,by simp[noLF,nn o1.nl,nn o2.nl],bN JT (n1 JT),bN JT (n1 JT)]
 |sh a b p i=>
  rintro _⟨u,rfl,h1⟩;obtain⟨fs,rfl,o1⟩:=i h1;exact#[_,rfl,by simp[noL,noLF,o1.nl],bN JT (bN JT (n1 JT)),bN JT (bN JT (n1 JT))]
 |mir p i=>
  rintro _⟨u,rfl,h1⟩;obtain⟨fs,rfl,o1⟩:=i h1;exact#[_,rfl,by simp[noLF,nn o1.nl],n1 JT,n1 JT]
 |tur p i=>
  rintro _⟨u,rfl,h1⟩;obtain⟨fs,rfl,o1⟩:=i h1;exact#[_,rfl,by simp[noLF,nn o1.nl],n1 JT,n1 JT]
 |hue f g p i=>
  rintro _⟨u,rfl,h1⟩;obtain⟨fs,rfl,o1⟩:=i h1;exact#[_,rfl,by simp[noL,noLF,o1.nl],bN JT (bN JT (n1 JT)),bN JT (bN JT (n1 JT))]
variable{L:List A_}
def BY(h:Rows L):∃w,RowsL (L.map cs) w:=by
 obtain⟨h1,w,h2,h3⟩:=h;refine#[w,by rw[FP];exact h1,h2.1,h2.2,λx hx=>?_];obtain⟨l,hl,rfl⟩:=Gd.mp hx;rw[bx];exact h3 l hl
def ub{f:Int}(h:1<=f/\f<=6):(48+f).toNat∈cs "123456":=by
 have e:cs "123456"=[49,50,51,52,53,54]:=rfl;rw[e];simp;lia
def BZ:SpM:=λds M R _=>∃(g:KF) (t:A_) (k:Nat) (L:List A_) (a b c d:Int) (l:List Nat),ds=[.ptr g]/\M=RdM g t k/\At t k (motL (L.map cs) a b c d++l)/\(Pat.mot L a b c d).Wf/\∀v,FormOf (.mot L a b c d) v->R v (RdM g t (k+(motL (L.map cs) a b c d).length))
def df(j:Nat):SpM:=λds M R _=>∃(a:KF) (t:A_) (k:Nat) (p:Pat) (l:List Nat) (d:Nat),ds=[.ptr a,.int d]/\M=RdM a t k/\At t k (p.tl++l)/\d+j=6/\1<=j/\p.Wf/\p.depth+d<=5/\∀v,FormOf p v->R v (RdM a t (k+p.tl.length))
variable{ds:List My.D}{R:My.D->MS->Prop}{RX:XDM}
def B0:¬df 0 ds M R RX:=by
 rintro⟨_,_,_,_,_,_,_,_,_,_,h,_⟩;exact absurd h JQ
def uc(j:Nat):SpM:=λds M R _=>∃(a:KF) (t:A_) (k:Nat) (p q:Pat) (l:List Nat) (d:Nat),ds=[.ptr a,.int d]/\M=RdM a t k/\At t k (p.tl++124::(q.tl++41::l))/\d+j=6/\1<=j/\p.Wf/\q.Wf/\p.depth+d<=5/\q.depth+d<=5/\∀u u',FormOf p u->FormOf q u'->R (.obj "Over" [("above",u),("below",u')]) (RdM a t (k+p.tl.length+1+q.tl.length+1))
def ud(j:Nat):SpM:=λds M R _=>∃(a:KF) (t:A_) (k:Nat) (x y:Int) (p:Pat) (l:List Nat) (d:Nat),ds=[.ptr a,.int d]/\M=RdM a t k/\At t k (numL x++44::(numL y++58::(p.tl++l)))/\d+j=6/\1<=j/\B12 x/\B12 y/\p.Wf/\p.depth+d<=5/\∀u,FormOf p u->R (.obj "Shifted" [("form",u),("x",.int x),("y",.int y)]) (RdM a t (k+(numL x).length+1+(numL y).length+1+p.tl.length))
def ue(j:Nat):SpM:=λds M R _=>∃(a:KF) (t:A_) (k:Nat) (f g:Int) (p:Pat) (l:List Nat) (d:Nat),ds=[.ptr a,.int d]/\M=RdM a t k/\At t k ((48+f).toNat::(48+g).toNat::(p.tl++l))/\d+j=6/\1<=j/\(1<=f/\f<=6)/\(1<=g/\g<=6)/\p.Wf/\p.depth+d<=5/\∀u,FormOf p u->R (.obj "Rehue" [("form",u),("old",.int f),("new",.int g)]) (RdM a t (k+2+p.tl.length))
def Pat.cls_mem(p:Pat):p.cls∈(["Motif","Over","Shifted","Mirror","Turn","Rehue"]:List A_):=by
 cases p<;>simp[Pat.cls]
variable{hu:List ((Int×Int)×Int)}
def mo_shifts{sh:D}:(moF k sh hu).lookup ("shifts":A_)=be sh:=by
 unfold moF;rw[FY,show(("shifts":A_)==("place":A_))=false by decide+kernel];rfl
def B1{sh:D}:(moF k sh hu).lookup ("hues":A_)=be (.dti hu):=by
 unfold moF;rw[FY,show(("hues":A_)==("place":A_))=false by decide+kernel,FY,show(("hues":A_)==("shifts":A_))=false by decide+kernel];rfl
def eZ(h:(g==f)=false):(((f,u)::(g,v)::r:List (A_×D))).lookup g=be v:=by
 rw[FY,h,FY,beq_self_eq_true]
def kQ{e:A_}{t:D}(h1:(g==e)=false)(h2:(g==f)=false):(((e,t)::(f,u)::(g,v)::r:List (A_×D))).lookup g=be v:=by
 rw[FY,h1];exact eZ h2
variable{w s:Int}
def Pat.Fits.small(h:p.Fits){k:Int}(f:p.Fam w k s):0<w/\w<=720/\0<k/\k<=720/\0<=s/\s<w:=by
 obtain⟨w',k',s',f',hb⟩:=h;obtain⟨rfl,rfl,rfl⟩:=f.uniq f';obtain⟨h1,h2⟩:=cV f.f.w0 f.f.h0;exact#[f.f.w0,JM,f.f.h0,JM,f.f.s0,f.f.sw]
def Pat.Fits.over_parts{q:Pat}(hp:p.Wf)(hq:q.Wf)(h:(Pat.over p q).Fits):p.Fits/\q.Fits:=by
 obtain⟨w,k,s,f,hb⟩:=h;obtain⟨w1,k1,s1,f1⟩:=Pat.fam_ex hp;obtain⟨w2,k2,s2,f2⟩:=Pat.fam_ex hq;have l1:=(InF.le f1.f.w0 f1.f.h0 f.f.w0 f.f.h0 (λx y z=>(f1.lat x y).mpr ((f.lat x y).mp z).1)).1;have l2:=(InF.le f2.f.w0 f2.f.h0 f.f.w0 f.f.h0 (λx y z=>(f2.lat x y).mpr ((f.lat x y).mp z).2)).1;exact#[#[w1,k1,s1,f1,JM],#[w2,k2,s2,f2,JM]]
variable{b:Int}
def Pat.Fits.of_sh(h:(Pat.sh a b p).Fits):p.Fits:=by
 obtain⟨w,k,s,f,hb⟩:=h;exact#[w,k,s,#[f.f,f.lat],hb]
def Pat.Fits.of_hue(h:(Pat.hue a b p).Fits):p.Fits:=by
 obtain⟨w,k,s,f,hb⟩:=h;exact#[w,k,s,#[f.f,f.lat],hb]
def Pat.Fits.of_mir(hp:p.Wf)(h:(Pat.mir p).Fits):p.Fits:=by
 obtain⟨w,k,s,f,hb⟩:=h;obtain⟨w1,k1,s1,f1⟩:=Pat.fam_ex hp;obtain⟨rfl,rfl,_⟩:=f.uniq f1.mir;exact#[_,_,_,f1,hb]
def Pat.Fits.of_tur(hp:p.Wf)(h:(Pat.tur p).Fits):p.Fits:=by
 obtain⟨w,k,s,f,hb⟩:=h;obtain⟨w1,k1,s1,f1⟩:=Pat.fam_ex hp;obtain⟨w',k',s',f',e⟩:=kN (s:=s1) f1.f.w0 f1.f.h0;obtain⟨rfl,rfl,_⟩:=f.uniq (f1.tur f');exact#[_,_,_,f1,JM]
def bR(j:Nat)(x:A_):SpX:=λds R _=>∃(p:Pat) (v:D),ds=[v]/\FormOf p v/\p.Wf/\p.depth<j/\p.cls=x/\p.Fits/\∀w h s,p.Fam w h s->R (.tup [.int w,.int h,.int s])
def fb{x:A_}:¬ofX (bR 0 x) ds M R RX:=by
 rintro⟨_,_,_,_,_,h,_⟩;exact absurd h (IL _)
def lookD_app(x y v X Y:Int):∀kv:List ((Int×Int)×Int),lookD (kv++[((x,y),v)]) X Y=match lookD kv X Y with|some u=>be u|none=>if x=X/\y=Y then be v else r_
 |[]=>rfl
 |((a,b),h)::r=>by
  show lookD (((a,b),h)::(r++[((x,y),v)])) X Y=_;unfold lookD;by_cases e:a=X/\b=Y
  .rw[if_pos e,if_pos e]
  .rw[if_neg e,if_neg e];exact lookD_app x y v X Y r
def B2(kv:List ((Int×Int)×Int))(x y v X Y:Int):lookD (sdD kv x y v) X Y=match lookD kv X Y with|some u=>be u|none=>if x=X/\y=Y then be v else none:=by
 unfold sdD;split
 .rename_i hs;cases e:lookD kv X Y with
  |some u=>rfl
  |none=>
   show r_=_;rw[if_neg];rintro⟨rfl,rfl⟩;rw[e]at hs;cases hs
 .exact lookD_app x y v X Y kv
def look_row(w h s:Int)(j:Nat)(X Y:Int):∀(x:List Nat) (i:Nat) (kv:List ((Int×Int)×Int)),lookD (hRow w h s j i x kv) X Y=match lookD kv X Y with|some u=>be u|none=>(scanRow (λi=>decide (hmX w h s i j=X/\(j:Int)%h=Y)) i x).map λc=>(c:Int)-48
 |[],i,kv=>by
  rw[hRow,scanRow];cases lookD kv X Y<;>rfl
 |c::r,i,kv=>by
  rw[hRow,look_row w h s j X Y r (i+1),scanRow];by_cases t6:c=46
  .rw[if_pos t6,if_neg (c:=c≠46/\_) (λz=>z.1 t6)]
  .rw[if_neg t6,B2];cases lookD kv X Y with
   |some u=>rfl
   |none=>
    by_cases e:hmX w h s i j=X/\(j:Int)%h=Y
    .rw[if_pos (c:=c≠46/\_) #[t6,decide_eq_true e]];show(match (if hmX w h s i j=X/\(j:Int)%h=Y then be ((c:Int)-48)else r_)with|some u=>be u|none=>_)=_;rw[if_pos e];rfl
    .rw[if_neg (c:=c≠46/\_) (λz=>e (of_decide_eq_true z.2))];show(match (if hmX w h s i j=X/\(j:Int)%h=Y then be ((c:Int)-48)else r_)with|some u=>be u|none=>_)=_;rw[if_neg e]
def uf(w h s X Y:Int):∀(L:List A_) (j:Nat) (kv:List ((Int×Int)×Int)),lookD (hAll w h s j (L.map cs) kv) X Y=match lookD kv X Y with|some u=>be u|none=>(bL (λi j=>decide (hmX w h s i j=X/\j%h=Y)) j L).map λc=>(c:Int)-48
 |[],j,kv=>by
  rw[GR,hAll,bL];cases lookD kv X Y<;>rfl
 |x::r,j,kv=>by
  rw[Gc,hAll,uf w h s X Y r (j+1),look_row,bL];cases lookD kv X Y with
  |some u=>rfl
  |none=>
   show(match (scanRow (λi=>decide (hmX w h s i j=X/\(j:Int)%h=Y)) 0 (cs x)).map (λc=>(c:Int)-48)with|some u=>be u|none=>_)=_;cases scanRow (λi=>decide (hmX w h s i j=X/\(j:Int)%h=Y)) 0 (cs x)<;>rfl
variable{h:Int}
def B3{c d:Int}(F:FamOf a b c d w h s)(hn:¬a*d=b*c)(x y i j:Int):decide (hmX w h s i j=hmX w h s x y/\j%h=y%h)=onB a b c d (x-i) (y-j):=by
 have hw:=F.1;have hh:=F.2.1;have key:(hmX w h s i j=hmX w h s x y/\j%h=y%h)↔InF w h s (x-i) (y-j):=by
  unfold hmX;constructor
  .rintro⟨e1,e2⟩;have dy:=G0 y h;have dj:=G0 j h;have m1:=G0 (x-y/h*s) w;have m2:=G0 (i-j/h*s) w;refine#[(x-y/h*s)/w-(i-j/h*s)/w,y/h-j/h,?_,?_]
   .rw[HP,HP,Ge ((x-y/h*s)/w) w,Ge ((i-j/h*s)/w) w];lia
   .rw[HP,Ge (y/h) h,Ge (j/h) h];lia
  .rintro⟨m,q,ex,ey⟩;have PX:y=j+q*h:=by lia
   have NY:x=i+(m*w+q*s):=JM
   subst NY PX;rw[IM,IN _ _ JM];refine#[?_,rfl];have e:i+(m*w+q*s)-(j/h+q)*s=i-j/h*s+m*w:=by rw[HQ];lia
   rw[e,IM]
 unfold onB;congr 1;apply propext;rw[key,F.lat];constructor
 .rintro⟨m,q,eu,ev⟩;exact sW eu ev
 .exact λz=>tL hn z
def B4(h:49<=c/\c<=54):cell [0,1,2,3,4,5,6] ((c:Int)-48)=(c:Int)-48:=by
 rcases(JM:c=49\/c=50\/c=51\/c=52\/c=53\/c=54)with e|e|e|e|e|e<;>subst e<;>rfl
def motif_shows{c d:Int}(hL:Rows L)(F:FamOf a b c d w h s)(hn:¬a*d=b*c)(x y:Int):(lookD (hAll w h s 0 (L.map cs) []) (hmX w h s x y) (y%h)).getD 0=(bu L a b c d).shows x y:=by
 rw[uf];show((bL (λi j=>decide (hmX w h s i j=hmX w h s x y/\j%h=y%h)) 0 L).map λc=>(c:Int)-48).getD 0=_;have e:(λi j=>decide (hmX w h s i j=hmX w h s x y/\j%h=y%h))=λi j=>onB a b c d (1*x+0*y+0-i) (0*x+1*y+0-j):=by
  funext i j;rw[B3 F hn];congr 1<;>lia
 rw[e];show _=match bL (λi j=>onB a b c d (1*x+0*y+0-i) (0*x+1*y+0-j)) 0 L with|some c=>cell [0,1,2,3,4,5,6] ((c:Int)-48)|none=>0
 cases q:bL (λi j=>onB a b c d (1*x+0*y+0-i) (0*x+1*y+0-j)) 0 L with
 |none=>rfl
 |some c=>
  have hc:49<=c/\c<=54:=kL (λl' q=>let ⟨_,_,_,h⟩:=hL;(h l' q).2) q;exact(B4 hc).symm
def bS(j:Nat)(x:A_):SpX:=λds R _=>∃(p:Pat) (v:D) (X Y:Int),ds=[v,.int X,.int Y]/\FormOf p v/\p.Wf/\p.depth<j/\p.cls=x/\R (.int (p.show X Y))
def fc{x:A_}:¬ofX (bS 0 x) ds M R RX:=by
 rintro⟨_,_,_,_,_,_,_,h,_⟩;exact absurd h (IL _)
structure PatOf(p:Pat)(w h s:Int)(fs:List (Str×D)):Prop extends Pat.Fam p w h s where
 form:∃v,fs.lookup ("form":A_)=be v/\FormOf p v
 nl:noLF fs=true
def cn(p:Pat)(d:D):Prop:=∃w h s fs,d=.obj "Pattern" fs/\fs.lookup ("text":A_)=be (.str p.text)/\fs.lookup ("shifts":A_)=be (.tup [.int w,.int h,.int s])/\PatOf p w h s fs
def bp(x:Int):Prop:=-1000000000000<=x/\x<=1000000000000
def Pat.show_le(h:p.Wf)(hd:p.depth<=40)(x y:Int):0<=p.show x y/\p.show x y<=6:=by
 rw[<-Pat.show_leaves h hd];exact tF x y (Pat.leaf_ok h hd)
def aX(h:Int):Nat:=if h=0 then 46 else(48+h).toNat
def aK(p:Pat)(x y:Int)(n:Nat):Str:=#[((FN n).map λ(k:Nat)=>aX (p.show (x+(k:Int)) y)).toArray]
def hV(p:Pat)(x y:Int)(n:Nat):(aK p x y n).length=n:=by simp[aK,Str.length]
def uh(h0:0<=h)(h6:h<=6):atI (cs ".123456") h=be (aX h):=by
 rcases(JM:h=0\/h=1\/h=2\/h=3\/h=4\/h=5\/h=6)with e|e|e|e|e|e|e<;>subst e<;>decide+kernel
def range2_int{i j:Int}{x:D}(h:((FN (j-i).toNat).map λk=>D.int (i+((k:Nat):Int)))[k]?=be x):k<(j-i).toNat/\x=.int (i+(k:Int)):=by
 have hk:k<(j-i).toNat:=by simpa using(FU.mp h).1
 refine#[hk,?_];simp[hk]at h;exact h.symm
def ui:∀L:List A_,cs (Str.join "" L)=L.flatMap cs
 |[]=>rfl
 |[x]=>by simp[Str.join]
 |x::y::r=>by
  show cs (x++""++Str.join "" (y::r))=_;rw[bK,bK,ui (y::r),tz];simp
def B5(f:Nat->Nat)(n:Nat):Str.join "" ((FN n).map λi=>(#[[f i].toArray]:A_))=#[((FN n).map f).toArray]:=by
 apply gZ;rw[ui,List.flatMap_map];show(FN n).flatMap (λi=>[f i])=(FN n).map f;rw[List.map_eq_flatMap]
def B6:SiD:=λds R=>∃(t:A_) (w h s:Int) (x:A_) (fs:List (A_×D)),ds=[.str t,.tup [.int w,.int h,.int s],.obj x fs]/\R [("text",.str t),("shifts",.tup [.int w,.int h,.int s]),("form",.obj x fs)]
def uj:SpX:=λds R _=>∃p:Pat,ds=[.str p.text]/\p.Ok/\∀d,cn p d->R d
def B7{R:D->Prop}{RX:XD}(ok:p.Ok)(h:∀d,cn p d->R d):uj [.str p.text] R RX:=#[p,rfl,ok,h]
def B8:SpX:=λds R RX=>∃x y:Int,ds=[.int x,.int y]/\(bp x/\bp y->R .non)/\(¬(bp x/\bp y)->RX "TooFar" [])
def B9:SpX:=λds R RX=>∃(p:Pat) (d:D) (x y:Int),ds=[d,.int x,.int y]/\cn p d/\p.Ok/\(bp x/\bp y->R (.int (p.show x y)))/\(¬(bp x/\bp y)->RX "TooFar" [])
def Ca:SpD:=λds R=>∃(p:Pat) (d:D) (x y:Int) (n:Nat),ds=[d,.int x,.int y,.int n]/\cn p d/\p.Ok/\n<=1000/\bp x/\bp (x+n-1)/\bp y/\R (.str (aK p x y n))
def rowD(p:Pat)(x y:Int)(n:Nat):List D:=(FN n).map λ(i:Nat)=>D.str #[[aX (p.show (x+(i:Int)) y)].toArray]
def uk(p:Pat)(x y:Int)(k:Nat):rowD p x y k++[D.str #[[aX (p.show (x+(k:Int)) y)].toArray]]=rowD p x y (k+1):=by
 unfold rowD;rw[G4,Gh];rfl
variable{n:Nat}
def ul(p:Pat)(x y:Int)(hn:n<=1000):∃ys,cI (rowD p x y n)=be ys/\(ys.map (·.length)).sum+ys.length*("":A_).length<=1000000/\Txt.join "" ys=aK p x y n:=by
 have e1:rowD p x y n=((FN n).map λ(i:Nat)=>(#[[aX (p.show (x+(i:Int)) y)].toArray]:A_)).map D.str:=by unfold rowD;rw[G7];rfl
 rw[e1];refine#[_,kK _,?_,(StrLaws.glued_eq_join _ _).trans (B5 (λi=>aX (p.show (x+(i:Int)) y)) n)];rw[tD (w:=1) (λl hl=>by obtain⟨i,_,rfl⟩:=Gd.mp hl;rfl),FP,HR,show("":A_).length=0 from rfl];lia
def Cb{n:Int}:x.fmod n=0↔n∣x:=#[Int.dvd_of_fmod_eq_zero,HH]
def Cd(a b c d u v i j:Int):onB a b c d (u+(i*a+j*c)) (v+(i*b+j*d))=onB a b c d u v:=by
 unfold onB;have e1:(u+(i*a+j*c))*d-(v+(i*b+j*d))*c=(u*d-v*c)+(a*d-b*c)*i:=KE
 have e2:a*(v+(i*b+j*d))-b*(u+(i*a+j*c))=(a*v-b*u)+(a*d-b*c)*j:=KE
 rw[e1,e2];simp only[Cb];have h1:(a*d-b*c∣u*d-v*c+(a*d-b*c)*i)↔a*d-b*c∣u*d-v*c:=IP (IQ _ _);have h2:(a*d-b*c∣a*v-b*u+(a*d-b*c)*j)↔a*d-b*c∣a*v-b*u:=IP (IQ _ _);simp only[h1,h2]
def Pat.Keeps(p:Pat)(X Y:Int):Prop:=∀x y,p.show (x+X) (y+Y)=p.show x y
def Pat.lat_keeps:∀{p:Pat} {X Y:Int},p.Lat X Y->p.Keeps X Y
 | .mot L a b c d,_,_,⟨i,j,rfl,rfl⟩,x,y=>by
  have e:∀u v:Int,onB a b c d (1*(x+(i*a+j*c))+0*(y+(i*b+j*d))+0-u) (0*(x+(i*a+j*c))+1*(y+(i*b+j*d))+0-v)=onB a b c d (1*x+0*y+0-u) (0*x+1*y+0-v):=λu v=>by
   rw[<-Cd a b c d (1*x+0*y+0-u) (0*x+1*y+0-v) i j];congr 1<;>lia
  show Leaf.shows _ _ _=Leaf.shows _ _ _;unfold Leaf.shows Leaf.hit;simp only[bu,e]
 |.over p q,X,Y,h,x,y=>by
  simp only[Pat.show];rw[Pat.lat_keeps h.1 x y,Pat.lat_keeps h.2 x y]
 |.sh a b p,X,Y,h,x,y=>by
  have:=Pat.lat_keeps (p:=p) h (x-a) (y-b);simp only[Pat.show];rw[<-this];congr 1<;>lia
 |.mir p,X,Y,h,x,y=>by
  have:=Pat.lat_keeps (p:=p) h (-x) y;simp only[Pat.show];rw[<-this];congr 1;lia
 |.tur p,X,Y,h,x,y=>by
  have:=Pat.lat_keeps (p:=p) h y (-x);simp only[Pat.show];rw[<-this];congr 1;lia
 |.hue f g p,X,Y,h,x,y=>by
  simp only[Pat.show];rw[Pat.lat_keeps (p:=p) h x y]
def InF.one(w h s:Int):InF w h s w 0:=#[1,0,JM,JM]
def Pat.Fam.keeps{y:Int}(f:p.Fam w h s)(q:InF w h s x y):p.Keeps x y:=Pat.lat_keeps ((f.lat x y).mp q)
def Ce(hw:0<w)(hh:0<h)(x y:Int):InF w h s (x-hmX w h s x y) (y-y%h):=by
 have e1:=GJ y h;have e2:=GJ (x-y/h*s) w;refine#[(x-y/h*s)/w,y/h,?_,by rw[e1,Ge];lia];unfold hmX;rw[e2,Ge w];lia
def Pat.show_home(hw:0<w)(hh:0<h)(k:∀x y,InF w h s x y->p.Keeps x y)(x y:Int):p.show (hmX w h s x y) (y%h)=p.show x y:=by
 have:=k _ _ (Ce (s:=s) hw hh x y) (hmX w h s x y) (y%h);rw[<-this];congr 1<;>lia
def Cf(f:Nat->Nat){w:Nat}(h:c<w):((FN w).map f).drop c++((FN w).map f).take c=(FN w).map λk=>f ((c+k)%w):=by
 apply GI;intro i;by_cases h1:i<w-c
 .rw[Gv (by simp;exact h1),HS,FS,FS,Gq JM,Gq JM];simp[IR (show c+i<w by lia)]
 .rw[GH Oa];simp only[GQ,FP,HR];by_cases h2:i<w
  .rw[Hk JM,FS,FS,Gq JM,Gq JM];have e:(c+i)%w=i-(w-c):=by
    rw[show c+i=(i-(w-c))+w by lia,Nat.add_mod_right,IR JM]
   simp[e]
  .rw[Gk Oa,Gk Oa]
def fV(l:List Nat):cs (#[l.toArray]:A_)=l:=JU
def Cg{c:Int}(ht:cs t=l)(c0:0<=c)(cl:c<l.length):Txt.slice t (be c) r_++Txt.slice t r_ (be c)=(#[(l.drop c.toNat++l.take c.toNat).toArray]:A_):=by
 have hl:t.length=l.length:=by rw[<-ht,bx]
 apply gZ;rw[bK,slice_cps,slice_cps,fV,fV,fV,show t.cps.toList=l from ht,hl];have e1:HT.sIx l.length 0 (be c)=c.toNat:=by show(if c<0 then _ else min c.toNat l.length)=_;rw[if_neg JM];lia
 have e2:HT.sIx l.length l.length r_=l.length:=rfl;have e3:HT.sIx l.length 0 r_=0:=rfl;have e4:HT.sIx l.length l.length (be c)=c.toNat:=by show(if c<0 then _ else min c.toNat l.length)=_;rw[if_neg JM];lia
 rw[e1,e2,e3,e4,HU,GV JU];rfl
def dg(p:Pat)(x y:Int)(n:Nat):cs (aK p x y n)=(FN n).map λ(k:Nat)=>aX (p.show (x+(k:Int)) y):=fV _
def Ch(hw:0<w)(hh:0<h)(k:∀x y,InF w h s x y->p.Keeps x y)(x y:Int):
  Txt.slice (aK p 0 (y%h) w.toNat) (be (hmX w h s x y)) r_++Txt.slice (aK p 0 (y%h) w.toNat) r_ (be (hmX w h s x y))=aK p x y w.toNat:=by
 have c0:0<=hmX w h s x y:=Gz _ JM;have c1:hmX w h s x y<w:=GA _ hw;rw[Cg (dg p 0 (y%h) w.toNat) c0 Oa,Cf _ JM];unfold aK;congr 2;apply G5;intro i _;have e:=Pat.show_home hw hh k (x+(i:Int)) y;rw[<-e];congr 2;have q:hmX w h s (x+(i:Int)) y=(hmX w h s x y+i)%w:=by
  unfold hmX;rw[Int.emod_add_emod];congr 1;lia
 rw[q,G9,IS,Ha,Gm c0,Gm JM]
def fW(p:Pat)(w h:Int):D:=.lst ((FN h.toNat).map λ(y:Nat)=>D.str (aK p 0 (y:Int) w.toNat))
def Ci:SpD:=λds R=>∃(p:Pat) (d:D),ds=[d]/\cn p d/\p.Ok/\∀w h s,p.Fam w h s->w*h<=720->w<=720->h<=720->R (fW p w h)
def Cj:SpD:=λds R=>∃(p:Pat) (w h s x y:Int),ds=[.tup [.int w,.int h,.int s],fW p w h,.int x,.int y]/\p.Fam w h s/\w<=720/\h<=720/\R (.str (aK p x y w.toNat))
def Ck(a0:0<=a)(a6:a<=6)(b0:0<=b)(b6:b<=6)(e:aX a=aX b):a=b:=by
 unfold aX at e;split at e<;>split at e<;>lia
def sumN(g:Nat->Int):Nat->Int
 |0=>0
 |n+1=>sumN g n+g n
def dP{g f:Nat->Int}:∀{n:Nat},(∀k,k<n->g k=f k)->sumN g n=sumN f n
 |0,_=>rfl
 |n+1,h=>by rw[sumN,sumN,dP λk hk=>h k JM,h n JM]
def hZ(g:Nat->Int)(n:Nat):∀m:Nat,sumN g (n+m)=sumN g n+sumN (λk=>g (n+k)) m
 |0=>by simp[sumN]
 |m+1=>by rw[<-Nat.add_assoc,sumN,sumN,hZ g n m];lia
def um(g f:Nat->Int):∀n:Nat,sumN (λk=>g k+f k) n=sumN g n+sumN f n
 |0=>rfl
 |n+1=>by simp only[sumN,um g f n];lia
variable{N:Nat}
def Cl{g:Nat->Int}(hN:0<N)(Kc:∀k,g (k+N)=g k)(n:Nat):sumN (λj=>(((n:Int)-1-j)/N+1)*g j) (min n N)=sumN g n:=by
 induction n using Nat.strongRecOn with
 |ind n ih=>
  by_cases h:n<=N
  .rw[G1 h];refine dP λk hk=>?_;rw[IT JM JM];simp
  .have e1:n=N+(n-N):=by lia
   have i:=ih (n-N) JM;have MU:sumN (λk=>g (N+k)) (n-N)=sumN g (n-N):=dP λk _=>by rw[HM];exact Kc k
   rw[Hv JM];have e2:sumN g n=sumN g N+sumN g (n-N):=by
    conv=>lhs;rw[e1]
    rw[hZ,MU]
   rw[e2,<-i];have e3:min (n-N) N+(N-min (n-N) N)=N:=JM
   have split:∀f:Nat->Int,sumN f N=sumN f (min (n-N) N)+sumN (λk=>f (min (n-N) N+k)) (N-min (n-N) N):=λf=>by
    conv=>lhs;rw[<-e3]
    exact hZ _ _ _
   rw[split,split g];have a:sumN (λj=>(((n:Int)-1-j)/N+1)*g j) (min (n-N) N)=sumN g (min (n-N) N)+sumN (λj=>((((n-N:Nat):Int)-1-j)/N+1)*g j) (min (n-N) N):=by
    rw[<-um];refine dP λk hk=>?_;have q:((n:Int)-1-k)/N=(((n-N:Nat):Int)-1-k)/N+1:=by
     rw[show((n:Int)-1-k)=(((n-N:Nat):Int)-1-k)+1*N by lia,IN _ _ JM]
    rw[q,HQ];lia
   have b:sumN (λk=>(((n:Int)-1-((min (n-N) N+k:Nat):Int))/N+1)*g (min (n-N) N+k)) (N-min (n-N) N)=sumN (λk=>g (min (n-N) N+k)) (N-min (n-N) N):=by
    refine dP λk hk=>?_;rw[IT JM JM];simp
   rw[a,b];lia
def cntN(f:Nat->Int)(v:Int)(n:Nat):Int:=sumN (λk=>if f k=v then 1 else 0) n
def uo(f:Nat->Int)(v:Int):∀n,0<=cntN f v n/\cntN f v n<=n
 |0=>by simp[cntN,sumN]
 |n+1=>by
  have:=uo f v n;unfold cntN at this ⊢;rw[sumN];split<;>lia
def Cm{f:Nat->Int}{w:Nat}(hw:0<w)(Kc:∀k,f (k+w)=f k)(v:Int)(m:Nat):((m/w:Nat):Int)*cntN f v w+cntN f v (m%w)=cntN f v m:=by
 have key:∀q r:Nat,cntN f v (w*q+r)=(q:Int)*cntN f v w+cntN f v r:=λq=>by
  have sh:∀q k,f (w*q+k)=f k:=λq=>by
   induction q with
   |zero=>intro k;rw[Nat.mul_zero,IU]
   |succ q ih=>intro k;rw[IV,show w*q+w+k=w*q+k+w by lia,Kc];exact ih k
  induction q with
  |zero=>intro r;simp
  |succ q ih=>
   intro r;rw[IV,show w*q+w+r=w*q+(w+r)by lia,ih,Ha,HQ];have e:cntN f v (w+r)=cntN f v w+cntN f v r:=by
    unfold cntN;rw[hZ];congr 1;refine dP λk _=>?_;rw[HM w k,Kc]
   rw[e];simp;lia
 have:=key (m/w) (m%w);rw[Nat.div_add_mod]at this;exact this.symm
def ia(y:A_)(c:Nat):∀(m a:Nat) (st:Array Nat×Nat),a+m=y.length+1->st.2<=a->st.1.size<=a->(forIn (List.range' a m) st (StrLaws.occBody y #[[c].toArray] y.length (y.length+1))).run.fst.size=st.1.size+(((cs y).drop a).filter (·==c)).length
 |0,a,st,h,_,_=>by
  rw[HV (by rw[bx];lia)];rfl
 |m+1,a,st,h,h1,h2=>by
  have l1:(#[[c].toArray]:A_).length=1:=rfl;have q:=StrLaws.subAt_eq y #[[c].toArray] a;rw[List.range'_succ,HC];by_cases ha:a<y.length
  .have hd:(cs y).drop a=(cs y)[a]'(by rw[bx];exact ha)::(cs y).drop (a+1):=GM (by rw[bx];exact ha);rw[show y.cps.toList.drop a=_ from hd,l1]at q;rw[hd,List.filter_cons];by_cases e:(cs y)[a]'(by rw[bx];exact ha)=c
   .have eb:StrLaws.occBody y #[[c].toArray] y.length (y.length+1) a st=pure (.yield (st.1.push a,a+1)):=by
     unfold StrLaws.occBody;rw[if_pos #[#[#[JM,h1],by rw[l1];lia],by rw[q];simp[e]],l1]
    rw[eb];have:=ia y c m (a+1) (st.1.push a,a+1) JM (FK _) Oa;simp only[e,beq_self_eq_true,if_true,FW];refine Eq.trans this ?_;simp only[Array.size_push];lia
   .have eb:StrLaws.occBody y #[[c].toArray] y.length (y.length+1) a st=pure (.yield (st.1,st.2)):=by
     unfold StrLaws.occBody;rw[if_neg];rintro⟨_,z⟩;rw[q]at z;simp at z;exact e z
    rw[eb];have:=ia y c m (a+1) st JM JM JM;rw[if_neg (by simpa using e)];exact this
  .have eb:StrLaws.occBody y #[[c].toArray] y.length (y.length+1) a st=pure (.yield (st.1,st.2)):=by
    unfold StrLaws.occBody;rw[if_neg];rintro⟨⟨_,z⟩,_⟩;rw[l1]at z;lia
   rw[eb];have:=ia y c m (a+1) st JM JM JM;rw[HV (by rw[bx];lia)];rw[HV (by rw[bx];lia)]at this;exact this
def Cn(y:A_)(c:Nat):(Builtin.Str.occurrences y #[[c].toArray] 0 y.length (y.length+1)).length=((cs y).filter (·==c)).length:=by
 rw[StrLaws.occ_eq,Hg,ia y c _ 0 _ JM (FK _) (FK _)];simp
def uq(f:Nat->Int)(b:∀k,0<=f k/\f k<=6){v:Int}(v0:0<=v)(v6:v<=6):∀n:Nat,(((((FN n).map λk=>aX (f k)).filter (·==aX v)).length:Nat):Int)=cntN f v n
 |0=>rfl
 |n+1=>by
  rw[G4,Gh,List.filter_append,FV,Ha,uq f b v0 v6 n];show _=cntN f v n+_;congr 1;by_cases e:f n=v
  .simp[e]
  .have:¬aX (f n)=aX v:=λz=>e (Ck (b n).1 (b n).2 v0 v6 z);simp[this,e]
def Co(ok:p.Ok)(x y:Int){v:Int}(v0:0<=v)(v6:v<=6)(n:Nat):(((cs (aK p x y n)).filter (·==aX v)).length:Int)=cntN (λk=>p.show (x+k) y) v n:=by
 rw[dg];exact uq _ (λk=>Pat.show_le ok.wf (by have:=ok.deep;lia) _ _) v0 v6 n
def Cp(p:Pat)(x y:Int){r:Nat}(h:r<=n):Txt.slice (aK p x y n) r_ (be (r:Int))=aK p x y r:=by
 apply gZ;rw[slice_cps,fV,dg,show(aK p x y n).cps.toList=_ from dg p x y n,hV];have e1:HT.sIx n 0 r_=0:=rfl;have e2:HT.sIx n n (be (r:Int))=r:=by show(if(r:Int)<0 then((r:Int)+n).toNat else min (r:Int).toNat n)=r;rw[if_neg JM];lia
 rw[e1,e2,HU,IW,<-IY,IZ,G1 h]
def occC(t:A_)(c:Nat):Int:=((Builtin.Str.occurrences t #[[c].toArray] 0 t.length (t.length+1)).length:Nat)
def ut(ok:p.Ok)(x y:Int){v:Int}(v0:0<=v)(v6:v<=6)(n:Nat):occC (aK p x y n) (aX v)=cntN (λk=>p.show (x+k) y) v n:=by
 unfold occC;rw[Cn,Co ok x y v0 v6]
def cA(p:Pat)(v left top:Int)(m n:Nat):Int:=sumN (λj=>cntN (λk=>p.show (left+k) (top+j)) v m) n
def bO(p:Pat)(left top:Int)(m n:Nat):List Int:=(FN 7).map λ(v:Nat)=>cA p v left top m n
def Cq:SpD:=λds R=>∃(p:Pat) (x y v m:Int) (w:Nat),ds=[.str (aK p x y w),.str #[[aX v].toArray],.int m]/\p.Ok/\0<=v/\v<=6/\0<w/\w<=720/\0<=m/\m<2^63/\p.Keeps w 0/\R (.int (cntN (λk=>p.show (x+k) y) v m.toNat))
def Pat.Fam.across(F:p.Fam w h s):p.Keeps w 0:=F.keeps (InF.one w h s)
def Pat.Fam.down(F:p.Fam w h s):p.Keeps 0 (w*h):=F.keeps #[-s,w,by rw[HI,Ge w s];lia,rfl]
def Cr(hN:0<N)(k:p.Keeps 0 N)(v left top:Int)(m n:Nat):sumN (λj=>(((n:Int)-1-j)/N+1)*cntN (λk=>p.show (left+k) (top+j)) v m) (min n N)=cA p v left top m n:=by
 refine Cl (g:=λj=>cntN (λk=>p.show (left+k) (top+j)) v m) hN (λj=>?_) n;unfold cntN;refine dP λi _=>?_;have e:p.show (left+i) (top+((j+N:Nat):Int))=p.show (left+i) (top+j):=by
  have:=k (left+i) (top+j);rw[Hb]at this;rw[<-this,Ha,HW]
 simp only[e]
def uu{α:Type}(f g:Nat->α)(h:∀v,v<n->v≠i->g v=f v):((FN n).map f).set i (g i)=(FN n).map g:=by
 apply GI;intro k;rw[GT];by_cases hk:i=k
 .subst hk;simp only[if_true,FP,HR];by_cases hi:i<n
  .simp[hi]
  .simp[hi]
 .rw[if_neg hk];by_cases hi:k<n
  .simp[hi,h k hi (Ne.symm hk)]
  .simp[hi]
def Cs:bG ".123456"=(FN 7).map λ(v:Nat)=>D.str #[[aX (v:Int)].toArray]:=by
 unfold bG;rw[show(".123456":A_).cps.toList=[46,49,50,51,52,53,54]by decide+kernel];rfl
def bV(p:Pat)(left top:Int)(m n N k:Nat)(v:Int):Int:=sumN (λj=>(((n:Int)-1-j)/N+1)*cntN (λi=>p.show (left+i) (top+j)) v m) k
variable{top b8:Int}
def Ct{W:Int}(hn:(b8-top+1).toNat=n)(wN:W=(N:Int)):((if top+W<b8+1 then top+W else b8+1)-top).toNat=min n N:=by split<;>lia
def Cu{W:Int}(a:-1000000000000<=top/\top<=1000000000000)(c:-1000000000000<=b8/\b8<=1000000000000)(w0:0<W)(w1:W<=720):-(2^62)<=top/\top<2^62/\-(2^62)<=(if top+W<b8+1 then top+W else b8+1)/\(if top+W<b8+1 then top+W else b8+1)<2^62:=by split<;>lia
def Cw(hn:(b8-top+1).toNat=n)(hk:k<min n N):b8-(top+k)=(n:Int)-1-k:=JM
def uv{l r:Int}{m:Nat}(a:-1000000000000<=l/\l<=1000000000000)(b:-1000000000000<=r/\r<=1000000000000)(h:(r-l+1).toNat=m):m<=2000000000001:=JM
def Cy(x:Int):(if 0>x then 0 else x)=(x.toNat:Int):=by split<;>lia
def Cz:SpX:=λds R RX=>∃(p:Pat) (d:D) (left top right b8:Int),ds=[d,.int left,.int top,.int right,.int b8]/\cn p d/\p.Ok/\(bp left/\bp top/\bp right/\bp b8->R (.lst ((bO p left top (right-left+1).toNat (b8-top+1).toNat).map D.int)))/\(¬(bp left/\bp top/\bp right/\bp b8)->RX "TooFar" [])
end My
end
section
open PySem PySem.Spec PyProof.Rows L2
namespace My
open Exc
section
variable {X:Cx}[J:Jm]{a b c e:P3}{ta tb te:TME}{pos:Ri}
def mTru(te:TME):TMT:=λz M R=>te z M λd M1=>match d with|.bl k=>R k M1|_=>False
abbrev TMO:=SD->MS->(Option Int->MS->Prop)->Prop
def CA:TMO:=λ_ M R=>R r_ M
def CB(te:TME):TMO:=λz M R=>te z M λx M1=>match x with|.int i=>R (be i) M1|_=>False
def mO(K:Ex)[J:Jm](t:TMO):TO:=λs H Q=>∃F z M,Kept J.B J.F0 F H/\RepZ K J.B F H z s M/\∃R:Option Int->MS->Prop,t z M R/\∀o M' F' H',GrowM M M' F H F' H'->R o M'->RepM K F' H' M'->Q o H'
structure MPO(X:Cx)[Jm](e:Option P3)(t:TMO):Prop where
 out:PO X e (mO X.K t)
def uw:MPO X r_ CA:=⟨PO.anti jF λs H Q q=>by
 obtain⟨F,z,M,k,rs,R,h1,h2⟩:=q;exact h2 r_ M F H (GrowM.refl k.fh) h1 rs.rm⟩
def ux(he:ME X e te):MPO X (be e) (CB te):=⟨PO.anti (jG he.out) λs H Q q=>by
 obtain⟨F,z,M,k,rs,R,h1,h2⟩:=q;refine#[F,z,M,k,rs,_,h1,λx u M1 F1 H1 g1 hx rx m1=>?_];split at hx
 .exact#[_,rep_int.mp rx,h2 _ M1 F1 H1 g1 hx m1]
 .exact hx.elim⟩
end
def subM(N M:MS):Prop:=(∀e,e∈N->e∈M)/\(aj N).Nodup
variable{M:MS}
def subM.keys{N:MS}(s:subM N M){a:KF}(h:a∈aj N):a∈aj M:=by
 obtain⟨⟨b,o⟩,h1,rfl⟩:=Gd.mp h;exact bt (s.1 _ h1)
variable{F H:Hp}
def RepM.sub{K:Ex}{N:MS}(r:RepM K F H M)(s:subM N M):RepM K F H N:=#[s.2,λa o h=>r.ok a o (s.1 _ h),λa h=>r.fr a (s.keys h)]
def GrowM.sub{F' H':Hp}{N M':MS}(g:GrowM M M' F H F' H')(s:subM N M'):GrowM M N F H F' H':=#[g.ff,g.fh,g.hh,g.out,λb h=>g.ks b (s.keys h)]
def GrowM.sub0{F' H':Hp}{N M':MS}(g:GrowM N M' F H F' H')(s:subM N M):GrowM M M' F H F' H':=#[g.ff,g.fh,λb o h=>g.hh b o λz=>h (s.keys z),λb h=>g.out b λz=>h (s.keys z),λb h=>(g.ks b h).imp s.keys id]
def fX(S:SpM):SpM:=λds M R RX=>∃(R0:D->MS->Prop) (Je:XDM),S ds M R0 Je/\R=(λd M'=>∃N,subM N M'/\R0 d N)/\RX=λx fs M'=>∃N,subM N M'/\Je x fs N
def uy{K:Ex}{S:SpM}{vs:List V}{Q:VK}{E:XK}(h:lSpM K S vs H Q E):lSpM K (fX S) vs H Q E:=by
 obtain⟨F,ds,M,fh,rs,rm,R,RX,hS,q,qx⟩:=h;refine#[F,ds,M,fh,rs,rm,_,_,#[R,RX,hS,rfl,rfl],λd v M' F' H' g hd rd m'=>?_,λx fs C od M' F' H' g hR er m'=>?_]
 .obtain⟨N,s,hd⟩:=hd;exact q d v N F' H' (g.sub s) hd rd (m'.sub s)
 .obtain⟨N,s,hR⟩:=hR;exact qx x fs C od N F' H' (g.sub s) hR er (m'.sub s)
section
variable {P:Q5}{w:Q_}{K:Ex}{mg:A_->Option KB}{base:Rc}{n:Nat}{x m:A_}{ps:List A_}{S:SpM}
def CalMth.drop(C:CalMth P w K mg base n x m ps (lSpM K (fX S))):CalMth P w K mg base n x m ps (lSpM K S):=C.imp λ_ _ _ _ h=>uy h
end
def ib(P:Q5)(w:Q_)(K:Ex)(mg:A_->Option KB)(base:Rc)(n:Nat)(x m:A_)(ps:List A_)(dd:List D)(sp:Sp):Prop:=
 ∃C f fd f8 n6,nsIn K Pi x=be (be (.ref C))/\Cls K C/\Meth K C m f/\FnOk P w K mg base (CX1 P w) n f fd ps sp/\Binds K fd ps n6/\Vals f8 n6/\∀F,Reps K F dd f8
section
variable {X:Cx}{k:Nat}{f:KF}{fd:Rf}{ps:List A_}{sp:Sp}{E:XK}
def CC{pins:List (KF×Ro)}{σ:L2.St}{H:Hp}{s:KM}{Q:VK}{us n6:List KB}{vs f8:List V}(F:FnOk X.prog X.w X.K X.mg X.base (CX1 X.prog X.w) k f fd ps sp)(hr:Room k X.A)(hb:Binds X.K fd ps n6)(hd:Vals f8 n6)
  (hx:∀e s',CX1 X.prog X.w X.stack H s E e s'->X.xe e s') (I:Inv X pins σ H s) (r:Vals vs us) (h:sp (vs++f8) H Q E):Q7 (Q8 X.prog X.w) X.A (call (.ref f) us) (EP X pins σ Q) X.xe s:=by
 have r2:=r.append hd;have hl:(us++n6).length=ps.length:=by rw[<-L2.Vals.length r2];exact F.len _ _ _ _ h
 have i_:=hb s us I.kIn hl;refine Sk (RP (F.run X.A X.stack s H #[us,[]] (us++n6) (vs++f8) Q E hr I.env0 i_ r2 h) λr s' hq=>?_);cases r with
 |error e=>exact hx e s' hq
 |ok fl=>
  cases fl with
  |ret u=>exact I.after hq
  |next=>exact False.elim hq
  |brk=>exact False.elim hq
  |cont=>exact False.elim hq
end
section
variable {X:Cx}[J:Jm]{a b c e o:P3}{ta tb te:TME}{pos p b_ a_:Ri}{n m:Nat}{ps:List A_}{S:SpM}{x:A_}{es:List P3}{t:TMA}
def CD(x m:A_)(dd:List D)(S:SpM)(to:TME):TME:=λz M R=>to z M λd M1=>∃fs,cT M1 d x fs/\fs.lookup m=r_/\S (d::dd) M1 R λx fs M'=>J.RM z M' x fs
def CF{nm:A_}{dd:List D}{pl:SF Bool}(C:ib X.prog X.w X.K X.mg X.base n x nm ps dd (lSpM X.K S))(hx:XOkM X)(hr:Room m X.A)(ho:ME X o te)(f9:autoParam (X.ex=[]) zA0)(hn:autoParam (n<=m) zA1)
  (ht:Rg (.Call (.Attribute o nm b_) [] [] pos) X.env=(do
   let ov <-Rg o X.env
   RO b_.atName
   let (f,first) <-Ru [ov] (Sb ov nm pl)
   callWith pos f first (RZ pos (Re [] X.env)) (Sn pos (R6 [] X.env))):=by rfl):
  ME X (.Call (.Attribute o nm b_) [] [] pos) (CD x nm dd S te):=by
 refine#[λpins s σ H Q I h=>?_];obtain⟨Fr,z,M,k,rs,R,h1,h2⟩:=h;refine methodCall_KW (pl:=pl) (thn (ho.out pins s σ H (λv H1=>∃d M1 F1,GrowM M M1 Fr H F1 H1/\Rep X.K F1 d v/\RepM X.K F1 H1 M1/\∃fs,cT M1 d x fs/\fs.lookup nm=r_/\S (d::dd) M1 R λx fs M'=>J.RM z M' x fs) I #[Fr,z,M,k,rs,_,h1,λd v M1 F1 H1 g1 hd rd m1=>#[d,M1,F1,g1,rd,m1,hd]]) λu s1 hh=>?_) ht;obtain⟨v,H1,I1,rv,d,M1,F1,g1,rd,m1,fs,hi,hl,hq⟩:=hh;obtain⟨C',f,fd,f8,n6,hns,p8,Jw,F,hb,hd,PY⟩:=C;obtain⟨a,C2,dx,ws,rfl,l8,hH,rf⟩:=gS g1.fh m1 rd hi;rw[hns]at l8;cases l8;obtain rfl:u=Value.ref a:=rv;refine jE I1 hH p8 Jw (rf.none hl) ?_;refine callWith_K0 (first:=[.ref a]) I1.kIn Jw.kp (CC (E:=EX X z σ) (us:=[.ref a]) (vs:=[.ref a]) F (hr.mono hn) hb hd (λe s' hq=>hx.out f9 I1 hq) I1 (.cons rfl .nil) ?_);exact gT k rs g1 m1 (reps_cons.mpr #[_,_,rfl,rd,PY F1]) hq h2
def CG(ta tb:TME):TME:=λz M R=>ta z M λx M1=>tb z M1 λy M2=>kdP x λa=>kdP y λb=>∃ds es,mget M2 a=be (.lst ds)/\mget M2 b=be (.lst es)/\ds.length+es.length<=100000/\∀p,p∉aj M2->R (.ptr p) ((p,.lst (ds++es))::M2)
def CH(ha:ME X a ta)(hb:ME X b tb):ME X (.BinOp a .Add b pos) (CG ta tb):=⟨(jz qD ha.out hb.out).anti λs H Q h=>by
 obtain⟨F,z,M,k,rs,R,h1,h2⟩:=h;refine#[F,z,M,k,rs,_,h1,λx u M1 F1 H1 g1 hx rx m1=>?_];refine#[F1,z,M1,k.growM rs.mb g1,rs.growM k.bh g1 m1,_,hx,λy v M2 F2 H2 g2 hy ry m2=>?_];obtain⟨p,rfl,JZ⟩:=kdP.of hy;obtain⟨q,rfl,ds,es,hm,MG,hl,hR⟩:=kdP.of JZ
 focus
  obtain⟨us,hH,ru⟩:=m2.ok _ _ (bn hm);obtain⟨vs,PZ,rv⟩:=m2.ok _ _ (bn MG);refine#[p,q,us,vs,rep_ptr.mp rx,rep_ptr.mp ry,hH,PZ,by rw[ru.length,rv.length];exact FQ hl JQ,λr hr=>?_];exact h2 _ _ _ F2 _ ((g1.trans g2).trans (GrowM.new g2.fh hr)) (hR r λz=>m2.here z hr) (rep_ptr.mpr rfl) (m2.new g2.fh hr #[_,aG,ru.append rv])⟩
def mSlP(ta:TME)(tl th:TMO):TME:=λz M R=>ta z M λx M1=>tl z M1 λlo M2=>th z M2 λhi M3=>match x with|.ptr a=>∃ds,mget M3 a=be (.lst ds)/\∀p,p∉aj M3->R (.ptr p) ((p,.lst (cutD ds lo hi))::M3)|_=>False
def uz{lo hi:Option P3}{tl th:TMO}{p2:Ri}(ha:ME X a ta)(hl:MPO X lo tl)(hu:MPO X hi th):ME X (.Subscript a (.Slice lo hi r_ p2) pos) (mSlP ta tl th):=⟨(jH jJ ha.out hl.out hu.out).anti λs H Q q=>by
 obtain⟨F,z,M,k,rs,R,h1,h2⟩:=q;refine#[F,z,M,k,rs,_,h1,λx u M1 F1 H1 g1 hx rx m1=>?_];have k1:=k.growM rs.mb g1;have r1:=rs.growM k.bh g1 m1;refine#[F1,z,M1,k1,r1,_,hx,λlo M2 F2 H2 g2 hy m2=>?_];refine#[F2,z,M2,k1.growM r1.mb g2,r1.growM k1.bh g2 m2,_,hy,λhi M3 F3 H3 g3 hw m3=>?_];have g:=g1.trans (g2.trans g3);split at hw
 .rename_i l;obtain⟨ds,hm,hR⟩:=hw;obtain⟨us,hH,ru⟩:=m3.ok _ _ (bn hm);refine#[l,us,rep_ptr.mp rx,SqL.of hH,λr hr=>?_];exact h2 _ _ _ F3 _ (g.trans (GrowM.new g3.fh hr)) (hR r λz=>m3.here z hr) (rep_ptr.mpr rfl) (m3.new g3.fh hr #[_,aG,ru.cut _ _])
 .exact hw.elim⟩
end
abbrev SiM:=KF->List D->(MS->Prop)->Prop
def lSiM(K:Ex)(C:KF)(S:SiM):Sp:=λvs H Q _=>∃a dx us H1 F ds,vs=.ref a::us/\H=upd (upd H1 dx (.own a)) a (.ins C dx [])/\H1 a=r_/\H1 dx=r_/\dx≠a/\Same F H1/\Reps K F ds us/\
 ∃R:MS->Prop,S a ds R/\∀M' F' H',GrowM [] M' F H1 F' H'->R M'->RepM K F' H' M'->Q .non H'
def CalN(P:Q5)(w:Q_)(K:Ex)(mg:A_->Option KB)(base:Rc)(n:Nat)(x:A_)(ps:List A_)(S:SiM):Prop:=
 ∃C f fd,nsIn K Pi x=be (be (.ref C))/\mg x=be (.ref C)/\Mk K C f/\FnOk P w K mg base (Exc.CX1 P w) n f fd ps (lSiM K C S)/\Binds K fd ps []
section
variable {P:Q5}{w:Q_}{K:Ex}{mg:A_->Option KB}{base:Rc}
open Classical in
def Txi.okIN{x qual:A_}{st:Q6}{N:List A_}{p0:A_}{ps:List A_}{k:Nat}{S:SiM}(T:Txi K mg x qual st (p0::ps))(F:FnScope N (p0::ps) (ah st))(len:∀a ds R,S a ds R->ds.length=ps.length)
  (a9:∀(f:KF) (cdv:KB) (A:Ra) (outer:List RQ) (s:KM) (H:Hp) (E:XK) (J:Jm),Room k (A.deeper (Rk qual (ah st) s.heap.objs.size f cdv))->XOkM (cxOf (CX1 P w) P w K mg base N qual (ah st) f cdv A outer s H E).nox->
   ∃t,MSs (cxOf (CX1 P w) P w K mg base N qual (ah st) f cdv A outer s H E).nox (aL st) t/\∀a ds R,(∀z M x fs,¬J.RM z M x fs)->S a ds R->t {nx:=λ_ M'=>R M',rt:=λ_ _=>False} (startD N (.ptr a::ds)) [(a,.ins x [])]):CalN P w K mg base (k+1) x (p0::ps) S:=by
 obtain⟨C,f,fd,hns,g_,mk,T,hb⟩:=T;refine#[C,f,fd,hns,g_,mk,Fun.okC T F (λvs H Q E h=>?_) (λcdv A outer s H vs Q E hr h=>?_),hb]
 .obtain⟨a,dx,us,H1,F,ds,rfl,_,_,_,_,_,rs,R,h,_⟩:=h;rw[FW,FW,rs.length,len a ds R h]
 .obtain⟨a,dx,us,H1,F1,ds,rfl,rfl,ha,m9,m_,fh,rs,R,h,q⟩:=h
  let H:Hp:=upd (upd H1 dx (.own a)) a (.ins C dx [])
  let B:Hp:=λb=>if b=a then r_ else H b
  have KZ:B a=none:=if_pos rfl;have hB:∀{b:KF},b≠a->B b=H b:=λ{b} h=>if_neg h;have l7:∀{b:KF} {o:HO},H1 b=be o->b≠a/\H b=be o:=λ{b o} e=>by
   have n1:b≠a:=cu e ha;exact#[n1,by show upd _ _ _ b=_;rw[ay n1,ay (cu e m9)];exact e]
  letI:Jm:={B:=B,F0:=F1,RX:=λ_ _ _=>False,RM:=λ_ _ _ _=>False}
  have hx:XOkM (cxOf (CX1 P w) P w K mg base N qual (ah st) f cdv A outer s H E).nox:=λσ z M' F' H' s' e C od y fs I kk rr hR er _=>hR.elim;obtain⟨t,ht,hq⟩:=a9 f cdv A outer s H E inferInstance hr hx;have Fa:F1 a=none:=fh.free ha;have k0:Kept B F1 F1 H:=⟨λb o e=>by
   by_cases n:b=a
   .rw[n,KZ]at e;cases e
   .rw[hB n]at e;exact e,λb o e=>(l7 (fh b o e)).2,Same.refl F1,λ_ h _=>h,rfl,Same.refl F1,λ_ h _=>h⟩
  have v_:Reps K F1 (.ptr a::ds) (.ref a::us):=reps_cons.mpr #[_,_,rfl,rep_ptr.mpr rfl,rs];have MI:RepM K F1 H [(a,.ins x [])]:=⟨by simp[aj],λb o hb=>by
   have e:=FJ.mp hb;cases e;exact#[C,dx,[],hns,aG,repf_nil.mpr rfl],λb hb=>by
   have e:b=a:=by simpa[aj]using hb
   rw[e];exact Fa⟩
  have r0:RepZ K B F1 H (startD N (.ptr a::ds)) (L2.start N (.ref a::us)) [(a,.ins x [])]:=⟨dD v_,kz v_,MI,λb hb=>by
   have e:b=a:=by simpa[aj]using hb
   rw[e];exact KZ⟩
  refine#[_,ht.out.nox,F1,F1,_,_,k0,r0,_,hq a ds R (λ_ _ _ _ z=>z) h,#[λz' s' M' F' H' kk hn r=>?_,λd v M' F' H' kk hd rd Mz mb=>hd.elim,λ_ _ _ _ _ _ h _=>h.elim,λ_ _ _ _ _ _ h _=>h.elim]];refine q M' F' H' ⟨kk.f0,kk.fh,λb o _ e=>kk.bh b o (by show B b=be o;rw[hB (l7 e).1];exact(l7 e).2),λb _ h1 h2=>kk.out b h1 (by
   show B b≠r_;cases e:H1 b with
   |none=>exact absurd e h2
   |some o=>rw[hB (l7 e).1,(l7 e).2];exact λz=>nomatch z),λb hb=>?_⟩ hn r.rm
  cases e:H1 b with
  |none=>exact .inr rfl
  |some o=>
   have h0:B b=none:=r.mb b hb;rw[hB (l7 e).1,(l7 e).2]at h0;cases h0
end
section
variable {X:Cx}[J:Jm]{e:P3}{es:List P3}{pos p:Ri}{n m:Nat}{ps:List A_}{S:SiM}{x:A_}{t:TMA}
def CI(S:SiM)(t:TMA):TME:=λz M R=>t z M λds M1=>∀a,a∉aj M1->S a ds λM'=>R (.ptr a) (M'++M1)
def CJ(M:CalN X.prog X.w X.K X.mg X.base n x ps S)(hr:Room m X.A)(ha:MA X (e::es) t)(hg:autoParam (Gl X x) zA0)(hn:autoParam (n+1<=m) zA1)(d7:autoParam (zND x) zA1)
  (he:autoParam (zSE X e es) zA0) (c_:autoParam (zPL X pos es) zA0):
  ME X (.Call (.Name x p) (e::es) [] pos) (CI S t):=by
 obtain⟨C,f,fd,hns,g_,mk,F,hb⟩:=M;refine#[(gy mk F (hr.mono hn) hg g_ hb .nil fA ha.out d7 he c_).anti λs H Q q=>?_];obtain⟨F,z,M,k,rs,R,h1,h2⟩:=q;refine#[F,z,M,k,rs,_,h1,λds vs M1 F1 H1 g1 hx rx m1=>?_];intro a dx ha m9 m_;have na:a∉aj M1:=λz=>m1.here z ha;refine#[a,dx,vs,H1,F1,ds,by rw[Gn],rfl,ha,m9,m_,g1.fh,rx,_,hx a na,λM' F' H' g hR m'=>#[rfl,?_]];have hh:∀b o,H1 b=be o->H' b=be o:=λb o e=>g.hh b o (λz=>nomatch z) e;have nk:∀b,b∈aj M'->H1 b=none:=λb hb=>(g.ks b hb).elim (λz=>nomatch z) id;refine h2 (.ptr a) (.ref a) _ F' H' (g1.trans #[g.ff,g.fh,λb o _ e=>hh b o e,λb _=>g.out b (λz=>nomatch z),λb hb=>?_]) hR (rep_ptr.mpr rfl) #[?_,λb o hb=>?_,λb hb=>?_]
 .rcases keys_app.mp hb with z|z
  .exact .inr (nk b z)
  .exact .inl z
 .unfold aj;rw[Gh];exact GW.mpr #[m'.nd,m1.nd,λb h1 c h2 e=>m1.here (e ▸ h2) (nk b h1)]
 .rcases Ga.mp hb with z|z
  .exact m'.ok b o z
  .exact(m1.ok b o z).mono g.ff λo e=>hh b o e
 .rcases keys_app.mp hb with z|z
  .exact m'.fr b z
  .exact g.out b (λz=>nomatch z) (m1.fr b z) (m1.here z)
end
section
variable {K:Ex}{x m q:A_}{st:Q6}{ps:List A_}
def MdIn(K:Ex)(x m q:A_)(st:Q6)(i:Int):Prop:=∃C f fd T,NsC K x C/\Meth K C m f/\FunG K (.ref T) m q st f fd/\∃tc td n ts t,K.lookup T=be #[tc,td,.seq [.int i t].toArray n,ts]
def mdIn_mk{C f T:KF}{i:Int}{oc tc:KB}{od an td:Option KF}{sl ts:Array (Option KB)}{n:Nat}{t:SW}{kV dc pm cd ct:KB}(a:nsIn K Pi x=be (be (.ref C)))(b:findIn K (.ref C) m=be (be (.ref f)))(j:isFn K (.ref f)=true)(l:K.lookup f=be #[oc,od,.func (fnOf m q (bz st) (aL st) (ah st) (.ref T) kV dc pm an cd ct),sl])(c:codeIn K cd q=true)(k:keepIn K (.ref f)=true)
  (d:K.lookup T=be #[tc,td,.seq [.int i t].toArray n,ts]):MdIn K x m q st i:=#[C,f,_,T,a,#[b,j,k],#[#[_,_,_,_,_,_,_,_,_,rfl,l,c],k],_,_,_,_,_,d]
def CK(m q:A_)(st:Q6)(x0 x1:A_):Prop:=∀(s:KM) (T:KF) (o:Ro) (its:Array KB) (n:Nat) (v:KB) (kV doc pm:KB) (an:Option KF) (cdv ct u0 u1:KB),s.heap.get? T=be o->o.data=.seq [v].toArray n->
 R1 s (fnOf m q (bz st) (aL st) (ah st) (.ref T) kV doc pm an cdv ct) #[[u0,u1],[]] [(x0,u0),(x1,u1)]/\R1 s (fnOf m q (bz st) (aL st) (ah st) (.ref T) kV doc pm an cdv ct) #[[u0],[]] [(x0,u0),(x1,v)]
def Txd(K:Ex)(x m qual:A_)(st:Q6)(ps:List A_)(dd:List D):Prop:=
 ∃C f fd dV f8 n6,nsIn K Pi x=be (be (.ref C))/\Cls K C/\Meth K C m f/\FunG K dV m qual st f fd/\Binds K fd ps []/\Binds K fd ps n6/\Vals f8 n6/\∀F,Reps K F dd f8
def MdIn.txd{i:Int}{x0 x1:A_}(T:MdIn K x m q st i)(c:ClIn K x)(b:CK m q st x0 x1):Txd K x m q st [x0,x1] [.int i]:=by
 obtain⟨C,k⟩:=c;obtain⟨D,f,fd,T,a,mt,F,tc,td,n,ts,t,hT⟩:=T;cases NsC.uniq k.ns a;have F':=F;obtain⟨oc,od,kV,doc,pm,an,cdv,ct,osl,rfl,lk,gV⟩:=F'.ex;refine#[C,f,_,_,[.int i],[.int i t],a,k.cl,mt,F,λs us hK hl=>?_,λs us hK hl=>?_,.cons #[t,rfl] .nil,λF=>reps_cons.mpr #[_,_,rfl,rep_int.mpr rfl,reps_nil.mpr rfl]]
 .rw[Gn]at hl ⊢;obtain⟨u0,t0,rfl,h0⟩:=bg hl;obtain⟨u1,t1,rfl,h1⟩:=bg h0;cases len_0 h1;exact(b s T _ [].toArray n (.int i t) kV doc pm an cdv ct u0 u1 (hK _ _ hT) rfl).1
 .rw[FV]at hl;have Me:us.length=[x0].length:=Nat.succ.inj hl;obtain⟨u0,t0,rfl,h0⟩:=bg Me;cases len_0 h0;exact(b s T _ [].toArray n (.int i t) kV doc pm an cdv ct u0 u0 (hK _ _ hT) rfl).2
end
section
variable {P:Q5}{w:Q_}{K:Ex}{mg:A_->Option KB}{base:Rc}
variable{N ps:List A_}{dd:List My.D}
def Txd.okM{x m qual:A_}{st:Q6}{k:Nat}{S:SpM}(T:Txd K x m qual st ps dd)(F:FnScope N ps (ah st))(len:∀ds M R RX,S ds M R RX->ds.length=ps.length)
  (a9:∀(f:KF) (cdv:KB) (A:Ra) (outer:List RQ) (s:KM) (H:Hp) (E:XK) (J:Jm),Room k (A.deeper (Rk qual (ah st) s.heap.objs.size f cdv))->XOkM (cxOf (CX1 P w) P w K mg base N qual (ah st) f cdv A outer s H E)->
   ∃t,MSs (cxOf (CX1 P w) P w K mg base N qual (ah st) f cdv A outer s H E) (aL st) t/\∀ds M R RX,(∀z,J.RM z=λM' x fs=>RX x fs M')->S ds M R RX->t {nx:=λ_ M'=>R .non M',rt:=R} (startD N ds) M):CalMth P w K mg base (k+1) x m ps (lSpM K S)/\ib P w K mg base (k+1) x m ps dd (lSpM K S):=by
 obtain⟨C,f,fd,dV,f8,n6,h1,h2,h3,T,hb,i_,hv,hd⟩:=T;have ok:=Fun.okM (P:=P) (w:=w) (mg:=mg) (base:=base) T F len λcdv A outer s H E J hr hx=>a9 f cdv A outer s H E J hr hx;exact#[#[C,f,fd,h1,h2,h3,ok,hb],C,f,fd,f8,n6,h1,h2,h3,ok,i_,hv,hd]
def Txd.okMd{x m qual:A_}{st:Q6}{k:Nat}{S:SpM}(T:Txd K x m qual st ps dd)(F:FnScope N ps (ah st))(len:∀ds M R RX,fX S ds M R RX->ds.length=ps.length)
  (a9:∀(f:KF) (cdv:KB) (A:Ra) (outer:List RQ) (s:KM) (H:Hp) (E:XK) (J:Jm),Room k (A.deeper (Rk qual (ah st) s.heap.objs.size f cdv))->XOkM (cxOf (CX1 P w) P w K mg base N qual (ah st) f cdv A outer s H E)->
   ∃t,MSs (cxOf (CX1 P w) P w K mg base N qual (ah st) f cdv A outer s H E) (aL st) t/\∀ds M R RX,(∀z,J.RM z=λM' x fs=>RX x fs M')->fX S ds M R RX->t {nx:=λ_ M'=>R .non M',rt:=R} (startD N ds) M):CalMth P w K mg base (k+1) x m ps (lSpM K S)/\ib P w K mg base (k+1) x m ps dd (lSpM K S):=by
 obtain⟨a,C,f,fd,f8,n6,h1,h2,h3,ok,hb,hv,hd⟩:=Txd.okM (S:=fX S) T F len a9;exact#[a.drop,C,f,fd,f8,n6,h1,h2,h3,ok.imp λ_ _ _ _ h=>uy h,hb,hv,hd]
def nilD(S:SpD):SpM:=λds M R _=>M=[]/\∃R0:D->Prop,S ds R0/\R=λd _=>R0 d
def CL{n:Nat}{f:KF}{fd:Rf}{S:SpD}(F:FnOk P w K mg base (CX1 P w) n f fd ps (lSpM K (nilD S))):FnOk P w K mg base (CX1 P w) n f fd ps (lSp K S):=F.imp λvs H Q E q=>by
 obtain⟨F,ds,fh,rs,R,hS,q1⟩:=q;exact#[F,ds,[],fh,rs,RepM.nil,_,λ_ _ _=>False,#[rfl,R,hS,rfl],λd v M' F' H' g hd rd _=>q1 d v F' H' (growM_nil g) hd rd,λ_ _ _ _ _ _ _ _ z=>z.elim]
end
section
variable {X:Cx}[J:Jm]{a:P3}{ta:TME}{tA:TMT}{pos:Ri}
def dh(ha:ME X a ta)(he:autoParam (∀fI,isTrue a X.env fI=(do let v <-fI;RO a.pos;Ru [v] (truthy v))) zA2):MT X a (mTru ta):=⟨(qi ha.out he).anti λs H Q q=>by
 obtain⟨F,z,M,k,rs,R,h1,h2⟩:=q;refine#[F,z,M,k,rs,_,h1,λx u M1 F1 H1 g1 hx rx m1=>?_];split at hx
 .rw[rep_bl.mp rx];exact#[_,rfl,h2 _ M1 F1 H1 g1 hx m1]
 .exact hx.elim⟩
def mNot(tA:TMT):TMT:=λz M R=>tA z M λk M1=>R (!k) M1
def dm(ha:MT X a tA):MT X (.UnaryOp .Not a pos) (mNot tA):=⟨(pQ ha.out).anti λs H Q q=>by
 obtain⟨F,z,M,k,rs,R,h1,h2⟩:=q;exact#[F,z,M,k,rs,_,h1,λk M1 F1 H1 g1 hx m1=>h2 _ M1 F1 H1 g1 hx m1]⟩
end
abbrev Bx.N(V:Bx)(n:Nat)(x:A_)(ps:List A_)(S:SiM):Prop:=CalN V.P V.w V.K V.mg V.base n x ps S
abbrev Bx.Qd(V:Bx)(n:Nat)(x m:A_)(ps:List A_)(dd:List My.D)(S:SpM):Prop:=ib V.P V.w V.K V.mg V.base n x m ps dd (lSpM V.K S)
abbrev Bx.Td(V:Bx)(x m q:A_)(st:Q6)(ps:List A_)(dd:List My.D):Prop:=Txd V.K x m q st ps dd
section
variable {X:Cx}[J:Jm]{a b c e o:P3}{ta tb te:TME}{pos:Ri}
variable{p:Ri}
def CM{p2:Ri}{y:A_}{t:String}(hm:X.mg "isinstance"=r_)(Mg:X.mg y=r_)(ha:ME X a ta)(hv:Rm y=be (.type t))
  (hk:∀x:D,cH x=true->kitOne X.K (.type (tyD x)) (.type t)=be (cG t x)) (hg:autoParam (Gl X "isinstance") zA0) (Mh:autoParam (Gl X y) zA0) (hn:autoParam (y≠"__name__") zA1) (d7:autoParam (zND y) zA1)
  (k6:autoParam (Re [a,.Name y p2] X.env=(false,Rg a X.env)::Re [.Name y p2] X.env) zA0) (j9:autoParam (Re [.Name y p2] X.env=(false,Rg (.Name y p2) X.env)::Re [] X.env) zA0) (c_:autoParam ((RZ pos (Re [.Name y p2] X.env)).any (·.1)=false) zA0):ME X (.Call (.Name "isinstance" p) [a,.Name y p2] [] pos) (mUn (jW t) ta):=⟨(fw rE hg hm PyProof.Rows.boot_isinstance (bv ha.out (bv (pL (v:=.ty t) Mh Mg hv rfl hn d7) pa_nil j9) k6) JQ JQ k6 c_).anti λs H Q q=>by
 obtain⟨F,z,M,k,rs,R,h1,h2⟩:=q;refine#[F,z,M,k,rs,_,h1,λx u M1 F1 H1 g1 hx rx m1=>?_];have no:cH x=true/\R (.bl (cG t x)) M1:=by
  cases x with
  |obj C b=>exact False.elim hx
  |exc C b=>exact False.elim hx
  |ptr b=>exact False.elim hx
  |dti b=>exact False.elim hx
  |_=>exact#[rfl,hx]
 exact#[u,tyD x,t,_,rfl,rF g1.fh rx no.1,hk x no.1,h2 _ _ M1 F1 H1 g1 no.2 (rep_bl.mpr rfl) m1]⟩
def mItL(t:TME):TMI:=λz M R=>t z M λx M1=>match x with|.lst ds=>R ds M1|_=>False
def va(i:Nat){x:A_}{body:List Q6}{tb:TMS}(hp:Rr (Q8 X.prog X.w) X.A X.env X.xe)(hc:X.calm=true)(hN:X.N.Nodup)(he:ME X e te)(hb:MSs X body tb)(hi:autoParam (X.N[i]?=be x) zA0)(hx:autoParam (Loc X.env.scope x) zA4)
  (hf:autoParam (zFN X x) zA3) (hs:autoParam (∀y,zFS X e y) zA2):MSt X (.For (.Name x p) e body [] pos) (mFor i (mItL te) tb):=⟨(cE hp hc (jw he.out) (dB hN hi hx hf) hb.out hs).anti λE s H q=>by
 obtain⟨F0,F,z,M,kp,rs,ED,h,e⟩:=q;refine#[F,z,M,kp.kf,rs,_,h,λd v M1 F1 H1 g1 hd rd m1=>?_];split at hd
 .obtain⟨p,vs,rfl,hq,rr⟩:=rep_lst.mp rd;obtain⟨W,w0,c8,out⟩:=hd;refine#[p,rfl,#[vs,g1.fh.seq (SqL.of hq)],jx (K:=X.K) (a:=p) (xs:=vs) (λk s' H'=>∃F' z' M',Kept J.B F0 F' H'/\Same F1 F'/\RepZ X.K J.B F' H' z' s' M'/\W k z' M') #[F1,z,M1,kp.growM rs.mb g1,Same.refl F1,rs.growM kp.bh g1 m1,w0] (λk s' H' _ hh=>?_) ?_ ?_]
  .obtain⟨F',z',M',k',g',r',w'⟩:=hh;exact k'.fh.seq (g'.seq (SqL.of hq))
  .rintro k y s' H' hk⟨F',z',M',k',g',r',w'⟩;obtain⟨d,hd,ry⟩:=rr.get' hk;refine#[F',F',_,M',#[k'.bh,k'.fh,Same.refl F',λb h1 _=>h1,k'.eb,k'.jf.trans k'.f0,λb h1 h2=>k'.out b (k'.jo b h1 h2) h2],r'.set (ry.mono g'),_,c8 k d z' M' hd w',?_];have up:∀{F2 H2:Hp},Kept J.B F' F2 H2->Kept J.B F0 F2 H2:=λk2=>#[k2.bh,k2.fh,k'.f0.trans k2.f0,λb h1 h2=>k2.out b (k'.out b h1 h2) h2,k'.eb,k'.jf,k'.jo];exact#[λz3 s3 M3 F3 H3 k3 h3 r3=>#[F3,z3,M3,up k3,g'.trans k3.f0,r3,h3],λd v M3 F3 H3 k3=>e.rt d v M3 F3 H3 (up k3),λz3 s3 M3 F3 H3 k3=>e.nx z3 s3 M3 F3 H3 (up k3),λz3 s3 M3 F3 H3 k3 h3 r3=>#[F3,z3,M3,up k3,g'.trans k3.f0,r3,h3]]
  .rintro s' H'⟨F',z',M',k',g',r',w'⟩;exact e.nx z' s' M' F' H' k' (out z' M' (by rw[<-rr.length];exact w')) r'
 .exact hd.elim⟩
def CN(is:List Nat)(te:TME):TMS:=λE z M=>te z M λx M1=>match x with|.lst ds=>ds.length=is.length/\E.nx (aS is ds z) M1|_=>False
def CO{es:List P3}{k:Nat}{is:List Nat}(hc:X.calm=true)(he:ME X e te)(hg:DGs X es is)(hn:autoParam ((Rb es X.env).length=is.length) zA0)(j5:autoParam ((Rb es X.env).findIdx? (·.1)=none) zA0)
  (hs:autoParam (Rw [.Tuple es k p] e pos.line X.env=pure false) zA0) (hw:autoParam (Rx [.Tuple es k p] e X.env=pure none) zA0) (h1:autoParam ((Rb [.Tuple es k p] X.env).map (·.2)=[RD (.Tuple es k p) X.env]) zA0):MSt X (.Assign [.Tuple es k p] e pos) (CN is te):=⟨by
 obtain⟨u,hu,kk⟩:=hg;refine(fq he.out (rR hc hu hn j5) hs hw h1).anti λE s H q=>?_;obtain⟨F0,F,z,M,k,rs,ED,h,e⟩:=q;refine#[F,z,M,k.kf,rs,_,h,λd v M1 F1 H1 g hd rd m1=>?_];have r1:=rs.growM k.bh g m1;split at hd
 .obtain⟨p,vs,rfl,hq,rr⟩:=rep_lst.mp rd;exact#[p,vs,rfl,SqL.of (g.fh _ _ hq),by rw[rr.length];exact hd.1,kk _ vs z s J.B F1 H1 _ hd.1 rr r1.rs λs' r'=>e.nx _ _ M1 F1 H1 (k.growM rs.mb g) hd.2 #[r',kA is _ _ z rr r1.no,m1,r1.mb]]
 .exact hd.elim⟩
end
end My
namespace My
section
variable {X:Cx}[J:Jm]{b o e:P3}{tb to te:TME}{pos p2:Ri}
def CP(to ti te:TME):TMS:=λE z M=>te z M λd M1=>to z M1 λx M2=>ti z M2 λy M3=>kdP x λa=>kdI y λk=>∃ds j,mget M3 a=be (.lst ds)/\ixN ds.length k=be j/\E.nx z (mput M3 a (.lst (ds.set j d)))
def vb(he:ME X e te)(ho:ME X o to)(hb:ME X b tb)
  (ha:∀v,RD (.Subscript o b p2) X.env v=(do
   let ov <-Ru [v] (Rg o X.env)
   let iv <-Ru [v,ov] (Rg b X.env)
   RO p2
   Ru [v,ov,iv] (Sh ov iv v)
   Sy [v,ov,iv] []):=by intro _;rfl)
  (hs:autoParam (Rw [.Subscript o b p2] e pos.line X.env=pure false) zA0) (hw:autoParam (Rx [.Subscript o b p2] e X.env=pure none) zA0)
  (h1:autoParam ((Rb [.Subscript o b p2] X.env).map (·.2)=[RD (.Subscript o b p2) X.env]) zA0):MSt X (.Assign [.Subscript o b p2] e pos) (CP to tb te):=⟨(fq he.out (pS ho.out hb.out jI ha) hs hw h1).anti λE s H q=>by
 obtain⟨F0,F,z,M,k,rs,ED,h,e⟩:=q;refine#[F,z,M,k.kf,rs,_,h,λd v M1 F1 H1 g1 hd rd m1=>?_];refine#[F1,z,M1,(k.growM rs.mb g1).kf,rs.growM k.bh g1 m1,_,hd,λx u M2 F2 H2 g2 hx rx m2=>?_];have MV:=g1.trans g2;refine#[F2,z,M2,(k.growM rs.mb MV).kf,rs.growM k.bh MV m2,_,hx,λy w M3 F3 H3 g3 hy ry m3=>?_];have g:=MV.trans g3;obtain⟨a,rfl,JZ⟩:=kdP.of hy;obtain⟨i,rfl,ds,j,hm,hj,hn⟩:=kdI.of JZ
 focus
  obtain⟨us,hH,ru⟩:=m3.ok _ _ (bn hm);have gp:=g.trans (GrowM.put (o':=.lst (ds.set j d)) (ho:=.lst (us.set j v)) g3.fh (m3.fr a (bt (bn hm))) hm);have mp:=m3.put (o':=.lst (ds.set j d)) (ho:=.lst (us.set j v)) hm #[_,aG,Reps.put ((rd.mono g2.ff).mono g3.ff) j ru];refine#[a,us,i,j,rep_ptr.mp rx,rep_int.mp ry,hH,by rw[ru.length];exact hj,?_];exact e.nx z s _ F3 _ (k.growM rs.mb gp) hn (rs.growM k.bh gp mp)⟩
end
def CQ(t:TMA):TME:=λz M R=>t z M λxs M1=>xs.length<=1000/\R (.lst xs) M1
def CS{X:Cx}[J:Jm]{pos:Ri}{es:List P3}{t:TMA}(h:MA X es t):ME X (.List es pos) (CQ t):=⟨(gx h.out).anti λs H Q q=>by
 obtain⟨F,z,M,k,rs,R,h1,h2⟩:=q;refine#[F,z,M,k,rs,_,h1,λds vs M1 F1 H1 g1 hx rx m1=>?_];have hl:=rx.length;refine#[sz (by rw[hl];exact hx.1),λp hp=>?_];have gn:=Grow.new g1.fh hp (.lst vs);exact h2 _ _ M1 _ _ (g1.trans gn.toM) hx.2 (rep_lst.mpr #[p,vs,rfl,aG,rx.mono (aP (g1.fh.free hp) _)]) (m1.grow gn)⟩
def splitN(S:SpM):SpM:=λds M R RX=>∃M1 M2,subM (M1++M2) M/\S ds M2 (λd M'=>(aj (M1++M')).Nodup->R d (M1++M')) λx fs M'=>(aj (M1++M')).Nodup->RX x fs (M1++M')
def vc{K:Ex}{S:SpM}{vs:List V}{H:Hp}{Q:VK}{E:XK}(h:lSpM K (splitN S) vs H Q E):lSpM K S vs H Q E:=by
 obtain⟨F,ds,M,fh,rs,rm,R,RX,⟨M1,M2,s,hS⟩,q,qx⟩:=h;exact kD #[F,ds,M1++M2,fh,rs,rm.sub s,λd N=>(aj N).Nodup->R d N,λx fs N=>(aj N).Nodup->RX x fs N,#[M1,M2,rfl,hS],λd v M' F' H' g hR hd hm=>q d v M' F' H' (g.sub0 s) (hR hm.nd) hd hm,λx fs C od M' F' H' g hR er hm=>qx x fs C od M' F' H' (g.sub0 s) (hR hm.nd) er hm]
section
variable {P:Q5}{w:Q_}{K:Ex}{mg:A_->Option KB}{base:Rc}{n:Nat}{x m:A_}{ps:List A_}{S:SpM}
def CalMM.splitN(C:CalMM P w K mg base n x ps S):CalMM P w K mg base n x ps (splitN S):=C.imp λ_ _ _ _ h=>vc h
def CalMth.splitN(C:CalMth P w K mg base n x m ps (lSpM K S)):CalMth P w K mg base n x m ps (lSpM K (splitN S)):=C.imp λ_ _ _ _ h=>vc h
end
def CT{a:KF}{o:MO}:∀{M:MS},(aj M).Nodup->(a,o)∈M->mget M a=be o:=λ{M}=>by
 induction M with
 |nil=>intro _ h;cases h
 |cons e M ih=>
  intro nd h;obtain⟨b,p⟩:=e;have Jv:=Go.mp nd;rcases FL.mp h with h|h
  .cases h;exact if_pos rfl
  .have:b≠a:=λz=>Jv.1 (by subst z;exact bt h);exact(if_neg this).trans (ih Jv.2 h)
end My
namespace My
open Exc
abbrev TDN:=SD->(List D->Prop)->Prop
def lN(K:Ex)[J:Jx](t:TDN):TE:=λs H Q=>∃B F z,Kept B J.F0 F H/\RepS K B F H z s/\∃R:List D->Prop,t z R/\∀ds p us F' H',Grow F H F' H'->F' p=r_->B p=r_->H' p=be (.lst us)->Reps K F' ds us->R ds->Q (.ref p) H'
structure WDN(X:Cx)[Jx](e:P3)(t:TDN):Prop where
 out:PE X e (lN X.K t)
section
variable {X:Cx}[J:Jx]{e:P3}{pos:Ri}{st:Q6}{b7:List Q6}{t:TSD}
def vd(i:Nat):TDN:=λz R=>match z[i]? with|some (be (.own ds))=>R ds|_=>False
def CU(i:Nat){x:A_}(hN:autoParam (X.N[i]?=be x) zA0)(hv:autoParam (Vis X.env.scope x) zA5)(hd:autoParam (zND x) zA1)
  (gV:autoParam (zNC x) zA1):WDN X (.Name x pos) (vd i):=⟨(dz hN hv hd gV).anti λs H Q h=>by
 obtain⟨B,F,z,kf,r,R,h1,h2⟩:=h;unfold vd at h1;split at h1
 .rename_i ds e;obtain⟨a,vs,q1,q2,q3,q4,q5⟩:=r.own i ds e;exact#[_,q1,h2 ds a vs F H (Grow.refl kf.fh) q4 q3 q2 q5 h1]
 .exact h1.elim⟩
variable {f_ iter:P3}{x:A_}{px:Ri}{scope:RA}{ti te:TD}
def CV(v5:TDI)(te:TD):TDN:=λz R=>gI v5 te z λd=>kdL d R
def CW{p1 p2:Ri}(hc:X.calm=true)(S:CompScope X scope x)(hm:X.mg "range"=r_)(hi:WDE X iter ti)(he:∀cl s₀ H₀ fp,WDE (bP X scope cl x s₀ H₀ fp) f_ te)(hg:autoParam (Gl X "range") zA0)
  (hs:autoParam (∀y,zFS X (.Call (.Name "range" p1) [iter] [] p2) y) zA2) (m7:autoParam (zSE X iter []) zA0) (f6:autoParam (Re [iter] X.env=[(false,Rg iter X.env)]) zA0):WDN X (.ListComp f_ [#[.Name x px,.Call (.Name "range" p1) [iter] [] p2,[],0]] scope pos) (CV (dItR ti) te):=⟨have hi:=hi.out;have he:=λcl s₀ H₀ fp=>(he cl s₀ H₀ fp).out;(rX hc S (gu hg hm (bv hi pa_nil m7) f6) (λ_ _ _ _=>gJ) he hs).anti λs H Q q=>by
 obtain⟨B,F,z,kf,rs,R,h1,h2⟩:=q;exact itR kf rs h1 λitems J F1 H1 g1 hg it=>ke kf g1 rs (λD ys us F' H' hH hF GG hu ry hR=>h2 ys D us F' H' GG hF (by cases q:B D with
  |none=>rfl
  |some o=>have:=kf.bh D o q;rw[hH]at this;cases this) hu ry hR) it (cmpP.g hg)⟩
abbrev TSN:=EndsD->(List D->Prop)->SD->Prop
def lSN(K:Ex)[J:Jx](t:TSN):TS:=λE s H=>∃B F0 F z,Kept B F0 F H/\RepS K B F H z s/\∃(ED:EndsD) (RN:List D->Prop),t ED RN z/\EndsOk K B F0 ED E/\∀ds p us F' H',Kept B F0 F' H'->F' p=r_->B p=r_->H' p=be (.lst us)->Reps K F' ds us->RN ds->E.rt (.ref p) H'
structure WDSN(X:Cx)[Jx](l:List Q6)(t:TSN):Prop where
 out:PSs X l (lSN X.K t)
def ve{tn:TDN}(h:WDN X e tn):WDSN X [.Return (be e) pos] (λ_ RN z=>tn z RN):=⟨PSs.anti (jr (jt h.out)) λE s H q=>by
 obtain⟨B,F0,F,z,k,rs,ED,RN,h,ee,en⟩:=q;exact#[B,F,z,k.kf,rs,RN,h,λds p us F' H' g a b c d r=>en ds p us F' H' (k.grow g) a b c d r]⟩
def du{u:TSN}(h1:WDS X st t)(h2:WDSN X b7 u):WDSN X (st::b7) (λED RN z=>t {ED with nx:=u ED RN} z):=⟨(gm h1.out h2.out).anti λE s H q=>by
 obtain⟨B,F0,F,z,k,rs,ED,RN,h,e,en⟩:=q;exact#[B,F0,F,z,k,rs,{ED with nx:=u ED RN},h,#[λz' s' F' H' k' hz r'=>#[B,F0,F',z',k',r',ED,RN,hz,e,en],e.rt,e.bk,e.ct]]⟩
end
abbrev SpN:=List D->(List D->Prop)->XD->Prop
def lSpN(K:Ex)(S:SpN):Sp:=λvs H Q E=>∃F ds,Same F H/\Reps K F ds vs/\∃(R:List D->Prop) (RX:XD),S ds R RX/\(∀xs p us F' H',Grow F H F' H'->F' p=r_->H p=r_->H' p=be (.lst us)->Reps K F' xs us->R xs->Q (.ref p) H')/\
 ∀x fs C od F' H',Grow F H F' H'->RX x fs->ErrD K F' x fs C od->E (.ref C) od H'
section
variable {P:Q5}{w:Q_}{K:Ex}{mg:A_->Option KB}{base:Rc}
variable{x:A_}{st:Q6}{N ps:List A_}{k:Nat}{S:SpN}
def _root_.L2.Fun.okN{qual:A_}{f:KF}{fd:Rf}(T:Fun K x qual st f fd)(F:FnScope N ps (ah st))(len:∀ds R RX,S ds R RX->ds.length=ps.length)
  (a9:∀(cdv:KB) (A:Ra) (outer:List RQ) (s:KM) (H:Hp) (E:XK) (J:Jx),Room k (A.deeper (Rk qual (ah st) s.heap.objs.size f cdv))->XOk (cxOf (CX1 P w) P w K mg base N qual (ah st) f cdv A outer s H E)->
   ∃t,WDSN (cxOf (CX1 P w) P w K mg base N qual (ah st) f cdv A outer s H E) (aL st) t/\∀ds R RX,(∀z,J.RX z=RX)->S ds R RX->t {nx:=λ_=>False,rt:=λ_=>False} R (startD N ds)):FnOk P w K mg base (CX1 P w) (k+1) f fd ps (lSpN K S):=by
 refine Fun.okC T F (λvs H Q E h=>?_) (λcdv A outer s H vs Q E hr h=>?_)
 .obtain⟨F,ds,fh,rs,R,RX,h,_⟩:=h;rw[rs.length];exact len ds R RX h
 .obtain⟨F,ds,fh,rs,R,RX,h,q,qx⟩:=h
  letI:Jx:=#[H,F,λ_=>RX]
  have hx:XOk (cxOf (CX1 P w) P w K mg base N qual (ah st) f cdv A outer s H E):=by
   intro σ z F' H' s' e C od y fs I kk rr hR er ⟨He,ne,_,hx⟩;have hE:E (.ref C) od H':=qx y fs C od F' H' #[kk.f0,kk.fh,kk.bh,kk.out] hR er;rcases hx with⟨sl,vs,h1,h2⟩|⟨T,h1,h2,h3,_⟩
   .exact jP I h1 h2 He ne hE
   .exact ki I h1 ne h2 He h3 hE
  obtain⟨t,ht,hq⟩:=a9 cdv A outer s H E inferInstance hr hx;refine#[_,ht.out,H,F,F,startD N ds,#[Same.refl H,fh,Same.refl F,λ_ h _=>h,rfl,Same.refl F,λ_ h _=>h],dD rs,_,_,hq ds R RX (λ_=>rfl) h,#[λ_ _ _ _ _ h _=>h.elim,λ_ _ _ _ _ h _=>h.elim,λ_ _ _ _ _ h _=>h.elim,λ_ _ _ _ _ h _=>h.elim],λds p us F' H' k a b c d r=>q ds p us F' H' #[k.f0,k.fh,k.bh,k.out] a b c d r]
def Tx.okN(T:Tx K mg x st ps)(F:FnScope N ps (ah st))(len:∀ds R RX,S ds R RX->ds.length=ps.length)
  (a9:∀(f:KF) (cdv:KB) (A:Ra) (outer:List RQ) (s:KM) (H:Hp) (E:XK) (J:Jx),Room k (A.deeper (Rk x (ah st) s.heap.objs.size f cdv))->XOk (cxOf (CX1 P w) P w K mg base N x (ah st) f cdv A outer s H E)->
   ∃t,WDSN (cxOf (CX1 P w) P w K mg base N x (ah st) f cdv A outer s H E) (aL st) t/\∀ds R RX,(∀z,J.RX z=RX)->S ds R RX->t {nx:=λ_=>False,rt:=λ_=>False} R (startD N ds)):Cal P w K mg base (k+1) x ps (lSpN K S):=by
 obtain⟨f,fd,T,hb,hm⟩:=T;exact#[f,fd,T.okN F len λcdv A outer s H E J hr hx=>a9 f cdv A outer s H E J hr hx,hb,T.kp,hm]
def Txm.okN{m qual:A_}(T:Txm K x m qual st ps)(F:FnScope N ps (ah st))(len:∀ds R RX,S ds R RX->ds.length=ps.length)
  (a9:∀(f:KF) (cdv:KB) (A:Ra) (outer:List RQ) (s:KM) (H:Hp) (E:XK) (J:Jx),Room k (A.deeper (Rk qual (ah st) s.heap.objs.size f cdv))->XOk (cxOf (CX1 P w) P w K mg base N qual (ah st) f cdv A outer s H E)->
   ∃t,WDSN (cxOf (CX1 P w) P w K mg base N qual (ah st) f cdv A outer s H E) (aL st) t/\∀ds R RX,(∀z,J.RX z=RX)->S ds R RX->t {nx:=λ_=>False,rt:=λ_=>False} R (startD N ds)):CalMth P w K mg base (k+1) x m ps (lSpN K S):=by
 obtain⟨C,f,fd,h1,h2,h3,T,hb⟩:=T;exact#[C,f,fd,h1,h2,h3,T.okN F len λcdv A outer s H E J hr hx=>a9 f cdv A outer s H E J hr hx,hb]
def newN(S:SpN):SpM:=λds M R RX=>S ds (λxs=>∀p,p∉aj M->R (.ptr p) ((p,.lst xs)::M)) λx fs=>RX x fs M
def CY{vs:List V}{H:Hp}{Q:VK}{E:XK}(h:lSpM K (newN S) vs H Q E):lSpN K S vs H Q E:=by
 obtain⟨F,ds,M,fh,rs,rm,R,RX,hS,q,qx⟩:=h;refine#[F,ds,fh,rs,_,_,hS,λxs p us F' H' g hF hH hu ry hR=>?_,λx fs C od F' H' g hR er=>qx x fs C od M F' H' g.toM hR er (rm.grow g)];have np:p∉aj M:=λz=>rm.here z hH;have m1:=rm.grow g;refine q _ _ _ F' H' #[g.ff,g.fh,λb o _ e=>g.hh b o e,λb _ h1 h2=>g.out b h1 h2,λb hb=>?_] (hR p np) (rep_ptr.mpr rfl) #[Go.mpr #[np,m1.nd],λb o hb=>?_,λb hb=>?_]
 .rcases FL.mp hb with z|z
  .exact .inr (by rw[z];exact hH)
  .exact .inl z
 .rcases FL.mp hb with z|z
  .cases z;exact#[us,hu,ry]
  .exact m1.ok b o z
 .rcases FL.mp hb with z|z
  .rw[z];exact hF
  .exact m1.fr b z
end
variable{K:Ex}{H:Hp}{a:KF}
def lent{F F' H':Hp}{M:MS}{o:HO}(rm:RepM K F H M)(ha:a∈aj M)(g:Grow (upd F a o) H F' H'):F' a=be o/\Same F (cutF F' a)/\Same (cutF F' a) H'/\(∀b,F b=r_->H b≠r_->cutF F' a b=r_)/\RepM K (cutF F' a) H' M:=by
 have fa:=rm.fr a ha;have ff:Same F (cutF F' a):=λb u e=>by
  have ne:b≠a:=λz=>by rw[z,fa]at e;cases e
  rw[fR ne];exact g.ff b u (by rw[ay ne];exact e)
 have out:∀b,F b=r_->H b≠r_->cutF F' a b=none:=λb h1 h2=>by
  by_cases hb:b=a
  .subst hb;exact if_pos rfl
  .rw[fR hb];exact g.out b (by rw[ay hb];exact h1) h2
 refine#[g.ff a _ aG,ff,λb u e=>?_,out,rm.nd,λb u hb=>(rm.ok b u hb).mono ff λo e=>g.hh b o e,λb hb=>out b (rm.fr b hb) (rm.here hb)];by_cases hb:b=a
 .subst hb;unfold cutF at e;rw[if_pos rfl]at e;cases e
 .rw[fR hb]at e;exact g.fh b u e
def lent_same{F:Hp}{o:HO}(fh:Same F H)(h:H a=be o):Same (upd F a o) H:=λb u e=>by
 by_cases hb:b=a
 .subst hb;rw[aG]at e;cases e;exact h
 .rw[ay hb]at e;exact fh b u e
def lendN(S:SpN):SpM:=λds M R _=>∃a x fs,mget M a=be (.ins x fs)/\S (ds.map (ck a (.obj x fs))) (λxs=>flats xs=true/\∀p,p∉aj M->R (.ptr p) ((p,.lst xs)::M)) λ_ _=>False
variable{vs:List V}
def CZ{S:SpN}{Q:VK}{E:XK}(h:lSpM K (lendN S) vs H Q E):lSpN K S vs H Q E:=by
 obtain⟨F,ds,M,fh,rs,rm,R,RX,⟨a,x,fs,hm,hS⟩,q,qx⟩:=h;have ma:=bn hm;obtain⟨C,dx,ws,n,hH,rf⟩:=rm.ok _ _ ma;have fa:=rm.fr a (bt ma);have g:Same F (upd F a (.ins C dx ws)):=aP fa _;have ro:Rep K (upd F a (.ins C dx ws)) (.obj x fs) (.ref a):=by
  unfold Rep;exact#[a,C,dx,ws,rfl,n,aG,RepF.mono g fs ws rf]
 refine#[upd F a (.ins C dx ws),_,lent_same fh hH,sS g ro rs,_,_,hS,λxs p us F' H' g' hF hH hu ry hR=>?_,λ_ _ _ _ _ _ _ z=>z.elim];obtain⟨ea,ff,MX,out,m1⟩:=lent rm (bt ma) g';have np:p∉aj M:=λz=>rm.here z hH;have hp:cutF F' a p=none:=by
  unfold cutF;split
  .rfl
  .exact hF
 refine q _ _ _ (cutF F' a) H' #[ff,MX,λb o _ e=>g'.hh b o e,λb _ h1 h2=>out b h1 h2,λb hb=>?_] (hR.2 p np) (rep_ptr.mpr rfl) #[Go.mpr #[np,m1.nd],λb o hb=>?_,λb hb=>?_]
 .rcases FL.mp hb with z|z
  .exact .inr (by rw[z];exact hH)
  .exact .inl z
 .rcases FL.mp hb with z|z
  .cases z;exact#[us,hu,Reps.cutF ea xs us hR.1 ry]
  .exact m1.ok b o z
 .rcases FL.mp hb with z|z
  .rw[z];exact hp
  .exact m1.fr b z
def lendL(S:SpD):SpM:=λds M R _=>∃a xs N,mget M a=be (.lst xs)/\subM N M/\S (ds.map (ck a (.lst xs))) λd=>kdB d λb=>R (.bl b) N
def C0{S:SpD}{Q:VK}{E:XK}(h:lSpM K (lendL S) vs H Q E):lSp K S vs H Q E:=by
 obtain⟨F,ds,M,fh,rs,rm,R,RX,⟨a,xs,N,hm,sN,hS⟩,q,qx⟩:=h;have ma:=bn hm;obtain⟨us,hH,ru⟩:=rm.ok _ _ ma;have g:Same F (upd F a (.lst us)):=aP (rm.fr a (bt ma)) _;refine#[upd F a (.lst us),_,lent_same fh hH,sS g (rep_lst.mpr #[a,us,rfl,aG,ru.mono g]) rs,_,hS,λd v F' H' g' hd rd=>?_];obtain⟨b,rfl,hb⟩:=kdB.of hd;obtain⟨ea,ff,MX,out,m1⟩:=lent rm (bt ma) g';exact q _ v N (cutF F' a) H' #[ff,MX,λb o _ e=>g'.hh b o e,λb _ h1 h2=>out b h1 h2,λb z=>.inl (sN.keys z)] hb (rep_bl.mpr (rep_bl.mp rd)) (m1.sub sN)
def fY{o:D}:ck a o (.ptr a)=o:=if_pos rfl
section
variable {P:Q5}{w:Q_}{K:Ex}{mg:A_->Option KB}{base:Rc}{n:Nat}{x:A_}{ps:List A_}
abbrev CalNL(P:Q5)(w:Q_)(K:Ex)(mg:A_->Option KB)(base:Rc)(n:Nat)(x:A_)(ps:List A_)(S:SpN):Prop:=Cal P w K mg base n x ps (lSpN K S)
def CalNL.new{S:SpN}(C:CalNL P w K mg base n x ps S):CalMM P w K mg base n x ps (newN S):=Cal.imp C λ_ _ _ _ h=>CY h
def CalMth.lendN{m:A_}{S:SpN}(C:CalMth P w K mg base n x m ps (lSpN K S)):CalMth P w K mg base n x m ps (lSpM K (My.lendN S)):=C.imp λ_ _ _ _ h=>CZ h
def CalD.lendL{S:SpD}(C:CalD P w K mg base n x ps S):CalMM P w K mg base n x ps (My.lendL S):=Cal.imp C λ_ _ _ _ h=>C0 h
end
abbrev Bx.NL(V:Bx)(n:Nat)(x:A_)(ps:List A_)(S:SpN):Prop:=CalNL V.P V.w V.K V.mg V.base n x ps S
abbrev Bx.QN(V:Bx)(n:Nat)(x m:A_)(ps:List A_)(S:SpN):Prop:=CalMth V.P V.w V.K V.mg V.base n x m ps (lSpN V.K S)
end My
end
section
namespace My
local macro_rules | `(tactic| k_memK) => `(tactic| exact⟨rfl, rfl, rfl, by decide +kernel, rfl, by decide +kernel, by decide +kernel⟩)
local macro_rules | `(tactic| k_places) => `(tactic| try simp only[F5, F6, My.aS])
open PySem PySem.Spec PyProof.Rows L2
def top(i:Nat):Stmt:=PySem.Challenge.pw_motiffield_k29_lay.main.body.getD i (.Pass #[0,0,0,0])
abbrev kR:Q6:=top 55
abbrev kS:List Str:=["_law_script","_law_k"]
def C1:FnScope ["_law_script","_law_k"] kS (ah kR):=KC
abbrev kT:Q6:=top 57
abbrev kU:List Str:=["_law_script","_law_k","_law_many_here"]
def sc__law_draws:FnScope ["_law_script","_law_k","_law_many_here","_law_left","_law_drawn","_law_turn","_law_seed"] kU (ah kT):=KC
abbrev kW:Q6:=top 60
abbrev kX:List Str:=["_law_draws_here"]
def sc__law_lines:FnScope ["_law_draws_here","_law_wide","_law_tall","_law_signs","_law_lines_here","_law_j","_law_line","_law_i","_law_place","_law_value"] kX (ah kW):=KC
abbrev kY:Q6:=top 58
abbrev kZ:List Str:=["_law_draws_here"]
def sc__law_shift_pair:FnScope ["_law_draws_here","_law_a","_law_b","_law_c","_law_d"] kZ (ah kY):=KC
abbrev lf:Q6:=top 59
abbrev lh:List Str:=["_law_lines_here","_law_one","_law_two"]
def sc__law_motif_text:FnScope ["_law_lines_here","_law_one","_law_two","_law_tail"] lh (ah lf):=KC
abbrev ll:Q6:=top 61
abbrev lm:List Str:=["_law_script","_law_k"]
def sc__law_motif:FnScope ["_law_script","_law_k","_law_draws_here","_law_lines_here","_law_one","_law_two","_law_leaf"] lm (ah ll):=KC
abbrev ic:Q6:=top 62
abbrev lq:List Str:=["_law_part","_law_draw"]
def sc__law_wrapped:FnScope ["_law_part","_law_draw","_law_across","_law_down","_law_old","_law_new","_law_shift","_law_head","_law_ways","_law_by","_law_leaves","_law_leaf","_law_a","_law_b","_law_c","_law_d","_law_e","_law_f","_law_way","_law_hues"] lq (ah ic):=KC
abbrev lu:Q6:=top 66
abbrev lv:List Str:=["_law_a","_law_b"]
def sc__law_gcd:FnScope ["_law_a","_law_b"] lv (ah lu):=KC
abbrev lw:Q6:=top 63
abbrev lx:List Str:=["_law_one","_law_two","_law_u","_law_v"]
def sc__law_on:FnScope ["_law_one","_law_two","_law_u","_law_v","_law_size"] lx (ah lw):=KC
abbrev ly:Q6:=top 68
abbrev lz:List Str:=["_law_leaf"]
def sc__law_leaf_family:FnScope ["_law_leaf","_law_a","_law_b","_law_c","_law_d","_law_e","_law_f","_law_one","_law_two","_law_high","_law_wide","_law_lean"] lz (ah ly):=KC
abbrev lC:Q6:=top 67
abbrev lD:List Str:=["_law_three","_law_x","_law_y"]
def C3:FnScope ["_law_three","_law_x","_law_y"] lD (ah lC):=KC
abbrev lF:Q6:=top 69
abbrev lG:List Str:=["_law_one","_law_two"]
def sc__law_both:FnScope ["_law_one","_law_two","_law_wide","_law_high","_law_x"] lG (ah lF):=KC
abbrev lH:Q6:=top 70
abbrev lJ:List Str:=["_law_leaves"]
def sc__law_family:FnScope ["_law_leaves","_law_both_here","_law_leaf"] lJ (ah lH):=KC
abbrev lK:Q6:=top 71
abbrev lL:List Str:=["_law_upper","_law_lower"]
def sc__law_over:FnScope ["_law_upper","_law_lower","_law_leaves"] lL (ah lK):=KC
abbrev lM:Q6:=top 72
abbrev lP:List Str:=["_law_script","_law_k"]
def sc__law_pattern:FnScope ["_law_script","_law_k","_law_plan","_law_part","_law_turn","_law_step","_law_other"] lP (ah lM):=KC
abbrev lQ:Q6:=top 64
abbrev lR:List Str:=["_law_leaf","_law_x","_law_y"]
def sc__law_leaf_shows:FnScope ["_law_leaf","_law_x","_law_y","_law_way","_law_u","_law_v","_law_j","_law_i"] lR (ah lQ):=KC
abbrev lU:Q6:=top 65
abbrev lV:List Str:=["_law_leaves","_law_x","_law_y"]
def sc__law_shows:FnScope ["_law_leaves","_law_x","_law_y","_law_leaf","_law_hue"] lV (ah lU):=KC
abbrev ie:Q6:=top 75
abbrev lW:List Str:=["_law_leaves","_law_wide","_law_high"]
def sc__law_floor_rows:FnScope ["_law_leaves","_law_wide","_law_high","_law_lines_here","_law_y"] lW (ah ie):=KC
abbrev lX:Q6:=top 79
abbrev lY:List Str:=["_law_draw","_law_left"]
def C4:FnScope ["_law_draw","_law_left"] lY (ah lX):=KC
abbrev lZ:Q6:=aQ (top 53) 1
abbrev md:List Str:=["self","word"]
def C5:FnScope ["self","word"] md (ah lZ):=KC
abbrev me:Q6:=top 30
abbrev mf:List Str:=["x","y"]
def C6:FnScope ["x","y"] mf (ah me):=KC
abbrev mi:Q6:=top 12
abbrev mj:List Str:=["family","x","y"]
def sc_home:FnScope ["family","x","y","width","height","slant"] mj (ah mi):=KC
abbrev ig:Q6:=aQ (top 19) 2
abbrev cq:List Str:=["self","x","y"]
def C7:FnScope ["self","x","y"] cq (ah ig):=KC
abbrev ii:Q6:=aQ (top 20) 2
abbrev ij:List Str:=["self","x","y"]
def sc_Over_shows:FnScope ["self","x","y","hue"] ij (ah ii):=KC
abbrev ik:Q6:=aQ (top 21) 2
abbrev il:List Str:=["self","x","y"]
def C8:FnScope ["self","x","y"] il (ah ik):=KC
abbrev im:Q6:=aQ (top 22) 2
abbrev io:List Str:=["self","x","y"]
def C9:FnScope ["self","x","y"] io (ah im):=KC
abbrev ip:Q6:=aQ (top 23) 2
abbrev iq:List Str:=["self","x","y"]
def Da:FnScope ["self","x","y"] iq (ah ip):=KC
abbrev ir:Q6:=aQ (top 24) 2
abbrev iu:List Str:=["self","x","y"]
def sc_Rehue_shows:FnScope ["self","x","y","hue"] iu (ah ir):=KC
abbrev ml:Q6:=top 31
abbrev mm:List Str:=["pattern","x","y"]
def Db:FnScope ["pattern","x","y"] mm (ah ml):=KC
abbrev iw:Q6:=top 32
abbrev mn:List Str:=["pattern","x","y","many"]
def Dc:FnScope ["pattern","x","y","many"] mn (ah iw):=KC
abbrev iy:Q6:=aQ (top 53) 7
abbrev mo:List Str:=["self"]
def Dd:FnScope ["self"] mo (ah iy):=KC
abbrev mv:Q6:=aQ (top 53) 3
abbrev iz:List Str:=["self","many"]
def sc_Floor_lay:FnScope ["self","many","ahead"] iz (ah mv):=KC
abbrev mx:Q6:=top 78
abbrev my:List Str:=["_law_floor","_law_many_here","_law_bare"]
def sc__law_lay:FnScope ["_law_floor","_law_many_here","_law_bare","_law_found","_law_refused"] my (ah mx):=KC
abbrev mz:Q6:=top 74
abbrev mB:List Str:=["_law_found","_law_due"]
def sc__law_texts:FnScope ["_law_found","_law_due","_law_k"] mB (ah mz):=KC
abbrev mC:Q6:=top 56
abbrev mD:List Str:=["_law_found"]
def De:FnScope ["_law_found"] mD (ah mC):=KC
abbrev mF:Q6:=top 73
abbrev mG:List Str:=["_law_found","_law_due"]
def sc__law_seven:FnScope ["_law_found","_law_due","_law_k"] mG (ah mF):=KC
abbrev mH:Q6:=top 76
abbrev mI:List Str:=["_law_lines_here"]
def sc__law_counts:FnScope ["_law_lines_here","_law_found","_law_line","_law_sign"] mI (ah mH):=KC
abbrev iA:Q6:=top 33
abbrev mJ:List Str:=["pattern"]
def Df:FnScope ["pattern"] mJ (ah iA):=KC
abbrev mK:Q6:=top 34
abbrev mL:List Str:=["family","rows","x","y"]
def sc_round_row:FnScope ["family","rows","x","y","cell","row"] mL (ah mK):=KC
abbrev mM:Q6:=top 36
abbrev mN:List Str:=["row","sign","many"]
def Dg:FnScope ["row","sign","many"] mN (ah mM):=KC
abbrev iB:Q6:=top 37
abbrev mQ:List Str:=["pattern","left","top","right","bottom"]
def sc_count_all:FnScope ["pattern","left","top","right","bottom","family","rows","many","again","counts","y","times","row","hue","sign"] mQ (ah iB):=KC
abbrev mR:Q6:=aQ (top 53) 8
abbrev mU:List Str:=["self"]
def Dh:FnScope ["self"] mU (ah mR):=KC
abbrev mV:Q6:=aQ (top 53) 9
abbrev mW:List Str:=["self"]
def Di:FnScope ["self"] mW (ah mV):=KC
abbrev mY:Q6:=aQ (top 53) 6
abbrev mZ:List Str:=["self"]
def Dj:FnScope ["self"] mZ (ah mY):=KC
abbrev ng:Q6:=top 77
abbrev nh:List Str:=["_law_floor","_law_text","_law_size","_law_laid","_law_rest","_law_many_here"]
def sc__law_view:FnScope ["_law_floor","_law_text","_law_size","_law_laid","_law_rest","_law_many_here","_law_found"] nh (ah ng):=KC
abbrev nj:Q6:=aQ (top 41) 1
abbrev nq:List Str:=["self","allowed"]
def Dk:FnScope ["self","allowed"] nq (ah nj):=KC
abbrev nt:Q6:=aQ (top 41) 2
abbrev nu:List Str:=["self","allowed"]
def sc_Reading_take:FnScope ["self","allowed","sign"] nu (ah nt):=KC
abbrev nv:Q6:=top 44
abbrev nw:List Str:=["reading","least","most"]
def sc_line_from:FnScope ["reading","least","most","line","column"] nw (ah nv):=KC
abbrev ny:Q6:=top 45
abbrev nz:List Str:=["reading"]
def sc_lines_from:FnScope ["reading","lines","width"] nz (ah ny):=KC
abbrev nA:Q6:=top 42
abbrev nB:List Str:=["reading"]
def sc_number_from:FnScope ["reading","written"] nB (ah nA):=KC
abbrev nC:Q6:=top 43
abbrev nD:List Str:=["reading"]
def sc_shift_from:FnScope ["reading","x"] nD (ah nC):=KC
abbrev nE:Q6:=top 9
abbrev nF:List Str:=["first","second"]
def sc_levelled:FnScope ["first","second","times","rest"] nF (ah nE):=KC
abbrev nG:Q6:=top 11
abbrev nH:List Str:=["first","second"]
def sc_spread:FnScope ["first","second","pair","width"] nH (ah nG):=KC
abbrev nI:Q6:=top 18
abbrev nJ:List Str:=["lines","family"]
def sc_hues_by_home:FnScope ["lines","family","hues","row","line","column","sign"] nJ (ah nI):=KC
abbrev nK:Q6:=aQ (top 19) 0
abbrev nM:List Str:=["self","place","lines","first","second"]
def Dl:FnScope ["self","place","lines","first","second"] nM (ah nK):=KC
abbrev nN:Q6:=top 46
abbrev nO:List Str:=["reading"]
def sc_motif_from:FnScope ["reading","place","lines","first","second"] nO (ah nN):=KC
abbrev nP:Q6:=aQ (top 22) 0
abbrev nQ:List Str:=["self","form"]
def Dm:FnScope ["self","form"] nQ (ah nP):=KC
abbrev nR:Q6:=aQ (top 23) 0
abbrev nS:List Str:=["self","form"]
def Dn:FnScope ["self","form"] nS (ah nR):=KC
abbrev nU:Q6:=aQ (top 20) 0
abbrev nV:List Str:=["self","above","below"]
def Do:FnScope ["self","above","below"] nV (ah nU):=KC
abbrev nW:Q6:=aQ (top 21) 0
abbrev nX:List Str:=["self","form","x","y"]
def Dp:FnScope ["self","form","x","y"] nX (ah nW):=KC
abbrev nY:Q6:=aQ (top 24) 0
abbrev nZ:List Str:=["self","form","old","new"]
def Dq:FnScope ["self","form","old","new"] nZ (ah nY):=KC
abbrev iC:Q6:=top 47
abbrev fZ:List Str:=["reading","around"]
def sc_over_from:FnScope ["reading","around","above","below"] fZ (ah iC):=KC
abbrev iD:Q6:=top 48
abbrev gb:List Str:=["reading","around"]
def sc_shifted_from:FnScope ["reading","around","shift"] gb (ah iD):=KC
abbrev iE:Q6:=top 49
abbrev gc:List Str:=["reading","around"]
def sc_rehue_from:FnScope ["reading","around","old","new"] gc (ah iE):=KC
abbrev iF:Q6:=top 50
abbrev cB:List Str:=["reading","around"]
def sc_form_from:FnScope ["reading","around","sign"] cB (ah iF):=KC
abbrev oa:Q6:=aQ (top 41) 0
abbrev og:List Str:=["self","text"]
def Dr:FnScope ["self","text"] og (ah oa):=KC
abbrev oh:Q6:=aQ (top 40) 0
abbrev oi:List Str:=["self","text","shifts","form"]
def Ds:FnScope ["self","text","shifts","form"] oi (ah oh):=KC
abbrev oj:Q6:=top 10
abbrev ol:List Str:=["one","two"]
def sc_measure:FnScope ["one","two","last"] ol (ah oj):=KC
abbrev om:Q6:=top 13
abbrev oq:List Str:=["one","two"]
def sc_met:FnScope ["one","two","common","width","rise","start","gap","climbs","steps"] oq (ah om):=KC
abbrev ot:Q6:=top 14
abbrev ou:List Str:=["family"]
def Dt:FnScope ["family"] ou (ah ot):=KC
abbrev ow:Q6:=top 15
abbrev oy:List Str:=["family"]
def Du:FnScope ["family"] oy (ah ow):=KC
abbrev iG:Q6:=aQ (top 19) 1
abbrev cr:List Str:=["self"]
def Dv:FnScope ["self"] cr (ah iG):=KC
abbrev iH:Q6:=aQ (top 20) 1
abbrev iI:List Str:=["self"]
def sc_Over_family:FnScope ["self","first"] iI (ah iH):=KC
abbrev iJ:Q6:=aQ (top 21) 1
abbrev iK:List Str:=["self"]
def Dw:FnScope ["self"] iK (ah iJ):=KC
abbrev iL:Q6:=aQ (top 22) 1
abbrev iM:List Str:=["self"]
def Dx:FnScope ["self"] iM (ah iL):=KC
abbrev iN:Q6:=aQ (top 23) 1
abbrev iO:List Str:=["self"]
def Dy:FnScope ["self"] iO (ah iN):=KC
abbrev iP:Q6:=aQ (top 24) 1
abbrev iQ:List Str:=["self"]
def Dz:FnScope ["self"] iQ (ah iP):=KC
abbrev oz:Q6:=top 51
abbrev oA:List Str:=["text"]
def sc_read:FnScope ["text","reading","form","family"] oA (ah oz):=KC
abbrev oB:Q6:=aQ (top 53) 0
abbrev oC:List Str:=["self","text","width","height"]
def DB:FnScope ["self","text","width","height"] oC (ah oB):=KC
abbrev iR:Q6:=top 80
abbrev oE:List Str:=["_law_script"]
def sc_law:FnScope ["_law_script","_law_part","_law_wide","_law_high","_law_lines_here","_law_floor","_law_laid","_law_deeds","_law_draw","_law_many_here","_law_refused","_law_found","_law_told"] oE (ah iR):=KC
def nown(z:SD):Bool:=z.all λo=>match o with|some (.own _)=>false|_=>true
def NoOwn.of{z:SD}(h:nown z=true):NoOwn z:=λi ds e=>by
 have:=Gy.mp h _ (GP e);cases this
structure Deed where
 w:A_
 p:Pat
 d:D
 l:Int
def Deed.D(e:Deed):My.D:=.tup [.str e.w,e.d,.int e.l]
structure Fl where
 p:Pat
 d:D
 w:Int
 h:Int
 l:Int
 ds:List Deed
def Fl.fs(f:Fl)(q:KF):List (A_×D):=[("pattern",f.d),("text",.str f.p.text),("width",.int f.w),("height",.int f.h),("laid",.int f.l),("deeds",.ptr q)]
def Fl.M(f:Fl)(a q:KF):MS:=[(q,.lst (f.ds.map Deed.D)),(a,.ins "Floor" (f.fs q))]
variable{a:KF}{o:MO}
def cC{p:KF}{M:MS}(h:p≠a):mget ((p,o)::M) a=mget M a:=if_neg h
def bi{M:MS}:mget ((a,o)::M) a=be o:=if_pos rfl
def cM{p:KF}{o':MO}{M:MS}(h:p≠a):mput ((p,o)::M) a o'=(p,o)::mput M a o':=if_neg h
def bT{o':MO}{M:MS}:mput ((a,o)::M) a o'=(a,o')::M:=if_pos rfl
variable{f:Fl}{q:KF}
def Fl.ma(h:a≠q):mget (f.M a q) a=be (.ins "Floor" (f.fs q)):=(cC (Ne.symm h)).trans bi
def Fl.mq:mget (f.M a q) q=be (.lst (f.ds.map Deed.D)):=bi
def Fl.put(h:a≠q):mput (f.M a q) a o=[(q,.lst (f.ds.map Deed.D)),(a,o)]:=(cM (Ne.symm h)).trans (congrArg _ bT)
def iS:(f.fs q).lookup ("pattern":A_)=be f.d:=rfl
def vf:(f.fs q).lookup ("text":A_)=be (.str f.p.text):=rfl
def gf:(f.fs q).lookup ("width":A_)=be (.int f.w):=rfl
def iT:(f.fs q).lookup ("height":A_)=be (.int f.h):=rfl
def fg:(f.fs q).lookup ("laid":A_)=be (.int f.l):=rfl
def vg:(f.fs q).lookup ("deeds":A_)=be (.ptr q):=rfl
structure Fl.Ok(f:Fl):Prop where
 is:cn f.p f.d
 ok:f.p.Ok
 w1:1<=f.w
 w2:f.w<=30
 h1:1<=f.h
 h2:f.h<=30
 l0:0<=f.l
 l1:f.l<=f.h
 de:f.ds.length<=20
 dd:∀e∈f.ds,cn e.p e.d/\e.p.Ok/\0<=e.l/\e.l<=f.h
def Fl.keep(f:Fl)(w:A_):Fl:={f with ds:=(f.ds++[Deed.mk w f.p f.d f.l]).drop (f.ds.length+1-20)}
def Fl.lay(f:Fl)(n:Int):Fl:={f.keep "lay" with l:=f.l+n}
def subM.refl{M:MS}(h:(aj M).Nodup):subM M M:=#[λ_ h=>h,h]
def Fl.nd(h:a≠q):(aj (f.M a q)).Nodup:=by
 show[q,a].Nodup;simp[Ne.symm h]
def Fl.sub(h:a≠q):subM (f.M a q) (f.M a q):=subM.refl (Fl.nd h)
def DC(xs:List D):cutD xs (be (-20)) r_=xs.drop (xs.length-20):=by
 have e:HT.sIx xs.length 0 (be (-20))=xs.length-20:=by
  unfold HT.sIx;simp;lia
 unfold cutD;rw[e,show HT.sIx xs.length xs.length r_=xs.length from rfl];exact GV JU
def aw(p:Pat)(w lo:Int)(n:Nat):List D:=(FN n).map λ(j:Nat)=>D.str (aK p 0 (lo+(j:Int)) w.toNat)
def oF(p:Pat)(w lo:Int)(n:Nat):aw p w lo n++[D.str (aK p 0 (lo+(n:Int)) w.toNat)]=aw p w lo (n+1):=by
 unfold aw;rw[G4,Gh];rfl
def DD(p:Pat)(w lo:Int)(n:Nat):bZ (.lst (aw p w lo n))=true:=by
 unfold bZ;induction n with
 |zero=>rfl
 |succ n ih=>
  rw[<-oF];have:∀xs:List D,flats xs=true->flats (xs++[D.str (aK p 0 (lo+(n:Int)) w.toNat)])=true:=λxs=>by
   induction xs with
   |nil=>intro _;rfl
   |cons x xs ih=>intro h;unfold flats at h;rw[Gf]at h;show flats (x::(xs++_))=true;unfold flats;rw[h.1,ih h.2];rfl
  exact this _ ih
def vh(p:Pat)(w:Int){l:Int}(n:Nat)(l0:0<=l):cutD (aw p w 0 (l.toNat+n)) (be l) r_=aw p w l n:=by
 have hl:(aw p w 0 (l.toNat+n)).length=l.toNat+n:=by unfold aw;simp
 have e:HT.sIx (l.toNat+n) 0 (be l)=l.toNat:=by
  unfold HT.sIx;simp only;rw[if_neg JM];lia
 unfold cutD;rw[hl,e,show HT.sIx (l.toNat+n) (l.toNat+n) r_=l.toNat+n from rfl];unfold aw;apply GI;intro i;by_cases h:i<n
 .rw[Hk JM,HS,FS,FS,Gq JM,Gq h];simp;congr 1;lia
 .rw[Gk Oa,Gk Oa]
def due7(p:Pat)(left top:Int)(m:Nat)(n k:Nat):List Int:=(FN 7).map λ(v:Nat)=>cA p v left top m n+cntN (λi=>p.show (left+i) (top+n)) v k
variable{p:Pat}
def DF(ok:p.Ok)(left top:Int)(m n k:Nat):∃u:Nat,u<7/\p.show (left+k) (top+n)=(u:Int)/\(due7 p left top m n k)[u]?=be (cA p u left top m n+cntN (λi=>p.show (left+i) (top+n)) u k)/\((due7 p left top m n k).map D.int).set u (D.int (cA p u left top m n+cntN (λi=>p.show (left+i) (top+n)) u k+1))=(due7 p left top m n (k+1)).map D.int:=by
 have b:=Pat.show_le ok.wf (by have:=ok.deep;lia) (left+k) (top+n);obtain⟨u,hu⟩:∃u:Nat,p.show (left+k) (top+n)=(u:Int):=#[(p.show (left+k) (top+n)).toNat,JM];have u7:u<7:=JM
 have cs:∀v:Int,cntN (λi=>p.show (left+i) (top+n)) v (k+1)=cntN (λi=>p.show (left+i) (top+n)) v k+if p.show (left+k) (top+n)=v then 1 else 0:=λv=>rfl
 refine#[u,u7,hu,by unfold due7;simp[u7],?_];unfold due7;rw[G7,G7];have:=uu (n:=7) (i:=u) (λ(v:Nat)=>D.int (cA p v left top m n+cntN (λi=>p.show (left+i) (top+n)) v k)) (λ(v:Nat)=>D.int (cA p v left top m n+cntN (λi=>p.show (left+i) (top+n)) v (k+1))) (λv hv ne=>by
  show D.int _=D.int _;rw[cs,hu,if_neg JM,Hb])
 refine Eq.trans ?_ this;show List.set _ u _=List.set _ u _;rw[cs,hu,if_pos rfl,HW];rfl
def DG(p:Pat)(left top:Int)(m n:Nat):due7 p left top m n m=due7 p left top m (n+1) 0:=by
 unfold due7;apply G5;intro v _;show _=(cA p v left top m n+_)+0;rw[Hb]
def DJ(p:Pat)(left top:Int)(m n:Nat):due7 p left top m n 0=bO p left top m n:=by
 unfold due7 bO;apply G5;intro v _;show _+0=_;rw[Hb]
variable{w lo:Int}{n k:Nat}
def DK{v:D}(h:(aw p w lo n)[k]?=be v):k<n/\v=.str (aK p 0 (lo+(k:Int)) w.toNat):=by
 have hk:k<n:=by have:=(FU.mp h).1;unfold aw at this;simpa using this
 unfold aw at h;simp[hk]at h;exact#[hk,h.symm]
def DL{h:Int}(h0:0<=h)(h6:h<=6):aX h<128:=by unfold aX;split<;>lia
def DM(ok:p.Ok)(x y:Int)(n:Nat):(aK p x y n).cps.all (·<128)=true:=by
 rw[<-HE,Gy];intro c hc;have hc:c∈cs (aK p x y n):=hc;rw[dg]at hc;obtain⟨k,_,rfl⟩:=Gd.mp hc;have b:=Pat.show_le ok.wf (by have:=ok.deep;lia) (x+(k:Int)) y;exact decide_eq_true (DL b.1 b.2)
def DN{y:Int}{v:D}(h:(bG (aK p 0 y n))[k]?=be v):k<n/\v=.str #[[aX (p.show (0+(k:Int)) y)].toArray]:=by
 unfold bG at h;have hk:k<n:=by have:=(FU.mp h).1;rwa [FP,show(aK p 0 y n).cps.toList.length=n by show(cs (aK p 0 y n)).length=n;rw[dg];simp]at this
 rw[FS,show(aK p 0 y n).cps.toList=(FN n).map λ(k:Nat)=>aX (p.show (0+(k:Int)) y)from dg p 0 y n]at h;simp[hk]at h;exact#[hk,by rw[<-h,G9]]
def DO{u:Nat}(h:u<7):∃b7,Builtin.Str.occurrences ".123456" #[[aX (u:Int)].toArray] 0 (".123456":A_).length 1=u::b7:=by
 rcases(JM:u=0\/u=1\/u=2\/u=3\/u=4\/u=5\/u=6)with e|e|e|e|e|e|e<;>subst e<;>exact#[[],JT]
def DP(h:k<n):atI (aw p w lo n) (k:Int)=be (.str (aK p 0 (lo+(k:Int)) w.toNat)):=ce (by unfold aw;simp[h])
def DQ(h:k<=n):cutD (aw p w lo n) r_ (be (k:Int))=aw p w lo k:=by
 have hl:(aw p w lo n).length=n:=by unfold aw;simp
 have e:HT.sIx n n (be (k:Int))=k:=by
  unfold HT.sIx;simp only;rw[if_neg JM];lia
 unfold cutD;rw[hl,e,show HT.sIx n 0 r_=0 from rfl,HU];unfold aw;rw[<-IY,IZ,IW,G1 h]
def vi{w:A_}(h:f.ds.length<=19):(f.keep w).ds=f.ds++[Deed.mk w f.p f.d f.l]:=by
 show(f.ds++[_]).drop _=_;rw[show f.ds.length+1-20=0 by lia];rfl
def oG{M:MS}{e:KF×MO}(h:(aj M).Nodup):subM M (e::M):=#[λ_ h=>FM _ h,h]
def vj{p:KF}{M:MS}(h:p∉aj M)(ha:a∈aj M):mget ((p,o)::M) a=mget M a:=cC λe=>h (e ▸ ha)
variable{xs:List My.D}
def ix0{d:D}:ixN (xs++[d]).length 0=be 0:=by unfold ixN;simp
def oH{d e:D}(h:xs.length<=n+k):((xs++[d]).set 0 e).length<=n+(k+1):=by rw[Gx,FV,G3];lia
def DR{l n h:Int}(l0:0<=l)(n0:0<=n)(hn:l+n<=h):cutD (aw p w 0 h.toNat) (be l) (be (l+n))=aw p w l n.toNat:=by
 have hl:(aw p w 0 h.toNat).length=h.toNat:=by unfold aw;simp
 have e1:HT.sIx h.toNat 0 (be l)=l.toNat:=by
  unfold HT.sIx;simp only;rw[if_neg JM];lia
 have e2:HT.sIx h.toNat h.toNat (be (l+n))=(l+n).toNat:=by
  unfold HT.sIx;simp only;rw[if_neg JM];lia
 unfold cutD;rw[hl,e1,e2];unfold aw;apply GI;intro i;by_cases h:i<n.toNat
 .rw[Hk JM,HS,FS,FS,Gq JM,Gq h];simp;congr 1;lia
 .rw[Gk Oa,Gk Oa]
section
variable {V:Bx}
abbrev iU(V:Bx):Prop:=V.D 1 "_law_at" kS AK
def DU(T:V.T "_law_at" kR kS)(uB:V.m "len"):iU V:=by
 refine Tx.okDW T C1 (λds R h=>?_) (λf cdv A outer s H E J hr=>⟨_,((ai (br (fD (aa 1) (cj uB (ac (aa 0) ae))) (au (aD (af (aa 0) (aa 1)))) bc)
   (au (aD ad)))),λds R h=>?_⟩)
 .obtain⟨ns,k,rfl,_⟩:=h;rfl
 .obtain⟨ns,k,rfl,hk,hR⟩:=h;refine ite2 (λc=>?_) (λc=>?_)
  .have c':=of_decide_eq_true c;rw[FP]at c';exact#[_,sY hk c',hR]
  .have c':=of_decide_eq_false (Gi.mpr c);rw[FP]at c';rw[AJ JM]at hR;exact hR
abbrev gh(V:Bx):Prop:=V.D 2 "_law_draws" kU AX
def DV(T:V.T "_law_draws" kT kU)(uA:V.m "range")(t7:iU V):gh V:=by
 refine Tx.okDW T sc__law_draws (λds R h=>?_) (λf cdv A outer s H E J hr=>⟨_,((ai (aq 3 sc__law_draws.nd (aC t7 hr (ac (aa 0) (ac (aa 1) ae))))
   (ai (fL 4 sc__law_draws.nd ae)
   (ai (br (bq (az (aC t7 hr (ac (aa 0) (ac (ao (aa 1) ad) ae))) ad) ad) (ai (cy 5 PassesOwn.never rfl sc__law_draws.nd uA (aa 2) (ai (fM 4 (az (aa 3) ad))
     (au (aq 3 sc__law_draws.nd (aR (aa 3) ad)))))
    (dY 4 (au (aD (aa 4))))) bc)
   (ai (aq 6 sc__law_draws.nd (az (ao (aa 3) ad) ad))
   (ai (cy 5 PassesOwn.never rfl sc__law_draws.nd uA (aa 2) (ai (aq 6 sc__law_draws.nd (az (ao (ao (ax (aa 6) ad) (aC t7 hr (ac (aa 0) (ac (ao (ao (aa 1) ad) (az (aa 5) ad)) ae)))) (aa 5)) ad))
    (au (fM 4 (az (az (ax (aa 6) ad) ad) ad)))))
   (dY 4 (au (aD (aa 4)))))))))),λds R h=>?_⟩)
 .obtain⟨_,_,_,rfl,_⟩:=h;rfl
 .obtain⟨ns,k,n,rfl,hk,hn,hR⟩:=h;refine#[λd=>∃v:Int,d=.int v,#[ns,k,rfl,hk,_,rfl],?_];rintro _⟨left,rfl⟩;k_places;refine#[JU,?_];refine#[ns,k+1,rfl,JM,JQ,ite2 (λ_=>?_) (λ_=>?_)]
  .refine#[#[JM,JM],λi z=>∃(xs:List Int) (l:Int) (o p:Option D),z=[be (.rol (ns.map D.int)),be (.int k),be (.int n),be (.int l),be (.own (xs.map D.int)),o,p]/\xs.length=i/\Drawn xs,#[[],left,_,_,rfl,rfl,(λx hx=>by cases hx)],?_,?_]
   .rintro i x z hi⟨xs,l,o,p,rfl,hl,hd⟩;k_places;have v7:i<n:=by simpa using(FU.mp hi).1
    refine#[JQ,Oa,?_];refine#[λd=>∃v:Int,d=.int v,#[#[JQ,JQ],_,rfl],?_];rintro _⟨l',rfl⟩;k_places;rw[tm];exact#[_,l',_,_,rfl,by simp[hl],tw hd (cJ JQ) (cK JQ)]
   .rintro z⟨xs,l,o,p,rfl,hl,hd⟩;k_places;exact hR xs (by simpa using hl) hd
  .refine#[λd=>∃v:Int,d=.int v/\0<=v/\v<2147483647,#[JQ,_,rfl,cJ JQ,cK JQ],?_];rintro _⟨MY,rfl,s1,s2⟩;k_places;refine#[#[JM,JM],λi z=>∃(xs:List Int) (sd:Int) (o:Option D),z=[be (.rol (ns.map D.int)),be (.int k),be (.int n),be (.int left),be (.own (xs.map D.int)),o,be (.int sd)]/\xs.length=i/\Drawn xs/\0<=sd/\sd<2147483647,#[[],MY,_,rfl,rfl,(λx hx=>by cases hx),s1,s2],?_,?_]
   .rintro i x z hi⟨xs,sd,o,rfl,hl,hd,s1,s2⟩;k_places;have v7:i<n:=by simpa using(FU.mp hi).1
    have ex:x=.int (i:Int):=by simp[v7]at hi;exact hi.symm
    subst ex;refine#[λd=>∃v:Int,d=.int v/\0<=v/\v<2147483647,#[.inr #[JQ,JQ],JQ,ns,_,rfl,JM,JQ,_,rfl,cJ JQ,cK JQ],?_];rintro _⟨P0,rfl,t1,t2⟩;k_places;refine#[.inr #[JQ,JQ],JQ,JQ,Oa,?_];rw[tm];exact#[_,P0,_,rfl,by simp[hl],tw hd (cJ JQ) (cK JQ),t1,t2]
   .rintro z⟨xs,sd,o,rfl,hl,hd,_⟩;k_places;exact hR xs (by simpa using hl) hd
abbrev oI(V:Bx):Prop:=V.D 1 "_law_lines" kX A9
def DX(T:V.T "_law_lines" kW kX)(uA:V.m "range")(uB:V.m "len"):oI V:=by
 refine Tx.okDW T sc__law_lines (λds R h=>?_) (λf cdv A outer s H E J hr=>⟨_,((ai (aq 1 sc__law_lines.nd (ao ad (az (af (aa 0) ad) ad)))
   (ai (aq 2 sc__law_lines.nd (ao ad (az (af (aa 0) ad) ad)))
   (ai (fK (bq (az (af (aa 0) ad) ad) ad) (ai (aq 1 sc__law_lines.nd (ao ad (az (af (aa 0) ad) ad)))
    (au (aq 2 sc__law_lines.nd (ao ad (az (af (aa 0) ad) ad))))) bc)
   (ai (aq 3 sc__law_lines.nd (af (bw (ac aA (ac aA (ac aA (ac aA ae))))) (az (af (aa 0) ad) ad)))
   (ai (fL 4 sc__law_lines.nd ae)
   (ai (cy 5 PassesOwn.never rfl sc__law_lines.nd uA (aa 2) (ai (aq 6 sc__law_lines.nd aA)
    (ai (cy 7 PassesOwn.never rfl sc__law_lines.nd uA (aa 1) (ai (aq 8 sc__law_lines.nd (ao (ax (aa 5) (aa 1)) (aa 7)))
     (ai (aq 9 sc__law_lines.nd (az (aR (af (aa 0) (ao ad (aR (aa 8) ad))) (af (bw (ac ad (ac ad ae))) (az (aa 8) ad))) ad))
     (au (aq 6 sc__law_lines.nd (ao (aa 6) (af (aa 3) (az (aa 9) (cj uB (ac (aa 3) ae))))))))))
    (au (fM 4 (aa 6))))))
   (dY 4 (au (aD (aa 4))))))))))),λds R h=>?_⟩)
 .obtain⟨_,rfl,_⟩:=h;rfl
 .obtain⟨xs,rfl,hl,hd,hR⟩:=h;have w6:∀k:Nat,k<40->atI (xs.map D.int) (k:Int)=be (.int (cell xs k)):=λk hk=>cz JM (by simpa using(JM:k<xs.length));have a0:atI (xs.map D.int) 0=be (.int (cell xs 0)):=w6 0 JQ;have a1:atI (xs.map D.int) 1=be (.int (cell xs 1)):=w6 1 JQ;have a2:atI (xs.map D.int) 2=be (.int (cell xs 2)):=w6 2 JQ;have a3:atI (xs.map D.int) 3=be (.int (cell xs 3)):=w6 3 JQ;clear hl;refine#[λd=>∃v:Int,d=.int v/\1<=v/\v<=8,#[_,a0,JQ,_,rfl,JM],?_];rintro _⟨w0,rfl,QS⟩;k_places;refine#[λd=>∃v:Int,d=.int v/\1<=v/\v<=8,#[_,a1,JQ,_,rfl,JM],?_];rintro _⟨t0,rfl,QT⟩;k_places;refine#[λz=>∃w t:Nat,z=[be (.lst (xs.map D.int)),be (.int w),be (.int t),r_,r_,r_,r_,r_,r_,r_]/\(1<=w/\w<=8)/\(1<=t/\t<=8),#[_,a2,JQ,ite2 (λ_=>?_) (λ_=>?_)],?_]
  .refine#[λd=>∃v:Nat,d=.int v/\1<=v/\v<=8,#[_,a0,JQ,(1+cell xs 0%8).toNat,by rw[Gm JM],JM],?_];rintro _⟨w,rfl,hw⟩;k_places;refine#[λd=>∃v:Nat,d=.int v/\1<=v/\v<=8,#[_,a1,JQ,(1+cell xs 1%8).toNat,by rw[Gm JM],JM],?_];rintro _⟨t,rfl,ht⟩;k_places;exact#[w,t,rfl,hw,ht]
  .obtain⟨w,rfl⟩:∃w:Nat,w0=(w:Int):=#[w0.toNat,JM];obtain⟨t,rfl⟩:∃t:Nat,t0=(t:Int):=#[t0.toNat,JM];exact#[w,t,rfl,JM,JM]
  rintro _⟨w,t,rfl,hw,ht⟩;k_places;obtain⟨sg,es,hs⟩:=A5 (cell xs 3);refine#[λd=>d=.str sg,#[JU,_,a3,JQ,_,es,rfl],?_];rintro _ rfl;k_places;refine#[JU,?_];refine#[#[JM,JM],λk z=>∃(L:List A_) (o1 o2 o3 o4 o5:Option D),z=[be (.lst (xs.map D.int)),be (.int w),be (.int t),be (.str sg),be (.own (L.map D.str)),o1,o2,o3,o4,o5]/\L.length=k/\∀l∈L,l.length=w/\∀c∈cs l,bb c,#[[],_,_,_,_,_,rfl,rfl,(λx hx=>by cases hx)],?_,?_]
  .rintro j x z hj⟨L,o1,o2,o3,o4,o5,rfl,hL,K1⟩;k_places;have Kd:j<t:=by simpa using(FU.mp hj).1
   have ex:x=.int (j:Int):=by simp[Kd]at hj;exact hj.symm
   subst ex;refine#[λd=>d=.str "",rfl,?_];rintro _ rfl;k_places;refine#[#[JM,JM],λi z=>∃(ln:A_) (o3 o4 o5:Option D),z=[be (.lst (xs.map D.int)),be (.int w),be (.int t),be (.str sg),be (.own (L.map D.str)),be (.int j),be (.str ln),o3,o4,o5]/\ln.length=i/\∀c∈cs ln,bb c,#[_,_,_,_,rfl,rfl,(λc hc=>by rw[tz]at hc;cases hc)],?_,?_]
   .rintro i y z hi⟨ln,o3,o4,o5,rfl,LL,MZ⟩;k_places;have v7:i<w:=by simpa using(FU.mp hi).1
    have ey:y=.int (i:Int):=by simp[v7]at hi;exact hi.symm
    subst ey;have pb:=bJ (a:=(j:Int)) (d:=(w:Int)) (A:=7) (B:=8) JM JM;have pn:0<=(j:Int)*(w:Int):=HG JM JM;refine#[λd=>∃p:Nat,d=.int p/\p<=63,#[.inl #[JM,JM],((j:Int)*w+i).toNat,by rw[Gm JM],JM],?_];rintro _⟨p,rfl,hp⟩;k_places;obtain⟨m,em,hm⟩:=A6 (p:Int);have ap:=w6 (8+p/2) JM;have ec:((8+p/2:Nat):Int)=8+(p:Int)/2:=JM
    rw[ec]at ap;refine#[λd=>∃v:Int,d=.int v,#[#[JQ,JQ],_,ap,JU,JQ,_,em,#[JM,JM],JQ,_,rfl],?_];rintro _⟨v,rfl⟩;k_places;obtain⟨c,⟨h1,h2⟩,h3⟩:=AZ hs v;refine#[λd=>∃x:A_,d=.str x/\x.length=i+1/\∀c∈cs x,bb c,#[h1,by have:=hs.1;lia,c,#[h1,h2],?_,_,rfl,A7 LL MZ h3],?_]
    .rw[LL];show i+1<=1000000;lia
    rintro _⟨x,rfl,g1,g2⟩;k_places;exact#[x,_,_,_,rfl,g1,g2]
   .rintro z⟨ln,o3,o4,o5,rfl,LL,MZ⟩;k_places;have M4:ln.length=w:=by simpa using LL
    refine#[by simp[hL];lia,?_];rw[A8];refine#[_,_,_,_,_,_,rfl,by simp[hL],λl hl=>?_];rcases Ga.mp hl with q|q
    .exact K1 l q
    .rw[FJ.mp q];exact#[M4,MZ]
  .rintro z⟨L,o1,o2,o3,o4,o5,rfl,hL,K1⟩;k_places;exact hR L (Rows.of ht.1 ht.2 (by simpa using hL) hw.1 hw.2 K1)
abbrev oJ(V:Bx):Prop:=V.D 1 "_law_shift_pair" kZ AY
def DY(T:V.T "_law_shift_pair" kY kZ)(uD:V.m "int"):oJ V:=by
 refine Tx.okDW T sc__law_shift_pair (λds R h=>?_) (λf cdv A outer s H E J hr=>⟨_,((ai (br (bq (az (aR (af (aa 0) ad) ad) ad) ad) (au (aD (bw (ac (aN (ac (ao ad (az (af (aa 0) ad) ad)) (ac ad ae))) (ac (aN (ac ad (ac (ao ad (az (af (aa 0) ad) ad)) ae))) ae))))) bc)
   (ai (br (bq (az (aR (af (aa 0) ad) ad) ad) ad) (au (aD (bw (ac (aN (ac (ao ad (az (af (aa 0) ad) ad)) (ac ad ae))) (ac (aN (ac (bj (az (af (aa 0) ad) ad) ad) (ac (ao ad (az (af (aa 0) ad) ad)) ae))) ae))))) bc)
   (ai (aq 1 sc__law_shift_pair.nd (bj (az (af (aa 0) ad) ad) ad))
   (ai (aq 2 sc__law_shift_pair.nd (bj (az (af (aa 0) ad) ad) ad))
   (ai (aq 3 sc__law_shift_pair.nd (bj (az (af (aa 0) ad) ad) ad))
   (ai (aq 4 sc__law_shift_pair.nd (bj (az (af (aa 0) ad) ad) ad))
   (ai (aq 1 sc__law_shift_pair.nd (ao (aa 1) (gG uD (ac (fH (cF (aa 1) ad) (fG (cF (aa 2) ad))) ae))))
   (ai (br (bq (ax (aa 1) (aa 4)) (ax (aa 2) (aa 3))) (au (aD (bw (ac (aN (ac (aa 1) (ac (aa 2) ae))) (ac (aN (ac (bW (aa 2)) (ac (aa 1) ae))) ae))))) bc)
   (au (aD (bw (ac (aN (ac (aa 1) (ac (aa 2) ae))) (ac (aN (ac (aa 3) (ac (aa 4) ae))) ae)))))))))))))),λds R h=>?_⟩)
 .obtain⟨_,rfl,_⟩:=h;rfl
 .obtain⟨xs,rfl,hl,hd,hR⟩:=h;have a3:=cz (xs:=xs) (k:=3) JQ (show 3<xs.length by lia);have a4:=cz (xs:=xs) (k:=4) JQ (show 4<xs.length by lia);have a5:=cz (xs:=xs) (k:=5) JQ (show 5<xs.length by lia);have a6:=cz (xs:=xs) (k:=6) JQ (show 6<xs.length by lia);have a7:=cz (xs:=xs) (k:=7) JQ (show 7<xs.length by lia);generalize cell xs 3=x3 at*;generalize cell xs 4=x4 at*;generalize cell xs 5=x5 at*;generalize cell xs 6=x6 at*;generalize cell xs 7=x7 at*;clear hl hd;refine#[_,a3,#[JQ,JQ],JQ,ite2 (λ_=>?_) (λ_=>?_)]
  .refine#[_,a4,JQ,JU,_,a5,JQ,JU,JU,hR _ _ _ _ JM JM JM JM ?_];have p:0<(1+x4%6)*(1+x5%6):=FZ JM JM;lia
  refine#[_,a3,#[JQ,JQ],JQ,ite2 (λ_=>?_) (λ_=>?_)]
  .refine#[_,a4,JQ,JU,_,a6,JQ,_,a5,JQ,JU,JU,hR _ _ _ _ JM JM JM JM ?_];have p:0<(1+x4%6)*(1+x5%4):=FZ JM JM;lia
  refine#[λd=>∃v:Int,d=.int v/\-12<=v/\v<=12,#[_,a4,JQ,_,rfl,JM],?_];rintro _⟨a,rfl,ha⟩;k_places;refine#[λd=>∃v:Int,d=.int v/\-12<=v/\v<=12,#[_,a5,JQ,_,rfl,JM],?_];rintro _⟨b,rfl,hb⟩;k_places;refine#[λd=>∃v:Int,d=.int v/\-12<=v/\v<=12,#[_,a6,JQ,_,rfl,JM],?_];rintro _⟨c,rfl,hc⟩;k_places;refine#[λd=>∃v:Int,d=.int v/\-12<=v/\v<=12,#[_,a7,JQ,_,rfl,JM],?_];rintro _⟨d,rfl,i6⟩;k_places;refine#[λx=>∃v:Int,x=.int v/\(-12<=v/\v<=12)/\¬(v=0/\b=0),ite2 (λe=>?_) (λe=>?_),?_]
  .have e':=of_decide_eq_true e;by_cases OF:b=0
   .refine#[_,rfl,?_];subst e' OF;simp
   .refine#[_,rfl,?_];subst e';simp[OF]
  .have e':=of_decide_eq_false (Gi.mpr e);refine#[_,rfl,?_];simp;lia
  rintro _⟨a,rfl,ha,K2⟩;k_places;refine#[.inl (i64 ha.1 ha.2),.inl (i64 hb.1 hb.2),ite2 (λe=>?_) (λe=>?_)]
  .refine#[JU,JU,JU,hR a b (-b) a ha hb JM ha ?_];rw[Ht];intro z;have s1:0<=a*a:=sq0 a;have s2:0<=b*b:=sq0 b;have z1:a*a=0:=by omega
   have z2:b*b=0:=Kv
   exact K2 #[(HN.mp z1).elim id id,(HN.mp z2).elim id id]
  .have e':=of_decide_eq_false (Gi.mpr e);exact#[JU,JU,JU,hR a b c d ha hb hc i6 e']
abbrev oK(V:Bx):Prop:=V.D 1 "_law_motif_text" lh Ba
def DZ(T:V.T "_law_motif_text" lf lh)(uJ:V.m "str"):oK V:=by
 refine Tx.okDW T sc__law_motif_text (λds R h=>?_) (λf cdv A outer s H E J hr=>⟨_,((ai (aq 3 sc__law_motif_text.nd (ao (ao (ao (ao (ao (ao (ao aA (cP uJ (ac (af (aa 1) ad) ae))) aA) (cP uJ (ac (af (aa 1) ad) ae))) aA) (cP uJ (ac (af (aa 2) ad) ae))) aA) (cP uJ (ac (af (aa 2) ad) ae))))
   (au (aD (ao (ao (ao aA (jZ (aa 0))) (aa 3)) aA))))),λds R h=>?_⟩)
 .obtain⟨_,_,_,_,_,rfl,_⟩:=h;rfl
 .obtain⟨L,a,b,c,d,rfl,hL,ha,hb,hc,hd,hR⟩:=h;have la:=bB ha;have lb:=bB hb;have lc:=bB hc;have ld:=bB hd;have l1:(";":A_).length=1:=rfl;have l2:(",":A_).length=1:=rfl;have l3:("[":A_).length=1:=rfl;have l4:("]":A_).length=1:=rfl;have ls:=tE hL;have lj:=StrLaws.join_length_le "/" L;unfold B12 at ha hb hc hd;refine#[λx=>x=.str ((((((((";":A_)++(toString a:String))++",")++(toString b:String))++";")++(toString c:String))++",")++(toString d:String)),#[_,rfl,JM,?_,?_,_,rfl,JM,?_,?_,_,rfl,JM,?_,?_,_,rfl,JM,?_,rfl],?_]
  .lia
  .rw[aI];lia
  .rw[aI,aI];lia
  .rw[aI,aI,aI];lia
  .rw[aI,aI,aI,aI];lia
  .rw[aI,aI,aI,aI,aI];lia
  .rw[aI,aI,aI,aI,aI,aI];lia
  rintro _ rfl;k_places;have lg:(Txt.join "/" L).length<=72:=by
   have e:Txt.join "/" L=Str.join "/" L:=StrLaws.glued_eq_join _ _;rw[e];exact FQ lj ls
  refine#[L,kK L,JM,?_,?_,?_,hR]
  .lia
  .repeat rw[aI]
   lia
  .repeat rw[aI]
   lia
abbrev oM(V:Bx):Prop:=V.D 3 "_law_motif" lm Bc
def D0(T:V.T "_law_motif" ll lm)(Jg:gh V)(M5:oI V)(M6:oJ V)(M7:oK V):oM V:=by
 refine Tx.okDW T sc__law_motif (λds R h=>?_) (λf cdv A outer s H E J hr=>⟨_,((ai (aq 2 sc__law_motif.nd (aC Jg hr (ac (aa 0) (ac (aa 1) (ac ad ae)))))
   (ai (aq 3 sc__law_motif.nd (aC M5 hr (ac (aa 2) ae)))
   (ai (yD rfl (aC M6 hr (ac (aa 2) ae)) (dg_cons 4 sc__law_motif.nd (dg_cons 5 sc__law_motif.nd dH)))
   (ai (aq 6 sc__law_motif.nd (aN (ac (aa 3) (ac (aa 4) (ac (aa 5) (ac (aN (ac ad (ac ad (ac ad (ac ad (ac ad (ac ad ae))))))) (ac (bw (ac ad (ac ad (ac ad (ac ad (ac ad (ac ad (ac ad ae)))))))) ae)))))))
   (au (aD (bw (ac (aC M7 hr (ac (aa 3) (ac (aa 4) (ac (aa 5) ae)))) (ac ad (ac (bw (ac (aa 6) ae)) ae))))))))))),λds R h=>?_⟩)
 .obtain⟨_,_,rfl,_⟩:=h;rfl
 .obtain⟨ns,k,rfl,hk,hR⟩:=h;refine#[λx=>∃xs:List Int,x=.lst (xs.map D.int)/\xs.length=40/\Drawn xs,#[ns,k,40,rfl,hk,JQ,λxs h1 h2=>#[xs,rfl,h1,h2]],?_];rintro _⟨xs,rfl,hl,hd⟩;k_places;refine#[λx=>∃L:List A_,x=.lst (L.map D.str)/\Rows L,#[xs,rfl,JM,hd,λL h=>#[L,rfl,h]],?_];rintro _⟨L,rfl,hL⟩;k_places;refine#[xs,rfl,JM,hd,λa b c d ha hb hc i6 hn=>#[rfl,?_]];refine#[λx=>x=(bu L a b c d).D,#[JU,JU,JU,rfl],?_];rintro _ rfl;k_places;exact#[L,a,b,c,d,rfl,hL,ha,hb,hc,i6,JU,JU,hR L a b c d hL ha hb hc i6 hn]
abbrev oN(V:Bx):Prop:=V.D 1 "_law_wrapped" lq Bl
def D1(T:V.T "_law_wrapped" ic lq)(uJ:V.m "str")(Jh:V.m "list")(uD:V.m "int"):oN V:=by
 refine Tx.okDW T sc__law_wrapped (λds R h=>?_) (λf cdv A outer s H E J hr=>⟨_,((ai (br (rA (af (aa 0) ad) ad) (au (aD (aa 0))) bc)
   (ai (aq 2 sc__law_wrapped.nd (bj (az (aR (aa 1) ad) ad) ad))
   (ai (aq 3 sc__law_wrapped.nd (bj (az (aR (aa 1) ad) ad) ad))
   (ai (aq 4 sc__law_wrapped.nd (ao ad (az (aR (aa 1) ad) ad)))
   (ai (aq 5 sc__law_wrapped.nd (ao ad (az (aR (aa 1) ad) ad)))
   (ai (aq 6 sc__law_wrapped.nd (ao (ao (ao (ao aA (cP uJ (ac (aa 2) ae))) aA) (cP uJ (ac (aa 3) ae))) aA))
   (ai (aq 7 sc__law_wrapped.nd (af (bw (ac aA (ac aA (ac (aa 6) (ac (ao (ao aA (cP uJ (ac (aa 4) ae))) (cP uJ (ac (aa 5) ae))) ae))))) (az (aa 1) ad)))
   (ai (aq 8 sc__law_wrapped.nd (bw (ac (aN (ac (bW ad) (ac ad (ac ad (ac ad (ac ad (ac ad ae))))))) (ac (aN (ac ad (ac ad (ac (bW ad) (ac ad (ac ad (ac ad ae))))))) ae))))
   (ai (aq 8 sc__law_wrapped.nd (ao (aa 8) (bw (ac (aN (ac ad (ac ad (ac ad (ac ad (ac (bW (aa 2)) (ac (bW (aa 3)) ae))))))) (ac (aN (ac ad (ac ad (ac ad (ac ad (ac ad (ac ad ae))))))) ae)))))
   (ai (aq 9 sc__law_wrapped.nd (af (aa 8) (az (aa 1) ad)))
   (ai (fL 10 sc__law_wrapped.nd ae)
   (ai (gE 11 PassesOwn.never rfl sc__law_wrapped.nd (af (aa 0) ad) (ai (rJ rfl (af (aa 11) ad) (dg_cons 12 sc__law_wrapped.nd (dg_cons 13 sc__law_wrapped.nd (dg_cons 14 sc__law_wrapped.nd (dg_cons 15 sc__law_wrapped.nd (dg_cons 16 sc__law_wrapped.nd (dg_cons 17 sc__law_wrapped.nd dH)))))))
    (ai (aq 18 sc__law_wrapped.nd (aN (ac (ao (ax (aa 12) (af (aa 9) ad)) (ax (aa 13) (af (aa 9) ad))) (ac (ao (ax (aa 12) (af (aa 9) ad)) (ax (aa 13) (af (aa 9) ad))) ae))))
    (ai (aq 18 sc__law_wrapped.nd (ao (aa 18) (aN (ac (ao (ax (aa 14) (af (aa 9) ad)) (ax (aa 15) (af (aa 9) ad))) (ac (ao (ax (aa 14) (af (aa 9) ad)) (ax (aa 15) (af (aa 9) ad))) ae)))))
    (ai (aq 16 sc__law_wrapped.nd (ao (ao (aa 16) (ax (aa 12) (af (aa 9) ad))) (ax (aa 13) (af (aa 9) ad))))
    (ai (aq 17 sc__law_wrapped.nd (ao (ao (aa 17) (ax (aa 14) (af (aa 9) ad))) (ax (aa 15) (af (aa 9) ad))))
    (ai (aq 19 sc__law_wrapped.nd (yp Jh (ac (af (aa 11) ad) ae)))
    (ai (fK (bq (az (aa 1) ad) ad) (au (yI 19 rfl (compScope (by change cQ _ (ah ic) ["_law_part","_law_draw","_law_across","_law_down","_law_old","_law_new","_law_shift","_law_head","_law_ways","_law_by","_law_leaves","_law_leaf","_law_a","_law_b","_law_c","_law_d","_law_e","_law_f","_law_way","_law_hues"] _=true;decide+kernel)) sc__law_wrapped.nd (af (aa 11) ad) (λcl s0 H0 fp=>(af (bw (ac (aa 20) (ac (aa 5) ae))) (gG uD (ac (cF (aa 20) (aa 4)) ae)))))) bc)
    (au (fM 10 (aN (ac (af (aa 11) ad) (ac (af (aa 11) ad) (ac (af (aa 11) ad) (ac (ao (aa 18) (aN (ac (aa 16) (ac (aa 17) ae)))) (ac (aa 19) ae))))))))))))))))
   (dY 10 (au (aD (bw (ac (ao (aa 7) (af (aa 0) ad)) (ac (ao (af (aa 0) ad) ad) (ac (aa 10) ae)))))))))))))))))))),λds R h=>?_⟩)
 .obtain⟨_,_,rfl,_⟩:=h;rfl
 .obtain⟨p,draw,rfl,wf,hd,ht,hW⟩:=h;refine#[_,rfl,ite2 (λc=>?_) (λc=>?_)]
  .have c':=of_decide_eq_true c;exact hW.1 JM
  have c':=of_decide_eq_false (Gi.mpr c);have i6:p.depth<5:=JM
  refine#[λd=>∃v:Int,d=.int v/\B12 v,#[#[JQ,JQ],JQ,_,rfl,by unfold B12;lia],?_];rintro _⟨A,rfl,hA⟩;simp only[F5,F6,aS];refine#[λd=>∃v:Int,d=.int v/\B12 v,#[#[JQ,JQ],JQ,_,rfl,by unfold B12;lia],?_];rintro _⟨B,rfl,hB⟩;simp only[F5,F6,aS];refine#[λd=>∃v:Int,d=.int v/\1<=v/\v<=6,#[#[JQ,JQ],JQ,_,rfl,JM],?_];rintro _⟨d8,rfl,ho⟩;simp only[F5,F6,aS];refine#[λd=>∃v:Int,d=.int v/\1<=v/\v<=6,#[#[JQ,JQ],JQ,_,rfl,JM],?_];rintro _⟨new,rfl,hn⟩;simp only[F5,F6,aS];have l1:("s":A_).length=1:=rfl;have l2:(",":A_).length=1:=rfl;have l3:(":":A_).length=1:=rfl;have l4:("h":A_).length=1:=rfl;have lA:=bB hA;have lB:=bB hB;have lo:=eN ho;have ln:=eN hn;obtain⟨hs,b0,b1,b2,b3,b4,b5,e1,e2,hb,hl,hR⟩:=Bj hW i6 (k:=0) hA hB ho hn JM;unfold B12 at hA hB;refine#[λx=>x=.str ((((("s":A_)++(toString A:String))++",")++(toString B:String))++":"),#[JM,?_,?_,JM,?_,?_,rfl],?_]
  .lia
  .rw[aI];lia
  .rw[aI,aI];lia
  .rw[aI,aI,aI];lia
  rintro _ rfl;simp only[F5,F6,aS];refine#[λx=>x=.str hs,#[JM,?_,JM,?_,JU,JQ,_,e1,rfl],?_]
  .lia
  .rw[aI];lia
  rintro _ rfl;simp only[F5,F6,aS];refine#[λx=>x=.lst [D.tup [.int (-1),.int 0,.int 0,.int 1,.int 0,.int 0],D.tup [.int 0,.int 1,.int (-1),.int 0,.int 0,.int 0]],#[JU,JU,JU,rfl],?_];rintro _ rfl;simp only[F5,F6,aS];refine#[λx=>x=.lst ([D.tup [.int (-1),.int 0,.int 0,.int 1,.int 0,.int 0],D.tup [.int 0,.int 1,.int (-1),.int 0,.int 0,.int 0]]++[D.tup [.int 1,.int 0,.int 0,.int 1,.int (-A),.int (-B)],D.tup [.int 1,.int 0,.int 0,.int 1,.int 0,.int 0]]),#[JU,JU,JU,JU,rfl],?_];rintro _ rfl;simp only[F5,F6,aS];refine#[λx=>x=.tup [.int b0,.int b1,.int b2,.int b3,.int b4,.int b5],#[JQ,_,e2,rfl],?_];rintro _ rfl;simp only[F5,F6,aS];refine#[JU,?_];generalize D.str ((((("s":A_)++(toString A:String))++",")++(toString B:String))++":")=sD;generalize D.lst ([D.tup [.int (-1),.int 0,.int 0,.int 1,.int 0,.int 0],D.tup [.int 0,.int 1,.int (-1),.int 0,.int 0,.int 0]]++[D.tup [.int 1,.int 0,.int 0,.int 1,.int (-A),.int (-B)],D.tup [.int 1,.int 0,.int 0,.int 1,.int 0,.int 0]])=wD;clear e1 e2 hW lA lB lo ln l1 l2 l3 l4 hA hB c';refine#[_,rfl,λk z=>∃n8 t8 t9 t_ M8 M9 M_ Na Ke:Option D,z=[be p.D,be (.int draw),be (.int A),be (.int B),be (.int d8),be (.int new),be sD,be (.str hs),be wD,be (.tup [.int b0,.int b1,.int b2,.int b3,.int b4,.int b5]),be (.own (((p.leaves.take k).map (Leaf.T (decide (draw%4=3)) d8 new b0 b1 b2 b3 b4 b5)).map Leaf.D)),n8,t8,t9,t_,M8,M9,M_,Na,Ke],#[_,_,_,_,_,_,_,_,_,rfl],?_,?_]
  .rintro k v z hk⟨n8,t8,t9,t_,M8,M9,M_,Na,Ke,rfl⟩;k_places;rw[FS]at hk;have m8:k<p.leaves.length:=by
    rcases GU k p.leaves.length with q|q
    .exact q
    .rw[Gk q]at hk;cases hk
   have Kf:p.leaves[k]?=be p.leaves[k]:=F8 m8;rw[Kf]at hk;cases hk;obtain⟨gd,nr⟩:=Pat.leaf_good wf p.leaves[k] (Gp m8);have b9:(p.leaves.take k).length<=1000:=by rw[G2];have:=Pat.leaves_32 hd;lia
   generalize p.leaves[k]=l at Kf gd nr;obtain⟨r0,r1,r2,r3⟩:=nr.unit;obtain⟨q0,q1,q2,q3,q4,q5⟩:=hb;refine#[_,rfl,rfl,?_];simp only[F5,F6,aS];refine#[λx=>x=.tup [.int (l.w0*b0+l.w1*b2),.int (l.w0*b1+l.w1*b3)],#[_,rfl,.inr (n64 q0),_,rfl,.inr (n64 q2),_,rfl,.inr (n64 q1),_,rfl,.inr (n64 q3),JU,rfl],?_];rintro _ rfl;simp only[F5,F6,aS];refine#[λx=>x=.tup [.int (l.w0*b0+l.w1*b2),.int (l.w0*b1+l.w1*b3),.int (l.w2*b0+l.w3*b2),.int (l.w2*b1+l.w3*b3)],#[_,rfl,.inr (n64 q0),_,rfl,.inr (n64 q2),_,rfl,.inr (n64 q1),_,rfl,.inr (n64 q3),JU,JU,rfl],?_];rintro _ rfl;simp only[F5,F6,aS];refine#[λx=>x=.int (l.w4+l.w0*b4+l.w1*b5),#[_,rfl,.inr (n64 q4),_,rfl,.inr (n64 q5),rfl],?_];rintro _ rfl;simp only[F5,F6,aS];refine#[λx=>x=.int (l.w5+l.w2*b4+l.w3*b5),#[_,rfl,.inr (n64 q4),_,rfl,.inr (n64 q5),rfl],?_];rintro _ rfl;simp only[F5,F6,aS];refine#[λx=>x=.lst (l.hues.map D.int),#[_,rfl,rfl],?_];rintro _ rfl;simp only[F5,F6,aS];refine#[λz=>∃Ke:List Int,Ke=(Leaf.T (decide (draw%4=3)) d8 new b0 b1 b2 b3 b4 b5 l).hues/\z=[be p.D,be (.int draw),be (.int A),be (.int B),be (.int d8),be (.int new),be sD,be (.str hs),be wD,be (.tup [.int b0,.int b1,.int b2,.int b3,.int b4,.int b5]),be (.own (((p.leaves.take k).map (Leaf.T (decide (draw%4=3)) d8 new b0 b1 b2 b3 b4 b5)).map Leaf.D)),be l.D,be (.int l.w0),be (.int l.w1),be (.int l.w2),be (.int l.w3),be (.int (l.w4+l.w0*b4+l.w1*b5)),be (.int (l.w5+l.w2*b4+l.w3*b5)),be (.tup [.int (l.w0*b0+l.w1*b2),.int (l.w0*b1+l.w1*b3),.int (l.w2*b0+l.w3*b2),.int (l.w2*b1+l.w3*b3)]),be (.lst (Ke.map D.int))],#[JQ,ite2 (λc=>?_) (λc=>?_)],?_]
   .have c3:=of_decide_eq_true c;refine#[λx=>x=.lst ((l.hues.map (bC d8 new)).map D.int),#[_,rfl,by rw[FP,gd.many];decide,λk ys=>ys=((l.hues.take k).map (bC d8 new)).map D.int,rfl,?_,?_],?_]
    .rintro k' x ys hx hl rfl;rw[FS]at hx;cases e:l.hues[k']? with
     |none=>rw[e]at hx;cases hx
     |some hu=>
      rw[e]at hx;cases hx;refine#[JU,_,Bk hu d8 new,?_];dsimp only;rw[kM e];simp
    .rintro ys hl rfl;rw[FP,Hs]
    .rintro _ rfl;k_places;exact#[_,by simp[Leaf.T,c3,Leaf.dye,Leaf.by],rfl]
   .have c3:=of_decide_eq_false (Gi.mpr c);exact#[_,by simp[Leaf.T,c3,Leaf.by],rfl]
   rintro _⟨hu,P1,rfl⟩;k_places;refine#[_,rfl,_,rfl,_,rfl,JU,JU,JU,by rw[FP,FP];lia,?_];have eT:(D.tup [.lst (l.rows.map D.str),.tup [.int l.a,.int l.b],.tup [.int l.c,.int l.d],.tup ([.int (l.w0*b0+l.w1*b2),.int (l.w0*b1+l.w1*b3),.int (l.w2*b0+l.w3*b2),.int (l.w2*b1+l.w3*b3)]++[.int (l.w4+l.w0*b4+l.w1*b5),.int (l.w5+l.w2*b4+l.w3*b5)]),.lst (hu.map D.int)])=(Leaf.T (decide (draw%4=3)) d8 new b0 b1 b2 b3 b4 b5 l).D:=by
    rw[P1];by_cases c3:draw%4=3
    .simp[Leaf.T,c3,Leaf.D,Leaf.dye,Leaf.by]
    .simp[Leaf.T,c3,Leaf.D,Leaf.by]
   have e9:((p.leaves.take (k+1)).map (Leaf.T (decide (draw%4=3)) d8 new b0 b1 b2 b3 b4 b5)).map Leaf.D=((p.leaves.take k).map (Leaf.T (decide (draw%4=3)) d8 new b0 b1 b2 b3 b4 b5)).map Leaf.D++[(Leaf.T (decide (draw%4=3)) d8 new b0 b1 b2 b3 b4 b5 l).D]:=by
    rw[kM Kf,Gh,Gh,Gc,Gc,GR,GR]
   rw[e9,<-eT];exact#[_,_,_,_,_,_,_,_,_,rfl]
  .rintro z⟨n8,t8,t9,t_,M8,M9,M_,Na,Ke,rfl⟩;k_places;rw[FP,Hs];refine#[_,rfl,JM,_,rfl,JU,hR]
abbrev iV(V:Bx):Prop:=V.D 1 "_law_gcd" lv AO
def D2(T:V.T "_law_gcd" lu lv)(uR:V.m "abs"):iV V:=by
 refine Tx.okDW T sc__law_gcd (λds R h=>?_) (λf cdv A outer s H E J hr=>⟨_,((ai (aq 0 sc__law_gcd.nd (dW uR (ac (aa 0) ae)))
   (ai (aq 1 sc__law_gcd.nd (dW uR (ac (aa 1) ae)))
   (ai (fN PassesOwn.never (cw (aa 1) ad) (au (yk 0 1 rfl sc__law_gcd.nd (ac (aa 1) (ac (az (aa 0) (aa 1)) ae)))))
   (au (aD (aa 0))))))),λds R h=>?_⟩)
 .obtain⟨x,y,rfl,_⟩:=h;rfl
 .obtain⟨x,y,rfl,hR⟩:=h;refine#[λd=>d=.int (if x<0 then -x else x),rfl,?_];rintro _ rfl;k_places;refine#[λd=>d=.int (if y<0 then -y else y),rfl,?_];rintro _ rfl;k_places;have hx:0<=(if x<0 then -x else x):=by split<;>lia
  have hy:0<=(if y<0 then -y else y):=by split<;>lia
  have Nb:∀e,(e∣(if x<0 then -x else x)/\e∣(if y<0 then -y else y))↔(e∣x/\e∣y):=λe=>by rw[sZ,sZ]
  generalize (if x<0 then -x else x)=a at hx Nb ⊢;generalize (if y<0 then -y else y)=b at hy Nb ⊢;refine#[λm z=>∃a b:Int,z=[be (.int a),be (.int b)]/\0<=a/\0<=b/\(∀e,(e∣a/\e∣b)↔(e∣x/\e∣y))/\m=b.toNat,#[_,a,b,rfl,hx,hy,Nb,rfl],?_];rintro m z⟨a,b,rfl,ha,hb,K2,rfl⟩;k_places;refine ite2 (λc=>?_) (λc=>?_)
  .have c':¬b=0:=by simpa using c
   have q1:=cJ (a:=a) (show 0<b by lia);have q2:=cK (a:=a) (show 0<b by lia);refine#[JM,_,?_,b,a%b,rfl,hb,q1,λe=>?_,rfl]
   .lia
   .rw[<-K2 e];constructor
    .rintro⟨h1,h2⟩;exact#[(tf h1).mp h2,h1]
    .rintro⟨h1,h2⟩;exact#[h2,(tf h2).mpr h1]
  .have c':b=0:=by simpa using c
   subst c';have g:=(K2 a).mp #[Int.dvd_refl a,Int.dvd_zero a];exact hR a ha g.1 g.2 λe h1 h2=>((K2 e).mpr #[h1,h2]).1
abbrev iW(V:Bx):Prop:=V.D 1 "_law_on" lx AN
def D3(T:V.T "_law_on" lw lx):iW V:=by
 refine Tx.okDW T sc__law_on (λds R h=>?_) (λf cdv A outer s H E J hr=>⟨_,((ai (aq 4 sc__law_on.nd (bj (ax (af (aa 0) ad) (af (aa 1) ad)) (ax (af (aa 0) ad) (af (aa 1) ad))))
   (au (aD (fH (cF (ra (bj (ax (aa 2) (af (aa 1) ad)) (ax (aa 3) (af (aa 1) ad))) (aa 4)) ad) (fG (cF (ra (bj (ax (af (aa 0) ad) (aa 3)) (ax (af (aa 0) ad) (aa 2))) (aa 4)) ad))))))),λds R h=>?_⟩)
 .obtain⟨a,b,c,d,u,v,rfl,_⟩:=h;rfl
 .obtain⟨a,b,c,d,u,v,rfl,ha,hb,hc,hd,hn,hR⟩:=h;have Kg:∀{x:Int},x.natAbs<1073741824->-(2^64)<x/\x<2^64:=λh=>n64 (Nat.le_of_lt_succ h);refine#[λx=>x=.int (a*d-b*c),#[_,rfl,_,rfl,.inl (Kg ha),_,rfl,_,rfl,.inl (Kg hb),rfl],?_];rintro _ rfl;k_places;refine#[_,rfl,.inr (Kg hd),_,rfl,.inr (Kg hc),Kv,ite2 (λe=>?_) (λe=>?_)]
  .have e':=of_decide_eq_true e;refine#[_,rfl,.inl (Kg ha),_,rfl,.inl (Kg hb),Kv,?_];have q:decide ((a*v-b*u).fmod (a*d-b*c)=0)=decide ((u*d-v*c).fmod (a*d-b*c)=0/\(a*v-b*u).fmod (a*d-b*c)=0):=by simp[e']
   have g:R (.bl (decide ((a*v-b*u).fmod (a*d-b*c)=0))):=by rw[q];exact hR
   exact g
  .have e':=of_decide_eq_false (Gi.mpr e);have q:decide ((u*d-v*c).fmod (a*d-b*c)=0/\(a*v-b*u).fmod (a*d-b*c)=0)=false:=by simp[e']
   rw[q]at hR;exact hR
abbrev oO(V:Bx):Prop:=V.D 2 "_law_leaf_family" lz Bn
def D4(T:V.T "_law_leaf_family" ly lz)(uR:V.m "abs")(Kh:iV V)(Ki:iW V):oO V:=by
 refine Tx.okDW T sc__law_leaf_family (λds R h=>?_) (λf cdv A outer s H E J hr=>⟨_,((ai (rJ rfl (af (aa 0) ad) (dg_cons 1 sc__law_leaf_family.nd (dg_cons 2 sc__law_leaf_family.nd (dg_cons 3 sc__law_leaf_family.nd (dg_cons 4 sc__law_leaf_family.nd (dg_cons 5 sc__law_leaf_family.nd (dg_cons 6 sc__law_leaf_family.nd dH)))))))
   (ai (aq 7 sc__law_leaf_family.nd (aN (ac (ao (ax (aa 1) (af (af (aa 0) ad) ad)) (ax (aa 3) (af (af (aa 0) ad) ad))) (ac (ao (ax (aa 2) (af (af (aa 0) ad) ad)) (ax (aa 4) (af (af (aa 0) ad) ad))) ae))))
   (ai (aq 8 sc__law_leaf_family.nd (aN (ac (ao (ax (aa 1) (af (af (aa 0) ad) ad)) (ax (aa 3) (af (af (aa 0) ad) ad))) (ac (ao (ax (aa 2) (af (af (aa 0) ad) ad)) (ax (aa 4) (af (af (aa 0) ad) ad))) ae))))
   (ai (aq 9 sc__law_leaf_family.nd (aC Kh hr (ac (af (aa 7) ad) (ac (af (aa 8) ad) ae))))
   (ai (aq 10 sc__law_leaf_family.nd (aR (dW uR (ac (bj (ax (af (aa 7) ad) (af (aa 8) ad)) (ax (af (aa 7) ad) (af (aa 8) ad))) ae)) (aa 9)))
   (ai (aq 11 sc__law_leaf_family.nd ad)
   (ai (fN PassesOwn.never (dX (cx (aC Ki hr (ac (aa 7) (ac (aa 8) (ac (aa 11) (ac (aa 9) ae))))))) (au (aq 11 sc__law_leaf_family.nd (ao (aa 11) ad))))
   (au (aD (aN (ac (aa 10) (ac (aa 9) (ac (aa 11) ae)))))))))))))),λds R h=>?_⟩)
 .obtain⟨_,_,rfl,_⟩:=h;rfl
 .obtain⟨l,n,rfl,gd,nr,hR⟩:=h;obtain⟨h0,h1,h2,h3⟩:=nr.unit;obtain⟨z0,z1,z2,z3,ne,z5⟩:=Leaf.sizes gd nr;have ha:=gd.a;have hb:=gd.b;have hc:=gd.c;have hd:=gd.d;unfold B12 at ha hb hc hd;refine#[_,rfl,rfl,?_];simp only[F5,F6,aS];refine#[λx=>x=.tup [.int l.o0,.int l.o1],#[_,rfl,_,rfl,.inl (u64 h0),_,rfl,_,rfl,.inl (u64 h2),_,rfl,_,rfl,.inl (u64 h1),_,rfl,_,rfl,.inl (u64 h3),JU,rfl],?_];rintro _ rfl;k_places;refine#[λx=>x=.tup [.int l.t0,.int l.t1],#[_,rfl,_,rfl,.inl (u64 h0),_,rfl,_,rfl,.inl (u64 h2),_,rfl,_,rfl,.inl (u64 h1),_,rfl,_,rfl,.inl (u64 h3),JU,rfl],?_];rintro _ rfl;k_places;generalize l.o0=o0 at*;generalize l.o1=o1 at*;generalize l.t0=t0 at*;generalize l.t1=t1 at*;refine#[λx=>∃g:Int,x=.int g/\0<=g/\g∣o1/\g∣t1/\∀e,e∣o1->e∣t1->e∣g,#[_,rfl,_,rfl,o1,t1,rfl,λg q0 q1 q2 q3=>#[g,rfl,q0,q1,q2,q3]],?_];rintro _⟨g,rfl,q0,q1,q2,q3⟩;k_places;obtain⟨w,s,f⟩:=Bm ne q0 q1 q2 q3;have hg:=f.2.1;have k1:=bJ (a:=o0) (d:=t1) (A:=24) (B:=24) z0 z3;have k2:=bJ (a:=o1) (d:=t0) (A:=24) (B:=24) z1 z2;have QU:=f.bd (N:=288) z5;have p8:=f.cells;have ew:(if o0*t1-o1*t0<0 then -(o0*t1-o1*t0)else o0*t1-o1*t0)/g=w:=by
   have hp:=FZ f.1 hg;have:(if o0*t1-o1*t0<0 then -(o0*t1-o1*t0)else o0*t1-o1*t0)=w*g:=by split<;>lia
   rw[this];exact Gj _ JM
  refine#[λx=>x=.int w,#[_,rfl,_,rfl,.inl (n64 z0),_,rfl,_,rfl,.inl (n64 z1),#[JM,JM],?_],?_]
  .exact congrArg D.int ew
  rintro _ rfl;k_places;refine#[λx=>x=.int 0,rfl,?_];rintro _ rfl;k_places;have hp:=FZ f.1 hg;refine#[λm z=>∃x:Int,z=[be l.D,be (.int l.w0),be (.int l.w1),be (.int l.w2),be (.int l.w3),be (.int l.w4),be (.int l.w5),be (.tup [.int o0,.int o1]),be (.tup [.int t0,.int t1]),be (.int g),be (.int w),be (.int x)]/\0<=x/\x<=s/\m=(s-x).toNat,#[_,0,rfl,JM,f.2.2.1,rfl],?_];rintro m z⟨x,rfl,x0,x1,rfl⟩;k_places;refine#[o0,o1,t0,t1,x,g,rfl,JM,JM,JM,JM,ne,?_];refine ite2 (λc=>?_) (λc=>?_)
  .have c':¬((x*t1-g*t0).fmod (o0*t1-o1*t0)=0/\(o0*g-o1*x).fmod (o0*t1-o1*t0)=0):=notT c;have xs:x≠s:=by
    rintro rfl;obtain⟨_,_,_,_,m',n',k',l',_,e1,e2,e3,e4⟩:=id f;exact c' (sW e3 e4)
   refine#[λd=>d=.int (x+1),rfl,?_];rintro _ rfl;k_places;exact#[_,JM,x+1,rfl,JM,JM,rfl]
  .have c':(x*t1-g*t0).fmod (o0*t1-o1*t0)=0/\(o0*g-o1*x).fmod (o0*t1-o1*t0)=0:=by
    exact notF c
   obtain⟨i,j,e1,e2⟩:=tL ne c';have:x=s:=f.uniq_lean e1 e2 x0 x1;subst this;exact#[JU,hR w g x f JM]
abbrev oP(V:Bx):Prop:=V.D 1 "_law_in_family" lD AM
def D5(T:V.T "_law_in_family" lC lD):oP V:=by
 refine Tx.okDW T C3 (λds R h=>?_) (λf cdv A outer s H E J hr=>#[_,((au (aD (fH (cF (az (aa 2) (af (aa 0) ad)) ad) (fG (cF (az (bj (aa 1) (ax (aR (aa 2) (af (aa 0) ad)) (af (aa 0) ad))) (af (aa 0) ad)) ad)))))),λds R h=>?_])
 .obtain⟨w,h,s,x,y,rfl,_⟩:=h;rfl
 .obtain⟨w,h,s,x,y,rfl,hw,hh,z6,hs,j9,hR⟩:=h;refine#[_,rfl,hh,ite2 (λc=>?_) (λc=>?_)]
  .have c':=of_decide_eq_true c;refine#[_,rfl,#[hh,z6],_,rfl,.inr #[JM,JM],_,rfl,hw,?_];have e:decide ((x-y/h*s)%w=0)=decide (y%h=0/\(x-y/h*s)%w=0):=by simp[c']
   have g:R (.bl (decide ((x-y/h*s)%w=0))):=by rw[e];exact hR
   exact g
  .have c':=of_decide_eq_false (Gi.mpr c);have e:decide (y%h=0/\(x-y/h*s)%w=0)=false:=by simp[c']
   rw[e]at hR;exact hR
abbrev oQ(V:Bx):Prop:=V.D 2 "_law_both" lG Bq
def D6(T:V.T "_law_both" lF lG)(Kh:iV V)(Nd:oP V):oQ V:=by
  refine Tx.okDW T sc__law_both (λds R h=>?_) (λf cdv A outer s H E J hr=>⟨_,((ai (aq 2 sc__law_both.nd (aR (ax (af (aa 0) ad) (af (aa 1) ad)) (aC Kh hr (ac (af (aa 0) ad) (ac (af (aa 1) ad) ae)))))
      (ai (aq 3 sc__law_both.nd (af (aa 0) ad))
      (ai (fN PassesOwn.never (yb (ax (aa 2) (aa 3)) ad) (ai (aq 4 sc__law_both.nd (az (ax (af (aa 0) ad) (aR (aa 3) (af (aa 0) ad))) (af (aa 0) ad)))
        (ai (fN PassesOwn.never (fD (aa 4) (aa 2)) (ai (br (cx (aC Nd hr (ac (aa 1) (ac (aa 4) (ac (aa 3) ae))))) (au (aD (aN (ac (aa 2) (ac (aa 3) (ac (aa 4) ae)))))) bc)
          (au (aq 4 sc__law_both.nd (ao (aa 4) (af (aa 0) ad))))))
        (au (aq 3 sc__law_both.nd (ao (aa 3) (af (aa 0) ad)))))))
      (au (aD cO)))))),λds R h=>?_⟩)
  . obtain⟨_,_,_,_,_,_,rfl,_⟩:=h;rfl
  . obtain⟨w1,h1,s1,w2,h2,s2,rfl,f1,f2,hR⟩:=h;obtain⟨a1,a2,a3,a4,a5,a6⟩:=f1;obtain⟨b1,b2,b3,b4,b5,b6⟩:=f2;obtain⟨g,u,W,Hh,S,A,M1,eW,M⟩:=Bp #[a1,a2,a3,a4,a5,a6] #[b1,b2,b3,b4,b5,b6];have OG:=hR W Hh S A M;have wb:W<=518400:=by
      have:=(kJ a1 b1 M1).2.1;have:=bJ (a:=w1) (d:=w2) (A:=720) (B:=720) JM JM;lia
    have mw:=M.w0;have mh:=M.h0;have ms:=M.s0;have QV:=M.sw;refine#[λx=>x=.int W,#[_,rfl,_,rfl,.inl #[JM,JM],_,rfl,_,rfl,w1,w2,rfl,λG q0 q1 q2 q3=>?_],?_]
    . have eG:=M1.gcd q0 q1 q2 q3;subst eG;have hg:=M1.pos a1;have Nf:=M1.le a1;exact#[#[hg,JM],by rw[<-eW]]
    rintro _ rfl;k_places;refine#[λx=>x=.int h1,#[_,rfl,rfl],?_];rintro _ rfl;k_places;obtain⟨i0,j0,eS,eH⟩:=M.up1;have P2:1<=j0:=by
      rcases(JM:j0<=0\/1<=j0)with z|z
      . have:=GK z (show 0<=h1 by lia);lia
      . exact z
    refine#[λm z=>∃(j:Int) (o:Option D),z=[be (.tup [.int w1,.int h1,.int s1]),be (.tup [.int w2,.int h2,.int s2]),be (.int W),be (.int (j*h1)),o]/\1<=j/\j<=j0/\m=(j0-j).toNat,#[_,1,_,by rw[Int.one_mul];rfl,JM,P2,rfl],?_];rintro m z⟨j,o,rfl,Ji,P4,rfl⟩;k_places;have P5:0<j*h1:=FZ JM a3;have P6:j*h1<=Hh:=by
      rw[eH];exact Gg P4 JM
    have QW:=Iz P6 (show 0<=W by lia);refine#[.inl #[JM,JM],ite2 (λc=>?_) (λc=>?_)]
    . have c':=of_decide_eq_true c;have QX:j*h1<=720:=by
        have:=(cV (w:=W) (h:=j*h1) mw P5).2;lia
      have P7:j*h1/h1=j:=Gj _ JM;refine#[λx=>∃v:Int,x=.int v/\0<=v/\v<w1/\∃i,v=i*w1+j*s1,#[_,rfl,_,rfl,#[JM,JM],.inl #[JM,JM],_,rfl,a1,_,rfl,cJ a1,cK a1,?_],?_]
      . rw[P7];refine#[-(s1*j/w1),?_];have:=GJ (s1*j) w1;rw[this];have e1:s1*j=j*s1:=Ge _ _;have e2:w1*(s1*j/w1)=s1*j/w1*w1:=Ge _ _;rw[e2,HI];lia
      rintro _⟨x0,rfl,x1,x2,i1,OH⟩;k_places;refine#[λm z=>∃(x:Int),z=[be (.tup [.int w1,.int h1,.int s1]),be (.tup [.int w2,.int h2,.int s2]),be (.int W),be (.int (j*h1)),be (.int x)]/\0<=x/\(∃i,x=i*w1+j*s1)/\(j=j0->x<=S)/\m=(W-x).toNat,#[_,x0,rfl,x1,#[i1,OH],λej=>?_,rfl],?_]
      . subst ej;obtain⟨k,ek,k0⟩:=Br a1 x2 x1 ms eS #[i1,OH];have:=HG k0 (show 0<=w1 by lia);lia
      rintro m z⟨x,rfl,y0,⟨i2,ex⟩,yS,rfl⟩;k_places;refine ite2 (λc=>?_) (λc=>?_)
      . have cW:=of_decide_eq_true c;refine#[w2,h2,s2,x,j*h1,rfl,b1,b3,JM,b5,JM,?_];refine ite2 (λq=>?_) (λq=>?_)
        . have q':=of_decide_eq_true q;obtain⟨i3,k3,e3,e4⟩:=Bo q';obtain⟨z1,z2⟩:=M.high a3 Ji #[i2,ex] #[i3,k3,e3,e4];have Ng:j*h1=Hh:=by lia
          have:=z2 Ng y0 cW;subst this;have:=OG.1 (by rw[<-Ng];lia);rw[<-Ng]at this;exact#[JU,this]
        . have q':=of_decide_eq_false (Gi.mpr q);refine#[λd=>d=.int (x+w1),#[_,rfl,rfl],?_];rintro _ rfl;k_places;refine#[_,JM,x+w1,rfl,JM,#[i2+1,KE],λej=>?_,rfl];subst ej;have hx:=yS rfl;have ne:x≠S:=by
            rintro rfl;obtain⟨i4,j4,e5,e6⟩:=M.up2;exact q' (in_fam (i:=i4) (j:=j4) b3 e5 (by rw[<-eH];exact e6))
          have:∃t:Int,S=x+t*w1:=#[i0-i2,by rw[ex];grind];obtain⟨t,et⟩:=this;have t1:1<=t:=by
            rcases(JM:t<=0\/1<=t)with z|z
            . have:=GK z (show 0<=w1 by lia);lia
            . exact z
          have:=Gg t1 (show 0<=w1 by lia);lia
      . have cW:=of_decide_eq_false (Gi.mpr c);have QY:j<j0:=by
          rcases(JM:j<j0\/j=j0)with z|z
          . exact z
          . have:=yS z;lia
        refine#[λd=>d=.int ((j+1)*h1),#[_,rfl,by congr 1;grind],?_];rintro _ rfl;k_places;exact#[_,JM,j+1,_,rfl,JM,JM,rfl]
    . have c':=of_decide_eq_false (Gi.mpr c);exact OG.2 JM
abbrev oR(V:Bx):Prop:=V.D 3 "_law_family" lJ Bs
def D7(T:V.T "_law_family" lH lJ)(LM:oO V)(Ni:oQ V):oR V:=by
  refine Tx.okDW T sc__law_family (λds R h=>?_) (λf cdv A outer s H E J hr=>⟨_,((ai (aq 1 sc__law_family.nd (aC LM hr (ac (af (aa 0) ad) ae)))
      (ai (gE 2 PassesOwn.never rfl sc__law_family.nd (yz (aa 0) ad) (ai (aq 1 sc__law_family.nd (aC Ni hr (ac (aa 1) (ac (aC LM hr (ac (aa 2) ae)) ae))))
        (au (br (rB (aa 1) cO) (au (aD cO)) bc))))
      (au (aD (aa 1)))))),λds R h=>?_⟩)
  . obtain⟨_,_,rfl,_⟩:=h;rfl
  . obtain⟨ls,n,rfl,m_,hg,hR⟩:=h;cases ls with
    |nil=>exact absurd rfl m_
    |cons l0 ls=>
    refine#[λx=>∃w h s:Int,x=.tup [.int w,.int h,.int s]/\FamOf l0.o0 l0.o1 l0.t0 l0.t1 w h s/\w*h<=288,#[_,ce (j:=0) rfl,l0,n,rfl,(hg l0 FO).1,(hg l0 FO).2,λw h s f q=>#[w,h,s,rfl,f,q]],?_];rintro _⟨w0,h0,s0,rfl,f0,q0⟩;k_places
    try simp only[F5,F6]
    have ec:cutD (HX Leaf.D (l0::ls)) (be 1) r_=ls.map Leaf.D:=by rw[Gc,cut1]
    refine#[λk z=>∃(w h s:Int) (o:Option D),z=[be (.lst ((l0::ls).map Leaf.D)),be (.tup [.int w,.int h,.int s]),o]/\Fam0 w h s/\w*h<=720/\∀x y,InF w h s x y↔bM (l0::ls.take k) x y,#[w0,h0,s0,_,rfl,#[f0.1,f0.2.1,f0.2.2.1,f0.2.2.2.1],JM,λx y=>?_],?_,?_]
    . rw[f0.lat];constructor
      . intro q l z;rcases FL.mp z with e|e
        . rw[e];exact q
        . cases e
      . intro q;exact q l0 FO
    . rintro k v z hk⟨w,h,s,o,rfl,fm,OI,lat⟩;k_places;rw[ec,FS]at hk;have m8:k<ls.length:=by
        rcases GU k ls.length with q|q
        . exact q
        . rw[Gk q]at hk;cases hk
      have Kf:ls[k]?=be ls[k]:=F8 m8;rw[Kf]at hk;cases hk;obtain⟨gd,nr⟩:=hg ls[k] (FM _ (Gp m8));have K3:∀l∈ls.drop (k+1),l.Good/\l.Near n:=λl q=>hg l (FM _ (HY q));have E_:∀x y,bM (l0::ls) x y↔(bM (l0::ls.take k) x y/\ls[k].Lat x y)/\bM (ls.drop (k+1)) x y:=λx y=>by
        have ed:ls=ls.take k++ls[k]::ls.drop (k+1):=by rw[<-GM m8,I0]
        constructor
        . intro q;refine#[#[λl z=>?_,q _ (FM _ (Gp m8))],λl z=>q l (FM _ (HY z))];rcases FL.mp z with e|e
          . exact q l (e ▸ FO)
          . exact q l (FM _ (List.mem_of_mem_take e))
        . rintro⟨⟨q1,q2⟩,q3⟩ l z;rcases FL.mp z with e|e
          . exact q1 l (e ▸ FO)
          . rw[ed]at e;rcases Ga.mp e with e|e
            . exact q1 l (FM _ e)
            . rcases FL.mp e with e|e
              . rw[e];exact q2
              . exact q3 l e
      have g6:∀x y,bM (l0::ls.take (k+1)) x y↔bM (l0::ls.take k) x y/\ls[k].Lat x y:=λx y=>by
        rw[kM Kf];constructor
        . intro q;refine#[λl z=>q l ?_,q _ (FM _ (F7 _ FO))];rcases FL.mp z with e|e
          . rw[e];exact FO
          . exact FM _ (GN _ e)
        . rintro⟨q1,q2⟩ l z;rcases FL.mp z with e|e
          . exact q1 l (e ▸ FO)
          . rcases Ga.mp e with e|e
            . exact q1 l (FM _ e)
            . rw[FJ.mp e];exact q2
      generalize ls[k]=l at gd nr E_ g6;obtain⟨p1,p2⟩:=cV fm.w0 fm.h0;refine#[λx=>(∃w h s:Int,x=.tup [.int w,.int h,.int s]/\Fam0 w h s/\w*h<=720/\∀x y,InF w h s x y↔bM (l0::ls.take (k+1)) x y)\/(x=.non/\R .non),#[l,n,rfl,gd,nr,λw2 h2 s2 f2 b2=>?_],?_]
      . obtain⟨r1,r2⟩:=cV f2.1 f2.2.1;refine#[w,h,s,w2,h2,s2,rfl,#[fm.w0,JM,fm.h0,JM,fm.s0,fm.sw],#[f2.1,JM,f2.2.1,JM,f2.2.2.1,f2.2.2.2.1],λW Hh S A M=>#[λq=>?_,λq=>?_]]
        . refine .inl #[W,Hh,S,rfl,#[M.w0,M.h0,M.s0,M.sw],q,λx y=>?_];rw[M.lat,lat,f2.lat,g6];exact Iff.rfl
        . refine .inr #[rfl,?_];obtain⟨w3,h3,s3,f3,e3⟩:=tO (ls.drop (k+1)) W Hh S #[M.w0,M.h0,M.s0,M.sw] K3;refine(hR w3 h3 s3 f3 λx y=>?_).2 ?_
          . rw[e3,M.lat,lat,f2.lat,E_];exact Iff.rfl
          . have:=(InF.le M.w0 M.h0 f3.w0 f3.h0 (λx y z=>((e3 x y).mp z).1)).1;lia
      . rintro _ (⟨W,Hh,S,rfl,P8,q,e'⟩|⟨rfl,hn⟩);k_places
        . try simp only[F5,F6]
          exact#[W,Hh,S,_,rfl,P8,q,e']
        . try simp only[F5,F6]
          exact hn
    . rintro z⟨w,h,s,o,rfl,fm,OI,lat⟩;k_places;rw[ec,FP,Hs]at lat;exact(hR w h s fm lat).1 OI
abbrev oS(V:Bx):Prop:=V.D 4 "_law_over" lL Bv
def D8(T:V.T "_law_over" lK lL)(uM:V.m "max")(Nj:oR V):oS V:=by
 refine Tx.okDW T sc__law_over (λds R h=>?_) (λf cdv A outer s H E J hr=>⟨_,((ai (aq 2 sc__law_over.nd (ao (af (aa 0) ad) (af (aa 1) ad)))
   (ai (br (dG (fF (rA (eo rfl uM (ac (af (aa 0) ad) (ac (af (aa 1) ad) ae))) ad) (fE (rB (aC Nj hr (ac (aa 2) ae)) cO)))) (au (aD (aa 0))) bc)
   (au (aD (bw (ac (ao (ao (ao (ao aA (af (aa 0) ad)) aA) (af (aa 1) ad)) aA) (ac (ao ad (eo rfl uM (ac (af (aa 0) ad) (ac (af (aa 1) ad) ae)))) (ac (aa 2) ae))))))))),λds R h=>?_⟩)
 .obtain⟨_,_,rfl,_⟩:=h;rfl
 .obtain⟨p,q,rfl,wp,wq,dp,dq,OJ,P9⟩:=h;have n1:=Pat.leaves_32 dp;have n2:=Pat.leaves_32 dq;refine#[λx=>x=.lst ((Pat.over p q).leaves.map Leaf.D),#[_,rfl,_,rfl,?_,?_],?_]
  .rw[FP,FP];lia
  .rw[Pat.leaves,Gh]
  rintro _ rfl;k_places;refine#[_,rfl,_,rfl,ite2 (λc=>OJ) (λc=>?_)];have c':=of_decide_eq_false (Gi.mpr c);have ep:p.depth<5/\q.depth<5:=by
   split at c'<;>lia
  refine#[(Pat.over p q).leaves,(Pat.over p q).depth,rfl,?_,λl hl=>Pat.leaf_good (p:=.over p q) #[wp,wq] l hl,λw h s f lat=>#[λsm=>?_,λ_=>OJ]]
  .intro z;have:(Pat.over p q).leaves.length=0:=by rw[z];rfl
   rw[Pat.leaves,FV]at this;have:=Pat.leaves_pos p;lia
  have t1:=Pat.text_short wp dp;have t2:=Pat.text_short wq dq;have l1:("(":A_).length=1:=rfl;have l2:("|":A_).length=1:=rfl;have l3:(")":A_).length=1:=rfl;have P':(Pat.over p q).Fits:=#[w,h,s,#[f,λx y=>(lat x y).trans (Pat.lat_leaves (.over p q) x y)],sm];refine#[_,rfl,?_,?_,_,rfl,?_,?_,_,rfl,_,rfl,JU,?_]
  .lia
  .rw[aI];lia
  .rw[aI,aI];lia
  .rw[aI,aI,aI];lia
  have g:=P9 ep.1 ep.2 P';have e:(1+(if(q.depth:Int)>(p.depth:Int)then(q.depth:Int)else(p.depth:Int)))=(((Pat.over p q).depth:Nat):Int):=by
   rw[Pat.depth];split<;>lia
  unfold Pat.D at g;rw[<-e]at g;exact g
abbrev oU(V:Bx):Prop:=V.D 5 "_law_pattern" lP Bw
def D9(T:V.T "_law_pattern" lM lP)(uA:V.m "range")(Jg:gh V)(LN:oM V)(LO:oN V)(LP:oS V):oU V:=by
  refine Tx.okDW T sc__law_pattern (λds R h=>?_) (λf cdv A outer s H E J hr=>⟨_,((ai (aq 2 sc__law_pattern.nd (aC Jg hr (ac (aa 0) (ac (aa 1) (ac ad ae)))))
      (ai (aq 3 sc__law_pattern.nd (aC LN hr (ac (aa 0) (ac (ao (aa 1) ad) ae))))
      (ai (cy 4 PassesOwn.never rfl sc__law_pattern.nd uA (az (af (aa 2) ad) ad) (ai (aq 5 sc__law_pattern.nd (af (aa 2) (ao ad (ax ad (aa 4)))))
        (au (fK (bq (az (aa 5) ad) ad) (au (aq 3 sc__law_pattern.nd (aC LO hr (ac (aa 3) (ac (aR (aa 5) ad) ae))))) (ai (aq 6 sc__law_pattern.nd (aC LN hr (ac (aa 0) (ac (ao (ao (aa 1) ad) (ax ad (aa 4))) ae))))
         (ai (fK (bq (az (aR (aa 5) ad) ad) ad) (au (aq 6 sc__law_pattern.nd (aC LO hr (ac (aa 6) (ac (af (aa 2) (ao ad (ax ad (aa 4)))) ae))))) bc)
         (au (aq 3 sc__law_pattern.nd (af (bw (ac (aC LP hr (ac (aa 3) (ac (aa 6) ae))) (ac (aC LP hr (ac (aa 6) (ac (aa 3) ae))) ae))) (az (aR (aa 5) ad) ad))))))))))
      (au (aD (aa 3))))))),λds R h=>?_⟩)
  . obtain⟨_,_,rfl,_⟩:=h;rfl
  . obtain⟨ns,k,rfl,hk,hR⟩:=h;refine#[λx=>∃xs:List Int,x=.lst (xs.map D.int)/\xs.length=13/\Drawn xs,#[ns,k,13,rfl,hk,JQ,λxs h1 h2=>#[xs,rfl,h1,h2]],?_];rintro _⟨xs,rfl,hl,hd⟩;k_places;refine#[λx=>∃p:Pat,x=p.D/\p.Ok,#[ns,k+2,rfl,JM,λL a b c d h1 h2 h3 h4 h5 h6=>#[.mot L a b c d,rfl,#[h1,h2,h3,h4,h5,h6],by simp[Pat.depth],Pat.fits_mot h2 h3 h4 h5 h6]],?_];rintro _⟨p0,rfl,LQ⟩;k_places;have a0:=cz (xs:=xs) (k:=0) JQ (show 0<xs.length by lia);have h7:=cJ (a:=cell xs 0) (show(0:Int)<7 by decide);have h8:=cK (a:=cell xs 0) (show(0:Int)<7 by decide);refine#[_,a0,JQ,#[JM,JM],λi z=>∃(p:Pat) (o1 o2 o3:Option D),z=[be (.rol (ns.map D.int)),be (.int k),be (.lst (xs.map D.int)),be p.D,o1,o2,o3]/\p.Ok,#[p0,_,_,_,rfl,LQ],?_,?_]
    . rintro i v z hi⟨p,o1,o2,o3,rfl,ok⟩;k_places;obtain⟨v7,rfl⟩:=cm hi;have a1:=cz (xs:=xs) (k:=1+2*(i:Int)) JM JM;have a2:=cz (xs:=xs) (k:=2+2*(i:Int)) JM JM;generalize cell xs (1+2*(i:Int))=st at a1;generalize cell xs (2+2*(i:Int))=sv at a2;refine#[λx=>x=.int st,#[.inr #[JM,JM],_,a1,rfl],?_];rintro _ rfl;k_places;refine#[λz=>∃(p:Pat) (o3:Option D),z=[be (.rol (ns.map D.int)),be (.int k),be (.lst (xs.map D.int)),be p.D,be (.int i),be (.int st),o3]/\p.Ok,#[JQ,ite2 (λc=>?_) (λc=>?_)],?_]
      . refine#[λx=>∃p:Pat,x=p.D/\p.Ok,#[#[JQ,JQ],p,_,rfl,ok.wf,ok.deep,by have:=Pat.text_short ok.wf ok.deep;lia,Wraps.of ok λq hq=>#[q,rfl,hq]],?_];rintro _⟨q,rfl,h_⟩;k_places;exact#[q,_,rfl,h_]
      . refine#[λx=>∃p:Pat,x=p.D/\p.Ok,#[.inr #[JM,JM],ns,k+4+2*(i:Int),rfl,JM,λL a b c d h1 h2 h3 h4 h5 h6=>#[.mot L a b c d,rfl,#[h1,h2,h3,h4,h5,h6],by simp[Pat.depth],Pat.fits_mot h2 h3 h4 h5 h6]],?_];rintro _⟨q,rfl,h_⟩;k_places;refine#[λz=>∃(q:Pat),z=[be (.rol (ns.map D.int)),be (.int k),be (.lst (xs.map D.int)),be p.D,be (.int i),be (.int st),be q.D]/\q.Ok,#[#[JQ,JQ],JQ,ite2 (λc=>?_) (λc=>?_)],?_]
        . refine#[λx=>∃p:Pat,x=p.D/\p.Ok,#[.inr #[JM,JM],_,a2,q,_,rfl,h_.wf,h_.deep,by have:=Pat.text_short h_.wf h_.deep;lia,Wraps.of h_ λq hq=>#[q,rfl,hq]],?_];rintro _⟨q,rfl,h_⟩;k_places;exact#[q,rfl,h_]
        . exact#[q,rfl,h_]
        rintro _⟨q,rfl,h_⟩;k_places;refine#[λx=>∃p:Pat,x=p.D/\p.Ok,?_,?_]
        . have e_:∀r r':Pat,r.Ok->r'.Ok->∃x,atI [r.D,r'.D] (st/4%2)=be x/\∃p:Pat,x=p.D/\p.Ok:=λr r' hr P_=>by
            rcases(JM:st/4%2=0\/st/4%2=1)with e|e<;>rw[e]
            . exact#[_,rfl,r,rfl,hr]
            . exact#[_,rfl,r',rfl,P_]
          have OK:p.depth<5->q.depth<5->(Pat.over p q).Fits->(Pat.over p q).Ok:=λd1 d2 ft=>#[#[ok.wf,h_.wf],by simp only[Pat.depth];lia,ft];have OL:q.depth<5->p.depth<5->(Pat.over q p).Fits->(Pat.over q p).Ok:=λd1 d2 ft=>#[#[h_.wf,ok.wf],by simp only[Pat.depth];lia,ft];refine#[p,q,rfl,ok.wf,h_.wf,ok.deep,h_.deep,?_,λd1 d2 ft=>?_]<;>refine#[q,p,rfl,h_.wf,ok.wf,h_.deep,ok.deep,?_,λd3 d4 OM=>?_]<;>refine#[JU,#[JQ,JQ],JQ,?_]
          . exact e_ _ _ ok h_
          . exact e_ _ _ ok (OL d3 d4 OM)
          . exact e_ _ _ (OK d1 d2 ft) h_
          . exact e_ _ _ (OK d1 d2 ft) (OL d3 d4 OM)
        rintro _⟨q',rfl,Nk⟩;k_places;exact#[q',_,rfl,Nk]
      rintro _⟨q,o3,rfl,h_⟩;k_places;exact#[q,_,_,_,rfl,h_]
    . rintro z⟨p,o1,o2,o3,rfl,ok⟩;k_places;exact hR p ok
abbrev oV(V:Bx):Prop:=V.D 2 "_law_leaf_shows" lR Bd
def Ea(T:V.T "_law_leaf_shows" lQ lR)(uA:V.m "range")(uB:V.m "len")(uD:V.m "int")(Ki:iW V):oV V:=by
 refine Tx.okDW T sc__law_leaf_shows (λds R h=>?_) (λf cdv A outer s H E J hr=>⟨_,((ai (aq 3 sc__law_leaf_shows.nd (af (aa 0) ad))
   (ai (aq 4 sc__law_leaf_shows.nd (ao (ao (ax (af (aa 3) ad) (aa 1)) (ax (af (aa 3) ad) (aa 2))) (af (aa 3) ad)))
   (ai (aq 5 sc__law_leaf_shows.nd (ao (ao (ax (af (aa 3) ad) (aa 1)) (ax (af (aa 3) ad) (aa 2))) (af (aa 3) ad)))
   (ai (cy 6 PassesOwn.never rfl sc__law_leaf_shows.nd uA (cj uB (ac (af (aa 0) ad) ae)) (au (cy 7 PassesOwn.never rfl sc__law_leaf_shows.nd uA (cj uB (ac (af (af (aa 0) ad) (aa 6)) ae)) (au (br (dG (rD (cw (af (af (af (aa 0) ad) (aa 6)) (aa 7)) aA) (rC (cx (aC Ki hr (ac (af (aa 0) ad) (ac (af (aa 0) ad) (ac (bj (aa 4) (aa 7)) (ac (bj (aa 5) (aa 6)) ae))))))))) (au (aD (af (af (aa 0) ad) (gG uD (ac (af (af (af (aa 0) ad) (aa 6)) (aa 7)) ae))))) bc)))))
   (au (aD ad))))))),λds R h=>?_⟩)
 .obtain⟨_,_,_,rfl,_⟩:=h;rfl
 .obtain⟨l,x,y,rfl,ok,hR⟩:=h;obtain⟨hm,wd,Qa,K1⟩:=id ok.rows;refine#[λd=>d=.tup [.int l.w0,.int l.w1,.int l.w2,.int l.w3,.int l.w4,.int l.w5],#[_,rfl,rfl],?_];rintro _ rfl;k_places;refine#[λd=>d=.int (l.w0*x+l.w1*y+l.w4),#[_,rfl,.inl (n64 ok.w0),_,rfl,.inl (n64 ok.w1),_,rfl,rfl],?_];rintro _ rfl;k_places;refine#[λd=>d=.int (l.w2*x+l.w3*y+l.w5),#[_,rfl,.inl (n64 ok.w2),_,rfl,.inl (n64 ok.w3),_,rfl,rfl],?_];rintro _ rfl;k_places;have Jy:R (.int (match l.hit x y with|some c=>cell l.hues ((c:Int)-48)|none=>0)):=hR;unfold Leaf.hit at Jy;generalize l.w0*x+l.w1*y+l.w4=U at Jy ⊢;generalize l.w2*x+l.w3*y+l.w5=V at Jy ⊢;generalize ef:(λi j=>onB l.a l.b l.c l.d (U-i) (V-j))=f at Jy;have e0:∀i j,f i j=onB l.a l.b l.c l.d (U-i) (V-j):=λi j=>by rw[<-ef]
  have b9:((l.rows.map D.str).length:Int).toNat=l.rows.length:=JU
  refine#[_,rfl,#[JM,Oa],λk z=>∃o1 o2:Option D,z=[be l.D,be (.int x),be (.int y),be (.tup [.int l.w0,.int l.w1,.int l.w2,.int l.w3,.int l.w4,.int l.w5]),be (.int U),be (.int V),o1,o2]/\bL f 0 l.rows=bL f k (l.rows.drop k),#[_,_,rfl,rfl],?_,?_]
  .rintro j v z hj⟨o1,o2,rfl,hs⟩;k_places;obtain⟨Kd,rfl⟩:=cm hj;rw[b9]at Kd;have K4:l.rows[j]?=be l.rows[j]:=F8 Kd;have w9:l.rows.drop j=l.rows[j]::l.rows.drop (j+1):=GM Kd;obtain⟨LK,K0⟩:=K1 l.rows[j] (Gp Kd);generalize l.rows[j]=row at K4 w9 LK K0;have J1:=at_str K4;have p8:=bx row;refine#[_,rfl,_,J1,JM,#[JM,JM],λi z=>∃o2:Option D,z=[be l.D,be (.int x),be (.int y),be (.tup [.int l.w0,.int l.w1,.int l.w2,.int l.w3,.int l.w4,.int l.w5]),be (.int U),be (.int V),be (.int j),o2]/\scanRow (λi=>f i j) 0 (cs row)=scanRow (λi=>f i j) i ((cs row).drop i),#[_,rfl,rfl],?_,?_]
   .rintro i v z hi⟨o2,rfl,Kj⟩;k_places;obtain⟨v7,rfl⟩:=cm hi;have Nl:i<(cs row).length:=by lia
    have Jj:(cs row).drop i=(cs row)[i]::(cs row).drop (i+1):=GM Nl;have K5:=K0 (cs row)[i] (Gp Nl);have Nm:atI (cs row) (i:Int)=be (cs row)[i]:=ce (F8 Nl);generalize (cs row)[i]=c at Jj K5 Nm;refine#[_,rfl,_,J1,c,#[JM,Nm],ite2 (λq=>?_) (λq=>?_)]
    .have t6:¬c=46:=by
      intro z;have:(#[[c].toArray]:A_)=".":=one_sign.mpr z;simp[this]at q
     refine#[_,rfl,_,rfl,l.a,l.b,l.c,l.d,U-i,V-j,rfl,ok.a.lt,ok.b.lt,ok.c.lt,ok.d.lt,ok.ne,?_];refine ite2 (λq2=>?_) (λq2=>?_)
     .have e_:f i j=true:=by rw[e0];exact q2
      have Qb:49<=c/\c<=54:=by unfold bb at K5;lia
      refine#[_,rfl,_,rfl,_,J1,c,#[JM,Nm],_,#[digit_of Qb,by show 1<=640;decide],_,cz JM (by rw[ok.many];lia),?_];rw[hs,w9,bL,Kj,Jj,scanRow,if_pos #[t6,e_]]at Jy;exact Jy
     .have e_:¬f i j=true:=by rw[e0];exact q2
      refine#[_,rfl,?_];rw[Kj,Jj,scanRow,if_neg (λz=>e_ z.2)]
    .have t6:c=46:=by
      rcases Classical.em (c=46)with z|z
      .exact z
      .exact absurd (by
        have:¬(#[[c].toArray]:A_)=".":=λw=>z (one_sign.mp w);simp[this]) q
     refine#[_,rfl,?_];rw[Kj,Jj,scanRow,if_neg (λz=>z.1 t6)]
   .rintro z⟨o2,rfl,Kj⟩;k_places;refine#[_,_,rfl,?_];have hn:((row.length:Int).toNat)=(cs row).length:=by lia
    rw[ca,hn,HZ (FK _),scanRow]at Kj;rw[hs,w9,bL,Kj]
  .rintro z⟨o1,o2,rfl,hs⟩;k_places;rw[ca,b9,HZ (FK _),bL]at hs;rw[hs]at Jy;exact Jy
abbrev oW(V:Bx):Prop:=V.D 3 "_law_shows" lV Be
def Eb(T:V.T "_law_shows" lU lV)(Nn:oV V):oW V:=by
 refine Tx.okDW T sc__law_shows (λds R h=>?_) (λf cdv A outer s H E J hr=>⟨_,((ai (gE 3 PassesOwn.never rfl sc__law_shows.nd (aa 0) (ai (aq 4 sc__law_shows.nd (aC Nn hr (ac (aa 3) (ac (aa 1) (ac (aa 2) ae)))))
    (au (br (cw (aa 4) ad) (au (aD (aa 4))) bc))))
   (au (aD ad)))),λds R h=>?_⟩)
 .obtain⟨_,_,_,rfl,_⟩:=h;rfl
 .obtain⟨ls,x,y,rfl,ok,hR⟩:=h;refine#[λk z=>∃o1 o2:Option D,z=[be (.lst (ls.map Leaf.D)),be (.int x),be (.int y),o1,o2]/\aT ls x y=aT (ls.drop k) x y,#[_,_,rfl,rfl],?_,?_]
  .rintro k v z hk⟨o1,o2,rfl,hs⟩;k_places;rw[FS]at hk;have m8:k<ls.length:=by
    rcases GU k ls.length with q|q
    .exact q
    .rw[Gk q]at hk;cases hk
   rw[F8 m8]at hk;cases hk;have ed:ls.drop k=ls[k]::ls.drop (k+1):=GM m8;have ON:=ok ls[k] (Gp m8);generalize ls[k]=l at ed ON;refine#[λd=>d=.int (l.shows x y),#[l,x,y,rfl,ON,rfl],?_];rintro _ rfl;k_places;refine ite2 (λq=>?_) (λq=>?_)
   .have q':¬l.shows x y=0:=by simpa using q
    rw[hs,ed,aT,if_pos q']at hR;exact hR
   .have q':l.shows x y=0:=by simpa using q
    refine#[_,_,rfl,?_];rw[hs,ed,aT,if_neg (λz=>z q')]
  .rintro z⟨o1,o2,rfl,hs⟩;k_places;rw[FP,HZ (FK _),aT]at hs;rw[hs]at hR;exact hR
def Ec:SpD:=λds R=>∃(p:Pat) (w h:Int),ds=[.lst (p.leaves.map Leaf.D),.int w,.int h]/\p.Ok/\0<=w/\w<=30/\0<=h/\h<=30/\R (.lst (aw p w 0 h.toNat))
abbrev oX(V:Bx):Prop:=V.D 4 "_law_floor_rows" lW Ec
def Ed(T:V.T "_law_floor_rows" ie lW)(uA:V.m "range")(No:oW V):oX V:=by
 refine Tx.okDW T sc__law_floor_rows (λds R h=>?_) (λf cdv A outer s H E J hr=>⟨_,((ai (fL 3 sc__law_floor_rows.nd ae)
   (ai (cy 4 PassesOwn.never rfl sc__law_floor_rows.nd uA (aa 2) (au (fM 3 (jZ (kg rfl (compScope (by change cQ _ (ah ie) ["_law_leaves","_law_wide","_law_high","_law_lines_here","_law_y"] _=true;decide+kernel)) uA (aa 1) (λcl s0 H0 fp=>(af aA (aC No hr (ac (aa 0) (ac (aa 5) (ac (aa 4) ae)))))))))))
   (dY 3 (au (aD (aa 3))))))),λds R h=>?_⟩)
 .obtain⟨_,_,_,rfl,_⟩:=h;rfl
 .obtain⟨p,w,h,rfl,ok,w0,w7,h0,h7,hR⟩:=h;have dp:=ok.deep;refine#[JU,?_];refine#[#[JM,JM],λk z=>∃o,z=[be (.lst (p.leaves.map Leaf.D)),be (.int w),be (.int h),be (.own (aw p w 0 k)),o],#[_,rfl],?_,?_]
  .rintro k v z hk⟨o,rfl⟩;k_places;obtain⟨w_,rfl⟩:=cm hk;refine#[#[JM,JM],by rw[ca];lia,λi ys=>ys=rowD p 0 k i,rfl,?_,?_]
   .rintro i v ys hi hl rfl;obtain⟨Jk,rfl⟩:=cm hi;refine#[p.leaves,i,k,rfl,Pat.leaf_ok ok.wf JM,?_];rw[Pat.show_leaves ok.wf JM];obtain⟨b0,b6⟩:=Pat.show_le ok.wf JM (i:Int) k;refine#[_,#[JQ,uh b0 b6],?_];show rowD p 0 k i++_=rowD p 0 k (i+1);rw[<-uk,G9]
   .rintro ys hl rfl;rw[ca];obtain⟨ys,e1,e2,e3⟩:=ul p 0 (k:Int) (n:=w.toNat) JM;refine#[ys,e1,e2,?_];rw[e3];refine#[by unfold aw;simp;lia,be (.int k),?_];rw[<-oF,G9];rfl
  .rintro z⟨o,rfl⟩;k_places;rw[ca];exact hR
def Ee:SpD:=λds R=>∃d l:Int,ds=[.int d,.int l]/\0<=d/\d<5040/\0<=l/\l<=30/\∀n:Int,1<=n->n<=30->R (.int n)
abbrev oY(V:Bx):Prop:=V.D 1 "_law_many" lY Ee
def Ef(T:V.T "_law_many" lX lY)(uM:V.m "max")(Kk:V.m "min"):oY V:=by
 refine Tx.okDW T C4 (λds R h=>?_) (λf cdv A outer s H E J hr=>⟨_,((ai (br (bq (az (aa 0) ad) ad) (au (aD (eo rfl uM (ac ad (ac (aa 1) ae))))) bc)
   (ai (br (bq (az (aa 0) ad) ad) (au (aD (rP rfl Kk (ac ad (ac (ao (aa 1) ad) ae))))) bc)
   (ai (br (bq (az (aa 0) ad) ad) (au (aD (ao ad (az (aR (aa 0) ad) ad)))) bc)
   (au (aD (ao ad (az (aR (aa 0) ad) ad)))))))),λds R h=>?_⟩)
 .obtain⟨_,_,rfl,_⟩:=h;rfl
 .obtain⟨d,l,rfl,d0,d1,l0,l1,hR⟩:=h;refine#[JQ,ite2 (λ_=>?_) λ_=>?_]
  .refine hR _ ?_ ?_<;>split<;>lia
  refine#[JQ,ite2 (λ_=>?_) λ_=>?_]
  .refine hR _ ?_ ?_<;>split<;>lia
  refine#[JQ,ite2 (λ_=>?_) λ_=>?_]
  .exact#[JQ,JQ,hR _ JM JM]
  exact#[JQ,JQ,hR _ JM JM]
def Eg:SpM:=λds M R _=>∃a q f w,ds=[.ptr a,.str w]/\a≠q/\M=Fl.M f a q/\f.ds.length<=20/\∀q',a≠q'->R .non ((f.keep w).M a q')
abbrev oZ(V:Bx):Prop:=V.Q 1 "Floor" "keep" md Eg
def Eh(T:V.Tm "Floor" "keep" "Floor.keep" lZ md)(Np:V.gi "KEPT" 20)(z7:V.a "Floor" "deeds")(uF:V.a "Floor" "laid")(uO:V.a "Floor" "pattern"):oZ V:=by
 refine CalMth.drop (Txm.okM T C5 (λds M R RX h=>?_) (λf cdv A outer s H E J hr hx=>#[_,((av (bY z7 (ag (aa 0)) (uz (CH (aF z7 (ag (aa 0))) (ku (aE (sE (aE (ag (aa 1)) (aE (aF uO (ag (aa 0))) (aE (aF uF (ag (aa 0))) aW)))) aW))) (ux (ag (bW (eE Np)))) uw)))),λds M R RX d_ h=>?_]))
 .obtain⟨_,_,⟨_,_,_,_,rfl,_⟩,_⟩:=h;rfl
 .obtain⟨R,RX,⟨a,q,f,w,rfl,ne,rfl,hl,hR⟩,rfl,rfl⟩:=h;have nk:∀{p:KF},p∉aj (f.M a q)->p≠a/\p≠q:=λ{p} h=>#[λe=>h (e ▸ FM _ FO),λe=>h (e ▸ FO)];refine#[_,Fl.ma ne,_,vg,_,Fl.ma ne,_,iS,_,Fl.ma ne,_,fg,by show(3:Nat)<=1000;decide,by show(1:Nat)<=1000;decide,λp1 h1=>?_];obtain⟨n1,m1⟩:=nk h1;refine#[_,_,(cC m1).trans Fl.mq,bi,by rw[FP];show _+1<=_;lia,λp2 h2=>?_];have p_:p2≠p1/\p2∉aj (f.M a q):=#[λe=>h2 (e ▸ FO),λz=>h2 (FM _ z)];obtain⟨n2,m2⟩:=nk p_.2;refine#[_,bi,λp3 h3=>?_];have Qc:p3≠p2/\p3∉aj ((p1,.lst [])::f.M a q):=#[λe=>h3 (e ▸ FO),λz=>h3 (FM _ z)];obtain⟨n3,m3⟩:=nk λz=>Qc.2 (FM _ z);refine#[_,(cC n3).trans ((cC n2).trans ((cC n1).trans (Fl.ma ne))),by show(6:Nat)<1000;decide,_,#[?_,?_],hR p3 (Ne.symm n3)]
  .rw[cM n3,cM n2,cM n1,show f.M a q=[(q,.lst (f.ds.map Deed.D)),(a,.ins "Floor" (f.fs q))]from rfl,cM (Ne.symm ne),bT];have e1:cutD (f.ds.map Deed.D++[D.tup [.str w,f.d,.int f.l]]) (be (-20)) r_=(f.keep w).ds.map Deed.D:=by
    rw[DC];show _=HX Deed.D (G6 _ _);rw[List.map_drop,Gh,FV,FP];rfl
   have e2:putD ("deeds":A_) (.ptr p3) (f.fs q)=(f.keep w).fs p3:=rfl;rw[e1,e2];intro e he;rcases FL.mp he with rfl|he
   .exact FO
   .rw[FJ.mp he];simp
  .exact Fl.nd (Ne.symm n3)
abbrev iX(V:Bx):Prop:=V.X 1 "refuse_far" mf B8
def Ei(T:V.T "refuse_far" me mf)(uM:V.m "max")(uR:V.m "abs")(Nq:V.gi "FAR" 1000000000000)(Nr:V.n "TooFar"):iX V:=by
 refine Tx.okXW T C6 (λds R RX h=>?_) (λf cdv A outer s H E J hr hx=>#[_,((au (br (rq (eo rfl uM (ac (dW uR (ac (aa 0) ae)) (ac (dW uR (ac (aa 1) ae)) ae))) (eE Nq)) (au (yY Nr hx rfl (ac aA ae))) bc))),λds R RX d_ h=>?_])
 .obtain⟨_,_,rfl,_⟩:=h;rfl
 .obtain⟨x,y,rfl,h1,h2⟩:=h;refine ite2 (λc=>?_) (λc=>?_)
  .have c':=of_decide_eq_true c;refine#[by show(1:Nat)<=1000;decide,?_];rw[d_];refine h2 λ⟨⟨a1,a2⟩,a3,a4⟩=>?_;split at c'<;>split at c'<;>split at c'<;>lia
  .have c':¬_:=λz=>c (decide_eq_true z);refine h1 ?_;unfold bp;split at c'<;>split at c'<;>split at c'<;>lia
abbrev fj(V:Bx):Prop:=V.D 1 "home" mj AQ
def Ej(T:V.T "home" mi mj):fj V:=by
 refine Tx.okDW T sc_home (λds R h=>?_) (λf cdv A outer s H E J hr=>⟨_,((ai (aq 3 sc_home.nd (af (aa 0) ad))
   (ai (aq 4 sc_home.nd (af (aa 0) ad))
   (ai (aq 5 sc_home.nd (af (aa 0) ad))
   (au (aD (aN (ac (az (bj (aa 1) (ax (aR (aa 2) (aa 4)) (aa 5))) (aa 3)) (ac (az (aa 2) (aa 4)) ae))))))))),λds R h=>?_⟩)
 .obtain⟨w,h,s,x,y,rfl,_⟩:=h;rfl
 .obtain⟨w,h,s,x,y,rfl,hw,hh,z6,hs,j9,hR⟩:=h;refine#[λd=>d=.int w,#[_,rfl,rfl],?_];rintro _ rfl;k_places;refine#[λd=>d=.int h,#[_,rfl,rfl],?_];rintro _ rfl;k_places;refine#[λd=>d=.int s,#[_,rfl,rfl],?_];rintro _ rfl;k_places;exact#[#[hh,z6],.inr #[JM,JM],hw,hh,JU,hR]
variable{n j:Nat}
def ok_Motif_shows(hL:1<=n)(T:V.Tm "Motif" "shows" "Motif.shows" ig cq)(x8:fj V)(Jz:V.a "Motif" "hues")(uL:V.a "Motif" "shifts"):V.Q (n+1) "Motif" "shows" cq (ofX (bS (j+1) "Motif")):=by
 refine Txm.okM T C7 (λds M R RX h=>?_) (λf cdv A outer s H E J hr hx=>#[_,((av (aH (Al (qF hr) (aF Jz (ag (aa 0))) (aE (aM (hn:=Kv) (CalD.toM x8) hx hr (aE (aF uL (ag (aa 0))) (aE (ag (aa 1)) (aE (ag (aa 2)) aW)))) (aE (ag ad) aW)))))),λds M R RX d_ h=>?_])
 .obtain⟨_,_,_,_,rfl,_⟩:=h;rfl
 .obtain⟨p,v,X,Y,rfl,hv,u6,hd,hc,hR⟩:=h;cases p<;>simp only[Pat.cls]at hc<;>try exact absurd hc JT
  rename_i L a b c d;obtain⟨k,w,h,s,rfl,F⟩:=hv;obtain⟨hL,ha,hb,Jq,i6,hn⟩:=u6;unfold B12 at ha hb Jq i6;obtain⟨b1,b2,b3⟩:=F.bd (N:=288) (by
   have m1:=bJ (a:=a) (d:=d) (A:=12) (B:=12) JM JM;have m2:=bJ (a:=b) (d:=c) (A:=12) (B:=12) JM JM;lia)
  rw[Pat.show,<-motif_shows hL F hn X Y]at hR;exact#[_,#[rfl,rfl],_,B1,_,#[rfl,rfl],_,mo_shifts,w,h,s,X,Y,rfl,F.1,F.2.1,JM,F.2.2.1,JM,hR]
def El(hL:1<=n)(T:V.Tm "Over" "shows" "Over.shows" ii ij)(uV:V.a "Over" "above")(uX:V.a "Over" "below")(uG:∀x,x∈(["Motif","Over","Shifted","Mirror","Turn","Rehue"]:List A_)->V.Q n x "shows" cq (ofX (bS j x))):V.Q (n+1) "Over" "shows" ij (ofX (bS (j+1) "Over")):=by
 refine Txm.okM T sc_Over_shows (λds M R RX h=>?_) (λf cdv A outer s H E J hr hx=>⟨_,((ar (aJ 3 sc_Over_shows.nd (aV (hn:=Kv) uG hx hr (aF uV (ag (aa 0))) (aB (ac (aa 1) (ac (aa 2) ae)))))
   (av (aH (fQ (bH (bq (aa 3) ad)) (aV (hn:=Kv) uG hx hr (aF uX (ag (aa 0))) (aB (ac (aa 1) (ac (aa 2) ae)))) (ag (aa 3))))))),λds M R RX d_ h=>?_⟩)
 .obtain⟨_,_,_,_,rfl,_⟩:=h;rfl
 .obtain⟨p,v,X,Y,rfl,hv,u6,hd,hc,hR⟩:=h;cases p<;>simp only[Pat.cls]at hc<;>try exact absurd hc JT
  rename_i p q;obtain⟨u,u',rfl,hu,K6⟩:=hv;obtain⟨fs,rfl,o1⟩:=hu.objm;obtain⟨gs,rfl,o2⟩:=K6.objm;rw[Pat.depth]at hd;refine#[λd M'=>d=.int (p.show X Y)/\M'=M,#[_,#[rfl,rfl],_,rfl,p.cls,p.cls_mem,fs,#[rfl,rfl],o1.shw,p,_,X,Y,rfl,hu,u6.1,JM,rfl,rfl,rfl],?_];rintro _ _⟨rfl,rfl⟩;k_places;rw[Pat.show]at hR;show if decide (p.show X Y=0)=true then _ else _
  refine ite2 (λe=>?_) (λe=>?_)
  .have e':=of_decide_eq_true e;rw[if_neg (λz=>z e')]at hR;exact#[_,#[rfl,rfl],_,eZ JT,q.cls,q.cls_mem,gs,#[rfl,rfl],o2.shw,q,_,X,Y,rfl,K6,u6.2,JM,rfl,hR]
  .have e':p.show X Y≠0:=λz=>e (decide_eq_true z);rw[if_pos e']at hR;exact hR
def Em(hL:1<=n)(T:V.Tm "Shifted" "shows" "Shifted.shows" ik il)(uW:V.a "Shifted" "form")(JA:V.a "Shifted" "y")(JB:V.a "Shifted" "x")(uG:∀x,x∈(["Motif","Over","Shifted","Mirror","Turn","Rehue"]:List A_)->V.Q n x "shows" cq (ofX (bS j x))):V.Q (n+1) "Shifted" "shows" il (ofX (bS (j+1) "Shifted")):=by
 refine Txm.okM T C8 (λds M R RX h=>?_) (λf cdv A outer s H E J hr hx=>#[_,((av (aH (aV (hn:=Kv) uG hx hr (aF uW (ag (aa 0))) (aE (cS (ag (aa 1)) (aF JB (ag (aa 0)))) (aE (cS (ag (aa 2)) (aF JA (ag (aa 0)))) aW)))))),λds M R RX d_ h=>?_])
 .obtain⟨_,_,_,_,rfl,_⟩:=h;rfl
 .obtain⟨p,v,X,Y,rfl,hv,u6,hd,hc,hR⟩:=h;cases p<;>simp only[Pat.cls]at hc<;>try exact absurd hc JT
  rename_i a b p;obtain⟨u,rfl,hu⟩:=hv;obtain⟨fs,rfl,o1⟩:=hu.objm;rw[Pat.depth]at hd;exact#[_,#[rfl,rfl],_,rfl,p.cls,p.cls_mem,fs,#[rfl,rfl],o1.shw,_,#[rfl,rfl],_,eZ JT,_,#[rfl,rfl],_,kQ JT JT,p,_,X-a,Y-b,rfl,hu,u6.2.2,JM,rfl,hR]
def En(hL:1<=n)(T:V.Tm "Mirror" "shows" "Mirror.shows" im io)(uS:V.a "Mirror" "form")(uG:∀x,x∈(["Motif","Over","Shifted","Mirror","Turn","Rehue"]:List A_)->V.Q n x "shows" cq (ofX (bS j x))):V.Q (n+1) "Mirror" "shows" io (ofX (bS (j+1) "Mirror")):=by
 refine Txm.okM T C9 (λds M R RX h=>?_) (λf cdv A outer s H E J hr hx=>#[_,((av (aH (aV (hn:=Kv) uG hx hr (aF uS (ag (aa 0))) (aB (ac (bW (aa 1)) (ac (aa 2) ae))))))),λds M R RX d_ h=>?_])
 .obtain⟨_,_,_,_,rfl,_⟩:=h;rfl
 .obtain⟨p,v,X,Y,rfl,hv,u6,hd,hc,hR⟩:=h;cases p<;>simp only[Pat.cls]at hc<;>try exact absurd hc JT
  rename_i p;obtain⟨u,rfl,hu⟩:=hv;obtain⟨fs,rfl,o1⟩:=hu.objm;rw[Pat.depth]at hd;exact#[_,#[rfl,rfl],_,rfl,p.cls,p.cls_mem,fs,#[rfl,rfl],o1.shw,p,_,-X,Y,rfl,hu,u6,JM,rfl,hR]
def Eo(hL:1<=n)(T:V.Tm "Turn" "shows" "Turn.shows" ip iq)(uU:V.a "Turn" "form")(uG:∀x,x∈(["Motif","Over","Shifted","Mirror","Turn","Rehue"]:List A_)->V.Q n x "shows" cq (ofX (bS j x))):V.Q (n+1) "Turn" "shows" iq (ofX (bS (j+1) "Turn")):=by
 refine Txm.okM T Da (λds M R RX h=>?_) (λf cdv A outer s H E J hr hx=>#[_,((av (aH (aV (hn:=Kv) uG hx hr (aF uU (ag (aa 0))) (aB (ac (aa 2) (ac (bW (aa 1)) ae))))))),λds M R RX d_ h=>?_])
 .obtain⟨_,_,_,_,rfl,_⟩:=h;rfl
 .obtain⟨p,v,X,Y,rfl,hv,u6,hd,hc,hR⟩:=h;cases p<;>simp only[Pat.cls]at hc<;>try exact absurd hc JT
  rename_i p;obtain⟨u,rfl,hu⟩:=hv;obtain⟨fs,rfl,o1⟩:=hu.objm;rw[Pat.depth]at hd;exact#[_,#[rfl,rfl],_,rfl,p.cls,p.cls_mem,fs,#[rfl,rfl],o1.shw,p,_,Y,-X,rfl,hu,u6,JM,rfl,hR]
def Ep(hL:1<=n)(T:V.Tm "Rehue" "shows" "Rehue.shows" ir iu)(uY:V.a "Rehue" "form")(JC:V.a "Rehue" "old")(JD:V.a "Rehue" "new")(uG:∀x,x∈(["Motif","Over","Shifted","Mirror","Turn","Rehue"]:List A_)->V.Q n x "shows" cq (ofX (bS j x))):V.Q (n+1) "Rehue" "shows" iu (ofX (bS (j+1) "Rehue")):=by
 refine Txm.okM T sc_Rehue_shows (λds M R RX h=>?_) (λf cdv A outer s H E J hr hx=>⟨_,((ar (aJ 3 sc_Rehue_shows.nd (aV (hn:=Kv) uG hx hr (aF uY (ag (aa 0))) (aB (ac (aa 1) (ac (aa 2) ae)))))
   (av (aH (fQ (gP (ag (aa 3)) (aF JC (ag (aa 0)))) (aF JD (ag (aa 0))) (ag (aa 3))))))),λds M R RX d_ h=>?_⟩)
 .obtain⟨_,_,_,_,rfl,_⟩:=h;rfl
 .obtain⟨p,v,X,Y,rfl,hv,u6,hd,hc,hR⟩:=h;cases p<;>simp only[Pat.cls]at hc<;>try exact absurd hc JT
  rename_i f g p;obtain⟨u,rfl,hu⟩:=hv;obtain⟨fs,rfl,o1⟩:=hu.objm;rw[Pat.depth]at hd;refine#[λd M'=>d=.int (p.show X Y)/\M'=M,#[_,#[rfl,rfl],_,rfl,p.cls,p.cls_mem,fs,#[rfl,rfl],o1.shw,p,_,X,Y,rfl,hu,u6.2.2,JM,rfl,rfl,rfl],?_];rintro _ _⟨rfl,rfl⟩;k_places;rw[Pat.show]at hR;unfold bC at hR;refine#[_,#[rfl,rfl],_,eZ JT,ite2 (λe=>?_) (λe=>?_)]
  .rw[if_pos (of_decide_eq_true e)]at hR;exact#[_,#[rfl,rfl],_,kQ JT JT,hR]
  .rw[if_neg (λz=>e (decide_eq_true z))]at hR;exact hR
def Er(OO:V.Tm "Motif" "shows" "Motif.shows" ig cq)(OP:V.Tm "Over" "shows" "Over.shows" ii ij)(OQ:V.Tm "Shifted" "shows" "Shifted.shows" ik il)(OR:V.Tm "Mirror" "shows" "Mirror.shows" im io)(OS:V.Tm "Turn" "shows" "Turn.shows" ip iq)(OT:V.Tm "Rehue" "shows" "Rehue.shows" ir iu)(x8:fj V)(Jz:V.a "Motif" "hues")(uL:V.a "Motif" "shifts")(uV:V.a "Over" "above")(uX:V.a "Over" "below")(uW:V.a "Shifted" "form")(JA:V.a "Shifted" "y")(JB:V.a "Shifted" "x")(uS:V.a "Mirror" "form")(uU:V.a "Turn" "form")(uY:V.a "Rehue" "form")(JC:V.a "Rehue" "old")(JD:V.a "Rehue" "new"):∀j x,x∈(["Motif","Over","Shifted","Mirror","Turn","Rehue"]:List A_)->V.Q (1+j) x "shows" cq (ofX (bS j x)):=by
 intro j;induction j with
 |zero=>
  intro x hx;simp only[FL,G8,or_false]at hx;rcases hx with rfl|rfl|rfl|rfl|rfl|rfl
  .exact CalMth.never OO (λds M R RX=>fc)
  .exact CalMth.never OP (λds M R RX=>fc)
  .exact CalMth.never OQ (λds M R RX=>fc)
  .exact CalMth.never OR (λds M R RX=>fc)
  .exact CalMth.never OS (λds M R RX=>fc)
  .exact CalMth.never OT (λds M R RX=>fc)
 |succ j K7=>
  intro x hx;simp only[FL,G8,or_false]at hx;rcases hx with rfl|rfl|rfl|rfl|rfl|rfl
  .exact ok_Motif_shows (n:=1+j) (j:=j) Kv OO x8 Jz uL
  .exact El (n:=1+j) (j:=j) Kv OP uV uX K7
  .exact Em (n:=1+j) (j:=j) Kv OQ uW JA JB K7
  .exact En (n:=1+j) (j:=j) Kv OR uS K7
  .exact Eo (n:=1+j) (j:=j) Kv OS uU K7
  .exact Ep (n:=1+j) (j:=j) Kv OT uY JC JD K7
abbrev vk(V:Bx):Prop:=∀x,x∈(["Motif","Over","Shifted","Mirror","Turn","Rehue"]:List A_)->V.Q 7 x "shows" cq (ofX (bS 6 x))
abbrev pd(V:Bx):Prop:=V.X 8 "cell_at" mm B9
def Es(T:V.T "cell_at" ml mm)(J2:iX V)(Kl:V.a "Pattern" "form")(uG:vk V):pd V:=by
 refine CalMM.nilX (Tx.okM T Db (λds M R RX h=>?_) (λf cdv A outer s H E J hr hx=>⟨_,((ar (bQ (aM (CalX.toM J2) hx hr (aB (ac (aa 1) (ac (aa 2) ae)))))
   (av (aH (aV uG hx hr (aF Kl (ag (aa 0))) (aB (ac (aa 1) (ac (aa 2) ae)))))))),λds M R RX d_ h=>?_⟩))
 .obtain⟨_,R0,Je,⟨_,_,_,_,rfl,_⟩,_⟩:=h;rfl
 .obtain⟨rfl,R0,Je,⟨p,d,x,y,rfl,⟨w,h,s,fs,rfl,e1,e2,hp⟩,ok,h1,h2⟩,hR,hX⟩:=h;obtain⟨v,e3,hv⟩:=hp.form;obtain⟨gs,rfl,o1⟩:=hv.objm;have Qe:=ok.deep;refine#[x,y,rfl,λhn=>?_,λhn=>?_]
  .exact#[_,#[rfl,rfl],_,e3,p.cls,p.cls_mem,gs,#[rfl,rfl],o1.shw,p,_,x,y,rfl,hv,ok.wf,JM,rfl,hR _ _ (h1 hn)]
  .rw[d_];exact hX _ _ _ (h2 hn)
abbrev iY(V:Bx):Prop:=V.D 9 "row_from" mn Ca
def Et(T:V.T "row_from" iw mn)(uA:V.m "range")(Nt:pd V)(uQ:V.gs "SIGNS" ".123456"):iY V:=by
 refine Tx.okDW T Dc (λds R h=>?_) (λf cdv A outer s H E J hr=>#[_,((au (aD (jZ (kg rfl (compScope (by change cQ _ (ah iw) ["pattern","x","y","many"] _=true;decide+kernel)) uA (aa 3) (λcl s0 H0 fp=>(af (eF uQ) (aC (CalX.no Nt) hr (ac (aa 0) (ac (ao (aa 1) (aa 4)) (ac (aa 2) ae))))))))))),λds R h=>?_])
 .obtain⟨_,_,_,_,_,rfl,_⟩:=h;rfl
 .obtain⟨p,d,x,y,n,rfl,hd,ok,hn,J_,ox,hy,hR⟩:=h;obtain⟨w,h,s,fs,rfl,_⟩:=id hd;refine#[#[JM,JM],by rw[ca];lia,λk ys=>ys=rowD p x y k,rfl,?_,?_]
  .rintro k v ys hk hl rfl;obtain⟨w_,rfl⟩:=cm hk;obtain⟨b0,b6⟩:=Pat.show_le ok.wf (by have:=ok.deep;lia) (x+(k:Int)) y;unfold bp at J_ ox;exact#[p,.obj "Pattern" fs,x+(k:Int),y,rfl,hd,ok,λ_=>#[_,#[JQ,uh b0 b6],uk p x y k],λz=>z #[#[JM,JM],hy]]
  .rintro ys hl rfl;rw[ca,Hc];obtain⟨ys,e1,e2,e3⟩:=ul p x y hn;refine#[ys,e1,e2,?_];rw[e3];exact hR
def vm:SpN:=λds R _=>∃f q,ds=[.obj "Floor" (Fl.fs f q)]/\f.Ok/\R (aw f.p f.w 0 f.l.toNat)
def Eu(p:Pat)(w lo:Int)(n:Nat):flats (aw p w lo n)=true:=by have:=DD p w lo n;unfold bZ at this;exact this
variable{f:Fl}
def pe{a q:KF}{M:MS}(m:mget M a=be (.ins "Floor" (f.fs q)))(ok:f.Ok){R:D->MS->Prop}{RX:XDM}(h:∀p,p∉aj M->R (.ptr p) ((p,.lst (aw f.p f.w 0 f.l.toNat))::M)):lendN vm [.ptr a] M R RX:=by
 refine#[a,_,_,m,f,q,?_,ok,Eu _ _ _ _,h];show[ck a _ (.ptr a)]=_;rw[fY]
abbrev gj(V:Bx):Prop:=V.QN 10 "Floor" "rows" mo vm
def Ev(T:V.Tm "Floor" "rows" "Floor.rows" iy mo)(uA:V.m "range")(Km:iY V)(uF:V.a "Floor" "laid")(uK:V.a "Floor" "width")(uO:V.a "Floor" "pattern"):gj V:=by
 refine Txm.okN T Dd (λds R RX h=>?_) (λf cdv A outer s H E J hr hx=>#[_,((ve (CW rfl (compScope (by change cQ _ (ah iy) ["self"] _=true;decide+kernel)) uA (eB uF (aa 0)) (λcl s0 H0 fp=>(aC Km hr (ac (eB uO (aa 0)) (ac ad (ac (aa 1) (ac (eB uK (aa 0)) ae))))))))),λds R RX d_ h=>?_])
 .obtain⟨_,_,rfl,_⟩:=h;rfl
 .obtain⟨f,q,rfl,ok,hR⟩:=h;have l0:=ok.l0;have l1:=ok.l1;have h2:=ok.h2;have w1:=ok.w1;have w2:=ok.w2;refine#[rfl,_,fg,#[JM,JM],by rw[ca];lia,λk ys=>ys=aw f.p f.w 0 k,rfl,?_,?_]
  .rintro k v ys hk hl rfl;obtain⟨w_,rfl⟩:=cm hk;refine#[rfl,_,iS,rfl,_,gf,f.p,f.d,0,k,f.w.toNat,by rw[Gm JM],ok.is,ok.ok,JM,#[JM,JM],#[JM,JM],#[JM,JM],?_];show aw f.p f.w 0 k++_=aw f.p f.w 0 (k+1);rw[<-oF,G9]
  .rintro ys hl rfl;rw[ca];exact hR
def S_Floor_lay:SpM:=λds M R RX=>∃a q f n,ds=[.ptr a,.int n]/\a≠q/\M=Fl.M f a q/\f.Ok/\1<=n/\n<=1000/\(f.h-f.l<n->RX "NoRow" [] (f.M a q))/\(n<=f.h-f.l->∀q' p,a≠q'->p≠a/\p≠q'->R (.ptr p) ((p,.lst (aw f.p f.w f.l n.toNat))::(f.lay n).M a q'))
def Fl.ok_new{p:Pat}{d:D}{w h:Int}(is:cn p d)(ok:p.Ok)(w1:1<=w)(w2:w<=30)(h1:1<=h)(h2:h<=30):(Fl.mk p d w h 0 []).Ok:=#[is,ok,w1,w2,h1,h2,Int.le_refl 0,Gs (show(0:Int)<=1 by decide) h1,Gb _,λ_ h=>nomatch h]
def Fl.Ok.keep(ok:f.Ok)(w:A_):(f.keep w).Ok:=by
 refine#[ok.is,ok.ok,ok.w1,ok.w2,ok.h1,ok.h2,ok.l0,ok.l1,?_,λe he=>?_]
 .show(G6 _ _).length<=20;rw[GQ,FV,G3];have:=ok.de;lia
 .rcases Ga.mp (HY he)with z|z
  .exact ok.dd e z
  .rw[FJ.mp z];exact#[ok.is,ok.ok,ok.l0,ok.l1]
def Fl.Ok.lay{n:Int}(ok:f.Ok)(n0:0<=n)(hn:n<=f.h-f.l):(f.lay n).Ok:=by
 have l0:=ok.l0;have k:=ok.keep "lay";exact#[ok.is,ok.ok,ok.w1,ok.w2,ok.h1,ok.h2,by show 0<=f.l+n;lia,by show f.l+n<=f.h;lia,k.de,k.dd]
abbrev pf(V:Bx):Prop:=V.Q 11 "Floor" "lay" iz S_Floor_lay/\V.Qd 11 "Floor" "lay" iz [.int 1] S_Floor_lay
def Ew(T:V.Td "Floor" "lay" "Floor.lay" mv iz [.int 1])(uM:V.m "max")(uT:V.a "Floor" "height")(uF:V.a "Floor" "laid")(Nu:oZ V)(Jl:gj V)(Nv:V.n "NoRow"):pf V:=by
 refine Txd.okMd T sc_Floor_lay (λds M R RX h=>?_) (λf cdv A outer s H E J hr hx=>⟨_,((ar (bo (zv (ag (aa 1)) (cS (aF uT (ag (aa 0))) (aF uF (ag (aa 0))))) (av (zL Nv hx rfl (aB (ac aA ae)))) bf)
   (ar (bQ (aV (CalMth.one Nu) hx hr (ag (aa 0)) (aB (ac aA ae))))
   (ar (aJ 2 sc_Floor_lay.nd (aF uF (ag (aa 0))))
   (ar (bY uF (ag (aa 0)) (ag (ao (aa 2) (eo rfl uM (ac (aa 1) (ac ad ae))))))
   (av (aH (uz (bI (CalMth.one (CalMth.lendN Jl)) hx hr (ag (aa 0))) (ux (ag (aa 2))) uw)))))))),λds M R RX d_ h=>?_⟩)
 .obtain⟨_,_,⟨_,_,_,_,rfl,_⟩,_⟩:=h;rfl
 .obtain⟨R,RX,⟨a,q,f,n,rfl,ne,rfl,ok,n1,n2,hX,hR⟩,rfl,rfl⟩:=h;have l0:=ok.l0;have l1:=ok.l1;refine#[_,Fl.ma ne,_,iT,_,Fl.ma ne,_,fg,ite2 (λc=>?_) (λc=>?_)]
  .have c':=of_decide_eq_true c;refine#[by show(1:Nat)<=1000;decide,?_];rw[d_];exact#[_,Fl.sub ne,hX c']
  have hc:n<=f.h-f.l:=by have:¬(f.h-f.l<n):=λz=>c (decide_eq_true z);lia
  refine#[_,FJ.mpr rfl,_,Fl.ma ne,rfl,a,q,f,"lay",rfl,ne,rfl,ok.de,λq' j8=>?_];refine#[λd M'=>d=.int f.l/\M'=(f.keep "lay").M a q',#[_,Fl.ma j8,_,fg,rfl,rfl],?_];rintro _ _⟨rfl,rfl⟩;k_places;have eM:mput ((f.keep "lay").M a q') a (.ins "Floor" (putD "laid" (.int (f.l+if 0>n then 0 else n)) ((f.keep "lay").fs q')))=(f.lay n).M a q':=by
   rw[Fl.put j8,if_neg JM];rfl
  refine#[_,Fl.ma j8,by show(6:Nat)<1000;decide,?_];rw[eM];have el:(f.lay n).l.toNat=f.l.toNat+n.toNat:=by show(f.l+n).toNat=_;lia
  refine#[_,FJ.mpr rfl,_,Fl.ma j8,rfl,?_];dsimp only[mNil];refine pe (Fl.ma j8) (ok.lay JM hc) λp1 h1=>?_;rw[el];refine#[_,bi,λp h2=>?_];have e:=vh f.p f.w n.toNat l0;show ∃N,subM N ((p,.lst (cutD (aw f.p f.w 0 _) (be f.l) r_))::_)/\R (.ptr p) N;rw[e];have h3:p≠a/\p≠q':=#[λz=>h2 (by rw[z];simp[aj,Fl.M]),λz=>h2 (by rw[z];simp[aj,Fl.M])];refine#[_,#[λe he=>?_,?_],hR hc q' p j8 h3]
  .rcases FL.mp he with rfl|he
   .exact FO
   .exact FM _ (FM _ he)
  .show[p,q',a].Nodup;simp[h3.1,h3.2,Ne.symm j8]
def Ey:SpM:=λds M R _=>∃a q f n b,ds=[.ptr a,.int n,.bl b]/\a≠q/\M=Fl.M f a q/\f.Ok/\1<=n/\n<=1000/\(f.h-f.l<n->R (.lst [.bl true,.non]) (f.M a q))/\(n<=f.h-f.l->∀q' p,a≠q'->p≠a/\p≠q'->R (.lst [.bl false,.ptr p]) ((p,.lst (aw f.p f.w f.l n.toNat))::(f.lay n).M a q'))
abbrev vn(V:Bx):Prop:=V.Ek ["TooFar","NoRow"]
abbrev ph(V:Bx):Prop:=V.MM 12 "_law_lay" my Ey
def Ez(T:V.T "_law_lay" mx my)(LR:pf V)(ek:vn V):ph V:=by
 refine Tx.okM T sc__law_lay (λds M R RX h=>?_) (λf cdv A outer s H E J hr hx=>⟨_,((ar (aJ 3 sc__law_lay.nd (ag cO))
   (ar (aJ 4 sc__law_lay.nd (ag bA))
   (ar (Aq (λpn xe J hp hx=>(av (gW (bH (dG (rD (bq (aa 1) ad) (rC (cx (aa 2)))))) (av (aJ 3 sc__law_lay.nd (CF LR.2 hx hr (ag (aa 0))))) (av (aJ 3 sc__law_lay.nd (aV (CalMth.one LR.1) hx hr (ag (aa 0)) (aB (ac (aa 1) ae)))))))) (λ_=>(ze ek (λe=>(au (aq 4 sc__law_lay.nd bA))) zd)))
   (av (aH (ag (bw (ac (aa 4) (ac (aa 3) ae)))))))))),λds M R RX d_ h=>?_⟩)
 .obtain⟨_,_,_,_,_,rfl,_⟩:=h;rfl
 .obtain⟨a,q,f,n,b,rfl,ne,rfl,ok,n1,n2,hX,hR⟩:=h;refine#[λd M'=>d=.non/\M'=f.M a q,#[rfl,rfl],?_];rintro _ _⟨rfl,rfl⟩;k_places;refine#[λd M'=>d=.bl false/\M'=f.M a q,#[rfl,rfl],?_];rintro _ _⟨rfl,rfl⟩;k_places;refine#[λz M' x fs=>z=[be (.ptr a),be (.int n),be (.bl b),be .non,be (.bl false)]/\M'=f.M a q/\x="NoRow"/\f.h-f.l<n,λJ hJ=>?_,?_]
  .let P:D->MS->Prop:=λd M'=>n<=f.h-f.l/\∃q' p,a≠q'/\(p≠a/\p≠q')/\d=.ptr p/\M'=(p,.lst (aw f.p f.w f.l n.toNat))::(f.lay n).M a q'
   have lay:S_Floor_lay [.ptr a,.int n] (f.M a q) P (λx fs M'=>J.RM [be (.ptr a),be (.int n),be (.bl b),be .non,be (.bl false)] M' x fs):=
    #[a,q,f,n,rfl,ne,rfl,ok,n1,n2,λc=>by rw[hJ];exact#[rfl,rfl,rfl,c],λc q' p j8 np=>#[c,q',p,j8,np,rfl,rfl]]
   refine#[λz M'=>n<=f.h-f.l/\∃q' p,a≠q'/\(p≠a/\p≠q')/\z=[be (.ptr a),be (.int n),be (.bl b),be (.ptr p),be (.bl false)]/\M'=(p,.lst (aw f.p f.w f.l n.toNat))::(f.lay n).M a q',ite2 (λc=>ite2 (λ_=>?_) (λ_=>?_)) (λ_=>?_),λz M' ⟨c,q',p,j8,np,e1,e2⟩=>?_]
   .have c':n=1:=of_decide_eq_true c;subst c';exact#[P,#[_,Fl.ma ne,rfl,lay],λd M' ⟨c,q',p,j8,np,e1,e2⟩=>#[c,q',p,j8,np,by rw[e1];rfl,e2]]
   .exact#[P,#[_,FJ.mpr rfl,_,Fl.ma ne,rfl,lay],λd M' ⟨c,q',p,j8,np,e1,e2⟩=>#[c,q',p,j8,np,by rw[e1];rfl,e2]]
   .exact#[P,#[_,FJ.mpr rfl,_,Fl.ma ne,rfl,lay],λd M' ⟨c,q',p,j8,np,e1,e2⟩=>#[c,q',p,j8,np,by rw[e1];rfl,e2]]
   .subst e1 e2;exact#[by show(2:Nat)<=1000;decide,hR c q' p j8 np]
  .rintro z M' x fs⟨rfl,rfl,rfl,c⟩;k_places;refine#[#[JU,JU],?_];rw[if_pos JT];exact#[λd=>d=.bl true,rfl,λd e=>by subst e;exact#[#[by show(2:Nat)<=1000;decide,hX c],NoOwn.of rfl]]
def EA:SpD:=λds R=>∃(p:Pat) (w lo:Int) (n:Nat),ds=[.lst (aw p w lo n),.lst (aw p w lo n)]/\n<=1000/\R (.bl true)
abbrev iZ(V:Bx):Prop:=V.D 1 "_law_texts" mB EA
def EB(T:V.T "_law_texts" mz mB)(uB:V.m "len")(uP:V.m "isinstance")(Jh:V.m "list")(uA:V.m "range")(uJ:V.m "str"):iZ V:=by
 refine Tx.okDW T sc__law_texts (λds R h=>?_) (λf cdv A outer s H E J hr=>⟨_,((ai (br (dG (fF (dX (cx (fJ uP Jh (aa 0) PyProof.Rows.boot_list kit_list))) (fE (cw (cj uB (ac (aa 0) ae)) (cj uB (ac (aa 1) ae)))))) (au (aD bA)) bc)
   (ai (cy 2 PassesOwn.never rfl sc__law_texts.nd uA (cj uB (ac (aa 1) ae)) (au (br (dG (fF (dX (cx (fJ uP uJ (af (aa 0) (aa 2)) PyProof.Rows.boot_str kit_str))) (fE (cw (af (aa 0) (aa 2)) (af (aa 1) (aa 2)))))) (au (aD bA)) bc)))
   (au (aD bA))))),λds R h=>?_⟩)
 .obtain⟨_,_,_,_,rfl,_⟩:=h;rfl
 .obtain⟨p,w,lo,n,rfl,n7,hR⟩:=h;have lp:(aw p w lo n).length=n:=by unfold aw;simp
  refine ite2 (λc=>absurd c JU) λ_=>?_;refine#[#[JM,by rw[lp];lia],λk z=>∃o,z=[be (.lst (aw p w lo n)),be (.lst (aw p w lo n)),o],#[_,rfl],?_,?_]
  .rintro k v z hk⟨o,rfl⟩;k_places;obtain⟨w_,rfl⟩:=cm hk;rw[lp]at w_;have ak:=DP (p:=p) (w:=w) (lo:=lo) (show k<n by lia);exact#[_,ak,_,ak,_,ak,ite2 (λc=>absurd c JU) λ_=>#[_,rfl]]
  .rintro z⟨o,rfl⟩;k_places;exact hR
abbrev ja(V:Bx):Prop:=V.D 1 "_law_whole" mD AL
def EC(T:V.T "_law_whole" mC mD)(uP:V.m "isinstance")(Nw:V.m "bool")(uD:V.m "int"):ja V:=by
 refine Tx.okDW T De (λds R h=>?_) (λf cdv A outer s H E J hr=>#[_,((au (aD (fH (fJ uP uD (aa 0) PyProof.Rows.boot_int yf) (fG (ye (fJ uP Nw (aa 0) PyProof.Rows.boot_bool kit_bool))))))),λds R h=>?_])
 .obtain⟨i,rfl,_⟩:=h;rfl
 .obtain⟨i,rfl,hR⟩:=h;exact hR
def EE:SpD:=λds R=>∃xs:List Int,ds=[.lst (xs.map D.int),.lst (xs.map D.int)]/\xs.length=7/\R (.bl true)
abbrev pi(V:Bx):Prop:=V.D 2 "_law_seven" mG EE
def EF(T:V.T "_law_seven" mF mG)(uB:V.m "len")(uP:V.m "isinstance")(Jh:V.m "list")(uA:V.m "range")(JE:ja V):pi V:=by
 refine Tx.okDW T sc__law_seven (λds R h=>?_) (λf cdv A outer s H E J hr=>⟨_,((ai (br (dG (fF (dX (cx (fJ uP Jh (aa 0) PyProof.Rows.boot_list kit_list))) (fE (cw (cj uB (ac (aa 0) ae)) ad)))) (au (aD bA)) bc)
   (ai (cy 2 PassesOwn.never rfl sc__law_seven.nd uA ad (au (br (dG (fF (dX (cx (aC JE hr (ac (af (aa 0) (aa 2)) ae)))) (fE (cw (af (aa 0) (aa 2)) (af (aa 1) (aa 2)))))) (au (aD bA)) bc)))
   (au (aD bA))))),λds R h=>?_⟩)
 .obtain⟨_,rfl,_⟩:=h;rfl
 .obtain⟨xs,rfl,x7,hR⟩:=h;refine ite2 (λc=>absurd c (by simp[x7])) λ_=>?_;refine#[#[JQ,JQ],λk z=>∃o,z=[be (.lst (xs.map D.int)),be (.lst (xs.map D.int)),o],#[_,rfl],?_,?_]
  .rintro k v z hk⟨o,rfl⟩;k_places;obtain⟨w_,rfl⟩:=cm hk;have k7:k<7:=w_;have ak:atI (xs.map D.int) (k:Int)=be (.int (xs[k]' Kv)):=ce (by rw[FS,F8 Kv];rfl);exact#[_,ak,_,rfl,_,ak,_,ak,ite2 (λc=>absurd c JU) λ_=>#[_,rfl]]
  .rintro z⟨o,rfl⟩;k_places;exact hR
def EG:SpD:=λds R=>∃(p:Pat) (w lo:Int) (n:Nat),ds=[.lst (aw p w lo n)]/\p.Ok/\0<=w/\w<=30/\n<=30/\R (.lst ((bO p 0 lo w.toNat n).map D.int))
abbrev pj(V:Bx):Prop:=V.D 1 "_law_counts" mI EG
def EH(T:V.T "_law_counts" mH mI):pj V:=by
 refine Tx.okDW T sc__law_counts (λds R h=>?_) (λf cdv A outer s H E J hr=>⟨_,((ai (fL 1 sc__law_counts.nd (ac ad (ac ad (ac ad (ac ad (ac ad (ac ad (ac ad ae))))))))
   (ai (gE 2 PassesOwn.never rfl sc__law_counts.nd (aa 0) (au (zr 3 PassesOwn.never rfl sc__law_counts.nd (aa 2) (au (AC 1 (ss aA (ac (aa 3) ae)) ad)))))
   (dY 1 (au (aD (aa 1))))))),λds R h=>?_⟩)
 .obtain⟨_,_,_,_,rfl,_⟩:=h;rfl
 .obtain⟨p,w,lo,n,rfl,ok,w0,w7,n7,hR⟩:=h;have e0:([.int 0,.int 0,.int 0,.int 0,.int 0,.int 0,.int 0]:List D)=(due7 p 0 lo w.toNat 0 0).map D.int:=rfl;refine#[JQ,?_];refine#[λk z=>∃o1 o2,z=[be (.lst (aw p w lo n)),be (.own ((due7 p 0 lo w.toNat k 0).map D.int)),o1,o2],#[_,_,rfl],?_,?_]
  .rintro k v z hk⟨o1,o2,rfl⟩;k_places;obtain⟨w_,rfl⟩:=DK hk;refine#[DM ok 0 (lo+k) w.toNat,λi z=>∃o2,z=[be (.lst (aw p w lo n)),be (.own ((due7 p 0 lo w.toNat k i).map D.int)),be (.str (aK p 0 (lo+k) w.toNat)),o2],#[_,rfl],?_,?_]
   .rintro i v z hi⟨o2,rfl⟩;k_places;obtain⟨Jk,rfl⟩:=DN hi;obtain⟨u,u7,eu,e3,e4⟩:=DF ok 0 lo w.toNat k i;obtain⟨b7,ho⟩:=DO u7;rw[eu];refine#[u,b7,ho,_,JM,by rw[FS,Hc,e3];rfl,?_];rw[Hc];exact#[_,by rw[<-e4];rfl]
   .rintro z⟨o2,rfl⟩;k_places;refine#[be (.str (aK p 0 (lo+k) w.toNat)),o2,?_];rw[eJ,hV,DG]
  .rintro z⟨o1,o2,rfl⟩;k_places;rw[show(aw p w lo n).length=n by unfold aw;simp,DJ];exact hR
abbrev pk(V:Bx):Prop:=V.D 10 "field_rows" mJ Ci
def EI(T:V.T "field_rows" iA mJ)(uA:V.m "range")(Km:iY V)(z8:V.a "Pattern" "shifts"):pk V:=by
 refine Tx.okDW T Df (λds R h=>?_) (λf cdv A outer s H E J hr=>#[_,((au (aD (kg rfl (compScope (by change cQ _ (ah iA) ["pattern"] _=true;decide+kernel)) uA (af (eB z8 (aa 0)) ad) (λcl s0 H0 fp=>(aC Km hr (ac (aa 0) (ac ad (ac (aa 1) (ac (af (eB z8 (aa 0)) ad) ae)))))))))),λds R h=>?_])
 .obtain⟨_,_,rfl,_⟩:=h;rfl
 .obtain⟨p,d,rfl,hd,ok,hR⟩:=h;obtain⟨w,h,s,fs,rfl,e1,e2,hp⟩:=id hd;have F:=hp.toFam;have sm:=ok.fits.small F;have wh:w*h<=720:=by
   obtain⟨w',h',s',f',hb⟩:=ok.fits;obtain⟨rfl,rfl,_⟩:=F.uniq f';exact hb
  refine#[rfl,_,e2,_,rfl,#[JM,JM],by rw[ca];lia,λk ys=>ys=(FN k).map λ(y:Nat)=>D.str (aK p 0 (y:Int) w.toNat),rfl,?_,?_]
  .rintro k v ys hk hl rfl;obtain⟨w_,rfl⟩:=cm hk;refine#[rfl,_,e2,_,rfl,p,.obj "Pattern" fs,0,k,w.toNat,by rw[Gm JM],hd,ok,JM,#[JM,JM],#[JM,JM],#[JM,JM],?_];show _=HX _ (FN (k+1));rw[G4,Gh];rfl
  .rintro ys hl rfl;rw[ca];exact hR w h s F wh sm.2.1 sm.2.2.2.1
abbrev C_round_row(V:Bx):Prop:=V.D 2 "round_row" mL Cj
def EJ(T:V.T "round_row" mK mL)(x8:fj V):C_round_row V:=by
 refine Tx.okDW T sc_round_row (λds R h=>?_) (λf cdv A outer s H E J hr=>⟨_,((ai (aq 4 sc_round_row.nd (aC x8 hr (ac (aa 0) (ac (aa 2) (ac (aa 3) ae)))))
   (ai (aq 5 sc_round_row.nd (af (aa 1) (af (aa 4) ad)))
   (au (aD (ao (eI (aa 5) (dJ (af (aa 4) ad)) fP) (eI (aa 5) fP (dJ (af (aa 4) ad))))))))),λds R h=>?_⟩)
 .obtain⟨_,_,_,_,_,_,rfl,_⟩:=h;rfl
 .obtain⟨p,w,h,s,x,y,rfl,F,w7,h7,hR⟩:=h;have f:=F.f;have y0:=Gz y (show h≠0 by have:=f.h0;lia);have y1:=GA y f.h0;refine#[λd=>d=.tup [.int (hmX w h s x y),.int (y%h)],#[w,h,s,x,y,rfl,f.w0,f.h0,JM,f.s0,by have:=f.sw;lia,rfl],?_];rintro _ rfl;k_places;refine#[λd=>d=.str (aK p 0 (y%h) w.toNat),#[_,rfl,_,?_,rfl],?_]
  .have e:y%h=(((y%h).toNat:Nat):Int):=by lia
   rw[e];exact ce (by rw[FS,Gq JM];simp)
  rintro _ rfl;k_places;have l:=hV p 0 (y%h) w.toNat;refine#[_,rfl,JM,_,rfl,JM,?_];have e:=Ch f.w0 f.h0 (λ_ _ q=>F.keeps q) x y;refine#[?_,?_]
  .rw[<-bx,<-bx,<-FV,<-bK,e,dg];simp;lia
  .rw[e];exact hR
abbrev pq(V:Bx):Prop:=V.D 1 "count_sign" mN Cq
def EK(T:V.T "count_sign" mM mN)(uB:V.m "len"):pq V:=by
 refine Tx.okDW T Dg (λds R h=>?_) (λf cdv A outer s H E J hr=>#[_,((au (aD (ao (ax (aR (aa 2) (cj uB (ac (aa 0) ae))) (sU (aa 0) (ac (aa 1) ae))) (sU (eI (aa 0) fP (dJ (az (aa 2) (cj uB (ac (aa 0) ae))))) (ac (aa 1) ae)))))),λds R h=>?_])
 .obtain⟨_,_,_,_,_,_,rfl,_⟩:=h;rfl
 .obtain⟨p,x,y,v,m,w,rfl,ok,v0,v6,w0,w7,m0,m1,kw,hR⟩:=h;have l:=hV p x y w;have q0:0<=m/(w:Int):=H8 m0 JM;have q1:m/(w:Int)<=m:=H9 _ m0;have r0:=Gz m (show(w:Int)≠0 by lia);have r1:=GA m (show 0<(w:Int)by lia);have er:m%(w:Int)=(((m%(w:Int)).toNat:Nat):Int):=by lia
  have e2:Txt.slice (aK p x y w) r_ (be (m%(w:Int)))=aK p x y (m%(w:Int)).toNat:=by
   rw[er,Cp p x y JM];rfl
  refine#[JM,#[by rw[l];lia,by rw[l];lia],.inl #[by rw[l];lia,by rw[l];lia],JM,by rw[l];lia,JM,?_];show R (.int (m/((aK p x y w).length:Int)*occC (aK p x y w) (aX v)+occC (Txt.slice (aK p x y w) r_ (be (m%((aK p x y w).length:Int)))) (aX v)));rw[l,e2,ut ok x y v0 v6,ut ok x y v0 v6];have Kc:∀k:Nat,(λk:Nat=>p.show (x+k) y) (k+w)=(λk:Nat=>p.show (x+k) y) k:=λk=>by
   have:=kw (x+k) y;rw[Hb]at this;show p.show (x+((k+w:Nat):Int)) y=p.show (x+(k:Int)) y;rw[<-this,Ha,HW]
  have:=Cm (f:=λk:Nat=>p.show (x+k) y) w0 Kc v m.toNat;have d1:m/(w:Int)=((m.toNat/w:Nat):Int):=by rw[Int.natCast_ediv,Gm m0]
  have d2:(m%(w:Int)).toNat=m.toNat%w:=by
   have:m%(w:Int)=((m.toNat%w:Nat):Int):=by rw[IS,Gm m0]
   lia
  rw[d1,d2,this];exact hR
def EL:SpN:=λds R RX=>Cz ds (λd=>kdL d R) RX
abbrev jb(V:Bx):Prop:=V.NL 11 "count_all" mQ EL
def EM(T:V.T "count_all" iB mQ)(uM:V.m "max")(uA:V.m "range")(Kk:V.m "min")(J3:V.m "enumerate")(J2:iX V)(Ny:pk V)(Nz:C_round_row V)(NA:pq V)(uQ:V.gs "SIGNS" ".123456")(z8:V.a "Pattern" "shifts"):jb V:=by
  refine Tx.okN T sc_count_all (λds R RX h=>?_) (λf cdv A outer s H E J hr hx=>⟨_,((du (rG (sj J2 hx hr (ac (aa 1) (ac (aa 2) ae))))
      (du (rG (sj J2 hx hr (ac (aa 3) (ac (aa 4) ae))))
      (du (aq 5 sc_count_all.nd (eB z8 (aa 0)))
      (du (aq 6 sc_count_all.nd (aC Ny hr (ac (aa 0) ae)))
      (du (aq 7 sc_count_all.nd (eo rfl uM (ac (ao (bj (aa 3) (aa 1)) ad) (ac ad ae))))
      (du (aq 8 sc_count_all.nd (ax (af (aa 5) ad) (af (aa 5) ad)))
      (du (Av 9 rfl (compScope (by change cQ _ (ah iB) ["pattern","left","top","right","bottom","family","rows","many","again","counts","y","times","row","hue","sign"] _=true;decide+kernel)) sc_count_all.nd (eF uQ) (λcl s0 H0 fp=>ad))
      (du (yR 10 PassesOwn.leaving rfl sc_count_all.nd uA (aa 2) (rP rfl Kk (ac (ao (aa 4) ad) (ac (ao (aa 2) (aa 8)) ae))) (ai (aq 11 sc_count_all.nd (ao (aR (bj (aa 4) (aa 10)) (aa 8)) ad))
        (ai (aq 12 sc_count_all.nd (aC Nz hr (ac (aa 5) (ac (aa 6) (ac (aa 1) (ac (aa 10) ae))))))
        (au (Az PassesOwn.leaving rfl J3 (eF uQ) (dg_cons 13 sc_count_all.nd (dg_cons 14 sc_count_all.nd dH)) (au (yT 9 (ao (yx 9 (aa 13)) (ax (aa 11) (aC NA hr (ac (aa 12) (ac (aa 14) (ac (aa 7) ae)))))) (aa 13))))))))
      (ve (CU 9))))))))))),λds R RX d_ h=>?_⟩)
  . obtain⟨_,_,_,_,_,_,rfl,_⟩:=h;rfl
  . obtain⟨p,d,left,top,right,b8,rfl,hd,ok,hR,hX⟩:=h;obtain⟨w,h,s,fs,rfl,e1,e2,hp⟩:=id hd;have F:=hp.toFam;have sm:=ok.fits.small F;refine#[left,top,rfl,λn1=>?_,λn1=>by rw[d_];exact hX λz=>n1 #[z.1,z.2.1]];refine#[right,b8,rfl,λn2=>?_,λn2=>by rw[d_];exact hX λz=>n2 #[z.2.2.1,z.2.2.2]];have hR:=hR #[n1.1,n1.2,n2.1,n2.2];unfold bp at n1 n2;refine#[λd=>d=.tup [.int w,.int h,.int s],#[rfl,_,e2,rfl],?_];rintro _ rfl;k_places;refine#[λd=>d=fW p w h/\w*h<=720,#[p,_,rfl,hd,ok,λw' h' s' F' hb _ _=>by obtain⟨rfl,rfl,rfl⟩:=F.uniq F';exact#[rfl,hb]],?_];rintro _⟨rfl,hb⟩;k_places;refine#[λd=>d=.int ((right-left+1).toNat:Nat),congrArg D.int (Cy _),?_];rintro _ rfl;k_places;have Qf:0<w*h:=FZ F.f.w0 F.f.h0;refine#[λd=>d=.int (w*h),#[_,rfl,_,rfl,.inl #[JM,JM],rfl],?_];rintro _ rfl;k_places;generalize hm:(right-left+1).toNat=m at*;generalize hn:(b8-top+1).toNat=n at*;generalize hN:(w*h).toNat=N at*;refine#[JT,JT,λk ys=>ys=Gr k (D.int 0),rfl,?_,?_]
    . rintro k v ys hk hl rfl;show _=Gr (k+1) _;rw[List.replicate_succ']
    rintro ys hl rfl;have wN:w*h=(N:Int):=JM
    have Jk:=Ct (top:=top) hn wN;have QZ:=uv n1.1 n2.1 hm;have Q0:=uv n1.2 n2.2 hn;refine#[Cu #[n1.2.1,n1.2.2] #[n2.2.1,n2.2.2] Qf hb,λk z=>∃x9 n8 t8 t9 t_,z=[be (.obj "Pattern" fs),be (.int left),be (.int top),be (.int right),be (.int b8),be (.tup [.int w,.int h,.int s]),be (fW p w h),be (.int m),be (.int (w*h)),be (.own ((FN 7).map λ(v:Nat)=>D.int (bV p left top m n N k v))),x9,n8,t8,t9,t_],#[r_,r_,r_,r_,r_,?_],?_,?_]
    . have e7:(bG (".123456":A_)).length=7:=by decide+kernel
      rw[e7];rfl
    . rintro k v z hk⟨x9,n8,t8,t9,t_,rfl⟩;k_places;obtain⟨w_,rfl⟩:=range2_int hk;rw[Jk]at w_;refine#[λd=>d=.int (((n:Int)-1-k)/N+1),#[#[JM,JM],?_],?_]
      . rw[wN];congr 3;exact Cw hn w_
      rintro _ rfl;k_places;refine#[λd=>d=.str (aK p left (top+k) w.toNat),#[p,w,h,s,left,top+k,rfl,F,sm.2.1,sm.2.2.2.1,rfl],?_];rintro _ rfl;k_places;refine#[JT,λi z=>∃t9 t_,z=[be (.obj "Pattern" fs),be (.int left),be (.int top),be (.int right),be (.int b8),be (.tup [.int w,.int h,.int s]),be (fW p w h),be (.int m),be (.int (w*h)),be (.own ((FN 7).map λ(v:Nat)=>D.int (if v<i then bV p left top m n N (k+1) v else bV p left top m n N k v))),be (.int (top+k)),be (.int (((n:Int)-1-k)/N+1)),be (.str (aK p left (top+k) w.toNat)),t9,t_],#[_,_,rfl],?_,?_]
      . rintro i v z hi⟨t9,t_,rfl⟩;k_places;rw[Cs]at hi;have i7:i<7:=by simpa using(FU.mp hi).1
        have ev:v=.str #[[aX (i:Int)].toArray]:=by
          rw[FS,Gq i7]at hi;exact(Option.some.inj hi).symm
        subst ev;have ci:=uo (λk'=>p.show (left+k') (top+k)) i m;have tq:0<=((n:Int)-1-k)/N/\((n:Int)-1-k)/N<=(n:Int)-1-k:=#[H8 JM JM,H9 _ JM];refine#[_,ce (by rw[FS,Gq i7];rfl),p,left,top+k,i,m,w.toNat,rfl,ok,JM,JM,JM,JM,JM,JM,by rw[Gm JM];exact F.across,?_];refine#[.inl #[JM,JM],i,?_,?_]
        . unfold ixN;rw[if_pos JM,if_pos Oa];simp
        refine#[be (.int i),be (.str #[[aX (i:Int)].toArray]),?_];rw[Hc,if_neg (GD i)];have e:bV p left top m n N k i+(((n:Int)-1-k)/N+1)*cntN (λk'=>p.show (left+k') (top+k)) i m=bV p left top m n N (k+1) i:=rfl;rw[e];have q:=uu (n:=7) (i:=i) (λ(v:Nat)=>D.int (if v<i then bV p left top m n N (k+1) v else bV p left top m n N k v)) (λ(v:Nat)=>D.int (if v<i+1 then bV p left top m n N (k+1) v else bV p left top m n N k v)) (λv hv ne=>by
          by_cases c:v<i
          . rw[if_pos c,if_pos JM]
          . rw[if_neg c,if_neg JM])
        rw[if_pos (show i<i+1 by lia)]at q;rw[q];rfl
      . rintro z⟨t9,t_,rfl⟩;k_places;refine#[be (.int (top+k)),be (.int (((n:Int)-1-k)/N+1)),be (.str (aK p left (top+k) w.toNat)),t9,t_,?_];have:∀v∈FN 7,D.int (if v<(bG (".123456":A_)).length then bV p left top m n N (k+1) v else bV p left top m n N k v)=D.int (bV p left top m n N (k+1) v):=λv hv=>by
          rw[if_pos (by  have e7:(bG (".123456":A_)).length=7:=by decide+kernel
                         rw[e7];simpa using hv)]
        rw[G5 this]
    . rintro z⟨x9,n8,t8,t9,t_,rfl⟩;k_places;have e:((FN ((if top+w*h<b8+1 then top+w*h else b8+1)-top).toNat).map λ(k:Nat)=>D.int (top+(k:Int))).length=min n N:=by simp[Jk]
      rw[e];have fold:∀v:Nat,bV p left top m n N (min n N) v=cA p v left top m n:=λv=>Cr JM (by rw[<-wN];exact F.down) v left top m n;simp only[fold];have e2:((FN 7).map λ(v:Nat)=>D.int (cA p v left top m n))=(bO p left top m n).map D.int:=by unfold bO;rw[G7];rfl
      rw[e2];exact hR
def EN:SpM:=λds M R _=>∃a q f,ds=[.ptr a]/\mget M a=be (.ins "Floor" (Fl.fs f q))/\f.Ok/\∀p,p∉aj M->R (.ptr p) ((p,.lst ((bO f.p 0 0 f.w.toNat f.l.toNat).map D.int))::M)
abbrev jc(V:Bx):Prop:=V.Q 12 "Floor" "lies" mU EN
def EO(T:V.Tm "Floor" "lies" "Floor.lies" mR mU)(Kn:jb V)(uF:V.a "Floor" "laid")(uK:V.a "Floor" "width")(uO:V.a "Floor" "pattern"):jc V:=by
 refine Txm.okM T Dh (λds M R RX h=>?_) (λf cdv A outer s H E J hr hx=>#[_,((av (aH (aM (CalNL.new Kn) hx hr (aE (aF uO (ag (aa 0))) (aE (ag ad) (aE (ag ad) (aE (cS (aF uK (ag (aa 0))) (ag ad)) (aE (cS (aF uF (ag (aa 0))) (ag ad)) aW))))))))),λds M R RX d_ h=>?_])
 .obtain⟨_,_,_,rfl,_⟩:=h;rfl
 .obtain⟨a,q,f,rfl,m,ok,hR⟩:=h;have w1:=ok.w1;have w2:=ok.w2;have l0:=ok.l0;have l1:=ok.l1;have h2:=ok.h2;refine#[_,m,_,iS,_,m,_,gf,_,m,_,fg,f.p,f.d,0,0,f.w-1,f.l-1,rfl,ok.is,ok.ok,λ_ p hp=>?_,λz=>absurd #[#[JM,JM],#[JM,JM],#[JM,JM],JM,JM] z];rw[show(f.w-1-0+1).toNat=f.w.toNat by lia,show(f.l-1-0+1).toNat=f.l.toNat by lia];exact hR p hp
def EQ:SpM:=λds M R _=>∃a q f,ds=[.ptr a]/\mget M a=be (.ins "Floor" (Fl.fs f q))/\f.Ok/\∀p,p∉aj M->R (.ptr p) ((p,.lst ((bO f.p 0 f.l f.w.toNat (f.h-f.l).toNat).map D.int))::M)
abbrev jd(V:Bx):Prop:=V.Q 12 "Floor" "still" mW EQ
def ER(T:V.Tm "Floor" "still" "Floor.still" mV mW)(Kn:jb V)(uT:V.a "Floor" "height")(uK:V.a "Floor" "width")(uF:V.a "Floor" "laid")(uO:V.a "Floor" "pattern"):jd V:=by
 refine Txm.okM T Di (λds M R RX h=>?_) (λf cdv A outer s H E J hr hx=>#[_,((av (aH (aM (CalNL.new Kn) hx hr (aE (aF uO (ag (aa 0))) (aE (ag ad) (aE (aF uF (ag (aa 0))) (aE (cS (aF uK (ag (aa 0))) (ag ad)) (aE (cS (aF uT (ag (aa 0))) (ag ad)) aW))))))))),λds M R RX d_ h=>?_])
 .obtain⟨_,_,_,rfl,_⟩:=h;rfl
 .obtain⟨a,q,f,rfl,m,ok,hR⟩:=h;have w1:=ok.w1;have w2:=ok.w2;have l0:=ok.l0;have l1:=ok.l1;have h2:=ok.h2;refine#[_,m,_,iS,_,m,_,fg,_,m,_,gf,_,m,_,iT,f.p,f.d,0,f.l,f.w-1,f.h-1,rfl,ok.is,ok.ok,λ_ p hp=>?_,λz=>absurd #[#[JM,JM],#[JM,JM],#[JM,JM],JM,JM] z];rw[show(f.w-1-0+1).toNat=f.w.toNat by lia,show(f.h-1-f.l+1).toNat=(f.h-f.l).toNat by lia];exact hR p hp
def ES:SpM:=λds M R _=>∃a q f,ds=[.ptr a]/\a≠q/\M=Fl.M f a q/\R (.int f.ds.length) (f.M a q)
abbrev pr(V:Bx):Prop:=V.Q 1 "Floor" "kept" mZ ES
def ET(T:V.Tm "Floor" "kept" "Floor.kept" mY mZ)(uB:V.m "len")(z7:V.a "Floor" "deeds"):pr V:=by
 refine Txm.okM T Dj (λds M R RX h=>?_) (λf cdv A outer s H E J hr hx=>#[_,((av (aH (sJ uB (aF z7 (ag (aa 0))))))),λds M R RX d_ h=>?_])
 .obtain⟨_,_,_,rfl,_⟩:=h;rfl
 .obtain⟨a,q,f,rfl,ne,rfl,hR⟩:=h;refine#[_,Fl.ma ne,_,vg,_,Fl.mq,?_];rw[FP];exact hR
def EU:SpM:=λds M R _=>∃a q f,ds=[.ptr a,.str f.p.text,.tup [.int f.w,.int f.h],.lst (aw f.p f.w 0 f.l.toNat),.lst (aw f.p f.w f.l (f.h-f.l).toNat),.int f.ds.length]/\a≠q/\M=Fl.M f a q/\f.Ok/\R (.bl true) (f.M a q)
abbrev pv(V:Bx):Prop:=V.MM 13 "_law_view" nh EU
def EV(T:V.T "_law_view" ng nh)(uP:V.m "isinstance")(uJ:V.m "str")(JE:ja V)(Ko:iZ V)(LS:pi V)(LU:pj V)(J4:V.a "Floor" "text")(uK:V.a "Floor" "width")(uT:V.a "Floor" "height")(Jl:gj V)(Kp:jc V)(Kq:jd V)(NB:pr V):pv V:=by
 refine Tx.okM T sc__law_view (λds M R RX h=>?_) (λf cdv A outer s H E J hr hx=>⟨_,((ar (bo (mt_w (gR (dm (dh (CM uP uJ (aF J4 (ag (aa 0))) PyProof.Rows.boot_str kit_str))) (gQ (kr (aF J4 (ag (aa 0))) (ag (aa 1)))))) (av (aH (ag bA))) bf)
   (ar (bo (mt_w (gR (dm (dh (aM (CalD.toM JE) hx hr (aE (aF uK (ag (aa 0))) aW)))) (gQ (kr (aF uK (ag (aa 0))) (ag (af (aa 2) ad)))))) (av (aH (ag bA))) bf)
   (ar (bo (mt_w (gR (dm (dh (aM (CalD.toM JE) hx hr (aE (aF uT (ag (aa 0))) aW)))) (gQ (kr (aF uT (ag (aa 0))) (ag (af (aa 2) ad)))))) (av (aH (ag bA))) bf)
   (ar (bo (dm (dh (aM (CalD.lendL Ko) hx hr (aE (bI (CalMth.one (CalMth.lendN Jl)) hx hr (ag (aa 0))) (aE (ag (aa 3)) aW))))) (av (aH (ag bA))) bf)
   (ar (bo (dm (dh (aM (CalD.lendL LS) hx hr (aE (bI (CalMth.one Kp) hx hr (ag (aa 0))) (aE (ag (aC LU hr (ac (aa 3) ae))) aW))))) (av (aH (ag bA))) bf)
   (ar (bo (dm (dh (aM (CalD.lendL LS) hx hr (aE (bI (CalMth.one Kq) hx hr (ag (aa 0))) (aE (ag (aC LU hr (ac (aa 4) ae))) aW))))) (av (aH (ag bA))) bf)
   (ar (aJ 6 sc__law_view.nd (bI (CalMth.one NB) hx hr (ag (aa 0))))
   (av (aH (ag (fH (aC JE hr (ac (aa 6) ae)) (fG (cF (aa 6) (aa 5))))))))))))))),λds M R RX d_ h=>?_⟩)
 .obtain⟨_,_,_,rfl,_⟩:=h;rfl
 .obtain⟨a,q,f,rfl,ne,rfl,ok,hR⟩:=h;have w1:=ok.w1;have w2:=ok.w2;have l0:=ok.l0;have l1:=ok.l1;have h2:=ok.h2;have nd:=Fl.nd (f:=f) ne;have ec:∀lo n,(bO f.p 0 lo f.w.toNat n).length=7:=λlo n=>by unfold bO;simp
  refine#[_,Fl.ma ne,_,vf,?_];dsimp only[jW];refine ite2 (λc=>nomatch c) λ_=>#[_,Fl.ma ne,_,vf,ite2 (λc=>absurd c JU) λ_=>?_];refine#[_,Fl.ma ne,_,gf,_,rfl,ite2 (λc=>nomatch c) λ_=>#[_,Fl.ma ne,_,gf,_,rfl,ite2 (λc=>absurd c JU) λ_=>?_]];refine#[_,Fl.ma ne,_,iT,_,rfl,ite2 (λc=>nomatch c) λ_=>#[_,Fl.ma ne,_,iT,_,rfl,ite2 (λc=>absurd c JU) λ_=>?_]];refine#[_,FJ.mpr rfl,_,Fl.ma ne,rfl,?_];dsimp only[mNil];refine pe (Fl.ma ne) ok λp hp=>?_;refine#[p,_,_,bi,oG nd,f.p,f.w,0,f.l.toNat,?_,JM,?_]
  .show[ck p _ (.ptr p),_]=_;rw[fY];rfl
  dsimp only[kdB];refine ite2 (λc=>nomatch c) λ_=>?_;refine#[_,FJ.mpr rfl,_,Fl.ma ne,rfl,a,q,f,rfl,Fl.ma ne,ok,λp hp=>?_];refine#[f.p,f.w,0,_,rfl,ok.ok,JM,w2,JM,p,_,_,bi,oG nd,bO f.p 0 0 f.w.toNat f.l.toNat,?_,ec _ _,?_]
  .show[ck p _ (.ptr p),_]=_;rw[fY];rfl
  dsimp only[kdB];refine ite2 (λc=>nomatch c) λ_=>?_;refine#[_,FJ.mpr rfl,_,Fl.ma ne,rfl,a,q,f,rfl,Fl.ma ne,ok,λp hp=>?_];refine#[f.p,f.w,f.l,_,rfl,ok.ok,JM,w2,JM,p,_,_,bi,oG nd,bO f.p 0 f.l f.w.toNat (f.h-f.l).toNat,?_,ec _ _,?_]
  .show[ck p _ (.ptr p),_]=_;rw[fY];rfl
  dsimp only[kdB];refine ite2 (λc=>nomatch c) λ_=>?_;refine#[λd M'=>d=.int f.ds.length/\M'=f.M a q,#[_,FJ.mpr rfl,_,Fl.ma ne,rfl,a,q,f,rfl,ne,rfl,rfl,rfl],?_];rintro _ _⟨rfl,rfl⟩;k_places;refine#[_,rfl,?_];show R (.bl (decide ((f.ds.length:Int)=f.ds.length))) (f.M a q);rw[decide_eq_true rfl];exact hR
abbrev dv(V:Bx):Prop:=V.Q 1 "Reading" "may_take" nq BC
def EW(T:V.Tm "Reading" "may_take" "Reading.may_take" nj nq)(uB:V.m "len")(JF:V.a "Reading" "text")(uN:V.a "Reading" "place"):dv V:=by
 refine Txm.okM T Dk (λds M R RX h=>?_) (λf cdv A outer s H E J hr hx=>⟨_,((ar (bo (mt_w (gR (gP (aF uN (ag (aa 0))) (sF uB (aE (aF JF (ag (aa 0))) aW))) (gQ (zw (sA (aF JF (ag (aa 0))) (aF uN (ag (aa 0)))) (ag (aa 1)))))) (av (aH (ag aA))) bf)
   (ar (bY uN (ag (aa 0)) (gO (aF uN (ag (aa 0))) (ag ad)))
   (av (aH (sA (aF JF (ag (aa 0))) (cS (aF uN (ag (aa 0))) (ag ad)))))))),λds M R RX d_ h=>?_⟩)
 .obtain⟨_,_,_,_,_,rfl,_⟩:=h;rfl
 .obtain⟨a,t,k,l,al,rfl,rfl,d5,hR⟩:=h;refine#[_,aU,_,eU,_,aU,_,kO,FQ d5.sz JQ,?_];cases l with
  |nil=>
   refine ifdT (by rw[d5.nil]) (ifT rfl ?_);exact hR
  |cons c l=>
   have lt:=d5.lt;refine ifdF JM ?_;refine#[_,aU,_,kO,_,aU,_,eU,c,#[FQ d5.sz JQ,ce d5.get],?_];refine ite2 (λe=>?_) (λe=>?_)
   .have e2:(!(!(Builtin.Str.occurrences al #[[c].toArray] 0 al.length 1).isEmpty))=true:=e;rw[tU]at e2;have nc:c∉cs al:=by simpa using e2
    rw[dN nc,dO nc]at hR;exact hR
   .have e2:¬(!(!(Builtin.Str.occurrences al #[[c].toArray] 0 al.length 1).isEmpty))=true:=e;rw[tU]at e2;have nc:c∈cs al:=by simpa using e2
    rw[eV nc,eX nc]at hR;refine#[_,aU,_,eU,_,aU,by show(2:Nat)<1000;decide,?_];rw[show mput (RdM a t k) a (.ins "Reading" (putD ("place":A_) (.int ((k:Int)+1)) (rdF t k)))=RdM a t (k+1)by rw[BA];exact hU];refine#[_,aU,_,kO,_,aU,_,eU,c,#[FQ d5.sz JQ,?_],hR];rw[show((k+1:Nat):Int)-1=(k:Int)by lia];exact ce d5.get
abbrev cD(V:Bx):Prop:=V.Q 2 "Reading" "take" nu BD
def EY(T:V.Tm "Reading" "take" "Reading.take" nt nu)(uH:dv V):cD V:=by
 refine Txm.okM T sc_Reading_take (λds M R RX h=>?_) (λf cdv A outer s H E J hr hx=>⟨_,((ar (aJ 2 sc_Reading_take.nd (aV (CalMth.one uH) hx hr (ag (aa 0)) (aB (ac (aa 1) ae))))
   (ar (bo (bH (bq (aa 2) aA)) (av gY) bf)
   (av (aH (ag (aa 2))))))),λds M R RX d_ h=>?_⟩)
 .obtain⟨_,_,_,_,_,_,rfl,_⟩:=h;rfl
 .obtain⟨a,t,k,c,l,al,rfl,rfl,d5,hc,hR⟩:=h;refine#[λd M'=>d=.str #[[c].toArray]/\M'=RdM a t (k+1),#[_,FJ.mpr rfl,_,aU,db,a,t,k,_,al,rfl,rfl,d5,by rw[eV hc,eX hc];exact#[rfl,rfl]],?_];rintro _ _⟨rfl,rfl⟩;k_places;exact hR
abbrev pw(V:Bx):Prop:=V.MM 3 "line_from" nw S_line_from
def EZ(T:V.T "line_from" nv nw)(uA:V.m "range")(uQ:V.gs "SIGNS" ".123456")(uC:cD V)(uH:dv V):pw V:=by
 refine Tx.okM T sc_line_from (λds M R RX h=>?_) (λf cdv A outer s H E J hr hx=>⟨_,((ar (aJ 3 sc_line_from.nd (ag aA))
   (ar (zR 4 PassesOwn.leaving rfl sc_line_from.nd uA (ag (aa 2)) (av (aJ 3 sc_line_from.nd (gO (ag (aa 3)) (fQ (bH (fD (aa 4) (aa 1))) (aV (CalMth.one uC) hx hr (ag (aa 0)) (aB (ac (eF uQ) ae))) (aV (CalMth.one uH) hx hr (ag (aa 0)) (aB (ac (eF uQ) ae))))))))
   (av (aH (ag (aa 3))))))),λds M R RX d_ h=>?_⟩)
 .obtain⟨_,_,_,_,_,_,_,rfl,_⟩:=h;rfl
 .obtain⟨a,t,k,n,m,x,l,rfl,rfl,d5,hs,hn,hm,Q1,j5,hR⟩:=h;refine#[λd M'=>d=.str ""/\M'=RdM a t k,#[rfl,rfl],?_];rintro _ _⟨rfl,rfl⟩;k_places;refine#[#[JM,JM],λi z M'=>i<=m/\∃col,z=[be (.ptr a),be (.int n),be (.int m),be (.str #[(x.take i).toArray]),col]/\M'=RdM a t (k+min i x.length),#[Gb _,r_,rfl,by rw[Nat.zero_min];rfl],?_,?_]
  .rintro i d z M' hi⟨Q2,col,rfl,rfl⟩;k_places;obtain⟨Jk,rfl⟩:=cm hi;have Jk:i<m:=by lia
   have b9:=List.length_take_le i x;refine#[λd M'=>d=.str #[(x.take (i+1)).toArray]/\M'=RdM a t (k+min (i+1) x.length),?_,?_]
   .by_cases gt:i<x.length
    .have e1:x.take (i+1)=x.take i++[x[i]]:=List.take_succ_eq_append_getElem gt;have d6:At t (k+i) (x[i]::(x.drop (i+1)++l)):=by
      have:=d5;rw[<-I0 i x,GC,GM gt]at this;have:=this.app;rw[G2,G1 JM]at this;exact this
     have hc:=signs_is.mpr (Bz (hs x[i] (Gp gt)));have e2:(#[(x.take i).toArray]:A_)++#[[x[i]].toArray]=#[(x.take (i+1)).toArray]:=by rw[show(#[[x[i]].toArray]:A_)=#[[x[i]].toArray]from rfl,fU,e1]
     rw[G1 JM,G1 JM];refine ite2 (λ_=>?_) (λ_=>?_)
     .exact#[_,FJ.mpr rfl,_,aU,cb,a,t,_,_,_,".123456",rfl,rfl,d6,hc,by rw[eY,show(#[[x[i]].toArray]:A_).length=1 from rfl];lia,congrArg D.str e2,rfl]
     .refine#[_,FJ.mpr rfl,_,aU,db,a,t,_,_,".123456",rfl,rfl,d6,?_];rw[eV hc,eX hc];exact#[by rw[eY,show(#[[x[i]].toArray]:A_).length=1 from rfl];lia,congrArg D.str e2,rfl]
    .obtain⟨c,l',rfl,hc⟩:=j5.resolve_left JM;have d6:=d5.app;rw[Hv JM,Hv JM,GV JM,GV JM];refine ite2 (λc=>absurd (of_decide_eq_true c) JM) (λ_=>?_);refine#[_,FJ.mpr rfl,_,aU,db,a,t,_,_,".123456",rfl,rfl,d6,?_];rw[dN (tV hc),dO (tV hc)];refine#[by rw[eY,show("":A_).length=0 from rfl];lia,?_,rfl];rw[show("":A_)=#[([]:List Nat).toArray]from rfl,fU,Gn]
   .rintro _ _⟨rfl,rfl⟩;k_places;exact#[Jk,_,rfl,trivial]
  .intro z M' hz;rw[ca,Hc]at hz;obtain⟨_,col,rfl,rfl⟩:=hz;rw[GV hm,Hv hm];exact hR
abbrev pz(V:Bx):Prop:=V.MM 4 "lines_from" nz BJ
def E1(T:V.T "lines_from" ny nz)(uB:V.m "len")(LV:pw V)(LW:V.gi "LONGEST" 8)(uH:dv V):pz V:=by
 refine Tx.okM T sc_lines_from (λds M R RX h=>?_) (λf cdv A outer s H E J hr hx=>⟨_,((ar (aJ 1 sc_lines_from.nd (ku (aE (aM (CalMM.frame LV) hx hr (aB (ac (aa 0) (ac ad (ac (eE LW) ae))))) aW)))
   (ar (aJ 2 sc_lines_from.nd (sF uB (aE (zT (ag (aa 1)) (ag ad)) aW)))
   (ar (zQ PassesOwn.leaving (mt_w (zy (sB (sJ uB (ag (aa 1))) (ag (eE LW))) (zx (gP (aV (CalMth.one (CalMth.frame uH)) hx hr (ag (aa 0)) (aB (ac aA ae))) (ag aA))))) (av (bQ (ky (ag (aa 1)) (aM (CalMM.frame LV) hx hr (aB (ac (aa 0) (ac (aa 2) (ac (aa 2) ae)))))))))
   (sK 1 (av (aH (ag (aa 1))))))))),λds M R RX d_ h=>?_⟩)
 .obtain⟨_,_,_,_,_,_,rfl,_⟩:=h;rfl
 .obtain⟨a,t,k,L,w,l,rfl,rfl,hL,d5,hR⟩:=h;have hw:=hL.w1;have Qg:=hL.w8;have x':=hL.many;cases L with
  |nil=>exact absurd x'.1 JQ
  |cons x L=>
   obtain⟨J_,ox⟩:=hL.each x FO;rw[tT]at d5 hR;rw[GC]at d5;rw[FW]at x';have stop:∀N:List (List Nat),∃c l',rowsT N++59::l=c::l'/\isSg c=false:=λN=>by
    cases N with
    |nil=>exact#[59,l,rfl,rfl]
    |cons y N=>exact#[47,_,rfl,rfl]
   refine#[λd M'=>∃p,p≠a/\d=.ptr p/\M'=(p,.lst [.str #[x.toArray]])::RdM a t (k+x.length),#[[],RdM a t k,rfl,a,t,k,1,8,x,_,rfl,rfl,d5,ox,JM,JM,JQ,.inr (stop L),by show 1<=1000;decide,λp hp=>#[p,λe=>hp (by rw[e];exact FJ.mpr rfl),rfl,rfl]],?_];rintro _ _⟨p,Qh,rfl,rfl⟩;k_places;refine#[λd M'=>d=.int w/\M'=(p,.lst [.str #[x.toArray]])::RdM a t (k+x.length),#[_,cL,_,rfl,by rw[eY];lia,by rw[eY,J_],rfl],?_];rintro _ _⟨rfl,rfl⟩;k_places;refine#[λm z M'=>∃L1 L2 k',L=L1++L2/\m=L2.length/\At t k' (rowsT L2++59::l)/\k'+(rowsT L2).length=k+(x++rowsT L).length/\z=[be (.ptr a),be (.ptr p),be (.int w)]/\M'=(p,.lst (lstD (x::L1)))::RdM a t k',#[_,[],L,_,rfl,rfl,d5.app,by rw[FV];lia,rfl,rfl],?_];rintro m z M'⟨L1,L2,k',rfl,rfl,g7,hk,rfl,rfl⟩;k_places;rw[FV]at x';have K8:(lstD (x::L1)).length=L1.length+1:=by simp[lstD]
   have done:L2=[]->R (.lst (lstD (x::L1))) (RdM a t k'):=λe=>by
    subst e;rw[show k'=k+(x++rowsT (L1++[])).length from hk,show lstD (x::L1)=lstD (x::(L1++[]))by rw[Gn]];exact hR
   refine#[_,cL,?_];rw[K8];refine ite2 (λc=>?_) (λc=>?_)
   .refine#[_,FJ.mpr rfl,_,BI Qh,db,[(p,_)],RdM a t _,rfl,a,t,_,_,"/",rfl,rfl,g7,?_];cases L2 with
    |nil=>
     rw[show rowsT []++59::l=59::l from rfl,dN JQ,dO JQ];refine#[_,cL,?_];rw[show mdel ([(p,MO.lst (lstD (x::L1)))]++RdM a t (k'+0)) p=RdM a t k' from kP];exact done rfl
    |cons y N=>
     have e1:rowsT (y::N)++59::l=47::(y++(rowsT N++59::l)):=by simp[rowsT]
     have OU:(47:Nat)∈cs "/":=JQ
     rw[e1]at g7 ⊢;rw[eV OU,eX OU];obtain⟨Qi,JZ⟩:=hL.each y (FM _ (F7 _ FO));have n9:=g7.next;refine#[#[_,cL],[(p,_)],RdM a t _,rfl,a,t,_,w,w,y,_,rfl,rfl,n9,JZ,JM,JM,Qg,.inl Qi,?_];refine#[_,cL,by rw[K8];lia,N.length,by rw[FW];lia,L1++[y],N,_,JU,rfl,n9.app,?_,rfl,?_]
     .rw[<-hk];simp[rowsT];lia
     .show mput ((p,MO.lst (lstD (x::L1)))::RdM a t _) p _=_;rw[tW];simp[lstD]
   .have c':L1.length+1=8:=by
     have:¬((L1.length+1:Nat):Int)<8:=λz=>c (decide_eq_true z);lia
    refine#[_,cL,?_];rw[kP];exact done (Iu JM)
abbrev pA(V:Bx):Prop:=V.MM 3 "number_from" nB BG
def E2(T:V.T "number_from" nA nB)(uD:V.m "int")(uH:dv V)(uC:cD V):pA V:=by
  refine Tx.okM T sc_number_from (λds M R RX h=>?_) (λf cdv A outer s H E J hr hx=>⟨_,((ar (bo (gP (aV (CalMth.one uH) hx hr (ag (aa 0)) (aB (ac aA ae))) (ag aA)) (av (aH (ag ad))) bf)
      (ar (aJ 1 sc_number_from.nd (gO (aV (CalMth.one uH) hx hr (ag (aa 0)) (aB (ac aA ae))) (aV (CalMth.one uC) hx hr (ag (aa 0)) (aB (ac aA ae)))))
      (ar (gW (bH (cx (zt (aa 1) (ac aA ae)))) (av (aJ 1 sc_number_from.nd (gO (ag (aa 1)) (aV (CalMth.one uH) hx hr (ag (aa 0)) (aB (ac aA ae)))))) bf)
      (av (aH (ag (gG uD (ac (aa 1) ae))))))))),λds M R RX d_ h=>?_⟩)
  . obtain⟨_,_,_,_,_,_,rfl,_⟩:=h;rfl
  . obtain⟨a,t,k,x,e,l,rfl,rfl,gt,he,d5,hR⟩:=h;have hi:=BE gt;have hl:=bB gt;rw[<-bx]at hl;change (numL x).length<=3 at hl;refine#[_,FJ.mpr rfl,_,aU,db,a,t,k,_,"0",rfl,rfl,d5,?_];rcases numS gt with e0|⟨pre,c,y,hp,hc,ev,hy⟩
    . rw[e0]at hR hi ⊢;have e1:x=0:=Option.some.inj (hi.symm.trans JT);subst e1;have e2:(48:Nat)∈cs "0":=by decide
      rw[show([48]++e::l:List Nat)=48::e::l from rfl,eV e2,eX e2];exact hR
    rw[ev]at d5 hR hi hl ⊢;have h0:mayS "0" (pre++c::y++e::l)=""/\mayN "0" (pre++c::y++e::l)=0:=by
      have n:c∉cs "0":=λq=>by have:=FJ.mp q;lia
      rcases hp with rfl|rfl
      . exact#[dN n,dO n]
      . exact#[dN JQ,dO JQ]
    have hm:mayS "-" (pre++c::y++e::l)=#[pre.toArray]/\mayN "-" (pre++c::y++e::l)=pre.length:=by
      have n:c∉cs "-":=λq=>by have:=FJ.mp q;lia
      rcases hp with rfl|rfl
      . exact#[dN n,dO n]
      . exact#[rfl,rfl]
    rw[h0.1,h0.2];have d6:At t (k+pre.length) (c::(y++e::l)):=by rw[GC]at d5;exact d5.app
    have g7:=d6.next;refine#[λd M'=>d=.str #[(pre++[c]).toArray]/\M'=RdM a t (k+pre.length+1),?_,?_]
    . refine#[_,FJ.mpr rfl,_,aU,db,a,t,k,_,"-",rfl,rfl,d5,?_];rw[hm.1,hm.2];refine#[_,FJ.mpr rfl,_,aU,cb,a,t,k+pre.length,c,_,"123456789",rfl,rfl,d6,digits19.mpr hc,?_,?_,rfl]
      . rcases hp with rfl|rfl<;>simp[Str.length]
      . rw[show(#[[c].toArray]:A_)=#[[c].toArray]from rfl,fU]
    . rintro _ _⟨rfl,rfl⟩;k_places;refine#[λz M'=>z=[be (.ptr a),be (.str #[(pre++c::y).toArray])]/\M'=RdM a t (k+(pre++c::y).length),?_,?_]
      . show if Txt.endswith #[(pre++[c]).toArray] "1"=true then _ else _
        rw[BF];refine ite2 (λz=>?_) (λz=>?_)
        . obtain⟨e1,e2,e3⟩:(⟨(pre++[c]).toArray⟩:A_)++mayS "012" (y++e::l)=⟨(pre++c::y).toArray⟩/\mayN "012" (y++e::l)=y.length/\(mayS "012" (y++e::l)).length<=1:=by
            rcases hy with rfl|⟨_,d,hd,rfl⟩
            . have n:e∉cs "012":=λq=>by have:=digits02.mp q;unfold endS at he;lia
              rw[Ja,dN n,dO n];refine#[?_,rfl,JQ];rw[show("":A_)=#[([]:List Nat).toArray]from rfl,fU];simp
            . rw[show([d]++e::l:List Nat)=d::e::l from rfl,eV (digits02.mpr hd),eX (digits02.mpr hd)];refine#[?_,rfl,FK 1];rw[show(#[[d].toArray]:A_)=#[[d].toArray]from rfl,fU];simp
          refine#[λv M'=>v=.str #[(pre++c::y).toArray]/\M'=RdM a t (k+(pre++c::y).length),#[_,FJ.mpr rfl,_,aU,db,a,t,_,_,"012",rfl,rfl,g7,?_],?_]
          . refine#[?_,congrArg D.str e1,?_]
            . rcases hp with rfl|rfl<;>simp[Str.length]at e3 ⊢<;>lia
            . rw[e2];congr 1;simp;lia
          . rintro _ _⟨rfl,rfl⟩;k_places;exact#[rfl,trivial]
        . have Qj:y=[]:=hy.resolve_right λq=>z (decide_eq_true q.1);subst Qj;exact#[rfl,by rw[FV];rfl]
      . rintro _ _⟨rfl,rfl⟩;k_places;exact#[x,#[hi,by show(pre++c::y).length<=640;lia],hR]
abbrev gl(V:Bx):Prop:=V.MM 4 "shift_from" nD BH
def E3(T:V.T "shift_from" nC nD)(LX:pA V)(uC:cD V):gl V:=by
 refine Tx.okM T sc_shift_from (λds M R RX h=>?_) (λf cdv A outer s H E J hr hx=>⟨_,((ar (aJ 1 sc_shift_from.nd (aM LX hx hr (aB (ac (aa 0) ae))))
   (ar (bQ (aV (CalMth.one uC) hx hr (ag (aa 0)) (aB (ac aA ae))))
   (av (aH (sE (aE (ag (aa 1)) (aE (aM LX hx hr (aB (ac (aa 0) ae))) aW)))))))),λds M R RX d_ h=>?_⟩)
 .obtain⟨_,_,_,_,_,_,_,rfl,_⟩:=h;rfl
 .obtain⟨a,t,k,x,y,e,l,rfl,rfl,gt,hy,he,d5,hR⟩:=h;refine#[λd M'=>d=.int x/\M'=RdM a t (k+(numL x).length),#[a,t,k,x,44,_,rfl,rfl,gt,.inl rfl,d5,rfl,rfl],?_];rintro _ _⟨rfl,rfl⟩;k_places;have d6:=d5.app;exact#[_,FJ.mpr rfl,_,aU,cb,a,t,_,44,_,",",rfl,rfl,d6,JQ,a,t,_,y,e,l,rfl,rfl,hy,he,d6.next,JU,hR]
abbrev je(V:Bx):Prop:=V.D 1 "levelled" nF AR
def E4(T:V.T "levelled" nE nF):je V:=by
 refine Tx.okDW T sc_levelled (λds R h=>?_) (λf cdv A outer s H E J hr=>⟨_,((ai (fN PassesOwn.never (cw (af (aa 1) ad) ad) (ai (aq 2 sc_levelled.nd (xR (af (aa 0) ad) (af (aa 1) ad)))
    (ai (aq 3 sc_levelled.nd (aN (ac (bj (af (aa 0) ad) (ax (aa 2) (af (aa 1) ad))) (ac (bj (af (aa 0) ad) (ax (aa 2) (af (aa 1) ad))) ae))))
    (ai (aq 0 sc_levelled.nd (aa 1))
    (au (aq 1 sc_levelled.nd (aa 3)))))))
   (ai (fK (fD (af (aa 0) ad) ad) (au (aq 0 sc_levelled.nd (aN (ac (bW (af (aa 0) ad)) (ac (bW (af (aa 0) ad)) ae))))) bc)
   (au (aD (aN (ac (aa 0) (ac (aa 1) ae)))))))),λds R h=>?_⟩)
 .obtain⟨a,b,c,d,rfl,_⟩:=h;rfl
 .obtain⟨a,b,c,d,rfl,hb,hd,hR⟩:=h;refine#[λm z=>∃(f0 f1 s0 s1:Int) (t r:Option D),z=[be (.tup [.int f0,.int f1]),be (.tup [.int s0,.int s1]),t,r]/\Uni a b c d f0 f1 s0 s1/\f1.natAbs<4611686018427387904/\s1.natAbs<4611686018427387904/\m=s1.natAbs,#[_,a,b,c,d,r_,r_,rfl,Uni.refl a b c d,hb,hd,rfl],?_];rintro m z⟨f0,f1,s0,s1,t,r,rfl,hu,hf,hs,rfl⟩;k_places;refine#[_,rfl,ite2 (λcc=>?_) (λcc=>?_)]
  .have c':¬s1=0:=by simpa using cc
   obtain⟨g1,g2⟩:=fdm f1 s1 c';refine#[λd=>d=.int (f1.fdiv s1),#[_,rfl,_,rfl,#[c',hs],rfl],?_];rintro _ rfl;k_places;refine#[λd=>d=.tup [.int (f0-f1.fdiv s1*s0),.int (f1-f1.fdiv s1*s1)],#[_,rfl,_,rfl,.inl #[JM,JM],_,rfl,_,rfl,.inl #[JM,JM],JU,rfl],?_];rintro _ rfl;k_places;refine#[λd=>d=.tup [.int s0,.int s1],rfl,?_];rintro _ rfl;k_places;refine#[λd=>d=.tup [.int (f0-f1.fdiv s1*s0),.int (f1-f1.fdiv s1*s1)],rfl,?_];rintro _ rfl;k_places;exact#[_,g1,s0,s1,_,_,_,_,rfl,hu.step _,hs,JM,rfl]
  .have c':s1=0:=by simpa using cc
   subst c';refine#[λz=>∃p0 p1:Int,z=[be (.tup [.int p0,.int p1]),be (.tup [.int s0,.int 0]),t,r]/\Lev a b c d p0 p1 s0,#[_,rfl,ite2 (λe=>?_) (λe=>?_)],?_]
   .have e':=of_decide_eq_true e;refine#[λd=>d=.tup [.int (-f0),.int (-f1)],#[_,rfl,_,rfl,JU,rfl],?_];rintro _ rfl;k_places;exact#[_,_,rfl,JM,hu.neg]
   .have e':=of_decide_eq_false (Gi.mpr e);exact#[_,_,rfl,JM,hu]
   .rintro _⟨p0,p1,rfl,hL⟩;k_places;exact#[JU,hR p0 p1 s0 hL]
abbrev jg(V:Bx):Prop:=V.D 2 "spread" nH AS
def E5(T:V.T "spread" nG nH)(uR:V.m "abs")(Kr:je V):jg V:=by
 refine Tx.okDW T sc_spread (λds R h=>?_) (λf cdv A outer s H E J hr=>⟨_,((ai (br (bq (ax (af (aa 0) ad) (af (aa 1) ad)) (ax (af (aa 0) ad) (af (aa 1) ad))) (au (aD cO)) bc)
   (ai (aq 2 sc_spread.nd (aC Kr hr (ac (aa 0) (ac (aa 1) ae))))
   (ai (aq 3 sc_spread.nd (dW uR (ac (af (af (aa 2) ad) ad) ae)))
   (au (aD (aN (ac (aa 3) (ac (af (af (aa 2) ad) ad) (ac (az (af (af (aa 2) ad) ad) (aa 3)) ae)))))))))),λds R h=>?_⟩)
 .obtain⟨a,b,c,d,rfl,_⟩:=h;rfl
 .obtain⟨a,b,c,d,rfl,ha,hb,hc,hd,hN,hR⟩:=h;refine#[_,rfl,_,rfl,.inl #[JM,JM],_,rfl,_,rfl,.inl #[JM,JM],ite2 (λe=>?_) (λe=>?_)]
  .exact hN (of_decide_eq_true e)
  .have e':=of_decide_eq_false (Gi.mpr e);refine#[λx=>∃p0 p1 q0:Int,x=.tup [.tup [.int p0,.int p1],.tup [.int q0,.int 0]]/\Lev a b c d p0 p1 q0,#[a,b,c,d,rfl,hb,hd,λp0 p1 q0 hL=>#[p0,p1,q0,rfl,hL]],?_];rintro _⟨p0,p1,q0,rfl,hL⟩;k_places;have hF:=fS e' hL;refine#[λx=>x=.int (if q0<0 then -q0 else q0),#[_,rfl,_,rfl,rfl],?_];rintro _ rfl;k_places;exact#[_,rfl,_,rfl,_,rfl,_,rfl,hF.1,JU,hR e' _ _ _ hF]
abbrev pB(V:Bx):Prop:=V.MM 2 "hues_by_home" nJ BO
def E6(T:V.T "hues_by_home" nI nJ)(J3:V.m "enumerate")(x8:fj V)(uQ:V.gs "SIGNS" ".123456"):pB V:=by
 refine Tx.okM T sc_hues_by_home (λds M R RX h=>?_) (λf cdv A outer s H E J hr hx=>⟨_,((ar (aJ 2 sc_hues_by_home.nd Aj)
   (ar (Aa PassesOwn.leaving rfl J3 (ag (aa 0)) (dg_cons 3 sc_hues_by_home.nd (dg_cons 4 sc_hues_by_home.nd dH)) (av (Ab PassesOwn.leaving rfl J3 (ag (aa 4)) (dg_cons 5 sc_hues_by_home.nd (dg_cons 6 sc_hues_by_home.nd dH)) (av (gW (bH (cw (aa 6) aA)) (av (bQ (Am (qF hr) (ag (aa 2)) (aB (ac (aC x8 hr (ac (aa 1) (ac (aa 5) (ac (aa 3) ae)))) (ac (ss (eF uQ) (ac (aa 6) ae)) ae)))))) bf)))))
   (sK 2 (av (aH (ag (aa 2)))))))),λds M R RX d_ h=>?_⟩)
 .obtain⟨_,_,_,_,_,rfl,_⟩:=h;rfl
 .obtain⟨L,wd,w,h,s,rfl,hL,hw,hh,z6,hs,j9,hR⟩:=h;have Qa:=hL.w8;refine#[λd M'=>∃p,p∉aj M/\d=.ptr p/\M'=(p,.dti [])::M,λp hp=>#[p,hp,rfl,rfl],?_];rintro _ _⟨p,hp,rfl,rfl⟩;k_places;refine#[λj z M'=>∃(kv:List ((Int×Int)×Int)) (x3 x4 x5 x6:Option D),hAll w h s j (L.drop j) kv=hAll w h s 0 L []/\kv.length<=8*j/\z=[be (.lst (lstD L)),be (.tup [.int w,.int h,.int s]),be (.ptr p),x3,x4,x5,x6]/\M'=(p,.dti kv)::M,#[[],r_,r_,r_,r_,rfl,JU,rfl,rfl],?_,?_]
  .rintro j d z M' hd⟨kv,x3,x4,x5,x6,e1,Qk,rfl,rfl⟩;k_places;obtain⟨x,gt,rfl⟩:=BM hd;have hj:j<L.length:=(FU.mp gt).1;have Q3:=hL.many;obtain⟨xl,xs⟩:=hL.each x (GP gt);rw[tY gt]at e1;refine#[BL xs,λi z M'=>∃(Jn:List ((Int×Int)×Int)) (x5 x6:Option D),hRow w h s j i (x.drop i) Jn=hRow w h s j 0 x kv/\Jn.length<=8*j+i/\i<=x.length/\z=[be (.lst (lstD L)),be (.tup [.int w,.int h,.int s]),be (.ptr p),be (.int j),be (.str #[x.toArray]),x5,x6]/\M'=(p,.dti Jn)::M,#[kv,x5,x6,rfl,JM,Gb _,rfl,rfl],?_,?_]
   .rintro i d z M' Ls⟨Jn,y5,y6,e2,NC,hi,rfl,rfl⟩;k_places;obtain⟨c,hc,rfl⟩:=BN Ls;have Jk:i<x.length:=(FU.mp hc).1;have sc:=xs c (GP hc);rw[tY hc,hRow]at e2;refine#[λz M'=>∃K9:List ((Int×Int)×Int),hRow w h s j (i+1) (x.drop (i+1)) K9=hRow w h s j 0 x kv/\K9.length<=8*j+(i+1)/\z=[be (.lst (lstD L)),be (.tup [.int w,.int h,.int s]),be (.ptr p),be (.int j),be (.str #[x.toArray]),be (.int i),be (.str #[[c].toArray])]/\M'=(p,.dti K9)::M,?_,?_]
    .show if(!decide ((#[[c].toArray]:A_)="."))=true then _ else _;by_cases t6:c=46
     .subst t6;rw[if_pos rfl]at e2;exact#[Jn,e2,JM,rfl,rfl]
     .rw[if_neg t6]at e2;refine ifT (by simp[one_sign,t6]) ?_;have c6:49<=c/\c<=54:=by unfold bb at sc;lia
      obtain⟨ix,b7,ho,Ml⟩:=BK c6;refine#[#[_,cL],w,h,s,i,j,rfl,hw,hh,z6,hs,j9,ix,b7,ho,_,cL,by have:=tX Jn (hmX w h s i j) ((j:Int)%h) ((c:Int)-48);lia,λv=>?_];rw[tW,Ml];exact#[_,e2,by have:=tX Jn (hmX w h s i j) ((j:Int)%h) ((c:Int)-48);lia,rfl,rfl]
    .rintro z M'⟨K9,e3,h3,rfl,rfl⟩;k_places;exact#[K9,_,_,e3,h3,Jk,rfl,rfl]
   .rintro z M' hz;rw[eJ,eY]at hz;obtain⟨Jn,y5,y6,e2,NC,hi,rfl,rfl⟩:=hz;rw[Jb]at e2;refine#[Jn,_,_,_,_,?_,JM,rfl,rfl];rw[<-e1,hAll,<-e2];rfl
  .rintro z M' hz;rw[show(lstD L).length=L.length by simp[lstD]]at hz;obtain⟨kv,x3,x4,x5,x6,e1,Qk,rfl,rfl⟩:=hz;rw[Jb]at e1;refine#[_,cL,?_];rw[kP];have e2:kv=hAll w h s 0 L []:=e1;rw[<-e2]at hR;exact hR
abbrev pC(V:Bx):Prop:=V.M 3 "Motif" nM BP
def E7(T:V.Ti "Motif" "Motif.__init__" nK nM)(Ks:jg V)(ND:pB V)(NE:V.a "Motif" "place")(uL:V.a "Motif" "shifts")(Jz:V.a "Motif" "hues"):pC V:=by
 refine Txi.okIM T Dl (λds R h=>?_) (λf cdv A outer s H E J hr hx=>⟨_,((ar (bY NE (ag (aa 0)) (ag (aa 1)))
   (ar (bY uL (ag (aa 0)) (ag (aC Ks hr (ac (aa 3) (ac (aa 4) ae)))))
   (av (bY Jz (ag (aa 0)) (fQ (sC (aF uL (ag (aa 0))) (ag cO)) Ai (aM ND hx hr (aE (ag (aa 2)) (aE (aF uL (ag (aa 0))) aW))))))))),λa ds R J7 h=>?_⟩)
 .obtain⟨_,_,_,_,_,_,_,rfl,_⟩:=h;rfl
 .obtain⟨k,L,wd,x,y,u,v,rfl,hL,gt,hy,hu,hv,hn,h1⟩:=h;unfold B12 at gt hy hu hv;refine#[_,dM,by show(0:Nat)<1000;decide,?_];rw[hU,BQ];refine#[x,y,u,v,rfl,JM,JM,JM,JM,λe=>absurd e hn,λe w h s F=>?_];refine#[_,dM,Nh,?_];rw[hU,BR];refine#[_,dM,_,tZ,?_];obtain⟨b1,b2,b3⟩:=F.bd (N:=288) (by
   have m1:=bJ (a:=x) (d:=v) (A:=12) (B:=12) JM JM;have m2:=bJ (a:=y) (d:=u) (A:=12) (B:=12) JM JM;lia)
  refine#[_,dM,_,tZ,L,wd,w,h,s,rfl,hL,F.1,F.2.1,JM,F.2.2.1,JM,?_];refine#[_,dM,by show(2:Nat)<1000;decide,?_];rw[hU,BS];exact#[_,rfl,h1 w h s F]
abbrev jh(V:Bx):Prop:=V.MM 5 "motif_from" nO BZ
def E8(T:V.T "motif_from" nN nO)(NF:pz V)(Jo:gl V)(uN:V.a "Reading" "place")(NG:pC V)(uC:cD V):jh V:=by
 refine Tx.okM T sc_motif_from (λds M R RX h=>?_) (λf cdv A outer s H E J hr hx=>⟨_,((ar (aJ 1 sc_motif_from.nd (aF uN (ag (aa 0))))
   (ar (bQ (aV (CalMth.one uC) hx hr (ag (aa 0)) (aB (ac aA ae))))
   (ar (aJ 2 sc_motif_from.nd (aM NF hx hr (aB (ac (aa 0) ae))))
   (ar (bQ (aV (CalMth.one uC) hx hr (ag (aa 0)) (aB (ac aA ae))))
   (ar (aJ 3 sc_motif_from.nd (aM Jo hx hr (aB (ac (aa 0) ae))))
   (ar (bQ (aV (CalMth.one uC) hx hr (ag (aa 0)) (aB (ac aA ae))))
   (ar (aJ 4 sc_motif_from.nd (aM Jo hx hr (aB (ac (aa 0) ae))))
   (ar (bQ (aV (CalMth.one uC) hx hr (ag (aa 0)) (aB (ac aA ae))))
   (av (aH (ag (kh NG hr (ac (aa 1) (ac (aa 2) (ac (aa 3) (ac (aa 4) ae))))))))))))))))),λds M R RX d_ h=>?_⟩)
 .obtain⟨_,_,_,_,_,_,_,_,_,rfl,_⟩:=h;rfl
 .obtain⟨g,t,k,L,a,b,c,d,l,rfl,rfl,d5,⟨K',ha,hb,hc,hd,hn⟩,hR⟩:=h;obtain⟨w,hL⟩:=BY K';have d5:At t k (91::(rowsL (L.map cs)++59::(numL a++44::(numL b++59::(numL c++44::(numL d++93::l)))))):=by simpa[motL]using d5
  have b9:k+(motL (L.map cs) a b c d).length=k+1+(rowsL (L.map cs)).length+1+(numL a).length+1+(numL b).length+1+(numL c).length+1+(numL d).length+1:=by simp[motL];lia
  rw[b9]at hR;have d6:=d5.next;have g7:=d6.app;have n9:=g7.next;have K_:At t (k+1+(rowsL (L.map cs)).length+1+(numL a).length+1+(numL b).length) _:=n9.app.next.app;have La:=K_.next;have NH:At t (k+1+(rowsL (L.map cs)).length+1+(numL a).length+1+(numL b).length+1+(numL c).length+1+(numL d).length) _:=La.app.next.app;refine#[λv M'=>v=.int k/\M'=RdM g t k,#[_,aU,_,eU,rfl,rfl],?_];rintro _ _⟨rfl,rfl⟩;k_places;refine#[_,FJ.mpr rfl,_,aU,cb,g,t,_,91,_,"[",rfl,rfl,d5,JQ,?_];refine#[λv M'=>v=.lst (lstD (L.map cs))/\M'=RdM g t (k+1+(rowsL (L.map cs)).length),#[g,t,_,_,w,_,rfl,rfl,hL,d6,rfl,rfl],?_];rintro _ _⟨rfl,rfl⟩;k_places;refine#[_,FJ.mpr rfl,_,aU,cb,g,t,_,59,_,";",rfl,rfl,g7,JQ,?_];refine#[λv M'=>v=.tup [.int a,.int b]/\M'=RdM g t (k+1+(rowsL (L.map cs)).length+1+(numL a).length+1+(numL b).length),#[g,t,_,a,b,59,_,rfl,rfl,ha,hb,.inr (.inl rfl),n9,rfl,rfl],?_];rintro _ _⟨rfl,rfl⟩;k_places;refine#[_,FJ.mpr rfl,_,aU,cb,g,t,_,59,_,";",rfl,rfl,K_,JQ,?_];refine#[λv M'=>v=.tup [.int c,.int d]/\M'=RdM g t (k+1+(rowsL (L.map cs)).length+1+(numL a).length+1+(numL b).length+1+(numL c).length+1+(numL d).length),#[g,t,_,c,d,93,_,rfl,rfl,hc,hd,.inr (.inr (.inr rfl)),La,rfl,rfl],?_];rintro _ _⟨rfl,rfl⟩;k_places;exact#[_,FJ.mpr rfl,_,aU,cb,g,t,_,93,_,"]",rfl,rfl,NH,JQ,k,_,w,a,b,c,d,rfl,hL,ha,hb,hc,hd,hn,λw h s F=>hR _ #[k,w,h,s,rfl,F]]
abbrev ji(V:Bx):Prop:=V.M 1 "Mirror" nQ BV
def E9(T:V.Ti "Mirror" "Mirror.__init__" nP nQ)(uS:V.a "Mirror" "form"):ji V:=by
 refine Txi.okI T Dm (λds R h=>?_) (λf cdv A outer s H E J hr=>#[_,((bF uS (aa 1) dI)),λds R h=>?_])
 .obtain⟨_,_,rfl,_⟩:=h;rfl
 .obtain⟨x,fs,rfl,hR⟩:=h;exact#[JQ,hR]
abbrev jj(V:Bx):Prop:=V.M 1 "Turn" nS BW
def Fb(T:V.Ti "Turn" "Turn.__init__" nR nS)(uU:V.a "Turn" "form"):jj V:=by
 refine Txi.okI T Dn (λds R h=>?_) (λf cdv A outer s H E J hr=>#[_,((bF uU (aa 1) dI)),λds R h=>?_])
 .obtain⟨_,_,rfl,_⟩:=h;rfl
 .obtain⟨x,fs,rfl,hR⟩:=h;exact#[JQ,hR]
abbrev jk(V:Bx):Prop:=V.M 1 "Over" nV BT
def Fc(T:V.Ti "Over" "Over.__init__" nU nV)(uV:V.a "Over" "above")(uX:V.a "Over" "below"):jk V:=by
 refine Txi.okI T Do (λds R h=>?_) (λf cdv A outer s H E J hr=>#[_,((bF uV (aa 1) (bF uX (aa 2) dI))),λds R h=>?_])
 .obtain⟨_,_,_,_,rfl,_⟩:=h;rfl
 .obtain⟨x,y,fs,gs,rfl,hR⟩:=h;refine#[JQ,Nh,?_];show R (putD _ _ (putD _ _ []));rw[putD,putD,if_neg JT];exact hR
abbrev jl(V:Bx):Prop:=V.M 1 "Shifted" nX BU
def Fd(T:V.Ti "Shifted" "Shifted.__init__" nW nX)(uW:V.a "Shifted" "form")(JB:V.a "Shifted" "x")(JA:V.a "Shifted" "y"):jl V:=by
 refine Txi.okI T Dp (λds R h=>?_) (λf cdv A outer s H E J hr=>#[_,((bF uW (aa 1) (bF JB (aa 2) (bF JA (aa 3) dI)))),λds R h=>?_])
 .obtain⟨_,_,_,_,rfl,_⟩:=h;rfl
 .obtain⟨x,fs,a,b,rfl,hR⟩:=h;refine#[JQ,Nh,by show(2:Nat)<1000;decide,?_];show R (putD _ _ (putD _ _ (putD _ _ [])));rw[show putD ("x":A_) (.int a) (putD ("form":A_) (.obj x fs) [])=([("form",.obj x fs),("x",.int a)]:List (A_×D))by rw[putD,putD,if_neg JT];rfl,putD,if_neg JT,putD,if_neg JT];exact hR
abbrev jm(V:Bx):Prop:=V.M 1 "Rehue" nZ BX
def Fe(T:V.Ti "Rehue" "Rehue.__init__" nY nZ)(uY:V.a "Rehue" "form")(JC:V.a "Rehue" "old")(JD:V.a "Rehue" "new"):jm V:=by
 refine Txi.okI T Dq (λds R h=>?_) (λf cdv A outer s H E J hr=>#[_,((bF uY (aa 1) (bF JC (aa 2) (bF JD (aa 3) dI)))),λds R h=>?_])
 .obtain⟨_,_,_,_,rfl,_⟩:=h;rfl
 .obtain⟨x,fs,a,b,rfl,hR⟩:=h;refine#[JQ,Nh,by show(2:Nat)<1000;decide,?_];show R (putD _ _ (putD _ _ (putD _ _ [])));rw[show putD ("old":A_) (.int a) (putD ("form":A_) (.obj x fs) [])=([("form",.obj x fs),("old",.int a)]:List (A_×D))by rw[putD,putD,if_neg JT];rfl,putD,if_neg JT,putD,if_neg JT];exact hR
def Ff(hL:5<=n)(T:V.T "over_from" iC fZ)(uI:V.MM n "form_from" cB (df j))(Lb:jk V)(uC:cD V):V.MM (n+1) "over_from" fZ (uc j):=by
 refine Tx.okM T sc_over_from (λds M R RX h=>?_) (λf cdv A outer s H E J hr hx=>⟨_,((ar (aJ 2 sc_over_from.nd (aM (hn:=Kv) uI hx hr (aB (ac (aa 0) (ac (aa 1) ae)))))
   (ar (bQ (aV (hn:=Kv) (CalMth.one uC) hx hr (ag (aa 0)) (aB (ac aA ae))))
   (ar (aJ 3 sc_over_from.nd (aM (hn:=Kv) uI hx hr (aB (ac (aa 0) (ac (aa 1) ae)))))
   (ar (bQ (aV (hn:=Kv) (CalMth.one uC) hx hr (ag (aa 0)) (aB (ac aA ae))))
   (av (aH (ag (kh (hn:=Kv) Lb hr (ac (aa 2) (ac (aa 3) ae))))))))))),λds M R RX d_ h=>?_⟩)
 .obtain⟨_,_,_,_,_,_,_,rfl,_⟩:=h;rfl
 .obtain⟨a,t,k,p,q,l,d,rfl,rfl,d5,J5,Ji,hp,hq,u8,Ql,hR⟩:=h;have d6:=d5.app;have g7:=d6.next;have n9:=g7.app;refine#[λv M'=>FormOf p v/\M'=RdM a t (k+p.tl.length),#[a,t,k,p,_,d,rfl,rfl,d5,J5,Ji,hp,u8,λv h=>#[h,rfl]],?_];rintro v _⟨hv,rfl⟩;k_places;obtain⟨fs,rfl,_⟩:=hv.objm;refine#[_,FJ.mpr rfl,_,aU,cb,a,t,_,124,_,"|",rfl,rfl,d6,JQ,?_];refine#[λv M'=>FormOf q v/\M'=RdM a t (k+p.tl.length+1+q.tl.length),#[a,t,_,q,_,d,rfl,rfl,g7,J5,Ji,hq,Ql,λv h=>#[h,rfl]],?_];rintro v _⟨OV,rfl⟩;k_places;obtain⟨gs,rfl,_⟩:=OV.objm;exact#[_,FJ.mpr rfl,_,aU,cb,a,t,_,41,_,")",rfl,rfl,n9,JQ,_,_,_,_,rfl,hR _ _ hv OV]
def Fg(hL:5<=n)(T:V.T "shifted_from" iD gb)(Jo:gl V)(uI:V.MM n "form_from" cB (df j))(Lc:jl V)(uC:cD V):V.MM (n+1) "shifted_from" gb (ud j):=by
 refine Tx.okM T sc_shifted_from (λds M R RX h=>?_) (λf cdv A outer s H E J hr hx=>⟨_,((ar (aJ 2 sc_shifted_from.nd (aM (hn:=Kv) Jo hx hr (aB (ac (aa 0) ae))))
   (ar (bQ (aV (hn:=Kv) (CalMth.one uC) hx hr (ag (aa 0)) (aB (ac aA ae))))
   (av (aH (gU (hn:=Kv) Lc hr (aE (aM (hn:=Kv) uI hx hr (aB (ac (aa 0) (ac (aa 1) ae)))) (aE (ag (af (aa 2) ad)) (aE (ag (af (aa 2) ad)) aW))))))))),λds M R RX d_ h=>?_⟩)
 .obtain⟨_,_,_,_,_,_,_,_,rfl,_⟩:=h;rfl
 .obtain⟨a,t,k,x,y,p,l,d,rfl,rfl,d5,J5,Ji,gt,hy,hp,u8,hR⟩:=h;have d6:At t (k+(numL x).length+1+(numL y).length) _:=d5.app.next.app;refine#[λv M'=>v=.tup [.int x,.int y]/\M'=RdM a t (k+(numL x).length+1+(numL y).length),#[a,t,_,x,y,58,_,rfl,rfl,gt,hy,.inr (.inr (.inl rfl)),d5,rfl,rfl],?_];rintro _ _⟨rfl,rfl⟩;k_places;refine#[_,FJ.mpr rfl,_,aU,cb,a,t,_,58,_,":",rfl,rfl,d6,JQ,?_];refine#[a,t,_,p,l,d,rfl,rfl,d6.next,J5,Ji,hp,u8,λv h=>?_];obtain⟨fs,rfl,_⟩:=h.objm;exact#[_,rfl,_,rfl,_,_,_,_,rfl,hR _ h]
def Fh(hL:5<=n)(T:V.T "rehue_from" iE gc)(uD:V.m "int")(uI:V.MM n "form_from" cB (df j))(Ld:jm V)(uC:cD V):V.MM (n+1) "rehue_from" gc (ue j):=by
 refine Tx.okM T sc_rehue_from (λds M R RX h=>?_) (λf cdv A outer s H E J hr hx=>⟨_,((ar (aJ 2 sc_rehue_from.nd (sG uD (aE (aV (hn:=Kv) (CalMth.one uC) hx hr (ag (aa 0)) (aB (ac aA ae))) aW)))
   (ar (aJ 3 sc_rehue_from.nd (sG uD (aE (aV (hn:=Kv) (CalMth.one uC) hx hr (ag (aa 0)) (aB (ac aA ae))) aW)))
   (av (aH (gU (hn:=Kv) Ld hr (aE (aM (hn:=Kv) uI hx hr (aB (ac (aa 0) (ac (aa 1) ae)))) (aE (ag (aa 2)) (aE (ag (aa 3)) aW))))))))),λds M R RX d_ h=>?_⟩)
 .obtain⟨_,_,_,_,_,_,_,_,rfl,_⟩:=h;rfl
 .obtain⟨a,t,k,f,g,p,l,d,rfl,rfl,d5,J5,Ji,hf,hg,hp,u8,hR⟩:=h;have OW:∀{f:Int},1<=f/\f<=6->PySem.intText? (#[[(48+f).toNat].toArray]:A_)=be f:=λ{f} h=>by
   have:=digit_of (c:=(48+f).toNat) JM;rw[show(((48+f).toNat:Nat):Int)-48=f by lia]at this;exact this
  refine#[λv M'=>v=.int f/\M'=RdM a t (k+1),#[_,FJ.mpr rfl,_,aU,cb,a,t,_,_,_,"123456",rfl,rfl,d5,ub hf,_,#[OW hf,by show(1:Nat)<=640;decide],rfl,rfl],?_];rintro _ _⟨rfl,rfl⟩;k_places;refine#[λv M'=>v=.int g/\M'=RdM a t (k+2),#[_,FJ.mpr rfl,_,aU,cb,a,t,_,_,_,"123456",rfl,rfl,d5.next,ub hg,_,#[OW hg,by show(1:Nat)<=640;decide],rfl,rfl],?_];rintro _ _⟨rfl,rfl⟩;k_places;refine#[a,t,_,p,l,d,rfl,rfl,d5.next.next,J5,Ji,hp,u8,λv h=>?_];obtain⟨fs,rfl,_⟩:=h.objm;exact#[_,_,_,_,rfl,hR _ h]
def Fi(hL:5<=n)(T:V.T "form_from" iF cB)(Qm:V.MM n "over_from" fZ (uc j))(Qn:V.MM n "shifted_from" gb (ud j))(uI:V.MM n "form_from" cB (df j))(Qo:V.MM n "rehue_from" gc (ue j))(Le:jh V)(Lf:V.gi "DEEP" 5)(Lg:ji V)(Lh:jj V)(uH:dv V):V.MM (n+1) "form_from" cB (df (j+1)):=by
 refine Tx.okM T sc_form_from (λds M R RX h=>?_) (λf cdv A outer s H E J hr hx=>⟨_,((ar (aJ 2 sc_form_from.nd (fQ (bH (fD (aa 1) (eE Lf))) (aV (hn:=Kv) (CalMth.one uH) hx hr (ag (aa 0)) (aB (ac aA ae))) (ag aA)))
   (ar (bo (bH (bq (aa 2) aA)) (av (aH (aM (hn:=Kv) Qm hx hr (aB (ac (aa 0) (ac (ao (aa 1) ad) ae)))))) bf)
   (ar (bo (bH (bq (aa 2) aA)) (av (aH (aM (hn:=Kv) Qn hx hr (aB (ac (aa 0) (ac (ao (aa 1) ad) ae)))))) bf)
   (ar (bo (bH (bq (aa 2) aA)) (av (aH (gU (hn:=Kv) Lg hr (aE (aM (hn:=Kv) uI hx hr (aB (ac (aa 0) (ac (ao (aa 1) ad) ae)))) aW)))) bf)
   (ar (bo (bH (bq (aa 2) aA)) (av (aH (gU (hn:=Kv) Lh hr (aE (aM (hn:=Kv) uI hx hr (aB (ac (aa 0) (ac (ao (aa 1) ad) ae)))) aW)))) bf)
   (ar (bo (bH (bq (aa 2) aA)) (av (aH (aM (hn:=Kv) Qo hx hr (aB (ac (aa 0) (ac (ao (aa 1) ad) ae)))))) bf)
   (av (aH (aM (hn:=Kv) Le hx hr (aB (ac (aa 0) ae)))))))))))),λds M R RX d_ h=>?_⟩)
 .obtain⟨_,_,_,_,_,_,rfl,_⟩:=h;rfl
 .obtain⟨a,t,k,p,l,d,rfl,rfl,d5,J5,Ji,hp,u8,hR⟩:=h;refine#[λv M'=>v=.str (mayS "(smth" (p.tl++l))/\M'=RdM a t (k+mayN "(smth" (p.tl++l)),?_,?_]
  .show if decide ((d:Int)<5)=true then _ else _
   refine ite2 (λc=>?_) (λc=>?_)
   .exact#[_,FJ.mpr rfl,_,aU,db,a,t,_,_,"(smth",rfl,rfl,d5,rfl,rfl]
   .have c':¬((d:Int)<5):=λz=>c (decide_eq_true z);cases p with
    |mot L a b c d=>exact#[rfl,rfl]
    |_=>rw[Pat.depth]at u8;lia
  rintro _ _⟨rfl,rfl⟩;k_places;cases p with
  |mot L x y u v=>exact#[a,t,k,L,x,y,u,v,l,rfl,rfl,d5,hp,hR]
  |over p q=>
   rw[Pat.depth]at u8;have e:k+(Pat.over p q).tl.length=k+1+p.tl.length+1+q.tl.length+1:=by rw[Pat.tl];simp;lia
   have d6:At t (k+1) (p.tl++124::(q.tl++41::l)):=by have:=d5.next;simpa using this
   rw[e]at hR;exact#[a,t,k+1,p,q,l,d+1,rfl,rfl,d6,JM,JM,hp.1,hp.2,JM,JM,λu u' h1 h2=>hR _ #[u,u',rfl,h1,h2]]
  |sh x y p=>
   rw[Pat.depth]at u8;have e:k+(Pat.sh x y p).tl.length=k+1+(numL x).length+1+(numL y).length+1+p.tl.length:=by rw[Pat.tl];simp;lia
   have d6:At t (k+1) (numL x++44::(numL y++58::(p.tl++l))):=by have:=d5.next;simpa using this
   rw[e]at hR;exact#[a,t,k+1,x,y,p,l,d+1,rfl,rfl,d6,JM,JM,hp.1,hp.2.1,hp.2.2,JM,λu h1=>hR _ #[u,rfl,h1]]
  |mir p=>
   rw[Pat.depth]at u8;have e:k+(Pat.mir p).tl.length=k+1+p.tl.length:=by rw[Pat.tl];simp;lia
   rw[e]at hR;refine#[a,t,k+1,p,l,d+1,rfl,rfl,d5.next,JM,JM,hp,JM,λu h1=>?_];obtain⟨fs,rfl,_⟩:=h1.objm;exact#[_,_,rfl,hR _ #[_,rfl,h1]]
  |tur p=>
   rw[Pat.depth]at u8;have e:k+(Pat.tur p).tl.length=k+1+p.tl.length:=by rw[Pat.tl];simp;lia
   rw[e]at hR;refine#[a,t,k+1,p,l,d+1,rfl,rfl,d5.next,JM,JM,hp,JM,λu h1=>?_];obtain⟨fs,rfl,_⟩:=h1.objm;exact#[_,_,rfl,hR _ #[_,rfl,h1]]
  |hue f g p=>
   rw[Pat.depth]at u8;have e:k+(Pat.hue f g p).tl.length=k+1+2+p.tl.length:=by rw[Pat.tl,hueL hp.1,hueL hp.2.1];simp;lia
   have d6:At t (k+1) ((48+f).toNat::(48+g).toNat::(p.tl++l)):=by
    have:=d5.next;rw[hueL hp.1,hueL hp.2.1]at this;simpa using this
   rw[e]at hR;exact#[a,t,k+1,f,g,p,l,d+1,rfl,rfl,d6,JM,JM,hp.1,hp.2.1,hp.2.2,JM,λu h1=>hR _ #[u,rfl,h1]]
def Fj(Qp:V.T "over_from" iC fZ)(Qq:V.T "shifted_from" iD gb)(Qr:V.T "rehue_from" iE gc)(OX:V.T "form_from" iF cB)(Lb:jk V)(uC:cD V)(Jo:gl V)(Lc:jl V)(uD:V.m "int")(Ld:jm V)(Le:jh V)(Lf:V.gi "DEEP" 5)(Lg:ji V)(Lh:jj V)(uH:dv V):∀j,V.MM (5+2*j) "form_from" cB (df j):=by
 intro j;induction j with
 |zero=>exact CalMM.never OX (λds M R RX=>B0)
 |succ j ih=>
  have Li:=ih;have NI:=Ff (n:=5+2*j) (j:=j) Kv Qp Li Lb uC;have NJ:=Fg (n:=5+2*j) (j:=j) Kv Qq Jo Li Lc uC;have NK:=Fh (n:=5+2*j) (j:=j) Kv Qr uD Li Ld uC;have Li:=Cal.mono ih (GO _);exact Fi (n:=5+2*j+1) (j:=j) Kv OX NI NJ Li NK Le Lf Lg Lh uH
abbrev pD(V:Bx):Prop:=V.M 1 "Reading" og BB
def Fk(T:V.Ti "Reading" "Reading.__init__" oa og)(JF:V.a "Reading" "text")(uN:V.a "Reading" "place"):pD V:=by
 refine Txi.okI T Dr (λds R h=>?_) (λf cdv A outer s H E J hr=>#[_,((bF JF (aa 1) (bF uN ad dI))),λds R h=>?_])
 .obtain⟨_,rfl,_⟩:=h;rfl
 .obtain⟨t,rfl,hR⟩:=h;refine#[JQ,Nh,?_];show R (putD _ _ (putD _ _ []));rw[putD,putD,if_neg JT];exact hR
abbrev pE(V:Bx):Prop:=V.M 1 "Pattern" oi B6
def Fn(T:V.Ti "Pattern" "Pattern.__init__" oh oi)(NM:V.a "Pattern" "text")(z8:V.a "Pattern" "shifts")(Kl:V.a "Pattern" "form"):pE V:=by
 refine Txi.okI T Ds (λds R h=>?_) (λf cdv A outer s H E J hr=>#[_,((bF NM (aa 1) (bF z8 (aa 2) (bF Kl (aa 3) dI)))),λds R h=>?_])
 .obtain⟨_,_,_,_,_,_,rfl,_⟩:=h;rfl
 .obtain⟨t,w,h,s,x,fs,rfl,hR⟩:=h;refine#[JQ,Nh,by show(2:Nat)<1000;decide,?_];show R (putD _ _ (putD _ _ (putD _ _ [])));rw[show putD ("shifts":A_) (.tup [.int w,.int h,.int s]) (putD ("text":A_) (.str t) [])=([("text",.str t),("shifts",.tup [.int w,.int h,.int s])]:List (A_×D))by rw[putD,putD,if_neg JT];rfl,putD,if_neg JT,putD,if_neg JT];exact hR
abbrev pF(V:Bx):Prop:=V.D 2 "measure" ol AV
def Fo(T:V.T "measure" oj ol)(Kr:je V):pF V:=by
 refine Tx.okDW T sc_measure (λds R h=>?_) (λf cdv A outer s H E J hr=>⟨_,((ai (aq 2 sc_measure.nd (af (aC Kr hr (ac (aN (ac ad (ac (aa 0) ae))) (ac (aN (ac ad (ac (aa 1) ae))) ae))) ad))
   (au (aD (aN (ac (af (aa 2) ad) (ac (af (aa 2) ad) ae))))))),λds R h=>?_⟩)
 .obtain⟨x,y,rfl,_⟩:=h;rfl
 .obtain⟨x,y,rfl,hx,hy,hR⟩:=h;refine#[λd=>∃p0 p1:Int,d=.tup [.int p0,.int p1]/\Meas x y p1 p0,#[JU,JU,1,x,0,y,rfl,hx,hy,λp0 p1 q0 hL=>#[_,rfl,p0,p1,rfl,sX #[hL.1,hL.2]]],?_];rintro _⟨p0,p1,rfl,hM⟩;k_places;exact#[_,rfl,_,rfl,JU,hR p1 p0 hM]
abbrev jn(V:Bx):Prop:=V.D 3 "met" oq AW
def Fp(T:V.T "met" om oq)(Lj:pF V):jn V:=by
 refine Tx.okDW T sc_met (λds R h=>?_) (λf cdv A outer s H E J hr=>⟨_,((ai (aq 2 sc_met.nd (aC Lj hr (ac (af (aa 0) ad) (ac (af (aa 1) ad) ae))))
   (ai (aq 3 sc_met.nd (aR (ax (af (aa 0) ad) (af (aa 1) ad)) (af (aa 2) ad)))
   (ai (aq 4 sc_met.nd (aR (ax (af (aa 0) ad) (af (aa 1) ad)) (af (aC Lj hr (ac (af (aa 0) ad) (ac (af (aa 1) ad) ae))) ad)))
   (ai (aq 5 sc_met.nd (ax (aR (aa 4) (af (aa 0) ad)) (af (aa 0) ad)))
   (ai (aq 6 sc_met.nd (bj (ax (aR (aa 4) (af (aa 1) ad)) (af (aa 1) ad)) (aa 5)))
   (ai (aq 7 sc_met.nd (aR (af (aa 2) ad) (af (aC Lj hr (ac (af (aa 2) ad) (ac (aa 6) ae))) ad)))
   (ai (aq 8 sc_met.nd (ax (aR (ax (aa 7) (aa 6)) (af (aa 2) ad)) (af (aa 2) ad)))
   (au (aD (aN (ac (aa 3) (ac (ax (aa 4) (aa 7)) (ac (az (ao (ax (aa 7) (aa 5)) (ax (aa 8) (af (aa 0) ad))) (aa 3)) ae)))))))))))))),λds R h=>?_⟩)
 .obtain⟨_,_,_,_,_,_,rfl,_⟩:=h;rfl
 .obtain⟨w1,h1,s1,w2,h2,s2,rfl,a1,a2,a3,a4,a5,a6,b1,b2,b3,b4,b5,b6,hR⟩:=h;refine#[λd=>∃g u:Int,d=.tup [.int g,.int u]/\Meas w1 w2 g u,#[_,rfl,_,rfl,w1,w2,rfl,Kv,Kv,λg u M=>#[g,u,rfl,M]],?_];rintro _⟨g,u,rfl,M1⟩;k_places;have hg:=M1.pos a1;have Nf:=M1.le a1;refine#[λd=>d=.int (w1*w2/g),#[_,rfl,_,rfl,.inl (b64B a1 a2),_,rfl,d30B hg (Gs Nf a2),rfl],?_];rintro _ rfl;k_places;refine#[λd=>∃k u':Int,d=.int (h1*h2/k)/\Meas h1 h2 k u',#[_,rfl,_,rfl,.inl (b64B a3 a4),_,rfl,_,rfl,h1,h2,rfl,Kv,Kv,λk u' M=>#[_,rfl,d30B (M.pos a3) (Gs (M.le a3) a4),k,u',rfl,M]],?_];rintro _⟨k,u',rfl,M2⟩;k_places;obtain⟨r0,r1,r2,r3,r4,r5⟩:=kJ a3 b3 M2;have Qt:h1*h2<=1125899906842624:=by
   have:=bJ (a:=h1) (d:=h2) (A:=33554432) (B:=33554432) Kv Kv;omega
  refine#[λd=>d=.int (h1*h2/k/h1*s1),#[_,rfl,d30B a3 a4,_,rfl,.inr (s64B a5 a6 a2),rfl],?_];rintro _ rfl;k_places;refine#[λd=>d=.int (h1*h2/k/h2*s2-h1*h2/k/h1*s1),#[_,rfl,d30B b3 b4,_,rfl,.inr (s64B b5 b6 b2),rfl],?_];rintro _ rfl;k_places;have t1:=bJ (a:=h1*h2/k/h1) (d:=s1) (A:=33554432) (B:=33554432) Kv Kv;have t2:=bJ (a:=h1*h2/k/h2) (d:=s2) (A:=33554432) (B:=33554432) Kv Kv;refine#[λd=>∃gg s_:Int,d=.int (g/gg)/\Meas g (h1*h2/k/h2*s2-h1*h2/k/h1*s1) gg s_,#[_,rfl,_,rfl,g,_,rfl,Kv,Kv,λgg s_ M=>#[_,rfl,d30B (M.pos hg) (Gs (M.le hg) (Gs Nf a2)),gg,s_,rfl,M]],?_];rintro _⟨gg,s_,rfl,M3⟩;k_places;have Jf:=M3.pos hg;have c1:0<=g/gg:=H8 Kv Kv;have c2:g/gg<=g:=H9 _ Kv;have c4:=AG (c:=g/gg) (gap:=h1*h2/k/h2*s2-h1*h2/k/h1*s1) (N:=2251799813685248) hg c1 c2 Kv;have mr:=kI a1 b1 a3 b3 M1 M2 M3;refine#[λd=>d=.int (g/gg*(h1*h2/k/h2*s2-h1*h2/k/h1*s1)/g*u),#[.inl #[Kv,Kv],_,rfl,#[Kv,Kv],_,rfl,.inl #[Kv,Kv],rfl],?_];rintro _ rfl;k_places;obtain⟨w0,w3,_⟩:=kJ a1 b1 M1;have Qu:w1*w2<=1125899906842624:=by
   have:=bJ (a:=w1) (d:=w2) (A:=33554432) (B:=33554432) Kv Kv;omega
  have Oz:=bJ (a:=h1*h2/k) (d:=g/gg) (A:=1125899906842624) (B:=33554432) Kv Kv;exact#[.inl #[Kv,Kv],.inl #[Kv,Kv],_,rfl,.inr #[Kv,Kv],w0,JU,hR _ _ _ _ mr]
abbrev jp(V:Bx):Prop:=V.D 1 "mirrored" ou AT
def Fq(T:V.T "mirrored" ot ou):jp V:=by
 refine Tx.okDW T Dt (λds R h=>?_) (λf cdv A outer s H E J hr=>#[_,((au (aD (aN (ac (af (aa 0) ad) (ac (af (aa 0) ad) (ac (az (bW (af (aa 0) ad)) (af (aa 0) ad)) ae))))))),λds R h=>?_])
 .obtain⟨w,h,s,rfl,_⟩:=h;rfl
 .obtain⟨w,h,s,rfl,hw,hR⟩:=h;exact#[_,rfl,_,rfl,_,rfl,_,rfl,hw,JU,hR]
abbrev jq(V:Bx):Prop:=V.D 3 "turned" oy AU
def Fs(T:V.T "turned" ow oy)(Ks:jg V):jq V:=by
 refine Tx.okDW T Du (λds R h=>?_) (λf cdv A outer s H E J hr=>#[_,((au (aD (aC Ks hr (ac (aN (ac ad (ac (af (aa 0) ad) ae))) (ac (aN (ac (bW (af (aa 0) ad)) (ac (af (aa 0) ad) ae))) ae)))))),λds R h=>?_])
 .obtain⟨w,h,s,rfl,_⟩:=h;rfl
 .obtain⟨w,h,s,rfl,hw,hh,K0,z6,hs,j9,hR⟩:=h;have hp:0<w*h:=FZ hw hh;have hn:¬0*s=w* -h:=by rw[Ht];lia
  exact#[_,rfl,JU,_,rfl,_,rfl,JU,0,w,-h,s,rfl,JM,JM,JM,JM,λe=>absurd e hn,λ_ w' h' s' f=>hR w' h' s' f]
def ok_Motif_family(hL:3<=n)(T:V.Tm "Motif" "family" "Motif.family" iG cr)(uL:V.a "Motif" "shifts"):V.Q (n+1) "Motif" "family" cr (ofX (bR (j+1) "Motif")):=by
 refine Txm.okM T Dv (λds M R RX h=>?_) (λf cdv A outer s H E J hr hx=>⟨_,((ar (bo (sC (aF uL (ag (aa 0))) (ag cO)) (av gY) bf)
   (av (aH (aF uL (ag (aa 0))))))),λds M R RX d_ h=>?_⟩)
 .obtain⟨_,_,rfl,_⟩:=h;rfl
 .obtain⟨p,v,rfl,hv,hp,hd,hc,hf,hR⟩:=h;cases p<;>simp only[Pat.cls]at hc<;>try exact absurd hc JT
  obtain⟨k,w,h,s,rfl,F⟩:=hv;exact#[_,#[rfl,rfl],_,mo_shifts,_,#[rfl,rfl],_,mo_shifts,hR w h s (Pat.Fam.mot F)]
def Ft(hL:3<=n)(T:V.Tm "Over" "family" "Over.family" iH iI)(Lk:jn V)(uV:V.a "Over" "above")(uX:V.a "Over" "below")(uE:∀x,x∈(["Motif","Over","Shifted","Mirror","Turn","Rehue"]:List A_)->V.Q n x "family" cr (ofX (bR j x))):V.Q (n+1) "Over" "family" iI (ofX (bR (j+1) "Over")):=by
 refine Txm.okM T sc_Over_family (λds M R RX h=>?_) (λf cdv A outer s H E J hr hx=>⟨_,((ar (aJ 1 sc_Over_family.nd (bI (hn:=Kv) uE hx hr (aF uV (ag (aa 0)))))
   (av (aH (aM (hn:=Kv) (CalD.toM Lk) hx hr (aE (ag (aa 1)) (aE (bI (hn:=Kv) uE hx hr (aF uX (ag (aa 0)))) aW))))))),λds M R RX d_ h=>?_⟩)
 .obtain⟨_,_,rfl,_⟩:=h;rfl
 .obtain⟨p,v,rfl,hv,hp,hd,hc,hf,hR⟩:=h;cases p<;>simp only[Pat.cls]at hc<;>try exact absurd hc JT
  rename_i p q;obtain⟨u,u',rfl,hu,K6⟩:=hv;obtain⟨fs,rfl,o1⟩:=hu.objm;obtain⟨gs,rfl,o2⟩:=K6.objm;obtain⟨f1,f2⟩:=Pat.Fits.over_parts hp.1 hp.2 hf;rw[Pat.depth]at hd;refine#[λd M'=>(∃w h s,p.Fam w h s/\d=.tup [.int w,.int h,.int s])/\M'=M,#[_,#[rfl,rfl],_,rfl,p.cls,p.cls_mem,fs,#[rfl,rfl],o1.fam,p,_,rfl,hu,hp.1,JM,rfl,f1,λw h s F=>#[#[w,h,s,F,rfl],rfl]],?_];rintro _ _⟨⟨w1,h1,s1,F1,rfl⟩,rfl⟩;k_places;refine#[_,#[rfl,rfl],_,eZ JT,q.cls,q.cls_mem,gs,#[rfl,rfl],o2.fam,q,_,rfl,K6,hp.2,JM,rfl,f2,λw2 h2 s2 F2=>?_];obtain⟨a1,a2,a3,a4,a5,a6⟩:=f1.small F1;obtain⟨b1,b2,b3,b4,b5,b6⟩:=f2.small F2;exact#[w1,h1,s1,w2,h2,s2,rfl,a1,JM,a3,JM,a5,a6,b1,JM,b3,JM,b5,b6,λw h s A MR=>hR w h s (Pat.Fam.over F1 F2 MR)]
def Fu(hL:3<=n)(T:V.Tm "Shifted" "family" "Shifted.family" iJ iK)(uW:V.a "Shifted" "form")(uE:∀x,x∈(["Motif","Over","Shifted","Mirror","Turn","Rehue"]:List A_)->V.Q n x "family" cr (ofX (bR j x))):V.Q (n+1) "Shifted" "family" iK (ofX (bR (j+1) "Shifted")):=by
 refine Txm.okM T Dw (λds M R RX h=>?_) (λf cdv A outer s H E J hr hx=>#[_,((av (aH (bI (hn:=Kv) uE hx hr (aF uW (ag (aa 0))))))),λds M R RX d_ h=>?_])
 .obtain⟨_,_,rfl,_⟩:=h;rfl
 .obtain⟨p,v,rfl,hv,hp,hd,hc,hf,hR⟩:=h;cases p<;>simp only[Pat.cls]at hc<;>try exact absurd hc JT
  rename_i a b p;obtain⟨u,rfl,hu⟩:=hv;obtain⟨fs,rfl,o1⟩:=hu.objm;rw[Pat.depth]at hd;refine#[_,#[rfl,rfl],_,rfl,p.cls,p.cls_mem,fs,#[rfl,rfl],o1.fam,p,_,rfl,hu,hp.2.2,JM,rfl,hf.of_sh,λw h s F=>?_];exact hR w h s (F.sh a b)
def Fv(hL:3<=n)(T:V.Tm "Mirror" "family" "Mirror.family" iL iM)(Ll:jp V)(uS:V.a "Mirror" "form")(uE:∀x,x∈(["Motif","Over","Shifted","Mirror","Turn","Rehue"]:List A_)->V.Q n x "family" cr (ofX (bR j x))):V.Q (n+1) "Mirror" "family" iM (ofX (bR (j+1) "Mirror")):=by
 refine Txm.okM T Dx (λds M R RX h=>?_) (λf cdv A outer s H E J hr hx=>#[_,((av (aH (aM (hn:=Kv) (CalD.toM Ll) hx hr (aE (bI (hn:=Kv) uE hx hr (aF uS (ag (aa 0)))) aW))))),λds M R RX d_ h=>?_])
 .obtain⟨_,_,rfl,_⟩:=h;rfl
 .obtain⟨p,v,rfl,hv,hp,hd,hc,hf,hR⟩:=h;cases p<;>simp only[Pat.cls]at hc<;>try exact absurd hc JT
  rename_i p;obtain⟨u,rfl,hu⟩:=hv;obtain⟨fs,rfl,o1⟩:=hu.objm;rw[Pat.depth]at hd;refine#[_,#[rfl,rfl],_,rfl,p.cls,p.cls_mem,fs,#[rfl,rfl],o1.fam,p,_,rfl,hu,hp,JM,rfl,Pat.Fits.of_mir (p:=p) hp hf,λw h s F=>?_];exact#[w,h,s,rfl,F.f.w0,hR w h _ F.mir]
def Fw(hL:3<=n)(T:V.Tm "Turn" "family" "Turn.family" iN iO)(Lm:jq V)(uU:V.a "Turn" "form")(uE:∀x,x∈(["Motif","Over","Shifted","Mirror","Turn","Rehue"]:List A_)->V.Q n x "family" cr (ofX (bR j x))):V.Q (n+1) "Turn" "family" iO (ofX (bR (j+1) "Turn")):=by
 refine Txm.okM T Dy (λds M R RX h=>?_) (λf cdv A outer s H E J hr hx=>#[_,((av (aH (aM (hn:=Kv) (CalD.toM Lm) hx hr (aE (bI (hn:=Kv) uE hx hr (aF uU (ag (aa 0)))) aW))))),λds M R RX d_ h=>?_])
 .obtain⟨_,_,rfl,_⟩:=h;rfl
 .obtain⟨p,v,rfl,hv,hp,hd,hc,hf,hR⟩:=h;cases p<;>simp only[Pat.cls]at hc<;>try exact absurd hc JT
  rename_i p;obtain⟨u,rfl,hu⟩:=hv;obtain⟨fs,rfl,o1⟩:=hu.objm;rw[Pat.depth]at hd;refine#[_,#[rfl,rfl],_,rfl,p.cls,p.cls_mem,fs,#[rfl,rfl],o1.fam,p,_,rfl,hu,hp,JM,rfl,Pat.Fits.of_tur (p:=p) hp hf,λw h s F=>?_];obtain⟨a1,a2,a3,a4,a5,a6⟩:=(Pat.Fits.of_tur (p:=p) hp hf).small F;exact#[w,h,s,rfl,a1,a3,JM,JM,a5,JM,λw' h' s' F'=>hR w' h' s' (F.tur F')]
def Fx(hL:3<=n)(T:V.Tm "Rehue" "family" "Rehue.family" iP iQ)(uY:V.a "Rehue" "form")(uE:∀x,x∈(["Motif","Over","Shifted","Mirror","Turn","Rehue"]:List A_)->V.Q n x "family" cr (ofX (bR j x))):V.Q (n+1) "Rehue" "family" iQ (ofX (bR (j+1) "Rehue")):=by
 refine Txm.okM T Dz (λds M R RX h=>?_) (λf cdv A outer s H E J hr hx=>#[_,((av (aH (bI (hn:=Kv) uE hx hr (aF uY (ag (aa 0))))))),λds M R RX d_ h=>?_])
 .obtain⟨_,_,rfl,_⟩:=h;rfl
 .obtain⟨p,v,rfl,hv,hp,hd,hc,hf,hR⟩:=h;cases p<;>simp only[Pat.cls]at hc<;>try exact absurd hc JT
  rename_i f g p;obtain⟨u,rfl,hu⟩:=hv;obtain⟨fs,rfl,o1⟩:=hu.objm;rw[Pat.depth]at hd;refine#[_,#[rfl,rfl],_,rfl,p.cls,p.cls_mem,fs,#[rfl,rfl],o1.fam,p,_,rfl,hu,hp.2.2,JM,rfl,hf.of_hue,λw h s F=>?_];exact hR w h s (F.hue f g)
def Fy(OY:V.Tm "Motif" "family" "Motif.family" iG cr)(OZ:V.Tm "Over" "family" "Over.family" iH iI)(O0:V.Tm "Shifted" "family" "Shifted.family" iJ iK)(O1:V.Tm "Mirror" "family" "Mirror.family" iL iM)(O2:V.Tm "Turn" "family" "Turn.family" iN iO)(O3:V.Tm "Rehue" "family" "Rehue.family" iP iQ)(uL:V.a "Motif" "shifts")(Lk:jn V)(uV:V.a "Over" "above")(uX:V.a "Over" "below")(uW:V.a "Shifted" "form")(Ll:jp V)(uS:V.a "Mirror" "form")(Lm:jq V)(uU:V.a "Turn" "form")(uY:V.a "Rehue" "form"):∀j x,x∈(["Motif","Over","Shifted","Mirror","Turn","Rehue"]:List A_)->V.Q (3+j) x "family" cr (ofX (bR j x)):=by
 intro j;induction j with
 |zero=>
  intro x hx;simp only[FL,G8,or_false]at hx;rcases hx with rfl|rfl|rfl|rfl|rfl|rfl
  .exact CalMth.never OY (λds M R RX=>fb)
  .exact CalMth.never OZ (λds M R RX=>fb)
  .exact CalMth.never O0 (λds M R RX=>fb)
  .exact CalMth.never O1 (λds M R RX=>fb)
  .exact CalMth.never O2 (λds M R RX=>fb)
  .exact CalMth.never O3 (λds M R RX=>fb)
 |succ j Ln=>
  intro x hx;simp only[FL,G8,or_false]at hx;rcases hx with rfl|rfl|rfl|rfl|rfl|rfl
  .exact ok_Motif_family (n:=3+j) (j:=j) Kv OY uL
  .exact Ft (n:=3+j) (j:=j) Kv OZ Lk uV uX Ln
  .exact Fu (n:=3+j) (j:=j) Kv O0 uW Ln
  .exact Fv (n:=3+j) (j:=j) Kv O1 Ll uS Ln
  .exact Fw (n:=3+j) (j:=j) Kv O2 Lm uU Ln
  .exact Fx (n:=3+j) (j:=j) Kv O3 uY Ln
abbrev vo(V:Bx):Prop:=V.MM 17 "form_from" cB (df 6)
abbrev vp(V:Bx):Prop:=∀x,x∈(["Motif","Over","Shifted","Mirror","Turn","Rehue"]:List A_)->V.Q 9 x "family" cr (ofX (bR 6 x))
abbrev pG(V:Bx):Prop:=V.X 18 "read" oA uj
def Fz(T:V.T "read" oz oA)(uB:V.m "len")(uI:vo V)(NN:V.gi "MOST" 720)(uN:V.a "Reading" "place")(NO:pD V)(NP:pE V)(uE:vp V):pG V:=by
 refine CalMM.nilX (Tx.okM T sc_read (λds M R RX h=>?_) (λf cdv A outer s H E J hr hx=>⟨_,((ar (aJ 1 sc_read.nd (zH NO hr (aB (ac (aa 0) ae))))
   (ar (aJ 2 sc_read.nd (aM uI hx hr (aB (ac (aa 1) (ac ad ae)))))
   (ar (bo (sB (aF uN (ag (aa 1))) (ag (cj uB (ac (aa 0) ae)))) (av gY) bf)
   (ar (aJ 3 sc_read.nd (bI uE hx hr (ag (aa 2))))
   (ar (bo (bH (rq (ax (af (aa 3) ad) (af (aa 3) ad)) (eE NN))) (av gY) bf)
   (av (aH (ag (kh NP hr (ac (aa 0) (ac (aa 3) (ac (aa 2) ae))))))))))))),λds M R RX d_ h=>?_⟩))
 .obtain⟨_,R0,Je,⟨_,rfl,_⟩,_⟩:=h;rfl
 .obtain⟨rfl,R0,Je,⟨p,rfl,ok,hG⟩,hR,hX⟩:=h;have b9:=Pat.text_short ok.wf ok.deep;have d5:At p.text 0 (p.tl++[]):=#[by rw[Gn];exact cZ p,Gb _,JM];have Qe:=ok.deep;have hl:p.text.length=p.tl.length:=by rw[<-bx,cZ]
  refine#[λd M'=>∃a,d=.ptr a/\M'=RdM a p.text 0,#[_,rfl,λa _=>#[a,rfl,rfl]],?_];rintro _ _⟨a,rfl,rfl⟩;k_places;refine#[λv M'=>FormOf p v/\M'=RdM a p.text p.tl.length,#[a,p.text,0,p,[],0,rfl,rfl,d5,rfl,JQ,ok.wf,JM,λv h=>#[h,by rw[IU]]],?_];rintro v _⟨hv,rfl⟩;k_places;refine#[_,aU,_,eU,JM,ite2 (λc=>absurd (of_decide_eq_true c) JM) (λ_=>?_)];obtain⟨fs,rfl,o1⟩:=hv.objm;refine#[λd M'=>∃w h s,p.Fam w h s/\d=.tup [.int w,.int h,.int s],#[p.cls,p.cls_mem,fs,#[rfl,rfl],o1.fam,p,_,rfl,hv,ok.wf,JM,rfl,ok.fits,λw h s F=>#[w,h,s,F,rfl]],?_];rintro _ M'⟨w,h,s,F,rfl⟩;k_places;have a1:=ok.fits.small F;obtain⟨w',h',s',F',hb⟩:=ok.fits;obtain⟨rfl,rfl,_⟩:=F.uniq F';refine#[_,rfl,_,rfl,.inl #[JM,JM],ite2 (λc=>absurd (of_decide_eq_true c) JM) (λ_=>?_)];exact#[_,_,_,_,_,_,rfl,hR _ _ (hG _ #[_,_,s,_,rfl,rfl,eZ JT,#[F,#[_,kQ JT JT,hv],by simp[noLF,noL,noLs,o1.nl]]])]
def FA:SiM:=λa ds R=>∃p w h,ds=[.str (Pat.text p),.int w,.int h]/\p.Ok/\∀d q,cn p d->a≠q->R (Fl.M #[p,d,w,h,0,[]] a q)
abbrev pH(V:Bx):Prop:=V.N 19 "Floor" oC FA
def FB(T:V.Ti "Floor" "Floor.__init__" oB oC)(NQ:pG V)(uO:V.a "Floor" "pattern")(J4:V.a "Floor" "text")(uK:V.a "Floor" "width")(uT:V.a "Floor" "height")(uF:V.a "Floor" "laid")(z7:V.a "Floor" "deeds"):pH V:=by
 refine Txi.okIN T DB (λa ds R h=>?_) (λf cdv A outer s H E J hr hx=>⟨_,((ar (bY uO (ag (aa 0)) (aM (CalX.toM NQ) hx hr (aB (ac (aa 1) ae))))
   (ar (bY J4 (ag (aa 0)) (ag (aa 1)))
   (ar (bY uK (ag (aa 0)) (ag (aa 2)))
   (ar (bY uT (ag (aa 0)) (ag (aa 3)))
   (ar (bY uF (ag (aa 0)) (ag ad))
   (av (bY z7 (ag (aa 0)) (ku (aB ae)))))))))),λa ds R J7 h=>?_⟩)
 .obtain⟨_,_,_,rfl,_⟩:=h;rfl
 .obtain⟨p,w,h,rfl,ok,hR⟩:=h;refine B7 (RX:=λ_ _=>True) ok λd hd=>?_;refine#[_,bi,by show(0:Nat)<1000;decide,?_];rw[bT];refine#[_,bi,Nh,?_];rw[bT];refine#[_,bi,by show(2:Nat)<1000;decide,?_];rw[bT];refine#[_,bi,by show(3:Nat)<1000;decide,?_];rw[bT];refine#[_,bi,by show(4:Nat)<1000;decide,?_];rw[bT];refine#[by show(0:Nat)<=1000;decide,λq hq=>?_];have ne:a≠q:=λe=>hq (e ▸ FO);refine#[_,(cC (Ne.symm ne)).trans bi,by show(5:Nat)<1000;decide,?_];rw[cM (Ne.symm ne),bT];exact hR d q hd ne
def FC{fa:KF}{fd:Rf}(F:Fun V.K "law" "law" iR fa fd)(NR:oU V)(t7:iU V)(NS:oX V)(Jg:gh V)(NT:oY V)(NU:ph V)(Ko:iZ V)(NV:pv V)(NW:pH V)(Kq:jd V)(Kp:jc V)(Jl:gj V):FnOk V.P V.w V.K V.mg V.base (Exc.CX1 V.P V.w) 21 fa fd oE (lSp V.K eg):=by
 refine CL (Fun.okM F sc_law (λds M R RX h=>?_) (λcdv A outer s H E J hr hx=>⟨_,((ar (aJ 1 sc_law.nd (ag (aC NR hr (ac (aa 0) (ac ad ae)))))
   (ar (aJ 2 sc_law.nd (ag (ao ad (az (aC t7 hr (ac (aa 0) (ac ad ae))) (af (bw (ac ad (ac ad ae))) (az (aC t7 hr (ac (aa 0) (ac ad ae))) ad))))))
   (ar (aJ 3 sc_law.nd (ag (ao ad (az (aC t7 hr (ac (aa 0) (ac ad ae))) (af (bw (ac ad (ac ad ae))) (az (aC t7 hr (ac (aa 0) (ac ad ae))) ad))))))
   (ar (aJ 4 sc_law.nd (ag (aC NS hr (ac (af (aa 1) ad) (ac (aa 2) (ac (aa 3) ae))))))
   (ar (aJ 5 sc_law.nd (CJ NW hr (aB (ac (af (aa 1) ad) (ac (aa 2) (ac (aa 3) ae))))))
   (ar (aJ 6 sc_law.nd (ag ad))
   (ar (aJ 7 sc_law.nd (ag ad))
   (ar (va 8 PassesOwn.leaving rfl sc_law.nd (ag (aC Jg hr (ac (aa 0) (ac ad (ac (ao ad (az (aR (aC t7 hr (ac (aa 0) (ac ad ae))) ad) ad)) ae))))) (ar (aJ 9 sc_law.nd (ag (aC NT hr (ac (aa 8) (ac (bj (aa 3) (aa 6)) ae)))))
    (ar (CO rfl (aM (CalMM.splitN NU) hx hr (aB (ac (aa 5) (ac (aa 9) (ac (cF (az (aR (aa 8) ad) ad) ad) ae))))) (dg_cons 10 sc_law.nd (dg_cons 11 sc_law.nd dH)))
    (ar (bo (bH (cw (aa 10) (xV (aa 9) (bj (aa 3) (aa 6))))) (av (aH (ag bA))) bf)
    (ar (gW (bH (dX (cx (aa 10)))) (ar (bo (dm (dh (aM (CalD.lendL Ko) hx hr (aB (ac (aa 11) (ac (eI (aa 4) (dJ (aa 6)) (dJ (ao (aa 6) (aa 9)))) ae)))))) (av (aH (ag bA))) bf)
     (ar (vb (ag aA) (ag (aa 11)) (ag ad))
     (ar (bQ (ky (ag (aa 11)) (ag aA)))
     (ar (aJ 6 sc_law.nd (ag (ao (aa 6) (aa 9))))
     (av (aJ 7 sc_law.nd (ag (ao (aa 7) ad)))))))) bf)
    (ar (va 12 PassesOwn.leaving rfl sc_law.nd (CS (aE (bI (CalMth.one (CalMth.splitN (CalMth.lendN Jl))) hx hr (ag (aa 5))) (aE (bI (CalMth.one (CalMth.splitN Kp)) hx hr (ag (aa 5))) (aE (bI (CalMth.one (CalMth.splitN Kq)) hx hr (ag (aa 5))) aW)))) (ar (bQ (ky (ag (aa 12)) (ag ad)))
     (av (vb (ag ad) (ag (aa 12)) (ag ad)))))
    (av (bo (dm (dh (aM (CalMM.splitN NV) hx hr (aB (ac (aa 5) (ac (af (aa 1) ad) (ac (aN (ac (aa 2) (ac (aa 3) ae))) (ac (eI (aa 4) fP (dJ (aa 6))) (ac (eI (aa 4) (dJ (aa 6)) fP) (ac (aa 7) ae)))))))))) (av (aH (ag bA))) bf))))))))
   (av (aH (ag bA)))))))))))),λds M R RX d_ h=>?_⟩))
 .obtain⟨rfl,_,⟨ns,rfl,_⟩,rfl⟩:=h;rfl
 .obtain⟨rfl,R0,⟨ns,rfl,hl,hR⟩,rfl⟩:=h;refine#[λd M'=>M'=[]/\∃p:Pat,d=p.D/\p.Ok,#[ns,5,rfl,JQ,λp ok=>#[rfl,p,rfl,ok]],?_];rintro _ _⟨rfl,p,rfl,NX⟩;k_places;obtain⟨m,em,m0,Qv⟩:∃m:Int,atI [D.int 6,.int 30] (cell ns 2%2)=be (.int m)/\6<=m/\m<=30:=by
   rcases Int.emod_two_eq (cell ns 2)with e|e<;>rw[e]
   .exact#[6,rfl,JQ,JQ]
   .exact#[30,rfl,JQ,JQ]
  have bd:∀c:Int,1<=1+c%m/\1+c%m<=30:=λc=>by
   have a1:=Gz c (show m≠0 by lia);have a2:=GA c (show 0<m by lia);exact#[JM,JM]
  refine#[λd M'=>M'=[]/\∃w:Int,d=.int w/\1<=w/\w<=30,#[ns,0,rfl,JQ,by show(2:Nat)<=1000;decide,ns,2,rfl,JQ,JQ,_,em,by show(0:Int)<m;lia,rfl,_,rfl,bd _],?_];rintro _ _⟨rfl,w,rfl,w1,w2⟩;k_places;refine#[λd M'=>M'=[]/\∃h:Int,d=.int h/\1<=h/\h<=30,#[ns,1,rfl,JQ,by show(2:Nat)<=1000;decide,ns,2,rfl,JQ,JQ,_,em,by show(0:Int)<m;lia,rfl,_,rfl,bd _],?_];rintro _ _⟨rfl,h,rfl,h1,h2⟩;k_places;clear bd em m0 Qv m;refine#[λd M'=>M'=[]/\d=.lst (aw p w 0 h.toNat),#[_,rfl,p,w,h,rfl,NX,JM,JM,JM,JM,rfl,rfl],?_];rintro _ _⟨rfl,rfl⟩;k_places;refine#[λd M'=>∃a qa d0,d=.ptr a/\a≠qa/\cn p d0/\M'=Fl.M #[p,d0,w,h,0,[]] a qa,#[_,rfl,λa _=>#[p,w,h,rfl,NX,λd0 qa is ne=>#[a,qa,d0,rfl,ne,is,JU]]],?_];rintro _ _⟨a,q,d0,rfl,ne,is,rfl⟩;k_places;have LQ:=Fl.ok_new is NX w1 w2 h1 h2;refine#[λd M'=>d=.int 0/\M'=Fl.M #[p,d0,w,h,0,[]] a q,#[rfl,rfl],?_];rintro _ _⟨rfl,rfl⟩;k_places;refine#[λd M'=>d=.int 0/\M'=Fl.M #[p,d0,w,h,0,[]] a q,#[rfl,rfl],?_];rintro _ _⟨rfl,rfl⟩;k_places
  let W:Nat->SD->MS->Prop:=λk z M=>∃(f:Fl) (q:KF) (o8 o9 x9 n8 t8:Option D),z=[be (.rol (ns.map D.int)),be p.D,be (.int w),be (.int h),be (.lst (aw p w 0 h.toNat)),be (.ptr a),be (.int f.l),be (.int f.ds.length),o8,o9,x9,n8,t8]/\M=f.M a q/\a≠q/\f.Ok/\f.p=p/\f.w=w/\f.h=h/\f.ds.length<=k
  have dn:=Gz (cell ns 2/2) (show(12:Int)≠0 by decide);have dl:=GA (cell ns 2/2) (show(0:Int)<12 by decide);refine#[ns,2,rfl,JQ,JQ,JQ,ns,3,(1+cell ns 2/2%12).toNat,?_,JQ,JM,λxs xl xd=>?_]
  .rw[Gm JM]
  refine#[W,#[_,q,_,_,_,_,_,rfl,rfl,ne,LQ,rfl,rfl,rfl,FK 0],?_,?_]
  .clear LQ ne is;rintro k v z M' hk⟨f,q,o8,o9,x9,n8,t8,rfl,rfl,ne,J6,rfl,rfl,rfl,lk⟩;k_places;obtain⟨x,rfl,x0,x1,Qw⟩:∃x:Int,v=.int x/\0<=x/\x<5040/\k<12:=by
    have:=(FU.mp hk).1;rw[FP,xl]at this;rw[FS]at hk;obtain⟨x,hx,rfl⟩:=Option.map_eq_some_iff.mp hk;exact#[x,rfl,(xd x (GP hx)).1,(xd x (GP hx)).2,JM]
   have l0:=J6.l0;have l1:=J6.l1;have h2:=J6.h2;have sub:=Fl.sub (f:=f) ne;refine#[λd M'=>M'=f.M a q/\∃n:Int,d=.int n/\1<=n/\n<=30,#[x,f.h-f.l,rfl,x0,x1,JM,JM,λn n1 n2=>#[rfl,n,rfl,n1,n2]],?_];rintro _ _⟨rfl,n,rfl,n1,n2⟩;k_places
   let W2:SD->MS->Prop:=λz M=>∃(g:Fl) (q':KF) (G:MS) (x9 n8:Option D),z=[be (.rol (ns.map D.int)),be g.p.D,be (.int g.w),be (.int g.h),be (.lst (aw g.p g.w 0 g.h.toNat)),be (.ptr a),be (.int g.l),be (.int g.ds.length),be (.int x),be (.int n),x9,n8,t8]/\M=G++g.M a q'/\(aj M).Nodup/\a≠q'/\g.Ok/\g.p=f.p/\g.w=f.w/\g.h=f.h/\g.ds.length<=k+1
   refine(λ(next:∀z M,W2 z M->_)=>#[JQ,JQ,[],f.M a q,sub,a,q,f,n,_,rfl,ne,rfl,J6,n1,JM,λc nd=>#[rfl,ite2 (λz=>absurd z (by simp[c])) λ_=>#[W2,#[f,q,[],_,_,rfl,rfl,nd,ne,J6,rfl,rfl,rfl,JM],next]],λc q' p j8 np nd=>#[rfl,ite2 (λz=>absurd z Oa) λ_=>#[W2,?_,next]]]) ?_
   rotate_left
   .refine#[p,_,_,bi,subM.refl nd,f.p,f.w,f.l,n.toNat,?_,JM,?_]
    .show[ck p _ (.ptr p),D.lst (cutD (aw f.p f.w 0 f.h.toNat) (be f.l) (be (f.l+n)))]=_;rw[fY,DR l0 JM JM]
    have lr:(aw f.p f.w f.l n.toNat).length=n.toNat:=by unfold aw;simp
    refine#[_,0,bi,by unfold ixN;simp[lr];lia,?_];rw[Ja,bT];refine#[#[_,bi],_,bi,by rw[Gx,lr];lia,?_];rw[bT];refine#[λd M'=>d=.int (f.lay n).l/\M'=(p,.lst (((aw f.p f.w f.l n.toNat).set 0 (.str "x"))++[D.str "y"]))::(f.lay n).M a q',#[rfl,rfl],?_];rintro _ _⟨rfl,rfl⟩;k_places;refine#[λd M'=>d=.int ((f.lay n).ds.length)/\M'=(p,.lst (((aw f.p f.w f.l n.toNat).set 0 (.str "x"))++[D.str "y"]))::(f.lay n).M a q',#[?_,rfl],?_]
    .show D.int ((f.ds.length:Int)+1)=.int ((f.keep "lay").ds.length);rw[vi JM,FV,G3];rfl
    rintro _ _⟨rfl,rfl⟩;k_places;refine#[f.lay n,q',[(p,_)],_,_,rfl,rfl,nd,j8,J6.lay JM c,rfl,rfl,rfl,?_];show(f.keep "lay").ds.length<=_;rw[vi JM,FV,G3];lia
   clear sub l0 l1 h2 ne J6;rintro _ _⟨g,q,G,x9,n8,rfl,rfl,nd,ne,JG,ep,ew,eh,gk⟩;k_places;have l0:=JG.l0;have l1:=JG.l1;have h2:=JG.h2;have m0:mget (G++g.M a q) a=be (.ins "Floor" (g.fs q)):=CT nd (Ga.mpr (.inr (by unfold Fl.M;simp)));have am:a∈aj (G++g.M a q):=bt (bn m0);generalize hM:G++g.M a q=M0 at*;refine#[_,FJ.mpr rfl,_,m0,rfl,[],M0,subM.refl nd,pe m0 JG λp1 g1 Qx=>?_];have m1:=(vj (o:=.lst (aw g.p g.w 0 g.l.toNat)) g1 am).trans m0;refine#[_,FJ.mpr rfl,_,m1,rfl,[],_,subM.refl Qx,a,q,g,rfl,m1,JG,λp2 g2 Qy=>?_];have m2:=(vj (o:=.lst ((bO g.p 0 0 g.w.toNat g.l.toNat).map D.int)) g2 (FM _ am)).trans m1;refine#[_,FJ.mpr rfl,_,m2,rfl,[],_,subM.refl Qy,a,q,g,rfl,m2,JG,λp3 g3 Q4=>?_];have O4:p2≠p1:=λe=>g2 (by rw[e];exact FO);have O5:p3≠p2:=λe=>g3 (by rw[e];exact FO);have O6:p3≠p1:=λe=>g3 (by rw[e];exact FM _ FO);have ec:∀lo n,((bO g.p 0 lo g.w.toNat n).map D.int).length<=40+0:=λlo n=>by unfold bO;simp
   refine#[by show(3:Nat)<=1000;decide,λk z M=>∃(o:Option D) (x1 x2 x3:List D),z=[be (.rol (ns.map D.int)),be g.p.D,be (.int g.w),be (.int g.h),be (.lst (aw g.p g.w 0 g.h.toNat)),be (.ptr a),be (.int g.l),be (.int g.ds.length),be (.int x),be (.int n),x9,n8,o]/\M=(p3,.lst x3)::(p2,.lst x2)::(p1,.lst x1)::M0/\x1.length<=40+k/\x2.length<=40+k/\x3.length<=40+k,#[_,_,_,_,rfl,rfl,by simp[aw];lia,ec _ _,ec _ _],?_,?_]
   .rintro k v z M hk⟨o,x1,x2,x3,rfl,rfl,l1,l2,l3⟩;k_places;have k3:k<3:=(FU.mp hk).1;rcases(JM:k=0\/k=1\/k=2)with rfl|rfl|rfl<;>cases hk
    .have mp:∀(y:List D),mget ((p3,.lst x3)::(p2,.lst x2)::(p1,.lst y)::M0) p1=be (.lst y):=λy=>(cC O6).trans ((cC O4).trans bi);have pp:∀y y',mput ((p3,.lst x3)::(p2,.lst x2)::(p1,.lst y)::M0) p1 (.lst y')=(p3,.lst x3)::(p2,.lst x2)::(p1,.lst y')::M0:=λy y'=>by rw[cM O6,cM O4,bT]
     refine#[#[_,mp _],_,mp _,JM,?_];rw[pp];refine#[_,0,mp _,ix0,?_];rw[pp];exact#[_,_,_,_,rfl,rfl,oH l1,JM,JM]
    .have mp:∀(y:List D),mget ((p3,.lst x3)::(p2,.lst y)::(p1,.lst x1)::M0) p2=be (.lst y):=λy=>(cC O5).trans bi;have pp:∀y y',mput ((p3,.lst x3)::(p2,.lst y)::(p1,.lst x1)::M0) p2 (.lst y')=(p3,.lst x3)::(p2,.lst y')::(p1,.lst x1)::M0:=λy y'=>by rw[cM O5,bT]
     refine#[#[_,mp _],_,mp _,JM,?_];rw[pp];refine#[_,0,mp _,ix0,?_];rw[pp];exact#[_,_,_,_,rfl,rfl,JM,oH l2,JM]
    .refine#[#[_,bi],_,bi,JM,?_];rw[bT];refine#[_,0,bi,ix0,?_];rw[bT];exact#[_,_,_,_,rfl,rfl,JM,JM,oH l3]
   rintro z M⟨o,x1,x2,x3,rfl,rfl,-⟩;k_places;refine#[_,rfl,by show(2:Nat)<=1000;decide,[],g.M a q,#[λe he=>?_,Fl.nd ne],a,q,g,?_,ne,rfl,JG,λ_=>?_]
   .rw[<-hM];exact FM _ (FM _ (FM _ (Ga.mpr (.inr he))))
   .show[D.ptr a,D.str g.p.text,D.tup [D.int g.w,D.int g.h],D.lst (cutD (aw g.p g.w 0 g.h.toNat) r_ (be g.l)),D.lst (cutD (aw g.p g.w 0 g.h.toNat) (be g.l) r_),D.int g.ds.length]=_;have e1:=DQ (p:=g.p) (w:=g.w) (lo:=0) (n:=g.h.toNat) (k:=g.l.toNat) JM;have e2:=vh g.p g.w (g.h-g.l).toNat l0;rw[show g.l.toNat+(g.h-g.l).toNat=g.h.toNat by lia]at e2;rw[Gm l0]at e1;rw[e1,e2]
   .exact#[g,q,_,_,_,_,_,by rw[ep,ew,eh],rfl,ne,JG,ep,ew,eh,gk]
  .rintro z M'⟨f,q,o8,o9,x9,n8,t8,rfl,rfl,-⟩;k_places;exact hR
end
local macro_rules | `(tactic| walk_at "b1") => `(tactic| exact Ar λ_ _ _ _ _ _ _ => rfl)
local macro_rules | `(tactic| walk_at "b2") => `(tactic| exact bind2 λ_ _ _ _ _ _ _ _ => rfl)
local macro_rules | `(tactic| walk_at "b3") => `(tactic| exact bind3 λ_ _ _ _ _ _ _ _ _ => rfl)
local macro_rules | `(tactic| walk_at "b4") => `(tactic| exact bind4 λ_ _ _ _ _ _ _ _ _ _ => rfl)
local macro_rules | `(tactic| walk_at "b5") => `(tactic| exact bind5 λ_ _ _ _ _ _ _ _ _ _ _ => rfl)
local macro_rules | `(tactic| walk_at "b6") => `(tactic| exact bind6 λ_ _ _ _ _ _ _ _ _ _ _ _ => rfl)
local macro_rules | `(tactic| walk_at "bd") => `(tactic| exact λ_ _ _ _ _ _ _ _ _ _ _ _ _ _ h hs => ⟨.of_defaults rfl h hs rfl rfl, .of_defaults rfl h hs rfl rfl⟩)
structure TopIn(K:Ex):Prop where
 uHR:FnIn K "_law_at" kR
 uGE:FnIn K "_law_draws" kT
 uHN:FnIn K "_law_lines" kW
 uFA:FnIn K "_law_shift_pair" kY
 uHD:FnIn K "_law_motif_text" lf
 uHT:FnIn K "_law_motif" ll
 uHI:FnIn K "_law_wrapped" ic
 uHM:FnIn K "_law_gcd" lu
 uFU:FnIn K "_law_on" lw
 uIK:FnIn K "_law_leaf_family" ly
 uEJ:FnIn K "_law_in_family" lC
 uFR:FnIn K "_law_both" lF
 uEO:FnIn K "_law_family" lH
 uIE:FnIn K "_law_over" lK
 uGM:FnIn K "_law_pattern" lM
 uGR:FnIn K "_law_leaf_shows" lQ
 uGD:FnIn K "_law_shows" lU
 uGI:FnIn K "_law_floor_rows" ie
 uGO:FnIn K "_law_many" lX
 uGV:FnIn K "refuse_far" me
 uGF:FnIn K "home" mi
 uIN:FnIn K "cell_at" ml
 uGP:FnIn K "row_from" iw
 uHU:FnIn K "_law_lay" mx
 uIM:FnIn K "_law_texts" mz
 uEY:FnIn K "_law_whole" mC
 uEX:FnIn K "_law_seven" mF
 uEP:FnIn K "_law_counts" mH
 uEG:FnIn K "field_rows" iA
 uIT:FnIn K "round_row" mK
 uFY:FnIn K "count_sign" mM
 uFW:FnIn K "count_all" iB
 uHP:FnIn K "_law_view" ng
 uHF:FnIn K "line_from" nv
 uHO:FnIn K "lines_from" ny
 uIC:FnIn K "number_from" nA
 uEK:FnIn K "shift_from" nC
 uET:FnIn K "levelled" nE
 uFQ:FnIn K "spread" nG
 uHB:FnIn K "hues_by_home" nI
 uIY:FnIn K "motif_from" nN
 uHV:FnIn K "over_from" iC
 uGQ:FnIn K "shifted_from" iD
 uFI:FnIn K "rehue_from" iE
 uEH:FnIn K "form_from" iF
 uIA:FnIn K "measure" oj
 uIO:FnIn K "met" om
 uGX:FnIn K "mirrored" ot
 uFD:FnIn K "turned" ow
 uIB:FnIn K "read" oz
 uGH:FnIn K "law" iR
 uEZ:NnIn K "len"
 uEV:NnIn K "range"
 uEL:NnIn K "int"
 uIH:NnIn K "str"
 uIZ:NnIn K "list"
 uFG:NnIn K "abs"
 uEQ:NnIn K "max"
 uGC:NnIn K "min"
 uES:NnIn K "isinstance"
 uHJ:NnIn K "bool"
 uER:NnIn K "enumerate"
 uZ:ClIn K "Floor"
 uBD:ClIn K "Motif"
 uBW:ClIn K "Over"
 uBN:ClIn K "Shifted"
 uCF:ClIn K "Mirror"
 uDC:ClIn K "Turn"
 uBF:ClIn K "Rehue"
 uDA:ClIn K "Pattern"
 uCB:ClIn K "Reading"
 uFE:InIn K "Motif" "Motif.__init__" nK
 uJB:InIn K "Mirror" "Mirror.__init__" nP
 uGT:InIn K "Turn" "Turn.__init__" nR
 uGY:InIn K "Over" "Over.__init__" nU
 uIV:InIn K "Shifted" "Shifted.__init__" nW
 uHC:InIn K "Rehue" "Rehue.__init__" nY
 uGW:InIn K "Reading" "Reading.__init__" oa
 uGB:InIn K "Pattern" "Pattern.__init__" oh
 uGZ:InIn K "Floor" "Floor.__init__" oB
 uFN:MtIn K "Floor" "keep" "Floor.keep" lZ
 uEW:MtIn K "Motif" "shows" "Motif.shows" ig
 uFO:MtIn K "Over" "shows" "Over.shows" ii
 uHW:MtIn K "Shifted" "shows" "Shifted.shows" ik
 uHA:MtIn K "Mirror" "shows" "Mirror.shows" im
 uHS:MtIn K "Turn" "shows" "Turn.shows" ip
 uIF:MtIn K "Rehue" "shows" "Rehue.shows" ir
 uHX:MtIn K "Floor" "rows" "Floor.rows" iy
 uGU:MdIn K "Floor" "lay" "Floor.lay" mv 1
 uFH:MtIn K "Floor" "lies" "Floor.lies" mR
 uGL:MtIn K "Floor" "still" "Floor.still" mV
 uHE:MtIn K "Floor" "kept" "Floor.kept" mY
 uIU:MtIn K "Reading" "may_take" "Reading.may_take" nj
 uIL:MtIn K "Reading" "take" "Reading.take" nt
 uEU:MtIn K "Motif" "family" "Motif.family" iG
 uIJ:MtIn K "Over" "family" "Over.family" iH
 uGK:MtIn K "Shifted" "family" "Shifted.family" iJ
 uHK:MtIn K "Mirror" "family" "Mirror.family" iL
 uIP:MtIn K "Turn" "family" "Turn.family" iN
 uII:MtIn K "Rehue" "family" "Rehue.family" iP
 uGN:NoIn K "Floor" "deeds"
 uGS:NoIn K "Floor" "laid"
 uGJ:NoIn K "Floor" "pattern"
 uFC:NoIn K "Motif" "hues"
 uFT:NoIn K "Motif" "shifts"
 uHG:NoIn K "Over" "above"
 uJA:NoIn K "Over" "below"
 uEI:NoIn K "Shifted" "form"
 uFS:NoIn K "Shifted" "y"
 uEM:NoIn K "Shifted" "x"
 uIS:NoIn K "Mirror" "form"
 uIR:NoIn K "Turn" "form"
 uID:NoIn K "Rehue" "form"
 uJC:NoIn K "Rehue" "old"
 uHQ:NoIn K "Rehue" "new"
 uFM:NoIn K "Pattern" "form"
 uFJ:NoIn K "Floor" "width"
 uGA:NoIn K "Floor" "height"
 uFF:NoIn K "Pattern" "shifts"
 uJD:NoIn K "Floor" "text"
 uIG:NoIn K "Reading" "text"
 uIW:NoIn K "Reading" "place"
 uFB:NoIn K "Motif" "place"
 uFP:NoIn K "Pattern" "text"
 uFL:CiIn K "KEPT" 20
 uFK:CiIn K "FAR" 1000000000000
 uIX:CsIn K "SIGNS" ".123456"
 uEN:CiIn K "LONGEST" 8
 uHH:CiIn K "DEEP" 5
 uHZ:CiIn K "MOST" 720
 eb:EbIn K
 uDT:E0In K "TooFar"
 uEC:E0In K "NoRow"
 uFX:EmIn K "TooFar" "TooFar"
 uFZ:EmIn K "TooFar" "NoRow"
 uIQ:EmIn K "NoRow" "TooFar"
 uGG:EmIn K "NoRow" "NoRow"
def FD{V:Bx}{h:Rc}(t:TopIn V.K)(X:V.K.In h)(G:h.Ns Pi V.mg){fa:KF}{fd:Rf}(F:Fun V.K "law" "law" iR fa fd):FnOk V.P V.w V.K V.mg V.base (Exc.CX1 V.P V.w) 21 fa fd oE (lSp V.K eg):=by
 have uB:=mg_none_of X G t.uEZ;have uA:=mg_none_of X G t.uEV;have uD:=mg_none_of X G t.uEL;have uJ:=mg_none_of X G t.uIH;have Jh:=mg_none_of X G t.uIZ;have uR:=mg_none_of X G t.uFG;have uM:=mg_none_of X G t.uEQ;have Kk:=mg_none_of X G t.uGC;have uP:=mg_none_of X G t.uES;have Nw:=mg_none_of X G t.uHJ;have J3:=mg_none_of X G t.uER;have z7:=t.uZ.a t.uGN;have uF:=t.uZ.a t.uGS;have uO:=t.uZ.a t.uGJ;have Jz:=t.uBD.a t.uFC;have uL:=t.uBD.a t.uFT;have uV:=t.uBW.a t.uHG;have uX:=t.uBW.a t.uJA;have uW:=t.uBN.a t.uEI;have JA:=t.uBN.a t.uFS;have JB:=t.uBN.a t.uEM;have uS:=t.uCF.a t.uIS;have uU:=t.uDC.a t.uIR;have uY:=t.uBF.a t.uID;have JC:=t.uBF.a t.uJC;have JD:=t.uBF.a t.uHQ;have Kl:=t.uDA.a t.uFM;have uK:=t.uZ.a t.uFJ;have uT:=t.uZ.a t.uGA;have z8:=t.uDA.a t.uFF;have J4:=t.uZ.a t.uJD;have JF:=t.uCB.a t.uIG;have uN:=t.uCB.a t.uIW;have NE:=t.uBD.a t.uFB;have NM:=t.uDA.a t.uFP;have Np:=t.uFL.g X G;have Nq:=t.uFK.g X G;have uQ:=t.uIX.g X G;have LW:=t.uEN.g X G;have Lf:=t.uHH.g X G;have NN:=t.uHZ.g X G;have Nr:=t.uDT.k t.eb X G;have Nv:=t.uEC.k t.eb X G;have ek:vn V:=As #[(let ⟨C,N,bm,k,_⟩:=t.uDT.k t.eb X G;#[C,N,bm,k]),(let ⟨C,N,bm,k,_⟩:=t.uEC.k t.eb X G;#[C,N,bm,k]),trivial] #[#[t.uFX,t.uFZ,trivial],#[t.uIQ,t.uGG,trivial],trivial];have t7:iU V:=DU (t.uHR.tx X G KK) uB;have Jg:gh V:=DV (t.uGE.tx X G Mi) uA t7;have M5:oI V:=DX (t.uHN.tx X G Lw) uA uB;have M6:oJ V:=DY (t.uFA.tx X G Lw) uD;have M7:oK V:=DZ (t.uHD.tx X G Mi) uJ;have LN:oM V:=D0 (t.uHT.tx X G KK) Jg M5 M6 M7;have LO:oN V:=D1 (t.uHI.tx X G KK) uJ Jh uD;have Kh:iV V:=D2 (t.uHM.tx X G KK) uR;have Ki:iW V:=D3 (t.uFU.tx X G (by walk_at "b4"));have LM:oO V:=D4 (t.uIK.tx X G Lw) uR Kh Ki;have Nd:oP V:=D5 (t.uEJ.tx X G Mi);have Ni:oQ V:=D6 (t.uFR.tx X G KK) Kh Nd;have Nj:oR V:=D7 (t.uEO.tx X G Lw) LM Ni;have LP:oS V:=D8 (t.uIE.tx X G KK) uM Nj;have NR:oU V:=D9 (t.uGM.tx X G KK) uA Jg LN LO LP;have Nn:oV V:=Ea (t.uGR.tx X G Mi) uA uB uD Ki;have No:oW V:=Eb (t.uGD.tx X G Mi) Nn;have NS:oX V:=Ed (t.uGI.tx X G Mi) uA No;have NT:oY V:=Ef (t.uGO.tx X G KK) uM Kk;have Nu:oZ V:=Eh (t.uFN.txm t.uZ KK) Np z7 uF uO;have J2:iX V:=Ei (t.uGV.tx X G KK) uM uR Nq Nr;have x8:fj V:=Ej (t.uGF.tx X G Mi);have uG:vk V:=Er (t.uEW.txm t.uBD Mi) (t.uFO.txm t.uBW Mi) (t.uHW.txm t.uBN Mi) (t.uHA.txm t.uCF Mi) (t.uHS.txm t.uDC Mi) (t.uIF.txm t.uBF Mi) x8 Jz uL uV uX uW JA JB uS uU uY JC JD 6;have Nt:pd V:=Es (t.uIN.tx X G Mi) J2 Kl uG;have Km:iY V:=Et (t.uGP.tx X G (by walk_at "b4")) uA Nt uQ;have Jl:gj V:=Ev (t.uHX.txm t.uZ Lw) uA Km uF uK uO;have LR:pf V:=Ew (t.uGU.txd t.uZ (by walk_at "bd")) uM uT uF Nu Jl Nv;have NU:ph V:=Ez (t.uHU.tx X G Mi) LR ek;have Ko:iZ V:=EB (t.uIM.tx X G KK) uB uP Jh uA uJ;have JE:ja V:=EC (t.uEY.tx X G Lw) uP Nw uD;have LS:pi V:=EF (t.uEX.tx X G KK) uB uP Jh uA JE;have LU:pj V:=EH (t.uEP.tx X G Lw);have Ny:pk V:=EI (t.uEG.tx X G Lw) uA Km z8;have Nz:C_round_row V:=EJ (t.uIT.tx X G (by walk_at "b4")) x8;have NA:pq V:=EK (t.uFY.tx X G Mi) uB;have Kn:jb V:=EM (t.uFW.tx X G (by walk_at "b5")) uM uA Kk J3 J2 Ny Nz NA uQ z8;have Kp:jc V:=EO (t.uFH.txm t.uZ Lw) Kn uF uK uO;have Kq:jd V:=ER (t.uGL.txm t.uZ Lw) Kn uT uK uF uO;have NB:pr V:=ET (t.uHE.txm t.uZ Lw) uB z7;have NV:pv V:=EV (t.uHP.tx X G (by walk_at "b6")) uP uJ JE Ko LS LU J4 uK uT Jl Kp Kq NB;have uH:dv V:=EW (t.uIU.txm t.uCB KK) uB JF uN;have uC:cD V:=EY (t.uIL.txm t.uCB KK) uH;have LV:pw V:=EZ (t.uHF.tx X G Mi) uA uQ uC uH;have NF:pz V:=E1 (t.uHO.tx X G Lw) uB LV LW uH;have LX:pA V:=E2 (t.uIC.tx X G Lw) uD uH uC;have Jo:gl V:=E3 (t.uEK.tx X G Lw) LX uC;have Kr:je V:=E4 (t.uET.tx X G KK);have Ks:jg V:=E5 (t.uFQ.tx X G KK) uR Kr;have ND:pB V:=E6 (t.uHB.tx X G KK) J3 x8 uQ;have NG:pC V:=E7 (t.uFE.txi X G (by walk_at "b5")) Ks ND NE uL Jz;have Le:jh V:=E8 (t.uIY.tx X G Lw) NF Jo uN NG uC;have Lg:ji V:=E9 (t.uJB.txi X G KK) uS;have Lh:jj V:=Fb (t.uGT.txi X G KK) uU;have Lb:jk V:=Fc (t.uGY.txi X G Mi) uV uX;have Lc:jl V:=Fd (t.uIV.txi X G (by walk_at "b4")) uW JB JA;have Ld:jm V:=Fe (t.uHC.txi X G (by walk_at "b4")) uY JC JD;have uI:vo V:=Fj (t.uHV.tx X G KK) (t.uGQ.tx X G KK) (t.uFI.tx X G KK) (t.uEH.tx X G KK) Lb uC Jo Lc uD Ld Le Lf Lg Lh uH 6;have NO:pD V:=Fk (t.uGW.txi X G KK) JF uN;have NP:pE V:=Fn (t.uGB.txi X G (by walk_at "b4")) NM z8 Kl;have Lj:pF V:=Fo (t.uIA.tx X G KK) Kr;have Lk:jn V:=Fp (t.uIO.tx X G KK) Lj;have Ll:jp V:=Fq (t.uGX.tx X G Lw);have Lm:jq V:=Fs (t.uFD.tx X G Lw) Ks;have uE:vp V:=Fy (t.uEU.txm t.uBD Lw) (t.uIJ.txm t.uBW Lw) (t.uGK.txm t.uBN Lw) (t.uHK.txm t.uCF Lw) (t.uIP.txm t.uDC Lw) (t.uII.txm t.uBF Lw) uL Lk uV uX uW Ll uS Lm uU uY 6;have NQ:pG V:=Fz (t.uIB.tx X G Lw) uB uI NN uN NO NP uE;have NW:pH V:=FB (t.uGZ.txi X G (by walk_at "b4")) NQ uO J4 uK uT uF z7;exact FC F NR t7 NS Jg NT NU Ko NV NW Kq Kp Jl
def all_mk{l:HA}{w:Q_}{K:Ex}{h:Rc}{mg:A_->Option KB}{fa:KF}(X:K.In h)(G:h.Ns Pi mg)(ML:mg "law"=be (.ref fa))(t:TopIn K):
  ∃fd:Rf,(∀(s:KM) (v:KB),R1 s fd #[[v],[]] [("_law_script",v)])/\∀base:Rc,K.In base->base.Ns Pi mg->FnOk l.prog w K mg base (Exc.CX1 l.prog w) 21 fa fd ["_law_script"] (lSp K eg):=by
 obtain⟨fd,b,F⟩:=t.uGH.law X G ML (λ_ _ _ _ _ _ _=>rfl);exact#[fd,b,λbase _ _=>FD (V:=#[l.prog,w,K,mg,base]) t X G F]
def law_walk{l:HA}{q:Q5}{i9:List A_}{XP:(A_->Option KB)->Rc->Prop}{YP:Q_->Rc->Prop}{d:DefRec}{K:Params->Ex}(hn:l.most=be 63)(Kz:d.params.defaults=[])
  (hY:∀(w:Q_) (h:Rc),YP w h->(K w.params).In h)
  (F:∀(w:Q_) (mg:A_->Option KB) (fa:KF) (h:Rc),(K w.params).In h->h.Ns Pi mg->mg d.name=be (.ref fa)->
   ∃fd:Rf,(∀(s:KM) (u:KB),R1 s fd #[[u],[]] [("_law_script",u)])/\∀base:Rc,(K w.params).In base->base.Ns Pi mg->FnOk l.prog w (K w.params) mg base (Exc.CX1 l.prog w) 21 fa fd ["_law_script"] (lSp (K w.params) eg)):
  Ih q i9 XP YP l.row.toRowW d [] (λf vs=>PySem.call f vs):=
 L2.walk_of (n:=63) (k:=21) (x:="_law_script") (CX:=λw=>Exc.CX1 l.prog w) (sp:=λw=>lSp (K w.params) eg) hn JQ Kz #[rfl,JQ,JQ] hY F (λ_ _ a ns hl _ hS=>ym hl hS) λ_ _ _ _ _ h=>by obtain⟨_,_,_,_,_,_,_,_,_,_,_,_,_,_,_,z⟩:=h;exact z
end My
open PySem PySem.W PyProof.Rows
set_option maxRecDepth 100000 in
set_option maxHeartbeats 0 in
theorem PySem.Challenge.cw_motiffield_k29_lay_holds : PySem.Challenge.rw_motiffield_k29_lay.Holds := by
  w_on;o_law;k_head;(case hw =>w_witness2)
  k_fill
  refine My.law_walk (l :=PySem.Challenge.rw_motiffield_k29_lay) rfl rfl (λw h Y =>kIn_of Y) ?F
  case F =>
    intro w mg fa h KX G g_;refine My.all_mk KX G g_ ?_;constructor
    all_goals first|((with_reducible refine' My.fnIn_mk ?a ?l ?c ?k);(case a =>k_is);(case l =>k_is);(case c =>k_is);(case k =>k_is))|((with_reducible refine' My.nnIn_mk ?a);(case a =>k_is))|((with_reducible refine' My.noIn_mk ?a ?b);(case a =>k_is);(case b =>k_is))|((with_reducible refine' My.mtIn_mk ?a ?b ?i ?l ?c ?k);(case a =>k_is);(case b =>k_is);(case i =>k_is);(case l =>k_is);(case c =>k_is);(case k =>k_is))|((with_reducible refine' My.mdIn_mk ?a ?b ?i' ?l ?c ?k ?d);(case a =>k_is);(case b =>k_is);(case i' =>k_is);(case l =>k_is);(case c =>k_is);(case k =>k_is);(case d =>k_is))|((with_reducible refine' My.inIn_mk ?a ?mk ?b ?i ?kp ?l ?c ?k);(case a =>k_is);(case mk =>k_is);(case b =>k_is);(case i =>k_is);(case kp =>k_is);(case l =>k_is);(case c =>k_is);(case k =>k_is))|((with_reducible refine' My.clIn_mk ?a ?pg ?hd ?po ?sa ?ha ?hn ?ht ?hm);(case a =>k_is);(case pg =>k_is);(case hd =>k_is);(case po =>k_is);(case sa =>k_is);(case ha =>k_is);(case hn =>k_is);(case ht =>k_is);(case hm =>k_is))|((with_reducible refine' My.ciIn_mk ?a);(case a =>k_is))|((with_reducible refine' My.csIn_mk ?a);(case a =>k_is))|((with_reducible refine' My.ebIn_mk ?a ?kp ?o ?nk ?al ?ni);(case a =>k_is);(case kp =>k_is);(case o =>k_is);(case nk =>k_is);(case al =>rfl);(case ni =>k_is))|((with_reducible refine' My.e0In_mk ?b ?a ?kp ?o ?nk ?al ?ni);(case b =>k_is);(case a =>k_is);(case kp =>k_is);(case o =>k_is);(case nk =>k_is);(case al =>rfl);(case ni =>k_is))|((with_reducible refine' My.emIn_mkT ?e ?a ?c ?d);(case e =>decide);(case a =>k_is);(case c =>k_is);(case d =>k_is))|((with_reducible refine' My.emIn_mkF ?e ?a ?c ?d);(case e =>decide);(case a =>k_is);(case c =>k_is);(case d =>k_is))
end
