import PyProof.Rows.All
import Wide.All
import OpenK.AllK
import Wide.FinOn
import Lean
import PyProof.EqAt
import PyProof.EqKinds
import PyProof.TupleCall
import PySem.Challenge.RW_motiffield_k28_new_floor
set_option compiler.extract_closed false
set_option Elab.async false
set_option linter.all false
set_option maxRecDepth 100000
set_option maxHeartbeats 4000000
local macro_rules|`(command|def $x:declId $s:optDeclSig $v:declVal)=>`(command|noncomputable def $x:declId $s:optDeclSig $v:declVal)
local macro_rules|`(command|abbrev $x:declId $s:optDeclSig $v:declVal)=>`(command|noncomputable abbrev $x:declId $s:optDeclSig $v:declVal)
local macro_rules|`(#[$x,*])=>`(⟨$x,*⟩)
theorem Kn{p:Prop}(h:p:=by lia):p:=h
theorem Kr{p:Prop}(h:p:=by decide+kernel):p:=h
theorem Ku{p:Prop}(h:p:=by decide):p:=h
theorem Kv{p:Prop}(h:p:=by simp):p:=h
theorem KK{p:Prop}(h:p:=by k_memK):p:=h
theorem Lg{p:Prop}(h:p:=by omega):p:=h
theorem Ln{p:Prop}(h:p:=by grind):p:=h
theorem Lp{p:Prop}(h:p:=by walk_at "b2"):p:=h
theorem Lw{p:Prop}(h:p:=by walk_at "b1"):p:=h
theorem Mm{p:Prop}(h:p:=by cases d<;>first|exact#[_,rfl,h]|exact False.elim h):p:=h
theorem Nj{p:Prop}(h:p:=by walk_at "b3"):p:=h
theorem N9{p:Prop}(h:p:=by show(1:Nat)<1000;decide):p:=h
theorem O2{p:Prop}(h:p:=by rw[<-hY];rfl):p:=h
theorem Pa{p:Prop}(h:p:=by simp;lia):p:=h
open PySem renaming Str->C_
open Option renaming some->be,none->q8
open PySem renaming Value->KB,Addr->KF,Shared->KM,wpAny_bind->Os,mainGlobals->Pi,Expr->P3,Program->Sd,Stmt->Se,model->Sf,wpAny->Sg,wpAny_pure->Sh,starEach->Si,World->Sj,Around->Sk,Heap->Sl,assignEach->Sm,attributeBase->Sn,eval->So,FuncData->Sq,Pos->Sr,wpAny_newObj_type->Ss,wpAny_Call_Name_kw->Sv,bootBuiltins->Sw,Obj->Sx,wpAny_mono->Sy,compareOp->Sz,swapsWith->SA,PassesOwn->SB,wpAny_holding->SE,binaryOp->SF,holding->SG,wpAny_passesOwn->SH,behindInMarks->SI,sysModules->SJ,Scope->SK,wpAny_standAt->SL,swapsWithSole->SM,swappedStores->SN,ExceptHandler->SO,wpAny_getItem_str_slice->SQ,excClassObj->SR,assign->SS,wpAny_field->SU,sliceBounds->SV,bindArgs->SW,NameKind->SX,wpAny_execs_nil->SY,backTo->SZ,Env->S1,wpAny_truthy_bool->S2,wpAny_pyIter_enum->S3,wpAny_loadPart_at->S4,standAt->S5,tupleKind->S7,noteFrame->S8,rawInt->S9,codeAny_mono->S',BindsTo->S_,post_val_or_str->Ta,letOwnedTupleGo->Tb,wpAny_setField->Tc,codeAny->Te,wpAny_isSubtype_exc->Tf,wpAny_call->Tg,call_meets->Th,wpAny_assign_Name->Tn,callerA->To,setFlight->Tp,IsPart->Tq,ClassData->Tr,sizeLine_eq->Ts,keywordEach->Tt,atKey->Tu,valueAt->Tv,setItem->Tw,getItem->Tz,wpAny_letOwnedTupleGo_enum->TB,handleBy->TC,dictSetDefault->TF,bindName->TJ,Operator->TK,wpAny_comprehension_free->TL,assignInOrder->TM,getMethod->TN,cLine->TQ,bindL->TR,bindC->TU,seqIndex_neg->TX,release->TY,leaving->TZ,codeAny_compStart_list->T1,call_meetsIn->T3,wpAny_of_eq->T5,wpAny_newFunctionEnv->T6,seqIndex_of->T7,backToKw->T8,Sem->T9,Model->T_,wpAny_call_exc_subT->Ua,wpAny_rule->Ub,wpAny_entryPlaceOf->Uc,wpAny_Name->Ud,typeIs_str->Ue,tupleKind_room_in1->Ug,builtinsNs->Uh,wpAny_frameOf_fun->Ui,relabel->Uj,foldedSetIterable->Uk,Tok->Um,Keyword->Uo,CmpOp->Up
open PyProof.Rows renaming envOfC->Su,AllBare->S6,assignInOrder_cons->Tj,subscriptTail_builtinR->TV,IntsAre->T4,assignInOrder_nil->Ul
open PySem.W renaming Frag->Ex,findIn->Gw,mroIn->GR,specialIn->HA,takesIn->HB,OpenLaw->Il,WalkO->IU,clsIn->Jb
open List renaming mem_singleton->Gf,mem_cons->Gh,mem_cons_of_mem->Gi,range->Gj,mem_cons_self->Gk,length_map->Gm,size_toArray->Gp,getElem?_eq_some_iff->Gq,getElem?_map->Gr,getElem?_set_ne->Gs,length_cons->Gv,length_append->Gx,lookup_cons->Gy,set_cons_succ->GA,set_cons_zero->GB,mem_append->GD,mem_append_right->GE,getElem?_eq_getElem->GH,map_cons->GJ,mem_map->GK,map_append->GM,nodup_cons->GP,append_nil->GS,getElem_mem->GT,getElem?_set_self->GU,replicate->GV,getElem?_append_left->GW,getElem?_eq_none->GY,length_set->G0,getElem?_range->G2,all_cons->G3,all_eq_true->G4,append_assoc->G6,lookup->G9,getElem?_append_right->Ha,getElem?_set->Hb,getD->Hi,drop_eq_getElem_cons->Hj,mem_append_left->Hk,length_drop->Hm,map_nil->Hn,find?_cons->Ho,ext_getElem?->Hq,take_of_length_le->Ht,nodup_append->Hu,not_mem_nil->Hz,length_take->HC,range_succ->HD,map_congr_left->HE,drop->HF,map_map->HG,filterMap_cons->HN,mem_of_getElem?->HS,any_cons->HU,findIdx_cons->HX,take_length->H8,countP_cons->Ic,of_mem_zip->Ie,length->Ig,getElem?_replicate->Ih,getElem?_take_of_lt->Ii,length_singleton->Ij,contains_cons->Im,forIn_cons->Io,eq_nil_of_length_eq_zero->Ir,length_range->IF,drop_of_length_le->IG,map->II,mem_of_mem_drop->IJ,drop_eq_nil_of_le->IK,mem_filter->IN,mem_filterMap->IP,filterMap_map->IR,nodup_nil->IY,take_succ->Jc,dropLast_cons₂->Je,getElem?_drop->JE,drop_zero->JG,take_append_drop->JL,drop_length->JM
open Nat renaming le_refl->Gg,ne_of_lt->Gn,le_trans->Go,lt_of_lt_of_le->GC,zero_le->GI,pow_succ->G5,lt_irrefl->G7,ne_of_gt->G8,le_succ->Hl,lt_or_ge->Hr,mul_le_mul->Hv,pow_le_pow_right->Hx,min_eq_left->HJ,le_of_lt->HM,le_of_eq->HR,add_le_add->HY,pow_pos->Ia,min_eq_right->Ib,le_of_not_lt->Ik,lt_succ_of_lt->Ip,add_comm->IB,lt_succ_self->IQ,lt_of_le_of_lt->IV,lt_trans->IW,log2_lt->IZ,succ_ne_self->Jf,le_max_left->Jp,le_max_right->Jq,pow_add->Jr,add_sub_cancel->Jw,not_lt_zero->Jz,mod_eq_of_lt->JF,zero_add->JJ,mul_succ->JK
open Bool renaming false_ne_true->Gu,and_eq_true->GF,eq_false_iff->GO,eq_iff_iff->HQ,or_true->HV
open Int renaming mul_pos->Gz,mul_comm->GL,mul_le_mul_of_nonneg_right->GN,mul_ediv_cancel->GQ,le_trans->GX,toNat_of_nonneg->GZ,natAbs_mul->G1,emod_nonneg->Hc,emod_lt_of_pos->Hd,emod_def->Hf,mul_nonpos_of_nonpos_of_nonneg->Hg,eq_of_mul_eq_mul_right->Hw,emod_add_mul_ediv->Hy,zero_add->HH,natCast_add->HI,add_zero->HK,toNat_natCast->HL,dvd_mul_of_dvd_right->HZ,mul_neg->H9,natAbs_add_le->Iu,mul_nonneg->Iv,fmod_eq_zero_of_dvd->Iw,neg_mul->Ix,natAbs_neg->Iy,eq_of_mul_eq_mul_left->Iz,dvd_add->IA,mul_eq_zero->IC,sub_mul->ID,add_mul->IE,add_assoc->IH,ediv_nonneg->IL,ediv_le_self->IM,natAbs_eq_zero->Ja,fmod_nonneg_of_pos->Jg,fmod_lt_of_pos->Jh,natAbs_sub_le->Ji,mul_emod_left->Jj,mul_le_mul_of_nonneg_left->Jk,le_natAbs->Jl,ofNat_le->Jn,dvd_mul_of_dvd_left->Jo,mul_fdiv_cancel_of_fmod_eq_zero->Js,dvd_antisymm->Jt,zero_mul->Ju,sub_zero->Jv,add_mul_emod_self_right->JA,add_mul_ediv_right->JB,dvd_add_left->JC,dvd_mul_right->JD,natCast_emod->JH,ediv_eq_zero_of_lt->JI
open Option renaming bind_some->Hs,getD_none->IS
open Array renaming length_toList->HP,getElem?_eq_some_iff->HW,all_toList->Iq,getElem?_toList->IT,getElem?_eq_getElem->Jd,toList_inj->Jy
open PySem.W (InitBack any_some bind_fn callWith_K callWith_K0 cellsFrom_some codeIn codeRec_of emptyDict eq_bytes findObj_own fnOf get_value handedIn hasDictIn hideAll hideAll_get hideAll_none hideAll_size instObj isFn isNs_of_in kIn_of keepIn ki_setAt ki_setBack kia_one kitCls kitOne kitx_bool kitx_dict kitx_float kitx_int kitx_list kitx_none kitx_own kitx_str kitx_tuple kun_itemsOf len_bytes lookIn looks_clsIn make_core makesIn makes_of methodCall_KW methodObj method_fn mg_none_of mg_of ne_bytes nsIn nsMap_none_of_in nsOkIn of_hideAll osa_open plainGet plainGet_of plainOver set_plain tailIn tail_of_in takerIn truthy_bytes typeIn)
def qZ0(_:0=0:=by rfl):=0
nonrec def zA0:=qZ0._auto_1
def qZ1(_:0=0:=by decide):=0
nonrec def zA1:=qZ1._auto_1
def qZ2(_:0=0:=by exact λ_=>rfl):=0
nonrec def zA2:=qZ2._auto_1
def qZ3(_:0=0:=by first|exact .inl rfl|exact .inr rfl|assumption):=0
nonrec def zA3:=qZ3._auto_1
def qZ4(_:0=0:=by first|exact Or.inl rfl|exact Or.inr rfl):=0
nonrec def zA4:=qZ4._auto_1
def qZ5(_:0=0:=by first|exact Or.inl rfl|exact Or.inr (Or.inl rfl)|exact Or.inr (Or.inr rfl)):=0
nonrec def zA5:=qZ5._auto_1
def qZ6(_:0=0:=by exact λ_ _=>rfl):=0
nonrec def zA6:=qZ6._auto_1
def qZ7(_:0=0:=by intros;rfl):=0
nonrec def zA7:=qZ7._auto_1
namespace PySem.W.Fast
def tw6007210066105074916:=Nat
def tw15374236466113180385:=Nat
def tw7234904015354638106:=Nat
def tw10233428854715368582:=Nat
def tw9981391399801954017:=Nat
def tw8083519623575142891:=Nat
def tw3817988002016458229:=Nat
def tw9112366811736745604:=Nat
def tw16632135327528956547:=Nat
def tw13599680378328562794:=Nat
def tw8215960826264395827:=Nat
def tw5644649146442920284:=Nat
def tw6951356390880898351:=Nat
def tw18136375370631700549:=Nat
def tw8034298625671215663:=Nat
def tw298156440981377546:=Nat
def tw5639242316022206219:=Nat
def tw15523381801219267205:=Nat
def tw3072481660727112050:=Nat
def tw3457990823502773738:=Nat
def tw5873188735505304155:=Nat
def tw16133999285463873797:=Nat
def tw5820628393251454186:=Nat
def tw14748890582359069192:=Nat
def tw15368554560393632802:=Nat
def tw6686585809687467539:=Nat
def tw7521609712722967809:=Nat
def tw3706309272513260288:=Nat
def tw5574873527436776477:=Nat
def tw1645961420118624206:=Nat
def tw6848194920682278177:=Nat
def tw119264893435899368:=Nat
def tw11599103999600913586:=Nat
def tw10346886192397040469:=Nat
def tw9951151676853072453:=Nat
def tw2913349912884554267:=Nat
def tw17437238920996545875:=Nat
def tw18097181867437007441:=Nat
def tw9812218026240214510:=Nat
def tw175048481611325774:=Nat
def tw13987460690462253644:=Nat
def tw104078117809774681:=Nat
def tw8278929552067674438:=Nat
def tw7446006583667414990:=Nat
def tw4675773316054412710:=Nat
def tw17872553310535590518:=Nat
def tw6289227359782257107:=Nat
def tw15074952516807141787:=Nat
def tw16519215293429810315:=Nat
def tw18397874971944030855:=Nat
def tw18418448119095596326:=Nat
def tw10927135787970248626:=Nat
def tw15290483782387041813:=Nat
def tw17571883395133079844:=Nat
def tw4357505064970783959:=Nat
def tw1533382223867144473:=Nat
def tw6765198914484104741:=Nat
def tw9906246025495658095:=Nat
def tw8950503608373778061:=Nat
def tw9514834953948979007:=Nat
def tw17582310513746865580:=Nat
def tw249074356345399183:=Nat
def tw3222888328437807711:=Nat
def tw17470998933784823071:=Nat
def tw7348240521791245833:=Nat
def tw5755502346248681373:=Nat
def tw14349019363006212606:=Nat
def tw11433080651006956331:=Nat
def tw13696273411512652031:=Nat
def tw13333320438970677161:=Nat
def tw5537039159861729661:=Nat
def tw10471711711836570138:=Nat
def tw3623537771605326971:=Nat
def tw10374852096906470636:=Nat
def tw7117913375951021364:=Nat
def tw16840537905060535901:=Nat
def tw11111454933625755713:=Nat
def tw4168264939924820731:=Nat
def tw398246474995510212:=Nat
def tw1151950301545857898:=Nat
def tw14036525922750797593:=Nat
def tw1838644012071599150:=Nat
def tw9011353323979920334:=Nat
def tw5823876388880131008:=Nat
def tw16945210158408852762:=Nat
def tw17657239605395159321:=Nat
def tw18319475416929452723:=Nat
def tw6360374851877163987:=Nat
def tw10392977481088934604:=Nat
def tw1411751895947268482:=Nat
def tw16111842995029015826:=Nat
def tw17064390510231343756:=Nat
def tw14540413940003720312:=Nat
def tw10943164844200027160:=Nat
def tw13679194189074695904:=Nat
def tw315207981867324326:=Nat
def tw11329600717866983571:=Nat
def tw3313612808726400805:=Nat
def tw15148438400242108476:=Nat
def tw8651328658464339896:=Nat
def tw7340437917900637508:=Nat
def tw12708591683496912130:=Nat
def tw5006977317655948842:=Nat
def tw4804054569616965586:=Nat
def tw4637029560857087057:=Nat
def tw8151533145527079827:=Nat
def tw16079269330430256799:=Nat
def tw10719618486811209221:=Nat
def tw16561029228963038938:=Nat
def tw891799550025494961:=Nat
def tw13254347261550696927:=Nat
def tw3098025474235095853:=Nat
def tw7220279402734578:=Nat
def tw15615912151593304973:=Nat
def tw286931580312149882:=Nat
def tw17952177543708208432:=Nat
def tw986667720635591446:=Nat
def tw9628887536032375842:=Nat
def tw11571613864022840557:=Nat
def tw14890529729708956973:=Nat
def tw9743032844399365587:=Nat
def tw18060943226203945890:=Nat
def tw9546480013702602026:=Nat
def tw10935482281683101386:=Nat
def tw1722269160165246330:=Nat
def tw10881938886801401989:=Nat
def tw13310326066428621976:=Nat
def tw10080918093369714990:=Nat
def tw14717432950205997674:=Nat
def tw7245100440007090975:=Nat
def tw2511020188941380817:=Nat
def tw9043120434663693089:=Nat
def tw16803105172409524656:=Nat
def tw17165024892355165189:=Nat
def tw10442447056279930202:=Nat
def tw16701492036167552538:=Nat
def tw5698708049882921413:=Nat
def tw17885757160245755619:=Nat
def tw8503315580354140722:=Nat
def tw12395242351158041107:=Nat
def tw15074740992103555994:=Nat
def tw9758954923590219183:=Nat
def tw12246787702010530741:=Nat
def tw8216578693265684291:=Nat
def tw15974612499972154509:=Nat
def tw13309335337546193698:=Nat
def tw8357049097538275195:=Nat
def tw14158800695116360386:=Nat
def tw18273076858426570423:=Nat
def tw12818712734771801929:=Nat
def tw7230541946661593167:=Nat
def tw3694505562859081911:=Nat
def tw12907627156350612149:=Nat
def tw775295989272397284:=Nat
def tw2082055644510249322:=Nat
def tw15629127894380974751:=Nat
def tw6609969008860809221:=Nat
def tw5649886216233786503:=Nat
def tw11640073022451805537:=Nat
def tw5847747805546894507:=Nat
def tw5174241479350931006:=Nat
def tw4101904797411584755:=Nat
def tw17537707116960565828:=Nat
def tw837537731774193395:=Nat
def tw14791413365218668971:=Nat
def tw9856313793308441150:=Nat
def tw9982401981162391355:=Nat
def tw4741293853063846211:=Nat
def tw3260139349301490764:=Nat
def tw17883618315897969182:=Nat
def tw2613230130725833814:=Nat
def tw11902737796470488124:=Nat
def tw17405608570792380508:=Nat
def tw13818534574912582917:=Nat
def tw1007843471967146791:=Nat
def tw14087906214735858273:=Nat
def tw11660469225721009656:=Nat
def tw11087088888218780858:=Nat
def tw3798096116404069530:=Nat
def tw13232446489411816100:=Nat
def tw1645988746554096192:=Nat
def tw156735876602626847:=Nat
def tw13162859137195098727:=Nat
def tw3611177507189644653:=Nat
def tw8277908577921646870:=Nat
def tw3780287766665122109:=Nat
def tw4177778464978932425:=Nat
def tw7314193035598293358:=Nat
def tw7506239130520497870:=Nat
def tw2034367015445869142:=Nat
def tw17459136755971914301:=Nat
def tw2895924165466333124:=Nat
def tw2404937028677855310:=Nat
def tw18360066952818091364:=Nat
def tw13283063272795102099:=Nat
def tw5707501508522795057:=Nat
def tw1539606845444013758:=Nat
def tw14400705906346218170:=Nat
def tw15209883900026189132:=Nat
def tw1448209045767652216:=Nat
def tw416797594738934578:=Nat
def tw7108082061217434107:=Nat
def tw618160561899092030:=Nat
def tw4317273032136574866:=Nat
def tw9401948003342365923:=Nat
def tw5810487930038162603:=Nat
def tw13809834078927396154:=Nat
def tw10723475791727182186:=Nat
def tw15115327272390822762:=Nat
def tw3179120852075744157:=Nat
def tw5166989553709293109:=Nat
def tw16423087036301555110:=Nat
def tw11065591150061805467:=Nat
def tw11292963040356872624:=Nat
def tw12860639592243493204:=Nat
def tw1391762762250059148:=Nat
def tw5502733920471743748:=Nat
def tw8003864526199492300:=Nat
def tw2251398540253839455:=Nat
def tw4186009805611015755:=Nat
def tw15420180329251427521:=Nat
def tw13447140875205714389:=Nat
def tw5310886139809516412:=Nat
def tw18128059276526336004:=Nat
def tw6887660769999414241:=Nat
def tw12657103824367339451:=Nat
def tw14922063525539270698:=Nat
def tw1413947227917137382:=Nat
def tw17120106739488591810:=Nat
def tw4479840952607522543:=Nat
def tw9251941539838053530:=Nat
def tw1431306196057289250:=Nat
def tw9259873691014134887:=Nat
def tw4187502756998110313:=Nat
def tw3290506943154142456:=Nat
def tw3978263417868386012:=Nat
def tw8804183504093992031:=Nat
def tw10539908703370116312:=Nat
def tw1475762631512766537:=Nat
def tw1170729379488659921:=Nat
def tw432188632816777859:=Nat
def tw7838001547822509057:=Nat
def tw526404110909559684:=Nat
def tw2872813953873250588:=Nat
def tw5947534778187735188:=Nat
def tw8597759914309376115:=Nat
def tw1503001486667572525:=Nat
def tw339776704124805263:=Nat
def tw15247871101281659847:=Nat
def tw891828588733053755:=Nat
def tw1436259891670523441:=Nat
def tw18299002762207545529:=Nat
def tw566238806414394788:=Nat
def tw11459177598384467349:=Nat
def tw13097632649245184704:=Nat
def tw12215564607061390396:=Nat
def tw4496235220112363771:=Nat
def tw9068849381963601935:=Nat
def tw308153396097928876:=Nat
def tw4227657926452754998:=Nat
def tw2239860769971306862:=Nat
def tw12197379886210822535:=Nat
def tw6743265319494080565:=Nat
def tw14861375671087679391:=Nat
def tw1591149912027063920:=Nat
def tw17511888878118365080:=Nat
def tw11353167141330170669:=Nat
def tw71742061842734677:=Nat
def tw18217243200095827417:=Nat
def tw962040540772922839:=Nat
def tw8574049285388685682:=Nat
def tw1253118118452582099:=Nat
def tw11697867756042924750:=Nat
def tw901124758286808996:=Nat
def tw18342165264765645508:=Nat
def tw4850614735669412552:=Nat
def tw2229587120069953304:=Nat
def tw15563335584032548980:=Nat
def tw13342651818302167882:=Nat
def tw613270788656286265:=Nat
def tw3031036379894558455:=Nat
def tw12831878319382462146:=Nat
def tw12982029220284879376:=Nat
def tw1577819743593566492:=Nat
def tw3077703411982806271:=Nat
def tw9747013405041731949:=Nat
def tw6155864428384894582:=Nat
def tw1911351874535231923:=Nat
def tw5957325062553336151:=Nat
def tw7439733305185164664:=Nat
def tw14897051653605677655:=Nat
def tw11584058848812477050:=Nat
def tw4469593852655991696:=Nat
def tw15800286894963187050:=Nat
def tw6261760618954107596:=Nat
def tw6226159143393338124:=Nat
def tw1858492338462462638:=Nat
def tw4795389747534839468:=Nat
def tw9502021301024825425:=Nat
def tw1595392364084321450:=Nat
def tw16573826602613623778:=Nat
def tw5541475093215953972:=Nat
def tw11188291693183894737:=Nat
def tw15302016861015849040:=Nat
def tw11987075665598718707:=Nat
def tw2194299871403625059:=Nat
def tw13096057572528719283:=Nat
def tw13666030073639813116:=Nat
def tw15681302713744580735:=Nat
def tw11350622672986213129:=Nat
def tw7450716463127819104:=Nat
def tw332292492376195662:=Nat
def tw13817308116404818995:=Nat
def tw6399088568388678785:=Nat
def tw12519541043137605556:=Nat
def tw4050693549824975497:=Nat
def tw12703512446498286441:=Nat
def tw15781616610038681243:=Nat
def tw16342519455554551480:=Nat
def tw13926734207292027338:=Nat
def tw5912384693586167680:=Nat
def tw3432058619870603624:=Nat
def tw13042355654690713947:=Nat
def tw12136020873556697461:=Nat
def tw9616907575727745809:=Nat
def tw18258452807030681274:=Nat
def tw13372629221440805314:=Nat
def tw3589347097984197025:=Nat
def tw12875584796697332525:=Nat
def tw8135388824117189400:=Nat
def tw14877506472696668851:=Nat
def tw10393280625451533730:=Nat
def tw17018439439354474549:=Nat
def tw3712828514769334199:=Nat
def tw14712856500923844322:=Nat
def tw9055118809577061662:=Nat
def tw15140121218553918742:=Nat
def tw7020282980971237827:=Nat
def tw4486377788585292359:=Nat
def tw12314499559502345905:=Nat
def tw6210244956329180391:=Nat
def tw17222520752667847223:=Nat
def tw5027867622056998451:=Nat
def tw4515262746221353901:=Nat
def tw4121428505623838352:=Nat
def tw14398525219982782884:=Nat
def tw4011107227327163634:=Nat
def tw1323624807656528185:=Nat
def tw1631077405812118361:=Nat
def tw12995522114855742485:=Nat
def tw2333676378644706701:=Nat
def tw9424073494934782748:=Nat
def tw1465407479718541548:=Nat
def tw3745268743646856230:=Nat
def tw1897606679791899139:=Nat
def tw12228332111009955625:=Nat
def tw8037556747497155859:=Nat
def tw4194753758316807375:=Nat
def tw6784869190375263058:=Nat
def tw8933139733938851155:=Nat
def tw16913465579021551807:=Nat
def tw7434701802093787049:=Nat
def tw8790747107137721917:=Nat
def tw14675277085270699134:=Nat
def tw8194420808198094238:=Nat
def tw13184248816192684158:=Nat
def tw2312253690645719093:=Nat
def tw16484058901823341533:=Nat
def tw14651103831413991379:=Nat
def tw13913265299805862938:=Nat
def tw15604036666315579931:=Nat
def tw2223363128667460049:=Nat
def tw4061752859494287818:=Nat
def tw14689281589819367665:=Nat
def tw16566412661374672727:=Nat
def tw13995198601932222874:=Nat
def tw14101991043099029950:=Nat
def tw9609028373267288997:=Nat
def tw7101804073101684060:=Nat
def tw2205167290974744909:=Nat
def tw5338335785061652735:=Nat
def tw11358895107759818507:=Nat
def tw12384107419935607366:=Nat
def tw2604298987191704880:=Nat
def tw11693114333427859564:=Nat
def tw9999005957813153060:=Nat
def tw12016952350011341185:=Nat
def tw3415141338792677683:=Nat
def tw3818587059697913880:=Nat
def tw10913617437380880641:=Nat
def tw12900297458412777989:=Nat
def tw682807872507935473:=Nat
def tw5923079827854151971:=Nat
def tw11317027121593608297:=Nat
def tw11081454161548449357:=Nat
def tw8182070803706285393:=Nat
def tw15931795550807888681:=Nat
def tw11434164212607831443:=Nat
def tw7164083251720205804:=Nat
def tw6374502405658669693:=Nat
def tw9163969747152382874:=Nat
def tw12081446919825707156:=Nat
def tw7952035238939006378:=Nat
def tw8876133269914986684:=Nat
def tw8259591552351347615:=Nat
def tw14813856490527704405:=Nat
def tw13095913325117776461:=Nat
def tw13047219914834218310:=Nat
def tw15646913507052278708:=Nat
def tw11622816480077099517:=Nat
def tw16901501944262923212:=Nat
def tw10706247590112382374:=Nat
def tw5304792420848234961:=Nat
def tw10628318565506383281:=Nat
def tw2466585988943836097:=Nat
def tw17139458066128566024:=Nat
def tw77506493992433084:=Nat
def tw14152453265747538626:=Nat
def tw18033605388754068912:=Nat
def tw1914320805904927868:=Nat
def tw9911805457951722511:=Nat
def tw10964478095255046231:=Nat
def tw11926583977204205562:=Nat
def tw3177992395703404396:=Nat
def tw15417538888309697677:=Nat
def tw11792371553007656862:=Nat
def tw7722494113034496214:=Nat
def tw8054639210396253800:=Nat
def tw4326728619305443807:=Nat
def tw4828378952089356503:=Nat
def tw1098805502708081868:=Nat
def tw279465841405281247:=Nat
def tw7461947425952166366:=Nat
def tw6394539512409440388:=Nat
def tw13152246376686430553:=Nat
def tw16879264117814284741:=Nat
def tw4634678161552905695:=Nat
def tw2252048047976014762:=Nat
def tw256380038583668177:=Nat
def tw8288460787443719427:=Nat
def tw8024485444597894128:=Nat
def tw9255144809054026056:=Nat
def tw9065104884230742710:=Nat
def tw13723443559292991503:=Nat
def tw16463520264406451414:=Nat
def tw13879012627713502931:=Nat
def tw765368152617220838:=Nat
def tw26221261353526797:=Nat
def tw1603668265848433168:=Nat
def tw2125750326242787428:=Nat
def tw5715243297008953322:=Nat
def tw6378371897127695656:=Nat
def tw13680419346035445987:=Nat
end PySem.W.Fast
section
namespace L2
open PySem PySem.Spec PyProof.Rows
abbrev Key:=Sum Int C_
def dS:Key->KB->Bool
 |.inl k,v=>Value.isInt k v
 |.inr x,v=>Value.isStrOf x v
def keyH(w:Sj):Key->Int
 |.inl k=>hashInt k
 |.inr x=>hashStr w x
def keyIs_shape:∀{k:Key} {v:KB},dS k v=true->(∃i t,k=Sum.inl i/\v=Value.int i t)\/(∃x t,k=Sum.inr x/\v=Value.str x t)
 |.inl i,v,h=>by
  obtain⟨t,e⟩:=Value.isInt_shape (k:=i) (v:=v) h;exact .inl #[i,t,rfl,e]
 |.inr x,v,h=>by
  obtain⟨t,e⟩:=Value.isStrOf_shape (x:=x) (v:=v) h;exact .inr #[x,t,rfl,e]
def vJ(i:Int)(t:Um):dS (.inl i) (.int i t)=true:=by simp[dS,Value.isInt]
def vK(x:C_)(t:Um):dS (.inr x) (.str x t)=true:=by simp[dS,Value.isStrOf]
def vL(a b:Int):decide ((Sum.inl a:Key)=Sum.inl b)=(a==b):=by
 by_cases e:a=b
 .subst e;simp
 .have h:¬(Sum.inl a:Key)=Sum.inl b:=λq=>e (Sum.inl.inj q);rw[decide_eq_false h];exact(beq_eq_false_iff_ne.mpr e).symm
def vM(a b:C_):decide ((Sum.inr a:Key)=Sum.inr b)=decide (a=b):=by
 by_cases e:a=b
 .subst e;simp
 .have h:¬(Sum.inr a:Key)=Sum.inr b:=λq=>e (Sum.inr.inj q);rw[decide_eq_false h,decide_eq_false e]
def vN(a:Int)(b:C_):decide ((Sum.inl a:Key)=Sum.inr b)=false:=decide_eq_false (λq=>nomatch q)
def vO(a:C_)(b:Int):decide ((Sum.inr a:Key)=Sum.inl b)=false:=decide_eq_false (λq=>nomatch q)
def bI(prog:Sd)(w:Sj):PySem.KeyKind prog w Key where
 is:=dS
 hash:=keyH w
 inj:=λv a b ha hb=>by
  rcases keyIs_shape ha with⟨i,t,rfl,rfl⟩|⟨x,t,rfl,rfl⟩
  .rcases keyIs_shape hb with⟨j,u,rfl,e⟩|⟨y,u,rfl,e⟩
   .injection e with e1 _;rw[e1]
   .exact nomatch e
  .rcases keyIs_shape hb with⟨j,u,rfl,e⟩|⟨y,u,rfl,e⟩
   .exact nomatch e
   .injection e with e1 _;rw[e1]
 byValue:=λk v h=>by
  rcases keyIs_shape h with⟨i,t,rfl,rfl⟩|⟨x,t,rfl,rfl⟩<;>rfl
 pyHash:=λhv h=>by
  rcases keyIs_shape hv with⟨i,t,rfl,rfl⟩|⟨x,t,rfl,rfl⟩
  .exact wpAny_pyHash_int h
  .exact wpAny_pyHash_str h
 eqBool:=λhu hv h=>by
  rcases keyIs_shape hu with⟨i,t,rfl,rfl⟩|⟨x,t,rfl,rfl⟩
  .rcases keyIs_shape hv with⟨j,u,rfl,rfl⟩|⟨y,u,rfl,rfl⟩
   .rw[vL]at h;exact wpAny_eqBool_int h
   .rw[vN]at h;exact SeqAt.EqAt.int_str i t y u _ _ _ _ h
  .rcases keyIs_shape hv with⟨j,u,rfl,rfl⟩|⟨y,u,rfl,rfl⟩
   .rw[vO]at h;exact SeqAt.EqAt.str_int x t j u _ _ _ _ h
   .rw[vM]at h;exact wpAny_eqBool_str h
 «strs»:=λk x t v h=>by
  rcases keyIs_shape h with⟨i,u,rfl,e⟩|⟨y,u,rfl,e⟩
  .exact nomatch e
  .injection e with e1 _;subst e1;cases v<;>rfl
def mixKind_int(prog:Sd)(w:Sj)(i:Int)(t:Um):(bI prog w).is (.inl i) (.int i t)=true:=vJ i t
def vP(prog:Sd)(w:Sj)(x:C_)(t:Um):(bI prog w).is (.inr x) (.str x t)=true:=vK x t
inductive V where
 |non|bl (b:Bool)|int (i:Int)|str (x:Str)|byt (b:Array UInt8)|flt (b:UInt64)|ref (a:KF)|ty (n:String)
 deriving DecidableEq
def RelV:V->KB->Prop
 |.non,u=>u=Value.none
 |.bl b,u=>u=Value.bool b
 |.int i,u=>∃t,u=Value.int i t
 |.str x,u=>∃t,u=Value.str x t
 |.byt b,u=>∃t,u=Value.bytes b t
 |.flt b,u=>∃t,u=Value.float b t
 |.ref a,u=>u=Value.ref a
 |.ty n,u=>u=Value.type n
abbrev Vals:List V->List KB->Prop:=Paired RelV
variable{xs:List V}{us:List KB}
def Vals.length(r:Vals xs us):xs.length=us.length:=Paired.length r
def Vals.get:∀{xs:List V} {us:List KB} {i:Nat} {x:V},Vals xs us->xs[i]?=be x->∃u,us[i]?=be u/\RelV x u
 |_,_,_,_,.nil,e=>by simp at e
 |_,_,0,_,.cons r _,e=>by simp at e;subst e;exact#[_,rfl,r]
 |_,_,i+1,x,.cons _ t,e=>by
  obtain⟨u,h1,h2⟩:=Vals.get (i:=i) (x:=x) t (by simpa using e);exact#[u,by simpa using h1,h2]
def Vals.set{x:V}{u:KB}(r:RelV x u):∀{xs:List V} {us:List KB} (i:Nat),Vals xs us->Vals (xs.set i x) (us.set i u)
 |_,_,_,.nil=>.nil
 |_,_,0,.cons _ t=>.cons r t
 |_,_,i+1,.cons q t=>.cons q (Vals.set r i t)
def Vals.append:∀{xs ys:List V} {us ws:List KB},Vals xs us->Vals ys ws->Vals (xs++ys) (us++ws):=by
 intro xs ys us ws h s;induction h with
 |nil=>exact s
 |cons r _ e=>exact .cons r e
def Vals.take:∀{xs:List V} {us:List KB} (n:Nat),Vals xs us->Vals (xs.take n) (us.take n)
 |_,_,0,_=>.nil
 |_,_,_+1,.nil=>.nil
 |_,_,n+1,.cons r t=>.cons r (Vals.take n t)
def Vals.drop:∀{xs:List V} {us:List KB} (n:Nat),Vals xs us->Vals (xs.drop n) (us.drop n)
 |_,_,0,r=>r
 |_,_,_+1,.nil=>.nil
 |_,_,n+1,.cons _ t=>Vals.drop n t
def RelO:Option V->Option KB->Prop
 |some v,be u=>RelV v u
 |none,q8=>True
 |_,_=>False
def KV{κ:Type}:List (κ×V)->List (κ×KB)->Prop:=Paired λ(p:κ×V) (q:κ×KB)=>p.1=q.1/\RelV p.2 q.2
def kV:Key->V
 |.inl i=>.int i
 |.inr x=>.str x
inductive HO where
  |lst (xs:List V)
  |tup (xs:List V)
  |dK (a9:List (Key×V))|dT (a9:List (List Key×V))
  |set (S:Int->Bool) (n:Nat)
  |ins (C dx:KF) (fs:List (C_×V))
  |own (x:KF)
  |xd (fs:List (C_×V))
  |met (f x:KF)
  |rng (lo hi:Int)
  |frz (o:Sx) (u:HO)
  |tbl (ps:Array KB)
  |ext (φ:Sl->Prop)
abbrev Hp:=KF->Option HO
def upd(H:Hp)(a:KF)(o:HO):Hp:=λb=>if b=a then be o else H b
variable{H:Hp}{a:KF}{o:HO}
def aB:upd H a o a=be o:=by unfold upd;rw[if_pos rfl]
variable{b:KF}
def au(h:b≠a):upd H a o b=H b:=by unfold upd;rw[if_neg h]
def vQ{u:HO}(h:H a=be o)(h':H b=be u)(d:o≠u):a≠b:=by
 intro e;subst e;rw[h]at h';exact d (Option.some.inj h')
def bJ(h:H a=be o)(h':H b=q8):a≠b:=by
 intro e;subst e;rw[h]at h';cases h'
section
variable (P:Sd)(w:Sj)
def ObjOk(H:Hp)(h:Sl)(a:KF):HO->Prop
 |.lst xs=>xs.length<=sizeLine/\∃(its:List KB) (n:Nat),Vals xs its/\h.get? a=be {cls:=.type "list",data:=.seq its.toArray n}
 |.tup xs=>xs.length<=sizeLine/\∃its:List KB,Vals xs its/\IsTup h a its.toArray
 |.dK a9=>a9.length<=sizeLine/\(a==SJ)=false/\∃vs,KV a9 vs/\h.DictOf (bI P w) a vs
 | .dT a9=>a9.length<=sizeLine/\(a==SJ)=false/\∃xs:List (List Key×KF×KB),
   Paired (λ(p:List Key×V) (q:List Key×KF×KB)=>p.1=q.1/\H q.2.1=be (.tup (p.1.map kV))/\RelV p.2 q.2.2) a9 xs/\
   ∃o es ep,h.get? a=be o/\o.ExactDict/\o.data=.dict es ep/\es.toList=xs.map (entryOfKey (S7 (bI P w)))/\(xs.map (·.1)).Nodup
 |.set S n=>h.SetOf (intKind P w) a S n
 | .ins C dx fs=>H dx=be (.own a)/\fs.length<=1000/\dx≠a/\h.get? a=be (instObj C dx)/\
   ∃mA,h.Ns1 dx mA/\(∀f,RelO (fs.lookup f) (mA f))/\PySem.Within mA (fs.map (·.1))
 |.own _=>∃o,h.get? a=be o
 |.xd fs=>∃mA,h.Ns1 a mA/\∀f,RelO (fs.lookup f) (mA f)
 |.rng lo hi=>∃t u v,h.get? a=be {cls:=.type "range",data:=.fields [.int lo t,.int hi u,.int 1 v].toArray}
 |.frz o u=>h.get? a=be o/\ObjOk H h a u
 |.tbl ps=>h.get? a=be {cls:=.none,data:=.fields ps}
 |.met f x=>h.get? a=be (methodObj (.ref f) (.ref x))
 |.ext φ=>φ h/\(∃o,h.get? a=be o)/\∀h1 h2:Sl,φ h1->(∀o,h1.get? a=be o->h2.get? a=be o)->φ h2
def HOk(H:Hp)(h:Sl):Prop:=∀a o,H a=be o->ObjOk P w H h a o
end
section
variable {P:Sd}{w:Sj}{H H':Hp}{h h':Sl}{a:KF}{o:HO}
def ObjOk.lt(x:ObjOk P w H h a o):a<h.objs.size:=by
 cases o with
 |lst xs=>obtain⟨_,_,_,_,e⟩:=x;exact Heap.lt_size e
 |tup xs=>obtain⟨_,_,_,p⟩:=x;exact p.lt
 |dK a9=>obtain⟨_,_,_,_,o,_,_,e,_⟩:=x;exact Heap.lt_size e
 |dT a9=>obtain⟨_,_,_,_,o,_,_,e,_⟩:=x;exact Heap.lt_size e
 |set S n=>obtain⟨o,_,_,_,e,_⟩:=x;exact Heap.lt_size e
 |ins C dx fs=>obtain⟨_,_,_,e,_⟩:=x;exact Heap.lt_size e
 |own y=>obtain⟨_,e⟩:=x;exact Heap.lt_size e
 |xd fs=>obtain⟨_,⟨_,_,_,e,_⟩,_⟩:=x;exact Heap.lt_size e
 |rng lo hi=>obtain⟨_,_,_,e⟩:=x;exact Heap.lt_size e
 |frz ob u=>obtain⟨e,_⟩:=x;exact Heap.lt_size e
 |tbl ps=>exact Heap.lt_size (show h.get? a=be _ from x)
 |met f y=>exact Heap.lt_size (show h.get? a=be _ from x)
 |ext φ=>obtain⟨_,⟨_,e⟩,_⟩:=x;exact Heap.lt_size e
def Paired.mapP{α β:Type}{F G:α->β->Prop}:∀{l₁:List α} {l₂:List β},Paired F l₁ l₂->(∀a b,F a b->G a b)->Paired G l₁ l₂:=by
 intro l₁ l₂ h f;induction h with
 |nil=>exact .nil
 |cons r _ e=>exact .cons (f _ _ r) e
def ObjOk.stay(x:ObjOk P w H h a o)(k:∀b u,(b=a\/H b=be (.own a))->h.get? b=be u->h'.get? b=be u)
  (ho:∀b,H b=be (.own a)->H' b=be (.own a)) (ht:∀b xs,H b=be (.tup xs)->H' b=be (.tup xs)):ObjOk P w H' h' a o:=by
 induction o with
 |lst xs=>obtain⟨z,its,n,r,e⟩:=x;exact#[z,its,n,r,k _ _ (.inl rfl) e]
 |tup xs=>obtain⟨z,its,r,ob,e,c⟩:=x;exact#[z,its,r,ob,k _ _ (.inl rfl) e,c]
 |dK a9=>obtain⟨z,y,vs,r,ob,es,ep,e,c⟩:=x;exact#[z,y,vs,r,ob,es,ep,k _ _ (.inl rfl) e,c]
 |dT a9=>
  obtain⟨z,y,xs,r,ob,es,ep,e,c⟩:=x;exact#[z,y,xs,Paired.mapP r λp q z=>#[z.1,ht _ _ z.2.1,z.2.2],ob,es,ep,k _ _ (.inl rfl) e,c]
 |set S n=>obtain⟨ob,es,ep,t,e,c⟩:=x;exact#[ob,es,ep,t,k _ _ (.inl rfl) e,c]
 |ins C dx fs=>
  obtain⟨d,z,ne,e,mA,⟨od,es,ep,e2,c⟩,r⟩:=x;exact#[ho _ d,z,ne,k _ _ (.inl rfl) e,mA,#[od,es,ep,k _ _ (.inr d) e2,c],r]
 |own y=>obtain⟨ob,e⟩:=x;exact#[ob,k _ _ (.inl rfl) e]
 |xd fs=>obtain⟨mA,⟨od,es,ep,e,c⟩,r⟩:=x;exact#[mA,#[od,es,ep,k _ _ (.inl rfl) e,c],r]
 |rng lo hi=>obtain⟨t,u,v,e⟩:=x;exact#[t,u,v,k _ _ (.inl rfl) e]
 |frz ob u ih=>obtain⟨e,q⟩:=x;exact#[k _ _ (.inl rfl) e,ih q]
 |tbl ps=>
  have e:h.get? a=be {cls:=.none,data:=.fields ps}:=x;show h'.get? a=be {cls:=.none,data:=.fields ps};exact k a _ (.inl rfl) e
 |met f y=>
  have e:h.get? a=be (methodObj (.ref f) (.ref y)):=x;show h'.get? a=be (methodObj (.ref f) (.ref y));exact k a _ (.inl rfl) e
 |ext φ=>obtain⟨p,⟨o,e⟩,st⟩:=x;exact#[st _ _ p λo q=>k _ _ (.inl rfl) q,#[o,k _ _ (.inl rfl) e],st]
def HOk.lt(x:HOk P w H h)(e:H a=be o):a<h.objs.size:=(x a o e).lt
def HOk.fresh(x:HOk P w H h)(e:h.objs.size<=a):H a=none:=by
 cases q:H a with
 |none=>rfl
 |some u=>exact absurd (GC (x.lt q) e) (G7 _)
def HOk.kept(x:HOk P w H h)(k:∀b u,h.get? b=be u->h'.get? b=be u):HOk P w H h':=λa o e=>
 (x a o e).stay (λb u _ q=>k b u q) (λ_ q=>q) λ_ _ q=>q
def HOk.laid(x:HOk P w H h)(k:∀b u,h.get? b=be u->h'.get? b=be u)(hp:h.objs.size<=a)(new:ObjOk P w (upd H a o) h' a o):HOk P w (upd H a o) h':=λb u e=>by
 have hn:=x.fresh hp;by_cases hb:b=a
 .subst hb;rw[aB]at e;cases e;exact new
 .rw[au hb]at e;exact(x b u e).stay (λc v _ q=>k c v q) (λc q=>by rw[au (bJ q hn)];exact q) λc xs q=>by rw[au (bJ q hn)];exact q
end
def Rd(H:Hp)(a:KF)(u:HO):Prop:=H a=be u\/∃o,H a=be (.frz o u)
variable{P:Sd}{w:Sj}{h:Sl}
def Rd.ok{u:HO}(r:Rd H a u)(x:HOk P w H h):ObjOk P w H h a u:=by
 rcases r with r|⟨o,r⟩
 .exact x a u r
 .obtain⟨_,q⟩:=x a _ r;exact q
def Mut:Option HO->Prop
 |some (.lst _)=>True
 |some (.dK _)=>True
 |some (.dT _)=>True
 |some (.set _ _)=>True
 |some (.ins _ _ _)=>True
 |some (.ext _)=>True
 |_=>False
section
variable {P:Sd}{w:Sj}{H:Hp}{h h':Sl}{x e:KF}{o':HO}
def HOk.write(ok:HOk P w H h)(mu:Mut (H x))(he:e=x\/H e=be (.own x))(k:∀b u,b≠e->h.get? b=be u->h'.get? b=be u)(x9:∃u,h'.get? e=be u)
  (new:ObjOk P w (upd H x o') h' x o'):HOk P w (upd H x o') h':=λb u q=>by
 have nown:∀c y,H c=be (.own y)->c≠x:=λc y r z=>by subst z;rw[r]at mu;exact mu
 have MX:∀c xs,H c=be (.tup xs)->c≠x:=λc xs r z=>by subst z;rw[r]at mu;exact mu
 by_cases hb:b=x
 .subst hb;rw[aB]at q;cases q;exact new
 .rw[au hb]at q;by_cases Kj:b=e
  .have q':H b=be (.own x):=by
    rcases he with z|z
    .exact absurd (Kj.trans z) hb
    .rw[Kj];exact z
   rw[q]at q';cases q';obtain⟨v,hv⟩:=x9;exact#[v,by rw[Kj];exact hv]
  .refine(ok b u q).stay (λc v hc r=>k c v ?_ r) (λc r=>by rw[au (nown c b r)];exact r) λc xs r=>by rw[au (MX c xs r)];exact r
   rcases hc with rfl|hc
   .exact Kj
   .rintro rfl;rcases he with z|z
    .exact nown c b hc z
    .rw[hc]at z;cases z;exact hb rfl
end
structure Un(fs ex:List KF)(H H':Hp)(h h':Sl):Prop where
 keep:∀b o,h.get? b=be o->H b=q8->b∉fs->b∉ex->h'.get? b=be o
 slot:∀b o,h.get? b=be o->H b=q8->b∈fs->b∉ex->∃sl,h'.get? b=be {o with slots:=sl}
 free:∀b o,h.get? b=be o->H b=q8->b∉ex->H' b=q8
 there:∀b o,h.get? b=be o->b∉ex->∃o',h'.get? b=be o'
 tups:∀b xs,H b=be (.tup xs)->H' b=be (.tup xs)
 frzs:∀b o u,H b=be (.frz o u)->H' b=be (.frz o u)
 tbls:∀b ps,H b=be (.tbl ps)->∃more,H' b=be (.tbl (ps++more))
section
variable {fs o7 ex OX:List KF}{H H1 H2:Hp}{h h1 h2 h':Sl}{a x e:KF}{o:HO}
def Un.any(u:Un fs ex H H1 h h1){b:KF}{ob:Sx}(q:h.get? b=be ob)(n:H b=q8)(hx:b∉ex):∃sl,h1.get? b=be {ob with slots:=sl}:=by
 by_cases hb:b∈fs
 .exact u.slot b ob q n hb hx
 .exact#[ob.slots,u.keep b ob q n hb hx]
def Un.kept(k:∀b u,h.get? b=be u->h'.get? b=be u):Un fs ex H H h h':=
 #[λb ob q _ _ _=>k b ob q,λb ob q _ _ _=>#[ob.slots,k b ob q],λ_ _ _ n _=>n,λb ob q _=>#[ob,k b ob q],λ_ _ q=>q,λ_ _ _ q=>q,λ_ ps q=>#[[].toArray,by rw[q];simp]]
def Un.refl:Un fs ex H H h h:=Un.kept λ_ _ q=>q
def Un.laid(k:∀b u,h.get? b=be u->h'.get? b=be u)(hp:h.objs.size<=a)(hn:H a=q8):Un fs ex H (upd H a o) h h' where
 keep:=λb u q _ _ _=>k b u q
 slot:=λb u q _ _ _=>#[u.slots,k b u q]
 free:=λb u q n _=>by rw[au (Gn (GC (Heap.lt_size q) hp))];exact n
 there:=λb u q _=>#[u,k b u q]
 tups:=λb xs q=>by rw[au (bJ q hn)];exact q
 frzs:=λb u xs q=>by rw[au (bJ q hn)];exact q
 tbls:=λb ps q=>#[[].toArray,by rw[au (bJ q hn),q];simp]
def Un.write(mu:Mut (H x))(he:e=x\/H e=be (.own x))(k:∀b u,b≠e->h.get? b=be u->h'.get? b=be u)(x9:∃u,h'.get? e=be u):Un fs ex H (upd H x o) h h':=by
 have hx:∀b,H b=q8->b≠x:=λb n z=>by subst z;rw[n]at mu;exact mu
 have hb:∀b,H b=q8->b≠e:=λb n z=>by
  subst z;rcases he with r|r
  .exact hx b n r
  .rw[n]at r;cases r
 have hm:∀b u,H b=be u->¬Mut (be u)->b≠x:=λb u q nm z=>by subst z;rw[q]at mu;exact nm mu
 refine⟨λb u q n _ _=>k b u (hb b n) q,λb u q n _ _=>#[u.slots,k b u (hb b n) q],λb u q n _=>by rw[au (hx b n)];exact n,λb u q _=>?_,
  λb xs q=>by rw[au (hm b _ q λz=>z)];exact q,λb u xs q=>by rw[au (hm b _ q λz=>z)];exact q,λb ps q=>#[[].toArray,by rw[au (hm b _ q λz=>z),q];simp]⟩
 by_cases Kj:b=e
 .subst Kj;exact x9
 .exact#[u,k b u Kj q]
end
def trk(h:Sl)(H:Hp):List KF:=(Gj h.objs.size).filter λa=>(H a).isSome
def hidT(h:Sl)(H:Hp):Sl:=hideAll h (trk h H)
def vR(h:Sl)(H:Hp):(hidT h H).objs.size=h.objs.size:=hideAll_size _ _
def vS{o:Sx}(e:h.get? b=be o)(n:H b=q8):(hidT h H).get? b=be o:=
 hideAll_get _ e λhm=>by
  have q:(H b).isSome=true:=(IN.mp hm).2;rw[n]at q;simp at q
def vT{o:Sx}(e:(hidT h H).get? b=be o):h.get? b=be o/\H b=none:=by
 have e':h.get? b=be o:=of_hideAll (trk h H) e;refine#[e',?_];cases q:H b with
 |none=>rfl
 |some x=>
  have hm:b∈trk h H:=IN.mpr #[List.mem_range.mpr (Heap.lt_size e'),by simp[q]];have z:(hidT h H).get? b=none:=hideAll_none (trk h H) hm;rw[z]at e;cases e
structure Mod(K:Ex)(mg:Str->Option KB)(base:Sl):Prop where
 kin:K.In base
 glob:base.Ns Pi mg
 blt:∃mb,base.Ns Uh mb/\∀x:C_,x≠"__name__"->mb x=Sw x
 nolimit:base.NoLimit
structure Cx where
 prog:Sd
 w:Sj
 K:Ex
 mg:C_->Option KB
 base:Sl
 A:Sk
 N:List C_
 s₀:KM
 H₀:Hp
 env:S1
 outer:List S1
 stack:List S1
 ex:List KF
 fn:C_->Bool
 calm:Bool
 pn:List (KF×Sx)
 xe:KB->KM->Prop
abbrev zSE(X:Cx)(e:P3)(es:List P3):Prop:=Si (e::es) X.env=(false,So e X.env)::Si es X.env
abbrev zPL(X:Cx)(p:Sr)(es:List P3):Prop:=(SZ p (Si es X.env)).any (·.1)=false
abbrev zHF(X:Cx)(p:Sr)(es:List P3):Prop:=((SZ p (Si es X.env)).all (λx=>!x.1)&&(T8 p (Tt [] X.env)).all (λx=>x.1.isSome)&&decide (es.length+([]:List Uo).length+(if([]:List Uo).isEmpty then 0 else 1)<30))=true
abbrev zFN(X:Cx)(x:C_):Prop:=X.fn x=true\/X.env.scope.names.lookup x=be .local
abbrev zND(x:C_):Prop:=(x==("__debug__":C_))=false
abbrev zNC(x:C_):Prop:=(x==("__classdict__":C_))=false
abbrev zFS(X:Cx)(e:P3)(y:KB):Prop:=Uk e X.env y=pure y
def frs(l:List S1):List KF:=l.filterMap (·.frame)
abbrev Cx.fs(X:Cx):List KF:=frs X.outer
def Vis(sc:SK)(x:C_):Prop:=sc.names.lookup x=be .local\/sc.names.lookup x=be .cell\/sc.names.lookup x=be .free
def Loc(sc:SK)(x:C_):Prop:=sc.names.lookup x=be .local\/sc.names.lookup x=be .cell
def Look(env:S1)(h:Sl)(m:C_->Option KB)(x:C_)(u:KB):Prop:=
 (env.kindOf x=be .local/\m x=be u)\/((env.kindOf x=be .cell\/env.kindOf x=be .free)/\∃c,env.cells.lookup x=be c/\h.IsCell c (be u))
structure Cx.Ok(X:Cx):Prop where
 mod:Mod X.K X.mg X.base
 kind:X.env.scope.kind=.function
 glob:X.env.globals=Pi
 blt:X.env.builtins=Uh
 above:X.s₀.heap.objs.size<=X.env.locals
 inj:∀x y c,X.env.cells.lookup x=be c->X.env.cells.lookup y=be c->x=y
 has:∀x,(X.env.kindOf x=be .cell\/X.env.kindOf x=be .free)->∃c,X.env.cells.lookup x=be c
 cab:∀x c,X.fn x=true->X.env.cells.lookup x=be c->X.s₀.heap.objs.size<=c
 hd:X.calm=true->X.A.handled=q8
 frames:X.A.frames=be X.stack
 stk:X.stack=X.outer\/(X.stack=X.env::X.outer/\X.env.frame=be X.env.locals)
 exf:∀b∈X.ex,b≠X.env.locals/\∀x c,X.env.cells.lookup x=be c->c≠b
 bs:∀b o,X.base.get? b=be o->X.s₀.heap.get? b=be o/\X.H₀ b=q8
 bsz:X.base.objs.size<=X.s₀.heap.objs.size
 noex:∀b o,X.base.get? b=be o->b∉X.ex
 exfs:∀b∈X.ex,b∉X.fs
 funs:X.s₀.heap.FunFrames X.base X.outer
 frf:∀b∈X.fs,X.H₀ b=q8
structure Inv(X:Cx)(pins:List (KF×Sx))(σ:List (Option V))(H:Hp)(s:KM):Prop where
 ok:X.Ok
 os:s.os=X.s₀.os
 bare:S6 s.gens
 base:Un X.fs X.ex X.H₀ H X.s₀.heap s.heap
 loc:∃m,s.heap.Ns X.env.locals m/\∀(i:Nat) (x:C_) (v:V),X.N[i]?=be x->σ[i]?=be (be v)->Vis X.env.scope x->∃u,RelV v u/\Look X.env s.heap m x u
 cell:∀x c,X.env.cells.lookup x=be c->∃v,s.heap.IsCell c v
 free:H X.env.locals=q8
 freeC:∀x c,X.env.cells.lookup x=be c->H c=q8
 pin:∀p∈X.pn++pins,s.heap.get? p.1=be p.2/\H p.1=q8/\p.1≠X.env.locals/\p.1∉X.fs/\∀v,p.2.data≠.cell v
 hok:HOk X.prog X.w H s.heap
 len:σ.length=X.N.length
section
variable {X:Cx}{pins:List (KF×Sx)}{σ:List (Option V)}{H H':Hp}{s:KM}{h':Sl}
def Cx.Ok.nofr(ok:X.Ok){b:KF}{o:Sx}(e:X.base.get? b=be o):b∉X.fs:=λhb=>by
 have:=(ok.funs.mem hb).1;rw[e]at this;cases this
def Inv.bs(I:Inv X pins σ H s):∀b o,X.base.get? b=be o->s.heap.get? b=be o/\H b=none:=λb o e=>
 #[I.base.keep b o (I.ok.bs b o e).1 (I.ok.bs b o e).2 (I.ok.nofr e) (I.ok.noex b o e),I.base.free b o (I.ok.bs b o e).1 (I.ok.bs b o e).2 (I.ok.noex b o e)]
def Inv.bk(I:Inv X pins σ H s):∀b o,X.base.get? b=be o->s.heap.get? b=be o:=λb o e=>(I.bs b o e).1
def Inv.mod(I:Inv X pins σ H s):Mod X.K X.mg X.base:=I.ok.mod
def Inv.kIn(I:Inv X pins σ H s):X.K.In s.heap:=I.ok.mod.kin.keeps I.bk
def Inv.lt(I:Inv X pins σ H s):X.env.locals<s.heap.objs.size:=let ⟨_,hn,_⟩:=I.loc;hn.lt
def Inv.sz(I:Inv X pins σ H s):X.s₀.heap.objs.size<=s.heap.objs.size:=Go I.ok.above (HM I.lt)
def Inv.nofs(I:Inv X pins σ H s){a:KF}(h:s.heap.objs.size<=a):a∉X.fs:=λhb=>by
 obtain⟨_,o,ho,_⟩:=I.ok.funs.mem hb;exact absurd (GC (Heap.lt_size ho) (Go I.sz h)) (G7 _)
def Inv.cne(I:Inv X pins σ H s):∀x c,X.env.cells.lookup x=be c->c≠X.env.locals:=λx c e z=>by
 obtain⟨v,o,ho,hd⟩:=I.cell x c e;obtain⟨m,⟨o',es,ep,Kk,h_,_⟩,_⟩:=I.loc;rw[z,Kk]at ho;cases ho;rw[h_]at hd;cases hd
def Inv.funs(I:Inv X pins σ H s):s.heap.FunFrames X.base X.outer:=by
 have all:∀(l:List S1),(∀b∈frs l,b∈X.fs)->X.s₀.heap.FunFrames X.base l->s.heap.FunFrames X.base l:=by
  intro l;induction l with
  |nil=>intro _ _;trivial
  |cons env r ih=>
   intro hs hl;obtain⟨hk,⟨L,o,hf,hn,ho,hd⟩,hr⟩:=hl;have hL:L∈X.fs:=hs L (by unfold frs;rw[HN,hf];exact Gk);obtain⟨sl,e⟩:=I.base.slot L o ho (I.ok.frf L hL) hL λz=>I.ok.exfs L z hL;exact#[hk,#[L,_,hf,hn,e,hd],ih (λb hb=>hs b (by unfold frs;rw[HN,hf];exact Gi _ hb)) hr]
 exact all X.outer (λ_ hb=>hb) I.ok.funs
def Inv.stack(I:Inv X pins σ H s):s.heap.FunFrames X.base X.stack:=by
 rcases I.ok.stk with e|⟨e,hf⟩
 .rw[e];exact I.funs
 .rw[e];obtain⟨m,hn,_⟩:=I.loc;refine .cons (by rw[I.ok.kind];decide) hf hn ?_ I.funs;exact Heap.get?_none_of_le (Go I.ok.bsz I.ok.above)
def Inv.stkSub(I:Inv X pins σ H s):∀b∈frs X.stack,b∈X.env.locals::X.fs:=λb hb=>by
 rcases I.ok.stk with e|⟨e,hf⟩
 .rw[e]at hb;exact Gi _ hb
 .rw[e]at hb;unfold frs at hb;rw[HN,hf]at hb;exact hb
def Inv.stkFree(I:Inv X pins σ H s):∀b∈frs X.stack,H b=none:=λb hb=>by
 rcases Gh.mp (I.stkSub b hb)with e|hb
 .rw[e];exact I.free
 .obtain⟨_,o,ho,_⟩:=I.ok.funs.mem hb;exact I.base.free b o ho (I.ok.frf b hb) λz=>I.ok.exfs b z hb
variable{g':Array GenState}{ch:List KF}
def Inv.step{t':Nat}{d':Drawn}(I:Inv X pins σ H s)
  (x_:∀b∈ch,(b∈X.ex\/X.s₀.heap.objs.size<=b)/\b≠X.env.locals/\(∀x c,X.env.cells.lookup x=be c->c≠b)/\∀p∈X.pn++pins,p.1≠b)
  (keep:∀b o,b≠X.env.locals->b∉X.fs->b∉ch->s.heap.get? b=be o->H b=q8->h'.get? b=be o)
  (slot:∀b o,b≠X.env.locals->b∈X.fs->b∉ch->s.heap.get? b=be o->H b=q8->∃sl,h'.get? b=be {o with slots:=sl}) (free:∀b o,b∉ch->s.heap.get? b=be o->H b=q8->H' b=q8)
  (there:∀b o,b∉ch->s.heap.get? b=be o->∃o',h'.get? b=be o')
  (tups:∀b xs,H b=be (.tup xs)->H' b=be (.tup xs)) (frzs:∀b o u,H b=be (.frz o u)->H' b=be (.frz o u)) (tbls:∀b ps,H b=be (.tbl ps)->∃more,H' b=be (.tbl (ps++more)))
  (ns:∀m,s.heap.Ns X.env.locals m->h'.Ns X.env.locals m) (hok:HOk X.prog X.w H' h') (hg:S6 g'):
  Inv X pins σ H' {s with heap:=h',gens:=g',drawn:=d',toks:=t'}:=by
 have OY:∀b o,X.s₀.heap.get? b=be o->b≠X.env.locals:=λb o e=>Gn (GC (Heap.lt_size e) I.ok.above);have Me:∀b o,X.s₀.heap.get? b=be o->b∉X.ex->b∉ch:=λb o e hx hb=>by
  rcases(x_ b hb).1 with z|z
  .exact hx z
  .exact absurd (GC (Heap.lt_size e) z) (G7 _)
 have k8:∀x c,X.env.cells.lookup x=be c->∀v,s.heap.IsCell c v->h'.IsCell c v:=λx c e v ⟨o,ho,hd⟩=>by
  have Le:c∉ch:=λz=>(x_ c z).2.2.1 x c e rfl;by_cases hc:c∈X.fs
  .obtain⟨sl,q⟩:=slot c o (I.cne x c e) hc Le ho (I.freeC x c e);exact#[_,q,hd]
  .exact#[o,keep c o (I.cne x c e) hc Le ho (I.freeC x c e),hd]
 refine#[I.ok,I.os,hg,#[λb o e n hb hx=>?_,λb o e n hb hx=>?_,λb o e n hx=>?_,λb o e hx=>?_,λb xs e=>tups b xs (I.base.tups b xs e),λb o xs e=>frzs b o xs (I.base.frzs b o xs e),λb ps e=>?_],?_,λx c e=>?_,?_,λx c e=>?_,λp hp=>?_,hok,I.len]
 .exact keep b o (OY b o e) hb (Me b o e hx) (I.base.keep b o e n hb hx) (I.base.free b o e n hx)
 .obtain⟨sl,e1⟩:=I.base.slot b o e n hb hx;obtain⟨k9,e2⟩:=slot b _ (OY b o e) hb (Me b o e hx) e1 (I.base.free b o e n hx);exact#[k9,e2]
 .obtain⟨o',e1⟩:=I.base.there b o e hx;exact free b o' (Me b o e hx) e1 (I.base.free b o e n hx)
 .obtain⟨o',e1⟩:=I.base.there b o e hx;exact there b o' (Me b o e hx) e1
 .obtain⟨m1,e1⟩:=I.base.tbls b ps e;obtain⟨m2,e2⟩:=tbls b _ e1;exact#[m1++m2,by rw[e2,Array.append_assoc]]
 .obtain⟨m,hn,hl⟩:=I.loc;refine#[m,ns m hn,λi x v e1 e2 e3=>?_];obtain⟨u,r,l⟩:=hl i x v e1 e2 e3;refine#[u,r,?_];rcases l with l|⟨k,c,e,z⟩
  .exact .inl l
  .exact .inr #[k,c,e,k8 x c e _ z]
 .obtain⟨v,z⟩:=I.cell x c e;exact#[v,k8 x c e v z]
 .obtain⟨m,⟨o,_,_,ho,_⟩,_⟩:=I.loc;exact free _ o (λz=>(x_ _ z).2.1 rfl) ho I.free
 .obtain⟨v,o,ho,hd⟩:=I.cell x c e;exact free c o (λz=>(x_ c z).2.2.1 x c e rfl) ho (I.freeC x c e)
 .obtain⟨e,n,ne,nf,d⟩:=I.pin p hp;have Le:p.1∉ch:=λz=>(x_ p.1 z).2.2.2 p hp rfl;exact#[keep p.1 p.2 ne nf Le e n,free p.1 p.2 Le e n,ne,nf,d]
def Inv.un{t':Nat}(I:Inv X pins σ H s)(u:Un X.fs [] H H' s.heap h')(hok:HOk X.prog X.w H' h'):Inv X pins σ H' {s with heap:=h',toks:=t'}:=by
 obtain⟨m,⟨o,es,ep,ho,r⟩,_⟩:=id I.loc;obtain⟨sl,hL⟩:=u.any ho I.free Kv;exact I.step (g':=s.gens) (d':=s.drawn) (ch:=[]) (λ_ z=>nomatch z) (λb o _ hb _ e n=>u.keep b o e n hb Kv) (λb o _ hb _ e n=>u.slot b o e n hb Kv) (λb o _ e n=>u.free b o e n Kv) (λb o _ e=>u.there b o e Kv) u.tups u.frzs u.tbls (λm' hm=>by
  obtain⟨o',MY,MZ,Kk,r'⟩:=hm;rw[ho]at Kk;cases Kk;exact#[_,MY,MZ,hL,r']) hok I.bare
def Inv.call{t':Nat}{d':Drawn}(I:Inv X pins σ H s)(u:Un (frs X.stack) ch H H' s.heap h')(hok:HOk X.prog X.w H' h')(hg:S6 g')
  (x_:∀b∈ch,(b∈X.ex\/X.s₀.heap.objs.size<=b)/\b≠X.env.locals/\(∀x c,X.env.cells.lookup x=be c->c≠b)/\∀p∈X.pn++pins,p.1≠b):
  Inv X pins σ H' {s with heap:=h',gens:=g',drawn:=d',toks:=t'}:=by
 obtain⟨m,⟨o,es,ep,ho,r⟩,_⟩:=id I.loc;obtain⟨sl,hL⟩:=u.any ho I.free λz=>(x_ _ z).2.1 rfl;exact I.step (ch:=ch) x_ (λb o hL hb hc e n=>u.keep b o e n (λz=>(Gh.mp (I.stkSub b z)).elim hL hb) hc) (λb o _ _ hc e n=>u.any e n hc) (λb o hc e n=>u.free b o e n hc) (λb o hc e=>u.there b o e hc) u.tups u.frzs u.tbls (λm' hm=>by
  obtain⟨o',MY,MZ,Kk,r'⟩:=hm;rw[ho]at Kk;cases Kk;exact#[_,MY,MZ,hL,r']) hok hg
def Inv.turned{t':Nat}{it:KF}(I:Inv X pins σ H s)(k:∀b o,b≠it->s.heap.get? b=be o->h'.get? b=be o)(hn:H it=q8)(hL:it≠X.env.locals)
  (h1:it∈X.ex\/X.s₀.heap.objs.size<=it) (h2:∀x c,X.env.cells.lookup x=be c->c≠it) (h3:∀p∈X.pn++pins,p.1≠it):Inv X pins σ H {s with heap:=h',toks:=t'}:=by
 have Kl:∀b u,H b=be u->b≠it:=λb u e z=>by rw[z,hn]at e;cases e
 refine I.step (g':=s.gens) (d':=s.drawn) (ch:=[it]) (λb hb=>?_) (λb o _ _ hc e _=>k b o (λz=>hc (by simp[z])) e) (λb o _ _ hc e _=>#[o.slots,k b o (λz=>hc (by simp[z])) e]) (λ_ _ _ _ n=>n)
  (λb o hc e=>#[o,k b o (λz=>hc (by simp[z])) e]) (λ_ _ e=>e) (λ_ _ _ e=>e) (λb ps e=>#[[].toArray,by rw[e];simp]) (λm hm=>?_) (λb u e=>?_) I.bare
 .have e:b=it:=by simpa using hb
  subst e;exact#[h1,hL,h2,h3]
 .obtain⟨o,es,ep,ho,r⟩:=hm;exact#[o,es,ep,k _ o (Ne.symm hL) ho,r]
 .refine(I.hok b u e).stay (λc v hc q=>k c v ?_ q) (λ_ q=>q) λ_ _ q=>q;rcases hc with z|z
  .rw[z];exact Kl b u e
  .exact Kl c _ z
def Inv.tok(I:Inv X pins σ H s)(t:Nat):Inv X pins σ H {s with toks:=t}:=I.un (h':=s.heap) (t':=t) Un.refl I.hok
def Inv.kept{t':Nat}(I:Inv X pins σ H s)(k:∀b u,s.heap.get? b=be u->h'.get? b=be u):Inv X pins σ H {s with heap:=h',toks:=t'}:=I.un (Un.kept k) (I.hok.kept k)
def Inv.laid{a:KF}{o:HO}{t':Nat}(I:Inv X pins σ H s)(k:∀b u,s.heap.get? b=be u->h'.get? b=be u)(hp:s.heap.objs.size<=a)(new:ObjOk X.prog X.w (upd H a o) h' a o):
  Inv X pins σ (upd H a o) {s with heap:=h',toks:=t'}:=I.un (Un.laid k hp (I.hok.fresh hp)) (I.hok.laid k hp new)
def Inv.write{x e:KF}{o:HO}{t':Nat}(I:Inv X pins σ H s)(mu:Mut (H x))(he:e=x\/H e=be (.own x))(k:∀b u,b≠e->s.heap.get? b=be u->h'.get? b=be u)(x9:∃u,h'.get? e=be u)
  (new:ObjOk X.prog X.w (upd H x o) h' x o):Inv X pins σ (upd H x o) {s with heap:=h',toks:=t'}:=I.un (Un.write mu he k x9) (I.hok.write mu he k x9 new)
def Inv.pins_of{J5:List (KF×Sx)}(I:Inv X pins σ H s)(h:∀p∈J5,s.heap.get? p.1=be p.2/\H p.1=q8/\p.1≠X.env.locals/\p.1∉X.fs/\∀v,p.2.data≠.cell v):Inv X J5 σ H s:=
 #[I.ok,I.os,I.bare,I.base,I.loc,I.cell,I.free,I.freeC,λp hp=>(GD.mp hp).elim (λz=>I.pin p (Hk _ z)) (h p),I.hok,I.len]
variable{x:C_}{i:Nat}
def jw{N:List C_}(hN:N.Nodup){j:Nat}(a:N[i]?=be x)(b:N[j]?=be x):i=j:=by
 obtain⟨h1,e1⟩:=Gq.mp a;obtain⟨h2,e2⟩:=Gq.mp b;exact(List.getElem_inj hN).mp (e1.trans e2.symm)
variable{E:KB->KM->Prop}{Q:Unit->KM->Prop}
def pX{M:T_}{A:Sk}{v:V}{u:KB}(I:Inv X pins σ H s)(hN:X.N.Nodup)(hi:X.N[i]?=be x)(hx:Loc X.env.scope x)(r:RelV v u)
  (h:∀s',Inv X pins (σ.set i (be v)) H s'->(∃a,Heap.SameBut a s.heap s'.heap/\(a=X.env.locals\/X.env.cells.lookup x=be a))->Q () s') (hf:autoParam (zFN X x) zA3):Sg M A (storeName X.env x u) Q E s:=by
 obtain⟨m,hn,hl⟩:=id I.loc;have t8:(X.env.scope.kind== .class||(X.env.scope.kind== .module&&X.env.locals !=X.env.globals))=false:=by rw[I.ok.kind];rfl
 have hiσ:i<σ.length:=by rw[I.len];exact(Gq.mp hi).1
 have cne:=I.cne;have f8:∀{a:KF} {h':Sl},(∃o,s.heap.get? a=be o/\H a=q8)->Heap.SameBut a s.heap h'->HOk X.prog X.w H h':=λ{a h'} ha hs b ob e=>by
  obtain⟨_,_,j3⟩:=ha;refine(I.hok b ob e).stay (λc w' hc q=>(hs.2 c ?_).trans q) (λ_ q=>q) λ_ _ q=>q;rintro rfl;rcases hc with rfl|hc
  .rw[j3]at e;cases e
  .rw[j3]at hc;cases hc
 rcases hx with hk|hk
 .refine wpAny_storeName_local hk hn (λh' j5 hs=>?_) t8;obtain⟨oL,_,_,OZ,_⟩:=id hn;refine h _ #[I.ok,I.os,I.bare,#[λb o e n hb hx=>?_,λb o e n hb hx=>?_,I.base.free,λb o e hx=>?_,I.base.tups,I.base.frzs,I.base.tbls],#[_,j5,λj y v' e1 e2 e3=>?_],λy c e=>?_,I.free,I.freeC,λp hp=>?_,f8 #[oL,OZ,I.free] hs,by simpa using I.len] #[_,hs,.inl rfl]
  .exact(hs.2 b (Gn (GC (Heap.lt_size e) I.ok.above))).trans (I.base.keep b o e n hb hx)
  .obtain⟨sl,e1⟩:=I.base.slot b o e n hb hx;exact#[sl,(hs.2 b (Gn (GC (Heap.lt_size e) I.ok.above))).trans e1]
  .obtain⟨o',e1⟩:=I.base.there b o e hx;exact#[o',(hs.2 b (Gn (GC (Heap.lt_size e) I.ok.above))).trans e1]
  .by_cases hj:j=i
   .subst hj;rw[hi]at e1;cases e1;rw[GU hiσ]at e2;cases e2;exact#[u,r,.inl #[hk,Kv]]
   .rw[Gs (Ne.symm hj)]at e2;obtain⟨u',r',q⟩:=hl j y v' e1 e2 e3;refine#[u',r',?_];rcases q with⟨k,e⟩|⟨k,c,e,z⟩
    .refine .inl #[k,?_];have:y≠x:=λe=>hj (jw hN e1 (e ▸ hi));simp[this,e]
    .exact .inr #[k,c,e,z.sameBut hs (cne y c e)]
  .obtain⟨w',z⟩:=I.cell y c e;exact#[w',z.sameBut hs (cne y c e)]
  .obtain⟨e,n,ne,nf,d⟩:=I.pin p hp;exact#[(hs.2 p.1 ne).trans e,n,ne,nf,d]
 .have M0:X.fn x=true:=by
   rcases hf with z|z
   .exact z
   .rw[z]at hk;cases hk
  obtain⟨c,hc⟩:=I.ok.has x (.inl hk);obtain⟨w',z⟩:=I.cell x c hc;refine wpAny_storeName_cell I.ok.kind hk hc z (λh' y7 hs=>?_);obtain⟨oc,O0,M4⟩:=id z;refine h {s with heap:=h'} #[I.ok,I.os,I.bare,#[λb o e n hb hx=>?_,λb o e n hb hx=>?_,I.base.free,λb o e hx=>?_,I.base.tups,I.base.frzs,I.base.tbls],#[m,hn.sameBut hs (Ne.symm (cne x c hc)),λj y v' e1 e2 e3=>?_],λy c' e=>?_,I.free,I.freeC,λp hp=>?_,f8 #[oc,O0,I.freeC x c hc] hs,by simpa using I.len] #[c,hs,.inr hc]
  .exact(hs.2 b (Gn (GC (Heap.lt_size e) (I.ok.cab x c M0 hc)))).trans (I.base.keep b o e n hb hx)
  .obtain⟨sl,e1⟩:=I.base.slot b o e n hb hx;exact#[sl,(hs.2 b (Gn (GC (Heap.lt_size e) (I.ok.cab x c M0 hc)))).trans e1]
  .obtain⟨o',e1⟩:=I.base.there b o e hx;exact#[o',(hs.2 b (Gn (GC (Heap.lt_size e) (I.ok.cab x c M0 hc)))).trans e1]
  .by_cases hj:j=i
   .subst hj;rw[hi]at e1;cases e1;rw[GU hiσ]at e2;cases e2;exact#[u,r,.inr #[.inl hk,c,hc,y7]]
   .rw[Gs (Ne.symm hj)]at e2;obtain⟨u',r',q⟩:=hl j y v' e1 e2 e3;refine#[u',r',?_];rcases q with q|⟨k,c',e,z'⟩
    .exact .inl q
    .refine .inr #[k,c',e,z'.sameBut hs ?_];rintro rfl;exact hj (jw hN e1 (I.ok.inj _ _ _ e hc ▸ hi))
  .by_cases O1:c'=c
   .subst O1;exact#[_,y7]
   .obtain⟨w2,z2⟩:=I.cell y c' e;exact#[w2,z2.sameBut hs O1]
  .obtain⟨e,n,ne,nf,d⟩:=I.pin p hp;refine#[(hs.2 p.1 ?_).trans e,n,ne,nf,d];intro q;rw[q,O0]at e;have q':oc=p.2:=Option.some.inj e;exact d w' (by rw[<-q'];exact M4)
def dU{M:T_}{A:Sk}{v:V}{u:KB}(I:Inv X pins σ H s)(hN:X.N.Nodup)(hi:X.N[i]?=be x)(hx:Loc X.env.scope x)(r:RelV v u)
  (h:∀s',Inv X pins (σ.set i (be v)) H s'->Q () s') (hf:autoParam (zFN X x) zA3):Sg M A (storeName X.env x u) Q E s:=
 pX I hN hi hx r (λs' I' _=>h s' I') hf
def Inv.call'{s':KM}(I:Inv X pins σ H s)(ho:s'.os=s.os)(u:Un (frs X.stack) ch H H' s.heap s'.heap)(hok:HOk X.prog X.w H' s'.heap)(hg:S6 s'.gens)
  (x_:∀b∈ch,(b∈X.ex\/X.s₀.heap.objs.size<=b)/\b≠X.env.locals/\(∀x c,X.env.cells.lookup x=be c->c≠b)/\∀p∈X.pn++pins,p.1≠b):Inv X pins σ H' s':=by
 obtain⟨h',g',d',t',o'⟩:=s';have e:o'=s.os:=ho;subst e;exact I.call (g':=g') (t':=t') (d':=d') u hok hg x_
end
abbrev XK:=KB->Option KF->Hp->Prop
abbrev St:=List (Option V)
abbrev VK:=V->Hp->Prop
abbrev TE:=St->Hp->VK->Prop
abbrev TT:=St->Hp->(Bool->Hp->Prop)->Prop
abbrev TA:=St->Hp->(List V->Hp->Prop)->Prop
structure Ends where
 nx:St->Hp->Prop
 rt:VK
 bk:St->Hp->Prop:=λ_ _=>False
 ct:St->Hp->Prop:=λ_ _=>False
abbrev TS:=Ends->St->Hp->Prop
def EP(X:Cx)(pins:List (KF×Sx))(σ:St)(Q:VK)(u:KB)(s':KM):Prop:=∃v H',Inv X pins σ H' s'/\RelV v u/\Q v H'
def TP(X:Cx)(pins:List (KF×Sx))(σ:St)(Q:Bool->Hp->Prop)(b:Bool)(s':KM):Prop:=∃H',Inv X pins σ H' s'/\Q b H'
def AP(X:Cx)(pins:List (KF×Sx))(σ:St)(Q:List V->Hp->Prop)(us:List KB)(s':KM):Prop:=∃vs H',Inv X pins σ H' s'/\Vals vs us/\Q vs H'
def SP(X:Cx)(pins:List (KF×Sx))(D:Ends)(f:Flow)(s':KM):Prop:=
 match f with
 |.next=>∃σ' H',Inv X pins σ' H' s'/\D.nx σ' H'
 |.brk=>∃σ' H',Inv X pins σ' H' s'/\D.bk σ' H'
 |.cont=>∃σ' H',Inv X pins σ' H' s'/\D.ct σ' H'
 |.ret u=>∃v σ' H',Inv X pins σ' H' s'/\RelV v u/\D.rt v H'
def PE(X:Cx)(e:P3)(t:TE):Prop:=
 ∀(pins:List (KF×Sx)) (s:KM) (σ:St) (H:Hp) (Q:VK),Inv X pins σ H s->t σ H Q->Sg (Sf X.prog X.w) X.A (So e X.env) (EP X pins σ Q) X.xe s
def PT(X:Cx)(e:P3)(t:TT):Prop:=
 ∀(pins:List (KF×Sx)) (s:KM) (σ:St) (H:Hp) (Q:Bool->Hp->Prop),Inv X pins σ H s->t σ H Q->Sg (Sf X.prog X.w) X.A (isTrue e X.env (So e X.env)) (TP X pins σ Q) X.xe s
def PW(X:Cx)(e:P3)(t:TT):Prop:=
 ∀(fI:T9 KB) (pins:List (KF×Sx)) (s:KM) (σ:St) (H:Hp) (Q:Bool->Hp->Prop),Inv X pins σ H s->t σ H Q->Sg (Sf X.prog X.w) X.A (isTrue e X.env fI) (TP X pins σ Q) X.xe s
variable{X:Cx}
def PW.pt{e:P3}{t:TT}(h:PW X e t):PT X e t:=h _
def PA(X:Cx)(es:List P3)(t:TA):Prop:=
 ∀(pos:Sr) (pins:List (KF×Sx)) (s:KM) (σ:St) (H:Hp) (Q:List V->Hp->Prop),Inv X pins σ H s->t σ H Q->Sg (Sf X.prog X.w) X.A (spliced (SZ pos (Si es X.env))) (AP X pins σ Q) X.xe s
def PS(X:Cx)(st:Se)(t:TS):Prop:=
 ∀(pins:List (KF×Sx)) (s:KM) (σ:St) (H:Hp) (D:Ends),Inv X pins σ H s->t D σ H->Sg (Sf X.prog X.w) X.A (exec st X.env) (SP X pins D) X.xe s
def PSs(X:Cx)(st:List Se)(t:TS):Prop:=
 ∀(pins:List (KF×Sx)) (s:KM) (σ:St) (H:Hp) (D:Ends),Inv X pins σ H s->t D σ H->Sg (Sf X.prog X.w) X.A (execs st X.env) (SP X pins D) X.xe s
variable{A:Sk}{E:KB->KM->Prop}{s:KM}
def thn{α:Type}{t:T9 α}{Q Q':α->KM->Prop}{M:T_}(h:Sg M A t Q E s)(hQ:∀a s,Q a s->Q' a s):Sg M A t Q' E s:=Sy h hQ λ_ _ x=>x
section
variable {X:Cx}
def tVar(i:Nat):TE:=λσ H Q=>∃v,σ[i]?=be (be v)/\Q v H
def tC(v:V):TE:=λ_ H Q=>Q v H
variable{x:C_}{pos:Sr}
def dB{i:Nat}(hN:X.N[i]?=be x)(hv:Vis X.env.scope x)(hd:autoParam (zND x) zA1)(gV:autoParam (zNC x) zA1):PE X (.Name x pos) (tVar i):=by
 intro pins s σ H Q I h;obtain⟨v,e,h⟩:=h;obtain⟨m,hn,hl⟩:=I.loc;obtain⟨u,r,l⟩:=hl i x v hN e hv;have e_:EP X pins σ Q u s:=#[v,H,I,r,h];rcases l with⟨hk,hm⟩|⟨hk,c,hc,k_⟩
 .exact Ud (wpAny_loadName_local I.ok.kind hk hn hm e_) hd
 .rcases hk with hk|hk
  .exact Ud (wpAny_loadName_cell I.ok.kind hk hc k_ e_) hd
  .exact Ud (wpAny_loadName_free I.ok.kind hk hc k_ e_ gV) hd
def vU{i j pos}:PE X (.Constant (.int i) j pos) (tC (.int i)):=λ_ _ _ H _ I h=>wpAny_Constant_int #[.int i,H,I.tok _,#[_,rfl],h]
def vV{b j pos}:PE X (.Constant (.bool b) j pos) (tC (.bl b)):=λ_ _ _ H _ I h=>Constant_bool #[.bl b,H,I,rfl,h]
def vW{j pos}:PE X (.Constant .none j pos) (tC .non):=λ_ _ _ H _ I h=>Constant_none #[.non,H,I,rfl,h]
def pY{x j pos}:PE X (.Constant (.str x) j pos) (tC (.str x)):=λ_ _ _ H _ I h=>Calls.Constant_str #[.str x,H,I.tok _,#[_,rfl],h]
def Gl(X:Cx)(x:C_):Prop:=X.env.kindOf x=be .globalImplicit
variable{E Q:KB->KM->Prop}{pins:List (KF×Sx)}{u:KB}
def cN{s:KM}{σ:St}{H:Hp}(I:Inv X pins σ H s)(hg:Gl X x)(hm:X.mg x=be u)(h:Q u s)
  (hd:autoParam (zND x) zA1):Sg (Sf X.prog X.w) X.A (So (.Name x pos) X.env) Q E s:=
 Calls.Name_function_global I.ok.kind hg (Calls.loadGlobal_global (by rw[I.ok.glob];exact I.mod.glob.keeps I.bk) hm h) hd
def dD{s:KM}{σ:St}{H:Hp}(I:Inv X pins σ H s)(hg:Gl X x)(hm:X.mg x=q8)(hv:Sw x=be u)(h:Q u s)
  (hn:autoParam (x≠"__name__") zA1) (hd:autoParam (zND x) zA1):Sg (Sf X.prog X.w) X.A (So (.Name x pos) X.env) Q E s:=by
 obtain⟨mb,h1,h2⟩:=I.mod.blt;exact Calls.Name_function_global I.ok.kind hg (Calls.loadGlobal_builtin (by rw[I.ok.glob];exact I.mod.glob.keeps I.bk) hm (by rw[I.ok.blt];exact h1.keeps I.bk) ((h2 x hn).trans hv) h) hd
def pZ{v:V}(hg:Gl X x)(hm:X.mg x=be u)(r:RelV v u)(hd:autoParam (zND x) zA1):PE X (.Name x pos) (tC v):=
 λ_ _ _ H _ I h=>cN I hg hm #[v,H,I,r,h] hd
def jx{v:V}(hg:Gl X x)(hm:X.mg x=q8)(hv:Sw x=be u)(r:RelV v u)(hn:autoParam (x≠"__name__") zA1)(hd:autoParam (zND x) zA1):PE X (.Name x pos) (tC v):=
 λ_ _ _ H _ I h=>dD I hg hm hv #[v,H,I,r,h] hn hd
variable {a b:P3}{ta tb:TE}{pos:Sr}
variable {tA z_:TT}{b7:List P3}
def tAnd(t u:TT):TT:=λσ H Q=>t σ H λc H1=>if c=true then u σ H1 Q else Q false H1
def tOr(t u:TT):TT:=λσ H Q=>t σ H λc H1=>if c=true then Q true H1 else u σ H1 Q
def tNot(t:TT):TT:=λσ H Q=>t σ H λc H1=>Q (!c) H1
def qc(ha:PT X a tA):PW X (.BoolOp .And [a] pos) tA:=by
 intro wh pins s σ H Q I h;refine isTrue_and (thn (ha pins s σ H Q I h) λc s1 e=>?_);cases c with
 |true=>exact isTrue_and_nil e
 |false=>exact e
def qd(ha:PT X a tA):PW X (.BoolOp .Or [a] pos) tA:=by
 intro wh pins s σ H Q I h;refine isTrue_or (thn (ha pins s σ H Q I h) λc s1 e=>?_);cases c with
 |false=>exact isTrue_or_nil e
 |true=>exact e
def qe(ha:PT X a tA)(hb:PW X (.BoolOp .And (b::b7) pos) z_):PW X (.BoolOp .And (a::b::b7) pos) (tAnd tA z_):=by
 intro wh pins s σ H Q I h;refine isTrue_and (thn (ha pins s σ H _ I h) λc s1 c8=>?_);obtain⟨H1,I1,q1⟩:=c8;cases c with
 |true=>exact hb wh pins s1 σ H1 Q I1 q1
 |false=>exact#[H1,I1,q1]
def qf(ha:PT X a tA)(hb:PW X (.BoolOp .Or (b::b7) pos) z_):PW X (.BoolOp .Or (a::b::b7) pos) (tOr tA z_):=by
 intro wh pins s σ H Q I h;refine isTrue_or (thn (ha pins s σ H _ I h) λc s1 c8=>?_);obtain⟨H1,I1,q1⟩:=c8;cases c with
 |true=>exact#[H1,I1,q1]
 |false=>exact hb wh pins s1 σ H1 Q I1 q1
def qg(ha:PT X a tA):PT X (.UnaryOp .Not a pos) (tNot tA):=by
 intro pins s σ H Q I h;exact isTrue_not (ha pins s σ H (λc H1=>Q (!c) H1) I h)
def vX(ta tb:TE):TE:=λσ H Q=>ta σ H λx H1=>∃c,x=.bl c/\if c=true then tb σ H1 Q else Q (.bl false) H1
def vY(ta:TE):TE:=λσ H Q=>ta σ H λx H1=>∃c,x=.bl c/\Q (.bl (!c)) H1
def vZ{op}{t:TE}(h:PE X a t):PE X (.BoolOp op [a] pos) t:=λpins s σ H Q I hw=>BoolOp_one (h pins s σ H Q I hw)
def wa(ha:PE X a ta)(hb:PE X (.BoolOp .And (b::b7) pos) tb):PE X (.BoolOp .And (a::b::b7) pos) (vX ta tb):=by
 intro pins s σ H Q I h;refine BoolOp_and (thn (ha pins s σ H _ I h) λv s1 c8=>?_);obtain⟨x,H1,I1,r1,q1⟩:=c8;obtain⟨c,rfl,q1⟩:=q1;cases r1;refine S2 ?_;cases c with
 |true=>exact hb pins s1 σ H1 Q I1 q1
 |false=>exact#[.bl false,H1,I1,rfl,q1]
def wc(ha:PE X a ta):PE X (.UnaryOp .Not a pos) (vY ta):=by
 intro pins s σ H Q I h;refine UnaryOp_ (thn (ha pins s σ H _ I h) λv s1 c8=>?_);obtain⟨x,H1,I1,r1,q1⟩:=c8;obtain⟨c,rfl,q1⟩:=q1;cases r1;exact not_of (S2 #[.bl (!c),H1,I1,rfl,q1])
def tIf(t:TT)(ta tb:TE):TE:=λσ H Q=>t σ H λc H1=>if c=true then ta σ H1 Q else tb σ H1 Q
def we{c:P3}(hc:PT X c tA)(ha:PE X a ta)(hb:PE X b tb):PE X (.IfExp c a b pos) (tIf tA ta tb):=by
 intro pins s σ H Q I h;refine wpAny_IfExp (thn (hc pins s σ H _ I h) λd s1 c8=>?_);obtain⟨H1,I1,q1⟩:=c8;cases d with
 |true=>exact ha pins s1 σ H1 Q I1 q1
 |false=>exact hb pins s1 σ H1 Q I1 q1
end
def SqL(K:Ex)(H:Hp)(a:KF)(xs:List V):Prop:=
 Rd H a (.lst xs)\/
  ∃(o:Sx) (its:Array KB) (n:Nat),K.lookup a=be o/\o.cls=.type "list"/\o.dict=q8/\o.data=.seq its n/\its.size<=sizeLine/\Vals xs its.toList
def SqT(K:Ex)(H:Hp)(a:KF)(xs:List V):Prop:=
 Rd H a (.tup xs)\/
  ∃(o:Sx) (its:Array KB) (n:Nat),K.lookup a=be o/\o.cls=.type "tuple"/\o.data=.seq its n/\its.size<=sizeLine/\Vals xs its.toList
def absV:KB->Option V
 |.none=>be .non
 |.bool b=>be (.bl b)
 |.int i _=>be (.int i)
 |.str x _=>be (.str x)
 |.bytes b _=>be (.byt b)
 |.float b _=>be (.flt b)
 |.ref a=>be (.ref a)
 |.type n=>be (.ty n)
 |_=>q8
variable{u:KB}
def RelV.abs{x:V}(r:RelV x u):absV u=be x:=by
 cases x with
 |non=>cases r;rfl
 |bl _=>cases r;rfl
 |int _=>obtain⟨t,rfl⟩:=r;rfl
 |str _=>obtain⟨t,rfl⟩:=r;rfl
 |byt _=>obtain⟨t,rfl⟩:=r;rfl
 |flt _=>obtain⟨t,rfl⟩:=r;rfl
 |ref _=>cases r;rfl
 |ty _=>cases r;rfl
def RelV.inj{x y:V}(r:RelV x u)(q:RelV y u):x=y:=Option.some.inj (r.abs.symm.trans q.abs)
def Vals.inj:∀{xs ys:List V} {us:List KB},Vals xs us->Vals ys us->xs=ys:=by
 intro xs ys us h;induction h generalizing ys with
 |nil=>intro g;cases g;rfl
 |cons r _ e=>
  intro g;cases g with
  |cons r' t'=>rw[r.inj r',e t']
section
variable {X:Cx}{pins:List (KF×Sx)}{σ:St}{H:Hp}{s:KM}{a:KF}{xs ys:List V}
def SqL.of{K:Ex}(h:H a=be (.lst xs)):SqL K H a xs:=.inl (.inl h)
def SqT.of{K:Ex}(h:H a=be (.tup xs)):SqT K H a xs:=.inl (.inl h)
def Inv.list(I:Inv X pins σ H s)(h:SqL X.K H a xs):∃its:List KB,Vals xs its/\PlainL s.heap a its.toArray/\xs.length<=sizeLine:=by
 rcases h with h|⟨o,its,n,hk,hc,hd,hs,hz,r⟩
 .obtain⟨z,its,n,r,e⟩:=h.ok I.hok;exact#[its,r,#[_,n,e,rfl,rfl,rfl],z]
 .refine#[its.toList,r,#[o,n,I.kIn a o hk,hc,hd,by simpa using hs],?_];have e:=r.length;simp only[HP]at e;lia
def Inv.tuple(I:Inv X pins σ H s)(h:SqT X.K H a xs):∃its:List KB,Vals xs its/\IsTup s.heap a its.toArray/\xs.length<=sizeLine:=by
 rcases h with h|⟨o,its,n,hk,hc,hs,hz,r⟩
 .obtain⟨z,its,r,p⟩:=h.ok I.hok;exact#[its,r,p,z]
 .refine#[its.toList,r,#[o,I.kIn a o hk,hc,n,by simpa using hs],?_];have e:=r.length;simp only[HP]at e;lia
def Inv.list_inj(I:Inv X pins σ H s)(h:SqL X.K H a xs)(h':SqL X.K H a ys):xs=ys:=by
 obtain⟨its,r,⟨o,n,e,_,_,d⟩,_⟩:=I.list h;obtain⟨its',r',⟨o',n',e',_,_,d'⟩,_⟩:=I.list h';rw[e]at e';cases e';rw[d]at d';injection d' with d1 _;have:its=its':=by simpa using congrArg Array.toList d1
 subst this;exact r.inj r'
end
abbrev Cx.wish(X:Cx)(E:KB->KM->Prop):Cx:={X with xe:=E}
abbrev Cx.nox(X:Cx):Cx:=X.wish λ_ _=>False
def Cx.Ok.wish(ok:X.Ok)(E:KB->KM->Prop):(X.wish E).Ok:=
 #[ok.mod,ok.kind,ok.glob,ok.blt,ok.above,ok.inj,ok.has,ok.cab,ok.hd,ok.frames,ok.stk,ok.exf,ok.bs,ok.bsz,ok.noex,ok.exfs,ok.funs,ok.frf]
def Cx.Ok.unwish(ok:(X.wish E).Ok):X.Ok:=
 #[ok.mod,ok.kind,ok.glob,ok.blt,ok.above,ok.inj,ok.has,ok.cab,ok.hd,ok.frames,ok.stk,ok.exf,ok.bs,ok.bsz,ok.noex,ok.exfs,ok.funs,ok.frf]
section
variable {X:Cx}{pins:List (KF×Sx)}{σ:St}{H:Hp}{s:KM}{E:KB->KM->Prop}
def Inv.wish(I:Inv X pins σ H s)(E:KB->KM->Prop):Inv (X.wish E) pins σ H s:=#[I.ok.wish E,I.os,I.bare,I.base,I.loc,I.cell,I.free,I.freeC,I.pin,I.hok,I.len]
def Inv.unwish(I:Inv (X.wish E) pins σ H s):Inv X pins σ H s:=#[I.ok.unwish,I.os,I.bare,I.base,I.loc,I.cell,I.free,I.freeC,I.pin,I.hok,I.len]
def SP.unwish{D:Ends}{f:Flow}{s':KM}(h:SP (X.wish E) pins D f s'):SP X pins D f s':=by
 cases f with
 |next=>obtain⟨σ',H',I,q⟩:=h;exact#[σ',H',I.unwish,q]
 |brk=>obtain⟨σ',H',I,q⟩:=h;exact#[σ',H',I.unwish,q]
 |cont=>obtain⟨σ',H',I,q⟩:=h;exact#[σ',H',I.unwish,q]
 |ret u=>obtain⟨v,σ',H',I,r,q⟩:=h;exact#[v,σ',H',I.unwish,r,q]
def PSs.nox{st:List Se}{t:TS}(h:PSs X.nox st t):PSs X st t:=λpins s σ H D I hw=>
 Sy (h pins s σ H D (I.wish _) hw) (λ_ _ q=>q.unwish) λ_ _ z=>False.elim z
end
section
variable {X:Cx}{st:Se}{b7:List Se}{t u:TS}{e:P3}{te:TE}{pos:Sr}
def wg:TS:=λD σ H=>D.nx σ H
def tSeq(t u:TS):TS:=λD σ H=>t {D with nx:=u D} σ H
def pss_nil:PSs X [] wg:=λ_ _ σ H _ I h=>SY #[σ,H,I,h]
def gy(h1:PS X st t)(h2:PSs X b7 u):PSs X (st::b7) (tSeq t u):=by
 intro pins s σ H D I h;refine wpAny_execs_cons (thn (h1 pins s σ H {D with nx:=u D} I h) λf s1 q=>?_);cases f with
 |next=>
  obtain⟨σ',H',I',q⟩:=q;exact h2 pins s1 σ' H' D I' q
 |ret v=>exact q
 |brk=>exact q
 |cont=>exact q
def jy(h1:PS X st t):PSs X [st] t:=by
 intro pins s σ H D I h;refine wpAny_execs_cons (thn (h1 pins s σ H D I h) λf s1 q=>?_);cases f with
 |next=>exact SY q
 |ret v=>exact q
 |brk=>exact q
 |cont=>exact q
def Inv.quiet{pins:List (KF×Sx)}{σ:St}{H:Hp}{s:KM}(I:Inv X pins σ H s):interactive X.env=false:=by simp[interactive,I.ok.kind]
def wj(te:TE):TS:=λD σ H=>te σ H λ_ H1=>D.nx σ H1
def jz(he:PE X e te)(hs:autoParam (SA e q8 pos.line X.env=pure false) zA0):PS X (.Expr e pos) (wj te):=by
 intro pins s σ H D I h;exact wpAny_Expr_any (thn (he pins s σ H _ I h) λv s1 ⟨x,H1,I1,r1,q1⟩=>#[σ,H1,I1,q1]) I.quiet hs
def tRet(te:TE):TS:=λD σ H=>te σ H D.rt
def jA(he:PE X e te):PS X (.Return (be e) pos) (tRet te):=by
 intro pins s σ H D I h;exact wpAny_Return_some (thn (he pins s σ H _ I h) λv s1 ⟨x,H1,I1,r1,q1⟩=>#[x,σ,H1,I1,r1,q1])
def tIfS(c:TT)(t u:TS):TS:=λD σ H=>c σ H λb H1=>if b=true then t D σ H1 else u D σ H1
def qh{c:P3}{a b:List Se}{tc:TT}(hc:PT X c tc)(ha:PSs X a t)(hb:PSs X b u):PS X (.If c a b pos) (tIfS tc t u):=by
 intro pins s σ H D I h;refine wpAny_If (thn (hc pins s σ H _ I h) λd s1 c8=>?_);obtain⟨H1,I1,q1⟩:=c8;cases d with
 |true=>exact ha pins s1 σ H1 D I1 q1
 |false=>exact hb pins s1 σ H1 D I1 q1
def wk:TS:=λ_ _ _=>False
def ps_never:PS X st wk:=λ_ _ _ _ _ _ h=>h.elim
end
abbrev TG:=V->St->Hp->(St->Hp->Prop)->Prop
abbrev TGs:=List V->St->Hp->(St->Hp->Prop)->Prop
def PG(X:Cx)(ge:P3)(t:TG):Prop:=
 ∀(pins:List (KF×Sx)) (s:KM) (σ:St) (H:Hp) (v:V) (u:KB) (Q:St->Hp->Prop),Inv X pins σ H s->RelV v u->t v σ H Q->
  Sg (Sf X.prog X.w) X.A (SS ge X.env u) (λ_ s'=>∃σ' H',Inv X pins σ' H' s'/\Q σ' H') X.xe s
def PGs(X:Cx)(ts:List P3)(t:TGs):Prop:=
 ∀(pins:List (KF×Sx)) (s:KM) (σ:St) (H:Hp) (vs:List V) (us:List KB) (Q:St->Hp->Prop),Inv X pins σ H s->Vals vs us->t vs σ H Q->
  Sg (Sf X.prog X.w) X.A (TM ((Sm ts X.env).map (·.2)) us) (λ_ s'=>∃σ' H',Inv X pins σ' H' s'/\Q σ' H') X.xe s
abbrev TSet:=V->V->V->Hp->(Hp->Prop)->Prop
def PSet(X:Cx)(t:TSet):Prop:=
 ∀(pins:List (KF×Sx)) (s:KM) (σ:St) (H:Hp) (o i v:V) (ov iv u:KB) (Q:Hp->Prop),Inv X pins σ H s->RelV o ov->RelV i iv->RelV v u->t o i v H Q->
  Sg (Sf X.prog X.w) X.A (Tw ov iv u) (λ_ s'=>∃H',Inv X pins σ H' s'/\Q H') X.xe s
abbrev TIp:=V->V->Hp->VK->Prop
def PIp(X:Cx)(op:TK)(t:TIp):Prop:=
 ∀(pins:List (KF×Sx)) (s:KM) (σ:St) (H:Hp) (x y:V) (v u:KB) (Q:VK),Inv X pins σ H s->RelV x v->RelV y u->t x y H Q->
  Sg (Sf X.prog X.w) X.A (inplaceOp op v u) (EP X pins σ Q) X.xe s
section
variable {X:Cx}{pos:Sr}
def fC(i:Nat):TG:=λv σ H Q=>Q (σ.set i (be v)) H
variable{i:Nat}{x:C_}
def dE(hN:X.N.Nodup)(hi:X.N[i]?=be x)(hx:Loc X.env.scope x)(hf:autoParam (zFN X x) zA3):PG X (.Name x pos) (fC i):=by
 intro pins s σ H v u Q I r h;exact Tn (dU I hN hi hx r (λs' I'=>#[_,H,I',h]) hf)
def gNil:TGs:=λvs σ H Q=>vs=[]/\Q σ H
def wl(t:TG)(u:TGs):TGs:=λvs σ H Q=>∃v r,vs=v::r/\t v σ H λσ' H'=>u r σ' H' Q
def wm:PGs X [] gNil:=by
 intro pins s σ H vs us Q I r h;obtain⟨e,h⟩:=h;subst e;cases r;exact Ul #[σ,H,I,h]
variable{e:P3}{es:List P3}
def wn{t:TG}{u:TGs}(h1:PG X e t)(h2:PGs X es u)
  (hs:autoParam ((Sm (e::es) X.env).map (·.2)=SS e X.env::(Sm es X.env).map (·.2)) zA0):PGs X (e::es) (wl t u):=by
 intro pins s σ H vs us Q I r h;obtain⟨v,vr,e1,h⟩:=h;subst e1;cases r with
 |cons r rr=>
  rw[hs];refine Tj (thn (h1 pins s σ H _ _ _ I r h) λ_ s1 c8=>?_);obtain⟨σ1,H1,I1,q1⟩:=c8;exact h2 pins s1 σ1 H1 _ _ Q I1 rr q1
def gTup(K:Ex)(n:Nat)(t:TGs):TG:=λv σ H Q=>∃a xs,v=.ref a/\SqT K H a xs/\xs.length=n/\t xs σ H Q
def gz{k:Nat}{t:TGs}{n:Nat}(hc:X.calm=true)(h:PGs X es t)
  (hn:autoParam ((Sm es X.env).length=n) zA0) (l5:autoParam ((Sm es X.env).findIdx? (·.1)=none) zA0):PG X (.Tuple es k pos) (gTup X.K n t):=by
 intro pins s σ H v u Q I r hw;obtain⟨a,xs,e1,hq,hl,hw⟩:=hw;subst e1;cases r;obtain⟨its,rv,ht,hz⟩:=I.tuple hq;refine assign_Tuple_tuple (I.ok.hd hc) ht (by simp[hn,<-hl,rv.length]) l5 λh' hx=>?_;have I1:Inv X pins σ H {s with heap:=h'}:=I.kept (t':=s.toks) λb o e=>hx b o (Gn (Heap.lt_size e)) e;exact h pins _ σ H xs _ Q I1 (by simpa using rv) hw
def gSub(to ti:TE)(t:TSet):TG:=λv σ H Q=>to σ H λo H1=>ti σ H1 λi H2=>t o i v H2 λH3=>Q σ H3
def qi{o i:P3}{to ti:TE}{t:TSet}(ho:PE X o to)(hi:PE X i ti)(hs:PSet X t)
  (ha:∀v,SS (.Subscript o i pos) X.env v=(do
   let ov <-SG [v] (So o X.env)
   let iv <-SG [v,ov] (So i X.env)
   S5 pos
   SG [v,ov,iv] (Tw ov iv v)
   TY [v,ov,iv] []):=by intro _;rfl):PG X (.Subscript o i pos) (gSub to ti t):=by
 intro pins s σ H v u Q I r h;rw[ha];refine Os (SE (thn (ho pins s σ H _ I h) λov s1 c8=>?_));obtain⟨x,H1,I1,r1,q1⟩:=c8;refine Os (SE (thn (hi pins s1 σ H1 _ I1 q1) λiv s2 c8=>?_));obtain⟨y,H2,I2,r2,q2⟩:=c8;refine Os (SL (Os (SE (thn (hs pins s2 σ H2 x y v ov iv u _ I2 r1 r2 r q2) λ_ s3 c8=>?_))));obtain⟨H3,I3,q3⟩:=c8;exact wpAny_release #[σ,H3,I3,q3]
def tAsg(te:TE)(g:TG):TS:=λD σ H=>te σ H λx H1=>g x σ H1 D.nx
variable{te:TE}
def gA{tg:P3}{g:TG}(he:PE X e te)(hg:PG X tg g)(hs:autoParam (SM [tg] e pos.line X.env=pure false) zA0)(hw:autoParam (SN [tg] e X.env=pure none) zA0)
  (h1:autoParam ((Sm [tg] X.env).map (·.2)=[SS tg X.env]) zA0):PS X (.Assign [tg] e pos) (tAsg te g):=by
 intro pins s σ H D I h;refine wpAny_Assign_stores (thn (he pins s σ H _ I h) λv s1 hh=>?_) hs hw;obtain⟨x,H1,I1,r1,q1⟩:=hh;rw[h1];exact thn (hg pins s1 σ H1 x v _ I1 r1 q1) λ_ s2 q=>q
def jB{e8:Sr}(hN:X.N.Nodup)(hi:X.N[i]?=be x)(hx:Loc X.env.scope x)(he:PE X e te)(hs:autoParam (SA e (be (.Name x e8)) pos.line X.env=pure false) zA0)(hf:autoParam (zFN X x) zA3):
  PS X (.Assign [.Name x e8] e pos) (tAsg te (fC i)):=by
 intro pins s σ H D I h;refine wpAny_Assign_Name (thn (he pins s σ H _ I h) λv s1 hh=>?_) hs;obtain⟨y,H1,I1,r1,q1⟩:=hh;exact dU I1 hN hi hx r1 (λs2 I2=>#[_,H1,I2,q1]) hf
def tPar(i j:Nat)(ta:TA):TS:=λD σ H=>ta σ H λvs H1=>∃v w,vs=[v,w]/\D.nx ((σ.set i (be v)).set j (be w)) H1
def wo{j:Nat}{y:C_}{a b:P3}{ta:TA}{px py pt:Sr}{kt k2 Km}(hc:X.calm=true)(hN:X.N.Nodup)(hi:X.N[i]?=be x)(hj:X.N[j]?=be y)(M5:i≠j)
  (hx:X.env.scope.names.lookup x=be .local) (hy:X.env.scope.names.lookup y=be .local) (ha:PA X [a,b] ta)
  (hw:SN [.Tuple [.Name x px,.Name y py] kt pt] (.Tuple [a,b] k2 Km) X.env=pure (be [x,y]))
  (hs:autoParam (SM [.Tuple [.Name x px,.Name y py] kt pt] (.Tuple [a,b] k2 Km) pos.line X.env=pure false) zA0):
  PS X (.Assign [.Tuple [.Name x px,.Name y py] kt pt] (.Tuple [a,b] k2 Km) pos) (tPar i j ta):=by
 intro pins s σ H D I h;rw[exec_Assign_arm];refine Os (SL ?_);rw[hs];refine Os (Sh ?_);rw[if_neg Ku];refine Os (Tuple_ (thn (ha _ pins s σ H _ I h) λus s1 c8=>?_));obtain⟨vs,H1,I1,r1,q1⟩:=c8;obtain⟨v,w,e1,q1⟩:=q1;subst e1;obtain⟨u1,u2,rfl,rv,g8⟩:∃u1 u2,us=[u1,u2]/\RelV v u1/\RelV w u2:=by
  cases r1 with
  |cons p q=>
   cases q with
   |cons p' q'=>
    cases q';exact#[_,_,rfl,p,p']
 refine Ss ?_ (by show 2<=sizeLine;decide);have I2:Inv X pins σ H1 {s1 with heap:=s1.heap.push {cls:=.type "tuple",data:=.seq [u1,u2].toArray} }:=I1.kept (t':=s1.toks) λb o e=>Heap.get?_push_of_some _ e;rw[hw];refine Os (Sh ?_);show Sg (Sf X.prog X.w) X.A (do rule "assign.swapped-stores";let items <-unpackItems (.ref s1.heap.objs.size) 2 q8;TM [λv=>TJ X.env y v,λv=>TJ X.env x v] items.reverse;pure Flow.next) _ _ _;refine Os (Ub (Os (unpackItems_tuple (items:=[u1,u2].toArray) (I.ok.hd hc) (IsTup.new s1.heap _) λh' gt=>?_)));have I3:=I2.kept (h':=h') (t':=s1.toks) λb o e=>gt b o (Gn (Heap.lt_size e)) e;show Sg _ _ (TM [λv=>TJ X.env y v,λv=>TJ X.env x v] [u2,u1]>>=λ_=>pure Flow.next) _ _ _;refine Os (Tj (wpAny_bindName (dU I3 hN hj (.inl hy) g8 (λs2 I4=>?_) (.inr hy))));refine Tj (wpAny_bindName (dU I4 hN hi (.inl hx) rv (λs3 I5=>Ul (Sh ?_)) (.inr hx)));rw[List.set_comm _ _ (Ne.symm M5)]at I5;exact#[_,H1,I5,q1]
def wr(to ti te:TE)(A_:V->V->Hp->VK->Prop)(Mf:TIp)(B_:TSet):TS:=λD σ H=>to σ H λo H1=>ti σ H1 λi H2=>A_ o i H2 λx H3=>te σ H3 λy H4=>Mf x y H4 λz H5=>B_ o i z H5 λH6=>D.nx σ H6
def PGet(X:Cx)(t:V->V->Hp->VK->Prop):Prop:=
 ∀(pins:List (KF×Sx)) (s:KM) (σ:St) (H:Hp) (o i:V) (ov iv:KB) (Q:VK),Inv X pins σ H s->RelV o ov->RelV i iv->t o i H Q->
  Sg (Sf X.prog X.w) X.A (Tz ov iv) (EP X pins σ Q) X.xe s
def wt{o i:P3}{to ti:TE}{A_:V->V->Hp->VK->Prop}{Mf:TIp}{B_:TSet}{op:TK}{Lf:Sr}(ho:PE X o to)(hi:PE X i ti)(hg:PGet X A_)(he:PE X e te)(hp:PIp X op Mf)(hs:PSet X B_)
  (ha:autoParam (∀ov iv new,augStore i ov iv new=(do SG [new,ov,iv] (Tw ov iv new);TY [new,ov,iv] [];pure .next)) zA7):PS X (.AugAssign (.Subscript o i Lf) op e pos) (wr to ti te A_ Mf B_):=by
 intro pins s σ H D I h;refine wpAny_AugAssign_SubscriptAny (thn (ho pins s σ H _ I h) λov s1 hh=>?_) ha;obtain⟨x1,H1,I1,r1,q1⟩:=hh;refine thn (hi pins s1 σ H1 _ I1 q1) λiv s2 c8=>?_;obtain⟨x2,H2,I2,r2,q2⟩:=c8;refine thn (hg pins s2 σ H2 x1 x2 ov iv _ I2 r1 r2 q2) λd_ s3 c8=>?_;obtain⟨x3,H3,I3,r3,q3⟩:=c8;refine thn (he pins s3 σ H3 _ I3 q3) λv s4 c8=>?_;obtain⟨x4,H4,I4,r4,q4⟩:=c8;refine thn (hp pins s4 σ H4 x3 x4 d_ v _ I4 r3 r4 q4) λnew s5 c8=>?_;obtain⟨x5,H5,I5,r5,q5⟩:=c8;exact thn (hs pins s5 σ H5 x1 x2 x5 ov iv new _ I5 r1 r2 r5 q5) λ_ s6 ⟨H6,I6,q6⟩=>#[σ,H6,I6,q6]
def ipI(f:Int->Int->Int):TIp:=λx y H Q=>∃i j,x=.int i/\y=.int j/\Q (.int (f i j)) H
def wu:PIp X .Add (ipI λi j=>i+j):=by
 intro pins s σ H x y v u Q I r1 r2 h;obtain⟨i,j,e1,e2,q⟩:=h;subst e1;subst e2;obtain⟨t,rfl⟩:=r1;obtain⟨t',rfl⟩:=r2;exact iadd_int #[.int _,H,I.tok _,#[_,rfl],q]
def wv(c:TT)(tb:TS):TS:=λD σ H=>∃W:Nat->St->Hp->Prop,(∃m,W m σ H)/\∀m σ H,W m σ H->
 c σ H λb H1=>if b=true then ∃N:St->Hp->Prop,(∀σ' H',N σ' H'->∃m',m'<m/\W m' σ' H')/\tb {D with nx:=N,ct:=N,bk:=D.nx} σ H1 else D.nx σ H1
def qj{c:P3}{body:List Se}{tc:TT}{tb:TS}(hp:SB (Sf X.prog X.w) X.A X.env X.xe)(hc:PT X c tc)(hb:PSs X body tb):PS X (.While c body [] pos) (wv tc tb):=by
 intro pins s σ H D I h;obtain⟨W,⟨m0,w0⟩,c9⟩:=h;refine wpAny_While (codeAny_whileLoop (λn s'=>∃σ' H',Inv X pins σ' H' s'/\W n σ' H') ?_ m0 #[σ,H,I,w0]);rintro n s1⟨σ1,H1,I1,w1⟩;refine SH hp (thn (hc pins s1 σ1 H1 _ I1 (c9 n σ1 H1 w1)) λb s2 c8=>?_);obtain⟨H2,I2,q2⟩:=c8;cases b with
 |true=>
  obtain⟨N,hN,q2⟩:=q2;rw[if_pos rfl];refine SH hp (thn (hb pins s2 σ1 H2 _ I2 q2) λf s3 q3=>?_);cases f with
  |next=>
   obtain⟨σ3,H3,I3,n3⟩:=q3;obtain⟨m',hm,w3⟩:=hN σ3 H3 n3;exact#[m',hm,σ3,H3,I3,w3]
  |cont=>
   obtain⟨σ3,H3,I3,n3⟩:=q3;obtain⟨m',hm,w3⟩:=hN σ3 H3 n3;exact#[m',hm,σ3,H3,I3,w3]
  |brk=>exact q3
  |ret v=>exact q3
 |false=>
  rw[if_neg Gu];exact SY #[σ1,H2,I2,q2]
end
structure It where
 go:Nat->Hp->Prop
 yld:Nat->Hp->V->Hp->Prop
 stop:Nat->Hp->Prop
def FpOk(X:Cx)(pins:List (KF×Sx))(H:Hp)(b:KF):Prop:=
 H b=q8/\b≠X.env.locals/\b∉X.fs/\(b∈X.ex\/X.s₀.heap.objs.size<=b)/\(∀x c,X.env.cells.lookup x=be c->c≠b)/\∀p∈X.pn++pins,p.1≠b
variable{σ:St}
def Inv.fpOk{pins:List (KF×Sx)}{H':Hp}(I:Inv X pins σ H s)(hb:s.heap.objs.size<=b)(hn:H' b=q8):FpOk X pins H' b:=by
 refine#[hn,G8 (GC I.lt hb),I.nofs hb,.inr (Go I.sz hb),λx c e z=>?_,λp hp z=>?_]
 .obtain⟨v,q⟩:=I.cell x c e;exact absurd (GC q.lt (by rw[z];exact hb)) (G7 _)
 .exact absurd (GC (Heap.lt_size (I.pin p hp).1) (by rw[z];exact hb)) (G7 _)
structure Turn(P:Sd)(w:Sj)(K:Ex)(tg:P3)(J:It)(fp:List KF)(it:KF)(tn:Nat->Sl->Prop):Prop where
 mem:it∈fp
 obj:∀i h,tn i h->∀b∈fp,∃o,h.get? b=be o/\∀v,o.data≠.cell v
 keep:∀i h h',tn i h->(∀b∈fp,∀o,h.get? b=be o->h'.get? b=be o)->tn i h'
 item:∀(X:Cx),X.prog=P->X.w=w->X.K=K->X.calm=true->∀(i:Nat) (pins:List (KF×Sx)) (s:KM) (σ:St) (H:Hp) (E:KB->KM->Prop),Inv X pins σ H s->(∀b∈fp,FpOk X pins H b)->tn i s.heap->J.go i H->
  Sg (Sf P w) X.A (pyNext (.ref it)) (λr s1=>∃u,r=be u/\
   Sg (Sf P w) X.A (Tb tg (.ref it) u) (λ_ s2=>∃x H',Inv X pins σ H' s2/\RelV x u/\J.yld i H x H'/\tn (i+1) s2.heap/\∀b∈fp,H' b=q8) E s1) E s
 done:∀(X:Cx),X.prog=P->X.w=w->X.K=K->X.calm=true->∀(i:Nat) (pins:List (KF×Sx)) (s:KM) (σ:St) (H:Hp) (E:KB->KM->Prop),Inv X pins σ H s->(∀b∈fp,FpOk X pins H b)->tn i s.heap->J.stop i H->
  Sg (Sf P w) X.A (pyNext (.ref it)) (λr s1=>r=q8/\Inv X pins σ H s1) E s
 self:∀(A:Sk) (i:Nat) (s:KM) (Q:KB->KM->Prop) (E:KB->KM->Prop),tn i s.heap->Q (.ref it) s->Sg (Sf P w) A (pyIter (.ref it)) Q E s
abbrev TI:=St->Hp->(It->Hp->Prop)->Prop
def PIE(X:Cx)(pins:List (KF×Sx))(σ:St)(tg:P3)(R:It->Hp->Prop)(Mg:KB)(s2:KM):Prop:=
 ∃(it:KF) (fp:List KF) (tn:Nat->Sl->Prop) (J:It) (H':Hp),Mg=.ref it/\Inv X pins σ H' s2/\Turn X.prog X.w X.K tg J fp it tn/\tn 0 s2.heap/\(∀b∈fp,FpOk X pins H' b)/\R J H'
def PI(X:Cx)(tg iter:P3)(wi:TI):Prop:=
 ∀(pins:List (KF×Sx)) (s:KM) (σ:St) (H:Hp) (R:It->Hp->Prop),Inv X pins σ H s->wi σ H R->
  Sg (Sf X.prog X.w) X.A (So iter X.env) (λv s1=>Sg (Sf X.prog X.w) X.A (pyIter v) (PIE X pins σ tg R) X.xe s1) X.xe s
variable{tg:P3}
def jC{M:T_}{it:KF}{o:Sx}{n:String}{vs:Array KB}{Q:Unit->KM->Prop}(ho:s.heap.get? it=be o)(hc:o.cls=.type n)(hd:o.data=.fields vs)
    (hn:["enumerate","zip","dict_itemiterator","dict_reverseitemiterator","odict_iterator","itertools.zip_longest","itertools.pairwise"].contains n=false) (hQ:Q () s):Sg M A (Tb tg (.ref it) u) Q E s:=by
  unfold Tb;cases tg<;>first
    |exact Sh hQ
    |(cases u<;>first
        |exact Sh hQ
        |( refine Os (wpAny_load ho ?_)
           rw[hc,hd];show Sg M A (if(["enumerate","zip","dict_itemiterator","dict_reverseitemiterator","odict_iterator","itertools.zip_longest","itertools.pairwise"].contains n&&vs[0]?==be (S9 _))=true then _ else _) Q E s;rw[if_neg (by intro h;rw[hn,Bool.false_and]at h;cases h)];exact Sh hQ))
def Itl(K:Ex)(a:KF):It:=
 #[λi H=>∃xs x,SqL K H a xs/\xs[i]?=be x,λi H x H'=>H'=H/\∀xs,SqL K H a xs->xs[i]?=be x,λi H=>∃xs,SqL K H a xs/\xs.length<=i]
def Itr(lo:Int)(n:Nat):It:=#[λi _=>i<n,λi H x H'=>H'=H/\x=.int (lo+i),λi _=>n<=i]
variable{K:Ex}
def ww(a it:KF):Turn P w K tg (Itl K a) [it] it (λi h=>h.IsListIter it a i) where
 mem:=Kv
 obj:=λi h st b hb=>by
  have e:b=it:=by simpa using hb
  subst e;obtain⟨o,e,c,d⟩:=st;exact#[o,e,λv z=>by rw[d]at z;cases z]
 keep:=λi h h' st k=>st.at λo e=>k it Kv o e
 item:=by
  intro X hP hw hK hc i pins s σ H E I hf st hg;subst hP hw hK;obtain⟨xs,x,hq,hx⟩:=hg;obtain⟨its,rv,p,hz⟩:=I.list hq;obtain⟨u,hu,ru⟩:=rv.get hx;obtain⟨f0,f1,f2,f3,f4,f5⟩:=hf it Kv;refine wpAny_pyNext_list_item st p.isList (x:=u) (by simpa using hu) λh' y8 sb=>?_;have I1:Inv X pins σ H {s with heap:=h'}:=I.turned (t':=s.toks) (λb o hb e=>(sb.2 b hb).trans e) f0 f1 f3 f4 f5;obtain⟨o,e,c,d⟩:=id y8;exact#[u,rfl,jC (s:={s with heap:=h'}) e c d Ku #[x,H,I1,ru,#[rfl,λys hy=>by rw[I.list_inj hy hq];exact hx],y8,λb hb=>(hf b hb).1]]
 done:=by
  intro X hP hw hK hc i pins s σ H E I hf st hg;subst hP hw hK;obtain⟨xs,hq,hx⟩:=hg;obtain⟨its,rv,p,hz⟩:=I.list hq;obtain⟨f0,f1,f2,f3,f4,f5⟩:=hf it Kv;have hl:=rv.length;exact wpAny_pyNext_list_end (I.ok.hd hc) st p.isList Pa λh' eb=>#[rfl,I.turned (t':=s.toks) (λb o hb e=>eb b o hb e) f0 f1 f3 f4 f5]
 self:=λ_ _ _ _ _ st h=>wpAny_pyIter_listiter st h
def wx(it:KF)(lo:Int)(n:Nat):Turn P w K tg (Itr lo n) [it] it (λi h=>IsRangeIter h it (lo+(i:Nat)*1) ((n:Int)-(i:Nat)) 1) where
 mem:=Kv
 obj:=λi h st b hb=>by
  have e:b=it:=by simpa using hb
  subst e;exact⟨_,st,λv z=>by
   have z':Data.fields _=Data.cell v:=z;cases z'⟩
 keep:=λi h h' st k=>k it Kv _ st
 item:=by
  intro X hP hw hK hc i pins s σ H E I hf st hg;subst hP hw hK;obtain⟨f0,f1,f2,f3,f4,f5⟩:=hf it Kv;have W:=Walks.range (prog:=X.prog) (w:=X.w) (I.ok.hd hc) it lo 1 n;refine W.item i s _ _ hg st λv h' tk hv y8 kk=>?_;obtain⟨t,rfl⟩:=hv;have I1:Inv X pins σ H {s with heap:=h',toks:=tk}:=I.turned (λb o hb e=>kk b o (by simpa using hb) e) f0 f1 f3 f4 f5;refine#[_,rfl,jC (s:={s with heap:=h',toks:=tk}) (n:="range_iterator") y8 rfl rfl Ku #[.int (lo+i),H,I1,#[t,?_],#[rfl,rfl],y8,λb hb=>(hf b hb).1]];rw[Int.mul_one]
 done:=by
  intro X hP hw hK hc i pins s σ H E I hf st hg;subst hP hw hK;obtain⟨f0,f1,f2,f3,f4,f5⟩:=hf it Kv;exact wpAny_pyNext_range_end (I.ok.hd hc) st (by have:n<=i:=hg;lia) λh' eb=>#[rfl,I.turned (t':=s.toks) (λb o hb e=>eb b o hb e) f0 f1 f3 f4 f5]
 self:=λ_ _ _ _ _ st h=>wpAny_pyIter_rangeiter st h
section
variable {X:Cx}{tg:P3}
def qk(K:Ex)(tl:TE):TI:=λσ H R=>tl σ H λx H1=>∃a,x=.ref a/\(∃xs,SqL K H1 a xs)/\R (Itl K a) H1
def jD{l:P3}{tl:TE}(hl:PE X l tl):PI X tg l (qk X.K tl):=by
 intro pins s σ H R I h;refine thn (hl pins s σ H _ I h) λv s1 c8=>?_;obtain⟨x,H1,I1,r1,q1⟩:=c8;obtain⟨a,e,⟨xs,hq⟩,q⟩:=q1;subst e;cases r1;obtain⟨its,rv,p,hz⟩:=I1.list hq;refine wpAny_pyIter_list p.isList ?_;refine#[s1.heap.objs.size,[s1.heap.objs.size],_,_,H1,rfl,I1.kept (t':=s1.toks) λb o e=>Heap.get?_push_of_some _ e,ww a _,#[_,Heap.get?_push_size _ rfl,rfl,rfl],λb hb=>?_,q];have e:b=s1.heap.objs.size:=by simpa using hb
 subst e;exact I1.fpOk (Gg _) (I1.hok.fresh (Gg _))
variable{pins:List (KF×Sx)}{σ:St}{H:Hp}{s:KM}
def ql{R:It->Hp->Prop}{E:KB->KM->Prop}{lo hi:Int}{t u v:Um}{tk:Nat}(I:Inv X pins σ H s)(h1:-(2^62)<=lo)(h2:lo<2^62)(h3:-(2^62)<=hi)(h4:hi<2^62)
  (q:R (Itr lo (hi-lo).toNat) H):Sg (Sf X.prog X.w) X.A (pyIter (.ref s.heap.objs.size)) (PIE X pins σ tg R) E {s with heap:=s.heap.push {cls:=.type "range",data:=.fields [.int lo t,.int hi u,.int 1 v].toArray},toks:=tk}:=by
 refine wpAny_pyIter_range (IsRange.new ..) (small_one h1 h2 h3 h4) ?_;have I1:Inv X pins σ H {s with heap:=s.heap.push {cls:=.type "range",data:=.fields [.int lo t,.int hi u,.int 1 v].toArray},toks:=tk}:=I.kept λb o e=>Heap.get?_push_of_some _ e;refine⟨(s.heap.push {cls:=.type "range",data:=.fields [.int lo t,.int hi u,.int 1 v].toArray}).objs.size,[(s.heap.push {cls:=.type "range",data:=.fields [.int lo t,.int hi u,.int 1 v].toArray}).objs.size],_,_,H,rfl,
  I1.kept (t':=tk) λb o e=>Heap.get?_push_of_some _ e,wx _ lo (hi-lo).toNat,?_,λb hb=>?_,q⟩
 .have e1:lo+((0:Nat):Int)*1=lo:=by simp
  have e2:(((hi-lo).toNat:Nat):Int)-((0:Nat):Int)=Builtin.Range.rangeSize lo hi 1:=by rw[rangeSize_one];split<;>lia
  show IsRangeIter _ _ (lo+((0:Nat):Int)*1) ((((hi-lo).toNat:Nat):Int)-((0:Nat):Int)) 1;rw[e1,e2];exact Heap.get?_push_size _ rfl
 .have e:b=(s.heap.push {cls:=.type "range",data:=.fields [.int lo t,.int hi u,.int 1 v].toArray}).objs.size:=by simpa using hb
  subst e;exact I1.fpOk (Gg _) (I1.hok.fresh (Gg _))
def qm(ta:TA):TI:=λσ H R=>ta σ H λvs H1=>∃j:Int,vs=[.int j]/\-(2^62)<=j/\j<2^62/\R (Itr 0 j.toNat) H1
def wy(ta:TA):TI:=λσ H R=>ta σ H λvs H1=>∃i j:Int,vs=[.int i,.int j]/\(-(2^62)<=i/\i<2^62/\-(2^62)<=j/\j<2^62)/\R (Itr i (j-i).toNat) H1
variable{pos:Sr}
def gB{a:P3}{ta:TA}{p:Sr}(hg:Gl X "range")(hm:X.mg "range"=q8)(ha:PA X [a] ta)(hs:autoParam (Si [a] X.env=[(false,So a X.env)]) zA0):PI X tg (.Call (.Name "range" p) [a] [] pos) (qm ta):=by
 intro pins s σ H R I h;refine Call_ (dD I hg hm boot_range (PyProof.Rows.callWith_type1 (thn (ha pos pins s σ H _ I h) λus s1 hh=>?_) hs rfl));obtain⟨vs,H1,I1,r1,q1⟩:=hh;obtain⟨j,e,q1,q2,q⟩:=q1;subst e;cases r1 with
 |cons r rr=>
  cases rr;obtain⟨t,rfl⟩:=r;exact call_range_1 (ql I1 Kn Kn q1 q2 (by simpa using q))
def wz{a b:P3}{ta:TA}{p:Sr}(hg:Gl X "range")(hm:X.mg "range"=q8)(ha:PA X [a,b] ta)(hs:autoParam (Si [a,b] X.env=[(false,So a X.env),(false,So b X.env)]) zA0)(g7:autoParam (Si [b] X.env=[(false,So b X.env)]) zA0):
  PI X tg (.Call (.Name "range" p) [a,b] [] pos) (wy ta):=by
 intro pins s σ H R I h;refine Call_ (dD I hg hm boot_range (PyProof.Rows.callWith_type1 (thn (ha pos pins s σ H _ I h) λus s1 hh=>?_) (by rw[hs,g7]) (by rw[g7];rfl)));obtain⟨vs,H1,I1,r1,q1⟩:=hh;obtain⟨i,j,e,⟨q1,q2,q3,q4⟩,q⟩:=q1;subst e;cases r1 with
 |cons r rr=>
  cases rr with
  |cons r' rr=>
   cases rr;obtain⟨t,rfl⟩:=r;obtain⟨t',rfl⟩:=r';exact call_range_2 (ql I1 q1 q2 q3 q4 q)
def tFor(wi:TI)(g:TG)(tb:TS):TS:=λD σ H=>wi σ H λJ H1=>∃W:Nat->Nat->St->Hp->Prop,(∃m,W 0 m σ H1)/\∀i m σ H,W i m σ H->
 (J.stop i H/\D.nx σ H)\/(J.go i H/\∃N:St->Hp->Prop,(∀σ' H',N σ' H'->∃m',m'<m/\W (i+1) m' σ' H')/\∀x H',J.yld i H x H'->g x σ H' λσ2 H2=>tb {D with nx:=N,ct:=N,bk:=D.nx} σ2 H2)
def gC(fp:List KF)(h:Sl):List (KF×Sx):=fp.filterMap λb=>(h.get? b).map λo=>(b,o)
variable{fp:List KF}
def dW{h:Sl}{b:KF}{o:Sx}(hb:b∈fp)(e:h.get? b=be o):(b,o)∈gC fp h:=IP.mpr #[b,hb,by rw[e];rfl]
def wA{h:Sl}{p:KF×Sx}(hp:p∈gC fp h):p.1∈fp/\h.get? p.1=be p.2:=by
 obtain⟨b,hb,e⟩:=IP.mp hp;cases q:h.get? b with
 |none=>rw[q]at e;cases e
 |some o=>
  rw[q]at e;have e':(b,o)=p:=Option.some.inj e;subst e';exact#[hb,q]
def Inv.pinned(I:Inv X pins σ H s)(hf:∀b∈fp,FpOk X pins H b)(ho:∀b∈fp,∃o,s.heap.get? b=be o/\∀v,o.data≠.cell v):Inv X (pins++gC fp s.heap) σ H s:=
 I.pins_of λp hp=>(GD.mp hp).elim (λz=>I.pin p (GE _ z)) λz=>by
  obtain⟨hb,e⟩:=wA z;obtain⟨f0,f1,f2,_⟩:=hf p.1 hb;obtain⟨o,e',d⟩:=ho p.1 hb;rw[e]at e';cases e';exact#[e,f0,f1,f2,d]
def Inv.unpinned{pl:List (KF×Sx)}(I:Inv X (pins++pl) σ H s):Inv X pins σ H s:=I.pins_of λp hp=>I.pin p (GE _ (Hk _ hp))
def cF{iter:P3}{body:List Se}{wi:TI}{g:TG}{tb:TS}(hp:SB (Sf X.prog X.w) X.A X.env X.xe)(hc:X.calm=true)(hi:PI X tg iter wi)(hg:PG X tg g)(hb:PSs X body tb)
  (hs:∀x,Uk iter X.env x=pure x:=by intro _;rfl):PS X (.For tg iter body [] pos) (tFor wi g tb):=by
 intro pins s σ H D I h;refine wpAny_For (thn (hi pins s σ H _ I h) λv s1 h1=>thn h1 λMg s2 h2=>?_) hs;obtain⟨it,fp,tn,J,H2,e,I2,T,o8,f2,W,⟨m0,w0⟩,c9⟩:=h2;subst e;have l_:∀{H':Hp},(∀b∈fp,H' b=q8)->∀b∈fp,FpOk X pins H' b:=λhn b hb=>#[hn b hb,(f2 b hb).2];refine codeAny_forLoop_any (λn s'=>∃i σ' H',Inv X pins σ' H' s'/\tn i s'.heap/\(∀b∈fp,H' b=q8)/\W i n σ' H') ?_ m0 #[0,σ,H2,I2,o8,λb hb=>(f2 b hb).1,w0];rintro n s3⟨i,σ3,H3,I3,y9,O3,w3⟩;rcases c9 i n σ3 H3 w3 with⟨stop,qn⟩|⟨go,N,hN,step⟩
 .refine SH hp (thn (T.done X rfl rfl rfl hc i pins s3 σ3 H3 X.xe I3 (l_ O3) y9 stop) λr s4 c8=>?_);obtain⟨hr,I4⟩:=c8;subst hr;exact SY #[σ3,H3,I4,qn]
 .refine SH hp (thn (T.item X rfl rfl rfl hc i pins s3 σ3 H3 X.xe I3 (l_ O3) y9 go) λr s4 c8=>?_);obtain⟨u,hr,h4⟩:=c8;subst hr;refine SH hp (thn h4 λ_ s5 c8=>?_);obtain⟨x,H5,I5,r5,y5,D_,M6⟩:=c8;have Qe:=I5.pinned (l_ M6) (T.obj _ _ D_);refine SH hp (thn (hg _ s5 σ3 H5 x u _ Qe r5 (step x H5 y5)) λ_ s6 c8=>?_);obtain⟨σ6,H6,I6,q6⟩:=c8;refine SH hp (thn (hb _ s6 σ6 H6 _ I6 q6) λf s7 q7=>?_);have again:∀{σ7:St} {H7:Hp},Inv X (pins++gC fp s5.heap) σ7 H7 s7->N σ7 H7->∃m,m<n/\∃i σ' H',Inv X pins σ' H' s7/\tn i s7.heap/\(∀b∈fp,H' b=q8)/\W i m σ' H':=λ{σ7 H7} I7 n7=>by
   obtain⟨m',hm,w7⟩:=hN σ7 H7 n7;refine#[m',hm,i+1,σ7,H7,I7.unpinned,T.keep _ _ _ D_ λb hb o e=>(I7.pin (b,o) (GE _ (GE _ (dW hb e)))).1,λb hb=>?_,w7];obtain⟨o,e,d⟩:=T.obj _ _ D_ b hb;exact(I7.pin (b,o) (GE _ (GE _ (dW hb e)))).2.1
  cases f with
  |next=>obtain⟨σ7,H7,I7,n7⟩:=q7;exact again I7 n7
  |cont=>obtain⟨σ7,H7,I7,n7⟩:=q7;exact again I7 n7
  |brk=>obtain⟨σ7,H7,I7,q7⟩:=q7;exact#[σ7,H7,I7.unpinned,q7]
  |ret v=>obtain⟨x7,σ7,H7,I7,r7,q7⟩:=q7;exact#[x7,σ7,H7,I7.unpinned,r7,q7]
end
def jE{g:TG}{tb:TS}{D:Ends}(Pv:Nat->St->Hp->Prop)(h0:Pv 0 σ H)(hl:∀i σ H,i<=xs.length->Pv i σ H->SqL K H a xs)
  (hs:∀i x σ H,xs[i]?=be x->Pv i σ H->g x σ H λσ2 H2=>tb {D with nx:=Pv (i+1),ct:=Pv (i+1),bk:=D.nx} σ2 H2) (hd:∀σ H,Pv xs.length σ H->D.nx σ H):
  ∃W:Nat->Nat->St->Hp->Prop,(∃m,W 0 m σ H)/\∀i m σ H,W i m σ H->
   ((Itl K a).stop i H/\D.nx σ H)\/((Itl K a).go i H/\∃N:St->Hp->Prop,(∀σ' H',N σ' H'->∃m',m'<m/\W (i+1) m' σ' H')/\∀x H',(Itl K a).yld i H x H'->g x σ H' λσ2 H2=>tb {D with nx:=N,ct:=N,bk:=D.nx} σ2 H2):=by
 refine#[λi m σ H=>m=xs.length-i/\i<=xs.length/\Pv i σ H,#[xs.length,Kv,GI _,h0],?_];rintro i m σ H ⟨rfl,hi,p⟩;have q:=hl i σ H hi p;by_cases f6:i<xs.length
 .refine .inr #[#[xs,xs[i],q,by simp[f6]],Pv (i+1),λσ' H' p'=>#[xs.length-(i+1),Kn,rfl,f6,p'],λx H' y=>?_];obtain⟨e,y⟩:=y;subst e;exact hs i x σ _ (y xs q) p
 .have e:i=xs.length:=by lia
  subst e;exact .inl #[#[xs,q,Gg _],hd σ H p]
def jF{lo:Int}{n:Nat}{g:TG}{tb:TS}{D:Ends}(Pv:Nat->St->Hp->Prop)(h0:Pv 0 σ H)
  (hs:∀i σ H,i<n->Pv i σ H->g (.int (lo+i)) σ H λσ2 H2=>tb {D with nx:=Pv (i+1),ct:=Pv (i+1),bk:=D.nx} σ2 H2) (hd:∀σ H,Pv n σ H->D.nx σ H):
  ∃W:Nat->Nat->St->Hp->Prop,(∃m,W 0 m σ H)/\∀i m σ H,W i m σ H->
   ((Itr lo n).stop i H/\D.nx σ H)\/((Itr lo n).go i H/\∃N:St->Hp->Prop,(∀σ' H',N σ' H'->∃m',m'<m/\W (i+1) m' σ' H')/\∀x H',(Itr lo n).yld i H x H'->g x σ H' λσ2 H2=>tb {D with nx:=N,ct:=N,bk:=D.nx} σ2 H2):=by
 refine#[λi m σ H=>m=n-i/\i<=n/\Pv i σ H,#[n,Kv,GI _,h0],?_];rintro i m σ H ⟨rfl,hi,p⟩;by_cases f6:i<n
 .refine .inr #[f6,Pv (i+1),λσ' H' p'=>#[n-(i+1),Kn,rfl,f6,p'],λx H' y=>?_];obtain⟨e,y⟩:=y;subst e y;exact hs i σ _ f6 p
 .have e:i=n:=by lia
  subst e;exact .inl #[Gg _,hd σ H p]
abbrev R2:=V->V->Hp->VK->Prop
def OpR(X:Cx)(f:KB->KB->T9 KB)(r:R2):Prop:=
 ∀(pins:List (KF×Sx)) (s:KM) (σ:St) (H:Hp) (x y:V) (v u:KB) (Q:VK),Inv X pins σ H s->RelV x v->RelV y u->r x y H Q->
  Sg (Sf X.prog X.w) X.A (f v u) (EP X pins σ Q) X.xe s
def UnR(X:Cx)(f:KB->T9 KB)(r:V->Hp->VK->Prop):Prop:=
 ∀(pins:List (KF×Sx)) (s:KM) (σ:St) (H:Hp) (x:V) (v:KB) (Q:VK),Inv X pins σ H s->RelV x v->r x H Q->
  Sg (Sf X.prog X.w) X.A (f v) (EP X pins σ Q) X.xe s
def bA(X:Cx)(f:KB)(r:List V->Hp->VK->Prop):Prop:=
 ∀(pins:List (KF×Sx)) (s:KM) (σ:St) (H:Hp) (xs:List V) (us:List KB) (Q:VK),Inv X pins σ H s->Vals xs us->r xs H Q->
  Sg (Sf X.prog X.w) X.A (call f us) (EP X pins σ Q) X.xe s
def TruR(X:Cx)(r:V->Hp->(Bool->Hp->Prop)->Prop):Prop:=
 ∀(pins:List (KF×Sx)) (s:KM) (σ:St) (H:Hp) (x:V) (v:KB) (Q:Bool->Hp->Prop),Inv X pins σ H s->RelV x v->r x H Q->
  Sg (Sf X.prog X.w) X.A (truthy v) (TP X pins σ Q) X.xe s
def tOp(r:R2)(ta tb:TE):TE:=λσ H Q=>ta σ H λx H1=>tb σ H1 λy H2=>r x y H2 Q
def tUn(r:V->Hp->VK->Prop)(ta:TE):TE:=λσ H Q=>ta σ H λx H1=>r x H1 Q
def rI(C:Int->Int->Prop)(g:Int->Int->V):R2:=λx y H Q=>∃i j,x=.int i/\y=.int j/\C i j/\Q (g i j) H
def rI0(g:Int->Int->V):R2:=λx y H Q=>∃i j,x=.int i/\y=.int j/\Q (g i j) H
def rU(g:Int->V):V->Hp->VK->Prop:=λx H Q=>∃i,x=.int i/\Q (g i) H
section
variable {X:Cx}{a b c:P3}{ta tb tc:TE}{pos:Sr}
variable{f:KB->KB->T9 KB}
def binT(ha:PE X a ta)(hb:PE X b tb){pins:List (KF×Sx)}{s:KM}{σ:St}{H:Hp}{R:V->V->Hp->Prop}(I:Inv X pins σ H s)
  (h:ta σ H λx H1=>tb σ H1 λy H2=>R x y H2) {Q:KB->KM->Prop} 
  (hf:∀v u s2 x y H2,Inv X pins σ H2 s2->RelV x v->RelV y u->R x y H2->Sg (Sf X.prog X.w) X.A (f v u) Q X.xe s2):
  Sg (Sf X.prog X.w) X.A (So a X.env) (λv s₁=>Sg (Sf X.prog X.w) X.A (So b X.env) (λu s₂=>Sg (Sf X.prog X.w) X.A (f v u) Q X.xe s₂) X.xe s₁) X.xe s:=by
 refine thn (ha pins s σ H _ I h) λv s1 c8=>?_;obtain⟨x,H1,I1,r1,q1⟩:=c8;refine thn (hb pins s1 σ H1 _ I1 q1) λu s2 c8=>?_;obtain⟨y,H2,I2,r2,q2⟩:=c8;exact hf v u s2 x y H2 I2 r1 r2 q2
def jG{op:TK}{r:R2}(ho:OpR X (SF op) r)(ha:PE X a ta)(hb:PE X b tb):PE X (.BinOp a op b pos) (tOp r ta tb):=by
 intro pins s σ H Q I h;exact wpAny_BinOp (binT ha hb I h λv u s2 x y H2 I2 rx ry q=>ho pins s2 σ H2 x y v u Q I2 rx ry q)
def wB{op:UnaryOp}{r:V->Hp->VK->Prop}(ho:UnR X (unaryOp op) r)(ha:PE X a ta):PE X (.UnaryOp op a pos) (tUn r ta):=by
 intro pins s σ H Q I h;exact UnaryOp_ (thn (ha pins s σ H _ I h) λv s1 ⟨x,H1,I1,r1,q1⟩=>ho pins s1 σ H1 x v Q I1 r1 q1)
variable{g:Int->Int->Int}
def opI{C:Int->Int->Prop}
  (rule:∀(i j:Int) (t u:Um) (s:KM) (Q:KB->KM->Prop) (E:KB->KM->Prop),C i j->Q (.int (g i j) s.toks) {s with toks:=s.toks+1}->Sg (Sf X.prog X.w) X.A (f (.int i t) (.int j u)) Q E s):
  OpR X f (rI C λi j=>.int (g i j)):=by
 intro pins s σ H x y v u Q I rx ry h;obtain⟨i,j,rfl,rfl,hc,q⟩:=h;obtain⟨t,rfl⟩:=rx;obtain⟨t',rfl⟩:=ry;exact rule i j t t' s _ _ hc #[.int (g i j),H,I.tok _,#[_,rfl],q]
def opI0
  (rule:∀(i j:Int) (t u:Um) (s:KM) (Q:KB->KM->Prop) (E:KB->KM->Prop),Q (.int (g i j) s.toks) {s with toks:=s.toks+1}->Sg (Sf X.prog X.w) X.A (f (.int i t) (.int j u)) Q E s):
  OpR X f (rI0 λi j=>.int (g i j)):=by
 intro pins s σ H x y v u Q I rx ry h;obtain⟨i,j,rfl,rfl,q⟩:=h;obtain⟨t,rfl⟩:=rx;obtain⟨t',rfl⟩:=ry;exact rule i j t t' s _ _ #[.int (g i j),H,I.tok _,#[_,rfl],q]
def opB0{g:Int->Int->Bool}
  (rule:∀(i j:Int) (t u:Um) (s:KM) (Q:KB->KM->Prop) (E:KB->KM->Prop),Q (.bool (g i j)) s->Sg (Sf X.prog X.w) X.A (f (.int i t) (.int j u)) Q E s):
  OpR X f (rI0 λi j=>.bl (g i j)):=by
 intro pins s σ H x y v u Q I rx ry h;obtain⟨i,j,rfl,rfl,q⟩:=h;obtain⟨t,rfl⟩:=rx;obtain⟨t',rfl⟩:=ry;exact rule i j t t' s _ _ #[.bl (g i j),H,I,rfl,q]
def CDiv(i j:Int):Prop:=0<j/\j<1073741824
def CMul(i j:Int):Prop:=(-(2^64)<i/\i<2^64)\/(-(2^64)<j/\j<2^64)
def CMul.ok{i j:Int}(h:CMul i j):IntMulOk i j:=by
 rcases h with⟨h1,h2⟩|⟨h1,h2⟩
 .exact .of_left (intBits_le_64 h1 h2)
 .exact .of_right (intBits_le_64 h1 h2)
def wC:OpR X (SF .Add) (rI0 λi j=>.int (i+j)):=opI0 λ_ _ _ _ _ _ _ q=>add_int q
def qo:OpR X (SF .Sub) (rI0 λi j=>.int (i-j)):=opI0 λ_ _ _ _ _ _ _ q=>sub_int q
def wE:OpR X (SF .Mult) (rI CMul λi j=>.int (i*j)):=opI λ_ _ _ _ _ _ _ hc q=>mul_int q hc.ok
def wF:OpR X (SF .FloorDiv) (rI CDiv λi j=>.int (i/j)):=opI λi j _ _ _ _ _ hc q=>by
 have h1:(0:Int)<j:=hc.1;have h2:j<1073741824:=hc.2;exact floordiv_int Kn (by rw[Int.fdiv_eq_ediv_of_nonneg i Kn];exact q) (.inl (PyProof.noPylong_small Kn))
def wG:OpR X (SF .Mod) (rI (λ_ j=>0<j) λi j=>.int (i%j)):=opI λi j _ _ _ _ _ hc q=>by
 have h1:(0:Int)<j:=hc;exact mod_int' Kn (by rw[Int.fmod_eq_emod_of_nonneg i Kn];exact q)
def wH:OpR X (SF .Mod) (rI (λ_ j=>j≠0) λi j=>.int (i.fmod j)):=opI λ_ _ _ _ _ _ _ hc q=>mod_int' hc q
def unI{f:KB->T9 KB}{g:Int->Int}
  (rule:∀(i:Int) (t:Um) (s:KM) (Q:KB->KM->Prop) (E:KB->KM->Prop),Q (.int (g i) s.toks) {s with toks:=s.toks+1}->Sg (Sf X.prog X.w) X.A (f (.int i t)) Q E s):
  UnR X f (rU λi=>.int (g i)):=by
 intro pins s σ H x v Q I rx h;obtain⟨i,rfl,q⟩:=h;obtain⟨t,rfl⟩:=rx;exact rule i t s _ _ #[.int (g i),H,I.tok _,#[_,rfl],q]
def wI:UnR X (unaryOp .USub) (rU λi=>.int (-i)):=unI λ_ _ _ _ _ q=>neg_int q
end
def scal:V->V->Bool
 |.non,.non=>true|.non,.int _=>true|.int _,.non=>true|.non,.bl _=>true|.bl _,.non=>true|.non,.str _=>true|.str _,.non=>true
 |.int _,.int _=>true|.bl _,.bl _=>true|.str _,.str _=>true|.byt _,.byt _=>true
 |.int _,.str _=>true|.str _,.int _=>true|.bl _,.str _=>true|.str _,.bl _=>true
 |_,_=>false
def rEq:R2:=λx y H Q=>scal x y=true/\Q (.bl (decide (x=y))) H
def rNe:R2:=λx y H Q=>scal x y=true/\Q (.bl (!decide (x=y))) H
def qp{i j:Int}:decide (V.int i=V.int j)=(i==j):=by
 rw[HQ];simp
def qq{i j:Bool}:decide (V.bl i=V.bl j)=(i==j):=by
 rw[HQ];simp
def qr{i j:C_}:decide (V.str i=V.str j)=(i==j):=by
 rw[HQ];simp
def qt{i j:Array UInt8}:decide (V.byt i=V.byt j)=(i.toList==j.toList):=by
 rw[HQ];cases i;cases j;simp
section
variable {X:Cx}{a b c:P3}{ta tb tc:TE}{pos:Sr}
def aN{pins:List (KF×Sx)}{σ:St}{H:Hp}{s:KM}{Q:VK}{k k':Bool}(I:Inv X pins σ H s)(q:Q (.bl k) H)(e:k=k'):EP X pins σ Q (.bool k') s:=by
 subst e;exact#[.bl k,H,I,rfl,q]
def jH:OpR X (Sz .Eq) rEq:=by
 intro pins s σ H x y v u Q I rx ry h;obtain⟨hs,q⟩:=h;cases x with
 |non=>
  cases rx;cases y with
  |non=>cases ry;exact PySem.EqNone.eq_none_none (aN I q Kv)
  |bl j=>cases ry;exact PySem.EqNone.eq_none_bool (aN I q Kv)
  |int j=>obtain⟨t',rfl⟩:=ry;exact PySem.EqNone.eq_none_int (aN I q Kv)
  |str j=>obtain⟨t',rfl⟩:=ry;exact PySem.EqNone.eq_none_str (aN I q Kv)
  |_=>exact absurd (show false=true from hs) Gu
 |bl i=>
  cases rx;cases y with
  |non=>cases ry;exact PySem.EqNone.eq_bool_none (aN I q Kv)
  |bl j=>cases ry;exact eq_bool (aN I q qq)
  |str j=>obtain⟨t',rfl⟩:=ry;exact PySem.EqMixed.eq_bool_str (aN I q Kv)
  |_=>exact absurd (show false=true from hs) Gu
 |int i=>
  obtain⟨t,rfl⟩:=rx;cases y with
  |non=>cases ry;exact PySem.EqNone.eq_int_none (aN I q Kv)
  |int j=>obtain⟨t',rfl⟩:=ry;exact eq_int (aN I q qp)
  |str j=>obtain⟨t',rfl⟩:=ry;exact PySem.EqMixed.eq_int_str (aN I q Kv)
  |_=>exact absurd (show false=true from hs) Gu
 |str i=>
  obtain⟨t,rfl⟩:=rx;cases y with
  |non=>cases ry;exact PySem.EqNone.eq_str_none (aN I q Kv)
  |bl j=>cases ry;exact PySem.EqMixed.eq_str_bool (aN I q Kv)
  |int j=>obtain⟨t',rfl⟩:=ry;exact PySem.EqMixed.eq_str_int (aN I q Kv)
  |str j=>obtain⟨t',rfl⟩:=ry;exact eq_str (aN I q qr)
  |_=>exact absurd (show false=true from hs) Gu
 |byt i=>
  obtain⟨t,rfl⟩:=rx;cases y with
  |byt j=>obtain⟨t',rfl⟩:=ry;exact eq_bytes (aN I q qt)
  |_=>exact absurd (show false=true from hs) Gu
 |_=>cases y<;>exact absurd (show false=true from hs) Gu
def qu:OpR X (Sz .NotEq) rNe:=by
 intro pins s σ H x y v u Q I rx ry h;obtain⟨hs,q⟩:=h;cases x with
 |non=>
  cases rx;cases y with
  |non=>cases ry;exact PySem.EqNone.ne_none_none (aN I q Kv)
  |bl j=>cases ry;exact PySem.EqNone.ne_none_bool (aN I q Kv)
  |int j=>obtain⟨t',rfl⟩:=ry;exact PySem.EqNone.ne_none_int (aN I q Kv)
  |str j=>obtain⟨t',rfl⟩:=ry;exact PySem.EqNone.ne_none_str (aN I q Kv)
  |_=>exact absurd (show false=true from hs) Gu
 |bl i=>
  cases rx;cases y with
  |non=>cases ry;exact PySem.EqNone.ne_bool_none (aN I q Kv)
  |bl j=>cases ry;exact ne_bool (aN I q (congrArg not qq))
  |str j=>obtain⟨t',rfl⟩:=ry;exact PySem.EqMixed.ne_bool_str (aN I q Kv)
  |_=>exact absurd (show false=true from hs) Gu
 |int i=>
  obtain⟨t,rfl⟩:=rx;cases y with
  |non=>cases ry;exact PySem.EqNone.ne_int_none (aN I q Kv)
  |int j=>obtain⟨t',rfl⟩:=ry;exact ne_int (aN I q (congrArg not qp))
  |str j=>obtain⟨t',rfl⟩:=ry;exact PySem.EqMixed.ne_int_str (aN I q Kv)
  |_=>exact absurd (show false=true from hs) Gu
 |str i=>
  obtain⟨t,rfl⟩:=rx;cases y with
  |non=>cases ry;exact PySem.EqNone.ne_str_none (aN I q Kv)
  |bl j=>cases ry;exact PySem.EqMixed.ne_str_bool (aN I q Kv)
  |int j=>obtain⟨t',rfl⟩:=ry;exact PySem.EqMixed.ne_str_int (aN I q Kv)
  |str j=>obtain⟨t',rfl⟩:=ry;exact ne_str (aN I q (congrArg not qr))
  |_=>exact absurd (show false=true from hs) Gu
 |byt i=>
  obtain⟨t,rfl⟩:=rx;cases y with
  |byt j=>obtain⟨t',rfl⟩:=ry;exact ne_bytes (aN I q (congrArg not qt))
  |_=>exact absurd (show false=true from hs) Gu
 |_=>cases y<;>exact absurd (show false=true from hs) Gu
def qv:OpR X (Sz .Lt) (rI0 λi j=>.bl (decide (i<j))):=opB0 λ_ _ _ _ _ _ _ q=>lt_int q
def wJ:OpR X (Sz .LtE) (rI0 λi j=>.bl (decide (i<=j))):=opB0 λ_ _ _ _ _ _ _ q=>le_int q
def qw:OpR X (Sz .Gt) (rI0 λi j=>.bl (decide (j<i))):=opB0 λ_ _ _ _ _ _ _ q=>gt_int q
def wK:OpR X (Sz .GtE) (rI0 λi j=>.bl (decide (j<=i))):=opB0 λ_ _ _ _ _ _ _ q=>ge_int q
def qy:OpR X (Sz .Is) (λx y H Q=>y=.non/\Q (.bl (decide (x=.non))) H):=by
 intro pins s σ H x y v u Q I rx ry h;obtain⟨rfl,q⟩:=h;cases ry;refine is_none_gen (aN I q ?_);cases x<;>first
  |(cases rx;rfl)
  |(obtain⟨t,rfl⟩:=rx;rfl)
variable{r:R2}
def OpR.or{f:KB->KB->T9 KB}{r':R2}(h:OpR X f r)(h':OpR X f r'):OpR X f (λx y H Q=>r x y H Q\/r' x y H Q):=by
 intro pins s σ H x y v u Q I rx ry q;rcases q with q|q
 .exact h pins s σ H x y v u Q I rx ry q
 .exact h' pins s σ H x y v u Q I rx ry q
variable{op:Up}
def nomark(b:P3)(h:autoParam (op≠.In) zA1)(h2:autoParam (op≠.NotIn) zA1):SI op b=false:=by
 have e1:(op==CmpOp.In)=false:=by cases op<;>first|rfl|exact absurd rfl h
 have e2:(op==CmpOp.NotIn)=false:=by cases op<;>first|rfl|exact absurd rfl h2
 cases b<;>simp[SI,e1,e2]
def wL(ho:OpR X (Sz op) r)(ha:PE X a ta)(hb:PE X b tb)(hm:SI op b=false):PE X (.Compare a [op] [b] pos) (tOp r ta tb):=by
 intro pins s σ H Q I h;exact wpAny_Compare1 (binT ha hb I h λv u s2 x y H2 I2 rx ry q=>ho pins s2 σ H2 x y v u Q I2 rx ry q) hm
def wM(t:TE):TT:=λσ H Q=>t σ H λx H'=>∃k,x=.bl k/\Q k H'
def qz(ho:OpR X (Sz op) r)(ha:PE X a ta)(hb:PE X b tb)(hm:SI op b=false):PT X (.Compare a [op] [b] pos) (wM (tOp r ta tb)):=by
 intro pins s σ H Q I h;refine wpAny_isTrue_Compare1 (thn (ha pins s σ H _ I h) λv s1 ⟨x,H1,I1,r1,q1⟩=>thn (hb pins s1 σ H1 _ I1 q1) λu s2 ⟨y,H2,I2,r2,q2⟩=>
  thn (ho pins s2 σ H2 x y v u _ I2 r1 r2 q2) λc s3 hh=>?_) hm
 obtain⟨z,H3,I3,r3,k,e,q3⟩:=hh;subst e;cases r3;exact S2 #[H3,I3,q3]
def TruV(K:Ex)(x:V)(H:Hp)(k:Bool):Prop:=
 match x with
 |.non=>k=false
 |.bl b=>k=b
 |.int i=>k=(i !=0)
 |.str y=>y.length<=sizeLine/\k=((y.length:Int) !=0)
 |.byt y=>y.size<=sizeLine/\k=((y.size:Int) !=0)
 |.ref p=>(∃xs,SqL K H p xs/\k=!xs.isEmpty)\/(∃xs,SqT K H p xs/\k=!xs.isEmpty)\/∃a9,H p=be (.dK a9)/\k=!a9.isEmpty
 |_=>False
def wO{κ:Type}{a9:List (κ×V)}{vs:List (κ×KB)}(r:KV a9 vs):(!vs.isEmpty)=!a9.isEmpty:=by
 cases r<;>rfl
def isEmpty_of{xs:List V}{its:List KB}(r:Vals xs its):(!its.toArray.isEmpty)=!xs.isEmpty:=by
 cases r<;>simp
def line63:(sizeLine:Nat)<2^63:=by rw[Ts];decide
def wP:TruR X (λx H Q=>∃k,TruV X.K x H k/\Q k H):=by
 intro pins s σ H x v Q I rx h;obtain⟨k,e,q⟩:=h;have hl:=line63;have hs:sizeLine=16777216:=Ts;cases x with
 |non=>
  cases rx;have e':k=false:=e;subst e';exact truthy_none #[H,I,q]
 |bl b=>
  cases rx;have e':k=b:=e;subst e';exact S2 #[H,I,q]
 |int i=>
  obtain⟨t,rfl⟩:=rx;have e':k=(i !=0):=e;subst e';exact PySem.P.truthy_int #[H,I,q]
 |str y=>
  obtain⟨t,rfl⟩:=rx;obtain⟨hy,e'⟩:y.length<=sizeLine/\k=((y.length:Int) !=0):=e;subst e';exact PySem.P.truthy_str Kn #[H,I.tok _,q]
 |byt y=>
  obtain⟨t,rfl⟩:=rx;obtain⟨hy,e'⟩:y.size<=sizeLine/\k=((y.size:Int) !=0):=e;subst e';exact truthy_bytes Kn #[H,I.tok _,q]
 |ref p=>
  cases rx;have e':(∃xs,SqL X.K H p xs/\k=!xs.isEmpty)\/(∃xs,SqT X.K H p xs/\k=!xs.isEmpty)\/∃a9,H p=be (.dK a9)/\k=!a9.isEmpty:=e;rcases e' with⟨xs,hx,e'⟩|⟨xs,hx,e'⟩|⟨a9,hx,e'⟩
  .subst e';obtain⟨its,r,pl,hz⟩:=I.list hx;have c5:=r.length;exact wpAny_truthy_list pl.isList (by simp only[Gp];lia) #[H,I.tok _,by rw[isEmpty_of r];exact q]
  .subst e';obtain⟨its,r,pl,hz⟩:=I.tuple hx;have c5:=r.length;exact truthy_tuple pl (by simp only[Gp];lia) #[H,I.tok _,by rw[isEmpty_of r];exact q]
  .subst e';obtain⟨hz,hS,vs,r,m⟩:a9.length<=sizeLine/\(p==SJ)=false/\∃vs,KV a9 vs/\s.heap.DictOf (bI X.prog X.w) p vs:=I.hok p _ hx;have c5:a9.length=vs.length:=Paired.length r;exact wpAny_truthy_dict hS m Kn #[H,I.tok _,by rw[wO r];exact q]
 |_=>exact(show False from e).elim
def qA(ha:PE X a ta)(he:∀fI,isTrue a X.env fI=(do let v <-fI;S5 a.pos;SG [v] (truthy v))):
  PT X a (λσ H Q=>ta σ H λx H'=>∃k,TruV X.K x H' k/\Q k H'):=by
 intro pins s σ H Q I h;exact isTrue_plain (thn (ha pins s σ H _ I h) λv s1 ⟨x,H1,I1,r1,q1⟩=>wP pins s1 σ H1 x v Q I1 r1 q1) (he _)
def wQ:OpR X (SF .Add) (λx y H Q=>∃i j,x=.str i/\y=.str j/\i.length+j.length<=sizeLine/\Q (.str (i++j)) H):=by
 intro pins s σ H x y v u Q I rx ry h;obtain⟨i,j,rfl,rfl,hz,q⟩:=h;obtain⟨t,rfl⟩:=rx;obtain⟨t',rfl⟩:=ry;exact add_str (λt' tk=>#[.str (i++j),H,I.tok _,#[_,rfl],q]) hz
variable{us:List KB}
def bY{x:V}(r:Vals [x] us):∃u,us=[u]/\RelV x u:=by
 cases r with
 |cons r1 r2=>cases r2;exact#[_,rfl,r1]
def dX{x y:V}(r:Vals [x,y] us):∃u w',us=[u,w']/\RelV x u/\RelV y w':=by
 cases r with
 |cons r1 r2=>
  cases r2 with
  |cons r3 r4=>cases r4;exact#[_,_,rfl,r1,r3]
def wR:bA X (.builtin "abs") (λxs H Q=>∃i,xs=[.int i]/\Q (.int (if i<0 then -i else i)) H):=by
 intro pins s σ H xs us Q I r h;obtain⟨i,rfl,q⟩:=h;obtain⟨u,rfl,t,rfl⟩:=bY r;exact call_abs_int λu tk=>#[.int (if i<0 then -i else i),H,I.tok _,#[_,rfl],q]
def wS(hc:X.calm=true):bA X (.builtin "max") (λxs H Q=>∃i j,xs=[.int i,.int j]/\Q (.int (if j>i then j else i)) H):=by
 intro pins s σ H xs us Q I r h;obtain⟨i,j,rfl,q⟩:=h;obtain⟨u,w',rfl,⟨t,rfl⟩,⟨t',rfl⟩⟩:=dX r;refine max_two_ints (I.ok.hd hc) λh' tk k=>#[_,H,I.kept k,?_,q];by_cases hj:j>i
 .rw[if_pos hj,if_pos hj];exact#[_,rfl]
 .rw[if_neg hj,if_neg hj];exact#[_,rfl]
def wT(hc:X.calm=true):bA X (.builtin "min") (λxs H Q=>∃i j,xs=[.int i,.int j]/\Q (.int (if j<i then j else i)) H):=by
 intro pins s σ H xs us Q I r h;obtain⟨i,j,rfl,q⟩:=h;obtain⟨u,w',rfl,⟨t,rfl⟩,⟨t',rfl⟩⟩:=dX r;refine min_two_ints (I.ok.hd hc) λh' tk k=>#[_,H,I.kept k,?_,q];by_cases hj:j<i
 .rw[if_pos hj,if_pos hj];exact#[_,rfl]
 .rw[if_neg hj,if_neg hj];exact#[_,rfl]
def wU:bA X (.type "int") (λxs H Q=>(∃i,xs=[.int i]/\Q (.int i) H)\/∃k,xs=[.bl k]/\Q (.int (if k then 1 else 0)) H):=by
 intro pins s σ H xs us Q I r h;rcases h with⟨i,rfl,q⟩|⟨k,rfl,q⟩
 .obtain⟨u,rfl,t,rfl⟩:=bY r;exact call_int_int #[.int i,H,I,#[_,rfl],q]
 .obtain⟨u,rfl,r1⟩:=bY r;cases r1;exact call_int_bool #[.int (if k then 1 else 0),H,I.tok _,#[_,rfl],q]
def wV:bA X (.type "str") (λxs H Q=>∃i,xs=[.int i]/\i.natAbs.log2<1920/\Q (.str (toString i)) H):=by
 intro pins s σ H xs us Q I r h;obtain⟨i,rfl,hz,q⟩:=h;obtain⟨u,rfl,t,rfl⟩:=bY r;exact PySem.P.str_of_int hz #[.str _,H,I.tok _,#[_,rfl],q]
def LenV(K:Ex)(x:V)(H:Hp)(n:Nat):Prop:=
 match x with
 |.str y=>y.length<=sizeLine/\n=y.length
 |.byt y=>y.size<=sizeLine/\n=y.size
 |.ref p=>(∃xs,SqL K H p xs/\n=xs.length)\/∃xs,SqT K H p xs/\n=xs.length
 |_=>False
def jI:bA X (.builtin "len") (λxs H Q=>∃x n,xs=[x]/\LenV X.K x H n/\Q (.int n) H):=by
 intro pins s σ H xs us Q I r h;obtain⟨x,n,rfl,e,q⟩:=h;obtain⟨u,rfl,rx⟩:=bY r;have hl:=line63;have hs:sizeLine=16777216:=Ts;cases x with
 |str y=>
  obtain⟨t,rfl⟩:=rx;obtain⟨hy,e'⟩:y.length<=sizeLine/\n=y.length:=e;subst e';exact len_str Kn #[.int _,H,I.tok _,#[_,rfl],q]
 |byt y=>
  obtain⟨t,rfl⟩:=rx;obtain⟨hy,e'⟩:y.size<=sizeLine/\n=y.size:=e;subst e';exact len_bytes Kn #[.int _,H,I.tok _,#[_,rfl],q]
 |ref p=>
  cases rx;have e':(∃xs,SqL X.K H p xs/\n=xs.length)\/∃xs,SqT X.K H p xs/\n=xs.length:=e;rcases e' with⟨xs,hx,e'⟩|⟨xs,hx,e'⟩
  .subst e';obtain⟨its,r',pl,hz⟩:=I.list hx;have c5:=r'.length;exact Calls.call_len_list pl.isList (by simp only[Gp];lia) #[.int xs.length,H,I.tok _,#[_,by simp only[Gp];rw[c5]],q]
  .subst e';obtain⟨its,r',pl,hz⟩:=I.tuple hx;have c5:=r'.length;exact len_tuple pl (by simp only[Gp];lia) #[.int xs.length,H,I.tok _,#[_,by simp only[Gp];rw[c5]],q]
 |_=>exact(show False from e).elim
end
structure ObjM(h:Sl)(x dx C:KF)(mA:Str->Option KB):Prop where
 obj:h.get? x=be (instObj C dx)
 ns:h.Ns1 dx mA
 ne:dx≠x
variable{mA:C_->Option KB}
def qB{dx:KF}(n:h.Ns1 dx mA):∃od,h.get? dx=be od/\∀name,lookIn name od=be (mA name):=by
 obtain⟨o,es,ep,ho,hd,hk,_,hm⟩:=n;refine#[o,ho,λname=>?_];have e:=hm name;unfold nsFind findBy at e;rw[<-Array.find?_toList]at e;unfold lookIn;rw[hd];dsimp only;split
 .rename_i y q;rw[q]at e;exact congrArg be e
 .rename_i q;rw[q]at e;have a:es.toList.any (·.refKey)=false:=by
   rw[List.any_eq_false];intro y hy;obtain⟨z,t,m4⟩:=hk y (Array.mem_toList_iff.mp hy);simp[DictEntry.refKey,m4]
  have a':¬es.toList.any (·.refKey)=true:=by rw[a];exact Gu
  rw[if_neg a'];exact congrArg be e
variable{C:KF}
def ObjM.look{x dx:KF}(I:ObjM h x dx C mA):∃od,PySem.W.InstAt h x (instObj C dx) C (be od)/\∀name,lookIn name od=be (mA name):=
 let ⟨od,ho,hl⟩:=qB I.ns
 #[od,#[I.obj,rfl,rfl,ho],hl]
section
variable {prog:Sd}{w:Sj}{A:Sk}{E:KB->KM->Prop}{s:KM}{K:Ex}{x dx C f:KF}{mA:C_->Option KB}{name:C_}{v:KB}
def wW{M7:Bool}{Q:KB->KM->Prop}(X:K.In s.heap)(I:ObjM s.heap x dx C mA)(hg:plainGet K C name=true)(hh:hasDictIn K C=true)
  (ha:Gw K (.ref C) name=be q8) (hv:mA name=be v) (Qf:handedIn v=true) (h:Q v {s with toks:=s.toks+1}):
  Sg (Sf prog w) A (getAttr (.ref x) name M7) Q E s:=by
 obtain⟨od,J,hl⟩:=I.look;exact get_value X J (plainGet_of hg).1 (findObj_own hh ha rfl (by rw[hl,hv])) Qf h
def wX{pl:T9 Bool}{Q:KB×List KB->KM->Prop}(X:K.In s.heap)(I:ObjM s.heap x dx C mA)(hg:plainGet K C name=true)
  (hf:Gw K (.ref C) name=be (be (.ref f))) (ht:isFn K (.ref f)=true) (hv:mA name=q8) (h:Q (.ref f,[.ref x]) s):
  Sg (Sf prog w) A (TN (.ref x) name pl) Q E s:=by
 obtain⟨od,J,hl⟩:=I.look;exact method_fn X J (plainGet_of hg).1 (plainGet_of hg).2 hf (beq_iff_eq.mp ht) (by show(lookIn name od).map (·.isSome)=be false;rw[hl,hv];rfl) h
def wY{ns:List C_}{Q:Unit->KM->Prop}(X:K.In s.heap)(I:ObjM s.heap x dx C mA)
  (hs:Gw K (.ref C) "__setattr__"=be (be (.builtin "object.__setattr__"))) (hp:plainOver K C=true) (ht:takerIn K C name=be q8) (hh:hasDictIn K C=true)
  (hw:PySem.Within mA ns) (i6:ns.length<=sizeLine)
  (h:∀h',ObjM h' x dx C (λy=>if y=name then be v else mA y)->Heap.SameBut dx s.heap h'->Q () {s with heap:=h',toks:=s.toks+2}):
  Sg (Sf prog w) A (setAttr (.ref x) name v) Q E s:=by
 obtain⟨od,J,hl⟩:=I.look;refine set_plain X J hs (osa_open (s:={s with toks:=s.toks+1}) (r:=q8) X J hp ht λb=>?_);obtain⟨cd,hc,h_⟩:=any_some hh;have hx:s.heap.get? x=be #[.ref C,be dx,.plain,[].toArray]:=I.obj;refine Os (Sh (Os (Os (wpAny_loadPart hx (Os (PySem.W.Looks.here (s:={s with toks:=s.toks+1}) (looks_clsIn X hc) ?_))))));rw[h_];refine Sh (a:=be dx) (Os (Sh (Os ?_)));refine wpAny_nsSet1 (s:={s with toks:=s.toks+1}) I.ns λh' Ko g7=>?_;obtain⟨oD,RE,RF,Qg,Qh,Qi⟩:=Ko.count (PySem.Within.cons name v hw);refine Os (wpAny_lookBehind Qg (by rw[Qh];exact pastItsLine_dict (Go Qi (by rw[Gv];lia))) ?_);exact Sh (h _ #[(g7.2 _ (Ne.symm I.ne)).trans I.obj,Ko,I.ne] g7)
def wZ{R:Result->KM->Prop}{vs:List KB}{kw:List (C_×KB)}(X:K.In s.heap)(hm:makesIn K C=true)
  (hi:Gw K (.ref C) "__init__"=be (be (.ref f))) (hf:typeIn K (.ref f)=be (.type "function"))
  (h:Te (Sf prog w) (A.under (.builtin "type.__call__" #[.ref C::vs,kw])) (.call (.ref f) #[.ref (s.heap.objs.size+1)::vs,kw]) (InitBack (s.heap.objs.size+1) R)
   {s with heap:=(s.heap.push emptyDict).push (instObj C s.heap.objs.size)}):
  Te (Sf prog w) A (.call (.ref C) #[vs,kw]) R s:=by
 obtain⟨hh,g,d,t,os⟩:=s;exact make_core (makes_of X hm) (PySem.W.looks_findIn X hi) (λself=>bind_fn X self hf) (.inl rfl) h
end
def putF(f:C_)(v:V):List (C_×V)->List (C_×V)
 |[]=>[(f,v)]
 |(g,x)::r=>if g=f then(g,v)::r else(g,x)::putF f v r
def qC(f g:C_)(v:V):∀fs:List (C_×V),(putF f v fs).lookup g=if g=f then be v else fs.lookup g
 |[]=>by
  show G9 g [(f,v)]=_;by_cases h:g=f
  .have hb:(g==f)=true:=beq_iff_eq.mpr h;simp only[G9,hb,if_pos h]
  .have hb:(g==f)=false:=beq_eq_false_iff_ne.mpr h;simp only[G9,hb,if_neg h]
 |(k,x)::r=>by
  have ih:=qC f g v r;rw[show putF f v ((k,x)::r)=(if k=f then(k,v)::r else(k,x)::putF f v r)from rfl];by_cases hk:k=f
  .rw[if_pos hk];by_cases h:g=k
   .have hb:(g==k)=true:=beq_iff_eq.mpr h;simp only[G9,hb,if_pos (h.trans hk)]
   .have hb:(g==k)=false:=beq_eq_false_iff_ne.mpr h;simp only[G9,hb,if_neg (λe:g=f=>h (e.trans hk.symm))]
  .rw[if_neg hk];by_cases h:g=k
   .have hb:(g==k)=true:=beq_iff_eq.mpr h;simp only[G9,hb,if_neg (λe:g=f=>hk (h.symm.trans e))]
   .have hb:(g==k)=false:=beq_eq_false_iff_ne.mpr h;simp only[G9,hb];exact ih
def jJ(f:C_)(v:V):∀fs:List (C_×V),f∈(putF f v fs).map (·.1)/\∀g,g∈fs.map (·.1)->g∈(putF f v fs).map (·.1)
 |[]=>#[by simp[putF],λg h=>by simp at h]
 |(k,x)::r=>by
  obtain⟨i1,i2⟩:=jJ f v r;rw[show putF f v ((k,x)::r)=(if k=f then(k,v)::r else(k,x)::putF f v r)from rfl];by_cases hk:k=f
  .rw[if_pos hk];subst hk;exact#[Kv,λg h=>by simpa using h]
  .rw[if_neg hk];refine#[?_,λg h=>?_]
   .rw[GJ];exact Gi _ i1
   .rw[GJ]at h ⊢;rcases Gh.mp h with e|e
    .exact Gh.mpr (.inl e)
    .exact Gi _ (i2 g e)
def qD(f:C_)(v:V):∀fs:List (C_×V),(putF f v fs).length<=fs.length+1
 |[]=>by simp[putF]
 |(k,x)::r=>by
  have ih:=qD f v r;rw[show putF f v ((k,x)::r)=(if k=f then(k,v)::r else(k,x)::putF f v r)from rfl];by_cases hk:k=f
  .rw[if_pos hk,Gv,Gv];lia
  .rw[if_neg hk,Gv,Gv];lia
def RelO.some_of{v:V}{o:Option KB}(r:RelO (be v) o):∃u,o=be u/\RelV v u:=by
 cases o with
 |none=>exact(show False from r).elim
 |some u=>exact#[u,rfl,r]
def RelO.none_of{o:Option KB}(r:RelO q8 o):o=none:=by
 cases o with
 |none=>rfl
 |some u=>exact(show False from r).elim
def xa{v:V}(r:RelV v u):handedIn u=true:=by
 cases v with
 |non=>cases(show u=Value.none from r);rfl
 |bl b=>cases(show u=Value.bool b from r);rfl
 |int i=>obtain⟨t,e⟩:=(show ∃t,u=Value.int i t from r);cases e;rfl
 |str x=>obtain⟨t,e⟩:=(show ∃t,u=Value.str x t from r);cases e;rfl
 |byt b=>obtain⟨t,e⟩:=(show ∃t,u=Value.bytes b t from r);cases e;rfl
 |flt b=>obtain⟨t,e⟩:=(show ∃t,u=Value.float b t from r);cases e;rfl
 |ref a=>cases(show u=Value.ref a from r);rfl
 |ty n=>cases(show u=Value.type n from r);rfl
section
variable {P:Sd}{w:Sj}{H H':Hp}{h h':Sl}{a C dx:KF}{fs o7:List (C_×V)}
def gD(hok:HOk P w H h)(e:H a=be (.ins C dx fs)):∃mA,ObjM h a dx C mA/\(∀f,RelO (fs.lookup f) (mA f))/\PySem.Within mA (fs.map (·.1))/\fs.length<=1000/\H dx=be (.own a):=by
 obtain⟨d,z,ne,ob,mA,n,r,q⟩:=(show ObjOk P w H h a (.ins C dx fs)from hok a _ e);exact#[mA,#[ob,n,ne],r,q,z,d]
end
structure Cls(K:Ex)(C:KF):Prop where
 pg:plainGet K C Str.empty=true
 hd:hasDictIn K C=true
 po:plainOver K C=true
 sa:Gw K (.ref C) "__setattr__"=be (be (.builtin "object.__setattr__"))
def Cls.get(c:Cls K C)(f:C_):plainGet K C f=true:=c.pg
def NoAttr(K:Ex)(C:KF)(f:C_):Prop:=Gw K (.ref C) f=be q8
def NoAttr.taker{f:C_}(n:NoAttr K C f):takerIn K C f=be none:=by
 unfold takerIn;rw[show Gw K (.ref C) f=be q8 from n];rfl
structure Meth(K:Ex)(C:KF)(m:Str)(f:KF):Prop where
 at_:Gw K (.ref C) m=be (be (.ref f))
 fn:isFn K (.ref f)=true
 kp:keepIn K (.ref f)=true
section
variable {X:Cx}{pins:List (KF×Sx)}{σ:St}{H:Hp}{s:KM}{a C dx:KF}{fs:List (C_×V)}{f:C_}{v:V}{A:Sk}{E:KB->KM->Prop}
variable{Q:KB->KM->Prop}
def xb{b:Bool}(I:Inv X pins σ H s)(e:H a=be (.ins C dx fs))(c:Cls X.K C)(n:NoAttr X.K C f)(l:fs.lookup f=be v)
  (h:∀u s',Inv X pins σ H s'->RelV v u->Q u s'):Sg (Sf X.prog X.w) A (getAttr (.ref a) f b) Q E s:=by
 obtain⟨mA,O,r,_,_,_⟩:=gD I.hok e;obtain⟨u,hu,ru⟩:=RelO.some_of (v:=v) (o:=mA f) (by rw[<-l];exact r f);exact wW I.kIn O (c.get f) c.hd n hu (xa ru) (h u _ (I.tok _) ru)
def qE{m:C_}{g:KF}{pl:T9 Bool}{Q:KB×List KB->KM->Prop}(I:Inv X pins σ H s)(e:H a=be (.ins C dx fs))(c:Cls X.K C)(k:Meth X.K C m g)(l:fs.lookup m=q8)
  (h:Q (.ref g,[.ref a]) s):Sg (Sf X.prog X.w) A (TN (.ref a) m pl) Q E s:=by
 obtain⟨mA,O,r,_,_,_⟩:=gD I.hok e;have hn:mA m=none:=RelO.none_of (by rw[<-l];exact r m);exact wX I.kIn O (c.get m) k.at_ k.fn hn h
def xc{y:V}{u:KB}{Q:Unit->KM->Prop}(I:Inv X pins σ H s)(e:H a=be (.ins C dx fs))(c:Cls X.K C)(n:NoAttr X.K C f)(hl:fs.length<1000)(ry:RelV y u)
  (h:∀s',Inv X pins σ (upd H a (.ins C dx (putF f y fs))) s'->Q () s'):Sg (Sf X.prog X.w) A (setAttr (.ref a) f u) Q E s:=by
 obtain⟨mA,O,r,wi,_,ho⟩:=gD I.hok e;have hz:(fs.map (·.1)).length<=sizeLine:=by rw[Gm,Ts];lia
 refine wY I.kIn O c.sa c.po n.taker c.hd wi hz λh' O' sb=>h _ ?_;have hd:∃o,h'.get? dx=be o:=let ⟨o,_,_,e',_⟩:=O'.ns;#[o,e']
 refine I.write (x:=a) (e:=dx) (by rw[e];exact True.intro) (.inr ho) (λb q hb z=>(sb.2 b hb).trans z) hd ?_;refine#[by rw[au O.ne];exact ho,?_,O.ne,O'.obj,_,O'.ns,λg=>?_,λg hg=>?_]
 .have:=qD f y fs;lia
 .show RelO ((putF f y fs).lookup g) (if g=f then be u else mA g);rw[qC];by_cases q:g=f
  .rw[if_pos q,if_pos q];exact ry
  .rw[if_neg q,if_neg q];exact r g
 .by_cases q:g=f
  .rw[q];exact(jJ f y fs).1
  .refine(jJ f y fs).2 g (wi g λz=>hg ?_);show(if g=f then be u else mA g)=q8;rw[if_neg q];exact z
def Inv.made(I:Inv X pins σ H s):Inv X pins σ (upd (upd H s.heap.objs.size (.own (s.heap.objs.size+1))) (s.heap.objs.size+1) (.ins C s.heap.objs.size []))
  {s with heap:=(s.heap.push emptyDict).push (instObj C s.heap.objs.size)}:=by
 have e1:(s.heap.push emptyDict).get? s.heap.objs.size=be emptyDict:=Heap.get?_push_size s.heap rfl;have e2:((s.heap.push emptyDict).push (instObj C s.heap.objs.size)).get? (s.heap.objs.size+1)=be (instObj C s.heap.objs.size):=by
  have:=Heap.get?_push_size (s.heap.push emptyDict) (o:=instObj C s.heap.objs.size) rfl;rwa [Heap.size_push]at this
 have e3:(s.heap.push emptyDict).Ns s.heap.objs.size (λ_=>q8):=#[emptyDict,[].toArray,_,e1,rfl,(λe he=>absurd he Kv),λ_=>rfl];have I1:=I.laid (a:=s.heap.objs.size) (o:=.own (s.heap.objs.size+1)) (h':=s.heap.push emptyDict) (t':=s.toks) (λb u q=>Heap.get?_push_of_some _ q) (Gg _) #[_,e1];refine I1.laid (a:=s.heap.objs.size+1) (o:=.ins C s.heap.objs.size []) (t':=s.toks) (λb u q=>Heap.get?_push_of_some _ q) (HR (Heap.size_push _ _)) ?_;have ne:s.heap.objs.size≠s.heap.objs.size+1:=Gn (IQ _);refine#[by rw[au ne,aB],GI _,ne,e2,λ_=>q8,(Heap.Ns1.of_empty e3).at λo q=>Heap.get?_push_of_some _ q,λ_=>True.intro,λy hy=>absurd rfl hy]
def attr_of{prog:Sd}{w:Sj}{env:S1}{e:P3}{f:C_}{pos:Sr}{s:KM}(hb:Sn e f env (So e env)=So e env)
  (h:Sg (Sf prog w) A (So e env) (λo s₁=>Sg (Sf prog w) A (getAttr o f true) Q E s₁) E s):Sg (Sf prog w) A (So (.Attribute e f pos) env) Q E s:=
 Attribute_any_ h (by rw[arm_eval_Attribute,hb])
end
def tFld(K:Ex)(ta:TE)(f:C_):TE:=λσ H Q=>ta σ H λx H1=>∃a C dx fs v,x=.ref a/\H1 a=be (.ins C dx fs)/\Cls K C/\NoAttr K C f/\fs.lookup f=be v/\Q v H1
def sFld(K:Ex)(ta tv:TE)(f:C_):TS:=λD σ H=>tv σ H λy H1=>ta σ H1 λx H2=>∃a C dx fs,x=.ref a/\H2 a=be (.ins C dx fs)/\Cls K C/\NoAttr K C f/\fs.length<1000/\
 D.nx σ (upd H2 a (.ins C dx (putF f y fs)))
section
variable {X:Cx}{o e value:P3}{f:C_}{pos e8 Lf:Sr}{ta tv:TE}
def qF(he:PE X e ta)(hb:Sn e f X.env (So e X.env)=So e X.env):PE X (.Attribute e f pos) (tFld X.K ta f):=by
 intro pins s σ H Q I h;refine attr_of hb (thn (he pins s σ H _ I h) λu s1 c8=>?_);obtain⟨x,H1,I1,rx,a,C,dx,fs,v,ex,ea,c,n,l,q⟩:=c8;subst ex;obtain rfl:u=Value.ref a:=rx;exact xb I1 ea c n l λu' s2 I2 ru=>#[v,H1,I2,ru,q]
def qG(ha:PE X o ta)(hv:PE X value tv)(hs:SA value (be (.Attribute o f e8)) pos.line X.env=pure false):PS X (.Assign [.Attribute o f e8] value pos) (sFld X.K ta tv f):=by
 intro pins s σ H D I h;refine plainObj_wpAny_Assign_Attribute (thn (hv pins s σ H _ I h) λu s1 ⟨y,H1,I1,ry,q⟩=>thn (ha pins s1 σ H1 _ I1 q) λov s2 hh=>?_) hs;obtain⟨x,H2,I2,rx,a,C,dx,fs,ex,ea,c,n,l,q2⟩:=hh;subst ex;obtain rfl:ov=Value.ref a:=rx;exact xc I2 ea c n l ry λs3 I3=>#[σ,_,I3,q2]
end
section
variable {X:Cx}{pins:List (KF×Sx)}{σ:St}{H:Hp}{s:KM}{A:Sk}{E:KB->KM->Prop}{Q:KB->KM->Prop}{c:KB}{b:Bool}
inductive TyOf(K:Ex)(H:Hp):V->KB->Prop where
 |non:TyOf K H .non (.type "NoneType")
 |bl (x:Bool):TyOf K H (.bl x) (.type "bool")
 |int (i:Int):TyOf K H (.int i) (.type "int")
 |str (x:Str):TyOf K H (.str x) (.type "str")
 |flt (x:UInt64):TyOf K H (.flt x) (.type "float")
 |lst {a:KF} {xs:List V} (e:H a=some (.lst xs)):TyOf K H (.ref a) (.type "list")
 |frz {a:KF} {o:Sx} {xs:List V} (e:H a=some (.frz o (.lst xs))):TyOf K H (.ref a) (.type "list")
 |tup {a:KF} {xs:List V} (e:H a=some (.tup xs)):TyOf K H (.ref a) (.type "tuple")
 |dK {a:KF} {a9:List (Key×V)} (e:H a=some (.dK a9)):TyOf K H (.ref a) (.type "dict")
 |dT {a:KF} {a9:List (List Key×V)} (e:H a=some (.dT a9)):TyOf K H (.ref a) (.type "dict")
 |ins {a C dx:KF} {fs:List (Str×V)} (e:H a=some (.ins C dx fs)) (cl:Cls K C) (ha:Gw K (.ref C) "__class__"=some (some (.builtin "object.__class__")))
   (hn:HA K (.builtin "object.__class__") "__get__"=be (be (.builtin "getset_descriptor.__get__"))) (O4:HB K (.builtin "object.__class__")=be true)
   (hm:GR K C (.type "object")=be true):TyOf K H (.ref a) (.ref C)
def xf{x:V}{u t:KB}(I:Inv X pins σ H s)(rx:RelV x u)(ty:TyOf X.K H x t)(e:kitOne X.K t c=be b)(h:∀tk,Q (.bool b) {s with toks:=tk}):
  Sg (Sf X.prog X.w) A (call (.builtin "isinstance") [u,c]) Q E s:=by
 cases ty with
 |non=>cases(show u=Value.none from rx);exact kia_one kitx_none I.kIn True.intro e (λz=>nomatch z) h
 |bl y=>cases(show u=Value.bool y from rx);exact kia_one kitx_bool I.kIn True.intro e (λz=>nomatch z) h
 |int i=>obtain⟨t,q⟩:=(show ∃t,u=Value.int i t from rx);cases q;exact kia_one kitx_int I.kIn True.intro e (λz=>nomatch z) h
 |str y=>obtain⟨t,q⟩:=(show ∃t,u=Value.str y t from rx);cases q;exact kia_one kitx_str I.kIn True.intro e (λz=>nomatch z) h
 |flt y=>obtain⟨t,q⟩:=(show ∃t,u=Value.float y t from rx);cases q;exact kia_one kitx_float I.kIn True.intro e (λz=>nomatch z) h
 |@lst a xs ea=>
  cases(show u=Value.ref a from rx);obtain⟨_,_,n,_,h1⟩:=(show ObjOk X.prog X.w H s.heap a (.lst xs)from I.hok a _ ea);exact kia_one kitx_list I.kIn #[_,h1,rfl] e (λz=>nomatch z) h
 |@frz a ob xs ea=>
  cases(show u=Value.ref a from rx);obtain⟨_,_,_,n,_,h1⟩:=(show ObjOk X.prog X.w H s.heap a (.frz ob (.lst xs))from I.hok a _ ea);exact kia_one kitx_list I.kIn #[_,h1,rfl] e (λz=>nomatch z) h
 |@tup a xs ea=>
  cases(show u=Value.ref a from rx);obtain⟨_,_,_,p⟩:=(show ObjOk X.prog X.w H s.heap a (.tup xs)from I.hok a _ ea);obtain⟨o,h1,h2,_⟩:=p;exact kia_one kitx_tuple I.kIn #[o,h1,h2] e (λz=>nomatch z) h
 |@dK a a9 ea=>
  cases(show u=Value.ref a from rx);obtain⟨_,_,vs,_,p⟩:=(show ObjOk X.prog X.w H s.heap a (.dK a9)from I.hok a _ ea);obtain⟨o,es,ep,h1,h2,_⟩:=p;exact kia_one kitx_dict I.kIn #[o,h1,h2.1] e (λz=>nomatch z) h
 |@dT a a9 ea=>
  cases(show u=Value.ref a from rx);obtain⟨_,_,xs,_,o,es,ep,h1,h2,_⟩:=(show ObjOk X.prog X.w H s.heap a (.dT a9)from I.hok a _ ea);exact kia_one kitx_dict I.kIn #[o,h1,h2.1] e (λz=>nomatch z) h
 |@ins a C dx fs ea cl ha hn O4 hm=>
  cases(show u=Value.ref a from rx);obtain⟨mA,O,_⟩:=gD I.hok ea;obtain⟨od,J,_⟩:=O.look;exact kia_one (kitx_own (cl.get _) cl.hd ha hn O4 hm) I.kIn J e (λz=>nomatch z) h
end
structure Room(k:Nat)(A:Sk):Prop where
 hd:A.handled=q8
 dp:A.depth+3*k+5<recursionLimit
 un:A.units+16*k+200<TQ
variable{k:Nat}
def Room.mono{j:Nat}(r:Room k A)(h:j<=k):Room j A:=#[r.hd,by have:=r.dp;lia,by have:=r.un;lia]
def Room.deeper(r:Room (k+1) A)(env:S1):Room k (A.deeper env):=
 #[r.hd,by have:=r.dp;show A.depth+1+3*k+5<_;lia,by have:=r.un;show A.units+3+16*k+200<_;lia]
variable{kw:List (C_×KB)}
def xg:(A.under (.builtin "type.__call__" #[.ref C::us,kw])).depth=A.depth+1:=by
 first|rfl|simp[Around.under,Code.weight,Code.isCreation,Code.isGuard,Code.isCaller,Code.frames,Code.isFrame,guardIds]
def xh:(A.under (.builtin "type.__call__" #[.ref C::us,kw])).units=A.units+1:=by
 first|rfl|simp[Around.under,Code.cUnits,Code.frames,Code.isFrame]
def Room.make(r:Room (k+1) A)(C:KF)(us:List KB)(kw:List (C_×KB)):Room k (A.under (.builtin "type.__call__" #[.ref C::us,kw])):=
 #[r.hd,by have:=r.dp;rw[xg];lia,by have:=r.un;rw[xh];lia]
def Room.depth(r:Room k A):A.depth<recursionLimit:=by have:=r.dp;lia
def Room.units(r:Room k A):A.units+64<TQ:=by have:=r.un;lia
def tNil:TA:=λ_ H Q=>Q [] H
def qH(ta:TE)(tr:TA):TA:=λσ H Q=>ta σ H λx H1=>tr σ H1 λxs H2=>Q (x::xs) H2
section
variable {X:Cx}{e:P3}{es:List P3}{te:TE}{t:TA}{pos:Sr}
def pa_nil:PA X [] tNil:=λ_ _ _ _ H Q I h=>Calls.spliced_nil #[[],H,I,.nil,h]
def bf(ha:PE X e te)(hr:PA X es t)(hs:autoParam (zSE X e es) zA0):PA X (e::es) (qH te t):=by
 intro pos pins s σ H Q I h;rw[hs];show Sg _ _ (spliced ((false,So e X.env)::SZ pos (Si es X.env))) _ _ s;refine Calls.spliced_cons (thn (ha pins s σ H _ I h) λu s1 c8=>?_);obtain⟨x,H1,I1,r1,q1⟩:=c8;exact thn (hr pos pins s1 σ H1 _ I1 q1) λus s2 ⟨xs,H2,I2,r2,q2⟩=>#[x::xs,H2,I2,.cons r1 r2,q2]
def tTup(t:TA):TE:=λσ H Q=>t σ H λxs H1=>xs.length<=sizeLine/\∀p,H1 p=q8->Q (.ref p) (upd H1 p (.tup xs))
def tLst(t:TA):TE:=λσ H Q=>t σ H λxs H1=>xs.length<=sizeLine/\∀p,H1 p=q8->Q (.ref p) (upd H1 p (.lst xs))
def qI{x1}(h:PA X es t):PE X (.Tuple es x1 pos) (tTup t):=by
 intro pins s σ H Q I hq;refine wpAny_Tuple_spliced (thn (h pos pins s σ H _ I hq) λus s1 ⟨xs,H1,I1,r,z,q⟩=>#[by rw[<-r.length];exact z,?_]);have hf:H1 s1.heap.objs.size=none:=I1.hok.fresh (Gg _);refine#[.ref s1.heap.objs.size,upd H1 s1.heap.objs.size (.tup xs),I1.laid (t':=s1.toks) (λb u e=>Heap.get?_push_of_some _ e) (Gg _) ?_,rfl,q _ hf];exact#[z,us,r,#[_,Heap.get?_push_size _ rfl,rfl,_,rfl]]
def gE(h:PA X es t):PE X (.List es pos) (tLst t):=by
 intro pins s σ H Q I hq;refine wpAny_List_spliced (thn (h pos pins s σ H _ I hq) λus s1 ⟨xs,H1,I1,r,z,q⟩=>#[by rw[<-r.length];exact z,?_]);have hf:H1 s1.heap.objs.size=none:=I1.hok.fresh (Gg _);refine#[.ref s1.heap.objs.size,upd H1 s1.heap.objs.size (.lst xs),I1.laid (t':=s1.toks) (λb u e=>Heap.get?_push_of_some _ e) (Gg _) ?_,rfl,q _ hf];exact#[z,us,0,r,Heap.get?_push_size _ rfl]
end
abbrev Sp:=List V->Hp->VK->XK->Prop
abbrev CXT:=List S1->Hp->KM->XK->KB->KM->Prop
structure Env0(P:Sd)(w:Sj)(K:Ex)(mg:Str->Option KB)(base:Sl)(A:Sk)(outer:List S1)(s:KM)(H:Hp):Prop where
 frames:A.frames=be outer
 mod:Mod K mg base
 bs:∀b o,base.get? b=be o->s.heap.get? b=be o/\H b=q8
 bsz:base.objs.size<=s.heap.objs.size
 funs:s.heap.FunFrames base outer
 frf:∀b∈frs outer,H b=q8
 hok:HOk P w H s.heap
 bare:S6 s.gens
def CE(outer:List S1)(P:Sd)(w:Sj)(H:Hp)(s:KM)(Q:VK)(u:KB)(s':KM):Prop:=
 ∃v H',s'.os=s.os/\S6 s'.gens/\Un (frs outer) [] H H' s.heap s'.heap/\HOk P w H' s'.heap/\RelV v u/\Q v H'
def CR(CX:CXT)(outer:List S1)(P:Sd)(w:Sj)(H:Hp)(s:KM)(Q:VK)(E:XK)(r:Result)(s':KM):Prop:=
 match r with
 |.ok (.ret u)=>CE outer P w H s Q u s'
 |.ok _=>False
 |.error e=>CX outer H s E e s'
structure FnOk(P:Sd)(w:Sj)(K:Ex)(mg:Str->Option KB)(base:Sl)(CX:CXT)(k:Nat)(f:KF)(fd:Sq)(ps:List Str)(sp:Sp):Prop where
 len:∀vs H Q E,sp vs H Q E->vs.length=ps.length
 run:∀(A:Sk) (outer:List S1) (s:KM) (H:Hp) (args:Args) (us:List KB) (vs:List V) (Q:VK) (E:XK),Room k A->Env0 P w K mg base A outer s H->S_ s fd args (ps.zip us)->Vals vs us->sp vs H Q E->
  Te (Sf P w) A (.call (.ref f) args) (CR CX outer P w H s Q E) s
variable{f:KF}{mg:C_->Option KB}{base:Sl}{CX:CXT}{fd:Sq}{ps:List C_}{sp:Sp}
def FnOk.mono{j:Nat}(F:FnOk P w K mg base CX j f fd ps sp)(h:j<=k):
  FnOk P w K mg base CX k f fd ps sp:=#[F.len,λA outer s H args us vs Q E hr=>F.run A outer s H args us vs Q E (hr.mono h)]
def FnOk.imp{J6:Sp}(F:FnOk P w K mg base CX k f fd ps sp)
  (h:∀vs H Q E,J6 vs H Q E->sp vs H Q E):FnOk P w K mg base CX k f fd ps J6:=
 #[λvs H Q E q=>F.len vs H Q E (h _ _ _ _ q),λA outer s H args us vs Q E hr he hb hv hs=>F.run A outer s H args us vs Q E hr he hb hv (h _ _ _ _ hs)]
variable{outer:List S1}
def Env0.make(e:Env0 P w K mg base A outer s H)(C:KF)(us:List KB)(kw:List (C_×KB)):
  Env0 P w K mg base (A.under (.builtin "type.__call__" #[.ref C::us,kw])) outer s H:=#[by first|exact e.frames|(simpa[Around.under,Code.envs,Code.isFrame,pushEnvs]using e.frames),e.mod,e.bs,e.bsz,e.funs,e.frf,e.hok,e.bare]
section
variable {X:Cx}{pins:List (KF×Sx)}{σ:St}{H:Hp}{s s':KM}
def Inv.env0(I:Inv X pins σ H s):Env0 X.prog X.w X.K X.mg X.base X.A X.stack s H:=
 #[I.ok.frames,I.ok.mod,I.bs,Go I.ok.bsz I.sz,I.stack,I.stkFree,I.hok,I.bare]
def Inv.after{Q:VK}{u:KB}(I:Inv X pins σ H s)(h:CE X.stack X.prog X.w H s Q u s'):EP X pins σ Q u s':=by
 obtain⟨v,H',os,bare,un,hok,r,q⟩:=h;obtain⟨hh,g,d,t,Qj⟩:=s';obtain rfl:Qj=s.os:=os;exact#[v,H',I.call (h':=hh) (g':=g) (d':=d) (t':=t) (ch:=[]) un hok bare (λb z=>absurd z Kv),r,q]
end
def qJ(sp:Sp)(g4:List V)(E:XK)(t:TA):TE:=λσ H Q=>t σ H λvs H1=>sp (vs++g4) H1 Q E
def xi(C:KF)(sp:Sp)(g4:List V)(E:XK)(t:TA):TE:=λσ H Q=>t σ H λvs H1=>∀x dx,H1 x=q8->H1 dx=q8->dx≠x->
 sp (.ref x::(vs++g4)) (upd (upd H1 dx (.own x)) x (.ins C dx [])) (λv H2=>v=.non/\Q (.ref x) H2) E
def Binds(K:Ex)(fd:Sq)(ps:List C_)(ds:List KB):Prop:=
 ∀(s:KM) (us:List KB),K.In s.heap->(us++ds).length=ps.length->S_ s fd #[us,[]] (ps.zip (us++ds))
def Binds.all(h:∀us:List KB,us.length=ps.length->SW fd #[us,[]]=pure (ps.zip us)):Binds K fd ps []:=λs us _ hl=>by
 rw[GS]at hl ⊢;exact .of_eq (h us hl)
def fD(CX:CXT)(X:Cx)(E:XK):Prop:=∀(pins:List (KF×Sx)) (σ:St) (H:Hp) (s:KM) (e:KB) (s':KM),Inv X pins σ H s->CX X.stack H s E e s'->X.xe e s'
section
variable {X:Cx}{CX:CXT}{k:Nat}{f C:KF}{fd:Sq}{ps:List C_}{sp:Sp}{g4:List V}{ds:List KB}{E:XK}{x m:C_}{p pos b_:Sr}{e o:P3}{es:List P3}{ta:TE}{t:TA}
variable{pins:List (KF×Sx)}{us:List KB}{vs:List V}
def xj{σ:St}{H:Hp}{s:KM}{Q:VK}(F:FnOk X.prog X.w X.K X.mg X.base CX k f fd ps sp)(hr:Room k X.A)(hb:Binds X.K fd ps ds)(hd:Vals g4 ds)(hx:fD CX X E)
  (I:Inv X pins σ H s) (r:Vals vs us) (h:sp (vs++g4) H Q E):Sg (Sf X.prog X.w) X.A (call (.ref f) us) (EP X pins σ Q) X.xe s:=by
 have r2:Vals (vs++g4) (us++ds):=r.append hd;have hl:(us++ds).length=ps.length:=by rw[<-r2.length];exact F.len _ _ _ _ h
 refine Tg (S' (F.run X.A X.stack s H #[us,[]] (us++ds) (vs++g4) Q E hr I.env0 (hb s us I.kIn hl) r2 h) λr s' hq=>?_);cases r with
 |error e=>exact hx pins σ H s e s' I hq
 |ok fl=>
  cases fl with
  |ret u=>exact I.after hq
  |next=>exact False.elim hq
  |brk=>exact False.elim hq
  |cont=>exact False.elim hq
def xk(F:FnOk X.prog X.w X.K X.mg X.base CX k f fd ps sp)(hr:Room k X.A)(hg:Gl X x)(hm:X.mg x=be (.ref f))(hk:keepIn X.K (.ref f)=true)(hb:Binds X.K fd ps ds)(hd:Vals g4 ds)(hx:fD CX X E)
  (ha:PA X (e::es) t) (d8:autoParam (zND x) zA1) (he:autoParam (zSE X e es) zA0) (c_:autoParam (zPL X pos es) zA0):
  PE X (.Call (.Name x p) (e::es) [] pos) (qJ sp g4 E t):=by
 intro pins s σ H Q I h;refine Sv (cN I hg hm ?_ d8);refine callWith_K (h₀:=X.base) I.ok.mod.kin hk (thn (ha pos pins s σ H _ I h) λus s1 ⟨vs,H1,I1,r,q⟩=>#[I1.kIn,?_]) he c_;exact xj F hr hb hd hx I1 r q
structure Mk(K:Ex)(C f:KF):Prop where
 makes:makesIn K C=true
 init:Gw K (.ref C) "__init__"=be (be (.ref f))
 fn:isFn K (.ref f)=true
 kp:keepIn K (.ref C)=true
def xm{σ:St}{H:Hp}{s:KM}{Q:VK}(M:Mk X.K C f)(F:FnOk X.prog X.w X.K X.mg X.base CX k f fd ps sp)(hr:Room (k+1) X.A)(hb:Binds X.K fd ps ds)(hd:Vals g4 ds)
  (hx:fD CX X E) (I:Inv X pins σ H s) (r:Vals vs us)
  (h:∀x dx,H x=q8->H dx=q8->dx≠x->sp (.ref x::(vs++g4)) (upd (upd H dx (.own x)) x (.ins C dx [])) (λv H2=>v=.non/\Q (.ref x) H2) E):
  Sg (Sf X.prog X.w) X.A (call (.ref C) us) (EP X pins σ Q) X.xe s:=by
 have hq:=h (s.heap.objs.size+1) s.heap.objs.size (I.hok.fresh (Hl _)) (I.hok.fresh (Gg _)) (Gn (IQ _));have I2:=Inv.made (C:=C) I;have r2:Vals (V.ref (s.heap.objs.size+1)::(vs++g4)) (Value.ref (s.heap.objs.size+1)::(us++ds)):=.cons rfl (r.append hd);have hl:(Value.ref (s.heap.objs.size+1)::us++ds).length=ps.length:=by
  have e:=r2.length;rw[F.len _ _ _ _ hq]at e;exact e.symm
 refine Tg (wZ (f:=f) I.kIn M.makes M.init (beq_iff_eq.mp M.fn) (S' (F.run _ X.stack _ _ #[Value.ref (s.heap.objs.size+1)::us,[]] (Value.ref (s.heap.objs.size+1)::(us++ds)) _ _ E (hr.make C us [])
  (I2.env0.make C us []) (hb _ (Value.ref (s.heap.objs.size+1)::us) I2.kIn hl) r2 hq) λr s' E_=>?_))
 cases r with
 |error e=>exact hx pins σ _ _ e s' I2 E_
 |ok fl=>
  cases fl with
  |ret u=>
   obtain⟨v,H',I3,rv,ev,q3⟩:=I2.after E_;subst ev;exact#[rv,#[V.ref (s.heap.objs.size+1),H',I3,rfl,q3]]
  |next=>exact False.elim E_
  |brk=>exact False.elim E_
  |cont=>exact False.elim E_
def gG(M:Mk X.K C f)(F:FnOk X.prog X.w X.K X.mg X.base CX k f fd ps sp)(hr:Room (k+1) X.A)(hg:Gl X x)(hm:X.mg x=be (.ref C))(hb:Binds X.K fd ps ds)(hd:Vals g4 ds)(hx:fD CX X E)
  (ha:PA X (e::es) t) (d8:autoParam (zND x) zA1) (he:autoParam (zSE X e es) zA0) (c_:autoParam (zPL X pos es) zA0):
  PE X (.Call (.Name x p) (e::es) [] pos) (xi C sp g4 E t):=by
 intro pins s σ H Q I h;refine Sv (cN I hg hm ?_ d8);refine callWith_K (h₀:=X.base) I.ok.mod.kin M.kp (thn (ha pos pins s σ H _ I h) λus s1 ⟨vs,H1,I1,r,q⟩=>#[I1.kIn,?_]) he c_;exact xm M F hr hb hd hx I1 r q
end
structure FnScope(N P:List Str)(sc:SK):Prop where
 kind:sc.kind=.function
 co:sc.isCoroutine=false
 gen:sc.isGenerator=false
 nd:N.Nodup
 pre:N.take P.length=P
 par:∀x∈P,sc.names.lookup x=be .local\/sc.names.lookup x=be .cell
 nofree:∀y∈sc.names,y.2≠.free
def qK{kindOf:C_->Option SX}{x:C_}:∀{binds:List (C_×KB)} {m:C_->Option KB},(∀v,(x,v)∉binds)->TR kindOf binds m x=m x
 |[],_,_=>rfl
 |(n,v)::r,m,h=>by
  unfold TR;rw[qK λw hw=>h w (Gi _ hw)];split
  .have:x≠n:=by rintro rfl;exact h v Gk
   simp[this]
  .rfl
def bindC_out{kindOf:C_->Option SX}{x:C_}:∀{binds:List (C_×KB)} {m:C_->Option KB},(∀v,(x,v)∉binds)->TU kindOf binds m x=m x
 |[],_,_=>rfl
 |(n,v)::r,m,h=>by
  unfold TU;rw[bindC_out λw hw=>h w (Gi _ hw)];split
  .rfl
  .have:x≠n:=by rintro rfl;exact h v Gk
   simp[this]
def bindL_get{kindOf:C_->Option SX}{x:C_}{v:KB}:∀{P:List C_} {vs:List KB} {i:Nat} {m:C_->Option KB},P.Nodup->P[i]?=be x->vs[i]?=be v->kindOf x=be .local->
  TR kindOf (P.zip vs) m x=be v
 |[],_,_,_,_,h,_,_=>by simp at h
 |_::_,[],_,_,_,_,h,_=>by simp at h
 |p::P,w::vs,0,m,nd,h1,h2,hk=>by
  simp at h1 h2;subst h1;subst h2;show TR kindOf ((p,w)::P.zip vs) m p=_;unfold TR;rw[qK λv hv=>(GP.mp nd).1 (Ie hv).1,if_pos hk];simp
 |p::P,w::vs,i+1,m,nd,h1,h2,hk=>by
  show TR kindOf ((p,w)::P.zip vs) m x=_;unfold TR;exact bindL_get (i:=i) (GP.mp nd).2 (by simpa using h1) (by simpa using h2) hk
def qL{kindOf:C_->Option SX}{x:C_}{v:KB}:∀{P:List C_} {vs:List KB} {i:Nat} {m:C_->Option KB},P.Nodup->P[i]?=be x->vs[i]?=be v->kindOf x≠be .local->
  TU kindOf (P.zip vs) m x=be v
 |[],_,_,_,_,h,_,_=>by simp at h
 |_::_,[],_,_,_,_,h,_=>by simp at h
 |p::P,w::vs,0,m,nd,h1,h2,hk=>by
  simp at h1 h2;subst h1;subst h2;show TU kindOf ((p,w)::P.zip vs) m p=_;unfold TU;rw[bindC_out λv hv=>(GP.mp nd).1 (Ie hv).1,if_neg hk];simp
 |p::P,w::vs,i+1,m,nd,h1,h2,hk=>by
  show TU kindOf ((p,w)::P.zip vs) m x=_;unfold TU;exact qL (i:=i) (GP.mp nd).2 (by simpa using h1) (by simpa using h2) hk
def start(N:List C_)(vs:List V):St:=vs.map be++GV (N.length-vs.length) q8
def cxOf(CX:CXT)(P:Sd)(w:Sj)(K:Ex)(mg:C_->Option KB)(base:Sl)(N:List C_)(qual:C_)(scope:SK)(f:KF)(cd:KB)(A:Sk)(outer:List S1)(s:KM)(H:Hp)(E:XK):Cx where
 prog:=P
 w:=w
 K:=K
 mg:=mg
 base:=base
 A:=A.deeper (Su qual scope s.heap.objs.size f cd)
 N:=N
 s₀:=s
 H₀:=H
 env:=Su qual scope s.heap.objs.size f cd
 outer:=outer
 stack:=Su qual scope s.heap.objs.size f cd::outer
 ex:=[]
 calm:=true
 fn:=λ_=>true
 pn:=[]
 xe:=λe s'=>Sg (Sf P w) (A.deeper (Su qual scope s.heap.objs.size f cd)) (TZ (Su qual scope s.heap.objs.size f cd) e) (λ_ M8=>CX outer H s E e M8) (λe' M8=>CX outer H s E e' M8) s'
def cell_has{sc:SK}{n:Nat}{x:C_}(h:sc.names.lookup x=be .cell):∃c,(cellsFrom n sc.names []).lookup x=be c:=by
 have q:=cellsFrom_some sc.names n [] (.inl h);exact Option.isSome_iff_exists.mp q
variable{N:List C_}{scope:SK}
def xn{qual:C_}{cd:KB}{s1:KM}{E:XK}{vs:List V}
  (S:FnScope N ps scope) (hd:A.handled=q8) (e0:Env0 P w K mg base A outer s H) (hl:vs.length=ps.length) (r:Vals vs us)
  (x:InCallC s s.heap.objs.size (TR (Su qual scope s.heap.objs.size f cd).kindOf (ps.zip us) λ_=>q8) (cellsFrom (s.heap.objs.size+1) scope.names []) (TU (Su qual scope s.heap.objs.size f cd).kindOf (ps.zip us) λ_=>q8) s1):
  Inv (cxOf CX P w K mg base N qual scope f cd A outer s H E) [] (start N vs) H s1:=by
 have c_:ps.length<=N.length:=by have:=congrArg Ig S.pre;rw[HC]at this;lia
 obtain⟨h1,tk,rfl,hk⟩:=x.done;have Lh:∀b:KF,b∉(cxOf CX P w K mg base N qual scope f cd A outer s H E).ex:=λb z=>absurd (show b∈([]:List KF)from z) Kv;refine⟨#[e0.mod,S.kind,rfl,rfl,Gg _,λy z c h1 h2=>?_,λy hy=>?_,λy c _ h=>?_,λ_=>hd,Around.frames_deeper e0.frames,.inr #[rfl,rfl],λb z=>absurd z (Lh b),e0.bs,e0.bsz,λb _ _=>Lh b,λb z=>absurd z (Lh b),e0.funs,e0.frf],
  rfl,e0.bare,Un.kept hk,#[_,x.toInCall.ns,λi y v h1 h2 h3=>?_],λy c h=>#[_,x.cell y c h],e0.hok.fresh (Gg _),λy c h=>?_,λp hp=>absurd (show p∈([]:List (KF×Sx))from hp) Kv,e0.hok.kept hk,?_⟩
 .exact name_of_addr x.apart (PySem.mem_of_lookup h1) (PySem.mem_of_lookup h2)
 .have hy:scope.names.lookup y=be .cell\/scope.names.lookup y=be .free:=hy;rcases hy with hy|hy
  .exact cell_has hy
  .exact absurd rfl (S.nofree _ (PySem.mem_of_lookup hy))
 .exact HM (x.above y c (PySem.mem_of_lookup h))
 .have hi:i<vs.length:=by
   unfold start at h2;by_cases hi:i<vs.length
   .exact hi
   .rw[Ha (by simpa using hi)]at h2;rw[Ih]at h2;split at h2<;>cases h2
  have ha:vs[i]?=be v:=by
   unfold start at h2;rw[GW (by simpa using hi),Gr]at h2;cases e:vs[i]? with
   |none=>rw[e]at h2;cases h2
   |some a=>rw[e]at h2;cases h2;rfl
  obtain⟨u,hu,rv⟩:=r.get ha;have hp:ps[i]?=be y:=by
   rw[<-S.pre,Ii Kn];exact h1
  have O5:ps.Nodup:=by rw[<-S.pre];exact S.nd.sublist (List.take_sublist _ _)
  refine#[u,rv,?_];rcases S.par y (HS hp)with k|k
  .exact .inl #[k,bindL_get O5 hp hu k]
  .obtain⟨c,e⟩:=cell_has (n:=s.heap.objs.size+1) k;refine .inr #[.inl k,c,e,?_];have q:=x.cell y c e;rw[qL O5 hp hu (by show scope.names.lookup y≠_;rw[k];decide)]at q;exact q
 .exact e0.hok.fresh (HM (x.above y c (PySem.mem_of_lookup h)))
 .unfold start;show _=N.length;rw[Gx,Gm,List.length_replicate];lia
def xo{name qual:C_}{params:Arguments}{body:List Se}{dV kV doc pm cdv ct oc:KB}{an od:Option KF}
  {osl:Array (Option KB)}   (lk:K.lookup f=be #[oc,od,.func (fnOf name qual params body scope dV kV doc pm an cdv ct),osl]) (gV:codeIn K cdv qual=true) (S:FnScope N ps scope)
  (len:∀vs H Q E,sp vs H Q E->vs.length=ps.length)
  (a_:∀(A:Sk) (outer:List S1) (s:KM) (H:Hp) (vs:List V) (Q:VK) (E:XK),Room k (A.deeper (Su qual scope s.heap.objs.size f cdv))->sp vs H Q E->
   ∃t,PSs (cxOf CX P w K mg base N qual scope f cdv A outer s H E) body t/\t {nx:=λ_ H'=>Q .non H',rt:=Q} (start N vs) H):
  FnOk P w K mg base CX (k+1) f (fnOf name qual params body scope dV kV doc pm an cdv ct) ps sp:=by
 refine#[len,λA outer s H args us vs Q E hr e0 hb r J7=>?_];have hl:=len _ _ _ _ J7;have KX:K.In s.heap:=e0.mod.kin.keeps λb o e=>(e0.bs b o e).1;have Qk:s.heap.NoLimit:=e0.mod.nolimit.keeps λb o e=>(e0.bs b o e).1;have Li:∀y∈ps.zip us,scope.names.lookup y.1=be .local\/(scope.names.lookup y.1=be .cell/\((cellsFrom (s.heap.objs.size+1) scope.names []).lookup y.1).isSome=true):=λ⟨n,v⟩ hy=>by
  rcases S.par n (Ie hy).1 with q|q
  .exact .inl q
  .exact .inr #[q,cellsFrom_some _ _ _ (.inl q)]
 refine codeAny_call_function hr.depth (KX _ _ lk) rfl S.co S.gen rfl (codeRec_of KX gV) (hb _ _ _ _ ?_);refine wpAny_newFunctionEnv_cells S.kind Li λenv he s1 x=>?_;subst he;refine#[Qk.keeps x.toInCall.keep,codeAny_func ?_];obtain⟨t,ht,hq⟩:=a_ A outer s H vs Q E (hr.deeper _) J7;have I:Inv (cxOf CX P w K mg base N qual scope f cdv A outer s H E) [] (start N vs) H s1:=xn S hr.hd e0 hl r x;refine Sy (ht [] s1 (start N vs) H _ I hq) (λfl s' hs=>?_) λe s' hs=>hs;have e_:∀{σ':St} {H':Hp} {v:V} {u:KB},Inv (cxOf CX P w K mg base N qual scope f cdv A outer s H E) [] σ' H' s'->RelV v u->Q v H'->CE outer P w H s Q u s':=
  λ{σ' H' v u} J rv q=>#[v,H',J.os,J.bare,J.base,J.hok,rv,q]
 cases fl with
 |ret u=>
  obtain⟨v,σ',H',J,rv,q⟩:=hs;exact e_ J rv q
 |next=>
  obtain⟨σ',H',J,q⟩:=hs;exact e_ (v:=V.non) (u:=Value.none) J rfl q
 |brk=>
  obtain⟨_,_,_,q⟩:=hs;exact False.elim q
 |cont=>
  obtain⟨_,_,_,q⟩:=hs;exact False.elim q
section
variable {X:Cx}{x:C_}{p pos:Sr}{e:P3}{es:List P3}{t:TA}{id T:String}{r:List V->Hp->VK->Prop}
def tCB(r:List V->Hp->VK->Prop)(t:TA):TE:=λσ H Q=>t σ H λvs H1=>r vs H1 Q
def dY(hc:bA X (.builtin id) r)(hg:Gl X x)(hm:X.mg x=q8)(hv:Sw x=be (.builtin id))(ha:PA X (e::es) t)(hn:autoParam (x≠"__name__") zA1)(d8:autoParam (zND x) zA1)
  (he:autoParam (zSE X e es) zA0) (c_:autoParam (zPL X pos es) zA0):PE X (.Call (.Name x p) (e::es) [] pos) (tCB r t):=by
 intro pins s σ H Q I h;refine Sv (dD I hg hm hv ?_ hn d8);exact PyProof.Rows.callWith_builtin1 (thn (ha pos pins s σ H _ I h) λus s1 ⟨vs,H1,I1,r1,q1⟩=>hc pins s1 σ H1 vs us Q I1 r1 q1) he c_
def qM(hc:bA X (.type T) r)(hg:Gl X x)(hm:X.mg x=q8)(hv:Sw x=be (.type T))(ha:PA X (e::es) t)(hn:autoParam (x≠"__name__") zA1)(d8:autoParam (zND x) zA1)
  (he:autoParam (zSE X e es) zA0) (c_:autoParam (zPL X pos es) zA0):PE X (.Call (.Name x p) (e::es) [] pos) (tCB r t):=by
 intro pins s σ H Q I h;refine Sv (dD I hg hm hv ?_ hn d8);exact PyProof.Rows.callWith_type1 (thn (ha pos pins s σ H _ I h) λus s1 ⟨vs,H1,I1,r1,q1⟩=>hc pins s1 σ H1 vs us Q I1 r1 q1) he c_
end
end L2
namespace HT
open PySem PyProof.Rows
section
variable {prog:Sd}{w:Sj}{A:Sk}{E:KB->KM->Prop}{s:KM}
variable{Q:KB->KM->Prop}
def cat_tup{t b:KF}{vs ws:List KB}(ht:IsTup s.heap t vs.toArray)(hb:IsTup s.heap b ws.toArray)(hv:vs≠[])
  (h1:ws=[]->Q (.ref t) s) (h2:ws≠[]->Q (.ref s.heap.objs.size) {s with heap:=s.heap.push {cls:=.type "tuple",data:=.seq (vs++ws).toArray} })
  (i6:vs.length+ws.length<=sizeLine):Sg (Sf prog w) A (SF .Add (.ref t) (.ref b)) Q E s:=by
 obtain⟨⟨cls,dd,data,sl⟩,ho,hc,n,hd⟩:=id ht;obtain⟨⟨Ql,O6,data2,O7⟩,Mh,O8,n2,Mi⟩:=id hb;simp only at hc hd O8 Mi;subst hc hd O8 Mi;have e:vs.toArray++ws.toArray=(vs++ws).toArray:=Kv
 by_cases hw:ws=[]
 .exact concat_meets #[_,ho,rfl] #[_,Mh,rfl] noFill_tuple_add seq_tuple_add PySem.F.slot_tuple_add PySem.F.entry_tuple_add (PySem.F.args_tuple_add_2 _ _)
   (tuple_addW1 t b vs.toArray ws.toArray n n2 dd O6 sl O7 (by simpa using hv) (by simp[hw])) #[ho,Mh,h1 hw]
 .refine concat_meets #[_,ho,rfl] #[_,Mh,rfl] noFill_tuple_add seq_tuple_add PySem.F.slot_tuple_add PySem.F.entry_tuple_add (PySem.F.args_tuple_add_2 _ _)
   (tuple_addW2 t b vs.toArray ws.toArray n n2 dd O6 sl O7 (by simpa using hv) (by simpa using hw) (by rw[Gp,Gp];exact i6)) #[ho,Mh,?_]
  rw[e];exact h2 hw
def sIx(n d:Nat):Option Int->Nat
 |none=>d
 |some v=>if v<0 then(v+(n:Int)).toNat else min v.toNat n
def sIx_le(n d:Nat)(hd:d<=n)(o:Option Int):sIx n d o<=n:=by
 cases o with
 |none=>exact hd
 |some v=>
  show(if v<0 then(v+(n:Int)).toNat else min v.toNat n)<=n;by_cases hv:v<0
  .rw[if_pos hv];lia
  .rw[if_neg hv];exact Nat.min_le_right _ _
def qN(v:Int)(n d:Nat):(if v<0 then max (v+(n:Int)) 0 else min v (n:Int))=((sIx n d (be v):Nat):Int):=by
 show(if v<0 then max (v+(n:Int)) 0 else min v (n:Int))=(((if v<0 then(v+(n:Int)).toNat else min v.toNat n):Nat):Int);by_cases hv:v<0
 .simp only[if_pos hv];lia
 .simp only[if_neg hv];lia
def xp(lo hi:Option Int)(n:Nat):Builtin.Slice.sliceAdjust lo hi 1 (n:Int)=(((sIx n 0 lo:Nat):Int),((sIx n n hi:Nat):Int)):=by
 have h1:¬((1:Int)<0):=Kn
 unfold Builtin.Slice.sliceAdjust;simp only[h1,if_false];refine Prod.ext ?_ ?_
 .cases lo with
  |none=>rfl
  |some v=>exact qN v n 0
 .cases hi with
  |none=>rfl
  |some v=>exact qN v n n
def xq(i j:Nat):Builtin.Slice.slicePlaces (i:Int) (j:Int) 1=j-i:=by
 unfold Builtin.Slice.slicePlaces;have h1:(1:Int)>0:=Kn
 simp only[h1,if_true,Int.ediv_one];split<;>lia
def qO{v:KB}{o:Option Int}{Q:Option Int->KM->Prop}(p:Tq v o)(h:Q o s):Sg (Sf prog w) A (Builtin.Slice.slicePartIndex v) Q E s:=by
 cases p with
 |none=>exact slicePart_none h
 |int i t=>exact slicePart_int h
variable{lo hi:Option Int}
def xr{sl:KF}{vl vu:KB}{n:Nat}{Q:Int×Int×Nat->KM->Prop}(hs:s.heap.IsSliceOf sl vl vu .none)(pl:Tq vl lo)(pu:Tq vu hi)
  (h:Q (((sIx n 0 lo:Nat):Int),1,sIx n n hi-sIx n 0 lo) s):Sg (Sf prog w) A (Builtin.Slice.sliceApplied (.ref sl) (pure (n:Int))) Q E s:=by
 obtain⟨os,F_,O9,Mj⟩:=id hs;unfold Builtin.Slice.sliceApplied Builtin.Slice.sliceFields;refine Os (Os (SU F_ Mj (x:=vl) rfl (Os (SU F_ Mj (x:=vu) rfl (Os (SU F_ Mj (x:=.none) rfl (Sh ?_)))))));refine Os (slicePart_none ?_);show Sg _ _ (if((1:Int)==0)=true then _ else _) _ _ s;rw[if_neg Ku];refine Os (qO pl (Os (qO pu (Os (Sh ?_)))));show Sg _ _ (match Builtin.Slice.sliceAdjust lo hi 1 (n:Int)with|(lo,hi)=>pure (lo,(1:Int),Builtin.Slice.slicePlaces lo hi 1)) _ _ s;rw[xp lo hi n];show Sg _ _ (pure (((sIx n 0 lo:Nat):Int),(1:Int),Builtin.Slice.slicePlaces ((sIx n 0 lo:Nat):Int) ((sIx n n hi:Nat):Int) 1)) _ _ s;rw[xq];exact Sh h
def xt(xs:Array KB)(i k:Nat):((Gj k).filterMap λ(m:Nat)=>xs[((i:Int)+(m:Int)*1).toNat]?).toArray=((xs.toList.drop i).take k).toArray:=by
 have e:(λ(m:Nat)=>xs[((i:Int)+(m:Int)*1).toNat]?)=λm=>xs[i+m]?:=by
  funext m;have:((i:Int)+(m:Int)*1).toNat=i+m:=Kn
  rw[this]
 rw[e];have:=pick_run xs i k;rw[IR]at this;have e2:((λx=>xs[x]?) ∘ λx=>i+x)=λm=>xs[i+m]?:=rfl;rw[e2]at this;rw[this]
def getItem_tuple_cut{t sl:KF}{items:Array KB}{vl vu:KB}(ht:IsTup s.heap t items)(hs:s.heap.IsSliceOf sl vl vu .none)(pl:Tq vl lo)(pu:Tq vu hi)
  (hw:¬(sIx items.size 0 lo=0/\sIx items.size items.size hi=items.size))
  (h:Q (.ref s.heap.objs.size) {s with heap:=s.heap.push {cls:=.type "tuple",data:=.seq ((items.toList.drop (sIx items.size 0 lo)).take (sIx items.size items.size hi-sIx items.size 0 lo)).toArray} })
  (i6:items.size<=sizeLine):Sg (Sf prog w) A (Tz (.ref t) (.ref sl)) Q E s:=by
 have g9:sizeOk (.seq ((items.toList.drop (sIx items.size 0 lo)).take (sIx items.size items.size hi-sIx items.size 0 lo)).toArray):=by
  show((items.toList.drop (sIx items.size 0 lo)).take (sIx items.size items.size hi-sIx items.size 0 lo)).toArray.size<=sizeLine;rw[Gp,HC,Hm,HP];lia
 have hj:sIx items.size items.size hi<=items.size:=sIx_le _ _ (Gg _) hi;obtain⟨os,F_,O9,Mj⟩:=id hs;have Qm:s.TypeIs (.ref sl) "slice":=#[os,F_,O9];unfold Tz
 try with_reducible refine SE ?_
 first|refine Os (Sh ?_)|skip
 refine Os (wpAny_sequenceKey ht.typeIs Ku ?_);refine Os (wpAny_callSpecial?_slot (name:=Str.ofString "__getitem__") ht.typeIs PyProof.Rows.slot_tuple_getitem
  (wpAny_call_entry PyProof.Rows.slot_tuple_getitem ht.typeIs entry_tuple_getitem ?_ (args_tuple_getitem _ _)))
 show Sg _ _ (Builtin.Tuple.tupleItemsOf (.ref t)>>=_) _ _ s;refine Os (tupleItemsOf_ ht ?_);refine Os (wpAny_typeOf Qm ?_);rw[if_pos Ku];refine Os (xr hs pl pu ?_);have KN:¬((((sIx items.size 0 lo:Nat):Int)==0&&(1:Int)==1&&(sIx items.size items.size hi-sIx items.size 0 lo)==items.size)=true):=by
  intro q;rw[GF,GF]at q;have q1:((sIx items.size 0 lo:Nat):Int)=0:=eq_of_beq q.1.1;have q2:sIx items.size items.size hi-sIx items.size 0 lo=items.size:=eq_of_beq q.2;exact hw #[Kn,Kn]
 show Sg _ _ (if(((sIx items.size 0 lo:Nat):Int)==0&&(1:Int)==1&&(sIx items.size items.size hi-sIx items.size 0 lo)==items.size)=true then _ else _) _ _ s;rw[if_neg KN,xt]
 first
  |exact Os (m:=Builtin.Tuple.tupleExact _) (Ss (Sh ⟨_,rfl,Sh h⟩) g9)
  |exact Os (m:=Builtin.Tuple.tupleExact _) (Ss (Os (Sh (Sh ⟨_,rfl,Sh h⟩))) g9)
  |exact Os (Os (m:=Builtin.Tuple.tupleExact _) (Ss (Sh (Sh ⟨_,rfl,Sh h⟩)) g9))
  |exact Os (Os (m:=Builtin.Tuple.tupleExact _) (Ss (Sh ⟨_,rfl,Sh h⟩) g9))
end
end HT
namespace L2
open PySem PySem.Spec PyProof.Rows
abbrev TO:=St->Hp->(Option Int->Hp->Prop)->Prop
def PO(X:Cx)(e:Option P3)(t:TO):Prop:=
 ∀(pins:List (KF×Sx)) (s:KM) (σ:St) (H:Hp) (Q:Option Int->Hp->Prop),Inv X pins σ H s->t σ H Q->
  Sg (Sf X.prog X.w) X.A (evalPart e X.env) (λu s'=>∃o H',Inv X pins σ H' s'/\Tq u o/\Q o H') X.xe s
def xu:TO:=λ_ H Q=>Q q8 H
def xw(t:TE):TO:=λσ H Q=>t σ H λx H1=>∃i,x=.int i/\Q (be i) H1
section
variable {X:Cx}{e:P3}{te:TE}{lo hi:Option P3}{tl th:TO}{pos p2:Sr}
def jK:PO X q8 xu:=by
 intro pins s σ H Q I h;rw[evalPart_none];exact Sh #[q8,H,I,.none,h]
def jL(h:PE X e te):PO X (be e) (xw te):=by
 intro pins s σ H Q I hw;rw[evalPart_some];refine thn (h pins s σ H _ I hw) λu s1 c8=>?_;obtain⟨x,H1,I1,r1,q1⟩:=c8;obtain⟨i,rfl,q⟩:=q1;obtain⟨t,rfl⟩:=r1;exact#[be i,H1,I1,.int i t,q]
def SlR(X:Cx)(r:V->Option Int->Option Int->Hp->VK->Prop):Prop:=
 ∀(pins:List (KF×Sx)) (s:KM) (σ:St) (H:Hp) (x:V) (v vl vu:KB) (lo hi:Option Int) (sl:KF) (Q:VK),Inv X pins σ H s->RelV x v->s.heap.IsSliceOf sl vl vu .none->Tq vl lo->Tq vu hi->r x lo hi H Q->
  ∃T id,typeLookup (.type T) "__getitem__"=pure (be (.builtin id))/\s.TypeIs v T/\Sg (Sf X.prog X.w) X.A (Tz v (.ref sl)) (EP X pins σ Q) X.xe s
variable{r:V->Option Int->Option Int->Hp->VK->Prop}
def SlR.or{r':V->Option Int->Option Int->Hp->VK->Prop}(h:SlR X r)(h':SlR X r'):SlR X (λx lo hi H Q=>r x lo hi H Q\/r' x lo hi H Q):=by
 intro pins s σ H x v vl vu lo hi sl Q I rx hs pl pu q;rcases q with q|q
 .exact h pins s σ H x v vl vu lo hi sl Q I rx hs pl pu q
 .exact h' pins s σ H x v vl vu lo hi sl Q I rx hs pl pu q
def tSl(r:V->Option Int->Option Int->Hp->VK->Prop)(te:TE)(tl th:TO):TE:=λσ H Q=>te σ H λx H1=>tl σ H1 λl H2=>th σ H2 λu H3=>r x l u H3 Q
def jM(hr:SlR X r)(he:PE X e te)(hl:PO X lo tl)(hu:PO X hi th):PE X (.Subscript e (.Slice lo hi q8 p2) pos) (tSl r te tl th):=by
 intro pins s σ H Q I h;refine Subscript_ (thn (he pins s σ H _ I h) λv s1 c8=>?_);obtain⟨x,H1,I1,r1,q1⟩:=c8;refine wpAny_Slice (thn (hl pins s1 σ H1 _ I1 q1) λvl s2 ⟨l,H2,I2,pl,q2⟩=>thn (hu pins s2 σ H2 _ I2 q2) λvu s3 c8=>?_);obtain⟨u,H3,I3,pu,q3⟩:=c8;rw[evalPart_none];refine Sh ?_;have I4:Inv X pins σ H3 {s3 with heap:=s3.heap.push {cls:=.type "slice",data:=.fields [vl,vu,.none].toArray} }:=I3.kept (t':=s3.toks) λb ob q=>Heap.get?_push_of_some _ q;obtain⟨T,id,hT,ht,hg⟩:=hr pins {s3 with heap:=s3.heap.push {cls:=.type "slice",data:=.fields [vl,vu,.none].toArray} } σ H3 x v vl vu l u s3.heap.objs.size Q I4 r1 (Heap.IsSliceOf.new ..) pl pu q3;show Sg (Sf X.prog X.w) X.A (subscriptTail e (.Slice lo hi q8 p2) v (.ref s3.heap.objs.size)) (EP X pins σ Q) X.xe {s3 with heap:=s3.heap.push {cls:=.type "slice",data:=.fields [vl,vu,.none].toArray} };exact tail_any (ops:=[.ref s3.heap.objs.size,v]) ht hT hg (by with_unfolding_all rfl)
def cutV(xs:List V)(lo hi:Option Int):List V:=(xs.drop (HT.sIx xs.length 0 lo)).take (HT.sIx xs.length xs.length hi-HT.sIx xs.length 0 lo)
def qP(xs:List V)(lo hi:Option Int):(cutV xs lo hi).length<=xs.length:=by
 unfold cutV;rw[HC,Hm];lia
def rSlT(K:Ex):V->Option Int->Option Int->Hp->VK->Prop:=λx lo hi H Q=>∃a xs,x=.ref a/\SqT K H a xs/\
 ¬(HT.sIx xs.length 0 lo=0/\HT.sIx xs.length xs.length hi=xs.length)/\∀p,H p=q8->Q (.ref p) (upd H p (.tup (cutV xs lo hi)))
def xx:SlR X (rSlT X.K):=by
 intro pins s σ H x v vl vu lo hi sl Q I rx hs pl pu h;obtain⟨a,xs,rfl,hx,hw,q⟩:=h;cases rx;obtain⟨its,r,ht,hz⟩:=I.tuple hx;have c5:its.toArray.size=xs.length:=by rw[Gp];exact r.length.symm
 refine#["tuple",_,PyProof.Rows.slot_tuple_getitem.lookup,ht.typeIs,?_];refine HT.getItem_tuple_cut ht hs pl pu (by rw[c5];exact hw) ?_ (by rw[c5];exact hz);rw[c5];refine#[.ref s.heap.objs.size,_,I.laid (t':=s.toks) (o:=.tup (cutV xs lo hi)) (λb ob q=>Heap.get?_push_of_some _ q) (Gg _) ?_,rfl,q _ (I.hok.fresh (Gg _))];exact#[Go (qP xs lo hi) hz,_,(r.drop (HT.sIx xs.length 0 lo)).take (HT.sIx xs.length xs.length hi-HT.sIx xs.length 0 lo),IsTup.new _ _]
def qQ(K:Ex):R2:=λx y H Q=>∃a b xs ys,x=.ref a/\y=.ref b/\SqT K H a xs/\SqT K H b ys/\xs≠[]/\xs.length+ys.length<=sizeLine/\
 (ys=[]->Q (.ref a) H)/\(ys≠[]->∀p,H p=q8->Q (.ref p) (upd H p (.tup (xs++ys))))
def Vals.nil_iff{xs:List V}{us:List KB}(r:Vals xs us):us=[]↔xs=[]:=by
 cases r with
 |nil=>simp
 |cons _ _=>simp
def xy:OpR X (SF .Add) (qQ X.K):=by
 intro pins s σ H x y v u Q I rx ry h;obtain⟨a,b,xs,ys,rfl,rfl,ha,hb,hx,hz,q1,q2⟩:=h;cases rx;cases ry;obtain⟨its,r1,p1,_⟩:=I.tuple ha;obtain⟨l6,r2,p2,_⟩:=I.tuple hb;refine HT.cat_tup p1 p2 (λz=>hx (r1.nil_iff.mp z)) (λz=>#[.ref a,H,I,rfl,q1 (r2.nil_iff.mp z)]) (λz=>?_) (by rw[<-r1.length,<-r2.length];exact hz);refine#[.ref s.heap.objs.size,_,I.laid (t':=s.toks) (o:=.tup (xs++ys)) (λb ob q=>Heap.get?_push_of_some _ q) (Gg _) ?_,rfl,q2 (λw=>z (r2.nil_iff.mpr w)) _ (I.hok.fresh (Gg _))];exact#[by rw[Gx];exact hz,_,r1.append r2,IsTup.new _ _]
end
def ixN(n:Nat)(i:Int):Option Nat:=if 0<=i then(if i<n then be i.toNat else q8)else if -(n:Int)<=i then be (i+n).toNat else q8
def atI{α:Type}(xs:List α)(i:Int):Option α:=(ixN xs.length i).bind λj=>xs[j]?
def qR{n:Nat}{i:Int}{j:Nat}(h:ixN n i=be j):seqIndex? i n=be j/\j<n/\-(n:Int)<=i/\i<n:=by
 unfold ixN at h;by_cases h0:0<=i
 .rw[if_pos h0]at h;by_cases h1:i<n
  .rw[if_pos h1]at h;have e:i.toNat=j:=Option.some.inj h;exact#[by rw[T7 h0 h1,e],Kn,Kn,h1]
  .rw[if_neg h1]at h;cases h
 .rw[if_neg h0]at h;by_cases h1:-(n:Int)<=i
  .rw[if_pos h1]at h;have e:(i+n).toNat=j:=Option.some.inj h;exact#[by rw[TX Kn h1,e],Kn,h1,Kn]
  .rw[if_neg h1]at h;cases h
def atI_get{α:Type}{xs:List α}{i:Int}{v:α}(h:atI xs i=be v):∃j,seqIndex? i xs.length=be j/\xs[j]?=be v/\j<xs.length/\-(xs.length:Int)<=i/\i<xs.length:=by
 unfold atI at h;cases e:ixN xs.length i with
 |none=>rw[e]at h;cases h
 |some j=>
  rw[e]at h;obtain⟨h1,h2,h3,h4⟩:=qR e;exact#[j,h1,h,h2,h3,h4]
def ca{α:Type}{xs:List α}{j:Nat}{v:α}(h:xs[j]?=be v):atI xs (j:Int)=be v:=by
 have hj:j<xs.length:=(Gq.mp h).1;have e:ixN xs.length (j:Int)=be j:=by
  unfold ixN;rw[if_pos Kn,if_pos Kn];simp
 unfold atI;rw[e];exact h
def dZ(b:P3):Prop:=∀o i,subscripted b false o i=operate [o,i] (Tz o i)
def IxR(X:Cx)(r:R2):Prop:=
 ∀(value slice:P3) (pins:List (KF×Sx)) (s:KM) (σ:St) (H:Hp) (x y:V) (v u:KB) (Q:VK),Inv X pins σ H s->RelV x v->RelV y u->r x y H Q->
  subscripted slice false v u=operate [v,u] (Tz v u)->Sg (Sf X.prog X.w) X.A (subscriptTail value slice v u) (EP X pins σ Q) X.xe s
def MtR(X:Cx)(id:String)(r:V->List V->Hp->VK->Prop):Prop:=
 ∀(pins:List (KF×Sx)) (s:KM) (σ:St) (H:Hp) (x:V) (xs:List V) (v:KB) (us:List KB) (Q:VK),Inv X pins σ H s->RelV x v->Vals xs us->r x xs H Q->
  Sg (Sf X.prog X.w) X.A (call (.builtin id) (v::us)) (EP X pins σ Q) X.xe s
section
variable {X:Cx}{a b:P3}{ta tb:TE}{pos:Sr}
def IxR.or{r r':R2}(h:IxR X r)(h':IxR X r'):IxR X (λx y H Q=>r x y H Q\/r' x y H Q):=by
 intro value slice pins s σ H x y v u Q I rx ry q hs;rcases q with q|q
 .exact h value slice pins s σ H x y v u Q I rx ry q hs
 .exact h' value slice pins s σ H x y v u Q I rx ry q hs
def pe_ix{r:R2}(hr:IxR X r)(ha:PE X a ta)(hb:PE X b tb)(hs:dZ b):PE X (.Subscript a b pos) (tOp r ta tb):=by
 intro pins s σ H Q I h;exact Subscript_ (binT ha hb I h λv u s2 x y H2 I2 rx ry q=>hr a b pins s2 σ H2 x y v u Q I2 rx ry q (hs _ _))
def rIxL(K:Ex):R2:=λx y H Q=>∃p xs i v,x=.ref p/\y=.int i/\SqL K H p xs/\atI xs i=be v/\Q v H
def rIxT(K:Ex):R2:=λx y H Q=>∃p xs i v,x=.ref p/\y=.int i/\SqT K H p xs/\atI xs i=be v/\Q v H
def rIxS:R2:=λx y H Q=>∃z i c,x=.str z/\y=.int i/\z.length<=sizeLine/\atI z.cps.toList i=be c/\Q (.str #[[c].toArray]) H
def ix_list:IxR X (rIxL X.K):=by
 intro value slice pins s σ H x y v u Q I rx ry h hs;obtain⟨p,xs,i,z,rfl,rfl,hq,he,q⟩:=h;cases rx;obtain⟨t,rfl⟩:=ry;obtain⟨its,r,pl,hz⟩:=I.list hq;obtain⟨j,h1,h2,h3,h4,h5⟩:=atI_get he;obtain⟨w,ew,g8⟩:=r.get h2;have hl:=r.length;have hn:=line63;have e_:EP X pins σ Q w s:=#[z,H,I,g8,q];by_cases h0:0<=i
 .have hj:i.toNat=j:=by
   rw[T7 h0 h5]at h1;exact Option.some.inj h1
  exact item_listR pl.isList h0 Kn (by rw[hj];simpa using ew) e_ hs
 .have hj:(i+(its.toArray.size:Int)).toNat=j:=by
   rw[TX Kn h4]at h1;rw[Gp,<-hl];exact Option.some.inj h1
  exact TV (x:=w) pl.isList.typeIs slot_list_getitem.lookup
   (wpAny_getItem_list_neg (Q:=λr s'=>r=w/\EP X pins σ Q r s') pl.isList Kn (by rw[Gp]<;>lia) Kn (by rw[hj];simpa using ew) #[rfl,e_]) hs
def ix_tup:IxR X (rIxT X.K):=by
 intro value slice pins s σ H x y v u Q I rx ry h hs;obtain⟨p,xs,i,z,rfl,rfl,hq,he,q⟩:=h;cases rx;obtain⟨t,rfl⟩:=ry;obtain⟨its,r,pl,hz⟩:=I.tuple hq;obtain⟨j,h1,h2,h3,h4,h5⟩:=atI_get he;obtain⟨w,ew,g8⟩:=r.get h2;have hl:=r.length;have hn:=line63;have e_:EP X pins σ Q w s:=#[z,H,I,g8,q];exact TV (x:=w) pl.typeIs slot_tuple_getitem.lookup
  (getItem_tuple (j:=j) (Q:=λr s'=>r=w/\EP X pins σ Q r s') pl Kn Kn (by rw[Gp,<-hl];exact h1) (by simpa using ew) #[rfl,e_]) hs
def xz:IxR X rIxS:=by
 intro value slice pins s σ H x y v u Q I rx ry h hs;obtain⟨z,i,c,rfl,rfl,hz,he,q⟩:=h;obtain⟨t,rfl⟩:=rx;obtain⟨t',rfl⟩:=ry;obtain⟨j,h1,h2,h3,h4,h5⟩:=atI_get he;have hl:z.cps.toList.length=z.length:=by simp[Str.length]
 rw[hl]at h1 h4 h5;have hn:=line63;exact tail_any (Ue s z t) slot_str_getitem.lookup (getItem_str (c:=c) (by
  have e1:decide (i< -(2^63:Int))=false:=decide_eq_false Kn;have e2:decide (i>=2^63)=false:=decide_eq_false Kn;rw[e1,e2,Bool.or_false]) (by rw[h1];simpa using h2) #[.str #[[c].toArray],H,I.tok _,#[_,rfl],q]) hs
def rIx(K:Ex):R2:=λx y H Q=>rIxL K x y H Q\/rIxT K x y H Q\/rIxS x y H Q
def qS:IxR X (rIx X.K):=ix_list.or (ix_tup.or xz)
def xA(its:List KB)(n j:Nat)(u:KB):Obj.mapSeq (·.setIfInBounds j u) {cls:=.type "list",data:=.seq its.toArray n}={cls:=.type "list",data:=.seq (its.set j u).toArray n}:=by
 simp[Obj.mapSeq]
def Inv.lst{pins:List (KF×Sx)}{σ:St}{H:Hp}{s:KM}{p:KF}{xs:List V}(I:Inv X pins σ H s)(h:H p=be (.lst xs)):
  ∃(its:List KB) (n:Nat),Vals xs its/\s.heap.get? p=be {cls:=.type "list",data:=.seq its.toArray n}/\xs.length<=sizeLine:=by
 obtain⟨z,its,n,r,e⟩:=I.hok p _ h;exact#[its,n,r,e,z]
variable{pins:List (KF×Sx)}{s:KM}
def Inv.lstUpd{σ:St}{H:Hp}{p:KF}{xs ys:List V}{its its':List KB}{n n':Nat}{f:Sx->Sx}(I:Inv X pins σ H s)(h:H p=be (.lst xs))
  (ho:s.heap.get? p=be {cls:=.type "list",data:=.seq its.toArray n}) (hf:f {cls:=.type "list",data:=.seq its.toArray n}={cls:=.type "list",data:=.seq its'.toArray n'}) (r:Vals ys its') (hz:ys.length<=sizeLine) (t:Nat):
  Inv X pins σ (upd H p (.lst ys)) {s with heap:=s.heap.update p f,toks:=t}:=by
 have e:(s.heap.update p f).get? p=be {cls:=.type "list",data:=.seq its'.toArray n'}:=by
  rw[Heap.get?_update_self f ho (by rw[hf]<;>rfl),hf]
 refine I.write (x:=p) (e:=p) (by rw[h];trivial) (.inl rfl) (λb u hb q=>(Heap.get?_update_other _ _ (Ne.symm hb)).trans q) #[_,e] ?_;exact#[hz,its',n',r,e]
def xB:V->V->V->Hp->(Hp->Prop)->Prop:=λo i v H Q=>∃p xs k j,o=.ref p/\i=.int k/\H p=be (.lst xs)/\ixN xs.length k=be j/\Q (upd H p (.lst (xs.set j v)))
def jN:PSet X xB:=by
 intro pins s σ H o i v ov iv u Q I ro ri rv h;obtain⟨p,xs,k,j,rfl,rfl,hp,hj,q⟩:=h;cases ro;obtain⟨t,rfl⟩:=ri;obtain⟨its,n,r,ho,hz⟩:=I.lst hp;obtain⟨h1,h2,h3,h4⟩:=qR hj;have hl:=r.length;have hn:=line63;have I':Inv X pins σ (upd H p (.lst (xs.set j v))) {s with heap:=s.heap.update p (Obj.mapSeq (·.setIfInBounds j u))}:=
  I.lstUpd hp ho (xA its n j u) (r.set rv j) (by rw[G0];exact hz) s.toks
 by_cases h0:0<=k
 .have hk:k.toNat=j:=by
   rw[T7 h0 h4]at h1;exact Option.some.inj h1
  exact ki_setAt ho h0 Kn (by rw[Gp,<-hl];exact h4) (by rw[hk];exact#[_,I',q])
 .have hk:(k+(its.toArray.size:Int)).toNat=j:=by
   rw[TX Kn h3]at h1;rw[Gp,<-hl];exact Option.some.inj h1
  exact ki_setBack ho Kn (by rw[Gp,<-hl];exact h3) Kn (by rw[hk];exact#[_,I',q])
def xC(lo hi:Option Int)(n:Nat):(SV lo hi q8 n).1=((HT.sIx n 0 lo:Nat):Int)/\(SV lo hi q8 n).2.1=((HT.sIx n n hi:Nat):Int)/\(SV lo hi q8 n).2.2=1:=by
 refine#[?_,?_,rfl]
 .cases lo with
  |none=>simp[SV,HT.sIx]
  |some i=>
   simp only[SV,HT.sIx,IS,show(1:Int)>0 by decide,if_true];by_cases h:i<0
   .simp only[h,if_true]<;>lia
   .simp only[h,if_false]<;>lia
 .cases hi with
  |none=>simp[SV,HT.sIx]
  |some i=>
   simp only[SV,HT.sIx,IS,show(1:Int)>0 by decide,if_true];by_cases h:i<0
   .simp only[h,if_true]<;>lia
   .simp only[h,if_false]<;>lia
def xD(its:List KB)(lo hi:Option Int):slicePick its.toArray lo hi q8=((its.drop (HT.sIx its.length 0 lo)).take (HT.sIx its.length its.length hi-HT.sIx its.length 0 lo)).toArray:=by
 obtain⟨h1,h2,h3⟩:=xC lo hi its.toArray.size;unfold slicePick;rw[h1,h2,h3];simp only[sliceRange_one,pick_run,Gp]<;>rfl
def rSlL(K:Ex):V->Option Int->Option Int->Hp->VK->Prop:=λx lo hi H Q=>∃a xs,x=.ref a/\SqL K H a xs/\∀p,H p=q8->Q (.ref p) (upd H p (.lst (cutV xs lo hi)))
def jO:SlR X (rSlL X.K):=by
 intro pins s σ H x v vl vu lo hi sl Q I rx hs pl pu h;obtain⟨a,xs,rfl,hx,q⟩:=h;cases rx;obtain⟨its,r,ht,hz⟩:=I.list hx;have c5:=r.length;refine#["list",_,slot_list_getitem.lookup,ht.isList.typeIs,?_];refine wpAny_getItem_list_slice ht.isList hs pl pu .none Kv ?_ (by rw[Gp]<;>lia);rw[xD,<-c5];refine#[.ref s.heap.objs.size,_,I.laid (t':=s.toks) (o:=.lst (cutV xs lo hi)) (λb ob q=>Heap.get?_push_of_some _ q) (Gg _) ?_,rfl,q _ (I.hok.fresh (Gg _))];exact#[Go (qP xs lo hi) hz,_,0,(r.drop (HT.sIx xs.length 0 lo)).take (HT.sIx xs.length xs.length hi-HT.sIx xs.length 0 lo),Heap.get?_push_size _ rfl]
def bB:V->Bool
 |.non=>true
 |.bl _=>true
 |.int _=>true
 |.str _=>true
 |_=>false
def eqV:V->V->Bool
 |.non,.non=>true
 |.bl a,.bl b=>a==b
 |.bl a,.int b=>(if a then 1 else 0)==b
 |.int a,.bl b=>a==(if b then 1 else 0)
 |.int a,.int b=>a==b
 |.str a,.str b=>a==b
 |_,_=>false
variable{x:V}
def eqAt_V{A:Sk}{y:V}{u v:KB}(ry:RelV y u)(rx:RelV x v)(fy:bB y=true)(fx:bB x=true):SeqAt.EqAt A s u v (eqV y x):=by
 cases y with
 |non=>
  cases ry;cases x with
  |non=>cases rx;exact SeqAt.EqAt.same _
  |bl b=>cases rx;exact SeqAt.EqAt.none_bool b
  |int b=>obtain⟨t,rfl⟩:=rx;exact SeqAt.EqAt.none_int b t
  |str b=>obtain⟨t,rfl⟩:=rx;exact SeqAt.EqAt.none_str b t
  |_=>exact absurd (show false=true from fx) Gu
 |bl a=>
  cases ry;cases x with
  |non=>cases rx;exact SeqAt.EqAt.bool_none a
  |bl b=>cases rx;exact SeqAt.EqAt.bool_bool a b
  |int b=>obtain⟨t,rfl⟩:=rx;exact SeqAt.EqAt.bool_int a b t
  |str b=>obtain⟨t,rfl⟩:=rx;exact SeqAt.EqAt.bool_str a b t
  |_=>exact absurd (show false=true from fx) Gu
 |int a=>
  obtain⟨t',rfl⟩:=ry;cases x with
  |non=>cases rx;exact SeqAt.EqAt.int_none a t'
  |bl b=>cases rx;exact SeqAt.EqAt.int_bool a t' b
  |int b=>obtain⟨t,rfl⟩:=rx;exact SeqAt.EqAt.int_int a t' b t
  |str b=>obtain⟨t,rfl⟩:=rx;exact SeqAt.EqAt.int_str a t' b t
  |_=>exact absurd (show false=true from fx) Gu
 |str a=>
  obtain⟨t',rfl⟩:=ry;cases x with
  |non=>cases rx;exact SeqAt.EqAt.str_none a t'
  |bl b=>cases rx;exact SeqAt.EqAt.str_bool a t' b
  |int b=>obtain⟨t,rfl⟩:=rx;exact SeqAt.EqAt.str_int a t' b t
  |str b=>obtain⟨t,rfl⟩:=rx;exact SeqAt.EqAt.str_str a t' b t
  |_=>exact absurd (show false=true from fx) Gu
 |_=>exact absurd (show false=true from fy) Gu
def eqU(x:V)(u:KB):Bool:=match u with
 |.none=>eqV .non x
 |.bool b=>eqV (.bl b) x
 |.int i _=>eqV (.int i) x
 |.str z _=>eqV (.str z) x
 |_=>false
def gH{y:V}{u:KB}(r:RelV y u)(f:bB y=true):eqU x u=eqV y x:=by
 cases y with
 |non=>cases r;rfl
 |bl b=>cases r;rfl
 |int i=>obtain⟨t,rfl⟩:=r;rfl
 |str z=>obtain⟨t,rfl⟩:=r;rfl
 |_=>exact absurd (show false=true from f) Gu
def jP{x:V}:∀{xs:List V} {us:List KB},Vals xs us->xs.all bB=true->us.any (eqU x)=xs.any λy=>eqV y x
 |_,_,.nil,_=>rfl
 |y::xs,u::us,.cons r t,f=>by
  rw[G3,GF]at f;rw[HU,HU,gH r f.1,jP t f.2]
def mem_eqAt{A:Sk}{s:KM}{x:V}{v:KB}(rx:RelV x v)(fx:bB x=true):∀{xs:List V} {us:List KB},Vals xs us->xs.all bB=true->∀u∈us,SeqAt.EqAt A s u v (eqU x u)
 |_,_,.nil,_=>λu hu=>by cases hu
 |y::xs,u::us,.cons r t,f=>λu' hu=>by
  rw[G3,GF]at f;rcases Gh.mp hu with rfl|hu
  .rw[gH r f.1];exact eqAt_V r rx f.1 fx
  .exact mem_eqAt rx fx t f.2 u' hu
def inV(x:V)(xs:List V):Bool:=xs.any λy=>eqV y x
def rIn(K:Ex)(neg:Bool):R2:=λx y H Q=>∃p xs,y=.ref p/\(SqL K H p xs\/SqT K H p xs)/\bB x=true/\xs.all bB=true/\Q (.bl (if neg then !inV x xs else inV x xs)) H
def xE:OpR X (Sz .NotIn) (rIn X.K true):=by
 intro pins s σ H x y v u Q I rx ry h;obtain⟨p,xs,rfl,hq,fx,fs,q⟩:=h;cases ry;rcases hq with hq|hq
 .obtain⟨its,r,pl,hz⟩:=I.list hq;refine SeqAt.notIn_listAt (eqU x) pl.isList (λw hw=>mem_eqAt rx fx r fs w (by simpa using hw)) #[.bl _,H,I,rfl,?_];rw[show its.toArray.any (eqU x)=its.any (eqU x)by simp,jP r fs];exact q
 .obtain⟨its,r,pl,hz⟩:=I.tuple hq;refine SeqAt.notIn_tupleAt (eqU x) pl (λw hw=>mem_eqAt rx fx r fs w (by simpa using hw)) #[.bl _,H,I,rfl,?_];rw[show its.toArray.any (eqU x)=its.any (eqU x)by simp,jP r fs];exact q
def xF:OpR X (Sz .NotIn) (λx y H Q=>∃i j,x=.str i/\y=.str j/\Q (.bl (!(!(Builtin.Str.occurrences j i 0 j.length 1).isEmpty))) H):=by
 intro pins s σ H x y v u Q I rx ry h;obtain⟨i,j,rfl,rfl,q⟩:=h;obtain⟨t,rfl⟩:=rx;obtain⟨t',rfl⟩:=ry;exact notIn_str #[.bl _,H,I,rfl,q]
def xG:bA X (.type "list") (λxs H Q=>∃p ys,xs=[.ref p]/\(SqL X.K H p ys\/SqT X.K H p ys)/\∀l,H l=q8->Q (.ref l) (upd H l (.lst ys))):=by
 intro pins s σ H xs us Q I r h;obtain⟨p,ys,rfl,hq,q⟩:=h;obtain⟨u,rfl,rx⟩:=bY r;cases rx;have e_:∀(its:List KB),Vals ys its->ys.length<=sizeLine->∀(h':Sl) (c':Nat),(∀b o',s.heap.get? b=be o'->h'.get? b=be o')->
   h'.get? s.heap.objs.size=be {cls:=.type "list",dict:=q8,data:=.seq its.toArray c',slots:=[].toArray}->EP X pins σ Q (.ref s.heap.objs.size) {s with heap:=h'}:=λits r' hz h' c' kp e=>
  #[.ref s.heap.objs.size,_,I.laid (t':=s.toks) kp (Gg _) (show ObjOk X.prog X.w _ h' _ (.lst ys)from#[hz,its,c',r',e]),rfl,q _ (I.hok.fresh (Gg _))]
 rcases hq with hq|hq
 .obtain⟨its,r',pl,hz⟩:=I.list hq;have c5:=r'.length;obtain⟨o,ho,hc,n,hd⟩:=pl.isList;exact call_list_seq p (.inl rfl) ho hc hd (λh' c' kp e=>e_ its r' hz h' c' kp e) (by simp only[Gp]<;>lia)
 .obtain⟨its,r',pl,hz⟩:=I.tuple hq;have c5:=r'.length;obtain⟨o,ho,hc,n,hd⟩:=pl;exact call_list_seq p (.inr rfl) ho hc hd (λh' c' kp e=>e_ its r' hz h' c' kp e) (by simp only[Gp]<;>lia)
def tyV(K:Ex)(T:String)(x:V)(H:Hp):Prop:=match x with
 |.str _=>T="str"
 |.int _=>T="int"
 | .ref p=>(T="list"/\∃xs,SqL K H p xs)\/(T="tuple"/\∃o,K.lookup p=be o/\o.cls=.type "tuple"/\o.dict=q8)\/
   (T="dict"/\((∃a9,H p=be (.dK a9))\/∃a9,H p=be (.dT a9)))\/(T="set"/\∃S n,H p=be (.set S n))
 |_=>False
def qT{σ:St}{H:Hp}{T:String}{v:KB}(I:Inv X pins σ H s)(r:RelV x v)(ty:tyV X.K T x H):
  s.TypeIs v T/\∀a,v=.ref a->∃ob,s.heap.get? a=be ob/\ob.dict=none:=by
 cases x with
 |str z=>
  obtain⟨t,rfl⟩:=r;cases(show T="str" from ty);exact#[Ue s z t,λ_ e=>nomatch e]
 |int i=>
  obtain⟨t,rfl⟩:=r;cases(show T="int" from ty);exact#[typeIs_int s i t,λ_ e=>nomatch e]
 |ref p=>
  cases r;rcases ty with⟨rfl,xs,hq⟩|⟨rfl,o,hk,hc,hd⟩|⟨rfl,hk⟩|⟨rfl,S,n,hk⟩
  .obtain⟨its,_,pl,_⟩:=I.list hq;refine#[pl.isList.typeIs,λa e=>?_];cases e;obtain⟨o,n,e,c,hd,_⟩:=pl;exact#[o,e,hd]
  .refine#[#[o,I.kIn p o hk,hc],λa e=>?_];cases e;exact#[o,I.kIn _ o hk,hd]
  .have z:∃o,s.heap.get? p=be o/\o.ExactDict:=by
    rcases hk with⟨a9,hk⟩|⟨a9,hk⟩
    .obtain⟨_,_,_,_,o,_,_,e,ex,_⟩:=I.hok p _ hk;exact#[o,e,ex]
    .obtain⟨_,_,_,_,o,_,_,e,ex,_⟩:=I.hok p _ hk;exact#[o,e,ex]
   obtain⟨o,e,ex⟩:=z;refine#[#[o,e,ex.1],λa e2=>?_];cases e2;exact#[o,e,ex.2.1]
  .obtain⟨o,_,_,_,e,ex,_⟩:=I.hok p _ hk;refine#[#[o,e,ex.1],λa e2=>?_];cases e2;exact#[o,e,ex.2.1]
 |_=>exact False.elim ty
def tBM0(K:Ex)(T:String)(r:V->List V->Hp->VK->Prop)(to:TE):TE:=λσ H Q=>to σ H λx H1=>tyV K T x H1/\r x [] H1 Q
def tBM(K:Ex)(T:String)(r:V->List V->Hp->VK->Prop)(to:TE)(t:TA):TE:=λσ H Q=>to σ H λx H1=>tyV K T x H1/\t σ H1 λxs H2=>r x xs H2 Q
variable {o e:P3}{es:List P3}{to:TE}{t:TA}{name:C_}{b_ a8:Sr}{T id:String}{r:V->List V->Hp->VK->Prop}
def xH(pa:PlainAttrs T)(slot:Slot T name id)(Lj:typeOf (.builtin id)=pure (.type "method_descriptor"))(hm:MtR X id r)(ho:PE X o to)
  (b9:autoParam (Sn o name X.env (So o X.env)=So o X.env) zA0) (c7:autoParam ((b_.endLine==a8.line)=true) zA0):PE X (.Call (.Attribute o name b_) [] [] a8) (tBM0 X.K T r to):=by
 intro pins s σ H Q I h;refine wpAny_Call_method0_late b9 c7 (thn (ho pins s σ H _ I h) λv s1 c8=>?_);obtain⟨x,H1,I1,r1,ty,q1⟩:=c8;obtain⟨h1,h2⟩:=qT I1 r1 ty;exact#[T,id,pa,slot,Lj,h1,h2,Calls.callWith_builtin rfl (PySem.evalArgs_none (hm pins s1 σ H1 x [] v [] Q I1 r1 .nil q1))]
def cO(pa:PlainAttrs T)(slot:Slot T name id)(Lj:typeOf (.builtin id)=pure (.type "method_descriptor"))(hm:MtR X id r)(ho:PE X o to)(ha:PA X (e::es) t)
  (b9:autoParam (Sn o name X.env (So o X.env)=So o X.env) zA0)
  (d7:((SZ a8 (Si (e::es) X.env)).all (λx=>!x.1)&&(T8 a8 (Tt [] X.env)).all (λx=>x.1.isSome)
   && decide ((e::es).length+([]:List Uo).length+(if([]:List Uo).isEmpty then 0 else 1)<30))=true:=by rfl)
  (c7:autoParam ((b_.endLine==a8.line)=true) zA0) (hs:autoParam (zSE X e es) zA0) (m5:autoParam (zPL X a8 es) zA0):
  PE X (.Call (.Attribute o name b_) (e::es) [] a8) (tBM X.K T r to t):=by
 intro pins s σ H Q I h;refine wpAny_Call_method_late b9 d7 c7 rfl (thn (ho pins s σ H _ I h) λv s1 c8=>?_);obtain⟨x,H1,I1,r1,ty,q1⟩:=c8;obtain⟨h1,h2⟩:=qT I1 r1 ty;refine#[T,id,pa,slot,Lj,h1,h2,?_];have hA:=ha a8 pins s1 σ H1 _ I1 q1;rw[hs]at hA ⊢;refine Calls.callWith_builtin (by show(false||(SZ a8 (Si es X.env)).any (·.1))=false;rw[m5]<;>rfl) (Calls.evalArgs_plain ?_);exact thn hA λus s2 ⟨vs,H2,I2,r2,q2⟩=>hm pins s2 σ H2 x vs v us Q I2 r1 r2 q2
end
def MtM(X:Cx)(id:String)(r:V->List V->Hp->VK->Prop):Prop:=
 ∀(pins:List (KF×Sx)) (s:KM) (σ:St) (H:Hp) (x:V) (xs:List V) (v:KB) (us:List KB) (Q:VK),Inv X pins σ H s->RelV x v->Vals xs us->r x xs H Q->
  Sg (Sf X.prog X.w) X.A (call (.builtin id) (v::us)) (EP X pins σ Q) X.xe s
def Vals.one:∀{x:V} {us:List KB},Vals [x] us->∃u,us=[u]/\RelV x u:=by
 intro x us h;cases h with
 |cons r h=>cases h;exact#[_,rfl,r]
def Vals.zero:∀{us:List KB},Vals [] us->us=[]
 |_,.nil=>rfl
def Vals.dropLast{xs:List V}{us:List KB}(h:Vals xs us):Vals xs.dropLast us.dropLast:=by
 induction h with
 |nil=>exact .nil
 |cons r t ih=>
  cases t with
  |nil=>exact .nil
  |cons q t'=>exact .cons r ih
def xI{α:Type}(l:List α):l.eraseIdx (l.length-1)=l.dropLast:=by
 induction l with
 |nil=>rfl
 |cons a r ih=>
  cases r with
  |nil=>rfl
  |cons b r=>
   have e:(a::b::r).length-1=((b::r).length-1)+1:=by
    have h1:(a::b::r).length=r.length+2:=rfl;have h2:(b::r).length=r.length+1:=rfl;lia
   rw[e,List.eraseIdx_cons_succ,ih]
   all_goals rfl
section
variable {X:Cx}{pins:List (KF×Sx)}{σ:St}{H:Hp}{s:KM}{l b:KF}{xs ys zs:List V}
variable{its:List KB}
def Inv.lset{its':List KB}{n:Nat}{f:Array KB->Array KB}{t':Nat}(I:Inv X pins σ H s)(hH:H l=be (.lst xs))
  (e:s.heap.get? l=be {cls:=.type "list",data:=.seq its.toArray n}) (hf:f its.toArray=its'.toArray) (hv:Vals ys its') (hz:ys.length<=sizeLine):
  Inv X pins σ (upd H l (.lst ys)) {s with heap:=s.heap.update l (Obj.mapSeq f),toks:=t'}:=by
 have q:=PySem.IsL.update e f;rw[hf]at q;refine I.write (x:=l) (e:=l) (by rw[hH];exact trivial) (.inl rfl) (λb' u hb hu=>(Heap.get?_update_other s.heap (Obj.mapSeq f) (Ne.symm hb)).trans hu) #[_,q] ?_;exact#[hz,its',_,hv,q]
def Inv.lnew{t':Nat}(I:Inv X pins σ H s)(hv:Vals ys its)(hz:ys.length<=sizeLine):
  Inv X pins σ (upd H s.heap.objs.size (.lst ys)) {s with heap:=s.heap.push {cls:=.type "list",data:=.seq its.toArray},toks:=t'}:=
 I.laid (λ_ _ q=>Heap.get?_push_of_some _ q) (Gg _) #[hz,its,0,hv,Heap.get?_push_size _ rfl]
def Inv.fresh(I:Inv X pins σ H s):H s.heap.objs.size=none:=I.hok.fresh (Gg _)
def Inv.lstM(I:Inv X pins σ H s)(hH:H l=be (.lst xs)):xs.length<=sizeLine/\∃(its:List KB) (n:Nat),Vals xs its/\xs.length=its.length/\s.heap.get? l=be {cls:=.type "list",data:=.seq its.toArray n}:=by
 obtain⟨z,its,n,r,e⟩:=I.hok l _ hH;exact#[z,its,n,r,r.length,e]
def xJ{n:Nat}(h:n<=sizeLine):Builtin.List.listTooLong n=false:=by
 unfold Builtin.List.listTooLong;exact decide_eq_false Kn
end
section
variable {X:Cx}
def xK:V->List V->Hp->VK->Prop:=λx vs H Q=>∃l xs y,x=.ref l/\vs=[y]/\H l=be (.lst xs)/\xs.length<sizeLine/\Q .non (upd H l (.lst (xs++[y])))
def jQ:MtM X "list.append" xK:=by
 intro pins s σ H x vs v us Q I rx rv h;obtain⟨l,xs,y,rfl,rfl,hH,hz,q⟩:=h;cases rx;obtain⟨u,rfl,ru⟩:=rv.one;obtain⟨z,its,n,r,hl,e⟩:=I.lstM hH;refine Th F.slot_list_append #[_,e,rfl] F.entry_list_append (F.args_list_append_2 _ _) (PySem.list_append l its.toArray n u (by rw[Gp];lia)) #[e,?_];refine#[.non,_,I.lset (its':=its++[u]) hH e Kv (r.append (.cons ru .nil)) ?_,rfl,q];rw[Gx,Ij];lia
def xL:V->List V->Hp->VK->Prop:=λx vs H Q=>∃l b xs zs,x=.ref l/\vs=[.ref b]/\H l=be (.lst xs)/\H b=be (.lst zs)/\xs.length+zs.length<=sizeLine/\Q .non (upd H l (.lst (xs++zs)))
def Ga:MtM X "list.extend" xL:=by
 intro pins s σ H x vs v us Q I rx rv h;obtain⟨l,b,xs,zs,rfl,rfl,hH,hB,hz,q⟩:=h;cases rx;obtain⟨u,rfl,ru⟩:=rv.one;cases ru;obtain⟨z,its,n,r,hl,e⟩:=I.lstM hH;obtain⟨z2,l6,n2,r2,Ml,e2⟩:=I.lstM hB;have i6:its.toArray.size+l6.toArray.size<=sizeLine:=by rw[Gp,Gp];lia
 have Lk:¬(!its.toArray.isEmpty&&Builtin.List.listTooLong (its.toArray.size+l6.toArray.size))=true:=by
  rw[xJ i6,Bool.and_false];exact Gu
 refine Th F.slot_list_extend #[_,e,rfl] F.entry_list_extend (F.args_list_extend_2 _ _)
  (AutoSeq1.list_extend_list_list_0 l its.toArray n b l6.toArray n2 Lk (by rw[Gp];lia) Kn) #[e,e2,?_]
 refine#[.non,_,I.lset (its':=its++l6) hH e Kv (r.append r2) ?_,rfl,q];rw[Gx];lia
def rPop:V->List V->Hp->VK->Prop:=λx vs H Q=>∃l xs y,x=.ref l/\vs=[]/\H l=be (.lst xs)/\xs[xs.length-1]?=be y/\Q y (upd H l (.lst xs.dropLast))
def xM:MtM X "list.pop" rPop:=by
 intro pins s σ H x vs v us Q I rx rv h;obtain⟨l,xs,y,rfl,rfl,hH,hy,q⟩:=h;cases rx;have Qn:=rv.zero;subst Qn;obtain⟨z,its,n,r,hl,e⟩:=I.lstM hH;obtain⟨u,hu,ru⟩:=r.get hy;have M9:its.toArray[its.toArray.size-1]?=be u:=by
  show its.toArray[its.length-1]?=be u;rw[<-IT,<-hl];exact hu
 refine Th F.slot_list_pop #[_,e,rfl] F.entry_list_pop (F.args_list_pop_1 _) (MeetsSeq.list_pop_last l its.toArray n u M9 (by rw[Gp];lia)) #[e,?_];refine#[y,_,I.lset (its':=its.dropLast) hH e ?_ r.dropLast ?_,ru,q]
 .show its.toArray.eraseIdxIfInBounds (its.toArray.size-1)=its.dropLast.toArray;rw[Gp,List.eraseIdxIfInBounds_toArray,xI]
 .rw[List.length_dropLast];lia
def rCat:R2:=λx y H Q=>∃l b xs zs,x=.ref l/\y=.ref b/\H l=be (.lst xs)/\H b=be (.lst zs)/\xs.length+zs.length<=sizeLine/\∀p,H p=q8->Q (.ref p) (upd H p (.lst (xs++zs)))
def qU:OpR X (SF .Add) rCat:=by
 intro pins s σ H x y v u Q I rx ry h;obtain⟨l,b,xs,zs,rfl,rfl,hH,hB,hz,q⟩:=h;cases rx;cases ry;obtain⟨z,its,n,r,hl,e⟩:=I.lstM hH;obtain⟨z2,l6,n2,r2,Ml,e2⟩:=I.lstM hB;refine PySem.P.add_list e e2 ?_ (by rw[Gp,Gp];lia);have ea:its.toArray++l6.toArray=(its++l6).toArray:=Kv
 rw[ea];exact#[.ref _,_,I.lnew (t':=s.toks) (r.append r2) (by rw[Gx];lia),rfl,q _ I.fresh]
end
end L2
namespace O_
open PySem PySem.W PySem.Calls PyProof.Rows
variable{P:Params}
def xN{h:Sl}:∀(ns:List Int) (vs:List KB),WellAll P h vs (ns.map WData.int)->T4 vs ns:=by
 intro ns;induction ns with
 |nil=>
  intro vs w;rw[Hn]at w;cases w;exact .nil
 |cons n ns ih=>
  intro vs w;rw[GJ]at w;cases w with
  |cons a b=>
   cases a;exact .cons _ _ (ih _ b)
variable{l:OpenLaw}
def xO{n:Nat}(hn:l.most=be n){h:Sl}{args:List WData}{Kp:List KB}
  (G':l.row.toRowW.claim.pre args=true) (M_:WellAll P h Kp args):
  ∃a vs ns,Kp=[Value.ref a]/\args=[WData.list (ns.map WData.int)]/\h.get? a=be {cls:=.type "list",data:=.seq vs.toArray}/\T4 vs ns/\ns.length<=n:=by
 have Qo:WShape.hasAll [] args [.list .int]=true:=(pre_splitW G').1;have hc:l.pre.holds [] {args:=args}=true:=(pre_splitW G').2;obtain⟨d,r,rfl,h1,h2⟩:=hasAllW_cons Qo;obtain rfl:=hasAllW_nil h2;obtain⟨xs,rfl,h3⟩:=hasW_list h1;obtain⟨ns,rfl⟩:=items_int h3;have c5:ns.length<=n:=by
  unfold OpenLaw.pre at hc;have h4:(WTm.not (.lt (.lit (.int (n:Int))) (.len (.arg 0)))).holds [] {args:=[.list (ns.map .int)]}=true:=by
   have h4:=(holds_andW hc).1;rw[hn]at h4;exact h4
  have h5:=condW_of h4 (w_not (w_lt w_lit (w_len_list (w_arg rfl))));rw[Gm]at h5;refine Ik λq=>?_;have q':(n:Int)<((ns.length:Nat):Int):=Kn
  first
   |(rw[decide_eq_true q']at h5;exact absurd h5 Ku)
   |(simp at h5;lia)
 cases M_ with
 |cons w1 w2=>
  cases w2;cases w1 with
  |list ho G_=>exact#[_,_,ns,rfl,rfl,ho,xN ns _ G_,c5]
def xP(l:OpenLaw)(args:List WData):l.row.toRowW.claim.post args (.bool true) args=true:=
 postW_of (r:=l.row.toRowW) (X:=(true==true))
  (show WShape.has [] (.bool true) .bool=true by first|rfl|decide|simp[WShape.has,WShape.arms,WShape.armsAll])
  (show(WTm.eq .res (.lit (.bool true))).value [] {args:=args,res:=be (.bool true),after:=args}=be (.bool (true==true))from w_eq_bool (w_res rfl) w_lit) rfl
def attach_call{n:Nat}{q:Sd}{j6:List C_}{XP:(C_->Option KB)->Sl->Prop}{YP:Sj->Sl->Prop}{d:DefRec}
  (hn:l.most=be n) (Ll:d.params.defaults=[])
  (call:∀(w:Sj) (s₀ s₁:KM) (mg mb:C_->Option KB) (fa:KF) (o:Sx) (pm cd doc:KB) (a:KF) (vs:List KB) (ns:List Int),
   Ground q j6 [] XP w s₀ mg mb s₁.heap->YP w s₁.heap->
   s₁.heap.get? fa=be o->o.data=.func (docDef d.name d.params d.body d.scope pm cd doc)->s₁.heap.CodeRec cd d.name->mg d.name=be (.ref fa)->
   s₁.heap.get? a=be {cls:=.type "list",data:=.seq vs.toArray}->T4 vs ns->ns.length<=n->s₁.gens=[].toArray->
   Te (Sf l.prog w) To (.call (.ref fa) #[[.ref a],[]]) (λr s'=>r=.ok (.ret (.bool true))/\OldK s₁.heap s'.heap/\s'.os=s₁.os/\S6 s'.gens) s₁):
  WalkO q j6 XP YP l.row.toRowW d [] (λf vs=>PySem.call f vs):=by
 intro w s₀ s₁ mg mb G Y fa o pm cd doc dV kV ho hd gV hD i9 hg args Kp as G' Qp RG M_ RH;obtain rfl:dV=.none:=Dflts.none hD Ll;obtain rfl:kV=.none:=Dflts.noKw hD;obtain⟨a,vs,ns,rfl,rfl,Kq,t9,c5⟩:=xO hn G' M_;refine enter_call (S' (call w s₀ s₁ mg mb fa o pm cd doc a vs ns G Y ho (fd_plain hd) gV i9 Kq t9 c5 hg) λr s' hq=>?_);obtain⟨rfl,h2,h3,h4⟩:=hq;exact#[.inl #[.bool true,.bool true,[],rfl,λ_=>rfl,.bool true,xP l _,λ_=>#[List.Pairwise.nil,λ_ hm=>(nomatch hm)]],h2,h3,h4]
end O_
namespace L2
open PySem PySem.Spec PyProof.Rows
def qV:∀{vs:List KB} {ns:List Int},T4 vs ns->Vals (ns.map V.int) vs
 |_,_,.nil=>.nil
 |_,_,.cons n t h=>.cons #[t,rfl] (qV h)
def Only(H:Hp):Prop:=∀b,H b=q8\/∃o xs,H b=be (.frz o (.lst xs))
variable{P:Sd}{w:Sj}{k:Nat}{a:KF}
def xQ{K:Ex}{mg mb:C_->Option KB}{CX:CXT}{fa:KF}{fd:Sq}{x:C_}{sp:Sp}{s₁:KM}{vs:List KB}{ns:List Int}
  (KX:K.In s₁.heap) (hns:s₁.heap.Ns Pi mg) (hb:s₁.heap.Ns Uh mb) (Qq:∀x:C_,x≠"__name__"->mb x=Sw x) (Na:s₁.heap.NoLimit) (hg:s₁.gens=[].toArray)
  (ha:s₁.heap.get? a=be {cls:=.type "list",data:=.seq vs.toArray}) (hi:T4 vs ns) (hl:ns.length<=sizeLine) (hr:Room k To)
  (F:∀base:Sl,K.In base->base.Ns Pi mg->FnOk P w K mg base CX k fa fd [x] sp) (Lm:∀(s:KM) (u:KB),S_ s fd #[[u],[]] [(x,u)])
  (J7:∀H:Hp,Only H->SqL K H a (ns.map V.int)->sp [.ref a] H (λv _=>v=.bl true) λ_ _ _=>False)
  (Nb:∀H e s',CX [] H s₁ (λ_ _ _=>False) e s'->False):
  Te (Sf P w) To (.call (.ref fa) #[[.ref a],[]]) (λr s'=>r=.ok (.ret (.bool true))/\OldK s₁.heap s'.heap/\s'.os=s₁.os/\S6 s'.gens) s₁:=by
 have rv:=qV hi;have Nd:=hi.length;have Lo:∀H:Hp,Only H->SqL K H a (ns.map V.int)->HOk P w H s₁.heap->(∀b,H b≠q8->b=a)->(H a≠q8->K.lookup a=q8)->
   Te (Sf P w) To (.call (.ref fa) #[[.ref a],[]]) (λr s'=>r=.ok (.ret (.bool true))/\OldK s₁.heap s'.heap/\s'.os=s₁.os/\S6 s'.gens) s₁:=by
  intro H hO hS hok hA hK;have n9:∀{b:KF} {o:Sx},s₁.heap.get? b=be o->H b=q8->(hidT s₁.heap H).get? b=be o:=λe n=>vS e n;have Lh:∀{b:KF} {o:Sx} {es:Array DictEntry} {ep:Nat},s₁.heap.get? b=be o->o.data=.dict es ep->H b=none:=λ{b o es ep} e d=>by
   cases q:H b with
   |none=>rfl
   |some u=>
    have e':b=a:=hA b (by rw[q];simp);subst e';rw[ha]at e;cases e;have d':Data.seq vs.toArray _=Data.dict es ep:=d;cases d'
  have Mn:∀{b:KF} {m:C_->Option KB},s₁.heap.Ns b m->(hidT s₁.heap H).Ns b m:=λ{b m} ⟨o,es,ep,e,d,r⟩=>#[o,es,ep,n9 e (Lh e d),d,r];have Pb:K.In (hidT s₁.heap H):=λb o e=>n9 (KX b o e) (by
   cases q:H b with
   |none=>rfl
   |some u=>
    have e':b=a:=hA b (by rw[q];simp);subst e';rw[hK (by rw[q];simp)]at e;cases e)
  have hM:Mod K mg (hidT s₁.heap H):=#[Pb,Mn hns,#[mb,Mn hb,Qq],let ⟨mc,h1,h2⟩:=Na;#[mc,Mn h1,h2]];have e0:Env0 P w K mg (hidT s₁.heap H) To [] s₁ H:=#[rfl,hM,λb o e=>vT e,HR (vR _ _),trivial,λb hb=>absurd (show b∈([]:List KF)from hb) Kv,hok,.of_eq hg];refine S' ((F _ Pb (Mn hns)).run To [] s₁ H #[[.ref a],[]] [.ref a] [.ref a] _ _ hr e0 (Lm s₁ (.ref a)) (.cons rfl .nil) (J7 H hO hS)) λr s' h=>?_;cases r with
  |error e=>exact(Nb H e s' h).elim
  |ok fl=>
   cases fl with
   |next=>exact False.elim h
   |brk=>exact False.elim h
   |cont=>exact False.elim h
   |ret u=>
    obtain⟨v,H',os,bare,un,Nf,r',q⟩:=h;have q':v=.bl true:=q;subst q';obtain rfl:u=Value.bool true:=r';refine#[rfl,OldK.of_keep λb o e=>?_,os,bare];cases q:H b with
    |none=>exact un.keep b o e q (by intro z;exact absurd (show b∈([]:List KF)from z) Kv) Kv
    |some u=>
     rcases hO b with z|⟨ob,xs,z⟩
     .rw[q]at z;cases z
     .have z2:=un.frzs b ob _ z;obtain⟨e1,_⟩:=hok b _ z;obtain⟨e2,_⟩:=Nf b _ z2;rw[e]at e1;cases e1;exact e2
 cases hk:K.lookup a with
 |some o=>
  have e:=KX a o hk;rw[ha]at e;cases e;refine Lo (λ_=>q8) (λ_=>.inl rfl) (.inr #[_,vs.toArray,_,hk,rfl,rfl,rfl,by rw[Gp,Nd];exact hl,by simpa using rv]) (λb u z=>by have z':(q8:Option HO)=be u:=z;cases z') (λb z=>absurd rfl z) λz=>absurd rfl z
 |none=>
  refine Lo (λb=>if b=a then be (.frz {cls:=.type "list",data:=.seq vs.toArray} (.lst (ns.map V.int)))else q8) (λb=>?_) (.inl (.inr #[{cls:=.type "list",data:=.seq vs.toArray},if_pos rfl])) (λb u z=>?_) (λb z=>?_) λ_=>hk
  .by_cases hb:b=a
   .exact .inr #[_,_,if_pos hb]
   .exact .inl (if_neg hb)
  .by_cases hb:b=a
   .have z':=(if_pos hb).symm.trans z;cases z';subst hb;exact#[ha,by rw[Gm];exact hl,vs,_,rv,ha]
   .have z':=(if_neg hb).symm.trans z;cases z'
  .by_cases hb:b=a
   .exact hb
   .exact absurd (if_neg hb) z
def walk_of{l:Il}{n:Nat}{q:Sd}{j6:List C_}{XP:(C_->Option KB)->Sl->Prop}{YP:Sj->Sl->Prop}{d:DefRec}{K:Params->Ex}{CX:Sj->CXT}{sp:Sj->Sp}{x:C_}
  (hn:l.most=be n) (Ko:n<=sizeLine) (Ll:d.params.defaults=[]) (hr:Room k To)
  (hY:∀(w:Sj) (h:Sl),YP w h->(K w.params).In h)
  (F:∀(w:Sj) (mg:C_->Option KB) (fa:KF) (h:Sl),(K w.params).In h->h.Ns Pi mg->mg d.name=be (.ref fa)->
   ∃fd:Sq,(∀(s:KM) (u:KB),S_ s fd #[[u],[]] [(x,u)])/\
    ∀base:Sl,(K w.params).In base->base.Ns Pi mg->FnOk l.prog w (K w.params) mg base (CX w) k fa fd [x] (sp w))
  (J7:∀(w:Sj) (H:Hp) (a:KF) (ns:List Int),ns.length<=n->Only H->SqL (K w.params) H a (ns.map V.int)->sp w [.ref a] H (λv _=>v=.bl true) λ_ _ _=>False)
  (Nb:∀(w:Sj) (H:Hp) (s:KM) (e:KB) (s':KM),CX w [] H s (λ_ _ _=>False) e s'->False):
  IU q j6 XP YP l.row.toRowW d [] (λf vs=>PySem.call f vs):=by
 refine O_.attach_call hn Ll λw s₀ s₁ mg mb fa o pm cd doc a vs ns G Y ho hd gV i9 Kq t9 c5 hg=>?_;have KX:=hY w _ Y;obtain⟨fd,hb,hF⟩:=F w mg fa _ KX G.T.g i9;exact xQ KX G.T.g G.T.b G.T.builtins G.T.nolimit hg Kq t9 (Go c5 Ko) hr hF hb (λH hO hS=>J7 w H a ns c5 hO hS) λH e s'=>Nb w H s₁ e s'
def aO(s:Se)(j:Nat):Se:=match s with
 |.ClassDef _ _ _ body _ _ _ _ _ _ _=>body.getD j (.Pass #[0,0,0,0])
 |_=>.Pass #[0,0,0,0]
def bv(s:Se):Arguments:=match s with
 |.FunctionDef _ a _ _ _ _ _ _ _ _=>a
 |_=>{posonlyargs:=[],args:=[],vararg:=q8,kwonlyargs:=[],kw_defaults:=[],kwarg:=q8,defaults:=[]}
def aJ(s:Se):List Se:=match s with
 |.FunctionDef _ _ b _ _ _ _ _ _ _=>b
 |_=>[]
def ah(s:Se):SK:=match s with
 |.FunctionDef _ _ _ _ _ _ sc _ _ _=>sc
 |_=>{kind:=.function,names:=[],isGenerator:=false,isCoroutine:=false}
abbrev E0:XK:=λ_ _ _=>False
structure FunG(K:Ex)(dV:KB)(x qual:Str)(st:Se)(f:KF)(fd:Sq):Prop where
 ex:∃(oc:KB) (od:Option KF) (kV doc pm:KB) (an:Option KF) (cdv ct:KB) (osl:Array (Option KB)),
  fd=fnOf x qual (bv st) (aJ st) (ah st) dV kV doc pm an cdv ct/\K.lookup f=be #[oc,od,.func fd,osl]/\codeIn K cdv qual=true
 kp:keepIn K (.ref f)=true
abbrev Fun(K:Ex):C_->C_->Se->KF->Sq->Prop:=FunG K .none
section
variable {P:Sd}{w:Sj}{K:Ex}{mg:C_->Option KB}{base:Sl}
def Fun.binds{x qual:C_}{st:Se}{f:KF}{fd:Sq}{ps:List C_}(F:Fun K x qual st f fd)
  (h:∀(kV doc pm:KB) (an:Option KF) (cdv ct:KB) (us:List KB),us.length=ps.length->SW (fnOf x qual (bv st) (aJ st) (ah st) .none kV doc pm an cdv ct) #[us,[]]=pure (ps.zip us)):Binds K fd ps []:=by
 obtain⟨oc,od,kV,doc,pm,an,cdv,ct,osl,rfl,lk,gV⟩:=F.ex;exact .all (h kV doc pm an cdv ct)
def jR{x qual:C_}{st:Se}{f:KF}{oc:KB}{od an:Option KF}{osl:Array (Option KB)}{kV doc pm cdv ct:KB}(l:K.lookup f=be #[oc,od,.func (fnOf x qual (bv st) (aJ st) (ah st) .none kV doc pm an cdv ct),osl])
  (c:codeIn K cdv qual=true) (k:keepIn K (.ref f)=true):Fun K x qual st f (fnOf x qual (bv st) (aJ st) (ah st) .none kV doc pm an cdv ct):=#[#[oc,od,kV,doc,pm,an,cdv,ct,osl,rfl,l,c],k]
end
def qW{A:Sk}(hr:Room k A):A.units+1<TQ:=IV (Nat.add_le_add_left (Ku:1<=64) _) hr.units
def xR{n:Nat}(h:n<=1000):n<sizeLine:=IV h Ku
def ite2{c A B:Prop}[Decidable c](h1:c->A)(h2:¬c->B):if c then A else B:=by
 by_cases h:c
 .rw[if_pos h];exact h1 h
 .rw[if_neg h];exact h2 h
def Same(H H':Hp):Prop:=∀b o,H b=be o->H' b=be o
def Same.refl(H:Hp):Same H H:=λ_ _ h=>h
variable{H:Hp}
def Same.trans{H1 H2:Hp}(a:Same H H1)(b:Same H1 H2):Same H H2:=λc o h=>b c o (a c o h)
variable{H':Hp}
def Same.free(e:Same H H'){l:KF}(h:H' l=Option.none):H l=Option.none:=by
 cases q:H l with
 |none=>rfl
 |some o=>
  rw[e l o q]at h;cases h
def Same.seq{K:Ex}{xs:List V}(e:Same H H')(h:SqL K H a xs):SqL K H' a xs:=by
 rcases h with(h|⟨o,h⟩)|h
 .exact .inl (.inl (e _ _ h))
 .exact .inl (.inr #[o,e _ _ h])
 .exact .inr h
section
variable {κ:Type}[DecidableEq κ]
def valV(a9:List (κ×V))(k:κ):Option V:=(a9.find? λkv=>decide (kv.1=k)).map (·.2)
def jS{p:κ×V}{r:List (κ×V)}{k:κ}(e:p.1=k):valV (p::r) k=be p.2:=by simp[valV,Ho,e]
def jT{p:κ×V}{r:List (κ×V)}{k:κ}(e:¬p.1=k):valV (p::r) k=valV r k:=by simp[valV,Ho,e]
def RelO.getD{o:Option V}{u:Option KB}{d:V}{d':KB}(r:RelO o u)(rd:RelV d d'):RelV (o.getD d) (u.getD d'):=by
 cases o with
 |none=>cases u with
  |none=>exact rd
  |some _=>exact(show False from r).elim
 |some _=>cases u with
  |none=>exact(show False from r).elim
  |some _=>exact r
def KV.val{a9:List (κ×V)}{vs:List (κ×KB)}(r:KV a9 vs)(k:κ):RelO (valV a9 k) (Tv vs k):=by
 unfold KV at r;induction r with
 |nil=>exact True.intro
 |@cons p q ps qs h t ih=>
  obtain⟨h1,h2⟩:=h;by_cases e:p.1=k
  .have e':q.1=k:=h1.symm.trans e;have b:Tv (q::qs) k=be q.2:=by simp[Tv,Ho,e']
   rw[jS e,b];exact h2
  .have e':¬q.1=k:=λz=>e (h1.trans z);have b:Tv (q::qs) k=Tv qs k:=by simp[Tv,Ho,e']
   rw[jT e,b];exact ih
end
def qX{k:Key}{u:KB}(r:RelV (kV k) u):(bI P w).is k u=true:=by
 cases k with
 |inl i=>obtain⟨t,e⟩:=(show ∃t,u=Value.int i t from r);subst e;exact mixKind_int P w i t
 |inr x=>obtain⟨t,e⟩:=(show ∃t,u=Value.str x t from r);subst e;exact vP P w x t
def qY{P:Sd}{w:Sj}:∀{ks:List Key} {us:List KB},Vals (ks.map kV) us->ItemsAre (bI P w) ks us
 |[],_,r=>by rw[Hn]at r;cases r;exact .nil
 |k::ks,_,r=>by
  rw[GJ]at r;cases r with
  |cons h t=>exact .cons (qX h) (qY t)
abbrev KT(H:Hp):List (List Key×V)->List (List Key×KF×KB)->Prop:=Paired λp q=>p.1=q.1/\H q.2.1=be (.tup (p.1.map kV))/\RelV p.2 q.2.2
variable{xs:List (List Key×KF×KB)}{a9:List (List Key×V)}
def KT.val(r:KT H a9 xs)(k:List Key):RelO (valV a9 k) ((Tu xs k).map (·.2)):=by
 induction r with
 |nil=>exact True.intro
 |@cons p q ps qs h t ih=>
  obtain⟨h1,_,h2⟩:=h;by_cases e:p.1=k
  .have e':q.1=k:=h1.symm.trans e;have b:Tu (q::qs) k=be q.2:=by simp[Tu,Ho,e']
   rw[jS e,b];exact h2
  .have e':¬q.1=k:=λz=>e (h1.trans z);have b:Tu (q::qs) k=Tu qs k:=by simp[Tu,Ho,e']
   rw[jT e,b];exact ih
def KT.keeps(r:KT H a9 xs)(ht:∀b ys,H b=be (.tup ys)->H' b=be (.tup ys)):KT H' a9 xs:=
 Paired.mapP r λ_ _ z=>#[z.1,ht _ _ z.2.1,z.2.2]
section
variable {P:Sd}{w:Sj}{H:Hp}{h:Sl}{a:KF}
def qZ{u:HO}(ok:HOk P w H h)(e:Rd H a u):ObjOk P w H h a u:=e.ok ok
def xS{a9:List (Key×V)}(ok:HOk P w H h)(e:Rd H a (.dK a9)):a9.length<=sizeLine/\(a==SJ)=false/\∃vs,KV a9 vs/\h.DictOf (bI P w) a vs:=
 show ObjOk P w H h a (.dK a9)from qZ ok e
def key_of{ks:List Key}(ok:HOk P w H h)(e:H a=be (.tup (ks.map kV))):(S7 (bI P w)).is h ks a:=by
 obtain⟨_,its,r,o,h1,h2,n,h3⟩:=(show ObjOk P w H h a (.tup (ks.map kV))from ok a _ e);exact#[o,its.toArray,n,h1,h2,h3,by simpa using qY r]
variable{a9:List (List Key×V)}
def ra(ok:HOk P w H h)(e:Rd H a (.dT a9)):a9.length<=sizeLine/\(a==SJ)=false/\
  ∃xs,KT H a9 xs/\h.DictOfH (S7 (bI P w)) a xs:=by
 obtain⟨z,y,xs,r,o,es,ep,h1,h2,h3,h4,h5⟩:=(show ObjOk P w H h a (.dT a9)from qZ ok e);refine#[z,y,xs,r,o,es,ep,h1,h2,h3,h4,λx hx=>?_,h5];have all:∀{l:List (List Key×V)} {m:List (List Key×KF×KB)},KT H l m->∀x∈m,(S7 (bI P w)).is h x.1 x.2.1:=by
  intro l m q;induction q with
  |nil=>intro x hx;exact nomatch hx
  |@cons p q ps qs hq t ih=>
   intro x hx;rcases Gh.mp hx with e|hx
   .subst e;exact key_of ok (by rw[<-hq.1];exact hq.2.1)
   .exact ih x hx
 exact all r x hx
def xT(ok:HOk P w H h)(e:H a=be (.dT a9)):a9.length<=sizeLine/\(a==SJ)=false/\
  ∃xs,KT H a9 xs/\h.DictOfH (S7 (bI P w)) a xs:=ra ok (.inl e)
end
def DGet(H:Hp)(a:KF)(y:V)(r:Option V):Prop:=
 (∃a9 k,Rd H a (.dK a9)/\y=kV k/\r=valV a9 k)\/∃a9 k b,Rd H a (.dT a9)/\y=.ref b/\H b=be (.tup (k.map kV))/\r=valV a9 k
def DGet.t{b:KF}{k:List Key}(e:H a=be (.dT a9))(eb:H b=be (.tup (k.map kV))):DGet H a (.ref b) (valV a9 k):=.inr #[a9,k,b,.inl e,rfl,eb,rfl]
section
variable {X:Cx}{pins:List (KF×Sx)}{σ:St}{H:Hp}{s:KM}{a:KF}{y v:V}{u r:KB}{o:Option V}{A:Sk}{E:KB->KM->Prop}
def Inv.big(I:Inv X pins σ H s):SJ<s.heap.objs.size:=by
 have h:Pi<s.heap.objs.size:=(I.mod.glob.keeps I.bk).lt;exact IW Ku h
def xU{h':Sl}{t':Nat}{ob:HO}(I:Inv X pins σ H s)(mu:Mut (H a))(hs:Heap.SameBut a s.heap h')(he:∃q,h'.get? a=be q)(new:ObjOk X.prog X.w (upd H a ob) h' a ob):
  Inv X pins σ (upd H a ob) {s with heap:=h',toks:=t'}:=
 I.write (x:=a) (e:=a) mu (.inl rfl) (λb q hb z=>(hs.2 b hb).trans z) he new
end
def xV(h:Sl)(hb:SJ<h.objs.size):ObjOk P w H (h.push {cls:=.type "dict",data:=.dict [].toArray}) h.objs.size (.dT []):=
 #[GI _,beq_eq_false_iff_ne.mpr (Ne.symm (Gn hb)),[],.nil,_,[].toArray,0,Heap.get?_push_size _ rfl,#[rfl,rfl,rfl],rfl,rfl,IY]
def xW:TE:=λ_ H Q=>∀p,H p=q8->Q (.ref p) (upd H p (.dT []))
section
variable {X:Cx}{pos:Sr}
def pe_dnewT:PE X (.Dict [] [] pos) xW:=λpins s σ H Q I h=>
 wpAny_Dict_empty #[.ref s.heap.objs.size,_,I.laid (a:=s.heap.objs.size) (o:=.dT []) (t':=s.toks) (λ_ _ q=>Heap.get?_push_of_some _ q) (Gg _) (xV s.heap I.big),rfl,h _ (I.hok.fresh (Gg _))]
end
section
variable {X:Cx}{pins:List (KF×Sx)}{σ:St}{H:Hp}{s:KM}{a:KF}{y d:V}{u r:KB}{o:Option V}{A:Sk}{E:KB->KM->Prop}
def xX{Q:KB->KM->Prop}(hu:A.units+1<TQ)(I:Inv X pins σ H s)(g:DGet H a y o)(ry:RelV y u)(rd:RelV d r)(h:∀w' s',Inv X pins σ H s'->RelV (o.getD d) w'->Q w' s'):
  Sg (Sf X.prog X.w) A (call (.builtin "dict.get") [.ref a,u,r]) Q E s:=by
 rcases g with⟨a9,k,e,ey,l⟩|⟨a9,k,b,e,ey,eb,l⟩
 .subst ey;obtain⟨z,hd,vs,J8,dd⟩:=xS I.hok e;refine T3 PySem.F.slot_dict_get dd.typeIs PySem.F.entry_dict_get (PySem.F.args_dict_get_3 _ _ _) (meets_dict_get_default (bI X.prog X.w) a (qX ry) hd r) #[_,dd.mapOf,h _ _ (I.tok _) ?_];rw[l];exact(J8.val k).getD rd
 .subst ey;cases(show u=Value.ref b from ry);obtain⟨z,hd,xs,J8,dd⟩:=ra I.hok e;refine T3 PySem.F.slot_dict_get dd.typeIs PySem.F.entry_dict_get (PySem.F.args_dict_get_3 _ _ _) (meetsH_dict_get_default (S7 (bI X.prog X.w)) a b hd r) #[Ug hu,k,xs,key_of I.hok eb,dd,h _ _ (I.tok _) ?_];rw[l];exact(J8.val k).getD rd
end
end L2
end
section
open PySem PySem.Spec PyProof.Rows L2
namespace Exc
open PySem PySem.Spec PyProof.Rows PySem.W L2
def excMro:List KB->Bool
 |.ref _::r=>excMro r
 |l=>l==[.type "ValueError",.type "Exception",.type "BaseException",.type "object"]
def xY(self:KB):∀{l:List KB},excMro l=true->refuseLoop self "__setattr__" l=pure ()
 |.ref c::r,e=>by rw[refuseLoop_ref];exact xY self (by unfold excMro at e;exact e)
 |[],e=>by simp[excMro]at e
 |.type n::r,e=>by
  have e':(Value.type n::r)=[.type "ValueError",.type "Exception",.type "BaseException",.type "object"]:=by simpa[excMro]using e
  rw[e'];exact PySem.F.store_ValueError.passes self
 |.none::r,e=>by simp[excMro]at e
 |.bool _::r,e=>by simp[excMro]at e
 |.int _ _::r,e=>by simp[excMro]at e
 |.float _ _::r,e=>by simp[excMro]at e
 |.str _ _::r,e=>by simp[excMro]at e
 |.bytes _ _::r,e=>by simp[excMro]at e
 |.builtin _::r,e=>by simp[excMro]at e
def exc_has{T:String}(hT:[Value.type "ValueError",.type "Exception",.type "BaseException",.type "object"].contains (.type T)=true):∀{l:List KB},excMro l=true->l.contains (.type T)=true
 |.ref c::r,e=>by rw[Im,exc_has hT (l:=r) (by unfold excMro at e;exact e),HV]
 |[],e=>by simp[excMro]at e
 |.type n::r,e=>by
  have e':(Value.type n::r)=[.type "ValueError",.type "Exception",.type "BaseException",.type "object"]:=by simpa[excMro]using e
  rw[e'];exact hT
 |.none::r,e=>by simp[excMro]at e
 |.bool _::r,e=>by simp[excMro]at e
 |.int _ _::r,e=>by simp[excMro]at e
 |.float _ _::r,e=>by simp[excMro]at e
 |.str _ _::r,e=>by simp[excMro]at e
 |.bytes _ _::r,e=>by simp[excMro]at e
 |.builtin _::r,e=>by simp[excMro]at e
abbrev veLine:List KB:=[.type "ValueError",.type "Exception",.type "BaseException",.type "object"]
section
variable {prog:Sd}{w:Sj}{A:Sk}{E:KB->KM->Prop}{s:KM}{env:S1}
variable {nm q:C_}{C N:KF}{bs bm:List KB}{hdct:Bool}{sn:List C_}{sub:List KB}{ab:Bool}{col:Option Bool}{dd:Option KF}{k0 k1 k2 k3 k5:Option KB}{newId:String}
variable{Q:Flow->KM->Prop}
def xZ{x:T9 KB}(b9:bm.contains (.type "BaseException")=true)(hh:A.handled=q8)
  (h:Sg (Sf prog w) A x (λv s₁=>∃e t od sl,v=.ref e/\s₁.heap.get? C=be (SR nm q C N bs bm hdct sn sub ab col dd k0 k1 k2 k3 k5 newId)/\
   s₁.heap.get? e=be #[.ref C,od,.fields [.ref t,.none,.none,.none,.bool false,.none].toArray,sl]/\E (.ref e) s₁) E s):
  Sg (Sf prog w) A (raiseStmt env (be x) q8) Q E s:=by
 have Ng:(Value.ref C::bm).contains (.type "BaseException")=true:=by rw[Im,b9,HV]
 unfold raiseStmt;refine Os (Sy h (λv s₁ h₁=>?_) λ_ _ x=>x);obtain⟨e,t,od,sl,rfl,hC,he,hE⟩:=h₁;obtain⟨hp,g,d,tk,os⟩:=s₁
 repeat(first|(with_reducible refine S4 he ?_)|(with_reducible refine S4 hC ?_)|(with_reducible refine Tf hC ?_;rw[Ng])|wp_step)
 exact wpAny_raiseNew_none hh hE
def rb{x:P3}{pos:Sr}(b9:bm.contains (.type "BaseException")=true)(hh:A.handled=q8)
  (h:Sg (Sf prog w) A (So x env) (λv s₁=>∃e t od sl,v=.ref e/\s₁.heap.get? C=be (SR nm q C N bs bm hdct sn sub ab col dd k0 k1 k2 k3 k5 newId)/\
   s₁.heap.get? e=be #[.ref C,od,.fields [.ref t,.none,.none,.none,.bool false,.none].toArray,sl]/\E (.ref e) s₁) E s):
  Sg (Sf prog w) A (exec (.Raise (be x) q8 pos) env) Q E s:=by
 rw[arm_exec_Raise];show Sg (Sf prog w) A (do S5 pos;raiseStmt env (be (do let v <-So x env;S5 pos;pure v)) q8) Q E s;exact Os (SL (xZ b9 hh (Os (Sy h (λv s₁ h₁=>Os (SL (Sh h₁))) λ_ _ x=>x))))
end
def ExAt(h:Sl)(e C:KF)(od:Option KF)(T:KF)(fl:KB):Prop:=
 ∃sl vs oT ts,h.get? e=be #[.ref C,od,.fields vs,sl]/\vs[1]?=be (.ref T)/\T≠e/\h.get? T=be oT/\oT.data=.fields ts/\ts[3]?=be fl
structure Stay(fs ex:List KF)(h h':Sl):Prop where
 keep:∀b o,h.get? b=be o->b∉ex->b∉fs->h'.get? b=be o
 slot:∀b o,h.get? b=be o->b∉ex->∃sl,h'.get? b=be {o with slots:=sl}
 there:∀b o,h.get? b=be o->∃o',h'.get? b=be o'
section
variable {M:T_}{A:Sk}{E:KB->KM->Prop}{s:KM}{env:S1}{outer:List S1}{base:Sl}{L e C T:KF}{od:Option KF}
variable{Q:Unit->KM->Prop}
def re{sl:Array (Option KB)}{vs:Array KB}(m6:A.frames=be (env::outer))(hl:s.heap.FunFrames base (env::outer))(hf:env.frame=be L)
  (he:s.heap.get? e=be #[.ref C,od,.fields vs,sl]) (h1:vs[1]?=be .none)
  (h:∀h' T,ExAt h' e C od T (S9 L)->s.heap.objs.size<=T->Stay (frs (env::outer)) [e] s.heap h'->Q () {s with heap:=h'}):Sg M A (S8 (.ref e) env) Q E s:=by
 have i6:1<vs.size:=(HW.mp h1).1;have Ks:e∉(env::outer).filterMap (·.frame):=λhm=>by
  obtain⟨_,o,ho,hnf⟩:=hl.mem hm;rw[he]at ho;injection ho with ho;subst ho;exact hnf vs rfl
 unfold S8;simp only[hf];refine Os (SU he rfl h1 ?_);rw[if_neg Ku];refine Os (Ui m6 hl hf λh₁ hs₁=>Os (Uc λpl c_=>?_));unfold EntryCells.newEntry newFields;refine Os (Ss ?_ (c_.sizeOk5 _ _ _ _ _));have he₁:h₁.get? e=be #[.ref C,od,.fields vs,sl]:=(hs₁.2.1 e Ks).trans he;have fresh:h₁.get? h₁.objs.size=none:=Heap.get?_none_of_le (Gg _);generalize Lq:({cls:=.type "traceback",dict:=q8,data:=.fields ([Value.none,.ref L,.none,S9 L,.none]++(if pl.isEmpty then GV 6 Value.none else pl)).toArray}:Sx)=oT;have he₂:=Heap.get?_push_of_some (h:=h₁) oT he₁;have t_:h₁.objs.size≠e:=G8 (Heap.lt_size he₁);refine Tc he₂ rfl i6 (h _ h₁.objs.size ?_ ?_ ?_)
 .refine#[sl,vs.setIfInBounds 1 (.ref h₁.objs.size),oT,([Value.none,.ref L,.none,S9 L,.none]++(if pl.isEmpty then GV 6 Value.none else pl)).toArray,?_,by simp[i6],t_,?_,by rw[<-Lq],Kv]
  .rw[Heap.get?_update_self _ he₂ rfl];rfl
  .rw[Heap.get?_update_other _ _ (Ne.symm t_)];exact Heap.get?_push_size h₁ (by rw[<-Lq];rfl)
 .exact HR hs₁.1.symm
 .have kp:∀b o,b≠e->h₁.get? b=be o->((h₁.push oT).update e (Obj.mapFields (·.setIfInBounds 1 (Value.ref h₁.objs.size)))).get? b=be o:=λb o hb z=>by
   rw[Heap.get?_update_other _ _ (Ne.symm hb)];exact Heap.get?_push_of_some _ z
  refine#[λb o q n m=>kp b o (λz=>n (by simp[z])) ((hs₁.2.1 b m).trans q),λb o q n=>?_,λb o q=>?_]
  .obtain⟨k9,z⟩:=hs₁.2.2 b o q;exact#[k9,kp b _ (λz=>n (by simp[z])) z]
  .by_cases hb:b=e
   .subst hb;exact#[_,Heap.get?_update_self _ he₂ rfl]
   .obtain⟨k9,z⟩:=hs₁.2.2 b o q;exact#[_,kp b _ hb z]
def rg(m6:A.frames=be (env::outer))(hl:s.heap.FunFrames base (env::outer))(hf:env.frame=be L)(hx:ExAt s.heap e C od T .none)
  (h:∀h' T',ExAt h' e C od T' (S9 L)->s.heap.objs.size<=T'->Stay (frs (env::outer)) [T,e] s.heap h'->Q () {s with heap:=h'}):Sg M A (S8 (.ref e) env) Q E s:=by
 obtain⟨sl,vs,oT,ts,he,h1,t_,hT,j_,h3⟩:=hx;have i6:1<vs.size:=(HW.mp h1).1;have Mo:3<ts.size:=(HW.mp h3).1;have Ks:e∉(env::outer).filterMap (·.frame):=λhm=>by
  obtain⟨_,o,ho,hnf⟩:=hl.mem hm;rw[he]at ho;injection ho with ho;subst ho;exact hnf vs rfl
 unfold S8;simp only[hf];refine Os (SU he rfl h1 ?_);rw[if_pos (show(Value.ref T !=Value.none)=true from Kv)];refine Os (SU hT j_ h3 ?_);rw[if_neg (show¬((Value.none==S9 L)=true)from by simp[S9])];refine Os (Tc hT j_ Mo ?_);have other:∀b,b≠T->(s.heap.update T (Obj.mapFields (·.setIfInBounds 3 Value.none))).get? b=s.heap.get? b:=λb hb=>Heap.get?_update_other _ _ (Ne.symm hb);have nT:∀b o,s.heap.get? b=be o->(∀vs,o.data≠.fields vs)->b≠T:=λb o hb hnf q=>by
  rw[q,hT]at hb;injection hb with hb;subst hb;exact hnf ts j_
 have Nh:(s.heap.update T (Obj.mapFields (·.setIfInBounds 3 Value.none))).FunFrames base (env::outer):=hl.of_keeps λb o hb hnf=>#[o,(other b (nT b o hb hnf)).trans hb,rfl];have Qr:∃o',(s.heap.update T (Obj.mapFields (·.setIfInBounds 3 Value.none))).get? T=be o':=#[_,Heap.get?_update_self _ hT (Obj.isFreed_of_fields (Obj.data_mapFields j_ _))];refine Os (Ui m6 Nh hf λh₁ hs₁=>Os (Uc λpl c_=>?_));unfold EntryCells.newEntry newFields;refine Os (Ss ?_ (c_.sizeOk5 _ _ _ _ _));have he₁:h₁.get? e=be #[.ref C,od,.fields vs,sl]:=(hs₁.2.1 e Ks).trans ((other e (Ne.symm t_)).trans he);have fresh:h₁.get? h₁.objs.size=none:=Heap.get?_none_of_le (Gg _);generalize Lq:({cls:=.type "traceback",dict:=q8,data:=.fields ([Value.ref T,.ref L,.none,S9 L,.none]++(if pl.isEmpty then GV 6 Value.none else pl)).toArray}:Sx)=Ni;have he₂:=Heap.get?_push_of_some (h:=h₁) Ni he₁;have Lr:h₁.objs.size≠e:=G8 (Heap.lt_size he₁);refine Tc he₂ rfl i6 (h _ h₁.objs.size ?_ ?_ ?_)
 .refine#[sl,vs.setIfInBounds 1 (.ref h₁.objs.size),Ni,([Value.ref T,.ref L,.none,S9 L,.none]++(if pl.isEmpty then GV 6 Value.none else pl)).toArray,?_,by simp[i6],Lr,?_,by rw[<-Lq],Kv]
  .rw[Heap.get?_update_self _ he₂ rfl];rfl
  .rw[Heap.get?_update_other _ _ (Ne.symm Lr)];exact Heap.get?_push_size h₁ (by rw[<-Lq];rfl)
 .exact HR (hs₁.1.trans (Heap.size_after_update _ _ _)).symm
 .have kp:∀b o,b≠e->h₁.get? b=be o->((h₁.push Ni).update e (Obj.mapFields (·.setIfInBounds 1 (Value.ref h₁.objs.size)))).get? b=be o:=λb o hb z=>by
   rw[Heap.get?_update_other _ _ (Ne.symm hb)];exact Heap.get?_push_of_some _ z
  refine#[λb o q n m=>kp b o (λz=>n (by simp[z])) ((hs₁.2.1 b m).trans ((other b (λz=>n (by simp[z]))).trans q)),λb o q n=>?_,λb o q=>?_]
  .obtain⟨k9,z⟩:=hs₁.2.2 b o ((other b (λz=>n (by simp[z]))).trans q);exact#[k9,kp b _ (λz=>n (by simp[z])) z]
  .by_cases hb:b=e
   .subst hb;exact#[_,Heap.get?_update_self _ he₂ rfl]
   .have:∃o',(s.heap.update T (Obj.mapFields (·.setIfInBounds 3 Value.none))).get? b=be o':=by
     by_cases hb:b=T
     .rw[hb];exact Qr
     .exact#[o,(other _ hb).trans q]
    obtain⟨o',q'⟩:=this;obtain⟨k9,z⟩:=hs₁.2.2 b o' q';exact#[_,kp b _ hb z]
def flight_none{fl:KB}(hx:ExAt s.heap e C od T fl)(h:∀h',ExAt h' e C od T .none->Stay [] [T] s.heap h'->Q () {s with heap:=h'}):Sg M A (Tp (.ref e) q8) Q E s:=by
 obtain⟨sl,vs,oT,ts,he,h1,t_,hT,j_,h3⟩:=hx;have Mo:3<ts.size:=(HW.mp h3).1;unfold Tp;refine Os (SU he rfl h1 ?_);rw[if_pos (show(Value.ref T !=Value.none)=true from Kv)];refine Tc hT j_ Mo (h _ ?_ ?_)
 .exact#[sl,vs,_,_,(Heap.get?_update_other _ _ t_).trans he,h1,t_,Heap.get?_update_self _ hT (Obj.isFreed_of_fields (Obj.data_mapFields j_ _)),Obj.data_mapFields j_ _,by simp[Mo]]
 .have other:∀b o,b∉[T]->s.heap.get? b=be o->(s.heap.update T (Obj.mapFields (·.setIfInBounds 3 ((q8:Option KF).elim Value.none λf=>S9 f)))).get? b=be o:=λb o hb q=>(Heap.get?_update_other _ _ (λz=>hb (by simp[z]))).trans q;refine#[λb o q n _=>other b o n q,λb o q n=>#[o.slots,other b o n q],λb o q=>?_];by_cases hb:b=T
  .subst hb;exact#[_,Heap.get?_update_self _ hT (Obj.isFreed_of_fields (Obj.data_mapFields j_ _))]
  .exact#[o,other b o (by simp[hb]) q]
end
def CX1(P:Sd)(w:Sj):CXT:=λouter H s E ev s'=>∃e C od T H',ev=.ref e/\s'.os=s.os/\S6 s'.gens/\Un (frs outer) [] H H' s.heap s'.heap/\HOk P w H' s'.heap/\ExAt s'.heap e C od T .none/\s.heap.get? e=q8/\s.heap.get? T=q8/\H' e=q8/\H' T=q8/\E (.ref C) od H'
variable{fs ex:List KF}
def fE{P:Sd}{w:Sj}{H:Hp}{h h':Sl}(x:HOk P w H h)(st:Stay fs ex h h')(hf:∀b∈fs,H b=q8)(he:∀b∈ex,H b=q8):HOk P w H h':=λa o q=>
 (x a o q).stay (λb u hb r=>by
  have hn:H b≠none:=by
   rcases hb with rfl|hb
   .rw[q];exact λz=>nomatch z
   .rw[hb];exact λz=>nomatch z
  exact st.keep b u r (λz=>hn (he b z)) (λz=>hn (hf b z))) (λ_ q=>q) λ_ _ q=>q
def gI{o7:List KF}{H H':Hp}{h h1 h2:Sl}(u:Un fs [] H H' h h1)(st:Stay o7 ex h1 h2)(f_:∀b∈ex,h.get? b=q8)(Mp:∀b∈o7,b∈fs\/h.get? b=q8):Un fs [] H H' h h2 where
 keep:=λb o q n hb hx=>st.keep b o (u.keep b o q n hb hx) (λz=>by rw[f_ b z]at q;cases q) (λz=>(Mp b z).elim hb λy=>by rw[y]at q;cases q)
 slot:=λb o q n hb hx=>by
  obtain⟨sl,e1⟩:=u.slot b o q n hb hx;obtain⟨k9,e2⟩:=st.slot b _ e1 (λz=>by rw[f_ b z]at q;cases q);exact#[k9,e2]
 free:=u.free
 there:=λb o q hx=>by
  obtain⟨o1,e1⟩:=u.there b o q hx;exact st.there b o1 e1
 tups:=u.tups
 frzs:=u.frzs
 tbls:=u.tbls
section
variable {P:Sd}{w:Sj}{K:Ex}{mg:C_->Option KB}{base:Sl}{N:List C_}{qual:C_}{scope:SK}{f:KF}{cd:KB}{A:Sk}{outer:List S1}{s:KM}{H:Hp}{E E':XK}
def rh{b:KF}(hb:b∈frs (Su qual scope s.heap.objs.size f cd::outer)):b∈frs outer\/s.heap.get? b=none:=by
 unfold frs at hb;rw[HN]at hb;rcases Gh.mp (show b∈s.heap.objs.size::outer.filterMap (·.frame)from hb)with e|e
 .rw[e];exact .inr (Heap.get?_none_of_le (Gg _))
 .exact .inl e
def jU{pins:List (KF×Sx)}{σ:L2.St}{H1:Hp}{s1:KM}{e C:KF}{od:Option KF}{sl:Array (Option KB)}{vs:Array KB}(I:Inv (cxOf (CX1 P w) P w K mg base N qual scope f cd A outer s H E') pins σ H1 s1)
  (he:s1.heap.get? e=be #[.ref C,od,.fields vs,sl]) (h1:vs[1]?=be .none) (He:H1 e=q8) (ne:s.heap.get? e=q8) (hE:E' (.ref C) od H1):(cxOf (CX1 P w) P w K mg base N qual scope f cd A outer s H E').xe (.ref e) s1:=by
 show Sg _ _ (TZ _ _) _ _ _;unfold TZ;refine Os (re I.ok.frames I.stack rfl he h1 λh2 T2 l9 u6 o8=>flight_none (s:={s1 with heap:=h2}) l9 λh3 Ls y9=>?_);have H_:s1.heap.get? T2=none:=Heap.get?_none_of_le u6;have f1:∀b,s1.heap.get? b=q8->s.heap.get? b=none:=λb q=>by
  cases z:s.heap.get? b with
  |none=>rfl
  |some o=>
   obtain⟨o',z'⟩:=I.base.there b o z (by exact λy=>absurd (show b∈([]:List KF)from y) Kv);rw[q]at z';cases z'
 have hok:HOk P w H1 s1.heap:=I.hok;have J9:H1 T2=none:=hok.fresh u6;have u2:Un (frs outer) [] H H1 s.heap h2:=gI (show Un (frs outer) [] H H1 s.heap s1.heap from I.base) o8 (λb hb=>by rw[Gf.mp hb];exact ne) λb hb=>rh hb;have u3:Un (frs outer) [] H H1 s.heap h3:=gI u2 y9 (λb hb=>by rw[Gf.mp hb];exact f1 T2 H_) λb hb=>by cases hb
 have k2:=fE hok o8 (λb hb=>I.stkFree b hb) (λb hb=>by rw[Gf.mp hb];exact He);have k3:=fE k2 y9 (λb hb=>by cases hb) (λb hb=>by rw[Gf.mp hb];exact J9);exact#[e,C,od,T2,H1,rfl,I.os,I.bare,u3,k3,Ls,ne,f1 T2 H_,He,J9,hE]
end
end Exc
namespace L2
def Same.tup{K:Ex}{H H':Hp}{a:KF}{xs:List V}(e:Same H H')(h:SqT K H a xs):SqT K H' a xs:=by
 rcases h with(h|⟨o,h⟩)|h
 .exact .inl (.inl (e _ _ h))
 .exact .inl (.inr #[o,e _ _ h])
 .exact .inr h
end L2
namespace My
def fF{X:Cx}:fD (Exc.CX1 X.prog X.w) X E0:=λ_ _ _ _ _ _ _ h=>by
 obtain⟨e,C,od,T,H',_,_,_,_,_,_,_,_,_,_,h⟩:=h;exact h.elim
def Fun.okC{P:Sd}{w:Sj}{K:Ex}{mg:C_->Option KB}{base:Sl}{CX:CXT}{x qual:C_}{st:Se}{f:KF}{fd:Sq}{N ps:List C_}{k:Nat}{sp:Sp}{dV:KB}(F:FunG K dV x qual st f fd)(S:FnScope N ps (ah st))(len:∀vs H Q E,sp vs H Q E->vs.length=ps.length)
  (a_:∀(cdv:KB) (A:Sk) (outer:List S1) (s:KM) (H:Hp) (vs:List V) (Q:VK) (E:XK),Room k (A.deeper (Su qual (ah st) s.heap.objs.size f cdv))->sp vs H Q E->
   ∃t,PSs (cxOf CX P w K mg base N qual (ah st) f cdv A outer s H E) (aJ st) t/\t {nx:=λ_ H'=>Q .non H',rt:=Q} (start N vs) H):FnOk P w K mg base CX (k+1) f fd ps sp:=by
 obtain⟨oc,od,kV,doc,pm,an,cdv,ct,osl,rfl,lk,gV⟩:=F.ex;refine xo lk gV S len λA outer s H vs Q E hr J7=>?_;exact a_ cdv A outer s H vs Q E hr J7
def Cal(P:Sd)(w:Sj)(K:Ex)(mg:C_->Option KB)(base:Sl)(n:Nat)(x:C_)(ps:List C_)(sp:Sp):Prop:=
 ∃f fd,FnOk P w K mg base (Exc.CX1 P w) n f fd ps sp/\Binds K fd ps []/\keepIn K (.ref f)=true/\mg x=be (.ref f)
def Tx(K:Ex)(mg:C_->Option KB)(x:C_)(st:Se)(ps:List C_):Prop:=
 ∃f fd,Fun K x x st f fd/\Binds K fd ps []/\mg x=be (.ref f)
section
variable {X:Cx}{n m:Nat}{ps:List C_}{sp:Sp}{x:C_}{p pos:Sr}{e:P3}{es:List P3}{t:TA}
def ya(C:Cal X.prog X.w X.K X.mg X.base n x ps sp)(hr:Room m X.A)(ha:PA X (e::es) t)(hg:autoParam (Gl X x) zA0)(hn:autoParam (n<=m) zA1)(d8:autoParam (zND x) zA1)
  (he:autoParam (zSE X e es) zA0) (c_:autoParam (zPL X pos es) zA0):
  PE X (.Call (.Name x p) (e::es) [] pos) (qJ sp [] E0 t):=by
 obtain⟨f,fd,F,hb,hk,hm⟩:=C;exact xk F (hr.mono hn) hg hm hk hb .nil fF ha d8 he c_
end
def aP{H:Hp}{p:KF}(h:H p=q8)(o:HO):Same H (upd H p o):=λb u q=>by rw[au (bJ q h)];exact q
def sz{n:Nat}(h:n<=1000):n<=sizeLine:=HM (xR h)
end My
namespace L2
section
variable {X:Cx}
variable{e:P3}
def PE.anti{t t':TE}(h:PE X e t)(a:∀s H Q,t' s H Q->t s H Q):PE X e t':=λpins s σ H Q I q=>h pins s σ H Q I (a _ _ _ q)
def PT.anti{t t':TT}(h:PT X e t)(a:∀s H Q,t' s H Q->t s H Q):PT X e t':=λpins s σ H Q I q=>h pins s σ H Q I (a _ _ _ q)
def PW.anti{t t':TT}(h:PW X e t)(a:∀s H Q,t' s H Q->t s H Q):PW X e t':=λwh pins s σ H Q I q=>h wh pins s σ H Q I (a _ _ _ q)
def PA.anti{e:List P3}{t t':TA}(h:PA X e t)(a:∀s H Q,t' s H Q->t s H Q):PA X e t':=λp pins s σ H Q I q=>h p pins s σ H Q I (a _ _ _ q)
def PS.anti{e:Se}{t t':TS}(h:PS X e t)(a:∀E s H,t' E s H->t E s H):PS X e t':=λpins s σ H Q I q=>h pins s σ H Q I (a _ _ _ q)
def PSs.anti{e:List Se}{t t':TS}(h:PSs X e t)(a:∀E s H,t' E s H->t E s H):PSs X e t':=λpins s σ H Q I q=>h pins s σ H Q I (a _ _ _ q)
end
end L2
namespace My
inductive D where
 |non|bl (b:Bool)|int (i:Int)|str (x:Str)|tup (xs:List D)|lst (xs:List D)
  |rol (xs:List D)
  |obj (x:C_) (fs:List (C_×D))
  |exc (x:C_) (fs:List (C_×D))
  |own (xs:List D)
  |ptr (a:KF)
  |dti (a9:List ((Int×Int)×Int))
def dtiV(a9:List ((Int×Int)×Int)):List (List Key×V):=a9.map λe=>([.inl e.1.1,.inl e.1.2],.int e.2)
def XO(e C:KF)(od:Option KF):HO:=.ext λh=>∃vs sl,h.get? e=be #[.ref C,od,.fields vs,sl]
mutual
def Rep(K:Ex)(H:Hp):D->V->Prop
 |.non,v=>v=.non
 |.bl b,v=>v=.bl b
 |.int i,v=>v=.int i
 |.str x,v=>v=.str x
 |.tup ds,v=>∃a vs,v=.ref a/\H a=be (.tup vs)/\Reps K H ds vs
 |.lst ds,v=>∃a vs,v=.ref a/\H a=be (.lst vs)/\Reps K H ds vs
 |.rol ds,v=>∃a vs,v=.ref a/\SqL K H a vs/\Reps K H ds vs
 |.obj x fs,v=>∃a C dx vs,v=.ref a/\nsIn K Pi x=be (be (.ref C))/\H a=be (.ins C dx vs)/\RepF K H fs vs
 |.exc x fs,v=>∃a C od vs,v=.ref a/\nsIn K Pi x=be (be (.ref C))/\H a=be (XO a C od)/\RepF K H fs vs/\((od=q8/\vs=[])\/∃b,od=be b/\H b=be (.xd vs))
 |.own _,_=>False
 |.ptr a,v=>v=.ref a
 |.dti a9,v=>∃a,v=.ref a/\H a=be (.dT (dtiV a9))
def RepF(K:Ex)(H:Hp):List (C_×D)->List (C_×V)->Prop
 |[],vs=>vs=[]
 |(f,d)::ds,vs=>∃v r,vs=(f,v)::r/\Rep K H d v/\RepF K H ds r
def Reps(K:Ex)(H:Hp):List D->List V->Prop
 |[],vs=>vs=[]
 |d::ds,vs=>∃v r,vs=v::r/\Rep K H d v/\Reps K H ds r
end
mutual
def Rep.mono{K:Ex}{H H':Hp}(g:Same H H'):∀(d:D) (v:V),Rep K H d v->Rep K H' d v
 |.non,v,h=>by unfold Rep at h ⊢;exact h
 |.bl b,v,h=>by unfold Rep at h ⊢;exact h
 |.int b,v,h=>by unfold Rep at h ⊢;exact h
 |.str b,v,h=>by unfold Rep at h ⊢;exact h
 |.tup ds,v,h=>by
  unfold Rep at h ⊢;obtain⟨a,vs,e,q,r⟩:=h;exact#[a,vs,e,g _ _ q,Reps.mono g ds vs r]
 |.lst ds,v,h=>by
  unfold Rep at h ⊢;obtain⟨a,vs,e,q,r⟩:=h;exact#[a,vs,e,g _ _ q,Reps.mono g ds vs r]
 |.rol ds,v,h=>by
  unfold Rep at h ⊢;obtain⟨a,vs,e,q,r⟩:=h;exact#[a,vs,e,g.seq q,Reps.mono g ds vs r]
 |.obj C fs,v,h=>by
  unfold Rep at h ⊢;obtain⟨a,C,dx,vs,e,n,q,r⟩:=h;exact#[a,C,dx,vs,e,n,g _ _ q,RepF.mono g fs vs r]
 |.exc C fs,v,h=>by
  unfold Rep at h ⊢;obtain⟨a,C,od,vs,e,n,q,r,d⟩:=h;exact#[a,C,od,vs,e,n,g _ _ q,RepF.mono g fs vs r,d.imp id λ⟨b,h1,h2⟩=>#[b,h1,g _ _ h2]]
 |.own ds,v,h=>by
  unfold Rep at h ⊢;exact h
 |.ptr a,v,h=>by unfold Rep at h ⊢;exact h
 |.dti a9,v,h=>by
  unfold Rep at h ⊢;obtain⟨a,e,q⟩:=h;exact#[a,e,g _ _ q]
def RepF.mono{K:Ex}{H H':Hp}(g:Same H H'):∀(ds:List (C_×D)) (vs:List (C_×V)),RepF K H ds vs->RepF K H' ds vs
 |[],vs,h=>by unfold RepF at h ⊢;exact h
 |(f,d)::ds,vs,h=>by
  unfold RepF at h ⊢;obtain⟨v,r,e,q1,q2⟩:=h;exact#[v,r,e,Rep.mono g d v q1,RepF.mono g ds r q2]
def Reps.mono{K:Ex}{H H':Hp}(g:Same H H'):∀(ds:List D) (vs:List V),Reps K H ds vs->Reps K H' ds vs
 |[],vs,h=>by unfold Reps at h ⊢;exact h
 |d::ds,vs,h=>by
  unfold Reps at h ⊢;obtain⟨v,r,e,q1,q2⟩:=h;exact#[v,r,e,Rep.mono g d v q1,Reps.mono g ds r q2]
end
section
variable {K:Ex}{H:Hp}
variable{v:V}
def rep_non:Rep K H .non v↔v=.non:=by unfold Rep;exact Iff.rfl
def rep_bl{b:Bool}:Rep K H (.bl b) v↔v=.bl b:=by unfold Rep;exact Iff.rfl
def rep_int{i:Int}:Rep K H (.int i) v↔v=.int i:=by unfold Rep;exact Iff.rfl
variable{x:C_}
def rep_str:Rep K H (.str x) v↔v=.str x:=by unfold Rep;exact Iff.rfl
variable{ds:List My.D}
def rep_tupS:Rep K H (.tup ds) v↔∃a vs,v=.ref a/\H a=be (.tup vs)/\Reps K H ds vs:=by
 constructor
 .intro h;unfold Rep at h;exact h
 .intro h;unfold Rep;exact h
def rep_tup_mp(h:Rep K H (.tup ds) v):∃a vs,v=.ref a/\SqT K H a vs/\Reps K H ds vs:=by
 obtain⟨a,vs,e,q,r⟩:=rep_tupS.mp h;exact#[a,vs,e,SqT.of q,r]
def rep_ptr{a:KF}:Rep K H (.ptr a) v↔v=.ref a:=by unfold Rep;exact Iff.rfl
def rep_dti{a9:List ((Int×Int)×Int)}:Rep K H (.dti a9) v↔∃a,v=.ref a/\H a=be (.dT (dtiV a9)):=by
 constructor
 .intro h;unfold Rep at h;exact h
 .intro h;unfold Rep;exact h
def rep_lst:Rep K H (.lst ds) v↔∃a vs,v=.ref a/\H a=be (.lst vs)/\Reps K H ds vs:=by
 constructor
 .intro h;unfold Rep at h;exact h
 .intro h;unfold Rep;exact h
def rep_rol:Rep K H (.rol ds) v↔∃a vs,v=.ref a/\SqL K H a vs/\Reps K H ds vs:=by
 constructor
 .intro h;unfold Rep at h;exact h
 .intro h;unfold Rep;exact h
variable{fs:List (C_×My.D)}
def rep_obj:Rep K H (.obj x fs) v↔∃a C dx vs,v=.ref a/\nsIn K Pi x=be (be (.ref C))/\H a=be (.ins C dx vs)/\RepF K H fs vs:=by
 constructor
 .intro h;unfold Rep at h;exact h
 .intro h;unfold Rep;exact h
def rep_exc:Rep K H (.exc x fs) v↔∃a C od vs,v=.ref a/\nsIn K Pi x=be (be (.ref C))/\H a=be (XO a C od)/\RepF K H fs vs/\((od=q8/\vs=[])\/∃b,od=be b/\H b=be (.xd vs)):=by
 constructor
 .intro h;unfold Rep at h;exact h
 .intro h;unfold Rep;exact h
def rep_own:¬Rep K H (.own ds) v:=by intro h;unfold Rep at h;exact h
variable{vs:List (C_×V)}
def repf_nil:RepF K H [] vs↔vs=[]:=by unfold RepF;exact Iff.rfl
def repf_cons{f:C_}{d:D}{ds:List (C_×D)}:RepF K H ((f,d)::ds) vs↔∃v r,vs=(f,v)::r/\Rep K H d v/\RepF K H ds r:=by
 constructor
 .intro h;unfold RepF at h;exact h
 .intro h;unfold RepF;exact h
def RepF.look{f:C_}{d:D}:∀{fs:List (C_×D)} {vs:List (C_×V)},RepF K H fs vs->fs.lookup f=be d->∃v,vs.lookup f=be v/\Rep K H d v
 |[],_,_,e=>by cases e
 |(g,x)::fs,vs,h,e=>by
  obtain⟨v,r,rfl,h1,h2⟩:=repf_cons.mp h;rw[Gy]at e ⊢;split at e
  .cases e;exact#[v,rfl,h1]
  .exact RepF.look h2 e
def RepF.none{f:C_}:∀{fs:List (C_×D)} {vs:List (C_×V)},RepF K H fs vs->fs.lookup f=Option.none->vs.lookup f=Option.none
 |[],vs,h,_=>by rw[repf_nil.mp h];rfl
 |(g,x)::fs,vs,h,e=>by
  obtain⟨v,r,rfl,h1,h2⟩:=repf_cons.mp h;rw[Gy]at e ⊢;split at e
  .cases e
  .exact RepF.none h2 e
def reps_nil{vs:List V}:Reps K H [] vs↔vs=[]:=by unfold Reps;exact Iff.rfl
def reps_cons{d:D}{vs:List V}:Reps K H (d::ds) vs↔∃v r,vs=v::r/\Rep K H d v/\Reps K H ds r:=by
 constructor
 .intro h;unfold Reps at h;exact h
 .intro h;unfold Reps;exact h
def Reps.length:∀{ds:List D} {vs:List V},Reps K H ds vs->vs.length=ds.length
 |[],vs,h=>by rw[reps_nil.mp h];rfl
 |d::ds,vs,h=>by
  obtain⟨v,r,rfl,_,h2⟩:=reps_cons.mp h;rw[Gv,Gv,Reps.length h2]
def Reps.get:∀{ds:List D} {vs:List V} {i:Nat} {d:D},Reps K H ds vs->ds[i]?=be d->∃v,vs[i]?=be v/\Rep K H d v
 |[],_,_,_,_,e=>by simp at e
 |x::ds,vs,0,d,h,e=>by
  obtain⟨v,r,rfl,h1,_⟩:=reps_cons.mp h;simp at e;subst e;exact#[v,rfl,h1]
 |x::ds,vs,i+1,d,h,e=>by
  obtain⟨v,r,rfl,_,h2⟩:=reps_cons.mp h;obtain⟨u,q1,q2⟩:=Reps.get (i:=i) h2 (by simpa using e);exact#[u,by simpa using q1,q2]
def Reps.ints:∀{ns:List Int} {vs:List V},Reps K H (ns.map D.int) vs↔vs=ns.map V.int
 |[],vs=>reps_nil
 |n::ns,vs=>by
  rw[GJ,reps_cons,GJ];constructor
  .rintro⟨v,r,rfl,h1,h2⟩;rw[rep_int.mp h1,Reps.ints.mp h2]
  .rintro rfl;exact#[_,_,rfl,rep_int.mpr rfl,Reps.ints.mpr rfl]
end
abbrev SD:=List (Option D)
def gJ:D->Bool|.own _=>true|_=>false
structure RepS(K:Ex)(B F H:Hp)(t:SD)(s:L2.St):Prop where
 len:s.length=t.length
 val:∀(i:Nat) d,t[i]?=be (be d)->gJ d=false->∃v,s[i]?=be (be v)/\Rep K F d v
 own:∀(i:Nat) ds,t[i]?=be (be (.own ds))->∃a vs,s[i]?=be (be (.ref a))/\H a=be (.lst vs)/\B a=q8/\F a=q8/\Reps K F ds vs
 apart:∀(i j:Nat) di dj a,t[i]?=be (be (.own di))->t[j]?=be (be (.own dj))->s[i]?=be (be (.ref a))->s[j]?=be (be (.ref a))->i=j
structure Grow(F H F' H':Hp):Prop where
 ff:Same F F'
 fh:Same F' H'
 hh:Same H H'
 out:∀b,F b=q8->H b≠q8->F' b=q8
variable{F H:Hp}
def Grow.refl(h:Same F H):Grow F H F H:=#[Same.refl F,h,Same.refl H,λ_ h _=>h]
def Grow.trans{F1 H1 F2 H2:Hp}(g:Grow F H F1 H1)(k:Grow F1 H1 F2 H2):Grow F H F2 H2:=
 ⟨g.ff.trans k.ff,k.fh,g.hh.trans k.hh,λb h1 h2=>k.out b (g.out b h1 h2) (by
  cases e:H b with
  |none=>exact absurd e h2
  |some o=>rw[g.hh b o e];exact λz=>nomatch z)⟩
def Grow.new{p:KF}(h:Same F H)(hp:H p=q8)(o:HO):Grow F H (upd F p o) (upd H p o):=by
 have fp:F p=none:=h.free hp;refine#[aP fp o,λb u e=>?_,aP hp o,λb h1 h2=>?_]
 .by_cases hb:b=p
  .subst hb;rw[aB]at e ⊢;exact e
  .rw[au hb]at e ⊢;exact h b u e
 .by_cases hb:b=p
  .subst hb;exact absurd hp h2
  .rw[au hb];exact h1
class Jx where
 B:Hp
 F0:Hp
 RX:SD->C_->List (C_×D)->Prop
structure Kept[J:Jx](B F0 F H:Hp):Prop where
 bh:Same B H
 fh:Same F H
 f0:Same F0 F
 out:∀b,F0 b=q8->B b≠q8->F b=q8
 eb:B=J.B
 jf:Same J.F0 F0
 jo:∀b,J.F0 b=q8->B b≠q8->F0 b=q8
variable{B:Hp}
def Kept.kf[J:Jx]{F0:Hp}(k:Kept B F0 F H):Kept B J.F0 F H:=#[k.bh,k.fh,k.jf.trans k.f0,λb h1 h2=>k.out b (k.jo b h1 h2) h2,k.eb,Same.refl _,λ_ h _=>h]
def Kept.grow[Jx]{F0 F' H':Hp}(k:Kept B F0 F H)(g:Grow F H F' H'):Kept B F0 F' H':=
 ⟨k.bh.trans g.hh,g.fh,k.f0.trans g.ff,λb h1 h2=>g.out b (k.out b h1 h2) (by
  cases e:B b with
  |none=>exact absurd e h2
  |some o=>rw[k.bh b o e];exact λz=>nomatch z),k.eb,k.jf,k.jo⟩
section
variable {K:Ex}{B F H F' H':Hp}{t:SD}{s:L2.St}
def RepS.grow(g:Grow F H F' H')(h:RepS K B F H t s):RepS K B F' H' t s where
 len:=h.len
 val:=λi d e no=>let ⟨v,q1,q2⟩:=h.val i d e no;#[v,q1,q2.mono g.ff]
 own:=λi ds e=>by
  obtain⟨a,vs,q1,q2,q3,q4,q5⟩:=h.own i ds e;exact#[a,vs,q1,g.hh a _ q2,q3,g.out a q4 (by rw[q2];exact λz=>nomatch z),q5.mono g.ff]
 apart:=h.apart
variable{i:Nat}
def RepS.set{d:D}{v:V}(h:RepS K B F H t s)(r:Rep K F d v):RepS K B F H (t.set i (be d)) (s.set i (be v)):=by
 have no:gJ d=false:=by
  cases d with
  |own ds=>exact absurd r rep_own
  |_=>rfl
 have get:∀{j:Nat} {x:D},(t.set i (be d))[j]?=be (be x)->(j=i/\x=d/\i<t.length)\/(j≠i/\t[j]?=be (be x)):=λ{j x} e=>by
  by_cases hj:i=j
  .subst hj;rw[Hb]at e;simp at e;exact .inl #[rfl,e.2.symm,e.1]
  .rw[Gs hj]at e;exact .inr #[λz=>hj z.symm,e]
 refine#[by rw[G0,G0];exact h.len,λj x e nx=>?_,λj ds e=>?_,λj k dj dk a e1 e2 e3 e4=>?_]
 .rcases get e with⟨rfl,rfl,hl⟩|⟨hj,e⟩
  .exact#[v,by rw[GU (by rw[h.len];exact hl)],r]
  .obtain⟨u,q1,q2⟩:=h.val j x e nx;exact#[u,by rw[Gs (λz=>hj z.symm)];exact q1,q2]
 .rcases get e with⟨rfl,rfl,hl⟩|⟨hj,e⟩
  .cases no
  .obtain⟨a,vs,q1,q⟩:=h.own j ds e;exact#[a,vs,by rw[Gs (λz=>hj z.symm)];exact q1,q]
 .rcases get e1 with⟨rfl,rfl,hl⟩|⟨hj,e1⟩
  .cases no
  .rcases get e2 with⟨rfl,rfl,hl⟩|⟨hk,e2⟩
   .cases no
   .rw[Gs (λz=>hj z.symm)]at e3;rw[Gs (λz=>hk z.symm)]at e4;exact h.apart j k dj dk a e1 e2 e3 e4
variable{ds:List My.D}
def RepS.setOwn{a:KF}{vs:List V}(h:RepS K B F H t s)(hB:B a=q8)(hF:F a=q8)(r:Reps K F ds vs)
  (free:∀(j:Nat) dj,j≠i->t[j]?=be (be (.own dj))->s[j]?≠be (be (.ref a))):RepS K B F (upd H a (.lst vs)) (t.set i (be (.own ds))) (s.set i (be (.ref a))):=by
 have get:∀{j:Nat} {x:D},(t.set i (be (.own ds)))[j]?=be (be x)->(j=i/\x=.own ds/\i<t.length)\/(j≠i/\t[j]?=be (be x)):=λ{j x} e=>by
  by_cases hj:i=j
  .subst hj;rw[Hb]at e;simp at e;exact .inl #[rfl,e.2.symm,e.1]
  .rw[Gs hj]at e;exact .inr #[λz=>hj z.symm,e]
 refine#[by rw[G0,G0];exact h.len,λj x e nx=>?_,λj dj e=>?_,λj k dj dk b e1 e2 e3 e4=>?_]
 .rcases get e with⟨rfl,rfl,hl⟩|⟨hj,e⟩
  .cases nx
  .obtain⟨u,q1,q2⟩:=h.val j x e nx;exact#[u,by rw[Gs (λz=>hj z.symm)];exact q1,q2]
 .rcases get e with⟨rfl,e,hl⟩|⟨hj,e⟩
  .cases e;exact#[a,vs,by rw[GU (by rw[h.len];exact hl)],aB,hB,hF,r]
  .obtain⟨b,us,q1,q2,q⟩:=h.own j dj e;have ne:b≠a:=λz=>free j dj hj e (z ▸ q1);exact#[b,us,by rw[Gs (λz=>hj z.symm)];exact q1,by rw[au ne];exact q2,q]
 .rcases get e1 with⟨hj,c1,hl⟩|⟨hj,f1⟩
  .rcases get e2 with⟨hk,c2,Ml⟩|⟨hk,f2⟩
   .rw[hj,hk]
   .rw[hj,GU (by rw[h.len];exact hl)]at e3;rw[Gs (λz=>hk z.symm)]at e4;cases e3;exact absurd e4 (free k dk hk f2)
  .rcases get e2 with⟨hk,c2,Ml⟩|⟨hk,f2⟩
   .rw[hk,GU (by rw[h.len];exact Ml)]at e4;rw[Gs (λz=>hj z.symm)]at e3;cases e4;exact absurd e3 (free j dj hj f1)
   .rw[Gs (λz=>hj z.symm)]at e3;rw[Gs (λz=>hk z.symm)]at e4;exact h.apart j k dj dk b f1 f2 e3 e4
def RepS.freeze[Jx]{F0:Hp}(h:RepS K B F H t s)(k:Kept B F0 F H)(e:t[i]?=be (be (.own ds))):∃F',Kept B F0 F' H/\RepS K B F' H (t.set i (be (.lst ds))) s:=by
 obtain⟨a,vs,q1,q2,q3,q4,q5⟩:=h.own i ds e;have hl:i<t.length:=(Gq.mp e).1;have g:Same F (upd F a (.lst vs)):=aP q4 _;have get:∀{j:Nat} {x:D},(t.set i (be (.lst ds)))[j]?=be (be x)->(j=i/\x=.lst ds)\/(j≠i/\t[j]?=be (be x)):=λ{j x} e=>by
  by_cases hj:i=j
  .subst hj;rw[Hb]at e;simp at e;exact .inl #[rfl,e.2.symm]
  .rw[Gs hj]at e;exact .inr #[λz=>hj z.symm,e]
 refine#[upd F a (.lst vs),#[k.bh,λb o z=>?_,k.f0.trans g,λb h1 h2=>?_,k.eb,k.jf,k.jo],#[by rw[G0];exact h.len,λj x e' nx=>?_,λj dj e'=>?_,λj l dj dl b e1 e2 e3 e4=>?_]]
 .by_cases hb:b=a
  .subst hb;rw[aB]at z;cases z;exact q2
  .rw[au hb]at z;exact k.fh b o z
 .by_cases hb:b=a
  .subst hb;exact absurd q3 h2
  .rw[au hb];exact k.out b h1 h2
 .rcases get e' with⟨rfl,rfl⟩|⟨hj,e'⟩
  .exact#[.ref a,q1,rep_lst.mpr #[a,vs,rfl,aB,q5.mono g]]
  .obtain⟨u,p1,p2⟩:=h.val j x e' nx;exact#[u,p1,p2.mono g]
 .rcases get e' with⟨rfl,c⟩|⟨hj,e'⟩
  .cases c
  .obtain⟨b,us,p1,p2,p3,p4,p5⟩:=h.own j dj e';have ne:b≠a:=λz=>hj (h.apart j i dj ds a e' e (z ▸ p1) q1);exact#[b,us,p1,p2,p3,by rw[au ne];exact p4,p5.mono g]
 .rcases get e1 with⟨rfl,c⟩|⟨hj,e1⟩
  .cases c
  .rcases get e2 with⟨rfl,c⟩|⟨hk,e2⟩
   .cases c
   .exact h.apart j l dj dl b e1 e2 e3 e4
end
def startD(N:List C_)(ds:List D):SD:=ds.map be++GV (N.length-ds.length) q8
variable{K:Ex}
def Rep.noown{d:D}{v:V}(r:Rep K F d v):gJ d=false:=by
 cases d with
 |own ds=>exact absurd r rep_own
 |_=>rfl
def dF{N:List C_}{ds:List D}{vs:List V}(h:Reps K F ds vs):RepS K B F H (startD N ds) (L2.start N vs):=by
 have hl:=h.length;have get:∀(i:Nat) d,(startD N ds)[i]?=be (be d)->∃v,(L2.start N vs)[i]?=be (be v)/\Rep K F d v:=λi d e=>by
  unfold startD at e;unfold L2.start;by_cases hi:i<ds.length
  .rw[GW (by simpa using hi),Gr]at e;cases q:ds[i]? with
   |none=>rw[q]at e;cases e
   |some x=>
    rw[q]at e;cases e;obtain⟨v,q1,q2⟩:=h.get q;exact#[v,by rw[GW (by simpa[hl]using hi),Gr,q1];rfl,q2]
  .rw[Ha (by simpa using hi),Ih]at e;split at e<;>cases e
 refine#[by unfold startD L2.start;simp[hl],λi d e _=>get i d e,λi d e=>?_,λi j di dj a e=>?_]
 .obtain⟨v,_,r⟩:=get i _ e;exact absurd r rep_own
 .obtain⟨v,_,r⟩:=get i _ e;exact absurd r rep_own
abbrev TD:=SD->(D->Prop)->Prop
abbrev TDT:=SD->(Bool->Prop)->Prop
abbrev TDA:=SD->(List D->Prop)->Prop
structure EndsD where
 nx:SD->Prop
 rt:D->Prop
 bk:SD->Prop:=λ_=>False
 ct:SD->Prop:=λ_=>False
abbrev TSD:=EndsD->SD->Prop
def lE(K:Ex)[J:Jx](t:TD):TE:=λs H Q=>∃B F z,Kept B J.F0 F H/\RepS K B F H z s/\∃R:D->Prop,t z R/\∀d v F' H',Grow F H F' H'->R d->Rep K F' d v->Q v H'
def lT(K:Ex)[J:Jx](t:TDT):TT:=λs H Q=>∃B F z,Kept B J.F0 F H/\RepS K B F H z s/\∃R:Bool->Prop,t z R/\∀b F' H',Grow F H F' H'->R b->Q b H'
def lA(K:Ex)[J:Jx](t:TDA):TA:=λs H Q=>∃B F z,Kept B J.F0 F H/\RepS K B F H z s/\∃R:List D->Prop,t z R/\∀ds vs F' H',Grow F H F' H'->R ds->Reps K F' ds vs->Q vs H'
structure EndsOk[Jx](K:Ex)(B F0:Hp)(ED:EndsD)(E:Ends):Prop where
 nx:∀z' s' F' H',Kept B F0 F' H'->ED.nx z'->RepS K B F' H' z' s'->E.nx s' H'
 rt:∀d v F' H',Kept B F0 F' H'->ED.rt d->Rep K F' d v->E.rt v H'
 bk:∀z' s' F' H',Kept B F0 F' H'->ED.bk z'->RepS K B F' H' z' s'->E.bk s' H'
 ct:∀z' s' F' H',Kept B F0 F' H'->ED.ct z'->RepS K B F' H' z' s'->E.ct s' H'
def lS(K:Ex)[Jx](t:TSD):TS:=λE s H=>∃B F0 F z,Kept B F0 F H/\RepS K B F H z s/\∃ED:EndsD,t ED z/\EndsOk K B F0 ED E
abbrev DE(X:Cx)[Jx](e:P3)(t:TD):Prop:=PE X e (lE X.K t)
abbrev DT(X:Cx)[Jx](e:P3)(t:TDT):Prop:=PT X e (lT X.K t)
abbrev DW(X:Cx)[Jx](e:P3)(t:TDT):Prop:=PW X e (lT X.K t)
abbrev DA(X:Cx)[Jx](es:List P3)(t:TDA):Prop:=PA X es (lA X.K t)
abbrev DS(X:Cx)[Jx](st:Se)(t:TSD):Prop:=PS X st (lS X.K t)
abbrev DSs(X:Cx)[Jx](st:List Se)(t:TSD):Prop:=PSs X st (lS X.K t)
structure WDE(X:Cx)[Jx](e:P3)(t:TD):Prop where
 out:DE X e t
structure WDT(X:Cx)[Jx](e:P3)(t:TDT):Prop where
 out:DT X e t
structure WDW(X:Cx)[Jx](e:P3)(t:TDT):Prop where
 out:DW X e t
structure WDA(X:Cx)[Jx](es:List P3)(t:TDA):Prop where
 out:DA X es t
structure WDS(X:Cx)[Jx](st:Se)(t:TSD):Prop where
 out:DS X st t
structure WDSs(X:Cx)[Jx](st:List Se)(t:TSD):Prop where
 out:DSs X st t
section
variable {X:Cx}
def okR(R:D->Prop):D->Prop|.own _=>False|d=>R d
def dVar(i:Nat):TD:=λz R=>match z[i]? with|some (be d)=>okR R d|_=>False
def dC(d:D):TD:=λ_ R=>R d
variable{x:C_}
def aa[Jx](i:Nat){pos:Sr}(hN:autoParam (X.N[i]?=be x) zA0)(hv:autoParam (Vis X.env.scope x) zA5)(hd:autoParam (zND x) zA1)
  (gV:autoParam (zNC x) zA1):WDE X (.Name x pos) (dVar i):=⟨(dB hN hv hd gV).anti λs H Q h=>by
 obtain⟨B,F,z,kf,r,R,h1,h2⟩:=h;have fh:=kf.fh;unfold dVar at h1;split at h1
 .rename_i d e;have no:gJ d=false:=by
   cases d with
   |own ds=>exact False.elim h1
   |_=>rfl
  have Qt:R d:=by
   cases d with
   |own ds=>exact False.elim h1
   |_=>exact h1
  obtain⟨v,q1,q2⟩:=r.val i d e no;exact#[v,q1,h2 d v F H (Grow.refl fh) Qt q2]
 .exact h1.elim⟩
variable{e:P3}{d:My.D}
def de_c[Jx]{v:V}(h:PE X e (tC v))(r:∀H,Rep X.K H d v):DE X e (dC d):=h.anti λs H Q q=>by
 obtain⟨B,F,z,kf,_,R,h1,h2⟩:=q;have fh:=kf.fh;exact h2 d v F H (Grow.refl fh) h1 (r F)
def ad[Jx]{i j pos}:WDE X (.Constant (.int i) j pos) (dC (.int i)):=#[de_c vU λ_=>rep_int.mpr rfl]
def bx[Jx]{b j pos}:WDE X (.Constant (.bool b) j pos) (dC (.bl b)):=#[de_c vV λ_=>rep_bl.mpr rfl]
def dG[Jx]{j pos}:WDE X (.Constant .none j pos) (dC .non):=#[de_c vW λ_=>rep_non.mpr rfl]
def aw[Jx]{x j pos}:WDE X (.Constant (.str x) j pos) (dC (.str x)):=#[de_c pY λ_=>rep_str.mpr rfl]
abbrev RD2:=D->D->(D->Prop)->Prop
def dOp(r:RD2)(ta tb:TD):TD:=λz R=>ta z λx=>tb z λy=>r x y R
def aW(K:Ex)(r:R2)(rd:RD2):Prop:=∀x y u v F H R Q,Same F H->rd x y R->Rep K F x u->Rep K F y v->(∀d w F' H',Grow F H F' H'->R d->Rep K F' d w->Q w H')->r u v H Q
variable{r:R2}{rd:RD2}
def jV[Jx]{ta tb:TD}(L:aW X.K r rd)(h:PE X e (tOp r (lE X.K ta) (lE X.K tb))):DE X e (dOp rd ta tb):=h.anti λs H Q q=>by
 obtain⟨B,F,z,kf,rs,R,h1,h2⟩:=q;have fh:=kf.fh;refine#[B,F,z,kf,rs,_,h1,λx u F1 H1 g1 hx rx=>?_];refine#[B,F1,z,kf.grow g1,rs.grow g1,_,hx,λy v F2 H2 g2 hy ry=>?_];exact L x y u v F2 H2 R Q g2.fh hy (rx.mono g2.ff) ry λd w F' H' g3=>h2 d w F' H' (g1.trans (g2.trans g3))
variable {a b c:P3}{ta tb tc:TD}{pos:Sr}
def dH[Jx]{op:TK}(ho:OpR X (SF op) r)(L:aW X.K r rd)(ha:DE X a ta)(hb:DE X b tb):DE X (.BinOp a op b pos) (dOp rd ta tb):=jV L (jG ho ha hb)
def yb[Jx]{op:Up}(ho:OpR X (Sz op) r)(L:aW X.K r rd)(ha:DE X a ta)(hb:DE X b tb)(hm:SI op b=false):DE X (.Compare a [op] [b] pos) (dOp rd ta tb):=jV L (wL ho ha hb hm)
def yc[Jx](hr:IxR X r)(L:aW X.K r rd)(ha:DE X a ta)(hb:DE X b tb)(hs:autoParam (dZ b) zA6):DE X (.Subscript a b pos) (dOp rd ta tb):=jV L (pe_ix hr ha hb hs)
def kdI(d:D)(k:Int->Prop):Prop:=match d with|.int i=>k i|_=>False
def kdB(d:D)(k:Bool->Prop):Prop:=match d with|.bl i=>k i|_=>False
def kdS(d:D)(k:C_->Prop):Prop:=match d with|.str i=>k i|_=>False
def kdL(d:D)(k:List D->Prop):Prop:=match d with|.lst i=>k i|_=>False
def kdT(d:D)(k:List D->Prop):Prop:=match d with|.tup i=>k i|_=>False
def kdN(d:D)(p:Prop):Prop:=match d with|.non=>p|_=>False
def kd1(ds:List D)(k:D->Prop):Prop:=match ds with|[x]=>k x|_=>False
def kd2(ds:List D)(k:D->D->Prop):Prop:=match ds with|[x,y]=>k x y|_=>False
def kdI.of{k:Int->Prop}(h:kdI d k):∃i,d=.int i/\k i:=Mm
def kdB.of{k:Bool->Prop}(h:kdB d k):∃i,d=.bl i/\k i:=Mm
def kdS.of{k:C_->Prop}(h:kdS d k):∃i,d=.str i/\k i:=Mm
variable{k:List My.D->Prop}
def kdL.of(h:kdL d k):∃i,d=.lst i/\k i:=Mm
def kdT.of(h:kdT d k):∃i,d=.tup i/\k i:=Mm
def kdP(d:D)(k:KF->Prop):Prop:=match d with|.ptr i=>k i|_=>False
def kdP.of{k:KF->Prop}(h:kdP d k):∃i,d=.ptr i/\k i:=Mm
def kdN.of{p:Prop}(h:kdN d p):d=.non/\p:=by cases d<;>first|exact#[rfl,h]|exact False.elim h
variable{ds:List My.D}
def kd1.of{k:D->Prop}(h:kd1 ds k):∃x,ds=[x]/\k x:=by
 cases ds with
 |nil=>exact False.elim h
 |cons x r=>cases r with
  |nil=>exact#[x,rfl,h]
  |cons=>exact False.elim h
def kd2.of{k:D->D->Prop}(h:kd2 ds k):∃x y,ds=[x,y]/\k x y:=by
 cases ds with
 |nil=>exact False.elim h
 |cons x r=>cases r with
  |nil=>exact False.elim h
  |cons y r=>cases r with
   |nil=>exact#[x,y,rfl,h]
   |cons=>exact False.elim h
def rdI0(f:Int->Int->D):RD2:=λx y R=>kdI x λi=>kdI y λj=>R (f i j)
def rdI1(C:Int->Int->Prop)(f:Int->Int->D):RD2:=λx y R=>kdI x λi=>kdI y λj=>C i j/\R (f i j)
variable{K:Ex}{f:Int->Int->My.D}{g:Int->Int->V}
def fG(k:∀F i j,Rep K F (f i j) (g i j)):aW K (rI0 g) (rdI0 f):=by
 intro x y u v F H R Q fh h rx ry q;replace h:=kdI.of h;obtain⟨i,rfl,h⟩:=h;replace h:=kdI.of h;obtain⟨j,rfl,h⟩:=h;exact#[i,j,rep_int.mp rx,rep_int.mp ry,q _ _ F H (Grow.refl fh) h (k F i j)]
def fH{C:Int->Int->Prop}(k:∀F i j,Rep K F (f i j) (g i j)):aW K (rI C g) (rdI1 C f):=by
 intro x y u v F H R Q fh h rx ry q;replace h:=kdI.of h;obtain⟨i,rfl,h⟩:=h;replace h:=kdI.of h;obtain⟨j,rfl,h⟩:=h;exact#[i,j,rep_int.mp rx,rep_int.mp ry,h.1,q _ _ F H (Grow.refl fh) h.2 (k F i j)]
def jW:RD2:=λx y R=>match x with
 |.int i=>kdI y λj=>R (.int (i+j))
 |.str i=>kdS y λj=>i.length+j.length<=1000000/\R (.str (i++j))
 |.lst xs=>kdL y λys=>xs.length+ys.length<=1000000/\R (.lst (xs++ys))
 |.tup xs=>kdT y λys=>(xs≠[]/\ys≠[]/\xs.length+ys.length<=1000000)/\R (.tup (xs++ys))
 |_=>False
def rj(K:Ex):R2:=λx y H Q=>rI0 (λi j=>.int (i+j)) x y H Q\/((λx y H Q=>∃i j,x=.str i/\y=.str j/\i.length+j.length<=sizeLine/\Q (.str (i++j)) H) x y H Q\/(rCat x y H Q\/qQ K x y H Q))
def rk:OpR X (SF .Add) (rj X.K):=OpR.or wC (OpR.or wQ (OpR.or qU xy))
def Reps.append{K:Ex}{F:Hp}:∀{xs ys:List D} {us vs:List V},Reps K F xs us->Reps K F ys vs->Reps K F (xs++ys) (us++vs)
 |[],ys,us,vs,r1,r2=>by rw[reps_nil.mp r1];exact r2
 |x::xs,ys,us,vs,r1,r2=>by
  obtain⟨u,ur,rfl,a1,a2⟩:=reps_cons.mp r1;exact reps_cons.mpr #[u,ur++vs,rfl,a1,Reps.append a2 r2]
def Reps.ne_nil{F:Hp}{xs:List D}{us:List V}(r:Reps K F xs us)(h:xs≠[]):us≠[]:=by
 cases xs with
 |nil=>exact absurd rfl h
 |cons x xs=>obtain⟨u,ur,rfl,_⟩:=reps_cons.mp r;exact λz=>nomatch z
def rl:aW K (rj K) jW:=by
 intro x y u v F H R Q fh h rx ry q;cases x with
 |int i=>
  replace h:=kdI.of h;obtain⟨j,rfl,h⟩:=h;exact .inl #[_,_,rep_int.mp rx,rep_int.mp ry,q _ _ F H (Grow.refl fh) h (rep_int.mpr rfl)]
 |str i=>
  replace h:=kdS.of h;obtain⟨j,rfl,h⟩:=h;exact .inr (.inl #[_,_,rep_str.mp rx,rep_str.mp ry,Go h.1 Ku,q _ _ F H (Grow.refl fh) h.2 (rep_str.mpr rfl)])
 |lst xs=>
  replace h:=kdL.of h;obtain⟨ys,rfl,h⟩:=h;obtain⟨a,us,rfl,hq,rr⟩:=rep_lst.mp rx;obtain⟨b,vs,rfl,E_,KO⟩:=rep_lst.mp ry;refine .inr (.inr (.inl #[a,b,us,vs,rfl,rfl,fh _ _ hq,fh _ _ E_,by rw[rr.length,KO.length];exact Go h.1 Ku,λp hp=>?_]));exact q _ _ _ _ (Grow.new fh hp _) h.2 (rep_lst.mpr #[p,_,rfl,aB,(rr.append KO).mono (aP (fh.free hp) _)])
 |tup xs=>
  replace h:=kdT.of h;obtain⟨ys,rfl,h⟩:=h;obtain⟨a,us,rfl,hq,rr⟩:=rep_tup_mp rx;obtain⟨b,vs,rfl,E_,KO⟩:=rep_tup_mp ry;obtain⟨⟨n1,n2,hz⟩,h⟩:=h;refine .inr (.inr (.inr #[a,b,us,vs,rfl,rfl,fh.tup hq,fh.tup E_,rr.ne_nil n1,by rw[rr.length,KO.length];exact Go hz Ku,λz=>absurd z (KO.ne_nil n2),λ_ p hp=>?_]));exact q _ _ _ _ (Grow.new fh hp _) h (rep_tupS.mpr #[p,_,rfl,aB,(rr.append KO).mono (aP (fh.free hp) _)])
 |_=>exact False.elim h
def ao[Jx](ha:WDE X a ta)(hb:WDE X b tb):WDE X (.BinOp a .Add b pos) (dOp jW ta tb):=#[have ha:=ha.out;have hb:=hb.out;dH rk rl ha hb]
def jX:RD2:=rdI0 λi j=>.int (i-j)
def rn:aW K (rI0 λi j=>.int (i-j)) jX:=fG λ_ _ _=>rep_int.mpr rfl
def bq[Jx](ha:WDE X a ta)(hb:WDE X b tb):WDE X (.BinOp a .Sub b pos) (dOp jX ta tb):=#[have ha:=ha.out;have hb:=hb.out;dH qo rn ha hb]
def rq:RD2:=λx y R=>kdI x λi=>kdI y λj=>CMul i j/\R (.int (i*j))
def yd:aW K (rI CMul λi j=>.int (i*j)) rq:=fH λ_ _ _=>rep_int.mpr rfl
def ax[Jx](ha:WDE X a ta)(hb:WDE X b tb):WDE X (.BinOp a .Mult b pos) (dOp rq ta tb):=#[have ha:=ha.out;have hb:=hb.out;dH wE yd ha hb]
def rA:RD2:=λx y R=>kdI x λi=>kdI y λj=>(0<j/\j<1073741824)/\R (.int (i/j))
def ye:aW K (rI CDiv λi j=>.int (i/j)) rA:=fH λ_ _ _=>rep_int.mpr rfl
def aX[Jx](ha:WDE X a ta)(hb:WDE X b tb):WDE X (.BinOp a .FloorDiv b pos) (dOp rA ta tb):=#[have ha:=ha.out;have hb:=hb.out;dH wF ye ha hb]
def rB(i j:Int):Prop:=j≠0/\j.natAbs<4611686018427387904
def yf:OpR X (SF .FloorDiv) (rI rB λi j=>.int (i.fdiv j)):=opI λ_ j _ _ _ _ _ hc q=>floordiv_int hc.1 q (.inl (PyProof.noPylong_of_log2 (IW ((IZ (λz=>hc.1 (Ja.mp z))).mpr (show j.natAbs<2^62 from hc.2)) Ku)))
def rC:RD2:=λx y R=>kdI x λi=>kdI y λj=>(j≠0/\j.natAbs<4611686018427387904)/\R (.int (i.fdiv j))
def yg:aW K (rI rB λi j=>.int (i.fdiv j)) rC:=fH λ_ _ _=>rep_int.mpr rfl
def yh[Jx](ha:WDE X a ta)(hb:WDE X b tb):WDE X (.BinOp a .FloorDiv b pos) (dOp rC ta tb):=#[have ha:=ha.out;have hb:=hb.out;dH yf yg ha hb]
def rD:RD2:=λx y R=>kdI x λi=>kdI y λj=>0<j/\R (.int (i%j))
def yi:aW K (rI (λ_ j=>0<j) λi j=>.int (i%j)) rD:=fH λ_ _ _=>rep_int.mpr rfl
def aC[Jx](ha:WDE X a ta)(hb:WDE X b tb):WDE X (.BinOp a .Mod b pos) (dOp rD ta tb):=#[have ha:=ha.out;have hb:=hb.out;dH wG yi ha hb]
def rE:RD2:=λx y R=>kdI x λi=>kdI y λj=>j≠0/\R (.int (i.fmod j))
def yj:aW K (rI (λ_ j=>j≠0) λi j=>.int (i.fmod j)) rE:=fH λ_ _ _=>rep_int.mpr rfl
def rF[Jx](ha:WDE X a ta)(hb:WDE X b tb):WDE X (.BinOp a .Mod b pos) (dOp rE ta tb):=#[have ha:=ha.out;have hb:=hb.out;dH wH yj ha hb]
def rdLt:RD2:=rdI0 λi j=>.bl (decide (i<j))
def rG:aW K (rI0 λi j=>.bl (decide (i<j))) rdLt:=fG λ_ _ _=>rep_bl.mpr rfl
def rdLe:RD2:=rdI0 λi j=>.bl (decide (i<=j))
def yk:aW K (rI0 λi j=>.bl (decide (i<=j))) rdLe:=fG λ_ _ _=>rep_bl.mpr rfl
def rdGt:RD2:=rdI0 λi j=>.bl (decide (j<i))
def rH:aW K (rI0 λi j=>.bl (decide (j<i))) rdGt:=fG λ_ _ _=>rep_bl.mpr rfl
def rdGe:RD2:=rdI0 λi j=>.bl (decide (j<=i))
def yl:aW K (rI0 λi j=>.bl (decide (j<=i))) rdGe:=fG λ_ _ _=>rep_bl.mpr rfl
def rdEq:RD2:=λx y R=>match x with
 |.int i=>kdI y λj=>R (.bl (decide (i=j)))
 |.bl i=>kdB y λj=>R (.bl (decide (i=j)))
 |.str i=>kdS y λj=>R (.bl (decide (i=j)))
 |.non=>kdN y (R (.bl true))
 |_=>False
def rdNe:RD2:=λx y R=>match x with
 |.int i=>kdI y λj=>R (.bl (!decide (i=j)))
 |.bl i=>kdB y λj=>R (.bl (!decide (i=j)))
 |.str i=>kdS y λj=>R (.bl (!decide (i=j)))
 |.non=>kdN y (R (.bl false))
 |_=>False
def jY:aW K rEq rdEq:=by
 intro x y u v F H R Q fh h rx ry q;cases x with
 |int i=>
  replace h:=kdI.of h;obtain⟨j,rfl,h⟩:=h;rw[rep_int.mp rx,rep_int.mp ry];exact#[rfl,q _ _ F H (Grow.refl fh) h (rep_bl.mpr Kv)]
 |bl i=>
  replace h:=kdB.of h;obtain⟨j,rfl,h⟩:=h;rw[rep_bl.mp rx,rep_bl.mp ry];exact#[rfl,q _ _ F H (Grow.refl fh) h (rep_bl.mpr Kv)]
 |str i=>
  replace h:=kdS.of h;obtain⟨j,rfl,h⟩:=h;rw[rep_str.mp rx,rep_str.mp ry];exact#[rfl,q _ _ F H (Grow.refl fh) h (rep_bl.mpr Kv)]
 |non=>
  replace h:=kdN.of h;obtain⟨rfl,h⟩:=h;rw[rep_non.mp rx,rep_non.mp ry];exact#[rfl,q _ _ F H (Grow.refl fh) h (rep_bl.mpr Kv)]
 |_=>exact False.elim h
def rJ:aW K rNe rdNe:=by
 intro x y u v F H R Q fh h rx ry q;cases x with
 |int i=>
  replace h:=kdI.of h;obtain⟨j,rfl,h⟩:=h;rw[rep_int.mp rx,rep_int.mp ry];exact#[rfl,q _ _ F H (Grow.refl fh) h (rep_bl.mpr Kv)]
 |bl i=>
  replace h:=kdB.of h;obtain⟨j,rfl,h⟩:=h;rw[rep_bl.mp rx,rep_bl.mp ry];exact#[rfl,q _ _ F H (Grow.refl fh) h (rep_bl.mpr Kv)]
 |str i=>
  replace h:=kdS.of h;obtain⟨j,rfl,h⟩:=h;rw[rep_str.mp rx,rep_str.mp ry];exact#[rfl,q _ _ F H (Grow.refl fh) h (rep_bl.mpr Kv)]
 |non=>
  replace h:=kdN.of h;obtain⟨rfl,h⟩:=h;rw[rep_non.mp rx,rep_non.mp ry];exact#[rfl,q _ _ F H (Grow.refl fh) h (rep_bl.mpr Kv)]
 |_=>exact False.elim h
def cP[Jx](ha:WDE X a ta)(hb:WDE X b tb):WDE X (.Compare a [.Eq] [b] pos) (dOp rdEq ta tb):=#[have ha:=ha.out;have hb:=hb.out;yb jH jY ha hb (nomark _)]
def rK:D->Bool|.non=>true|_=>false
def rdIs(f:Bool->Bool):RD2:=λx y R=>kdN y (R (.bl (f (rK x))))
def ym{H:Hp}{x:D}{u:V}(r:Rep K H x u):decide (u=.non)=rK x:=by
 cases x with
 |non=>rw[rep_non.mp r];rfl
 |bl b=>rw[rep_bl.mp r];rfl
 |int b=>rw[rep_int.mp r];rfl
 |str b=>rw[rep_str.mp r];rfl
 |tup b=>obtain⟨a,vs,rfl,_⟩:=rep_tup_mp r;rfl
 |lst b=>obtain⟨a,vs,rfl,_⟩:=rep_lst.mp r;rfl
 |rol b=>obtain⟨a,vs,rfl,_⟩:=rep_rol.mp r;rfl
 |obj C b=>obtain⟨a,C,dx,vs,rfl,_⟩:=rep_obj.mp r;rfl
 |exc C b=>obtain⟨a,C,od,vs,rfl,_⟩:=rep_exc.mp r;rfl
 |own b=>exact absurd r rep_own
 |ptr b=>rw[rep_ptr.mp r];rfl
 |dti b=>obtain⟨a,rfl,_⟩:=rep_dti.mp r;rfl
def rL:aW K (λx y H Q=>y=.non/\Q (.bl (decide (x=.non))) H) (rdIs id):=by
 intro x y u v F H R Q fh h rx ry q;replace h:=kdN.of h;obtain⟨rfl,h⟩:=h;exact#[rep_non.mp ry,q _ _ F H (Grow.refl fh) h (rep_bl.mpr (by rw[ym rx];rfl))]
def rdIx:RD2:=λx y R=>kdI y λi=>match x with
 |.tup ds=>∃d,atI ds i=be d/\R d
 |.lst ds=>∃d,atI ds i=be d/\R d
 |.rol ds=>∃d,atI ds i=be d/\R d
 |.str x=>∃c,(x.length<=1000000/\atI x.cps.toList i=be c)/\R (.str #[[c].toArray])
 |_=>False
def Reps.at{H:Hp}{vs:List V}{i:Int}(r:Reps K H ds vs)(e:atI ds i=be d):∃v,atI vs i=be v/\Rep K H d v:=by
 unfold atI at e ⊢;rw[r.length];cases q:ixN ds.length i with
 |none=>rw[q]at e;cases e
 |some j=>
  rw[q]at e;exact r.get e
def rM:aW K (rIx K) rdIx:=by
 intro x y u v F H R Q fh h rx ry q;replace h:=kdI.of h;obtain⟨i,rfl,h⟩:=h;cases x with
 |tup ds=>
  obtain⟨d,e,h⟩:=h;obtain⟨a,vs,e1,hq,rs⟩:=rep_tup_mp rx;obtain⟨w,e2,g8⟩:=rs.at e;exact .inr (.inl #[a,vs,_,w,e1,rep_int.mp ry,fh.tup hq,e2,q d w F H (Grow.refl fh) h g8])
 |lst ds=>
  obtain⟨d,e,h⟩:=h;obtain⟨a,vs,e1,hq,rs⟩:=rep_lst.mp rx;obtain⟨w,e2,g8⟩:=rs.at e;exact .inl #[a,vs,_,w,e1,rep_int.mp ry,fh.seq (SqL.of hq),e2,q d w F H (Grow.refl fh) h g8]
 |rol ds=>
  obtain⟨d,e,h⟩:=h;obtain⟨a,vs,e1,hq,rs⟩:=rep_rol.mp rx;obtain⟨w,e2,g8⟩:=rs.at e;exact .inl #[a,vs,_,w,e1,rep_int.mp ry,fh.seq hq,e2,q d w F H (Grow.refl fh) h g8]
 |str x=>
  obtain⟨c,⟨hz,e⟩,h⟩:=h;exact .inr (.inr #[_,_,c,rep_str.mp rx,rep_int.mp ry,Go hz Ku,e,q _ _ F H (Grow.refl fh) h (rep_str.mpr rfl)])
 |_=>exact False.elim h
def af[Jx](ha:WDE X a ta)(hb:WDE X b tb)(hs:autoParam (dZ b) zA6):WDE X (.Subscript a b pos) (dOp rdIx ta tb):=#[have ha:=ha.out;have hb:=hb.out;yc qS rM ha hb hs]
def dUn(r:D->(D->Prop)->Prop)(ta:TD):TD:=λz R=>ta z λx=>r x R
def rN:D->(D->Prop)->Prop:=λx R=>match x with|.int i=>R (.int (-i))|_=>False
def cb[Jx](ha:WDE X a ta):WDE X (.UnaryOp .USub a pos) (dUn rN ta):=⟨have ha:=ha.out;(wB wI ha).anti λs H Q h=>by
 obtain⟨B,F,z,kf,rs,R,h1,h2⟩:=h;have fh:=kf.fh;refine#[B,F,z,kf,rs,_,h1,λx u F1 H1 g1 hx rx=>?_];unfold rN at hx;split at hx
 .exact#[_,rep_int.mp rx,h2 _ _ F1 H1 g1 hx (rep_int.mpr rfl)]
 .exact hx.elim⟩
def dNil:TDA:=λ_ R=>R []
def yn(ta:TD)(tr:TDA):TDA:=λz R=>ta z λx=>tr z λxs=>R (x::xs)
def ae[Jx]:WDA X [] dNil:=⟨pa_nil.anti λs H Q h=>by
 obtain⟨B,F,z,kf,rs,R,h1,h2⟩:=h;have fh:=kf.fh;exact h2 [] [] F H (Grow.refl fh) h1 (reps_nil.mpr rfl)⟩
variable{es:List P3}{t:TDA}
def ac[Jx]{te:TD}(ha:WDE X e te)(hr:WDA X es t)(hs:autoParam (zSE X e es) zA0):WDA X (e::es) (yn te t):=⟨have ha:=ha.out;have hr:=hr.out;(bf ha hr hs).anti λs H Q h=>by
 obtain⟨B,F,z,kf,rs,R,h1,h2⟩:=h;have fh:=kf.fh;refine#[B,F,z,kf,rs,_,h1,λx u F1 H1 g1 hx rx=>?_];refine#[B,F1,z,kf.grow g1,rs.grow g1,_,hx,λxs us F2 H2 g2 hy ry=>?_];exact h2 _ _ F2 H2 (g1.trans g2) hy (reps_cons.mpr #[_,_,rfl,rx.mono g2.ff,ry])⟩
def dTup(t:TDA):TD:=λz R=>t z λxs=>xs.length<=1000/\R (.tup xs)
def dLst(t:TDA):TD:=λz R=>t z λxs=>xs.length<=1000/\R (.lst xs)
def aL[Jx]{x1}(h:WDA X es t):WDE X (.Tuple es x1 pos) (dTup t):=⟨have h:=h.out;(qI h).anti λs H Q q=>by
 obtain⟨B,F,z,kf,rs,R,h1,h2⟩:=q;have fh:=kf.fh;refine#[B,F,z,kf,rs,_,h1,λds vs F1 H1 g1 hx rx=>?_];have hl:=rx.length;refine#[sz (by rw[hl];exact hx.1),λp hp=>?_];exact h2 _ _ _ _ (g1.trans (Grow.new g1.fh hp _)) hx.2 (rep_tupS.mpr #[p,vs,rfl,aB,rx.mono (aP (g1.fh.free hp) _)])⟩
def aY[Jx](h:WDA X es t):WDE X (.List es pos) (dLst t):=⟨have h:=h.out;(gE h).anti λs H Q q=>by
 obtain⟨B,F,z,kf,rs,R,h1,h2⟩:=q;have fh:=kf.fh;refine#[B,F,z,kf,rs,_,h1,λds vs F1 H1 g1 hx rx=>?_];have hl:=rx.length;refine#[sz (by rw[hl];exact hx.1),λp hp=>?_];exact h2 _ _ _ _ (g1.trans (Grow.new g1.fh hp _)) hx.2 (rep_lst.mpr #[p,vs,rfl,aB,rx.mono (aP (g1.fh.free hp) _)])⟩
abbrev SpD:=List D->(D->Prop)->Prop
def lSp(K:Ex)(S:SpD):Sp:=λvs H Q _=>∃F ds,Same F H/\Reps K F ds vs/\∃R:D->Prop,S ds R/\∀d v F' H',Grow F H F' H'->R d->Rep K F' d v->Q v H'
def yo(S:SpD)(t:TDA):TD:=λz R=>t z λds=>S ds R
abbrev CalD(P:Sd)(w:Sj)(K:Ex)(mg:C_->Option KB)(base:Sl)(n:Nat)(x:C_)(ps:List C_)(S:SpD):Prop:=Cal P w K mg base n x ps (lSp K S)
variable{p:Sr}
def aD[Jx]{n m:Nat}{ps:List C_}{S:SpD}(C:CalD X.prog X.w X.K X.mg X.base n x ps S)(hr:Room m X.A)(ha:WDA X (e::es) t)(hg:autoParam (Gl X x) zA0)(hn:autoParam (n<=m) zA1)(d8:autoParam (zND x) zA1)
  (he:autoParam (zSE X e es) zA0) (c_:autoParam (zPL X pos es) zA0):WDE X (.Call (.Name x p) (e::es) [] pos) (yo S t):=⟨have ha:=ha.out;(ya C hr ha hg hn d8 he c_).anti λs H Q h=>by
 obtain⟨B,F,z,kf,rs,R,h1,h2⟩:=h;have fh:=kf.fh;refine#[B,F,z,kf,rs,_,h1,λds vs F1 H1 g1 hx rx=>?_];exact#[F1,ds,g1.fh,by rw[GS];exact rx,R,hx,λd v F' H' g=>h2 d v F' H' (g1.trans g)]⟩
abbrev RDn:=List D->(D->Prop)->Prop
def cn(K:Ex)(r:List V->Hp->VK->Prop)(rd:RDn):Prop:=∀ds vs F H R Q,Same F H->rd ds R->Reps K F ds vs->(∀d w F' H',Grow F H F' H'->R d->Rep K F' d w->Q w H')->r vs H Q
def dCB(r:RDn)(t:TDA):TD:=λz R=>t z λds=>r ds R
def gK[Jx]{id:String}{r:List V->Hp->VK->Prop}{rd:RDn}(hc:bA X (.builtin id) r)(L:cn X.K r rd)(hm:X.mg x=q8)(hv:Sw x=be (.builtin id))(ha:DA X (e::es) t)(hg:autoParam (Gl X x) zA0)(hn:autoParam (x≠"__name__") zA1)(d8:autoParam (zND x) zA1)
  (he:autoParam (zSE X e es) zA0) (c_:autoParam (zPL X pos es) zA0):DE X (.Call (.Name x p) (e::es) [] pos) (dCB rd t):=(dY hc hg hm hv ha hn d8 he c_).anti λs H Q h=>by
 obtain⟨B,F,z,kf,rs,R,h1,h2⟩:=h;have fh:=kf.fh;refine#[B,F,z,kf,rs,_,h1,λds vs F1 H1 g1 hx rx=>?_];exact L ds vs F1 H1 R Q g1.fh hx rx λd w F' H' g=>h2 d w F' H' (g1.trans g)
def jZ:RDn:=λds R=>kd1 ds λx=>match x with
 |.tup xs=>R (.int xs.length)
 |.lst xs=>R (.int xs.length)
 |.rol xs=>R (.int xs.length)
 |.str x=>x.length<=1000000/\R (.int x.length)
 |_=>False
def rO:cn K (λxs H Q=>∃x n,xs=[x]/\LenV K x H n/\Q (.int n) H) jZ:=by
 intro ds vs F H R Q fh h rx q;replace h:=kd1.of h;obtain⟨x,rfl,h⟩:=h;obtain⟨v,r,rfl,h1,h2⟩:=reps_cons.mp rx;rw[reps_nil.mp h2];cases x with
 |tup xs=>
  obtain⟨a,us,rfl,hq,rs⟩:=rep_tup_mp h1;exact#[.ref a,us.length,rfl,.inr #[us,fh.tup hq,rfl],q _ _ F H (Grow.refl fh) h (rep_int.mpr (by rw[rs.length]))]
 |lst xs=>
  obtain⟨a,us,rfl,hq,rs⟩:=rep_lst.mp h1;exact#[.ref a,us.length,rfl,.inl #[us,fh.seq (SqL.of hq),rfl],q _ _ F H (Grow.refl fh) h (rep_int.mpr (by rw[rs.length]))]
 |rol xs=>
  obtain⟨a,us,rfl,hq,rs⟩:=rep_rol.mp h1;exact#[.ref a,us.length,rfl,.inl #[us,fh.seq hq,rfl],q _ _ F H (Grow.refl fh) h (rep_int.mpr (by rw[rs.length]))]
 |str x=>
  rw[rep_str.mp h1];exact#[.str _,_,rfl,#[Go h.1 Ku,rfl],q _ _ F H (Grow.refl fh) h.2 (rep_int.mpr rfl)]
 |_=>exact False.elim h
def cq[Jx](hm:X.mg "len"=q8)(ha:WDA X [e] t)(hg:autoParam (Gl X "len") zA0)(he:autoParam (zSE X e []) zA0):WDE X (.Call (.Name "len" p) [e] [] pos) (dCB jZ t):=#[have ha:=ha.out;gK jI rO hm PySem.boot_len ha hg Ku Ku he]
def rP:RDn:=λds R=>kd1 ds λx=>kdI x λi=>R (.int (if i<0 then -i else i))
def yp:cn K (λxs H Q=>∃i,xs=[.int i]/\Q (.int (if i<0 then -i else i)) H) rP:=by
 intro ds vs F H R Q fh h rx q;replace h:=kd1.of h;obtain⟨x,rfl,h⟩:=h;replace h:=kdI.of h;obtain⟨i,rfl,h⟩:=h;obtain⟨v,r,rfl,h1,h2⟩:=reps_cons.mp rx;rw[reps_nil.mp h2,rep_int.mp h1];exact#[_,rfl,q _ _ F H (Grow.refl fh) h (rep_int.mpr rfl)]
def eg[Jx](hm:X.mg "abs"=q8)(ha:WDA X [e] t)(hg:autoParam (Gl X "abs") zA0)(he:autoParam (zSE X e []) zA0):WDE X (.Call (.Name "abs" p) [e] [] pos) (dCB rP t):=#[have ha:=ha.out;gK wR yp hm PyProof.Rows.boot_abs ha hg Ku Ku he]
end
section
variable {X:Cx}{a b c e:P3}{ta tb tc te:TD}{pos:Sr}
def dTst(t:TD):TDT:=λz R=>t z λx=>match x with|.bl k=>R k|_=>False
def dI[Jx]{op:Up}{r:R2}{rd:RD2}(ho:OpR X (Sz op) r)(L:aW X.K r rd)(ha:DE X a ta)(hb:DE X b tb)(hm:SI op b=false):DT X (.Compare a [op] [b] pos) (dTst (dOp rd ta tb)):=(qz ho ha hb hm).anti λs H Q q=>by
 obtain⟨B,F,z,kf,rs,R,h1,h2⟩:=q;have fh:=kf.fh;refine#[B,F,z,kf,rs,_,h1,λx u F1 H1 g1 hx rx=>?_];refine#[B,F1,z,kf.grow g1,rs.grow g1,_,hx,λy v F2 H2 g2 hy ry=>?_];refine L x y u v F2 H2 _ _ g2.fh hy (rx.mono g2.ff) ry λd w F' H' g3 hd rd=>?_;split at hd
 .exact#[_,rep_bl.mp rd,h2 _ F' H' (g1.trans (g2.trans g3)) hd]
 .exact hd.elim
def eo[Jx](ha:WDE X a ta)(hb:WDE X b tb):WDT X (.Compare a [.Lt] [b] pos) (dTst (dOp rdLt ta tb)):=#[have ha:=ha.out;have hb:=hb.out;dI qv rG ha hb (nomark _)]
def yq[Jx](ha:WDE X a ta)(hb:WDE X b tb):WDT X (.Compare a [.LtE] [b] pos) (dTst (dOp rdLe ta tb)):=#[have ha:=ha.out;have hb:=hb.out;dI wJ yk ha hb (nomark _)]
def rQ[Jx](ha:WDE X a ta)(hb:WDE X b tb):WDT X (.Compare a [.Gt] [b] pos) (dTst (dOp rdGt ta tb)):=#[have ha:=ha.out;have hb:=hb.out;dI qw rH ha hb (nomark _)]
def rR[Jx](ha:WDE X a ta)(hb:WDE X b tb):WDT X (.Compare a [.GtE] [b] pos) (dTst (dOp rdGe ta tb)):=#[have ha:=ha.out;have hb:=hb.out;dI wK yl ha hb (nomark _)]
def bz[Jx](ha:WDE X a ta)(hb:WDE X b tb):WDT X (.Compare a [.Eq] [b] pos) (dTst (dOp rdEq ta tb)):=#[have ha:=ha.out;have hb:=hb.out;dI jH jY ha hb (nomark _)]
def cr[Jx](ha:WDE X a ta)(hb:WDE X b tb):WDT X (.Compare a [.NotEq] [b] pos) (dTst (dOp rdNe ta tb)):=#[have ha:=ha.out;have hb:=hb.out;dI qu rJ ha hb (nomark _)]
def rS[Jx](ha:WDE X a ta)(hb:WDE X b tb):WDT X (.Compare a [.Is] [b] pos) (dTst (dOp (rdIs id) ta tb)):=#[have ha:=ha.out;have hb:=hb.out;dI qy rL ha hb (nomark _)]
def dTru(t:TD):TDT:=λz R=>t z λx=>match x with
 |.non=>R false
 |.bl k=>R k
 |.int i=>R (i !=0)
 |.str y=>y.length<=1000/\R ((y.length:Int) !=0)
 |.tup xs=>R (!xs.isEmpty)
 |.lst xs=>R (!xs.isEmpty)
 |.rol xs=>R (!xs.isEmpty)
 |_=>False
variable{K:Ex}
def Reps.isEmpty{H:Hp}{ds:List D}{vs:List V}(r:Reps K H ds vs):vs.isEmpty=ds.isEmpty:=by
 cases ds with
 |nil=>rw[reps_nil.mp r];rfl
 |cons d ds=>obtain⟨v,r',rfl,_⟩:=reps_cons.mp r;rfl
def cG[Jx](ha:WDE X a ta)(he:autoParam (∀fI,isTrue a X.env fI=(do let v <-fI;S5 a.pos;SG [v] (truthy v))) zA2):WDT X a (dTru ta):=⟨have ha:=ha.out;(qA ha he).anti λs H Q q=>by
 obtain⟨B,F,z,kf,rs,R,h1,h2⟩:=q;have fh:=kf.fh;refine#[B,F,z,kf,rs,_,h1,λx u F1 H1 g1 hx rx=>?_];split at hx
 .rw[rep_non.mp rx];exact#[false,rfl,h2 _ F1 H1 g1 hx]
 .rw[rep_bl.mp rx];exact#[_,rfl,h2 _ F1 H1 g1 hx]
 .rw[rep_int.mp rx];exact#[_,rfl,h2 _ F1 H1 g1 hx]
 .rw[rep_str.mp rx];exact#[_,#[sz hx.1,rfl],h2 _ F1 H1 g1 hx.2]
 .obtain⟨p,vs,rfl,hq,rr⟩:=rep_tup_mp rx;exact#[_,.inr (.inl #[vs,g1.fh.tup hq,by rw[rr.isEmpty]]),h2 _ F1 H1 g1 hx]
 .obtain⟨p,vs,rfl,hq,rr⟩:=rep_lst.mp rx;exact#[_,.inl #[vs,g1.fh.seq (SqL.of hq),by rw[rr.isEmpty]],h2 _ F1 H1 g1 hx]
 .obtain⟨p,vs,rfl,hq,rr⟩:=rep_rol.mp rx;exact#[_,.inl #[vs,g1.fh.seq hq,by rw[rr.isEmpty]],h2 _ F1 H1 g1 hx]
 .exact hx.elim⟩
variable {tA z_:TDT}{b7:List P3}
def dAnd(t u:TDT):TDT:=λz R=>t z λc=>if c=true then u z R else R false
def dOr(t u:TDT):TDT:=λz R=>t z λc=>if c=true then R true else u z R
def dNot(t:TDT):TDT:=λz R=>t z λc=>R (!c)
def yr[Jx](ha:WDT X a tA):WDW X (.BoolOp .And [a] pos) tA:=#[have ha:=ha.out;qc ha]
def fJ[Jx](ha:WDT X a tA):WDW X (.BoolOp .Or [a] pos) tA:=#[have ha:=ha.out;qd ha]
def yt[Jx](ha:WDT X a tA)(hb:WDW X (.BoolOp .And (b::b7) pos) z_):WDW X (.BoolOp .And (a::b::b7) pos) (dAnd tA z_):=⟨have ha:=ha.out;have hb:=hb.out;(qe ha hb).anti λs H Q q=>by
 obtain⟨B,F,z,kf,rs,R,h1,h2⟩:=q;have fh:=kf.fh;refine#[B,F,z,kf,rs,_,h1,λk F1 H1 g1 hx=>?_];cases k with
 |true=>exact#[B,F1,z,kf.grow g1,rs.grow g1,R,hx,λb F' H' g=>h2 b F' H' (g1.trans g)]
 |false=>exact h2 _ F1 H1 g1 hx⟩
def fK[Jx](ha:WDT X a tA)(hb:WDW X (.BoolOp .Or (b::b7) pos) z_):WDW X (.BoolOp .Or (a::b::b7) pos) (dOr tA z_):=⟨have ha:=ha.out;have hb:=hb.out;(qf ha hb).anti λs H Q q=>by
 obtain⟨B,F,z,kf,rs,R,h1,h2⟩:=q;have fh:=kf.fh;refine#[B,F,z,kf,rs,_,h1,λk F1 H1 g1 hx=>?_];cases k with
 |false=>exact#[B,F1,z,kf.grow g1,rs.grow g1,R,hx,λb F' H' g=>h2 b F' H' (g1.trans g)]
 |true=>exact h2 _ F1 H1 g1 hx⟩
def eA[Jx](h:WDW X a tA):WDT X a tA:=#[have h:=h.out;PW.pt h]
def eB[Jx](ha:WDT X a tA):WDT X (.UnaryOp .Not a pos) (dNot tA):=⟨have ha:=ha.out;(qg ha).anti λs H Q q=>by
 obtain⟨B,F,z,kf,rs,R,h1,h2⟩:=q;have fh:=kf.fh;exact#[B,F,z,kf,rs,_,h1,λk F1 H1 g1 hx=>h2 _ F1 H1 g1 hx]⟩
def yu(ta tb:TD):TD:=λz R=>ta z λx=>match x with|.bl k=>if k=true then tb z R else R (.bl false)|_=>False
def yw(ta:TD):TD:=λz R=>ta z λx=>match x with|.bl k=>R (.bl (!k))|_=>False
def fL[Jx]{op}(h:WDE X a ta):WDE X (.BoolOp op [a] pos) ta:=#[have h:=h.out;vZ h]
def fM[Jx](ha:WDE X a ta)(hb:WDE X (.BoolOp .And (b::b7) pos) tb):WDE X (.BoolOp .And (a::b::b7) pos) (yu ta tb):=⟨have ha:=ha.out;have hb:=hb.out;(wa ha hb).anti λs H Q q=>by
 obtain⟨B,F,z,kf,rs,R,h1,h2⟩:=q;have fh:=kf.fh;refine#[B,F,z,kf,rs,_,h1,λx u F1 H1 g1 hx rx=>?_];split at hx
 .rename_i k;refine#[k,rep_bl.mp rx,?_];cases k with
  |true=>exact#[B,F1,z,kf.grow g1,rs.grow g1,R,hx,λd v F' H' g=>h2 d v F' H' (g1.trans g)]
  |false=>exact h2 _ _ F1 H1 g1 hx (rep_bl.mpr rfl)
 .exact hx.elim⟩
def rT[Jx](ha:WDE X a ta):WDE X (.UnaryOp .Not a pos) (yw ta):=⟨have ha:=ha.out;(wc ha).anti λs H Q q=>by
 obtain⟨B,F,z,kf,rs,R,h1,h2⟩:=q;have fh:=kf.fh;refine#[B,F,z,kf,rs,_,h1,λx u F1 H1 g1 hx rx=>?_];split at hx
 .exact#[_,rep_bl.mp rx,h2 _ _ F1 H1 g1 hx (rep_bl.mpr rfl)]
 .exact hx.elim⟩
def tyD:D->String
 |.non=>"NoneType"|.bl _=>"bool"|.int _=>"int"|.str _=>"str"|.tup _=>"tuple"|.lst _=>"list"|.rol _=>"list"|.obj _ _=>"object"|.exc _ _=>"object"|.own _=>"list"|.ptr _=>"object"|.dti _=>"dict"
def cH(t:String)(x:D):Bool:=tyD x==t||(tyD x=="bool" && t=="int")
def TyQ(K:Ex)(H:Hp)(x:V)(t:String):Prop:=TyOf K H x (.type t)\/(t="tuple"/\∃a xs,x=.ref a/\SqT K H a xs)\/(t="list"/\∃a xs,x=.ref a/\SqL K H a xs)
def rV:bA X (.builtin "isinstance") (λxs H Q=>∃x t c k,xs=[x,.ty c]/\TyQ X.K H x t/\kitOne X.K (.type t) (.type c)=be k/\Q (.bl k) H):=by
 intro pins s σ H xs us Q I r h;obtain⟨x,t,c,k,rfl,ty,e,q⟩:=h;obtain⟨u,u',rfl,rx,rc⟩:=dX r;cases(show u'=Value.type c from rc);rcases ty with ty|⟨rfl,a,ys,rfl,hq⟩|⟨rfl,a,ys,rfl,hq⟩
 .exact xf I rx ty e λtk=>#[.bl k,H,I.tok _,rfl,q]
 .cases(show u=Value.ref a from rx);obtain⟨its,_,⟨o,h1,h2,_⟩,_⟩:=I.tuple hq;exact kia_one kitx_tuple I.kIn #[o,h1,h2] e (λz=>nomatch z) λtk=>#[.bl k,H,I.tok _,rfl,q]
 .cases(show u=Value.ref a from rx);obtain⟨its,_,pl,_⟩:=I.list hq;obtain⟨o,n,h1,h2,_⟩:=pl;exact kia_one kitx_list I.kIn #[o,h1,h2] e (λz=>nomatch z) λtk=>#[.bl k,H,I.tok _,rfl,q]
def cI:D->Bool|.obj _ _=>false|.exc _ _=>false|.ptr _=>false|.dti _=>false|_=>true
def rW{F H:Hp}{x:D}{u:V}(fh:Same F H)(r:Rep K F x u)(no:cI x=true):TyQ K H u (tyD x):=by
 cases x with
 |non=>rw[rep_non.mp r];exact .inl .non
 |bl b=>rw[rep_bl.mp r];exact .inl (.bl b)
 |int b=>rw[rep_int.mp r];exact .inl (.int b)
 |str b=>rw[rep_str.mp r];exact .inl (.str b)
 |tup b=>obtain⟨a,vs,rfl,hq,_⟩:=rep_tup_mp r;exact .inr (.inl #[rfl,a,vs,rfl,fh.tup hq])
 |lst b=>obtain⟨a,vs,rfl,hq,_⟩:=rep_lst.mp r;exact .inr (.inr #[rfl,a,vs,rfl,fh.seq (SqL.of hq)])
 |rol b=>obtain⟨a,vs,rfl,hq,_⟩:=rep_rol.mp r;exact .inr (.inr #[rfl,a,vs,rfl,fh.seq hq])
 |obj C b=>cases no
 |exc C b=>cases no
 |ptr b=>cases no
 |dti b=>cases no
 |own b=>exact absurd r rep_own
def kd(t:String):D->(D->Prop)->Prop:=λx R=>match x with|.obj _ _=>False|.exc _ _=>False|.ptr _=>False|.dti _=>False|x=>R (.bl (cH t x))
def fN[Jx]{p p2:Sr}{y:C_}{t:String}(hm:X.mg "isinstance"=q8)(Lu:X.mg y=q8)(ha:WDE X a ta)(hv:Sw y=be (.type t))
  (hk:∀x:D,cI x=true->kitOne X.K (.type (tyD x)) (.type t)=be (cH t x)) (hg:autoParam (Gl X "isinstance") zA0) (Kt:autoParam (Gl X y) zA0) (hn:autoParam (y≠"__name__") zA1) (d8:autoParam (zND y) zA1)
  (g5:autoParam (Si [a,.Name y p2] X.env=(false,So a X.env)::Si [.Name y p2] X.env) zA0) (g7:autoParam (Si [.Name y p2] X.env=(false,So (.Name y p2) X.env)::Si [] X.env) zA0) (c_:autoParam ((SZ pos (Si [.Name y p2] X.env)).any (·.1)=false) zA0):WDE X (.Call (.Name "isinstance" p) [a,.Name y p2] [] pos) (dUn (kd t) ta):=⟨have ha:=ha.out;(dY rV hg hm PyProof.Rows.boot_isinstance (bf ha (bf (jx (v:=.ty t) Kt Lu hv rfl hn d8) pa_nil g7) g5) Ku Ku g5 c_).anti λs H Q q=>by
 obtain⟨B,F,z,kf,rs,R,h1,h2⟩:=q;have fh:=kf.fh;refine#[B,F,z,kf,rs,_,h1,λx u F1 H1 g1 hx rx=>?_];have no:cI x=true:=by
  cases x with
  |obj C b=>exact False.elim hx
  |exc C b=>exact False.elim hx
  |ptr b=>exact False.elim hx
  |dti b=>exact False.elim hx
  |_=>rfl
 have gt:R (.bl (cH t x)):=by
  cases x with
  |obj C b=>exact False.elim hx
  |exc C b=>exact False.elim hx
  |ptr b=>exact False.elim hx
  |dti b=>exact False.elim hx
  |_=>exact hx
 exact#[u,tyD x,t,_,rfl,rW g1.fh rx no,hk x no,h2 _ _ F1 H1 g1 gt (rep_bl.mpr rfl)]⟩
def yx:∀x:D,cI x=true->kitOne K (.type (tyD x)) (.type "int")=be (cH "int" x):=by intro x no;cases x<;>first|rfl|cases no
def kit_bool:∀x:D,cI x=true->kitOne K (.type (tyD x)) (.type "bool")=be (cH "bool" x):=by intro x no;cases x<;>first|rfl|cases no
def kit_list:∀x:D,cI x=true->kitOne K (.type (tyD x)) (.type "list")=be (cH "list" x):=by intro x no;cases x<;>first|rfl|cases no
def kit_str:∀x:D,cI x=true->kitOne K (.type (tyD x)) (.type "str")=be (cH "str" x):=by intro x no;cases x<;>first|rfl|cases no
def toV:D->Option V
 |.non=>be .non|.bl b=>be (.bl b)|.int i=>be (.int i)|.str x=>be (.str x)|_=>q8
def bo(d:D):Bool:=(toV d).isSome
def eqF:D->D->Bool
 |.non,.non=>true
 |.bl a,.bl b=>a==b
 |.bl a,.int b=>(if a then 1 else 0)==b
 |.int a,.bl b=>a==(if b then 1 else 0)
 |.int a,.int b=>a==b
 |.str a,.str b=>a==b
 |_,_=>false
end
section
variable {X:Cx}{a b:P3}{ta tb:TD}{pos:Sr}
def ke{K:Ex}{H:Hp}{x y:D}{u v:V}(rx:Rep K H x u)(ry:Rep K H y v)(fx:bo x=true)(fy:bo y=true):eqV u v=eqF x y:=by
 cases x with
 |tup _=>cases fx
 |lst _=>cases fx
 |rol _=>cases fx
 |obj _ _=>cases fx
 |exc _ _=>cases fx
 |ptr _=>cases fx
 |dti _=>cases fx
 |own _=>cases fx
 |non=>rw[rep_non.mp rx];cases y with
  |tup _=>cases fy
  |lst _=>cases fy
  |rol _=>cases fy
  |obj _ _=>cases fy
  |exc _ _=>cases fy
  |ptr _=>cases fy
  |dti _=>cases fy
  |own _=>cases fy
  |non=>rw[rep_non.mp ry];rfl
  |bl _=>rw[rep_bl.mp ry];rfl
  |int _=>rw[rep_int.mp ry];rfl
  |str _=>rw[rep_str.mp ry];rfl
 |bl _=>rw[rep_bl.mp rx];cases y with
  |tup _=>cases fy
  |lst _=>cases fy
  |rol _=>cases fy
  |obj _ _=>cases fy
  |exc _ _=>cases fy
  |ptr _=>cases fy
  |dti _=>cases fy
  |own _=>cases fy
  |non=>rw[rep_non.mp ry];rfl
  |bl _=>rw[rep_bl.mp ry];rfl
  |int _=>rw[rep_int.mp ry];rfl
  |str _=>rw[rep_str.mp ry];rfl
 |int _=>rw[rep_int.mp rx];cases y with
  |tup _=>cases fy
  |lst _=>cases fy
  |rol _=>cases fy
  |obj _ _=>cases fy
  |exc _ _=>cases fy
  |ptr _=>cases fy
  |dti _=>cases fy
  |own _=>cases fy
  |non=>rw[rep_non.mp ry];rfl
  |bl _=>rw[rep_bl.mp ry];rfl
  |int _=>rw[rep_int.mp ry];rfl
  |str _=>rw[rep_str.mp ry];rfl
 |str _=>rw[rep_str.mp rx];cases y with
  |tup _=>cases fy
  |lst _=>cases fy
  |rol _=>cases fy
  |obj _ _=>cases fy
  |exc _ _=>cases fy
  |ptr _=>cases fy
  |dti _=>cases fy
  |own _=>cases fy
  |non=>rw[rep_non.mp ry];rfl
  |bl _=>rw[rep_bl.mp ry];rfl
  |int _=>rw[rep_int.mp ry];rfl
  |str _=>rw[rep_str.mp ry];rfl
def eE{K:Ex}{H:Hp}{x:D}{u:V}(rx:Rep K H x u)(fx:bo x=true):bB u=true:=by
 cases x with
 |tup _=>cases fx
 |lst _=>cases fx
 |rol _=>cases fx
 |obj _ _=>cases fx
 |exc _ _=>cases fx
 |ptr _=>cases fx
 |dti _=>cases fx
 |own _=>cases fx
 |non=>rw[rep_non.mp rx];rfl
 |bl _=>rw[rep_bl.mp rx];rfl
 |int _=>rw[rep_int.mp rx];rfl
 |str _=>rw[rep_str.mp rx];rfl
def eF{K:Ex}{H:Hp}:∀{xs:List D} {us:List V},Reps K H xs us->xs.all bo=true->us.all bB=true
 |[],us,r,_=>by rw[reps_nil.mp r];rfl
 |x::xs,us,r,f=>by
  obtain⟨v,vr,rfl,r1,r2⟩:=reps_cons.mp r;rw[G3,GF]at f ⊢;exact#[eE r1 f.1,eF r2 f.2]
end
section
variable {X:Cx}{a b c e:P3}{ta tb tc te:TD}{pos:Sr}{st:Se}{b7:List Se}{t u:TSD}
def yy:TSD:=λE z=>E.nx z
def dSeq(t u:TSD):TSD:=λE z=>t {E with nx:=u E} z
def bj[Jx]:WDSs X [] yy:=⟨pss_nil.anti λE s H q=>by
 obtain⟨B,F0,F,z,k,rs,ED,h,e⟩:=q;exact e.nx z s F H k h rs⟩
def ai[Jx](h1:WDS X st t)(h2:WDSs X b7 u):WDSs X (st::b7) (dSeq t u):=⟨have h1:=h1.out;have h2:=h2.out;(gy h1 h2).anti λE s H q=>by
 obtain⟨B,F0,F,z,k,rs,ED,h,e⟩:=q;exact#[B,F0,F,z,k,rs,{ED with nx:=u ED},h,#[λz' s' F' H' k' hz r'=>#[B,F0,F',z',k',r',ED,hz,e],e.rt,e.bk,e.ct]]⟩
def ar[Jx](h1:WDS X st t):WDSs X [st] t:=#[have h1:=h1.out;jy h1]
def dFrz(i:Nat)(t:TSD):TSD:=λE z=>match z[i]? with|some (be (.own ds))=>t E (z.set i (be (.lst ds)))|_=>False
def eI[Jx](i:Nat){Lv:List Se}(h:WDSs X Lv t):WDSs X Lv (dFrz i t):=⟨have h:=h.out;PSs.anti h λE s H q=>by
 obtain⟨B,F0,F,z,k,rs,ED,h,e⟩:=q;unfold dFrz at h;split at h
 .rename_i ds ez;obtain⟨F',k',r'⟩:=rs.freeze k ez;exact#[B,F0,F',_,k',r',ED,h,e]
 .exact h.elim⟩
def dRet(te:TD):TSD:=λE z=>te z E.rt
def aE[Jx](he:WDE X e te):WDS X (.Return (be e) pos) (dRet te):=⟨have he:=he.out;(jA he).anti λE s H q=>by
 obtain⟨B,F0,F,z,k,rs,ED,h,e⟩:=q;exact#[B,F,z,k.kf,rs,_,h,λd v F' H' g hd rd=>e.rt d v F' H' (k.grow g) hd rd]⟩
def yz(te:TD):TSD:=λE z=>te z λ_=>E.nx z
def rX[Jx](he:WDE X e te)(hs:autoParam (SA e q8 pos.line X.env=pure false) zA0):WDS X (.Expr e pos) (yz te):=⟨have he:=he.out;(jz he hs).anti λE s H q=>by
 obtain⟨B,F0,F,z,k,rs,ED,h,e⟩:=q;exact#[B,F,z,k.kf,rs,_,h,λd v F' H' g hd rd=>e.nx z s F' H' (k.grow g) hd (rs.grow g)]⟩
def dIfS(c:TDT)(t u:TSD):TSD:=λE z=>c z λb=>if b=true then t E z else u E z
variable{l r:List Se}
def rY[Jx]{c:P3}{tc:TDT}(hc:DT X c tc)(ha:DSs X l t)(hb:DSs X r u):DS X (.If c l r pos) (dIfS tc t u):=(qh hc ha hb).anti λE s H q=>by
 obtain⟨B,F0,F,z,k,rs,ED,h,e⟩:=q;refine#[B,F,z,k.kf,rs,_,h,λb F1 H1 g hk=>?_];cases b with
 |true=>exact#[B,F0,F1,z,k.grow g,rs.grow g,ED,hk,e]
 |false=>exact#[B,F0,F1,z,k.grow g,rs.grow g,ED,hk,e]
def dIfJ(c:TDT)(t u:TSD):TSD:=λE z=>∃J:SD->Prop,(c z λb=>if b=true then t {E with nx:=J} z else u {E with nx:=J} z)/\∀z',J z'->E.nx z'
def fO[Jx]{c:P3}{tc:TDT}(hc:WDT X c tc)(ha:WDSs X l t)(hb:WDSs X r u):WDS X (.If c l r pos) (dIfJ tc t u):=⟨have hc:=hc.out;have ha:=ha.out;have hb:=hb.out;(rY hc ha hb).anti λE s H q=>by
 obtain⟨B,F0,F,z,k,rs,ED,⟨J,h,j⟩,e⟩:=q;exact#[B,F0,F,z,k,rs,{ED with nx:=J},h,#[λz' s' F' H' k' hz r'=>e.nx z' s' F' H' k' (j z' hz) r',e.rt,e.bk,e.ct]]⟩
def dSet(i:Nat)(te:TD):TSD:=λE z=>∃P:D->Prop,te z P/\∀d,P d->E.nx (z.set i (be d))
variable{x:C_}
def am[Jx](i:Nat){e8:Sr}(hN:X.N.Nodup)(he:WDE X e te)(hi:autoParam (X.N[i]?=be x) zA0)(hx:autoParam (Loc X.env.scope x) zA4)(hs:autoParam (SA e (be (.Name x e8)) pos.line X.env=pure false) zA0)
  (hf:autoParam (zFN X x) zA3):WDS X (.Assign [.Name x e8] e pos) (dSet i te):=⟨have he:=he.out;(jB hN hi hx he hs hf).anti λE s H q=>by
 obtain⟨B,F0,F,z,k,rs,ED,⟨P,h,j⟩,e⟩:=q;exact#[B,F,z,k.kf,rs,P,h,λd v F' H' g hd rd=>e.nx _ _ F' H' (k.grow g) (j d hd) ((rs.grow g).set rd)]⟩
def dNew(i:Nat)(ta:TDA):TSD:=λE z=>ta z λds=>ds.length<=1000/\E.nx (z.set i (be (.own ds)))
variable{es:List P3}
def fP[Jx](i:Nat){e8 p2:Sr}{ta:TDA}(hN:X.N.Nodup)(he:WDA X es ta)(hi:autoParam (X.N[i]?=be x) zA0)(hx:autoParam (Loc X.env.scope x) zA4)(hs:autoParam (SA (.List es p2) (be (.Name x e8)) pos.line X.env=pure false) zA0)
  (hf:autoParam (zFN X x) zA3):WDS X (.Assign [.Name x e8] (.List es p2) pos) (dNew i ta):=⟨have he:=he.out;(jB hN hi hx (gE he) hs hf).anti λE s H q=>by
 obtain⟨B,F0,F,z,k,rs,ED,h,e⟩:=q;refine#[B,F,z,k.kf,rs,_,h,λds vs F1 H1 g hd rd=>?_];have hl:=rd.length;refine#[sz (by rw[hl];exact hd.1),λp hp=>?_];have k1:=k.grow g;have r1:=rs.grow g;have hB:B p=none:=k1.bh.free hp;have hF:F1 p=none:=k1.fh.free hp;refine e.nx _ _ F1 _ #[k1.bh.trans (aP hp _),k1.fh.trans (aP hp _),k1.f0,k1.out,k1.eb,k1.jf,k1.jo] hd.2 (r1.setOwn hB hF rd λj dj hj e1 e2=>?_);obtain⟨a,us,q1,q2,_⟩:=r1.own j dj e1;rw[e2]at q1;cases q1;rw[hp]at q2;cases q2⟩
def dApp(i:Nat)(te:TD):TSD:=λE z=>match z[i]? with|some (be (.own ds))=>(te z λd=>ds.length<=100000/\E.nx (z.set i (be (.own (ds++[d])))))|_=>False
def eJ{K:Ex}{F:Hp}{d:D}{v:V}(r:Rep K F d v):Reps K F [d] [v]:=reps_cons.mpr #[v,[],rfl,r,reps_nil.mpr rfl]
def fQ[Jx](i:Nat){p1 b_ a8:Sr}(he:WDE X e te)(hN:autoParam (X.N[i]?=be x) zA0)(hv:autoParam (Vis X.env.scope x) zA5)(hd:autoParam (zND x) zA1)
  (gV:autoParam (zNC x) zA1) (g5:autoParam (zSE X e []) zA0)
  (b9:autoParam (Sn (.Name x p1) "append" X.env (So (.Name x p1) X.env)=So (.Name x p1) X.env) zA0)
  (d7:autoParam (zHF X a8 [e]) zA0)
  (c7:autoParam ((b_.endLine==a8.line)=true) zA0) (I_:autoParam (SA (.Call (.Attribute (.Name x p1) "append" b_) [e] [] a8) q8 pos.line X.env=pure false) zA0):WDS X (.Expr (.Call (.Attribute (.Name x p1) "append" b_) [e] [] a8) pos) (dApp i te):=⟨have he:=he.out;(jz (cO PySem.F.plainAttrs_list PySem.F.slot_list_append PySem.F.type_list_append jQ (dB hN hv hd gV) (bf he pa_nil g5) b9 d7 c7 g5) I_).anti λE s H q=>by
 obtain⟨B,F0,F,z,k,rs,ED,h,e⟩:=q;unfold dApp at h;split at h
 .rename_i ds ez;obtain⟨a,vs,q1,q2,q3,q4,q5⟩:=rs.own i ds ez;refine#[.ref a,q1,.inl #[rfl,vs,SqL.of q2],?_];refine#[B,F,z,k.kf,rs,_,h,λd v F1 H1 g hd rd=>?_];have k1:=k.grow g;have r1:=rs.grow g;have a1:H1 a=be (.lst vs):=g.hh a _ q2;have f1:F1 a=none:=g.out a q4 (by rw[q2];exact λz=>nomatch z);have hl:vs.length=ds.length:=q5.length;have hz:vs.length<sizeLine:=by
   have h1:ds.length<=100000:=hd.1;have h2:(100000:Nat)<sizeLine:=Ku
   lia
  refine#[a,vs,v,rfl,rfl,a1,hz,?_];have same:∀{G:Hp},G a=q8->Same G H1->Same G (upd H1 a (.lst (vs++[v]))):=λ{G} ga gs b o eb=>by
   have ne:b≠a:=λz=>by rw[z,ga]at eb;cases eb
   rw[au ne];exact gs b o eb
  have r2:=r1.setOwn (i:=i) (a:=a) (vs:=vs++[v]) (ds:=ds++[d]) q3 f1 ((q5.mono g.ff).append (eJ rd)) (λj dj hj e1 e2=>hj (rs.apart j i dj ds a e1 ez e2 q1));have es:s.set i (be (.ref a))=s:=by
   apply Hq;intro n;by_cases hn:i=n
   .subst hn;rw[GU (Gq.mp q1).1,q1]
   .rw[Gs hn]
  rw[es]at r2;exact e.nx _ s F1 _ #[same q3 k1.bh,same f1 k1.fh,k1.f0,k1.out,k1.eb,k1.jf,k1.jo] hd.2 r2
 .exact h.elim⟩
def aT:List Nat->List D->SD->SD
 |i::is,d::ds,z=>aT is ds (z.set i (be d))
 |_,_,z=>z
def DGs(X:Cx)(ts:List P3)(is:List Nat):Prop:=∃u:TGs,PGs X ts u/\∀(ds:List D) (vs:List V) (z:SD) (s:L2.St) (B F H:Hp) (Q:L2.St->Hp->Prop),ds.length=is.length->Reps X.K F ds vs->RepS X.K B F H z s->(∀s',RepS X.K B F H (aT is ds z) s'->Q s' H)->u vs s H Q
def eK[Jx]:DGs X [] []:=⟨_,wm,λds vs z s B F H Q hl r rs q=>by
 cases ds with
 |nil=>exact#[reps_nil.mp r,q s rs]
 |cons _ _=>cases hl⟩
variable{p:Sr}{is:List Nat}
def dg_cons[Jx](i:Nat)(hN:X.N.Nodup)(h2:DGs X es is)(hi:autoParam (X.N[i]?=be x) zA0)(hx:autoParam (Loc X.env.scope x) zA4)(hf:autoParam (zFN X x) zA3)
  (hs:autoParam ((Sm (.Name x p::es) X.env).map (·.2)=SS (.Name x p) X.env::(Sm es X.env).map (·.2)) zA0):DGs X (.Name x p::es) (i::is):=by
 obtain⟨u,hu,k⟩:=h2;refine#[_,wn (dE hN hi hx hf) hu hs,λds vs z s B F H Q hl r rs q=>?_];cases ds with
 |nil=>cases hl
 |cons d ds=>
  obtain⟨v,vr,rfl,r1,r2⟩:=reps_cons.mp r;exact#[v,vr,rfl,k ds vr _ _ B F H Q (Nat.succ.inj hl) r2 (rs.set r1) q]
def yB(is:List Nat)(te:TD):TSD:=λE z=>te z λx=>match x with|.tup ds=>ds.length=is.length/\E.nx (aT is ds z)|_=>False
def rZ[Jx]{k:Nat}(hc:X.calm=true)(he:WDE X e te)(hg:DGs X es is)(hn:autoParam ((Sm es X.env).length=is.length) zA0)(l5:autoParam ((Sm es X.env).findIdx? (·.1)=none) zA0)
  (hs:autoParam (SM [.Tuple es k p] e pos.line X.env=pure false) zA0) (hw:autoParam (SN [.Tuple es k p] e X.env=pure none) zA0) (h1:autoParam ((Sm [.Tuple es k p] X.env).map (·.2)=[SS (.Tuple es k p) X.env]) zA0):WDS X (.Assign [.Tuple es k p] e pos) (yB is te):=⟨by
 have he:=he.out;obtain⟨u,hu,kk⟩:=hg;refine(gA he (gz hc hu hn l5) hs hw h1).anti λE s H q=>?_;obtain⟨B,F0,F,z,k,rs,ED,h,e⟩:=q;refine#[B,F,z,k.kf,rs,_,h,λd v F' H' g hd rd=>?_];split at hd
 .obtain⟨p,vs,rfl,hq,rr⟩:=rep_tup_mp rd;exact#[p,vs,rfl,g.fh.tup hq,by rw[rr.length];exact hd.1,kk _ vs z s B F' H' _ hd.1 rr (rs.grow g) λs' r'=>e.nx _ _ F' H' (k.grow g) hd.2 r']
 .exact hd.elim⟩
def dPar(i j:Nat)(ta:TDA):TSD:=λE z=>ta z λds=>match ds with|[x,y]=>E.nx ((z.set i (be x)).set j (be y))|_=>False
def yD[Jx](i j:Nat){y:C_}{t:TDA}{px py pt:Sr}{kt k2 Km}(hc:X.calm=true)(hN:X.N.Nodup)(ha:WDA X [a,b] t)(hi:autoParam (X.N[i]?=be x) zA0)(hj:autoParam (X.N[j]?=be y) zA0)(M5:autoParam (i≠j) zA1)
  (hx:autoParam (X.env.scope.names.lookup x=be .local) zA0) (hy:autoParam (X.env.scope.names.lookup y=be .local) zA0)
  (hw:autoParam (SN [.Tuple [.Name x px,.Name y py] kt pt] (.Tuple [a,b] k2 Km) X.env=pure (be [x,y])) zA0)
  (hs:autoParam (SM [.Tuple [.Name x px,.Name y py] kt pt] (.Tuple [a,b] k2 Km) pos.line X.env=pure false) zA0):WDS X (.Assign [.Tuple [.Name x px,.Name y py] kt pt] (.Tuple [a,b] k2 Km) pos) (dPar i j t):=⟨have ha:=ha.out;(wo hc hN hi hj M5 hx hy ha hw hs).anti λE s H q=>by
 obtain⟨B,F0,F,z,k,rs,ED,h,e⟩:=q;refine#[B,F,z,k.kf,rs,_,h,λds vs F' H' g hd rd=>?_];split at hd
 .obtain⟨v,r,rfl,r1,r2⟩:=reps_cons.mp rd;obtain⟨w,r,rfl,r3,r4⟩:=reps_cons.mp r2;rw[reps_nil.mp r4];exact#[v,w,rfl,e.nx _ _ F' H' (k.grow g) hd (((rs.grow g).set r1).set r3)]
 .exact hd.elim⟩
def yF(c:TDT)(tb:TSD):TSD:=λE z=>∃W:Nat->SD->Prop,(∃m,W m z)/\∀m z,W m z->
 c z λb=>if b=true then tb {E with nx:=λz'=>∃m',m'<m/\W m' z',ct:=λz'=>∃m',m'<m/\W m' z',bk:=E.nx} z else E.nx z
variable{body:List Se}
def fR[Jx]{c:P3}{tc:TDT}{tb:TSD}(hp:SB (Sf X.prog X.w) X.A X.env X.xe)(hc:WDT X c tc)(hb:WDSs X body tb):WDS X (.While c body [] pos) (yF tc tb):=⟨have hc:=hc.out;have hb:=hb.out;(qj hp hc hb).anti λE s H q=>by
 obtain⟨B,F0,F,z,k,rs,ED,⟨W,⟨m0,w0⟩,c9⟩,e⟩:=q;refine#[λm s' H'=>∃F' z',Kept B F0 F' H'/\RepS X.K B F' H' z' s'/\W m z',#[m0,F,z,k,rs,w0],?_];rintro m s1 H1⟨F1,z1,k1,r1,w1⟩;refine#[B,F1,z1,k1.kf,r1,_,c9 m z1 w1,λb F2 H2 g2 hk=>?_];cases b with
 |true=>
  refine#[λs3 H3=>∃F3 z3,Kept B F0 F3 H3/\RepS X.K B F3 H3 z3 s3/\∃m',m'<m/\W m' z3,λs3 H3 ⟨F3,z3,k3,r3,m',l,w3⟩=>#[m',l,F3,z3,k3,r3,w3],?_];exact#[B,F0,F2,z1,k1.grow g2,r1.grow g2,_,hk,#[λz3 s3 F3 H3 k3 h3 r3=>#[F3,z3,k3,r3,h3],e.rt,e.nx,λz3 s3 F3 H3 k3 h3 r3=>#[F3,z3,k3,r3,h3]]]
 |false=>exact e.nx z1 s1 F2 H2 (k1.grow g2) hk (r1.grow g2)⟩
abbrev TDI:=SD->(List D->Prop)->Prop
def dItL(t:TD):TDI:=λz R=>t z λx=>match x with|.lst ds=>R ds|.rol ds=>R ds|_=>False
def dItR(t:TD):TDI:=λz R=>t z λx=>match x with|.int n=>(0<=n/\n<2^62)/\R ((Gj n.toNat).map λk=>D.int ((k:Nat):Int))|_=>False
def dFor(i:Nat)(ti:TDI)(tb:TSD):TSD:=λE z=>ti z λds=>∃W:Nat->SD->Prop,W 0 z/\(∀k x z,ds[k]?=be x->W k z->tb {E with nx:=W (k+1),ct:=W (k+1),bk:=E.nx} (z.set i (be x)))/\∀z,W ds.length z->E.nx z
def Reps.get'{K:Ex}{H:Hp}{ds:List D}{vs:List V}{k:Nat}{v:V}(r:Reps K H ds vs)(e:vs[k]?=be v):∃d,ds[k]?=be d/\Rep K H d v:=by
 have hk:k<ds.length:=by rw[<-r.length];exact(Gq.mp e).1
 obtain⟨u,q1,q2⟩:=r.get (GH hk);rw[e]at q1;cases q1;exact#[_,GH hk,q2]
def gL[Jx](i:Nat){tb:TSD}(hp:SB (Sf X.prog X.w) X.A X.env X.xe)(hc:X.calm=true)(hN:X.N.Nodup)(he:WDE X e te)(hb:WDSs X body tb)(hi:autoParam (X.N[i]?=be x) zA0)(hx:autoParam (Loc X.env.scope x) zA4)
  (hf:autoParam (zFN X x) zA3) (hs:autoParam (∀y,zFS X e y) zA2):WDS X (.For (.Name x p) e body [] pos) (dFor i (dItL te) tb):=⟨have he:=he.out;have hb:=hb.out;(cF hp hc (jD he) (dE hN hi hx hf) hb hs).anti λE s H q=>by
 obtain⟨B,F0,F,z,kp,rs,ED,h,e⟩:=q;refine#[B,F,z,kp.kf,rs,_,h,λd v F1 H1 g1 hd rd=>?_];split at hd
 .obtain⟨p,vs,rfl,hq,rr⟩:=rep_lst.mp rd;obtain⟨W,w0,c9,out⟩:=hd;refine#[p,rfl,#[vs,g1.fh.seq (SqL.of hq)],jE (K:=X.K) (a:=p) (xs:=vs) (λk s' H'=>∃F' z',Kept B F0 F' H'/\Same F1 F'/\RepS X.K B F' H' z' s'/\W k z') #[F1,z,kp.grow g1,Same.refl F1,rs.grow g1,w0] (λk s' H' _ ⟨F',z',k',g',r',w'⟩=>k'.fh.seq (g'.seq (SqL.of hq))) ?_ ?_]
  .rintro k y s' H' hk⟨F',z',k',g',r',w'⟩;obtain⟨d,hd,ry⟩:=rr.get' hk;refine#[B,F',F',_,#[k'.bh,k'.fh,Same.refl F',λb h1 _=>h1,k'.eb,k'.jf.trans k'.f0,λb h1 h2=>k'.out b (k'.jo b h1 h2) h2],r'.set (ry.mono g'),_,c9 k d z' hd w',?_];have up:∀{F2 H2:Hp},Kept B F' F2 H2->Kept B F0 F2 H2:=λk2=>#[k2.bh,k2.fh,k'.f0.trans k2.f0,λb h1 h2=>k2.out b (k'.out b h1 h2) h2,k'.eb,k'.jf,k'.jo];exact#[λz3 s3 F3 H3 k3 h3 r3=>#[F3,z3,up k3,g'.trans k3.f0,r3,h3],λd v F3 H3 k3=>e.rt d v F3 H3 (up k3),λz3 s3 F3 H3 k3=>e.nx z3 s3 F3 H3 (up k3),λz3 s3 F3 H3 k3 h3 r3=>#[F3,z3,up k3,g'.trans k3.f0,r3,h3]]
  .rintro s' H'⟨F',z',k',g',r',w'⟩;exact e.nx z' s' F' H' k' (out z' (by rw[<-rr.length];exact w')) r'
 .obtain⟨p,vs,rfl,hq,rr⟩:=rep_rol.mp rd;obtain⟨W,w0,c9,out⟩:=hd;refine#[p,rfl,#[vs,g1.fh.seq hq],jE (K:=X.K) (a:=p) (xs:=vs) (λk s' H'=>∃F' z',Kept B F0 F' H'/\Same F1 F'/\RepS X.K B F' H' z' s'/\W k z') #[F1,z,kp.grow g1,Same.refl F1,rs.grow g1,w0] (λk s' H' _ ⟨F',z',k',g',r',w'⟩=>k'.fh.seq (g'.seq hq)) ?_ ?_]
  .rintro k y s' H' hk⟨F',z',k',g',r',w'⟩;obtain⟨d,hd,ry⟩:=rr.get' hk;refine#[B,F',F',_,#[k'.bh,k'.fh,Same.refl F',λb h1 _=>h1,k'.eb,k'.jf.trans k'.f0,λb h1 h2=>k'.out b (k'.jo b h1 h2) h2],r'.set (ry.mono g'),_,c9 k d z' hd w',?_];have up:∀{F2 H2:Hp},Kept B F' F2 H2->Kept B F0 F2 H2:=λk2=>#[k2.bh,k2.fh,k'.f0.trans k2.f0,λb h1 h2=>k2.out b (k'.out b h1 h2) h2,k'.eb,k'.jf,k'.jo];exact#[λz3 s3 F3 H3 k3 h3 r3=>#[F3,z3,up k3,g'.trans k3.f0,r3,h3],λd v F3 H3 k3=>e.rt d v F3 H3 (up k3),λz3 s3 F3 H3 k3=>e.nx z3 s3 F3 H3 (up k3),λz3 s3 F3 H3 k3 h3 r3=>#[F3,z3,up k3,g'.trans k3.f0,r3,h3]]
  .rintro s' H'⟨F',z',k',g',r',w'⟩;exact e.nx z' s' F' H' k' (out z' (by rw[<-rr.length];exact w')) r'
 .exact hd.elim⟩
def cz[Jx](i:Nat){p1 p2:Sr}{tb:TSD}(hp:SB (Sf X.prog X.w) X.A X.env X.xe)(hc:X.calm=true)(hN:X.N.Nodup)(hm:X.mg "range"=q8)(he:WDE X e te)(hb:WDSs X body tb)(hg:autoParam (Gl X "range") zA0)(hi:autoParam (X.N[i]?=be x) zA0)(hx:autoParam (Loc X.env.scope x) zA4)
  (hf:autoParam (zFN X x) zA3) (hs:autoParam (∀y,zFS X (.Call (.Name "range" p1) [e] [] p2) y) zA2) (m7:autoParam (zSE X e []) zA0) (f7:autoParam (Si [e] X.env=[(false,So e X.env)]) zA0):WDS X (.For (.Name x p) (.Call (.Name "range" p1) [e] [] p2) body [] pos) (dFor i (dItR te) tb):=⟨have he:=he.out;have hb:=hb.out;(cF hp hc (gB hg hm (bf he pa_nil m7) f7) (dE hN hi hx hf) hb hs).anti λE s H q=>by
 obtain⟨B,F0,F,z,kp,rs,ED,h,e⟩:=q;refine#[B,F,z,kp.kf,rs,_,h,λd v F1 H1 g1 hd rd=>?_];split at hd
 .rename_i n;obtain⟨⟨b1,b2⟩,W,w0,c9,out⟩:=hd;have hl:((Gj n.toNat).map λk=>D.int ((k:Nat):Int)).length=n.toNat:=by simp
  refine#[n,by rw[rep_int.mp rd],Kn,b2,jF (lo:=0) (n:=n.toNat) (λk s' H'=>∃F' z',Kept B F0 F' H'/\RepS X.K B F' H' z' s'/\W k z') #[F1,z,kp.grow g1,rs.grow g1,w0] ?_ ?_]
  .rintro k s' H' hk⟨F',z',k',r',w'⟩;have e1:(0:Int)+(k:Int)=(k:Int):=by lia
   exact#[B,F0,F',_,k',r'.set (d:=.int (k:Int)) (rep_int.mpr (by rw[e1])),_,c9 k (.int (k:Int)) z' (by simp[hk]) w',#[λz3 s3 F3 H3 k3 h3 r3=>#[F3,z3,k3,r3,h3],e.rt,e.nx,λz3 s3 F3 H3 k3 h3 r3=>#[F3,z3,k3,r3,h3]]]
  .rintro s' H'⟨F',z',k',r',w'⟩;exact e.nx z' s' F' H' k' (out z' (by rw[hl];exact w')) r'
 .exact hd.elim⟩
end
section
variable {P:Sd}{w:Sj}{K:Ex}{mg:C_->Option KB}{base:Sl}
variable{N ps:List C_}
def _root_.L2.Fun.okD{x qual:C_}{st:Se}{f:KF}{fd:Sq}{k:Nat}{S:SpD}(T:Fun K x qual st f fd)(F:FnScope N ps (ah st))(len:∀ds R,S ds R->ds.length=ps.length)
  (a_:∀(cdv:KB) (A:Sk) (outer:List S1) (s:KM) (H:Hp) (E:XK) (J:Jx),Room k (A.deeper (Su qual (ah st) s.heap.objs.size f cdv))->
   ∃t,DSs (cxOf (Exc.CX1 P w) P w K mg base N qual (ah st) f cdv A outer s H E).nox (aJ st) t/\∀ds R,S ds R->t {nx:=λ_=>R .non,rt:=R} (startD N ds)):FnOk P w K mg base (Exc.CX1 P w) (k+1) f fd ps (lSp K S):=by
 refine Fun.okC T F (λvs H Q E h=>?_) (λcdv A outer s H vs Q E hr h=>?_)
 .obtain⟨F,ds,fh,rs,R,h,_⟩:=h;rw[rs.length];exact len ds R h
 .obtain⟨F,ds,fh,rs,R,h,q⟩:=h
  letI:Jx:=#[H,F,λ_ _ _=>False]
  obtain⟨t,ht,hq⟩:=a_ cdv A outer s H E inferInstance hr;refine#[_,ht.nox,H,F,F,startD N ds,#[Same.refl H,fh,Same.refl F,λ_ h _=>h,rfl,Same.refl F,λ_ h _=>h],dF rs,_,hq ds R h,#[λz' s' F' H' k hn _=>q _ _ F' H' #[k.f0,k.fh,k.bh,k.out] hn (rep_non.mpr rfl),λd v F' H' k hd rd=>q d v F' H' #[k.f0,k.fh,k.bh,k.out] hd rd,λ_ _ _ _ _ h _=>h.elim,λ_ _ _ _ _ h _=>h.elim]]
def Tx.okD{x:C_}{st:Se}{k:Nat}{S:SpD}(T:Tx K mg x st ps)(F:FnScope N ps (ah st))(len:∀ds R,S ds R->ds.length=ps.length)
  (a_:∀(f:KF) (cdv:KB) (A:Sk) (outer:List S1) (s:KM) (H:Hp) (E:XK) (J:Jx),Room k (A.deeper (Su x (ah st) s.heap.objs.size f cdv))->
   ∃t,DSs (cxOf (Exc.CX1 P w) P w K mg base N x (ah st) f cdv A outer s H E).nox (aJ st) t/\∀ds R,S ds R->t {nx:=λ_=>R .non,rt:=R} (startD N ds)):CalD P w K mg base (k+1) x ps S:=by
 obtain⟨f,fd,T,hb,hm⟩:=T;exact#[f,fd,T.okD F len λcdv A outer s H E J hr=>a_ f cdv A outer s H E J hr,hb,T.kp,hm]
end
def eL:SpD:=λds R=>∃ns:List Int,ds=[.rol (ns.map D.int)]/\ns.length<=63/\R (.bl true)
def yG{a:KF}{ns:List Int}(hl:ns.length<=63)(hS:SqL K H a (ns.map V.int)){E:XK}:lSp K eL [.ref a] H (λv _=>v=.bl true) E:=
 #[H,[.rol (ns.map D.int)],Same.refl H,reps_cons.mpr #[_,_,rfl,rep_rol.mpr #[a,_,rfl,hS,Reps.ints.mpr rfl],reps_nil.mpr rfl],λd=>d=.bl true,#[ns,rfl,hl,rfl],λd v F' H' _ hd rd=>by subst hd;exact rep_bl.mp rd]
section
variable {X:Cx}{a b c e:P3}{ta tb tc te:TD}{pos:Sr}
variable{p:Sr}{es:List P3}{t:TDA}
def kg[Jx]{x:C_}{T:String}{r:List V->Hp->VK->Prop}{rd:RDn}(hc:bA X (.type T) r)(L:cn X.K r rd)(hm:X.mg x=q8)(hv:Sw x=be (.type T))(ha:DA X (e::es) t)(hg:autoParam (Gl X x) zA0)(hn:autoParam (x≠"__name__") zA1)(d8:autoParam (zND x) zA1)
  (he:autoParam (zSE X e es) zA0) (c_:autoParam (zPL X pos es) zA0):DE X (.Call (.Name x p) (e::es) [] pos) (dCB rd t):=(qM hc hg hm hv ha hn d8 he c_).anti λs H Q h=>by
 obtain⟨B,F,z,kf,rs,R,h1,h2⟩:=h;have fh:=kf.fh;refine#[B,F,z,kf,rs,_,h1,λds vs F1 H1 g1 hx rx=>?_];exact L ds vs F1 H1 R Q g1.fh hx rx λd w F' H' g=>h2 d w F' H' (g1.trans g)
def rdStr:RDn:=λds R=>match ds with|[.int i]=>i.natAbs<18446744073709551616/\R (.str (toString i))|_=>False
variable{K:Ex}
def yH:cn K (λxs H Q=>∃i,xs=[.int i]/\i.natAbs.log2<1920/\Q (.str (toString i)) H) rdStr:=by
 intro ds vs F H R Q fh h rx q;unfold rdStr at h;split at h
 .obtain⟨v,r,rfl,h1,h2⟩:=reps_cons.mp rx;rw[reps_nil.mp h2,rep_int.mp h1];refine#[_,rfl,?_,q _ _ F H (Grow.refl fh) h.2 (rep_str.mpr rfl)];rename_i i;by_cases h0:i.natAbs=0
  .rw[h0];decide
  .have:=(IZ h0).mpr (show i.natAbs<2^64 from h.1);lia
 .exact h.elim
def cQ[Jx](hm:X.mg "str"=q8)(ha:WDA X [e] t)(hg:autoParam (Gl X "str") zA0)(he:autoParam (zSE X e []) zA0):WDE X (.Call (.Name "str" p) [e] [] pos) (dCB rdStr t):=#[have ha:=ha.out;kg wV yH hm PyProof.Rows.boot_str ha hg Ku Ku he]
def kh:RDn:=λds R=>kd1 ds λx=>match x with
 |.int i=>R (.int i)
 |.bl k=>R (.int (if k then 1 else 0))
 |.str x=>∃n,(PySem.intText? x=be n/\x.length<=640)/\R (.int n)
 |_=>False
def se:bA X (.type "int") (λxs H Q=>((∃i,xs=[.int i]/\Q (.int i) H)\/∃k,xs=[.bl k]/\Q (.int (if k then 1 else 0)) H)\/∃x n,xs=[.str x]/\PySem.intText? x=be n/\x.length<=640/\Q (.int n) H):=by
 intro pins s σ H xs us Q I r h;rcases h with h|⟨x,n,rfl,h1,h2,q⟩
 .exact wU pins s σ H xs us Q I r h
 .obtain⟨u,rfl,t,rfl⟩:=bY r;exact PySem.W.KIN.call_text h1 h2 #[.int n,H,I.tok _,#[_,rfl],q]
def sf:cn K (λxs H Q=>((∃i,xs=[.int i]/\Q (.int i) H)\/∃k,xs=[.bl k]/\Q (.int (if k then 1 else 0)) H)\/∃x n,xs=[.str x]/\PySem.intText? x=be n/\x.length<=640/\Q (.int n) H) kh:=by
 intro ds vs F H R Q fh h rx q;replace h:=kd1.of h;obtain⟨x,rfl,h⟩:=h;obtain⟨v,r,rfl,h1,h2⟩:=reps_cons.mp rx;rw[reps_nil.mp h2];cases x with
 |int i=>
  rw[rep_int.mp h1];exact .inl (.inl #[_,rfl,q _ _ F H (Grow.refl fh) h (rep_int.mpr rfl)])
 |bl k=>
  rw[rep_bl.mp h1];exact .inl (.inr #[_,rfl,q _ _ F H (Grow.refl fh) h (rep_int.mpr rfl)])
 |str x=>
  rw[rep_str.mp h1];obtain⟨n,⟨e1,e2⟩,h⟩:=h;exact .inr #[_,n,rfl,e1,e2,q _ _ F H (Grow.refl fh) h (rep_int.mpr rfl)]
 |_=>exact False.elim h
def gM[Jx](hm:X.mg "int"=q8)(ha:WDA X [e] t)(hg:autoParam (Gl X "int") zA0)(he:autoParam (zSE X e []) zA0):WDE X (.Call (.Name "int" p) [e] [] pos) (dCB kh t):=#[have ha:=ha.out;kg se sf hm PyProof.Rows.boot_int ha hg Ku Ku he]
def si:RDn:=λds R=>kd1 ds λx=>match x with|.lst xs=>R (.lst xs)|.tup xs=>R (.lst xs)|.rol xs=>R (.lst xs)|_=>False
def yI:cn K (λxs H Q=>∃p ys,xs=[.ref p]/\(SqL K H p ys\/SqT K H p ys)/\∀l,H l=q8->Q (.ref l) (upd H l (.lst ys))) si:=by
 intro ds vs F H R Q fh h rx q;replace h:=kd1.of h;obtain⟨x,rfl,h⟩:=h;obtain⟨v,r,rfl,h1,h2⟩:=reps_cons.mp rx;rw[reps_nil.mp h2];cases x with
 |lst xs=>
  obtain⟨a,us,rfl,hq,rs⟩:=rep_lst.mp h1;exact#[a,us,rfl,.inl (fh.seq (SqL.of hq)),λl hl=>q _ _ _ _ (Grow.new fh hl _) h (rep_lst.mpr #[l,us,rfl,aB,rs.mono (aP (fh.free hl) _)])]
 |tup xs=>
  obtain⟨a,us,rfl,hq,rs⟩:=rep_tup_mp h1;exact#[a,us,rfl,.inr (fh.tup hq),λl hl=>q _ _ _ _ (Grow.new fh hl _) h (rep_lst.mpr #[l,us,rfl,aB,rs.mono (aP (fh.free hl) _)])]
 |rol xs=>
  obtain⟨a,us,rfl,hq,rs⟩:=rep_rol.mp h1;exact#[a,us,rfl,.inl (fh.seq hq),λl hl=>q _ _ _ _ (Grow.new fh hl _) h (rep_lst.mpr #[l,us,rfl,aB,rs.mono (aP (fh.free hl) _)])]
 |_=>exact False.elim h
def yJ[Jx](hm:X.mg "list"=q8)(ha:WDA X [e] t)(hg:autoParam (Gl X "list") zA0)(he:autoParam (zSE X e []) zA0):WDE X (.Call (.Name "list" p) [e] [] pos) (dCB si t):=#[have ha:=ha.out;kg xG yI hm PyProof.Rows.boot_list ha hg Ku Ku he]
def sj:RDn:=λds R=>kd2 ds λx y=>kdI x λi=>kdI y λj=>R (.int (if j>i then j else i))
def sk:RDn:=λds R=>kd2 ds λx y=>kdI x λi=>kdI y λj=>R (.int (if j<i then j else i))
def yL:cn K (λxs H Q=>∃i j,xs=[.int i,.int j]/\Q (.int (if j>i then j else i)) H) sj:=by
 intro ds vs F H R Q fh h rx q;replace h:=kd2.of h;obtain⟨x,y,rfl,h⟩:=h;replace h:=kdI.of h;obtain⟨i,rfl,h⟩:=h;replace h:=kdI.of h;obtain⟨j,rfl,h⟩:=h;obtain⟨v,r,rfl,h1,h2⟩:=reps_cons.mp rx;obtain⟨v',r',rfl,h3,h4⟩:=reps_cons.mp h2;rw[reps_nil.mp h4,rep_int.mp h1,rep_int.mp h3];exact#[_,_,rfl,q _ _ F H (Grow.refl fh) h (rep_int.mpr rfl)]
def yM:cn K (λxs H Q=>∃i j,xs=[.int i,.int j]/\Q (.int (if j<i then j else i)) H) sk:=by
 intro ds vs F H R Q fh h rx q;replace h:=kd2.of h;obtain⟨x,y,rfl,h⟩:=h;replace h:=kdI.of h;obtain⟨i,rfl,h⟩:=h;replace h:=kdI.of h;obtain⟨j,rfl,h⟩:=h;obtain⟨v,r,rfl,h1,h2⟩:=reps_cons.mp rx;obtain⟨v',r',rfl,h3,h4⟩:=reps_cons.mp h2;rw[reps_nil.mp h4,rep_int.mp h1,rep_int.mp h3];exact#[_,_,rfl,q _ _ F H (Grow.refl fh) h (rep_int.mpr rfl)]
def fS[Jx](hc:X.calm=true)(hm:X.mg "max"=q8)(ha:WDA X [e,a] t)(hg:autoParam (Gl X "max") zA0)(he:autoParam (zSE X e [a]) zA0)(c_:autoParam (zPL X pos [a]) zA0):WDE X (.Call (.Name "max" p) [e,a] [] pos) (dCB sj t):=#[have ha:=ha.out;gK (wS hc) yL hm PyProof.Rows.boot_max ha hg Ku Ku he c_]
def yO[Jx](hc:X.calm=true)(hm:X.mg "min"=q8)(ha:WDA X [e,a] t)(hg:autoParam (Gl X "min") zA0)(he:autoParam (zSE X e [a]) zA0)(c_:autoParam (zPL X pos [a]) zA0):WDE X (.Call (.Name "min" p) [e,a] [] pos) (dCB sk t):=#[have ha:=ha.out;gK (wT hc) yM hm PyProof.Rows.boot_min ha hg Ku Ku he c_]
def cJ:List D->Option (List C_)
 |[]=>be []
 |.str x::r=>(cJ r).map (x::·)
 |_=>q8
def so{K:Ex}{F:Hp}:∀{ds:List D} {xs:List C_} {vs:List V} {us:List KB},cJ ds=be xs->Reps K F ds vs->Vals vs us->StrsAre us xs
 |[],xs,vs,us,e,r,q=>by
  cases e;rw[reps_nil.mp r]at q;cases q;exact .nil
 | .str x::ds,xs,vs,us,e,r,q=>by
  obtain⟨v,r',rfl,h1,h2⟩:=reps_cons.mp r;rw[rep_str.mp h1]at q;cases q with
  |cons q1 q2=>
   obtain⟨t,rfl⟩:=q1;cases e2:cJ ds with
   |none=>simp[cJ,e2]at e
   |some ys=>
    simp[cJ,e2]at e;subst e;exact .cons x t (so e2 h2 q2)
def yQ:V->List V->Hp->VK->Prop:=λx vs H Q=>∃n_ l xs ys,x=.str n_/\vs=[.ref l]/\H l=be (.lst xs)/\(∀us,Vals xs us->StrsAre us ys)/\(ys.map (·.length)).sum+ys.length*n_.length<=16777216/\Q (.str (Txt.join n_ ys)) H
def yR:MtR X "str.join" yQ:=by
 intro pins s σ H x vs v us Q I rx rv h;obtain⟨n_,l,xs,ys,rfl,rfl,hl,hs,hz,q⟩:=h;obtain⟨t,rfl⟩:=rx;obtain⟨u,rfl,ru⟩:=bY rv;cases ru;obtain⟨its,r,pl,_⟩:=I.list (SqL.of hl);exact PyProof.Rows.join_list pl.isList (by simpa using hs its r) hz λt' k=>#[.str _,H,I.tok _,#[_,rfl],q]
def yT(n_:C_)(te:TD):TD:=λz R=>te z λx=>match x with
 |.lst ds=>∃ys,cJ ds=be ys/\(ys.map (·.length)).sum+ys.length*n_.length<=1000000/\R (.str (Txt.join n_ ys))
 |_=>False
variable{k:Nat}
def ki[Jx]{n_:C_}{p1 b_ a8:Sr}(he:WDE X e te)(g5:autoParam (zSE X e []) zA0)
  (b9:autoParam (Sn (.Constant (.str n_) k p1) "join" X.env (So (.Constant (.str n_) k p1) X.env)=So (.Constant (.str n_) k p1) X.env) zA0)
  (d7:autoParam (zHF X a8 [e]) zA0)
  (c7:autoParam ((b_.endLine==a8.line)=true) zA0):WDE X (.Call (.Attribute (.Constant (.str n_) k p1) "join" b_) [e] [] a8) (yT n_ te):=⟨have he:=he.out;(cO PySem.F.plainAttrs_str PySem.F.slot_str_join PySem.F.type_str_join yR pY (bf he pa_nil g5) b9 d7 c7 g5).anti λs H Q q=>by
 obtain⟨B,F,z,kf,rs,R,h1,h2⟩:=q;have fh:=kf.fh;refine#[rfl,?_];refine#[B,F,z,kf,rs,_,h1,λx u F1 H1 g1 hx rx=>?_];split at hx
 .obtain⟨ys,e1,e2,hx⟩:=hx;obtain⟨l,vs,rfl,hq,rr⟩:=rep_lst.mp rx;exact#[n_,l,vs,ys,rfl,rfl,g1.fh _ _ hq,λus q=>so e1 rr q,Go e2 Ku,h2 _ _ F1 H1 g1 hx (rep_str.mpr rfl)]
 .exact hx.elim⟩
def dOix(i:Nat)(tb:TD):TD:=λz R=>match z[i]? with
 |some (be (.own ds))=>tb z λy=>match y with|.int k=>∃d,atI ds k=be d/\R d|_=>False
 |_=>False
def yU[Jx](i:Nat){x:C_}(hb:WDE X b tb)(hN:autoParam (X.N[i]?=be x) zA0)(hv:autoParam (Vis X.env.scope x) zA5)(hd:autoParam (zND x) zA1)
  (gV:autoParam (zNC x) zA1) (hs:autoParam (dZ b) zA6):WDE X (.Subscript (.Name x p) b pos) (dOix i tb):=⟨have hb:=hb.out;(pe_ix ix_list (dB hN hv hd gV) hb hs).anti λs H Q q=>by
 obtain⟨B,F,z,kf,rs,R,h1,h2⟩:=q;have fh:=kf.fh;unfold dOix at h1;split at h1
 .rename_i ds ez;obtain⟨a,vs,q1,q2,q3,q4,q5⟩:=rs.own i ds ez;refine#[.ref a,q1,B,F,z,kf,rs,_,h1,λy v F1 H1 g1 hy ry=>?_];split at hy
  .obtain⟨d,e1,hR⟩:=hy;obtain⟨w,e2,g8⟩:=(q5.mono g1.ff).at e1;exact#[a,vs,_,w,rfl,rep_int.mp ry,SqL.of (g1.hh _ _ q2),e2,h2 d w F1 H1 g1 hR g8]
  .exact hy.elim
 .exact h1.elim⟩
def cutD(xs:List D)(lo hi:Option Int):List D:=(xs.drop (HT.sIx xs.length 0 lo)).take (HT.sIx xs.length xs.length hi-HT.sIx xs.length 0 lo)
def Reps.drop{K:Ex}{F:Hp}:∀(n:Nat) {xs:List D} {us:List V},Reps K F xs us->Reps K F (xs.drop n) (us.drop n)
 |0,_,_,r=>r
 |n+1,[],us,r=>by rw[reps_nil.mp r];exact reps_nil.mpr rfl
 |n+1,x::xs,us,r=>by
  obtain⟨u,ur,rfl,_,a2⟩:=reps_cons.mp r;exact Reps.drop n a2
def Reps.take{K:Ex}{F:Hp}:∀(n:Nat) {xs:List D} {us:List V},Reps K F xs us->Reps K F (xs.take n) (us.take n)
 |0,_,_,_=>reps_nil.mpr rfl
 |n+1,[],us,r=>by rw[reps_nil.mp r];exact reps_nil.mpr rfl
 |n+1,x::xs,us,r=>by
  obtain⟨u,ur,rfl,a1,a2⟩:=reps_cons.mp r;exact reps_cons.mpr #[u,_,rfl,a1,Reps.take n a2]
def Reps.cut{F:Hp}{xs:List D}{us:List V}(r:Reps K F xs us)(lo hi:Option Int):Reps K F (cutD xs lo hi) (cutV us lo hi):=by
 unfold cutD cutV;rw[r.length];exact(r.drop _).take _
def yV(ta tb:TD):TD:=λz R=>ta z λx=>tb z λy=>match x,y with|.lst xs,.int i=>R (.lst (cutD xs (be i) q8))|_,_=>False
def yY[Jx]{p2:Sr}(ha:WDE X a ta)(hb:WDE X b tb):WDE X (.Subscript a (.Slice (be b) q8 q8 p2) pos) (yV ta tb):=⟨have ha:=ha.out;have hb:=hb.out;(jM jO ha (jL hb) jK).anti λs H Q q=>by
 obtain⟨B,F,z,kf,rs,R,h1,h2⟩:=q;have fh:=kf.fh;refine#[B,F,z,kf,rs,_,h1,λx u F1 H1 g1 hx rx=>?_];refine#[B,F1,z,kf.grow g1,rs.grow g1,_,hx,λy v F2 H2 g2 hy ry=>?_];split at hy
 .refine#[_,rep_int.mp ry,?_];obtain⟨l,vs,rfl,hq,rr⟩:=rep_lst.mp (rx.mono g2.ff);refine#[l,vs,rfl,SqL.of (g2.fh _ _ hq),λp hp=>?_];exact h2 _ _ _ _ (g1.trans (g2.trans (Grow.new g2.fh hp _))) hy (rep_lst.mpr #[p,_,rfl,aB,(rr.cut _ _).mono (aP (g2.fh.free hp) _)])
 .exact hy.elim⟩
def yZ{t:TGs}{n:Nat}(hc:X.calm=true)(h:PGs X es t)(hn:autoParam ((Sm es X.env).length=n) zA0)(l5:autoParam ((Sm es X.env).findIdx? (·.1)=none) zA0):
  PG X (.Tuple es k pos) (λv σ H Q=>∃a xs,v=.ref a/\SqL X.K H a xs/\xs.length=n/\t xs σ H Q):=by
 intro pins s σ H v u Q I r hw;obtain⟨a,xs,e1,hq,hl,hw⟩:=hw;subst e1;cases r;obtain⟨its,rv,pl,hz⟩:=I.list hq;have e2:(Sm es X.env).length=its.toArray.size:=by simp[hn,<-hl,rv.length]
 rw[PyProof.Rows.assign_Tuple];refine Os (SL ?_);unfold unpack;rw[e2,l5];refine Os (SE (kun_itemsOf (I.ok.hd hc) pl.isList λh' hx=>?_));have I1:Inv X pins σ H {s with heap:=h'}:=I.kept (t':=s.toks) λb o e=>hx b o (Gn (Heap.lt_size e)) e;exact h pins _ σ H xs _ Q I1 (by simpa using rv) hw
def za(is:List Nat)(te:TD):TSD:=λE z=>te z λx=>match x with|.lst ds=>ds.length=is.length/\E.nx (aT is ds z)|_=>False
def zb[Jx]{is:List Nat}(hc:X.calm=true)(he:WDE X e te)(hg:DGs X es is)(hn:autoParam ((Sm es X.env).length=is.length) zA0)(l5:autoParam ((Sm es X.env).findIdx? (·.1)=none) zA0)
  (hs:autoParam (SM [.Tuple es k p] e pos.line X.env=pure false) zA0) (hw:autoParam (SN [.Tuple es k p] e X.env=pure none) zA0) (h1:autoParam ((Sm [.Tuple es k p] X.env).map (·.2)=[SS (.Tuple es k p) X.env]) zA0):WDS X (.Assign [.Tuple es k p] e pos) (za is te):=⟨by
 have he:=he.out;obtain⟨u,hu,kk⟩:=hg;refine(gA he (yZ hc hu hn l5) hs hw h1).anti λE s H q=>?_;obtain⟨B,F0,F,z,k,rs,ED,h,e⟩:=q;refine#[B,F,z,k.kf,rs,_,h,λd v F' H' g hd rd=>?_];split at hd
 .obtain⟨p,vs,rfl,hq,rr⟩:=rep_lst.mp rd;exact#[p,vs,rfl,SqL.of (g.fh _ _ hq),by rw[rr.length];exact hd.1,kk _ vs z s B F' H' _ hd.1 rr (rs.grow g) λs' r'=>e.nx _ _ F' H' (k.grow g) hd.2 r']
 .exact hd.elim⟩
end
end My
namespace L2
def kj{env:S1}:∀(names:List (C_×SX)) (q9:List (C_×KF)),(∀n,(n,NameKind.free)∈names->∃c,env.cells.lookup n=be c)->
  ∃cl,(forIn (m:=T9) names q9 λx r=>match x with
     |(name,kind)=>if(kind==NameKind.free)=true then(do let a <-cellOf env name;pure (ForInStep.yield ((name,a)::r)))else pure (ForInStep.yield r))=(pure cl:T9 (List (C_×KF)))/\
   (∀n c,cl.lookup n=be c->env.cells.lookup n=be c\/q9.lookup n=be c)/\(∀n,(n,NameKind.free)∈names->∃c,cl.lookup n=be c)/\∀n c,q9.lookup n=be c->∃c',cl.lookup n=be c'
 |[],q9,_=>#[q9,rfl,(λ_ _ h=>.inr h),(λ_ h=>by cases h),(λ_ c h=>#[c,h])]
 |(name,kind)::r,q9,h=>by
  by_cases hk:(kind==NameKind.free)=true
  .have ek:kind=.free:=by simpa using hk
   subst ek;obtain⟨c,hc⟩:=h name Gk;obtain⟨cl,e,p1,p2,p3⟩:=kj r ((name,c)::q9) λn q=>h n (Gi _ q);refine#[cl,?_,λn c' q=>?_,λn q=>?_,λn c' q=>?_]
   .rw[Io];have ec:cellOf env name=pure c:=by unfold cellOf;rw[hc]
    simp only[hk,if_true,ec];exact e
   .rcases p1 n c' q with z|z
    .exact .inl z
    .rw[Gy]at z;split at z
     .rename_i q2;have en:n=name:=by simpa using q2
      cases z;exact .inl (en ▸ hc)
     .exact .inr z
   .rcases Gh.mp q with z|z
    .cases z;exact p3 _ c (by rw[Gy];simp)
    .exact p2 n z
   .by_cases hn:n=name
    .subst hn;exact p3 n c (by rw[Gy];simp)
    .exact p3 n c' (by rw[Gy,beq_eq_false_iff_ne.mpr hn];exact q)
  .obtain⟨cl,e,p1,p2,p3⟩:=kj r q9 λn q=>h n (Gi _ q);refine#[cl,?_,p1,λn q=>?_,p3]
   .rw[Io];simp only[hk];exact e
   .rcases Gh.mp q with z|z
    .cases z;exact absurd rfl hk
    .exact p2 n z
def closure_is{env:S1}{scope:SK}(h:∀n,(n,NameKind.free)∈scope.names->∃c,env.cells.lookup n=be c):
  ∃cl,closureFor scope env=pure cl/\(∀n c,cl.lookup n=be c->env.cells.lookup n=be c)/\∀n,(n,NameKind.free)∈scope.names->∃c,cl.lookup n=be c:=by
 obtain⟨cl,e,p1,p2,_⟩:=kj scope.names [] h;refine#[cl,?_,λn c q=>(p1 n c q).elim id (λz=>nomatch z),p2];unfold closureFor;show(forIn (m:=T9) scope.names [] _>>=λs=>pure s)=pure cl;rw[e];rfl
def gN{env:S1}:∀{names:List (C_×SX)} {n:C_} {k:SX},(∀y∈names,y.2≠.cell)->k=.cell\/k=.free->
  (names.map λ(n,k)=>if(k==NameKind.free&&env.scope.kind== .function&&env.kindOf n==be .cell)then(n,NameKind.cell)else(n,k)).lookup n=be k->(n,NameKind.free)∈names
 |[],_,_,_,_,h=>by simp at h
 |(a,b)::r,n,k,hc,hk,h=>by
  rw[GJ]at h;by_cases hb:(b==NameKind.free&&env.scope.kind== .function&&env.kindOf a==be .cell)=true
  .have eb:b=.free:=by
    have:=(GF _ _ ▸ ((GF _ _ ▸ hb).1)).1;simpa using this
   simp only[hb,if_true]at h;rw[Gy]at h;split at h
   .rename_i q;have en:n=a:=by simpa using q
    subst en eb;exact Gk
   .exact Gi _ (gN (λy q=>hc y (Gi _ q)) hk h)
  .simp only[hb]at h;rw[if_neg Kv,Gy]at h;split at h
   .rename_i q;have en:n=a:=by simpa using q
    cases h;subst en;rcases hk with z|z
    .exact absurd z (hc _ Gk)
    .rw[z];exact Gk
   .exact Gi _ (gN (λy q=>hc y (Gi _ q)) hk h)
section
variable {prog:Sd}{w:Sj}{A:Sk}{R:Result->KM->Prop}{s:KM}
abbrev sq(i8:List P3)(env:S1):T9 Bool:=forIn i8 true λc r=>if r=true then do let ok <-isTrue c env (So c env);pure (ForInStep.yield ok)else pure (ForInStep.yield r)
def zc{f9 ge iter:P3}{i8:List P3}{scope:SK}{pos:Sr}{it q9:KB}{env:S1}(I:Nat->KM->Prop)
  (c9:∀n s,I n s->Sg (Sf prog w) A (pyNext it) (λr s₁=>match r with
   |none=>R (.ok .next) s₁
   |some v=>Sg (Sf prog w) A (Tb ge it v) (λ_ s₁'=>Sg (Sf prog w) A (SS ge env v) (λ_ s₂=>Sg (Sf prog w) A (sq i8 env) (λok s₂'=>if ok=true then Sg (Sf prog w) A (So f9 env) (λx s₃=>
     Sg (Sf prog w) A (call (.builtin "list.append") [q9,x]) (λ_ s₄=>∃m,m<n/\I m s₄) (λ_ _=>False) s₃)
     (λ_ _=>False) s₂' else ∃m,m<n/\I m s₂') (λ_ _=>False) s₂) (λ_ _=>False) s₁') (λ_ _=>False) s₁) (λ_ _=>False) s)
  (n:Nat) (h:I n s):
  Te (Sf prog w) A (.compLoop (.ListComp f9 [#[ge,iter,i8,0]] scope pos) 0 it q9 env) R s:=by
 refine codeAny_loop rfl I (λn s hI=>?_) n h;show Sg _ _ ((compTurn (.ListComp f9 [#[ge,iter,i8,0]] scope pos) 0 it q9 env).onRaise (λx=>do S8 x env;theTreesLotGoes x)) _ _ s;refine wpAny_noted ?_;rw[compTurn_list];refine Os (SL (Os (Sy (c9 n s hI) (λr s₁ h₁=>?_) λ_ _ h'=>h'.elim)));cases r with
 |none=>exact Sh h₁
 |some v=>
  refine Os (Sy h₁ (λ_ s₁' h₁'=>Os (Sy h₁' (λ_ s₂ h₂=>Os (Sy h₂ (λok s₃ h₃=>?_) λ_ _ h'=>h'.elim)) λ_ _ h'=>h'.elim)) λ_ _ h'=>h'.elim);cases ok with
  |false=>exact Sh #[rfl,h₃]
  |true=>
   exact Os (Os (Sy h₃ (λx s₄ h₄=>Os (Sy h₄ (λ_ s₅ h₅=>Sh (Sh #[rfl,h₅])) λ_ _ h'=>h'.elim)) λ_ _ h'=>h'.elim))
end
def bT(X:Cx)(scope:SK)(cl:List (C_×KF))(x:C_)(s₀:KM)(H₀:Hp)(fp:List KF):Cx where
 prog:=X.prog
 w:=X.w
 K:=X.K
 mg:=X.mg
 base:=X.base
 A:=X.A
 N:=X.N.map (λn=>if n=x then("":C_)else n)++[x]
 s₀:=s₀
 H₀:=H₀
 env:=compEnvC scope cl s₀.heap.objs.size X.env
 outer:=X.stack
 stack:=X.stack
 ex:=fp
 fn:=λ_=>false
 calm:=X.calm
 pn:=[]
 xe:=λ_ _=>False
structure CompScope(X:Cx)(scope:SK)(x:Str):Prop where
 kind:scope.kind=.function
 nocell:∀y∈scope.names,y.2≠.cell
 names:∀y∈scope.names,y.2=.local->scope.names.lookup y.1=be .local
 own:scope.names.lookup x=be .local
 free:∀n,(n,NameKind.free)∈scope.names->X.env.kindOf n=be .cell
 vis:∀n∈X.N,n≠x->Vis (Uj scope X.env) n->(n,NameKind.free)∈scope.names
 empty:¬Vis (Uj scope X.env) ("":C_)
 cells:∀n,(n,NameKind.free)∈scope.names->(Uj scope X.env).names.lookup n=be .cell
 nd:(X.N.map (λn=>if n=x then("":C_)else n)++[x]).Nodup
section
variable {X:Cx}{pins:List (KF×Sx)}{σ:St}{H:Hp}{s:KM}{scope:SK}{cl:List (C_×KF)}{x:C_}{fp:List KF}
def sr(I:Inv X pins σ H s)(S:CompScope X scope x)(c1:∀n c,cl.lookup n=be c->X.env.cells.lookup n=be c)(c2:∀n,(n,NameKind.free)∈scope.names->∃c,cl.lookup n=be c)
  (hf:∀b∈fp,FpOk X pins H b) (hl:∀b∈fp,b<s.heap.objs.size):(bT X scope cl x s H fp).Ok where
 mod:=I.ok.mod
 kind:=S.kind
 glob:=I.ok.glob
 blt:=I.ok.blt
 above:=Gg _
 inj:=λy z c h1 h2=>I.ok.inj y z c (c1 y c h1) (c1 z c h2)
 has:=λn hn=>by
  rcases hn with hn|hn
  .exact c2 n (gN S.nocell (.inl rfl) hn)
  .exact c2 n (gN S.nocell (.inr rfl) hn)
 cab:=λ_ _ h=>nomatch h
 hd:=I.ok.hd
 frames:=I.ok.frames
 stk:=.inl rfl
 exf:=λb hb=>#[Gn (hl b hb),λy c h=>(hf b hb).2.2.2.2.1 y c (c1 y c h)]
 bs:=I.bs
 bsz:=Go I.ok.bsz I.sz
 noex:=λb o e hb=>by
  have h1:=I.ok.noex b o e;rcases(hf b hb).2.2.2.1 with z|z
  .exact h1 z
  .exact absurd (GC (Heap.lt_size e) (Go I.ok.bsz z)) (G7 _)
 exfs:=λb hb hs=>by
  rcases Gh.mp (I.stkSub b hs)with z|z
  .exact(hf b hb).2.1 z
  .exact(hf b hb).2.2.1 z
 funs:=I.stack
 frf:=I.stkFree
def ss{h':Sl}{t':Nat}(I:Inv X pins σ H s)(S:CompScope X scope x)(c1:∀n c,cl.lookup n=be c->X.env.cells.lookup n=be c)(c2:∀n,(n,NameKind.free)∈scope.names->∃c,cl.lookup n=be c)
  (hf:∀b∈fp,FpOk X pins H b) (hl:∀b∈fp,b<s.heap.objs.size) {m:C_->Option KB} (hn:h'.Ns s.heap.objs.size m) (k:∀b o,s.heap.get? b=be o->h'.get? b=be o):
  Inv (bT X scope cl x s H fp) [] (σ++[q8]) H {s with heap:=h',toks:=t'}:=by
 refine#[sr I S c1 c2 hf hl,rfl,I.bare,Un.kept k,#[m,hn,λi n v e1 e2 e3=>?_],λn c e=>?_,I.hok.fresh (Gg _),λn c e=>I.freeC n c (c1 n c e),λp hp=>absurd (show p∈([]:List (KF×Sx))from hp) Kv,I.hok.kept k,?_]
 .have hi:i<σ.length:=by
   rcases Hr i σ.length with q|q
   .exact q
   .rw[Ha q]at e2;cases hz:i-σ.length with
    |zero=>rw[hz]at e2;simp at e2
    |succ z=>rw[hz]at e2;simp at e2
  rw[GW hi]at e2;have Mq:i<X.N.length:=by rw[<-I.len];exact hi
  have KP:(X.N.map (λn=>if n=x then("":C_)else n)++[x])[i]?=be n:=e1;rw[GW (by simpa using Mq),Gr,GH Mq]at KP;simp only[Option.map_some,Option.some.injEq]at KP;by_cases hx:X.N[i]=x
  .rw[if_pos hx]at KP;subst KP;exact absurd e3 S.empty
  .rw[if_neg hx]at KP;subst KP;have j3:=S.vis _ (GT Mq) hx e3;have k_:=S.free _ j3;obtain⟨c,hc⟩:=c2 _ j3;obtain⟨mX,RK,Qu⟩:=I.loc;obtain⟨u,ru,lk⟩:=Qu i X.N[i] v (GH Mq) e2 (.inr (.inl k_));refine#[u,ru,.inr #[?_,c,hc,?_]]
   .exact .inl (S.cells _ j3)
   .rcases lk with⟨kl,_⟩|⟨_,c',y7,u8⟩
    .rw[k_]at kl;cases kl
    .have:c=c':=by
      have:=c1 _ c hc;rw[y7]at this;exact(Option.some.inj this).symm
     subst this;obtain⟨o,ho,hd⟩:=u8;exact#[o,k _ _ ho,hd]
 .obtain⟨v,o,ho,hd⟩:=I.cell n c (c1 n c e);exact#[v,o,k _ _ ho,hd]
 .show(σ++[q8]).length=(X.N.map _++[x]).length;rw[Gx,Gx,Gm,I.len];rfl
end
def fT(wi:TI)(tt:TT)(g6:TE):TE:=λσ H Q=>wi σ H λJ H1=>∀D,H1 D=q8->∃W:Nat->Nat->Hp->Prop,(∃m,W 0 m (upd H1 D (.lst [])))/\∀i m H,W i m H->
 (J.stop i H/\Q (.ref D) H)\/(J.go i H/\∀x H',J.yld i H x H'->tt (σ++[be x]) H' λb H1=>if b=true then g6 (σ++[be x]) H1 λy H''=>∃vs,H'' D=be (.lst vs)/\vs.length<sizeLine/\∃m',m'<m/\W (i+1) m' (upd H'' D (.lst (vs++[y])))else ∃m',m'<m/\W (i+1) m' H1)
def PIf(X:Cx)(i8:List P3)(t:TT):Prop:=
 ∀(pins:List (KF×Sx)) (s:KM) (σ:St) (H:Hp) (Q:Bool->Hp->Prop),Inv X pins σ H s->t σ H Q->Sg (Sf X.prog X.w) X.A (sq i8 X.env) (TP X pins σ Q) X.xe s
def pif_nil{X:Cx}:PIf X [] (λ_ H Q=>Q true H):=λpins s σ H Q I q=>wpAny_tests_nil #[H,I,q]
def PIf.anti{X:Cx}{e:List P3}{t t':TT}(h:PIf X e t)(a:∀s H Q,t' s H Q->t s H Q):PIf X e t':=λpins s σ H Q I q=>h pins s σ H Q I (a _ _ _ q)
section
variable {X:Cx}
variable{f9 iter:P3}{i8:List P3}{x:C_}{px pos:Sr}{scope:SK}{tt:TT}{g6:TE}
def su{pins:List (KF×Sx)}{s2:KM}{σ:St}{H1:Hp}{cl:List (C_×KF)}{it:KF}{fp:List KF}{tn:Nat->Sl->Prop}{J:It}{Qs:Hp->Prop}{R:Result->KM->Prop}{W:Nat->Nat->Hp->Prop}{m0:Nat}{h₁:Sl}(hc:X.calm=true)(S:CompScope X scope x)
  (hq:∀cl s₀ H₀ fp,PIf (bT X scope cl x s₀ H₀ fp) i8 tt) (he:∀cl s₀ H₀ fp,PE (bT X scope cl x s₀ H₀ fp) f9 g6) (c1:∀n c,cl.lookup n=be c->X.env.cells.lookup n=be c) (c2:∀n,(n,NameKind.free)∈scope.names->∃c,cl.lookup n=be c)
  (I1:Inv X pins σ H1 s2) (T:Turn X.prog X.w X.K (.Name x px) J fp it tn) (st:tn 0 s2.heap) (f1:∀b∈fp,FpOk X pins H1 b) (w0:W 0 m0 (upd H1 s2.heap.objs.size (.lst [])))
  (step:∀i m H,W i m H->(J.stop i H/\Qs H)\/(J.go i H/\∀x H',J.yld i H x H'->tt (σ++[be x]) H' λb H1=>if b=true then g6 (σ++[be x]) H1 λy H''=>∃vs,H'' s2.heap.objs.size=be (.lst vs)/\vs.length<sizeLine/\∃m',m'<m/\W (i+1) m' (upd H'' s2.heap.objs.size (.lst (vs++[y])))else ∃m',m'<m/\W (i+1) m' H1))
  (I4:Inv (bT X scope cl x {s2 with heap:=s2.heap.push {cls:=.type "list",data:=.seq ([]:List KB).toArray},toks:=s2.toks} (upd H1 s2.heap.objs.size (.lst [])) fp) [] (σ++[q8]) (upd H1 s2.heap.objs.size (.lst [])) {s2 with heap:=h₁,toks:=s2.toks+([]:List (C_×KB)).length}) (t0:tn 0 h₁)
  (Nk:∀H' s4 m,Inv X pins σ H' s4->s4.heap.Ns (s2.heap.push {cls:=.type "list",data:=.seq ([]:List KB).toArray}).objs.size m->H' (s2.heap.push {cls:=.type "list",data:=.seq ([]:List KB).toArray}).objs.size=q8->Qs H'->R (.ok .next) s4):
  Te (Sf X.prog X.w) X.A (.compLoop (.ListComp f9 [#[.Name x px,iter,i8,0]] scope pos) 0 (.ref it) (.ref s2.heap.objs.size) (compEnvC scope cl (s2.heap.push {cls:=.type "list",data:=.seq ([]:List KB).toArray}).objs.size X.env)) R {s2 with heap:=h₁,toks:=s2.toks+([]:List (C_×KB)).length}:=by
 have f6:∀b∈fp,b<s2.heap.objs.size:=λb hb=>by
  obtain⟨o,ho,_⟩:=T.obj _ _ st b hb;exact Heap.lt_size ho
 have I3:Inv X pins σ (upd H1 s2.heap.objs.size (.lst [])) {s2 with heap:=s2.heap.push {cls:=.type "list",data:=.seq ([]:List KB).toArray},toks:=s2.toks}:=I1.lnew (its:=[]) (ys:=[]) .nil (GI _);have i6:∀b∈fp,b<(s2.heap.push {cls:=.type "list",data:=.seq ([]:List KB).toArray}).objs.size:=λb hb=>by
  rw[Heap.size_push];exact Ip (f6 b hb)
 have y_:∀b∈fp,FpOk X pins (upd H1 s2.heap.objs.size (.lst [])) b:=λb hb=>#[by rw[au (Gn (f6 b hb))];exact(f1 b hb).1,(f1 b hb).2];have Mr:=sr (x:=x) (fp:=fp) I3 S c1 c2 y_ i6;generalize hY:bT X scope cl x {s2 with heap:=s2.heap.push {cls:=.type "list",data:=.seq ([]:List KB).toArray},toks:=s2.toks} (upd H1 s2.heap.objs.size (.lst [])) fp=Y at I4 Mr;have yP:Y.prog=X.prog:=O2
 have yW:Y.w=X.w:=O2
 have yK:Y.K=X.K:=O2
 have yA:Y.A=X.A:=O2
 have yN:Y.N=X.N.map (λn=>if n=x then("":C_)else n)++[x]:=O2
 have yE:Y.env=compEnvC scope cl (s2.heap.push {cls:=.type "list",data:=.seq ([]:List KB).toArray}).objs.size X.env:=O2
 have yX:Y.xe=λ_ _=>False:=O2
 have yC:Y.calm=true:=by rw[<-hY];exact hc
 have Pc:Y.ex=fp:=O2
 have Qv:Y.pn=[]:=O2
 have Qw:Y.fs=frs X.stack:=O2
 have Qx:Y.H₀=upd H1 s2.heap.objs.size (.lst []):=O2
 have Pd:Y.s₀={s2 with heap:=s2.heap.push {cls:=.type "list",data:=.seq ([]:List KB).toArray},toks:=s2.toks}:=O2
 have Qy:PE Y f9 g6:=by rw[<-hY];exact he _ _ _ _
 have Qz:PIf Y i8 tt:=by rw[<-hY];exact hq _ _ _ _
 have l_:∀{H':Hp},(∀b∈fp,H' b=q8)->∀b∈fp,FpOk Y [] H' b:=λ{H'} hn b hb=>by
  have j7:b∈Y.ex:=by rw[Pc];exact hb
  exact#[hn b hb,(Mr.exf b j7).1,Mr.exfs b j7,.inl j7,λn c e=>(Mr.exf b j7).2 n c e,by rw[Qv];simp]
 have Lx:Y.env.scope.names.lookup x=be .local:=by rw[yE];exact lookup_relabel_local S.own
 have Nl:Y.N[X.N.length]?=be x:=by rw[yN];simp
 have QA:Y.N.Nodup:=by rw[yN];exact S.nd
 have Nm:Y.env.locals=(s2.heap.push {cls:=.type "list",data:=.seq ([]:List KB).toArray}).objs.size:=by rw[yE];rfl
 have e_:∀(o:Option V) (H':Hp) (s':KM),Inv Y [] (σ++[o]) H' s'->Inv X pins σ H' s':=λo H' s' I'=>by
  have bs:=I'.base;rw[Qw,Pc,Qx,Pd]at bs;refine I3.call' (ch:=fp) ?_ bs ?_ I'.bare ?_
  .have:=I'.os;rw[Pd]at this;exact this
  .have:=I'.hok;rw[yP,yW]at this;exact this
  .exact λb hb=>#[(y_ b hb).2.2.2.1,(y_ b hb).2.1,(y_ b hb).2.2.2.2.1,(y_ b hb).2.2.2.2.2]
 refine zc (λn s'=>∃i o H',Inv Y [] (σ++[o]) H' s'/\tn i s'.heap/\(∀b∈fp,H' b=q8)/\W i n H') ?_ m0 #[0,q8,_,I4,t0,λb hb=>(y_ b hb).1,w0];rintro n s3⟨i,o,H3,I5,t3,f3,w3⟩;rcases step i n H3 w3 with⟨stop,q⟩|⟨go,q⟩
 .have dn:=T.done Y yP yW yK yC i [] s3 _ H3 (λ_ _=>False) I5 (l_ f3) t3 stop;rw[yA]at dn;refine thn dn λr s4 c8=>?_;obtain⟨hr,I6⟩:=c8;subst hr;obtain⟨m,hn,_⟩:=I6.loc;have m6:=I6.free;rw[Nm]at hn m6;exact Nk H3 s4 m (e_ o H3 s4 I6) hn m6 q
 .have Pf:=T.item Y yP yW yK yC i [] s3 _ H3 (λ_ _=>False) I5 (l_ f3) t3 go;rw[yA]at Pf;refine thn Pf λr s4 c8=>?_;obtain⟨u,hr,h4⟩:=c8;subst hr;refine thn h4 λ_ s5 c8=>?_;obtain⟨xv,H5,I6,r5,y5,D_,M6⟩:=c8;have QB:=I6.pinned (l_ M6) (T.obj _ _ D_);rw[<-yE];refine Tn (dU QB QA Nl (.inl Lx) r5 (λs6 I7=>?_) (.inr Lx));have Nn:(σ++[o]).set X.N.length (be xv)=σ++[be xv]:=by
   rw[<-I1.len];simp
  rw[Nn]at I7;have tv:=Qz _ s6 _ H5 _ I7 (q xv H5 y5);rw[yP,yW,yA,yX]at tv;refine thn tv λb QC c8=>?_;obtain⟨QD,Ms,qb⟩:=c8;cases b with
  |false=>
   obtain⟨m',hm,w7⟩:=qb;refine#[m',hm,i+1,be xv,_,Ms.unpinned,T.keep _ _ _ D_ λb hb ob e=>(Ms.pin (b,ob) (GE _ (GE _ (dW hb e)))).1,λb hb=>?_,w7];obtain⟨ob,e,d⟩:=T.obj _ _ D_ b hb;exact(Ms.pin (b,ob) (GE _ (GE _ (dW hb e)))).2.1
  |true=>
  have ev:=Qy _ QC _ QD _ Ms qb;rw[yP,yW,yA,yX]at ev;refine thn ev λyv s7 c8=>?_;obtain⟨y,H6,I8,ry,vs,QE,c5,m',hm,w7⟩:=c8;have ap:=jQ (X:=Y) _ s7 _ H6 (.ref s2.heap.objs.size) [y] (.ref s2.heap.objs.size) [yv] (λ_ H7=>H7=upd H6 s2.heap.objs.size (.lst (vs++[y]))) I8 rfl (.cons ry .nil) #[_,vs,y,rfl,rfl,QE,c5,rfl];rw[yP,yW,yA,yX]at ap;refine thn ap λ_ s8 c8=>?_;obtain⟨_,H7,I9,_,e7⟩:=c8;subst e7;refine#[m',hm,i+1,be xv,_,I9.unpinned,T.keep _ _ _ D_ λb hb ob e=>(I9.pin (b,ob) (GE _ (GE _ (dW hb e)))).1,λb hb=>?_,w7];obtain⟨ob,e,d⟩:=T.obj _ _ D_ b hb;exact(I9.pin (b,ob) (GE _ (GE _ (dW hb e)))).2.1
def sy{wi:TI}(hc:X.calm=true)(S:CompScope X scope x)(hi:PI X (.Name x px) iter wi)
  (hq:∀cl s₀ H₀ fp,PIf (bT X scope cl x s₀ H₀ fp) i8 tt) (he:∀cl s₀ H₀ fp,PE (bT X scope cl x s₀ H₀ fp) f9 g6) (hs:autoParam (∀y,zFS X iter y) zA2):
  PE X (.ListComp f9 [#[.Name x px,iter,i8,0]] scope pos) (fT wi tt g6):=by
 intro pins s σ H Q I h;obtain⟨cl,u8,c1,c2⟩:=closure_is (env:=X.env) (scope:=scope) (λn q=>I.ok.has n (.inl (S.free n q)));rw[eval_ListComp];refine TL (use:=q8) rfl hs u8 S.kind S.names (thn (hi pins s σ H _ I h) λv s1 h1=>thn h1 λMg s2 h2=>?_);obtain⟨it,fp,tn,J,H1,e,I1,T,st,f1,hr⟩:=h2;subst e;have f6:∀b∈fp,b<s2.heap.objs.size:=λb hb=>by
  obtain⟨o,ho,_⟩:=T.obj _ _ st b hb;exact Heap.lt_size ho
 have hD:H1 s2.heap.objs.size=none:=I1.hok.fresh (Gg _);obtain⟨W,⟨m0,w0⟩,step⟩:=hr _ hD;refine Ss (T6 S.nocell (by intro y hy;simp at hy) (λh₁ hns₁ hsb₁=>?_) S.kind);have I3:Inv X pins σ (upd H1 s2.heap.objs.size (.lst [])) {s2 with heap:=s2.heap.push {cls:=.type "list",data:=.seq ([]:List KB).toArray},toks:=s2.toks}:=I1.lnew (its:=[]) (ys:=[]) .nil (GI _);have i6:∀b∈fp,b<(s2.heap.push {cls:=.type "list",data:=.seq ([]:List KB).toArray}).objs.size:=λb hb=>by
  rw[Heap.size_push];exact Ip (f6 b hb)
 have y_:∀b∈fp,FpOk X pins (upd H1 s2.heap.objs.size (.lst [])) b:=λb hb=>#[by rw[au (Gn (f6 b hb))];exact(f1 b hb).1,(f1 b hb).2];have kp:∀b o,(s2.heap.push {cls:=.type "list",data:=.seq ([]:List KB).toArray}).get? b=be o->h₁.get? b=be o:=λb o e=>
  (hsb₁.2 b (Gn (Heap.lt_size e))).trans (Heap.get?_push_of_some _ e)
 have I4:=ss (x:=x) (fp:=fp) (t':=s2.toks+([]:List (C_×KB)).length) I3 S c1 c2 y_ i6 hns₁ kp;have JN:(s2.heap.push {cls:=.type "list",data:=.seq ([]:List KB).toArray}).objs.size≠X.env.locals:=G8 I3.lt;have JO:∀z c,X.env.cells.lookup z=be c->c≠(s2.heap.push {cls:=.type "list",data:=.seq ([]:List KB).toArray}).objs.size:=λz c e=>by
  obtain⟨vv,oo,ho,_⟩:=I3.cell z c e;exact Gn (Heap.lt_size ho)
 have Kw:∀p∈X.pn++pins,p.1≠(s2.heap.push {cls:=.type "list",data:=.seq ([]:List KB).toArray}).objs.size:=λp hp=>Gn (Heap.lt_size (I3.pin p hp).1);have o9:=su (pos:=pos) (iter:=iter) (R:=compPost (Sf X.prog X.w) X.A X.xe q8 (EP X pins σ Q) (.ref s2.heap.objs.size) (s2.heap.push {cls:=.type "list",data:=.seq ([]:List KB).toArray}).objs.size) hc S hq he c1 c2 I1 T st f1 w0 step I4 (T.keep _ _ _ st (λb hb ob e=>kp b ob (Heap.get?_push_of_some _ e))) λH' s4 m IX hn m6 q=>
  #[m,hn,λh' hsb=>#[.ref s2.heap.objs.size,H',IX.turned (t':=s4.toks) (it:=(s2.heap.push {cls:=.type "list",data:=.seq ([]:List KB).toArray}).objs.size) (λb ob hb e=>(hsb.2 b hb).trans e) m6 JN (.inr I3.sz) JO Kw,rfl,q]]
 exact T1 o9 (T.self _ _ _ _ _ (T.keep _ _ _ st (λb hb ob e=>kp b ob (Heap.get?_push_of_some _ e))) o9)
def sA{y:C_}{py l7:Sr}{wi:TI}{ix:Nat}(hc:X.calm=true)(S:CompScope X scope x)(hi:PI X (.Name x px) iter wi)
  (hq:∀cl s₀ H₀ fp,PIf (bT X scope cl x s₀ H₀ fp) i8 tt) (he:∀cl s₀ H₀ fp,PE (bT X scope cl x s₀ H₀ fp) f9 g6) (hN:X.N.Nodup) (Ly:X.N[ix]?=be y) (hy:Loc X.env.scope y) (hf:zFN X y)
  (I_:SA (.ListComp f9 [#[.Name x px,iter,i8,0]] scope pos) (be (.Name y py)) l7.line X.env=pure true) (hs:autoParam (∀y,zFS X iter y) zA2):
  PS X (.Assign [.Name y py] (.ListComp f9 [#[.Name x px,iter,i8,0]] scope pos) l7) (tAsg (fT wi tt g6) (fC ix)):=by
 intro pins s σ H DE I h;have h:wi σ H λJ H1=>∀D,H1 D=q8->∃W:Nat->Nat->Hp->Prop,(∃m,W 0 m (upd H1 D (.lst [])))/\∀i m H,W i m H->
  (J.stop i H/\DE.nx (σ.set ix (be (.ref D))) H)\/(J.go i H/\∀x H',J.yld i H x H'->tt (σ++[be x]) H' λb H1=>if b=true then g6 (σ++[be x]) H1 λy H''=>∃vs,H'' D=be (.lst vs)/\vs.length<sizeLine/\∃m',m'<m/\W (i+1) m' (upd H'' D (.lst (vs++[y])))else ∃m',m'<m/\W (i+1) m' H1):=h
 obtain⟨cl,u8,c1,c2⟩:=closure_is (env:=X.env) (scope:=scope) (λn q=>I.ok.has n (.inl (S.free n q)));rw[exec_Assign_Name_used _ _ _ _ I_];refine Os (SL (Os ?_));show Sg _ X.A (do let _ <-comprehension (.ListComp f9 [#[.Name x px,iter,i8,0]] scope pos) scope X.env _ (newList []) false (So iter X.env) (be (SS (.Name y py) X.env))) _ _ s;refine Os (Sy (TL (use:=be (SS (.Name y py) X.env)) (Q:=λ_ s'=>SP X pins DE .next s') rfl hs u8 S.kind S.names
  (thn (hi pins s σ H _ I h) λv s1 h1=>thn h1 λMg s2 h2=>?_)) (λ_ s' hq=>Sh (Sh hq)) λ_ _ e=>e)
 obtain⟨it,fp,tn,J,H1,e,I1,T,st,f1,hr⟩:=h2;subst e;have f6:∀b∈fp,b<s2.heap.objs.size:=λb hb=>by
  obtain⟨o,ho,_⟩:=T.obj _ _ st b hb;exact Heap.lt_size ho
 have hD:H1 s2.heap.objs.size=none:=I1.hok.fresh (Gg _);obtain⟨W,⟨m0,w0⟩,step⟩:=hr _ hD;refine Ss (T6 S.nocell (by intro y hy;simp at hy) (λh₁ hns₁ hsb₁=>?_) S.kind);have I3:Inv X pins σ (upd H1 s2.heap.objs.size (.lst [])) {s2 with heap:=s2.heap.push {cls:=.type "list",data:=.seq ([]:List KB).toArray},toks:=s2.toks}:=I1.lnew (its:=[]) (ys:=[]) .nil (GI _);have i6:∀b∈fp,b<(s2.heap.push {cls:=.type "list",data:=.seq ([]:List KB).toArray}).objs.size:=λb hb=>by
  rw[Heap.size_push];exact Ip (f6 b hb)
 have y_:∀b∈fp,FpOk X pins (upd H1 s2.heap.objs.size (.lst [])) b:=λb hb=>#[by rw[au (Gn (f6 b hb))];exact(f1 b hb).1,(f1 b hb).2];have kp:∀b o,(s2.heap.push {cls:=.type "list",data:=.seq ([]:List KB).toArray}).get? b=be o->h₁.get? b=be o:=λb o e=>
  (hsb₁.2 b (Gn (Heap.lt_size e))).trans (Heap.get?_push_of_some _ e)
 have I4:=ss (x:=x) (fp:=fp) (t':=s2.toks+([]:List (C_×KB)).length) I3 S c1 c2 y_ i6 hns₁ kp;have JN:(s2.heap.push {cls:=.type "list",data:=.seq ([]:List KB).toArray}).objs.size≠X.env.locals:=G8 I3.lt;have JO:∀z c,X.env.cells.lookup z=be c->c≠(s2.heap.push {cls:=.type "list",data:=.seq ([]:List KB).toArray}).objs.size:=λz c e=>by
  obtain⟨vv,oo,ho,_⟩:=I3.cell z c e;exact Gn (Heap.lt_size ho)
 have Kw:∀p∈X.pn++pins,p.1≠(s2.heap.push {cls:=.type "list",data:=.seq ([]:List KB).toArray}).objs.size:=λp hp=>Gn (Heap.lt_size (I3.pin p hp).1);have o9:=su (pos:=pos) (iter:=iter) (R:=compPost (Sf X.prog X.w) X.A X.xe (be (SS (.Name y py) X.env)) (λ_ s'=>SP X pins DE .next s') (.ref s2.heap.objs.size) (s2.heap.push {cls:=.type "list",data:=.seq ([]:List KB).toArray}).objs.size) hc S hq he c1 c2 I1 T st f1 w0 step I4 (T.keep _ _ _ st (λb hb ob e=>kp b ob (Heap.get?_push_of_some _ e))) λH' s4 m IX hn m6 q=>by
  show Sg _ X.A (SS (.Name y py) X.env (.ref s2.heap.objs.size)) _ _ s4;refine Tn (pX IX hN Ly hy (v:=.ref s2.heap.objs.size) rfl (λs5 I7 ⟨a,hsb,ha⟩=>?_) hf);have No:(s2.heap.push {cls:=.type "list",data:=.seq ([]:List KB).toArray}).objs.size≠a:=by
   rcases ha with e|e
   .rw[e];exact JN
   .exact λz=>JO y a e z.symm
  exact#[m,hn.sameBut hsb No,λh' Mt=>#[_,H',I7.turned (t':=s5.toks) (it:=(s2.heap.push {cls:=.type "list",data:=.seq ([]:List KB).toArray}).objs.size) (λb ob hb e=>(Mt.2 b hb).trans e) m6 JN (.inr I3.sz) JO Kw,q]]
 exact T1 o9 (T.self _ _ _ _ _ (T.keep _ _ _ st (λb hb ob e=>kp b ob (Heap.get?_push_of_some _ e))) o9)
end
end L2
namespace My
def RepS.snoc{K:Ex}{B F H:Hp}{z:SD}{s:L2.St}{d:D}{v:V}(h:RepS K B F H z s)(r:Rep K F d v):RepS K B F H (z++[be d]) (s++[be v]):=by
 have no:=r.noown;have get:∀{j:Nat} {x:D},(z++[be d])[j]?=be (be x)->(j<z.length/\z[j]?=be (be x))\/(j=z.length/\x=d):=λ{j x} e=>by
  rcases Hr j z.length with q|q
  .rw[GW q]at e;exact .inl #[q,e]
  .rw[Ha q]at e;cases hz:j-z.length with
   |zero=>rw[hz]at e;simp at e;exact .inr #[Kn,e.symm]
   |succ n=>rw[hz]at e;simp at e
 have lt:∀{j:Nat},j<z.length->(s++[be v])[j]?=s[j]?:=λ{j} q=>GW (by rw[h.len];exact q);refine#[by rw[Gx,Gx,h.len];rfl,λj x e nx=>?_,λj ds e=>?_,λj k dj dk a e1 e2 e3 e4=>?_]
 .rcases get e with⟨q,e⟩|⟨q,rfl⟩
  .rw[lt q];exact h.val j x e nx
  .exact#[v,by rw[q,Ha (by rw[h.len];exact Gg _),h.len];simp,r]
 .rcases get e with⟨q,e⟩|⟨q,e⟩
  .rw[lt q];exact h.own j ds e
  .rw[<-e]at no;cases no
 .rcases get e1 with⟨q,e1⟩|⟨q,e1⟩
  .rcases get e2 with⟨q2,e2⟩|⟨q2,e2⟩
   .rw[lt q]at e3;rw[lt q2]at e4;exact h.apart j k dj dk a e1 e2 e3 e4
   .rw[<-e2]at no;cases no
  .rw[<-e1]at no;cases no
def okB:Bool->Bool->Prop->Prop->Prop
 |_,true,A,_=>A
 |false,false,_,B=>B
 |true,false,_,_=>False
def cmpG(nf:Bool)(tt:TDT)(te:TD)(z:SD)(R:D->Prop)(items:List D):Prop:=items.length<=100000/\∃W:Nat->List D->Prop,W 0 []/\(∀k x ys,items[k]?=be x->(nf=true->ys.length=k)->W k ys->tt (z++[be x]) λb=>okB nf b (te (z++[be x]) λy=>W (k+1) (ys++[y])) (W (k+1) ys))/\∀ys,(nf=true->ys.length=items.length)->W items.length ys->R (.lst ys)
def cmpP(te:TD)(z:SD)(R:D->Prop)(items:List D):Prop:=items.length<=100000/\∃W:Nat->List D->Prop,W 0 []/\(∀k x ys,items[k]?=be x->ys.length=k->W k ys->te (z++[be x]) λy=>W (k+1) (ys++[y]))/\∀ys,ys.length=items.length->W items.length ys->R (.lst ys)
def gO(ti:TDI)(te:TD):TD:=λz R=>ti z (cmpP te z R)
def dT1:TDT:=λ_ R=>R true
abbrev DIf(X:Cx)[Jx](i8:List P3)(t:TDT):Prop:=PIf X i8 (lT X.K t)
variable{X:Cx}
def gP[Jx]:DIf X [] dT1:=pif_nil.anti λs H Q q=>by
 obtain⟨B,F,z,kf,rs,R,h1,h2⟩:=q;exact h2 true F H (Grow.refl kf.fh) h1
structure ItIs(K:Ex)(J:It)(F1 H1:Hp)(items:List D):Prop where
 go:∀k F' H',Grow F1 H1 F' H'->k<items.length->J.go k H'
 yld:∀k F' H' x H'',Grow F1 H1 F' H'->k<items.length->J.yld k H' x H''->H''=H'/\∃d,items[k]?=be d/\Rep K F' d x
 stop:∀F' H',Grow F1 H1 F' H'->J.stop items.length H'
def ItOk[Jx](K:Ex)(wi:TI)(ti:TDI):Prop:=∀{s:L2.St} {H B F:Hp} {z:SD} {P:List D->Prop} {Q:It->Hp->Prop},Kept B Jx.F0 F H->RepS K B F H z s->ti z P->(∀items J F1 H1,Grow F H F1 H1->P items->ItIs K J F1 H1 items->Q J H1)->wi s H Q
section
variable {X:Cx}
variable{K:Ex}{H:Hp}{s:L2.St}{R:My.D->Prop}{items:List My.D}
def km[Jx]{B F F1 H1:Hp}{z:SD}{Q:VK}{nf:Bool}{tt:TDT}{te:TD}{J:It}(kf:Kept B Jx.F0 F H)(g1:Grow F H F1 H1)(rs:RepS K B F H z s)(h2:∀D ys us F' H',H D=q8->F' D=q8->Grow F H F' H'->H' D=be (.lst us)->Reps K F' ys us->R (.lst ys)->Q (.ref D) H')
    (it:ItIs K J F1 H1 items) (hd:cmpG nf tt te z R items):
    ∀D,H1 D=q8->∃W:Nat->Nat->Hp->Prop,(∃m,W 0 m (upd H1 D (.lst [])))/\∀i m H,W i m H->
      (J.stop i H/\Q (.ref D) H)\/(J.go i H/\∀x H',J.yld i H x H'->lT K tt (s++[be x]) H' λb H1=>if b=true then lE K te (s++[be x]) H1 λy H''=>∃vs,H'' D=be (.lst vs)/\vs.length<sizeLine/\∃m',m'<m/\W (i+1) m' (upd H'' D (.lst (vs++[y])))else ∃m',m'<m/\W (i+1) m' H1):=by
  intro D hD;obtain⟨hz,W,w0,c9,out⟩:=hd;have QF:F1 D=none:=g1.fh.free hD;have hH:H D=none:=g1.hh.free hD;refine⟨λk m H'=>m=items.length-k/\k<=items.length/\∃F' ys us,Grow F1 H1 F' H'/\H' D=be (.lst us)/\F' D=q8/\Reps K F' ys us/\(ys.length<=k/\(nf=true->ys.length=k))/\W k ys,
    #[items.length,Kv,GI _,F1,[],[],#[Same.refl F1,g1.fh.trans (aP hD _),aP hD _,λb h _=>h],aB,QF,reps_nil.mpr rfl,#[Gg _,λ_=>rfl],w0],?_⟩
  rintro k m H'⟨rfl,hk,F',ys,us,G,hu,hF,ry,hl,w⟩;by_cases f6:k<items.length
  . refine .inr #[it.go k F' H' G f6,λx H'' hy=>?_];obtain⟨e,d,hd,rd⟩:=it.yld k F' H' x H'' G f6 hy;subst e;refine#[B,F',z++[be d],kf.grow (g1.trans G),(rs.grow (g1.trans G)).snoc rd,_,c9 k d ys hd hl.2 w,λb F3 H3 g3 hb=>?_];have Np:H3 D=be (.lst us):=g3.hh D _ hu;have Mu:F3 D=none:=g3.out D hF (by rw[hu];exact λq=>nomatch q);cases b with
    |false=>
      cases nf with
      |true=>exact hb.elim
      |false=>exact#[items.length-(k+1),Kn,rfl,Kn,F3,ys,us,G.trans g3,Np,Mu,ry.mono g3.ff,#[Kn,λz=>nomatch z],hb]
    |true=>
    refine#[B,F3,z++[be d],(kf.grow (g1.trans G)).grow g3,((rs.grow (g1.trans G)).snoc rd).grow g3,_,(show te _ _ from by cases nf<;>exact hb),λy yv F2 H2 g2 hw rv=>?_];have QG:H2 D=be (.lst us):=g2.hh D _ Np;have JP:F2 D=none:=g2.out D Mu (by rw[Np];exact λq=>nomatch q);have RL:us.length<=k:=by rw[ry.length];exact hl.1
    refine⟨us,QG,by     have:(100000:Nat)<sizeLine:=by decide
                        lia,items.length-(k+1),Kn,rfl,Kn,F2,ys++[y],us++[yv],?_,aB,JP,((ry.mono g3.ff).mono g2.ff).append (eJ rv),#[Pa,λz=>by simp[hl.2 z]],hw⟩
    have GG:=(G.trans g3).trans g2;refine#[GG.ff,λb o e=>?_,λb o e=>?_,GG.out]
    . have ne:b≠D:=λq=>by rw[q,JP]at e;cases e
      rw[au ne];exact GG.fh b o e
    . have ne:b≠D:=λq=>by rw[q,hD]at e;cases e
      rw[au ne];exact GG.hh b o e
  . have ek:k=items.length:=by lia
    subst ek;exact .inl #[it.stop F' H' G,h2 D ys us F' H' hH hF (g1.trans G) hu ry (out ys hl.2 w)]
def zd{F F' H':Hp}{D:KF}{us:List V}(GG:Grow F H F' H')(hu:H' D=be (.lst us))(hF:F' D=q8)(hH:H D=q8):Grow F H (upd F' D (.lst us)) H':=by
 refine#[GG.ff.trans (aP hF _),λb o e=>?_,GG.hh,λb h1 h3=>?_]
 .by_cases hb:b=D
  .subst hb;rw[aB]at e;cases e;exact hu
  .rw[au hb]at e;exact GG.fh b o e
 .have ne:b≠D:=λq=>h3 (q ▸ hH);rw[au ne];exact GG.out b h1 h3
variable {f9 iter:P3}{i8:List P3}{x:C_}{px pos:Sr}{scope:SK}{ti te:TD}{tt:TDT}{wi:TI}{u9:TDI}
def sB[Jx]{nf:Bool}{G:SD->(D->Prop)->List D->Prop}(hG:∀z R items,G z R items->cmpG nf tt te z R items)(hI:ItOk K wi u9){Q:VK}(q:lE K (λz R=>u9 z (G z R)) s H Q):fT wi (lT K tt) (lE K te) s H Q:=by
 obtain⟨B,F,z,kf,rs,R,h1,h2⟩:=q;exact hI kf rs h1 λitems J F1 H1 g1 hg it=>km kf g1 rs (λD ys us F' H' hH hF GG hu ry hR=>h2 (.lst ys) (.ref D) _ H' (zd GG hu hF hH) hR (rep_lst.mpr #[D,us,rfl,aB,ry.mono (aP hF _)])) it (hG _ _ _ hg)
def cmpP.g{z:SD}(h:cmpP te z R items):cmpG true dT1 te z R items:=
 let ⟨hz,W,w0,c9,out⟩:=h
 #[hz,W,w0,λk x ys e l w=>c9 k x ys e (l rfl) w,λys l w=>out ys (l rfl) w]
def itL[Jx]:ItOk K (qk K (lE K ti)) (dItL ti):=λ{s H B F z P Q} kf rs h1 h2=>by
 refine#[B,F,z,kf,rs,_,h1,λd v F1 H1 g1 hd rd=>?_];have key:∀(items:List D) (p:KF) (vs:List V),SqL K F1 p vs->Reps K F1 items vs->P items->∃a,V.ref p=.ref a/\(∃xs,SqL K H1 a xs)/\Q (Itl K a) H1:=λitems p vs hq rr hd=>by
  refine#[p,rfl,#[vs,g1.fh.seq hq],h2 items _ F1 H1 g1 hd #[λk F' H' G hk=>?_,λk F' H' x H'' G hk hy=>?_,λF' H' G=>?_]]
  .have m8:k<vs.length:=by rw[rr.length];exact hk
   exact#[vs,vs[k],G.hh.seq (g1.fh.seq hq),by simp[m8]]
  .obtain⟨e,hy⟩:=hy;obtain⟨d,e2,r2⟩:=rr.get' (hy vs (G.hh.seq (g1.fh.seq hq)));exact#[e,d,e2,r2.mono G.ff]
  .exact#[vs,G.hh.seq (g1.fh.seq hq),by rw[rr.length];exact Gg _]
 split at hd
 .obtain⟨p,vs,rfl,hq,rr⟩:=rep_lst.mp rd;exact key _ p vs (SqL.of hq) rr hd
 .obtain⟨p,vs,rfl,hq,rr⟩:=rep_rol.mp rd;exact key _ p vs hq rr hd
 .exact hd.elim
def itR[Jx]:ItOk K (qm (qH (lE K ti) tNil)) (dItR ti):=λ{s H B F z P Q} kf rs h1 h2=>by
 refine#[B,F,z,kf,rs,_,h1,λd v F1 H1 g1 hd rd=>?_];split at hd
 .rename_i n;obtain⟨⟨b1,b2⟩,hd⟩:=hd;have hl:((Gj n.toNat).map λk=>D.int ((k:Nat):Int)).length=n.toNat:=by simp
  refine#[n,by rw[rep_int.mp rd],Kn,b2,h2 _ _ F1 H1 g1 hd #[λk F' H' G hk=>by rw[hl]at hk;exact hk,λk F' H' x H'' G hk hy=>?_,λF' H' G=>by show n.toNat<=_;rw[hl];exact Gg _]];rw[hl]at hk;obtain⟨e,rfl⟩:=hy;exact#[e,.int (k:Int),by simp[hk],rep_int.mpr (by congr 1;lia)]
 .exact hd.elim
def ko[Jx]{p1 p2:Sr}(hc:X.calm=true)(S:CompScope X scope x)(hm:X.mg "range"=q8)(hi:WDE X iter ti)(he:∀cl s₀ H₀ fp,WDE (bT X scope cl x s₀ H₀ fp) f9 te)(hg:autoParam (Gl X "range") zA0)
  (hs:autoParam (∀y,zFS X (.Call (.Name "range" p1) [iter] [] p2) y) zA2) (m7:autoParam (zSE X iter []) zA0) (f7:autoParam (Si [iter] X.env=[(false,So iter X.env)]) zA0):WDE X (.ListComp f9 [#[.Name x px,.Call (.Name "range" p1) [iter] [] p2,[],0]] scope pos) (gO (dItR ti) te):=#[have hi:=hi.out;have he:=λcl s₀ H₀ fp=>(he cl s₀ H₀ fp).out;(sy hc S (gB hg hm (bf hi pa_nil m7) f7) (λ_ _ _ _=>gP) he hs).anti λs H Q q=>sB (λ_ _ _=>cmpP.g) itR q]
def ze[Jx]{E:Ends}{ix:Nat}(hI:ItOk K wi u9)(q:lS K (dSet ix (gO u9 te)) E s H):tAsg (fT wi (lT K dT1) (lE K te)) (fC ix) E s H:=by
 obtain⟨B,F0,F,z,k,rs,ED,⟨P,h,j⟩,e⟩:=q;exact sB (λ_ _ _=>cmpP.g) hI #[B,F,z,k.kf,rs,P,h,λd v F' H' g hd rd=>e.nx _ _ F' H' (k.grow g) (j d hd) ((rs.grow g).set rd)]
def zf[Jx](ix:Nat){y:C_}{py l7:Sr}(hc:X.calm=true)(S:CompScope X scope x)(hN:X.N.Nodup)(hi:WDE X iter ti)(he:∀cl s₀ H₀ fp,WDE (bT X scope cl x s₀ H₀ fp) f9 te)(Ly:autoParam (X.N[ix]?=be y) zA0)(hy:autoParam (Loc X.env.scope y) zA4)
  (hf:autoParam (zFN X y) zA3) (I_:autoParam (SA (.ListComp f9 [#[.Name x px,iter,[],0]] scope pos) (be (.Name y py)) l7.line X.env=pure true) zA0) (hs:autoParam (∀y,zFS X iter y) zA2):WDS X (.Assign [.Name y py] (.ListComp f9 [#[.Name x px,iter,[],0]] scope pos) l7) (dSet ix (gO (dItL ti) te)):=#[have hi:=hi.out;have he:=λcl s₀ H₀ fp=>(he cl s₀ H₀ fp).out;(sA hc S (jD hi) (λ_ _ _ _=>gP) he hN Ly hy hf I_ hs).anti λE s H q=>ze itL q]
end
def eN(scope fsc:SK):List (C_×SX):=scope.names.map λ(n,k)=>if(k==NameKind.free&&fsc.kind== .function&&fsc.names.lookup n==be .cell)then(n,NameKind.cell)else(n,k)
def visB(l:List (C_×SX))(n:C_):Bool:=l.lookup n==be .local||l.lookup n==be .cell||l.lookup n==be .free
def cR(scope fsc:SK)(N:List C_)(x:C_):Bool:=
 scope.kind== .function&&scope.names.all (λy=>!(y.2== .cell))&&scope.names.all (λy=>!(y.2== .local)||scope.names.lookup y.1==be .local)&&scope.names.lookup x==be .local &&
 scope.names.all (λy=>!(y.2== .free)||fsc.names.lookup y.1==be .cell)&&N.all (λn=>decide (n=x)||!visB (eN scope fsc) n||scope.names.any (λy=>decide (y=(n,NameKind.free))))&&!visB (eN scope fsc) "" &&
 scope.names.all (λy=>!(y.2== .free)||(eN scope fsc).lookup y.1==be .cell)&&decide (N.map (λn=>if n=x then("":C_)else n)++[x]).Nodup
def sC{l:List (C_×SX)}{n:C_}(h:l.lookup n=be .local\/l.lookup n=be .cell\/l.lookup n=be .free):visB l n=true:=by
 unfold visB;rcases h with h|h|h<;>rw[h]<;>rfl
def compScope{scope:SK}{x:C_}(h:cR scope X.env.scope X.N x=true):CompScope X scope x:=by
 unfold cR at h;simp only[GF]at h;obtain⟨⟨⟨⟨⟨⟨⟨⟨h1,h2⟩,h3⟩,h4⟩,h5⟩,h6⟩,h7⟩,h8⟩,h9⟩:=h;have er:(Uj scope X.env).names=eN scope X.env.scope:=rfl;refine#[by simpa using h1,λy hy=>?_,λy hy e=>?_,by simpa using h4,λn hn=>?_,λn hn ne v=>?_,λv=>?_,λn hn=>?_,of_decide_eq_true h9]
 .have:=G4.mp h2 y hy;simpa using this
 .have:=G4.mp h3 y hy;rw[e]at this;simpa using this
 .have:=G4.mp h5 _ hn;show X.env.scope.names.lookup n=be .cell;simpa using this
 .have:=G4.mp h6 n hn;have v':visB (eN scope X.env.scope) n=true:=sC v;rw[v']at this;simp[ne]at this;exact this
 .have v':visB (eN scope X.env.scope) ""=true:=sC v;rw[v']at h7;cases h7
 .have:=G4.mp h8 _ hn;rw[er];simpa using this
def putD(f:C_)(v:D):List (C_×D)->List (C_×D)
 |[]=>[(f,v)]
 |(g,x)::r=>if g=f then(g,v)::r else(g,x)::putD f v r
def RepF.put{K:Ex}{F:Hp}{f:C_}{d:D}{v:V}(r:Rep K F d v):∀{fs:List (C_×D)} {ws:List (C_×V)},RepF K F fs ws->RepF K F (putD f d fs) (putF f v ws)
 |[],ws,h=>by
  rw[repf_nil.mp h];exact repf_cons.mpr #[v,[],rfl,r,repf_nil.mpr rfl]
 |(g,x)::fs,ws,h=>by
  obtain⟨w,Kx,rfl,h1,h2⟩:=repf_cons.mp h;unfold putD putF;by_cases e:g=f
  .rw[if_pos e,if_pos e];exact repf_cons.mpr #[v,Kx,rfl,r,h2]
  .rw[if_neg e,if_neg e];exact repf_cons.mpr #[w,_,rfl,h1,RepF.put r h2]
def RepF.length{K:Ex}{F:Hp}:∀{fs:List (C_×D)} {ws:List (C_×V)},RepF K F fs ws->ws.length=fs.length
 |[],ws,h=>by rw[repf_nil.mp h];rfl
 |(g,x)::fs,ws,h=>by
  obtain⟨w,Kx,rfl,h1,h2⟩:=repf_cons.mp h;rw[Gv,Gv,RepF.length h2]
def ClsA(K:Ex)(x f:C_):Prop:=∃C,nsIn K Pi x=be (be (.ref C))/\Cls K C/\NoAttr K C f
section
variable {X:Cx}{a b c e:P3}{ta tb tc te:TD}{pos:Sr}
def dFld(x f:C_)(te:TD):TD:=λz R=>te z λd=>match d with|.obj y fs=>y=x/\∃d,fs.lookup f=be d/\R d|_=>False
variable{x:C_}
def eO[Jx]{f:C_}(h:ClsA X.K x f)(he:WDE X e te)(hb:autoParam (Sn e f X.env (So e X.env)=So e X.env) zA0):WDE X (.Attribute e f pos) (dFld x f te):=⟨have he:=he.out;(qF he hb).anti λs H Q q=>by
 obtain⟨C,hn,hc,hf⟩:=h;obtain⟨B,F,z,kf,rs,R,h1,h2⟩:=q;have fh:=kf.fh;refine#[B,F,z,kf,rs,_,h1,λd u F1 H1 g1 hx rx=>?_];split at hx
 .obtain⟨rfl,d,hl,hR⟩:=hx;obtain⟨a,C',dx,vs,rfl,j5,q,r⟩:=rep_obj.mp rx;rw[hn]at j5;cases j5;obtain⟨v,l,rv⟩:=r.look hl;exact#[a,C,dx,vs,v,rfl,g1.fh _ _ q,hc,hf,l,h2 d v F1 H1 g1 hR rv]
 .exact hx.elim⟩
def sE[Jx]{d:D}{v:V}{u:KB}(hm:X.mg x=be u)(r:RelV v u)(rd:∀H,Rep X.K H d v)(hg:autoParam (Gl X x) zA0)(hd:autoParam (zND x) zA1):DE X (.Name x pos) (dC d):=de_c (pZ hg hm r hd) rd
def cS[Jx]{i:Int}(h:∃t,X.mg x=be (.int i t))(hg:autoParam (Gl X x) zA0)(hd:autoParam (zND x) zA1):WDE X (.Name x pos) (dC (.int i)):=⟨by
 obtain⟨t,h⟩:=h;exact sE (v:=.int i) h #[t,rfl] (λ_=>rep_int.mpr rfl) hg hd⟩
def eQ[Jx]{y:C_}(h:∃t,X.mg x=be (.str y t))(hg:autoParam (Gl X x) zA0)(hd:autoParam (zND x) zA1):WDE X (.Name x pos) (dC (.str y)):=⟨by
 obtain⟨t,h⟩:=h;exact sE (v:=.str y) h #[t,rfl] (λ_=>rep_str.mpr rfl) hg hd⟩
end
abbrev SiD:=List D->(List (C_×D)->Prop)->Prop
def lSi(K:Ex)(C:KF)(S:SiD):Sp:=λvs H Q _=>∃a dx us H1 F ds,vs=.ref a::us/\H=upd (upd H1 dx (.own a)) a (.ins C dx [])/\H1 a=q8/\H1 dx=q8/\dx≠a/\Same F H1/\Reps K F ds us/\
 ∃R:List (C_×D)->Prop,S ds R/\∀fs ws JQ F' H',Grow F H1 F' H'->R fs->H' a=be (.ins C JQ ws)->F' a=q8->RepF K F' fs ws->Q .non H'
def CalM(P:Sd)(w:Sj)(K:Ex)(mg:C_->Option KB)(base:Sl)(n:Nat)(x:C_)(ps:List C_)(S:SiD):Prop:=
 ∃C f fd,nsIn K Pi x=be (be (.ref C))/\mg x=be (.ref C)/\Mk K C f/\FnOk P w K mg base (Exc.CX1 P w) n f fd ps (lSi K C S)/\Binds K fd ps []
def zg(x:C_)(S:SiD)(t:TDA):TD:=λz R=>t z λds=>S ds λfs=>R (.obj x fs)
def kq[Jx]{pos:Sr}{n m:Nat}{ps:List C_}{S:SiD}{x:C_}{p:Sr}{e:P3}{es:List P3}{t:TDA}(M:CalM X.prog X.w X.K X.mg X.base n x ps S)(hr:Room m X.A)(ha:WDA X (e::es) t)(hg:autoParam (Gl X x) zA0)(hn:autoParam (n+1<=m) zA1)(d8:autoParam (zND x) zA1)
  (he:autoParam (zSE X e es) zA0) (c_:autoParam (zPL X pos es) zA0):WDE X (.Call (.Name x p) (e::es) [] pos) (zg x S t):=⟨by
 have ha:=ha.out;obtain⟨C,f,fd,hns,i9,mk,F,hb⟩:=M;refine(gG mk F (hr.mono hn) hg i9 hb .nil fF ha d8 he c_).anti λs H Q q=>?_;obtain⟨B,F,z,kf,rs,R,h1,h2⟩:=q;have fh:=kf.fh;refine#[B,F,z,kf,rs,_,h1,λds vs F1 H1 g1 hx rx=>?_];intro a dx ha m9 m_;refine#[a,dx,vs,H1,F1,ds,by rw[GS],rfl,ha,m9,m_,g1.fh,rx,_,hx,λfs ws JQ F' H' g hR k6 o_ rf=>#[rfl,?_]];have s1:Same F' (upd F' a (.ins C JQ ws)):=aP o_ _;refine h2 (.obj x fs) (.ref a) (upd F' a (.ins C JQ ws)) H' #[(g1.ff.trans g.ff).trans s1,λb o q=>?_,g1.hh.trans g.hh,λb q1 q2=>?_] hR (rep_obj.mpr #[a,C,JQ,ws,rfl,hns,aB,RepF.mono s1 fs ws rf])
 .by_cases hb:b=a
  .subst hb;rw[aB]at q;cases q;exact k6
  .rw[au hb]at q;exact g.fh b o q
 .by_cases hb:b=a
  .subst hb;exact absurd (g1.hh.free ha) q2
  .rw[au hb];exact(g1.trans g).out b q1 q2⟩
abbrev TID:=SD->List (C_×D)->(List (C_×D)->Prop)->Prop
def lI(K:Ex)[J:Jx](x:C_)(t:TID):TS:=λE σ H=>∃C a dx ws F z fs,nsIn K Pi x=be (be (.ref C))/\σ[0]?=be (be (.ref a))/\H a=be (.ins C dx ws)/\J.B a=q8/\F a=q8/\Kept J.B J.F0 F H/\RepS K J.B F H z σ/\RepF K F fs ws/\
 ∃R:List (C_×D)->Prop,t z fs R/\∀o7 Kx F' H',Kept J.B J.F0 F' H'->R o7->H' a=be (.ins C dx Kx)->F' a=q8->RepF K F' o7 Kx->E.nx σ H'
abbrev DI(X:Cx)[Jx](x:C_)(st:List Se)(t:TID):Prop:=PSs X st (lI X.K x t)
structure WDI(X:Cx)[Jx](x:Str)(st:List Se)(t:TID):Prop where
 out:DI X x st t
section
variable {X:Cx}{x f:C_}{e:P3}{te:TD}{pos e8 p:Sr}{b7:List Se}{tr:TID}
def zh:TID:=λ_ fs R=>R fs
def zi(f:C_)(te:TD)(tr:TID):TID:=λz fs R=>te z λd=>fs.length<1000/\tr z (putD f d fs) R
def dJ[Jx]:WDI X x [] zh:=⟨pss_nil.anti λE s H q=>by
 obtain⟨C,a,dx,ws,F,z,fs,hn,h0,k6,l8,o_,g,rs,rf,R,hR,k⟩:=q;exact k fs ws F H g hR k6 o_ rf⟩
def RepS.other{K:Ex}{B F H:Hp}{z:SD}{σ:L2.St}{a:KF}{o o':HO}(rs:RepS K B F H z σ)(h:H a=be o)(hl:∀vs,o≠.lst vs):RepS K B F (upd H a o') z σ:=
 ⟨rs.len,rs.val,λi ds e=>by
  obtain⟨b,vs,q1,q2,q⟩:=rs.own i ds e;have ne:b≠a:=by
   rintro rfl;rw[h]at q2;cases q2;exact hl vs rfl
  exact#[b,vs,q1,by rw[au ne];exact q2,q],rs.apart⟩
def bK[J:Jx]{ps:Sr}{sx:C_}(hA:ClsA X.K x f)(he:WDE X e te)(hr:WDI X x b7 tr)(hN:autoParam (X.N[0]?=be sx) zA0)(hv:autoParam (Vis X.env.scope sx) zA5)(hd:autoParam (zND sx) zA1)
  (gV:autoParam (zNC sx) zA1) (hs:autoParam (SA e (be (.Attribute (.Name sx ps) f e8)) pos.line X.env=pure false) zA0):WDI X x (.Assign [.Attribute (.Name sx ps) f e8] e pos::b7) (zi f te tr):=⟨have he:=he.out;have hr:=hr.out;(gy (qG (dB (i:=0) hN hv hd gV) he hs) hr).anti λE s H q=>by
 obtain⟨C,a,dx,ws,F,z,fs,hn,h0,k6,l8,o_,g,rs,rf,R,hR,k⟩:=q;obtain⟨C',j5,hc,hf⟩:=hA;rw[hn]at j5;cases j5;refine#[_,F,z,g,rs,_,hR,λd v F2 H2 g2 hx rv=>?_];have k2:=g.grow g2;have Pg:=g2.hh a _ k6;have JP:F2 a=none:=g2.out a o_ (by rw[k6];exact λz=>nomatch z);refine#[.ref a,h0,a,C,dx,ws,rfl,Pg,hc,hf,by rw[rf.length];exact hx.1,?_];have QH:Same F2 (upd H2 a (.ins C dx (putF f v ws))):=λb o q=>by
  have ne:b≠a:=by rintro rfl;rw[JP]at q;cases q
  rw[au ne];exact g2.fh b o q
 have z6:Same J.B (upd H2 a (.ins C dx (putF f v ws))):=λb o q=>by
  have ne:b≠a:=by rintro rfl;rw[l8]at q;cases q
  rw[au ne];exact k2.bh b o q
 exact#[C,a,dx,putF f v ws,F2,z,putD f d fs,hn,h0,aB,l8,JP,#[z6,QH,k2.f0,k2.out,k2.eb,k2.jf,k2.jo],(rs.grow g2).other Pg (λ_ z=>nomatch z),RepF.put rv (RepF.mono g2.ff fs ws rf),R,hx.2,k]⟩
end
section
variable {P:Sd}{w:Sj}{K:Ex}{mg:C_->Option KB}{base:Sl}
def zj{K:Ex}{B F H:Hp}{z:SD}{σ:L2.St}{v:V}(rs:RepS K B F H z σ):RepS K B F H (q8::z) (be v::σ):=
  ⟨by rw[Gv,Gv,rs.len],λi d e no=>by
    cases i with
    |zero=>cases e
    |succ i=>exact rs.val i d e no,λi ds e=>by
    cases i with
    |zero=>cases e
    |succ i=>exact rs.own i ds e,λi j di dj a e1 e2 e3 e4=>by
    cases i with
    |zero=>cases e1
    |succ i=>
      cases j with
      |zero=>cases e2
      |succ j=>rw[rs.apart i j di dj a e1 e2 e3 e4]⟩
def Cls.okI{x qual:C_}{st:Se}{f C:KF}{fd:Sq}{N:List C_}{p0:C_}{ps:List C_}{k:Nat}{S:SiD}(T:Fun K "__init__" qual st f fd)(hb:Binds K fd (p0::ps) [])(F:FnScope (p0::N) (p0::ps) (ah st))(len:∀ds R,S ds R->ds.length=ps.length)
  (hns:nsIn K Pi x=be (be (.ref C))) (i9:mg x=be (.ref C)) (mk:Mk K C f)
  (a_:∀(cdv:KB) (A:Sk) (outer:List S1) (s:KM) (H:Hp) (E:XK) (J:Jx),Room k (A.deeper (Su qual (ah st) s.heap.objs.size f cdv))->
   ∃t,DI (cxOf (Exc.CX1 P w) P w K mg base (p0::N) qual (ah st) f cdv A outer s H E).nox x (aJ st) t/\∀ds R,S ds R->t (q8::startD N ds) [] R):CalM P w K mg base (k+1) x (p0::ps) S:=by
 refine#[C,f,fd,hns,i9,mk,Fun.okC T F (λvs H Q E h=>?_) (λcdv A outer s H vs Q E hr h=>?_),hb]
 .obtain⟨a,dx,us,H1,F,ds,rfl,_,_,_,_,_,rs,R,h,_⟩:=h;rw[Gv,Gv,rs.length,len ds R h]
 .obtain⟨a,dx,us,H1,F1,ds,rfl,rfl,ha,m9,m_,fh,rs,R,h,q⟩:=h
  letI:Jx:=#[H1,F1,λ_ _ _=>False]
  obtain⟨t,ht,hq⟩:=a_ cdv A outer s _ E inferInstance hr;have Fa:F1 a=none:=fh.free ha;have hl:L2.start (p0::N) (.ref a::us)=be (.ref a)::L2.start N us:=by
   unfold L2.start;rw[GJ,Gv,Gv,Nat.add_sub_add_right];rfl
  have s1:Same H1 (upd (upd H1 dx (.own a)) a (.ins C dx [])):=(aP m9 _).trans (aP (by rw[au (Ne.symm m_)];exact ha) _);refine#[_,ht.nox,C,a,dx,[],F1,q8::startD N ds,[],hns,by rw[hl];rfl,aB,ha,Fa,#[s1,fh.trans s1,Same.refl F1,λ_ h _=>h,rfl,Same.refl F1,λ_ h _=>h],?_,repf_nil.mpr rfl,R,hq ds R h,λo7 Kx F' H' g hR k6 o_ rf=>q o7 Kx dx F' H' #[g.f0,g.fh,g.bh,g.out] hR k6 o_ rf];rw[hl];exact zj (dF rs)
end
section
variable {X:Cx}{a b c e:P3}{ta tb tc te:TD}{pos:Sr}
def zk(t u:TD):TDI:=λz R=>t z λx=>u z λy=>match x,y with|.int i,.int j=>(-(2^62)<=i/\i<2^62/\-(2^62)<=j/\j<2^62)/\R ((Gj (j-i).toNat).map λk=>D.int (i+((k:Nat):Int)))|_,_=>False
def zl[Jx](i:Nat){x:C_}{p p1 p2:Sr}{body:List Se}{Ph:TSD}(hp:SB (Sf X.prog X.w) X.A X.env X.xe)(hc:X.calm=true)(hN:X.N.Nodup)(hm:X.mg "range"=q8)(ha:WDE X a ta)(j7:WDE X b tb)(hb:WDSs X body Ph)(hg:autoParam (Gl X "range") zA0)(hi:autoParam (X.N[i]?=be x) zA0)(hx:autoParam (Loc X.env.scope x) zA4)
  (hf:autoParam (zFN X x) zA3) (hs:autoParam (∀y,zFS X (.Call (.Name "range" p1) [a,b] [] p2) y) zA2) (m7:autoParam (zSE X a [b]) zA0) (Nq:autoParam (zSE X b []) zA0) (f7:autoParam (Si [a,b] X.env=[(false,So a X.env),(false,So b X.env)]) zA0) (Nr:autoParam (Si [b] X.env=[(false,So b X.env)]) zA0):WDS X (.For (.Name x p) (.Call (.Name "range" p1) [a,b] [] p2) body [] pos) (dFor i (zk ta tb) Ph):=⟨have ha:=ha.out;have j7:=j7.out;have hb:=hb.out;(cF hp hc (wz hg hm (bf ha (bf j7 pa_nil Nq) m7) f7 Nr) (dE hN hi hx hf) hb hs).anti λE s H q=>by
 obtain⟨B,F0,F,z,kp,rs,ED,h,e⟩:=q;refine#[B,F,z,kp.kf,rs,_,h,λd1 v1 F1 H1 g1 h1 r1=>?_];refine#[B,F1,z,kp.kf.grow g1,rs.grow g1,_,h1,λd2 v2 F2 H2 g2 h2 r2=>?_];split at h2
 .rename_i lo u_;obtain⟨bd,W,w0,c9,out⟩:=h2;have hl:((Gj (u_-lo).toNat).map λk=>D.int (lo+((k:Nat):Int))).length=(u_-lo).toNat:=by simp
  refine#[lo,u_,by rw[rep_int.mp r1,rep_int.mp r2],bd,jF (lo:=lo) (n:=(u_-lo).toNat) (λk s' H'=>∃F' z',Kept B F0 F' H'/\RepS X.K B F' H' z' s'/\W k z') #[F2,z,(kp.grow g1).grow g2,(rs.grow g1).grow g2,w0] ?_ ?_]
  .rintro k s' H' hk⟨F',z',k',r',w'⟩;exact#[B,F0,F',_,k',r'.set (d:=.int (lo+(k:Int))) (rep_int.mpr rfl),_,c9 k (.int (lo+(k:Int))) z' (by simp[hk]) w',#[λz3 s3 F3 H3 k3 h3 r3=>#[F3,z3,k3,r3,h3],e.rt,e.nx,λz3 s3 F3 H3 k3 h3 r3=>#[F3,z3,k3,r3,h3]]]
  .rintro s' H'⟨F',z',k',r',w'⟩;exact e.nx z' s' F' H' k' (out z' (by rw[hl];exact w')) r'
 .exact h2.elim⟩
def RepS.change[Jx]{K:Ex}{B F0 F H:Hp}{z:SD}{s:L2.St}{i:Nat}{ds Nt:List D}{a:KF}{n4:List V}(rs:RepS K B F H z s)(k:Kept B F0 F H)(ez:z[i]?=be (be (.own ds)))(q1:s[i]?=be (be (.ref a)))(hB:B a=q8)(hF:F a=q8)(r:Reps K F Nt n4):
  Kept B F0 F (upd H a (.lst n4))/\RepS K B F (upd H a (.lst n4)) (z.set i (be (.own Nt))) s:=by
 have same:∀{G:Hp},G a=q8->Same G H->Same G (upd H a (.lst n4)):=λ{G} ga gs b o eb=>by
  have ne:b≠a:=λz=>by rw[z,ga]at eb;cases eb
  rw[au ne];exact gs b o eb
 have r2:=rs.setOwn (i:=i) (a:=a) (vs:=n4) (ds:=Nt) hB hF r (λj dj hj e1 e2=>hj (rs.apart j i dj ds a e1 ez e2 q1));have es:s.set i (be (.ref a))=s:=by
  apply Hq;intro n;by_cases hn:i=n
  .subst hn;rw[GU (Gq.mp q1).1,q1]
  .rw[Gs hn]
 rw[es]at r2;exact#[#[same hB k.bh,same hF k.fh,k.f0,k.out,k.eb,k.jf,k.jo],r2]
def Reps.put{K:Ex}{F:Hp}{d:D}{v:V}(r:Rep K F d v):∀{ds:List D} {vs:List V} (j:Nat),Reps K F ds vs->Reps K F (ds.set j d) (vs.set j v)
 |[],vs,j,h=>by rw[reps_nil.mp h];exact reps_nil.mpr rfl
 |x::ds,vs,0,h=>by
  obtain⟨u,us,rfl,h1,h2⟩:=reps_cons.mp h;exact reps_cons.mpr #[v,us,rfl,r,h2]
 |x::ds,vs,j+1,h=>by
  obtain⟨u,us,rfl,h1,h2⟩:=reps_cons.mp h;exact reps_cons.mpr #[u,_,rfl,h1,Reps.put r j h2]
def sF(i:Nat)(te ti:TD):TSD:=λE z=>match z[i]? with
 |some (be (.own ds))=>te z λd=>ti z λy=>match y with|.int k=>∃j,ixN ds.length k=be j/\E.nx (z.set i (be (.own (ds.set j d))))|_=>False
 |_=>False
def zm[Jx](i:Nat){x:C_}{p1 p2:Sr}(he:WDE X e te)(hb:WDE X b tb)(hN:autoParam (X.N[i]?=be x) zA0)(hv:autoParam (Vis X.env.scope x) zA5)(hd:autoParam (zND x) zA1)
  (gV:autoParam (zNC x) zA1)
  (ha:∀v,SS (.Subscript (.Name x p1) b p2) X.env v=(do
   let ov <-SG [v] (So (.Name x p1) X.env)
   let iv <-SG [v,ov] (So b X.env)
   S5 p2
   SG [v,ov,iv] (Tw ov iv v)
   TY [v,ov,iv] []):=by intro _;rfl)
  (hs:autoParam (SM [.Subscript (.Name x p1) b p2] e pos.line X.env=pure false) zA0) (hw:autoParam (SN [.Subscript (.Name x p1) b p2] e X.env=pure none) zA0)
  (h1:autoParam ((Sm [.Subscript (.Name x p1) b p2] X.env).map (·.2)=[SS (.Subscript (.Name x p1) b p2) X.env]) zA0):WDS X (.Assign [.Subscript (.Name x p1) b p2] e pos) (sF i te tb):=⟨have he:=he.out;have hb:=hb.out;(gA he (qi (dB hN hv hd gV) hb jN ha) hs hw h1).anti λE s H q=>by
 obtain⟨B,F0,F,z,k,rs,ED,h,e⟩:=q;unfold sF at h;split at h
 .rename_i ds ez;refine#[B,F,z,k.kf,rs,_,h,λd v F1 H1 g1 hx rv=>?_];obtain⟨a,vs,q1,q2,q3,q4,q5⟩:=(rs.grow g1).own i ds ez;refine#[.ref a,q1,B,F1,z,k.kf.grow g1,rs.grow g1,_,hx,λy w F2 H2 g2 hy ry=>?_];split at hy
  .obtain⟨j,ej,hn⟩:=hy;have r2:=(rs.grow g1).grow g2;have k2:=(k.grow g1).grow g2;have JP:F2 a=none:=g2.out a q4 (by rw[q2];exact λz=>nomatch z);refine#[a,vs,_,j,rfl,rep_int.mp ry,g2.hh _ _ q2,by rw[q5.length];exact ej,?_];obtain⟨k3,r3⟩:=r2.change k2 ez q1 q3 JP (Reps.put (rv.mono g2.ff) j (q5.mono g2.ff));exact e.nx _ s F2 _ k3 hn r3
  .exact hy.elim
 .exact h.elim⟩
end
end My
namespace My
open Exc
abbrev XD:=C_->List (C_×D)->Prop
def ErrD(K:Ex)(F:Hp)(x:C_)(fs:List (C_×D))(C:KF)(od:Option KF):Prop:=
 nsIn K Pi x=be (be (.ref C))/\∃vs,RepF K F fs vs/\((od=q8/\vs=[])\/∃b,od=be b/\F b=be (.xd vs))
abbrev SpX:=List D->(D->Prop)->XD->Prop
def lSpX(K:Ex)(S:SpX):Sp:=λvs H Q E=>∃F ds,Same F H/\Reps K F ds vs/\∃(R:D->Prop) (RX:XD),S ds R RX/\(∀d v F' H',Grow F H F' H'->R d->Rep K F' d v->Q v H')/\
 ∀x fs C od F' H',Grow F H F' H'->RX x fs->ErrD K F' x fs C od->E (.ref C) od H'
def Exd(X:Cx)(H:Hp)(s:KM)(e C:KF)(od:Option KF):Prop:=
  H e=q8/\X.s₀.heap.get? e=q8/\(∀p∈X.pn,p.1≠e)/\
  ((∃sl vs,s.heap.get? e=be #[.ref C,od,.fields vs,sl]/\vs[1]?=be .none)\/
    ∃T,ExAt s.heap e C od T .none/\X.s₀.heap.get? T=q8/\H T=q8/\∀p∈X.pn,p.1≠T)
def XOk(X:Cx)[J:Jx]:Prop:=∀(σ:L2.St) (z:SD) (F H:Hp) (s:KM) (e C:KF) (od:Option KF) (x:C_) (fs:List (C_×D)),Inv X [] σ H s->Kept J.B J.F0 F H->RepS X.K J.B F H z σ->J.RX z x fs->ErrD X.K F x fs C od->Exd X H s e C od->X.xe (.ref e) s
variable{X:Cx}{pins:List (KF×Sx)}{σ:L2.St}{H:Hp}{s:KM}
def Inv.nopins(I:Inv X pins σ H s):Inv X [] σ H s:=I.pins_of λp hp=>by cases hp
section
variable {X:Cx}{k:Nat}{f:KF}{fd:Sq}{ps:List C_}{sp:Sp}{E:XK}
def gQ{pins:List (KF×Sx)}{σ:L2.St}{H:Hp}{s:KM}{Q:VK}{us:List KB}{vs:List V}(F:FnOk X.prog X.w X.K X.mg X.base (CX1 X.prog X.w) k f fd ps sp)(hr:Room k X.A)(hb:Binds X.K fd ps [])
  (hx:∀e s',CX1 X.prog X.w X.stack H s E e s'->X.xe e s') (I:Inv X pins σ H s) (r:Vals vs us) (h:sp vs H Q E):Sg (Sf X.prog X.w) X.A (call (.ref f) us) (EP X pins σ Q) X.xe s:=by
 have hl:us.length=ps.length:=by rw[<-L2.Vals.length r];exact F.len _ _ _ _ h
 have j7:=hb s us I.kIn (by rw[GS];exact hl);rw[GS]at j7;refine Tg (S' (F.run X.A X.stack s H #[us,[]] us vs Q E hr I.env0 j7 r h) λr s' hq=>?_);cases r with
 |error e=>exact hx e s' hq
 |ok fl=>
  cases fl with
  |ret u=>exact I.after hq
  |next=>exact False.elim hq
  |brk=>exact False.elim hq
  |cont=>exact False.elim hq
end
def cT{b:KF}(I:Inv X pins σ H s)(f_:X.ex=[])(q:s.heap.get? b=q8):X.s₀.heap.get? b=none:=by
 cases z:X.s₀.heap.get? b with
 |none=>rfl
 |some o=>
  obtain⟨o',z'⟩:=I.base.there b o z (by rw[f_];simp);rw[q]at z';cases z'
def pn_free{b:KF}(I:Inv X pins σ H s)(q:s.heap.get? b=q8):∀p∈X.pn,p.1≠b:=λp hp z=>by
 have:=(I.pin p (Hk _ hp)).1;rw[z,q]at this;cases this
def XOk.out[J:Jx](hx:XOk X)(f_:X.ex=[]){z:SD}{s':KM}{ev:KB}(I:Inv X pins σ H s)
  (h:CX1 X.prog X.w X.stack H s (λCv od H'=>∃x fs C F',Cv=.ref C/\Kept J.B J.F0 F' H'/\RepS X.K J.B F' H' z σ/\J.RX z x fs/\ErrD X.K F' x fs C od) ev s'):X.xe ev s':=by
 obtain⟨e,C,od,T,H',rfl,F_,hb,un,hok,Nu,ne,nT,He,HT,x,fs,C',F',hC,kk,rr,hR,er⟩:=h;cases hC;have I':Inv X pins σ H' s':=I.call' F_ un hok hb (λb z=>absurd z Kv);exact hx σ z F' H' s' e C od x fs (Inv.nopins I') kk rr hR er #[He,cT I f_ ne,pn_free I ne,.inr #[T,Nu,cT I f_ nT,HT,pn_free I nT]]
abbrev CalX(P:Sd)(w:Sj)(K:Ex)(mg:C_->Option KB)(base:Sl)(n:Nat)(x:C_)(ps:List C_)(S:SpX):Prop:=Cal P w K mg base n x ps (lSpX K S)
def zn[J:Jx](S:SpX)(t:TDA):TD:=λz R=>t z λds=>S ds R (J.RX z)
variable{ps:List C_}{x:C_}
def sG[J:Jx]{pos:Sr}{n m:Nat}{S:SpX}{p:Sr}{e:P3}{es:List P3}{t:TDA}(C:CalX X.prog X.w X.K X.mg X.base n x ps S)(hx:XOk X)(hr:Room m X.A)(ha:WDA X (e::es) t)(f_:autoParam (X.ex=[]) zA0)(hg:autoParam (Gl X x) zA0)(hn:autoParam (n<=m) zA1)(d8:autoParam (zND x) zA1)
  (he:autoParam (zSE X e es) zA0) (c_:autoParam (zPL X pos es) zA0):WDE X (.Call (.Name x p) (e::es) [] pos) (zn S t):=⟨by
 have ha:=ha.out;obtain⟨f,fd,F,hb,hk,hm⟩:=C;intro pins s σ H Q I h;obtain⟨B,Fr,z,kf,rs,R,h1,h2⟩:=h;obtain rfl:B=J.B:=kf.eb;refine Sv (cN I hg hm ?_ d8);refine callWith_K (h₀:=X.base) I.ok.mod.kin hk (thn (ha pos pins s σ H (λvs H1=>lSpX X.K S vs H1 Q (λCv od H'=>∃x fs C F',Cv=.ref C/\Kept J.B J.F0 F' H'/\RepS X.K J.B F' H' z σ/\J.RX z x fs/\ErrD X.K F' x fs C od)) I #[_,Fr,z,kf,rs,_,h1,λds vs F1 H1 g1 hx rx=>?_]) λus s1 ⟨vs,H1,I1,r,q⟩=>#[I1.kIn,?_]) he c_
 .exact#[F1,ds,g1.fh,rx,R,J.RX z,hx,λd v F' H' g=>h2 d v F' H' (g1.trans g),λx fs C od F' H' g hR er=>#[x,fs,C,F',rfl,(kf.grow g1).grow g,(rs.grow g1).grow g,hR,er]]
 .exact gQ F (hr.mono hn) hb (λe s' hq=>hx.out f_ I1 hq) I1 r q⟩
section
variable {P:Sd}{w:Sj}{K:Ex}{mg:C_->Option KB}{base:Sl}
variable{N:List C_}
def kr{qual:C_}{scope:SK}{f:KF}{cd:KB}{A:Sk}{outer:List S1}{s:KM}{H:Hp}{E':XK}{pins:List (KF×Sx)}{σ:L2.St}{H':Hp}{s':KM}{e C T:KF}{od:Option KF}
  (I':Inv (cxOf (CX1 P w) P w K mg base N qual scope f cd A outer s H E') pins σ H' s') (hx:ExAt s'.heap e C od T .none) (ne:s.heap.get? e=q8) (nT:s.heap.get? T=q8) (He:H' e=q8) (HT:H' T=q8) (hE:E' (.ref C) od H'):
  (cxOf (CX1 P w) P w K mg base N qual scope f cd A outer s H E').xe (.ref e) s':=by
 show Sg _ _ (TZ _ _) _ _ _;unfold TZ;refine Os (rg I'.ok.frames I'.stack rfl hx λh2 T2 l9 u6 o8=>flight_none (s:={s' with heap:=h2}) l9 λh3 Ls y9=>?_);have H_:s'.heap.get? T2=none:=Heap.get?_none_of_le u6;have f1:∀b,s'.heap.get? b=q8->s.heap.get? b=none:=λb q=>cT I' rfl q;have hok:HOk P w H' s'.heap:=I'.hok;have J9:H' T2=none:=hok.fresh u6;have QI:∀b∈[T,e],s.heap.get? b=none:=λb hb=>by
  rcases Gh.mp hb with z|z
  .rw[z];exact nT
  .rw[Gf.mp z];exact ne
 have u2:Un (frs outer) [] H H' s.heap h2:=gI (show Un (frs outer) [] H H' s.heap s'.heap from I'.base) o8 QI λb hb=>rh hb;have u3:Un (frs outer) [] H H' s.heap h3:=gI u2 y9 (λb hb=>by rw[Gf.mp hb];exact f1 T2 H_) λb hb=>by cases hb
 have k2:=fE hok o8 (λb hb=>I'.stkFree b hb) (λb hb=>by
  rcases Gh.mp hb with z|z
  .rw[z];exact HT
  .rw[Gf.mp z];exact He)
 have k3:=fE k2 y9 (λb hb=>by cases hb) (λb hb=>by rw[Gf.mp hb];exact J9);exact#[e,C,od,T2,H',rfl,I'.os,I'.bare,u3,k3,Ls,ne,f1 T2 H_,He,J9,hE]
variable{ps:List C_}
def _root_.L2.Fun.okX{x:C_}{st:Se}{f:KF}{fd:Sq}{k:Nat}{S:SpX}(T:Fun K x x st f fd)(F:FnScope N ps (ah st))(len:∀ds R RX,S ds R RX->ds.length=ps.length)
  (a_:∀(cdv:KB) (A:Sk) (outer:List S1) (s:KM) (H:Hp) (E:XK) (J:Jx),Room k (A.deeper (Su x (ah st) s.heap.objs.size f cdv))->XOk (cxOf (CX1 P w) P w K mg base N x (ah st) f cdv A outer s H E)->
   ∃t,DSs (cxOf (CX1 P w) P w K mg base N x (ah st) f cdv A outer s H E) (aJ st) t/\∀ds R RX,(∀z,J.RX z=RX)->S ds R RX->t {nx:=λ_=>R .non,rt:=R} (startD N ds)):FnOk P w K mg base (CX1 P w) (k+1) f fd ps (lSpX K S):=by
 refine Fun.okC T F (λvs H Q E h=>?_) (λcdv A outer s H vs Q E hr h=>?_)
 .obtain⟨F,ds,fh,rs,R,RX,h,_⟩:=h;rw[rs.length];exact len ds R RX h
 .obtain⟨F,ds,fh,rs,R,RX,h,q,qx⟩:=h
  letI:Jx:=#[H,F,λ_=>RX]
  have hx:XOk (cxOf (CX1 P w) P w K mg base N x (ah st) f cdv A outer s H E):=by
   intro σ z F' H' s' e C od y fs I kk rr hR er ⟨He,ne,_,hx⟩;have hE:E (.ref C) od H':=qx y fs C od F' H' #[kk.f0,kk.fh,kk.bh,kk.out] hR er;rcases hx with⟨sl,vs,h1,h2⟩|⟨T,h1,h2,h3,_⟩
   .exact jU I h1 h2 He ne hE
   .exact kr I h1 ne h2 He h3 hE
  obtain⟨t,ht,hq⟩:=a_ cdv A outer s H E inferInstance hr hx;refine#[_,ht,H,F,F,startD N ds,#[Same.refl H,fh,Same.refl F,λ_ h _=>h,rfl,Same.refl F,λ_ h _=>h],dF rs,_,hq ds R RX (λ_=>rfl) h,#[λz' s' F' H' k hn _=>q _ _ F' H' #[k.f0,k.fh,k.bh,k.out] hn (rep_non.mpr rfl),λd v F' H' k hd rd=>q d v F' H' #[k.f0,k.fh,k.bh,k.out] hd rd,λ_ _ _ _ _ h _=>h.elim,λ_ _ _ _ _ h _=>h.elim]]
def Tx.okX{x:C_}{st:Se}{k:Nat}{S:SpX}(T:Tx K mg x st ps)(F:FnScope N ps (ah st))(len:∀ds R RX,S ds R RX->ds.length=ps.length)
  (a_:∀(f:KF) (cdv:KB) (A:Sk) (outer:List S1) (s:KM) (H:Hp) (E:XK) (J:Jx),Room k (A.deeper (Su x (ah st) s.heap.objs.size f cdv))->XOk (cxOf (CX1 P w) P w K mg base N x (ah st) f cdv A outer s H E)->
   ∃t,DSs (cxOf (CX1 P w) P w K mg base N x (ah st) f cdv A outer s H E) (aJ st) t/\∀ds R RX,(∀z,J.RX z=RX)->S ds R RX->t {nx:=λ_=>R .non,rt:=R} (startD N ds)):CalX P w K mg base (k+1) x ps S:=by
 obtain⟨f,fd,T,hb,hm⟩:=T;exact#[f,fd,T.okX F len λcdv A outer s H E J hr hx=>a_ f cdv A outer s H E J hr hx,hb,T.kp,hm]
end
variable{P:Sd}{w:Sj}{a:KF}
def ObjOk.there{h:Sl}{o:HO}(x:ObjOk P w H h a o):∃u,h.get? a=be u:=by
 cases o with
 |lst xs=>obtain⟨_,_,_,_,e⟩:=x;exact#[_,e]
 |tup xs=>obtain⟨_,_,_,o,e,_⟩:=x;exact#[_,e]
 |dK a9=>obtain⟨_,_,_,_,o,_,_,e,_⟩:=x;exact#[_,e]
 |dT a9=>obtain⟨_,_,_,_,o,_,_,e,_⟩:=x;exact#[_,e]
 |set S n=>obtain⟨o,_,_,_,e,_⟩:=x;exact#[_,e]
 |ins C dx fs=>obtain⟨_,_,_,e,_⟩:=x;exact#[_,e]
 |own y=>exact x
 |xd fs=>obtain⟨_,⟨_,_,_,e,_⟩,_⟩:=x;exact#[_,e]
 |rng lo hi=>obtain⟨_,_,_,e⟩:=x;exact#[_,e]
 |frz ob u=>obtain⟨e,_⟩:=x;exact#[_,e]
 |tbl ps=>exact#[_,(show h.get? a=be _ from x)]
 |met f y=>exact#[_,(show h.get? a=be _ from x)]
 |ext φ=>obtain⟨_,e,_⟩:=x;exact e
def ku{h:Sl}(x:HOk P w H h)(e:h.get? a=q8):H a=none:=by
 cases q:H a with
 |none=>rfl
 |some o=>
  obtain⟨u,hu⟩:=ObjOk.there (x a o q);rw[e]at hu;cases hu
section
variable {X:Cx}{pins:List (KF×Sx)}{σ:L2.St}{H:Hp}{s:KM}{e:KF}
def Inv.adopt{φ:Sl->Prop}(I:Inv X pins σ H s)(He:H e=q8)(ok:ObjOk X.prog X.w H s.heap e (.ext φ))(ne:X.s₀.heap.get? e=q8)(hl:e≠X.env.locals)(hc:∀x c,X.env.cells.lookup x=be c->c≠e)(hp:∀p∈X.pn++pins,p.1≠e):Inv X pins σ (upd H e (.ext φ)) s:=by
 refine#[I.ok,I.os,I.bare,#[I.base.keep,I.base.slot,λb o q n hx=>?_,I.base.there,λb xs q=>?_,λb o u q=>?_,λb ps q=>?_],I.loc,I.cell,?_,λx c q=>?_,λp KQ=>?_,λa o q=>?_,I.len]
 .have:b≠e:=λz=>by rw[z,ne]at q;cases q
  rw[au this];exact I.base.free b o q n hx
 .have:=I.base.tups b xs q;rw[au (bJ this He)];exact this
 .have:=I.base.frzs b o u q;rw[au (bJ this He)];exact this
 .obtain⟨m,this⟩:=I.base.tbls b ps q;exact#[m,by rw[au (bJ this He)];exact this]
 .rw[au (Ne.symm hl)];exact I.free
 .rw[au (hc x c q)];exact I.freeC x c q
 .obtain⟨h1,h2,h3⟩:=I.pin p KQ;refine#[h1,?_,h3];rw[au (hp p KQ)];exact h2
 .by_cases z:a=e
  .rw[z,aB]at q;cases q;rw[z];exact ok
  .rw[au z]at q;exact(I.hok a o q).stay (λb u _ r=>r) (λb r=>by rw[au (bJ r He)];exact r) λb xs r=>by rw[au (bJ r He)];exact r
end
structure ErrK(K:Ex)(mg:Str->Option KB)(x:Str)(C N:KF)(bm:List KB):Prop where
 ns:nsIn K Pi x=be (be (.ref C))
 mg:mg x=be (.ref C)
 kp:keepIn K (.ref C)=true
 obj:∃nm q bs sn sub ab col dd k0 k1 k2 k3 k5,K.lookup C=be (SR nm q C N bs bm true sn sub ab col dd k0 k1 k2 k3 k5 "ValueError.__new__")
 tail:tailIn K veLine bm=true
structure ErrN(K:Ex)(N:KF):Prop where
 ok:nsOkIn K N=true
 no:nsIn K N "__init__"=be q8
def ky{K:Ex}:∀{l:List KB},tailIn K veLine l=true->excMro l=true
 |[],e=>by simp[tailIn,veLine]at e
 |v::r,e=>by
  unfold tailIn at e;rcases Bool.or_eq_true_iff.mp e with q|q
  .rw[beq_iff_eq.mp q];decide+kernel
  .split at q
   .split at q
    .simp only[GF,beq_iff_eq]at q;unfold excMro;exact ky q.2
    .cases q
   .cases q
variable{K:Ex}{mg:C_->Option KB}{C N:KF}{bm:List KB}
def ErrK.base(k:ErrK K mg x C N bm):bm.contains (.type "BaseException")=true:=exc_has Kr (ky k.tail)
section
variable {X:Cx}[J:Jx]{x:C_}{C N:KF}{bm:List KB}{e:P3}{es:List P3}{t:TDA}{p a8 pos:Sr}
def zo(x:C_)(t:TDA):TSD:=λ_ z=>t z λds=>ds.length<=1000/\J.RX z x []
def zp(h:∃C N bm,ErrK X.K X.mg x C N bm/\ErrN X.K N)(hx:XOk X)(hc:X.calm=true)(ha:WDA X (e::es) t)(f_:autoParam (X.ex=[]) zA0)(hg:autoParam (Gl X x) zA0)(d8:autoParam (zND x) zA1)
  (he:autoParam (zSE X e es) zA0) (c_:autoParam (zPL X a8 es) zA0):WDS X (.Raise (be (.Call (.Name x p) (e::es) [] a8)) q8 pos) (zo x t):=⟨by
 have ha:=ha.out;obtain⟨C,N,bm,k,kn⟩:=h;intro pins s σ H D I h;obtain⟨B,F0,F,z,kf,rs,ED,h,ee⟩:=h;obtain rfl:B=J.B:=kf.eb;obtain⟨nm,q,bs,sn,sub,ab,col,dd,k0,k1,k2,k3,k5,lk⟩:=k.obj;refine rb (nm:=nm) (q:=q) (C:=C) (N:=N) (bs:=bs) (bm:=bm) (hdct:=true) (sn:=sn) (sub:=sub) (ab:=ab) (col:=col) (dd:=dd) (k0:=k0) (k1:=k1) (k2:=k2) (k3:=k3) (k5:=k5) (newId:="ValueError.__new__") k.base (I.ok.hd hc) ?_;refine Sv (cN I hg k.mg ?_ d8);refine callWith_K (h₀:=X.base) I.ok.mod.kin k.kp (thn (ha a8 pins s σ H (λvs H1=>∃F1,vs.length<=1000/\Grow F H F1 H1/\J.RX z x []) I #[_,F,z,kf.kf,rs,_,h,λds vs F1 H1 g1 hx rx=>#[F1,by rw[rx.length];exact hx.1,g1,hx.2]]) λus s1 hh=>#[hh.elim λ_ h=>h.elim λ_ h=>h.1.kIn,?_]) he c_;obtain⟨vs,H1,I1,r,F1,hl,g1,hR⟩:=hh;have hC:=I1.kIn _ _ lk;obtain⟨hp,gg,dr,tk,os⟩:=s1;refine Ua PySem.F.excBase_ValueError (tail_of_in I1.kIn k.tail) hC (.of_isNs (isNs_of_in I1.kIn kn.ok)) (nsMap_none_of_in I1.kIn kn.ok kn.no) (λh' ea hm=>?_) (by show us.length<=_;rw[<-L2.Vals.length r];exact sz hl);obtain⟨ta,h1,h2,h3⟩:=hm.there;have I2:Inv X pins σ H1 #[h',gg,dr,tk,os]:=I1.kept (t':=tk) hm.keeps;refine#[ea,ta,q8,[].toArray,rfl,hm.keeps _ _ hC,h1,?_];exact hx σ z F1 H1 _ ea C q8 x [] (Inv.nopins I2) (kf.kf.grow g1) (rs.grow g1) hR #[k.ns,[],repf_nil.mpr rfl,.inl #[rfl,rfl]] #[ku I1.hok hm.new,cT I1 f_ hm.new,pn_free I1 hm.new,.inl #[[].toArray,_,h1,rfl]]⟩
end
def zq{o:HO}(h:H a=be o):upd H a o=H:=by
 funext b;unfold upd;by_cases q:b=a
 .rw[if_pos q,q,h]
 .rw[if_neg q]
section
variable {M:T_}{A:Sk}{E:KB->KM->Prop}{h:Sl}{g:Array GenState}{d:Drawn}{t:Nat}{os:OsState}
variable {nm q:C_}{C N:KF}{bs bm:List KB}{hdct:Bool}{sn:List C_}{sub:List KB}{ab:Bool}{col:Option Bool}{dd:Option KF}{k0 k1 k2 k3 k5:Option KB}{newId:String}
variable {Pj q':C_}{C' N':KF}{Pk Lz:List KB}{LA:Bool}{Pl:List C_}{LB:List KB}{Pm:Bool}{LC:Option Bool}{Mv:Option KF}{Pn Po Pp Pq Pr:Option KB}{Ky:String}
def zr{e:KF}{oe:Sx}{b:Bool}{Q:Bool->KM->Prop}(hC:h.get? C=be (SR nm q C N bs bm hdct sn sub ab col dd k0 k1 k2 k3 k5 newId))(hD:h.get? C'=be (SR Pj q' C' N' Pk Lz LA Pl LB Pm LC Mv Pn Po Pp Pq Pr Ky))
  (he:h.get? e=be oe) (t8:oe.cls=.ref C) (b9:Lz.contains (.type "BaseException")=true) (hb:(Value.ref C::bm).contains (.ref C')=b) (hq:Q b #[h,g,d,t,os]):Sg M A (excMatches (.ref e) (.ref C')) Q E #[h,g,d,t,os]:=by
 have Ng:(Value.ref C'::Lz).contains (.type "BaseException")=true:=by rw[Im,b9,HV]
 have f:=tc_notTuple;unfold excMatches
 repeat(first|(with_reducible refine S4 he ?_;rw[t8])|with_reducible refine S4 hD ?_|(with_reducible refine Tf hD ?_;rw[Ng])|(with_reducible refine Tf hC ?_;rw[hb])|wp_step)
 cases b with
 |true=>wp_walk;exact hq
 |false=>wp_walk;exact hq
end
abbrev _root_.L2.Cx.held(X:Cx)(e:KF):Cx:={X with A:=X.A.mark (be (.ref e)),calm:=false,xe:=λ_ _=>False}
section
variable {X:Cx}{pins:List (KF×Sx)}{σ:L2.St}{H:Hp}{s:KM}{e:KF}
def Cx.Ok.held(ok:X.Ok):(X.held e).Ok:=
 #[ok.mod,ok.kind,ok.glob,ok.blt,ok.above,ok.inj,ok.has,ok.cab,(λz=>nomatch z),ok.frames,ok.stk,ok.exf,ok.bs,ok.bsz,ok.noex,ok.exfs,ok.funs,ok.frf]
def Inv.held(I:Inv X pins σ H s):Inv (X.held e) pins σ H s:=#[Cx.Ok.held I.ok,I.os,I.bare,I.base,I.loc,I.cell,I.free,I.freeC,I.pin,I.hok,I.len]
def Inv.unheld(ok:X.Ok)(I:Inv (X.held e) pins σ H s):Inv X pins σ H s:=#[ok,I.os,I.bare,I.base,I.loc,I.cell,I.free,I.freeC,I.pin,I.hok,I.len]
def SP.unheld{D:Ends}{f:Flow}{s':KM}(ok:X.Ok)(h:SP (X.held e) pins D f s'):SP X pins D f s':=by
 cases f with
 |next=>obtain⟨σ',H',I,q⟩:=h;exact#[σ',H',Inv.unheld ok I,q]
 |brk=>obtain⟨σ',H',I,q⟩:=h;exact#[σ',H',Inv.unheld ok I,q]
 |cont=>obtain⟨σ',H',I,q⟩:=h;exact#[σ',H',Inv.unheld ok I,q]
 |ret u=>obtain⟨v,σ',H',I,r,q⟩:=h;exact#[v,σ',H',Inv.unheld ok I,r,q]
def gR{M:T_}{A:Sk}{E:KB->KM->Prop}{i:Nat}{x:C_}{pos:Sr}{Q:Unit->KM->Prop}(I:Inv X pins σ H s)(hN:X.N.Nodup)(hi:X.N[i]?=be x)(hk:X.env.scope.names.lookup x=be .local)
  (h:∀s',Inv X pins (σ.set i q8) H s'->Q () s'):Sg M A (do TJ X.env x .none;unbindBehindTheSuite X.env x pos) Q E s:=by
 obtain⟨m,hn,hl⟩:=id I.loc;have t8:(X.env.scope.kind== .class||(X.env.scope.kind== .module&&X.env.locals !=X.env.globals))=false:=by rw[I.ok.kind];rfl
 have hiσ:i<σ.length:=by rw[I.len];exact(Gq.mp hi).1
 have cne:=I.cne;refine wpAny_nameGoes_keeps hk hn t8 λh' v j5 hs=>?_;obtain⟨oL,_,_,OZ,_⟩:=id hn;have f8:HOk X.prog X.w H h':=λb ob e=>by
  refine(I.hok b ob e).stay (λc w' hc q=>(hs.2 c ?_).trans q) (λ_ q=>q) λ_ _ q=>q;rintro rfl;rcases hc with rfl|hc
  .rw[I.free]at e;cases e
  .rw[I.free]at hc;cases hc
 refine h _ #[I.ok,I.os,I.bare,#[λb o e n hb hx=>?_,λb o e n hb hx=>?_,I.base.free,λb o e hx=>?_,I.base.tups,I.base.frzs,I.base.tbls],#[_,j5,λj y v' e1 e2 e3=>?_],λy c e=>?_,I.free,I.freeC,λp hp=>?_,f8,by simpa using I.len]
 .exact(hs.2 b (Gn (GC (Heap.lt_size e) I.ok.above))).trans (I.base.keep b o e n hb hx)
 .obtain⟨sl,e1⟩:=I.base.slot b o e n hb hx;exact#[sl,(hs.2 b (Gn (GC (Heap.lt_size e) I.ok.above))).trans e1]
 .obtain⟨o',e1⟩:=I.base.there b o e hx;exact#[o',(hs.2 b (Gn (GC (Heap.lt_size e) I.ok.above))).trans e1]
 .by_cases hj:j=i
  .subst hj;rw[GU hiσ]at e2;cases e2
  .rw[Gs (Ne.symm hj)]at e2;obtain⟨u',r',q⟩:=hl j y v' e1 e2 e3;refine#[u',r',?_];rcases q with⟨k,e⟩|⟨k,c,e,z⟩
   .refine .inl #[k,?_];have:y≠x:=λe=>hj (jw hN e1 (e ▸ hi));simp[this,e]
   .exact .inr #[k,c,e,z.sameBut hs (cne y c e)]
 .obtain⟨w',z⟩:=I.cell y c e;exact#[w',z.sameBut hs (cne y c e)]
 .obtain⟨e,n,ne,nf,d⟩:=I.pin p hp;exact#[(hs.2 p.1 ne).trans e,n,ne,nf,d]
def Inv.stay{h':Sl}{o7 ex:List KF}(I:Inv X pins σ H s)(st:Stay o7 ex s.heap h')(Mp:∀b∈o7,b∈frs X.stack)(hH:∀b∈ex,H b=q8)(h0:∀b∈ex,X.s₀.heap.get? b=q8)(hL:∀b∈ex,b≠X.env.locals)(hc:∀b∈ex,∀x c,X.env.cells.lookup x=be c->c≠b)
  (hp:∀b∈ex,∀p∈X.pn++pins,p.1≠b):Inv X pins σ H {s with heap:=h'}:=by
 have hok:HOk X.prog X.w H h':=fE I.hok st (λb hb=>I.stkFree b (Mp b hb)) hH;have sub:∀b∈o7,b=X.env.locals\/b∈X.fs:=λb hb=>Gh.mp (I.stkSub b (Mp b hb));have nL:∀b o,X.s₀.heap.get? b=be o->b≠X.env.locals:=λb o q=>Gn (GC (Heap.lt_size q) I.ok.above);have Ps:∀b o,X.s₀.heap.get? b=be o->b∉ex:=λb o q z=>by rw[h0 b z]at q;cases q
 have k8:∀x c v,X.env.cells.lookup x=be c->s.heap.IsCell c v->h'.IsCell c v:=λx c v e ⟨o,ho,hd⟩=>by
  obtain⟨sl,z⟩:=st.slot c o ho (λz=>hc c z x c e rfl);exact#[_,z,hd]
 refine#[I.ok,I.os,I.bare,#[λb o e n hb hx=>?_,λb o e n hb hx=>?_,I.base.free,λb o e hx=>?_,I.base.tups,I.base.frzs,I.base.tbls],?_,λy c e=>?_,I.free,I.freeC,λp KQ=>?_,hok,I.len]
 .exact st.keep b o (I.base.keep b o e n hb hx) (Ps b o e) (λz=>(sub b z).elim (nL b o e) hb)
 .obtain⟨sl,e1⟩:=I.base.slot b o e n hb hx;obtain⟨k9,e2⟩:=st.slot b _ e1 (Ps b o e);exact#[k9,e2]
 .obtain⟨o',e1⟩:=I.base.there b o e hx;exact st.there b o' e1
 .obtain⟨m,⟨o,es,ep,ho,r⟩,hl⟩:=I.loc;obtain⟨sl,z⟩:=st.slot _ o ho (λz=>hL _ z rfl);refine#[m,#[_,es,ep,z,r],λj y v' e1 e2 e3=>?_];obtain⟨u',r',q⟩:=hl j y v' e1 e2 e3;refine#[u',r',?_];rcases q with q|⟨k,c,e,z⟩
  .exact .inl q
  .exact .inr #[k,c,e,k8 y c _ e z]
 .obtain⟨w',z⟩:=I.cell y c e;exact#[w',k8 y c _ e z]
 .obtain⟨e,n,ne,nf,d⟩:=I.pin p KQ;exact#[st.keep _ _ e (λz=>hp _ z p KQ rfl) (λz=>(sub _ z).elim ne nf),n,ne,nf,d]
end
def subE(x c:C_):Bool:=x==c||c=="MotifError"
structure ErrsK(K:Ex)(mg:Str->Option KB)(es:List Str):Prop where
 cls:∀x∈es,∃C N bm,ErrK K mg x C N bm
 sub:∀x∈es,∀y∈es,∀C C',nsIn K Pi x=be (be (.ref C))->nsIn K Pi y=be (be (.ref C'))->GR K C (.ref C')=be (subE x y)
def ErrsK.has{es:List C_}(k:ErrsK K mg es){y:C_}{C' N':KF}{Lz:List KB}(hx:x∈es)(hy:y∈es)(a:ErrK K mg x C N bm)(b:ErrK K mg y C' N' Lz):(Value.ref C::bm).contains (.ref C')=subE x y:=by
 have h:=k.sub x hx y hy C C' a.ns b.ns;obtain⟨nm,q,bs,sn,sub,ab,col,dd,k0,k1,k2,k3,k5,lk⟩:=a.obj;unfold GR Jb at h;rw[lk]at h;simp only[Hs,List.isEmpty_cons,Bool.false_eq_true,if_false,Option.some.injEq]at h;exact h
structure Held(X:Cx)(pins:List (KF×Sx))(H:Hp)(s:KM)(e C:KF)(od:Option KF)(T:KF):Prop where
 ex:ExAt s.heap e C od T .none
 He:H e=q8
 HT:H T=q8
 e0:X.s₀.heap.get? e=q8
 T0:X.s₀.heap.get? T=q8
 eP:∀p∈X.pn++pins,p.1≠e
 TP:∀p∈X.pn++pins,p.1≠T
section
variable {X:Cx}{pins:List (KF×Sx)}{σ:L2.St}{H:Hp}{s:KM}
variable{vs:Array KB}
def gS{b:KF}{o:Sx}(I:Inv X pins σ H s)(h:s.heap.get? b=be o)(hd:o.data=.fields vs):b≠X.env.locals:=λz=>by
 obtain⟨m,⟨o',es,ep,ho,h_,_⟩,_⟩:=I.loc;rw[<-z,h]at ho;cases ho;rw[hd]at h_;cases h_
def fld_cell{b:KF}{o:Sx}(I:Inv X pins σ H s)(h:s.heap.get? b=be o)(hd:o.data=.fields vs):∀x c,X.env.cells.lookup x=be c->c≠b:=λx c q z=>by
 obtain⟨v,o',ho,h_⟩:=I.cell x c q;rw[z,h]at ho;cases ho;rw[hd]at h_;cases h_
variable{od:Option KF}
def Held.flight{e C T:KF}{h':Sl}(I:Inv X pins σ H s)(k:Held X pins H s e C od T)(hx:ExAt h' e C od T .none)(st:Stay [] [T] s.heap h'):Inv X pins σ H {s with heap:=h'}/\Held X pins H {s with heap:=h'} e C od T:=by
 obtain⟨sl,vs,oT,ts,he,h1,t_,hT,j_,h3⟩:=k.ex;refine#[Inv.stay I st (λb hb=>by cases hb) (λb hb=>?_) (λb hb=>?_) (λb hb=>?_) (λb hb=>?_) (λb hb=>?_),#[hx,k.He,k.HT,k.e0,k.T0,k.eP,k.TP]]<;>rw[Gf.mp hb]
 .exact k.HT
 .exact k.T0
 .exact gS I hT j_
 .exact fld_cell I hT j_
 .exact k.TP
def XO.ok{P:Sd}{w:Sj}{h:Sl}{e C:KF}{sl:Array (Option KB)}(q:h.get? e=be #[.ref C,od,.fields vs,sl]):ObjOk P w H h e (XO e C od):=
 #[#[vs,sl,q],#[_,q],λh1 h2 ⟨vs,sl,q⟩ k=>#[vs,sl,k _ q]]
end
def RepS.unset{B F:Hp}{z:SD}{s:L2.St}{i:Nat}(h:RepS K B F H z s):RepS K B F H (z.set i q8) (s.set i q8):=by
 have get:∀{j:Nat} {x:D},(z.set i q8)[j]?=be (be x)->j≠i/\z[j]?=be (be x):=λ{j x} e=>by
  by_cases hj:i=j
  .subst hj;rw[Hb]at e;simp at e
  .rw[Gs hj]at e;exact#[λz=>hj z.symm,e]
 refine#[by rw[G0,G0];exact h.len,λj x e nx=>?_,λj ds e=>?_,λj k dj dk a e1 e2 e3 e4=>?_]
 .obtain⟨hj,e⟩:=get e;rw[Gs (λz=>hj z.symm)];exact h.val j x e nx
 .obtain⟨hj,e⟩:=get e;rw[Gs (λz=>hj z.symm)];exact h.own j ds e
 .obtain⟨hj,e1⟩:=get e1;obtain⟨hk,e2⟩:=get e2;rw[Gs (λz=>hj z.symm)]at e3;rw[Gs (λz=>hk z.symm)]at e4;exact h.apart j k dj dk a e1 e2 e3 e4
abbrev TH:=C_->List (C_×D)->TSD
def DH(X:Cx)[J:Jx](hs:List SO)(th:TH):Prop:=
 ∀(pins:List (KF×Sx)) (s:KM) (σ:L2.St) (H:Hp) (D:Ends) (e C:KF) (od:Option KF) (T:KF) (x:C_) (fs:List (C_×My.D)) (B F0 F:Hp) (z:SD) (ED:EndsD),Inv X pins σ H s->Held X pins H s e C od T->Kept B F0 F H->RepS X.K B F H z σ->ErrD X.K F x fs C od->
  th x fs ED z->EndsOk X.K B F0 ED D->Sg (Sf X.prog X.w) X.A (TC (.ref e) X.env hs) (SP X pins D) X.xe s
structure WDH(X:Cx)[Jx](hs:List SO)(th:TH):Prop where
 out:DH X hs th
section
variable {X:Cx}[J:Jx]{es:List C_}{c:C_}{b₀:Se}{J_:List Se}{pos pc:Sr}{b7:List SO}{t:TSD}{r:TH}
def zt:TH:=λ_ _ _ _=>False
def dHas(es:List C_)(c:C_)(i:Nat)(t:TSD)(r:TH):TH:=λx fs E z=>(x∈es/\c∈es)/\if subE x c=true then t {nx:=λz'=>E.nx (z'.set i q8),rt:=E.rt,bk:=λz'=>E.bk (z'.set i q8),ct:=λz'=>E.ct (z'.set i q8)} (z.set i (be (.exc x fs)))else r x fs E z
def zu:WDH X [] zt:=#[λ_ _ _ _ _ _ _ _ _ _ _ _ _ _ _ _ _ _ _ _ _ h _=>h.elim]
def zv(i:Nat){n:C_}(hE:ErrsK X.K X.mg es)(hN:X.N.Nodup)(hs:∀e,WDSs (X.held e) (b₀::J_) t)(hr:WDH X b7 r)(hg:autoParam (Gl X c) zA0)(hi:autoParam (X.N[i]?=be n) zA0)(hk:autoParam (X.env.scope.names.lookup n=be .local) zA0)(d8:autoParam (zND c) zA1):WDH X (.ExceptHandler (be (.Name c pc)) (be n) (b₀::J_) pos::b7) (dHas es c i t r):=⟨by
 have hs:=λe=>(hs e).out;have hr:=hr.out;intro pins s σ H D e C od T x fs B F0 F z ED I hd k rs er ht ee;obtain⟨⟨Pt,Pu⟩,ht⟩:=ht;obtain⟨Cc,Nc,RO,kc⟩:=hE.cls c Pu;obtain⟨KR,Nx,RP,kx⟩:=hE.cls x Pt;obtain rfl:KR=C:=by have h1:=kx.ns;rw[er.1]at h1;cases h1;rfl
 have hb:=hE.has Pt Pu kx kc;obtain⟨nm,q,bs,sn,sub,ab,col,dd,k0,k1,k2,k3,k5,lk⟩:=kx.obj;obtain⟨Pj,q',Pk,Pl,LB,Pm,LC,Mv,Pn,Po,Pp,Pq,Pr,QJ⟩:=kc.obj;refine wpAny_handleBy_cons (codeAny_handlers_test (cN (X:=X.held e) (Inv.held I) hg kc.mg ?_ d8)) (by intro q;cases q);obtain⟨sl,vs,oT,ts,he,h1,t_,hT,j_,h3⟩:=id hd.ex;refine zr (g:=s.gens) (d:=s.drawn) (t:=s.toks) (os:=s.os) (I.kIn _ _ lk) (I.kIn _ _ QJ) he rfl kc.base hb ?_;cases LD:subE x c with
 |true=>
  rw[LD,if_pos rfl]at ht;refine codeAny_handlers_suite_as (flight_none hd.ex λh' gt y8=>?_);obtain⟨I',h_⟩:=Held.flight I hd gt y8;obtain⟨k9,n4,_,_,Nv,_⟩:=id gt;have I2:Inv X pins σ (upd H e (XO e KR od)) {s with heap:=h'}:=Inv.adopt I' hd.He (XO.ok Nv) hd.e0 (gS I' Nv rfl) (fld_cell I' Nv rfl) hd.eP;refine dU (X:=X.held e) (v:=.ref e) (Inv.held I2) hN hi (.inl hk) rfl (λs2 I3=>?_) (.inr hk);have g:=Grow.new k.fh hd.He (XO e KR od);obtain⟨ns,ws,rf,Nw⟩:=er;have QK:Rep X.K (upd F e (XO e KR od)) (.exc x fs) (.ref e):=rep_exc.mpr #[e,KR,od,ws,rfl,ns,aB,RepF.mono g.ff fs ws rf,Nw.imp id λ⟨b,q1,q2⟩=>#[b,q1,g.ff _ _ q2]];have QL:EndsOk X.K B F0 {nx:=λz'=>ED.nx (z'.set i q8),rt:=ED.rt,bk:=λz'=>ED.bk (z'.set i q8),ct:=λz'=>ED.ct (z'.set i q8)} {nx:=λσ' H'=>D.nx (σ'.set i q8) H',rt:=D.rt,bk:=λσ' H'=>D.bk (σ'.set i q8) H',ct:=λσ' H'=>D.ct (σ'.set i q8) H'}:=
   #[λz' s' F' H' k hz r=>ee.nx _ _ F' H' k hz (RepS.unset r),ee.rt,λz' s' F' H' k hz r=>ee.bk _ _ F' H' k hz (RepS.unset r),λz' s' F' H' k hz r=>ee.ct _ _ F' H' k hz (RepS.unset r)]
  refine Sy (hs e pins s2 _ _ _ I3 #[B,F0,_,_,k.grow g,(rs.grow g).set QK,_,ht,QL]) (λf s3 q=>?_) λ_ _ z=>False.elim z;have q':=SP.unheld I.ok q;cases f with
  |next=>obtain⟨σ',H',I4,q4⟩:=q';exact gR I4 hN hi hk λs5 I5=>#[_,H',I5,q4]
  |brk=>obtain⟨σ',H',I4,q4⟩:=q';exact gR I4 hN hi hk λs5 I5=>#[_,H',I5,q4]
  |cont=>obtain⟨σ',H',I4,q4⟩:=q';exact gR I4 hN hi hk λs5 I5=>#[_,H',I5,q4]
  |ret u=>obtain⟨v,σ',H',I4,rv,q4⟩:=q';exact gR I4 hN hi hk λs5 I5=>#[v,_,H',I5,rv,q4]
 |false=>
  rw[LD,if_neg Gu]at ht;exact hr pins s σ H D e KR od T x fs B F0 F z ED I hd k rs er ht ee⟩
end
abbrev _root_.L2.Cx.tried(X:Cx)(pn:List (KF×Sx))(xe:KB->KM->Prop):Cx:={X with pn:=pn,xe:=xe}
section
variable {X:Cx}{pn pins:List (KF×Sx)}{xe:KB->KM->Prop}{σ:L2.St}{H:Hp}{s:KM}
def Cx.Ok.tried(ok:X.Ok):(X.tried pn xe).Ok:=#[ok.mod,ok.kind,ok.glob,ok.blt,ok.above,ok.inj,ok.has,ok.cab,ok.hd,ok.frames,ok.stk,ok.exf,ok.bs,ok.bsz,ok.noex,ok.exfs,ok.funs,ok.frf]
def Inv.tried(I:Inv X pins σ H s):Inv (X.tried (X.pn++pins) xe) [] σ H s:=#[Cx.Ok.tried I.ok,I.os,I.bare,I.base,I.loc,I.cell,I.free,I.freeC,λp hp=>I.pin p (by simpa using hp),I.hok,I.len]
def Inv.untried(ok:X.Ok)(I:Inv (X.tried (X.pn++pins) xe) [] σ H s):Inv X pins σ H s:=#[ok,I.os,I.bare,I.base,I.loc,I.cell,I.free,I.freeC,λp hp=>I.pin p (by simpa using hp),I.hok,I.len]
def SP.untried{D:Ends}{f:Flow}{s':KM}(ok:X.Ok)(h:SP (X.tried (X.pn++pins) xe) [] D f s'):SP X pins D f s':=by
 cases f with
 |next=>obtain⟨σ',H',I,q⟩:=h;exact#[σ',H',Inv.untried ok I,q]
 |brk=>obtain⟨σ',H',I,q⟩:=h;exact#[σ',H',Inv.untried ok I,q]
 |cont=>obtain⟨σ',H',I,q⟩:=h;exact#[σ',H',Inv.untried ok I,q]
 |ret u=>obtain⟨v,σ',H',I,r,q⟩:=h;exact#[v,σ',H',Inv.untried ok I,r,q]
end
def zw{h₀:SO}{hs:List SO}{σ':L2.St}{H':Hp}{s':KM}{D:Ends}{e:KF}{od:Option KF}{xe:KB->KM->Prop}(I2:Inv X pins σ' H' s')
  (hd:Exd (X.tried (X.pn++pins) xe) H' s' e C od) (f_:X.ex=[]) (v3:X.stack=X.env::X.outer) (m6:X.env.frame=be X.env.locals)
  (hh:∀s4 T2,Inv X pins σ' H' s4->Held X pins H' s4 e C od T2->Sg (Sf X.prog X.w) X.A (TC (.ref e) X.env (h₀::hs)) (SP X pins D) X.xe s4):
  Sg (Sf X.prog X.w) X.A (S8 (.ref e) X.env) (λ_ s₂=>Sg (Sf X.prog X.w) X.A (Tp (.ref e) q8) (λ_ s₃=>Sg (Sf X.prog X.w) X.A (TC (.ref e) X.env (h₀::hs)) (SP X pins D) X.xe s₃) X.xe s₂) X.xe s':=by
 obtain⟨He,e0,eP,hd⟩:=hd;have stk:s'.heap.FunFrames X.base (X.env::X.outer):=by rw[<-v3];exact I2.stack
 have Pw:X.A.frames=be (X.env::X.outer):=by rw[<-v3];exact I2.ok.frames
 have e_:∀(p6:Sl) (T2:KF) (ex:List KF),(∀b∈ex,H' b=q8/\X.s₀.heap.get? b=q8/\(∃o vs,s'.heap.get? b=be o/\o.data=.fields vs)/\∀p∈X.pn++pins,p.1≠b)->ExAt p6 e C od T2 (S9 X.env.locals)->s'.heap.objs.size<=T2->Stay (frs (X.env::X.outer)) ex s'.heap p6->
   Sg (Sf X.prog X.w) X.A (Tp (.ref e) q8) (λ_ s₃=>Sg (Sf X.prog X.w) X.A (TC (.ref e) X.env (h₀::hs)) (SP X pins D) X.xe s₃) X.xe {s' with heap:=p6}:=by
  intro p6 T2 ex v4 l9 u6 o8;have H_:s'.heap.get? T2=none:=Heap.get?_none_of_le u6;have I3:Inv X pins σ' H' {s' with heap:=p6}:=Inv.stay I2 o8 (λb hb=>by rw[v3];exact hb) (λb hb=>(v4 b hb).1) (λb hb=>(v4 b hb).2.1) (λb hb=>let ⟨_,_,q1,q2⟩:=(v4 b hb).2.2.1;gS I2 q1 q2) (λb hb=>let ⟨_,_,q1,q2⟩:=(v4 b hb).2.2.1;fld_cell I2 q1 q2) (λb hb=>(v4 b hb).2.2.2);obtain⟨sl,vs,oT,ts,he,g1,t_,hT,j_,g3⟩:=id l9;have J9:H' T2=none:=ku I2.hok H_;have T0:X.s₀.heap.get? T2=none:=cT I2 f_ H_;have TP:∀p∈X.pn++pins,p.1≠T2:=λp hp z=>by
   have:=(I2.pin p hp).1;rw[z,H_]at this;cases this
  refine flight_none (s:={s' with heap:=p6}) l9 λh3 Ls y9=>?_;have I4:Inv X pins σ' H' {s' with heap:=h3}:=Inv.stay (s:={s' with heap:=p6}) I3 y9 (λb hb=>by cases hb) (λb hb=>by rw[Gf.mp hb];exact J9) (λb hb=>by rw[Gf.mp hb];exact T0) (λb hb=>by rw[Gf.mp hb];exact gS I3 hT j_) (λb hb=>by rw[Gf.mp hb];exact fld_cell I3 hT j_) (λb hb=>by rw[Gf.mp hb];exact TP);exact hh _ T2 I4 #[Ls,He,J9,e0,T0,eP,TP]
 rcases hd with⟨sl,vs,he,hv⟩|⟨T,Ka,T0,HT,TP⟩
 .refine re Pw stk m6 he hv λp6 T2 l9 u6 o8=>e_ p6 T2 [e] (λb hb=>?_) l9 u6 o8;rw[Gf.mp hb];exact#[He,e0,#[_,_,he,rfl],eP]
 .obtain⟨sl,vs,oT,ts,he,g1,t_,hT,j_,g3⟩:=id Ka;refine rg Pw stk m6 Ka λp6 T2 l9 u6 o8=>e_ p6 T2 [T,e] (λb hb=>?_) l9 u6 o8;rcases Gh.mp hb with z|z
  .rw[z];exact#[HT,T0,#[_,_,hT,j_],TP]
  .rw[Gf.mp z];exact#[He,e0,#[_,_,he,rfl],eP]
def sH:tailIn K veLine veLine=true:=by
 unfold tailIn;rfl
variable{sl:Array (Option KB)}
def sI{c:KB}{d:Option KF}{es:Array DictEntry}{ep:Nat}(l:K.lookup N=be #[c,d,.dict es ep,sl])(h:es.toList.all (λe=>match e.key with|.str _ _=>true|_=>false)=true):nsOkIn K N=true:=by
 unfold nsOkIn;rw[l];dsimp only;rw[<-Iq];exact h
def zx{M:KF}{c0:KB}{dd:Option KF}{cd:Tr}(l:K.lookup M=be #[c0,dd,.cls cd,sl])(hn:cd.ns=N)(h1:nsOkIn K N=true)(h2:nsIn K N "__init__"=be q8):tailIn K veLine (.ref M::veLine)=true:=by
 unfold tailIn;subst hn;dsimp only;rw[l];dsimp only;rw[h1,h2,sH];simp
def zy(S:SpX):SpD:=λds R=>S ds R λ_ _=>False
def CalX.no{base:Sl}{n:Nat}{S:SpX}(C:CalX P w K mg base n x ps S):CalD P w K mg base n x ps (zy S):=by
 obtain⟨f,fd,F,hb,hk,hm⟩:=C;refine#[f,fd,F.imp λvs H Q E h=>?_,hb,hk,hm];obtain⟨F,ds,fh,rs,R,h,q⟩:=h;exact#[F,ds,fh,rs,R,_,h,q,λ_ _ _ _ _ _ _ z=>z.elim]
end My
namespace My
def repS(x:C_)(n:Nat):Str:=#[(GV n x.cps.toList).flatten.toArray]
def sJ{α:Type}(l:List α):∀m:Nat,(Gj m).filterMap (λk=>l[k]?)=l.take m
 |0=>by simp
 |m+1=>by
  rw[HD,List.filterMap_append,sJ l m,Jc];cases h:l[m]?<;>simp[h]
def zz(lo hi:Option Int)(n:Nat):Builtin.Str.strSliceIndices lo hi 1 n=(Gj (HT.sIx n n hi-HT.sIx n 0 lo)).map λk=>HT.sIx n 0 lo+k:=by
 have JR:∀(i:Int) (d:Nat),max 0 (min (if i<0 then i+(n:Int)else i) (n:Int))=((HT.sIx n d (be i):Nat):Int):=by
  intro i d;show max 0 (min (if i<0 then i+(n:Int)else i) (n:Int))=(((if i<0 then(i+(n:Int)).toNat else min i.toNat n):Nat):Int);by_cases h:i<0
  .rw[if_pos h,if_pos h];lia
  .rw[if_neg h,if_neg h];lia
 have h1:Builtin.Str.strSliceIndices lo hi 1 n=sliceRange ((HT.sIx n 0 lo:Nat):Int) ((HT.sIx n n hi:Nat):Int) 1:=by
  unfold Builtin.Str.strSliceIndices;simp only[show(1:Int)>0 by decide,if_true];cases lo with
  |none=>cases hi with
   |none=>rfl
   |some j=>rw[<-JR j n];rfl
  |some i=>cases hi with
   |none=>rw[<-JR i 0];rfl
   |some j=>rw[<-JR i 0,<-JR j n]
 rw[h1];unfold sliceRange;simp only[show(1:Int)>0 by decide,if_true];have e3:(if((HT.sIx n 0 lo:Nat):Int)<((HT.sIx n n hi:Nat):Int)then(((HT.sIx n n hi:Nat):Int)-((HT.sIx n 0 lo:Nat):Int)+1-1)/1 else 0).toNat=HT.sIx n n hi-HT.sIx n 0 lo:=by
  split<;>lia
 rw[e3];apply HE;intro k _;lia
def slice_cps(y:C_)(lo hi:Option Int):Txt.slice y lo hi=#[((y.cps.toList.drop (HT.sIx y.length 0 lo)).take (HT.sIx y.length y.length hi-HT.sIx y.length 0 lo)).toArray]:=by
 have la:HT.sIx y.length 0 lo<=y.length:=HT.sIx_le _ _ (GI _) lo;have lb:HT.sIx y.length y.length hi<=y.length:=HT.sIx_le _ _ (Gg _) hi;unfold Txt.slice;rw[zz];split
 .rename_i h;have hl:HT.sIx y.length y.length hi-HT.sIx y.length 0 lo=y.length:=by simpa using h
  have ha:HT.sIx y.length 0 lo=0\/y.length=0:=Kn
  rw[hl];obtain⟨cp⟩:=y;have e:(HF (HT.sIx (Str.mk cp).length 0 lo) cp.toList)=cp.toList:=by
   rcases ha with ha|ha
   .rw[ha];rfl
   .have:cp=[].toArray:=Array.eq_empty_of_size_eq_zero ha;subst this;simp
  show(#[cp]:C_)=#[((HF (HT.sIx (Str.mk cp).length 0 lo) cp.toList).take cp.size).toArray];rw[e,Ht Kv]
 .congr 2;rw[IR];have:=sJ (y.cps.toList.drop (HT.sIx y.length 0 lo)) (HT.sIx y.length y.length hi-HT.sIx y.length 0 lo);rw[<-this];congr 1;funext k;simp
section
variable {X:Cx}[J:Jx]{a b c e:P3}{ta tb tc te:TD}{pos:Sr}
def Gb:RD2:=λx y R=>match x,y with
 |.int i,.int j=>CMul i j/\R (.int (i*j))
 |.str i,.int n=>(-(2^62)<=n/\n<=1000000/\i.length*n.toNat<=1000000)/\R (.str (repS i n.toNat))
 |.lst xs,.int n=>(-(2^62)<=n/\n<=1000000/\xs.length*n.toNat<=1000000)/\R (.lst (GV n.toNat xs).flatten)
 |_,_=>False
def zA:SlR X (λx lo hi H Q=>∃y,x=.str y/\y.length<=sizeLine/\Q (.str (Txt.slice y lo hi)) H):=by
 intro pins s σ H x v vl vu lo hi sl Q I rx hs pl pu h;obtain⟨y,rfl,hz,q⟩:=h;obtain⟨t,rfl⟩:=rx;have e_:∀t' k,EP X pins σ Q (.str (Txt.slice y lo hi) t') {s with toks:=k}:=λt' k=>#[.str _,H,I.tok k,#[_,rfl],q];have le:=Go (Txt.slice_le y lo hi) hz;refine#["str",_,PySem.F.slot_str_getitem.lookup,Ue _ _ _,?_];cases pl with
 |none=>cases pu with
  |none=>exact SQ (l:=q8) (u:=q8) (st:=q8) hs rfl (Ta #[le,e_])
  |int j tj=>exact SQ (l:=q8) (u:=be (j,tj)) (st:=q8) hs rfl (Ta #[le,e_])
 |int i ti=>cases pu with
  |none=>exact SQ (l:=be (i,ti)) (u:=q8) (st:=q8) hs rfl (Ta #[le,e_])
  |int j tj=>exact SQ (l:=be (i,ti)) (u:=be (j,tj)) (st:=q8) hs rfl (Ta #[le,e_])
abbrev TDO:=SD->(Option Int->Prop)->Prop
def zB:TDO:=λ_ R=>R q8
def zC(te:TD):TDO:=λz R=>te z λx=>match x with|.int i=>R (be i)|_=>False
def lO(K:Ex)[J:Jx](t:TDO):TO:=λs H Q=>∃B F z,Kept B J.F0 F H/\RepS K B F H z s/\∃R:Option Int->Prop,t z R/\∀o F' H',Grow F H F' H'->R o->Q o H'
abbrev DPO(X:Cx)[Jx](e:Option P3)(t:TDO):Prop:=PO X e (lO X.K t)
structure WDPO(X:Cx)[Jx](e:Option P3)(t:TDO):Prop where
 out:DPO X e t
def PO.anti{X:Cx}{e:Option P3}{t t':TO}(h:PO X e t)(a:∀s H Q,t' s H Q->t s H Q):PO X e t':=λpins s σ H Q I q=>h pins s σ H Q I (a _ _ _ q)
def kz:WDPO X q8 zB:=⟨PO.anti jK λs H Q q=>by
 obtain⟨B,F,z,kf,rs,R,h1,h2⟩:=q;exact h2 q8 F H (Grow.refl kf.fh) h1⟩
def kA(he:WDE X e te):WDPO X (be e) (zC te):=⟨have he:=he.out;PO.anti (jL he) λs H Q q=>by
 obtain⟨B,F,z,kf,rs,R,h1,h2⟩:=q;refine#[B,F,z,kf,rs,_,h1,λx u F1 H1 g1 hx rx=>?_];split at hx
 .exact#[_,rep_int.mp rx,h2 _ F1 H1 g1 hx]
 .exact hx.elim⟩
def rdSl:D->Option Int->Option Int->(D->Prop)->Prop:=λx lo hi R=>match x with
 |.str y=>y.length<=1000000/\R (.str (Txt.slice y lo hi))
 |.lst xs=>R (.lst (cutD xs lo hi))
 |.rol xs=>R (.lst (cutD xs lo hi))
 |.tup xs=>¬(HT.sIx xs.length 0 lo=0/\HT.sIx xs.length xs.length hi=xs.length)/\R (.tup (cutD xs lo hi))
 |_=>False
def dSl(ta:TD)(tl th:TDO):TD:=λz R=>ta z λx=>tl z λlo=>th z λhi=>rdSl x lo hi R
def kB{lo hi:Option P3}{tl th:TDO}{p2:Sr}(ha:WDE X a ta)(hl:WDPO X lo tl)(hu:WDPO X hi th):WDE X (.Subscript a (.Slice lo hi q8 p2) pos) (dSl ta tl th):=⟨have ha:=ha.out;have hl:=hl.out;have hu:=hu.out;(jM (SlR.or zA (SlR.or jO xx)) ha hl hu).anti λs H Q q=>by
 obtain⟨B,F,z,kf,rs,R,h1,h2⟩:=q;refine#[B,F,z,kf,rs,_,h1,λx u F1 H1 g1 hx rx=>?_];refine#[B,F1,z,kf.grow g1,rs.grow g1,_,hx,λlo F2 H2 g2 hy=>?_];refine#[B,F2,z,(kf.grow g1).grow g2,(rs.grow g1).grow g2,_,hy,λhi F3 H3 g3 hw=>?_];have g:=g1.trans (g2.trans g3);have Mw:=(rx.mono g2.ff).mono g3.ff;unfold rdSl at hw;split at hw
 .exact .inl #[_,rep_str.mp Mw,Go hw.1 Ku,h2 _ _ F3 H3 g hw.2 (rep_str.mpr rfl)]
 .obtain⟨l,vs,rfl,hq,rr⟩:=rep_lst.mp Mw;refine .inr (.inl #[l,vs,rfl,SqL.of (g3.fh _ _ hq),λp hp=>?_]);exact h2 _ _ _ _ (g.trans (Grow.new g3.fh hp _)) hw (rep_lst.mpr #[p,_,rfl,aB,(rr.cut _ _).mono (aP (g3.fh.free hp) _)])
 .obtain⟨l,vs,rfl,hq,rr⟩:=rep_rol.mp Mw;refine .inr (.inl #[l,vs,rfl,g3.fh.seq hq,λp hp=>?_]);exact h2 _ _ _ _ (g.trans (Grow.new g3.fh hp _)) hw (rep_lst.mpr #[p,_,rfl,aB,(rr.cut _ _).mono (aP (g3.fh.free hp) _)])
 .obtain⟨l,vs,rfl,hq,rr⟩:=rep_tup_mp Mw;refine .inr (.inr #[l,vs,rfl,g3.fh.tup hq,by rw[rr.length];exact hw.1,λp hp=>?_]);exact h2 _ _ _ _ (g.trans (Grow.new g3.fh hp _)) hw.2 (rep_tupS.mpr #[p,_,rfl,aB,(rr.cut _ _).mono (aP (g3.fh.free hp) _)])
 .exact hw.elim⟩
def rdIn(neg:Bool):RD2:=λx y R=>match y with
 |.str j=>kdS x λi=>R (.bl (if neg then !(!(Builtin.Str.occurrences j i 0 j.length 1).isEmpty)else !(Builtin.Str.occurrences j i 0 j.length 1).isEmpty))
 |.lst ys=>(bo x=true/\ys.all bo=true)/\R (.bl (if neg then !(ys.any λy=>eqF y x)else ys.any λy=>eqF y x))
 |.rol ys=>(bo x=true/\ys.all bo=true)/\R (.bl (if neg then !(ys.any λy=>eqF y x)else ys.any λy=>eqF y x))
 |.tup ys=>(bo x=true/\ys.all bo=true)/\R (.bl (if neg then !(ys.any λy=>eqF y x)else ys.any λy=>eqF y x))
 |_=>False
def gT{K:Ex}{H:Hp}{x:D}{u:V}(rx:Rep K H x u)(fx:bo x=true):∀{ys:List D} {vs:List V},Reps K H ys vs->ys.all bo=true->inV u vs=ys.any λy=>eqF y x
 |[],vs,r,_=>by rw[reps_nil.mp r];rfl
 |y::ys,vs,r,f=>by
  obtain⟨v,vr,rfl,r1,r2⟩:=reps_cons.mp r;rw[G3,GF]at f;have ih:=gT rx fx r2 f.2;unfold inV at ih ⊢;rw[HU,HU,ih,ke r1 rx f.1 fx]
def rInV(K:Ex)(neg:Bool):R2:=λx y H Q=>(∃i j,x=.str i/\y=.str j/\Q (.bl (if neg then !(!(Builtin.Str.occurrences j i 0 j.length 1).isEmpty)else !(Builtin.Str.occurrences j i 0 j.length 1).isEmpty)) H)\/rIn K neg x y H Q
def zD{K:Ex}{neg:Bool}:aW K (rInV K neg) (rdIn neg):=by
 intro x y u v F H R Q fh h rx ry q;cases y with
 |str j=>
  replace h:=kdS.of h;obtain⟨i,rfl,h⟩:=h;exact .inl #[_,_,rep_str.mp rx,rep_str.mp ry,q _ _ F H (Grow.refl fh) h (rep_bl.mpr rfl)]
 |lst ys=>
  obtain⟨⟨f1,f2⟩,h⟩:=h;obtain⟨l,vs,rfl,hq,rr⟩:=rep_lst.mp ry;exact .inr #[l,vs,rfl,.inl (fh.seq (SqL.of hq)),eE rx f1,eF rr f2,q _ _ F H (Grow.refl fh) h (rep_bl.mpr (by rw[gT rx f1 rr f2]))]
 |rol ys=>
  obtain⟨⟨f1,f2⟩,h⟩:=h;obtain⟨l,vs,rfl,hq,rr⟩:=rep_rol.mp ry;exact .inr #[l,vs,rfl,.inl (fh.seq hq),eE rx f1,eF rr f2,q _ _ F H (Grow.refl fh) h (rep_bl.mpr (by rw[gT rx f1 rr f2]))]
 |tup ys=>
  obtain⟨⟨f1,f2⟩,h⟩:=h;obtain⟨l,vs,rfl,hq,rr⟩:=rep_tup_mp ry;exact .inr #[l,vs,rfl,.inr (fh.tup hq),eE rx f1,eF rr f2,q _ _ F H (Grow.refl fh) h (rep_bl.mpr (by rw[gT rx f1 rr f2]))]
 |_=>exact False.elim h
def zE:OpR X (Sz .NotIn) (rInV X.K true):=OpR.or xF xE
end
end My
namespace L2
def Its(x:C_):It:=#[λi _=>i<x.length,λi H v H'=>H'=H/\∃c,x.cps[i]?=be c/\v=.str #[[c].toArray],λi _=>x.length<=i]
def zF{P:Sd}{w:Sj}{K:Ex}{tg:P3}(x:C_)(t:Um)(it:KF):Turn P w K tg (Its x) [it] it (λi h=>h.IsStrIter it "str_ascii_iterator" x t i) where
 mem:=Kv
 obj:=λi h st b hb=>by
  have e:b=it:=by simpa using hb
  subst e;obtain⟨o,e,c,d⟩:=st;exact#[o,e,λv z=>by rw[d]at z;cases z]
 keep:=λi h h' st k=>by
  obtain⟨o,e,r⟩:=st;exact#[o,k it Kv o e,r]
 item:=by
  intro X hP hw hK hc i pins s σ H E I hf st hg;subst hP hw hK;have hi:i<x.cps.size:=hg;obtain⟨f0,f1,f2,f3,f4,f5⟩:=hf it Kv;refine wpAny_pyNext_ascii_item st (c:=x.cps[i]) (Jd hi) λh' y8 sb=>?_;have I1:Inv X pins σ H {s with heap:=h',toks:=s.toks+1}:=I.turned (t':=s.toks+1) (λb o hb e=>(sb.2 b hb).trans e) f0 f1 f3 f4 f5;obtain⟨o,e,c,d⟩:=id y8;exact#[_,rfl,jC (s:={s with heap:=h',toks:=s.toks+1}) e c d Ku #[.str #[[x.cps[i]].toArray],H,I1,#[_,rfl],#[rfl,_,Jd hi,rfl],y8,λb hb=>(hf b hb).1]]
 done:=by
  intro X hP hw hK hc i pins s σ H E I hf st hg;subst hP hw hK;have hi:x.cps.size<=i:=hg;obtain⟨f0,f1,f2,f3,f4,f5⟩:=hf it Kv;exact wpAny_pyNext_ascii_end (I.ok.hd hc) st (Array.getElem?_eq_none hi) λh' eb=>#[rfl,I.turned (t':=s.toks) (λb o hb e=>eb b o hb e) f0 f1 f3 f4 f5]
 self:=λA i s Q E st hQ=>wpAny_pyIter_striter_ascii st hQ
def iStr(tl:TE):TI:=λσ H R=>tl σ H λv H1=>∃x,v=.str x/\x.cps.all (·<128)=true/\R (Its x) H1
def sK{X:Cx}{tg l:P3}{tl:TE}(hl:PE X l tl):PI X tg l (iStr tl):=by
 intro pins s σ H R I h;refine thn (hl pins s σ H _ I h) λv s1 c8=>?_;obtain⟨v1,H1,I1,r1,q1⟩:=c8;obtain⟨x,rfl,ha,q⟩:=q1;obtain⟨t,rfl⟩:=r1;refine wpAny_pyIter_ascii ha ?_;refine#[s1.heap.objs.size,[s1.heap.objs.size],_,_,H1,rfl,I1.kept (t':=s1.toks) λb o e=>Heap.get?_push_of_some _ e,zF x t _,#[_,Heap.get?_push_size _ rfl,rfl,rfl],λb hb=>?_,q];have e:b=s1.heap.objs.size:=by simpa using hb
 subst e;exact I1.fpOk (Gg _) (I1.hok.fresh (Gg _))
def zG{x:C_}{g:TG}{tb:TS}{D:Ends}{σ:St}{H:Hp}(Pv:Nat->St->Hp->Prop)(h0:Pv 0 σ H)
  (hs:∀i c σ H,x.cps[i]?=be c->Pv i σ H->g (.str #[[c].toArray]) σ H λσ2 H2=>tb {D with nx:=Pv (i+1),ct:=Pv (i+1),bk:=D.nx} σ2 H2) (hd:∀σ H,Pv x.length σ H->D.nx σ H):
  ∃W:Nat->Nat->St->Hp->Prop,(∃m,W 0 m σ H)/\∀i m σ H,W i m σ H->
   ((Its x).stop i H/\D.nx σ H)\/((Its x).go i H/\∃N:St->Hp->Prop,(∀σ' H',N σ' H'->∃m',m'<m/\W (i+1) m' σ' H')/\∀v H',(Its x).yld i H v H'->g v σ H' λσ2 H2=>tb {D with nx:=N,ct:=N,bk:=D.nx} σ2 H2):=by
 refine#[λi m σ H=>m=x.length-i/\i<=x.length/\Pv i σ H,#[x.length,Kv,GI _,h0],?_];rintro i m σ H ⟨rfl,hi,p⟩;by_cases f6:i<x.length
 .refine .inr #[f6,Pv (i+1),λσ' H' p'=>#[x.length-(i+1),Kn,rfl,f6,p'],λv H' y=>?_];obtain⟨e,c,hc,rfl⟩:=y;subst e;exact hs i c σ _ hc p
 .have e:i=x.length:=by lia
  subst e;exact .inl #[Gg _,hd σ H p]
end L2
namespace My
section
variable {X:Cx}[J:Jx]{a b c e:P3}{ta tb tc te:TD}{pos:Sr}
def bL(x:C_):List D:=x.cps.toList.map λc=>D.str #[[c].toArray]
def dItS(t:TD):TDI:=λz R=>t z λy=>match y with|.str x=>x.cps.all (·<128)=true/\R (bL x)|_=>False
def gU{x:C_}{k c:Nat}(h:x.cps[k]?=be c):(bL x)[k]?=be (.str #[[c].toArray]):=by
 unfold bL;rw[Gr,IT,h];rfl
def eU(x:C_):(bL x).length=x.length:=by unfold bL;rw[Gm];simp[Str.length]
def zH(i:Nat){x:C_}{p:Sr}{body:List Se}{tb:TSD}(hp:SB (Sf X.prog X.w) X.A X.env X.xe)(hc:X.calm=true)(hN:X.N.Nodup)(he:WDE X e te)(hb:WDSs X body tb)(hi:autoParam (X.N[i]?=be x) zA0)(hx:autoParam (Loc X.env.scope x) zA4)
  (hf:autoParam (zFN X x) zA3) (hs:autoParam (∀y,zFS X e y) zA2):WDS X (.For (.Name x p) e body [] pos) (dFor i (dItS te) tb):=⟨have he:=he.out;have hb:=hb.out;(cF hp hc (sK he) (dE hN hi hx hf) hb hs).anti λE s H q=>by
 obtain⟨B,F0,F,z,kp,rs,ED,h,e⟩:=q;refine#[B,F,z,kp.kf,rs,_,h,λd v F1 H1 g1 hd rd=>?_];split at hd
 .rename_i y;obtain⟨ha,W,w0,c9,out⟩:=hd;refine#[y,rep_str.mp rd,ha,zG (λk s' H'=>∃F' z',Kept B F0 F' H'/\RepS X.K B F' H' z' s'/\W k z') #[F1,z,kp.grow g1,rs.grow g1,w0] ?_ ?_]
  .rintro k c s' H' hk⟨F',z',k',r',w'⟩;exact#[B,F0,F',_,k',r'.set (d:=.str #[[c].toArray]) (rep_str.mpr rfl),_,c9 k (.str #[[c].toArray]) z' (gU hk) w',#[λz3 s3 F3 H3 k3 h3 r3=>#[F3,z3,k3,r3,h3],e.rt,e.nx,λz3 s3 F3 H3 k3 h3 r3=>#[F3,z3,k3,r3,h3]]]
  .rintro s' H'⟨F',z',k',r',w'⟩;exact e.nx z' s' F' H' k' (out z' (by rw[eU];exact w')) r'
 .exact hd.elim⟩
variable {f9 iter:P3}{x:C_}{px:Sr}{scope:SK}{ti:TD}
def itS{K:Ex}:ItOk K (iStr (lE K ti)) (dItS ti):=λ{s H B F z P Q} kf rs h1 h2=>by
 refine#[B,F,z,kf,rs,_,h1,λd v F1 H1 g1 hd rd=>?_];split at hd
 .rename_i y;obtain⟨ha,hd⟩:=hd;have hl:=eU y;refine#[y,rep_str.mp rd,ha,h2 _ _ F1 H1 g1 hd #[λk F' H' G hk=>by rw[hl]at hk;exact hk,λk F' H' v H'' G hk hy=>?_,λF' H' G=>by show y.length<=_;rw[hl];exact Gg _]];obtain⟨e,c,hc,rfl⟩:=hy;exact#[e,.str #[[c].toArray],gU hc,rep_str.mpr rfl]
 .exact hd.elim
end
section
variable {X:Cx}[J:Jx]{a b c e o:P3}{es:List P3}{ta tb tc te to:TD}{t:TDA}{pos:Sr}
abbrev RTx:=C_->List D->(D->Prop)->Prop
def dTx(r:RTx)(to:TD)(t:TDA):TD:=λz R=>to z λx=>match x with|.str y=>t z λds=>r y ds R|_=>False
def MtS(X:Cx)(id:String)(r:RTx):Prop:=∃rv:V->List V->Hp->VK->Prop,MtR X id rv/\∀(y:C_) (ds:List D) (vs:List V) (F H:Hp) (R:D->Prop) (Q:VK),Reps X.K F ds vs->r y ds R->(∀d v,(∀G,Rep X.K G d v)->R d->Q v H)->rv (.str y) vs H Q
variable{b_ a8:Sr}
def kC{name:C_}{id:String}{r:RTx}(slot:Slot "str" name id)(Lj:typeOf (.builtin id)=pure (.type "method_descriptor"))(hm:MtS X id r)(ho:DE X o to)(ha:DA X (e::es) t)
  (b9:autoParam (Sn o name X.env (So o X.env)=So o X.env) zA0)
  (d7:autoParam (zHF X a8 (e::es)) zA0)
  (c7:autoParam ((b_.endLine==a8.line)=true) zA0) (hs:autoParam (zSE X e es) zA0) (m5:autoParam (zPL X a8 es) zA0):
  DE X (.Call (.Attribute o name b_) (e::es) [] a8) (dTx r to t):=by
 obtain⟨rv,hm,L⟩:=hm;refine(cO PySem.F.plainAttrs_str slot Lj hm ho ha b9 d7 c7 hs m5).anti λs H Q q=>?_;obtain⟨B,F,z,kf,rs,R,h1,h2⟩:=q;refine#[B,F,z,kf,rs,_,h1,λx u F1 H1 g1 hx rx=>?_];split at hx
 .rename_i y;rw[rep_str.mp rx];refine#[rfl,B,F1,z,kf.grow g1,rs.grow g1,_,hx,λds vs F2 H2 g2 hy ry=>?_];exact L y ds vs F2 H2 R Q ry hy λd v rd hR=>h2 d v F2 H2 (g1.trans g2) hR (rd F2)
 .exact hx.elim
def Gc:RTx:=λy ds R=>match ds with|[.str p]=>R (.bl (Txt.startswith y p))|_=>False
def rEnds:RTx:=λy ds R=>match ds with|[.str p]=>R (.bl (Txt.endswith y p))|_=>False
def ms_ends:MtS X "str.endswith" rEnds:=by
 refine#[λx vs H Q=>∃y p,x=.str y/\vs=[.str p]/\Q (.bl (Txt.endswith y p)) H,?_,?_]
 .intro pins s σ H x vs v us Q I rx rv h;obtain⟨y,p,rfl,rfl,q⟩:=h;obtain⟨t,rfl⟩:=rx;obtain⟨u,rfl,t',rfl⟩:=bY rv;exact SC.endswith #[.bl _,H,I,rfl,q]
 .intro y ds vs F H R Q r h q;unfold rEnds at h;split at h
  .obtain⟨v,vr,rfl,h1,h2⟩:=reps_cons.mp r;rw[reps_nil.mp h2,rep_str.mp h1];exact#[_,_,rfl,rfl,q _ _ (λ_=>rep_bl.mpr rfl) h]
  .exact h.elim
def zI(ho:WDE X o to)(ha:WDA X [e] t)(b9:autoParam (Sn o "endswith" X.env (So o X.env)=So o X.env) zA0)
  (d7:autoParam (zHF X a8 [e]) zA0)
  (c7:autoParam ((b_.endLine==a8.line)=true) zA0) (hs:autoParam (zSE X e []) zA0):WDE X (.Call (.Attribute o "endswith" b_) [e] [] a8) (dTx rEnds to t):=#[have ho:=ho.out;have ha:=ha.out;kC PySem.F.slot_str_endswith PySem.F.type_str_endswith ms_ends ho ha b9 d7 c7 hs]
def rSIndex:RTx:=λy ds R=>match ds with|[.str p]=>∃i b7,Builtin.Str.occurrences y p 0 y.length 1=i::b7/\R (.int (i:Nat))|_=>False
def zJ:MtS X "str.index" rSIndex:=by
 refine#[λx vs H Q=>∃y p i b7,x=.str y/\vs=[.str p]/\Builtin.Str.occurrences y p 0 y.length 1=i::b7/\Q (.int (i:Nat)) H,?_,?_]
 .intro pins s σ H x vs v us Q I rx rv h;obtain⟨y,p,i,b7,rfl,rfl,ho,q⟩:=h;obtain⟨t,rfl⟩:=rx;obtain⟨u,rfl,t',rfl⟩:=bY rv;exact SC.index ho #[.int _,H,I.tok _,#[_,rfl],q]
 .intro y ds vs F H R Q r h q;unfold rSIndex at h;split at h
  .obtain⟨i,b7,ho,h⟩:=h;obtain⟨v,vr,rfl,h1,h2⟩:=reps_cons.mp r;rw[reps_nil.mp h2,rep_str.mp h1];exact#[_,_,i,b7,rfl,rfl,ho,q _ _ (λ_=>rep_int.mpr rfl) h]
  .exact h.elim
def sL(ho:WDE X o to)(ha:WDA X [e] t)(b9:autoParam (Sn o "index" X.env (So o X.env)=So o X.env) zA0)
  (d7:autoParam (zHF X a8 [e]) zA0)
  (c7:autoParam ((b_.endLine==a8.line)=true) zA0) (hs:autoParam (zSE X e []) zA0):WDE X (.Call (.Attribute o "index" b_) [e] [] a8) (dTx rSIndex to t):=#[have ho:=ho.out;have ha:=ha.out;kC PySem.F.slot_str_index PySem.F.type_str_index zJ ho ha b9 d7 c7 hs]
def Reps.init{K:Ex}{F:Hp}:∀{ds:List D} {vs:List V},Reps K F ds vs->Reps K F ds.dropLast vs.dropLast
 |[],vs,r=>by rw[reps_nil.mp r];exact reps_nil.mpr rfl
 |[d],vs,r=>by
  obtain⟨v,vr,rfl,_,h2⟩:=reps_cons.mp r;rw[reps_nil.mp h2];exact reps_nil.mpr rfl
 |d::d2::ds,vs,r=>by
  obtain⟨v,vr,rfl,h1,h2⟩:=reps_cons.mp r;obtain⟨v2,RQ,rfl,h3,h4⟩:=reps_cons.mp h2;rw[Je,Je];exact reps_cons.mpr #[v,_,rfl,h1,Reps.init h2]
end
end My
namespace My
open Exc
section
variable {X:Cx}{a b c e:P3}{ta tb tc te:TD}{pos:Sr}{st:Se}{b7:List Se}{t u:TSD}
def bw[Jx]{c:P3}{l r:List Se}{tc:TDT}(hc:WDT X c tc)(ha:WDSs X l t)(hb:WDSs X r u):WDS X (.If c l r pos) (dIfS tc t u):=#[rY (c:=c) (l:=l) (r:=r) (tc:=tc) (hc:=hc.out) (ha:=ha.out) (hb:=hb.out)]
end
section
variable {P:Sd}{w:Sj}{K:Ex}{mg:C_->Option KB}{base:Sl}
variable{x:C_}{st:Se}{N ps:List C_}{k:Nat}
def Tx.okDW{S:SpD}(T:Tx K mg x st ps)(F:FnScope N ps (ah st))(len:∀ds R,S ds R->ds.length=ps.length)
  (a_:∀(f:KF) (cdv:KB) (A:Sk) (outer:List S1) (s:KM) (H:Hp) (E:XK) (J:Jx),Room k (A.deeper (Su x (ah st) s.heap.objs.size f cdv))->
   ∃t,WDSs (cxOf (Exc.CX1 P w) P w K mg base N x (ah st) f cdv A outer s H E).nox (aJ st) t/\∀ds R,S ds R->t {nx:=λ_=>R .non,rt:=R} (startD N ds)):CalD P w K mg base (k+1) x ps S:=
 Tx.okD T F len λf cdv A outer s H E J hr=>let ⟨t,h,q⟩:=a_ f cdv A outer s H E J hr;#[t,h.out,q]
def Tx.okXW{S:SpX}(T:Tx K mg x st ps)(F:FnScope N ps (ah st))(len:∀ds R RX,S ds R RX->ds.length=ps.length)
  (a_:∀(f:KF) (cdv:KB) (A:Sk) (outer:List S1) (s:KM) (H:Hp) (E:XK) (J:Jx),Room k (A.deeper (Su x (ah st) s.heap.objs.size f cdv))->XOk (cxOf (CX1 P w) P w K mg base N x (ah st) f cdv A outer s H E)->
   ∃t,WDSs (cxOf (CX1 P w) P w K mg base N x (ah st) f cdv A outer s H E) (aJ st) t/\∀ds R RX,(∀z,J.RX z=RX)->S ds R RX->t {nx:=λ_=>R .non,rt:=R} (startD N ds)):CalX P w K mg base (k+1) x ps S:=
 Tx.okX T F len λf cdv A outer s H E J hr hx=>let ⟨t,h,q⟩:=a_ f cdv A outer s H E J hr hx;#[t,h.out,q]
def Cls.okIW{qual:C_}{f C:KF}{fd:Sq}{p0:C_}{S:SiD}(T:Fun K "__init__" qual st f fd)(hb:Binds K fd (p0::ps) [])(F:FnScope (p0::N) (p0::ps) (ah st))(len:∀ds R,S ds R->ds.length=ps.length)
  (hns:nsIn K Pi x=be (be (.ref C))) (i9:mg x=be (.ref C)) (mk:Mk K C f)
  (a_:∀(cdv:KB) (A:Sk) (outer:List S1) (s:KM) (H:Hp) (E:XK) (J:Jx),Room k (A.deeper (Su qual (ah st) s.heap.objs.size f cdv))->
   ∃t,WDI (cxOf (Exc.CX1 P w) P w K mg base (p0::N) qual (ah st) f cdv A outer s H E).nox x (aJ st) t/\∀ds R,S ds R->t (q8::startD N ds) [] R):CalM P w K mg base (k+1) x (p0::ps) S:=
 Cls.okI T hb F len hns i9 mk λcdv A outer s H E J hr=>let ⟨t,h,q⟩:=a_ cdv A outer s H E J hr;#[t,h.out,q]
end
inductive MO where
 |ins (x:Str) (fs:List (Str×D))|lst (ds:List D)|dti (a9:List ((Int×Int)×Int))
abbrev MS:=List (KF×MO)
def MRep(K:Ex)(F H:Hp)(a:KF):MO->Prop
 |.ins x fs=>∃C dx ws,nsIn K Pi x=be (be (.ref C))/\H a=be (.ins C dx ws)/\RepF K F fs ws
 |.lst ds=>∃vs,H a=be (.lst vs)/\Reps K F ds vs
 |.dti a9=>H a=be (.dT (dtiV a9))
def aj(M:MS):List KF:=M.map (·.1)
def mget:MS->KF->Option MO
 |[],_=>q8
 |(b,o)::r,a=>if b=a then be o else mget r a
def mput:MS->KF->MO->MS
 |[],_,_=>[]
 |(b,p)::r,a,o=>if b=a then(b,o)::r else(b,p)::mput r a o
def mdel:MS->KF->MS
 |[],_=>[]
 |(b,p)::r,a=>if b=a then r else(b,p)::mdel r a
def bg:∀{M:MS} {a:KF} {o:MO},mget M a=be o->(a,o)∈M
 |[],_,_,h=>by cases h
 |(b,p)::r,a,o,h=>by
  unfold mget at h;split at h
  .rename_i e;subst e;cases h;exact Gk
  .exact Gi _ (bg h)
variable{M:MS}{a:KF}{o:MO}
def br(h:(a,o)∈M):a∈aj M:=GK.mpr #[_,h,rfl]
def gW:∀(M:MS) (a:KF) (o:MO),aj (mput M a o)=aj M
 |[],_,_=>rfl
 |(b,p)::r,a,o=>by
  unfold mput;split
  .rfl
  .show b::aj (mput r a o)=b::aj r;rw[gW r a o]
def mem_put:∀{M:MS} {a b:KF} {o q:MO},(aj M).Nodup->(b,q)∈mput M a o->(b=a/\q=o/\a∈aj M)\/(b≠a/\(b,q)∈M)
 |[],_,_,_,_,_,h=>by cases h
 |(c,p)::r,a,b,o,q,nd,h=>by
  have z7:c∉aj r/\(aj r).Nodup:=GP.mp nd;unfold mput at h;split at h
  .rename_i e;subst e;rcases Gh.mp h with z|z
   .cases z;exact .inl #[rfl,rfl,Gk]
   .have:b∈aj r:=br z;exact .inr #[λe=>z7.1 (e ▸ this),Gi _ z]
  .rename_i ne;rcases Gh.mp h with z|z
   .cases z;exact .inr #[ne,Gk]
   .rcases mem_put z7.2 z with⟨e1,e2,e3⟩|⟨e1,e2⟩
    .exact .inl #[e1,e2,Gi _ e3]
    .exact .inr #[e1,Gi _ e2]
def kD:∀{M:MS} {a b:KF} {q:MO},(aj M).Nodup->(b,q)∈mdel M a->b≠a/\(b,q)∈M
 |[],_,_,_,_,h=>by cases h
 |(c,p)::r,a,b,q,nd,h=>by
  have z7:c∉aj r/\(aj r).Nodup:=GP.mp nd;unfold mdel at h;split at h
  .rename_i e;subst e;exact#[λe=>z7.1 (e ▸ br h),Gi _ h]
  .rename_i ne;rcases Gh.mp h with z|z
   .cases z;exact#[ne,Gk]
   .obtain⟨e1,e2⟩:=kD z7.2 z;exact#[e1,Gi _ e2]
def del_sub:∀{M:MS} {a:KF},(aj (mdel M a)).Sublist (aj M)
 |[],_=>.slnil
 |(c,p)::r,a=>by
  unfold mdel;split
  .exact List.sublist_cons_self _ _
  .exact List.Sublist.cons_cons _ del_sub
variable{K:Ex}{F H F' H':Hp}
def MRep.mono(ff:Same F F')(hh:∀o,H a=be o->H' a=be o):∀{o:MO},MRep K F H a o->MRep K F' H' a o
 |.ins x fs,⟨C,dx,ws,n,h,r⟩=>#[C,dx,ws,n,hh _ h,RepF.mono ff fs ws r]
 |.lst ds,⟨vs,h,r⟩=>#[vs,hh _ h,Reps.mono ff ds vs r]
 |.dti a9,h=>hh _ h
def MRep.there:∀{o:MO},MRep K F H a o->H a≠q8
 |.ins x fs,⟨C,dx,ws,n,h,r⟩=>by rw[h];exact λz=>nomatch z
 |.lst ds,⟨vs,h,r⟩=>by rw[h];exact λz=>nomatch z
 |.dti a9,h=>by rw[show H a=_ from h];exact λz=>nomatch z
structure RepM(K:Ex)(F H:Hp)(M:MS):Prop where
 nd:(aj M).Nodup
 ok:∀a o,(a,o)∈M->MRep K F H a o
 fr:∀a,a∈aj M->F a=q8
def RepM.nil:RepM K F H []:=#[IY,(λ_ _ h=>nomatch h),(λ_ h=>nomatch h)]
def RepM.here(r:RepM K F H M)(h:a∈aj M):H a≠none:=by
 obtain⟨⟨b,o⟩,h1,rfl⟩:=GK.mp h;exact(r.ok _ _ h1).there
structure GrowM(M M':MS)(F H F' H':Hp):Prop where
 ff:Same F F'
 fh:Same F' H'
 hh:∀b o,b∉aj M->H b=be o->H' b=be o
 out:∀b,b∉aj M->F b=q8->H b≠q8->F' b=q8
 ks:∀b,b∈aj M'->b∈aj M\/H b=q8
def Grow.toM(g:Grow F H F' H'):GrowM M M F H F' H':=#[g.ff,g.fh,λb o _ h=>g.hh b o h,λb _ h1 h2=>g.out b h1 h2,λb h=>.inl h]
def GrowM.refl(h:Same F H):GrowM M M F H F H:=(Grow.refl h).toM
def GrowM.trans{M1 M2:MS}{F1 H1 F2 H2:Hp}(g:GrowM M M1 F H F1 H1)(k:GrowM M1 M2 F1 H1 F2 H2):GrowM M M2 F H F2 H2 where
  ff:=g.ff.trans k.ff
  fh:=k.fh
  hh:=λb o nb h=>k.hh b o (λz=>by rcases g.ks b z with q|q;exact nb q;rw[q]at h;cases h) (g.hh b o nb h)
  out:=λb nb h1 h2=>k.out b (λz=>by rcases g.ks b z with q|q;exact nb q;exact h2 q) (g.out b nb h1 h2) (by
    cases e:H b with
    |none=>exact absurd e h2
    |some o=>rw[g.hh b o nb e];exact λz=>nomatch z)
  ks :=λb h=>by
    rcases k.ks b h with q|q
    . exact g.ks b q
    . by_cases nb:b∈aj M
      . exact .inl nb
      . right;cases e:H b with
        |none=>rfl
        |some o=>rw[g.hh b o nb e]at q;cases q
def RepM.grow(r:RepM K F H M)(g:Grow F H F' H'):RepM K F' H' M:=
 #[r.nd,λa o h=>(r.ok a o h).mono g.ff λo e=>g.hh a o e,λa h=>g.out a (r.fr a h) (r.here h)]
variable{ho:HO}
def RepM.put{o':MO}(r:RepM K F H M)(e:mget M a=be o)(h:MRep K F (upd H a ho) a o'):RepM K F (upd H a ho) (mput M a o'):=
 ⟨by rw[gW];exact r.nd,λb q hb=>by
  rcases mem_put r.nd hb with⟨rfl,rfl,_⟩|⟨ne,hb⟩
  .exact h
  .exact(r.ok b q hb).mono (Same.refl F) λu z=>by rw[au ne];exact z,λb hb=>r.fr b (by rw[gW]at hb;exact hb)⟩
def GrowM.put{o':MO}(fh:Same F H)(fa:F a=q8)(e:mget M a=be o):GrowM M (mput M a o') F H F (upd H a ho) where
 ff:=Same.refl F
 fh:=λb u z=>by
  have ne:b≠a:=by rintro rfl;rw[fa]at z;cases z
  rw[au ne];exact fh b u z
 hh:=λb u nb z=>by
  have ne:b≠a:=by rintro rfl;exact nb (br (bg e))
  rw[au ne];exact z
 out:=λb _ h _=>h
 ks:=λb h=>.inl (by rw[gW]at h;exact h)
def RepM.new{p:KF}(r:RepM K F H M)(fh:Same F H)(hp:H p=q8)(h:MRep K F (upd H p ho) p o):RepM K F (upd H p ho) ((p,o)::M):=by
 have np:p∉aj M:=λz=>r.here z hp;refine#[GP.mpr #[np,r.nd],λb q hb=>?_,λb hb=>?_]
 .rcases Gh.mp hb with z|z
  .cases z;exact h
  .exact(r.ok b q z).mono (Same.refl F) λu z'=>by rw[au (λe:b=p=>np (e ▸ br z))];exact z'
 .rcases Gh.mp hb with z|z
  .rw[z];exact fh.free hp
  .exact r.fr b z
def GrowM.new{p:KF}(fh:Same F H)(hp:H p=q8):GrowM M ((p,o)::M) F H F (upd H p ho) where
 ff:=Same.refl F
 fh:=fh.trans (aP hp _)
 hh:=λb u _ z=>aP hp _ b u z
 out:=λb _ h _=>h
 ks:=λb h=>by
  rcases Gh.mp h with z|z
  .exact .inr (by rw[z];exact hp)
  .exact .inl z
structure RepZ(K:Ex)(B F H:Hp)(z:SD)(s:L2.St)(M:MS):Prop where
 rs:RepS K B F H z s
 no:∀(i:Nat) ds,z[i]?≠be (be (.own ds))
 rm:RepM K F H M
 mb:∀a,a∈aj M->B a=q8
variable{B:Hp}{M':MS}
def Kept.growM[Jx]{F0:Hp}(k:Kept B F0 F H)(mb:∀a,a∈aj M->B a=q8)(g:GrowM M M' F H F' H'):Kept B F0 F' H' where
 bh:=λb o e=>g.hh b o (λz=>by rw[mb b z]at e;cases e) (k.bh b o e)
 fh:=g.fh
 f0:=k.f0.trans g.ff
 out:=λb h1 h2=>g.out b (λz=>h2 (mb b z)) (k.out b h1 h2) (by
  cases e:B b with
  |none=>exact absurd e h2
  |some o=>rw[k.bh b o e];exact λz=>nomatch z)
 eb:=k.eb
 jf:=k.jf
 jo:=k.jo
variable{z:SD}{s:L2.St}
def RepS.growM(r:RepS K B F H z s)(no:∀(i:Nat) ds,z[i]?≠be (be (.own ds)))(g:GrowM M M' F H F' H'):RepS K B F' H' z s where
 len:=r.len
 val:=λi d e n=>let ⟨v,q1,q2⟩:=r.val i d e n;#[v,q1,q2.mono g.ff]
 own:=λi ds e=>absurd e (no i ds)
 apart:=r.apart
def RepZ.growM(r:RepZ K B F H z s M)(bh:Same B H)(g:GrowM M M' F H F' H')(rm:RepM K F' H' M'):RepZ K B F' H' z s M':=
 ⟨r.rs.growM r.no g,r.no,rm,λa h=>by
  rcases g.ks a h with q|q
  .exact r.mb a q
  .exact bh.free q⟩
def RepZ.set{i:Nat}{d:D}{v:V}(r:RepZ K B F H z s M)(rd:Rep K F d v):RepZ K B F H (z.set i (be d)) (s.set i (be v)) M:=
 ⟨r.rs.set rd,λj ds e=>by
  by_cases hj:i=j
  .subst hj;rw[Hb]at e;simp at e;have:=rd.noown;rw[e.2]at this;cases this
  .rw[Gs hj]at e;exact r.no j ds e,r.rm,r.mb⟩
class Jm extends Jx where
 RM:SD->MS->XD
abbrev TME:=SD->MS->(D->MS->Prop)->Prop
abbrev TMT:=SD->MS->(Bool->MS->Prop)->Prop
abbrev TMA:=SD->MS->(List D->MS->Prop)->Prop
structure EndsM where
 nx:SD->MS->Prop
 rt:D->MS->Prop
 bk:SD->MS->Prop:=λ_ _=>False
 ct:SD->MS->Prop:=λ_ _=>False
abbrev TMS:=EndsM->SD->MS->Prop
def mE(K:Ex)[J:Jm](t:TME):TE:=λs H Q=>∃F z M,Kept J.B J.F0 F H/\RepZ K J.B F H z s M/\∃R:D->MS->Prop,t z M R/\∀d v M' F' H',GrowM M M' F H F' H'->R d M'->Rep K F' d v->RepM K F' H' M'->Q v H'
def mT(K:Ex)[J:Jm](t:TMT):TT:=λs H Q=>∃F z M,Kept J.B J.F0 F H/\RepZ K J.B F H z s M/\∃R:Bool->MS->Prop,t z M R/\∀b M' F' H',GrowM M M' F H F' H'->R b M'->RepM K F' H' M'->Q b H'
def mA(K:Ex)[J:Jm](t:TMA):TA:=λs H Q=>∃F z M,Kept J.B J.F0 F H/\RepZ K J.B F H z s M/\∃R:List D->MS->Prop,t z M R/\∀ds vs M' F' H',GrowM M M' F H F' H'->R ds M'->Reps K F' ds vs->RepM K F' H' M'->Q vs H'
structure EndsOkM[J:Jm](K:Ex)(F0:Hp)(ED:EndsM)(E:Ends):Prop where
 nx:∀z' s' M' F' H',Kept J.B F0 F' H'->ED.nx z' M'->RepZ K J.B F' H' z' s' M'->E.nx s' H'
 rt:∀d v M' F' H',Kept J.B F0 F' H'->ED.rt d M'->Rep K F' d v->RepM K F' H' M'->(∀a,a∈aj M'->J.B a=q8)->E.rt v H'
 bk:∀z' s' M' F' H',Kept J.B F0 F' H'->ED.bk z' M'->RepZ K J.B F' H' z' s' M'->E.bk s' H'
 ct:∀z' s' M' F' H',Kept J.B F0 F' H'->ED.ct z' M'->RepZ K J.B F' H' z' s' M'->E.ct s' H'
def mS(K:Ex)[J:Jm](t:TMS):TS:=λE s H=>∃F0 F z M,Kept J.B F0 F H/\RepZ K J.B F H z s M/\∃ED:EndsM,t ED z M/\EndsOkM K F0 ED E
structure ME(X:Cx)[Jm](e:P3)(t:TME):Prop where
 out:PE X e (mE X.K t)
structure MT(X:Cx)[Jm](e:P3)(t:TMT):Prop where
 out:PT X e (mT X.K t)
structure MW(X:Cx)[Jm](e:P3)(t:TMT):Prop where
 out:PW X e (mT X.K t)
structure MA(X:Cx)[Jm](es:List P3)(t:TMA):Prop where
 out:PA X es (mA X.K t)
structure MSt(X:Cx)[Jm](st:Se)(t:TMS):Prop where
 out:PS X st (mS X.K t)
structure MSs(X:Cx)[Jm](st:List Se)(t:TMS):Prop where
 out:PSs X st (mS X.K t)
section
variable {X:Cx}{a b c e:P3}{ta tb:TME}{pos:Sr}
def mP(t:TD):TME:=λz M R=>t z λd=>R d M
def mPT(t:TDT):TMT:=λz M R=>t z λd=>R d M
def mPA(t:TDA):TMA:=λz M R=>t z λd=>R d M
def ag[J:Jm]{t:TD}(h:WDE X e t):ME X e (mP t):=⟨PE.anti h.out λs H Q q=>by
 obtain⟨F,z,M,k,r,R,h1,h2⟩:=q;exact#[J.B,F,z,k,r.rs,_,h1,λd v F' H' g hd rd=>h2 d v M F' H' g.toM hd rd (r.rm.grow g)]⟩
def bC[J:Jm]{t:TDT}(h:WDT X e t):MT X e (mPT t):=⟨PT.anti h.out λs H Q q=>by
 obtain⟨F,z,M,k,r,R,h1,h2⟩:=q;exact#[J.B,F,z,k,r.rs,_,h1,λd F' H' g hd=>h2 d M F' H' g.toM hd (r.rm.grow g)]⟩
variable{es:List P3}
def ay[J:Jm]{t:TDA}(h:WDA X es t):MA X es (mPA t):=⟨PA.anti h.out λs H Q q=>by
 obtain⟨F,z,M,k,r,R,h1,h2⟩:=q;exact#[J.B,F,z,k,r.rs,_,h1,λd v F' H' g hd rd=>h2 d v M F' H' g.toM hd rd (r.rm.grow g)]⟩
def mOp(r:RD2)(ta tb:TME):TME:=λz M R=>ta z M λx M1=>tb z M1 λy M2=>r x y λd=>R d M2
variable{r:R2}{rd:RD2}
def sM[J:Jm]{e:P3}{ta tb:TME}(L:aW X.K r rd)(h:PE X e (tOp r (mE X.K ta) (mE X.K tb))):ME X e (mOp rd ta tb):=⟨h.anti λs H Q q=>by
 obtain⟨F,z,M,k,rs,R,h1,h2⟩:=q;refine#[F,z,M,k,rs,_,h1,λx u M1 F1 H1 g1 hx rx m1=>?_];refine#[F1,z,M1,k.growM rs.mb g1,rs.growM k.bh g1 m1,_,hx,λy v M2 F2 H2 g2 hy ry m2=>?_];exact L x y u v F2 H2 _ Q g2.fh hy (rx.mono g2.ff) ry λd w F3 H3 g3 hd rd=>h2 d w M2 F3 H3 ((g1.trans g2).trans g3.toM) hd rd (m2.grow g3)⟩
def sO[J:Jm]{op:TK}(ho:OpR X (SF op) r)(L:aW X.K r rd)(ha:ME X a ta)(hb:ME X b tb):ME X (.BinOp a op b pos) (mOp rd ta tb):=sM L (jG ho ha.out hb.out)
def sP[J:Jm](ha:ME X a ta)(hb:ME X b tb)(hs:autoParam (dZ b) zA6):ME X (.Subscript a b pos) (mOp rdIx ta tb):=sM rM (pe_ix qS ha.out hb.out hs)
def gX[Jm](ha:ME X a ta)(hb:ME X b tb):ME X (.BinOp a .Add b pos) (mOp jW ta tb):=sO rk rl ha hb
def cU[Jm](ha:ME X a ta)(hb:ME X b tb):ME X (.BinOp a .Sub b pos) (mOp jX ta tb):=sO qo rn ha hb
def mTst(t:TME):TMT:=λz M R=>t z M λx M1=>match x with|.bl k=>R k M1|_=>False
def eV[J:Jm]{op:Up}(ho:OpR X (Sz op) r)(L:aW X.K r rd)(ha:ME X a ta)(hb:ME X b tb)(hm:SI op b=false):MT X (.Compare a [op] [b] pos) (mTst (mOp rd ta tb)):=⟨(qz ho ha.out hb.out hm).anti λs H Q q=>by
 obtain⟨F,z,M,k,rs,R,h1,h2⟩:=q;refine#[F,z,M,k,rs,_,h1,λx u M1 F1 H1 g1 hx rx m1=>?_];refine#[F1,z,M1,k.growM rs.mb g1,rs.growM k.bh g1 m1,_,hx,λy v M2 F2 H2 g2 hy ry m2=>?_];refine L x y u v F2 H2 _ _ g2.fh hy (rx.mono g2.ff) ry λd w F3 H3 g3 hd rd=>?_;dsimp only at hd;split at hd
 .exact#[_,rep_bl.mp rd,h2 _ M2 F3 H3 ((g1.trans g2).trans g3.toM) hd (m2.grow g3)]
 .exact hd.elim⟩
def sQ[Jm](ha:ME X a ta)(hb:ME X b tb):MT X (.Compare a [.Lt] [b] pos) (mTst (mOp rdLt ta tb)):=eV qv rG ha hb (nomark _)
def zK[Jm](ha:ME X a ta)(hb:ME X b tb):MT X (.Compare a [.Gt] [b] pos) (mTst (mOp rdGt ta tb)):=eV qw rH ha hb (nomark _)
def fU[Jm](ha:ME X a ta)(hb:ME X b tb):MT X (.Compare a [.Eq] [b] pos) (mTst (mOp rdEq ta tb)):=eV jH jY ha hb (nomark _)
def fV[Jm](ha:ME X a ta)(hb:ME X b tb):MT X (.Compare a [.NotEq] [b] pos) (mTst (mOp rdNe ta tb)):=eV qu rJ ha hb (nomark _)
def sR[Jm](ha:ME X a ta)(hb:ME X b tb):MT X (.Compare a [.Is] [b] pos) (mTst (mOp (rdIs id) ta tb)):=eV qy rL ha hb (nomark _)
def zL[Jm](ha:ME X a ta)(hb:ME X b tb)(hm:autoParam (SI .NotIn b=false) zA0):MT X (.Compare a [.NotIn] [b] pos) (mTst (mOp (rdIn true) ta tb)):=eV zE zD ha hb hm
variable {tA tB:TMT}{b7:List P3}
def mt_w[Jm](h:MW X a tA):MT X a tA:=#[PW.pt h.out]
def sS[Jm](ha:MT X a tA):MW X (.BoolOp .And [a] pos) tA:=#[qc ha.out]
def eX[Jm](ha:MT X a tA):MW X (.BoolOp .Or [a] pos) tA:=#[qd ha.out]
def mAnd(tA tB:TMT):TMT:=λz M R=>tA z M λk M1=>if k=true then tB z M1 R else R false M1
def mOr(tA tB:TMT):TMT:=λz M R=>tA z M λk M1=>if k=true then R true M1 else tB z M1 R
def sT[J:Jm](ha:MT X a tA)(hb:MW X (.BoolOp .And (b::b7) pos) tB):MW X (.BoolOp .And (a::b::b7) pos) (mAnd tA tB):=⟨(qe ha.out hb.out).anti λs H Q q=>by
 obtain⟨F,z,M,k,rs,R,h1,h2⟩:=q;refine#[F,z,M,k,rs,_,h1,λx M1 F1 H1 g1 hx m1=>?_];cases x with
 |true=>exact#[F1,z,M1,k.growM rs.mb g1,rs.growM k.bh g1 m1,R,hx,λy M2 F2 H2 g2 hy m2=>h2 y M2 F2 H2 (g1.trans g2) hy m2]
 |false=>exact h2 _ M1 F1 H1 g1 hx m1⟩
def dL[J:Jm](ha:MT X a tA)(hb:MW X (.BoolOp .Or (b::b7) pos) tB):MW X (.BoolOp .Or (a::b::b7) pos) (mOr tA tB):=⟨(qf ha.out hb.out).anti λs H Q q=>by
 obtain⟨F,z,M,k,rs,R,h1,h2⟩:=q;refine#[F,z,M,k,rs,_,h1,λx M1 F1 H1 g1 hx m1=>?_];cases x with
 |false=>exact#[F1,z,M1,k.growM rs.mb g1,rs.growM k.bh g1 m1,R,hx,λy M2 F2 H2 g2 hy m2=>h2 y M2 F2 H2 (g1.trans g2) hy m2]
 |true=>exact h2 _ M1 F1 H1 g1 hx m1⟩
def mIf(tc:TMT)(ta tb:TME):TME:=λz M R=>tc z M λk M1=>if k=true then ta z M1 R else tb z M1 R
def fW[J:Jm]{tc:TMT}(hc:MT X c tc)(ha:ME X a ta)(hb:ME X b tb):ME X (.IfExp c a b pos) (mIf tc ta tb):=⟨(we hc.out ha.out hb.out).anti λs H Q q=>by
 obtain⟨F,z,M,k,rs,R,h1,h2⟩:=q;refine#[F,z,M,k,rs,_,h1,λx M1 F1 H1 g1 hx m1=>?_];cases x with
 |true=>exact#[F1,z,M1,k.growM rs.mb g1,rs.growM k.bh g1 m1,R,hx,λd v M2 F2 H2 g2 hy rd m2=>h2 d v M2 F2 H2 (g1.trans g2) hy rd m2]
 |false=>exact#[F1,z,M1,k.growM rs.mb g1,rs.growM k.bh g1 m1,R,hx,λd v M2 F2 H2 g2 hy rd m2=>h2 d v M2 F2 H2 (g1.trans g2) hy rd m2]⟩
def mNil:TMA:=λ_ M R=>R [] M
def zM(ta:TME)(tr:TMA):TMA:=λz M R=>ta z M λx M1=>tr z M1 λxs M2=>R (x::xs) M2
def aU[J:Jm]:MA X [] mNil:=⟨pa_nil.anti λs H Q q=>by
 obtain⟨F,z,M,k,rs,R,h1,h2⟩:=q;exact h2 [] [] M F H (GrowM.refl k.fh) h1 (reps_nil.mpr rfl) rs.rm⟩
variable{t:TMA}
def az[J:Jm]{e:P3}{te:TME}(ha:ME X e te)(hr:MA X es t)(hs:autoParam (zSE X e es) zA0):MA X (e::es) (zM te t):=⟨(bf ha.out hr.out hs).anti λs H Q q=>by
 obtain⟨F,z,M,k,rs,R,h1,h2⟩:=q;refine#[F,z,M,k,rs,_,h1,λx u M1 F1 H1 g1 hx rx m1=>?_];refine#[F1,z,M1,k.growM rs.mb g1,rs.growM k.bh g1 m1,_,hx,λxs us M2 F2 H2 g2 hy ry m2=>?_];exact h2 _ _ M2 F2 H2 (g1.trans g2) hy (reps_cons.mpr #[_,_,rfl,rx.mono g2.ff,ry]) m2⟩
def mTup(t:TMA):TME:=λz M R=>t z M λxs M1=>xs.length<=1000/\R (.tup xs) M1
def sU[J:Jm]{x1}(h:MA X es t):ME X (.Tuple es x1 pos) (mTup t):=⟨(qI h.out).anti λs H Q q=>by
 obtain⟨F,z,M,k,rs,R,h1,h2⟩:=q;refine#[F,z,M,k,rs,_,h1,λds vs M1 F1 H1 g1 hx rx m1=>?_];have hl:=rx.length;refine#[sz (by rw[hl];exact hx.1),λp hp=>?_];have gn:=Grow.new g1.fh hp (.tup vs);exact h2 _ _ M1 _ _ (g1.trans gn.toM) hx.2 (rep_tupS.mpr #[p,vs,rfl,aB,rx.mono (aP (g1.fh.free hp) _)]) (m1.grow gn)⟩
def mLst(t:TMA):TME:=λz M R=>t z M λxs M1=>xs.length<=1000/\∀p,p∉aj M1->R (.ptr p) ((p,.lst xs)::M1)
def kE[J:Jm](h:MA X es t):ME X (.List es pos) (mLst t):=⟨(gE h.out).anti λs H Q q=>by
 obtain⟨F,z,M,k,rs,R,h1,h2⟩:=q;refine#[F,z,M,k,rs,_,h1,λds vs M1 F1 H1 g1 hx rx m1=>?_];have hl:=rx.length;refine#[sz (by rw[hl];exact hx.1),λp hp=>?_];exact h2 _ _ _ F1 _ (g1.trans (GrowM.new g1.fh hp)) (hx.2 p λz=>m1.here z hp) (rep_ptr.mpr rfl) (m1.new g1.fh hp #[vs,aB,rx])⟩
def mCB(r:RDn)(t:TMA):TME:=λz M R=>t z M λds M1=>r ds λd=>R d M1
variable{x:C_}{p:Sr}
def zN[J:Jm]{e:P3}{id:String}{r:List V->Hp->VK->Prop}{rd:RDn}(hc:bA X (.builtin id) r)(L:cn X.K r rd)(hm:X.mg x=q8)(hv:Sw x=be (.builtin id))(ha:MA X (e::es) t)(hg:autoParam (Gl X x) zA0)(hn:autoParam (x≠"__name__") zA1)(d8:autoParam (zND x) zA1)
  (he:autoParam (zSE X e es) zA0) (c_:autoParam (zPL X pos es) zA0):ME X (.Call (.Name x p) (e::es) [] pos) (mCB rd t):=⟨(dY hc hg hm hv ha.out hn d8 he c_).anti λs H Q h=>by
 obtain⟨F,z,M,k,rs,R,h1,h2⟩:=h;refine#[F,z,M,k,rs,_,h1,λds vs M1 F1 H1 g1 hx rx m1=>?_];exact L ds vs F1 H1 _ Q g1.fh hx rx λd w F' H' g hd rd=>h2 d w M1 F' H' (g1.trans g.toM) hd rd (m1.grow g)⟩
def sV[Jm]{e:P3}(hm:X.mg "len"=q8)(ha:MA X [e] t)(hg:autoParam (Gl X "len") zA0)(he:autoParam (zSE X e []) zA0):ME X (.Call (.Name "len" p) [e] [] pos) (mCB jZ t):=zN jI rO hm PySem.boot_len ha hg Ku Ku he
def zO[J:Jm]{e:P3}{T:String}{r:List V->Hp->VK->Prop}{rd:RDn}(hc:bA X (.type T) r)(L:cn X.K r rd)(hm:X.mg x=q8)(hv:Sw x=be (.type T))(ha:MA X (e::es) t)(hg:autoParam (Gl X x) zA0)(hn:autoParam (x≠"__name__") zA1)(d8:autoParam (zND x) zA1)
  (he:autoParam (zSE X e es) zA0) (c_:autoParam (zPL X pos es) zA0):ME X (.Call (.Name x p) (e::es) [] pos) (mCB rd t):=⟨(qM hc hg hm hv ha.out hn d8 he c_).anti λs H Q h=>by
 obtain⟨F,z,M,k,rs,R,h1,h2⟩:=h;refine#[F,z,M,k,rs,_,h1,λds vs M1 F1 H1 g1 hx rx m1=>?_];exact L ds vs F1 H1 _ Q g1.fh hx rx λd w F' H' g hd rd=>h2 d w M1 F' H' (g1.trans g.toM) hd rd (m1.grow g)⟩
def sW[Jm](hm:X.mg "int"=q8)(ha:MA X [e] t)(hg:autoParam (Gl X "int") zA0)(he:autoParam (zSE X e []) zA0):ME X (.Call (.Name "int" p) [e] [] pos) (mCB kh t):=zO se sf hm PyProof.Rows.boot_int ha hg Ku Ku he
def eY(M:MS)(d:D)(x:C_)(fs:List (C_×D)):Prop:=match d with|.ptr a=>mget M a=be (.ins x fs)|.obj y gs=>y=x/\gs=fs|_=>False
def mFld(x f:C_)(te:TME):TME:=λz M R=>te z M λd M1=>∃fs,eY M1 d x fs/\∃d',fs.lookup f=be d'/\R d' M1
def kF{K:Ex}{F H:Hp}{M:MS}{d:D}{v:V}{fs:List (C_×D)}(fh:Same F H)(rm:RepM K F H M)(rd:Rep K F d v)(h:eY M d x fs):∃a C dx ws,v=.ref a/\nsIn K Pi x=be (be (.ref C))/\H a=be (.ins C dx ws)/\RepF K F fs ws:=by
 unfold eY at h;split at h
 .rename_i a;obtain⟨C,dx,ws,n,h1,h2⟩:=rm.ok _ _ (bg h);exact#[a,C,dx,ws,rep_ptr.mp rd,n,h1,h2]
 .obtain⟨rfl,rfl⟩:=h;obtain⟨a,C,dx,ws,e,n,h1,h2⟩:=rep_obj.mp rd;exact#[a,C,dx,ws,e,n,fh _ _ h1,h2]
 .exact h.elim
def aA[J:Jm]{f:C_}(hA:ClsA X.K x f)(he:ME X e ta)(hb:autoParam (Sn e f X.env (So e X.env)=So e X.env) zA0):ME X (.Attribute e f pos) (mFld x f ta):=⟨(qF he.out hb).anti λs H Q q=>by
 obtain⟨C,hn,hc,hf⟩:=hA;obtain⟨F,z,M,k,rs,R,h1,h2⟩:=q;refine#[F,z,M,k,rs,_,h1,λd u M1 F1 H1 g1 hx rx m1=>?_];obtain⟨fs,hi,d',hl,hR⟩:=hx;obtain⟨a,C',dx,ws,rfl,j5,hH,rf⟩:=kF g1.fh m1 rx hi;rw[hn]at j5;cases j5;obtain⟨v,l,rv⟩:=rf.look hl;exact#[a,C,dx,ws,v,rfl,hH,hc,hf,l,h2 d' v M1 F1 H1 g1 hR rv m1]⟩
end
abbrev XDM:=C_->List (C_×D)->MS->Prop
abbrev SpM:=List D->MS->(D->MS->Prop)->XDM->Prop
def lSpM(K:Ex)(S:SpM):Sp:=λvs H Q E=>∃F ds M,Same F H/\Reps K F ds vs/\RepM K F H M/\∃(R:D->MS->Prop) (RX:XDM),S ds M R RX/\(∀d v M' F' H',GrowM M M' F H F' H'->R d M'->Rep K F' d v->RepM K F' H' M'->Q v H')/\
 ∀x fs C od M' F' H',GrowM M M' F H F' H'->RX x fs M'->ErrD K F' x fs C od->RepM K F' H' M'->E (.ref C) od H'
abbrev CalMM(P:Sd)(w:Sj)(K:Ex)(mg:C_->Option KB)(base:Sl)(n:Nat)(x:C_)(ps:List C_)(S:SpM):Prop:=Cal P w K mg base n x ps (lSpM K S)
def ofX(S:SpX):SpM:=λds M R RX=>S ds (λd=>R d M) λx fs=>RX x fs M
def ofD(S:SpD):SpM:=λds M R _=>S ds λd=>R d M
variable{vs:List V}
def zP{S:SpX}{Q:VK}{E:XK}(h:lSpM K (ofX S) vs H Q E):lSpX K S vs H Q E:=by
 obtain⟨F,ds,M,fh,rs,rm,R,RX,hS,q,qx⟩:=h;exact#[F,ds,fh,rs,_,_,hS,λd v F' H' g hd rd=>q d v M F' H' g.toM hd rd (rm.grow g),λx fs C od F' H' g hR er=>qx x fs C od M F' H' g.toM hR er (rm.grow g)]
def zQ{S:SpD}{Q:VK}{E:XK}(h:lSpM K (ofD S) vs H Q E):lSp K S vs H Q E:=by
 obtain⟨F,ds,M,fh,rs,rm,R,RX,hS,q,qx⟩:=h;exact#[F,ds,fh,rs,_,hS,λd v F' H' g hd rd=>q d v M F' H' g.toM hd rd (rm.grow g)]
section
variable {P:Sd}{w:Sj}{K:Ex}{mg:C_->Option KB}{base:Sl}{n:Nat}{x:C_}{ps:List C_}
def CalX.toM{S:SpX}(C:CalX P w K mg base n x ps S):CalMM P w K mg base n x ps (ofX S):=by
 obtain⟨f,fd,F,hb,hk,hm⟩:=C;exact#[f,fd,F.imp λvs H Q E h=>zP h,hb,hk,hm]
def CalD.toM{S:SpD}(C:CalD P w K mg base n x ps S):CalMM P w K mg base n x ps (ofD S):=by
 obtain⟨f,fd,F,hb,hk,hm⟩:=C;exact#[f,fd,F.imp λvs H Q E h=>zQ h,hb,hk,hm]
def CalMth(P:Sd)(w:Sj)(K:Ex)(mg:C_->Option KB)(base:Sl)(n:Nat)(x m:C_)(ps:List C_)(sp:Sp):Prop:=
 ∃C f fd,nsIn K Pi x=be (be (.ref C))/\Cls K C/\Meth K C m f/\FnOk P w K mg base (CX1 P w) n f fd ps sp/\Binds K fd ps []
variable{sp:Sp}
def Cal.mono{n':Nat}(h:Cal P w K mg base n x ps sp)(hn:n<=n'):Cal P w K mg base n' x ps sp:=by
 obtain⟨f,fd,F,h⟩:=h;exact#[f,fd,F.mono hn,h]
def Cal.imp{J6:Sp}(h:Cal P w K mg base n x ps sp)(i:∀vs H Q E,J6 vs H Q E->sp vs H Q E):Cal P w K mg base n x ps J6:=by
 obtain⟨f,fd,F,h⟩:=h;exact#[f,fd,F.imp i,h]
def CalMth.imp{m:C_}{J6:Sp}(h:CalMth P w K mg base n x m ps sp)(i:∀vs H Q E,J6 vs H Q E->sp vs H Q E):CalMth P w K mg base n x m ps J6:=by
 obtain⟨C,f,fd,h1,h2,h3,h4,h5⟩:=h;exact#[C,f,fd,h1,h2,h3,h4.imp i,h5]
end
def XOkM(X:Cx)[J:Jm]:Prop:=∀(σ:L2.St) (z:SD) (M:MS) (F H:Hp) (s:KM) (e C:KF) (od:Option KF) (x:C_) (fs:List (C_×D)),Inv X [] σ H s->Kept J.B J.F0 F H->RepZ X.K J.B F H z σ M->J.RM z M x fs->ErrD X.K F x fs C od->Exd X H s e C od->X.xe (.ref e) s
def EX(X:Cx)[J:Jm](z:SD)(σ:L2.St):XK:=λCv od H'=>∃x fs C M' F',Cv=.ref C/\Kept J.B J.F0 F' H'/\RepZ X.K J.B F' H' z σ M'/\J.RM z M' x fs/\ErrD X.K F' x fs C od
def XOkM.out{X:Cx}[J:Jm](hx:XOkM X)(f_:X.ex=[]){pins:List (KF×Sx)}{σ:L2.St}{s s':KM}{ev:KB}(I:Inv X pins σ H s)
  (h:CX1 X.prog X.w X.stack H s (EX X z σ) ev s'):X.xe ev s':=by
 obtain⟨e,C,od,T,H',rfl,F_,hb,un,hok,Nu,ne,nT,He,HT,x,fs,C',M',F',hC,kk,rr,hR,er⟩:=h;cases hC;have I':Inv X pins σ H' s':=I.call' F_ un hok hb (λb z=>absurd z Kv);exact hx σ z M' F' H' s' e C od x fs (Inv.nopins I') kk rr hR er #[He,cT I f_ ne,pn_free I ne,.inr #[T,Nu,cT I f_ nT,HT,pn_free I nT]]
section
variable {X:Cx}[J:Jm]{a b c e o:P3}{ta tb te:TME}{pos p b_ a8:Sr}{n m:Nat}{ps:List C_}{S:SpM}{x:C_}{es:List P3}{t:TMA}
def zR(S:SpM)(t:TMA):TME:=λz M R=>t z M λds M1=>S ds M1 R λx fs M'=>J.RM z M' x fs
variable{ds:List My.D}{vs:List V}
def kG{σ:L2.St}{z:SD}{M M1:MS}{F H F1 H1:Hp}{Q:VK}{R:D->MS->Prop}(k:Kept J.B J.F0 F H)(rs:RepZ X.K J.B F H z σ M)(g1:GrowM M M1 F H F1 H1)(m1:RepM X.K F1 H1 M1)(rx:Reps X.K F1 ds vs)
  (hS:S ds M1 R λx fs M'=>J.RM z M' x fs) (h2:∀d v M' F' H',GrowM M M' F H F' H'->R d M'->Rep X.K F' d v->RepM X.K F' H' M'->Q v H'):lSpM X.K S vs H1 Q (EX X z σ):=
 #[F1,ds,M1,g1.fh,rx,m1,R,_,hS,λd v M' F' H' g hd rd m'=>h2 d v M' F' H' (g1.trans g) hd rd m',λy fs C od M' F' H' g hR er m'=>#[y,fs,C,M',F',rfl,(k.growM rs.mb g1).growM (rs.growM k.bh g1 m1).mb g,(rs.growM k.bh g1 m1).growM (k.growM rs.mb g1).bh g m',hR,er]]
def aK(C:CalMM X.prog X.w X.K X.mg X.base n x ps S)(hx:XOkM X)(hr:Room m X.A)(ha:MA X (e::es) t)(f_:autoParam (X.ex=[]) zA0)(hg:autoParam (Gl X x) zA0)(hn:autoParam (n<=m) zA1)(d8:autoParam (zND x) zA1)
  (he:autoParam (zSE X e es) zA0) (c_:autoParam (zPL X pos es) zA0):
  ME X (.Call (.Name x p) (e::es) [] pos) (zR S t):=by
 obtain⟨f,fd,F,hb,hk,hm⟩:=C;refine#[λpins s σ H Q I h=>?_];obtain⟨Fr,z,M,k,rs,R,h1,h2⟩:=h;refine Sv (cN I hg hm ?_ d8);refine callWith_K (h₀:=X.base) I.ok.mod.kin hk (thn (ha.out pos pins s σ H (λvs H1=>lSpM X.K S vs H1 Q (EX X z σ)) I #[Fr,z,M,k,rs,_,h1,λds vs M1 F1 H1 g1 hx rx m1=>kG k rs g1 m1 rx hx h2]) λus s1 hh=>#[hh.elim λ_ h=>h.elim λ_ h=>h.1.kIn,?_]) he c_;obtain⟨vs,H1,I1,r,q⟩:=hh;exact gQ F (hr.mono hn) hb (λe s' hq=>hx.out f_ I1 hq) I1 r q
def sX(cs:List C_)(m:C_)(S:C_->SpM)(to:TME)(t:TMA):TME:=λz M R=>to z M λd M1=>∃x,x∈cs/\∃fs,eY M1 d x fs/\fs.lookup m=q8/\t z M1 λds M2=>S x (d::ds) M2 R λx fs M'=>J.RM z M' x fs
variable{cs:List C_}{pl:T9 Bool}
def aQ{nm:C_}{S:C_->SpM}(C:∀x,x∈cs->CalMth X.prog X.w X.K X.mg X.base n x nm ps (lSpM X.K (S x)))(hx:XOkM X)(hr:Room m X.A)(ho:ME X o te)(ha:MA X (e::es) t)(f_:autoParam (X.ex=[]) zA0)(hn:autoParam (n<=m) zA1)
  (l5:autoParam (zSE X e es) zA0) (c_:autoParam (zPL X pos es) zA0)
  (ht:So (.Call (.Attribute o nm b_) (e::es) [] pos) X.env=(do
   let ov <-So o X.env
   S5 b_.atName
   let (f,first) <-SG [ov] (TN ov nm pl)
   callWith pos f first (SZ pos (Si (e::es) X.env)) (T8 pos (Tt [] X.env))):=by rfl):
  ME X (.Call (.Attribute o nm b_) (e::es) [] pos) (sX cs nm S te t):=by
 refine#[λpins s σ H Q I h=>?_];obtain⟨Fr,z,M,k,rs,R,h1,h2⟩:=h;refine methodCall_KW (pl:=pl) (thn (ho.out pins s σ H (λv H1=>∃d M1 F1,GrowM M M1 Fr H F1 H1/\Rep X.K F1 d v/\RepM X.K F1 H1 M1/\∃x,x∈cs/\∃fs,eY M1 d x fs/\fs.lookup nm=q8/\t z M1 λds M2=>S x (d::ds) M2 R λx fs M'=>J.RM z M' x fs) I #[Fr,z,M,k,rs,_,h1,λd v M1 F1 H1 g1 hd rd m1=>#[d,M1,F1,g1,rd,m1,hd]]) λu s1 hh=>?_) ht;obtain⟨v,H1,I1,rv,d,M1,F1,g1,rd,m1,x,Ny,fs,hi,hl,hq⟩:=hh;obtain⟨C',f,fd,hns,u8,LF,F,hb⟩:=C x Ny;obtain⟨a,C2,dx,ws,rfl,v5,hH,rf⟩:=kF g1.fh m1 rd hi;rw[hns]at v5;cases v5;obtain rfl:u=Value.ref a:=rv;refine qE I1 hH u8 LF (rf.none hl) ?_;refine callWith_K (first:=[.ref a]) (h₀:=X.base) I.ok.mod.kin LF.kp (thn (ha.out pos pins s1 σ H1 (λvs H2=>lSpM X.K (S x) (.ref a::vs) H2 Q (EX X z σ)) I1 #[F1,z,M1,k.growM rs.mb g1,rs.growM k.bh g1 m1,_,hq,λds vs M2 F2 H2 g2 hx rx m2=>kG k rs (g1.trans g2) m2 (reps_cons.mpr #[_,_,rfl,rd.mono g2.ff,rx]) hx h2]) λus s2 hh=>#[hh.elim λ_ h=>h.elim λ_ h=>h.1.kIn,?_]) l5 c_;obtain⟨vs,H2,I2,r,q2⟩:=hh;exact gQ (us:=.ref a::us) (vs:=.ref a::vs) F (hr.mono hn) hb (λe s' hq=>hx.out f_ I2 hq) I2 (.cons rfl r) q2
def bD{nm:C_}{S:C_->SpM}(C:∀x,x∈cs->CalMth X.prog X.w X.K X.mg X.base n x nm ps (lSpM X.K (S x)))(hx:XOkM X)(hr:Room m X.A)(ho:ME X o te)(f_:autoParam (X.ex=[]) zA0)(hn:autoParam (n<=m) zA1)
  (ht:So (.Call (.Attribute o nm b_) [] [] pos) X.env=(do
   let ov <-So o X.env
   S5 b_.atName
   let (f,first) <-SG [ov] (TN ov nm pl)
   callWith pos f first (SZ pos (Si [] X.env)) (T8 pos (Tt [] X.env))):=by rfl):
  ME X (.Call (.Attribute o nm b_) [] [] pos) (sX cs nm S te mNil):=by
 refine#[λpins s σ H Q I h=>?_];obtain⟨Fr,z,M,k,rs,R,h1,h2⟩:=h;refine methodCall_KW (pl:=pl) (thn (ho.out pins s σ H (λv H1=>∃d M1 F1,GrowM M M1 Fr H F1 H1/\Rep X.K F1 d v/\RepM X.K F1 H1 M1/\∃x,x∈cs/\∃fs,eY M1 d x fs/\fs.lookup nm=q8/\S x [d] M1 R λx fs M'=>J.RM z M' x fs) I #[Fr,z,M,k,rs,_,h1,λd v M1 F1 H1 g1 hd rd m1=>#[d,M1,F1,g1,rd,m1,hd]]) λu s1 hh=>?_) ht;obtain⟨v,H1,I1,rv,d,M1,F1,g1,rd,m1,x,Ny,fs,hi,hl,hq⟩:=hh;obtain⟨C',f,fd,hns,u8,LF,F,hb⟩:=C x Ny;obtain⟨a,C2,dx,ws,rfl,v5,hH,rf⟩:=kF g1.fh m1 rd hi;rw[hns]at v5;cases v5;obtain rfl:u=Value.ref a:=rv;refine qE I1 hH u8 LF (rf.none hl) ?_;refine callWith_K0 (first:=[.ref a]) I1.kIn LF.kp (gQ (E:=EX X z σ) (us:=[.ref a]) (vs:=[.ref a]) F (hr.mono hn) hb (λe s' hq=>hx.out f_ I1 hq) I1 (.cons rfl .nil) ?_);exact kG k rs g1 m1 (eJ rd) hq h2
def make_of{C:KF}{S:SiD}{x:C_}{σ:L2.St}{z:SD}{M M1:MS}{F H F1 H1:Hp}{a dx:KF}{Q:VK}{E:XK}{T:List (C_×D)->Prop}(g1:GrowM M M1 F H F1 H1)(m1:RepM X.K F1 H1 M1)(rx:Reps X.K F1 ds vs)(hS:S ds T)
  (ha:H1 a=q8) (m9:H1 dx=q8) (m_:dx≠a) (q:∀fs ws dx F' H',Grow F1 H1 F' H'->T fs->H' a=be (.ins C dx ws)->F' a=q8->RepF X.K F' fs ws->Q (.ref a) H'):
  lSi X.K C S (.ref a::(vs++[])) (upd (upd H1 dx (.own a)) a (.ins C dx [])) (λv H2=>v=.non/\Q (.ref a) H2) E:=
 #[a,dx,vs,H1,F1,ds,by rw[GS],rfl,ha,m9,m_,g1.fh,rx,_,hS,λfs ws JQ F' H' g hR k6 o_ rf=>#[rfl,q fs ws JQ F' H' g hR k6 o_ rf]]
def zS(x:C_)(S:SiD)(t:TMA):TME:=λz M R=>t z M λds M1=>S ds λfs=>R (.obj x fs) M1
def gY{S:SiD}(M:CalM X.prog X.w X.K X.mg X.base n x ps S)(hr:Room m X.A)(ha:MA X (e::es) t)(hg:autoParam (Gl X x) zA0)(hn:autoParam (n+1<=m) zA1)(d8:autoParam (zND x) zA1)
  (he:autoParam (zSE X e es) zA0) (c_:autoParam (zPL X pos es) zA0):
  ME X (.Call (.Name x p) (e::es) [] pos) (zS x S t):=by
 obtain⟨C,f,fd,hns,i9,mk,F,hb⟩:=M;refine#[(gG mk F (hr.mono hn) hg i9 hb .nil fF ha.out d8 he c_).anti λs H Q q=>?_];obtain⟨F,z,M,k,rs,R,h1,h2⟩:=q;refine#[F,z,M,k,rs,_,h1,λds vs M1 F1 H1 g1 hx rx m1=>?_];intro a dx ha m9 m_;refine make_of (σ:=s) (z:=z) (x:=x) g1 m1 rx hx ha m9 m_ λfs ws dx F' H' g hR k6 o_ rf=>?_;have s1:Same F' (upd F' a (.ins C dx ws)):=aP o_ _;have g2:Grow F1 H1 (upd F' a (.ins C dx ws)) H':=⟨g.ff.trans s1,λb o q=>by
  by_cases hb:b=a
  .subst hb;rw[aB]at q;cases q;exact k6
  .rw[au hb]at q;exact g.fh b o q,g.hh,λb q1 q2=>by
  by_cases hb:b=a
  .subst hb;exact absurd ha q2
  .rw[au hb];exact g.out b q1 q2⟩
 exact h2 (.obj x fs) (.ref a) M1 (upd F' a (.ins C dx ws)) H' (g1.trans g2.toM) hR (rep_obj.mpr #[a,C,dx,ws,rfl,hns,aB,RepF.mono s1 fs ws rf]) (m1.grow g2)
def zT(x:C_)(S:SiD)(t:TMA):TME:=λz M R=>t z M λds M1=>S ds λfs=>∀a,a∉aj M1->R (.ptr a) ((a,.ins x fs)::M1)
def zU{S:SiD}(M:CalM X.prog X.w X.K X.mg X.base n x ps S)(hr:Room m X.A)(ha:MA X (e::es) t)(hg:autoParam (Gl X x) zA0)(hn:autoParam (n+1<=m) zA1)(d8:autoParam (zND x) zA1)
  (he:autoParam (zSE X e es) zA0) (c_:autoParam (zPL X pos es) zA0):
  ME X (.Call (.Name x p) (e::es) [] pos) (zT x S t):=by
 obtain⟨C,f,fd,hns,i9,mk,F,hb⟩:=M;refine#[(gG mk F (hr.mono hn) hg i9 hb .nil fF ha.out d8 he c_).anti λs H Q q=>?_];obtain⟨F,z,M,k,rs,R,h1,h2⟩:=q;refine#[F,z,M,k,rs,_,h1,λds vs M1 F1 H1 g1 hx rx m1=>?_];intro a dx ha m9 m_;refine make_of (σ:=s) (z:=z) (x:=x) g1 m1 rx hx ha m9 m_ λfs ws dx F' H' g hR k6 o_ rf=>?_;have na:a∉aj M1:=λz=>m1.here z ha;have m2:=m1.grow g;refine h2 (.ptr a) (.ref a) _ F' H' (g1.trans #[g.ff,g.fh,λb o _ q=>g.hh b o q,λb _ q1 q2=>g.out b q1 q2,λb q=>?_]) (hR a na) (rep_ptr.mpr rfl) #[GP.mpr #[na,m2.nd],λb o q=>?_,λb q=>?_]
 .rcases Gh.mp q with q|q
  .exact .inr (by rw[q];exact ha)
  .exact .inl q
 .rcases Gh.mp q with q|q
  .cases q;exact#[C,dx,ws,hns,k6,rf]
  .exact m2.ok b o q
 .rcases Gh.mp q with q|q
  .rw[q];exact o_
  .exact m2.fr b q
end
section
variable {X:Cx}{x:C_}{e:P3}{es:List P3}{t:TA}{p a8 pos:Sr}{n m:Nat}{ps:List C_}{S:SiD}
def sY(X:Cx)(σ:L2.St)(F1 H1:Hp)(x:C_)(fs:List (C_×D)):Prop:=∀F' H' s' e C od,Inv X [] σ H' s'->Grow F1 H1 F' H'->ErrD X.K F' x fs C od->Exd X H' s' e C od->X.xe (.ref e) s'
def zV(h:∃C N bm,ErrK X.K X.mg x C N bm/\ErrN X.K N)(hc:X.calm=true)(ha:PA X (e::es) t)(f_:autoParam (X.ex=[]) zA0)(hg:autoParam (Gl X x) zA0)(d8:autoParam (zND x) zA1)
  (he:autoParam (zSE X e es) zA0) (c_:autoParam (zPL X a8 es) zA0):
  PS X (.Raise (be (.Call (.Name x p) (e::es) [] a8)) q8 pos) (λ_ σ H=>t σ H λvs H1=>vs.length<=1000/\∃F1,Same F1 H1/\sY X σ F1 H1 x []):=by
 obtain⟨C,N,bm,k,kn⟩:=h;intro pins s σ H D I h;obtain⟨nm,q,bs,sn,sub,ab,col,dd,k0,k1,k2,k3,k5,lk⟩:=k.obj;refine rb (nm:=nm) (q:=q) (C:=C) (N:=N) (bs:=bs) (bm:=bm) (hdct:=true) (sn:=sn) (sub:=sub) (ab:=ab) (col:=col) (dd:=dd) (k0:=k0) (k1:=k1) (k2:=k2) (k3:=k3) (k5:=k5) (newId:="ValueError.__new__") k.base (I.ok.hd hc) ?_;refine Sv (cN I hg k.mg ?_ d8);refine callWith_K (h₀:=X.base) I.ok.mod.kin k.kp (thn (ha a8 pins s σ H _ I h) λus s1 hh=>#[hh.elim λ_ h=>h.elim λ_ h=>h.1.kIn,?_]) he c_;obtain⟨vs,H1,I1,r,hl,F1,QM,hR⟩:=hh;have hC:=I1.kIn _ _ lk;obtain⟨hp,gg,dr,tk,os⟩:=s1;refine Ua PySem.F.excBase_ValueError (tail_of_in I1.kIn k.tail) hC (.of_isNs (isNs_of_in I1.kIn kn.ok)) (nsMap_none_of_in I1.kIn kn.ok kn.no) (λh' ea hm=>?_) (by show us.length<=_;rw[<-L2.Vals.length r];exact sz hl);obtain⟨ta,h1,h2,h3⟩:=hm.there;have I2:Inv X pins σ H1 #[h',gg,dr,tk,os]:=I1.kept (t':=tk) hm.keeps;refine#[ea,ta,q8,[].toArray,rfl,hm.keeps _ _ hC,h1,?_];exact hR F1 H1 _ ea C q8 (Inv.nopins I2) (Grow.refl QM) #[k.ns,[],repf_nil.mpr rfl,.inl #[rfl,rfl]] #[ku I1.hok hm.new,cT I1 f_ hm.new,pn_free I1 hm.new,.inl #[[].toArray,_,h1,rfl]]
end
section
variable {X:Cx}[J:Jm]{x:C_}{e:P3}{es:List P3}{t:TMA}{p a8 pos:Sr}{n m:Nat}{ps:List C_}{S:SiD}
def zW{σ:L2.St}{z:SD}{M M1:MS}{F H F1 H1:Hp}{fs:List (C_×D)}(hx:XOkM X)(k:Kept J.B J.F0 F H)(rs:RepZ X.K J.B F H z σ M)(g1:GrowM M M1 F H F1 H1)(m1:RepM X.K F1 H1 M1)(hR:J.RM z M1 x fs):sY X σ F1 H1 x fs:=λF' H' s' e C od I g er ex=>
 hx σ z M1 F' H' s' e C od x fs I ((k.growM rs.mb g1).grow g) ((rs.growM k.bh g1 m1).growM (k.growM rs.mb g1).bh g.toM (m1.grow g)) hR er ex
def zX(x:C_)(t:TMA):TMS:=λ_ z M=>t z M λds M1=>ds.length<=1000/\J.RM z M1 x []
def sZ(h:∃C N bm,ErrK X.K X.mg x C N bm/\ErrN X.K N)(hx:XOkM X)(hc:X.calm=true)(ha:MA X (e::es) t)(f_:autoParam (X.ex=[]) zA0)(hg:autoParam (Gl X x) zA0)(d8:autoParam (zND x) zA1)
  (he:autoParam (zSE X e es) zA0) (c_:autoParam (zPL X a8 es) zA0):
  MSt X (.Raise (be (.Call (.Name x p) (e::es) [] a8)) q8 pos) (zX x t):=⟨(zV h hc ha.out f_ hg d8 he c_).anti λE s H q=>by
 obtain⟨F0,F,z,M,k,rs,ED,h,ee⟩:=q;exact#[F,z,M,k.kf,rs,_,h,λds vs M1 F1 H1 g1 gt rx m1=>#[by rw[rx.length];exact gt.1,F1,g1.fh,zW hx k.kf rs g1 m1 gt.2]]⟩
end
section
variable {X:Cx}[J:Jm]{a b c e:P3}{ta tb tc te:TME}{pos:Sr}{st:Se}{b7:List Se}{t u:TMS}
def zY:TMS:=λE z M=>E.nx z M
def mSeq(t u:TMS):TMS:=λE z M=>t {E with nx:=u E} z M
def bb:MSs X [] zY:=⟨pss_nil.anti λE s H q=>by
 obtain⟨F0,F,z,M,k,rs,ED,h,e⟩:=q;exact e.nx z s M F H k h rs⟩
def aq(h1:MSt X st t)(h2:MSs X b7 u):MSs X (st::b7) (mSeq t u):=⟨(gy h1.out h2.out).anti λE s H q=>by
 obtain⟨F0,F,z,M,k,rs,ED,h,e⟩:=q;exact#[F0,F,z,M,k,rs,{ED with nx:=u ED},h,#[λz' s' M' F' H' k' hz r'=>#[F0,F',z',M',k',r',ED,hz,e],e.rt,e.bk,e.ct]]⟩
def av(h1:MSt X st t):MSs X [st] t:=#[jy h1.out]
def mRet(te:TME):TMS:=λE z M=>te z M E.rt
def aF(he:ME X e te):MSt X (.Return (be e) pos) (mRet te):=⟨(jA he.out).anti λE s H q=>by
 obtain⟨F0,F,z,M,k,rs,ED,h,e⟩:=q;exact#[F,z,M,k.kf,rs,_,h,λd v M' F' H' g hd rd m'=>e.rt d v M' F' H' (k.growM rs.mb g) hd rd m' (rs.growM k.bh g m').mb]⟩
def zZ(te:TME):TMS:=λE z M=>te z M λ_ M1=>E.nx z M1
def bE(he:ME X e te)(hs:autoParam (SA e q8 pos.line X.env=pure false) zA0):MSt X (.Expr e pos) (zZ te):=⟨(jz he.out hs).anti λE s H q=>by
 obtain⟨F0,F,z,M,k,rs,ED,h,e⟩:=q;exact#[F,z,M,k.kf,rs,_,h,λd v M' F' H' g hd rd m'=>e.nx z s M' F' H' (k.growM rs.mb g) hd (rs.growM k.bh g m')]⟩
def mIfS(c:TMT)(t u:TMS):TMS:=λE z M=>c z M λb M1=>if b=true then t E z M1 else u E z M1
variable{l r:List Se}
def bi{c:P3}{tc:TMT}(hc:MT X c tc)(ha:MSs X l t)(hb:MSs X r u):MSt X (.If c l r pos) (mIfS tc t u):=⟨(qh hc.out ha.out hb.out).anti λE s H q=>by
 obtain⟨F0,F,z,M,k,rs,ED,h,e⟩:=q;refine#[F,z,M,k.kf,rs,_,h,λb M1 F1 H1 g hk m1=>?_];cases b with
 |true=>exact#[F0,F1,z,M1,k.growM rs.mb g,rs.growM k.bh g m1,ED,hk,e]
 |false=>exact#[F0,F1,z,M1,k.growM rs.mb g,rs.growM k.bh g m1,ED,hk,e]⟩
def mIfJ(c:TMT)(t u:TMS):TMS:=λE z M=>∃J:SD->MS->Prop,(c z M λb M1=>if b=true then t {E with nx:=J} z M1 else u {E with nx:=J} z M1)/\∀z' M',J z' M'->E.nx z' M'
def kH{c:P3}{tc:TMT}(hc:MT X c tc)(ha:MSs X l t)(hb:MSs X r u):MSt X (.If c l r pos) (mIfJ tc t u):=⟨(bi hc ha hb).out.anti λE s H q=>by
 obtain⟨F0,F,z,M,k,rs,ED,⟨J,h,j⟩,e⟩:=q;exact#[F0,F,z,M,k,rs,{ED with nx:=J},h,#[λz' s' M' F' H' k' hz r'=>e.nx z' s' M' F' H' k' (j z' M' hz) r',e.rt,e.bk,e.ct]]⟩
def mSet(i:Nat)(te:TME):TMS:=λE z M=>∃P:D->MS->Prop,te z M P/\∀d M',P d M'->E.nx (z.set i (be d)) M'
def aM(i:Nat){x:C_}{e8:Sr}(hN:X.N.Nodup)(he:ME X e te)(hi:autoParam (X.N[i]?=be x) zA0)(hx:autoParam (Loc X.env.scope x) zA4)(hs:autoParam (SA e (be (.Name x e8)) pos.line X.env=pure false) zA0)
  (hf:autoParam (zFN X x) zA3):MSt X (.Assign [.Name x e8] e pos) (mSet i te):=⟨(jB hN hi hx he.out hs hf).anti λE s H q=>by
 obtain⟨F0,F,z,M,k,rs,ED,⟨P,h,j⟩,e⟩:=q;exact#[F,z,M,k.kf,rs,P,h,λd v M' F' H' g hd rd m'=>e.nx _ _ M' F' H' (k.growM rs.mb g) (j d M' hd) ((rs.growM k.bh g m').set rd)]⟩
def Aa(x f:C_)(to te:TME):TMS:=λE z M=>te z M λd M1=>to z M1 λo M2=>match o with|.ptr a=>∃fs,mget M2 a=be (.ins x fs)/\fs.length<1000/\E.nx z (mput M2 a (.ins x (putD f d fs)))|_=>False
def bM{x f:C_}{o:P3}{to:TME}{e8:Sr}(hA:ClsA X.K x f)(ho:ME X o to)(he:ME X e te)(hs:autoParam (SA e (be (.Attribute o f e8)) pos.line X.env=pure false) zA0):
  MSt X (.Assign [.Attribute o f e8] e pos) (Aa x f to te):=⟨(qG ho.out he.out hs).anti λE s H q=>by
 obtain⟨C,hn,hc,hf⟩:=hA;obtain⟨F0,F,z,M,k,rs,ED,h,ee⟩:=q;refine#[F,z,M,k.kf,rs,_,h,λd v M1 F1 H1 g1 hx rd m1=>?_];have k1:=k.growM rs.mb g1;have Kz:=rs.growM k.bh g1 m1;refine#[F1,z,M1,k1.kf,Kz,_,hx,λo' v' M2 F2 H2 g2 hy ro m2=>?_];have k2:=k1.growM Kz.mb g2;have KS:=Kz.growM k1.bh g2 m2;split at hy
 .rename_i a;obtain⟨fs,hm,hl,QO⟩:=hy;obtain⟨C',dx,ws,j5,hH,rf⟩:=m2.ok _ _ (bg hm);rw[hn]at j5;cases j5;have fa:=m2.fr a (br (bg hm));refine#[a,C,dx,ws,rep_ptr.mp ro,hH,hc,hf,by rw[rf.length];exact hl,?_];have m3:RepM X.K F2 (upd H2 a (.ins C dx (putF f v ws))) (mput M2 a (.ins x (putD f d fs))):=m2.put hm #[C,dx,_,hn,aB,RepF.put (rd.mono g2.ff) rf];have g3:GrowM M2 (mput M2 a (.ins x (putD f d fs))) F2 H2 F2 (upd H2 a (.ins C dx (putF f v ws))):=GrowM.put k2.fh fa hm;exact ee.nx z s _ F2 _ (k2.growM KS.mb g3) QO (KS.growM k2.bh g3 m3)
 .exact hy.elim⟩
def Ab(c:TMT)(tb:TMS):TMS:=λE z M=>∃W:Nat->SD->MS->Prop,(∃m,W m z M)/\∀m z M,W m z M->
 c z M λb M1=>if b=true then tb {E with nx:=λz' M'=>∃m',m'<m/\W m' z' M',ct:=λz' M'=>∃m',m'<m/\W m' z' M',bk:=E.nx} z M1 else E.nx z M1
def Ac{c:P3}{body:List Se}{tc:TMT}{tb:TMS}(hp:SB (Sf X.prog X.w) X.A X.env X.xe)(hc:MT X c tc)(hb:MSs X body tb):MSt X (.While c body [] pos) (Ab tc tb):=⟨(qj hp hc.out hb.out).anti λE s H q=>by
 obtain⟨F0,F,z,M,k,rs,ED,⟨W,⟨m0,w0⟩,c9⟩,e⟩:=q;refine#[λm s' H'=>∃F' z' M',Kept J.B F0 F' H'/\RepZ X.K J.B F' H' z' s' M'/\W m z' M',#[m0,F,z,M,k,rs,w0],?_];rintro m s1 H1⟨F1,z1,M1,k1,r1,w1⟩;refine#[F1,z1,M1,k1.kf,r1,_,c9 m z1 M1 w1,λb M2 F2 H2 g2 hk m2=>?_];cases b with
 |true=>
  refine#[λs3 H3=>∃F3 z3 M3,Kept J.B F0 F3 H3/\RepZ X.K J.B F3 H3 z3 s3 M3/\∃m',m'<m/\W m' z3 M3,λs3 H3 ⟨F3,z3,M3,k3,r3,m',l,w3⟩=>#[m',l,F3,z3,M3,k3,r3,w3],?_];exact#[F0,F2,z1,M2,k1.growM r1.mb g2,r1.growM k1.bh g2 m2,_,hk,#[λz3 s3 M3 F3 H3 k3 h3 r3=>#[F3,z3,M3,k3,r3,h3],e.rt,e.nx,λz3 s3 M3 F3 H3 k3 h3 r3=>#[F3,z3,M3,k3,r3,h3]]]
 |false=>exact e.nx z1 s1 M2 F2 H2 (k1.growM r1.mb g2) hk (r1.growM k1.bh g2 m2)⟩
end
section
variable {X:Cx}[J:Jm]{a b c e o:P3}{ta tb tc te to:TME}{pos:Sr}{st:Se}{b7:List Se}{t u:TMS}
abbrev TMI:=SD->MS->(List D->MS->Prop)->Prop
def mItR(t:TME):TMI:=λz M R=>t z M λx M1=>match x with|.int n=>(0<=n/\n<2^62)/\R ((Gj n.toNat).map λk=>D.int ((k:Nat):Int)) M1|_=>False
def mFor(i:Nat)(ti:TMI)(tb:TMS):TMS:=λE z M=>ti z M λds M1=>∃W:Nat->SD->MS->Prop,W 0 z M1/\(∀k x z M,ds[k]?=be x->W k z M->tb {E with nx:=W (k+1),ct:=W (k+1),bk:=E.nx} (z.set i (be x)) M)/\∀z M,W ds.length z M->E.nx z M
def Ad(i:Nat){x:C_}{p p1 p2:Sr}{body:List Se}{tb:TMS}(hp:SB (Sf X.prog X.w) X.A X.env X.xe)(hc:X.calm=true)(hN:X.N.Nodup)(hm:X.mg "range"=q8)(he:ME X e te)(hb:MSs X body tb)(hg:autoParam (Gl X "range") zA0)(hi:autoParam (X.N[i]?=be x) zA0)(hx:autoParam (Loc X.env.scope x) zA4)
  (hf:autoParam (zFN X x) zA3) (hs:autoParam (∀y,zFS X (.Call (.Name "range" p1) [e] [] p2) y) zA2) (m7:autoParam (zSE X e []) zA0) (f7:autoParam (Si [e] X.env=[(false,So e X.env)]) zA0):
  MSt X (.For (.Name x p) (.Call (.Name "range" p1) [e] [] p2) body [] pos) (mFor i (mItR te) tb):=⟨(cF hp hc (gB hg hm (bf he.out pa_nil m7) f7) (dE hN hi hx hf) hb.out hs).anti λE s H q=>by
 obtain⟨F0,F,z,M,kp,rs,ED,h,e⟩:=q;refine#[F,z,M,kp.kf,rs,_,h,λd v M1 F1 H1 g1 hd rd m1=>?_];split at hd
 .rename_i n;obtain⟨⟨b1,b2⟩,W,w0,c9,out⟩:=hd;have hl:((Gj n.toNat).map λk=>D.int ((k:Nat):Int)).length=n.toNat:=by simp
  refine#[n,by rw[rep_int.mp rd],Kn,b2,jF (lo:=0) (n:=n.toNat) (λk s' H'=>∃F' z' M',Kept J.B F0 F' H'/\RepZ X.K J.B F' H' z' s' M'/\W k z' M') #[F1,z,M1,kp.growM rs.mb g1,rs.growM kp.bh g1 m1,w0] ?_ ?_]
  .rintro k s' H' hk⟨F',z',M',k',r',w'⟩;have e1:(0:Int)+(k:Int)=(k:Int):=by lia
   exact#[F0,F',_,M',k',r'.set (d:=.int (k:Int)) (rep_int.mpr (by rw[e1])),_,c9 k (.int (k:Int)) z' M' (by simp[hk]) w',#[λz3 s3 M3 F3 H3 k3 h3 r3=>#[F3,z3,M3,k3,r3,h3],e.rt,e.nx,λz3 s3 M3 F3 H3 k3 h3 r3=>#[F3,z3,M3,k3,r3,h3]]]
  .rintro s' H'⟨F',z',M',k',r',w'⟩;exact e.nx z' s' M' F' H' k' (out z' M' (by rw[hl];exact w')) r'
 .exact hd.elim⟩
def Ae(te:TME):TME:=λz M R=>te z M λd M1=>match d with|.ptr a=>∃ds,mget M1 a=be (.lst ds)/\R (.int ds.length) M1|_=>False
def kI{p:Sr}(hm:X.mg "len"=q8)(ha:ME X e te)(hg:autoParam (Gl X "len") zA0)(he:autoParam (zSE X e []) zA0):ME X (.Call (.Name "len" p) [e] [] pos) (Ae te):=⟨(dY jI hg hm PySem.boot_len (bf ha.out pa_nil he) Ku Ku he).anti λs H Q h=>by
 obtain⟨F,z,M,k,rs,R,h1,h2⟩:=h;refine#[F,z,M,k,rs,_,h1,λd v M1 F1 H1 g1 hx rx m1=>?_];split at hx
 .rename_i a;obtain⟨ds,hm,hR⟩:=hx;obtain⟨vs,hH,rr⟩:=m1.ok _ _ (bg hm);exact#[.ref a,vs.length,by rw[rep_ptr.mp rx],.inl #[vs,SqL.of hH,rfl],h2 _ _ M1 F1 H1 g1 hR (rep_int.mpr (by rw[rr.length])) m1]
 .exact hx.elim⟩
def mIxP(ta tb:TME):TME:=λz M R=>ta z M λx M1=>tb z M1 λy M2=>kdP x λa=>kdI y λi=>∃ds,mget M2 a=be (.lst ds)/\∃d,atI ds i=be d/\R d M2
def Af(ha:ME X a ta)(hb:ME X b tb)(hs:autoParam (dZ b) zA6):ME X (.Subscript a b pos) (mIxP ta tb):=⟨(pe_ix ix_list ha.out hb.out hs).anti λs H Q h=>by
 obtain⟨F,z,M,k,rs,R,h1,h2⟩:=h;refine#[F,z,M,k,rs,_,h1,λx u M1 F1 H1 g1 hx rx m1=>?_];refine#[F1,z,M1,k.growM rs.mb g1,rs.growM k.bh g1 m1,_,hx,λy v M2 F2 H2 g2 hy ry m2=>?_];obtain⟨p,rfl,KA⟩:=kdP.of hy;obtain⟨i,rfl,ds,hm,d,hd,hR⟩:=kdI.of KA;obtain⟨vs,hH,rr⟩:=m2.ok _ _ (bg hm);obtain⟨w,e2,g8⟩:=rr.at hd;exact#[p,vs,_,w,rep_ptr.mp rx,rep_int.mp ry,SqL.of hH,e2,h2 d w M2 F2 H2 (g1.trans g2) hR g8 m2]⟩
def Ag(to te:TME):TME:=λz M R=>to z M λo M1=>match o with|.ptr a=>(∃ds,mget M1 a=be (.lst ds))/\te z M1 λd M2=>∃ds,mget M2 a=be (.lst ds)/\ds.length<=100000/\R .non (mput M2 a (.lst (ds++[d])))|_=>False
def tf{b_ a8:Sr}(ho:ME X o to)(he:ME X e te)(g5:autoParam (zSE X e []) zA0)
  (b9:autoParam (Sn o "append" X.env (So o X.env)=So o X.env) zA0)
  (d7:autoParam (zHF X a8 [e]) zA0)
  (c7:autoParam ((b_.endLine==a8.line)=true) zA0):
  ME X (.Call (.Attribute o "append" b_) [e] [] a8) (Ag to te):=⟨(cO PySem.F.plainAttrs_list PySem.F.slot_list_append PySem.F.type_list_append jQ ho.out (bf he.out pa_nil g5) b9 d7 c7 g5).anti λs H Q h=>by
 obtain⟨F,z,M,k,rs,R,h1,h2⟩:=h;refine#[F,z,M,k,rs,_,h1,λx u M1 F1 H1 g1 hx rx m1=>?_];split at hx
 .rename_i a;obtain⟨⟨RR,Nz⟩,hx⟩:=hx;obtain⟨QP,QQ,RS⟩:=m1.ok _ _ (bg Nz);rw[rep_ptr.mp rx];refine#[.inl #[rfl,QP,SqL.of QQ],?_];refine#[F1,z,M1,k.growM rs.mb g1,rs.growM k.bh g1 m1,_,hx,λd v M2 F2 H2 g2 hd rd m2=>?_];obtain⟨ds,hm,hl,hR⟩:=hd;obtain⟨vs,hH,rr⟩:=m2.ok _ _ (bg hm);have hz:vs.length<sizeLine:=by
   rw[rr.length];have h2:(100000:Nat)<sizeLine:=Ku
   lia
  refine#[a,vs,v,rfl,rfl,hH,hz,?_];exact h2 _ _ _ F2 _ (g1.trans (g2.trans (GrowM.put g2.fh (m2.fr a (br (bg hm))) hm))) hR (rep_non.mpr rfl) (m2.put hm #[_,aB,rr.append (eJ rd)])
 .exact hx.elim⟩
def frzD:MO->D|.ins x fs=>.obj x fs|.lst ds=>.lst ds|.dti a9=>.dti a9
def mFrz(i:Nat)(t:TMS):TMS:=λE z M=>match z[i]? with|some (be (.ptr a))=>∃o,mget M a=be o/\t E (z.set i (be (frzD o))) (mdel M a)|_=>False
def tm(i:Nat){Lv:List Se}(h:MSs X Lv t):MSs X Lv (mFrz i t):=⟨PSs.anti h.out λE s H q=>by
 obtain⟨F0,F,z,M,k,rs,ED,h,e⟩:=q;unfold mFrz at h;split at h
 .rename_i a ez;obtain⟨o,hm,h⟩:=h;have mem:=bg hm;have fa:=rs.rm.fr a (br mem);have ba:=rs.mb a (br mem);obtain⟨v,hv,rv⟩:=rs.rs.val i _ ez rfl;have QR:=rep_ptr.mp rv;subst QR;have hok:=rs.rm.ok a o mem;obtain⟨ho,k6,NA⟩:∃ho,H a=be ho/\∀F',Same F F'->F' a=be ho->Rep X.K F' (frzD o) (.ref a):=by
   cases o with
   |ins x fs=>obtain⟨C,dx,ws,n,h1,h2⟩:=hok;exact#[_,h1,λF' s' hF=>rep_obj.mpr #[a,C,dx,ws,rfl,n,hF,RepF.mono s' fs ws h2]]
   |lst ds=>obtain⟨vs,h1,h2⟩:=hok;exact#[_,h1,λF' s' hF=>rep_lst.mpr #[a,vs,rfl,hF,h2.mono s']]
   |dti a9=>exact#[_,hok,λF' s' hF=>rep_dti.mpr #[a,rfl,hF]]
  have s1:Same F (upd F a ho):=aP fa _;have hs:s.set i (be (.ref a))=s:=by
   apply Hq;intro n;by_cases hn:i=n
   .subst hn;rw[GU (Gq.mp hv).1,hv]
   .rw[Gs hn]
  have k1:Kept J.B F0 (upd F a ho) H:=⟨k.bh,λb u q=>by
   by_cases hb:b=a
   .subst hb;rw[aB]at q;cases q;exact k6
   .rw[au hb]at q;exact k.fh b u q,k.f0.trans s1,λb h1 h2=>by
   by_cases hb:b=a
   .subst hb;exact absurd ba h2
   .rw[au hb];exact k.out b h1 h2,k.eb,k.jf,k.jo⟩
  have r0:RepS X.K J.B (upd F a ho) H z s:=#[rs.rs.len,λi d e n=>let ⟨v,q1,q2⟩:=rs.rs.val i d e n;#[v,q1,q2.mono s1],λi ds e=>absurd e (rs.no i ds),rs.rs.apart];have QS:RepM X.K (upd F a ho) H (mdel M a):=⟨rs.rm.nd.sublist del_sub,λb q hb=>by
   obtain⟨ne,hb⟩:=kD rs.rm.nd hb;exact(rs.rm.ok b q hb).mono s1 λ_ z=>z,λb hb=>by
   obtain⟨⟨b',q⟩,j7,rfl⟩:=GK.mp hb;obtain⟨ne,Px⟩:=kD rs.rm.nd j7;rw[au ne];exact rs.rm.fr _ (br Px)⟩
  have z0:RepZ X.K J.B (upd F a ho) H z s (mdel M a):=#[r0,rs.no,QS,λb hb=>rs.mb b (del_sub.subset hb)];have z1:=z0.set (i:=i) (NA _ s1 aB);rw[hs]at z1;exact#[F0,_,_,_,k1,z1,ED,h,e]
 .exact h.elim⟩
end
def kJ{N:List C_}{ds:List D}(rs:Reps K F ds vs):∀(i:Nat) d,(startD N ds)[i]?≠be (be (.own d)):=by
 intro i d e;unfold startD at e;by_cases hi:i<ds.length
 .rw[GW (by simpa using hi),Gr]at e;cases q:ds[i]? with
  |none=>rw[q]at e;cases e
  |some x=>
   rw[q]at e;cases e;obtain⟨v,_,q2⟩:=rs.get q;exact rep_own q2
 .rw[Ha (by simpa using hi),Ih]at e;split at e
  .cases e
  .cases e
def growM_nil(g:GrowM [] M' F H F' H'):Grow F H F' H':=#[g.ff,g.fh,λb o h=>g.hh b o (λz=>nomatch z) h,λb h1 h2=>g.out b (λz=>nomatch z) h1 h2]
section
variable {P:Sd}{w:Sj}{K:Ex}{mg:C_->Option KB}{base:Sl}
variable{x:C_}{ps:List C_}{S:SpM}
def CalMM.toX{n:Nat}{S0:SpX}(C:CalMM P w K mg base n x ps S)(h:∀ds R RX,S0 ds R RX->S ds [] (λd _=>R d) λx fs _=>RX x fs):CalX P w K mg base n x ps S0:=by
 obtain⟨f,fd,F,hb,hk,hm⟩:=C;refine#[f,fd,F.imp λvs H Q E q=>?_,hb,hk,hm];obtain⟨F,ds,fh,rs,R,RX,hS,q1,q2⟩:=q;exact#[F,ds,[],fh,rs,RepM.nil,_,_,h ds R RX hS,λd v M' F' H' g hd rd _=>q1 d v F' H' (growM_nil g) hd rd,λy fs C od M' F' H' g hR er _=>q2 y fs C od F' H' (growM_nil g) hR er]
open Classical in
def Fun.okM{x qual:C_}{st:Se}{f:KF}{fd:Sq}{N ps:List C_}{k:Nat}{S:SpM}{dV:KB}(T:FunG K dV x qual st f fd)(F:FnScope N ps (ah st))(len:∀ds M R RX,S ds M R RX->ds.length=ps.length)
  (a_:∀(cdv:KB) (A:Sk) (outer:List S1) (s:KM) (H:Hp) (E:XK) (J:Jm),Room k (A.deeper (Su qual (ah st) s.heap.objs.size f cdv))->XOkM (cxOf (CX1 P w) P w K mg base N qual (ah st) f cdv A outer s H E)->
   ∃t,MSs (cxOf (CX1 P w) P w K mg base N qual (ah st) f cdv A outer s H E) (aJ st) t/\∀ds M R RX,(∀z,J.RM z=λM' x fs=>RX x fs M')->S ds M R RX->t {nx:=λ_ M'=>R .non M',rt:=R} (startD N ds) M):FnOk P w K mg base (CX1 P w) (k+1) f fd ps (lSpM K S):=by
 refine Fun.okC T F (λvs H Q E h=>?_) (λcdv A outer s H vs Q E hr h=>?_)
 .obtain⟨F,ds,M,fh,rs,rm,R,RX,h,_⟩:=h;rw[rs.length];exact len ds M R RX h
 .obtain⟨F,ds,M,fh,rs,rm,R,RX,h,q,qx⟩:=h
  let B:Hp:=λb=>if b∈aj M then q8 else H b
  have Py:∀{b:KF},b∈aj M->B b=none:=λ{b} h=>if_pos h;have Mx:∀{b:KF},b∉aj M->B b=H b:=λ{b} h=>if_neg h
  letI:Jm:={B:=B,F0:=F,RX:=λ_ _ _=>False,RM:=λ_ M' x fs=>RX x fs M'}
  have gr:∀{M':MS} {F' H':Hp},Kept B F F' H'->(∀a,a∈aj M'->B a=q8)->GrowM M M' F H F' H':=λ{M' F' H'} k mb=>⟨k.f0,k.fh,λb o nb e=>k.bh b o (by rw[Mx nb];exact e),λb nb h1 h2=>k.out b h1 (by rw[Mx nb];exact h2),λb hb=>by
   by_cases nb:b∈aj M
   .exact .inl nb
   .right;rw[<-Mx nb];exact mb b hb⟩
  have hx:XOkM (cxOf (CX1 P w) P w K mg base N qual (ah st) f cdv A outer s H E):=by
   intro σ z M' F' H' s' e C od y fs I kk rr hR er ⟨He,ne,_,hx⟩;have hE:E (.ref C) od H':=qx y fs C od M' F' H' (gr kk rr.mb) hR er rr.rm;rcases hx with⟨sl,vs,h1,h2⟩|⟨T,h1,h2,h3,_⟩
   .exact jU I h1 h2 He ne hE
   .exact kr I h1 ne h2 He h3 hE
  obtain⟨t,ht,hq⟩:=a_ cdv A outer s H E inferInstance hr hx;have k0:Kept B F F H:=⟨λb o e=>by
   by_cases nb:b∈aj M
   .rw[Py nb]at e;cases e
   .rw[Mx nb]at e;exact e,fh,Same.refl F,λ_ h _=>h,rfl,Same.refl F,λ_ h _=>h⟩
  have r0:RepZ K B F H (startD N ds) (L2.start N vs) M:=#[dF rs,kJ rs,rm,λa h=>Py h];exact#[_,ht.out,F,F,startD N ds,M,k0,r0,_,hq ds M R RX (λ_=>rfl) h,#[λz' s' M' F' H' k hn r=>q _ _ M' F' H' (gr k r.mb) hn (rep_non.mpr rfl) r.rm,λd v M' F' H' k hd rd NB mb=>q d v M' F' H' (gr k mb) hd rd NB,λ_ _ _ _ _ _ h _=>h.elim,λ_ _ _ _ _ _ h _=>h.elim]]
variable{N:List C_}
def Tx.okM{st:Se}{k:Nat}(T:Tx K mg x st ps)(F:FnScope N ps (ah st))(len:∀ds M R RX,S ds M R RX->ds.length=ps.length)
  (a_:∀(f:KF) (cdv:KB) (A:Sk) (outer:List S1) (s:KM) (H:Hp) (E:XK) (J:Jm),Room k (A.deeper (Su x (ah st) s.heap.objs.size f cdv))->XOkM (cxOf (CX1 P w) P w K mg base N x (ah st) f cdv A outer s H E)->
   ∃t,MSs (cxOf (CX1 P w) P w K mg base N x (ah st) f cdv A outer s H E) (aJ st) t/\∀ds M R RX,(∀z,J.RM z=λM' x fs=>RX x fs M')->S ds M R RX->t {nx:=λ_ M'=>R .non M',rt:=R} (startD N ds) M):CalMM P w K mg base (k+1) x ps S:=by
 obtain⟨f,fd,T,hb,hm⟩:=T;exact#[f,fd,Fun.okM T F len λcdv A outer s H E J hr hx=>a_ f cdv A outer s H E J hr hx,hb,T.kp,hm]
def Txm(K:Ex)(x m:C_)(qual:C_)(st:Se)(ps:List C_):Prop:=
 ∃C f fd,nsIn K Pi x=be (be (.ref C))/\Cls K C/\Meth K C m f/\Fun K m qual st f fd/\Binds K fd ps []
def Txm.okM{m qual:C_}{st:Se}{k:Nat}(T:Txm K x m qual st ps)(F:FnScope N ps (ah st))(len:∀ds M R RX,S ds M R RX->ds.length=ps.length)
  (a_:∀(f:KF) (cdv:KB) (A:Sk) (outer:List S1) (s:KM) (H:Hp) (E:XK) (J:Jm),Room k (A.deeper (Su qual (ah st) s.heap.objs.size f cdv))->XOkM (cxOf (CX1 P w) P w K mg base N qual (ah st) f cdv A outer s H E)->
   ∃t,MSs (cxOf (CX1 P w) P w K mg base N qual (ah st) f cdv A outer s H E) (aJ st) t/\∀ds M R RX,(∀z,J.RM z=λM' x fs=>RX x fs M')->S ds M R RX->t {nx:=λ_ M'=>R .non M',rt:=R} (startD N ds) M):CalMth P w K mg base (k+1) x m ps (lSpM K S):=by
 obtain⟨C,f,fd,h1,h2,h3,T,hb⟩:=T;exact#[C,f,fd,h1,h2,h3,Fun.okM T F len λcdv A outer s H E J hr hx=>a_ f cdv A outer s H E J hr hx,hb]
end
end My
namespace L2
section
variable {X:Cx}{pins:List (KF×Sx)}{σ:St}{H:Hp}{s:KM}{h':Sl}
def Inv.turned2{t':Nat}{e it:KF}(I:Inv X pins σ H s)(k:∀b o,b≠e->b≠it->s.heap.get? b=be o->h'.get? b=be o)(he:FpOk X pins H e)(hi:FpOk X pins H it):Inv X pins σ H {s with heap:=h',toks:=t'}:=by
 obtain⟨e0,e1,e2,e3,e4,e5⟩:=he;obtain⟨i0,i1,i2,i3,i4,i5⟩:=hi;have Kl:∀b u,H b=be u->b≠e/\b≠it:=λb u q=>#[(λz=>by rw[z,e0]at q;cases q),(λz=>by rw[z,i0]at q;cases q)];have nc:∀{b:KF},b∉[e,it]->b≠e/\b≠it:=λ{b} h=>#[λz=>h (by simp[z]),λz=>h (by simp[z])];refine I.step (g':=s.gens) (d':=s.drawn) (ch:=[e,it]) (λb hb=>?_) (λb o _ _ hc q _=>k b o (nc hc).1 (nc hc).2 q) (λb o _ _ hc q _=>#[o.slots,k b o (nc hc).1 (nc hc).2 q]) (λ_ _ _ _ n=>n)
  (λb o hc q=>#[o,k b o (nc hc).1 (nc hc).2 q]) (λ_ _ q=>q) (λ_ _ _ q=>q) (λb ps q=>#[[].toArray,by rw[q];simp]) (λm hm=>?_) (λb u q=>?_) I.bare
 .rcases Gh.mp hb with z|z
  .rw[z];exact#[e3,e1,e4,e5]
  .rw[Gf.mp z];exact#[i3,i1,i4,i5]
 .obtain⟨o,es,ep,ho,r⟩:=hm;exact#[o,es,ep,k _ o (Ne.symm e1) (Ne.symm i1) ho,r]
 .refine(I.hok b u q).stay (λc v hc q'=>k c v ?_ ?_ q') (λ_ q=>q) λ_ _ q=>q
  .rcases hc with z|z
   .rw[z];exact(Kl b u q).1
   .exact(Kl c _ z).1
  .rcases hc with z|z
   .rw[z];exact(Kl b u q).2
   .exact(Kl c _ z).2
end
def Itel(K:Ex)(a:KF):It:=
 #[λi H=>∃xs x,SqL K H a xs/\xs[i]?=be x,λi H x H'=>∃T v,H T=q8/\x=.ref T/\H'=upd H T (.tup [.int i,v])/\∀xs,SqL K H a xs->xs[i]?=be v,λi H=>∃xs,SqL K H a xs/\xs.length<=i]
def Ites(x:C_):It:=#[λi _=>i<x.length,λi H v H'=>∃T c,H T=q8/\v=.ref T/\H'=upd H T (.tup [.int i,.str #[[c].toArray]])/\x.cps[i]?=be c,λi _=>i=x.length]
variable{P:Sd}{w:Sj}
def Ah{H:Hp}{h:Sl}{T:KF}{i:Int}{t:Um}{v:V}{u:KB}(r:RelV v u)(q:h.get? T=be {cls:=.type "tuple",data:=.seq [.int i t,u].toArray}):ObjOk P w H h T (.tup [.int i,v]):=
 #[by show 2<=sizeLine;decide,[.int i t,u],.cons #[t,rfl] (.cons r .nil),#[_,q,rfl,_,rfl]]
def tw{X:Cx}{pins:List (KF×Sx)}{σ:St}{H:Hp}{s:KM}{h':Sl}{t':Nat}{e it:KF}{i:Int}{t:Um}{v:V}{u:KB}(I:Inv X pins σ H s)(he:FpOk X pins H e)(hi:FpOk X pins H it)(le:e<s.heap.objs.size)(li:it<s.heap.objs.size)(r:RelV v u)
  (hT:h'.get? s.heap.objs.size=be {cls:=.type "tuple",data:=.seq [.int i t,u].toArray}) (hk:∀b o,b≠e->b≠it->s.heap.get? b=be o->h'.get? b=be o):Inv X pins σ (upd H s.heap.objs.size (.tup [.int i,v])) {s with heap:=h',toks:=t'}:=by
 have I1:Inv X pins σ (upd H s.heap.objs.size (.tup [.int i,v])) {s with heap:=s.heap.push {cls:=.type "tuple",data:=.seq [.int i t,u].toArray},toks:=t'}:=
  I.laid (λb o q=>Heap.get?_push_of_some _ q) (Gg _) (Ah r (Heap.get?_push_size _ rfl))
 have fp:∀{b:KF},FpOk X pins H b->b<s.heap.objs.size->FpOk X pins (upd H s.heap.objs.size (.tup [.int i,v])) b:=λ{b} h l=>#[by rw[au (Gn l)];exact h.1,h.2];refine I1.turned2 (h':=h') (t':=t') (λb o h1 h2 q=>?_) (fp he le) (fp hi li);rcases Heap.get?_push_cases (show(s.heap.push {cls:=.type "tuple",data:=.seq [.int i t,u].toArray}).get? b=be o from q)with⟨rfl,rfl⟩|q2
 .exact hT
 .exact hk b o h1 h2 q2
variable{p7:List P3}
def Ai{K:Ex}{x1:Nat}{tp:Sr}(a e it:KF)(KU:e≠it):Turn P w K (.Tuple p7 x1 tp) (Itel K a) [e,it] e (λi h=>(∃d_,IsEnum h e it i d_)/\h.IsListIter it a i) where
 mem:=Kv
 obj:=λi h st b hb=>by
  obtain⟨⟨d_,he⟩,hit⟩:=st;rcases Gh.mp hb with z|z
  .rw[z];exact#[_,he,λv z=>by cases z]
  .rw[Gf.mp z];obtain⟨o,ho,c,d⟩:=hit;exact#[o,ho,λv z=>by rw[d]at z;cases z]
 keep:=λi h h' st k=>#[let ⟨d_,he⟩:=st.1;#[d_,k e Kv _ he],st.2.at λo q=>k it Kv o q]
 item:=by
  intro X hP hw hK hc i pins s σ H E I hf st hg;subst hP hw hK;obtain⟨xs,x,hq,hx⟩:=hg;obtain⟨its,rv,p,hz⟩:=I.list hq;obtain⟨u,hu,ru⟩:=rv.get hx;obtain⟨⟨d_,he⟩,hit⟩:=st;have fe:=hf e Kv;have fi:=hf it Kv;have le:e<s.heap.objs.size:=Heap.lt_size he;have li:it<s.heap.objs.size:=by obtain⟨o,ho,_⟩:=hit;exact Heap.lt_size ho
  refine wpAny_pyNext_enum_item he hit p.isList (x:=u) (by simpa using hu) KU λh' x9 KC hT i6 hk=>?_;refine#[_,rfl,TB x9 λh2 NC g7=>?_];have n5:Heap.SameBut e h' h2:=g7;have nT:s.heap.objs.size≠e:=G8 le;have I1:Inv X pins σ (upd H s.heap.objs.size (.tup [.int i,x])) {s with heap:=h2,toks:=s.toks+1}:=tw I fe fi le li ru ((n5.2 _ nT).trans hT) λb o h1 h3 q=>(n5.2 b h1).trans (hk b o h1 h3 q);refine#[.ref s.heap.objs.size,_,I1,rfl,#[_,x,I.hok.fresh (Gg _),rfl,rfl,λys hy=>by rw[I.list_inj hy hq];exact hx],#[#[u,by simpa using NC],KC.at λo q=>(n5.2 it (Ne.symm KU)).trans q],λb hb=>?_];rcases Gh.mp hb with z|z
  .rw[z,au (Gn le)];exact fe.1
  .rw[Gf.mp z,au (Gn li)];exact fi.1
 done:=by
  intro X hP hw hK hc i pins s σ H E I hf st hg;subst hP hw hK;obtain⟨xs,hq,hx⟩:=hg;obtain⟨its,rv,p,hz⟩:=I.list hq;obtain⟨⟨d_,he⟩,hit⟩:=st;have hl:=rv.length;obtain⟨f0,f1,f2,f3,f4,f5⟩:=hf it Kv;exact wpAny_pyNext_enum_end (I.ok.hd hc) he hit p.isList Pa λh' eb=>#[rfl,I.turned (t':=s.toks) (λb o hb q=>eb b o hb q) f0 f1 f3 f4 f5]
 self:=λ_ _ _ _ _ st h=>let ⟨⟨d_,he⟩,_⟩:=st;S3 he h
def Aj{K:Ex}{x1:Nat}{tp:Sr}(x:C_)(t:Um)(e it:KF)(KU:e≠it):Turn P w K (.Tuple p7 x1 tp) (Ites x) [e,it] e (λi h=>(∃d_,IsEnum h e it i d_)/\h.IsStrIter it "str_ascii_iterator" x t i) where
 mem:=Kv
 obj:=λi h st b hb=>by
  obtain⟨⟨d_,he⟩,hit⟩:=st;rcases Gh.mp hb with z|z
  .rw[z];exact#[_,he,λv z=>by cases z]
  .rw[Gf.mp z];obtain⟨o,ho,c,d⟩:=hit;exact#[o,ho,λv z=>by rw[d]at z;cases z]
 keep:=λi h h' st k=>#[let ⟨d_,he⟩:=st.1;#[d_,k e Kv _ he],let ⟨o,ho,r⟩:=st.2;#[o,k it Kv o ho,r]]
 item:=by
  intro X hP hw hK hc i pins s σ H E I hf st hg;subst hP hw hK;have hi:i<x.cps.size:=hg;obtain⟨⟨d_,he⟩,hit⟩:=st;have fe:=hf e Kv;have fi:=hf it Kv;have le:e<s.heap.objs.size:=Heap.lt_size he;have li:it<s.heap.objs.size:=by obtain⟨o,ho,_⟩:=hit;exact Heap.lt_size ho
  refine wpAny_pyNext_enum_itemD (Draws.strAscii (A:=X.A.in1) (by exact I.ok.hd hc) it x t) he hit hi KU (by simp[KU]) λu h' tk hP x9 KC hT i6 hk=>?_;obtain⟨c,tu,y7,rfl⟩:=hP;refine#[_,rfl,TB x9 λh2 NC g7=>?_];have n5:Heap.SameBut e h' h2:=g7;have nT:s.heap.objs.size≠e:=G8 le;have I1:Inv X pins σ (upd H s.heap.objs.size (.tup [.int i,.str #[[c].toArray]])) {s with heap:=h2,toks:=tk+1}:=tw I fe fi le li #[tu,rfl] ((n5.2 _ nT).trans hT) λb o h1 h3 q=>(n5.2 b h1).trans (hk b o h1 h3 q);refine#[.ref s.heap.objs.size,_,I1,rfl,#[_,c,I.hok.fresh (Gg _),rfl,rfl,y7],#[#[_,by simpa using NC],let ⟨o,ho,r⟩:=KC;#[o,(n5.2 it (Ne.symm KU)).trans ho,r]],λb hb=>?_];rcases Gh.mp hb with z|z
  .rw[z,au (Gn le)];exact fe.1
  .rw[Gf.mp z,au (Gn li)];exact fi.1
 done:=by
  intro X hP hw hK hc i pins s σ H E I hf st hg;subst hP hw hK;have hi:i=x.cps.size:=hg;subst hi;obtain⟨⟨d_,he⟩,hit⟩:=st;obtain⟨f0,f1,f2,f3,f4,f5⟩:=hf it Kv;exact wpAny_pyNext_enum_endD (Draws.strAscii (A:=X.A.in1) (by exact I.ok.hd hc) it x t) he hit λh' eb=>#[rfl,I.turned (t':=s.toks) (λb o hb q=>eb b o hb q) f0 f1 f3 f4 f5]
 self:=λ_ _ _ _ _ st h=>let ⟨⟨d_,he⟩,_⟩:=st;S3 he h
def iEnL(K:Ex)(ta:TA):TI:=λσ H R=>ta σ H λvs H1=>∃a,vs=[.ref a]/\(∃xs,SqL K H1 a xs)/\R (Itel K a) H1
def iEnS(ta:TA):TI:=λσ H R=>ta σ H λvs H1=>∃x,vs=[.str x]/\x.cps.all (·<128)=true/\R (Ites x) H1
section
variable {X:Cx}{p7:List P3}{x1:Nat}{tp p pos:Sr}{l:P3}{ta:TA}
def Ak(hg:Gl X "enumerate")(hm:X.mg "enumerate"=q8)(ha:PA X [l] ta)(hs:autoParam (Si [l] X.env=[(false,So l X.env)]) zA0):PI X (.Tuple p7 x1 tp) (.Call (.Name "enumerate" p) [l] [] pos) (iEnL X.K ta):=by
 intro pins s σ H R I h;refine Call_ (dD I hg hm PyProof.Rows.boot_enumerate (PyProof.Rows.callWith_type1 (thn (ha pos pins s σ H _ I h) λus s1 ⟨vs,H1,I1,r1,q1⟩=>?_) hs rfl));obtain⟨a,rfl,⟨xs,hq⟩,q⟩:=q1;obtain⟨u,rfl,ru⟩:=bY r1;cases ru;obtain⟨its,rv,pl,hz⟩:=I1.list hq;refine call_enumerate_list pl.isList λh' he hit i6 hk=>?_;have I2:Inv X pins σ H1 {s1 with heap:=h'}:=I1.kept (t':=s1.toks) hk;refine S3 he ?_;have ne:s1.heap.objs.size+1≠s1.heap.objs.size:=Jf _;refine#[s1.heap.objs.size+1,[s1.heap.objs.size+1,s1.heap.objs.size],_,_,H1,rfl,I2,Ai a _ _ ne,#[#[_,he],hit],λb hb=>?_,q];rcases Gh.mp hb with z|z
 .rw[z];exact I1.fpOk (Hl _) (I1.hok.fresh (Hl _))
 .rw[Gf.mp z];exact I1.fpOk (Gg _) (I1.hok.fresh (Gg _))
def tz(hg:Gl X "enumerate")(hm:X.mg "enumerate"=q8)(ha:PA X [l] ta)(hs:autoParam (Si [l] X.env=[(false,So l X.env)]) zA0):PI X (.Tuple p7 x1 tp) (.Call (.Name "enumerate" p) [l] [] pos) (iEnS ta):=by
 intro pins s σ H R I h;refine Call_ (dD I hg hm PyProof.Rows.boot_enumerate (PyProof.Rows.callWith_type1 (thn (ha pos pins s σ H _ I h) λus s1 ⟨vs,H1,I1,r1,q1⟩=>?_) hs rfl));obtain⟨x,rfl,ND,q⟩:=q1;obtain⟨u,rfl,t,rfl⟩:=bY r1;refine call_enumerate_str λh' he hit i6 hk=>?_;have I2:Inv X pins σ H1 {s1 with heap:=h'}:=I1.kept (t':=s1.toks) hk;refine S3 he ?_;have ne:s1.heap.objs.size+1≠s1.heap.objs.size:=Jf _;have QT:strIterType x="str_ascii_iterator":=by unfold strIterType;rw[ND];rfl
 rw[QT]at hit;refine#[s1.heap.objs.size+1,[s1.heap.objs.size+1,s1.heap.objs.size],_,_,H1,rfl,I2,Aj x t _ _ ne,#[#[_,he],hit],λb hb=>?_,q];rcases Gh.mp hb with z|z
 .rw[z];exact I1.fpOk (Hl _) (I1.hok.fresh (Hl _))
 .rw[Gf.mp z];exact I1.fpOk (Gg _) (I1.hok.fresh (Gg _))
end
end L2
namespace My
open Exc
section
variable {X:Cx}[J:Jm]{a b c e o:P3}{ta tb tc te to:TME}{pos:Sr}{st:Se}{b7:List Se}{t u:TMS}
def tD{K:Ex}{F:Hp}:∀(is:List Nat) (ds:List D) (vs:List V) (z:SD),Reps K F ds vs->(∀(i:Nat) d,z[i]?≠be (be (.own d)))->∀(i:Nat) d,(aT is ds z)[i]?≠be (be (.own d))
 |[],_,_,z,_,h=>h
 |_::_,[],_,z,_,h=>h
 |i::is,d::ds,vs,z,r,h=>by
  obtain⟨v,vr,rfl,r1,r2⟩:=reps_cons.mp r;refine tD is ds vr _ r2 λj q e=>?_;by_cases hj:i=j
  .subst hj;rw[Hb]at e;simp at e;have:=r1.noown;rw[e.2]at this;cases this
  .rw[Gs hj]at e;exact h j q e
def mItE(t:TME):TMI:=λz M R=>t z M λx M1=>match x with|.lst ds=>R ds M1|_=>False
def Al(t:TME):TMI:=λz M R=>t z M λx M1=>match x with|.str x=>x.cps.all (·<128)=true/\R (bL x) M1|_=>False
def tE(is:List Nat)(ti:TMI)(tb:TMS):TMS:=λE z M=>ti z M λds M1=>∃W:Nat->SD->MS->Prop,W 0 z M1/\(∀(k:Nat) x z M,ds[k]?=be x->W k z M->tb {E with nx:=W (k+1),ct:=W (k+1),bk:=E.nx} (aT is [.int k,x] z) M)/\∀z M,W ds.length z M->E.nx z M
variable{is:List Nat}
def tF{K:Ex}{F0 F1 H1:Hp}{z:SD}{s:L2.St}{M1:MS}{E:Ends}{ED:EndsM}{It':It}{g:TG}{tb:TMS}{LG:TS}{ds:List D}(hK:K=X.K)(k1:Kept J.B F0 F1 H1)(Kz:RepZ K J.B F1 H1 z s M1)(e:EndsOkM K F0 ED E)(c5:is.length=2)
  (go:∀k F' H',Same F1 F'->Same F' H'->k<ds.length->It'.go k H') (stop:∀F' H',Same F1 F'->Same F' H'->It'.stop ds.length H')
  (yld:∀k F' H' x H'',Same F1 F'->Same F' H'->k<ds.length->It'.yld k H' x H''->∃T d v,H' T=q8/\x=.ref T/\H''=upd H' T (.tup [.int k,v])/\ds[k]?=be d/\Rep K F' d v)
  (hg:∀(dd:List D) (vs:List V) (T:KF) (z:SD) (s:L2.St) (F H:Hp) (Q:L2.St->Hp->Prop),dd.length=2->H T=be (.tup vs)->Reps K F dd vs->RepS K J.B F H z s->(∀s',RepS K J.B F H (aT is dd z) s'->Q s' H)->g (.ref T) s H Q)
  (NE:∀E s H,mS K tb E s H->LG E s H)
  (hd:∃W:Nat->SD->MS->Prop,W 0 z M1/\(∀(k:Nat) x z M,ds[k]?=be x->W k z M->tb {ED with nx:=W (k+1),ct:=W (k+1),bk:=ED.nx} (aT is [.int k,x] z) M)/\∀z M,W ds.length z M->ED.nx z M):
  ∃W:Nat->Nat->L2.St->Hp->Prop,(∃m,W 0 m s H1)/\∀i m σ H,W i m σ H->
   (It'.stop i H/\E.nx σ H)\/(It'.go i H/\∃N:L2.St->Hp->Prop,(∀σ' H',N σ' H'->∃m',m'<m/\W (i+1) m' σ' H')/\∀x H',It'.yld i H x H'->g x σ H' λσ2 H2=>LG {E with nx:=N,ct:=N,bk:=E.nx} σ2 H2):=by
 obtain⟨W,w0,c9,out⟩:=hd;refine#[λk m s' H'=>m=ds.length-k/\k<=ds.length/\∃F' z' M',Kept J.B F0 F' H'/\Same F1 F'/\RepZ K J.B F' H' z' s' M'/\W k z' M',#[ds.length,Kv,GI _,F1,z,M1,k1,Same.refl F1,Kz,w0],?_];rintro k m s' H'⟨rfl,hk,F',z',M',k',g',r',w'⟩;by_cases f6:k<ds.length
 .refine .inr #[go k F' H' g' k'.fh f6,λs3 H3=>∃F3 z3 M3,Kept J.B F0 F3 H3/\Same F1 F3/\RepZ K J.B F3 H3 z3 s3 M3/\W (k+1) z3 M3,λs3 H3 h3=>#[ds.length-(k+1),Kn,rfl,f6,h3],λx H'' hy=>?_];obtain⟨T,d,v,hT,rfl,rfl,hd,rd⟩:=yld k F' H' x H'' g' k'.fh f6 hy;have gn:=Grow.new k'.fh hT (.tup [.int k,v]);have k2:=k'.grow gn;have r2:=r'.growM k'.bh gn.toM (r'.rm.grow gn);have rp:Reps K (upd F' T (.tup [.int k,v])) [.int k,d] [.int k,v]:=reps_cons.mpr #[_,_,rfl,rep_int.mpr rfl,eJ (rd.mono gn.ff)];refine hg [.int k,d] _ T z' s' _ _ _ rfl aB rp r2.rs λs2 KS=>NE _ _ _ ?_;have gF:Same F1 (upd F' T (.tup [.int k,v])):=g'.trans gn.ff;refine#[upd F' T (.tup [.int k,v]),upd F' T (.tup [.int k,v]),_,M',#[k2.bh,k2.fh,Same.refl _,λb h1 _=>h1,k2.eb,k2.jf.trans k2.f0,λb h1 h2=>k2.out b (k2.jo b h1 h2) h2],#[KS,tD is _ _ z' rp r2.no,r2.rm,r2.mb],_,c9 k d z' M' hd w',?_];have up:∀{F3 H3:Hp},Kept J.B (upd F' T (.tup [.int k,v])) F3 H3->Kept J.B F0 F3 H3:=λk3=>#[k3.bh,k3.fh,k2.f0.trans k3.f0,λb h1 h2=>k3.out b (k2.out b h1 h2) h2,k2.eb,k2.jf,k2.jo];exact#[λz3 s3 M3 F3 H3 k3 h3 r3=>#[F3,z3,M3,up k3,gF.trans k3.f0,r3,h3],λd v M3 F3 H3 k3=>e.rt d v M3 F3 H3 (up k3),λz3 s3 M3 F3 H3 k3=>e.nx z3 s3 M3 F3 H3 (up k3),λz3 s3 M3 F3 H3 k3 h3 r3=>#[F3,z3,M3,up k3,gF.trans k3.f0,r3,h3]]
 .have ek:k=ds.length:=by lia
  subst ek;exact .inl #[stop F' H' g' k'.fh,e.nx z' s' M' F' H' k' (out z' M' w') r']
variable{es:List P3}{body:List Se}
def Am{x1:Nat}{tp p1 p2:Sr}{tb:TMS}(hp:SB (Sf X.prog X.w) X.A X.env X.xe)(hc:X.calm=true)(hm:X.mg "enumerate"=q8)(he:ME X e te)(hG:DGs X es is)(hb:MSs X body tb)(c5:autoParam (is.length=2) zA0)(hg:autoParam (Gl X "enumerate") zA0)
  (hn:autoParam ((Sm es X.env).length=2) zA0) (l5:autoParam ((Sm es X.env).findIdx? (·.1)=none) zA0)
  (hs:autoParam (∀y,zFS X (.Call (.Name "enumerate" p1) [e] [] p2) y) zA2) (m7:autoParam (zSE X e []) zA0) (f7:autoParam (Si [e] X.env=[(false,So e X.env)]) zA0):
  MSt X (.For (.Tuple es x1 tp) (.Call (.Name "enumerate" p1) [e] [] p2) body [] pos) (tE is (mItE te) tb):=by
 obtain⟨ug,LH,kk⟩:=hG;refine#[(cF hp hc (Ak hg hm (bf he.out pa_nil m7) f7) (gz hc LH hn l5) hb.out hs).anti λE s H q=>?_];obtain⟨F0,F,z,M,kp,rs,ED,h,e⟩:=q;refine#[F,z,M,kp.kf,rs,_,h,λd v M1 F1 H1 g1 hd rd m1=>?_];split at hd
 .rename_i ds;obtain⟨p,vs,rfl,hq,rr⟩:=rep_lst.mp rd;refine#[p,rfl,#[vs,SqL.of (g1.fh _ _ hq)],tF (It':=Itel X.K p) rfl (kp.growM rs.mb g1) (rs.growM kp.bh g1 m1) e c5 (λk F' H' s1 s2 hk=>?_) (λF' H' s1 s2=>?_) (λk F' H' x H'' s1 s2 hk hy=>?_) (λdd n4 T z s F H Q hl hT rp v7 hQ=>?_) (λ_ _ _ h=>h) hd]
  .have m8:k<vs.length:=by rw[rr.length];exact hk
   exact#[vs,vs[k],SqL.of (s2 _ _ (s1 _ _ hq)),by simp[m8]]
  .exact#[vs,SqL.of (s2 _ _ (s1 _ _ hq)),by rw[rr.length];exact Gg _]
  .obtain⟨T,v,hT,e1,e2,hv⟩:=hy;obtain⟨d,hd,rd⟩:=rr.get' (hv vs (SqL.of (s2 _ _ (s1 _ _ hq))));exact#[T,d,v,hT,e1,e2,hd,rd.mono s1]
  .exact#[T,n4,rfl,SqT.of hT,by rw[rp.length];exact hl,kk dd n4 z s J.B F H Q (by rw[hl,c5]) rp v7 hQ]
 .exact hd.elim
def An{x1:Nat}{tp p1 p2:Sr}{tb:TMS}(hp:SB (Sf X.prog X.w) X.A X.env X.xe)(hc:X.calm=true)(hm:X.mg "enumerate"=q8)(he:ME X e te)(hG:DGs X es is)(hb:MSs X body tb)(c5:autoParam (is.length=2) zA0)(hg:autoParam (Gl X "enumerate") zA0)
  (hn:autoParam ((Sm es X.env).length=2) zA0) (l5:autoParam ((Sm es X.env).findIdx? (·.1)=none) zA0)
  (hs:autoParam (∀y,zFS X (.Call (.Name "enumerate" p1) [e] [] p2) y) zA2) (m7:autoParam (zSE X e []) zA0) (f7:autoParam (Si [e] X.env=[(false,So e X.env)]) zA0):
  MSt X (.For (.Tuple es x1 tp) (.Call (.Name "enumerate" p1) [e] [] p2) body [] pos) (tE is (Al te) tb):=by
 obtain⟨ug,LH,kk⟩:=hG;refine#[(cF hp hc (tz hg hm (bf he.out pa_nil m7) f7) (gz hc LH hn l5) hb.out hs).anti λE s H q=>?_];obtain⟨F0,F,z,M,kp,rs,ED,h,e⟩:=q;refine#[F,z,M,kp.kf,rs,_,h,λd v M1 F1 H1 g1 hd rd m1=>?_];split at hd
 .rename_i x;obtain⟨ha,hd⟩:=hd;have hl:=eU x;refine#[x,by rw[rep_str.mp rd],ha,tF (It':=Ites x) rfl (kp.growM rs.mb g1) (rs.growM kp.bh g1 m1) e c5 (λk F' H' s1 s2 hk=>?_) (λF' H' s1 s2=>?_) (λk F' H' x H'' s1 s2 hk hy=>?_) (λdd n4 T z s F H Q hl hT rp v7 hQ=>?_) (λ_ _ _ h=>h) hd]
  .rw[hl]at hk;exact hk
  .exact hl
  .obtain⟨T,c,hT,e1,e2,hc⟩:=hy;exact#[T,.str #[[c].toArray],.str #[[c].toArray],hT,e1,e2,gU hc,rep_str.mpr rfl]
  .exact#[T,n4,rfl,SqT.of hT,by rw[rp.length];exact hl,kk dd n4 z s J.B F H Q (by rw[hl,c5]) rp v7 hQ]
 .exact hd.elim
end
end My
namespace L2
section
variable {prog:Sd}{w:Sj}{K:Type}[DecidableEq K]{j8:HeapKind prog w K}{A:Sk}{E:KB->KM->Prop}{s:KM}{d a:KF}{k:K}{xs:List (K×KF×KB)}
def Ao{v:KB}{Q:KB->KM->Prop}(hu:j8.room A)(m4:j8.is s.heap k a)(hm:s.heap.DictOfH j8 d xs)
  (h1:∀p,Tu xs k=be p->Q p.2 {s with toks:=s.toks+j8.draws k})
  (h2:Tu xs k=q8->∀h',h'.DictOfH j8 d (xs++[(k,a,v)])->Heap.SameBut d s.heap h'->Q v {s with heap:=h',toks:=s.toks+j8.draws k})
  (i6:xs.length<=sizeLine):Sg (Sf prog w) A (TF d (.ref a) v) Q E s:=by
 obtain⟨o,es,ep,ho,hc,hd,he,Pz,hn⟩:=hm;unfold TF
 try with_reducible refine SE ?_
 refine Os (j8.pyHash hu m4 ?_);refine Os (wpAny_dictFind_heap (s:={s with toks:=s.toks+j8.draws k}) hu m4 ho hd he Pz hn ?_ ?_)
 .intro KN;have NF:k∉xs.map (·.1):=not_mem_keys_of_get KN;refine Os (Ub (Os (wpAny_updateDictKeys (hz:=by have e:=size_of_entries he;lia) (s:={s with toks:=s.toks+j8.draws k}) ho hd (Sh (h2 (atKey_none_of_get KN) _ ⟨_,_,ep+1,Heap.get?_update_self _ ho (Obj.isFreed_of_dict (Obj.data_mapDictKeys hd _)),
   hc.mapDictKeys _,Obj.data_mapDictKeys hd _,?_,?_,?_⟩ (Heap.SameBut.update ..))))))
  .simp[he,entryOfKey]
  .intro x hx;rcases GD.mp hx with hx|hx
   .exact j8.keeps (Pz x hx) ho hd (Heap.SameBut.update ..)
   .simp only[Gf]at hx;subst hx;exact j8.keeps m4 ho hd (Heap.SameBut.update ..)
  .rw[GM,Hu];refine#[hn,Kv,?_];intro x hx y hy;simp only[GJ,Hn,Gf]at hy;subst hy;exact λe=>NF (e ▸ hx)
 .intro j p hj;refine Os (wpAny_dictEntries (s:={s with toks:=s.toks+j8.draws k}) ho hd ?_);rw[entry_at he j,hj];exact Os (Ub (Sh (h1 p (atKey_of_get hn hj))))
def Ap(j8:HeapKind prog w K)(d a:KF)(hd:(d==SJ)=false)(v:KB):
  MeetsIn prog w (Builtin.«dict.setdefault» #[[.ref d,.ref a,v],[]]) (λA R s=>j8.room A.in1/\∃k xs,j8.is s.heap k a/\s.heap.DictOfH j8 d xs/\xs.length<=sizeLine/\
   (∀p,Tu xs k=be p->R (.ok (.ret p.2)) {s with toks:=s.toks+j8.draws k})/\
   (Tu xs k=q8->∀h',h'.DictOfH j8 d (xs++[(k,a,v)])->Heap.SameBut d s.heap h'->R (.ok (.ret v)) {s with heap:=h',toks:=s.toks+j8.draws k})):=
 .of_wp λA R s hh=>by
  obtain⟨hu,k,xs,m4,hm,hz,h1,h2⟩:=hh;unfold Builtin.«dict.setdefault»;refine Os ?_;unfold Builtin.Dict.keyAndDefault;refine Os (wpAny_notOrdered_dict hm.typeIs ?_);show Sg _ _ (pure (d,Value.ref a,be v)) _ _ s;refine Sh ?_;show Sg _ _ (if(d==SJ)=true then _ else(TF d (.ref a) v>>=_)) _ _ s;rw[if_neg (by rw[hd];exact Gu)];exact Os (Ao hu m4 hm (λp hp=>Sh #[p.2,rfl,h1 p hp]) (λhn h' NG Mt=>Sh #[v,rfl,h2 hn h' NG Mt]) hz)
end
end L2
namespace My
open Exc
def lookD:List ((Int×Int)×Int)->Int->Int->Option Int
 |[],_,_=>q8
 |((a,b),h)::r,x,y=>if a=x/\b=y then be h else lookD r x y
def kK(x y:Int):∀a9:List ((Int×Int)×Int),valV (dtiV a9) [.inl x,.inl y]=(lookD a9 x y).map V.int
 |[]=>rfl
 |((a,b),h)::r=>by
  show valV (([.inl a,.inl b],V.int h)::dtiV r) _=_;unfold lookD;by_cases e:a=x/\b=y
  .rw[if_pos e,jS (by rw[e.1,e.2])];rfl
  .rw[if_neg e,jT (λz=>e (by
    have z':([Sum.inl a,Sum.inl b]:List Key)=[.inl x,.inl y]:=z;injection z' with z1 z2;injection z2 with z2 _;exact#[Sum.inl.inj z1,Sum.inl.inj z2])),kK x y r]
def sdD(a9:List ((Int×Int)×Int))(x y v:Int):List ((Int×Int)×Int):=if(lookD a9 x y).isSome then a9 else a9++[((x,y),v)]
def Aq:V->List V->Hp->VK->Prop:=λx vs H Q=>∃a b i j d a9,x=.ref a/\vs=[.ref b,.int d]/\H a=be (.dT (dtiV a9))/\H b=be (.tup [.int i,.int j])/\Q (.int ((lookD a9 i j).getD d)) H
def Ar{X:Cx}(hu:X.A.units+1<TQ):MtR X "dict.get" Aq:=by
 intro pins s σ H x vs v us Q I rx rv h;obtain⟨a,b,i,j,d,a9,rfl,rfl,ha,hb,q⟩:=h;obtain⟨u,u',rfl,ru,rd⟩:=dX rv;cases(show v=Value.ref a from rx);refine xX hu I (DGet.t (k:=[.inl i,.inl j]) ha hb) ru rd λw' s' I' g8=>#[.int ((lookD a9 i j).getD d),H,I',?_,q];rw[kK]at g8;cases e:lookD a9 i j with
 |none=>rw[e]at g8;exact g8
 |some z=>rw[e]at g8;exact g8
def rSdT:V->List V->Hp->VK->Prop:=λx vs H Q=>∃a b i j d a9,x=.ref a/\vs=[.ref b,.int d]/\H a=be (.dT (dtiV a9))/\H b=be (.tup [.int i,.int j])/\a9.length<100000/\∀w,Q (.int w) (upd H a (.dT (dtiV (sdD a9 i j d))))
variable{a:KF}
def As{H:Hp}{o:HO}(h:H a=be o):upd H a o=H:=by
 funext b;by_cases e:b=a
 .subst e;rw[aB,h]
 .rw[au e]
def Au{X:Cx}(hu:X.A.units+1<TQ):MtR X "dict.setdefault" rSdT:=by
 intro pins s σ H x vs v us Q I rx rv h;obtain⟨a,b,i,j,d,a9,rfl,rfl,ha,hb,hl,q⟩:=h;obtain⟨u,u',rfl,ru,t,rfl⟩:=dX rv;cases(show v=Value.ref a from rx);cases(show u=Value.ref b from ru);obtain⟨z,hd,xs,J8,dd⟩:=xT I.hok ha;have c5:xs.length=a9.length:=by rw[<-Paired.length J8];simp[dtiV]
 have big:(100000:Nat)<sizeLine:=Ku
 have j7:H b=be (.tup (([.inl i,.inl j]:List Key).map kV)):=hb;have j9:=J8.val [.inl i,.inl j];rw[kK]at j9;refine T3 PySem.F.slot_dict_setdefault dd.typeIs PySem.F.entry_dict_setdefault (PySem.F.args_dict_setdefault_3 _ _ _) (Ap (S7 (bI X.prog X.w)) a b hd (.int d t)) #[Ug hu,[.inl i,.inl j],xs,key_of I.hok j7,dd,Kn,λp hp=>?_,λhn h' Mv hs=>?_]
 .rw[hp]at j9;cases e:lookD a9 i j with
  |none=>rw[e]at j9;exact j9.elim
  |some w=>
   rw[e]at j9;have:=q w;unfold sdD at this;rw[e]at this;have e2:(if(be w:Option Int).isSome then a9 else a9++[((i,j),d)])=a9:=rfl;rw[e2,As ha]at this;exact#[.int w,H,I.tok _,j9,this]
 .rw[hn]at j9;cases e:lookD a9 i j with
  |some w=>rw[e]at j9;exact j9.elim
  |none=>
   have e2:sdD a9 i j d=a9++[((i,j),d)]:=by unfold sdD;rw[e];rfl
   have e3:dtiV (sdD a9 i j d)=dtiV a9++[([.inl i,.inl j],.int d)]:=by rw[e2];simp[dtiV]
   obtain⟨o,es,ep,ho,hx,h3,h4,_,h5⟩:=Mv;have new:ObjOk X.prog X.w (upd H a (.dT (dtiV (sdD a9 i j d)))) h' a (.dT (dtiV (sdD a9 i j d))):=by
    refine#[by rw[e3,Gx];simp[dtiV];lia,hd,_,?_,o,es,ep,ho,hx,h3,h4,h5];rw[e3];refine KT.keeps (H:=H) (Paired.snoc (a:=(([.inl i,.inl j]:List Key),V.int d)) (b:=(([.inl i,.inl j]:List Key),b,Value.int d t)) J8 #[rfl,j7,#[t,rfl]]) λc ys ec=>?_;rw[au (vQ ec ha (λz=>nomatch z))];exact ec
   exact#[.int d,_,xU I (by rw[ha];exact True.intro) hs #[o,ho] new,#[t,rfl],q d]
section
variable {X:Cx}[J:Jm]{a b c e o f:P3}{ta tb tc te to:TME}{pos b_ a8:Sr}{t:TMA}
def mD0:TME:=λ_ M R=>R (.dti []) M
def Av:ME X (.Dict [] [] pos) mD0:=⟨pe_dnewT.anti λs H Q q=>by
 obtain⟨F,z,M,k,rs,R,h1,h2⟩:=q;intro p hp;have gn:=Grow.new k.fh hp (.dT []);exact h2 _ _ M _ _ gn.toM h1 (rep_dti.mpr #[p,rfl,aB]) (rs.rm.grow gn)⟩
def mDN:TME:=λ_ M R=>∀p,p∉aj M->R (.ptr p) ((p,.dti [])::M)
def Aw:ME X (.Dict [] [] pos) mDN:=⟨pe_dnewT.anti λs H Q q=>by
 obtain⟨F,z,M,k,rs,R,h1,h2⟩:=q;intro p hp;exact h2 _ _ _ F _ (GrowM.new k.fh hp) (h1 p λz=>rs.rm.here z hp) (rep_ptr.mpr rfl) (rs.rm.new k.fh hp aB)⟩
def kdK(ds:List D)(k:Int->Int->Int->Prop):Prop:=kd2 ds λa b=>kdT a λl=>kd2 l λx y=>kdI x λi=>kdI y λj=>kdI b (k i j)
def kdK.of{ds:List D}{k:Int->Int->Int->Prop}(h:kdK ds k):∃i j x,ds=[.tup [.int i,.int j],.int x]/\k i j x:=by
 obtain⟨a,b,rfl,h2⟩:=kd2.of h;obtain⟨l,rfl,h3⟩:=kdT.of h2;obtain⟨x,y,rfl,h4⟩:=kd2.of h3;obtain⟨i,rfl,h5⟩:=kdI.of h4;obtain⟨j,rfl,h6⟩:=kdI.of h5;obtain⟨v,rfl,h7⟩:=kdI.of h6;exact#[i,j,v,rfl,h7]
def Ax(to:TME)(t:TMA):TME:=λz M R=>to z M λd M1=>match d with|.dti a9=>(t z M1 λds M2=>kdK ds λi j x=>R (.int ((lookD a9 i j).getD x)) M2)|_=>False
def Ay(hu:X.A.units+1<TQ)(ho:ME X o to)(ha:MA X [e,f] t)(b9:autoParam (Sn o "get" X.env (So o X.env)=So o X.env) zA0)
  (d7:autoParam (zHF X a8 [e,f]) zA0)
  (c7:autoParam ((b_.endLine==a8.line)=true) zA0) (g5:autoParam (zSE X e [f]) zA0) (c_:autoParam (zPL X a8 [f]) zA0):
  ME X (.Call (.Attribute o "get" b_) [e,f] [] a8) (Ax to t):=⟨(cO PySem.F.plainAttrs_dict PySem.F.slot_dict_get PySem.F.type_dict_get (Ar hu) ho.out ha.out b9 d7 c7 g5 c_).anti λs H Q h=>by
 obtain⟨F,z,M,k,rs,R,h1,h2⟩:=h;refine#[F,z,M,k,rs,_,h1,λx u M1 F1 H1 g1 hx rx m1=>?_];split at hx
 .rename_i a9;obtain⟨p,rfl,hp⟩:=rep_dti.mp rx;refine#[.inr (.inr (.inl #[rfl,.inr #[_,g1.fh _ _ hp]])),?_];refine#[F1,z,M1,k.growM rs.mb g1,rs.growM k.bh g1 m1,_,hx,λds vs M2 F2 H2 g2 hd rd m2=>?_];obtain⟨i,j,x,rfl,hd⟩:=kdK.of hd
  focus
   obtain⟨v1,r1,rfl,q1,q2⟩:=reps_cons.mp rd;obtain⟨v2,r2,rfl,q3,q4⟩:=reps_cons.mp q2;rw[reps_nil.mp q4,rep_int.mp q3];obtain⟨b,us,rfl,hb,ru⟩:=rep_tupS.mp q1;have NH:us=[.int i,.int j]:=(Reps.ints (ns:=[i,j])).mp ru;subst NH;exact#[p,b,i,j,x,a9,rfl,rfl,g2.fh _ _ (g2.ff _ _ hp),g2.fh _ _ hb,h2 _ _ M2 F2 H2 (g1.trans g2) hd (rep_int.mpr rfl) m2]
 .exact hx.elim⟩
def mDsd(to:TME)(t:TMA):TME:=λz M R=>to z M λd M1=>match d with|.ptr a=>(∃a9,mget M1 a=be (.dti a9))/\(t z M1 λds M2=>kdK ds λi j x=>∃a9,mget M2 a=be (.dti a9)/\a9.length<100000/\∀w,R (.int w) (mput M2 a (.dti (sdD a9 i j x))))|_=>False
def Az(hu:X.A.units+1<TQ)(ho:ME X o to)(ha:MA X [e,f] t)(b9:autoParam (Sn o "setdefault" X.env (So o X.env)=So o X.env) zA0)
  (d7:autoParam (zHF X a8 [e,f]) zA0)
  (c7:autoParam ((b_.endLine==a8.line)=true) zA0) (g5:autoParam (zSE X e [f]) zA0) (c_:autoParam (zPL X a8 [f]) zA0):
  ME X (.Call (.Attribute o "setdefault" b_) [e,f] [] a8) (mDsd to t):=⟨(cO PySem.F.plainAttrs_dict PySem.F.slot_dict_setdefault PySem.F.type_dict_setdefault (Au hu) ho.out ha.out b9 d7 c7 g5 c_).anti λs H Q h=>by
 obtain⟨F,z,M,k,rs,R,h1,h2⟩:=h;refine#[F,z,M,k,rs,_,h1,λx u M1 F1 H1 g1 hx rx m1=>?_];split at hx
 .rename_i a;obtain⟨⟨RT,Nz⟩,hx⟩:=hx;rw[rep_ptr.mp rx];refine#[.inr (.inr (.inl #[rfl,.inr #[_,m1.ok _ _ (bg Nz)]])),?_];refine#[F1,z,M1,k.growM rs.mb g1,rs.growM k.bh g1 m1,_,hx,λds vs M2 F2 H2 g2 hd rd m2=>?_];obtain⟨i,j,x,rfl,a9,hm,hl,hR⟩:=kdK.of hd
  focus
   obtain⟨v1,r1,rfl,q1,q2⟩:=reps_cons.mp rd;obtain⟨v2,r2,rfl,q3,q4⟩:=reps_cons.mp q2;rw[reps_nil.mp q4,rep_int.mp q3];obtain⟨b,us,rfl,hb,ru⟩:=rep_tupS.mp q1;have NH:us=[.int i,.int j]:=(Reps.ints (ns:=[i,j])).mp ru;subst NH;refine#[a,b,i,j,x,a9,rfl,rfl,m2.ok _ _ (bg hm),g2.fh _ _ hb,hl,λw=>?_];exact h2 _ _ _ F2 _ (g1.trans (g2.trans (GrowM.put g2.fh (m2.fr a (br (bg hm))) hm))) (hR w) (rep_int.mpr rfl) (m2.put hm aB)
 .exact hx.elim⟩
end
section
variable {P:Sd}{w:Sj}{K:Ex}{mg:C_->Option KB}{base:Sl}
open Classical in
def Cls.okIM{x qual:C_}{st:Se}{f C:KF}{fd:Sq}{N:List C_}{p0:C_}{ps:List C_}{k:Nat}{S:SiD}(T:Fun K "__init__" qual st f fd)(hb:Binds K fd (p0::ps) [])(F:FnScope N (p0::ps) (ah st))(len:∀ds R,S ds R->ds.length=ps.length)
  (hns:nsIn K Pi x=be (be (.ref C))) (i9:mg x=be (.ref C)) (mk:Mk K C f)
  (a_:∀(cdv:KB) (A:Sk) (outer:List S1) (s:KM) (H:Hp) (E:XK) (J:Jm),Room k (A.deeper (Su qual (ah st) s.heap.objs.size f cdv))->XOkM (cxOf (CX1 P w) P w K mg base N qual (ah st) f cdv A outer s H E).nox->
   ∃t,MSs (cxOf (CX1 P w) P w K mg base N qual (ah st) f cdv A outer s H E).nox (aJ st) t/\∀a ds R,(∀z M x fs,¬J.RM z M x fs)->S ds R->t {nx:=λ_ M'=>∃fs,M'=[(a,.ins x fs)]/\R fs,rt:=λ_ _=>False} (startD N (.ptr a::ds)) [(a,.ins x [])]):CalM P w K mg base (k+1) x (p0::ps) S:=by
 refine#[C,f,fd,hns,i9,mk,Fun.okC T F (λvs H Q E h=>?_) (λcdv A outer s H vs Q E hr h=>?_),hb]
 .obtain⟨a,dx,us,H1,F,ds,rfl,_,_,_,_,_,rs,R,h,_⟩:=h;rw[Gv,Gv,rs.length,len ds R h]
 .obtain⟨a,dx,us,H1,F1,ds,rfl,rfl,ha,m9,m_,fh,rs,R,h,q⟩:=h
  let H:Hp:=upd (upd H1 dx (.own a)) a (.ins C dx [])
  let B:Hp:=λb=>if b=a then q8 else H b
  have LI:B a=none:=if_pos rfl;have hB:∀{b:KF},b≠a->B b=H b:=λ{b} h=>if_neg h;have l8:∀{b:KF} {o:HO},H1 b=be o->b≠a/\H b=be o:=λ{b o} e=>by
   have n1:b≠a:=bJ e ha;exact#[n1,by show upd _ _ _ b=_;rw[au n1,au (bJ e m9)];exact e]
  letI:Jm:={B:=B,F0:=F1,RX:=λ_ _ _=>False,RM:=λ_ _ _ _=>False}
  have hx:XOkM (cxOf (CX1 P w) P w K mg base N qual (ah st) f cdv A outer s H E).nox:=λσ z M' F' H' s' e C od y fs I kk rr hR er _=>hR.elim;obtain⟨t,ht,hq⟩:=a_ cdv A outer s H E inferInstance hr hx;have Fa:F1 a=none:=fh.free ha;have k0:Kept B F1 F1 H:=⟨λb o e=>by
   by_cases n:b=a
   .rw[n,LI]at e;cases e
   .rw[hB n]at e;exact e,λb o e=>(l8 (fh b o e)).2,Same.refl F1,λ_ h _=>h,rfl,Same.refl F1,λ_ h _=>h⟩
  have v7:Reps K F1 (.ptr a::ds) (.ref a::us):=reps_cons.mpr #[_,_,rfl,rep_ptr.mpr rfl,rs];have NI:RepM K F1 H [(a,.ins x [])]:=⟨by simp[aj],λb o hb=>by
   have e:=Gf.mp hb;cases e;exact#[C,dx,[],hns,aB,repf_nil.mpr rfl],λb hb=>by
   have e:b=a:=by simpa[aj]using hb
   rw[e];exact Fa⟩
  have r0:RepZ K B F1 H (startD N (.ptr a::ds)) (L2.start N (.ref a::us)) [(a,.ins x [])]:=⟨dF v7,kJ v7,NI,λb hb=>by
   have e:b=a:=by simpa[aj]using hb
   rw[e];exact LI⟩
  refine#[_,ht.out.nox,F1,F1,_,_,k0,r0,_,hq a ds R (λ_ _ _ _ z=>z) h,#[λz' s' M' F' H' kk hn r=>?_,λd v M' F' H' kk hd rd NB mb=>hd.elim,λ_ _ _ _ _ _ h _=>h.elim,λ_ _ _ _ _ _ h _=>h.elim]];obtain⟨fs,rfl,hR⟩:=hn;obtain⟨C',JQ,ws,j5,k6,rf⟩:=r.rm.ok a _ (Gf.mpr rfl);have Ko:nsIn K Pi x=be (be (.ref C')):=j5;rw[hns]at Ko;cases Ko;exact q fs ws JQ F' H' ⟨kk.f0,kk.fh,λb o e=>kk.bh b o (by show B b=be o;rw[hB (l8 e).1];exact(l8 e).2),λb h1 h2=>kk.out b h1 (by
   show B b≠q8;cases e:H1 b with
   |none=>exact absurd e h2
   |some o=>rw[hB (l8 e).1,(l8 e).2];exact λz=>nomatch z)⟩ hR k6 (r.rm.fr a (by simp[aj])) rf
end
section
variable {P:Sd}{w:Sj}{K:Ex}{mg:C_->Option KB}{base:Sl}{n:Nat}{x m:C_}{ps:List C_}
variable{S:SpM}
def CalMth.one(h:CalMth P w K mg base n x m ps (lSpM K S)):∀y,y∈[x]->CalMth P w K mg base n y m ps (lSpM K ((λ_=>S) y)):=λy hy=>by
 rw[Gf.mp hy];exact h
def tG{f:KF}{fd:Sq}{sp:Sp}(h:∀vs H Q E,¬sp vs H Q E):FnOk P w K mg base (CX1 P w) n f fd ps sp:=#[λvs H Q E q=>(h _ _ _ _ q).elim,λA outer s H args us vs Q E _ _ _ _ q=>(h _ _ _ _ q).elim]
def tH(h:∀ds M R RX,¬S ds M R RX):∀vs H Q E,¬lSpM K S vs H Q E:=by
 rintro vs H Q E⟨F,ds,M,_,_,_,R,RX,q,_⟩;exact h ds M R RX q
def CalMth.never{qual:C_}{st:Se}(T:Txm K x m qual st ps)(h:∀ds M R RX,¬S ds M R RX):CalMth P w K mg base n x m ps (lSpM K S):=by
 obtain⟨C,f,fd,h1,h2,h3,T,hb⟩:=T;exact#[C,f,fd,h1,h2,h3,tG (tH h),hb]
def CalMM.never{st:Se}(T:Tx K mg x st ps)(h:∀ds M R RX,¬S ds M R RX):CalMM P w K mg base n x ps S:=by
 obtain⟨f,fd,T,hb,hm⟩:=T;exact#[f,fd,tG (tH h),hb,T.kp,hm]
end
section
variable {X:Cx}[J:Jm]{a b c e:P3}{ta tb:TME}{pos:Sr}
def mUn(r:D->(D->Prop)->Prop)(ta:TME):TME:=λz M R=>ta z M λx M1=>r x λd=>R d M1
end
def kL(S:SpM):SpM:=λds M R RX=>∃M1 M2,M=M1++M2/\S ds M2 (λd M'=>R d (M1++M')) λx fs M'=>RX x fs (M1++M')
def keys_app{M1 M2:MS}:a∈aj (M1++M2)↔a∈aj M1\/a∈aj M2:=by unfold aj;rw[GM,GD]
variable{K:Ex}
def kM{S:SpM}{vs:List V}{H:Hp}{Q:VK}{E:XK}(h:lSpM K (kL S) vs H Q E):lSpM K S vs H Q E:=by
 obtain⟨F,ds,M,fh,rs,rm,R,RX,⟨M1,M2,rfl,hS⟩,q,qx⟩:=h;have nd:(aj M1++aj M2).Nodup:=by have:=rm.nd;unfold aj at this ⊢;rw[GM]at this;exact this
 have NJ:∀{a:KF},a∈aj M1->a∉aj M2:=λ{a} h1 h2=>(Hu.mp nd).2.2 a h1 a h2 rfl;have QU:RepM K F H M2:=#[(Hu.mp nd).2.1,λa o h=>rm.ok a o (GE _ h),λa h=>rm.fr a (keys_app.mpr (.inr h))];have up:∀{M':MS} {F' H':Hp},GrowM M2 M' F H F' H'->RepM K F' H' M'->GrowM (M1++M2) (M1++M') F H F' H'/\RepM K F' H' (M1++M'):=λ{M' F' H'} g r=>by
  have PB:∀{a:KF},a∈aj M1->H a≠none:=λ{a} h=>rm.here (keys_app.mpr (.inl h));have NK:∀{a:KF},a∈aj M1->a∉aj M':=λ{a} h1 h2=>by
   rcases g.ks a h2 with z|z
   .exact NJ h1 z
   .exact PB h1 z
  refine#[#[g.ff,g.fh,λb o nb e=>g.hh b o (λz=>nb (keys_app.mpr (.inr z))) e,λb nb h1 h2=>g.out b (λz=>nb (keys_app.mpr (.inr z))) h1 h2,λb hb=>?_],#[?_,λa o h=>?_,λa h=>?_]]
  .rcases keys_app.mp hb with z|z
   .exact .inl (keys_app.mpr (.inl z))
   .exact(g.ks b z).imp (λz=>keys_app.mpr (.inr z)) id
  .unfold aj;rw[GM];exact Hu.mpr #[(Hu.mp nd).1,r.nd,λa h1 b h2 e=>NK h1 (e ▸ h2)]
  .rcases GD.mp h with z|z
   .have ka:a∈aj M1:=br z;exact(rm.ok a o (Hk _ z)).mono g.ff λo e=>g.hh a o (NJ ka) e
   .exact r.ok a o z
  .rcases keys_app.mp h with z|z
   .exact g.out a (NJ z) (rm.fr a (keys_app.mpr (.inl z))) (PB z)
   .exact r.fr a z
 exact#[F,ds,M2,fh,rs,QU,_,_,hS,λd v M' F' H' g hd rd m'=>q d v _ F' H' (up g m').1 hd rd (up g m').2,λx fs C od M' F' H' g hR er m'=>qx x fs C od _ F' H' (up g m').1 hR er (up g m').2]
section
variable {P:Sd}{w:Sj}{K:Ex}{mg:C_->Option KB}{base:Sl}{n:Nat}{x m:C_}{ps:List C_}{S:SpM}
def CalMM.frame(C:CalMM P w K mg base n x ps S):CalMM P w K mg base n x ps (kL S):=C.imp λ_ _ _ _ h=>kM h
def CalMth.frame(C:CalMth P w K mg base n x m ps (lSpM K S)):CalMth P w K mg base n x m ps (lSpM K (kL S)):=C.imp λ_ _ _ _ h=>kM h
end
def nilX(S:SpX):SpM:=λds M R RX=>M=[]/\∃(R0:D->Prop) (JS:XD),S ds R0 JS/\(∀d M',R0 d->R d M')/\∀x fs M',JS x fs->RX x fs M'
def CalMM.nilX{P:Sd}{w:Sj}{mg:C_->Option KB}{base:Sl}{n:Nat}{x:C_}{ps:List C_}{S:SpX}(C:CalMM P w K mg base n x ps (nilX S)):CalX P w K mg base n x ps S:=C.toX λ_ R RX h=>#[rfl,R,RX,h,λ_ _ h=>h,λ_ _ _ h=>h]
mutual
def ce:D->Bool
 |.non=>true|.bl _=>true|.int _=>true|.str _=>true|.ptr _=>true
 |.tup ds=>flats ds
 |.lst ds=>flats ds
 |_=>false
def flats:List D->Bool
 |[]=>true
 |d::ds=>ce d&&flats ds
end
def cutF(F:Hp)(a:KF):Hp:=λb=>if b=a then q8 else F b
variable{F:Hp}
def fX{b:KF}(h:b≠a):cutF F a b=F b:=if_neg h
mutual
def Rep.cutF{K:Ex}{F:Hp}{a:KF}{C:KF}{dx:KF}{ws:List (C_×V)}(ea:F a=be (.ins C dx ws)):∀(d:D) (v:V),ce d=true->Rep K F d v->Rep K (My.cutF F a) d v
 |.non,v,_,h=>by unfold Rep at h ⊢;exact h
 |.bl b,v,_,h=>by unfold Rep at h ⊢;exact h
 |.int b,v,_,h=>by unfold Rep at h ⊢;exact h
 |.str b,v,_,h=>by unfold Rep at h ⊢;exact h
 |.ptr b,v,_,h=>by unfold Rep at h ⊢;exact h
 |.tup ds,v,n,h=>by
  unfold Rep at h ⊢;obtain⟨p,vs,e,q,r⟩:=h;have ne:p≠a:=λz=>by rw[z,ea]at q;cases q
  exact#[p,vs,e,by rw[fX ne];exact q,Reps.cutF ea ds vs (by unfold ce at n;exact n) r]
 |.lst ds,v,n,h=>by
  unfold Rep at h ⊢;obtain⟨p,vs,e,q,r⟩:=h;have ne:p≠a:=λz=>by rw[z,ea]at q;cases q
  exact#[p,vs,e,by rw[fX ne];exact q,Reps.cutF ea ds vs (by unfold ce at n;exact n) r]
 |.rol _,_,n,_=>by unfold ce at n;cases n
 |.obj _ _,_,n,_=>by unfold ce at n;cases n
 |.exc _ _,_,n,_=>by unfold ce at n;cases n
 |.own _,_,n,_=>by unfold ce at n;cases n
 |.dti _,_,n,_=>by unfold ce at n;cases n
def Reps.cutF{K:Ex}{F:Hp}{a:KF}{C:KF}{dx:KF}{ws:List (C_×V)}(ea:F a=be (.ins C dx ws)):∀(ds:List D) (vs:List V),flats ds=true->Reps K F ds vs->Reps K (My.cutF F a) ds vs
 |[],vs,_,h=>by unfold Reps at h ⊢;exact h
 |d::ds,vs,n,h=>by
  unfold flats at n;rw[GF]at n;unfold Reps at h ⊢;obtain⟨v,r,e,q1,q2⟩:=h;exact#[v,r,e,Rep.cutF ea d v n.1 q1,Reps.cutF ea ds r n.2 q2]
end
def cu(a:KF)(o:D)(d:D):D:=match d with|.ptr b=>if b=a then o else .ptr b|d=>d
def AA{F2:Hp}{o d:D}{v:V}(g:Same F F2)(ro:Rep K F2 o (.ref a))(h:Rep K F d v):Rep K F2 (cu a o d) v:=by
 unfold cu;split
 .rename_i b;split
  .rename_i e;rw[rep_ptr.mp h,e];exact ro
  .exact rep_ptr.mpr (rep_ptr.mp h)
 .exact h.mono g
def tI{F2:Hp}{o:D}(g:Same F F2)(ro:Rep K F2 o (.ref a)){ds:List D}:∀{vs:List V},Reps K F ds vs->Reps K F2 (ds.map (cu a o)) vs:=by
 induction ds with
 |nil=>intro vs h;rw[reps_nil.mp h];exact reps_nil.mpr rfl
 |cons d ds ih=>
  intro vs h;obtain⟨v,r,rfl,q1,q2⟩:=reps_cons.mp h;exact reps_cons.mpr #[v,r,rfl,AA g ro q1,ih q2]
def NoOwn(z:SD):Prop:=∀(i:Nat) ds,z[i]?≠be (be (.own ds))
def ofB(B H:Hp)(M:MS):Hp:=λb=>if b∈aj M then H b else B b
def jOf(B H F:Hp)(M:MS):Jx:=#[ofB B H M,F,λ_ _ _=>False]
def endD(E:EndsM)(M:MS):EndsD:=#[λz=>E.nx z M/\NoOwn z,λd=>E.rt d M,λz=>E.bk z M/\NoOwn z,λz=>E.ct z M/\NoOwn z]
section
variable {X:Cx}[J:Jm]
variable{B H:Hp}{M:MS}
def kN{b:KF}(h:b∈aj M):ofB B H M b=H b:=if_pos h
def kO{b:KF}(h:b∉aj M):ofB B H M b=B b:=if_neg h
variable{K:Ex}{F0 F:Hp}{z:SD}{s:L2.St}
def cV{F' H':Hp}(k:Kept J.B F0 F H)(rz:RepZ K J.B F H z s M)(k':@Kept (jOf J.B H F M) (ofB J.B H M) F F' H'):Kept J.B F0 F' H'/\RepM K F' H' M:=by
 have nk:∀b,J.B b≠q8->b∉aj M:=λb e z=>e (rz.mb b z);obtain⟨bh,fh,f0,out,_,_,_⟩:=k';refine#[#[λb o e=>?_,fh,k.f0.trans f0,λb h1 h2=>?_,k.eb,k.jf,k.jo],rz.rm.nd,λb o hb=>(rz.rm.ok b o hb).mono f0 λo e=>?_,λb hb=>?_]
 .exact bh b o (by rw[kO (nk b (by rw[e];exact λz=>nomatch z))];exact e)
 .exact out b (k.out b h1 h2) (by rw[kO (nk b h2)];exact h2)
 .exact bh b o (by rw[kN (br hb)];exact e)
 .exact out b (rz.rm.fr b hb) (by rw[kN hb];exact rz.rm.here hb)
def gZ{B':Hp}(r:RepS K B F H z s)(no:NoOwn z):RepS K B' F H z s:=#[r.len,r.val,λi ds e=>absurd e (no i ds),r.apart]
def AB(k:Kept J.B F0 F H):@Kept (jOf J.B H F M) (ofB J.B H M) F F H:=
 @Kept.mk (jOf J.B H F M) _ _ _ _ (λb o e=>by
  by_cases hb:b∈aj M
  .rw[kN hb]at e;exact e
  .rw[kO hb]at e;exact k.bh b o e) k.fh (Same.refl F) (λ_ h _=>h) rfl (Same.refl F) (λ_ h _=>h)
def AC{ED:EndsM}{D:Ends}(k:Kept J.B F0 F H)(rz:RepZ K J.B F H z s M)(e:EndsOkM K F0 ED D):@EndsOk (jOf J.B H F M) K (ofB J.B H M) F (endD ED M) D:=
 @EndsOk.mk (jOf J.B H F M) _ _ _ _ _ (λz' s' F' H' k' hz r'=>e.nx z' s' M F' H' (cV k rz k').1 hz.1 #[gZ r' hz.2,hz.2,(cV k rz k').2,rz.mb])
  (λd v F' H' k' hd rd=>e.rt d v M F' H' (cV k rz k').1 hd rd (cV k rz k').2 rz.mb)
  (λz' s' F' H' k' hz r'=>e.bk z' s' M F' H' (cV k rz k').1 hz.1 #[gZ r' hz.2,hz.2,(cV k rz k').2,rz.mb])
  (λz' s' F' H' k' hz r'=>e.ct z' s' M F' H' (cV k rz k').1 hz.1 #[gZ r' hz.2,hz.2,(cV k rz k').2,rz.mb])
def mTry(tb:Jm->TMS)(th:TH):TMS:=λE z M=>∃RM:SD->MS->XD,(∀J':Jm,J'.RM=RM->tb J' E z M)/\∀z' M' x fs,RM z' M' x fs->th x fs (endD E M') z'
def jTry(B F0:Hp)(RM:SD->MS->XD):Jm:={B:=B,F0:=F0,RX:=λ_ _ _=>False,RM:=RM}
variable{RM:SD->MS->XD}
def Kept.reM(k:Kept J.B F0 F H):@Kept (jTry J.B F0 RM).toJx J.B F0 F H:=@Kept.mk (jTry J.B F0 RM).toJx J.B F0 F H k.bh k.fh k.f0 k.out rfl (Same.refl F0) (λ_ h _=>h)
def Kept.unM{F' H':Hp}(k:Kept J.B F0 F H)(k':@Kept (jTry J.B F0 RM).toJx J.B F0 F' H'):Kept J.B F0 F' H':=by
 obtain⟨a,b,c,d,_,_,_⟩:=k';exact#[a,b,c,d,k.eb,k.jf,k.jo]
def AD{body:List Se}{h₀:SO}{hs:List SO}{pos:Sr}{tb:Jm->TMS}{th:TH}
  (hb:∀(pn:List (KF×Sx)) (xe:KB->KM->Prop) (J':Jm),SB (Sf X.prog X.w) X.A X.env xe->@XOkM (X.tried pn xe) J'->@MSs (X.tried pn xe) J' body (tb J'))
  (hh:∀J':Jx,@WDH X J' (h₀::hs) th) (f_:autoParam (X.ex=[]) zA0) (v3:autoParam (X.stack=X.env::X.outer) zA0) (m6:autoParam (X.env.frame=be X.env.locals) zA0):MSt X (.Try body (h₀::hs) [] [] pos) (mTry tb th):=⟨by
 intro pins s σ H D I h;obtain⟨F0,F,z,M,k,rz,ED,⟨RM,h1,h2⟩,ee⟩:=h;have ok:=I.ok;have hx:@XOkM (X.tried (X.pn++pins) (λe s₁=>Sg (Sf X.prog X.w) X.A (S8 e X.env) (λ_ s₂=>Sg (Sf X.prog X.w) X.A (Tp e q8) (λ_ s₃=>Sg (Sf X.prog X.w) X.A (TC e X.env (h₀::hs)) (SP X pins D) X.xe s₃) X.xe s₂) X.xe s₁)) (jTry J.B F0 RM):=by
  intro σ' z' M' F' H' s' e C od x fs I1 kk rr hR er hd;have k2:Kept J.B F0 F' H':=Kept.unM k kk;exact zw (Inv.untried ok I1) hd f_ v3 m6 λs4 T2 I4 hl=>@WDH.out X (jOf J.B H' F' M') _ _ (hh _) pins s4 σ' H' D e C od T2 x fs (ofB J.B H' M') F' F' z' (endD ED M') I4 hl (AB k2) (gZ rr.rs rr.no) er (h2 z' M' x fs hR) (AC k2 rr ee)
 refine wpAny_Try_except (Sy (@MSs.out _ (jTry J.B F0 RM) _ _ (hb (X.pn++pins) _ (jTry J.B F0 RM) PassesOwn.looking hx) [] s σ H D (Inv.tried I) ?_) (λf s1 q=>?_) λe s1 q=>q)
 .exact#[F0,F,z,M,Kept.reM k,rz,ED,h1 (jTry J.B F0 RM) rfl,@EndsOkM.mk (jTry J.B F0 RM) _ _ _ _ (λz' s' M' F' H' k'=>ee.nx z' s' M' F' H' (Kept.unM k k')) (λd v M' F' H' k'=>ee.rt d v M' F' H' (Kept.unM k k')) (λz' s' M' F' H' k'=>ee.bk z' s' M' F' H' (Kept.unM k k')) (λz' s' M' F' H' k'=>ee.ct z' s' M' F' H' (Kept.unM k k'))]
 .have q:=SP.untried ok q;cases f with
  |next=>exact SY q
  |ret v=>exact q
  |brk=>exact q
  |cont=>exact q⟩
end
end My
namespace My
section
variable {K:Ex}{h:Sl}{mg:C_->Option KB}{x y m q f:C_}{st:Se}{ps:List C_}
abbrev NsC(K:Ex)(x:C_)(C:KF):Prop:=nsIn K Pi x=be (be (.ref C))
variable{C:KF}
def NsC.uniq{D:KF}(a:NsC K x C)(b:NsC K x D):C=D:=by
 have e:=a.symm.trans b;cases e;rfl
abbrev BindA(x q:C_)(st:Se)(ps:List C_):Prop:=∀(kV doc pm:KB) (an:Option KF) (cdv ct:KB) (us:List KB),us.length=ps.length->SW (fnOf x q (bv st) (aJ st) (ah st) .none kV doc pm an cdv ct) #[us,[]]=pure (ps.zip us)
def FnIn(K:Ex)(x:C_)(st:Se):Prop:=∃f fd,NsC K x f/\Fun K x x st f fd
variable{oc kV dc pm cd ct:KB}{od an:Option KF}{sl:Array (Option KB)}
def fnIn_mk{f:KF}(a:nsIn K Pi x=be (be (.ref f)))(l:K.lookup f=be #[oc,od,.func (fnOf x x (bv st) (aJ st) (ah st) .none kV dc pm an cd ct),sl])(c:codeIn K cd x=true)(k:keepIn K (.ref f)=true):FnIn K x st:=#[f,_,a,jR l c k]
def FnIn.tx(T:FnIn K x st)(X:K.In h)(G:h.Ns Pi mg)(b:BindA x x st ps):Tx K mg x st ps:=by
 obtain⟨f,fd,a,F⟩:=T;exact#[f,fd,F,F.binds b,mg_of X G a]
def FnIn.law{p:C_}(T:FnIn K x st)(X:K.In h)(G:h.Ns Pi mg){fa:KF}(NM:mg x=be (.ref fa))(b:∀(kV doc pm:KB) (an:Option KF) (cdv ct v:KB),SW (fnOf x x (bv st) (aJ st) (ah st) .none kV doc pm an cdv ct) #[[v],[]]=pure [(p,v)]):∃fd,(∀(s:KM) (v:KB),S_ s fd #[[v],[]] [(p,v)])/\Fun K x x st fa fd:=by
 obtain⟨f,fd,a,F⟩:=T;have e:=NM.symm.trans (mg_of X G a);cases e;refine#[fd,λs v=>?_,F];obtain⟨oc,od,kV,doc,pm,an,cdv,ct,osl,rfl,lk,gV⟩:=F.ex;exact .of_eq (b _ _ _ _ _ _ v)
variable{us:List KB}
def bc{x:C_}{xs:List C_}(h:us.length=(x::xs).length):∃u t,us=u::t/\t.length=xs.length:=by
 cases us with
 |nil=>cases h
 |cons u t=>exact#[u,t,rfl,Nat.succ.inj h]
def len_0(h:us.length=([]:List C_).length):us=[]:=Ir h
variable{x0:C_}
def AE(b:∀(kV doc pm:KB) (an:Option KF) (cdv ct u0:KB),SW (fnOf x q (bv st) (aJ st) (ah st) .none kV doc pm an cdv ct) #[[u0],[]]=pure [(x0,u0)]):BindA x q st [x0]:=λkV doc pm an cdv ct us hl=>by
 obtain⟨u0,t0,rfl,h0⟩:=bc hl;cases len_0 h0;exact b kV doc pm an cdv ct u0
variable{x1:C_}
def bind2(b:∀(kV doc pm:KB) (an:Option KF) (cdv ct u0 u1:KB),SW (fnOf x q (bv st) (aJ st) (ah st) .none kV doc pm an cdv ct) #[[u0,u1],[]]=pure [(x0,u0),(x1,u1)]):BindA x q st [x0,x1]:=λkV doc pm an cdv ct us hl=>by
 obtain⟨u0,t0,rfl,h0⟩:=bc hl;obtain⟨u1,t1,rfl,h1⟩:=bc h0;cases len_0 h1;exact b kV doc pm an cdv ct u0 u1
variable{x2:C_}
def bind3(b:∀(kV doc pm:KB) (an:Option KF) (cdv ct u0 u1 u2:KB),SW (fnOf x q (bv st) (aJ st) (ah st) .none kV doc pm an cdv ct) #[[u0,u1,u2],[]]=pure [(x0,u0),(x1,u1),(x2,u2)]):BindA x q st [x0,x1,x2]:=λkV doc pm an cdv ct us hl=>by
 obtain⟨u0,t0,rfl,h0⟩:=bc hl;obtain⟨u1,t1,rfl,h1⟩:=bc h0;obtain⟨u2,t2,rfl,h2⟩:=bc h1;cases len_0 h2;exact b kV doc pm an cdv ct u0 u1 u2
variable{x3:C_}
def bind4(b:∀(kV doc pm:KB) (an:Option KF) (cdv ct u0 u1 u2 u3:KB),SW (fnOf x q (bv st) (aJ st) (ah st) .none kV doc pm an cdv ct) #[[u0,u1,u2,u3],[]]=pure [(x0,u0),(x1,u1),(x2,u2),(x3,u3)]):BindA x q st [x0,x1,x2,x3]:=λkV doc pm an cdv ct us hl=>by
 obtain⟨u0,t0,rfl,h0⟩:=bc hl;obtain⟨u1,t1,rfl,h1⟩:=bc h0;obtain⟨u2,t2,rfl,h2⟩:=bc h1;obtain⟨u3,t3,rfl,h3⟩:=bc h2;cases len_0 h3;exact b kV doc pm an cdv ct u0 u1 u2 u3
def bind5{x4:C_}(b:∀(kV doc pm:KB) (an:Option KF) (cdv ct u0 u1 u2 u3 u4:KB),SW (fnOf x q (bv st) (aJ st) (ah st) .none kV doc pm an cdv ct) #[[u0,u1,u2,u3,u4],[]]=pure [(x0,u0),(x1,u1),(x2,u2),(x3,u3),(x4,u4)]):BindA x q st [x0,x1,x2,x3,x4]:=λkV doc pm an cdv ct us hl=>by
 obtain⟨u0,t0,rfl,h0⟩:=bc hl;obtain⟨u1,t1,rfl,h1⟩:=bc h0;obtain⟨u2,t2,rfl,h2⟩:=bc h1;obtain⟨u3,t3,rfl,h3⟩:=bc h2;obtain⟨u4,t4,rfl,h4⟩:=bc h3;cases len_0 h4;exact b kV doc pm an cdv ct u0 u1 u2 u3 u4
def bind6{x4 x5:C_}(b:∀(kV doc pm:KB) (an:Option KF) (cdv ct u0 u1 u2 u3 u4 u5:KB),SW (fnOf x q (bv st) (aJ st) (ah st) .none kV doc pm an cdv ct) #[[u0,u1,u2,u3,u4,u5],[]]=pure [(x0,u0),(x1,u1),(x2,u2),(x3,u3),(x4,u4),(x5,u5)]):BindA x q st [x0,x1,x2,x3,x4,x5]:=λkV doc pm an cdv ct us hl=>by
 obtain⟨u0,t0,rfl,h0⟩:=bc hl;obtain⟨u1,t1,rfl,h1⟩:=bc h0;obtain⟨u2,t2,rfl,h2⟩:=bc h1;obtain⟨u3,t3,rfl,h3⟩:=bc h2;obtain⟨u4,t4,rfl,h4⟩:=bc h3;obtain⟨u5,t5,rfl,h5⟩:=bc h4;cases len_0 h5;exact b kV doc pm an cdv ct u0 u1 u2 u3 u4 u5
structure ClF(K:Ex)(x:Str)(C:KF):Prop where
 ns:NsC K x C
 cl:Cls K C
 ha:Gw K (.ref C) "__class__"=be (be (.builtin "object.__class__"))
 hn:HA K (.builtin "object.__class__") "__get__"=be (be (.builtin "getset_descriptor.__get__"))
 ht:HB K (.builtin "object.__class__")=be true
 hm:GR K C (.type "object")=be true
def ClIn(K:Ex)(x:C_):Prop:=∃C,ClF K x C
def clIn_mk(a:nsIn K Pi x=be (be (.ref C)))(pg:plainGet K C Str.empty=true)(hd:hasDictIn K C=true)(po:plainOver K C=true)(sa:Gw K (.ref C) "__setattr__"=be (be (.builtin "object.__setattr__")))
  (ha:Gw K (.ref C) "__class__"=be (be (.builtin "object.__class__"))) (hn:HA K (.builtin "object.__class__") "__get__"=be (be (.builtin "getset_descriptor.__get__"))) (ht:HB K (.builtin "object.__class__")=be true) (hm:GR K C (.type "object")=be true):ClIn K x:=#[C,a,#[pg,hd,po,sa],ha,hn,ht,hm]
def NoIn(K:Ex)(x f:C_):Prop:=∃C,NsC K x C/\Gw K (.ref C) f=be q8
def noIn_mk(a:nsIn K Pi x=be (be (.ref C)))(b:Gw K (.ref C) f=be q8):NoIn K x f:=#[C,a,b]
def ClIn.a(c:ClIn K x)(n:NoIn K x f):ClsA K x f:=by
 obtain⟨C,k⟩:=c;obtain⟨D,a,b⟩:=n;cases NsC.uniq k.ns a;exact#[C,a,k.cl,b]
def MtIn(K:Ex)(x m q:C_)(st:Se):Prop:=∃C f fd,NsC K x C/\Meth K C m f/\Fun K m q st f fd
def mtIn_mk{f:KF}(a:nsIn K Pi x=be (be (.ref C)))(b:Gw K (.ref C) m=be (be (.ref f)))(i:isFn K (.ref f)=true)(l:K.lookup f=be #[oc,od,.func (fnOf m q (bv st) (aJ st) (ah st) .none kV dc pm an cd ct),sl])(c:codeIn K cd q=true)(k:keepIn K (.ref f)=true):MtIn K x m q st:=#[C,f,_,a,#[b,i,k],jR l c k]
def MtIn.txm(T:MtIn K x m q st)(c:ClIn K x)(b:BindA m q st ps):Txm K x m q st ps:=by
 obtain⟨C,k⟩:=c;obtain⟨D,f,fd,a,mt,F⟩:=T;cases NsC.uniq k.ns a;exact#[C,f,fd,a,k.cl,mt,F,F.binds b]
def InIn(K:Ex)(x q:C_)(st:Se):Prop:=∃C f fd,NsC K x C/\Mk K C f/\Fun K "__init__" q st f fd
def inIn_mk{f:KF}(a:nsIn K Pi x=be (be (.ref C)))(mk:makesIn K C=true)(b:Gw K (.ref C) "__init__"=be (be (.ref f)))(i:isFn K (.ref f)=true)(kp:keepIn K (.ref C)=true)(l:K.lookup f=be #[oc,od,.func (fnOf "__init__" q (bv st) (aJ st) (ah st) .none kV dc pm an cd ct),sl])(c:codeIn K cd q=true)(k:keepIn K (.ref f)=true):InIn K x q st:=#[C,f,_,a,#[mk,b,i,kp],jR l c k]
def Txi(K:Ex)(mg:C_->Option KB)(x q:C_)(st:Se)(ps:List C_):Prop:=∃C f fd,NsC K x C/\mg x=be (.ref C)/\Mk K C f/\Fun K "__init__" q st f fd/\Binds K fd ps []
def InIn.txi(T:InIn K x q st)(X:K.In h)(G:h.Ns Pi mg)(b:BindA "__init__" q st ps):Txi K mg x q st ps:=by
 obtain⟨C,f,fd,a,mk,F⟩:=T;exact#[C,f,fd,a,mg_of X G a,mk,F,F.binds b]
def CiIn(K:Ex)(x:C_)(i:Int):Prop:=∃t,nsIn K Pi x=be (be (.int i t))
def CsIn(K:Ex)(x y:C_):Prop:=∃t,nsIn K Pi x=be (be (.str y t))
def ciIn_mk{i:Int}{t:Um}(a:nsIn K Pi x=be (be (.int i t))):CiIn K x i:=#[t,a]
def csIn_mk{t:Um}(a:nsIn K Pi x=be (be (.str y t))):CsIn K x y:=#[t,a]
def CiIn.g{i:Int}(c:CiIn K x i)(X:K.In h)(G:h.Ns Pi mg):∃t,mg x=be (.int i t):=let ⟨t,a⟩:=c;#[t,mg_of X G a]
def CsIn.g(c:CsIn K x y)(X:K.In h)(G:h.Ns Pi mg):∃t,mg x=be (.str y t):=let ⟨t,a⟩:=c;#[t,mg_of X G a]
def NnIn(K:Ex)(x:C_):Prop:=nsIn K Pi x=be q8
def nnIn_mk(a:nsIn K Pi x=be q8):NnIn K x:=a
structure ErF(K:Ex)(x:Str)(bm:List KB)(C N:KF):Prop where
 ns:NsC K x C
 kp:keepIn K (.ref C)=true
 ob:∃nm q bs sn sub ab col dd k0 k1 k2 k3 k5,K.lookup C=be (SR nm q C N bs bm true sn sub ab col dd k0 k1 k2 k3 k5 "ValueError.__new__")
structure ErN(K:Ex)(N:KF):Prop where
 ok:nsOkIn K N=true
 no:nsIn K N "__init__"=be q8
def EbIn(K:Ex):Prop:=∃C N,ErF K "MotifError" Exc.veLine C N/\ErN K N
def EdIn(K:Ex)(x:C_)(C N:KF):Prop:=∃B,NsC K "MotifError" B/\ErF K x (.ref B::Exc.veLine) C N
def E0In(K:Ex)(x:C_):Prop:=∃C N,EdIn K x C N/\ErN K N
def EmIn(K:Ex)(x y:C_):Prop:=∃C D,NsC K x C/\NsC K y D/\GR K C (.ref D)=be (subE x y)
section
variable {B C D N:KF}{nm qn:C_}{bs:List KB}{sn:List C_}{sub:List KB}{ab:Bool}{col:Option Bool}{dd:Option KF}{k0 k1 k2 k3 k5:Option KB}{nc:KB}{nd:Option KF}{ne:Array DictEntry}{np:Nat}{nl:Array (Option KB)}
def ebIn_mk(a:nsIn K Pi "MotifError"=be (be (.ref C)))(kp:keepIn K (.ref C)=true)(o:K.lookup C=be (SR nm qn C N bs Exc.veLine true sn sub ab col dd k0 k1 k2 k3 k5 "ValueError.__new__"))(nk:K.lookup N=be #[nc,nd,.dict ne np,nl])(al:ne.toList.all (λe=>match e.key with|.str _ _=>true|_=>false)=true)(ni:nsIn K N "__init__"=be q8):EbIn K:=#[C,N,#[a,kp,_,_,_,_,_,_,_,_,_,_,_,_,_,o],sI nk al,ni]
def e0In_mk(b:nsIn K Pi "MotifError"=be (be (.ref B)))(a:nsIn K Pi x=be (be (.ref C)))(kp:keepIn K (.ref C)=true)(o:K.lookup C=be (SR nm qn C N bs (.ref B::Exc.veLine) true sn sub ab col dd k0 k1 k2 k3 k5 "ValueError.__new__"))(nk:K.lookup N=be #[nc,nd,.dict ne np,nl])(al:ne.toList.all (λe=>match e.key with|.str _ _=>true|_=>false)=true)(ni:nsIn K N "__init__"=be q8):E0In K x:=#[C,N,#[B,b,a,kp,_,_,_,_,_,_,_,_,_,_,_,_,_,o],sI nk al,ni]
def emIn_mkT(e:subE x y=true)(a:nsIn K Pi x=be (be (.ref C)))(c:nsIn K Pi y=be (be (.ref D)))(d:GR K C (.ref D)=be true):EmIn K x y:=#[C,D,a,c,e ▸ d]
def emIn_mkF(e:subE x y=false)(a:nsIn K Pi x=be (be (.ref C)))(c:nsIn K Pi y=be (be (.ref D)))(d:GR K C (.ref D)=be false):EmIn K x y:=#[C,D,a,c,e ▸ d]
end
def EbIn.k(e:EbIn K)(X:K.In h)(G:h.Ns Pi mg):∃C N bm,ErrK K mg "MotifError" C N bm/\ErrN K N:=by
 obtain⟨C,N,k,n⟩:=e;exact#[C,N,_,#[k.ns,mg_of X G k.ns,k.kp,k.ob,sH],n.ok,n.no]
def EdIn.k{N:KF}(e:EdIn K x C N)(b:EbIn K)(X:K.In h)(G:h.Ns Pi mg):∃bm,ErrK K mg x C N bm:=by
 obtain⟨B,hB,k⟩:=e;obtain⟨B',N',kb,n⟩:=b;cases NsC.uniq kb.ns hB;obtain⟨_,_,_,_,_,_,_,_,_,_,_,_,_,o⟩:=kb.ob;exact#[_,k.ns,mg_of X G k.ns,k.kp,k.ob,zx o rfl n.ok n.no]
def E0In.k(e:E0In K x)(b:EbIn K)(X:K.In h)(G:h.Ns Pi mg):∃C N bm,ErrK K mg x C N bm/\ErrN K N:=by
 obtain⟨C,N,k,n⟩:=e;obtain⟨bm,z⟩:=k.k b X G;exact#[C,N,bm,z,n.ok,n.no]
def AllP(p:C_->Prop):List C_->Prop
 |[]=>True
 |a::l=>p a/\AllP p l
def AllP.mem{p:C_->Prop}:∀{l:List C_},AllP p l->∀x∈l,p x
 |_::_,h,_,.head _=>h.1
 |_::_,h,_,.tail _ m=>AllP.mem h.2 _ m
def AF{es:List C_}(c:AllP (λx=>∃C N bm,ErrK K mg x C N bm) es)(s:AllP (λx=>AllP (λy=>EmIn K x y) es) es):ErrsK K mg es:=by
 refine#[c.mem,λx hx y hy C C' h1 h2=>?_];obtain⟨A,B,a,b,m⟩:=(s.mem x hx).mem y hy;cases NsC.uniq a h1;cases NsC.uniq b h2;exact m
end
structure Bx where
 P:Sd
 w:Sj
 K:Ex
 mg:C_->Option KB
 base:Sl
abbrev Bx.T(V:Bx)(x:C_)(st:Se)(ps:List C_):Prop:=Tx V.K V.mg x st ps
abbrev Bx.Tm(V:Bx)(x m q:C_)(st:Se)(ps:List C_):Prop:=Txm V.K x m q st ps
abbrev Bx.Ti(V:Bx)(x q:C_)(st:Se)(ps:List C_):Prop:=Txi V.K V.mg x q st ps
abbrev Bx.Ek(V:Bx)(es:List C_):Prop:=ErrsK V.K V.mg es
abbrev Bx.m(V:Bx)(x:C_):Prop:=V.mg x=q8
abbrev Bx.gi(V:Bx)(x:C_)(i:Int):Prop:=∃t,V.mg x=be (.int i t)
abbrev Bx.gs(V:Bx)(x y:C_):Prop:=∃t,V.mg x=be (.str y t)
abbrev Bx.a(V:Bx)(x f:C_):Prop:=ClsA V.K x f
abbrev Bx.D(V:Bx)(n:Nat)(x:C_)(ps:List C_)(S:SpD):Prop:=CalD V.P V.w V.K V.mg V.base n x ps S
abbrev Bx.X(V:Bx)(n:Nat)(x:C_)(ps:List C_)(S:SpX):Prop:=CalX V.P V.w V.K V.mg V.base n x ps S
abbrev Bx.MM(V:Bx)(n:Nat)(x:C_)(ps:List C_)(S:SpM):Prop:=CalMM V.P V.w V.K V.mg V.base n x ps S
abbrev Bx.M(V:Bx)(n:Nat)(x:C_)(ps:List C_)(S:SiD):Prop:=CalM V.P V.w V.K V.mg V.base n x ps S
abbrev Bx.Q(V:Bx)(n:Nat)(x m:C_)(ps:List C_)(S:SpM):Prop:=CalMth V.P V.w V.K V.mg V.base n x m ps (lSpM V.K S)
abbrev Bx.n(V:Bx)(x:C_):Prop:=∃C N bm,ErrK V.K V.mg x C N bm/\ErrN V.K N
section
variable {P:Sd}{w:Sj}{K:Ex}{mg:C_->Option KB}{base:Sl}
variable{N ps:List C_}
def Txi.okI{x qual:C_}{st:Se}{p0:C_}{k:Nat}{S:SiD}(T:Txi K mg x qual st (p0::ps))(F:FnScope (p0::N) (p0::ps) (ah st))(len:∀ds R,S ds R->ds.length=ps.length)
  (a_:∀(f:KF) (cdv:KB) (A:Sk) (outer:List S1) (s:KM) (H:Hp) (E:XK) (J:Jx),Room k (A.deeper (Su qual (ah st) s.heap.objs.size f cdv))->
   ∃t,WDI (cxOf (Exc.CX1 P w) P w K mg base (p0::N) qual (ah st) f cdv A outer s H E).nox x (aJ st) t/\∀ds R,S ds R->t (q8::startD N ds) [] R):CalM P w K mg base (k+1) x (p0::ps) S:=by
 obtain⟨C,f,fd,a,b,c,d,e⟩:=T;exact Cls.okIW d e F len a b c (a_ f)
def Txi.okIM{x qual:C_}{st:Se}{p0:C_}{k:Nat}{S:SiD}(T:Txi K mg x qual st (p0::ps))(F:FnScope N (p0::ps) (ah st))(len:∀ds R,S ds R->ds.length=ps.length)
  (a_:∀(f:KF) (cdv:KB) (A:Sk) (outer:List S1) (s:KM) (H:Hp) (E:XK) (J:Jm),Room k (A.deeper (Su qual (ah st) s.heap.objs.size f cdv))->XOkM (cxOf (Exc.CX1 P w) P w K mg base N qual (ah st) f cdv A outer s H E).nox->
   ∃t,MSs (cxOf (Exc.CX1 P w) P w K mg base N qual (ah st) f cdv A outer s H E).nox (aJ st) t/\∀a ds R,(∀z M x fs,¬J.RM z M x fs)->S ds R->t {nx:=λ_ M'=>∃fs,M'=[(a,.ins x fs)]/\R fs,rt:=λ_ _=>False} (startD N (.ptr a::ds)) [(a,.ins x [])]):CalM P w K mg base (k+1) x (p0::ps) S:=by
 obtain⟨C,f,fd,a,b,c,d,e⟩:=T;exact Cls.okIM d e F len a b c (a_ f)
end
section
variable {X:Cx}[J:Jx]{a b c e o f9 iter:P3}{es:List P3}{ta tb tc te to ti tj:TD}{tt:TDT}{t:TDA}{pos px:Sr}{x:C_}{scope:SK}
def tJ(ix:Nat)(u9:TDI)(te:TD):TSD:=λE z=>u9 z (cmpP te z λd=>match d with|.lst ys=>E.nx (z.set ix (be (.own ys)))|_=>False)
def AG{K:Ex}{E:Ends}{s:L2.St}{H:Hp}{ix:Nat}{wi:TI}{u9:TDI}(hI:ItOk K wi u9)(q:lS K (tJ ix u9 te) E s H):tAsg (fT wi (lT K dT1) (lE K te)) (fC ix) E s H:=by
 obtain⟨B,F0,F,z,k,rs,ED,h,e⟩:=q;refine hI k.kf rs h λitems J F1 H1 g1 hg it=>km (Q:=λv H=>E.nx (s.set ix (be v)) H) k.kf g1 rs (λD ys us F' H' hH hF GG hu ry hR=>?_) it (cmpP.g hg);have r2:=(rs.grow GG).setOwn (i:=ix) (a:=D) (k.bh.free hH) hF ry λj dj _ q1 q2=>by
  obtain⟨a,vs,p1,p2,_⟩:=rs.own j dj q1;rw[p1]at q2;cases q2;rw[hH]at p2;cases p2
 rw[zq hu]at r2;exact e.nx _ _ F' H' (k.grow GG) hR r2
def AH(ix:Nat){y:C_}{py l7:Sr}(hc:X.calm=true)(S:CompScope X scope x)(hN:X.N.Nodup)(hi:WDE X iter ti)(he:∀cl s₀ H₀ fp,WDE (bT X scope cl x s₀ H₀ fp) f9 te)(Ly:autoParam (X.N[ix]?=be y) zA0)(hy:autoParam (Loc X.env.scope y) zA4)
  (hf:autoParam (zFN X y) zA3) (I_:autoParam (SA (.ListComp f9 [#[.Name x px,iter,[],0]] scope pos) (be (.Name y py)) l7.line X.env=pure true) zA0) (hs:autoParam (∀y,zFS X iter y) zA2):
  WDS X (.Assign [.Name y py] (.ListComp f9 [#[.Name x px,iter,[],0]] scope pos) l7) (tJ ix (dItS ti) te):=#[(sA hc S (sK hi.out) (λ_ _ _ _=>gP) (λa b c d=>(he a b c d).out) hN Ly hy hf I_ hs).anti λE s H q=>AG itS q]
def Gd:RDn:=λds R=>match ds with|[.lst xs]=>∃ns:List Int,xs=ns.map D.int/\0<ns.length/\∀m,m∈ns->(∀a∈ns,m<=a)->R (.int m)|_=>False
def rSCount:RTx:=λy ds R=>match ds with|[.str p]=>R (.int (Builtin.Str.occurrences y p 0 y.length (y.length+1)).length)|_=>False
def AI:MtS X "str.count" rSCount:=by
 refine#[λx vs H Q=>∃y p,x=.str y/\vs=[.str p]/\Q (.int (Builtin.Str.occurrences y p 0 y.length (y.length+1)).length) H,?_,?_]
 .intro pins s σ H x vs v us Q I rx rv h;obtain⟨y,p,rfl,rfl,q⟩:=h;obtain⟨t,rfl⟩:=rx;obtain⟨u,rfl,t',rfl⟩:=bY rv;exact SC.count #[.int _,H,I.tok _,#[_,rfl],q]
 .intro y ds vs F H R Q r h q;unfold rSCount at h;split at h
  .obtain⟨v,vr,rfl,h1,h2⟩:=reps_cons.mp r;rw[reps_nil.mp h2,rep_str.mp h1];exact#[_,_,rfl,rfl,q _ _ (λ_=>rep_int.mpr rfl) h]
  .exact h.elim
def tK{b_ a8:Sr}(ho:WDE X o to)(ha:WDA X [e] t)(b9:autoParam (Sn o "count" X.env (So o X.env)=So o X.env) zA0)
  (d7:autoParam (zHF X a8 [e]) zA0)
  (c7:autoParam ((b_.endLine==a8.line)=true) zA0) (hs:autoParam (zSE X e []) zA0):WDE X (.Call (.Attribute o "count" b_) [e] [] a8) (dTx rSCount to t):=#[kC PySem.F.slot_str_count PySem.F.type_str_count AI ho.out ha.out b9 d7 c7 hs]
def AJ(is:List Nat)(ti:TDI)(tb:TSD):TSD:=λE z=>ti z λds=>∃W:Nat->SD->Prop,W 0 z/\(∀(k:Nat) x z,ds[k]?=be x->W k z->tb {E with nx:=W (k+1),ct:=W (k+1),bk:=E.nx} (aT is [.int k,x] z))/\∀z,W ds.length z->E.nx z
variable{is:List Nat}
def AK{K:Ex}{B F0 F1 H1:Hp}{z:SD}{s:L2.St}{E:Ends}{ED:EndsD}{It':It}{g:TG}{tb:TSD}{LG:TS}{ds:List D}(k1:Kept B F0 F1 H1)(Kz:RepS K B F1 H1 z s)(e:EndsOk K B F0 ED E)
  (go:∀k F' H',Same F1 F'->Same F' H'->k<ds.length->It'.go k H') (stop:∀F' H',Same F1 F'->Same F' H'->It'.stop ds.length H')
  (yld:∀k F' H' x H'',Same F1 F'->Same F' H'->k<ds.length->It'.yld k H' x H''->∃T d v,H' T=q8/\x=.ref T/\H''=upd H' T (.tup [.int k,v])/\ds[k]?=be d/\Rep K F' d v)
  (hg:∀(dd:List D) (vs:List V) (T:KF) (z:SD) (s:L2.St) (F H:Hp) (Q:L2.St->Hp->Prop),dd.length=2->H T=be (.tup vs)->Reps K F dd vs->RepS K B F H z s->(∀s',RepS K B F H (aT is dd z) s'->Q s' H)->g (.ref T) s H Q)
  (NE:∀E s H,lS K tb E s H->LG E s H)
  (hd:∃W:Nat->SD->Prop,W 0 z/\(∀(k:Nat) x z,ds[k]?=be x->W k z->tb {ED with nx:=W (k+1),ct:=W (k+1),bk:=ED.nx} (aT is [.int k,x] z))/\∀z,W ds.length z->ED.nx z):
  ∃W:Nat->Nat->L2.St->Hp->Prop,(∃m,W 0 m s H1)/\∀i m σ H,W i m σ H->
   (It'.stop i H/\E.nx σ H)\/(It'.go i H/\∃N:L2.St->Hp->Prop,(∀σ' H',N σ' H'->∃m',m'<m/\W (i+1) m' σ' H')/\∀x H',It'.yld i H x H'->g x σ H' λσ2 H2=>LG {E with nx:=N,ct:=N,bk:=E.nx} σ2 H2):=by
 obtain⟨W,w0,c9,out⟩:=hd;refine#[λk m s' H'=>m=ds.length-k/\k<=ds.length/\∃F' z',Kept B F0 F' H'/\Same F1 F'/\RepS K B F' H' z' s'/\W k z',#[ds.length,Kv,GI _,F1,z,k1,Same.refl F1,Kz,w0],?_];rintro k m s' H'⟨rfl,hk,F',z',k',g',r',w'⟩;by_cases f6:k<ds.length
 .refine .inr #[go k F' H' g' k'.fh f6,λs3 H3=>∃F3 z3,Kept B F0 F3 H3/\Same F1 F3/\RepS K B F3 H3 z3 s3/\W (k+1) z3,λs3 H3 h3=>#[ds.length-(k+1),Kn,rfl,f6,h3],λx H'' hy=>?_];obtain⟨T,d,v,hT,rfl,rfl,hd,rd⟩:=yld k F' H' x H'' g' k'.fh f6 hy;have gn:=Grow.new k'.fh hT (.tup [.int k,v]);have k2:=k'.grow gn;have rp:Reps K (upd F' T (.tup [.int k,v])) [.int k,d] [.int k,v]:=reps_cons.mpr #[_,_,rfl,rep_int.mpr rfl,eJ (rd.mono gn.ff)];refine hg [.int k,d] _ T z' s' _ _ _ rfl aB rp (r'.grow gn) λs2 KS=>NE _ _ _ ?_;have gF:Same F1 (upd F' T (.tup [.int k,v])):=g'.trans gn.ff;refine#[B,upd F' T (.tup [.int k,v]),upd F' T (.tup [.int k,v]),_,#[k2.bh,k2.fh,Same.refl _,λb h1 _=>h1,k2.eb,k2.jf.trans k2.f0,λb h1 h2=>k2.out b (k2.jo b h1 h2) h2],KS,_,c9 k d z' hd w',?_];have up:∀{F3 H3:Hp},Kept B (upd F' T (.tup [.int k,v])) F3 H3->Kept B F0 F3 H3:=λk3=>#[k3.bh,k3.fh,k2.f0.trans k3.f0,λb h1 h2=>k3.out b (k2.out b h1 h2) h2,k2.eb,k2.jf,k2.jo];exact#[λz3 s3 F3 H3 k3 h3 r3=>#[F3,z3,up k3,gF.trans k3.f0,r3,h3],λd v F3 H3 k3=>e.rt d v F3 H3 (up k3),λz3 s3 F3 H3 k3=>e.nx z3 s3 F3 H3 (up k3),λz3 s3 F3 H3 k3 h3 r3=>#[F3,z3,up k3,gF.trans k3.f0,r3,h3]]
 .have ek:k=ds.length:=by lia
  subst ek;exact .inl #[stop F' H' g' k'.fh,e.nx z' s' F' H' k' (out z' w') r']
def AL{es:List P3}{x1:Nat}{tp p1 p2:Sr}{body:List Se}{tb:TSD}(hp:SB (Sf X.prog X.w) X.A X.env X.xe)(hc:X.calm=true)(hm:X.mg "enumerate"=q8)(he:WDE X e te)(hG:DGs X es is)(hb:WDSs X body tb)(c5:autoParam (is.length=2) zA0)(hg:autoParam (Gl X "enumerate") zA0)
  (hn:autoParam ((Sm es X.env).length=2) zA0) (l5:autoParam ((Sm es X.env).findIdx? (·.1)=none) zA0)
  (hs:autoParam (∀y,zFS X (.Call (.Name "enumerate" p1) [e] [] p2) y) zA2) (m7:autoParam (zSE X e []) zA0) (f7:autoParam (Si [e] X.env=[(false,So e X.env)]) zA0):
  WDS X (.For (.Tuple es x1 tp) (.Call (.Name "enumerate" p1) [e] [] p2) body [] pos) (AJ is (dItS te) tb):=by
 obtain⟨ug,LH,kk⟩:=hG;refine#[(cF hp hc (tz hg hm (bf he.out pa_nil m7) f7) (gz hc LH hn l5) hb.out hs).anti λE s H q=>?_];obtain⟨B,F0,F,z,kp,rs,ED,h,e⟩:=q;refine#[B,F,z,kp.kf,rs,_,h,λd v F1 H1 g1 hd rd=>?_];split at hd
 .rename_i x;obtain⟨ha,hd⟩:=hd;have hl:=eU x;refine#[x,by rw[rep_str.mp rd],ha,AK (It':=Ites x) (kp.grow g1) (rs.grow g1) e (λk F' H' s1 s2 hk=>?_) (λF' H' s1 s2=>?_) (λk F' H' x H'' s1 s2 hk hy=>?_) (λdd n4 T z s F H Q hl hT rp v7 hQ=>?_) (λ_ _ _ h=>h) hd]
  .rw[hl]at hk;exact hk
  .exact hl
  .obtain⟨T,c,hT,e1,e2,hc⟩:=hy;exact#[T,.str #[[c].toArray],.str #[[c].toArray],hT,e1,e2,gU hc,rep_str.mpr rfl]
  .exact#[T,n4,rfl,SqT.of hT,by rw[rp.length];exact hl,kk dd n4 z s B F H Q (by rw[hl,c5]) rp v7 hQ]
 .exact hd.elim
def AM(K:Ex):R2:=λx y H Q=>∃p xs i z,x=.ref p/\y=.int i/\0<=i/\SqL K H p xs/\xs[i.toNat]?=be z/\Q z H
def AN:PGet X (AM X.K):=by
 intro pins s σ H x y v u Q I rx ry h;obtain⟨p,xs,i,z,rfl,rfl,h0,hq,he,q⟩:=h;cases rx;obtain⟨t,rfl⟩:=ry;obtain⟨its,r,pl,hz⟩:=I.list hq;obtain⟨w,ew,g8⟩:=r.get he;have hl:=r.length;have hn:=line63;have hi:=(Gq.mp he).1;exact wpAny_getItem_list pl.isList h0 Kn (by simpa using ew) #[z,H,I,g8,q]
def tL(i:Nat)(ti te:TD):TSD:=λE z=>match z[i]? with
 |some (be (.own ds))=>ti z λy=>(match y with|.int k=>∃n,0<=k/\ds[k.toNat]?=be (.int n)/\te z λd=>(match d with|.int m=>E.nx (z.set i (be (.own (ds.set k.toNat (.int (n+m))))))|_=>False)|_=>False)
 |_=>False
def AO(i:Nat){x:C_}{p1 p2:Sr}(hb:WDE X b tb)(he:WDE X e te)(hN:autoParam (X.N[i]?=be x) zA0)(hv:autoParam (Vis X.env.scope x) zA5)(hd:autoParam (zND x) zA1)
  (gV:autoParam (zNC x) zA1)
  (ha:autoParam (∀ov iv new,augStore b ov iv new=(do SG [new,ov,iv] (Tw ov iv new);TY [new,ov,iv] [];pure .next)) zA7):
  WDS X (.AugAssign (.Subscript (.Name x p1) b p2) .Add e pos) (tL i tb te):=⟨(wt (dB hN hv hd gV) hb.out AN he.out wu jN ha).anti λE s H q=>by
 obtain⟨B,F0,F,z,k,rs,ED,h,e⟩:=q;unfold tL at h;split at h
 .rename_i ds ez;obtain⟨a,vs,q1,q2,q3,q4,q5⟩:=rs.own i ds ez;refine#[.ref a,q1,B,F,z,k.kf,rs,_,h,λy w F2 H2 g2 hy ry=>?_];split at hy
  .rename_i k';obtain⟨n,k0,en,hn⟩:=hy;have JP:F2 a=none:=g2.out a q4 (by rw[q2];exact λz=>nomatch z);obtain⟨v,ev,rv⟩:=q5.get en;refine#[a,vs,_,v,rfl,rep_int.mp ry,k0,SqL.of (g2.hh _ _ q2),ev,B,F2,z,k.kf.grow g2,rs.grow g2,_,hn,λd u F3 H3 g3 hd rd=>?_];split at hd
   .have r2:=(rs.grow g2).grow g3;have k2:=(k.grow g2).grow g3;have Mu:F3 a=none:=g3.out a JP (by rw[g2.hh _ _ q2];exact λz=>nomatch z);rw[rep_int.mp rv,rep_int.mp rd];have f6:=(Gq.mp en).1;refine#[_,_,rfl,rfl,a,vs,_,k'.toNat,rfl,rep_int.mp ry,g3.hh _ _ (g2.hh _ _ q2),by unfold ixN;rw[q5.length,if_pos k0,if_pos Kn],?_];obtain⟨k3,r3⟩:=r2.change k2 ez q1 q3 Mu (Reps.put (d:=.int _) (v:=.int _) (rep_int.mpr rfl) k'.toNat ((q5.mono g2.ff).mono g3.ff));exact e.nx _ s F3 _ k3 hd r3
   .exact hd.elim
  .exact hy.elim
 .exact h.elim⟩
end
section
variable {X:Cx}[J:Jx]{a b c e o:P3}{es:List P3}{ta tb tc te to:TD}{t:TDA}{pos:Sr}
def rLIx(K:Ex):V->List V->Hp->VK->Prop:=λx vs H Q=>∃l xs y,x=.ref l/\vs=[y]/\SqL K H l xs/\bB y=true/\xs.all bB=true/\xs.findIdx (λw=>eqV w y)<xs.length/\Q (.int (xs.findIdx (λw=>eqV w y):Nat)) H
def AQ{x:V}{xs:List V}{us:List KB}(h:Vals xs us)(f:xs.all bB=true):us.findIdx (eqU x)=xs.findIdx λy=>eqV y x:=by
 induction h with
 |nil=>rfl
 |cons r _ ih=>
  rw[G3,GF]at f;rw[HX,HX,gH r f.1,ih f.2]
def AR:MtR X "list.index" (rLIx X.K):=by
 intro pins s σ H x vs v us Q I rx rv h;obtain⟨l,xs,y,rfl,rfl,hq,fy,fs,hj,q⟩:=h;cases rx;obtain⟨u,rfl,ry⟩:=Vals.one rv;obtain⟨its,r,pl,hz⟩:=I.list hq;obtain⟨⟨cls,dd,data,sl⟩,ho,hc,n,hd⟩:=pl.isList;simp only at hc hd;subst hc hd;have e:=AQ (x:=y) r fs;have hl:=r.length;rw[<-e]at hj q;have JT:its.findIdx (eqU y)<its.length:=Kn
 have RU:sizeLine<2^63-1:=Ku
 refine Th PySem.F.slot_list_index #[_,ho,rfl] PySem.F.entry_list_index (PySem.F.args_list_index_2 _ _)
  (SeqAt.list_indexAt l its.toArray n dd sl u (eqU y) (its.findIdx (eqU y)) (by simpa using JT) Kn ?_ ?_) #[ho,λw hw=>mem_eqAt ry fy r fs w (by simpa using hw),#[.int _,H,I.tok _,#[_,rfl],q]]
 .simpa using List.findIdx_getElem (w:=JT)
 .intro m hm f6;simpa using List.not_of_lt_findIdx f6
def dLIx(to te:TD):TD:=λz R=>to z λx=>match x with|.lst ys=>te z λy=>(bo y=true/\ys.all bo=true)/\ys.findIdx (λw=>eqF w y)<ys.length/\R (.int (ys.findIdx (λw=>eqF w y):Nat))|_=>False
def AS{K:Ex}{H:Hp}{x:D}{u:V}(rx:Rep K H x u)(fx:bo x=true){ys:List D}:∀{vs:List V},Reps K H ys vs->ys.all bo=true->vs.findIdx (λw=>eqV w u)=ys.findIdx λy=>eqF y x:=by
 induction ys with
 |nil=>intro vs r _;rw[reps_nil.mp r];rfl
 |cons y ys ih=>
  intro vs r f;obtain⟨v,vr,rfl,r1,r2⟩:=reps_cons.mp r;rw[G3,GF]at f;rw[HX,HX,ih r2 f.2,ke r1 rx f.1 fx]
def AT{b_ a8:Sr}(ho:WDE X o to)(he:WDE X e te)(b9:autoParam (Sn o "index" X.env (So o X.env)=So o X.env) zA0)
  (d7:autoParam (zHF X a8 [e]) zA0)
  (c7:autoParam ((b_.endLine==a8.line)=true) zA0) (hs:autoParam (zSE X e []) zA0):WDE X (.Call (.Attribute o "index" b_) [e] [] a8) (dLIx to te):=⟨(cO PySem.F.plainAttrs_list PySem.F.slot_list_index PySem.F.type_list_index AR ho.out (bf he.out pa_nil hs) b9 d7 c7 hs).anti λs H Q q=>by
 obtain⟨B,F,z,kf,rs,R,h1,h2⟩:=q;refine#[B,F,z,kf,rs,_,h1,λx u F1 H1 g1 hx rx=>?_];split at hx
 .obtain⟨l,vs,rfl,hq,rr⟩:=rep_lst.mp rx;refine#[.inl #[rfl,vs,g1.fh.seq (SqL.of hq)],B,F1,z,kf.grow g1,rs.grow g1,_,hx,λd v F2 H2 g2 hd rd=>?_];obtain⟨⟨f1,f2⟩,hj,hR⟩:=hd;have KW:=rr.mono g2.ff;have e:=AS rd f1 KW f2;have hl:=KW.length;refine#[l,vs,v,rfl,rfl,g2.fh.seq (g2.ff.seq (SqL.of hq)),eE rd f1,eF KW f2,by rw[e];lia,?_];rw[e];exact h2 _ _ F2 H2 (g1.trans g2) hR (rep_int.mpr rfl)
 .exact hx.elim⟩
end
mutual
def noL:D->Bool
 |.non=>true|.bl _=>true|.int _=>true|.str _=>true|.ptr _=>true|.dti _=>true
 |.tup ds=>noLs ds
 |.obj _ fs=>noLF fs
 |_=>false
def noLs:List D->Bool
 |[]=>true
 |d::ds=>noL d&&noLs ds
def noLF:List (C_×D)->Bool
 |[]=>true
 |(_,d)::ds=>noL d&&noLF ds
end
def nlF(F:Hp):Hp:=λb=>match F b with|some (.lst _)=>q8|o=>o
def kP{F:Hp}{b:KF}{o:HO}(e:F b=be o)(h:∀vs,o≠.lst vs):nlF F b=be o:=by
 unfold nlF;rw[e];cases o with
 |lst vs=>exact absurd rfl (h vs)
 |_=>rfl
mutual
def Rep.nl{K:Ex}{F:Hp}:∀(d:D) (v:V),noL d=true->Rep K F d v->Rep K (nlF F) d v
 |.non,v,_,h=>by unfold Rep at h ⊢;exact h
 |.bl b,v,_,h=>by unfold Rep at h ⊢;exact h
 |.int b,v,_,h=>by unfold Rep at h ⊢;exact h
 |.str b,v,_,h=>by unfold Rep at h ⊢;exact h
 |.ptr b,v,_,h=>by unfold Rep at h ⊢;exact h
 |.dti a9,v,_,h=>by
  unfold Rep at h ⊢;obtain⟨a,e,q⟩:=h;exact#[a,e,kP q λ_ z=>nomatch z]
 |.tup ds,v,n,h=>by
  unfold Rep at h ⊢;obtain⟨a,vs,e,q,r⟩:=h;exact#[a,vs,e,kP q (λ_ z=>nomatch z),Reps.nl ds vs (by unfold noL at n;exact n) r]
 |.obj x fs,v,n,h=>by
  unfold Rep at h ⊢;obtain⟨a,C,dx,vs,e,n1,q,r⟩:=h;exact#[a,C,dx,vs,e,n1,kP q (λ_ z=>nomatch z),RepF.nl fs vs (by unfold noL at n;exact n) r]
 |.lst _,_,n,_=>by unfold noL at n;cases n
 |.rol _,_,n,_=>by unfold noL at n;cases n
 |.exc _ _,_,n,_=>by unfold noL at n;cases n
 |.own _,_,n,_=>by unfold noL at n;cases n
def RepF.nl{K:Ex}{F:Hp}:∀(ds:List (C_×D)) (vs:List (C_×V)),noLF ds=true->RepF K F ds vs->RepF K (nlF F) ds vs
 |[],vs,_,h=>by unfold RepF at h ⊢;exact h
 |(f,d)::ds,vs,n,h=>by
  unfold noLF at n;rw[GF]at n;unfold RepF at h ⊢;obtain⟨v,r,e,q1,q2⟩:=h;exact#[v,r,e,Rep.nl d v n.1 q1,RepF.nl ds r n.2 q2]
def Reps.nl{K:Ex}{F:Hp}:∀(ds:List D) (vs:List V),noLs ds=true->Reps K F ds vs->Reps K (nlF F) ds vs
 |[],vs,_,h=>by unfold Reps at h ⊢;exact h
 |d::ds,vs,n,h=>by
  unfold noLs at n;rw[GF]at n;unfold Reps at h ⊢;obtain⟨v,r,e,q1,q2⟩:=h;exact#[v,r,e,Rep.nl d v n.1 q1,Reps.nl ds r n.2 q2]
end
end My
end
section
namespace My
open PySem PySem.Spec PyProof.Rows L2
variable{w:Int}
def b64B(h:0<w)(h':w<=33554432):-(2^64)<w/\w<2^64:=Kn
variable{s:Int}
def s64B(h:0<=s)(h':s<w)(RV:w<=33554432):-(2^64)<s/\s<2^64:=Kn
def d30B(h:0<w)(h':w<=33554432):0<w/\w<1073741824:=Kn
variable{x y:Int}
def ab24(h:x.natAbs<=12)(h':y.natAbs<=12):(x+y).natAbs<=24:=Go (Iu x y) (HY h h')
def sq0(a:Int):0<=a*a:=(Int.le_total 0 a).elim (λq=>Iv q q) (λq=>Int.mul_nonneg_of_nonpos_of_nonpos q q)
def u64(h:w=1\/w=-1\/w=0):-(2^64)<w/\w<2^64:=Kn
def n64{k:Nat}(h:w.natAbs<=k)(hk:autoParam (k<=1073741823) zA1):-(2^64)<w/\w<2^64:=Kn
variable{a b:Int}
def i64(h:a<=w)(h':w<=b)(ha:autoParam ( -1000000000001<=a) zA1)(hb:autoParam (b<=1000000000001) zA1):-(2^64)<w/\w<2^64:=Kn
def AU{X Y Z A B r:Nat}(h1:X<=Y)(h2:X=Z+2*B)(h3:1*A<=Z)(h5:Y<=A+r)(h6:r<B):False:=Lg
def fdm(a b:Int)(hb:b≠0):(a-a.fdiv b*b).natAbs<b.natAbs/\(a.fdiv b).natAbs<=a.natAbs+1:=by
 have e:=Int.fmod_def a b;have e2:a-a.fdiv b*b=a.fmod b:=by rw[e,GL]
 rw[e2];have r:(a.fmod b).natAbs<b.natAbs:=by
  rcases(Kn:0<b\/b<0)with h|h
  .have h1:=Jg a h;have h2:=Jh a h;lia
  .have h1:=Jg (-a) (show 0< -b by lia);have h2:=Jh (-a) (show 0< -b by lia);rw[Int.neg_fmod_neg]at h1 h2;lia
 refine#[r,?_];have e3:(b*a.fdiv b).natAbs=b.natAbs*(a.fdiv b).natAbs:=G1 _ _;have e4:=Int.mul_fdiv_self a b;rcases Hr (a.natAbs+1) (a.fdiv b).natAbs with c|c
 .have h1:b.natAbs*(a.natAbs+2)<=b.natAbs*(a.fdiv b).natAbs:=Nat.mul_le_mul_left _ c;have h2:b.natAbs*(a.natAbs+2)=b.natAbs*a.natAbs+2*b.natAbs:=by rw[Nat.mul_add,Nat.mul_comm _ 2]
  have h3:1*a.natAbs<=b.natAbs*a.natAbs:=Nat.mul_le_mul_right _ Kn;have h5:(b*a.fdiv b).natAbs<=a.natAbs+(a.fmod b).natAbs:=by rw[e4];exact Ji a _
  rw[e3]at h5;exact(AU h1 h2 h3 h5 r).elim
 .exact c
def Uni(a b c d p0 p1 q0 q1:Int):Prop:=∃m n k l:Int,(m*l-n*k=1\/m*l-n*k=-1)/\p0=m*a+n*c/\p1=m*b+n*d/\q0=k*a+l*c/\q1=k*b+l*d
def Uni.refl(a b c d:Int):Uni a b c d a b c d:=#[1,0,0,1,.inl Ku,Kn,Kn,Kn,Kn]
variable{c d p0 p1 q0 q1:Int}
def Uni.step(t:Int)(h:Uni a b c d p0 p1 q0 q1):Uni a b c d q0 q1 (p0-t*q0) (p1-t*q1):=by
 obtain⟨m,n,k,l,hd,rfl,rfl,rfl,rfl⟩:=h;refine#[k,l,m-t*k,n-t*l,?_,rfl,rfl,Ln,Ln];rcases hd with h|h
 .right;grind
 .left;grind
def Uni.neg(h:Uni a b c d p0 p1 q0 q1):Uni a b c d (-p0) (-p1) q0 q1:=by
 obtain⟨m,n,k,l,hd,rfl,rfl,rfl,rfl⟩:=h;refine#[-m,-n,k,l,?_,Ln,Ln,rfl,rfl];rcases hd with h|h
 .right;grind
 .left;grind
def Uni.inv(h:Uni a b c d p0 p1 q0 q1):Uni p0 p1 q0 q1 a b c d:=by
 obtain⟨m,n,k,l,hd,rfl,rfl,rfl,rfl⟩:=h;rcases hd with h|h
 .exact#[l,-n,-k,m,.inl Ln,Ln,Ln,Ln,Ln]
 .exact#[-l,n,k,-m,.inr Ln,Ln,Ln,Ln,Ln]
def Uni.det(h:Uni a b c d p0 p1 q0 q1):p0*q1-p1*q0=a*d-b*c\/p0*q1-p1*q0=-(a*d-b*c):=by
 obtain⟨m,n,k,l,hd,rfl,rfl,rfl,rfl⟩:=h;rcases hd with h|h
 .left;grind
 .right;grind
def Lev(a b c d p0 p1 q0:Int):Prop:=0<=p1/\Uni a b c d p0 p1 q0 0
def FamOf(a b c d w h s:Int):Prop:=0<w/\0<h/\0<=s/\s<w/\Uni a b c d w 0 s h
def AV(x:Int):(if x<0 then -x else x)=x\/(if x<0 then -x else x)=-x:=by
 split<;>simp
def AW(h:x≠0):0<(if x<0 then -x else x):=by split<;>lia
def fY(hn:¬a*d=b*c)(h:Lev a b c d p0 p1 q0):FamOf a b c d (if q0<0 then -q0 else q0) p1 (p0%(if q0<0 then -q0 else q0)):=by
 obtain⟨hp,hu⟩:=h;have dt:=hu.det;have QV:q0≠0:=by
  rintro rfl;simp at dt;lia
 have RW:p1≠0:=by
  rintro rfl;simp at dt;lia
 have hw:=AW QV;have hs:=AV q0;generalize (if q0<0 then -q0 else q0)=w at hw hs;refine#[hw,Kn,Hc _ Kn,Hd _ hw,?_];have em:=Hf p0 w;generalize p0%w=s at em;generalize p0/w=t at em;obtain⟨m,n,k,l,hd,e1,e2,e3,e4⟩:=hu;rcases hs with e|e
 .refine#[k,l,m-t*k,n-t*l,?_,Ln,Ln,Ln,Ln];rcases hd with h|h
  .right;grind
  .left;grind
 .refine#[-k,-l,m+t*k,n+t*l,?_,Ln,Ln,Ln,Ln];rcases hd with h|h
  .left;grind
  .right;grind
variable{h i j:Int}
def in_fam(hh:0<h)(ex:x=i*w+j*s)(ey:y=j*h):y%h=0/\(x-y/h*s)%w=0:=by
 subst ex ey;rw[GQ _ Kn];refine#[Jj _ _,?_];have e:i*w+j*s-j*s=i*w:=Kn
 rw[e];exact Jj _ _
variable{u v:Int}
def tM(eu:u=i*a+j*c)(ev:v=i*b+j*d):(u*d-v*c).fmod (a*d-b*c)=0/\(a*v-b*u).fmod (a*d-b*c)=0:=by
 subst eu ev;refine#[Iw #[i,Ln],Iw #[j,Ln]]
def FamOf.cells(f:FamOf a b c d w h s):w*h=a*d-b*c\/w*h=-(a*d-b*c):=by
 have:=f.2.2.2.2.det;simpa using this
def bN{A B:Nat}(h1:a.natAbs<=A)(h2:d.natAbs<=B):(a*d).natAbs<=A*B:=by
 rw[G1];exact Hv h1 h2
variable{g:Int}
def AX{gap:Int}{N:Nat}(hg:0<g)(c0:0<=c)(cg:c<=g)(h:gap.natAbs<=N):(c*gap/g).natAbs<=N:=by
 have h1:(c*gap).natAbs<=g.natAbs*N:=by rw[G1];exact Hv Lg h
 have e:((g.natAbs*N:Nat):Int)=N*g:=by rw[Int.natCast_mul,Int.natAbs_of_nonneg Lg,GL]
 have l1:=Int.le_ediv_of_mul_le (a:=-(N:Int)) (b:=c*gap) hg (by rw[Ix];omega);have l2:=Int.ediv_le_of_le_mul (a:=c*gap) (b:=(N:Int)) hg Lg;omega
def cX(hw:0<w)(hh:0<h):w<=w*h/\h<=w*h:=by
 have h1:=Jk (show 1<=h by lia) (show 0<=w by lia);have h2:=GN (show 1<=w by lia) (show 0<=h by lia);lia
def FamOf.bd(f:FamOf a b c d w h s){N:Nat}(hN:(a*d-b*c).natAbs<=N):w<=N/\h<=N/\s<N:=by
 obtain⟨h1,h2⟩:=cX f.1 f.2.1;have h3:w*h<=N:=by
  rcases f.cells with e|e<;>rw[e]
  .exact GX Jl (Jn.mpr hN)
  .exact GX Jl (Jn.mpr (by rw[Iy];exact hN))
 exact#[GX h1 h3,GX h2 h3,Int.lt_of_lt_of_le f.2.2.2.1 (GX h1 h3)]
def Meas(x y g u:Int):Prop:=0<=g/\(∃i,x=i*g)/\(∃j,y=j*g)/\∃n,g=u*x+n*y
variable{q:Int}
def tN(h:0<=g/\∃m n k l:Int,(m*l-n*k=1\/m*l-n*k=-1)/\u=m*1+n*0/\g=m*x+n*y/\q=k*1+l*0/\0=k*x+l*y):Meas x y g u:=by
 obtain⟨h0,m,n,k,l,hd,e1,e2,e3,e4⟩:=h;refine#[h0,?_,?_,n,Ln]
 .rcases hd with h|h
  .exact#[l,Ln]
  .exact#[-l,Ln]
 .rcases hd with h|h
  .exact#[-k,Ln]
  .exact#[k,Ln]
def Meas.pos(h:Meas x y g u)(hx:0<x):0<g:=by
 obtain⟨h0,⟨i,hi⟩,_⟩:=h;rcases(Kn:g=0\/0<g)with e|e
 .subst e;simp at hi;lia
 .exact e
def Meas.le(h:Meas x y g u)(hx:0<x):g<=x:=by
 have hg:=h.pos hx;obtain⟨h0,⟨i,hi⟩,_⟩:=h;have RY:0<i:=by
  rcases(Kn:i<=0\/0<i)with e|e
  .have:=Hg e h0;lia
  .exact e
 have:=GN (show 1<=i by lia) h0;lia
structure MetR(w1 h1 s1 w2 h2 s2 w h s A:Int):Prop where
 w0:0<w
 h0:0<h
 s0:0<=s
 sw:s<w
 in1:∃i,w=i*w1
 in2:∃i,w=i*w2
 up1:∃i j,s=i*w1+j*s1/\h=j*h1
 up2:∃i j,s=i*w2+j*s2/\h=j*h2
 A0:0<A
 cells:w*h*A=w1*h1*w2*h2
 d11:A∣w1*h1
 d12:A∣w1*h2
 d21:A∣w2*h1
 d22:A∣w2*h2
 ds:A∣s1*h2-h1*s2
 all:∀x y:Int,(∃i j,x=i*w1+j*s1/\y=j*h1)->(∃i j,x=i*w2+j*s2/\y=j*h2)->∃i j,x=i*w+j*s/\y=j*h
 comb:∀G:Int,G∣w1*h1->G∣w1*h2->G∣w2*h1->G∣w2*h2->G∣s1*h2-h1*s2->G∣A
def dM(h:0<x*y)(hy:0<y):0<x:=by
 rcases(Kn:x<=0\/0<x)with e|e
 .have:=Hg e (show 0<=y by lia);lia
 .exact e
def kQ(ha:0<a)(h:a*b=a*c):b=c:=Iz Kn h
def r1(k j c:Int):k*(j*c)=j*(c*k):=Ln
def r2(j u c n d:Int):j*(u*c+n*d)=u*(j*c)+n*d*j:=Ln
def r3(u j d n j1:Int):u*(j*d)+n*d*j1=d*(u*j+n*j1):=Ln
def r4(j u c n d:Int):j*(u*c+n*d)=u*c*j+n*(j*d):=Ln
def r5(u c j n j1:Int):u*c*j+n*(j1*c)=c*(u*j+n*j1):=Ln
def r6(g e i1 a i2 b d T s1 c s2:Int)(q:i1*(a*(e*g))+d*T*s1=i2*(b*(e*g))+c*T*s2):g*(e*(i1*a-i2*b))=T*(c*s2-d*s1):=Ln
def r7(g T f:Int):g*(T*f)=T*(f*g):=Ln
def r8(T v e q f:Int):T*(v*e+q*f)=v*T*e+q*(T*f):=Ln
def r9(v T e q m:Int):v*T*e+q*(e*m)=e*(v*T+q*m):=Ln
def r10(e r f:Int):e*r*f=e*(r*f):=Ln
def r11(i u a n b:Int):i*(u*a+n*b)=u*(i*a)+n*b*i:=Ln
def r12(u r f i2 b n i1:Int):u*(r*f+i2*b)+n*b*i1=u*(r*f)+b*(u*i2+n*i1):=Ln
def r13(u r f b M a e g d s1 t:Int):(u*(r*f)+b*M)*(a*(e*g))+d*(e*r)*s1=(M+r*t)*(a*b*(e*g))+r*(e*(d*s1)+f*u*(a*(e*g))-a*b*(e*g)*t):=Ln
def r14(d e r c k:Int):d*(e*r)*(c*k)=r*(c*d*k*e):=Ln
variable{k e f gg u' s1 s2:Int}
def AY{n n' t i1 j1 i2 j2:Int}(hk:0<k)(JU:0<gg)(he:0<e)
  (p8:u*a+n*b=1) (n6:u'*c+n'*d=1) (gap:c*s2-d*s1=f*gg) (p9:v*e+q*f=1)
  (hs:s=e*(d*s1)+f*u*(a*(e*gg))-a*b*(e*gg)*t) (x1:x=i1*(a*(e*gg))+j1*s1) (y1:y=j1*(c*k)) (x2:x=i2*(b*(e*gg))+j2*s2) (y2:y=j2*(d*k)):
  ∃i j,x=i*(a*b*(e*gg))+j*s/\y=j*(c*d*k*e):=by
 have h1:j1*c=j2*d:=kQ hk (by rw[r1 k j1 c,r1 k j2 d,<-y1,<-y2]);have Mz:j1=d*(u'*j2+n'*j1):=by
  have p:=r2 j1 u' c n' d;rw[n6,h1,r3]at p;lia
 have PC:j2=c*(u'*j2+n'*j1):=by
  have p:=r4 j2 u' c n' d;rw[n6,<-h1,r5]at p;lia
 generalize u'*j2+n'*j1=T at Mz PC;have q1:i1*(a*(e*gg))+d*T*s1=i2*(b*(e*gg))+c*T*s2:=by rw[<-Mz,<-PC,<-x1,<-x2]
 have h2:e*(i1*a-i2*b)=T*f:=kQ JU (by rw[r6 gg e i1 a i2 b d T s1 c s2 q1,r7,gap]);have eT:T=e*(v*T+q*(i1*a-i2*b)):=by
  have p:=r8 T v e q f;rw[p9,<-h2,r9]at p;lia
 generalize hr:v*T+q*(i1*a-i2*b)=r at eT;have h3:i1*a-i2*b=r*f:=kQ he (by rw[h2,eT,r10]);have h4:i1=u*(r*f)+b*(u*i2+n*i1):=by
  have p:=r11 i1 u a n b;have q3:i1*a=r*f+i2*b:=Kn
  rw[p8,q3,r12]at p;lia
 generalize u*i2+n*i1=M at h4;refine#[M+r*t,r,?_,?_]
 .rw[hs,x1,Mz,eT,<-r13,<-h4]
 .rw[y1,Mz,eT,r14]
def AZ{n n' t:Int}(ha:0<a)(hb:0<b)(hc:0<c)(hd:0<d)(he:0<e)(hk:0<k)(JU:0<gg)
  (p8:u*a+n*b=1) (n6:u'*c+n'*d=1) (gap:c*s2-d*s1=f*gg) (p9:v*e+q*f=1)
  (hs:s=e*(d*s1)+f*u*(a*(e*gg))-a*b*(e*gg)*t) (m1:0<=s) (m2:s<a*b*(e*gg)):
  MetR (a*(e*gg)) (c*k) s1 (b*(e*gg)) (d*k) s2 (a*b*(e*gg)) (c*d*k*e) s (k*gg):=by
 have hg:0<e*gg:=Gz he JU;have hW:0<a*b*(e*gg):=Gz (Gz ha hb) hg;have NN:d*s1=c*s2-f*gg:=Kn
 have ua:u*a=1-n*b:=Kn
 refine#[hW,Gz (Gz (Gz hc hd) hk) he,m1,m2,#[b,?_],#[a,?_],#[f*u-t*b,d*e,?_,?_],#[-(f*n)-t*a,c*e,?_,?_],Gz hk JU,?_,#[a*e*c,?_],#[a*e*d,?_],#[b*e*c,?_],#[b*e*d,?_],#[-f,?_],?_,?_]
 .grind
 .grind
 .grind
 .grind
 .rw[hs,NN];have x2:f*u*(a*(e*gg))=f*(u*a)*(e*gg):=by grind
  rw[x2,ua];grind
 .grind
 .grind
 .grind
 .grind
 .grind
 .grind
 .have:s1*(d*k)-c*k*s2=-(k*(c*s2-d*s1)):=by grind
  rw[this,gap];grind
 .rintro x y⟨i1,j1,x1,z1⟩ ⟨i2,j2,x2,z2⟩;exact AY hk JU he p8 n6 gap p9 hs x1 z1 x2 z2
 .rintro G⟨y1,z1⟩ ⟨y2,z2⟩ ⟨y3,z3⟩ ⟨y4,z4⟩ ⟨y5,z5⟩;refine#[v*(u'*u*y1+n'*u*y2+u'*n*y3+n'*n*y4)-q*y5,?_];have k1:k*(e*gg)=G*(u'*u*y1+n'*u*y2+u'*n*y3+n'*n*y4):=by
   have p1:k*(e*gg)=(u'*c+n'*d)*(u*a+n*b)*(k*(e*gg)):=by rw[p8,n6];grind
   have p2:(u'*c+n'*d)*(u*a+n*b)*(k*(e*gg))=u'*u*(a*(e*gg)*(c*k))+n'*u*(a*(e*gg)*(d*k))+u'*n*(b*(e*gg)*(c*k))+n'*n*(b*(e*gg)*(d*k)):=Ln
   rw[p1,p2,z1,z2,z3,z4];grind
  have k2:k*(f*gg)=-(G*y5):=by
   rw[<-z5,<-gap];grind
  have k3:k*gg=(v*e+q*f)*(k*gg):=by rw[p9];grind
  have k4:(v*e+q*f)*(k*gg)=v*(k*(e*gg))+q*(k*(f*gg)):=Ln
  rw[k3,k4,k1,k2];grind
variable{w1 h1 w2 h2:Int}
def kR{q_:Int}(MB:0<w1)(LJ:0<w2)(PD:0<h1)(z6:0<h2)
  (M1:Meas w1 w2 g u) (M2:Meas h1 h2 k u')
  (M3:Meas g (h1*h2/k/h2*s2-h1*h2/k/h1*s1) gg q_):
  MetR w1 h1 s1 w2 h2 s2 (w1*w2/g) (h1*h2/k*(g/gg)) ((g/gg*(h1*h2/k/h1*s1)+g/gg*(h1*h2/k/h2*s2-h1*h2/k/h1*s1)/g*u*w1)%(w1*w2/g)) (k*gg):=by
 have hg:=M1.pos MB;have hk:=M2.pos PD;have JU:=M3.pos hg;obtain⟨_,⟨a,ea⟩,⟨b,eb⟩,n,en⟩:=M1;obtain⟨_,⟨c,ec⟩,⟨d,ed⟩,n',RZ⟩:=M2;have ha:0<a:=dM (ea ▸ MB) hg;have hb:0<b:=dM (eb ▸ LJ) hg;have hc:0<c:=dM (ec ▸ PD) hk;have hd:0<d:=dM (ed ▸ z6) hk;have p8:u*a+n*b=1:=by
  have p:(u*a+n*b)*g=1*g:=by
   have:(u*a+n*b)*g=u*(a*g)+n*(b*g):=by grind
   rw[this,<-ea,<-eb];lia
  exact Hw Kn p
 have n6:u'*c+n'*d=1:=by
  have p:(u'*c+n'*d)*k=1*k:=by
   have:(u'*c+n'*d)*k=u'*(c*k)+n'*(d*k):=by grind
   rw[this,<-ec,<-ed];lia
  exact Hw Kn p
 have eW:w1*w2/g=a*b*g:=by
  have:w1*w2=(a*b*g)*g:=by rw[ea,eb];grind
  rw[this];exact GQ _ Kn
 have eR:h1*h2/k=c*d*k:=by
  have:h1*h2=(c*d*k)*k:=by rw[ec,ed];grind
  rw[this];exact GQ _ Kn
 have QW:h1*h2/k/h1=d:=by
  rw[eR];have:c*d*k=d*h1:=by rw[ec];grind
  rw[this];exact GQ _ Kn
 have QX:h1*h2/k/h2=c:=by
  rw[eR];have:c*d*k=c*h2:=by rw[ed];grind
  rw[this];exact GQ _ Kn
 rw[QW,QX]at M3 ⊢;obtain⟨_,⟨e,ee⟩,⟨f,ef⟩,q,eq⟩:=M3;have he:0<e:=dM (ee ▸ hg) JU;have p9:q_*e+q*f=1:=by
  have p:(q_*e+q*f)*gg=1*gg:=by
   have:(q_*e+q*f)*gg=q_*(e*gg)+q*(f*gg):=by grind
   rw[this,<-ee,<-ef];lia
  exact Hw Kn p
 have eC:g/gg=e:=by rw[ee];exact GQ _ Kn
 have eS:e*(c*s2-d*s1)/g=f:=by
  have:e*(c*s2-d*s1)=f*g:=by rw[ef,ee];grind
  rw[this];exact GQ _ Kn
 rw[eC,eS,eW,eR];have hW:0<a*b*g:=Gz (Gz ha hb) hg;have em:=Hf (e*(d*s1)+f*u*w1) (a*b*g);have m1:=Hc (e*(d*s1)+f*u*w1) (show a*b*g≠0 by lia);have m2:=Hd (e*(d*s1)+f*u*w1) hW;generalize (e*(d*s1)+f*u*w1)%(a*b*g)=s at em m1 m2 ⊢;generalize (e*(d*s1)+f*u*w1)/(a*b*g)=t at em;subst ea eb ec ed;subst ee;exact AZ ha hb hc hd he hk JU p8 n6 ef p9 em m1 m2
def kS(hx:0<x)(hy:0<y)(M:Meas x y g u):0<x*y/g/\x*y/g<=x*y/\x*y/g/x*1<=y/\0<=x*y/g/x/\x*y/g/y<=x/\0<=x*y/g/y:=by
 have hg:=M.pos hx;obtain⟨_,⟨a,ea⟩,⟨b,eb⟩,_⟩:=M;have ha:0<a:=dM (ea ▸ hx) hg;have hb:0<b:=dM (eb ▸ hy) hg;have e1:x*y/g=a*b*g:=by
  have:x*y=(a*b*g)*g:=by rw[ea,eb];grind
  rw[this];exact GQ _ Kn
 have e2:a*b*g/x=b:=by
  have:a*b*g=b*x:=by rw[ea];grind
  rw[this];exact GQ _ Kn
 have e3:a*b*g/y=a:=by
  have:a*b*g=a*y:=by rw[eb];grind
  rw[this];exact GQ _ Kn
 have p1:0<a*b*g:=Gz (Gz ha hb) hg;have q1:=(cX (w:=b) (h:=g) hb hg).1;have q2:=(cX (w:=a) (h:=g) ha hg).1;have q3:x*y=a*b*g*g:=by rw[ea,eb];grind
 have q4:=(cX (w:=a*b*g) (h:=g) p1 hg).1;rw[e1,e2,e3];lia
def cell(ns:List Int)(k:Int):Int:=ns.getD k.toNat 0
variable{ns:List Int}
def tO(h0:0<=k)(h1:k<(ns.length:Int)):atI (ns.map D.int) k=be (.int (cell ns k)):=by
 obtain⟨j,rfl⟩:∃j:Nat,k=(j:Int):=#[k.toNat,Kn];have hk:j<ns.length:=Kn
 refine ca ?_;rw[Gr,GH hk];simp[cell,Hi,GH hk]
def A1(h1:(ns.length:Int)<=k):cell ns k=0:=by
 have hk:ns.length<=k.toNat:=Kn
 simp[cell,Hi,GY hk]
def Ge(k:Int):∃m,atI [D.int 12,D.int 720] (k%2)=be (.int m)/\(m=12\/m=720):=by
 rcases(Kn:k%2=0\/k%2=1)with e|e
 .rw[e];exact#[12,rfl,.inl rfl]
 .rw[e];exact#[720,rfl,.inr rfl]
def cK(h:0<b):0<=a%b:=Hc a Kn
def cL(h:0<b):a%b<b:=Hd a h
def A2:SpD:=λds R=>∃(ns:List Int) (k:Int),ds=[.rol (ns.map D.int),.int k]/\0<=k/\R (.int (cell ns k))
def A3:SpD:=λds R=>∃i:Int,ds=[.int i]/\R (.bl true)
def A4:SpD:=λds R=>∃w h s x y:Int,ds=[.tup [.int w,.int h,.int s],.int x,.int y]/\0<w/\0<h/\h<1073741824/\0<=s/\s<1073741824/\
 R (.bl (decide (y%h=0/\(x-y/h*s)%w=0)))
def A5:SpD:=λds R=>∃a b c d u v:Int,ds=[.tup [.int a,.int b],.tup [.int c,.int d],.int u,.int v]/\a.natAbs<1073741824/\b.natAbs<1073741824/\c.natAbs<1073741824/\d.natAbs<1073741824/\
 ¬a*d=b*c/\R (.bl (decide ((u*d-v*c).fmod (a*d-b*c)=0/\(a*v-b*u).fmod (a*d-b*c)=0)))
def A6:SpD:=λds R=>∃x y:Int,ds=[.int x,.int y]/\∀g:Int,0<=g->g∣x->g∣y->(∀e,e∣x->e∣y->e∣g)->R (.int g)
def tP:e∣(if x<0 then -x else x)↔e∣x:=by
 split
 .exact Int.dvd_neg
 .exact Iff.rfl
def tQ(hb:e∣b):e∣a%b↔e∣a:=by
 have e1:=Hf a b;rw[e1];constructor
 .intro h;have:=IA h (Jo (c:=a/b) hb);simpa using this
 .intro h;exact Int.dvd_sub h (Jo hb)
def A7:SpD:=λds R=>∃w h s x y:Int,ds=[.tup [.int w,.int h,.int s],.int x,.int y]/\0<w/\0<h/\h<1073741824/\0<=s/\s<1073741824/\
 R (.tup [.int ((x-y/h*s)%w),.int (y%h)])
def A8:SpD:=λds R=>∃a b c d:Int,ds=[.tup [.int a,.int b],.tup [.int c,.int d]]/\b.natAbs<4611686018427387904/\d.natAbs<4611686018427387904/\
 ∀p0 p1 q0,Lev a b c d p0 p1 q0->R (.tup [.tup [.int p0,.int p1],.tup [.int q0,.int 0]])
def A9:SpD:=λds R=>∃a b c d:Int,ds=[.tup [.int a,.int b],.tup [.int c,.int d]]/\a.natAbs<4611686018427387904/\b.natAbs<4611686018427387904/\c.natAbs<4611686018427387904/\d.natAbs<4611686018427387904/\
 (a*d=b*c->R .non)/\(¬a*d=b*c->∀w h s,FamOf a b c d w h s->R (.tup [.int w,.int h,.int s]))
def Ba:SpD:=λds R=>∃w h s:Int,ds=[.tup [.int w,.int h,.int s]]/\0<w/\R (.tup [.int w,.int h,.int (-s%w)])
def Bb:SpD:=λds R=>∃w h s:Int,ds=[.tup [.int w,.int h,.int s]]/\0<w/\0<h/\w<4611686018427387904/\h<4611686018427387904/\0<=s/\s<4611686018427387904/\
 ∀w' h' s',FamOf 0 w (-h) s w' h' s'->R (.tup [.int w',.int h',.int s'])
def Bc:SpD:=λds R=>∃x y:Int,ds=[.int x,.int y]/\x.natAbs<4611686018427387904/\y.natAbs<4611686018427387904/\∀g u,Meas x y g u->R (.tup [.int g,.int u])
def Bd:SpD:=λds R=>∃w1 h1 s1 w2 h2 s2:Int,ds=[.tup [.int w1,.int h1,.int s1],.tup [.int w2,.int h2,.int s2]]/\0<w1/\w1<=33554432/\0<h1/\h1<=33554432/\0<=s1/\s1<w1/\0<w2/\w2<=33554432/\0<h2/\h2<=33554432/\0<=s2/\s2<w2/\
 ∀w h s A,MetR w1 h1 s1 w2 h2 s2 w h s A->R (.tup [.int w,.int h,.int s])
def Drawn(xs:List Int):Prop:=∀x∈xs,0<=x/\x<5040
variable{xs:List Int}
def Drawn.at(h:Drawn xs)(k:Int):0<=cell xs k/\cell xs k<5040:=by
 by_cases hk:k.toNat<xs.length
 .have:cell xs k=xs[k.toNat]:=by simp[cell,Hi,GH hk]
  rw[this];exact h _ (GT hk)
 .have:cell xs k=0:=by simp[cell,Hi,GY (Ik hk)]
  lia
def cA(h0:0<=k)(h:k.toNat<xs.length):atI (xs.map D.int) k=be (.int (cell xs k)):=tO h0 Kn
def tR:xs.map D.int++[D.int v]=(xs++[v]).map D.int:=Kv
def tS(h:Drawn xs)(h1:0<=v)(h2:v<5040):Drawn (xs++[v]):=by
 intro x hx;rcases GD.mp hx with q|q
 .exact h x q
 .rw[Gf.mp q];exact#[h1,h2]
def Be:SpD:=λds R=>∃(ns:List Int) (k:Int) (n:Nat),ds=[.rol (ns.map D.int),.int k,.int n]/\0<=k/\n<=100/\∀xs:List Int,xs.length=n->Drawn xs->R (.lst (xs.map D.int))
def Bf:SpD:=λds R=>∃xs:List Int,ds=[.lst (xs.map D.int)]/\8<=xs.length/\Drawn xs/\
 ∀a b c d:Int,(-12<=a/\a<=12)->(-12<=b/\b<=12)->(-12<=c/\c<=12)->(-12<=d/\d<=12)->¬a*d=b*c->R (.lst [.tup [.int a,.int b],.tup [.int c,.int d]])
abbrev cs(x:C_):List Nat:=x.cps.toList
def bu(x:C_):(cs x).length=x.length:=by simp[Str.length]
def tT:cs ""=[]:=rfl
def bO(x y:C_):cs (x++y)=cs x++cs y:=by
 show((x++y:C_)).cps.toList=_;rw[show(x++y:C_).cps=x.cps++y.cps from rfl,Array.toList_append]
def aG(x y:C_):(x++y).length=x.length+y.length:=by rw[<-bu,bO,Gx,bu,bu]
def aZ(c:Nat):Prop:=c=46\/(49<=c/\c<=54)
def kT:∀(L:List C_),cJ (L.map D.str)=be L
 |[]=>rfl
 |x::L=>by simp[cJ,kT L]
def eZ(x:C_):Prop:=0<x.length/\x.length<=7/\∀c∈cs x,aZ c
def Bg{x:C_}(h:eZ x)(v:Int):∃c,(x.length<=1000000/\atI (cs x) (v%(x.length:Int))=be c)/\aZ c:=by
 have h1:=cK (a:=v) (show 0<(x.length:Int)by have:=h.1;lia);have h2:=cL (a:=v) (show 0<(x.length:Int)by have:=h.1;lia);obtain⟨j,ej⟩:∃j:Nat,v%(x.length:Int)=(j:Int):=#[(v%(x.length:Int)).toNat,Kn];have hj:j<(cs x).length:=by rw[bu];lia
 refine#[(cs x)[j],#[by have:=h.2.1;lia,?_],h.2.2 _ (GT hj)];rw[ej];exact ca (GH hj)
def Bh:eZ "1.23456":=#[Kr,Kr,by unfold aZ;decide+kernel]
def Bi:eZ "12":=#[Kr,Kr,by unfold aZ;decide+kernel]
def Bj:eZ "1.":=#[Kr,Kr,by unfold aZ;decide+kernel]
def Bk:eZ "...2":=#[Kr,Kr,by unfold aZ;decide+kernel]
def Bl(k:Int):∃x,atI [D.str "1.23456",D.str "12",D.str "1.",D.str "...2"] (k%4)=be (.str x)/\eZ x:=by
 rcases(Kn:k%4=0\/k%4=1\/k%4=2\/k%4=3)with e|e|e|e<;>rw[e]
 .exact#[_,rfl,Bh]
 .exact#[_,rfl,Bi]
 .exact#[_,rfl,Bj]
 .exact#[_,rfl,Bk]
def Bm(k:Int):∃m,atI [D.int 1,D.int 70] (k%2)=be (.int m)/\(m=1\/m=70):=by
 rcases(Kn:k%2=0\/k%2=1)with e|e<;>rw[e]
 .exact#[1,rfl,.inl rfl]
 .exact#[70,rfl,.inr rfl]
structure Rows(L:List Str):Prop where
 many:1<=L.length/\L.length<=8
 wide:∃w,(1<=w/\w<=8)/\∀l∈L,l.length=w/\∀c∈cs l,aZ c
variable{L:List C_}
def Rows.of{w t:Nat}(h1:1<=t)(h2:t<=8)(hl:L.length=t)(w1:1<=w)(w2:w<=8)(h:∀l∈L,l.length=w/\∀c∈cs l,aZ c):Rows L:=#[Kn,w,#[w1,w2],h]
def Bn{x:C_}{c:Nat}{i:Nat}(h1:x.length=i)(h2:∀c∈cs x,aZ c)(hc:aZ c):(x++#[[c].toArray]:C_).length=i+1/\∀c'∈cs (x++#[[c].toArray]),aZ c':=by
 refine#[by rw[aG,h1];rfl,λc' q=>?_];rw[bO]at q;rcases GD.mp q with q|q
 .exact h2 _ q
 .have:c'=c:=by simpa[cs]using q
  rw[this];exact hc
def Bo{x:C_}:L.map D.str++[D.str x]=(L++[x]).map D.str:=Kv
def cY(L:List C_)(a b c d:Int):Str:=("["++Txt.join "/" L)++((((((((";":C_)++(toString a:String))++",")++(toString b:String))++";")++(toString c:String))++",")++(toString d:String))++"]"
def bF(h:-12<=a/\a<=12):((toString a:String):C_).length<=3:=by
 have key:∀k:Fin 25,((toString (((k.val:Nat):Int)-12):String):C_).length<=3:=Kr
 have:=key #[(a+12).toNat,Kn];have e:(((a+12).toNat:Nat):Int)-12=a:=Kn
 rw[e]at this;exact this
def B12(a:Int):Prop:=-12<=a/\a<=12
def B12.lt(h:B12 a):a.natAbs<1073741824:=by unfold B12 at h;lia
def tU{w:Nat}(h:∀l∈L,l.length=w):(L.map (·.length)).sum=L.length*w:=by
 induction L with
 |nil=>simp
 |cons x L ih=>
  rw[GJ,List.sum_cons,ih (λl hl=>h l (Gi _ hl)),h x Gk,Gv,Nat.succ_mul,IB]
def tV(h:Rows L):(L.map (·.length)).sum+L.length*("/":C_).length<=72:=by
 obtain⟨h1,w,hw,h2⟩:=h;rw[tU (λl hl=>(h2 l hl).1)];have e:("/":C_).length=1:=rfl;rw[e];have:=Hv h1.2 hw.2;lia
def Bp:SpD:=λds R=>∃xs:List Int,ds=[.lst (xs.map D.int)]/\40<=xs.length/\Drawn xs/\∀L:List C_,Rows L->R (.lst (L.map D.str))
def Bq:SpD:=λds R=>∃(L:List C_) (a b c d:Int),ds=[.lst (L.map D.str),.tup [.int a,.int b],.tup [.int c,.int d]]/\Rows L/\B12 a/\B12 b/\B12 c/\B12 d/\R (.str (cY L a b c d))
structure Leaf where
 rows:List C_
 a:Int
 b:Int
 c:Int
 d:Int
 w0:Int
 w1:Int
 w2:Int
 w3:Int
 w4:Int
 w5:Int
 hues:List Int
def Leaf.D(l:Leaf):My.D:=.tup [.lst (l.rows.map D.str),.tup [.int l.a,.int l.b],.tup [.int l.c,.int l.d],.tup [.int l.w0,.int l.w1,.int l.w2,.int l.w3,.int l.w4,.int l.w5],.lst (l.hues.map D.int)]
structure Leaf.Ok(l:Leaf):Prop where
 rows:Rows l.rows
 a:B12 l.a
 b:B12 l.b
 c:B12 l.c
 d:B12 l.d
 ne:¬l.a*l.d=l.b*l.c
 w0:l.w0.natAbs<=1
 w1:l.w1.natAbs<=1
 w2:l.w2.natAbs<=1
 w3:l.w3.natAbs<=1
 w4:l.w4.natAbs<=1000
 w5:l.w5.natAbs<=1000
 many:l.hues.length=7
 hue:∀h∈l.hues,0<=h/\h<=6
def onB(a b c d u v:Int):Bool:=decide ((u*d-v*c).fmod (a*d-b*c)=0/\(a*v-b*u).fmod (a*d-b*c)=0)
def scanRow(f:Int->Bool):Nat->List Nat->Option Nat
 |_,[]=>q8
 |i,c::r=>if c≠46/\f i=true then be c else scanRow f (i+1) r
def bP(f:Int->Int->Bool):Nat->List C_->Option Nat
 |_,[]=>q8
 |j,l::r=>match scanRow (λi=>f i j) 0 (cs l)with|some c=>be c|none=>bP f (j+1) r
def Leaf.hit(l:Leaf)(x y:Int):Option Nat:=bP (λi j=>onB l.a l.b l.c l.d (l.w0*x+l.w1*y+l.w4-i) (l.w2*x+l.w3*y+l.w5-j)) 0 l.rows
def Leaf.shows(l:Leaf)(x y:Int):Int:=match l.hit x y with|some c=>cell l.hues ((c:Int)-48)|none=>0
def one_sign{c:Nat}:(#[[c].toArray]:C_)="."↔c=46:=by
 constructor
 .intro h;have:([c].toArray:Array Nat)=(".":C_).cps:=congrArg Str.cps h;have e:([c].toArray:Array Nat).toList=(".":C_).cps.toList:=by rw[this]
  have e2:(".":C_).cps.toList=[46]:=rfl;rw[e2]at e;simpa using e
 .rintro rfl;rfl
def digit_of{c:Nat}(h:49<=c/\c<=54):PySem.intText? (#[[c].toArray]:C_)=be ((c:Int)-48):=by
 rcases(Kn:c=49\/c=50\/c=51\/c=52\/c=53\/c=54)with e|e|e|e|e|e<;>subst e<;>decide+kernel
def at_str{j:Nat}{x:C_}(h:L[j]?=be x):atI (L.map D.str) (j:Int)=be (.str x):=ca (by rw[Gr,h];rfl)
def cw{n:Int}{k:Nat}{x:D}(h:((Gj n.toNat).map λk=>D.int ((k:Nat):Int))[k]?=be x):k<n.toNat/\x=.int (k:Int):=by
 have hk:k<n.toNat:=by simpa using(Gq.mp h).1
 refine#[hk,?_];simp[hk]at h;exact h.symm
def cf{n:Int}:((Gj n.toNat).map λk=>D.int ((k:Nat):Int)).length=n.toNat:=Kv
def aR:List Leaf->Int->Int->Int
 |[],_,_=>0
 |l::r,x,y=>if l.shows x y≠0 then l.shows x y else aR r x y
variable{hs:List Int}
def Br(h:∀h∈hs,0<=h/\h<=6)(k:Int):0<=cell hs k/\cell hs k<=6:=by
 by_cases hk:k.toNat<hs.length
 .have:cell hs k=hs[k.toNat]:=by simp[cell,Hi,GH hk]
  rw[this];exact h _ (GT hk)
 .have:cell hs k=0:=by simp[cell,Hi,GY (Ik hk)]
  lia
variable{l:Leaf}
def Leaf.shows_le(h:l.Ok)(x y:Int):0<=l.shows x y/\l.shows x y<=6:=by
 unfold Leaf.shows;split
 .exact Br h.hue _
 .lia
def tW:∀{ls:List Leaf} (x y:Int),(∀l∈ls,l.Ok)->0<=aR ls x y/\aR ls x y<=6
 |[],_,_,_=>by simp[aR]
 |l::r,x,y,h=>by
  unfold aR;split
  .exact Leaf.shows_le (h l Gk) x y
  .exact tW x y λl' q=>h l' (Gi _ q)
def bt(L:List C_)(a b c d:Int):Leaf:=#[L,a,b,c,d,1,0,0,1,0,0,[0,1,2,3,4,5,6]]
def Bs:SpD:=λds R=>∃(ns:List Int) (k:Int),ds=[.rol (ns.map D.int),.int k]/\0<=k/\
 ∀(L:List C_) (a b c d:Int),Rows L->B12 a->B12 b->B12 c->B12 d->¬a*d=b*c->R (.lst [.str (cY L a b c d),.int 0,.lst [(bt L a b c d).D]])
def Bt:SpD:=λds R=>∃(l:Leaf) (x y:Int),ds=[l.D,.int x,.int y]/\l.Ok/\R (.int (l.shows x y))
def Bu:SpD:=λds R=>∃(ls:List Leaf) (x y:Int),ds=[.lst (ls.map Leaf.D),.int x,.int y]/\(∀l∈ls,l.Ok)/\R (.int (aR ls x y))
inductive Pat where
 |mot (L:List Str) (a b c d:Int)
 |over (p q:Pat)
 |sh (a b:Int) (p:Pat)
 |mir (p:Pat)
 |tur (p:Pat)
 |hue (f g:Int) (p:Pat)
def Pat.text:Pat->C_
 |.mot L a b c d=>cY L a b c d
 |.over p q=>(((("(":C_)++p.text)++"|")++q.text)++")"
 |.sh a b p=>((((("s":C_)++(toString a:String))++",")++(toString b:String))++":")++p.text
 |.mir p=>("m":C_)++p.text
 |.tur p=>("t":C_)++p.text
 |.hue f g p=>((("h":C_)++(toString f:String))++(toString g:String))++p.text
def Pat.depth:Pat->Nat
 |.mot ..=>0
 |.over p q=>1+max p.depth q.depth
 |.sh _ _ p=>p.depth+1
 |.mir p=>p.depth+1
 |.tur p=>p.depth+1
 |.hue _ _ p=>p.depth+1
def Leaf.by(l:Leaf)(b0 b1 b2 b3 b4 b5:Int):Leaf:=
 {l with w0:=l.w0*b0+l.w1*b2,w1:=l.w0*b1+l.w1*b3,w2:=l.w2*b0+l.w3*b2,w3:=l.w2*b1+l.w3*b3,w4:=l.w4+l.w0*b4+l.w1*b5,w5:=l.w5+l.w2*b4+l.w3*b5}
def bG(f g h:Int):Int:=if h=f then g else h
def Leaf.dye(l:Leaf)(f g:Int):Leaf:={l with hues:=l.hues.map (bG f g)}
def Pat.leaves:Pat->List Leaf
 |.mot L a b c d=>[bt L a b c d]
 |.over p q=>p.leaves++q.leaves
 |.sh a b p=>p.leaves.map (λl=>l.by 1 0 0 1 (-a) (-b))
 |.mir p=>p.leaves.map (λl=>l.by (-1) 0 0 1 0 0)
 |.tur p=>p.leaves.map (λl=>l.by 0 1 (-1) 0 0 0)
 |.hue f g p=>p.leaves.map (λl=>(l.by 1 0 0 1 0 0).dye f g)
def Pat.show:Pat->Int->Int->Int
 |.mot L a b c d,x,y=>(bt L a b c d).shows x y
 |.over p q,x,y=>if p.show x y≠0 then p.show x y else q.show x y
 |.sh a b p,x,y=>p.show (x-a) (y-b)
 |.mir p,x,y=>p.show (-x) y
 |.tur p,x,y=>p.show y (-x)
 |.hue f g p,x,y=>bG f g (p.show x y)
def Pat.Wf:Pat->Prop
 |.mot L a b c d=>Rows L/\B12 a/\B12 b/\B12 c/\B12 d/\¬a*d=b*c
 |.over p q=>p.Wf/\q.Wf
 |.sh a b p=>B12 a/\B12 b/\p.Wf
 |.mir p=>p.Wf
 |.tur p=>p.Wf
 |.hue f g p=>(1<=f/\f<=6)/\(1<=g/\g<=6)/\p.Wf
def Leaf.by_shows(l:Leaf)(b0 b1 b2 b3 b4 b5 x y:Int):(l.by b0 b1 b2 b3 b4 b5).shows x y=l.shows (b0*x+b1*y+b4) (b2*x+b3*y+b5):=by
 have e1:(l.w0*b0+l.w1*b2)*x+(l.w0*b1+l.w1*b3)*y+(l.w4+l.w0*b4+l.w1*b5)=l.w0*(b0*x+b1*y+b4)+l.w1*(b2*x+b3*y+b5)+l.w4:=Ln
 have e2:(l.w2*b0+l.w3*b2)*x+(l.w2*b1+l.w3*b3)*y+(l.w5+l.w2*b4+l.w3*b5)=l.w2*(b0*x+b1*y+b4)+l.w3*(b2*x+b3*y+b5)+l.w5:=Ln
 simp only[Leaf.shows,Leaf.hit,Leaf.by,e1,e2]
def fZ(b0 b1 b2 b3 b4 b5 x y:Int):∀ls:List Leaf,aR (ls.map (λl=>l.by b0 b1 b2 b3 b4 b5)) x y=aR ls (b0*x+b1*y+b4) (b2*x+b3*y+b5)
 |[]=>rfl
 |l::r=>by
  rw[GJ,aR,aR,Leaf.by_shows,fZ b0 b1 b2 b3 b4 b5 x y r]
def scanRow_sign{f:Int->Bool}:∀{cs:List Nat} {i c:Nat},(∀c∈cs,aZ c)->scanRow f i cs=be c->49<=c/\c<=54
 |[],_,_,_,h=>by cases h
 |a::r,i,c,hs,h=>by
  rw[scanRow]at h;split at h
  .rename_i q;cases h;have:=hs a Gk;unfold aZ at this;have:=q.1;lia
  .exact scanRow_sign (λc q=>hs c (Gi _ q)) h
def kU{f:Int->Int->Bool}:∀{L:List C_} {j c:Nat},(∀l∈L,∀c∈cs l,aZ c)->bP f j L=be c->49<=c/\c<=54
 |[],_,_,_,h=>by cases h
 |a::r,j,c,hs,h=>by
  rw[bP]at h;split at h
  .rename_i q;cases h;exact scanRow_sign (hs a Gk) q
  .exact kU (λl q=>hs l (Gi _ q)) h
def Bv(h:k.toNat<hs.length):cell (hs.map (bG f g)) k=bG f g (cell hs k):=by
 simp[cell,Hi,Gr,GH h]
def Leaf.dye_shows(ok:l.Ok)(hf:1<=f)(x y:Int):(l.dye f g).shows x y=bG f g (l.shows x y):=by
 have e:(l.dye f g).hit x y=l.hit x y:=rfl;unfold Leaf.shows;rw[e];cases h:l.hit x y with
 |none=>simp[bG];lia
 |some c=>
  have hc:49<=c/\c<=54:=kU (λl' q=>let ⟨_,_,_,h⟩:=ok.rows;(h l' q).2) h;exact Bv (by rw[ok.many];lia)
def tX(hf:1<=f)(hg:1<=g):bG f g h=0↔h=0:=by
 unfold bG;split<;>lia
def tY{f g:Int}(hf:1<=f)(hg:1<=g)(x y:Int):∀ls:List Leaf,(∀l∈ls,l.Ok)->aR (ls.map (λl=>l.dye f g)) x y=bG f g (aR ls x y)
 |[],_=>by simp[aR,bG];lia
 |l::r,h=>by
  rw[GJ,aR,aR,Leaf.dye_shows (h l Gk) hf,tY hf hg x y r λl q=>h l (Gi _ q)];by_cases z:l.shows x y=0
  .rw[if_neg (λq=>q ((tX hf hg).mpr z)),if_neg (λq=>q z)]
  .rw[if_pos (λq=>z ((tX hf hg).mp q)),if_pos z]
def tZ(x y:Int):∀(a b:List Leaf),aR (a++b) x y=if aR a x y≠0 then aR a x y else aR b x y
 |[],b=>by simp[aR]
 |l::r,b=>by
  rw[List.cons_append,aR,aR];by_cases z:l.shows x y≠0
  .rw[if_pos z,if_pos z,if_pos z]
  .rw[if_neg z,if_neg z,tZ x y r b]
structure Leaf.Near(l:Leaf)(n:Nat):Prop where
 u0:(l.w0.natAbs=1/\l.w1=0/\l.w2=0/\l.w3.natAbs=1)\/(l.w0=0/\l.w1.natAbs=1/\l.w2.natAbs=1/\l.w3=0)
 w4:l.w4.natAbs<=24*n
 w5:l.w5.natAbs<=24*n
variable{n:Nat}
def Leaf.Near.mono{m:Nat}(h:l.Near n)(k:n<=m):l.Near m:=#[h.u0,by have:=h.w4;lia,by have:=h.w5;lia]
def Leaf.Near.unit(h:l.Near n):(l.w0=1\/l.w0=-1\/l.w0=0)/\(l.w1=1\/l.w1=-1\/l.w1=0)/\(l.w2=1\/l.w2=-1\/l.w2=0)/\(l.w3=1\/l.w3=-1\/l.w3=0):=by
 have k:∀{w:Int},w.natAbs=1->w=1\/w=-1\/w=0:=λ{w} e=>(Int.natAbs_eq w).imp (λz=>by rw[z,e];rfl) λz=>.inl (by rw[z,e];rfl);rcases h.u0 with⟨p,q,r,t⟩|⟨p,q,r,t⟩
 .exact#[k p,.inr (.inr q),.inr (.inr r),k t]
 .exact#[.inr (.inr p),k q,k r,.inr (.inr t)]
def ub(h:w=1\/w=-1\/w=0):w.natAbs<=1:=by rcases h with rfl|rfl|rfl<;>decide
def near_add(h:e.natAbs<=24*n)(hw:w=1\/w=-1\/w=0)(hv:v=1\/v=-1\/v=0)(ha:B12 a)(hb:B12 b):(e+w* -a+v* -b).natAbs<=24*(n+1):=by
 have m:∀{w a:Int},(w=1\/w=-1\/w=0)->B12 a->(w* -a).natAbs<=12:=λ{w a} hw ha=>by
  rw[G1,Iy];exact Hv (ub hw) (show a.natAbs<=12 by unfold B12 at ha;clear hw;lia)
 rw[show 24*(n+1)=24*n+12+12 from rfl];exact Go (Iu _ _) (HY (Go (Iu _ _) (HY h (m hw ha))) (m hv hb))
def Bw(h:l.Near n)(ha:B12 a)(hb:B12 b):(l.by 1 0 0 1 (-a) (-b)).Near (n+1):=by
 obtain⟨h0,h1,h2,h3⟩:=h.unit;exact#[by simpa[Leaf.by]using h.u0,near_add h.w4 h0 h1 ha hb,near_add h.w5 h2 h3 ha hb]
def By(h:l.Near n):(l.by (-1) 0 0 1 0 0).Near (n+1):=by
 have p:=h.w4;have q:=h.w5;exact#[by simpa[Leaf.by]using h.u0,by simp[Leaf.by];lia,by simp[Leaf.by];lia]
def Bz(h:l.Near n):(l.by 0 1 (-1) 0 0 0).Near (n+1):=by
 have p:=h.w4;have q:=h.w5;refine#[?_,by simp[Leaf.by];lia,by simp[Leaf.by];lia];rcases h.u0 with⟨a,b,c,d⟩|⟨a,b,c,d⟩
 .exact .inr (by simp[Leaf.by,a,b,c,d])
 .exact .inl (by simp[Leaf.by,a,b,c,d])
def uc(h:l.Near n):((l.by 1 0 0 1 0 0).dye f g).Near (n+1):=by
 have p:=h.w4;have q:=h.w5;exact#[by simpa[Leaf.by,Leaf.dye]using h.u0,by simp[Leaf.by,Leaf.dye];lia,by simp[Leaf.by,Leaf.dye];lia]
structure Leaf.Good(l:Leaf):Prop where
 rows:Rows l.rows
 a:B12 l.a
 b:B12 l.b
 c:B12 l.c
 d:B12 l.d
 ne:¬l.a*l.d=l.b*l.c
 many:l.hues.length=7
 hue:∀h∈l.hues,0<=h/\h<=6
def Leaf.ok_of(g:l.Good)(h:l.Near n)(hn:n<=40):l.Ok:=by
 have:=h.u0;have:=h.w4;have:=h.w5;exact#[g.rows,g.a,g.b,g.c,g.d,g.ne,Kn,Kn,Kn,Kn,Kn,Kn,g.many,g.hue]
def Pat.leaf_good:∀{p:Pat},p.Wf->∀l∈p.leaves,l.Good/\l.Near p.depth
 |.mot L a b c d,h,l,q=>by
  have:l=bt L a b c d:=by simpa[Pat.leaves]using q
  subst this;obtain⟨h1,h2,h3,h4,h5,h6⟩:=h;exact#[#[h1,h2,h3,h4,h5,h6,rfl,by intro h q;simp[bt]at q;lia],#[by simp[bt],by simp[bt],by simp[bt]]]
 |.over p r,h,l,q=>by
  rcases GD.mp q with q|q
  .obtain⟨g,n⟩:=Pat.leaf_good h.1 l q;exact#[g,n.mono (by simp only[Pat.depth];lia)]
  .obtain⟨g,n⟩:=Pat.leaf_good h.2 l q;exact#[g,n.mono (by simp only[Pat.depth];lia)]
 |.sh a b p,h,l,q=>by
  obtain⟨l',q',rfl⟩:=GK.mp q;obtain⟨g,n⟩:=Pat.leaf_good h.2.2 l' q';exact#[#[g.rows,g.a,g.b,g.c,g.d,g.ne,g.many,g.hue],Bw n h.1 h.2.1]
 |.mir p,h,l,q=>by
  obtain⟨l',q',rfl⟩:=GK.mp q;obtain⟨g,n⟩:=Pat.leaf_good (p:=p) h l' q';exact#[#[g.rows,g.a,g.b,g.c,g.d,g.ne,g.many,g.hue],By n]
 |.tur p,h,l,q=>by
  obtain⟨l',q',rfl⟩:=GK.mp q;obtain⟨g,n⟩:=Pat.leaf_good (p:=p) h l' q';exact#[#[g.rows,g.a,g.b,g.c,g.d,g.ne,g.many,g.hue],Bz n]
 |.hue f k p,h,l,q=>by
  obtain⟨l',q',rfl⟩:=GK.mp q;obtain⟨g,n⟩:=Pat.leaf_good (p:=p) h.2.2 l' q';refine#[#[g.rows,g.a,g.b,g.c,g.d,g.ne,?_,λv hv=>?_],uc n]
  .show(l'.hues.map _).length=7;rw[Gm];exact g.many
  .obtain⟨u,hu,rfl⟩:=GK.mp hv;have:=g.hue u hu;have:=h.2.1;unfold bG;split<;>lia
variable{p:Pat}
def Pat.leaf_ok(h:p.Wf)(hd:p.depth<=40):∀l∈p.leaves,l.Ok:=λl q=>Leaf.ok_of (Pat.leaf_good h l q).1 (Pat.leaf_good h l q).2 hd
def Pat.show_leaves:∀{p:Pat},p.Wf->p.depth<=40->∀x y,aR p.leaves x y=p.show x y
 |.mot L a b c d,_,_,x,y=>by
  simp only[Pat.leaves,Pat.show,aR];split
  .rfl
  .lia
 |.over p q,h,hd,x,y=>by
  simp only[Pat.depth]at hd;rw[Pat.leaves,tZ,Pat.show_leaves h.1 Kn,Pat.show_leaves h.2 Kn,Pat.show]
 |.sh a b p,h,hd,x,y=>by
  simp only[Pat.depth]at hd;rw[Pat.leaves,fZ,Pat.show_leaves h.2.2 Kn,Pat.show];congr 1<;>lia
 |.mir p,h,hd,x,y=>by
  simp only[Pat.depth]at hd;rw[Pat.leaves,fZ,Pat.show_leaves (p:=p) h Kn,Pat.show];congr 1<;>lia
 |.tur p,h,hd,x,y=>by
  simp only[Pat.depth]at hd;rw[Pat.leaves,fZ,Pat.show_leaves (p:=p) h Kn,Pat.show];congr 1<;>lia
 |.hue f g p,h,hd,x,y=>by
  simp only[Pat.depth]at hd;have e:p.leaves.map (λl=>(l.by 1 0 0 1 0 0).dye f g)=(p.leaves.map (λl=>l.by 1 0 0 1 0 0)).map (λl=>l.dye f g):=by rw[HG];rfl
  rw[Pat.leaves,e,tY h.1.1 h.2.1.1,fZ,Pat.show_leaves h.2.2 Kn,Pat.show]
  .congr 2<;>lia
  .intro l q;obtain⟨l',q',rfl⟩:=GK.mp q;obtain⟨g',n⟩:=Pat.leaf_good h.2.2 l' q';have n':=uc (f:=f) (g:=g) n;have:(l'.by 1 0 0 1 0 0).Near (p.depth+1):=#[n'.u0,n'.w4,n'.w5];exact Leaf.ok_of #[g'.rows,g'.a,g'.b,g'.c,g'.d,g'.ne,g'.many,g'.hue] this Kn
def Pat.D(p:Pat):My.D:=.lst [.str p.text,.int p.depth,.lst (p.leaves.map Leaf.D)]
def Leaf.T(dy:Bool)(d_ new b0 b1 b2 b3 b4 b5:Int)(l:Leaf):Leaf:=if dy then(l.by b0 b1 b2 b3 b4 b5).dye d_ new else l.by b0 b1 b2 b3 b4 b5
def fb(h:1<=a/\a<=6):((toString a:String):C_).length<=3:=bF Kn
def Wraps(p:Pat)(H:Prop)(R:My.D->Prop):Prop:=(5<=p.depth->R p.D)/\(p.depth<5->R (Pat.mir p).D/\R (Pat.tur p).D/\(∀a b,B12 a->B12 b->R (Pat.sh a b p).D)/\(H->∀f g:Int,(1<=f/\f<=6)->(1<=g/\g<=6)->R (Pat.hue f g p).D))
variable{A:Int}{R:My.D->Prop}
def BA(h:Wraps p (j=3) R)(hd:p.depth<5){k B d_ new:Int}(hA:B12 A)(hB:B12 B)(ho:1<=d_/\d_<=6)(hn:1<=new/\new<=6)(hj:0<=j/\j<4):
  ∃(hs:C_) (b0 b1 b2 b3 b4 b5:Int),atI [D.str "m",D.str "t",D.str ((((("s":C_)++(toString A:String))++",")++(toString B:String))++":"),D.str ((("h":C_)++(toString d_:String))++(toString new:String))] j=be (.str hs)/\
   atI ([D.tup [.int (-1),.int 0,.int 0,.int 1,.int 0,.int 0],D.tup [.int 0,.int 1,.int (-1),.int 0,.int 0,.int 0]]++[D.tup [.int 1,.int 0,.int 0,.int 1,.int (-A),.int (-B)],D.tup [.int 1,.int 0,.int 0,.int 1,.int 0,.int 0]]) j=be (.tup [.int b0,.int b1,.int b2,.int b3,.int b4,.int b5])/\
   (b0.natAbs<=1/\b1.natAbs<=1/\b2.natAbs<=1/\b3.natAbs<=1/\b4.natAbs<=12/\b5.natAbs<=12)/\hs.length<=20/\
   R (.lst [.str (hs++p.text),.int (p.depth+1),.lst ((p.leaves.map (Leaf.T (decide (j=3)) d_ new b0 b1 b2 b3 b4 b5)).map Leaf.D)]):=by
 obtain⟨h1,h2,h3,h4⟩:=h.2 hd;have l1:("s":C_).length=1:=rfl;have l2:(",":C_).length=1:=rfl;have l3:(":":C_).length=1:=rfl;have l4:("h":C_).length=1:=rfl;have lA:=bF hA;have lB:=bF hB;have lo:=fb ho;have ln:=fb hn;have eD:∀n:Nat,D.int ((n+1:Nat):Int)=D.int ((n:Int)+1):=λn=>by congr 1
 unfold B12 at hA hB;rcases(Kn:j=0\/j=1\/j=2\/j=3)with rfl|rfl|rfl|rfl
 .exact#[_,_,_,_,_,_,_,rfl,rfl,Kn,Ku,h1]
 .exact#[_,_,_,_,_,_,_,rfl,rfl,Kn,Ku,h2]
 .refine#[_,_,_,_,_,_,_,rfl,rfl,Kn,?_,h3 A B hA hB]
  repeat rw[aG]
  lia
 .refine#[_,_,_,_,_,_,_,rfl,rfl,Kn,?_,h4 rfl d_ new ho hn]
  repeat rw[aG]
  lia
def BB(h d_ new:Int):atI [D.int h,D.int new] (if decide (h=d_)=true then(1:Int)else 0)=be (.int (bG d_ new h)):=by
 unfold bG;by_cases e:h=d_
 .rw[if_pos e,if_pos (by simpa using e)];rfl
 .rw[if_neg e,if_neg (by simpa using e)];rfl
def kW{α:Type}{xs:List α}{k:Nat}{x:α}(h:xs[k]?=be x):xs.take (k+1)=xs.take k++[x]:=by
 have hk:k<xs.length:=(Gq.mp h).1;rw[Jc,h];rfl
def Pat.leaves_len:∀(p:Pat),p.leaves.length<=2^p.depth
 |.mot ..=>Gg _
 |.over p q=>by
  have h1:=p.leaves_len;have h2:=q.leaves_len;have m1:2^p.depth<=2^(max p.depth q.depth):=Hx Ku (Jp _ _);have m2:2^q.depth<=2^(max p.depth q.depth):=Hx Ku (Jq _ _);rw[Pat.leaves,Gx,Pat.depth,Jr];lia
 |.sh a b p=>by rw[Pat.leaves,Gm,Pat.depth,G5];have:=p.leaves_len;lia
 |.mir p=>by rw[Pat.leaves,Gm,Pat.depth,G5];have:=p.leaves_len;lia
 |.tur p=>by rw[Pat.leaves,Gm,Pat.depth,G5];have:=p.leaves_len;lia
 |.hue f g p=>by rw[Pat.leaves,Gm,Pat.depth,G5];have:=p.leaves_len;lia
def Pat.leaves_32(h:p.depth<=5):p.leaves.length<=32:=Go p.leaves_len (Hx Ku h)
def BC:SpD:=λds R=>∃(p:Pat) (draw:Int),ds=[p.D,.int draw]/\p.Wf/\p.depth<=5/\p.text.length<=100000/\Wraps p (draw%4=3) R
def ud(hn:¬a*d=b*c)(h:(u*d-v*c).fmod (a*d-b*c)=0/\(a*v-b*u).fmod (a*d-b*c)=0):∃i j,u=i*a+j*c/\v=i*b+j*d:=by
 have hz:a*d-b*c≠0:=Lg
 obtain⟨i,ei⟩:(a*d-b*c)∣(u*d-v*c):=#[_,(Js h.1).symm];obtain⟨j,ej⟩:(a*d-b*c)∣(a*v-b*u):=#[_,(Js h.2).symm];refine#[i,j,?_,?_]
 .have:(a*d-b*c)*u=(a*d-b*c)*(i*a+j*c):=by
   have q1:(a*d-b*c)*u=a*(u*d-v*c)+c*(a*v-b*u):=Ln
   rw[q1,ei,ej];grind
  exact Iz hz this
 .have:(a*d-b*c)*v=(a*d-b*c)*(i*b+j*d):=by
   have q1:(a*d-b*c)*v=b*(u*d-v*c)+d*(a*v-b*u):=Ln
   rw[q1,ei,ej];grind
  exact Iz hz this
def Uni.trans{x0 x1 y0 y1:Int}(h:Uni a b c d p0 p1 q0 q1)(k:Uni p0 p1 q0 q1 x0 x1 y0 y1):Uni a b c d x0 x1 y0 y1:=by
 obtain⟨m,n,k1,l,hd,rfl,rfl,rfl,rfl⟩:=h;obtain⟨m',n',k',l',h_,rfl,rfl,rfl,rfl⟩:=k;have dt:(m'*m+n'*k1)*(k'*n+l'*l)-(m'*n+n'*l)*(k'*m+l'*k1)=(m'*l'-n'*k')*(m*l-n*k1):=Ln
 refine#[m'*m+n'*k1,m'*n+n'*l,k'*m+l'*k1,k'*n+l'*l,?_,Ln,Ln,Ln,Ln];rw[dt];rcases hd with e|e<;>rcases h_ with e'|e'<;>rw[e,e']<;>decide
def fc:∀(n:Nat) (a b c d:Int),d.natAbs<=n->∃p0 p1 q0,Lev a b c d p0 p1 q0
 |n,a,b,c,d,hn=>by
  by_cases hd:d=0
  .subst hd;by_cases hb:0<=b
   .exact#[a,b,c,hb,Uni.refl a b c 0]
   .exact#[-a,-b,c,Kn,(Uni.refl a b c 0).neg]
  .match n,hn with
   |0,hn=>exact absurd (Kn:d=0) hd
   |n+1,hn=>
    have lt:=(fdm b d hd).1;obtain⟨p0,p1,q0,h0,hu⟩:=fc n c d (a-b.fdiv d*c) (b-b.fdiv d*d) Kn;exact#[p0,p1,q0,h0,((Uni.refl a b c d).step (b.fdiv d)).trans hu]
def BD(hn:¬a*d=b*c)(g0:0<=g)(g1:g∣b)(g2:g∣d)(g3:∀e,e∣b->e∣d->e∣g):
  ∃w s,FamOf a b c d w g s:=by
 obtain⟨p0,p1,q0,hL⟩:=fc d.natAbs a b c d (Gg _);have hF:=fY hn hL;have hp:=hF.2.1;obtain⟨m,n,k,l,_,e1,e2,e3,e4⟩:=hL.2;obtain⟨m',n',k',l',_,f1,f2,f3,f4⟩:=hL.2.inv;have d1:p1∣g:=g3 p1 #[m',by rw[f2];grind] #[k',by rw[f4];grind];have d2:g∣p1:=by
  rw[e2];exact IA (HZ g1) (HZ g2)
 have:p1=g:=Jt Kn g0 d1 d2;subst this;exact#[_,_,hF]
def FamOf.uniq_lean(f:FamOf a b c d w h s)(e1:x=i*a+j*c)(e2:h=i*b+j*d)(h0:0<=x)(h1:x<=s):x=s:=by
 obtain⟨hw,hh,hs,I_,hu⟩:=f;obtain⟨m,n,k,l,_,f1,f2,f3,f4⟩:=hu.inv;have ex:x=(i*m+j*k)*w+(i*n+j*l)*s:=by rw[e1,f1,f3];grind
 have eh:h=(i*n+j*l)*h:=by
  have:i*b+j*d=(i*n+j*l)*h:=by rw[f2,f4];grind
  rw[<-this];exact e2
 have one:i*n+j*l=1:=by
  have:(i*n+j*l)*h=1*h:=by lia
  exact Hw Kn this
 rw[one]at ex;generalize i*m+j*k=t at ex;have:t*w=x-s:=Kn
 rcases(Kn:t<=-1\/t=0\/1<=t)with z|z|z
 .have:=GN z (show 0<=w by lia);lia
 .subst z;lia
 .have:=GN z (show 0<=w by lia);lia
def notT{c:Prop}[Decidable c](h:(!decide c)=true):¬c:=by
 intro q;rw[decide_eq_true q]at h;cases h
def notF{c:Prop}[Decidable c](h:¬(!decide c)=true):c:=by
 rcases Classical.em c with q|q
 .exact q
 .rw[decide_eq_false q]at h;exact absurd rfl h
def Leaf.o0(l:Leaf):Int:=l.w0*l.a+l.w2*l.b
def Leaf.o1(l:Leaf):Int:=l.w1*l.a+l.w3*l.b
def Leaf.t0(l:Leaf):Int:=l.w0*l.c+l.w2*l.d
def Leaf.t1(l:Leaf):Int:=l.w1*l.c+l.w3*l.d
def cZ(h:w=1\/w=-1\/w=0)(ha:B12 a):(w*a).natAbs<=12:=by
 rw[G1];exact Hv (ub h) (show a.natAbs<=12 by unfold B12 at ha;clear h;lia)
def ue(ha:B12 a)(hb:B12 b):(a*b).natAbs<=144:=by
 unfold B12 at ha hb;rw[G1];exact Go (Hv (show a.natAbs<=12 by lia) (show b.natAbs<=12 by lia)) Ku
def Leaf.sizes(g:l.Good)(h:l.Near n):l.o0.natAbs<=24/\l.o1.natAbs<=24/\l.t0.natAbs<=24/\l.t1.natAbs<=24/\¬l.o0*l.t1=l.o1*l.t0/\(l.o0*l.t1-l.o1*l.t0).natAbs<=288:=by
 obtain⟨h0,h1,h2,h3⟩:=h.unit;have a0:=cZ h0 g.a;have a1:=cZ h1 g.a;have b2:=cZ h2 g.b;have b3:=cZ h3 g.b;have c0:=cZ h0 g.c;have c1:=cZ h1 g.c;have d2:=cZ h2 g.d;have d3:=cZ h3 g.d;have dt:l.o0*l.t1-l.o1*l.t0=(l.w0*l.w3-l.w1*l.w2)*(l.a*l.d-l.b*l.c):=by unfold Leaf.o0 Leaf.o1 Leaf.t0 Leaf.t1;grind
 have dw:(l.w0*l.w3-l.w1*l.w2).natAbs=1:=by
  rcases h.u0 with⟨p,q,r,t⟩|⟨p,q,r,t⟩
  .rw[q,Ju,Jv,G1,p,t]
  .rw[p,Ju,Int.zero_sub,Iy,G1,q,r]
 have da:(l.o0*l.t1-l.o1*l.t0).natAbs=(l.a*l.d-l.b*l.c).natAbs:=by rw[dt,G1,dw,Nat.one_mul]
 refine#[ab24 a0 b2,ab24 a1 b3,ab24 c0 d2,ab24 c1 d3,λz=>g.ne ?_,?_]
 .rw[z,Int.sub_self]at da;exact Int.sub_eq_zero.mp (Ja.mp da.symm)
 .rw[da];exact Go (Ji _ _) (HY (ue g.a g.d) (ue g.b g.c))
def BE:SpD:=λds R=>∃(l:Leaf) (n:Nat),ds=[l.D]/\l.Good/\l.Near n/\∀w h s:Int,FamOf l.o0 l.o1 l.t0 l.t1 w h s->w*h<=288->R (.tup [.int w,.int h,.int s])
def BF(h1:y%h=0/\(x-y/h*s)%w=0):∃i j,x=i*w+j*s/\y=j*h:=by
 refine#[(x-y/h*s)/w,y/h,?_,?_]
 .have:=Hy (x-y/h*s) w;rw[h1.2]at this;rw[GL w]at this;lia
 .have:=Hy y h;rw[h1.1,GL h]at this;lia
def fg(x y:Int):∃g u,Meas x y g u:=by
 obtain⟨p0,p1,q0,hL⟩:=fc y.natAbs 1 x 0 y (Gg _);exact#[p1,p0,tN #[hL.1,hL.2]]
def Meas.gcd{G:Int}(h:Meas x y g u)(g0:0<=G)(g1:G∣x)(g2:G∣y)(g3:∀e,e∣x->e∣y->e∣G):G=g:=by
 obtain⟨h0,⟨i,ei⟩,⟨j,ej⟩,n,en⟩:=h;refine Jt g0 h0 ?_ (g3 g #[i,by rw[ei,GL]] #[j,by rw[ej,GL]]);rw[en];exact IA (HZ g1) (HZ g2)
structure Fm(w h s:Int):Prop where
 w0:0<w
 w1:w<=720
 h0:0<h
 h1:h<=720
 s0:0<=s
 sw:s<w
def BG(f:Fm w1 h1 s1)(k:Fm w2 h2 s2):∃g u w h s A,Meas w1 w2 g u/\w=w1*w2/g/\MetR w1 h1 s1 w2 h2 s2 w h s A:=by
 obtain⟨g,u,M1⟩:=fg w1 w2;obtain⟨k',u',M2⟩:=fg h1 h2;obtain⟨gg,q_,M3⟩:=fg g (h1*h2/k'/h2*s2-h1*h2/k'/h1*s1);exact#[g,u,_,_,_,_,M1,rfl,kR f.w0 k.w0 f.h0 k.h0 M1 M2 M3]
def MetR.high(M:MetR w1 h1 s1 w2 h2 s2 w h s A)(hh:0<h1)(hj:1<=j)(e1:∃i,x=i*w1+j*s1)(e2:∃i k,x=i*w2+k*s2/\j*h1=k*h2):h<=j*h1/\(j*h1=h->0<=x->x<w->x=s):=by
 obtain⟨i,e1⟩:=e1;obtain⟨i',k,e3,e4⟩:=e2;obtain⟨a,b,e5,e6⟩:=M.all x (j*h1) #[i,j,e1,rfl] #[i',k,e3,e4];have hp:0<j*h1:=Gz Kn hh;have hb:1<=b:=by
  rcases(Kn:b<=0\/1<=b)with z|z
  .have:=Hg z (show 0<=h by have:=M.h0;lia);lia
  .exact z
 refine#[?_,λe x0 x1=>?_]
 .have:=GN hb (show 0<=h by have:=M.h0;lia);lia
 .have ob:b=1:=by
   have:b*h=1*h:=by lia
   exact Hw (by have:=M.h0;lia) this
  rw[ob]at e5;have s0:=M.s0;have sw:=M.sw;have:a*w=x-s:=Kn
  rcases(Kn:a<=-1\/a=0\/1<=a)with z|z|z
  .have:=GN z (show 0<=w by lia);lia
  .subst z;lia
  .have:=GN z (show 0<=w by lia);lia
def BH:SpD:=λds R=>∃w1 h1 s1 w2 h2 s2:Int,ds=[.tup [.int w1,.int h1,.int s1],.tup [.int w2,.int h2,.int s2]]/\Fm w1 h1 s1/\Fm w2 h2 s2/\
 ∀w h s A,MetR w1 h1 s1 w2 h2 s2 w h s A->(w*h<=720->R (.tup [.int w,.int h,.int s]))/\(720<w*h->R .non)
def BI{S:Int}(hw:0<w1)(hx:x<w1)(x0:0<=x)(hS:0<=S)(e:S=i*w1+s)(e2:∃i',x=i'*w1+s):∃k,S=x+k*w1/\0<=k:=by
 obtain⟨i',e2⟩:=e2;refine#[i-i',Ln,?_];rcases(Kn:i-i'<=-1\/0<=i-i')with z|z
 .have:=GN z (show 0<=w1 by lia);have:(i-i')*w1=S-x:=by grind
  lia
 .exact z
def InF(w h s x y:Int):Prop:=∃i j,x=i*w+j*s/\y=j*h
def Leaf.Lat(l:Leaf)(x y:Int):Prop:=∃i j,x=i*l.o0+j*l.t0/\y=i*l.o1+j*l.t1
def FamOf.lat(f:FamOf a b c d w h s)(x y:Int):InF w h s x y↔∃i j,x=i*a+j*c/\y=i*b+j*d:=by
 obtain⟨_,_,_,_,hu⟩:=f;obtain⟨m,n,k,l,_,e1,e2,e3,e4⟩:=id hu;obtain⟨m',n',k',l',_,f1,f2,f3,f4⟩:=hu.inv;constructor
 .rintro⟨i,j,rfl,rfl⟩;refine#[i*m+j*k,i*n+j*l,by rw[e1,e3];grind,?_];have z:i*0+j*h=(i*m+j*k)*b+(i*n+j*l)*d:=by rw[e2,e4];grind
  lia
 .rintro⟨i,j,rfl,rfl⟩;refine#[i*m'+j*k',i*n'+j*l',by rw[f1,f3];grind,by rw[f2,f4];grind]
def MetR.lat(M:MetR w1 h1 s1 w2 h2 s2 w h s A)(x y:Int):InF w h s x y↔InF w1 h1 s1 x y/\InF w2 h2 s2 x y:=by
 constructor
 .rintro⟨i,j,rfl,rfl⟩;obtain⟨a1,e1⟩:=M.in1;obtain⟨a2,e2⟩:=M.in2;obtain⟨b1,c1,e3,e4⟩:=M.up1;obtain⟨b2,c2,e5,e6⟩:=M.up2;refine#[#[i*a1+j*b1,j*c1,?_,?_],#[i*a2+j*b2,j*c2,?_,?_]]
  .rw[e1,e3];grind
  .rw[e4];grind
  .rw[e2,e5];grind
  .rw[e6];grind
 .rintro⟨h1,h2⟩;exact M.all x y h1 h2
variable{w' h' s':Int}
def InF.le(hw:0<w)(hh:0<h)(NO:0<w')(NP:0<h')(sub:∀x y,InF w' h' s' x y->InF w h s x y):w*h<=w'*h'/\w<=w'/\h<=h':=by
 obtain⟨i,j,e1,e2⟩:=sub w' 0 #[1,0,Kn,Kn];have j0:j=0:=by
  rcases IC.mp e2.symm with z|z
  .exact z
  .lia
 subst j0;have i1:1<=i:=by
  rcases(Kn:i<=0\/1<=i)with z|z
  .have:=Hg z (show 0<=w by lia);lia
  .exact z
 obtain⟨i',j',e3,e4⟩:=sub s' h' #[0,1,Kn,Kn];have j1:1<=j':=by
  rcases(Kn:j'<=0\/1<=j')with z|z
  .have:=Hg z (show 0<=h by lia);lia
  .exact z
 have a1:=GN i1 (show 0<=w by lia);have a2:=GN j1 (show 0<=h by lia);have b1:w<=w':=Kn
 have b2:h<=h':=Kn
 exact#[Int.mul_le_mul b1 b2 Kn Kn,b1,b2]
def InF.uniq(hw:0<w)(hh:0<h)(hs:0<=s)(I_:s<w)(NO:0<w')(NP:0<h')(Mt:0<=s')(QY:s'<w')(e:∀x y,InF w h s x y↔InF w' h' s' x y):w=w'/\h=h'/\s=s':=by
 obtain⟨_,a1,a2⟩:=InF.le hw hh NO NP (λx y q=>(e x y).mpr q);obtain⟨_,b1,b2⟩:=InF.le NO NP hw hh (λx y q=>(e x y).mp q);have ew:w=w':=Kn
 have eh:h=h':=Kn
 subst ew eh;refine#[rfl,rfl,?_];obtain⟨i,j,e1,e2⟩:=(e s h).mp #[0,1,Kn,Kn];have j1:j=1:=by
  have:j*h=1*h:=by lia
  exact Hw Kn this
 subst j1;have:i*w=s-s':=Kn
 rcases(Kn:i<=-1\/i=0\/1<=i)with z|z|z
 .have:=GN z (show 0<=w by lia);lia
 .subst z;lia
 .have:=GN z (show 0<=w by lia);lia
structure Fam0(w h s:Int):Prop where
 w0:0<w
 h0:0<h
 s0:0<=s
 sw:s<w
def uf(f:Fam0 w1 h1 s1)(k:Fam0 w2 h2 s2):∃w h s,Fam0 w h s/\∀x y,InF w h s x y↔InF w1 h1 s1 x y/\InF w2 h2 s2 x y:=by
 obtain⟨g,u,M1⟩:=fg w1 w2;obtain⟨k',u',M2⟩:=fg h1 h2;obtain⟨gg,q_,M3⟩:=fg g (h1*h2/k'/h2*s2-h1*h2/k'/h1*s1);have M:=kR f.w0 k.w0 f.h0 k.h0 M1 M2 M3;exact#[_,_,_,#[M.w0,M.h0,M.s0,M.sw],M.lat]
def Leaf.fam_ex(g:l.Good)(h:l.Near n):∃w k s,Fam0 w k s/\∀x y,InF w k s x y↔l.Lat x y:=by
 obtain⟨_,_,_,_,ne,_⟩:=Leaf.sizes g h;obtain⟨p0,p1,q0,hL⟩:=fc l.t1.natAbs l.o0 l.o1 l.t0 l.t1 (Gg _);have f:=fY ne hL;exact#[_,_,_,#[f.1,f.2.1,f.2.2.1,f.2.2.2.1],f.lat]
def bQ(ls:List Leaf)(x y:Int):Prop:=∀l∈ls,l.Lat x y
def uh{n:Nat}:∀(ls:List Leaf) (w h s:Int),Fam0 w h s->(∀l∈ls,l.Good/\l.Near n)->∃w' h' s',Fam0 w' h' s'/\∀x y,InF w' h' s' x y↔InF w h s x y/\bQ ls x y
 |[],w,h,s,f,_=>#[w,h,s,f,λx y=>#[λq=>#[q,λl z=>by cases z],λq=>q.1]]
 |l::r,w,h,s,f,g=>by
  obtain⟨w1,h1,s1,f1,e1⟩:=Leaf.fam_ex (g l Gk).1 (g l Gk).2;obtain⟨w2,h2,s2,f2,e2⟩:=uf f f1;obtain⟨w3,h3,s3,f3,e3⟩:=uh r w2 h2 s2 f2 λl' q=>g l' (Gi _ q);refine#[w3,h3,s3,f3,λx y=>?_];rw[e3,e2,e1];constructor
  .rintro⟨⟨a,b⟩,c⟩;exact#[a,λl' q=>(Gh.mp q).elim (λz=>z ▸ b) (c l')]
  .rintro⟨a,b⟩;exact#[#[a,b l Gk],λl' q=>b l' (Gi _ q)]
def cut1(d:D)(ds:List D):cutD (d::ds) (be 1) q8=ds:=by
 unfold cutD;have e1:HT.sIx (d::ds).length 0 (be 1)=1:=by simp[HT.sIx]
 have e2:HT.sIx (d::ds).length (d::ds).length q8=(d::ds).length:=by simp[HT.sIx]
 rw[e1,e2,List.drop_one,List.tail_cons,Gv,Jw,H8]
def BJ:SpD:=λds R=>∃(ls:List Leaf) (n:Nat),ds=[.lst (ls.map Leaf.D)]/\ls≠[]/\(∀l∈ls,l.Good/\l.Near n)/\
 ∀w h s:Int,Fam0 w h s->(∀x y,InF w h s x y↔bQ ls x y)->(w*h<=720->R (.tup [.int w,.int h,.int s]))/\(720<w*h->R .non)
def Pat.Lat:Pat->Int->Int->Prop
 |.mot _ a b c d,x,y=>∃i j,x=i*a+j*c/\y=i*b+j*d
 |.over p q,x,y=>p.Lat x y/\q.Lat x y
 |.sh _ _ p,x,y=>p.Lat x y
 |.mir p,x,y=>p.Lat (-x) y
 |.tur p,x,y=>p.Lat y (-x)
 |.hue _ _ p,x,y=>p.Lat x y
def Leaf.by_lat(l:Leaf)(b0 b1 b2 b3 b4 b5 x y:Int):(l.by b0 b1 b2 b3 b4 b5).Lat x y↔∃u v,l.Lat u v/\x=b0*u+b2*v/\y=b1*u+b3*v:=by
 have e0:(l.by b0 b1 b2 b3 b4 b5).o0=b0*l.o0+b2*l.o1:=by simp only[Leaf.o0,Leaf.o1,Leaf.by];grind
 have e1:(l.by b0 b1 b2 b3 b4 b5).o1=b1*l.o0+b3*l.o1:=by simp only[Leaf.o0,Leaf.o1,Leaf.by];grind
 have e2:(l.by b0 b1 b2 b3 b4 b5).t0=b0*l.t0+b2*l.t1:=by simp only[Leaf.t0,Leaf.t1,Leaf.by];grind
 have e3:(l.by b0 b1 b2 b3 b4 b5).t1=b1*l.t0+b3*l.t1:=by simp only[Leaf.t0,Leaf.t1,Leaf.by];grind
 unfold Leaf.Lat;rw[e0,e1,e2,e3];generalize l.o0=o0;generalize l.o1=o1;generalize l.t0=t0;generalize l.t1=t1;constructor
 .rintro⟨i,j,rfl,rfl⟩;exact#[_,_,#[i,j,rfl,rfl],Ln,Ln]
 .rintro⟨_,_,⟨i,j,rfl,rfl⟩,rfl,rfl⟩;exact#[i,j,Ln,Ln]
def Leaf.dye_lat(l:Leaf)(f g x y:Int):(l.dye f g).Lat x y↔l.Lat x y:=Iff.rfl
def BK(a b:List Leaf)(x y:Int):bQ (a++b) x y↔bQ a x y/\bQ b x y:=by
 constructor
 .intro h;exact#[λl q=>h l (Hk _ q),λl q=>h l (GE _ q)]
 .rintro⟨h1,h2⟩ l q;rcases GD.mp q with q|q
  .exact h1 l q
  .exact h2 l q
def latAll_map{f:Leaf->Leaf}(hf:∀l:Leaf,(f l).Lat x y↔l.Lat u v)(ls:List Leaf):bQ (ls.map f) x y↔bQ ls u v:=by
 constructor
 .intro h l q;exact(hf l).mp (h _ (GK.mpr #[l,q,rfl]))
 .intro h l q;obtain⟨l',q',rfl⟩:=GK.mp q;exact(hf l').mpr (h l' q')
def ui(l:Leaf)(e f x y:Int):(l.by 1 0 0 1 e f).Lat x y↔l.Lat x y:=by
 rw[Leaf.by_lat];constructor
 .rintro⟨u,v,h,e1,e2⟩;have e1:x=u:=by lia
  have e2:y=v:=Kn
  rw[e1,e2];exact h
 .intro h;exact#[x,y,h,Kn,Kn]
def Pat.lat_leaves:∀(p:Pat) (x y:Int),bQ p.leaves x y↔p.Lat x y
 | .mot L a b c d,x,y=>by
  have e0:(bt L a b c d).o0=a:=by simp[Leaf.o0,bt]
  have e1:(bt L a b c d).o1=b:=by simp[Leaf.o1,bt]
  have e2:(bt L a b c d).t0=c:=by simp[Leaf.t0,bt]
  have e3:(bt L a b c d).t1=d:=by simp[Leaf.t1,bt]
  have e:(bt L a b c d).Lat x y↔(Pat.mot L a b c d).Lat x y:=by
   unfold Leaf.Lat;rw[e0,e1,e2,e3];exact Iff.rfl
  rw[<-e];constructor
  .intro h;exact h _ Gk
  .intro h l q;rw[Gf.mp q];exact h
 |.over p q,x,y=>by rw[Pat.leaves,BK,Pat.lat_leaves p,Pat.lat_leaves q,Pat.Lat]
 |.sh a b p,x,y=>by rw[Pat.leaves,latAll_map (λl=>ui l _ _ x y),Pat.lat_leaves p,Pat.Lat]
 | .mir p,x,y=>by
  have e:∀l:Leaf,(l.by (-1) 0 0 1 0 0).Lat x y↔l.Lat (-x) y:=λl=>by
   rw[Leaf.by_lat];constructor
   .rintro⟨u,v,h,e1,e2⟩;have e1:-x=u:=by lia
    have e2:y=v:=Kn
    rw[e1,e2];exact h
   .intro h;exact#[-x,y,h,Kn,Kn]
  rw[Pat.leaves,latAll_map e,Pat.lat_leaves p,Pat.Lat]
 | .tur p,x,y=>by
  have e:∀l:Leaf,(l.by 0 1 (-1) 0 0 0).Lat x y↔l.Lat y (-x):=λl=>by
   rw[Leaf.by_lat];constructor
   .rintro⟨u,v,h,e1,e2⟩;have e1:-x=v:=by lia
    have e2:y=u:=Kn
    rw[e1,e2];exact h
   .intro h;exact#[y,-x,h,Kn,Kn]
  rw[Pat.leaves,latAll_map e,Pat.lat_leaves p,Pat.Lat]
 |.hue f g p,x,y=>by
  rw[Pat.leaves,latAll_map (λl=>(Leaf.dye_lat _ f g x y).trans (ui l _ _ x y)),Pat.lat_leaves p,Pat.Lat]
structure Pat.Fam(p:Pat)(w h s:Int):Prop where
 f:Fam0 w h s
 lat:∀x y,InF w h s x y↔p.Lat x y
def Pat.Fam.uniq(a:p.Fam w h s)(b:p.Fam w' h' s'):w=w'/\h=h'/\s=s':=
 InF.uniq a.f.w0 a.f.h0 a.f.s0 a.f.sw b.f.w0 b.f.h0 b.f.s0 b.f.sw λx y=>(a.lat x y).trans (b.lat x y).symm
def Pat.Fam.mot(k:FamOf a b c d w h s):(Pat.mot L a b c d).Fam w h s:=#[#[k.1,k.2.1,k.2.2.1,k.2.2.2.1],k.lat]
def Pat.Fam.sh(a b:Int)(k:p.Fam w h s):(Pat.sh a b p).Fam w h s:=#[k.f,k.lat]
def Pat.Fam.hue(a b:Int)(k:p.Fam w h s):(Pat.hue a b p).Fam w h s:=#[k.f,k.lat]
def Pat.Fam.mir(k:p.Fam w h s):(Pat.mir p).Fam w h (-s%w):=by
 refine#[#[k.f.w0,k.f.h0,cK k.f.w0,cL k.f.w0],λx y=>?_];show _↔p.Lat (-x) y;rw[<-k.lat];have e:=Hf (-s) w;generalize -s%w=r at e;generalize -s/w=t at e;constructor
 .rintro⟨i,j,rfl,rfl⟩;exact#[j*t-i,j,by rw[e];grind,rfl]
 .rintro⟨i,j,ex,rfl⟩;exact#[j*t-i,j,by rw[e];grind,rfl]
def Pat.Fam.tur(k:p.Fam w h s)(f:FamOf 0 w (-h) s w' h' s'):(Pat.tur p).Fam w' h' s':=by
 refine#[#[f.1,f.2.1,f.2.2.1,f.2.2.2.1],λx y=>?_];show _↔p.Lat y (-x);rw[<-k.lat,f.lat];constructor
 .rintro⟨i,j,rfl,rfl⟩;exact#[i,j,Ln,Ln]
 .rintro⟨i,j,ex,ey⟩;exact#[i,j,Ln,Ln]
def Pat.Fam.over{q:Pat}(k1:p.Fam w1 h1 s1)(k2:q.Fam w2 h2 s2)(M:MetR w1 h1 s1 w2 h2 s2 w h s A):(Pat.over p q).Fam w h s:=by
 refine#[#[M.w0,M.h0,M.s0,M.sw],λx y=>?_];rw[M.lat,k1.lat,k2.lat];exact Iff.rfl
def kX(hw:0<w)(hh:0<h):∃w' h' s',FamOf 0 w (-h) s w' h' s'/\w'*h'=w*h:=by
 have hp:0<w*h:=Gz hw hh;have hn:¬0*s=w* -h:=by rw[H9];lia
 obtain⟨p0,p1,q0,hL⟩:=fc s.natAbs 0 w (-h) s (Gg _);have f:=fY hn hL;refine#[_,_,_,f,?_];have KQ:=Gz f.1 f.2.1;have c:=f.cells;rw[H9]at c;lia
def uj(hn:¬a*d=b*c):∃w h s,FamOf a b c d w h s/\(Pat.mot L a b c d).Fam w h s:=by
 obtain⟨p0,p1,q0,hL⟩:=fc d.natAbs a b c d (Gg _);have f:=fY hn hL;exact#[_,_,_,f,.mot f]
def Pat.fam_ex:∀{p:Pat},p.Wf->∃w h s,p.Fam w h s
 |.mot L a b c d,h=>by
  obtain⟨w,k,s,_,f⟩:=uj (L:=L) h.2.2.2.2.2;exact#[w,k,s,f]
 |.over p q,h=>by
  obtain⟨w1,h1,s1,f1⟩:=Pat.fam_ex h.1;obtain⟨w2,h2,s2,f2⟩:=Pat.fam_ex h.2;obtain⟨w,k,s,f,e⟩:=uf f1.f f2.f;refine#[w,k,s,f,λx y=>?_];rw[e,f1.lat,f2.lat];exact Iff.rfl
 |.sh a b p,h=>by
  obtain⟨w,k,s,f⟩:=Pat.fam_ex h.2.2;exact#[w,k,s,f.sh a b]
 |.mir p,h=>by
  obtain⟨w,k,s,f⟩:=Pat.fam_ex (p:=p) h;exact#[w,k,_,f.mir]
 |.tur p,h=>by
  obtain⟨w,k,s,f⟩:=Pat.fam_ex (p:=p) h;obtain⟨w',k',s',f',_⟩:=kX (s:=s) f.f.w0 f.f.h0;exact#[w',k',s',f.tur f']
 |.hue a b p,h=>by
  obtain⟨w,k,s,f⟩:=Pat.fam_ex h.2.2;exact#[w,k,s,f.hue a b]
def Pat.Fits(p:Pat):Prop:=∃w h s,p.Fam w h s/\w*h<=720
def Pat.fits_mot(ha:B12 a)(hb:B12 b)(hc:B12 c)(hd:B12 d)(hn:¬a*d=b*c):(Pat.mot L a b c d).Fits:=by
 obtain⟨w,h,s,k,f⟩:=uj (L:=L) hn;refine#[w,h,s,f,?_];have kc:=k.cells;unfold B12 at*;have m1:=bN (a:=a) (d:=d) (A:=12) (B:=12) Kn Kn;have m2:=bN (a:=b) (d:=c) (A:=12) (B:=12) Kn Kn;lia
def Pat.Fits.sh(a b:Int)(k:p.Fits):(Pat.sh a b p).Fits:=by
 obtain⟨w,h,s,f,q⟩:=k;exact#[w,h,s,f.sh a b,q]
def Pat.Fits.hue(a b:Int)(k:p.Fits):(Pat.hue a b p).Fits:=by
 obtain⟨w,h,s,f,q⟩:=k;exact#[w,h,s,f.hue a b,q]
def Pat.Fits.mir(k:p.Fits):(Pat.mir p).Fits:=by
 obtain⟨w,h,s,f,q⟩:=k;exact#[w,h,_,f.mir,q]
def Pat.Fits.tur(k:p.Fits):(Pat.tur p).Fits:=by
 obtain⟨w,h,s,f,q⟩:=k;obtain⟨w',k',s',f',e⟩:=kX (s:=s) f.f.w0 f.f.h0;exact#[w',k',s',f.tur f',Kn]
def BL(hL:Rows L)(ha:B12 a)(hb:B12 b)(hc:B12 c)(hd:B12 d):(cY L a b c d).length<=100:=by
 have la:=bF ha;have lb:=bF hb;have lc:=bF hc;have ld:=bF hd;have l1:(";":C_).length=1:=rfl;have l2:(",":C_).length=1:=rfl;have l3:("[":C_).length=1:=rfl;have l4:("]":C_).length=1:=rfl;have ls:=tV hL;have lj:=StrLaws.join_length_le "/" L;have lg:(Txt.join "/" L).length<=72:=by
  have e:Txt.join "/" L=Str.join "/" L:=StrLaws.glued_eq_join _ _;rw[e];exact Go lj ls
 unfold cY
 repeat rw[aG]
 lia
def Pat.text_len:∀{p:Pat},p.Wf->p.text.length+10<=110*2^p.depth
 |.mot L a b c d,h=>by
  have:=BL h.1 h.2.1 h.2.2.1 h.2.2.2.1 h.2.2.2.2.1;show(cY L a b c d).length+10<=110*2^0;lia
 |.over p q,h=>by
  have h1:=Pat.text_len h.1;have h2:=Pat.text_len h.2;have m1:2^p.depth<=2^(max p.depth q.depth):=Hx Ku (Jp _ _);have m2:2^q.depth<=2^(max p.depth q.depth):=Hx Ku (Jq _ _);have l1:("(":C_).length=1:=rfl;have l2:("|":C_).length=1:=rfl;have l3:(")":C_).length=1:=rfl;rw[Pat.text,Pat.depth,Jr]
  repeat rw[aG]
  lia
 |.sh a b p,h=>by
  have h1:=Pat.text_len h.2.2;have la:=bF h.1;have lb:=bF h.2.1;have l1:("s":C_).length=1:=rfl;have l2:(",":C_).length=1:=rfl;have l3:(":":C_).length=1:=rfl;have:0<2^p.depth:=Ia Ku;rw[Pat.text,Pat.depth,G5]
  repeat rw[aG]
  lia
 |.mir p,h=>by
  have h1:=Pat.text_len (p:=p) h;have l1:("m":C_).length=1:=rfl;have:0<2^p.depth:=Ia Ku;rw[Pat.text,Pat.depth,G5,aG];lia
 |.tur p,h=>by
  have h1:=Pat.text_len (p:=p) h;have l1:("t":C_).length=1:=rfl;have:0<2^p.depth:=Ia Ku;rw[Pat.text,Pat.depth,G5,aG];lia
 |.hue f g p,h=>by
  have h1:=Pat.text_len h.2.2;have la:=fb h.1;have lb:=fb h.2.1;have l1:("h":C_).length=1:=rfl;have:0<2^p.depth:=Ia Ku;rw[Pat.text,Pat.depth,G5]
  repeat rw[aG]
  lia
def Pat.leaves_pos:∀p:Pat,0<p.leaves.length
 |.mot ..=>Nat.zero_lt_one
 |.over p q=>by rw[Pat.leaves,Gx];have:=p.leaves_pos;lia
 |.sh _ _ p=>by rw[Pat.leaves,Gm];exact p.leaves_pos
 |.mir p=>by rw[Pat.leaves,Gm];exact p.leaves_pos
 |.tur p=>by rw[Pat.leaves,Gm];exact p.leaves_pos
 |.hue _ _ p=>by rw[Pat.leaves,Gm];exact p.leaves_pos
def Pat.text_short(h:p.Wf)(hd:p.depth<=5):p.text.length<=3510:=by
 have h1:=Pat.text_len h;have h2:2^p.depth<=2^5:=Hx Ku hd;lia
structure Pat.Ok(p:Pat):Prop where
 wf:p.Wf
 deep:p.depth<=5
 fits:p.Fits
def Wraps.of{H:Prop}(h:p.Ok)(hR:∀q:Pat,q.Ok->R q.D):Wraps p H R:=by
 refine#[λ_=>hR p h,λhd=>#[hR _ #[h.wf,?_,h.fits.mir],hR _ #[h.wf,?_,h.fits.tur],λa b ha hb=>hR _ #[#[ha,hb,h.wf],?_,h.fits.sh a b],λ_ f g hf hg=>hR _ #[#[hf,hg,h.wf],?_,h.fits.hue f g]]]<;>(simp only[Pat.depth];lia)
def BM:SpD:=λds R=>∃p q:Pat,ds=[p.D,q.D]/\p.Wf/\q.Wf/\p.depth<=5/\q.depth<=5/\R p.D/\(p.depth<5->q.depth<5->(Pat.over p q).Fits->R (Pat.over p q).D)
def BN:SpD:=λds R=>∃(ns:List Int) (k:Int),ds=[.rol (ns.map D.int),.int k]/\0<=k/\∀p:Pat,p.Ok->R p.D
end My
end
section
open PySem PySem.Spec PyProof.Rows L2
namespace My
def BO:TMS:=λ_ _ _=>False
def hU{X:Cx}[Jm]{st:Se}:MSt X st BO:=⟨ps_never.anti λE s H q=>by
 obtain⟨F0,F,z,M,k,rs,ED,h,e⟩:=q;exact h.elim⟩
end My
end
section
namespace My
open PySem PySem.Spec PyProof.Rows L2
abbrev isSg(c:Nat):Bool:=c==46||(49<=c&&c<=54)
def numL(a:Int):List Nat:=cs (toString a:String)
variable{a:Int}
def uk(h:B12 a){P:Int->Prop}(hP:∀k:Fin 25,P (((k.val:Nat):Int)-12)):P a:=by
 unfold B12 at h;have:=hP #[(a+12).toNat,Kn];have e:(((a+12).toNat:Nat):Int)-12=a:=Kn
 rw[e]at this;exact this
def isNumL(l:List Nat):Prop:=(∃c,(48<=c/\c<=57)/\l=[c])\/(∃c,(48<=c/\c<=50)/\l=[49,c])\/(∃c,(49<=c/\c<=57)/\l=[45,c])\/∃c,(48<=c/\c<=50)/\l=[45,49,c]
def numL_is(h:B12 a):isNumL (numL a):=by
 have key:∀k:Fin 25,(numL (((k.val:Nat):Int)-12))∈([[45,49,50],[45,49,49],[45,49,48],[45,57],[45,56],[45,55],[45,54],[45,53],[45,52],[45,51],[45,50],[45,49],[48],[49],[50],[51],[52],[53],[54],[55],[56],[57],[49,48],[49,49],[49,50]]:List (List Nat)):=Kr
 have h1:=uk (P:=λa=>numL a∈([[45,49,50],[45,49,49],[45,49,48],[45,57],[45,56],[45,55],[45,54],[45,53],[45,52],[45,51],[45,50],[45,49],[48],[49],[50],[51],[52],[53],[54],[55],[56],[57],[49,48],[49,49],[49,50]]:List (List Nat))) h key;revert h1;generalize numL a=l;intro h1;unfold isNumL;simp only[Gh,Hz,or_false]at h1;rcases h1 with e|e|e|e|e|e|e|e|e|e|e|e|e|e|e|e|e|e|e|e|e|e|e|e|e<;>subst e
 all_goals first
  |exact .inl ⟨_,Ku,rfl⟩
  |exact .inr (.inl ⟨_,Ku,rfl⟩)
  |exact .inr (.inr (.inl ⟨_,Ku,rfl⟩))
  |exact .inr (.inr (.inr ⟨_,Ku,rfl⟩))
def endS(c:Nat):Prop:=c=44\/c=59\/c=58\/c=93
def rowsL:List (List Nat)->List Nat
 |[]=>[]
 |[x]=>x
 |x::y::r=>x++47::rowsL (y::r)
variable{c:Nat}
def BP(h:aZ c):isSg c=true:=by
 unfold aZ at h;unfold isSg;rcases h with h|h
 .subst h;rfl
 .have:(decide (49<=c)&&decide (c<=54))=true:=by simp[h]
  rw[this,HV]
def motL(L:List (List Nat))(a b c d:Int):List Nat:=91::(rowsL L++59::(numL a++44::(numL b++59::(numL c++44::(numL d++[93])))))
def Pat.tl:Pat->List Nat
 |.mot L a b c d=>motL (L.map cs) a b c d
 |.over p q=>40::(p.tl++124::(q.tl++[41]))
 |.sh a b p=>115::(numL a++44::(numL b++58::p.tl))
 |.mir p=>109::p.tl
 |.tur p=>116::p.tl
 |.hue f g p=>104::(numL f++(numL g++p.tl))
def ul:∀L:List C_,cs (Str.join "/" L)=rowsL (L.map cs)
 |[]=>rfl
 |[x]=>rfl
 |x::y::L=>by
  show cs (x++"/"++Str.join "/" (y::L))=cs x++47::rowsL ((y::L).map cs);rw[bO,bO,ul (y::L),G6];rfl
def db:∀p:Pat,cs p.text=p.tl
 |.mot L a b c d=>by
  show cs (cY L a b c d)=motL (L.map cs) a b c d;unfold cY motL;have e:Txt.join "/" L=Str.join "/" L:=StrLaws.glued_eq_join _ _;rw[e]
  repeat rw[bO]
  rw[ul];simp only[G6];rfl
 |.over p q=>by
  rw[Pat.text,Pat.tl]
  repeat rw[bO]
  rw[db p,db q];simp only[G6];rfl
 |.sh a b p=>by
  rw[Pat.text,Pat.tl]
  repeat rw[bO]
  rw[db p];simp only[G6];rfl
 |.mir p=>by
  rw[Pat.text,Pat.tl,bO,db p];rfl
 |.tur p=>by
  rw[Pat.text,Pat.tl,bO,db p];rfl
 |.hue f g p=>by
  rw[Pat.text,Pat.tl]
  repeat rw[bO]
  rw[db p];simp only[G6];rfl
def hueL{f:Int}(h:1<=f/\f<=6):numL f=[(48+f).toNat]:=by
 have key:∀k:Fin 6,numL (((k.val:Nat):Int)+1)=[49+k.val]:=Kr
 have:=key #[(f-1).toNat,Kn];have e:(((f-1).toNat:Nat):Int)+1=f:=Kn
 rw[e]at this;rw[this];congr 1;show 49+(f-1).toNat=(48+f).toNat;lia
def rowsT(L:List (List Nat)):List Nat:=L.flatMap λy=>47::y
def um:∀(x:List Nat) (L:List (List Nat)),rowsL (x::L)=x++rowsT L
 |x,[]=>by simp[rowsL,rowsT]
 |x,y::L=>by
  rw[rowsL,um y L];simp[rowsT]
def hV{x y:C_}(h:cs x=cs y):x=y:=by
 obtain⟨a⟩:=x;obtain⟨b⟩:=y;have:a=b:=Jy.mp h;rw[this]
variable{x:Int}
def numS(h:B12 x):numL x=[48]\/∃pre c y,(pre=[]\/pre=[45])/\(49<=c/\c<=57)/\numL x=pre++c::y/\(y=[]\/(c=49/\∃d,(48<=d/\d<=50)/\y=[d])):=by
 rcases numL_is h with⟨c,hc,e⟩|⟨c,hc,e⟩|⟨c,hc,e⟩|⟨c,hc,e⟩
 .by_cases z:c=48
  .exact .inl (by rw[e,z])
  .exact .inr #[[],c,[],.inl rfl,Kn,e,.inl rfl]
 .exact .inr #[[],49,[c],.inl rfl,Ku,e,.inr #[rfl,c,hc,rfl]]
 .exact .inr #[[45],c,[],.inr rfl,hc,e,.inl rfl]
 .exact .inr #[[45],49,[c],.inr rfl,Ku,e,.inr #[rfl,c,hc,rfl]]
variable{A B:Prop}
def ifT{c:Prop}[Decidable c](h:c)(a:A):if c then A else B:=by rw[if_pos h];exact a
def ifdT{p:Prop}[Decidable p](h:p)(a:A):if decide p=true then A else B:=by rw[if_pos (decide_eq_true h)];exact a
def ifdF{p:Prop}[Decidable p](h:¬p)(b:B):if decide p=true then A else B:=by rw[if_neg (by simpa using h)];exact b
def rdF(t:C_)(k:Nat):List (C_×D):=[("text",.str t),("place",.int k)]
def RdM(a:KF)(t:C_)(k:Nat):MS:=[(a,.ins "Reading" (rdF t k))]
variable{o:MO}
def dN{a:KF}:mget [(a,o)] a=be o:=by unfold mget;rw[if_pos rfl]
def hZ{a:KF}{o':MO}:mput [(a,o)] a o'=[(a,o')]:=by unfold mput;rw[if_pos rfl]
variable{t:C_}{k:Nat}
def aS{a:KF}:mget (RdM a t k) a=be (.ins "Reading" (rdF t k)):=dN
def kY:(rdF t k).lookup ("text":C_)=be (.str t):=rfl
def fj:(rdF t k).lookup ("place":C_)=be (.int k):=by
 unfold rdF;rw[Gy,show(("place":C_)==("text":C_))=false by decide+kernel];rfl
def BQ:putD ("place":C_) (.int ((k:Int)+1)) (rdF t k)=rdF t (k+1):=by
 unfold rdF putD;rw[if_neg Kr];unfold putD;rw[if_pos rfl];rfl
def df:(rdF t k).lookup ("may_take":C_)=none:=by
 unfold rdF;rw[Gy,show(("may_take":C_)==("text":C_))=false by decide+kernel,Gy,show(("may_take":C_)==("place":C_))=false by decide+kernel];rfl
def cj:(rdF t k).lookup ("take":C_)=none:=by
 unfold rdF;rw[Gy,show(("take":C_)==("text":C_))=false by decide+kernel,Gy,show(("take":C_)==("place":C_))=false by decide+kernel];rfl
structure At(t:Str)(k:Nat)(l:List Nat):Prop where
 eq:(cs t).drop k=l
 le:k<=t.length
 sz:t.length<=100000
def At.nil(h:At t k []):k=t.length:=by
 have h1:=congrArg Ig h.eq;rw[Hm,bu]at h1;have:=h.le;simp at h1;lia
variable{l:List Nat}
def At.lt(h:At t k (c::l)):k<t.length:=by
 have h1:=congrArg Ig h.eq;rw[Hm,bu]at h1;simp at h1;lia
def At.get(h:At t k (c::l)):(cs t)[k]?=be c:=by
 have h1:=congrArg (·[0]?) h.eq;simpa using h1
def At.next(h:At t k (c::l)):At t (k+1) l:=by
 refine#[?_,h.lt,h.sz];have h1:=congrArg (HF 1) h.eq;rw[List.drop_drop]at h1;simpa using h1
def At.app{t:C_}:∀{x l:List Nat} {k:Nat},At t k (x++l)->At t (k+x.length) l
 |[],_,_,h=>h
 |c::x,l,k,h=>by
  have h1:At t (k+1+x.length) l:=At.app (At.next h);have e:k+1+x.length=k+(c::x).length:=by rw[Gv];lia
  rw[e]at h1;exact h1
variable{al:C_}
def uo:(!(!(Builtin.Str.occurrences al #[[c].toArray] 0 al.length 1).isEmpty))=!decide (c∈cs al):=by
 rw[StrLaws.found_one]
def mayS(al:C_):List Nat->C_|c::_=>if c∈cs al then#[[c].toArray]else ""|[]=>""
def mayN(al:C_):List Nat->Nat|c::_=>if c∈cs al then 1 else 0|[]=>0
def fk(h:c∈cs al):mayS al (c::l)=#[[c].toArray]:=if_pos h
def fo(h:c∈cs al):mayN al (c::l)=1:=if_pos h
def dO(h:c∉cs al):mayS al (c::l)="":=if_neg h
def dP(h:c∉cs al):mayN al (c::l)=0:=if_neg h
def BR:SiD:=λds R=>∃t:C_,ds=[.str t]/\R (rdF t 0)
def BS:SpM:=λds M R RX=>∃(a:KF) (t:C_) (k:Nat) (l:List Nat) (al:C_),ds=[.ptr a,.str al]/\M=RdM a t k/\At t k l/\R (.str (mayS al l)) (RdM a t (k+mayN al l))
def BT:SpM:=λds M R _=>∃(a:KF) (t:C_) (k c:Nat) (l:List Nat) (al:C_),ds=[.ptr a,.str al]/\M=RdM a t k/\At t k (c::l)/\c∈cs al/\R (.str #[[c].toArray]) (RdM a t (k+1))
def BU(h:B12 x):PySem.intText? #[(numL x).toArray]=be x:=
 uk (P:=λx=>PySem.intText? #[(numL x).toArray]=be x) h Kr
def gc(x y:List Nat):((#[x.toArray]:C_)++#[y.toArray]:C_)=#[(x++y).toArray]:=by
 apply hV;rw[bO]
def digits19:c∈cs "123456789"↔49<=c/\c<=57:=by
 refine#[λh=>?_,λ⟨h1,h2⟩=>?_]
 .exact(show ∀c∈cs "123456789",49<=c/\c<=57 by decide+kernel) c h
 .obtain⟨k,rfl⟩:=Nat.le.dest h1;exact(show ∀k,k<9->49+k∈cs "123456789" by decide+kernel) k Kn
def digits02:c∈cs "012"↔48<=c/\c<=50:=by
 have e:cs "012"=[48,49,50]:=rfl;rw[e];simp;lia
def BV(w:List Nat)(c:Nat):Txt.endswith #[(w++[c]).toArray] "1"=decide (c=49):=by
 unfold Txt.endswith;have e1:("1":C_).length=1:=rfl;have e2:(#[(w++[c]).toArray]:C_).length=w.length+1:=by simp[Str.length]
 rw[e1,e2];have e3:decide (0+1<=w.length+1)=true:=Kv
 rw[e3,Bool.true_and,Jw];unfold Builtin.Str.subAt;have e4:(#[(w++[c]).toArray]:C_).cps.extract w.length (w.length+("1":C_).length)=[c].toArray:=by
  apply Jy.mp;simp[Array.toList_extract,e1]
 rw[e4];have e5:("1":C_).cps=[49].toArray:=rfl;rw[e5];by_cases h:c=49
 .subst h;rfl
 .simp[h]
def BW:SpM:=λds M R _=>∃(a:KF) (t:C_) (k:Nat) (x:Int) (e:Nat) (l:List Nat),ds=[.ptr a]/\M=RdM a t k/\B12 x/\endS e/\At t k (numL x++e::l)/\R (.int x) (RdM a t (k+(numL x).length))
def BX:SpM:=λds M R _=>∃(a:KF) (t:C_) (k:Nat) (x y:Int) (e:Nat) (l:List Nat),ds=[.ptr a]/\M=RdM a t k/\B12 x/\B12 y/\endS e/\At t k (numL x++44::(numL y++e::l))/\R (.tup [.int x,.int y]) (RdM a t (k+(numL x).length+1+(numL y).length))
def signs_is:c∈cs ".123456"↔isSg c=true:=by
 have e:cs ".123456"=[46,49,50,51,52,53,54]:=rfl;rw[e];simp;lia
def fq(x:List Nat):(#[x.toArray]:C_).length=x.length:=by simp[Str.length]
def uq(h:isSg c=false):c∉cs ".123456":=λz=>by rw[signs_is.mp z]at h;cases h
def S_line_from:SpM:=λds M R _=>∃(a:KF) (t:C_) (k n m:Nat) (x l:List Nat),ds=[.ptr a,.int n,.int m]/\M=RdM a t k/\At t k (x++l)/\(∀c∈x,aZ c)/\n<=x.length/\x.length<=m/\m<=8/\(x.length=m\/∃c l',l=c::l'/\isSg c=false)/\R (.str #[x.toArray]) (RdM a t (k+x.length))
def BY{p a:KF}(h:p≠a):mget ((p,o)::RdM a t k) a=be (.ins "Reading" (rdF t k)):=by
 unfold mget;rw[if_neg h];exact dN
variable{M:MS}
def cM{p:KF}:mget ((p,o)::M) p=be o:=by unfold mget;rw[if_pos rfl]
def ut{p:KF}{o':MO}:mput ((p,o)::M) p o'=(p,o')::M:=by unfold mput;rw[if_pos rfl]
def kZ{p:KF}:mdel ((p,o)::M) p=M:=by unfold mdel;rw[if_pos rfl]
structure RowsL(L:List (List Nat))(w:Nat):Prop where
 many:1<=L.length/\L.length<=8
 w1:1<=w
 w8:w<=8
 each:∀x∈L,x.length=w/\∀c∈x,aZ c
def lstD(L:List (List Nat)):List D:=L.map λx=>D.str #[x.toArray]
def BZ:SpM:=λds M R _=>∃(a:KF) (t:C_) (k:Nat) (L:List (List Nat)) (w:Nat) (l:List Nat),ds=[.ptr a]/\M=RdM a t k/\RowsL L w/\At t k (rowsL L++59::l)/\R (.lst (lstD L)) (RdM a t (k+(rowsL L).length))
def hmX(w h s:Int)(i j:Int):Int:=(i-j/h*s)%w
def hRow(w h s:Int)(j:Nat):Nat->List Nat->List ((Int×Int)×Int)->List ((Int×Int)×Int)
 |_,[],kv=>kv
 |i,c::r,kv=>hRow w h s j (i+1) r (if c=46 then kv else sdD kv (hmX w h s i j) ((j:Int)%h) ((c:Int)-48))
def hAll(w h s:Int):Nat->List (List Nat)->List ((Int×Int)×Int)->List ((Int×Int)×Int)
 |_,[],kv=>kv
 |j,x::r,kv=>hAll w h s (j+1) r (hRow w h s j 0 x kv)
def uu(kv:List ((Int×Int)×Int))(x y v:Int):(sdD kv x y v).length<=kv.length+1:=by
 unfold sdD;split
 .lia
 .rw[Gx];simp
def B0(h:49<=c/\c<=54):∃i b7,Builtin.Str.occurrences ".123456" #[[c].toArray] 0 (".123456":C_).length 1=i::b7/\((i:Nat):Int)=(c:Int)-48:=by
 rcases(Kn:c=49\/c=50\/c=51\/c=52\/c=53\/c=54)with e|e|e|e|e|e<;>subst e
 .exact#[1,[],Kr,Ku]
 .exact#[2,[],Kr,Ku]
 .exact#[3,[],Kr,Ku]
 .exact#[4,[],Kr,Ku]
 .exact#[5,[],Kr,Ku]
 .exact#[6,[],Kr,Ku]
def B1{x:List Nat}(h:∀c∈x,aZ c):(#[x.toArray]:C_).cps.all (·<128)=true:=by
 rw[<-Iq,G4];intro c hc;have:=h c hc;unfold aZ at this;simp;lia
def B2{L:List (List Nat)}{j:Nat}{d:D}(h:(lstD L)[j]?=be d):∃x,L[j]?=be x/\d=.str #[x.toArray]:=by
 unfold lstD at h;rw[Gr]at h;cases e:L[j]? with
 |none=>rw[e]at h;cases h
 |some x=>rw[e]at h;cases h;exact#[x,rfl,rfl]
variable{i:Nat}
def B3{x:List Nat}{d:D}(h:(bL #[x.toArray])[i]?=be d):∃c,x[i]?=be c/\d=.str #[[c].toArray]:=by
 unfold bL at h;rw[Gr]at h;cases e:x[i]? with
 |none=>simp[e]at h
 |some c=>simp[e]at h;exact#[c,rfl,h.symm]
def uv{α:Type}{l:List α}{x:α}(h:l[i]?=be x):l.drop i=x::l.drop (i+1):=by
 have hi:i<l.length:=(Gq.mp h).1;rw[Hj hi];congr 1;rw[GH hi]at h;exact Option.some.inj h
def B4:SpM:=λds M R RX=>∃(L:List (List Nat)) (wd:Nat) (w h s:Int),ds=[.lst (lstD L),.tup [.int w,.int h,.int s]]/\RowsL L wd/\0<w/\0<h/\h<1073741824/\0<=s/\s<1073741824/\R (.dti (hAll w h s 0 L [])) M
def moF(k:Nat)(sh:D)(hu:List ((Int×Int)×Int)):List (C_×D):=[("place",.int k),("shifts",sh),("hues",.dti hu)]
def B5:SiD:=λds R=>∃(k:Nat) (L:List (List Nat)) (wd:Nat) (a b c d:Int),ds=[.int k,.lst (lstD L),.tup [.int a,.int b],.tup [.int c,.int d]]/\RowsL L wd/\B12 a/\B12 b/\B12 c/\B12 d/\¬a*d=b*c/\
 ∀w h s,FamOf a b c d w h s->R (moF k (.tup [.int w,.int h,.int s]) (hAll w h s 0 L []))
variable{v:My.D}
def B6:putD ("place":C_) v []=([("place",v)]:List (C_×D)):=rfl
variable{u:My.D}
def B7:putD ("shifts":C_) v [("place",u)]=([("place",u),("shifts",v)]:List (C_×D)):=by
 unfold putD;rw[if_neg Kr];rfl
def B8{t:D}:putD ("hues":C_) v [("place",t),("shifts",u)]=([("place",t),("shifts",u),("hues",v)]:List (C_×D)):=by
 unfold putD;rw[if_neg Kr];unfold putD;rw[if_neg Kr];rfl
def uw:([("place",u),("shifts",v)]:List (C_×D)).lookup ("shifts":C_)=be v:=by
 rw[Gy,show(("shifts":C_)==("place":C_))=false by decide+kernel];rfl
def B9:SiD:=λds R=>∃(x y:C_) (fs gs:List (C_×D)),ds=[.obj x fs,.obj y gs]/\R [("above",.obj x fs),("below",.obj y gs)]
def Ca:SiD:=λds R=>∃(x:C_) (fs:List (C_×D)) (a b:Int),ds=[.obj x fs,.int a,.int b]/\R [("form",.obj x fs),("x",.int a),("y",.int b)]
def Cb:SiD:=λds R=>∃(x:C_) (fs:List (C_×D)),ds=[.obj x fs]/\R [("form",.obj x fs)]
def Cd:SiD:=λds R=>∃(x:C_) (fs:List (C_×D)),ds=[.obj x fs]/\R [("form",.obj x fs)]
def Ce:SiD:=λds R=>∃(x:C_) (fs:List (C_×D)) (a b:Int),ds=[.obj x fs,.int a,.int b]/\R [("form",.obj x fs),("old",.int a),("new",.int b)]
def FormOf:Pat->D->Prop
 |.mot L a b c d,v=>∃(k:Nat) (w h s:Int),v=.obj "Motif" (moF k (.tup [.int w,.int h,.int s]) (hAll w h s 0 (L.map cs) []))/\FamOf a b c d w h s
 |.over p q,v=>∃u u',v=.obj "Over" [("above",u),("below",u')]/\FormOf p u/\FormOf q u'
 |.sh a b p,v=>∃u,v=.obj "Shifted" [("form",u),("x",.int a),("y",.int b)]/\FormOf p u
 |.mir p,v=>∃u,v=.obj "Mirror" [("form",u)]/\FormOf p u
 |.tur p,v=>∃u,v=.obj "Turn" [("form",u)]/\FormOf p u
 |.hue f g p,v=>∃u,v=.obj "Rehue" [("form",u),("old",.int f),("new",.int g)]/\FormOf p u
def Pat.cls:Pat->C_
 |.mot ..=>"Motif"|.over ..=>"Over"|.sh ..=>"Shifted"|.mir ..=>"Mirror"|.tur ..=>"Turn"|.hue ..=>"Rehue"
variable{f g:C_}{r:List (C_×My.D)}
def bR(h:(f==g)=false)(hr:r.lookup f=q8):(((g,v)::r:List (C_×D))).lookup f=none:=by
 rw[Gy,h];exact hr
structure ObjM(p:Pat)(fs:List (Str×D)):Prop where
 nl:noLF fs=true
 fam:fs.lookup ("family":C_)=q8
 shw:fs.lookup ("shows":C_)=q8
variable{p:Pat}
def FormOf.objm:∀{v:D},FormOf p v->∃fs,v=.obj p.cls fs/\ObjM p fs:=by
 have n1 {g:C_} {u:D} {f:C_} (h:(f==g)=false):([(g,u)]:List (C_×D)).lookup f=none:=bR h rfl;have nn {fs:List (C_×D)} {x:C_} (h:noLF fs=true):noL (.obj x fs)=true:=by simp[noL,h]
 induction p with
 |mot L a b c d=>
  rintro _⟨k,w,h,s,rfl,_⟩;exact#[_,rfl,by simp[noL,noLF,noLs,moF],bR Kr (bR Kr (n1 Kr)),bR Kr (bR Kr (n1 Kr))]
 |over p q i j=>
  rintro _⟨u,u',rfl,h1,h2⟩;obtain⟨fs,rfl,o1⟩:=i h1;obtain⟨gs,rfl,o2⟩:=j h2;exact#[_,rfl,by simp[noLF,nn o1.nl,nn o2.nl],bR Kr (n1 Kr),bR Kr (n1 Kr)]
 |sh a b p i=>
  rintro _⟨u,rfl,h1⟩;obtain⟨fs,rfl,o1⟩:=i h1;exact#[_,rfl,by simp[noL,noLF,o1.nl],bR Kr (bR Kr (n1 Kr)),bR Kr (bR Kr (n1 Kr))]
 |mir p i=>
  rintro _⟨u,rfl,h1⟩;obtain⟨fs,rfl,o1⟩:=i h1;exact#[_,rfl,by simp[noLF,nn o1.nl],n1 Kr,n1 Kr]
 |tur p i=>
  rintro _⟨u,rfl,h1⟩;obtain⟨fs,rfl,o1⟩:=i h1;exact#[_,rfl,by simp[noLF,nn o1.nl],n1 Kr,n1 Kr]
 |hue f g p i=>
  rintro _⟨u,rfl,h1⟩;obtain⟨fs,rfl,o1⟩:=i h1;exact#[_,rfl,by simp[noL,noLF,o1.nl],bR Kr (bR Kr (n1 Kr)),bR Kr (bR Kr (n1 Kr))]
variable{L:List C_}
def Cf(h:Rows L):∃w,RowsL (L.map cs) w:=by
 obtain⟨h1,w,h2,h3⟩:=h;refine#[w,by rw[Gm];exact h1,h2.1,h2.2,λx hx=>?_];obtain⟨l,hl,rfl⟩:=GK.mp hx;rw[bu];exact h3 l hl
def ux{f:Int}(h:1<=f/\f<=6):(48+f).toNat∈cs "123456":=by
 have e:cs "123456"=[49,50,51,52,53,54]:=rfl;rw[e];simp;lia
def Cg:SpM:=λds M R _=>∃(g:KF) (t:C_) (k:Nat) (L:List C_) (a b c d:Int) (l:List Nat),ds=[.ptr g]/\M=RdM g t k/\At t k (motL (L.map cs) a b c d++l)/\(Pat.mot L a b c d).Wf/\∀v,FormOf (.mot L a b c d) v->R v (RdM g t (k+(motL (L.map cs) a b c d).length))
def dg(j:Nat):SpM:=λds M R _=>∃(a:KF) (t:C_) (k:Nat) (p:Pat) (l:List Nat) (d:Nat),ds=[.ptr a,.int d]/\M=RdM a t k/\At t k (p.tl++l)/\d+j=6/\1<=j/\p.Wf/\p.depth+d<=5/\∀v,FormOf p v->R v (RdM a t (k+p.tl.length))
variable{ds:List My.D}{R:My.D->MS->Prop}{RX:XDM}
def Ch:¬dg 0 ds M R RX:=by
 rintro⟨_,_,_,_,_,_,_,_,_,_,h,_⟩;exact absurd h Ku
def uy(j:Nat):SpM:=λds M R _=>∃(a:KF) (t:C_) (k:Nat) (p q:Pat) (l:List Nat) (d:Nat),ds=[.ptr a,.int d]/\M=RdM a t k/\At t k (p.tl++124::(q.tl++41::l))/\d+j=6/\1<=j/\p.Wf/\q.Wf/\p.depth+d<=5/\q.depth+d<=5/\∀u u',FormOf p u->FormOf q u'->R (.obj "Over" [("above",u),("below",u')]) (RdM a t (k+p.tl.length+1+q.tl.length+1))
def uz(j:Nat):SpM:=λds M R _=>∃(a:KF) (t:C_) (k:Nat) (x y:Int) (p:Pat) (l:List Nat) (d:Nat),ds=[.ptr a,.int d]/\M=RdM a t k/\At t k (numL x++44::(numL y++58::(p.tl++l)))/\d+j=6/\1<=j/\B12 x/\B12 y/\p.Wf/\p.depth+d<=5/\∀u,FormOf p u->R (.obj "Shifted" [("form",u),("x",.int x),("y",.int y)]) (RdM a t (k+(numL x).length+1+(numL y).length+1+p.tl.length))
def va(j:Nat):SpM:=λds M R _=>∃(a:KF) (t:C_) (k:Nat) (f g:Int) (p:Pat) (l:List Nat) (d:Nat),ds=[.ptr a,.int d]/\M=RdM a t k/\At t k ((48+f).toNat::(48+g).toNat::(p.tl++l))/\d+j=6/\1<=j/\(1<=f/\f<=6)/\(1<=g/\g<=6)/\p.Wf/\p.depth+d<=5/\∀u,FormOf p u->R (.obj "Rehue" [("form",u),("old",.int f),("new",.int g)]) (RdM a t (k+2+p.tl.length))
def Pat.cls_mem(p:Pat):p.cls∈(["Motif","Over","Shifted","Mirror","Turn","Rehue"]:List C_):=by
 cases p<;>simp[Pat.cls]
variable{hu:List ((Int×Int)×Int)}
def mo_shifts{sh:D}:(moF k sh hu).lookup ("shifts":C_)=be sh:=by
 unfold moF;rw[Gy,show(("shifts":C_)==("place":C_))=false by decide+kernel];rfl
def Ci{sh:D}:(moF k sh hu).lookup ("hues":C_)=be (.dti hu):=by
 unfold moF;rw[Gy,show(("hues":C_)==("place":C_))=false by decide+kernel,Gy,show(("hues":C_)==("shifts":C_))=false by decide+kernel];rfl
def fu(h:(g==f)=false):(((f,u)::(g,v)::r:List (C_×D))).lookup g=be v:=by
 rw[Gy,h,Gy,beq_self_eq_true]
def lf{e:C_}{t:D}(h1:(g==e)=false)(h2:(g==f)=false):(((e,t)::(f,u)::(g,v)::r:List (C_×D))).lookup g=be v:=by
 rw[Gy,h1];exact fu h2
variable{w s:Int}
def Pat.Fits.small(h:p.Fits){k:Int}(f:p.Fam w k s):0<w/\w<=720/\0<k/\k<=720/\0<=s/\s<w:=by
 obtain⟨w',k',s',f',hb⟩:=h;obtain⟨rfl,rfl,rfl⟩:=f.uniq f';obtain⟨h1,h2⟩:=cX f.f.w0 f.f.h0;exact#[f.f.w0,Kn,f.f.h0,Kn,f.f.s0,f.f.sw]
def Pat.Fits.over_parts{q:Pat}(hp:p.Wf)(hq:q.Wf)(h:(Pat.over p q).Fits):p.Fits/\q.Fits:=by
 obtain⟨w,k,s,f,hb⟩:=h;obtain⟨w1,k1,s1,f1⟩:=Pat.fam_ex hp;obtain⟨w2,k2,s2,f2⟩:=Pat.fam_ex hq;have l1:=(InF.le f1.f.w0 f1.f.h0 f.f.w0 f.f.h0 (λx y z=>(f1.lat x y).mpr ((f.lat x y).mp z).1)).1;have l2:=(InF.le f2.f.w0 f2.f.h0 f.f.w0 f.f.h0 (λx y z=>(f2.lat x y).mpr ((f.lat x y).mp z).2)).1;exact#[#[w1,k1,s1,f1,Kn],#[w2,k2,s2,f2,Kn]]
variable{b:Int}
def Pat.Fits.of_sh(h:(Pat.sh a b p).Fits):p.Fits:=by
 obtain⟨w,k,s,f,hb⟩:=h;exact#[w,k,s,#[f.f,f.lat],hb]
def Pat.Fits.of_hue(h:(Pat.hue a b p).Fits):p.Fits:=by
 obtain⟨w,k,s,f,hb⟩:=h;exact#[w,k,s,#[f.f,f.lat],hb]
def Pat.Fits.of_mir(hp:p.Wf)(h:(Pat.mir p).Fits):p.Fits:=by
 obtain⟨w,k,s,f,hb⟩:=h;obtain⟨w1,k1,s1,f1⟩:=Pat.fam_ex hp;obtain⟨rfl,rfl,_⟩:=f.uniq f1.mir;exact#[_,_,_,f1,hb]
def Pat.Fits.of_tur(hp:p.Wf)(h:(Pat.tur p).Fits):p.Fits:=by
 obtain⟨w,k,s,f,hb⟩:=h;obtain⟨w1,k1,s1,f1⟩:=Pat.fam_ex hp;obtain⟨w',k',s',f',e⟩:=kX (s:=s1) f1.f.w0 f1.f.h0;obtain⟨rfl,rfl,_⟩:=f.uniq (f1.tur f');exact#[_,_,_,f1,Kn]
def bU(j:Nat)(x:C_):SpX:=λds R _=>∃(p:Pat) (v:D),ds=[v]/\FormOf p v/\p.Wf/\p.depth<j/\p.cls=x/\p.Fits/\∀w h s,p.Fam w h s->R (.tup [.int w,.int h,.int s])
def fv{x:C_}:¬ofX (bU 0 x) ds M R RX:=by
 rintro⟨_,_,_,_,_,h,_⟩;exact absurd h (Jz _)
def lookD_app(x y v X Y:Int):∀kv:List ((Int×Int)×Int),lookD (kv++[((x,y),v)]) X Y=match lookD kv X Y with|some u=>be u|none=>if x=X/\y=Y then be v else q8
 |[]=>rfl
 |((a,b),h)::r=>by
  show lookD (((a,b),h)::(r++[((x,y),v)])) X Y=_;unfold lookD;by_cases e:a=X/\b=Y
  .rw[if_pos e,if_pos e]
  .rw[if_neg e,if_neg e];exact lookD_app x y v X Y r
def Cj(kv:List ((Int×Int)×Int))(x y v X Y:Int):lookD (sdD kv x y v) X Y=match lookD kv X Y with|some u=>be u|none=>if x=X/\y=Y then be v else none:=by
 unfold sdD;split
 .rename_i hs;cases e:lookD kv X Y with
  |some u=>rfl
  |none=>
   show q8=_;rw[if_neg];rintro⟨rfl,rfl⟩;rw[e]at hs;cases hs
 .exact lookD_app x y v X Y kv
def look_row(w h s:Int)(j:Nat)(X Y:Int):∀(x:List Nat) (i:Nat) (kv:List ((Int×Int)×Int)),lookD (hRow w h s j i x kv) X Y=match lookD kv X Y with|some u=>be u|none=>(scanRow (λi=>decide (hmX w h s i j=X/\(j:Int)%h=Y)) i x).map λc=>(c:Int)-48
 |[],i,kv=>by
  rw[hRow,scanRow];cases lookD kv X Y<;>rfl
 |c::r,i,kv=>by
  rw[hRow,look_row w h s j X Y r (i+1),scanRow];by_cases r_:c=46
  .rw[if_pos r_,if_neg (c:=c≠46/\_) (λz=>z.1 r_)]
  .rw[if_neg r_,Cj];cases lookD kv X Y with
   |some u=>rfl
   |none=>
    by_cases e:hmX w h s i j=X/\(j:Int)%h=Y
    .rw[if_pos (c:=c≠46/\_) #[r_,decide_eq_true e]];show(match (if hmX w h s i j=X/\(j:Int)%h=Y then be ((c:Int)-48)else q8)with|some u=>be u|none=>_)=_;rw[if_pos e];rfl
    .rw[if_neg (c:=c≠46/\_) (λz=>e (of_decide_eq_true z.2))];show(match (if hmX w h s i j=X/\(j:Int)%h=Y then be ((c:Int)-48)else q8)with|some u=>be u|none=>_)=_;rw[if_neg e]
def vb(w h s X Y:Int):∀(L:List C_) (j:Nat) (kv:List ((Int×Int)×Int)),lookD (hAll w h s j (L.map cs) kv) X Y=match lookD kv X Y with|some u=>be u|none=>(bP (λi j=>decide (hmX w h s i j=X/\j%h=Y)) j L).map λc=>(c:Int)-48
 |[],j,kv=>by
  rw[Hn,hAll,bP];cases lookD kv X Y<;>rfl
 |x::r,j,kv=>by
  rw[GJ,hAll,vb w h s X Y r (j+1),look_row,bP];cases lookD kv X Y with
  |some u=>rfl
  |none=>
   show(match (scanRow (λi=>decide (hmX w h s i j=X/\(j:Int)%h=Y)) 0 (cs x)).map (λc=>(c:Int)-48)with|some u=>be u|none=>_)=_;cases scanRow (λi=>decide (hmX w h s i j=X/\(j:Int)%h=Y)) 0 (cs x)<;>rfl
variable{h:Int}
def Ck{c d:Int}(F:FamOf a b c d w h s)(hn:¬a*d=b*c)(x y i j:Int):decide (hmX w h s i j=hmX w h s x y/\j%h=y%h)=onB a b c d (x-i) (y-j):=by
 have hw:=F.1;have hh:=F.2.1;have key:(hmX w h s i j=hmX w h s x y/\j%h=y%h)↔InF w h s (x-i) (y-j):=by
  unfold hmX;constructor
  .rintro⟨e1,e2⟩;have dy:=Hy y h;have dj:=Hy j h;have m1:=Hy (x-y/h*s) w;have m2:=Hy (i-j/h*s) w;refine#[(x-y/h*s)/w-(i-j/h*s)/w,y/h-j/h,?_,?_]
   .rw[ID,ID,GL ((x-y/h*s)/w) w,GL ((i-j/h*s)/w) w];lia
   .rw[ID,GL (y/h) h,GL (j/h) h];lia
  .rintro⟨m,q,ex,ey⟩;have QZ:y=j+q*h:=by lia
   have OX:x=i+(m*w+q*s):=Kn
   subst OX QZ;rw[JA,JB _ _ Kn];refine#[?_,rfl];have e:i+(m*w+q*s)-(j/h+q)*s=i-j/h*s+m*w:=by rw[IE];lia
   rw[e,JA]
 unfold onB;congr 1;apply propext;rw[key,F.lat];constructor
 .rintro⟨m,q,eu,ev⟩;exact tM eu ev
 .exact λz=>ud hn z
def Cl(h:49<=c/\c<=54):cell [0,1,2,3,4,5,6] ((c:Int)-48)=(c:Int)-48:=by
 rcases(Kn:c=49\/c=50\/c=51\/c=52\/c=53\/c=54)with e|e|e|e|e|e<;>subst e<;>rfl
def motif_shows{c d:Int}(hL:Rows L)(F:FamOf a b c d w h s)(hn:¬a*d=b*c)(x y:Int):(lookD (hAll w h s 0 (L.map cs) []) (hmX w h s x y) (y%h)).getD 0=(bt L a b c d).shows x y:=by
 rw[vb];show((bP (λi j=>decide (hmX w h s i j=hmX w h s x y/\j%h=y%h)) 0 L).map λc=>(c:Int)-48).getD 0=_;have e:(λi j=>decide (hmX w h s i j=hmX w h s x y/\j%h=y%h))=λi j=>onB a b c d (1*x+0*y+0-i) (0*x+1*y+0-j):=by
  funext i j;rw[Ck F hn];congr 1<;>lia
 rw[e];show _=match bP (λi j=>onB a b c d (1*x+0*y+0-i) (0*x+1*y+0-j)) 0 L with|some c=>cell [0,1,2,3,4,5,6] ((c:Int)-48)|none=>0
 cases q:bP (λi j=>onB a b c d (1*x+0*y+0-i) (0*x+1*y+0-j)) 0 L with
 |none=>rfl
 |some c=>
  have hc:49<=c/\c<=54:=kU (λl' q=>let ⟨_,_,_,h⟩:=hL;(h l' q).2) q;exact(Cl hc).symm
def bV(j:Nat)(x:C_):SpX:=λds R _=>∃(p:Pat) (v:D) (X Y:Int),ds=[v,.int X,.int Y]/\FormOf p v/\p.Wf/\p.depth<j/\p.cls=x/\R (.int (p.show X Y))
def fz{x:C_}:¬ofX (bV 0 x) ds M R RX:=by
 rintro⟨_,_,_,_,_,_,_,h,_⟩;exact absurd h (Jz _)
structure PatOf(p:Pat)(w h s:Int)(fs:List (Str×D)):Prop extends Pat.Fam p w h s where
 form:∃v,fs.lookup ("form":C_)=be v/\FormOf p v
 nl:noLF fs=true
def bW(p:Pat)(d:D):Prop:=∃w h s fs,d=.obj "Pattern" fs/\fs.lookup ("text":C_)=be (.str p.text)/\fs.lookup ("shifts":C_)=be (.tup [.int w,.int h,.int s])/\PatOf p w h s fs
def bn(x:Int):Prop:=-1000000000000<=x/\x<=1000000000000
def Pat.show_le(h:p.Wf)(hd:p.depth<=40)(x y:Int):0<=p.show x y/\p.show x y<=6:=by
 rw[<-Pat.show_leaves h hd];exact tW x y (Pat.leaf_ok h hd)
def aV(h:Int):Nat:=if h=0 then 46 else(48+h).toNat
def aI(p:Pat)(x y:Int)(n:Nat):Str:=#[((Gj n).map λ(k:Nat)=>aV (p.show (x+(k:Int)) y)).toArray]
def ia(p:Pat)(x y:Int)(n:Nat):(aI p x y n).length=n:=by simp[aI,Str.length]
def vc(h0:0<=h)(h6:h<=6):atI (cs ".123456") h=be (aV h):=by
 rcases(Kn:h=0\/h=1\/h=2\/h=3\/h=4\/h=5\/h=6)with e|e|e|e|e|e|e<;>subst e<;>decide+kernel
def range2_int{i j:Int}{x:D}(h:((Gj (j-i).toNat).map λk=>D.int (i+((k:Nat):Int)))[k]?=be x):k<(j-i).toNat/\x=.int (i+(k:Int)):=by
 have hk:k<(j-i).toNat:=by simpa using(Gq.mp h).1
 refine#[hk,?_];simp[hk]at h;exact h.symm
def vd:∀L:List C_,cs (Str.join "" L)=L.flatMap cs
 |[]=>rfl
 |[x]=>by simp[Str.join]
 |x::y::r=>by
  show cs (x++""++Str.join "" (y::r))=_;rw[bO,bO,vd (y::r),tT];simp
def Cm(f:Nat->Nat)(n:Nat):Str.join "" ((Gj n).map λi=>(#[[f i].toArray]:C_))=#[((Gj n).map f).toArray]:=by
 apply hV;rw[vd,List.flatMap_map];show(Gj n).flatMap (λi=>[f i])=(Gj n).map f;rw[List.map_eq_flatMap]
def Cn:SiD:=λds R=>∃(t:C_) (w h s:Int) (x:C_) (fs:List (C_×D)),ds=[.str t,.tup [.int w,.int h,.int s],.obj x fs]/\R [("text",.str t),("shifts",.tup [.int w,.int h,.int s]),("form",.obj x fs)]
def ve:SpX:=λds R _=>∃p:Pat,ds=[.str p.text]/\p.Ok/\∀d,bW p d->R d
def Co{R:D->Prop}{RX:XD}(ok:p.Ok)(h:∀d,bW p d->R d):ve [.str p.text] R RX:=#[p,rfl,ok,h]
def Cp:SpX:=λds R RX=>∃x y:Int,ds=[.int x,.int y]/\(bn x/\bn y->R .non)/\(¬(bn x/\bn y)->RX "TooFar" [])
def Cq:SpX:=λds R RX=>∃(p:Pat) (d:D) (x y:Int),ds=[d,.int x,.int y]/\bW p d/\p.Ok/\(bn x/\bn y->R (.int (p.show x y)))/\(¬(bn x/\bn y)->RX "TooFar" [])
def Cr:SpD:=λds R=>∃(p:Pat) (d:D) (x y:Int) (n:Nat),ds=[d,.int x,.int y,.int n]/\bW p d/\p.Ok/\n<=1000/\bn x/\bn (x+n-1)/\bn y/\R (.str (aI p x y n))
def rowD(p:Pat)(x y:Int)(n:Nat):List D:=(Gj n).map λ(i:Nat)=>D.str #[[aV (p.show (x+(i:Int)) y)].toArray]
def vf(p:Pat)(x y:Int)(k:Nat):rowD p x y k++[D.str #[[aV (p.show (x+(k:Int)) y)].toArray]]=rowD p x y (k+1):=by
 unfold rowD;rw[HD,GM];rfl
variable{n:Nat}
def vg(p:Pat)(x y:Int)(hn:n<=1000):∃ys,cJ (rowD p x y n)=be ys/\(ys.map (·.length)).sum+ys.length*("":C_).length<=1000000/\Txt.join "" ys=aI p x y n:=by
 have e1:rowD p x y n=((Gj n).map λ(i:Nat)=>(#[[aV (p.show (x+(i:Int)) y)].toArray]:C_)).map D.str:=by unfold rowD;rw[HG];rfl
 rw[e1];refine#[_,kT _,?_,(StrLaws.glued_eq_join _ _).trans (Cm (λi=>aV (p.show (x+(i:Int)) y)) n)];rw[tU (w:=1) (λl hl=>by obtain⟨i,_,rfl⟩:=GK.mp hl;rfl),Gm,IF,show("":C_).length=0 from rfl];lia
def Cs{n:Int}:x.fmod n=0↔n∣x:=#[Int.dvd_of_fmod_eq_zero,Iw]
def Ct(a b c d u v i j:Int):onB a b c d (u+(i*a+j*c)) (v+(i*b+j*d))=onB a b c d u v:=by
 unfold onB;have e1:(u+(i*a+j*c))*d-(v+(i*b+j*d))*c=(u*d-v*c)+(a*d-b*c)*i:=Ln
 have e2:a*(v+(i*b+j*d))-b*(u+(i*a+j*c))=(a*v-b*u)+(a*d-b*c)*j:=Ln
 rw[e1,e2];simp only[Cs];have h1:(a*d-b*c∣u*d-v*c+(a*d-b*c)*i)↔a*d-b*c∣u*d-v*c:=JC (JD _ _);have h2:(a*d-b*c∣a*v-b*u+(a*d-b*c)*j)↔a*d-b*c∣a*v-b*u:=JC (JD _ _);simp only[h1,h2]
def Pat.Keeps(p:Pat)(X Y:Int):Prop:=∀x y,p.show (x+X) (y+Y)=p.show x y
def Pat.lat_keeps:∀{p:Pat} {X Y:Int},p.Lat X Y->p.Keeps X Y
 | .mot L a b c d,_,_,⟨i,j,rfl,rfl⟩,x,y=>by
  have e:∀u v:Int,onB a b c d (1*(x+(i*a+j*c))+0*(y+(i*b+j*d))+0-u) (0*(x+(i*a+j*c))+1*(y+(i*b+j*d))+0-v)=onB a b c d (1*x+0*y+0-u) (0*x+1*y+0-v):=λu v=>by
   rw[<-Ct a b c d (1*x+0*y+0-u) (0*x+1*y+0-v) i j];congr 1<;>lia
  show Leaf.shows _ _ _=Leaf.shows _ _ _;unfold Leaf.shows Leaf.hit;simp only[bt,e]
 |.over p q,X,Y,h,x,y=>by
  simp only[Pat.show];rw[Pat.lat_keeps h.1 x y,Pat.lat_keeps h.2 x y]
 |.sh a b p,X,Y,h,x,y=>by
  have:=Pat.lat_keeps (p:=p) h (x-a) (y-b);simp only[Pat.show];rw[<-this];congr 1<;>lia
 |.mir p,X,Y,h,x,y=>by
  have:=Pat.lat_keeps (p:=p) h (-x) y;simp only[Pat.show];rw[<-this];congr 1;lia
 |.tur p,X,Y,h,x,y=>by
  have:=Pat.lat_keeps (p:=p) h y (-x);simp only[Pat.show];rw[<-this];congr 1;lia
 |.hue f g p,X,Y,h,x,y=>by
  simp only[Pat.show];rw[Pat.lat_keeps (p:=p) h x y]
def InF.one(w h s:Int):InF w h s w 0:=#[1,0,Kn,Kn]
def Pat.Fam.keeps{y:Int}(f:p.Fam w h s)(q:InF w h s x y):p.Keeps x y:=Pat.lat_keeps ((f.lat x y).mp q)
def Cu(hw:0<w)(hh:0<h)(x y:Int):InF w h s (x-hmX w h s x y) (y-y%h):=by
 have e1:=Hf y h;have e2:=Hf (x-y/h*s) w;refine#[(x-y/h*s)/w,y/h,?_,by rw[e1,GL];lia];unfold hmX;rw[e2,GL w];lia
def Pat.show_home(hw:0<w)(hh:0<h)(k:∀x y,InF w h s x y->p.Keeps x y)(x y:Int):p.show (hmX w h s x y) (y%h)=p.show x y:=by
 have:=k _ _ (Cu (s:=s) hw hh x y) (hmX w h s x y) (y%h);rw[<-this];congr 1<;>lia
def Cw(f:Nat->Nat){w:Nat}(h:c<w):((Gj w).map f).drop c++((Gj w).map f).take c=(Gj w).map λk=>f ((c+k)%w):=by
 apply Hq;intro i;by_cases h1:i<w-c
 .rw[GW (by simp;exact h1),JE,Gr,Gr,G2 Kn,G2 Kn];simp[JF (show c+i<w by lia)]
 .rw[Ha Pa];simp only[Hm,Gm,IF];by_cases h2:i<w
  .rw[Ii Kn,Gr,Gr,G2 Kn,G2 Kn];have e:(c+i)%w=i-(w-c):=by
    rw[show c+i=(i-(w-c))+w by lia,Nat.add_mod_right,JF Kn]
   simp[e]
  .rw[GY Pa,GY Pa]
def gf(l:List Nat):cs (#[l.toArray]:C_)=l:=Kv
def Cy{c:Int}(ht:cs t=l)(c0:0<=c)(cl:c<l.length):Txt.slice t (be c) q8++Txt.slice t q8 (be c)=(#[(l.drop c.toNat++l.take c.toNat).toArray]:C_):=by
 have hl:t.length=l.length:=by rw[<-ht,bu]
 apply hV;rw[bO,slice_cps,slice_cps,gf,gf,gf,show t.cps.toList=l from ht,hl];have e1:HT.sIx l.length 0 (be c)=c.toNat:=by show(if c<0 then _ else min c.toNat l.length)=_;rw[if_neg Kn];lia
 have e2:HT.sIx l.length l.length q8=l.length:=rfl;have e3:HT.sIx l.length 0 q8=0:=rfl;have e4:HT.sIx l.length l.length (be c)=c.toNat:=by show(if c<0 then _ else min c.toNat l.length)=_;rw[if_neg Kn];lia
 rw[e1,e2,e3,e4,JG,Ht Kv];rfl
def dh(p:Pat)(x y:Int)(n:Nat):cs (aI p x y n)=(Gj n).map λ(k:Nat)=>aV (p.show (x+(k:Int)) y):=gf _
def Cz(hw:0<w)(hh:0<h)(k:∀x y,InF w h s x y->p.Keeps x y)(x y:Int):
  Txt.slice (aI p 0 (y%h) w.toNat) (be (hmX w h s x y)) q8++Txt.slice (aI p 0 (y%h) w.toNat) q8 (be (hmX w h s x y))=aI p x y w.toNat:=by
 have c0:0<=hmX w h s x y:=Hc _ Kn;have c1:hmX w h s x y<w:=Hd _ hw;rw[Cy (dh p 0 (y%h) w.toNat) c0 Pa,Cw _ Kn];unfold aI;congr 2;apply HE;intro i _;have e:=Pat.show_home hw hh k (x+(i:Int)) y;rw[<-e];congr 2;have q:hmX w h s (x+(i:Int)) y=(hmX w h s x y+i)%w:=by
  unfold hmX;rw[Int.emod_add_emod];congr 1;lia
 rw[q,HH,JH,HI,GZ c0,GZ Kn]
def gh(p:Pat)(w h:Int):D:=.lst ((Gj h.toNat).map λ(y:Nat)=>D.str (aI p 0 (y:Int) w.toNat))
def CA:SpD:=λds R=>∃(p:Pat) (d:D),ds=[d]/\bW p d/\p.Ok/\∀w h s,p.Fam w h s->w*h<=720->w<=720->h<=720->R (gh p w h)
def CB:SpD:=λds R=>∃(p:Pat) (w h s x y:Int),ds=[.tup [.int w,.int h,.int s],gh p w h,.int x,.int y]/\p.Fam w h s/\w<=720/\h<=720/\R (.str (aI p x y w.toNat))
def CC(a0:0<=a)(a6:a<=6)(b0:0<=b)(b6:b<=6)(e:aV a=aV b):a=b:=by
 unfold aV at e;split at e<;>split at e<;>lia
def sumN(g:Nat->Int):Nat->Int
 |0=>0
 |n+1=>sumN g n+g n
def dQ{g f:Nat->Int}:∀{n:Nat},(∀k,k<n->g k=f k)->sumN g n=sumN f n
 |0,_=>rfl
 |n+1,h=>by rw[sumN,sumN,dQ λk hk=>h k Kn,h n Kn]
def ib(g:Nat->Int)(n:Nat):∀m:Nat,sumN g (n+m)=sumN g n+sumN (λk=>g (n+k)) m
 |0=>by simp[sumN]
 |m+1=>by rw[<-Nat.add_assoc,sumN,sumN,ib g n m];lia
def vh(g f:Nat->Int):∀n:Nat,sumN (λk=>g k+f k) n=sumN g n+sumN f n
 |0=>rfl
 |n+1=>by simp only[sumN,vh g f n];lia
variable{N:Nat}
def CD{g:Nat->Int}(hN:0<N)(KY:∀k,g (k+N)=g k)(n:Nat):sumN (λj=>(((n:Int)-1-j)/N+1)*g j) (min n N)=sumN g n:=by
 induction n using Nat.strongRecOn with
 |ind n ih=>
  by_cases h:n<=N
  .rw[HJ h];refine dQ λk hk=>?_;rw[JI Kn Kn];simp
  .have e1:n=N+(n-N):=by lia
   have i:=ih (n-N) Kn;have NQ:sumN (λk=>g (N+k)) (n-N)=sumN g (n-N):=dQ λk _=>by rw[IB];exact KY k
   rw[Ib Kn];have e2:sumN g n=sumN g N+sumN g (n-N):=by
    conv=>lhs;rw[e1]
    rw[ib,NQ]
   rw[e2,<-i];have e3:min (n-N) N+(N-min (n-N) N)=N:=Kn
   have split:∀f:Nat->Int,sumN f N=sumN f (min (n-N) N)+sumN (λk=>f (min (n-N) N+k)) (N-min (n-N) N):=λf=>by
    conv=>lhs;rw[<-e3]
    exact ib _ _ _
   rw[split,split g];have a:sumN (λj=>(((n:Int)-1-j)/N+1)*g j) (min (n-N) N)=sumN g (min (n-N) N)+sumN (λj=>((((n-N:Nat):Int)-1-j)/N+1)*g j) (min (n-N) N):=by
    rw[<-vh];refine dQ λk hk=>?_;have q:((n:Int)-1-k)/N=(((n-N:Nat):Int)-1-k)/N+1:=by
     rw[show((n:Int)-1-k)=(((n-N:Nat):Int)-1-k)+1*N by lia,JB _ _ Kn]
    rw[q,IE];lia
   have b:sumN (λk=>(((n:Int)-1-((min (n-N) N+k:Nat):Int))/N+1)*g (min (n-N) N+k)) (N-min (n-N) N)=sumN (λk=>g (min (n-N) N+k)) (N-min (n-N) N):=by
    refine dQ λk hk=>?_;rw[JI Kn Kn];simp
   rw[a,b];lia
def cntN(f:Nat->Int)(v:Int)(n:Nat):Int:=sumN (λk=>if f k=v then 1 else 0) n
def vi(f:Nat->Int)(v:Int):∀n,0<=cntN f v n/\cntN f v n<=n
 |0=>by simp[cntN,sumN]
 |n+1=>by
  have:=vi f v n;unfold cntN at this ⊢;rw[sumN];split<;>lia
def CF{f:Nat->Int}{w:Nat}(hw:0<w)(KY:∀k,f (k+w)=f k)(v:Int)(m:Nat):((m/w:Nat):Int)*cntN f v w+cntN f v (m%w)=cntN f v m:=by
 have key:∀q r:Nat,cntN f v (w*q+r)=(q:Int)*cntN f v w+cntN f v r:=λq=>by
  have sh:∀q k,f (w*q+k)=f k:=λq=>by
   induction q with
   |zero=>intro k;rw[Nat.mul_zero,JJ]
   |succ q ih=>intro k;rw[JK,show w*q+w+k=w*q+k+w by lia,KY];exact ih k
  induction q with
  |zero=>intro r;simp
  |succ q ih=>
   intro r;rw[JK,show w*q+w+r=w*q+(w+r)by lia,ih,HI,IE];have e:cntN f v (w+r)=cntN f v w+cntN f v r:=by
    unfold cntN;rw[ib];congr 1;refine dQ λk _=>?_;rw[IB w k,KY]
   rw[e];simp;lia
 have:=key (m/w) (m%w);rw[Nat.div_add_mod]at this;exact this.symm
def ic(y:C_)(c:Nat):∀(m a:Nat) (st:Array Nat×Nat),a+m=y.length+1->st.2<=a->st.1.size<=a->(forIn (List.range' a m) st (StrLaws.occBody y #[[c].toArray] y.length (y.length+1))).run.fst.size=st.1.size+(((cs y).drop a).filter (·==c)).length
 |0,a,st,h,_,_=>by
  rw[IG (by rw[bu];lia)];rfl
 |m+1,a,st,h,h1,h2=>by
  have l1:(#[[c].toArray]:C_).length=1:=rfl;have q:=StrLaws.subAt_eq y #[[c].toArray] a;rw[List.range'_succ,Io];by_cases ha:a<y.length
  .have hd:(cs y).drop a=(cs y)[a]'(by rw[bu];exact ha)::(cs y).drop (a+1):=Hj (by rw[bu];exact ha);rw[show y.cps.toList.drop a=_ from hd,l1]at q;rw[hd,List.filter_cons];by_cases e:(cs y)[a]'(by rw[bu];exact ha)=c
   .have eb:StrLaws.occBody y #[[c].toArray] y.length (y.length+1) a st=pure (.yield (st.1.push a,a+1)):=by
     unfold StrLaws.occBody;rw[if_pos #[#[#[Kn,h1],by rw[l1];lia],by rw[q];simp[e]],l1]
    rw[eb];have:=ic y c m (a+1) (st.1.push a,a+1) Kn (Gg _) Pa;simp only[e,beq_self_eq_true,if_true,Gv];refine Eq.trans this ?_;simp only[Array.size_push];lia
   .have eb:StrLaws.occBody y #[[c].toArray] y.length (y.length+1) a st=pure (.yield (st.1,st.2)):=by
     unfold StrLaws.occBody;rw[if_neg];rintro⟨_,z⟩;rw[q]at z;simp at z;exact e z
    rw[eb];have:=ic y c m (a+1) st Kn Kn Kn;rw[if_neg (by simpa using e)];exact this
  .have eb:StrLaws.occBody y #[[c].toArray] y.length (y.length+1) a st=pure (.yield (st.1,st.2)):=by
    unfold StrLaws.occBody;rw[if_neg];rintro⟨⟨_,z⟩,_⟩;rw[l1]at z;lia
   rw[eb];have:=ic y c m (a+1) st Kn Kn Kn;rw[IG (by rw[bu];lia)];rw[IG (by rw[bu];lia)]at this;exact this
def CG(y:C_)(c:Nat):(Builtin.Str.occurrences y #[[c].toArray] 0 y.length (y.length+1)).length=((cs y).filter (·==c)).length:=by
 rw[StrLaws.occ_eq,HP,ic y c _ 0 _ Kn (Gg _) (Gg _)];simp
def vj(f:Nat->Int)(b:∀k,0<=f k/\f k<=6){v:Int}(v0:0<=v)(v6:v<=6):∀n:Nat,(((((Gj n).map λk=>aV (f k)).filter (·==aV v)).length:Nat):Int)=cntN f v n
 |0=>rfl
 |n+1=>by
  rw[HD,GM,List.filter_append,Gx,HI,vj f b v0 v6 n];show _=cntN f v n+_;congr 1;by_cases e:f n=v
  .simp[e]
  .have:¬aV (f n)=aV v:=λz=>e (CC (b n).1 (b n).2 v0 v6 z);simp[this,e]
def CH(ok:p.Ok)(x y:Int){v:Int}(v0:0<=v)(v6:v<=6)(n:Nat):(((cs (aI p x y n)).filter (·==aV v)).length:Int)=cntN (λk=>p.show (x+k) y) v n:=by
 rw[dh];exact vj _ (λk=>Pat.show_le ok.wf (by have:=ok.deep;lia) _ _) v0 v6 n
def CI(p:Pat)(x y:Int){r:Nat}(h:r<=n):Txt.slice (aI p x y n) q8 (be (r:Int))=aI p x y r:=by
 apply hV;rw[slice_cps,gf,dh,show(aI p x y n).cps.toList=_ from dh p x y n,ia];have e1:HT.sIx n 0 q8=0:=rfl;have e2:HT.sIx n n (be (r:Int))=r:=by show(if(r:Int)<0 then((r:Int)+n).toNat else min (r:Int).toNat n)=r;rw[if_neg Kn];lia
 rw[e1,e2,JG,Nat.sub_zero,<-List.map_take,List.take_range,HJ h]
def occC(t:C_)(c:Nat):Int:=((Builtin.Str.occurrences t #[[c].toArray] 0 t.length (t.length+1)).length:Nat)
def vk(ok:p.Ok)(x y:Int){v:Int}(v0:0<=v)(v6:v<=6)(n:Nat):occC (aI p x y n) (aV v)=cntN (λk=>p.show (x+k) y) v n:=by
 unfold occC;rw[CG,CH ok x y v0 v6]
def cB(p:Pat)(v left top:Int)(m n:Nat):Int:=sumN (λj=>cntN (λk=>p.show (left+k) (top+j)) v m) n
def bS(p:Pat)(left top:Int)(m n:Nat):List Int:=(Gj 7).map λ(v:Nat)=>cB p v left top m n
def CJ:SpD:=λds R=>∃(p:Pat) (x y v m:Int) (w:Nat),ds=[.str (aI p x y w),.str #[[aV v].toArray],.int m]/\p.Ok/\0<=v/\v<=6/\0<w/\w<=720/\0<=m/\m<2^63/\p.Keeps w 0/\R (.int (cntN (λk=>p.show (x+k) y) v m.toNat))
def Pat.Fam.across(F:p.Fam w h s):p.Keeps w 0:=F.keeps (InF.one w h s)
def Pat.Fam.down(F:p.Fam w h s):p.Keeps 0 (w*h):=F.keeps #[-s,w,by rw[Ix,GL w s];lia,rfl]
def CK(hN:0<N)(k:p.Keeps 0 N)(v left top:Int)(m n:Nat):sumN (λj=>(((n:Int)-1-j)/N+1)*cntN (λk=>p.show (left+k) (top+j)) v m) (min n N)=cB p v left top m n:=by
 refine CD (g:=λj=>cntN (λk=>p.show (left+k) (top+j)) v m) hN (λj=>?_) n;unfold cntN;refine dQ λi _=>?_;have e:p.show (left+i) (top+((j+N:Nat):Int))=p.show (left+i) (top+j):=by
  have:=k (left+i) (top+j);rw[HK]at this;rw[<-this,HI,IH]
 simp only[e]
def vm{α:Type}(f g:Nat->α)(h:∀v,v<n->v≠i->g v=f v):((Gj n).map f).set i (g i)=(Gj n).map g:=by
 apply Hq;intro k;rw[Hb];by_cases hk:i=k
 .subst hk;simp only[if_true,Gm,IF];by_cases hi:i<n
  .simp[hi]
  .simp[hi]
 .rw[if_neg hk];by_cases hi:k<n
  .simp[hi,h k hi (Ne.symm hk)]
  .simp[hi]
def CL:bL ".123456"=(Gj 7).map λ(v:Nat)=>D.str #[[aV (v:Int)].toArray]:=by
 unfold bL;rw[show(".123456":C_).cps.toList=[46,49,50,51,52,53,54]by decide+kernel];rfl
def bZ(p:Pat)(left top:Int)(m n N k:Nat)(v:Int):Int:=sumN (λj=>(((n:Int)-1-j)/N+1)*cntN (λi=>p.show (left+i) (top+j)) v m) k
variable{top b8:Int}
def CM{W:Int}(hn:(b8-top+1).toNat=n)(wN:W=(N:Int)):((if top+W<b8+1 then top+W else b8+1)-top).toNat=min n N:=by split<;>lia
def CN{W:Int}(a:-1000000000000<=top/\top<=1000000000000)(c:-1000000000000<=b8/\b8<=1000000000000)(w0:0<W)(w1:W<=720):-(2^62)<=top/\top<2^62/\-(2^62)<=(if top+W<b8+1 then top+W else b8+1)/\(if top+W<b8+1 then top+W else b8+1)<2^62:=by split<;>lia
def CO(hn:(b8-top+1).toNat=n)(hk:k<min n N):b8-(top+k)=(n:Int)-1-k:=Kn
def vn{l r:Int}{m:Nat}(a:-1000000000000<=l/\l<=1000000000000)(b:-1000000000000<=r/\r<=1000000000000)(h:(r-l+1).toNat=m):m<=2000000000001:=Kn
def CP(x:Int):(if 0>x then 0 else x)=(x.toNat:Int):=by split<;>lia
def CQ:SpX:=λds R RX=>∃(p:Pat) (d:D) (left top right b8:Int),ds=[d,.int left,.int top,.int right,.int b8]/\bW p d/\p.Ok/\(bn left/\bn top/\bn right/\bn b8->R (.lst ((bS p left top (right-left+1).toNat (b8-top+1).toNat).map D.int)))/\(¬(bn left/\bn top/\bn right/\bn b8)->RX "TooFar" [])
end My
end
section
open PySem PySem.Spec PyProof.Rows L2
namespace My
open Exc
section
variable {X:Cx}[J:Jm]{a b c e:P3}{ta tb te:TME}{pos:Sr}
def mTru(te:TME):TMT:=λz M R=>te z M λd M1=>match d with|.bl k=>R k M1|_=>False
abbrev TMO:=SD->MS->(Option Int->MS->Prop)->Prop
def CS:TMO:=λ_ M R=>R q8 M
def CT(te:TME):TMO:=λz M R=>te z M λx M1=>match x with|.int i=>R (be i) M1|_=>False
def mO(K:Ex)[J:Jm](t:TMO):TO:=λs H Q=>∃F z M,Kept J.B J.F0 F H/\RepZ K J.B F H z s M/\∃R:Option Int->MS->Prop,t z M R/\∀o M' F' H',GrowM M M' F H F' H'->R o M'->RepM K F' H' M'->Q o H'
structure MPO(X:Cx)[Jm](e:Option P3)(t:TMO):Prop where
 out:PO X e (mO X.K t)
def vo:MPO X q8 CS:=⟨PO.anti jK λs H Q q=>by
 obtain⟨F,z,M,k,rs,R,h1,h2⟩:=q;exact h2 q8 M F H (GrowM.refl k.fh) h1 rs.rm⟩
def vp(he:ME X e te):MPO X (be e) (CT te):=⟨PO.anti (jL he.out) λs H Q q=>by
 obtain⟨F,z,M,k,rs,R,h1,h2⟩:=q;refine#[F,z,M,k,rs,_,h1,λx u M1 F1 H1 g1 hx rx m1=>?_];split at hx
 .exact#[_,rep_int.mp rx,h2 _ M1 F1 H1 g1 hx m1]
 .exact hx.elim⟩
end
def subM(N M:MS):Prop:=(∀e,e∈N->e∈M)/\(aj N).Nodup
variable{M:MS}
def subM.keys{N:MS}(s:subM N M){a:KF}(h:a∈aj N):a∈aj M:=by
 obtain⟨⟨b,o⟩,h1,rfl⟩:=GK.mp h;exact br (s.1 _ h1)
variable{F H:Hp}
def RepM.sub{K:Ex}{N:MS}(r:RepM K F H M)(s:subM N M):RepM K F H N:=#[s.2,λa o h=>r.ok a o (s.1 _ h),λa h=>r.fr a (s.keys h)]
def GrowM.sub{F' H':Hp}{N M':MS}(g:GrowM M M' F H F' H')(s:subM N M'):GrowM M N F H F' H':=#[g.ff,g.fh,g.hh,g.out,λb h=>g.ks b (s.keys h)]
def GrowM.sub0{F' H':Hp}{N M':MS}(g:GrowM N M' F H F' H')(s:subM N M):GrowM M M' F H F' H':=#[g.ff,g.fh,λb o h=>g.hh b o λz=>h (s.keys z),λb h=>g.out b λz=>h (s.keys z),λb h=>(g.ks b h).imp s.keys id]
def gj(S:SpM):SpM:=λds M R RX=>∃(R0:D->MS->Prop) (JS:XDM),S ds M R0 JS/\R=(λd M'=>∃N,subM N M'/\R0 d N)/\RX=λx fs M'=>∃N,subM N M'/\JS x fs N
def vq{K:Ex}{S:SpM}{vs:List V}{Q:VK}{E:XK}(h:lSpM K S vs H Q E):lSpM K (gj S) vs H Q E:=by
 obtain⟨F,ds,M,fh,rs,rm,R,RX,hS,q,qx⟩:=h;refine#[F,ds,M,fh,rs,rm,_,_,#[R,RX,hS,rfl,rfl],λd v M' F' H' g hd rd m'=>?_,λx fs C od M' F' H' g hR er m'=>?_]
 .obtain⟨N,s,hd⟩:=hd;exact q d v N F' H' (g.sub s) hd rd (m'.sub s)
 .obtain⟨N,s,hR⟩:=hR;exact qx x fs C od N F' H' (g.sub s) hR er (m'.sub s)
section
variable {P:Sd}{w:Sj}{K:Ex}{mg:C_->Option KB}{base:Sl}{n:Nat}{x m:C_}{ps:List C_}{S:SpM}
def CalMth.drop(C:CalMth P w K mg base n x m ps (lSpM K (gj S))):CalMth P w K mg base n x m ps (lSpM K S):=C.imp λ_ _ _ _ h=>vq h
end
def lh(P:Sd)(w:Sj)(K:Ex)(mg:C_->Option KB)(base:Sl)(n:Nat)(x m:C_)(ps:List C_)(dd:List D)(sp:Sp):Prop:=
 ∃C f fd g4 JV,nsIn K Pi x=be (be (.ref C))/\Cls K C/\Meth K C m f/\FnOk P w K mg base (CX1 P w) n f fd ps sp/\Binds K fd ps JV/\Vals g4 JV/\∀F,Reps K F dd g4
section
variable {X:Cx}[J:Jm]{a b c e o:P3}{ta tb te:TME}{pos p b_ a8:Sr}{n m:Nat}{ps:List C_}{S:SpM}{x:C_}{es:List P3}{t:TMA}
def CU(ta tb:TME):TME:=λz M R=>ta z M λx M1=>tb z M1 λy M2=>kdP x λa=>kdP y λb=>∃ds es,mget M2 a=be (.lst ds)/\mget M2 b=be (.lst es)/\ds.length+es.length<=100000/\∀p,p∉aj M2->R (.ptr p) ((p,.lst (ds++es))::M2)
def CV(ha:ME X a ta)(hb:ME X b tb):ME X (.BinOp a .Add b pos) (CU ta tb):=⟨(jG qU ha.out hb.out).anti λs H Q h=>by
 obtain⟨F,z,M,k,rs,R,h1,h2⟩:=h;refine#[F,z,M,k,rs,_,h1,λx u M1 F1 H1 g1 hx rx m1=>?_];refine#[F1,z,M1,k.growM rs.mb g1,rs.growM k.bh g1 m1,_,hx,λy v M2 F2 H2 g2 hy ry m2=>?_];obtain⟨p,rfl,KA⟩:=kdP.of hy;obtain⟨q,rfl,ds,es,hm,NG,hl,hR⟩:=kdP.of KA
 focus
  obtain⟨us,hH,ru⟩:=m2.ok _ _ (bg hm);obtain⟨vs,Q0,rv⟩:=m2.ok _ _ (bg NG);refine#[p,q,us,vs,rep_ptr.mp rx,rep_ptr.mp ry,hH,Q0,by rw[ru.length,rv.length];exact Go hl Ku,λr hr=>?_];exact h2 _ _ _ F2 _ ((g1.trans g2).trans (GrowM.new g2.fh hr)) (hR r λz=>m2.here z hr) (rep_ptr.mpr rfl) (m2.new g2.fh hr #[_,aB,ru.append rv])⟩
def mSlP(ta:TME)(tl th:TMO):TME:=λz M R=>ta z M λx M1=>tl z M1 λlo M2=>th z M2 λhi M3=>match x with|.ptr a=>∃ds,mget M3 a=be (.lst ds)/\∀p,p∉aj M3->R (.ptr p) ((p,.lst (cutD ds lo hi))::M3)|_=>False
def vt{lo hi:Option P3}{tl th:TMO}{p2:Sr}(ha:ME X a ta)(hl:MPO X lo tl)(hu:MPO X hi th):ME X (.Subscript a (.Slice lo hi q8 p2) pos) (mSlP ta tl th):=⟨(jM jO ha.out hl.out hu.out).anti λs H Q q=>by
 obtain⟨F,z,M,k,rs,R,h1,h2⟩:=q;refine#[F,z,M,k,rs,_,h1,λx u M1 F1 H1 g1 hx rx m1=>?_];have k1:=k.growM rs.mb g1;have r1:=rs.growM k.bh g1 m1;refine#[F1,z,M1,k1,r1,_,hx,λlo M2 F2 H2 g2 hy m2=>?_];refine#[F2,z,M2,k1.growM r1.mb g2,r1.growM k1.bh g2 m2,_,hy,λhi M3 F3 H3 g3 hw m3=>?_];have g:=g1.trans (g2.trans g3);split at hw
 .rename_i l;obtain⟨ds,hm,hR⟩:=hw;obtain⟨us,hH,ru⟩:=m3.ok _ _ (bg hm);refine#[l,us,rep_ptr.mp rx,SqL.of hH,λr hr=>?_];exact h2 _ _ _ F3 _ (g.trans (GrowM.new g3.fh hr)) (hR r λz=>m3.here z hr) (rep_ptr.mpr rfl) (m3.new g3.fh hr #[_,aB,ru.cut _ _])
 .exact hw.elim⟩
def CW(to:TME):TME:=λz M R=>to z M λo M1=>match o with|.ptr a=>∃ds d,mget M1 a=be (.lst ds)/\ds[ds.length-1]?=be d/\R d (mput M1 a (.lst ds.dropLast))|_=>False
def CY(ho:ME X o ta)(b9:autoParam (Sn o "pop" X.env (So o X.env)=So o X.env) zA0)(c7:autoParam ((b_.endLine==a8.line)=true) zA0):ME X (.Call (.Attribute o "pop" b_) [] [] a8) (CW ta):=⟨(xH PySem.F.plainAttrs_list PySem.F.slot_list_pop PySem.F.type_list_pop xM ho.out b9 c7).anti λs H Q q=>by
 obtain⟨F,z,M,k,rs,R,h1,h2⟩:=q;refine#[F,z,M,k,rs,_,h1,λx u M1 F1 H1 g1 hx rx m1=>?_];split at hx
 .rename_i l;obtain⟨ds,d,hm,hl,hR⟩:=hx;obtain⟨us,hH,ru⟩:=m1.ok _ _ (bg hm);obtain⟨v,hv,rv⟩:=ru.get hl;rw[rep_ptr.mp rx];exact#[.inl #[rfl,us,SqL.of hH],l,us,v,rfl,rfl,hH,by rw[ru.length];exact hv,h2 _ _ _ F1 _ (g1.trans (GrowM.put g1.fh (m1.fr l (br (bg hm))) hm)) hR rv (m1.put hm #[_,aB,ru.init])]
 .exact hx.elim⟩
end
abbrev SiM:=KF->List D->(MS->Prop)->Prop
def lSiM(K:Ex)(C:KF)(S:SiM):Sp:=λvs H Q _=>∃a dx us H1 F ds,vs=.ref a::us/\H=upd (upd H1 dx (.own a)) a (.ins C dx [])/\H1 a=q8/\H1 dx=q8/\dx≠a/\Same F H1/\Reps K F ds us/\
 ∃R:MS->Prop,S a ds R/\∀M' F' H',GrowM [] M' F H1 F' H'->R M'->RepM K F' H' M'->Q .non H'
def CalN(P:Sd)(w:Sj)(K:Ex)(mg:C_->Option KB)(base:Sl)(n:Nat)(x:C_)(ps:List C_)(S:SiM):Prop:=
 ∃C f fd,nsIn K Pi x=be (be (.ref C))/\mg x=be (.ref C)/\Mk K C f/\FnOk P w K mg base (Exc.CX1 P w) n f fd ps (lSiM K C S)/\Binds K fd ps []
section
variable {P:Sd}{w:Sj}{K:Ex}{mg:C_->Option KB}{base:Sl}
open Classical in
def Txi.okIN{x qual:C_}{st:Se}{N:List C_}{p0:C_}{ps:List C_}{k:Nat}{S:SiM}(T:Txi K mg x qual st (p0::ps))(F:FnScope N (p0::ps) (ah st))(len:∀a ds R,S a ds R->ds.length=ps.length)
  (a_:∀(f:KF) (cdv:KB) (A:Sk) (outer:List S1) (s:KM) (H:Hp) (E:XK) (J:Jm),Room k (A.deeper (Su qual (ah st) s.heap.objs.size f cdv))->XOkM (cxOf (CX1 P w) P w K mg base N qual (ah st) f cdv A outer s H E).nox->
   ∃t,MSs (cxOf (CX1 P w) P w K mg base N qual (ah st) f cdv A outer s H E).nox (aJ st) t/\∀a ds R,(∀z M x fs,¬J.RM z M x fs)->S a ds R->t {nx:=λ_ M'=>R M',rt:=λ_ _=>False} (startD N (.ptr a::ds)) [(a,.ins x [])]):CalN P w K mg base (k+1) x (p0::ps) S:=by
 obtain⟨C,f,fd,hns,i9,mk,T,hb⟩:=T;refine#[C,f,fd,hns,i9,mk,Fun.okC T F (λvs H Q E h=>?_) (λcdv A outer s H vs Q E hr h=>?_),hb]
 .obtain⟨a,dx,us,H1,F,ds,rfl,_,_,_,_,_,rs,R,h,_⟩:=h;rw[Gv,Gv,rs.length,len a ds R h]
 .obtain⟨a,dx,us,H1,F1,ds,rfl,rfl,ha,m9,m_,fh,rs,R,h,q⟩:=h
  let H:Hp:=upd (upd H1 dx (.own a)) a (.ins C dx [])
  let B:Hp:=λb=>if b=a then q8 else H b
  have LI:B a=none:=if_pos rfl;have hB:∀{b:KF},b≠a->B b=H b:=λ{b} h=>if_neg h;have l8:∀{b:KF} {o:HO},H1 b=be o->b≠a/\H b=be o:=λ{b o} e=>by
   have n1:b≠a:=bJ e ha;exact#[n1,by show upd _ _ _ b=_;rw[au n1,au (bJ e m9)];exact e]
  letI:Jm:={B:=B,F0:=F1,RX:=λ_ _ _=>False,RM:=λ_ _ _ _=>False}
  have hx:XOkM (cxOf (CX1 P w) P w K mg base N qual (ah st) f cdv A outer s H E).nox:=λσ z M' F' H' s' e C od y fs I kk rr hR er _=>hR.elim;obtain⟨t,ht,hq⟩:=a_ f cdv A outer s H E inferInstance hr hx;have Fa:F1 a=none:=fh.free ha;have k0:Kept B F1 F1 H:=⟨λb o e=>by
   by_cases n:b=a
   .rw[n,LI]at e;cases e
   .rw[hB n]at e;exact e,λb o e=>(l8 (fh b o e)).2,Same.refl F1,λ_ h _=>h,rfl,Same.refl F1,λ_ h _=>h⟩
  have v7:Reps K F1 (.ptr a::ds) (.ref a::us):=reps_cons.mpr #[_,_,rfl,rep_ptr.mpr rfl,rs];have NI:RepM K F1 H [(a,.ins x [])]:=⟨by simp[aj],λb o hb=>by
   have e:=Gf.mp hb;cases e;exact#[C,dx,[],hns,aB,repf_nil.mpr rfl],λb hb=>by
   have e:b=a:=by simpa[aj]using hb
   rw[e];exact Fa⟩
  have r0:RepZ K B F1 H (startD N (.ptr a::ds)) (L2.start N (.ref a::us)) [(a,.ins x [])]:=⟨dF v7,kJ v7,NI,λb hb=>by
   have e:b=a:=by simpa[aj]using hb
   rw[e];exact LI⟩
  refine#[_,ht.out.nox,F1,F1,_,_,k0,r0,_,hq a ds R (λ_ _ _ _ z=>z) h,#[λz' s' M' F' H' kk hn r=>?_,λd v M' F' H' kk hd rd NB mb=>hd.elim,λ_ _ _ _ _ _ h _=>h.elim,λ_ _ _ _ _ _ h _=>h.elim]];refine q M' F' H' ⟨kk.f0,kk.fh,λb o _ e=>kk.bh b o (by show B b=be o;rw[hB (l8 e).1];exact(l8 e).2),λb _ h1 h2=>kk.out b h1 (by
   show B b≠q8;cases e:H1 b with
   |none=>exact absurd e h2
   |some o=>rw[hB (l8 e).1,(l8 e).2];exact λz=>nomatch z),λb hb=>?_⟩ hn r.rm
  cases e:H1 b with
  |none=>exact .inr rfl
  |some o=>
   have h0:B b=none:=r.mb b hb;rw[hB (l8 e).1,(l8 e).2]at h0;cases h0
end
section
variable {X:Cx}[J:Jm]{e:P3}{es:List P3}{pos p:Sr}{n m:Nat}{ps:List C_}{S:SiM}{x:C_}{t:TMA}
def CZ(S:SiM)(t:TMA):TME:=λz M R=>t z M λds M1=>∀a,a∉aj M1->S a ds λM'=>R (.ptr a) (M'++M1)
def vw(M:CalN X.prog X.w X.K X.mg X.base n x ps S)(hr:Room m X.A)(ha:MA X (e::es) t)(hg:autoParam (Gl X x) zA0)(hn:autoParam (n+1<=m) zA1)(d8:autoParam (zND x) zA1)
  (he:autoParam (zSE X e es) zA0) (c_:autoParam (zPL X pos es) zA0):
  ME X (.Call (.Name x p) (e::es) [] pos) (CZ S t):=by
 obtain⟨C,f,fd,hns,i9,mk,F,hb⟩:=M;refine#[(gG mk F (hr.mono hn) hg i9 hb .nil fF ha.out d8 he c_).anti λs H Q q=>?_];obtain⟨F,z,M,k,rs,R,h1,h2⟩:=q;refine#[F,z,M,k,rs,_,h1,λds vs M1 F1 H1 g1 hx rx m1=>?_];intro a dx ha m9 m_;have na:a∉aj M1:=λz=>m1.here z ha;refine#[a,dx,vs,H1,F1,ds,by rw[GS],rfl,ha,m9,m_,g1.fh,rx,_,hx a na,λM' F' H' g hR m'=>#[rfl,?_]];have hh:∀b o,H1 b=be o->H' b=be o:=λb o e=>g.hh b o (λz=>nomatch z) e;have nk:∀b,b∈aj M'->H1 b=none:=λb hb=>(g.ks b hb).elim (λz=>nomatch z) id;refine h2 (.ptr a) (.ref a) _ F' H' (g1.trans #[g.ff,g.fh,λb o _ e=>hh b o e,λb _=>g.out b (λz=>nomatch z),λb hb=>?_]) hR (rep_ptr.mpr rfl) #[?_,λb o hb=>?_,λb hb=>?_]
 .rcases keys_app.mp hb with z|z
  .exact .inr (nk b z)
  .exact .inl z
 .unfold aj;rw[GM];exact Hu.mpr #[m'.nd,m1.nd,λb h1 c h2 e=>m1.here (e ▸ h2) (nk b h1)]
 .rcases GD.mp hb with z|z
  .exact m'.ok b o z
  .exact(m1.ok b o z).mono g.ff λo e=>hh b o e
 .rcases keys_app.mp hb with z|z
  .exact m'.fr b z
  .exact g.out b (λz=>nomatch z) (m1.fr b z) (m1.here z)
end
section
variable {K:Ex}{x m q:C_}{st:Se}{ps:List C_}
def MdIn(K:Ex)(x m q:C_)(st:Se)(i:Int):Prop:=∃C f fd T,NsC K x C/\Meth K C m f/\FunG K (.ref T) m q st f fd/\∃tc td n ts t,K.lookup T=be #[tc,td,.seq [.int i t].toArray n,ts]
def mdIn_mk{C f T:KF}{i:Int}{oc tc:KB}{od an td:Option KF}{sl ts:Array (Option KB)}{n:Nat}{t:Um}{kV dc pm cd ct:KB}(a:nsIn K Pi x=be (be (.ref C)))(b:Gw K (.ref C) m=be (be (.ref f)))(j:isFn K (.ref f)=true)(l:K.lookup f=be #[oc,od,.func (fnOf m q (bv st) (aJ st) (ah st) (.ref T) kV dc pm an cd ct),sl])(c:codeIn K cd q=true)(k:keepIn K (.ref f)=true)
  (d:K.lookup T=be #[tc,td,.seq [.int i t].toArray n,ts]):MdIn K x m q st i:=#[C,f,_,T,a,#[b,j,k],#[#[_,_,_,_,_,_,_,_,_,rfl,l,c],k],_,_,_,_,_,d]
def C0(m q:C_)(st:Se)(x0 x1:C_):Prop:=∀(s:KM) (T:KF) (o:Sx) (its:Array KB) (n:Nat) (v:KB) (kV doc pm:KB) (an:Option KF) (cdv ct u0 u1:KB),s.heap.get? T=be o->o.data=.seq [v].toArray n->
 S_ s (fnOf m q (bv st) (aJ st) (ah st) (.ref T) kV doc pm an cdv ct) #[[u0,u1],[]] [(x0,u0),(x1,u1)]/\S_ s (fnOf m q (bv st) (aJ st) (ah st) (.ref T) kV doc pm an cdv ct) #[[u0],[]] [(x0,u0),(x1,v)]
def Txd(K:Ex)(x m qual:C_)(st:Se)(ps:List C_)(dd:List D):Prop:=
 ∃C f fd dV g4 JV,nsIn K Pi x=be (be (.ref C))/\Cls K C/\Meth K C m f/\FunG K dV m qual st f fd/\Binds K fd ps []/\Binds K fd ps JV/\Vals g4 JV/\∀F,Reps K F dd g4
def MdIn.txd{i:Int}{x0 x1:C_}(T:MdIn K x m q st i)(c:ClIn K x)(b:C0 m q st x0 x1):Txd K x m q st [x0,x1] [.int i]:=by
 obtain⟨C,k⟩:=c;obtain⟨D,f,fd,T,a,mt,F,tc,td,n,ts,t,hT⟩:=T;cases NsC.uniq k.ns a;have F':=F;obtain⟨oc,od,kV,doc,pm,an,cdv,ct,osl,rfl,lk,gV⟩:=F'.ex;refine#[C,f,_,_,[.int i],[.int i t],a,k.cl,mt,F,λs us hK hl=>?_,λs us hK hl=>?_,.cons #[t,rfl] .nil,λF=>reps_cons.mpr #[_,_,rfl,rep_int.mpr rfl,reps_nil.mpr rfl]]
 .rw[GS]at hl ⊢;obtain⟨u0,t0,rfl,h0⟩:=bc hl;obtain⟨u1,t1,rfl,h1⟩:=bc h0;cases len_0 h1;exact(b s T _ [].toArray n (.int i t) kV doc pm an cdv ct u0 u1 (hK _ _ hT) rfl).1
 .rw[Gx]at hl;have Nh:us.length=[x0].length:=Nat.succ.inj hl;obtain⟨u0,t0,rfl,h0⟩:=bc Nh;cases len_0 h0;exact(b s T _ [].toArray n (.int i t) kV doc pm an cdv ct u0 u0 (hK _ _ hT) rfl).2
end
section
variable {P:Sd}{w:Sj}{K:Ex}{mg:C_->Option KB}{base:Sl}
variable{N ps:List C_}{dd:List My.D}
def Txd.okM{x m qual:C_}{st:Se}{k:Nat}{S:SpM}(T:Txd K x m qual st ps dd)(F:FnScope N ps (ah st))(len:∀ds M R RX,S ds M R RX->ds.length=ps.length)
  (a_:∀(f:KF) (cdv:KB) (A:Sk) (outer:List S1) (s:KM) (H:Hp) (E:XK) (J:Jm),Room k (A.deeper (Su qual (ah st) s.heap.objs.size f cdv))->XOkM (cxOf (CX1 P w) P w K mg base N qual (ah st) f cdv A outer s H E)->
   ∃t,MSs (cxOf (CX1 P w) P w K mg base N qual (ah st) f cdv A outer s H E) (aJ st) t/\∀ds M R RX,(∀z,J.RM z=λM' x fs=>RX x fs M')->S ds M R RX->t {nx:=λ_ M'=>R .non M',rt:=R} (startD N ds) M):CalMth P w K mg base (k+1) x m ps (lSpM K S)/\lh P w K mg base (k+1) x m ps dd (lSpM K S):=by
 obtain⟨C,f,fd,dV,g4,JV,h1,h2,h3,T,hb,j7,hv,hd⟩:=T;have ok:=Fun.okM (P:=P) (w:=w) (mg:=mg) (base:=base) T F len λcdv A outer s H E J hr hx=>a_ f cdv A outer s H E J hr hx;exact#[#[C,f,fd,h1,h2,h3,ok,hb],C,f,fd,g4,JV,h1,h2,h3,ok,j7,hv,hd]
def Txd.okMd{x m qual:C_}{st:Se}{k:Nat}{S:SpM}(T:Txd K x m qual st ps dd)(F:FnScope N ps (ah st))(len:∀ds M R RX,gj S ds M R RX->ds.length=ps.length)
  (a_:∀(f:KF) (cdv:KB) (A:Sk) (outer:List S1) (s:KM) (H:Hp) (E:XK) (J:Jm),Room k (A.deeper (Su qual (ah st) s.heap.objs.size f cdv))->XOkM (cxOf (CX1 P w) P w K mg base N qual (ah st) f cdv A outer s H E)->
   ∃t,MSs (cxOf (CX1 P w) P w K mg base N qual (ah st) f cdv A outer s H E) (aJ st) t/\∀ds M R RX,(∀z,J.RM z=λM' x fs=>RX x fs M')->gj S ds M R RX->t {nx:=λ_ M'=>R .non M',rt:=R} (startD N ds) M):CalMth P w K mg base (k+1) x m ps (lSpM K S)/\lh P w K mg base (k+1) x m ps dd (lSpM K S):=by
 obtain⟨a,C,f,fd,g4,JV,h1,h2,h3,ok,hb,hv,hd⟩:=Txd.okM (S:=gj S) T F len a_;exact#[a.drop,C,f,fd,g4,JV,h1,h2,h3,ok.imp λ_ _ _ _ h=>vq h,hb,hv,hd]
def nilD(S:SpD):SpM:=λds M R _=>M=[]/\∃R0:D->Prop,S ds R0/\R=λd _=>R0 d
def C1{n:Nat}{f:KF}{fd:Sq}{S:SpD}(F:FnOk P w K mg base (CX1 P w) n f fd ps (lSpM K (nilD S))):FnOk P w K mg base (CX1 P w) n f fd ps (lSp K S):=F.imp λvs H Q E q=>by
 obtain⟨F,ds,fh,rs,R,hS,q1⟩:=q;exact#[F,ds,[],fh,rs,RepM.nil,_,λ_ _ _=>False,#[rfl,R,hS,rfl],λd v M' F' H' g hd rd _=>q1 d v F' H' (growM_nil g) hd rd,λ_ _ _ _ _ _ _ _ z=>z.elim]
end
section
variable {X:Cx}[J:Jm]{a:P3}{ta:TME}{tA:TMT}{pos:Sr}
def dm(ha:ME X a ta)(he:autoParam (∀fI,isTrue a X.env fI=(do let v <-fI;S5 a.pos;SG [v] (truthy v))) zA2):MT X a (mTru ta):=⟨(qA ha.out he).anti λs H Q q=>by
 obtain⟨F,z,M,k,rs,R,h1,h2⟩:=q;refine#[F,z,M,k,rs,_,h1,λx u M1 F1 H1 g1 hx rx m1=>?_];split at hx
 .rw[rep_bl.mp rx];exact#[_,rfl,h2 _ M1 F1 H1 g1 hx m1]
 .exact hx.elim⟩
def mNot(tA:TMT):TMT:=λz M R=>tA z M λk M1=>R (!k) M1
def du(ha:MT X a tA):MT X (.UnaryOp .Not a pos) (mNot tA):=⟨(qg ha.out).anti λs H Q q=>by
 obtain⟨F,z,M,k,rs,R,h1,h2⟩:=q;exact#[F,z,M,k,rs,_,h1,λk M1 F1 H1 g1 hx m1=>h2 _ M1 F1 H1 g1 hx m1]⟩
end
abbrev Bx.N(V:Bx)(n:Nat)(x:C_)(ps:List C_)(S:SiM):Prop:=CalN V.P V.w V.K V.mg V.base n x ps S
abbrev Bx.Qd(V:Bx)(n:Nat)(x m:C_)(ps:List C_)(dd:List My.D)(S:SpM):Prop:=lh V.P V.w V.K V.mg V.base n x m ps dd (lSpM V.K S)
abbrev Bx.Td(V:Bx)(x m q:C_)(st:Se)(ps:List C_)(dd:List My.D):Prop:=Txd V.K x m q st ps dd
section
variable {X:Cx}[J:Jm]{a b c e o:P3}{ta tb te:TME}{pos:Sr}
def C3{p p2:Sr}{y:C_}{t:String}(hm:X.mg "isinstance"=q8)(Lu:X.mg y=q8)(ha:ME X a ta)(hv:Sw y=be (.type t))
  (hk:∀x:D,cI x=true->kitOne X.K (.type (tyD x)) (.type t)=be (cH t x)) (hg:autoParam (Gl X "isinstance") zA0) (Kt:autoParam (Gl X y) zA0) (hn:autoParam (y≠"__name__") zA1) (d8:autoParam (zND y) zA1)
  (g5:autoParam (Si [a,.Name y p2] X.env=(false,So a X.env)::Si [.Name y p2] X.env) zA0) (g7:autoParam (Si [.Name y p2] X.env=(false,So (.Name y p2) X.env)::Si [] X.env) zA0) (c_:autoParam ((SZ pos (Si [.Name y p2] X.env)).any (·.1)=false) zA0):ME X (.Call (.Name "isinstance" p) [a,.Name y p2] [] pos) (mUn (kd t) ta):=⟨(dY rV hg hm PyProof.Rows.boot_isinstance (bf ha.out (bf (jx (v:=.ty t) Kt Lu hv rfl hn d8) pa_nil g7) g5) Ku Ku g5 c_).anti λs H Q q=>by
 obtain⟨F,z,M,k,rs,R,h1,h2⟩:=q;refine#[F,z,M,k,rs,_,h1,λx u M1 F1 H1 g1 hx rx m1=>?_];have no:cI x=true/\R (.bl (cH t x)) M1:=by
  cases x with
  |obj C b=>exact False.elim hx
  |exc C b=>exact False.elim hx
  |ptr b=>exact False.elim hx
  |dti b=>exact False.elim hx
  |_=>exact#[rfl,hx]
 exact#[u,tyD x,t,_,rfl,rW g1.fh rx no.1,hk x no.1,h2 _ _ M1 F1 H1 g1 no.2 (rep_bl.mpr rfl) m1]⟩
def mItL(t:TME):TMI:=λz M R=>t z M λx M1=>match x with|.lst ds=>R ds M1|_=>False
def C4(i:Nat){x:C_}{p:Sr}{body:List Se}{tb:TMS}(hp:SB (Sf X.prog X.w) X.A X.env X.xe)(hc:X.calm=true)(hN:X.N.Nodup)(he:ME X e te)(hb:MSs X body tb)(hi:autoParam (X.N[i]?=be x) zA0)(hx:autoParam (Loc X.env.scope x) zA4)
  (hf:autoParam (zFN X x) zA3) (hs:autoParam (∀y,zFS X e y) zA2):MSt X (.For (.Name x p) e body [] pos) (mFor i (mItL te) tb):=⟨(cF hp hc (jD he.out) (dE hN hi hx hf) hb.out hs).anti λE s H q=>by
 obtain⟨F0,F,z,M,kp,rs,ED,h,e⟩:=q;refine#[F,z,M,kp.kf,rs,_,h,λd v M1 F1 H1 g1 hd rd m1=>?_];split at hd
 .obtain⟨p,vs,rfl,hq,rr⟩:=rep_lst.mp rd;obtain⟨W,w0,c9,out⟩:=hd;refine#[p,rfl,#[vs,g1.fh.seq (SqL.of hq)],jE (K:=X.K) (a:=p) (xs:=vs) (λk s' H'=>∃F' z' M',Kept J.B F0 F' H'/\Same F1 F'/\RepZ X.K J.B F' H' z' s' M'/\W k z' M') #[F1,z,M1,kp.growM rs.mb g1,Same.refl F1,rs.growM kp.bh g1 m1,w0] (λk s' H' _ hh=>?_) ?_ ?_]
  .obtain⟨F',z',M',k',g',r',w'⟩:=hh;exact k'.fh.seq (g'.seq (SqL.of hq))
  .rintro k y s' H' hk⟨F',z',M',k',g',r',w'⟩;obtain⟨d,hd,ry⟩:=rr.get' hk;refine#[F',F',_,M',#[k'.bh,k'.fh,Same.refl F',λb h1 _=>h1,k'.eb,k'.jf.trans k'.f0,λb h1 h2=>k'.out b (k'.jo b h1 h2) h2],r'.set (ry.mono g'),_,c9 k d z' M' hd w',?_];have up:∀{F2 H2:Hp},Kept J.B F' F2 H2->Kept J.B F0 F2 H2:=λk2=>#[k2.bh,k2.fh,k'.f0.trans k2.f0,λb h1 h2=>k2.out b (k'.out b h1 h2) h2,k'.eb,k'.jf,k'.jo];exact#[λz3 s3 M3 F3 H3 k3 h3 r3=>#[F3,z3,M3,up k3,g'.trans k3.f0,r3,h3],λd v M3 F3 H3 k3=>e.rt d v M3 F3 H3 (up k3),λz3 s3 M3 F3 H3 k3=>e.nx z3 s3 M3 F3 H3 (up k3),λz3 s3 M3 F3 H3 k3 h3 r3=>#[F3,z3,M3,up k3,g'.trans k3.f0,r3,h3]]
  .rintro s' H'⟨F',z',M',k',g',r',w'⟩;exact e.nx z' s' M' F' H' k' (out z' M' (by rw[<-rr.length];exact w')) r'
 .exact hd.elim⟩
end
end My
namespace My
section
variable {X:Cx}{a b o e:P3}{ta to te:TD}{pos p2:Sr}
def C5{x:V}{xs:List V}{us:List KB}(h:Vals xs us)(f:xs.all bB=true):us.countP (eqU x)=xs.countP λy=>eqV y x:=by
 induction h with
 |nil=>rfl
 |cons r _ ih=>
  rw[G3,GF]at f;rw[Ic,Ic,gH r f.1,ih f.2]
def rLCt(K:Ex):V->List V->Hp->VK->Prop:=λx vs H Q=>∃l xs y,x=.ref l/\vs=[y]/\SqL K H l xs/\bB y=true/\xs.all bB=true/\Q (.int (xs.countP (λw=>eqV w y):Nat)) H
def C6:MtR X "list.count" (rLCt X.K):=by
 intro pins s σ H x vs v us Q I rx rv h;obtain⟨l,xs,y,rfl,rfl,hq,fy,fs,q⟩:=h;cases rx;obtain⟨u,rfl,ry⟩:=Vals.one rv;obtain⟨its,r,pl,hz⟩:=I.list hq;obtain⟨⟨cls,dd,data,sl⟩,ho,hc,n,hd⟩:=pl.isList;simp only at hc hd;subst hc hd;refine Th PySem.F.slot_list_count #[_,ho,rfl] PySem.F.entry_list_count (PySem.F.args_list_count_2 _ _)
  (SeqAt.list_countAt l its.toArray n dd sl u (eqU y)) #[ho,λw hw=>mem_eqAt ry fy r fs w (by simpa using hw),#[.int _,H,I.tok _,#[_,rfl],?_]]
 rw[show its.toArray.toList=its from rfl,C5 r fs];exact q
def dLCt(to te:TD):TD:=λz R=>to z λx=>match x with|.lst ys=>te z λy=>(bo y=true/\ys.all bo=true)/\R (.int (ys.countP (λw=>eqF w y):Nat))|_=>False
def C7{K:Ex}{H:Hp}{x:D}{u:V}(rx:Rep K H x u)(fx:bo x=true){ys:List D}:∀{vs:List V},Reps K H ys vs->ys.all bo=true->vs.countP (λw=>eqV w u)=ys.countP λy=>eqF y x:=by
 induction ys with
 |nil=>intro vs r _;rw[reps_nil.mp r];rfl
 |cons y ys ih=>
  intro vs r f;obtain⟨v,vr,rfl,r1,r2⟩:=reps_cons.mp r;rw[G3,GF]at f;rw[Ic,Ic,ih r2 f.2,ke r1 rx f.1 fx]
def C8[Jx]{b_ a8:Sr}(ho:WDE X o to)(he:WDE X e te)(b9:autoParam (Sn o "count" X.env (So o X.env)=So o X.env) zA0)
  (d7:autoParam (zHF X a8 [e]) zA0)
  (c7:autoParam ((b_.endLine==a8.line)=true) zA0) (hs:autoParam (zSE X e []) zA0):WDE X (.Call (.Attribute o "count" b_) [e] [] a8) (dLCt to te):=⟨(cO PySem.F.plainAttrs_list PySem.F.slot_list_count PySem.F.type_list_count C6 ho.out (bf he.out pa_nil hs) b9 d7 c7 hs).anti λs H Q q=>by
 obtain⟨B,F,z,kf,rs,R,h1,h2⟩:=q;refine#[B,F,z,kf,rs,_,h1,λx u F1 H1 g1 hx rx=>?_];split at hx
 .obtain⟨l,vs,rfl,hq,rr⟩:=rep_lst.mp rx;refine#[.inl #[rfl,vs,g1.fh.seq (SqL.of hq)],B,F1,z,kf.grow g1,rs.grow g1,_,hx,λd v F2 H2 g2 hd rd=>?_];obtain⟨⟨f1,f2⟩,hR⟩:=hd;have KW:=rr.mono g2.ff;refine#[l,vs,v,rfl,rfl,g2.fh.seq (g2.ff.seq (SqL.of hq)),eE rd f1,eF KW f2,?_];rw[C7 rd f1 KW f2];exact h2 _ _ F2 H2 (g1.trans g2) hR (rep_int.mpr rfl)
 .exact hx.elim⟩
end
section
variable {X:Cx}[J:Jm]{b o e:P3}{tb to te:TME}{pos p2:Sr}
def C9(to ti te:TME):TMS:=λE z M=>te z M λd M1=>to z M1 λx M2=>ti z M2 λy M3=>kdP x λa=>kdI y λk=>∃ds j,mget M3 a=be (.lst ds)/\ixN ds.length k=be j/\E.nx z (mput M3 a (.lst (ds.set j d)))
def Da(he:ME X e te)(ho:ME X o to)(hb:ME X b tb)
  (ha:∀v,SS (.Subscript o b p2) X.env v=(do
   let ov <-SG [v] (So o X.env)
   let iv <-SG [v,ov] (So b X.env)
   S5 p2
   SG [v,ov,iv] (Tw ov iv v)
   TY [v,ov,iv] []):=by intro _;rfl)
  (hs:autoParam (SM [.Subscript o b p2] e pos.line X.env=pure false) zA0) (hw:autoParam (SN [.Subscript o b p2] e X.env=pure none) zA0)
  (h1:autoParam ((Sm [.Subscript o b p2] X.env).map (·.2)=[SS (.Subscript o b p2) X.env]) zA0):MSt X (.Assign [.Subscript o b p2] e pos) (C9 to tb te):=⟨(gA he.out (qi ho.out hb.out jN ha) hs hw h1).anti λE s H q=>by
 obtain⟨F0,F,z,M,k,rs,ED,h,e⟩:=q;refine#[F,z,M,k.kf,rs,_,h,λd v M1 F1 H1 g1 hd rd m1=>?_];refine#[F1,z,M1,(k.growM rs.mb g1).kf,rs.growM k.bh g1 m1,_,hd,λx u M2 F2 H2 g2 hx rx m2=>?_];have NR:=g1.trans g2;refine#[F2,z,M2,(k.growM rs.mb NR).kf,rs.growM k.bh NR m2,_,hx,λy w M3 F3 H3 g3 hy ry m3=>?_];have g:=NR.trans g3;obtain⟨a,rfl,KA⟩:=kdP.of hy;obtain⟨i,rfl,ds,j,hm,hj,hn⟩:=kdI.of KA
 focus
  obtain⟨us,hH,ru⟩:=m3.ok _ _ (bg hm);have gp:=g.trans (GrowM.put (o':=.lst (ds.set j d)) (ho:=.lst (us.set j v)) g3.fh (m3.fr a (br (bg hm))) hm);have mp:=m3.put (o':=.lst (ds.set j d)) (ho:=.lst (us.set j v)) hm #[_,aB,Reps.put ((rd.mono g2.ff).mono g3.ff) j ru];refine#[a,us,i,j,rep_ptr.mp rx,rep_int.mp ry,hH,by rw[ru.length];exact hj,?_];exact e.nx z s _ F3 _ (k.growM rs.mb gp) hn (rs.growM k.bh gp mp)⟩
end
end My
namespace Exc
open PySem PySem.Spec PyProof.Rows PySem.W L2
section
variable {prog:Sd}{w:Sj}{A:Sk}{E:KB->KM->Prop}{s:KM}{K:Ex}{x C:KF}{ox:Sx}{cd:Tr}
def exc_class{Q:Option KB->KM->Prop}{JW:Option Sx}(X:K.In s.heap)(I:InstAt s.heap x ox C JW)(hc:clsIn K C=be cd)(hm:excMro cd.mro=true)
  (Q1:findIn K (.ref C) "__getattribute__"=be (be (.builtin "BaseException.__getattribute__"))) (Q2:findIn K (.ref C) "__getattr__"=be q8)
  (hf:findObj K C JW "__class__"=be (.bind (.builtin "getset_descriptor.__get__") (.builtin "object.__class__"))) (h:Q (be (.ref C)) {s with toks:=s.toks+1}):Sg (Sf prog w) A (getAttr? (.ref x) "__class__") Q E s:=by
 have FB:=PySem.F.attr_ValueError;have X0:=X;have I0:=I;obtain⟨hp,g,d,t,os⟩:=s;have L0:=I.type (M:=Sf prog w);have L1:=looks_findIn (M:=Sf prog w) X Q1;have L2:=looks_findIn (M:=Sf prog w) X Q2;have L3:=looks_find (M:=Sf prog w) X I hf;have f3:=FB.ga.bind (.ref x);have ne:cd.mro.isEmpty=false:=by cases q:cd.mro with|nil=>rw[q]at hm;simp[excMro]at hm|cons _ _=>rfl
 have mro:∀{T:String},[Value.type "ValueError",.type "Exception",.type "BaseException",.type "object"].contains (.type T)=true->mroIn K C (.type T)=be true:=λhT=>by unfold mroIn;rw[hc,Hs,if_neg (by rw[ne];decide),exc_has hT hm]
 have sub:Looks (Sf prog w) hp (isInstance (.ref x) (.type "BaseException")) true:=I.type.andThen (looks_mroIn X (mro Kr));unfold getAttr? getAttrBy? getAttrBy;refine Os (wpAny_mkText (Os (wpAny_attempt (SE (Os (L0.at (Os (L1.at ?_))))))));dsimp only;have Ka:(onTheHeap (Value.ref C)&&Value.builtin "BaseException.__getattribute__"==Value.builtin "object.__getattribute__")=false:=by
  have l9:(Value.builtin "BaseException.__getattribute__"==Value.builtin "object.__getattribute__")=false:=Kr
  rw[l9];rfl
 rw[Ka,if_neg Gu];unfold getAttrByItsOwn hookBefore;rw[show onTheHeap (Value.ref C)=true from rfl,if_pos rfl];refine Os (L2.at ?_);unfold callGetattribute;rw[show(false&&onTheHeap (Value.builtin "BaseException.__getattribute__"))=false from rfl,if_neg Gu];unfold boundAndCalled;refine Os (wpAny_attempt (SE (Os (T5 f3 ?_))));refine Tg (codeAny_call_builtin FB.ga.plain PySem.F.entry_bexc_ga (@check_slot (Sf prog w) _ _ _ "BaseException.__getattribute__" "BaseException" "__getattribute__" (.ref x) [.str "__class__" t] [] _ Kr Kr sub (PySem.F.args_bexc_ga _ _) ?_));unfold Builtin.«object.__getattribute__»;refine Os (T5 (a:=(Value.ref x,[Value.str "__class__" t])) rfl ?_);refine Os (T5 (a:=("__class__":C_)) rfl ?_);refine Os (L0.at (Os (L3.at ?_)));show Sg _ _ (SG [Value.builtin "object.__class__"] (call (.builtin "getset_descriptor.__get__") [.builtin "object.__class__",.ref x,.ref C])>>=PySem.ret) _ _ _;refine Os (SE (Tg (class_get (s:=#[hp,g,d,t+1,os]) X I (mro Kr) ?_)));refine Sh ?_;exact handed_on rfl (Sh h)
end
end Exc
namespace My
open Exc PySem.W in
structure IsE(K:Ex)(C:KF)(cd:Tr):Prop where
 cl:clsIn K C=be cd
 mro:excMro cd.mro=true
 ga:findIn K (.ref C) "__getattribute__"=be (be (.builtin "BaseException.__getattribute__"))
 gb:findIn K (.ref C) "__getattr__"=be q8
 ha:findIn K (.ref C) "__class__"=be (be (.builtin "object.__class__"))
 hn:specialIn K (.builtin "object.__class__") "__get__"=be (be (.builtin "getset_descriptor.__get__"))
 ht:takesIn K (.builtin "object.__class__")=be true
open Exc PySem.W in
def IsE.kit{K:Ex}{C x:KF}{cd:Tr}{ox:Sx}{JW:Option Sx}(k:IsE K C cd):KitX K (.ref x) (.ref C) (λh=>InstAt h x ox C JW):=by
 have at_:∃c' d' k9,K.lookup C=be #[c',d',.cls cd,k9]:=by
  have hc:=k.cl;unfold clsIn at hc;split at hc
  .rename_i c' d' Q3 k9 ho;cases hc;exact#[c',d',k9,ho]
  .cases hc
 obtain⟨c',d',k9,ho⟩:=at_;refine#[λ_ _ _ I=>I.type,λ_ _ X _=>?_,λh tp dd its n sl X Q4=>?_,λX I h=>?_]
 .intro A' Q' E' s' k q;unfold isType loadHead;exact Os (wpAny_loadPart (k _ _ (X _ _ ho)) (Sh q))
 .refine GO.mpr λq=>?_;have e:C=tp:=Value.ref.inj (beq_iff_eq.mp q);subst e;have z:=(X _ _ ho).symm.trans Q4;cases z
 .refine exc_class X I k.cl k.mro k.ga k.gb ?_ h;unfold findObj;rw[k.cl,Hs,k.ha,Hs];simp[k.hn,k.ht]
section
variable {X:Cx}{C:KF}{cd:Tr}{x y:C_}{a:P3}{ta:TD}{pos p p2:Sr}
open Exc PySem.W in
def Db{c:KB}{cv:V}(NS:∀u,RelV cv u->u=c):bA X (.builtin "isinstance") (λxs H Q=>∃b C cd od k,xs=[.ref b,cv]/\H b=be (XO b C od)/\IsE X.K C cd/\(∀d,od=be d->∃ws,H d=be (.xd ws))/\kitOne X.K (.ref C) c=be k/\Q (.bl k) H):=by
 intro pins s σ H xs us Q I r h;obtain⟨b,C,cd,od,k,rfl,e,hE,hd,hk,q⟩:=h;obtain⟨u,u',rfl,rx,rc⟩:=dX r;cases(show u=Value.ref b from rx);cases NS u' rc;obtain⟨vs,sl,LK⟩:=(I.hok b _ e).1;have inst:∃JW,InstAt s.heap b #[.ref C,od,.fields vs,sl] C JW:=by
  cases od with
  |none=>exact#[q8,LK,rfl,rfl,trivial]
  |some d=>
   obtain⟨ws,hw⟩:=hd d rfl;obtain⟨mA,hns,J8⟩:=(show ObjOk X.prog X.w H s.heap d (.xd ws)from I.hok d _ hw);obtain⟨JW,ho,look⟩:=qB hns;exact#[be JW,LK,rfl,rfl,ho]
 obtain⟨JW,J⟩:=inst;exact kia_one hE.kit I.kIn J hk (λz=>nomatch z) λtk=>#[.bl k,H,I.tok _,rfl,q]
def dIsE(al:List (C_×Bool))(ta:TD):TD:=λz R=>ta z λd=>∃x fs k,d=.exc x fs/\(x,k)∈al/\R (.bl k)
def IsF(K:Ex)(al:List (C_×Bool))(c:KB):Prop:=∀x k,(x,k)∈al->∃C cd,nsIn K Pi x=be (be (.ref C))/\IsE K C cd/\kitOne K (.ref C) c=be k
variable{f:List (C_×Bool)}
def vx[Jx]{c:KB}{cv:V}(hf:IsF X.K f c)(NS:∀u,RelV cv u->u=c)(hb:PE X (.Name y p2) (tC cv))(hm:X.mg "isinstance"=q8)(ha:WDE X a ta)(hg:Gl X "isinstance")
  (g5:Si [a,.Name y p2] X.env=(false,So a X.env)::Si [.Name y p2] X.env) (g7:Si [.Name y p2] X.env=(false,So (.Name y p2) X.env)::Si [] X.env) (c_:(SZ pos (Si [.Name y p2] X.env)).any (·.1)=false):WDE X (.Call (.Name "isinstance" p) [a,.Name y p2] [] pos) (dIsE f ta):=⟨by
 refine(dY (Db NS) hg hm PyProof.Rows.boot_isinstance (bf ha.out (bf hb pa_nil g7) g5) Ku Ku g5 c_).anti λs H Q q=>?_;obtain⟨B,F,z,kf,rs,R,h1,h2⟩:=q;refine#[B,F,z,kf,rs,_,h1,λd u F1 H1 g1 hx rx=>?_];obtain⟨x,fs,k,rfl,hk,hR⟩:=hx;obtain⟨b,C,od,vs,rfl,hn,Q5,rf,Nw⟩:=rep_exc.mp rx;obtain⟨C',cd,j5,hE,NT⟩:=hf x k hk;rw[hn]at j5;cases j5;refine#[b,C,cd,od,k,rfl,g1.fh _ _ Q5,hE,λd e=>?_,NT,h2 _ _ F1 H1 g1 hR (rep_bl.mpr rfl)];rcases Nw with⟨e2,_⟩|⟨b',e2,j7⟩
 .rw[e2]at e;cases e
 .rw[e2]at e;cases e;exact#[_,g1.fh _ _ j7]⟩
def dR[Jx](h:∃D,X.mg y=be (.ref D)/\IsF X.K f (.ref D))(hm:X.mg "isinstance"=q8)(ha:WDE X a ta)(hg:autoParam (Gl X "isinstance") zA0)(Kt:autoParam (Gl X y) zA0)(d8:autoParam (zND y) zA1)
  (g5:autoParam (Si [a,.Name y p2] X.env=(false,So a X.env)::Si [.Name y p2] X.env) zA0) (g7:autoParam (Si [.Name y p2] X.env=(false,So (.Name y p2) X.env)::Si [] X.env) zA0) (c_:autoParam ((SZ pos (Si [.Name y p2] X.env)).any (·.1)=false) zA0):WDE X (.Call (.Name "isinstance" p) [a,.Name y p2] [] pos) (dIsE f ta):=
 let ⟨D,hD,hf⟩:=h
 vx (cv:=.ref D) hf (λ_ r=>r) (pZ Kt hD rfl d8) hm ha hg g5 g7 c_
def Dc[Jx](hf:IsF X.K f (.type "ValueError"))(hm:X.mg "isinstance"=q8)(Lu:X.mg "ValueError"=q8)(ha:WDE X a ta)(hg:autoParam (Gl X "isinstance") zA0)(Kt:autoParam (Gl X "ValueError") zA0)
  (g5:autoParam (Si [a,.Name "ValueError" p2] X.env=(false,So a X.env)::Si [.Name "ValueError" p2] X.env) zA0) (g7:autoParam (Si [.Name "ValueError" p2] X.env=(false,So (.Name "ValueError" p2) X.env)::Si [] X.env) zA0) (c_:autoParam ((SZ pos (Si [.Name "ValueError" p2] X.env)).any (·.1)=false) zA0):WDE X (.Call (.Name "isinstance" p) [a,.Name "ValueError" p2] [] pos) (dIsE f ta):=
 vx (cv:=.ty "ValueError") hf (λ_ r=>r) (jx Kt Lu rfl rfl) hm ha hg g5 g7 c_
end
section
variable {K:Ex}{mg:C_->Option KB}{x y:C_}{h:Sl}{C D:KF}{b:Bool}{al:List (C_×Bool)}{c:KB}
def dv:IsF K [] c:=λ_ _ e=>nomatch e
def bH(h:∃C cd,nsIn K Pi x=be (be (.ref C))/\IsE K C cd/\kitOne K (.ref C) c=be b)(r:IsF K al c):IsF K ((x,b)::al) c:=λx' k e=>by
 cases e with
 |head=>exact h
 |tail _ e=>exact r x' k e
def ExIn(K:Ex)(x:C_):Prop:=∃C,NsC K x C/\Gw K (.ref C) "__getattribute__"=be (be (.builtin "BaseException.__getattribute__"))/\Gw K (.ref C) "__getattr__"=be q8/\
 Gw K (.ref C) "__class__"=be (be (.builtin "object.__class__"))/\HA K (.builtin "object.__class__") "__get__"=be (be (.builtin "getset_descriptor.__get__"))/\HB K (.builtin "object.__class__")=be true
def exIn_mk(a:nsIn K Pi x=be (be (.ref C)))(b:Gw K (.ref C) "__getattribute__"=be (be (.builtin "BaseException.__getattribute__")))(c:Gw K (.ref C) "__getattr__"=be q8)
  (d:Gw K (.ref C) "__class__"=be (be (.builtin "object.__class__"))) (e:HA K (.builtin "object.__class__") "__get__"=be (be (.builtin "getset_descriptor.__get__"))) (f:HB K (.builtin "object.__class__")=be true):ExIn K x:=#[C,a,b,c,d,e,f]
def YeIn(K:Ex)(y:C_):Prop:=∃D,NsC K y D/\hasDictIn K D=true/\typeIn K (.ref D)=be (.type "type")
def yeIn_mk(a:nsIn K Pi y=be (be (.ref D)))(b:hasDictIn K D=true)(c:typeIn K (.ref D)=be (.type "type")):YeIn K y:=#[D,a,b,c]
def ErrK.isE{N:KF}{bm:List KB}(k:ErrK K mg x C N bm)(e:ExIn K x):∃cd,IsE K C cd/\cd.mro=.ref C::bm:=by
 obtain⟨C',h1,h2,h3,h4,h5,h6⟩:=e;cases NsC.uniq k.ns h1;obtain⟨nm,q,bs,sn,sub,ab,col,dd,k0,k1,k2,k3,k5,lk⟩:=k.obj;exact#[_,#[by unfold Jb;rw[lk],by show Exc.excMro (.ref C::bm)=true;unfold Exc.excMro;exact ky k.tail,h2,h3,h4,h5,h6],rfl]
def isY(e:∃C N bm,ErrK K mg x C N bm)(ex:ExIn K x)(nD:NsC K y D)(hD:hasDictIn K D=true)(ty:typeIn K (.ref D)=be (.type "type"))(m:EmIn K x y)(hb:subE x y=b):∃C cd,nsIn K Pi x=be (be (.ref C))/\IsE K C cd/\kitOne K (.ref C) (.ref D)=be b:=by
 obtain⟨C,N,bm,k⟩:=e;obtain⟨cd,hE,hm⟩:=k.isE ex;obtain⟨C',D',h1,h2,h3⟩:=m;cases NsC.uniq k.ns h1;cases NsC.uniq nD h2;refine#[C,cd,k.ns,hE,?_];rw[hb]at h3;unfold kitOne;split
 .rename_i q;have e:C=D:=Value.ref.inj (beq_iff_eq.mp q);subst e;unfold GR at h3;rw[hE.cl,Hs,hm]at h3;simpa using h3
 .unfold kitCls;obtain⟨Q3,y7,_⟩:=any_some hD;dsimp only;rw[y7,ty,if_pos Kv];exact h3
def isVE(e:∃C N bm,ErrK K mg x C N bm)(ex:ExIn K x):∃C cd,nsIn K Pi x=be (be (.ref C))/\IsE K C cd/\kitOne K (.ref C) (.type "ValueError")=be true:=by
 obtain⟨C,N,bm,k⟩:=e;obtain⟨cd,hE,hm⟩:=k.isE ex;refine#[C,cd,k.ns,hE,?_];unfold kitOne;rw[if_neg (by intro q;cases beq_iff_eq.mp q)];unfold kitCls;dsimp only;rw[if_pos Kr];show GR K C _=_;unfold GR;rw[hE.cl,Hs,if_neg (by rw[hm];simp),Exc.exc_has Kr hE.mro]
end
abbrev Bx.j(V:Bx)(y:C_)(al:List (C_×Bool)):Prop:=∃D,V.mg y=be (.ref D)/\IsF V.K al (.ref D)
abbrev Bx.jv(V:Bx)(al:List (C_×Bool)):Prop:=IsF V.K al (.type "ValueError")
def Dd(t:TMA):TME:=λz M R=>t z M λxs M1=>xs.length<=1000/\R (.lst xs) M1
def De{X:Cx}[J:Jm]{pos:Sr}{es:List P3}{t:TMA}(h:MA X es t):ME X (.List es pos) (Dd t):=⟨(gE h.out).anti λs H Q q=>by
 obtain⟨F,z,M,k,rs,R,h1,h2⟩:=q;refine#[F,z,M,k,rs,_,h1,λds vs M1 F1 H1 g1 hx rx m1=>?_];have hl:=rx.length;refine#[sz (by rw[hl];exact hx.1),λp hp=>?_];have gn:=Grow.new g1.fh hp (.lst vs);exact h2 _ _ M1 _ _ (g1.trans gn.toM) hx.2 (rep_lst.mpr #[p,vs,rfl,aB,rx.mono (aP (g1.fh.free hp) _)]) (m1.grow gn)⟩
def splitN(S:SpM):SpM:=λds M R RX=>∃M1 M2,subM (M1++M2) M/\S ds M2 (λd M'=>(aj (M1++M')).Nodup->R d (M1++M')) λx fs M'=>(aj (M1++M')).Nodup->RX x fs (M1++M')
def vy{K:Ex}{S:SpM}{vs:List V}{H:Hp}{Q:VK}{E:XK}(h:lSpM K (splitN S) vs H Q E):lSpM K S vs H Q E:=by
 obtain⟨F,ds,M,fh,rs,rm,R,RX,⟨M1,M2,s,hS⟩,q,qx⟩:=h;exact kM #[F,ds,M1++M2,fh,rs,rm.sub s,λd N=>(aj N).Nodup->R d N,λx fs N=>(aj N).Nodup->RX x fs N,#[M1,M2,rfl,hS],λd v M' F' H' g hR hd hm=>q d v M' F' H' (g.sub0 s) (hR hm.nd) hd hm,λx fs C od M' F' H' g hR er hm=>qx x fs C od M' F' H' (g.sub0 s) (hR hm.nd) er hm]
section
variable {P:Sd}{w:Sj}{K:Ex}{mg:C_->Option KB}{base:Sl}{n:Nat}{x m:C_}{ps:List C_}{S:SpM}
def CalMM.splitN(C:CalMM P w K mg base n x ps S):CalMM P w K mg base n x ps (splitN S):=C.imp λ_ _ _ _ h=>vy h
def CalMth.splitN(C:CalMth P w K mg base n x m ps (lSpM K S)):CalMth P w K mg base n x m ps (lSpM K (splitN S)):=C.imp λ_ _ _ _ h=>vy h
end
def Df(t:TME):TME:=λz M R=>t z M λd M'=>(aj M').Nodup->R d M'
def vz{X:Cx}[J:Jm]{e:P3}{t:TME}(h:ME X e t):ME X e (Df t):=⟨h.out.anti λs H Q q=>by
 obtain⟨F,z,M,k,rs,R,h1,h2⟩:=q;exact#[F,z,M,k,rs,_,h1,λd v M' F' H' g hR rd m'=>h2 d v M' F' H' g (hR m'.nd) rd m']⟩
def Dg{a:KF}{o:MO}:∀{M:MS},(aj M).Nodup->(a,o)∈M->mget M a=be o:=λ{M}=>by
 induction M with
 |nil=>intro _ h;cases h
 |cons e M ih=>
  intro nd h;obtain⟨b,p⟩:=e;have z7:=GP.mp nd;rcases Gh.mp h with h|h
  .cases h;exact if_pos rfl
  .have:b≠a:=λz=>z7.1 (by subst z;exact br h);exact(if_neg this).trans (ih z7.2 h)
end My
namespace My
open Exc
abbrev TDN:=SD->(List D->Prop)->Prop
def lN(K:Ex)[J:Jx](t:TDN):TE:=λs H Q=>∃B F z,Kept B J.F0 F H/\RepS K B F H z s/\∃R:List D->Prop,t z R/\∀ds p us F' H',Grow F H F' H'->F' p=q8->B p=q8->H' p=be (.lst us)->Reps K F' ds us->R ds->Q (.ref p) H'
structure WDN(X:Cx)[Jx](e:P3)(t:TDN):Prop where
 out:PE X e (lN X.K t)
section
variable {X:Cx}[J:Jx]{e:P3}{pos:Sr}{st:Se}{b7:List Se}{t:TSD}
def vA(i:Nat):TDN:=λz R=>match z[i]? with|some (be (.own ds))=>R ds|_=>False
def Dh(i:Nat){x:C_}(hN:autoParam (X.N[i]?=be x) zA0)(hv:autoParam (Vis X.env.scope x) zA5)(hd:autoParam (zND x) zA1)
  (gV:autoParam (zNC x) zA1):WDN X (.Name x pos) (vA i):=⟨(dB hN hv hd gV).anti λs H Q h=>by
 obtain⟨B,F,z,kf,r,R,h1,h2⟩:=h;unfold vA at h1;split at h1
 .rename_i ds e;obtain⟨a,vs,q1,q2,q3,q4,q5⟩:=r.own i ds e;exact#[_,q1,h2 ds a vs F H (Grow.refl kf.fh) q4 q3 q2 q5 h1]
 .exact h1.elim⟩
variable {f9 iter:P3}{x:C_}{px:Sr}{scope:SK}{ti te:TD}
def Di(u9:TDI)(te:TD):TDN:=λz R=>gO u9 te z λd=>kdL d R
def Dj{p1 p2:Sr}(hc:X.calm=true)(S:CompScope X scope x)(hm:X.mg "range"=q8)(hi:WDE X iter ti)(he:∀cl s₀ H₀ fp,WDE (bT X scope cl x s₀ H₀ fp) f9 te)(hg:autoParam (Gl X "range") zA0)
  (hs:autoParam (∀y,zFS X (.Call (.Name "range" p1) [iter] [] p2) y) zA2) (m7:autoParam (zSE X iter []) zA0) (f7:autoParam (Si [iter] X.env=[(false,So iter X.env)]) zA0):WDN X (.ListComp f9 [#[.Name x px,.Call (.Name "range" p1) [iter] [] p2,[],0]] scope pos) (Di (dItR ti) te):=⟨have hi:=hi.out;have he:=λcl s₀ H₀ fp=>(he cl s₀ H₀ fp).out;(sy hc S (gB hg hm (bf hi pa_nil m7) f7) (λ_ _ _ _=>gP) he hs).anti λs H Q q=>by
 obtain⟨B,F,z,kf,rs,R,h1,h2⟩:=q;exact itR kf rs h1 λitems J F1 H1 g1 hg it=>km kf g1 rs (λD ys us F' H' hH hF GG hu ry hR=>h2 ys D us F' H' GG hF (by cases q:B D with
  |none=>rfl
  |some o=>have:=kf.bh D o q;rw[hH]at this;cases this) hu ry hR) it (cmpP.g hg)⟩
abbrev TSN:=EndsD->(List D->Prop)->SD->Prop
def lSN(K:Ex)[J:Jx](t:TSN):TS:=λE s H=>∃B F0 F z,Kept B F0 F H/\RepS K B F H z s/\∃(ED:EndsD) (RN:List D->Prop),t ED RN z/\EndsOk K B F0 ED E/\∀ds p us F' H',Kept B F0 F' H'->F' p=q8->B p=q8->H' p=be (.lst us)->Reps K F' ds us->RN ds->E.rt (.ref p) H'
structure WDSN(X:Cx)[Jx](l:List Se)(t:TSN):Prop where
 out:PSs X l (lSN X.K t)
def vB{tn:TDN}(h:WDN X e tn):WDSN X [.Return (be e) pos] (λ_ RN z=>tn z RN):=⟨PSs.anti (jy (jA h.out)) λE s H q=>by
 obtain⟨B,F0,F,z,k,rs,ED,RN,h,ee,en⟩:=q;exact#[B,F,z,k.kf,rs,RN,h,λds p us F' H' g a b c d r=>en ds p us F' H' (k.grow g) a b c d r]⟩
def dz{u:TSN}(h1:WDS X st t)(h2:WDSN X b7 u):WDSN X (st::b7) (λED RN z=>t {ED with nx:=u ED RN} z):=⟨(gy h1.out h2.out).anti λE s H q=>by
 obtain⟨B,F0,F,z,k,rs,ED,RN,h,e,en⟩:=q;exact#[B,F0,F,z,k,rs,{ED with nx:=u ED RN},h,#[λz' s' F' H' k' hz r'=>#[B,F0,F',z',k',r',ED,RN,hz,e,en],e.rt,e.bk,e.ct]]⟩
end
abbrev SpN:=List D->(List D->Prop)->XD->Prop
def lSpN(K:Ex)(S:SpN):Sp:=λvs H Q E=>∃F ds,Same F H/\Reps K F ds vs/\∃(R:List D->Prop) (RX:XD),S ds R RX/\(∀xs p us F' H',Grow F H F' H'->F' p=q8->H p=q8->H' p=be (.lst us)->Reps K F' xs us->R xs->Q (.ref p) H')/\
 ∀x fs C od F' H',Grow F H F' H'->RX x fs->ErrD K F' x fs C od->E (.ref C) od H'
section
variable {P:Sd}{w:Sj}{K:Ex}{mg:C_->Option KB}{base:Sl}
variable{x:C_}{st:Se}{N ps:List C_}{k:Nat}{S:SpN}
def _root_.L2.Fun.okN{qual:C_}{f:KF}{fd:Sq}(T:Fun K x qual st f fd)(F:FnScope N ps (ah st))(len:∀ds R RX,S ds R RX->ds.length=ps.length)
  (a_:∀(cdv:KB) (A:Sk) (outer:List S1) (s:KM) (H:Hp) (E:XK) (J:Jx),Room k (A.deeper (Su qual (ah st) s.heap.objs.size f cdv))->XOk (cxOf (CX1 P w) P w K mg base N qual (ah st) f cdv A outer s H E)->
   ∃t,WDSN (cxOf (CX1 P w) P w K mg base N qual (ah st) f cdv A outer s H E) (aJ st) t/\∀ds R RX,(∀z,J.RX z=RX)->S ds R RX->t {nx:=λ_=>False,rt:=λ_=>False} R (startD N ds)):FnOk P w K mg base (CX1 P w) (k+1) f fd ps (lSpN K S):=by
 refine Fun.okC T F (λvs H Q E h=>?_) (λcdv A outer s H vs Q E hr h=>?_)
 .obtain⟨F,ds,fh,rs,R,RX,h,_⟩:=h;rw[rs.length];exact len ds R RX h
 .obtain⟨F,ds,fh,rs,R,RX,h,q,qx⟩:=h
  letI:Jx:=#[H,F,λ_=>RX]
  have hx:XOk (cxOf (CX1 P w) P w K mg base N qual (ah st) f cdv A outer s H E):=by
   intro σ z F' H' s' e C od y fs I kk rr hR er ⟨He,ne,_,hx⟩;have hE:E (.ref C) od H':=qx y fs C od F' H' #[kk.f0,kk.fh,kk.bh,kk.out] hR er;rcases hx with⟨sl,vs,h1,h2⟩|⟨T,h1,h2,h3,_⟩
   .exact jU I h1 h2 He ne hE
   .exact kr I h1 ne h2 He h3 hE
  obtain⟨t,ht,hq⟩:=a_ cdv A outer s H E inferInstance hr hx;refine#[_,ht.out,H,F,F,startD N ds,#[Same.refl H,fh,Same.refl F,λ_ h _=>h,rfl,Same.refl F,λ_ h _=>h],dF rs,_,_,hq ds R RX (λ_=>rfl) h,#[λ_ _ _ _ _ h _=>h.elim,λ_ _ _ _ _ h _=>h.elim,λ_ _ _ _ _ h _=>h.elim,λ_ _ _ _ _ h _=>h.elim],λds p us F' H' k a b c d r=>q ds p us F' H' #[k.f0,k.fh,k.bh,k.out] a b c d r]
def Tx.okN(T:Tx K mg x st ps)(F:FnScope N ps (ah st))(len:∀ds R RX,S ds R RX->ds.length=ps.length)
  (a_:∀(f:KF) (cdv:KB) (A:Sk) (outer:List S1) (s:KM) (H:Hp) (E:XK) (J:Jx),Room k (A.deeper (Su x (ah st) s.heap.objs.size f cdv))->XOk (cxOf (CX1 P w) P w K mg base N x (ah st) f cdv A outer s H E)->
   ∃t,WDSN (cxOf (CX1 P w) P w K mg base N x (ah st) f cdv A outer s H E) (aJ st) t/\∀ds R RX,(∀z,J.RX z=RX)->S ds R RX->t {nx:=λ_=>False,rt:=λ_=>False} R (startD N ds)):Cal P w K mg base (k+1) x ps (lSpN K S):=by
 obtain⟨f,fd,T,hb,hm⟩:=T;exact#[f,fd,T.okN F len λcdv A outer s H E J hr hx=>a_ f cdv A outer s H E J hr hx,hb,T.kp,hm]
def Txm.okN{m qual:C_}(T:Txm K x m qual st ps)(F:FnScope N ps (ah st))(len:∀ds R RX,S ds R RX->ds.length=ps.length)
  (a_:∀(f:KF) (cdv:KB) (A:Sk) (outer:List S1) (s:KM) (H:Hp) (E:XK) (J:Jx),Room k (A.deeper (Su qual (ah st) s.heap.objs.size f cdv))->XOk (cxOf (CX1 P w) P w K mg base N qual (ah st) f cdv A outer s H E)->
   ∃t,WDSN (cxOf (CX1 P w) P w K mg base N qual (ah st) f cdv A outer s H E) (aJ st) t/\∀ds R RX,(∀z,J.RX z=RX)->S ds R RX->t {nx:=λ_=>False,rt:=λ_=>False} R (startD N ds)):CalMth P w K mg base (k+1) x m ps (lSpN K S):=by
 obtain⟨C,f,fd,h1,h2,h3,T,hb⟩:=T;exact#[C,f,fd,h1,h2,h3,T.okN F len λcdv A outer s H E J hr hx=>a_ f cdv A outer s H E J hr hx,hb]
def newN(S:SpN):SpM:=λds M R RX=>S ds (λxs=>∀p,p∉aj M->R (.ptr p) ((p,.lst xs)::M)) λx fs=>RX x fs M
def Dk{vs:List V}{H:Hp}{Q:VK}{E:XK}(h:lSpM K (newN S) vs H Q E):lSpN K S vs H Q E:=by
 obtain⟨F,ds,M,fh,rs,rm,R,RX,hS,q,qx⟩:=h;refine#[F,ds,fh,rs,_,_,hS,λxs p us F' H' g hF hH hu ry hR=>?_,λx fs C od F' H' g hR er=>qx x fs C od M F' H' g.toM hR er (rm.grow g)];have np:p∉aj M:=λz=>rm.here z hH;have m1:=rm.grow g;refine q _ _ _ F' H' #[g.ff,g.fh,λb o _ e=>g.hh b o e,λb _ h1 h2=>g.out b h1 h2,λb hb=>?_] (hR p np) (rep_ptr.mpr rfl) #[GP.mpr #[np,m1.nd],λb o hb=>?_,λb hb=>?_]
 .rcases Gh.mp hb with z|z
  .exact .inr (by rw[z];exact hH)
  .exact .inl z
 .rcases Gh.mp hb with z|z
  .cases z;exact#[us,hu,ry]
  .exact m1.ok b o z
 .rcases Gh.mp hb with z|z
  .rw[z];exact hF
  .exact m1.fr b z
end
variable{K:Ex}{H:Hp}{a:KF}
def lent{F F' H':Hp}{M:MS}{o:HO}(rm:RepM K F H M)(ha:a∈aj M)(g:Grow (upd F a o) H F' H'):F' a=be o/\Same F (cutF F' a)/\Same (cutF F' a) H'/\(∀b,F b=q8->H b≠q8->cutF F' a b=q8)/\RepM K (cutF F' a) H' M:=by
 have fa:=rm.fr a ha;have ff:Same F (cutF F' a):=λb u e=>by
  have ne:b≠a:=λz=>by rw[z,fa]at e;cases e
  rw[fX ne];exact g.ff b u (by rw[au ne];exact e)
 have out:∀b,F b=q8->H b≠q8->cutF F' a b=none:=λb h1 h2=>by
  by_cases hb:b=a
  .subst hb;exact if_pos rfl
  .rw[fX hb];exact g.out b (by rw[au hb];exact h1) h2
 refine#[g.ff a _ aB,ff,λb u e=>?_,out,rm.nd,λb u hb=>(rm.ok b u hb).mono ff λo e=>g.hh b o e,λb hb=>out b (rm.fr b hb) (rm.here hb)];by_cases hb:b=a
 .subst hb;unfold cutF at e;rw[if_pos rfl]at e;cases e
 .rw[fX hb]at e;exact g.fh b u e
def lent_same{F:Hp}{o:HO}(fh:Same F H)(h:H a=be o):Same (upd F a o) H:=λb u e=>by
 by_cases hb:b=a
 .subst hb;rw[aB]at e;cases e;exact h
 .rw[au hb]at e;exact fh b u e
def lendN(S:SpN):SpM:=λds M R _=>∃a x fs,mget M a=be (.ins x fs)/\S (ds.map (cu a (.obj x fs))) (λxs=>flats xs=true/\∀p,p∉aj M->R (.ptr p) ((p,.lst xs)::M)) λ_ _=>False
variable{vs:List V}
def Dl{S:SpN}{Q:VK}{E:XK}(h:lSpM K (lendN S) vs H Q E):lSpN K S vs H Q E:=by
 obtain⟨F,ds,M,fh,rs,rm,R,RX,⟨a,x,fs,hm,hS⟩,q,qx⟩:=h;have ma:=bg hm;obtain⟨C,dx,ws,n,hH,rf⟩:=rm.ok _ _ ma;have fa:=rm.fr a (br ma);have g:Same F (upd F a (.ins C dx ws)):=aP fa _;have ro:Rep K (upd F a (.ins C dx ws)) (.obj x fs) (.ref a):=by
  unfold Rep;exact#[a,C,dx,ws,rfl,n,aB,RepF.mono g fs ws rf]
 refine#[upd F a (.ins C dx ws),_,lent_same fh hH,tI g ro rs,_,_,hS,λxs p us F' H' g' hF hH hu ry hR=>?_,λ_ _ _ _ _ _ _ z=>z.elim];obtain⟨ea,ff,NU,out,m1⟩:=lent rm (br ma) g';have np:p∉aj M:=λz=>rm.here z hH;have hp:cutF F' a p=none:=by
  unfold cutF;split
  .rfl
  .exact hF
 refine q _ _ _ (cutF F' a) H' #[ff,NU,λb o _ e=>g'.hh b o e,λb _ h1 h2=>out b h1 h2,λb hb=>?_] (hR.2 p np) (rep_ptr.mpr rfl) #[GP.mpr #[np,m1.nd],λb o hb=>?_,λb hb=>?_]
 .rcases Gh.mp hb with z|z
  .exact .inr (by rw[z];exact hH)
  .exact .inl z
 .rcases Gh.mp hb with z|z
  .cases z;exact#[us,hu,Reps.cutF ea xs us hR.1 ry]
  .exact m1.ok b o z
 .rcases Gh.mp hb with z|z
  .rw[z];exact hp
  .exact m1.fr b z
def lendL(S:SpD):SpM:=λds M R _=>∃a xs N,mget M a=be (.lst xs)/\subM N M/\S (ds.map (cu a (.lst xs))) λd=>kdB d λb=>R (.bl b) N
def Dm{S:SpD}{Q:VK}{E:XK}(h:lSpM K (lendL S) vs H Q E):lSp K S vs H Q E:=by
 obtain⟨F,ds,M,fh,rs,rm,R,RX,⟨a,xs,N,hm,sN,hS⟩,q,qx⟩:=h;have ma:=bg hm;obtain⟨us,hH,ru⟩:=rm.ok _ _ ma;have g:Same F (upd F a (.lst us)):=aP (rm.fr a (br ma)) _;refine#[upd F a (.lst us),_,lent_same fh hH,tI g (rep_lst.mpr #[a,us,rfl,aB,ru.mono g]) rs,_,hS,λd v F' H' g' hd rd=>?_];obtain⟨b,rfl,hb⟩:=kdB.of hd;obtain⟨ea,ff,NU,out,m1⟩:=lent rm (br ma) g';exact q _ v N (cutF F' a) H' #[ff,NU,λb o _ e=>g'.hh b o e,λb _ h1 h2=>out b h1 h2,λb z=>.inl (sN.keys z)] hb (rep_bl.mpr (rep_bl.mp rd)) (m1.sub sN)
def gk{o:D}:cu a o (.ptr a)=o:=if_pos rfl
section
variable {P:Sd}{w:Sj}{K:Ex}{mg:C_->Option KB}{base:Sl}{n:Nat}{x:C_}{ps:List C_}
abbrev CalNL(P:Sd)(w:Sj)(K:Ex)(mg:C_->Option KB)(base:Sl)(n:Nat)(x:C_)(ps:List C_)(S:SpN):Prop:=Cal P w K mg base n x ps (lSpN K S)
def CalNL.new{S:SpN}(C:CalNL P w K mg base n x ps S):CalMM P w K mg base n x ps (newN S):=Cal.imp C λ_ _ _ _ h=>Dk h
def CalMth.lendN{m:C_}{S:SpN}(C:CalMth P w K mg base n x m ps (lSpN K S)):CalMth P w K mg base n x m ps (lSpM K (My.lendN S)):=C.imp λ_ _ _ _ h=>Dl h
def CalD.lendL{S:SpD}(C:CalD P w K mg base n x ps S):CalMM P w K mg base n x ps (My.lendL S):=Cal.imp C λ_ _ _ _ h=>Dm h
end
abbrev Bx.NL(V:Bx)(n:Nat)(x:C_)(ps:List C_)(S:SpN):Prop:=CalNL V.P V.w V.K V.mg V.base n x ps S
abbrev Bx.QN(V:Bx)(n:Nat)(x m:C_)(ps:List C_)(S:SpN):Prop:=CalMth V.P V.w V.K V.mg V.base n x m ps (lSpN V.K S)
end My
end
section
namespace My
local macro_rules | `(tactic| k_memK) => `(tactic| exact⟨rfl, rfl, rfl, by decide +kernel, rfl, by decide +kernel, by decide +kernel⟩)
local macro_rules | `(tactic| k_places) => `(tactic| try simp only[GA, GB, My.aT])
open PySem PySem.Spec PyProof.Rows L2
def top(i:Nat):Stmt:=PySem.Challenge.pw_motiffield_k28_new_floor.main.body.getD i (.Pass #[0,0,0,0])
abbrev ll:Se:=top 58
abbrev lm:List Str:=["_law_script","_law_k"]
def Dn:FnScope ["_law_script","_law_k"] lm (ah ll):=KK
abbrev lq:Se:=top 60
abbrev lr:List Str:=["_law_script","_law_k","_law_many"]
def sc__law_draws:FnScope ["_law_script","_law_k","_law_many","_law_left","_law_drawn","_law_turn","_law_seed"] lr (ah lq):=KK
abbrev lu:Se:=top 63
abbrev lv:List Str:=["_law_draws_here"]
def sc__law_lines:FnScope ["_law_draws_here","_law_wide","_law_tall","_law_signs","_law_lines_here","_law_j","_law_line","_law_i","_law_place","_law_value"] lv (ah lu):=KK
abbrev lw:Se:=top 61
abbrev lx:List Str:=["_law_draws_here"]
def sc__law_shift_pair:FnScope ["_law_draws_here","_law_a","_law_b","_law_c","_law_d"] lx (ah lw):=KK
abbrev ly:Se:=top 62
abbrev lz:List Str:=["_law_lines_here","_law_one","_law_two"]
def sc__law_motif_text:FnScope ["_law_lines_here","_law_one","_law_two","_law_tail"] lz (ah ly):=KK
abbrev lC:Se:=top 64
abbrev lD:List Str:=["_law_script","_law_k"]
def sc__law_motif:FnScope ["_law_script","_law_k","_law_draws_here","_law_lines_here","_law_one","_law_two","_law_leaf"] lD (ah lC):=KK
abbrev ie:Se:=top 65
abbrev lF:List Str:=["_law_part","_law_draw"]
def sc__law_wrapped:FnScope ["_law_part","_law_draw","_law_across","_law_down","_law_old","_law_new","_law_shift","_law_head","_law_ways","_law_by","_law_leaves","_law_leaf","_law_a","_law_b","_law_c","_law_d","_law_e","_law_f","_law_way","_law_hues"] lF (ah ie):=KK
abbrev lG:Se:=top 69
abbrev lH:List Str:=["_law_a","_law_b"]
def sc__law_gcd:FnScope ["_law_a","_law_b"] lH (ah lG):=KK
abbrev lJ:Se:=top 66
abbrev lK:List Str:=["_law_one","_law_two","_law_u","_law_v"]
def sc__law_on:FnScope ["_law_one","_law_two","_law_u","_law_v","_law_size"] lK (ah lJ):=KK
abbrev lL:Se:=top 71
abbrev lM:List Str:=["_law_leaf"]
def sc__law_leaf_family:FnScope ["_law_leaf","_law_a","_law_b","_law_c","_law_d","_law_e","_law_f","_law_one","_law_two","_law_high","_law_wide","_law_lean"] lM (ah lL):=KK
abbrev lP:Se:=top 70
abbrev lQ:List Str:=["_law_three","_law_x","_law_y"]
def Do:FnScope ["_law_three","_law_x","_law_y"] lQ (ah lP):=KK
abbrev lR:Se:=top 72
abbrev lU:List Str:=["_law_one","_law_two"]
def sc__law_both:FnScope ["_law_one","_law_two","_law_wide","_law_high","_law_x"] lU (ah lR):=KK
abbrev lV:Se:=top 73
abbrev lW:List Str:=["_law_leaves"]
def sc__law_family:FnScope ["_law_leaves","_law_both_here","_law_leaf"] lW (ah lV):=KK
abbrev lX:Se:=top 74
abbrev lY:List Str:=["_law_upper","_law_lower"]
def sc__law_over:FnScope ["_law_upper","_law_lower","_law_leaves"] lY (ah lX):=KK
abbrev lZ:Se:=top 75
abbrev md:List Str:=["_law_script","_law_k"]
def sc__law_pattern:FnScope ["_law_script","_law_k","_law_plan","_law_part","_law_turn","_law_step","_law_other"] md (ah lZ):=KK
abbrev me:Se:=top 67
abbrev mf:List Str:=["_law_leaf","_law_x","_law_y"]
def sc__law_leaf_shows:FnScope ["_law_leaf","_law_x","_law_y","_law_way","_law_u","_law_v","_law_j","_law_i"] mf (ah me):=KK
abbrev mi:Se:=top 68
abbrev mj:List Str:=["_law_leaves","_law_x","_law_y"]
def sc__law_shows:FnScope ["_law_leaves","_law_x","_law_y","_law_leaf","_law_hue"] mj (ah mi):=KK
abbrev ig:Se:=top 78
abbrev ml:List Str:=["_law_leaves","_law_wide","_law_high"]
def sc__law_floor_rows:FnScope ["_law_leaves","_law_wide","_law_high","_law_lines_here","_law_y"] ml (ah ig):=KK
abbrev mm:Se:=top 81
abbrev mn:List Str:=["_law_marks"]
def Dp:FnScope ["_law_marks"] mn (ah mm):=KK
abbrev mo:Se:=aO (top 56) 2
abbrev mv:List Str:=["self","pattern"]
def Dq:FnScope ["self","pattern"] mv (ah mo):=KK
abbrev mx:Se:=aO (top 56) 5
abbrev my:List Str:=["self"]
def sc_Floor_undo:FnScope ["self","deed"] my (ah mx):=KK
abbrev mz:Se:=aO (top 56) 1
abbrev mB:List Str:=["self","word"]
def Dr:FnScope ["self","word"] mB (ah mz):=KK
abbrev mC:Se:=top 33
abbrev mD:List Str:=["x","y"]
def Ds:FnScope ["x","y"] mD (ah mC):=KK
abbrev mF:Se:=top 14
abbrev mG:List Str:=["family","x","y"]
def sc_home:FnScope ["family","x","y","width","height","slant"] mG (ah mF):=KK
abbrev ii:Se:=aO (top 21) 2
abbrev cx:List Str:=["self","x","y"]
def Dt:FnScope ["self","x","y"] cx (ah ii):=KK
abbrev ij:Se:=aO (top 22) 2
abbrev ik:List Str:=["self","x","y"]
def sc_Over_shows:FnScope ["self","x","y","hue"] ik (ah ij):=KK
abbrev il:Se:=aO (top 23) 2
abbrev im:List Str:=["self","x","y"]
def Du:FnScope ["self","x","y"] im (ah il):=KK
abbrev io:Se:=aO (top 24) 2
abbrev ip:List Str:=["self","x","y"]
def Dv:FnScope ["self","x","y"] ip (ah io):=KK
abbrev iq:Se:=aO (top 25) 2
abbrev ir:List Str:=["self","x","y"]
def Dw:FnScope ["self","x","y"] ir (ah iq):=KK
abbrev iu:Se:=aO (top 26) 2
abbrev iw:List Str:=["self","x","y"]
def sc_Rehue_shows:FnScope ["self","x","y","hue"] iw (ah iu):=KK
abbrev mH:Se:=top 34
abbrev mI:List Str:=["pattern","x","y"]
def Dx:FnScope ["pattern","x","y"] mI (ah mH):=KK
abbrev iy:Se:=top 35
abbrev mJ:List Str:=["pattern","x","y","many"]
def Dy:FnScope ["pattern","x","y","many"] mJ (ah iy):=KK
abbrev iz:Se:=aO (top 56) 7
abbrev mK:List Str:=["self"]
def Dz:FnScope ["self"] mK (ah iz):=KK
abbrev mL:Se:=aO (top 56) 3
abbrev iA:List Str:=["self","many"]
def sc_Floor_lay:FnScope ["self","many","ahead"] iA (ah mL):=KK
abbrev mM:Se:=top 82
abbrev mN:List Str:=["_law_floor","_law_many"]
def sc__law_refusal:FnScope ["_law_floor","_law_many","_law_marks","_law_e"] mN (ah mM):=KK
abbrev mQ:Se:=top 59
abbrev mR:List Str:=["_law_found"]
def DB:FnScope ["_law_found"] mR (ah mQ):=KK
abbrev mU:Se:=top 77
abbrev mV:List Str:=["_law_found","_law_due"]
def sc__law_texts:FnScope ["_law_found","_law_due","_law_k"] mV (ah mU):=KK
abbrev mW:Se:=top 76
abbrev mY:List Str:=["_law_found","_law_due"]
def sc__law_seven:FnScope ["_law_found","_law_due","_law_k"] mY (ah mW):=KK
abbrev mZ:Se:=top 79
abbrev ng:List Str:=["_law_lines_here"]
def sc__law_counts:FnScope ["_law_lines_here","_law_found","_law_line","_law_sign"] ng (ah mZ):=KK
abbrev iB:Se:=top 36
abbrev nh:List Str:=["pattern"]
def DC:FnScope ["pattern"] nh (ah iB):=KK
abbrev nj:Se:=top 37
abbrev nq:List Str:=["family","rows","x","y"]
def sc_round_row:FnScope ["family","rows","x","y","cell","row"] nq (ah nj):=KK
abbrev nt:Se:=top 39
abbrev nu:List Str:=["row","sign","many"]
def DD:FnScope ["row","sign","many"] nu (ah nt):=KK
abbrev iC:Se:=top 40
abbrev nv:List Str:=["pattern","left","top","right","bottom"]
def sc_count_all:FnScope ["pattern","left","top","right","bottom","family","rows","many","again","counts","y","times","row","hue","sign"] nv (ah iC):=KK
abbrev nw:Se:=aO (top 56) 8
abbrev ny:List Str:=["self"]
def DF:FnScope ["self"] ny (ah nw):=KK
abbrev nz:Se:=aO (top 56) 9
abbrev nA:List Str:=["self"]
def DG:FnScope ["self"] nA (ah nz):=KK
abbrev nB:Se:=aO (top 56) 6
abbrev nC:List Str:=["self"]
def DJ:FnScope ["self"] nC (ah nB):=KK
abbrev nE:Se:=top 80
abbrev nF:List Str:=["_law_floor","_law_text","_law_size","_law_laid","_law_rest","_law_many"]
def sc__law_view:FnScope ["_law_floor","_law_text","_law_size","_law_laid","_law_rest","_law_many","_law_found"] nF (ah nE):=KK
abbrev nG:Se:=aO (top 44) 1
abbrev nH:List Str:=["self","allowed"]
def DK:FnScope ["self","allowed"] nH (ah nG):=KK
abbrev nI:Se:=aO (top 44) 2
abbrev nJ:List Str:=["self","allowed"]
def sc_Reading_take:FnScope ["self","allowed","sign"] nJ (ah nI):=KK
abbrev nK:Se:=top 47
abbrev nM:List Str:=["reading","least","most"]
def sc_line_from:FnScope ["reading","least","most","line","column"] nM (ah nK):=KK
abbrev nN:Se:=top 48
abbrev nO:List Str:=["reading"]
def sc_lines_from:FnScope ["reading","lines","width"] nO (ah nN):=KK
abbrev nP:Se:=top 45
abbrev nQ:List Str:=["reading"]
def sc_number_from:FnScope ["reading","written"] nQ (ah nP):=KK
abbrev nR:Se:=top 46
abbrev nS:List Str:=["reading"]
def sc_shift_from:FnScope ["reading","x"] nS (ah nR):=KK
abbrev nU:Se:=top 11
abbrev nV:List Str:=["first","second"]
def sc_levelled:FnScope ["first","second","times","rest"] nV (ah nU):=KK
abbrev nW:Se:=top 13
abbrev nX:List Str:=["first","second"]
def sc_spread:FnScope ["first","second","pair","width"] nX (ah nW):=KK
abbrev nY:Se:=top 20
abbrev nZ:List Str:=["lines","family"]
def sc_hues_by_home:FnScope ["lines","family","hues","row","line","column","sign"] nZ (ah nY):=KK
abbrev oa:Se:=aO (top 21) 0
abbrev og:List Str:=["self","place","lines","first","second"]
def DL:FnScope ["self","place","lines","first","second"] og (ah oa):=KK
abbrev oh:Se:=top 49
abbrev oi:List Str:=["reading"]
def sc_motif_from:FnScope ["reading","place","lines","first","second"] oi (ah oh):=KK
abbrev oj:Se:=aO (top 24) 0
abbrev ol:List Str:=["self","form"]
def DM:FnScope ["self","form"] ol (ah oj):=KK
abbrev om:Se:=aO (top 25) 0
abbrev oq:List Str:=["self","form"]
def DN:FnScope ["self","form"] oq (ah om):=KK
abbrev ot:Se:=aO (top 22) 0
abbrev ou:List Str:=["self","above","below"]
def DO:FnScope ["self","above","below"] ou (ah ot):=KK
abbrev ow:Se:=aO (top 23) 0
abbrev oy:List Str:=["self","form","x","y"]
def DP:FnScope ["self","form","x","y"] oy (ah ow):=KK
abbrev oz:Se:=aO (top 26) 0
abbrev oA:List Str:=["self","form","old","new"]
def DQ:FnScope ["self","form","old","new"] oA (ah oz):=KK
abbrev iD:Se:=top 50
abbrev gl:List Str:=["reading","around"]
def sc_over_from:FnScope ["reading","around","above","below"] gl (ah iD):=KK
abbrev iE:Se:=top 51
abbrev gm:List Str:=["reading","around"]
def sc_shifted_from:FnScope ["reading","around","shift"] gm (ah iE):=KK
abbrev iF:Se:=top 52
abbrev gq:List Str:=["reading","around"]
def sc_rehue_from:FnScope ["reading","around","old","new"] gq (ah iF):=KK
abbrev iG:Se:=top 53
abbrev cC:List Str:=["reading","around"]
def sc_form_from:FnScope ["reading","around","sign"] cC (ah iG):=KK
abbrev oB:Se:=aO (top 44) 0
abbrev oC:List Str:=["self","text"]
def DR:FnScope ["self","text"] oC (ah oB):=KK
abbrev oE:Se:=aO (top 43) 0
abbrev oF:List Str:=["self","text","shifts","form"]
def DU:FnScope ["self","text","shifts","form"] oF (ah oE):=KK
abbrev oG:Se:=top 12
abbrev oH:List Str:=["one","two"]
def sc_measure:FnScope ["one","two","last"] oH (ah oG):=KK
abbrev oI:Se:=top 15
abbrev oJ:List Str:=["one","two"]
def sc_met:FnScope ["one","two","common","width","rise","start","gap","climbs","steps"] oJ (ah oI):=KK
abbrev oK:Se:=top 16
abbrev oM:List Str:=["family"]
def DV:FnScope ["family"] oM (ah oK):=KK
abbrev oN:Se:=top 17
abbrev oO:List Str:=["family"]
def DX:FnScope ["family"] oO (ah oN):=KK
abbrev iH:Se:=aO (top 21) 1
abbrev cy:List Str:=["self"]
def DY:FnScope ["self"] cy (ah iH):=KK
abbrev iI:Se:=aO (top 22) 1
abbrev iJ:List Str:=["self"]
def sc_Over_family:FnScope ["self","first"] iJ (ah iI):=KK
abbrev iK:Se:=aO (top 23) 1
abbrev iL:List Str:=["self"]
def DZ:FnScope ["self"] iL (ah iK):=KK
abbrev iM:Se:=aO (top 24) 1
abbrev iN:List Str:=["self"]
def D0:FnScope ["self"] iN (ah iM):=KK
abbrev iO:Se:=aO (top 25) 1
abbrev iP:List Str:=["self"]
def D1:FnScope ["self"] iP (ah iO):=KK
abbrev iQ:Se:=aO (top 26) 1
abbrev iR:List Str:=["self"]
def D2:FnScope ["self"] iR (ah iQ):=KK
abbrev oP:Se:=top 54
abbrev oQ:List Str:=["text"]
def sc_read:FnScope ["text","reading","form","family"] oQ (ah oP):=KK
abbrev oR:Se:=aO (top 56) 0
abbrev oS:List Str:=["self","text","width","height"]
def D3:FnScope ["self","text","width","height"] oS (ah oR):=KK
abbrev iS:Se:=top 83
abbrev oU:List Str:=["_law_script"]
def sc_law:FnScope ["_law_script","_law_part","_law_wide","_law_high","_law_rest","_law_floor","_law_told","_law_other"] oU (ah iS):=KK
def nown(z:SD):Bool:=z.all λo=>match o with|some (.own _)=>false|_=>true
def NoOwn.of{z:SD}(h:nown z=true):NoOwn z:=λi ds e=>by
 have:=G4.mp h _ (HS e);cases this
structure Deed where
 w:C_
 p:Pat
 d:D
 l:Int
def Deed.D(e:Deed):My.D:=.tup [.str e.w,e.d,.int e.l]
structure Fl where
 p:Pat
 d:D
 w:Int
 h:Int
 l:Int
 ds:List Deed
def Fl.fs(f:Fl)(q:KF):List (C_×D):=[("pattern",f.d),("text",.str f.p.text),("width",.int f.w),("height",.int f.h),("laid",.int f.l),("deeds",.ptr q)]
def Fl.M(f:Fl)(a q:KF):MS:=[(q,.lst (f.ds.map Deed.D)),(a,.ins "Floor" (f.fs q))]
variable{a:KF}{o:MO}
def ck{p:KF}{M:MS}(h:p≠a):mget ((p,o)::M) a=mget M a:=if_neg h
def bp{M:MS}:mget ((a,o)::M) a=be o:=if_pos rfl
def cD{p:KF}{o':MO}{M:MS}(h:p≠a):mput ((p,o)::M) a o'=(p,o)::mput M a o':=if_neg h
def bX{o':MO}{M:MS}:mput ((a,o)::M) a o'=(a,o')::M:=if_pos rfl
variable{f:Fl}{q:KF}
def Fl.ma(h:a≠q):mget (f.M a q) a=be (.ins "Floor" (f.fs q)):=(ck (Ne.symm h)).trans bp
def Fl.mq:mget (f.M a q) q=be (.lst (f.ds.map Deed.D)):=bp
def Fl.put(h:a≠q):mput (f.M a q) a o=[(q,.lst (f.ds.map Deed.D)),(a,o)]:=(cD (Ne.symm h)).trans (congrArg _ bX)
def iT:(f.fs q).lookup ("pattern":C_)=be f.d:=rfl
def vC:(f.fs q).lookup ("text":C_)=be (.str f.p.text):=rfl
def gu:(f.fs q).lookup ("width":C_)=be (.int f.w):=rfl
def iU:(f.fs q).lookup ("height":C_)=be (.int f.h):=rfl
def fA:(f.fs q).lookup ("laid":C_)=be (.int f.l):=rfl
def iV:(f.fs q).lookup ("deeds":C_)=be (.ptr q):=rfl
structure Fl.Ok(f:Fl):Prop where
 is:bW f.p f.d
 ok:f.p.Ok
 w1:1<=f.w
 w2:f.w<=30
 h1:1<=f.h
 h2:f.h<=30
 l0:0<=f.l
 l1:f.l<=f.h
 de:f.ds.length<=20
 dd:∀e∈f.ds,bW e.p e.d/\e.p.Ok/\0<=e.l/\e.l<=f.h
def Fl.keep(f:Fl)(w:C_):Fl:={f with ds:=(f.ds++[Deed.mk w f.p f.d f.l]).drop (f.ds.length+1-20)}
def Fl.lay(f:Fl)(n:Int):Fl:={f.keep "lay" with l:=f.l+n}
def Fl.stand(f:Fl)(p:Pat)(d:D):Fl:={f with p:=p,d:=d}
def subM.refl{M:MS}(h:(aj M).Nodup):subM M M:=#[λ_ h=>h,h]
def Fl.nd(h:a≠q):(aj (f.M a q)).Nodup:=by
 show[q,a].Nodup;simp[Ne.symm h]
def Fl.sub(h:a≠q):subM (f.M a q) (f.M a q):=subM.refl (Fl.nd h)
def D4(xs:List D):cutD xs (be (-20)) q8=xs.drop (xs.length-20):=by
 have e:HT.sIx xs.length 0 (be (-20))=xs.length-20:=by
  unfold HT.sIx;simp;lia
 unfold cutD;rw[e,show HT.sIx xs.length xs.length q8=xs.length from rfl];exact Ht Kv
def aH(p:Pat)(w lo:Int)(n:Nat):List D:=(Gj n).map λ(j:Nat)=>D.str (aI p 0 (lo+(j:Int)) w.toNat)
def oV(p:Pat)(w lo:Int)(n:Nat):aH p w lo n++[D.str (aI p 0 (lo+(n:Int)) w.toNat)]=aH p w lo (n+1):=by
 unfold aH;rw[HD,GM];rfl
def D5(p:Pat)(w lo:Int)(n:Nat):ce (.lst (aH p w lo n))=true:=by
 unfold ce;induction n with
 |zero=>rfl
 |succ n ih=>
  rw[<-oV];have:∀xs:List D,flats xs=true->flats (xs++[D.str (aI p 0 (lo+(n:Int)) w.toNat)])=true:=λxs=>by
   induction xs with
   |nil=>intro _;rfl
   |cons x xs ih=>intro h;unfold flats at h;rw[GF]at h;show flats (x::(xs++_))=true;unfold flats;rw[h.1,ih h.2];rfl
  exact this _ ih
def D6(p:Pat)(w:Int){l:Int}(n:Nat)(l0:0<=l):cutD (aH p w 0 (l.toNat+n)) (be l) q8=aH p w l n:=by
 have hl:(aH p w 0 (l.toNat+n)).length=l.toNat+n:=by unfold aH;simp
 have e:HT.sIx (l.toNat+n) 0 (be l)=l.toNat:=by
  unfold HT.sIx;simp only;rw[if_neg Kn];lia
 unfold cutD;rw[hl,e,show HT.sIx (l.toNat+n) (l.toNat+n) q8=l.toNat+n from rfl];unfold aH;apply Hq;intro i;by_cases h:i<n
 .rw[Ii Kn,JE,Gr,Gr,G2 Kn,G2 h];simp;congr 1;lia
 .rw[GY Pa,GY Pa]
def due7(p:Pat)(left top:Int)(m:Nat)(n k:Nat):List Int:=(Gj 7).map λ(v:Nat)=>cB p v left top m n+cntN (λi=>p.show (left+i) (top+n)) v k
variable{p:Pat}
def D7(ok:p.Ok)(left top:Int)(m n k:Nat):∃u:Nat,u<7/\p.show (left+k) (top+n)=(u:Int)/\(due7 p left top m n k)[u]?=be (cB p u left top m n+cntN (λi=>p.show (left+i) (top+n)) u k)/\((due7 p left top m n k).map D.int).set u (D.int (cB p u left top m n+cntN (λi=>p.show (left+i) (top+n)) u k+1))=(due7 p left top m n (k+1)).map D.int:=by
 have b:=Pat.show_le ok.wf (by have:=ok.deep;lia) (left+k) (top+n);obtain⟨u,hu⟩:∃u:Nat,p.show (left+k) (top+n)=(u:Int):=#[(p.show (left+k) (top+n)).toNat,Kn];have u7:u<7:=Kn
 have cs:∀v:Int,cntN (λi=>p.show (left+i) (top+n)) v (k+1)=cntN (λi=>p.show (left+i) (top+n)) v k+if p.show (left+k) (top+n)=v then 1 else 0:=λv=>rfl
 refine#[u,u7,hu,by unfold due7;simp[u7],?_];unfold due7;rw[HG,HG];have:=vm (n:=7) (i:=u) (λ(v:Nat)=>D.int (cB p v left top m n+cntN (λi=>p.show (left+i) (top+n)) v k)) (λ(v:Nat)=>D.int (cB p v left top m n+cntN (λi=>p.show (left+i) (top+n)) v (k+1))) (λv hv ne=>by
  show D.int _=D.int _;rw[cs,hu,if_neg Kn,HK])
 refine Eq.trans ?_ this;show List.set _ u _=List.set _ u _;rw[cs,hu,if_pos rfl,IH];rfl
def D8(p:Pat)(left top:Int)(m n:Nat):due7 p left top m n m=due7 p left top m (n+1) 0:=by
 unfold due7;apply HE;intro v _;show _=(cB p v left top m n+_)+0;rw[HK]
def D9(p:Pat)(left top:Int)(m n:Nat):due7 p left top m n 0=bS p left top m n:=by
 unfold due7 bS;apply HE;intro v _;show _+0=_;rw[HK]
variable{n k:Nat}
def Ea{w lo:Int}{v:D}(h:(aH p w lo n)[k]?=be v):k<n/\v=.str (aI p 0 (lo+(k:Int)) w.toNat):=by
 have hk:k<n:=by have:=(Gq.mp h).1;unfold aH at this;simpa using this
 unfold aH at h;simp[hk]at h;exact#[hk,h.symm]
def Eb{h:Int}(h0:0<=h)(h6:h<=6):aV h<128:=by unfold aV;split<;>lia
def Ec(ok:p.Ok)(x y:Int)(n:Nat):(aI p x y n).cps.all (·<128)=true:=by
 rw[<-Iq,G4];intro c hc;have hc:c∈cs (aI p x y n):=hc;rw[dh]at hc;obtain⟨k,_,rfl⟩:=GK.mp hc;have b:=Pat.show_le ok.wf (by have:=ok.deep;lia) (x+(k:Int)) y;exact decide_eq_true (Eb b.1 b.2)
def Ed{y:Int}{v:D}(h:(bL (aI p 0 y n))[k]?=be v):k<n/\v=.str #[[aV (p.show (0+(k:Int)) y)].toArray]:=by
 unfold bL at h;have hk:k<n:=by have:=(Gq.mp h).1;rwa [Gm,show(aI p 0 y n).cps.toList.length=n by show(cs (aI p 0 y n)).length=n;rw[dh];simp]at this
 rw[Gr,show(aI p 0 y n).cps.toList=(Gj n).map λ(k:Nat)=>aV (p.show (0+(k:Int)) y)from dh p 0 y n]at h;simp[hk]at h;exact#[hk,by rw[<-h,HH]]
def Ee{u:Nat}(h:u<7):∃b7,Builtin.Str.occurrences ".123456" #[[aV (u:Int)].toArray] 0 (".123456":C_).length 1=u::b7:=by
 rcases(Kn:u=0\/u=1\/u=2\/u=3\/u=4\/u=5\/u=6)with e|e|e|e|e|e|e<;>subst e<;>exact#[[],Kr]
def Ef{w lo:Int}(h:k<n):atI (aH p w lo n) (k:Int)=be (.str (aI p 0 (lo+(k:Int)) w.toNat)):=ca (by unfold aH;simp[h])
def cm(i:Nat):List D:=(Gj 8).map λj=>.bl (j==i)
def iW:List Str:=["wrong","line","great","far","row","parted","nothing"]
def Eg:∀i,i<7->((cm i).countP (λw=>eqF w (.bl true))=1/\(cm i).all bo=true)/\(cm i).findIdx (λw=>eqF w (.bl true))=i:=Kr
def Eh{i:Nat}{w:C_}(h:iW[i]?=be w):i<7/\(iW++[("":C_)])[i]?=be w:=#[(Gq.mp h).1,by rw[GW (Gq.mp h).1];exact h]
def oW{M:MS}{e:KF×MO}(h:(aj M).Nodup):subM M (e::M):=#[λ_ h=>Gi _ h,h]
def vD{p:KF}{M:MS}(h:p∉aj M)(ha:a∈aj M):mget ((p,o)::M) a=mget M a:=ck λe=>h (e ▸ ha)
variable{xs:List My.D}
def ix0{d:D}:ixN (xs++[d]).length 0=be 0:=by unfold ixN;simp
def oX{d e:D}(h:xs.length<=n+k):((xs++[d]).set 0 e).length<=n+(k+1):=by rw[G0,Gx,Ij];lia
section
variable {V:Bx}
abbrev iX(V:Bx):Prop:=V.D 1 "_law_at" lm A2
def Ei(T:V.T "_law_at" ll lm)(uB:V.m "len"):iX V:=by
 refine Tx.okDW T Dn (λds R h=>?_) (λf cdv A outer s H E J hr=>⟨_,((ai (bw (eo (aa 1) (cq uB (ac (aa 0) ae))) (ar (aE (af (aa 0) (aa 1)))) bj)
   (ar (aE ad)))),λds R h=>?_⟩)
 .obtain⟨ns,k,rfl,_⟩:=h;rfl
 .obtain⟨ns,k,rfl,hk,hR⟩:=h;refine ite2 (λc=>?_) (λc=>?_)
  .have c':=of_decide_eq_true c;rw[Gm]at c';exact#[_,tO hk c',hR]
  .have c':=of_decide_eq_false (GO.mpr c);rw[Gm]at c';rw[A1 Kn]at hR;exact hR
abbrev iY(V:Bx):Prop:=V.D 2 "_law_draws" lr Be
def Ej(T:V.T "_law_draws" lq lr)(uA:V.m "range")(v8:iX V):iY V:=by
 refine Tx.okDW T sc__law_draws (λds R h=>?_) (λf cdv A outer s H E J hr=>⟨_,((ai (am 3 sc__law_draws.nd (aD v8 hr (ac (aa 0) (ac (aa 1) ae))))
   (ai (fP 4 sc__law_draws.nd ae)
   (ai (bw (bz (aC (aD v8 hr (ac (aa 0) (ac (ao (aa 1) ad) ae))) ad) ad) (ai (cz 5 PassesOwn.never rfl sc__law_draws.nd uA (aa 2) (ai (fQ 4 (aC (aa 3) ad))
     (ar (am 3 sc__law_draws.nd (aX (aa 3) ad)))))
    (eI 4 (ar (aE (aa 4))))) bj)
   (ai (am 6 sc__law_draws.nd (aC (ao (aa 3) ad) ad))
   (ai (cz 5 PassesOwn.never rfl sc__law_draws.nd uA (aa 2) (ai (am 6 sc__law_draws.nd (aC (ao (ao (ax (aa 6) ad) (aD v8 hr (ac (aa 0) (ac (ao (ao (aa 1) ad) (aC (aa 5) ad)) ae)))) (aa 5)) ad))
    (ar (fQ 4 (aC (aC (ax (aa 6) ad) ad) ad)))))
   (eI 4 (ar (aE (aa 4)))))))))),λds R h=>?_⟩)
 .obtain⟨_,_,_,rfl,_⟩:=h;rfl
 .obtain⟨ns,k,n,rfl,hk,hn,hR⟩:=h;refine#[λd=>∃v:Int,d=.int v,#[ns,k,rfl,hk,_,rfl],?_];rintro _⟨left,rfl⟩;k_places;refine#[Kv,?_];refine#[ns,k+1,rfl,Kn,Ku,ite2 (λ_=>?_) (λ_=>?_)]
  .refine#[#[Kn,Kn],λi z=>∃(xs:List Int) (l:Int) (o p:Option D),z=[be (.rol (ns.map D.int)),be (.int k),be (.int n),be (.int l),be (.own (xs.map D.int)),o,p]/\xs.length=i/\Drawn xs,#[[],left,_,_,rfl,rfl,(λx hx=>by cases hx)],?_,?_]
   .rintro i x z hi⟨xs,l,o,p,rfl,hl,hd⟩;k_places;have u_:i<n:=by simpa using(Gq.mp hi).1
    refine#[Ku,Pa,?_];refine#[λd=>∃v:Int,d=.int v,#[#[Ku,Ku],_,rfl],?_];rintro _⟨l',rfl⟩;k_places;rw[tR];exact#[_,l',_,_,rfl,by simp[hl],tS hd (cK Ku) (cL Ku)]
   .rintro z⟨xs,l,o,p,rfl,hl,hd⟩;k_places;exact hR xs (by simpa using hl) hd
  .refine#[λd=>∃v:Int,d=.int v/\0<=v/\v<2147483647,#[Ku,_,rfl,cK Ku,cL Ku],?_];rintro _⟨NV,rfl,s1,s2⟩;k_places;refine#[#[Kn,Kn],λi z=>∃(xs:List Int) (sd:Int) (o:Option D),z=[be (.rol (ns.map D.int)),be (.int k),be (.int n),be (.int left),be (.own (xs.map D.int)),o,be (.int sd)]/\xs.length=i/\Drawn xs/\0<=sd/\sd<2147483647,#[[],NV,_,rfl,rfl,(λx hx=>by cases hx),s1,s2],?_,?_]
   .rintro i x z hi⟨xs,sd,o,rfl,hl,hd,s1,s2⟩;k_places;have u_:i<n:=by simpa using(Gq.mp hi).1
    have ex:x=.int (i:Int):=by simp[u_]at hi;exact hi.symm
    subst ex;refine#[λd=>∃v:Int,d=.int v/\0<=v/\v<2147483647,#[.inr #[Ku,Ku],Ku,ns,_,rfl,Kn,Ku,_,rfl,cK Ku,cL Ku],?_];rintro _⟨Q6,rfl,t1,t2⟩;k_places;refine#[.inr #[Ku,Ku],Ku,Ku,Pa,?_];rw[tR];exact#[_,Q6,_,rfl,by simp[hl],tS hd (cK Ku) (cL Ku),t1,t2]
   .rintro z⟨xs,sd,o,rfl,hl,hd,_⟩;k_places;exact hR xs (by simpa using hl) hd
abbrev oY(V:Bx):Prop:=V.D 1 "_law_lines" lv Bp
def El(T:V.T "_law_lines" lu lv)(uA:V.m "range")(uB:V.m "len"):oY V:=by
 refine Tx.okDW T sc__law_lines (λds R h=>?_) (λf cdv A outer s H E J hr=>⟨_,((ai (am 1 sc__law_lines.nd (ao ad (aC (af (aa 0) ad) ad)))
   (ai (am 2 sc__law_lines.nd (ao ad (aC (af (aa 0) ad) ad)))
   (ai (fO (bz (aC (af (aa 0) ad) ad) ad) (ai (am 1 sc__law_lines.nd (ao ad (aC (af (aa 0) ad) ad)))
    (ar (am 2 sc__law_lines.nd (ao ad (aC (af (aa 0) ad) ad))))) bj)
   (ai (am 3 sc__law_lines.nd (af (aY (ac aw (ac aw (ac aw (ac aw ae))))) (aC (af (aa 0) ad) ad)))
   (ai (fP 4 sc__law_lines.nd ae)
   (ai (cz 5 PassesOwn.never rfl sc__law_lines.nd uA (aa 2) (ai (am 6 sc__law_lines.nd aw)
    (ai (cz 7 PassesOwn.never rfl sc__law_lines.nd uA (aa 1) (ai (am 8 sc__law_lines.nd (ao (ax (aa 5) (aa 1)) (aa 7)))
     (ai (am 9 sc__law_lines.nd (aC (aX (af (aa 0) (ao ad (aX (aa 8) ad))) (af (aY (ac ad (ac ad ae))) (aC (aa 8) ad))) ad))
     (ar (am 6 sc__law_lines.nd (ao (aa 6) (af (aa 3) (aC (aa 9) (cq uB (ac (aa 3) ae))))))))))
    (ar (fQ 4 (aa 6))))))
   (eI 4 (ar (aE (aa 4))))))))))),λds R h=>?_⟩)
 .obtain⟨_,rfl,_⟩:=h;rfl
 .obtain⟨xs,rfl,hl,hd,hR⟩:=h;have v9:∀k:Nat,k<40->atI (xs.map D.int) (k:Int)=be (.int (cell xs k)):=λk hk=>cA Kn (by simpa using(Kn:k<xs.length));have a0:atI (xs.map D.int) 0=be (.int (cell xs 0)):=v9 0 Ku;have a1:atI (xs.map D.int) 1=be (.int (cell xs 1)):=v9 1 Ku;have a2:atI (xs.map D.int) 2=be (.int (cell xs 2)):=v9 2 Ku;have a3:atI (xs.map D.int) 3=be (.int (cell xs 3)):=v9 3 Ku;clear hl;refine#[λd=>∃v:Int,d=.int v/\1<=v/\v<=8,#[_,a0,Ku,_,rfl,Kn],?_];rintro _⟨w0,rfl,R1⟩;k_places;refine#[λd=>∃v:Int,d=.int v/\1<=v/\v<=8,#[_,a1,Ku,_,rfl,Kn],?_];rintro _⟨t0,rfl,R3⟩;k_places;refine#[λz=>∃w t:Nat,z=[be (.lst (xs.map D.int)),be (.int w),be (.int t),q8,q8,q8,q8,q8,q8,q8]/\(1<=w/\w<=8)/\(1<=t/\t<=8),#[_,a2,Ku,ite2 (λ_=>?_) (λ_=>?_)],?_]
  .refine#[λd=>∃v:Nat,d=.int v/\1<=v/\v<=8,#[_,a0,Ku,(1+cell xs 0%8).toNat,by rw[GZ Kn],Kn],?_];rintro _⟨w,rfl,hw⟩;k_places;refine#[λd=>∃v:Nat,d=.int v/\1<=v/\v<=8,#[_,a1,Ku,(1+cell xs 1%8).toNat,by rw[GZ Kn],Kn],?_];rintro _⟨t,rfl,ht⟩;k_places;exact#[w,t,rfl,hw,ht]
  .obtain⟨w,rfl⟩:∃w:Nat,w0=(w:Int):=#[w0.toNat,Kn];obtain⟨t,rfl⟩:∃t:Nat,t0=(t:Int):=#[t0.toNat,Kn];exact#[w,t,rfl,Kn,Kn]
  rintro _⟨w,t,rfl,hw,ht⟩;k_places;obtain⟨sg,es,hs⟩:=Bl (cell xs 3);refine#[λd=>d=.str sg,#[Kv,_,a3,Ku,_,es,rfl],?_];rintro _ rfl;k_places;refine#[Kv,?_];refine#[#[Kn,Kn],λk z=>∃(L:List C_) (o1 o2 o3 o4 o5:Option D),z=[be (.lst (xs.map D.int)),be (.int w),be (.int t),be (.str sg),be (.own (L.map D.str)),o1,o2,o3,o4,o5]/\L.length=k/\∀l∈L,l.length=w/\∀c∈cs l,aZ c,#[[],_,_,_,_,_,rfl,rfl,(λx hx=>by cases hx)],?_,?_]
  .rintro j x z hj⟨L,o1,o2,o3,o4,o5,rfl,hL,LL⟩;k_places;have JT:j<t:=by simpa using(Gq.mp hj).1
   have ex:x=.int (j:Int):=by simp[JT]at hj;exact hj.symm
   subst ex;refine#[λd=>d=.str "",rfl,?_];rintro _ rfl;k_places;refine#[#[Kn,Kn],λi z=>∃(ln:C_) (o3 o4 o5:Option D),z=[be (.lst (xs.map D.int)),be (.int w),be (.int t),be (.str sg),be (.own (L.map D.str)),be (.int j),be (.str ln),o3,o4,o5]/\ln.length=i/\∀c∈cs ln,aZ c,#[_,_,_,_,rfl,rfl,(λc hc=>by rw[tT]at hc;cases hc)],?_,?_]
   .rintro i y z hi⟨ln,o3,o4,o5,rfl,MC,NW⟩;k_places;have u_:i<w:=by simpa using(Gq.mp hi).1
    have ey:y=.int (i:Int):=by simp[u_]at hi;exact hi.symm
    subst ey;have pb:=bN (a:=(j:Int)) (d:=(w:Int)) (A:=7) (B:=8) Kn Kn;have pn:0<=(j:Int)*(w:Int):=Iv Kn Kn;refine#[λd=>∃p:Nat,d=.int p/\p<=63,#[.inl #[Kn,Kn],((j:Int)*w+i).toNat,by rw[GZ Kn],Kn],?_];rintro _⟨p,rfl,hp⟩;k_places;obtain⟨m,em,hm⟩:=Bm (p:Int);have ap:=v9 (8+p/2) Kn;have ec:((8+p/2:Nat):Int)=8+(p:Int)/2:=Kn
    rw[ec]at ap;refine#[λd=>∃v:Int,d=.int v,#[#[Ku,Ku],_,ap,Kv,Ku,_,em,#[Kn,Kn],Ku,_,rfl],?_];rintro _⟨v,rfl⟩;k_places;obtain⟨c,⟨h1,h2⟩,h3⟩:=Bg hs v;refine#[λd=>∃x:C_,d=.str x/\x.length=i+1/\∀c∈cs x,aZ c,#[h1,by have:=hs.1;lia,c,#[h1,h2],?_,_,rfl,Bn MC NW h3],?_]
    .rw[MC];show i+1<=1000000;lia
    rintro _⟨x,rfl,g1,g2⟩;k_places;exact#[x,_,_,_,rfl,g1,g2]
   .rintro z⟨ln,o3,o4,o5,rfl,MC,NW⟩;k_places;have NX:ln.length=w:=by simpa using MC
    refine#[by simp[hL];lia,?_];rw[Bo];refine#[_,_,_,_,_,_,rfl,by simp[hL],λl hl=>?_];rcases GD.mp hl with q|q
    .exact LL l q
    .rw[Gf.mp q];exact#[NX,NW]
  .rintro z⟨L,o1,o2,o3,o4,o5,rfl,hL,LL⟩;k_places;exact hR L (Rows.of ht.1 ht.2 (by simpa using hL) hw.1 hw.2 LL)
abbrev oZ(V:Bx):Prop:=V.D 1 "_law_shift_pair" lx Bf
def Em(T:V.T "_law_shift_pair" lw lx)(uF:V.m "int"):oZ V:=by
 refine Tx.okDW T sc__law_shift_pair (λds R h=>?_) (λf cdv A outer s H E J hr=>⟨_,((ai (bw (bz (aC (aX (af (aa 0) ad) ad) ad) ad) (ar (aE (aY (ac (aL (ac (ao ad (aC (af (aa 0) ad) ad)) (ac ad ae))) (ac (aL (ac ad (ac (ao ad (aC (af (aa 0) ad) ad)) ae))) ae))))) bj)
   (ai (bw (bz (aC (aX (af (aa 0) ad) ad) ad) ad) (ar (aE (aY (ac (aL (ac (ao ad (aC (af (aa 0) ad) ad)) (ac ad ae))) (ac (aL (ac (bq (aC (af (aa 0) ad) ad) ad) (ac (ao ad (aC (af (aa 0) ad) ad)) ae))) ae))))) bj)
   (ai (am 1 sc__law_shift_pair.nd (bq (aC (af (aa 0) ad) ad) ad))
   (ai (am 2 sc__law_shift_pair.nd (bq (aC (af (aa 0) ad) ad) ad))
   (ai (am 3 sc__law_shift_pair.nd (bq (aC (af (aa 0) ad) ad) ad))
   (ai (am 4 sc__law_shift_pair.nd (bq (aC (af (aa 0) ad) ad) ad))
   (ai (am 1 sc__law_shift_pair.nd (ao (aa 1) (gM uF (ac (fM (cP (aa 1) ad) (fL (cP (aa 2) ad))) ae))))
   (ai (bw (bz (ax (aa 1) (aa 4)) (ax (aa 2) (aa 3))) (ar (aE (aY (ac (aL (ac (aa 1) (ac (aa 2) ae))) (ac (aL (ac (cb (aa 2)) (ac (aa 1) ae))) ae))))) bj)
   (ar (aE (aY (ac (aL (ac (aa 1) (ac (aa 2) ae))) (ac (aL (ac (aa 3) (ac (aa 4) ae))) ae)))))))))))))),λds R h=>?_⟩)
 .obtain⟨_,rfl,_⟩:=h;rfl
 .obtain⟨xs,rfl,hl,hd,hR⟩:=h;have a3:=cA (xs:=xs) (k:=3) Ku (show 3<xs.length by lia);have a4:=cA (xs:=xs) (k:=4) Ku (show 4<xs.length by lia);have a5:=cA (xs:=xs) (k:=5) Ku (show 5<xs.length by lia);have a6:=cA (xs:=xs) (k:=6) Ku (show 6<xs.length by lia);have a7:=cA (xs:=xs) (k:=7) Ku (show 7<xs.length by lia);generalize cell xs 3=x3 at*;generalize cell xs 4=x4 at*;generalize cell xs 5=x5 at*;generalize cell xs 6=x6 at*;generalize cell xs 7=x7 at*;clear hl hd;refine#[_,a3,#[Ku,Ku],Ku,ite2 (λ_=>?_) (λ_=>?_)]
  .refine#[_,a4,Ku,Kv,_,a5,Ku,Kv,Kv,hR _ _ _ _ Kn Kn Kn Kn ?_];have p:0<(1+x4%6)*(1+x5%6):=Gz Kn Kn;lia
  refine#[_,a3,#[Ku,Ku],Ku,ite2 (λ_=>?_) (λ_=>?_)]
  .refine#[_,a4,Ku,Kv,_,a6,Ku,_,a5,Ku,Kv,Kv,hR _ _ _ _ Kn Kn Kn Kn ?_];have p:0<(1+x4%6)*(1+x5%4):=Gz Kn Kn;lia
  refine#[λd=>∃v:Int,d=.int v/\-12<=v/\v<=12,#[_,a4,Ku,_,rfl,Kn],?_];rintro _⟨a,rfl,ha⟩;k_places;refine#[λd=>∃v:Int,d=.int v/\-12<=v/\v<=12,#[_,a5,Ku,_,rfl,Kn],?_];rintro _⟨b,rfl,hb⟩;k_places;refine#[λd=>∃v:Int,d=.int v/\-12<=v/\v<=12,#[_,a6,Ku,_,rfl,Kn],?_];rintro _⟨c,rfl,hc⟩;k_places;refine#[λd=>∃v:Int,d=.int v/\-12<=v/\v<=12,#[_,a7,Ku,_,rfl,Kn],?_];rintro _⟨d,rfl,h_⟩;k_places;refine#[λx=>∃v:Int,x=.int v/\(-12<=v/\v<=12)/\¬(v=0/\b=0),ite2 (λe=>?_) (λe=>?_),?_]
  .have e':=of_decide_eq_true e;by_cases PF:b=0
   .refine#[_,rfl,?_];subst e' PF;simp
   .refine#[_,rfl,?_];subst e';simp[PF]
  .have e':=of_decide_eq_false (GO.mpr e);refine#[_,rfl,?_];simp;lia
  rintro _⟨a,rfl,ha,LM⟩;k_places;refine#[.inl (i64 ha.1 ha.2),.inl (i64 hb.1 hb.2),ite2 (λe=>?_) (λe=>?_)]
  .refine#[Kv,Kv,Kv,hR a b (-b) a ha hb Kn ha ?_];rw[H9];intro z;have s1:0<=a*a:=sq0 a;have s2:0<=b*b:=sq0 b;have z1:a*a=0:=by omega
   have z2:b*b=0:=Lg
   exact LM #[(IC.mp z1).elim id id,(IC.mp z2).elim id id]
  .have e':=of_decide_eq_false (GO.mpr e);exact#[Kv,Kv,Kv,hR a b c d ha hb hc h_ e']
abbrev pd(V:Bx):Prop:=V.D 1 "_law_motif_text" lz Bq
def En(T:V.T "_law_motif_text" ly lz)(uK:V.m "str"):pd V:=by
 refine Tx.okDW T sc__law_motif_text (λds R h=>?_) (λf cdv A outer s H E J hr=>⟨_,((ai (am 3 sc__law_motif_text.nd (ao (ao (ao (ao (ao (ao (ao aw (cQ uK (ac (af (aa 1) ad) ae))) aw) (cQ uK (ac (af (aa 1) ad) ae))) aw) (cQ uK (ac (af (aa 2) ad) ae))) aw) (cQ uK (ac (af (aa 2) ad) ae))))
   (ar (aE (ao (ao (ao aw (ki (aa 0))) (aa 3)) aw))))),λds R h=>?_⟩)
 .obtain⟨_,_,_,_,_,rfl,_⟩:=h;rfl
 .obtain⟨L,a,b,c,d,rfl,hL,ha,hb,hc,hd,hR⟩:=h;have la:=bF ha;have lb:=bF hb;have lc:=bF hc;have ld:=bF hd;have l1:(";":C_).length=1:=rfl;have l2:(",":C_).length=1:=rfl;have l3:("[":C_).length=1:=rfl;have l4:("]":C_).length=1:=rfl;have ls:=tV hL;have lj:=StrLaws.join_length_le "/" L;unfold B12 at ha hb hc hd;refine#[λx=>x=.str ((((((((";":C_)++(toString a:String))++",")++(toString b:String))++";")++(toString c:String))++",")++(toString d:String)),#[_,rfl,Kn,?_,?_,_,rfl,Kn,?_,?_,_,rfl,Kn,?_,?_,_,rfl,Kn,?_,rfl],?_]
  .lia
  .rw[aG];lia
  .rw[aG,aG];lia
  .rw[aG,aG,aG];lia
  .rw[aG,aG,aG,aG];lia
  .rw[aG,aG,aG,aG,aG];lia
  .rw[aG,aG,aG,aG,aG,aG];lia
  rintro _ rfl;k_places;have lg:(Txt.join "/" L).length<=72:=by
   have e:Txt.join "/" L=Str.join "/" L:=StrLaws.glued_eq_join _ _;rw[e];exact Go lj ls
  refine#[L,kT L,Kn,?_,?_,?_,hR]
  .lia
  .repeat rw[aG]
   lia
  .repeat rw[aG]
   lia
abbrev pe(V:Bx):Prop:=V.D 3 "_law_motif" lD Bs
def Eo(T:V.T "_law_motif" lC lD)(KZ:iY V)(NY:oY V)(NZ:oZ V)(N0:pd V):pe V:=by
 refine Tx.okDW T sc__law_motif (λds R h=>?_) (λf cdv A outer s H E J hr=>⟨_,((ai (am 2 sc__law_motif.nd (aD KZ hr (ac (aa 0) (ac (aa 1) (ac ad ae)))))
   (ai (am 3 sc__law_motif.nd (aD NY hr (ac (aa 2) ae)))
   (ai (zb rfl (aD NZ hr (ac (aa 2) ae)) (dg_cons 4 sc__law_motif.nd (dg_cons 5 sc__law_motif.nd eK)))
   (ai (am 6 sc__law_motif.nd (aL (ac (aa 3) (ac (aa 4) (ac (aa 5) (ac (aL (ac ad (ac ad (ac ad (ac ad (ac ad (ac ad ae))))))) (ac (aY (ac ad (ac ad (ac ad (ac ad (ac ad (ac ad (ac ad ae)))))))) ae)))))))
   (ar (aE (aY (ac (aD N0 hr (ac (aa 3) (ac (aa 4) (ac (aa 5) ae)))) (ac ad (ac (aY (ac (aa 6) ae)) ae))))))))))),λds R h=>?_⟩)
 .obtain⟨_,_,rfl,_⟩:=h;rfl
 .obtain⟨ns,k,rfl,hk,hR⟩:=h;refine#[λx=>∃xs:List Int,x=.lst (xs.map D.int)/\xs.length=40/\Drawn xs,#[ns,k,40,rfl,hk,Ku,λxs h1 h2=>#[xs,rfl,h1,h2]],?_];rintro _⟨xs,rfl,hl,hd⟩;k_places;refine#[λx=>∃L:List C_,x=.lst (L.map D.str)/\Rows L,#[xs,rfl,Kn,hd,λL h=>#[L,rfl,h]],?_];rintro _⟨L,rfl,hL⟩;k_places;refine#[xs,rfl,Kn,hd,λa b c d ha hb hc h_ hn=>#[rfl,?_]];refine#[λx=>x=(bt L a b c d).D,#[Kv,Kv,Kv,rfl],?_];rintro _ rfl;k_places;exact#[L,a,b,c,d,rfl,hL,ha,hb,hc,h_,Kv,Kv,hR L a b c d hL ha hb hc h_ hn]
abbrev pf(V:Bx):Prop:=V.D 1 "_law_wrapped" lF BC
def Ep(T:V.T "_law_wrapped" ie lF)(uK:V.m "str")(JX:V.m "list")(uF:V.m "int"):pf V:=by
 refine Tx.okDW T sc__law_wrapped (λds R h=>?_) (λf cdv A outer s H E J hr=>⟨_,((ai (bw (rR (af (aa 0) ad) ad) (ar (aE (aa 0))) bj)
   (ai (am 2 sc__law_wrapped.nd (bq (aC (aX (aa 1) ad) ad) ad))
   (ai (am 3 sc__law_wrapped.nd (bq (aC (aX (aa 1) ad) ad) ad))
   (ai (am 4 sc__law_wrapped.nd (ao ad (aC (aX (aa 1) ad) ad)))
   (ai (am 5 sc__law_wrapped.nd (ao ad (aC (aX (aa 1) ad) ad)))
   (ai (am 6 sc__law_wrapped.nd (ao (ao (ao (ao aw (cQ uK (ac (aa 2) ae))) aw) (cQ uK (ac (aa 3) ae))) aw))
   (ai (am 7 sc__law_wrapped.nd (af (aY (ac aw (ac aw (ac (aa 6) (ac (ao (ao aw (cQ uK (ac (aa 4) ae))) (cQ uK (ac (aa 5) ae))) ae))))) (aC (aa 1) ad)))
   (ai (am 8 sc__law_wrapped.nd (aY (ac (aL (ac (cb ad) (ac ad (ac ad (ac ad (ac ad (ac ad ae))))))) (ac (aL (ac ad (ac ad (ac (cb ad) (ac ad (ac ad (ac ad ae))))))) ae))))
   (ai (am 8 sc__law_wrapped.nd (ao (aa 8) (aY (ac (aL (ac ad (ac ad (ac ad (ac ad (ac (cb (aa 2)) (ac (cb (aa 3)) ae))))))) (ac (aL (ac ad (ac ad (ac ad (ac ad (ac ad (ac ad ae))))))) ae)))))
   (ai (am 9 sc__law_wrapped.nd (af (aa 8) (aC (aa 1) ad)))
   (ai (fP 10 sc__law_wrapped.nd ae)
   (ai (gL 11 PassesOwn.never rfl sc__law_wrapped.nd (af (aa 0) ad) (ai (rZ rfl (af (aa 11) ad) (dg_cons 12 sc__law_wrapped.nd (dg_cons 13 sc__law_wrapped.nd (dg_cons 14 sc__law_wrapped.nd (dg_cons 15 sc__law_wrapped.nd (dg_cons 16 sc__law_wrapped.nd (dg_cons 17 sc__law_wrapped.nd eK)))))))
    (ai (am 18 sc__law_wrapped.nd (aL (ac (ao (ax (aa 12) (af (aa 9) ad)) (ax (aa 13) (af (aa 9) ad))) (ac (ao (ax (aa 12) (af (aa 9) ad)) (ax (aa 13) (af (aa 9) ad))) ae))))
    (ai (am 18 sc__law_wrapped.nd (ao (aa 18) (aL (ac (ao (ax (aa 14) (af (aa 9) ad)) (ax (aa 15) (af (aa 9) ad))) (ac (ao (ax (aa 14) (af (aa 9) ad)) (ax (aa 15) (af (aa 9) ad))) ae)))))
    (ai (am 16 sc__law_wrapped.nd (ao (ao (aa 16) (ax (aa 12) (af (aa 9) ad))) (ax (aa 13) (af (aa 9) ad))))
    (ai (am 17 sc__law_wrapped.nd (ao (ao (aa 17) (ax (aa 14) (af (aa 9) ad))) (ax (aa 15) (af (aa 9) ad))))
    (ai (am 19 sc__law_wrapped.nd (yJ JX (ac (af (aa 11) ad) ae)))
    (ai (fO (bz (aC (aa 1) ad) ad) (ar (zf 19 rfl (compScope (by change cR _ (ah ie) ["_law_part","_law_draw","_law_across","_law_down","_law_old","_law_new","_law_shift","_law_head","_law_ways","_law_by","_law_leaves","_law_leaf","_law_a","_law_b","_law_c","_law_d","_law_e","_law_f","_law_way","_law_hues"] _=true;decide+kernel)) sc__law_wrapped.nd (af (aa 11) ad) (λcl s0 H0 fp=>(af (aY (ac (aa 20) (ac (aa 5) ae))) (gM uF (ac (cP (aa 20) (aa 4)) ae)))))) bj)
    (ar (fQ 10 (aL (ac (af (aa 11) ad) (ac (af (aa 11) ad) (ac (af (aa 11) ad) (ac (ao (aa 18) (aL (ac (aa 16) (ac (aa 17) ae)))) (ac (aa 19) ae))))))))))))))))
   (eI 10 (ar (aE (aY (ac (ao (aa 7) (af (aa 0) ad)) (ac (ao (af (aa 0) ad) ad) (ac (aa 10) ae)))))))))))))))))))),λds R h=>?_⟩)
 .obtain⟨_,_,rfl,_⟩:=h;rfl
 .obtain⟨p,draw,rfl,wf,hd,ht,hW⟩:=h;refine#[_,rfl,ite2 (λc=>?_) (λc=>?_)]
  .have c':=of_decide_eq_true c;exact hW.1 Kn
  have c':=of_decide_eq_false (GO.mpr c);have h_:p.depth<5:=Kn
  refine#[λd=>∃v:Int,d=.int v/\B12 v,#[#[Ku,Ku],Ku,_,rfl,by unfold B12;lia],?_];rintro _⟨A,rfl,hA⟩;simp only[GA,GB,aT];refine#[λd=>∃v:Int,d=.int v/\B12 v,#[#[Ku,Ku],Ku,_,rfl,by unfold B12;lia],?_];rintro _⟨B,rfl,hB⟩;simp only[GA,GB,aT];refine#[λd=>∃v:Int,d=.int v/\1<=v/\v<=6,#[#[Ku,Ku],Ku,_,rfl,Kn],?_];rintro _⟨d_,rfl,ho⟩;simp only[GA,GB,aT];refine#[λd=>∃v:Int,d=.int v/\1<=v/\v<=6,#[#[Ku,Ku],Ku,_,rfl,Kn],?_];rintro _⟨new,rfl,hn⟩;simp only[GA,GB,aT];have l1:("s":C_).length=1:=rfl;have l2:(",":C_).length=1:=rfl;have l3:(":":C_).length=1:=rfl;have l4:("h":C_).length=1:=rfl;have lA:=bF hA;have lB:=bF hB;have lo:=fb ho;have ln:=fb hn;obtain⟨hs,b0,b1,b2,b3,b4,b5,e1,e2,hb,hl,hR⟩:=BA hW h_ (k:=0) hA hB ho hn Kn;unfold B12 at hA hB;refine#[λx=>x=.str ((((("s":C_)++(toString A:String))++",")++(toString B:String))++":"),#[Kn,?_,?_,Kn,?_,?_,rfl],?_]
  .lia
  .rw[aG];lia
  .rw[aG,aG];lia
  .rw[aG,aG,aG];lia
  rintro _ rfl;simp only[GA,GB,aT];refine#[λx=>x=.str hs,#[Kn,?_,Kn,?_,Kv,Ku,_,e1,rfl],?_]
  .lia
  .rw[aG];lia
  rintro _ rfl;simp only[GA,GB,aT];refine#[λx=>x=.lst [D.tup [.int (-1),.int 0,.int 0,.int 1,.int 0,.int 0],D.tup [.int 0,.int 1,.int (-1),.int 0,.int 0,.int 0]],#[Kv,Kv,Kv,rfl],?_];rintro _ rfl;simp only[GA,GB,aT];refine#[λx=>x=.lst ([D.tup [.int (-1),.int 0,.int 0,.int 1,.int 0,.int 0],D.tup [.int 0,.int 1,.int (-1),.int 0,.int 0,.int 0]]++[D.tup [.int 1,.int 0,.int 0,.int 1,.int (-A),.int (-B)],D.tup [.int 1,.int 0,.int 0,.int 1,.int 0,.int 0]]),#[Kv,Kv,Kv,Kv,rfl],?_];rintro _ rfl;simp only[GA,GB,aT];refine#[λx=>x=.tup [.int b0,.int b1,.int b2,.int b3,.int b4,.int b5],#[Ku,_,e2,rfl],?_];rintro _ rfl;simp only[GA,GB,aT];refine#[Kv,?_];generalize D.str ((((("s":C_)++(toString A:String))++",")++(toString B:String))++":")=sD;generalize D.lst ([D.tup [.int (-1),.int 0,.int 0,.int 1,.int 0,.int 0],D.tup [.int 0,.int 1,.int (-1),.int 0,.int 0,.int 0]]++[D.tup [.int 1,.int 0,.int 0,.int 1,.int (-A),.int (-B)],D.tup [.int 1,.int 0,.int 0,.int 1,.int 0,.int 0]])=wD;clear e1 e2 hW lA lB lo ln l1 l2 l3 l4 hA hB c';refine#[_,rfl,λk z=>∃KD KE s9 s_ N1 N2 N3 N4 K0:Option D,z=[be p.D,be (.int draw),be (.int A),be (.int B),be (.int d_),be (.int new),be sD,be (.str hs),be wD,be (.tup [.int b0,.int b1,.int b2,.int b3,.int b4,.int b5]),be (.own (((p.leaves.take k).map (Leaf.T (decide (draw%4=3)) d_ new b0 b1 b2 b3 b4 b5)).map Leaf.D)),KD,KE,s9,s_,N1,N2,N3,N4,K0],#[_,_,_,_,_,_,_,_,_,rfl],?_,?_]
  .rintro k v z hk⟨KD,KE,s9,s_,N1,N2,N3,N4,K0,rfl⟩;k_places;rw[Gr]at hk;have m8:k<p.leaves.length:=by
    rcases Hr k p.leaves.length with q|q
    .exact q
    .rw[GY q]at hk;cases hk
   have K1:p.leaves[k]?=be p.leaves[k]:=GH m8;rw[K1]at hk;cases hk;obtain⟨gd,nr⟩:=Pat.leaf_good wf p.leaves[k] (GT m8);have c5:(p.leaves.take k).length<=1000:=by rw[HC];have:=Pat.leaves_32 hd;lia
   generalize p.leaves[k]=l at K1 gd nr;obtain⟨r0,r1,r2,r3⟩:=nr.unit;obtain⟨q0,q1,q2,q3,q4,q5⟩:=hb;refine#[_,rfl,rfl,?_];simp only[GA,GB,aT];refine#[λx=>x=.tup [.int (l.w0*b0+l.w1*b2),.int (l.w0*b1+l.w1*b3)],#[_,rfl,.inr (n64 q0),_,rfl,.inr (n64 q2),_,rfl,.inr (n64 q1),_,rfl,.inr (n64 q3),Kv,rfl],?_];rintro _ rfl;simp only[GA,GB,aT];refine#[λx=>x=.tup [.int (l.w0*b0+l.w1*b2),.int (l.w0*b1+l.w1*b3),.int (l.w2*b0+l.w3*b2),.int (l.w2*b1+l.w3*b3)],#[_,rfl,.inr (n64 q0),_,rfl,.inr (n64 q2),_,rfl,.inr (n64 q1),_,rfl,.inr (n64 q3),Kv,Kv,rfl],?_];rintro _ rfl;simp only[GA,GB,aT];refine#[λx=>x=.int (l.w4+l.w0*b4+l.w1*b5),#[_,rfl,.inr (n64 q4),_,rfl,.inr (n64 q5),rfl],?_];rintro _ rfl;simp only[GA,GB,aT];refine#[λx=>x=.int (l.w5+l.w2*b4+l.w3*b5),#[_,rfl,.inr (n64 q4),_,rfl,.inr (n64 q5),rfl],?_];rintro _ rfl;simp only[GA,GB,aT];refine#[λx=>x=.lst (l.hues.map D.int),#[_,rfl,rfl],?_];rintro _ rfl;simp only[GA,GB,aT];refine#[λz=>∃K0:List Int,K0=(Leaf.T (decide (draw%4=3)) d_ new b0 b1 b2 b3 b4 b5 l).hues/\z=[be p.D,be (.int draw),be (.int A),be (.int B),be (.int d_),be (.int new),be sD,be (.str hs),be wD,be (.tup [.int b0,.int b1,.int b2,.int b3,.int b4,.int b5]),be (.own (((p.leaves.take k).map (Leaf.T (decide (draw%4=3)) d_ new b0 b1 b2 b3 b4 b5)).map Leaf.D)),be l.D,be (.int l.w0),be (.int l.w1),be (.int l.w2),be (.int l.w3),be (.int (l.w4+l.w0*b4+l.w1*b5)),be (.int (l.w5+l.w2*b4+l.w3*b5)),be (.tup [.int (l.w0*b0+l.w1*b2),.int (l.w0*b1+l.w1*b3),.int (l.w2*b0+l.w3*b2),.int (l.w2*b1+l.w3*b3)]),be (.lst (K0.map D.int))],#[Ku,ite2 (λc=>?_) (λc=>?_)],?_]
   .have c3:=of_decide_eq_true c;refine#[λx=>x=.lst ((l.hues.map (bG d_ new)).map D.int),#[_,rfl,by rw[Gm,gd.many];decide,λk ys=>ys=((l.hues.take k).map (bG d_ new)).map D.int,rfl,?_,?_],?_]
    .rintro k' x ys hx hl rfl;rw[Gr]at hx;cases e:l.hues[k']? with
     |none=>rw[e]at hx;cases hx
     |some hu=>
      rw[e]at hx;cases hx;refine#[Kv,_,BB hu d_ new,?_];dsimp only;rw[kW e];simp
    .rintro ys hl rfl;rw[Gm,H8]
    .rintro _ rfl;k_places;exact#[_,by simp[Leaf.T,c3,Leaf.dye,Leaf.by],rfl]
   .have c3:=of_decide_eq_false (GO.mpr c);exact#[_,by simp[Leaf.T,c3,Leaf.by],rfl]
   rintro _⟨hu,Q7,rfl⟩;k_places;refine#[_,rfl,_,rfl,_,rfl,Kv,Kv,Kv,by rw[Gm,Gm];lia,?_];have eT:(D.tup [.lst (l.rows.map D.str),.tup [.int l.a,.int l.b],.tup [.int l.c,.int l.d],.tup ([.int (l.w0*b0+l.w1*b2),.int (l.w0*b1+l.w1*b3),.int (l.w2*b0+l.w3*b2),.int (l.w2*b1+l.w3*b3)]++[.int (l.w4+l.w0*b4+l.w1*b5),.int (l.w5+l.w2*b4+l.w3*b5)]),.lst (hu.map D.int)])=(Leaf.T (decide (draw%4=3)) d_ new b0 b1 b2 b3 b4 b5 l).D:=by
    rw[Q7];by_cases c3:draw%4=3
    .simp[Leaf.T,c3,Leaf.D,Leaf.dye,Leaf.by]
    .simp[Leaf.T,c3,Leaf.D,Leaf.by]
   have e9:((p.leaves.take (k+1)).map (Leaf.T (decide (draw%4=3)) d_ new b0 b1 b2 b3 b4 b5)).map Leaf.D=((p.leaves.take k).map (Leaf.T (decide (draw%4=3)) d_ new b0 b1 b2 b3 b4 b5)).map Leaf.D++[(Leaf.T (decide (draw%4=3)) d_ new b0 b1 b2 b3 b4 b5 l).D]:=by
    rw[kW K1,GM,GM,GJ,GJ,Hn,Hn]
   rw[e9,<-eT];exact#[_,_,_,_,_,_,_,_,_,rfl]
  .rintro z⟨KD,KE,s9,s_,N1,N2,N3,N4,K0,rfl⟩;k_places;rw[Gm,H8];refine#[_,rfl,Kn,_,rfl,Kv,hR]
abbrev iZ(V:Bx):Prop:=V.D 1 "_law_gcd" lH A6
def Er(T:V.T "_law_gcd" lG lH)(uP:V.m "abs"):iZ V:=by
 refine Tx.okDW T sc__law_gcd (λds R h=>?_) (λf cdv A outer s H E J hr=>⟨_,((ai (am 0 sc__law_gcd.nd (eg uP (ac (aa 0) ae)))
   (ai (am 1 sc__law_gcd.nd (eg uP (ac (aa 1) ae)))
   (ai (fR PassesOwn.never (cr (aa 1) ad) (ar (yD 0 1 rfl sc__law_gcd.nd (ac (aa 1) (ac (aC (aa 0) (aa 1)) ae)))))
   (ar (aE (aa 0))))))),λds R h=>?_⟩)
 .obtain⟨x,y,rfl,_⟩:=h;rfl
 .obtain⟨x,y,rfl,hR⟩:=h;refine#[λd=>d=.int (if x<0 then -x else x),rfl,?_];rintro _ rfl;k_places;refine#[λd=>d=.int (if y<0 then -y else y),rfl,?_];rintro _ rfl;k_places;have hx:0<=(if x<0 then -x else x):=by split<;>lia
  have hy:0<=(if y<0 then -y else y):=by split<;>lia
  have N5:∀e,(e∣(if x<0 then -x else x)/\e∣(if y<0 then -y else y))↔(e∣x/\e∣y):=λe=>by rw[tP,tP]
  generalize (if x<0 then -x else x)=a at hx N5 ⊢;generalize (if y<0 then -y else y)=b at hy N5 ⊢;refine#[λm z=>∃a b:Int,z=[be (.int a),be (.int b)]/\0<=a/\0<=b/\(∀e,(e∣a/\e∣b)↔(e∣x/\e∣y))/\m=b.toNat,#[_,a,b,rfl,hx,hy,N5,rfl],?_];rintro m z⟨a,b,rfl,ha,hb,LM,rfl⟩;k_places;refine ite2 (λc=>?_) (λc=>?_)
  .have c':¬b=0:=by simpa using c
   have q1:=cK (a:=a) (show 0<b by lia);have q2:=cL (a:=a) (show 0<b by lia);refine#[Kn,_,?_,b,a%b,rfl,hb,q1,λe=>?_,rfl]
   .lia
   .rw[<-LM e];constructor
    .rintro⟨h1,h2⟩;exact#[(tQ h1).mp h2,h1]
    .rintro⟨h1,h2⟩;exact#[h2,(tQ h2).mpr h1]
  .have c':b=0:=by simpa using c
   subst c';have g:=(LM a).mp #[Int.dvd_refl a,Int.dvd_zero a];exact hR a ha g.1 g.2 λe h1 h2=>((LM e).mpr #[h1,h2]).1
abbrev ja(V:Bx):Prop:=V.D 1 "_law_on" lK A5
def Es(T:V.T "_law_on" lJ lK):ja V:=by
 refine Tx.okDW T sc__law_on (λds R h=>?_) (λf cdv A outer s H E J hr=>⟨_,((ai (am 4 sc__law_on.nd (bq (ax (af (aa 0) ad) (af (aa 1) ad)) (ax (af (aa 0) ad) (af (aa 1) ad))))
   (ar (aE (fM (cP (rF (bq (ax (aa 2) (af (aa 1) ad)) (ax (aa 3) (af (aa 1) ad))) (aa 4)) ad) (fL (cP (rF (bq (ax (af (aa 0) ad) (aa 3)) (ax (af (aa 0) ad) (aa 2))) (aa 4)) ad))))))),λds R h=>?_⟩)
 .obtain⟨a,b,c,d,u,v,rfl,_⟩:=h;rfl
 .obtain⟨a,b,c,d,u,v,rfl,ha,hb,hc,hd,hn,hR⟩:=h;have K2:∀{x:Int},x.natAbs<1073741824->-(2^64)<x/\x<2^64:=λh=>n64 (Nat.le_of_lt_succ h);refine#[λx=>x=.int (a*d-b*c),#[_,rfl,_,rfl,.inl (K2 ha),_,rfl,_,rfl,.inl (K2 hb),rfl],?_];rintro _ rfl;k_places;refine#[_,rfl,.inr (K2 hd),_,rfl,.inr (K2 hc),Lg,ite2 (λe=>?_) (λe=>?_)]
  .have e':=of_decide_eq_true e;refine#[_,rfl,.inl (K2 ha),_,rfl,.inl (K2 hb),Lg,?_];have q:decide ((a*v-b*u).fmod (a*d-b*c)=0)=decide ((u*d-v*c).fmod (a*d-b*c)=0/\(a*v-b*u).fmod (a*d-b*c)=0):=by simp[e']
   have g:R (.bl (decide ((a*v-b*u).fmod (a*d-b*c)=0))):=by rw[q];exact hR
   exact g
  .have e':=of_decide_eq_false (GO.mpr e);have q:decide ((u*d-v*c).fmod (a*d-b*c)=0/\(a*v-b*u).fmod (a*d-b*c)=0)=false:=by simp[e']
   rw[q]at hR;exact hR
abbrev ph(V:Bx):Prop:=V.D 2 "_law_leaf_family" lM BE
def Et(T:V.T "_law_leaf_family" lL lM)(uP:V.m "abs")(K3:iZ V)(K4:ja V):ph V:=by
 refine Tx.okDW T sc__law_leaf_family (λds R h=>?_) (λf cdv A outer s H E J hr=>⟨_,((ai (rZ rfl (af (aa 0) ad) (dg_cons 1 sc__law_leaf_family.nd (dg_cons 2 sc__law_leaf_family.nd (dg_cons 3 sc__law_leaf_family.nd (dg_cons 4 sc__law_leaf_family.nd (dg_cons 5 sc__law_leaf_family.nd (dg_cons 6 sc__law_leaf_family.nd eK)))))))
   (ai (am 7 sc__law_leaf_family.nd (aL (ac (ao (ax (aa 1) (af (af (aa 0) ad) ad)) (ax (aa 3) (af (af (aa 0) ad) ad))) (ac (ao (ax (aa 2) (af (af (aa 0) ad) ad)) (ax (aa 4) (af (af (aa 0) ad) ad))) ae))))
   (ai (am 8 sc__law_leaf_family.nd (aL (ac (ao (ax (aa 1) (af (af (aa 0) ad) ad)) (ax (aa 3) (af (af (aa 0) ad) ad))) (ac (ao (ax (aa 2) (af (af (aa 0) ad) ad)) (ax (aa 4) (af (af (aa 0) ad) ad))) ae))))
   (ai (am 9 sc__law_leaf_family.nd (aD K3 hr (ac (af (aa 7) ad) (ac (af (aa 8) ad) ae))))
   (ai (am 10 sc__law_leaf_family.nd (aX (eg uP (ac (bq (ax (af (aa 7) ad) (af (aa 8) ad)) (ax (af (aa 7) ad) (af (aa 8) ad))) ae)) (aa 9)))
   (ai (am 11 sc__law_leaf_family.nd ad)
   (ai (fR PassesOwn.never (eB (cG (aD K4 hr (ac (aa 7) (ac (aa 8) (ac (aa 11) (ac (aa 9) ae))))))) (ar (am 11 sc__law_leaf_family.nd (ao (aa 11) ad))))
   (ar (aE (aL (ac (aa 10) (ac (aa 9) (ac (aa 11) ae)))))))))))))),λds R h=>?_⟩)
 .obtain⟨_,_,rfl,_⟩:=h;rfl
 .obtain⟨l,n,rfl,gd,nr,hR⟩:=h;obtain⟨h0,h1,h2,h3⟩:=nr.unit;obtain⟨z0,z1,z2,z3,ne,z5⟩:=Leaf.sizes gd nr;have ha:=gd.a;have hb:=gd.b;have hc:=gd.c;have hd:=gd.d;unfold B12 at ha hb hc hd;refine#[_,rfl,rfl,?_];simp only[GA,GB,aT];refine#[λx=>x=.tup [.int l.o0,.int l.o1],#[_,rfl,_,rfl,.inl (u64 h0),_,rfl,_,rfl,.inl (u64 h2),_,rfl,_,rfl,.inl (u64 h1),_,rfl,_,rfl,.inl (u64 h3),Kv,rfl],?_];rintro _ rfl;k_places;refine#[λx=>x=.tup [.int l.t0,.int l.t1],#[_,rfl,_,rfl,.inl (u64 h0),_,rfl,_,rfl,.inl (u64 h2),_,rfl,_,rfl,.inl (u64 h1),_,rfl,_,rfl,.inl (u64 h3),Kv,rfl],?_];rintro _ rfl;k_places;generalize l.o0=o0 at*;generalize l.o1=o1 at*;generalize l.t0=t0 at*;generalize l.t1=t1 at*;refine#[λx=>∃g:Int,x=.int g/\0<=g/\g∣o1/\g∣t1/\∀e,e∣o1->e∣t1->e∣g,#[_,rfl,_,rfl,o1,t1,rfl,λg q0 q1 q2 q3=>#[g,rfl,q0,q1,q2,q3]],?_];rintro _⟨g,rfl,q0,q1,q2,q3⟩;k_places;obtain⟨w,s,f⟩:=BD ne q0 q1 q2 q3;have hg:=f.2.1;have k1:=bN (a:=o0) (d:=t1) (A:=24) (B:=24) z0 z3;have k2:=bN (a:=o1) (d:=t0) (A:=24) (B:=24) z1 z2;have R4:=f.bd (N:=288) z5;have u8:=f.cells;have ew:(if o0*t1-o1*t0<0 then -(o0*t1-o1*t0)else o0*t1-o1*t0)/g=w:=by
   have hp:=Gz f.1 hg;have:(if o0*t1-o1*t0<0 then -(o0*t1-o1*t0)else o0*t1-o1*t0)=w*g:=by split<;>lia
   rw[this];exact GQ _ Kn
  refine#[λx=>x=.int w,#[_,rfl,_,rfl,.inl (n64 z0),_,rfl,_,rfl,.inl (n64 z1),#[Kn,Kn],?_],?_]
  .exact congrArg D.int ew
  rintro _ rfl;k_places;refine#[λx=>x=.int 0,rfl,?_];rintro _ rfl;k_places;have hp:=Gz f.1 hg;refine#[λm z=>∃x:Int,z=[be l.D,be (.int l.w0),be (.int l.w1),be (.int l.w2),be (.int l.w3),be (.int l.w4),be (.int l.w5),be (.tup [.int o0,.int o1]),be (.tup [.int t0,.int t1]),be (.int g),be (.int w),be (.int x)]/\0<=x/\x<=s/\m=(s-x).toNat,#[_,0,rfl,Kn,f.2.2.1,rfl],?_];rintro m z⟨x,rfl,x0,x1,rfl⟩;k_places;refine#[o0,o1,t0,t1,x,g,rfl,Kn,Kn,Kn,Kn,ne,?_];refine ite2 (λc=>?_) (λc=>?_)
  .have c':¬((x*t1-g*t0).fmod (o0*t1-o1*t0)=0/\(o0*g-o1*x).fmod (o0*t1-o1*t0)=0):=notT c;have xs:x≠s:=by
    rintro rfl;obtain⟨_,_,_,_,m',n',k',l',_,e1,e2,e3,e4⟩:=id f;exact c' (tM e3 e4)
   refine#[λd=>d=.int (x+1),rfl,?_];rintro _ rfl;k_places;exact#[_,Kn,x+1,rfl,Kn,Kn,rfl]
  .have c':(x*t1-g*t0).fmod (o0*t1-o1*t0)=0/\(o0*g-o1*x).fmod (o0*t1-o1*t0)=0:=by
    exact notF c
   obtain⟨i,j,e1,e2⟩:=ud ne c';have:x=s:=f.uniq_lean e1 e2 x0 x1;subst this;exact#[Kv,hR w g x f Kn]
abbrev pi(V:Bx):Prop:=V.D 1 "_law_in_family" lQ A4
def Eu(T:V.T "_law_in_family" lP lQ):pi V:=by
 refine Tx.okDW T Do (λds R h=>?_) (λf cdv A outer s H E J hr=>#[_,((ar (aE (fM (cP (aC (aa 2) (af (aa 0) ad)) ad) (fL (cP (aC (bq (aa 1) (ax (aX (aa 2) (af (aa 0) ad)) (af (aa 0) ad))) (af (aa 0) ad)) ad)))))),λds R h=>?_])
 .obtain⟨w,h,s,x,y,rfl,_⟩:=h;rfl
 .obtain⟨w,h,s,x,y,rfl,hw,hh,z6,hs,g7,hR⟩:=h;refine#[_,rfl,hh,ite2 (λc=>?_) (λc=>?_)]
  .have c':=of_decide_eq_true c;refine#[_,rfl,#[hh,z6],_,rfl,.inr #[Kn,Kn],_,rfl,hw,?_];have e:decide ((x-y/h*s)%w=0)=decide (y%h=0/\(x-y/h*s)%w=0):=by simp[c']
   have g:R (.bl (decide ((x-y/h*s)%w=0))):=by rw[e];exact hR
   exact g
  .have c':=of_decide_eq_false (GO.mpr c);have e:decide (y%h=0/\(x-y/h*s)%w=0)=false:=by simp[c']
   rw[e]at hR;exact hR
abbrev pj(V:Bx):Prop:=V.D 2 "_law_both" lU BH
def Ev(T:V.T "_law_both" lR lU)(K3:iZ V)(N6:pi V):pj V:=by
  refine Tx.okDW T sc__law_both (λds R h=>?_) (λf cdv A outer s H E J hr=>⟨_,((ai (am 2 sc__law_both.nd (aX (ax (af (aa 0) ad) (af (aa 1) ad)) (aD K3 hr (ac (af (aa 0) ad) (ac (af (aa 1) ad) ae)))))
      (ai (am 3 sc__law_both.nd (af (aa 0) ad))
      (ai (fR PassesOwn.never (yq (ax (aa 2) (aa 3)) ad) (ai (am 4 sc__law_both.nd (aC (ax (af (aa 0) ad) (aX (aa 3) (af (aa 0) ad))) (af (aa 0) ad)))
        (ai (fR PassesOwn.never (eo (aa 4) (aa 2)) (ai (bw (cG (aD N6 hr (ac (aa 1) (ac (aa 4) (ac (aa 3) ae))))) (ar (aE (aL (ac (aa 2) (ac (aa 3) (ac (aa 4) ae)))))) bj)
          (ar (am 4 sc__law_both.nd (ao (aa 4) (af (aa 0) ad))))))
        (ar (am 3 sc__law_both.nd (ao (aa 3) (af (aa 0) ad)))))))
      (ar (aE dG)))))),λds R h=>?_⟩)
  . obtain⟨_,_,_,_,_,_,rfl,_⟩:=h;rfl
  . obtain⟨w1,h1,s1,w2,h2,s2,rfl,f1,f2,hR⟩:=h;obtain⟨a1,a2,a3,a4,a5,a6⟩:=f1;obtain⟨b1,b2,b3,b4,b5,b6⟩:=f2;obtain⟨g,u,W,Hh,S,A,M1,eW,M⟩:=BG #[a1,a2,a3,a4,a5,a6] #[b1,b2,b3,b4,b5,b6];have PH:=hR W Hh S A M;have wb:W<=518400:=by
      have:=(kS a1 b1 M1).2.1;have:=bN (a:=w1) (d:=w2) (A:=720) (B:=720) Kn Kn;lia
    have mw:=M.w0;have mh:=M.h0;have ms:=M.s0;have R5:=M.sw;refine#[λx=>x=.int W,#[_,rfl,_,rfl,.inl #[Kn,Kn],_,rfl,_,rfl,w1,w2,rfl,λG q0 q1 q2 q3=>?_],?_]
    . have eG:=M1.gcd q0 q1 q2 q3;subst eG;have hg:=M1.pos a1;have N7:=M1.le a1;exact#[#[hg,Kn],by rw[<-eW]]
    rintro _ rfl;k_places;refine#[λx=>x=.int h1,#[_,rfl,rfl],?_];rintro _ rfl;k_places;obtain⟨i0,j0,eS,eH⟩:=M.up1;have Q8:1<=j0:=by
      rcases(Kn:j0<=0\/1<=j0)with z|z
      . have:=Hg z (show 0<=h1 by lia);lia
      . exact z
    refine#[λm z=>∃(j:Int) (o:Option D),z=[be (.tup [.int w1,.int h1,.int s1]),be (.tup [.int w2,.int h2,.int s2]),be (.int W),be (.int (j*h1)),o]/\1<=j/\j<=j0/\m=(j0-j).toNat,#[_,1,_,by rw[Int.one_mul];rfl,Kn,Q8,rfl],?_];rintro m z⟨j,o,rfl,JY,Q9,rfl⟩;k_places;have Q_:0<j*h1:=Gz Kn a3;have Ra:j*h1<=Hh:=by
      rw[eH];exact GN Q9 Kn
    have R6:=Jk Ra (show 0<=W by lia);refine#[.inl #[Kn,Kn],ite2 (λc=>?_) (λc=>?_)]
    . have c':=of_decide_eq_true c;have R7:j*h1<=720:=by
        have:=(cX (w:=W) (h:=j*h1) mw Q_).2;lia
      have Rb:j*h1/h1=j:=GQ _ Kn;refine#[λx=>∃v:Int,x=.int v/\0<=v/\v<w1/\∃i,v=i*w1+j*s1,#[_,rfl,_,rfl,#[Kn,Kn],.inl #[Kn,Kn],_,rfl,a1,_,rfl,cK a1,cL a1,?_],?_]
      . rw[Rb];refine#[-(s1*j/w1),?_];have:=Hf (s1*j) w1;rw[this];have e1:s1*j=j*s1:=GL _ _;have e2:w1*(s1*j/w1)=s1*j/w1*w1:=GL _ _;rw[e2,Ix];lia
      rintro _⟨x0,rfl,x1,x2,i1,PJ⟩;k_places;refine#[λm z=>∃(x:Int),z=[be (.tup [.int w1,.int h1,.int s1]),be (.tup [.int w2,.int h2,.int s2]),be (.int W),be (.int (j*h1)),be (.int x)]/\0<=x/\(∃i,x=i*w1+j*s1)/\(j=j0->x<=S)/\m=(W-x).toNat,#[_,x0,rfl,x1,#[i1,PJ],λej=>?_,rfl],?_]
      . subst ej;obtain⟨k,ek,k0⟩:=BI a1 x2 x1 ms eS #[i1,PJ];have:=Iv k0 (show 0<=w1 by lia);lia
      rintro m z⟨x,rfl,y0,⟨i2,ex⟩,yS,rfl⟩;k_places;refine ite2 (λc=>?_) (λc=>?_)
      . have cW:=of_decide_eq_true c;refine#[w2,h2,s2,x,j*h1,rfl,b1,b3,Kn,b5,Kn,?_];refine ite2 (λq=>?_) (λq=>?_)
        . have q':=of_decide_eq_true q;obtain⟨i3,k3,e3,e4⟩:=BF q';obtain⟨z1,z2⟩:=M.high a3 JY #[i2,ex] #[i3,k3,e3,e4];have N8:j*h1=Hh:=by lia
          have:=z2 N8 y0 cW;subst this;have:=PH.1 (by rw[<-N8];lia);rw[<-N8]at this;exact#[Kv,this]
        . have q':=of_decide_eq_false (GO.mpr q);refine#[λd=>d=.int (x+w1),#[_,rfl,rfl],?_];rintro _ rfl;k_places;refine#[_,Kn,x+w1,rfl,Kn,#[i2+1,Ln],λej=>?_,rfl];subst ej;have hx:=yS rfl;have ne:x≠S:=by
            rintro rfl;obtain⟨i4,j4,e5,e6⟩:=M.up2;exact q' (in_fam (i:=i4) (j:=j4) b3 e5 (by rw[<-eH];exact e6))
          have:∃t:Int,S=x+t*w1:=#[i0-i2,by rw[ex];grind];obtain⟨t,et⟩:=this;have t1:1<=t:=by
            rcases(Kn:t<=0\/1<=t)with z|z
            . have:=Hg z (show 0<=w1 by lia);lia
            . exact z
          have:=GN t1 (show 0<=w1 by lia);lia
      . have cW:=of_decide_eq_false (GO.mpr c);have R8:j<j0:=by
          rcases(Kn:j<j0\/j=j0)with z|z
          . exact z
          . have:=yS z;lia
        refine#[λd=>d=.int ((j+1)*h1),#[_,rfl,by congr 1;grind],?_];rintro _ rfl;k_places;exact#[_,Kn,j+1,_,rfl,Kn,Kn,rfl]
    . have c':=of_decide_eq_false (GO.mpr c);exact PH.2 Kn
abbrev pk(V:Bx):Prop:=V.D 3 "_law_family" lW BJ
def Ew(T:V.T "_law_family" lV lW)(MD:ph V)(N_:pj V):pk V:=by
  refine Tx.okDW T sc__law_family (λds R h=>?_) (λf cdv A outer s H E J hr=>⟨_,((ai (am 1 sc__law_family.nd (aD MD hr (ac (af (aa 0) ad) ae)))
      (ai (gL 2 PassesOwn.never rfl sc__law_family.nd (yY (aa 0) ad) (ai (am 1 sc__law_family.nd (aD N_ hr (ac (aa 1) (ac (aD MD hr (ac (aa 2) ae)) ae))))
        (ar (bw (rS (aa 1) dG) (ar (aE dG)) bj))))
      (ar (aE (aa 1)))))),λds R h=>?_⟩)
  . obtain⟨_,_,rfl,_⟩:=h;rfl
  . obtain⟨ls,n,rfl,m_,hg,hR⟩:=h;cases ls with
    |nil=>exact absurd rfl m_
    |cons l0 ls=>
    refine#[λx=>∃w h s:Int,x=.tup [.int w,.int h,.int s]/\FamOf l0.o0 l0.o1 l0.t0 l0.t1 w h s/\w*h<=288,#[_,ca (j:=0) rfl,l0,n,rfl,(hg l0 Gk).1,(hg l0 Gk).2,λw h s f q=>#[w,h,s,rfl,f,q]],?_];rintro _⟨w0,h0,s0,rfl,f0,q0⟩;k_places
    try simp only[GA,GB]
    have ec:cutD (II Leaf.D (l0::ls)) (be 1) q8=ls.map Leaf.D:=by rw[GJ,cut1]
    refine#[λk z=>∃(w h s:Int) (o:Option D),z=[be (.lst ((l0::ls).map Leaf.D)),be (.tup [.int w,.int h,.int s]),o]/\Fam0 w h s/\w*h<=720/\∀x y,InF w h s x y↔bQ (l0::ls.take k) x y,#[w0,h0,s0,_,rfl,#[f0.1,f0.2.1,f0.2.2.1,f0.2.2.2.1],Kn,λx y=>?_],?_,?_]
    . rw[f0.lat];constructor
      . intro q l z;rcases Gh.mp z with e|e
        . rw[e];exact q
        . cases e
      . intro q;exact q l0 Gk
    . rintro k v z hk⟨w,h,s,o,rfl,fm,PK,lat⟩;k_places;rw[ec,Gr]at hk;have m8:k<ls.length:=by
        rcases Hr k ls.length with q|q
        . exact q
        . rw[GY q]at hk;cases hk
      have K1:ls[k]?=be ls[k]:=GH m8;rw[K1]at hk;cases hk;obtain⟨gd,nr⟩:=hg ls[k] (Gi _ (GT m8));have LN:∀l∈ls.drop (k+1),l.Good/\l.Near n:=λl q=>hg l (Gi _ (IJ q));have G_:∀x y,bQ (l0::ls) x y↔(bQ (l0::ls.take k) x y/\ls[k].Lat x y)/\bQ (ls.drop (k+1)) x y:=λx y=>by
        have ed:ls=ls.take k++ls[k]::ls.drop (k+1):=by rw[<-Hj m8,JL]
        constructor
        . intro q;refine#[#[λl z=>?_,q _ (Gi _ (GT m8))],λl z=>q l (Gi _ (IJ z))];rcases Gh.mp z with e|e
          . exact q l (e ▸ Gk)
          . exact q l (Gi _ (List.mem_of_mem_take e))
        . rintro⟨⟨q1,q2⟩,q3⟩ l z;rcases Gh.mp z with e|e
          . exact q1 l (e ▸ Gk)
          . rw[ed]at e;rcases GD.mp e with e|e
            . exact q1 l (Gi _ e)
            . rcases Gh.mp e with e|e
              . rw[e];exact q2
              . exact q3 l e
      have g9:∀x y,bQ (l0::ls.take (k+1)) x y↔bQ (l0::ls.take k) x y/\ls[k].Lat x y:=λx y=>by
        rw[kW K1];constructor
        . intro q;refine#[λl z=>q l ?_,q _ (Gi _ (GE _ Gk))];rcases Gh.mp z with e|e
          . rw[e];exact Gk
          . exact Gi _ (Hk _ e)
        . rintro⟨q1,q2⟩ l z;rcases Gh.mp z with e|e
          . exact q1 l (e ▸ Gk)
          . rcases GD.mp e with e|e
            . exact q1 l (Gi _ e)
            . rw[Gf.mp e];exact q2
      generalize ls[k]=l at gd nr G_ g9;obtain⟨p1,p2⟩:=cX fm.w0 fm.h0;refine#[λx=>(∃w h s:Int,x=.tup [.int w,.int h,.int s]/\Fam0 w h s/\w*h<=720/\∀x y,InF w h s x y↔bQ (l0::ls.take (k+1)) x y)\/(x=.non/\R .non),#[l,n,rfl,gd,nr,λw2 h2 s2 f2 b2=>?_],?_]
      . obtain⟨r1,r2⟩:=cX f2.1 f2.2.1;refine#[w,h,s,w2,h2,s2,rfl,#[fm.w0,Kn,fm.h0,Kn,fm.s0,fm.sw],#[f2.1,Kn,f2.2.1,Kn,f2.2.2.1,f2.2.2.2.1],λW Hh S A M=>#[λq=>?_,λq=>?_]]
        . refine .inl #[W,Hh,S,rfl,#[M.w0,M.h0,M.s0,M.sw],q,λx y=>?_];rw[M.lat,lat,f2.lat,g9];exact Iff.rfl
        . refine .inr #[rfl,?_];obtain⟨w3,h3,s3,f3,e3⟩:=uh (ls.drop (k+1)) W Hh S #[M.w0,M.h0,M.s0,M.sw] LN;refine(hR w3 h3 s3 f3 λx y=>?_).2 ?_
          . rw[e3,M.lat,lat,f2.lat,G_];exact Iff.rfl
          . have:=(InF.le M.w0 M.h0 f3.w0 f3.h0 (λx y z=>((e3 x y).mp z).1)).1;lia
      . rintro _ (⟨W,Hh,S,rfl,Rc,q,e'⟩|⟨rfl,hn⟩);k_places
        . try simp only[GA,GB]
          exact#[W,Hh,S,_,rfl,Rc,q,e']
        . try simp only[GA,GB]
          exact hn
    . rintro z⟨w,h,s,o,rfl,fm,PK,lat⟩;k_places;rw[ec,Gm,H8]at lat;exact(hR w h s fm lat).1 PK
abbrev pq(V:Bx):Prop:=V.D 4 "_law_over" lY BM
def Ey(T:V.T "_law_over" lX lY)(uV:V.m "max")(Oa:pk V):pq V:=by
 refine Tx.okDW T sc__law_over (λds R h=>?_) (λf cdv A outer s H E J hr=>⟨_,((ai (am 2 sc__law_over.nd (ao (af (aa 0) ad) (af (aa 1) ad)))
   (ai (bw (eA (fK (rR (fS rfl uV (ac (af (aa 0) ad) (ac (af (aa 1) ad) ae))) ad) (fJ (rS (aD Oa hr (ac (aa 2) ae)) dG)))) (ar (aE (aa 0))) bj)
   (ar (aE (aY (ac (ao (ao (ao (ao aw (af (aa 0) ad)) aw) (af (aa 1) ad)) aw) (ac (ao ad (fS rfl uV (ac (af (aa 0) ad) (ac (af (aa 1) ad) ae)))) (ac (aa 2) ae))))))))),λds R h=>?_⟩)
 .obtain⟨_,_,rfl,_⟩:=h;rfl
 .obtain⟨p,q,rfl,wp,wq,dp,dq,PL,Re⟩:=h;have n1:=Pat.leaves_32 dp;have n2:=Pat.leaves_32 dq;refine#[λx=>x=.lst ((Pat.over p q).leaves.map Leaf.D),#[_,rfl,_,rfl,?_,?_],?_]
  .rw[Gm,Gm];lia
  .rw[Pat.leaves,GM]
  rintro _ rfl;k_places;refine#[_,rfl,_,rfl,ite2 (λc=>PL) (λc=>?_)];have c':=of_decide_eq_false (GO.mpr c);have ep:p.depth<5/\q.depth<5:=by
   split at c'<;>lia
  refine#[(Pat.over p q).leaves,(Pat.over p q).depth,rfl,?_,λl hl=>Pat.leaf_good (p:=.over p q) #[wp,wq] l hl,λw h s f lat=>#[λsm=>?_,λ_=>PL]]
  .intro z;have:(Pat.over p q).leaves.length=0:=by rw[z];rfl
   rw[Pat.leaves,Gx]at this;have:=Pat.leaves_pos p;lia
  have t1:=Pat.text_short wp dp;have t2:=Pat.text_short wq dq;have l1:("(":C_).length=1:=rfl;have l2:("|":C_).length=1:=rfl;have l3:(")":C_).length=1:=rfl;have Rf:(Pat.over p q).Fits:=#[w,h,s,#[f,λx y=>(lat x y).trans (Pat.lat_leaves (.over p q) x y)],sm];refine#[_,rfl,?_,?_,_,rfl,?_,?_,_,rfl,_,rfl,Kv,?_]
  .lia
  .rw[aG];lia
  .rw[aG,aG];lia
  .rw[aG,aG,aG];lia
  have g:=Re ep.1 ep.2 Rf;have e:(1+(if(q.depth:Int)>(p.depth:Int)then(q.depth:Int)else(p.depth:Int)))=(((Pat.over p q).depth:Nat):Int):=by
   rw[Pat.depth];split<;>lia
  unfold Pat.D at g;rw[<-e]at g;exact g
abbrev pr(V:Bx):Prop:=V.D 5 "_law_pattern" md BN
def Ez(T:V.T "_law_pattern" lZ md)(uA:V.m "range")(KZ:iY V)(MF:pe V)(MG:pf V)(MH:pq V):pr V:=by
  refine Tx.okDW T sc__law_pattern (λds R h=>?_) (λf cdv A outer s H E J hr=>⟨_,((ai (am 2 sc__law_pattern.nd (aD KZ hr (ac (aa 0) (ac (aa 1) (ac ad ae)))))
      (ai (am 3 sc__law_pattern.nd (aD MF hr (ac (aa 0) (ac (ao (aa 1) ad) ae))))
      (ai (cz 4 PassesOwn.never rfl sc__law_pattern.nd uA (aC (af (aa 2) ad) ad) (ai (am 5 sc__law_pattern.nd (af (aa 2) (ao ad (ax ad (aa 4)))))
        (ar (fO (bz (aC (aa 5) ad) ad) (ar (am 3 sc__law_pattern.nd (aD MG hr (ac (aa 3) (ac (aX (aa 5) ad) ae))))) (ai (am 6 sc__law_pattern.nd (aD MF hr (ac (aa 0) (ac (ao (ao (aa 1) ad) (ax ad (aa 4))) ae))))
         (ai (fO (bz (aC (aX (aa 5) ad) ad) ad) (ar (am 6 sc__law_pattern.nd (aD MG hr (ac (aa 6) (ac (af (aa 2) (ao ad (ax ad (aa 4)))) ae))))) bj)
         (ar (am 3 sc__law_pattern.nd (af (aY (ac (aD MH hr (ac (aa 3) (ac (aa 6) ae))) (ac (aD MH hr (ac (aa 6) (ac (aa 3) ae))) ae))) (aC (aX (aa 5) ad) ad))))))))))
      (ar (aE (aa 3))))))),λds R h=>?_⟩)
  . obtain⟨_,_,rfl,_⟩:=h;rfl
  . obtain⟨ns,k,rfl,hk,hR⟩:=h;refine#[λx=>∃xs:List Int,x=.lst (xs.map D.int)/\xs.length=13/\Drawn xs,#[ns,k,13,rfl,hk,Ku,λxs h1 h2=>#[xs,rfl,h1,h2]],?_];rintro _⟨xs,rfl,hl,hd⟩;k_places;refine#[λx=>∃p:Pat,x=p.D/\p.Ok,#[ns,k+2,rfl,Kn,λL a b c d h1 h2 h3 h4 h5 h6=>#[.mot L a b c d,rfl,#[h1,h2,h3,h4,h5,h6],by simp[Pat.depth],Pat.fits_mot h2 h3 h4 h5 h6]],?_];rintro _⟨p0,rfl,JZ⟩;k_places;have a0:=cA (xs:=xs) (k:=0) Ku (show 0<xs.length by lia);have h7:=cK (a:=cell xs 0) (show(0:Int)<7 by decide);have h8:=cL (a:=cell xs 0) (show(0:Int)<7 by decide);refine#[_,a0,Ku,#[Kn,Kn],λi z=>∃(p:Pat) (o1 o2 o3:Option D),z=[be (.rol (ns.map D.int)),be (.int k),be (.lst (xs.map D.int)),be p.D,o1,o2,o3]/\p.Ok,#[p0,_,_,_,rfl,JZ],?_,?_]
    . rintro i v z hi⟨p,o1,o2,o3,rfl,ok⟩;k_places;obtain⟨u_,rfl⟩:=cw hi;have a1:=cA (xs:=xs) (k:=1+2*(i:Int)) Kn Kn;have a2:=cA (xs:=xs) (k:=2+2*(i:Int)) Kn Kn;generalize cell xs (1+2*(i:Int))=st at a1;generalize cell xs (2+2*(i:Int))=sv at a2;refine#[λx=>x=.int st,#[.inr #[Kn,Kn],_,a1,rfl],?_];rintro _ rfl;k_places;refine#[λz=>∃(p:Pat) (o3:Option D),z=[be (.rol (ns.map D.int)),be (.int k),be (.lst (xs.map D.int)),be p.D,be (.int i),be (.int st),o3]/\p.Ok,#[Ku,ite2 (λc=>?_) (λc=>?_)],?_]
      . refine#[λx=>∃p:Pat,x=p.D/\p.Ok,#[#[Ku,Ku],p,_,rfl,ok.wf,ok.deep,by have:=Pat.text_short ok.wf ok.deep;lia,Wraps.of ok λq hq=>#[q,rfl,hq]],?_];rintro _⟨q,rfl,i_⟩;k_places;exact#[q,_,rfl,i_]
      . refine#[λx=>∃p:Pat,x=p.D/\p.Ok,#[.inr #[Kn,Kn],ns,k+4+2*(i:Int),rfl,Kn,λL a b c d h1 h2 h3 h4 h5 h6=>#[.mot L a b c d,rfl,#[h1,h2,h3,h4,h5,h6],by simp[Pat.depth],Pat.fits_mot h2 h3 h4 h5 h6]],?_];rintro _⟨q,rfl,i_⟩;k_places;refine#[λz=>∃(q:Pat),z=[be (.rol (ns.map D.int)),be (.int k),be (.lst (xs.map D.int)),be p.D,be (.int i),be (.int st),be q.D]/\q.Ok,#[#[Ku,Ku],Ku,ite2 (λc=>?_) (λc=>?_)],?_]
        . refine#[λx=>∃p:Pat,x=p.D/\p.Ok,#[.inr #[Kn,Kn],_,a2,q,_,rfl,i_.wf,i_.deep,by have:=Pat.text_short i_.wf i_.deep;lia,Wraps.of i_ λq hq=>#[q,rfl,hq]],?_];rintro _⟨q,rfl,i_⟩;k_places;exact#[q,rfl,i_]
        . exact#[q,rfl,i_]
        rintro _⟨q,rfl,i_⟩;k_places;refine#[λx=>∃p:Pat,x=p.D/\p.Ok,?_,?_]
        . have e_:∀r r':Pat,r.Ok->r'.Ok->∃x,atI [r.D,r'.D] (st/4%2)=be x/\∃p:Pat,x=p.D/\p.Ok:=λr r' hr Rg=>by
            rcases(Kn:st/4%2=0\/st/4%2=1)with e|e<;>rw[e]
            . exact#[_,rfl,r,rfl,hr]
            . exact#[_,rfl,r',rfl,Rg]
          have PM:p.depth<5->q.depth<5->(Pat.over p q).Fits->(Pat.over p q).Ok:=λd1 d2 ft=>#[#[ok.wf,i_.wf],by simp only[Pat.depth];lia,ft];have PN:q.depth<5->p.depth<5->(Pat.over q p).Fits->(Pat.over q p).Ok:=λd1 d2 ft=>#[#[i_.wf,ok.wf],by simp only[Pat.depth];lia,ft];refine#[p,q,rfl,ok.wf,i_.wf,ok.deep,i_.deep,?_,λd1 d2 ft=>?_]<;>refine#[q,p,rfl,i_.wf,ok.wf,i_.deep,ok.deep,?_,λd3 d4 PP=>?_]<;>refine#[Kv,#[Ku,Ku],Ku,?_]
          . exact e_ _ _ ok i_
          . exact e_ _ _ ok (PN d3 d4 PP)
          . exact e_ _ _ (PM d1 d2 ft) i_
          . exact e_ _ _ (PM d1 d2 ft) (PN d3 d4 PP)
        rintro _⟨q',rfl,Ob⟩;k_places;exact#[q',_,rfl,Ob]
      rintro _⟨q,o3,rfl,i_⟩;k_places;exact#[q,_,_,_,rfl,i_]
    . rintro z⟨p,o1,o2,o3,rfl,ok⟩;k_places;exact hR p ok
abbrev pv(V:Bx):Prop:=V.D 2 "_law_leaf_shows" mf Bt
def EA(T:V.T "_law_leaf_shows" me mf)(uA:V.m "range")(uB:V.m "len")(uF:V.m "int")(K4:ja V):pv V:=by
 refine Tx.okDW T sc__law_leaf_shows (λds R h=>?_) (λf cdv A outer s H E J hr=>⟨_,((ai (am 3 sc__law_leaf_shows.nd (af (aa 0) ad))
   (ai (am 4 sc__law_leaf_shows.nd (ao (ao (ax (af (aa 3) ad) (aa 1)) (ax (af (aa 3) ad) (aa 2))) (af (aa 3) ad)))
   (ai (am 5 sc__law_leaf_shows.nd (ao (ao (ax (af (aa 3) ad) (aa 1)) (ax (af (aa 3) ad) (aa 2))) (af (aa 3) ad)))
   (ai (cz 6 PassesOwn.never rfl sc__law_leaf_shows.nd uA (cq uB (ac (af (aa 0) ad) ae)) (ar (cz 7 PassesOwn.never rfl sc__law_leaf_shows.nd uA (cq uB (ac (af (af (aa 0) ad) (aa 6)) ae)) (ar (bw (eA (yt (cr (af (af (af (aa 0) ad) (aa 6)) (aa 7)) aw) (yr (cG (aD K4 hr (ac (af (aa 0) ad) (ac (af (aa 0) ad) (ac (bq (aa 4) (aa 7)) (ac (bq (aa 5) (aa 6)) ae))))))))) (ar (aE (af (af (aa 0) ad) (gM uF (ac (af (af (af (aa 0) ad) (aa 6)) (aa 7)) ae))))) bj)))))
   (ar (aE ad))))))),λds R h=>?_⟩)
 .obtain⟨_,_,_,rfl,_⟩:=h;rfl
 .obtain⟨l,x,y,rfl,ok,hR⟩:=h;obtain⟨hm,wd,Rh,LL⟩:=id ok.rows;refine#[λd=>d=.tup [.int l.w0,.int l.w1,.int l.w2,.int l.w3,.int l.w4,.int l.w5],#[_,rfl,rfl],?_];rintro _ rfl;k_places;refine#[λd=>d=.int (l.w0*x+l.w1*y+l.w4),#[_,rfl,.inl (n64 ok.w0),_,rfl,.inl (n64 ok.w1),_,rfl,rfl],?_];rintro _ rfl;k_places;refine#[λd=>d=.int (l.w2*x+l.w3*y+l.w5),#[_,rfl,.inl (n64 ok.w2),_,rfl,.inl (n64 ok.w3),_,rfl,rfl],?_];rintro _ rfl;k_places;have Kb:R (.int (match l.hit x y with|some c=>cell l.hues ((c:Int)-48)|none=>0)):=hR;unfold Leaf.hit at Kb;generalize l.w0*x+l.w1*y+l.w4=U at Kb ⊢;generalize l.w2*x+l.w3*y+l.w5=V at Kb ⊢;generalize ef:(λi j=>onB l.a l.b l.c l.d (U-i) (V-j))=f at Kb;have e0:∀i j,f i j=onB l.a l.b l.c l.d (U-i) (V-j):=λi j=>by rw[<-ef]
  have c5:((l.rows.map D.str).length:Int).toNat=l.rows.length:=Kv
  refine#[_,rfl,#[Kn,Pa],λk z=>∃o1 o2:Option D,z=[be l.D,be (.int x),be (.int y),be (.tup [.int l.w0,.int l.w1,.int l.w2,.int l.w3,.int l.w4,.int l.w5]),be (.int U),be (.int V),o1,o2]/\bP f 0 l.rows=bP f k (l.rows.drop k),#[_,_,rfl,rfl],?_,?_]
  .rintro j v z hj⟨o1,o2,rfl,hs⟩;k_places;obtain⟨JT,rfl⟩:=cw hj;rw[c5]at JT;have LO:l.rows[j]?=be l.rows[j]:=GH JT;have v_:l.rows.drop j=l.rows[j]::l.rows.drop (j+1):=Hj JT;obtain⟨MB,LJ⟩:=LL l.rows[j] (GT JT);generalize l.rows[j]=row at LO v_ MB LJ;have KG:=at_str LO;have u8:=bu row;refine#[_,rfl,_,KG,Kn,#[Kn,Kn],λi z=>∃o2:Option D,z=[be l.D,be (.int x),be (.int y),be (.tup [.int l.w0,.int l.w1,.int l.w2,.int l.w3,.int l.w4,.int l.w5]),be (.int U),be (.int V),be (.int j),o2]/\scanRow (λi=>f i j) 0 (cs row)=scanRow (λi=>f i j) i ((cs row).drop i),#[_,rfl,rfl],?_,?_]
   .rintro i v z hi⟨o2,rfl,K5⟩;k_places;obtain⟨u_,rfl⟩:=cw hi;have Oc:i<(cs row).length:=by lia
    have J0:(cs row).drop i=(cs row)[i]::(cs row).drop (i+1):=Hj Oc;have LP:=LJ (cs row)[i] (GT Oc);have Od:atI (cs row) (i:Int)=be (cs row)[i]:=ca (GH Oc);generalize (cs row)[i]=c at J0 LP Od;refine#[_,rfl,_,KG,c,#[Kn,Od],ite2 (λq=>?_) (λq=>?_)]
    .have r_:¬c=46:=by
      intro z;have:(#[[c].toArray]:C_)=".":=one_sign.mpr z;simp[this]at q
     refine#[_,rfl,_,rfl,l.a,l.b,l.c,l.d,U-i,V-j,rfl,ok.a.lt,ok.b.lt,ok.c.lt,ok.d.lt,ok.ne,?_];refine ite2 (λq2=>?_) (λq2=>?_)
     .have e_:f i j=true:=by rw[e0];exact q2
      have Ri:49<=c/\c<=54:=by unfold aZ at LP;lia
      refine#[_,rfl,_,rfl,_,KG,c,#[Kn,Od],_,#[digit_of Ri,by show 1<=640;decide],_,cA Kn (by rw[ok.many];lia),?_];rw[hs,v_,bP,K5,J0,scanRow,if_pos #[r_,e_]]at Kb;exact Kb
     .have e_:¬f i j=true:=by rw[e0];exact q2
      refine#[_,rfl,?_];rw[K5,J0,scanRow,if_neg (λz=>e_ z.2)]
    .have r_:c=46:=by
      rcases Classical.em (c=46)with z|z
      .exact z
      .exact absurd (by
        have:¬(#[[c].toArray]:C_)=".":=λw=>z (one_sign.mp w);simp[this]) q
     refine#[_,rfl,?_];rw[K5,J0,scanRow,if_neg (λz=>z.1 r_)]
   .rintro z⟨o2,rfl,K5⟩;k_places;refine#[_,_,rfl,?_];have hn:((row.length:Int).toNat)=(cs row).length:=by lia
    rw[cf,hn,IK (Gg _),scanRow]at K5;rw[hs,v_,bP,K5]
  .rintro z⟨o1,o2,rfl,hs⟩;k_places;rw[cf,c5,IK (Gg _),bP]at hs;rw[hs]at Kb;exact Kb
abbrev pw(V:Bx):Prop:=V.D 3 "_law_shows" mj Bu
def EB(T:V.T "_law_shows" mi mj)(Oe:pv V):pw V:=by
 refine Tx.okDW T sc__law_shows (λds R h=>?_) (λf cdv A outer s H E J hr=>⟨_,((ai (gL 3 PassesOwn.never rfl sc__law_shows.nd (aa 0) (ai (am 4 sc__law_shows.nd (aD Oe hr (ac (aa 3) (ac (aa 1) (ac (aa 2) ae)))))
    (ar (bw (cr (aa 4) ad) (ar (aE (aa 4))) bj))))
   (ar (aE ad)))),λds R h=>?_⟩)
 .obtain⟨_,_,_,rfl,_⟩:=h;rfl
 .obtain⟨ls,x,y,rfl,ok,hR⟩:=h;refine#[λk z=>∃o1 o2:Option D,z=[be (.lst (ls.map Leaf.D)),be (.int x),be (.int y),o1,o2]/\aR ls x y=aR (ls.drop k) x y,#[_,_,rfl,rfl],?_,?_]
  .rintro k v z hk⟨o1,o2,rfl,hs⟩;k_places;rw[Gr]at hk;have m8:k<ls.length:=by
    rcases Hr k ls.length with q|q
    .exact q
    .rw[GY q]at hk;cases hk
   rw[GH m8]at hk;cases hk;have ed:ls.drop k=ls[k]::ls.drop (k+1):=Hj m8;have PQ:=ok ls[k] (GT m8);generalize ls[k]=l at ed PQ;refine#[λd=>d=.int (l.shows x y),#[l,x,y,rfl,PQ,rfl],?_];rintro _ rfl;k_places;refine ite2 (λq=>?_) (λq=>?_)
   .have q':¬l.shows x y=0:=by simpa using q
    rw[hs,ed,aR,if_pos q']at hR;exact hR
   .have q':l.shows x y=0:=by simpa using q
    refine#[_,_,rfl,?_];rw[hs,ed,aR,if_neg (λz=>z q')]
  .rintro z⟨o1,o2,rfl,hs⟩;k_places;rw[Gm,IK (Gg _),aR]at hs;rw[hs]at hR;exact hR
def EC:SpD:=λds R=>∃(p:Pat) (w h:Int),ds=[.lst (p.leaves.map Leaf.D),.int w,.int h]/\p.Ok/\0<=w/\w<=30/\0<=h/\h<=30/\R (.lst (aH p w 0 h.toNat))
abbrev pz(V:Bx):Prop:=V.D 4 "_law_floor_rows" ml EC
def EE(T:V.T "_law_floor_rows" ig ml)(uA:V.m "range")(Of:pw V):pz V:=by
 refine Tx.okDW T sc__law_floor_rows (λds R h=>?_) (λf cdv A outer s H E J hr=>⟨_,((ai (fP 3 sc__law_floor_rows.nd ae)
   (ai (cz 4 PassesOwn.never rfl sc__law_floor_rows.nd uA (aa 2) (ar (fQ 3 (ki (ko rfl (compScope (by change cR _ (ah ig) ["_law_leaves","_law_wide","_law_high","_law_lines_here","_law_y"] _=true;decide+kernel)) uA (aa 1) (λcl s0 H0 fp=>(af aw (aD Of hr (ac (aa 0) (ac (aa 5) (ac (aa 4) ae)))))))))))
   (eI 3 (ar (aE (aa 3))))))),λds R h=>?_⟩)
 .obtain⟨_,_,_,rfl,_⟩:=h;rfl
 .obtain⟨p,w,h,rfl,ok,w0,w7,h0,h7,hR⟩:=h;have dp:=ok.deep;refine#[Kv,?_];refine#[#[Kn,Kn],λk z=>∃o,z=[be (.lst (p.leaves.map Leaf.D)),be (.int w),be (.int h),be (.own (aH p w 0 k)),o],#[_,rfl],?_,?_]
  .rintro k v z hk⟨o,rfl⟩;k_places;obtain⟨w6,rfl⟩:=cw hk;refine#[#[Kn,Kn],by rw[cf];lia,λi ys=>ys=rowD p 0 k i,rfl,?_,?_]
   .rintro i v ys hi hl rfl;obtain⟨J1,rfl⟩:=cw hi;refine#[p.leaves,i,k,rfl,Pat.leaf_ok ok.wf Kn,?_];rw[Pat.show_leaves ok.wf Kn];obtain⟨b0,b6⟩:=Pat.show_le ok.wf Kn (i:Int) k;refine#[_,#[Ku,vc b0 b6],?_];show rowD p 0 k i++_=rowD p 0 k (i+1);rw[<-vf,HH]
   .rintro ys hl rfl;rw[cf];obtain⟨ys,e1,e2,e3⟩:=vg p 0 (k:Int) (n:=w.toNat) Kn;refine#[ys,e1,e2,?_];rw[e3];refine#[by unfold aH;simp;lia,be (.int k),?_];rw[<-oV,HH];rfl
  .rintro z⟨o,rfl⟩;k_places;rw[cf];exact hR
def EF:SpD:=λds R=>∃i w,ds=[.lst (cm i)]/\iW[i]?=be w/\R (.str w)
abbrev pA(V:Bx):Prop:=V.D 1 "_law_kind" mn EF
def EG(T:V.T "_law_kind" mm mn):pA V:=by
 refine Tx.okDW T Dp (λds R h=>?_) (λf cdv A outer s H E J hr=>⟨_,((ai (bw (cr (C8 (aa 0) bx) ad) (ar (aE aw)) bj)
   (ar (aE (af (aY (ac aw (ac aw (ac aw (ac aw (ac aw (ac aw (ac aw (ac aw ae))))))))) (AT (aa 0) bx)))))),λds R h=>?_⟩)
 .obtain⟨_,_,rfl,_⟩:=h;rfl
 .obtain⟨i,w,rfl,hw,hR⟩:=h;obtain⟨hi,hw⟩:=Eh hw;obtain⟨⟨e1,e2⟩,e3⟩:=Eg i hi;refine#[#[rfl,e2],?_];show ite ((!decide (((cm i).countP λw=>eqF w (.bl true):Nat)=(1:Int)))=true) _ _;refine ite2 (λc=>by rw[e1]at c;cases c) λ_=>?_;refine#[Ku,#[rfl,e2],by rw[e3];show i<8;lia,?_];show rdIx (.lst ((iW++[("":C_)]).map D.str)) (.int ((cm i).findIdx _:Nat)) R;rw[e3];exact#[.str w,ca (by rw[Gr,hw];rfl),hR]
def EH:SpM:=λds M R _=>∃a q f p d,ds=[.ptr a,d]/\a≠q/\M=Fl.M f a q/\bW p d/\R .non ((f.stand p d).M a q)
abbrev pB(V:Bx):Prop:=V.Q 1 "Floor" "stand" mv EH
def EI(T:V.Tm "Floor" "stand" "Floor.stand" mo mv)(uL:V.a "Floor" "pattern")(z8:V.a "Floor" "text")(K6:V.a "Pattern" "text"):pB V:=by
 refine CalMth.drop (Txm.okM T Dq (λds M R RX h=>?_) (λf cdv A outer s H E J hr hx=>⟨_,((aq (bM uL (ag (aa 0)) (ag (aa 1)))
   (av (bM z8 (ag (aa 0)) (aA K6 (ag (aa 1))))))),λds M R RX d9 h=>?_⟩))
 .obtain⟨_,_,⟨_,_,_,_,_,rfl,_⟩,_⟩:=h;rfl
 .obtain⟨R,RX,⟨a,q,f,p,d,rfl,ne,rfl,⟨wd,h_,sd,fs,rfl,e1,e2,fam⟩,hR⟩,rfl,rfl⟩:=h;refine#[_,Fl.ma ne,by show(6:Nat)<1000;decide,?_];rw[Fl.put ne];refine#[fs,#[rfl,rfl],_,e1,_,(ck (Ne.symm ne)).trans bp,by show(6:Nat)<1000;decide,_,?_,hR];rw[cD (Ne.symm ne),bX];exact Fl.sub (f:=f.stand p _) ne
def Fl.undone(f:Fl)(e:Deed)(es:List Deed):Fl:={f with p:=e.p,d:=e.d,l:=e.l,ds:=es}
def EJ:SpM:=λds M R RX=>∃a q f,ds=[.ptr a]/\a≠q/\M=Fl.M f a q/\(f.ds=[]->RX "NothingKept" [] (f.M a q))/\∀es e,f.ds=es++[e]->bW e.p e.d/\R (.str e.w) ((f.undone e es).M a q)
abbrev pC(V:Bx):Prop:=V.Q 2 "Floor" "undo" my EJ
def EK(T:V.Tm "Floor" "undo" "Floor.undo" mx my)(uB:V.m "len")(uS:V.a "Floor" "deeds")(uE:V.a "Floor" "laid")(Og:pB V)(Oh:V.n "NothingKept"):pC V:=by
 refine CalMth.drop (Txm.okM T sc_Floor_undo (λds M R RX h=>?_) (λf cdv A outer s H E J hr hx=>⟨_,((aq (bi (fU (kI uB (aA uS (ag (aa 0)))) (ag ad)) (av (sZ Oh hx rfl (ay (ac aw ae)))) bb)
   (aq (aM 1 sc_Floor_undo.nd (CY (aA uS (ag (aa 0)))))
   (aq (bE (aQ (CalMth.one Og) hx hr (ag (aa 0)) (ay (ac (af (aa 1) ad) ae))))
   (aq (bM uE (ag (aa 0)) (ag (af (aa 1) ad)))
   (av (aF (ag (af (aa 1) ad))))))))),λds M R RX d9 h=>?_⟩))
 .obtain⟨_,_,⟨_,_,_,rfl,_⟩,_⟩:=h;rfl
 .obtain⟨R,RX,⟨a,q,f,rfl,ne,rfl,hX,hR⟩,rfl,rfl⟩:=h;refine#[_,Fl.ma ne,_,iV,_,Fl.mq,ite2 (λc=>?_) (λc=>?_)]
  .have c':=of_decide_eq_true c;rw[Gm]at c';refine#[by show(1:Nat)<=1000;decide,?_];rw[d9];exact#[_,Fl.sub ne,hX (Ir Kn)]
  have c':f.ds≠[]:=λz=>c (decide_eq_true (by rw[z];rfl));obtain⟨es,e,he⟩:∃es e,f.ds=es++[e]:=#[_,_,(List.dropLast_concat_getLast c').symm];obtain⟨hi,hR⟩:=hR es e he;have q1:f.ds.map Deed.D=es.map Deed.D++[e.D]:=by rw[he,GM];rfl
  refine#[λd M'=>d=e.D/\M'=Fl.M {f with ds:=es} a q,#[_,Fl.ma ne,_,iV,_,e.D,Fl.mq,by rw[q1];simp,rfl,?_],?_]
  .rw[show f.M a q=[(q,.lst (f.ds.map Deed.D)),(a,.ins "Floor" (f.fs q))]from rfl,bX,q1,List.dropLast_concat];rfl
  rintro _ _⟨rfl,rfl⟩;k_places;refine#[_,Gf.mpr rfl,_,Fl.ma ne,rfl,_,rfl,a,q,_,e.p,e.d,rfl,ne,rfl,hi,?_];refine#[_,rfl,_,Fl.ma ne,by show(6:Nat)<1000;decide,_,rfl,_,?_,hR];rw[Fl.put ne];exact Fl.sub (f:=f.undone e es) ne
def EL:SpM:=λds M R _=>∃a q f w,ds=[.ptr a,.str w]/\a≠q/\M=Fl.M f a q/\f.ds.length<=20/\∀q',a≠q'->R .non ((f.keep w).M a q')
abbrev pD(V:Bx):Prop:=V.Q 1 "Floor" "keep" mB EL
def EM(T:V.Tm "Floor" "keep" "Floor.keep" mz mB)(Oi:V.gi "KEPT" 20)(uS:V.a "Floor" "deeds")(uE:V.a "Floor" "laid")(uL:V.a "Floor" "pattern"):pD V:=by
 refine CalMth.drop (Txm.okM T Dr (λds M R RX h=>?_) (λf cdv A outer s H E J hr hx=>#[_,((av (bM uS (ag (aa 0)) (vt (CV (aA uS (ag (aa 0))) (kE (az (sU (az (ag (aa 1)) (az (aA uL (ag (aa 0))) (az (aA uE (ag (aa 0))) aU)))) aU))) (vp (ag (cb (cS Oi)))) vo)))),λds M R RX d9 h=>?_]))
 .obtain⟨_,_,⟨_,_,_,_,rfl,_⟩,_⟩:=h;rfl
 .obtain⟨R,RX,⟨a,q,f,w,rfl,ne,rfl,hl,hR⟩,rfl,rfl⟩:=h;have nk:∀{p:KF},p∉aj (f.M a q)->p≠a/\p≠q:=λ{p} h=>#[λe=>h (e ▸ Gi _ Gk),λe=>h (e ▸ Gk)];refine#[_,Fl.ma ne,_,iV,_,Fl.ma ne,_,iT,_,Fl.ma ne,_,fA,by show(3:Nat)<=1000;decide,by show(1:Nat)<=1000;decide,λp1 h1=>?_];obtain⟨n1,m1⟩:=nk h1;refine#[_,_,(ck m1).trans Fl.mq,bp,by rw[Gm];show _+1<=_;lia,λp2 h2=>?_];have p6:p2≠p1/\p2∉aj (f.M a q):=#[λe=>h2 (e ▸ Gk),λz=>h2 (Gi _ z)];obtain⟨n2,m2⟩:=nk p6.2;refine#[_,bp,λp3 h3=>?_];have Rj:p3≠p2/\p3∉aj ((p1,.lst [])::f.M a q):=#[λe=>h3 (e ▸ Gk),λz=>h3 (Gi _ z)];obtain⟨n3,m3⟩:=nk λz=>Rj.2 (Gi _ z);refine#[_,(ck n3).trans ((ck n2).trans ((ck n1).trans (Fl.ma ne))),by show(6:Nat)<1000;decide,_,#[?_,?_],hR p3 (Ne.symm n3)]
  .rw[cD n3,cD n2,cD n1,show f.M a q=[(q,.lst (f.ds.map Deed.D)),(a,.ins "Floor" (f.fs q))]from rfl,cD (Ne.symm ne),bX];have e1:cutD (f.ds.map Deed.D++[D.tup [.str w,f.d,.int f.l]]) (be (-20)) q8=(f.keep w).ds.map Deed.D:=by
    rw[D4];show _=II Deed.D (HF _ _);rw[List.map_drop,GM,Gx,Gm];rfl
   have e2:putD ("deeds":C_) (.ptr p3) (f.fs q)=(f.keep w).fs p3:=rfl;rw[e1,e2];intro e he;rcases Gh.mp he with rfl|he
   .exact Gk
   .rw[Gf.mp he];simp
  .exact Fl.nd (Ne.symm n3)
abbrev jb(V:Bx):Prop:=V.X 1 "refuse_far" mD Cp
def EN(T:V.T "refuse_far" mC mD)(uV:V.m "max")(uP:V.m "abs")(Oj:V.gi "FAR" 1000000000000)(Ol:V.n "TooFar"):jb V:=by
 refine Tx.okXW T Ds (λds R RX h=>?_) (λf cdv A outer s H E J hr hx=>#[_,((ar (bw (rQ (fS rfl uV (ac (eg uP (ac (aa 0) ae)) (ac (eg uP (ac (aa 1) ae)) ae))) (cS Oj)) (ar (zp Ol hx rfl (ac aw ae))) bj))),λds R RX d9 h=>?_])
 .obtain⟨_,_,rfl,_⟩:=h;rfl
 .obtain⟨x,y,rfl,h1,h2⟩:=h;refine ite2 (λc=>?_) (λc=>?_)
  .have c':=of_decide_eq_true c;refine#[by show(1:Nat)<=1000;decide,?_];rw[d9];refine h2 λ⟨⟨a1,a2⟩,a3,a4⟩=>?_;split at c'<;>split at c'<;>split at c'<;>lia
  .have c':¬_:=λz=>c (decide_eq_true z);refine h1 ?_;unfold bn;split at c'<;>split at c'<;>split at c'<;>lia
abbrev fB(V:Bx):Prop:=V.D 1 "home" mG A7
def EO(T:V.T "home" mF mG):fB V:=by
 refine Tx.okDW T sc_home (λds R h=>?_) (λf cdv A outer s H E J hr=>⟨_,((ai (am 3 sc_home.nd (af (aa 0) ad))
   (ai (am 4 sc_home.nd (af (aa 0) ad))
   (ai (am 5 sc_home.nd (af (aa 0) ad))
   (ar (aE (aL (ac (aC (bq (aa 1) (ax (aX (aa 2) (aa 4)) (aa 5))) (aa 3)) (ac (aC (aa 2) (aa 4)) ae))))))))),λds R h=>?_⟩)
 .obtain⟨w,h,s,x,y,rfl,_⟩:=h;rfl
 .obtain⟨w,h,s,x,y,rfl,hw,hh,z6,hs,g7,hR⟩:=h;refine#[λd=>d=.int w,#[_,rfl,rfl],?_];rintro _ rfl;k_places;refine#[λd=>d=.int h,#[_,rfl,rfl],?_];rintro _ rfl;k_places;refine#[λd=>d=.int s,#[_,rfl,rfl],?_];rintro _ rfl;k_places;exact#[#[hh,z6],.inr #[Kn,Kn],hw,hh,Kv,hR]
variable{n j:Nat}
def ok_Motif_shows(hL:1<=n)(T:V.Tm "Motif" "shows" "Motif.shows" ii cx)(w9:fB V)(Kc:V.a "Motif" "hues")(uM:V.a "Motif" "shifts"):V.Q (n+1) "Motif" "shows" cx (ofX (bV (j+1) "Motif")):=by
 refine Txm.okM T Dt (λds M R RX h=>?_) (λf cdv A outer s H E J hr hx=>#[_,((av (aF (Ay (qW hr) (aA Kc (ag (aa 0))) (az (aK (hn:=Lg) (CalD.toM w9) hx hr (az (aA uM (ag (aa 0))) (az (ag (aa 1)) (az (ag (aa 2)) aU)))) (az (ag ad) aU)))))),λds M R RX d9 h=>?_])
 .obtain⟨_,_,_,_,rfl,_⟩:=h;rfl
 .obtain⟨p,v,X,Y,rfl,hv,t6,hd,hc,hR⟩:=h;cases p<;>simp only[Pat.cls]at hc<;>try exact absurd hc Kr
  rename_i L a b c d;obtain⟨k,w,h,s,rfl,F⟩:=hv;obtain⟨hL,ha,hb,y7,h_,hn⟩:=t6;unfold B12 at ha hb y7 h_;obtain⟨b1,b2,b3⟩:=F.bd (N:=288) (by
   have m1:=bN (a:=a) (d:=d) (A:=12) (B:=12) Kn Kn;have m2:=bN (a:=b) (d:=c) (A:=12) (B:=12) Kn Kn;lia)
  rw[Pat.show,<-motif_shows hL F hn X Y]at hR;exact#[_,#[rfl,rfl],_,Ci,_,#[rfl,rfl],_,mo_shifts,w,h,s,X,Y,rfl,F.1,F.2.1,Kn,F.2.2.1,Kn,hR]
def EQ(hL:1<=n)(T:V.Tm "Over" "shows" "Over.shows" ij ik)(uU:V.a "Over" "above")(uT:V.a "Over" "below")(uH:∀x,x∈(["Motif","Over","Shifted","Mirror","Turn","Rehue"]:List C_)->V.Q n x "shows" cx (ofX (bV j x))):V.Q (n+1) "Over" "shows" ik (ofX (bV (j+1) "Over")):=by
 refine Txm.okM T sc_Over_shows (λds M R RX h=>?_) (λf cdv A outer s H E J hr hx=>⟨_,((aq (aM 3 sc_Over_shows.nd (aQ (hn:=Lg) uH hx hr (aA uU (ag (aa 0))) (ay (ac (aa 1) (ac (aa 2) ae)))))
   (av (aF (fW (bC (bz (aa 3) ad)) (aQ (hn:=Lg) uH hx hr (aA uT (ag (aa 0))) (ay (ac (aa 1) (ac (aa 2) ae)))) (ag (aa 3))))))),λds M R RX d9 h=>?_⟩)
 .obtain⟨_,_,_,_,rfl,_⟩:=h;rfl
 .obtain⟨p,v,X,Y,rfl,hv,t6,hd,hc,hR⟩:=h;cases p<;>simp only[Pat.cls]at hc<;>try exact absurd hc Kr
  rename_i p q;obtain⟨u,u',rfl,hu,LQ⟩:=hv;obtain⟨fs,rfl,o1⟩:=hu.objm;obtain⟨gs,rfl,o2⟩:=LQ.objm;rw[Pat.depth]at hd;refine#[λd M'=>d=.int (p.show X Y)/\M'=M,#[_,#[rfl,rfl],_,rfl,p.cls,p.cls_mem,fs,#[rfl,rfl],o1.shw,p,_,X,Y,rfl,hu,t6.1,Kn,rfl,rfl,rfl],?_];rintro _ _⟨rfl,rfl⟩;k_places;rw[Pat.show]at hR;show if decide (p.show X Y=0)=true then _ else _
  refine ite2 (λe=>?_) (λe=>?_)
  .have e':=of_decide_eq_true e;rw[if_neg (λz=>z e')]at hR;exact#[_,#[rfl,rfl],_,fu Kr,q.cls,q.cls_mem,gs,#[rfl,rfl],o2.shw,q,_,X,Y,rfl,LQ,t6.2,Kn,rfl,hR]
  .have e':p.show X Y≠0:=λz=>e (decide_eq_true z);rw[if_pos e']at hR;exact hR
def ER(hL:1<=n)(T:V.Tm "Shifted" "shows" "Shifted.shows" il im)(p_:V.a "Shifted" "form")(Kd:V.a "Shifted" "y")(Ke:V.a "Shifted" "x")(uH:∀x,x∈(["Motif","Over","Shifted","Mirror","Turn","Rehue"]:List C_)->V.Q n x "shows" cx (ofX (bV j x))):V.Q (n+1) "Shifted" "shows" im (ofX (bV (j+1) "Shifted")):=by
 refine Txm.okM T Du (λds M R RX h=>?_) (λf cdv A outer s H E J hr hx=>#[_,((av (aF (aQ (hn:=Lg) uH hx hr (aA p_ (ag (aa 0))) (az (cU (ag (aa 1)) (aA Ke (ag (aa 0)))) (az (cU (ag (aa 2)) (aA Kd (ag (aa 0)))) aU)))))),λds M R RX d9 h=>?_])
 .obtain⟨_,_,_,_,rfl,_⟩:=h;rfl
 .obtain⟨p,v,X,Y,rfl,hv,t6,hd,hc,hR⟩:=h;cases p<;>simp only[Pat.cls]at hc<;>try exact absurd hc Kr
  rename_i a b p;obtain⟨u,rfl,hu⟩:=hv;obtain⟨fs,rfl,o1⟩:=hu.objm;rw[Pat.depth]at hd;exact#[_,#[rfl,rfl],_,rfl,p.cls,p.cls_mem,fs,#[rfl,rfl],o1.shw,_,#[rfl,rfl],_,fu Kr,_,#[rfl,rfl],_,lf Kr Kr,p,_,X-a,Y-b,rfl,hu,t6.2.2,Kn,rfl,hR]
def ES(hL:1<=n)(T:V.Tm "Mirror" "shows" "Mirror.shows" io ip)(uY:V.a "Mirror" "form")(uH:∀x,x∈(["Motif","Over","Shifted","Mirror","Turn","Rehue"]:List C_)->V.Q n x "shows" cx (ofX (bV j x))):V.Q (n+1) "Mirror" "shows" ip (ofX (bV (j+1) "Mirror")):=by
 refine Txm.okM T Dv (λds M R RX h=>?_) (λf cdv A outer s H E J hr hx=>#[_,((av (aF (aQ (hn:=Lg) uH hx hr (aA uY (ag (aa 0))) (ay (ac (cb (aa 1)) (ac (aa 2) ae))))))),λds M R RX d9 h=>?_])
 .obtain⟨_,_,_,_,rfl,_⟩:=h;rfl
 .obtain⟨p,v,X,Y,rfl,hv,t6,hd,hc,hR⟩:=h;cases p<;>simp only[Pat.cls]at hc<;>try exact absurd hc Kr
  rename_i p;obtain⟨u,rfl,hu⟩:=hv;obtain⟨fs,rfl,o1⟩:=hu.objm;rw[Pat.depth]at hd;exact#[_,#[rfl,rfl],_,rfl,p.cls,p.cls_mem,fs,#[rfl,rfl],o1.shw,p,_,-X,Y,rfl,hu,t6,Kn,rfl,hR]
def ET(hL:1<=n)(T:V.Tm "Turn" "shows" "Turn.shows" iq ir)(uZ:V.a "Turn" "form")(uH:∀x,x∈(["Motif","Over","Shifted","Mirror","Turn","Rehue"]:List C_)->V.Q n x "shows" cx (ofX (bV j x))):V.Q (n+1) "Turn" "shows" ir (ofX (bV (j+1) "Turn")):=by
 refine Txm.okM T Dw (λds M R RX h=>?_) (λf cdv A outer s H E J hr hx=>#[_,((av (aF (aQ (hn:=Lg) uH hx hr (aA uZ (ag (aa 0))) (ay (ac (aa 2) (ac (cb (aa 1)) ae))))))),λds M R RX d9 h=>?_])
 .obtain⟨_,_,_,_,rfl,_⟩:=h;rfl
 .obtain⟨p,v,X,Y,rfl,hv,t6,hd,hc,hR⟩:=h;cases p<;>simp only[Pat.cls]at hc<;>try exact absurd hc Kr
  rename_i p;obtain⟨u,rfl,hu⟩:=hv;obtain⟨fs,rfl,o1⟩:=hu.objm;rw[Pat.depth]at hd;exact#[_,#[rfl,rfl],_,rfl,p.cls,p.cls_mem,fs,#[rfl,rfl],o1.shw,p,_,Y,-X,rfl,hu,t6,Kn,rfl,hR]
def EU(hL:1<=n)(T:V.Tm "Rehue" "shows" "Rehue.shows" iu iw)(uX:V.a "Rehue" "form")(Kf:V.a "Rehue" "old")(Kg:V.a "Rehue" "new")(uH:∀x,x∈(["Motif","Over","Shifted","Mirror","Turn","Rehue"]:List C_)->V.Q n x "shows" cx (ofX (bV j x))):V.Q (n+1) "Rehue" "shows" iw (ofX (bV (j+1) "Rehue")):=by
 refine Txm.okM T sc_Rehue_shows (λds M R RX h=>?_) (λf cdv A outer s H E J hr hx=>⟨_,((aq (aM 3 sc_Rehue_shows.nd (aQ (hn:=Lg) uH hx hr (aA uX (ag (aa 0))) (ay (ac (aa 1) (ac (aa 2) ae)))))
   (av (aF (fW (fU (ag (aa 3)) (aA Kf (ag (aa 0)))) (aA Kg (ag (aa 0))) (ag (aa 3))))))),λds M R RX d9 h=>?_⟩)
 .obtain⟨_,_,_,_,rfl,_⟩:=h;rfl
 .obtain⟨p,v,X,Y,rfl,hv,t6,hd,hc,hR⟩:=h;cases p<;>simp only[Pat.cls]at hc<;>try exact absurd hc Kr
  rename_i f g p;obtain⟨u,rfl,hu⟩:=hv;obtain⟨fs,rfl,o1⟩:=hu.objm;rw[Pat.depth]at hd;refine#[λd M'=>d=.int (p.show X Y)/\M'=M,#[_,#[rfl,rfl],_,rfl,p.cls,p.cls_mem,fs,#[rfl,rfl],o1.shw,p,_,X,Y,rfl,hu,t6.2.2,Kn,rfl,rfl,rfl],?_];rintro _ _⟨rfl,rfl⟩;k_places;rw[Pat.show]at hR;unfold bG at hR;refine#[_,#[rfl,rfl],_,fu Kr,ite2 (λe=>?_) (λe=>?_)]
  .rw[if_pos (of_decide_eq_true e)]at hR;exact#[_,#[rfl,rfl],_,lf Kr Kr,hR]
  .rw[if_neg (λz=>e (decide_eq_true z))]at hR;exact hR
def EV(PR:V.Tm "Motif" "shows" "Motif.shows" ii cx)(PU:V.Tm "Over" "shows" "Over.shows" ij ik)(PV:V.Tm "Shifted" "shows" "Shifted.shows" il im)(PX:V.Tm "Mirror" "shows" "Mirror.shows" io ip)(PY:V.Tm "Turn" "shows" "Turn.shows" iq ir)(PZ:V.Tm "Rehue" "shows" "Rehue.shows" iu iw)(w9:fB V)(Kc:V.a "Motif" "hues")(uM:V.a "Motif" "shifts")(uU:V.a "Over" "above")(uT:V.a "Over" "below")(p_:V.a "Shifted" "form")(Kd:V.a "Shifted" "y")(Ke:V.a "Shifted" "x")(uY:V.a "Mirror" "form")(uZ:V.a "Turn" "form")(uX:V.a "Rehue" "form")(Kf:V.a "Rehue" "old")(Kg:V.a "Rehue" "new"):∀j x,x∈(["Motif","Over","Shifted","Mirror","Turn","Rehue"]:List C_)->V.Q (1+j) x "shows" cx (ofX (bV j x)):=by
 intro j;induction j with
 |zero=>
  intro x hx;simp only[Gh,Hz,or_false]at hx;rcases hx with rfl|rfl|rfl|rfl|rfl|rfl
  .exact CalMth.never PR (λds M R RX=>fz)
  .exact CalMth.never PU (λds M R RX=>fz)
  .exact CalMth.never PV (λds M R RX=>fz)
  .exact CalMth.never PX (λds M R RX=>fz)
  .exact CalMth.never PY (λds M R RX=>fz)
  .exact CalMth.never PZ (λds M R RX=>fz)
 |succ j LR=>
  intro x hx;simp only[Gh,Hz,or_false]at hx;rcases hx with rfl|rfl|rfl|rfl|rfl|rfl
  .exact ok_Motif_shows (n:=1+j) (j:=j) Lg PR w9 Kc uM
  .exact EQ (n:=1+j) (j:=j) Lg PU uU uT LR
  .exact ER (n:=1+j) (j:=j) Lg PV p_ Kd Ke LR
  .exact ES (n:=1+j) (j:=j) Lg PX uY LR
  .exact ET (n:=1+j) (j:=j) Lg PY uZ LR
  .exact EU (n:=1+j) (j:=j) Lg PZ uX Kf Kg LR
abbrev vE(V:Bx):Prop:=∀x,x∈(["Motif","Over","Shifted","Mirror","Turn","Rehue"]:List C_)->V.Q 7 x "shows" cx (ofX (bV 6 x))
abbrev pE(V:Bx):Prop:=V.X 8 "cell_at" mI Cq
def EW(T:V.T "cell_at" mH mI)(KH:jb V)(K7:V.a "Pattern" "form")(uH:vE V):pE V:=by
 refine CalMM.nilX (Tx.okM T Dx (λds M R RX h=>?_) (λf cdv A outer s H E J hr hx=>⟨_,((aq (bE (aK (CalX.toM KH) hx hr (ay (ac (aa 1) (ac (aa 2) ae)))))
   (av (aF (aQ uH hx hr (aA K7 (ag (aa 0))) (ay (ac (aa 1) (ac (aa 2) ae)))))))),λds M R RX d9 h=>?_⟩))
 .obtain⟨_,R0,JS,⟨_,_,_,_,rfl,_⟩,_⟩:=h;rfl
 .obtain⟨rfl,R0,JS,⟨p,d,x,y,rfl,⟨w,h,s,fs,rfl,e1,e2,hp⟩,ok,h1,h2⟩,hR,hX⟩:=h;obtain⟨v,e3,hv⟩:=hp.form;obtain⟨gs,rfl,o1⟩:=hv.objm;have Rk:=ok.deep;refine#[x,y,rfl,λhn=>?_,λhn=>?_]
  .exact#[_,#[rfl,rfl],_,e3,p.cls,p.cls_mem,gs,#[rfl,rfl],o1.shw,p,_,x,y,rfl,hv,ok.wf,Kn,rfl,hR _ _ (h1 hn)]
  .rw[d9];exact hX _ _ _ (h2 hn)
abbrev jc(V:Bx):Prop:=V.D 9 "row_from" mJ Cr
def EY(T:V.T "row_from" iy mJ)(uA:V.m "range")(Om:pE V)(uR:V.gs "SIGNS" ".123456"):jc V:=by
 refine Tx.okDW T Dy (λds R h=>?_) (λf cdv A outer s H E J hr=>#[_,((ar (aE (ki (ko rfl (compScope (by change cR _ (ah iy) ["pattern","x","y","many"] _=true;decide+kernel)) uA (aa 3) (λcl s0 H0 fp=>(af (eQ uR) (aD (CalX.no Om) hr (ac (aa 0) (ac (ao (aa 1) (aa 4)) (ac (aa 2) ae))))))))))),λds R h=>?_])
 .obtain⟨_,_,_,_,_,rfl,_⟩:=h;rfl
 .obtain⟨p,d,x,y,n,rfl,hd,ok,hn,Ka,l9,hy,hR⟩:=h;obtain⟨w,h,s,fs,rfl,_⟩:=id hd;refine#[#[Kn,Kn],by rw[cf];lia,λk ys=>ys=rowD p x y k,rfl,?_,?_]
  .rintro k v ys hk hl rfl;obtain⟨w6,rfl⟩:=cw hk;obtain⟨b0,b6⟩:=Pat.show_le ok.wf (by have:=ok.deep;lia) (x+(k:Int)) y;unfold bn at Ka l9;exact#[p,.obj "Pattern" fs,x+(k:Int),y,rfl,hd,ok,λ_=>#[_,#[Ku,vc b0 b6],vf p x y k],λz=>z #[#[Kn,Kn],hy]]
  .rintro ys hl rfl;rw[cf,HL];obtain⟨ys,e1,e2,e3⟩:=vg p x y hn;refine#[ys,e1,e2,?_];rw[e3];exact hR
def vF:SpN:=λds R _=>∃f q,ds=[.obj "Floor" (Fl.fs f q)]/\f.Ok/\R (aH f.p f.w 0 f.l.toNat)
def EZ(p:Pat)(w lo:Int)(n:Nat):flats (aH p w lo n)=true:=by have:=D5 p w lo n;unfold ce at this;exact this
variable{f:Fl}
def pF{a q:KF}{M:MS}(m:mget M a=be (.ins "Floor" (f.fs q)))(ok:f.Ok){R:D->MS->Prop}{RX:XDM}(h:∀p,p∉aj M->R (.ptr p) ((p,.lst (aH f.p f.w 0 f.l.toNat))::M)):lendN vF [.ptr a] M R RX:=by
 refine#[a,_,_,m,f,q,?_,ok,EZ _ _ _ _,h];show[cu a _ (.ptr a)]=_;rw[gk]
abbrev gv(V:Bx):Prop:=V.QN 10 "Floor" "rows" mK vF
def E1(T:V.Tm "Floor" "rows" "Floor.rows" iz mK)(uA:V.m "range")(K8:jc V)(uE:V.a "Floor" "laid")(uO:V.a "Floor" "width")(uL:V.a "Floor" "pattern"):gv V:=by
 refine Txm.okN T Dz (λds R RX h=>?_) (λf cdv A outer s H E J hr hx=>#[_,((vB (Dj rfl (compScope (by change cR _ (ah iz) ["self"] _=true;decide+kernel)) uA (eO uE (aa 0)) (λcl s0 H0 fp=>(aD K8 hr (ac (eO uL (aa 0)) (ac ad (ac (aa 1) (ac (eO uO (aa 0)) ae))))))))),λds R RX d9 h=>?_])
 .obtain⟨_,_,rfl,_⟩:=h;rfl
 .obtain⟨f,q,rfl,ok,hR⟩:=h;have l0:=ok.l0;have l1:=ok.l1;have h2:=ok.h2;have w1:=ok.w1;have w2:=ok.w2;refine#[rfl,_,fA,#[Kn,Kn],by rw[cf];lia,λk ys=>ys=aH f.p f.w 0 k,rfl,?_,?_]
  .rintro k v ys hk hl rfl;obtain⟨w6,rfl⟩:=cw hk;refine#[rfl,_,iT,rfl,_,gu,f.p,f.d,0,k,f.w.toNat,by rw[GZ Kn],ok.is,ok.ok,Kn,#[Kn,Kn],#[Kn,Kn],#[Kn,Kn],?_];show aH f.p f.w 0 k++_=aH f.p f.w 0 (k+1);rw[<-oV,HH]
  .rintro ys hl rfl;rw[cf];exact hR
def S_Floor_lay:SpM:=λds M R RX=>∃a q f n,ds=[.ptr a,.int n]/\a≠q/\M=Fl.M f a q/\f.Ok/\1<=n/\n<=1000/\(f.h-f.l<n->RX "NoRow" [] (f.M a q))/\(n<=f.h-f.l->∀q' p,a≠q'->p≠a/\p≠q'->R (.ptr p) ((p,.lst (aH f.p f.w f.l n.toNat))::(f.lay n).M a q'))
def Fl.ok_new{p:Pat}{d:D}{w h:Int}(is:bW p d)(ok:p.Ok)(w1:1<=w)(w2:w<=30)(h1:1<=h)(h2:h<=30):(Fl.mk p d w h 0 []).Ok:=#[is,ok,w1,w2,h1,h2,Int.le_refl 0,GX (show(0:Int)<=1 by decide) h1,GI _,λ_ h=>nomatch h]
def Fl.Ok.keep(ok:f.Ok)(w:C_):(f.keep w).Ok:=by
 refine#[ok.is,ok.ok,ok.w1,ok.w2,ok.h1,ok.h2,ok.l0,ok.l1,?_,λe he=>?_]
 .show(HF _ _).length<=20;rw[Hm,Gx,Ij];have:=ok.de;lia
 .rcases GD.mp (IJ he)with z|z
  .exact ok.dd e z
  .rw[Gf.mp z];exact#[ok.is,ok.ok,ok.l0,ok.l1]
def Fl.Ok.lay{n:Int}(ok:f.Ok)(n0:0<=n)(hn:n<=f.h-f.l):(f.lay n).Ok:=by
 have l0:=ok.l0;have k:=ok.keep "lay";exact#[ok.is,ok.ok,ok.w1,ok.w2,ok.h1,ok.h2,by show 0<=f.l+n;lia,by show f.l+n<=f.h;lia,k.de,k.dd]
abbrev jd(V:Bx):Prop:=V.Q 11 "Floor" "lay" iA S_Floor_lay/\V.Qd 11 "Floor" "lay" iA [.int 1] S_Floor_lay
def E2(T:V.Td "Floor" "lay" "Floor.lay" mL iA [.int 1])(uV:V.m "max")(uW:V.a "Floor" "height")(uE:V.a "Floor" "laid")(On:pD V)(J2:gv V)(Oo:V.n "NoRow"):jd V:=by
 refine Txd.okMd T sc_Floor_lay (λds M R RX h=>?_) (λf cdv A outer s H E J hr hx=>⟨_,((aq (bi (zK (ag (aa 1)) (cU (aA uW (ag (aa 0))) (aA uE (ag (aa 0))))) (av (sZ Oo hx rfl (ay (ac aw ae)))) bb)
   (aq (bE (aQ (CalMth.one On) hx hr (ag (aa 0)) (ay (ac aw ae))))
   (aq (aM 2 sc_Floor_lay.nd (aA uE (ag (aa 0))))
   (aq (bM uE (ag (aa 0)) (ag (ao (aa 2) (fS rfl uV (ac (aa 1) (ac ad ae))))))
   (av (aF (vt (bD (CalMth.one (CalMth.lendN J2)) hx hr (ag (aa 0))) (vp (ag (aa 2))) vo)))))))),λds M R RX d9 h=>?_⟩)
 .obtain⟨_,_,⟨_,_,_,_,rfl,_⟩,_⟩:=h;rfl
 .obtain⟨R,RX,⟨a,q,f,n,rfl,ne,rfl,ok,n1,n2,hX,hR⟩,rfl,rfl⟩:=h;have l0:=ok.l0;have l1:=ok.l1;refine#[_,Fl.ma ne,_,iU,_,Fl.ma ne,_,fA,ite2 (λc=>?_) (λc=>?_)]
  .have c':=of_decide_eq_true c;refine#[by show(1:Nat)<=1000;decide,?_];rw[d9];exact#[_,Fl.sub ne,hX c']
  have hc:n<=f.h-f.l:=by have:¬(f.h-f.l<n):=λz=>c (decide_eq_true z);lia
  refine#[_,Gf.mpr rfl,_,Fl.ma ne,rfl,a,q,f,"lay",rfl,ne,rfl,ok.de,λq' Kh=>?_];refine#[λd M'=>d=.int f.l/\M'=(f.keep "lay").M a q',#[_,Fl.ma Kh,_,fA,rfl,rfl],?_];rintro _ _⟨rfl,rfl⟩;k_places;have eM:mput ((f.keep "lay").M a q') a (.ins "Floor" (putD "laid" (.int (f.l+if 0>n then 0 else n)) ((f.keep "lay").fs q')))=(f.lay n).M a q':=by
   rw[Fl.put Kh,if_neg Kn];rfl
  refine#[_,Fl.ma Kh,by show(6:Nat)<1000;decide,?_];rw[eM];have el:(f.lay n).l.toNat=f.l.toNat+n.toNat:=by show(f.l+n).toNat=_;lia
  refine#[_,Gf.mpr rfl,_,Fl.ma Kh,rfl,?_];dsimp only[mNil];refine pF (Fl.ma Kh) (ok.lay Kn hc) λp1 h1=>?_;rw[el];refine#[_,bp,λp h2=>?_];have e:=D6 f.p f.w n.toNat l0;show ∃N,subM N ((p,.lst (cutD (aH f.p f.w 0 _) (be f.l) q8))::_)/\R (.ptr p) N;rw[e];have h3:p≠a/\p≠q':=#[λz=>h2 (by rw[z];simp[aj,Fl.M]),λz=>h2 (by rw[z];simp[aj,Fl.M])];refine#[_,#[λe he=>?_,?_],hR hc q' p Kh h3]
  .rcases Gh.mp he with rfl|he
   .exact Gk
   .exact Gi _ (Gi _ he)
  .show[p,q',a].Nodup;simp[h3.1,h3.2,Ne.symm Kh]
def E3:SpM:=λds M R _=>∃a q f n w,ds=[.ptr a,.int n]/\a≠q/\M=Fl.M f a q/\f.Ok/\((n=0/\f.ds=[]/\w="nothing")\/(1<=n/\n<=1000/\f.h-f.l<n/\w="row"))/\R (.str w) (f.M a q)
abbrev vG(V:Bx):Prop:=V.Ek ["MotifError","TooFar","NoRow","NothingKept"]
abbrev pG(V:Bx):Prop:=V.MM 12 "_law_refusal" mN E3
def E4(T:V.T "_law_refusal" mM mN)(uD:V.m "isinstance")(Op:V.m "ValueError")(Oq:pA V)(Ot:V.j "TooFar" [("NoRow",false),("NothingKept",false)])(Ou:V.j "TooGreat" [("NoRow",false),("NothingKept",false)])(Ov:V.j "OneLine" [("NoRow",false),("NothingKept",false)])(Ow:V.j "WrongSign" [("NoRow",false),("NothingKept",false)])(Ox:V.j "NothingKept" [("NoRow",false),("NothingKept",true)])(Oy:V.j "Parted" [("NoRow",false),("NothingKept",false)])(Oz:V.j "NoRow" [("NoRow",true),("NothingKept",false)])(jv:V.jv [("NoRow",true),("NothingKept",true)])(OA:pC V)(K9:jd V)(ek:vG V):pG V:=by
  refine Tx.okM T sc__law_refusal (λds M R RX h=>?_) (λf cdv A outer s H E J hr hx=>⟨_,((aq (aM 2 sc__law_refusal.nd (ag (aY ae)))
      (aq (AD (λpn xe J hp hx=>(av (kH (bC (bz (aa 1) ad)) (av (bE (bD (CalMth.one OA) hx hr (ag (aa 0))))) (av (bE (aQ (CalMth.one K9.1) hx hr (ag (aa 0)) (ay (ac (aa 1) ae)))))))) (λ_=>(zv 3 ek sc__law_refusal.nd (λe=>(ai (am 2 sc__law_refusal.nd (aY (ac (dR Ow uD (aa 3)) (ac (dR Ov uD (aa 3)) (ac (dR Ou uD (aa 3)) (ac (dR Ot uD (aa 3)) ae))))))
         (ai (am 2 sc__law_refusal.nd (ao (aa 2) (aY (ac (dR Oz uD (aa 3)) (ac (dR Oy uD (aa 3)) (ac (dR Ox uD (aa 3)) ae))))))
         (ar (am 2 sc__law_refusal.nd (ao (aa 2) (aY (ac (rT (Dc jv uD Op (aa 3))) ae)))))))) zu)))
      (av (aF (ag (aD Oq hr (ac (aa 2) ae)))))))),λds M R RX d9 h=>?_⟩)
  . obtain⟨_,_,_,_,_,rfl,_⟩:=h;rfl
  . obtain⟨a,q,f,n,w,rfl,ne,rfl,ok,hw,hR⟩:=h;refine#[λd M'=>d=.lst []/\M'=f.M a q,#[Ku,rfl,rfl],?_];rintro _ _⟨rfl,rfl⟩;k_places;refine#[λz M' x fs=>z=[be (.ptr a),be (.int n),be (.lst []),q8]/\M'=f.M a q/\((x="NoRow"/\w="row")\/(x="NothingKept"/\w="nothing")),λJ hJ=>#[λ_ _=>False,ite2 (λc=>?_) (λc=>?_),λ_ _ z=>z.elim],?_]
    . have c':n=0:=of_decide_eq_true c;rcases hw with⟨_,hd,ew⟩|⟨z,_⟩
      . exact#[_,Gf.mpr rfl,_,Fl.ma ne,rfl,a,q,f,rfl,ne,rfl,λ_=>by rw[hJ];exact#[rfl,rfl,.inr #[rfl,ew]],λes e he=>by rw[hd]at he;simp at he]
      . lia
    . have c':n≠0:=λz=>c (decide_eq_true z);rcases hw with⟨z,_⟩|⟨n1,n2,n3,ew⟩
      . exact(c' z).elim
      . exact#[_,Gf.mpr rfl,_,Fl.ma ne,rfl,a,q,f,n,rfl,ne,rfl,ok,n1,n2,λ_=>by rw[hJ];exact#[rfl,rfl,.inl #[rfl,ew]],λz=>Kn]
    . rintro z M' x fs⟨rfl,rfl,⟨rfl,rfl⟩|⟨rfl,rfl⟩⟩;k_places
      . refine#[#[Kv,Kv],?_];rw[if_pos Kr];refine#[λd=>d=.lst ((cm 4).take 4),#[_,_,_,rfl,.head _,_,_,_,rfl,.head _,_,_,_,rfl,.head _,_,_,_,rfl,.head _,by show(4:Nat)<=1000;decide,rfl],?_];rintro _ rfl;k_places;refine#[λd=>d=.lst ((cm 4).take 7),#[_,_,_,rfl,.head _,_,_,_,rfl,.head _,_,_,_,rfl,.head _,by show(3:Nat)<=1000;decide,Ku,rfl],?_];rintro _ rfl;k_places;refine#[λd=>d=.lst (cm 4),#[_,_,_,rfl,.head _,by show(1:Nat)<=1000;decide,Ku,rfl],?_];rintro _ rfl;k_places;exact#[#[4,_,rfl,rfl,hR],NoOwn.of rfl]
      . refine#[#[Kv,Kv],?_];rw[if_pos Kr];refine#[λd=>d=.lst ((cm 6).take 4),#[_,_,_,rfl,.tail _ (.head _),_,_,_,rfl,.tail _ (.head _),_,_,_,rfl,.tail _ (.head _),_,_,_,rfl,.tail _ (.head _),by show(4:Nat)<=1000;decide,rfl],?_];rintro _ rfl;k_places;refine#[λd=>d=.lst ((cm 6).take 7),#[_,_,_,rfl,.tail _ (.head _),_,_,_,rfl,.tail _ (.head _),_,_,_,rfl,.tail _ (.head _),by show(3:Nat)<=1000;decide,Ku,rfl],?_];rintro _ rfl;k_places;refine#[λd=>d=.lst (cm 6),#[_,_,_,rfl,.tail _ (.head _),by show(1:Nat)<=1000;decide,Ku,rfl],?_];rintro _ rfl;k_places;exact#[#[6,_,rfl,rfl,hR],NoOwn.of rfl]
abbrev gw(V:Bx):Prop:=V.D 1 "_law_whole" mR A3
def E5(T:V.T "_law_whole" mQ mR)(uD:V.m "isinstance")(OB:V.m "bool")(uF:V.m "int"):gw V:=by
 refine Tx.okDW T DB (λds R h=>?_) (λf cdv A outer s H E J hr=>#[_,((ar (aE (fM (fN uD uF (aa 0) PyProof.Rows.boot_int yx) (fL (rT (fN uD OB (aa 0) PyProof.Rows.boot_bool kit_bool))))))),λds R h=>?_])
 .obtain⟨i,rfl,_⟩:=h;rfl
 .obtain⟨i,rfl,hR⟩:=h;exact hR
def E6:SpD:=λds R=>∃(p:Pat) (w lo:Int) (n:Nat),ds=[.lst (aH p w lo n),.lst (aH p w lo n)]/\n<=1000/\R (.bl true)
abbrev je(V:Bx):Prop:=V.D 1 "_law_texts" mV E6
def E7(T:V.T "_law_texts" mU mV)(uB:V.m "len")(uD:V.m "isinstance")(JX:V.m "list")(uA:V.m "range")(uK:V.m "str"):je V:=by
 refine Tx.okDW T sc__law_texts (λds R h=>?_) (λf cdv A outer s H E J hr=>⟨_,((ai (bw (eA (fK (eB (cG (fN uD JX (aa 0) PyProof.Rows.boot_list kit_list))) (fJ (cr (cq uB (ac (aa 0) ae)) (cq uB (ac (aa 1) ae)))))) (ar (aE bx)) bj)
   (ai (cz 2 PassesOwn.never rfl sc__law_texts.nd uA (cq uB (ac (aa 1) ae)) (ar (bw (eA (fK (eB (cG (fN uD uK (af (aa 0) (aa 2)) PyProof.Rows.boot_str kit_str))) (fJ (cr (af (aa 0) (aa 2)) (af (aa 1) (aa 2)))))) (ar (aE bx)) bj)))
   (ar (aE bx))))),λds R h=>?_⟩)
 .obtain⟨_,_,_,_,rfl,_⟩:=h;rfl
 .obtain⟨p,w,lo,n,rfl,n7,hR⟩:=h;have lp:(aH p w lo n).length=n:=by unfold aH;simp
  refine ite2 (λc=>absurd c Kv) λ_=>?_;refine#[#[Kn,by rw[lp];lia],λk z=>∃o,z=[be (.lst (aH p w lo n)),be (.lst (aH p w lo n)),o],#[_,rfl],?_,?_]
  .rintro k v z hk⟨o,rfl⟩;k_places;obtain⟨w6,rfl⟩:=cw hk;rw[lp]at w6;have ak:=Ef (p:=p) (w:=w) (lo:=lo) (show k<n by lia);exact#[_,ak,_,ak,_,ak,ite2 (λc=>absurd c Kv) λ_=>#[_,rfl]]
  .rintro z⟨o,rfl⟩;k_places;exact hR
def E8:SpD:=λds R=>∃xs:List Int,ds=[.lst (xs.map D.int),.lst (xs.map D.int)]/\xs.length=7/\R (.bl true)
abbrev pH(V:Bx):Prop:=V.D 2 "_law_seven" mY E8
def E9(T:V.T "_law_seven" mW mY)(uB:V.m "len")(uD:V.m "isinstance")(JX:V.m "list")(uA:V.m "range")(w_:gw V):pH V:=by
 refine Tx.okDW T sc__law_seven (λds R h=>?_) (λf cdv A outer s H E J hr=>⟨_,((ai (bw (eA (fK (eB (cG (fN uD JX (aa 0) PyProof.Rows.boot_list kit_list))) (fJ (cr (cq uB (ac (aa 0) ae)) ad)))) (ar (aE bx)) bj)
   (ai (cz 2 PassesOwn.never rfl sc__law_seven.nd uA ad (ar (bw (eA (fK (eB (cG (aD w_ hr (ac (af (aa 0) (aa 2)) ae)))) (fJ (cr (af (aa 0) (aa 2)) (af (aa 1) (aa 2)))))) (ar (aE bx)) bj)))
   (ar (aE bx))))),λds R h=>?_⟩)
 .obtain⟨_,rfl,_⟩:=h;rfl
 .obtain⟨xs,rfl,x7,hR⟩:=h;refine ite2 (λc=>absurd c (by simp[x7])) λ_=>?_;refine#[#[Ku,Ku],λk z=>∃o,z=[be (.lst (xs.map D.int)),be (.lst (xs.map D.int)),o],#[_,rfl],?_,?_]
  .rintro k v z hk⟨o,rfl⟩;k_places;obtain⟨w6,rfl⟩:=cw hk;have k7:k<7:=w6;have ak:atI (xs.map D.int) (k:Int)=be (.int (xs[k]' Lg)):=ca (by rw[Gr,GH Lg];rfl);exact#[_,ak,_,rfl,_,ak,_,ak,ite2 (λc=>absurd c Kv) λ_=>#[_,rfl]]
  .rintro z⟨o,rfl⟩;k_places;exact hR
def Fb:SpD:=λds R=>∃(p:Pat) (w lo:Int) (n:Nat),ds=[.lst (aH p w lo n)]/\p.Ok/\0<=w/\w<=30/\n<=30/\R (.lst ((bS p 0 lo w.toNat n).map D.int))
abbrev pI(V:Bx):Prop:=V.D 1 "_law_counts" ng Fb
def Fc(T:V.T "_law_counts" mZ ng):pI V:=by
 refine Tx.okDW T sc__law_counts (λds R h=>?_) (λf cdv A outer s H E J hr=>⟨_,((ai (fP 1 sc__law_counts.nd (ac ad (ac ad (ac ad (ac ad (ac ad (ac ad (ac ad ae))))))))
   (ai (gL 2 PassesOwn.never rfl sc__law_counts.nd (aa 0) (ar (zH 3 PassesOwn.never rfl sc__law_counts.nd (aa 2) (ar (AO 1 (sL aw (ac (aa 3) ae)) ad)))))
   (eI 1 (ar (aE (aa 1))))))),λds R h=>?_⟩)
 .obtain⟨_,_,_,_,rfl,_⟩:=h;rfl
 .obtain⟨p,w,lo,n,rfl,ok,w0,w7,n7,hR⟩:=h;have e0:([.int 0,.int 0,.int 0,.int 0,.int 0,.int 0,.int 0]:List D)=(due7 p 0 lo w.toNat 0 0).map D.int:=rfl;refine#[Ku,?_];refine#[λk z=>∃o1 o2,z=[be (.lst (aH p w lo n)),be (.own ((due7 p 0 lo w.toNat k 0).map D.int)),o1,o2],#[_,_,rfl],?_,?_]
  .rintro k v z hk⟨o1,o2,rfl⟩;k_places;obtain⟨w6,rfl⟩:=Ea hk;refine#[Ec ok 0 (lo+k) w.toNat,λi z=>∃o2,z=[be (.lst (aH p w lo n)),be (.own ((due7 p 0 lo w.toNat k i).map D.int)),be (.str (aI p 0 (lo+k) w.toNat)),o2],#[_,rfl],?_,?_]
   .rintro i v z hi⟨o2,rfl⟩;k_places;obtain⟨J1,rfl⟩:=Ed hi;obtain⟨u,u7,eu,e3,e4⟩:=D7 ok 0 lo w.toNat k i;obtain⟨b7,ho⟩:=Ee u7;rw[eu];refine#[u,b7,ho,_,Kn,by rw[Gr,HL,e3];rfl,?_];rw[HL];exact#[_,by rw[<-e4];rfl]
   .rintro z⟨o2,rfl⟩;k_places;refine#[be (.str (aI p 0 (lo+k) w.toNat)),o2,?_];rw[eU,ia,D8]
  .rintro z⟨o1,o2,rfl⟩;k_places;rw[show(aH p w lo n).length=n by unfold aH;simp,D9];exact hR
abbrev pJ(V:Bx):Prop:=V.D 10 "field_rows" nh CA
def Fd(T:V.T "field_rows" iB nh)(uA:V.m "range")(K8:jc V)(z9:V.a "Pattern" "shifts"):pJ V:=by
 refine Tx.okDW T DC (λds R h=>?_) (λf cdv A outer s H E J hr=>#[_,((ar (aE (ko rfl (compScope (by change cR _ (ah iB) ["pattern"] _=true;decide+kernel)) uA (af (eO z9 (aa 0)) ad) (λcl s0 H0 fp=>(aD K8 hr (ac (aa 0) (ac ad (ac (aa 1) (ac (af (eO z9 (aa 0)) ad) ae)))))))))),λds R h=>?_])
 .obtain⟨_,_,rfl,_⟩:=h;rfl
 .obtain⟨p,d,rfl,hd,ok,hR⟩:=h;obtain⟨w,h,s,fs,rfl,e1,e2,hp⟩:=id hd;have F:=hp.toFam;have sm:=ok.fits.small F;have wh:w*h<=720:=by
   obtain⟨w',h',s',f',hb⟩:=ok.fits;obtain⟨rfl,rfl,_⟩:=F.uniq f';exact hb
  refine#[rfl,_,e2,_,rfl,#[Kn,Kn],by rw[cf];lia,λk ys=>ys=(Gj k).map λ(y:Nat)=>D.str (aI p 0 (y:Int) w.toNat),rfl,?_,?_]
  .rintro k v ys hk hl rfl;obtain⟨w6,rfl⟩:=cw hk;refine#[rfl,_,e2,_,rfl,p,.obj "Pattern" fs,0,k,w.toNat,by rw[GZ Kn],hd,ok,Kn,#[Kn,Kn],#[Kn,Kn],#[Kn,Kn],?_];show _=II _ (Gj (k+1));rw[HD,GM];rfl
  .rintro ys hl rfl;rw[cf];exact hR w h s F wh sm.2.1 sm.2.2.2.1
abbrev C_round_row(V:Bx):Prop:=V.D 2 "round_row" nq CB
def Fe(T:V.T "round_row" nj nq)(w9:fB V):C_round_row V:=by
 refine Tx.okDW T sc_round_row (λds R h=>?_) (λf cdv A outer s H E J hr=>⟨_,((ai (am 4 sc_round_row.nd (aD w9 hr (ac (aa 0) (ac (aa 2) (ac (aa 3) ae)))))
   (ai (am 5 sc_round_row.nd (af (aa 1) (af (aa 4) ad)))
   (ar (aE (ao (kB (aa 5) (kA (af (aa 4) ad)) kz) (kB (aa 5) kz (kA (af (aa 4) ad))))))))),λds R h=>?_⟩)
 .obtain⟨_,_,_,_,_,_,rfl,_⟩:=h;rfl
 .obtain⟨p,w,h,s,x,y,rfl,F,w7,h7,hR⟩:=h;have f:=F.f;have y0:=Hc y (show h≠0 by have:=f.h0;lia);have y1:=Hd y f.h0;refine#[λd=>d=.tup [.int (hmX w h s x y),.int (y%h)],#[w,h,s,x,y,rfl,f.w0,f.h0,Kn,f.s0,by have:=f.sw;lia,rfl],?_];rintro _ rfl;k_places;refine#[λd=>d=.str (aI p 0 (y%h) w.toNat),#[_,rfl,_,?_,rfl],?_]
  .have e:y%h=(((y%h).toNat:Nat):Int):=by lia
   rw[e];exact ca (by rw[Gr,G2 Kn];simp)
  rintro _ rfl;k_places;have l:=ia p 0 (y%h) w.toNat;refine#[_,rfl,Kn,_,rfl,Kn,?_];have e:=Cz f.w0 f.h0 (λ_ _ q=>F.keeps q) x y;refine#[?_,?_]
  .rw[<-bu,<-bu,<-Gx,<-bO,e,dh];simp;lia
  .rw[e];exact hR
abbrev pK(V:Bx):Prop:=V.D 1 "count_sign" nu CJ
def Ff(T:V.T "count_sign" nt nu)(uB:V.m "len"):pK V:=by
 refine Tx.okDW T DD (λds R h=>?_) (λf cdv A outer s H E J hr=>#[_,((ar (aE (ao (ax (aX (aa 2) (cq uB (ac (aa 0) ae))) (tK (aa 0) (ac (aa 1) ae))) (tK (kB (aa 0) kz (kA (aC (aa 2) (cq uB (ac (aa 0) ae))))) (ac (aa 1) ae)))))),λds R h=>?_])
 .obtain⟨_,_,_,_,_,_,rfl,_⟩:=h;rfl
 .obtain⟨p,x,y,v,m,w,rfl,ok,v0,v6,w0,w7,m0,m1,kw,hR⟩:=h;have l:=ia p x y w;have q0:0<=m/(w:Int):=IL m0 Kn;have q1:m/(w:Int)<=m:=IM _ m0;have r0:=Hc m (show(w:Int)≠0 by lia);have r1:=Hd m (show 0<(w:Int)by lia);have er:m%(w:Int)=(((m%(w:Int)).toNat:Nat):Int):=by lia
  have e2:Txt.slice (aI p x y w) q8 (be (m%(w:Int)))=aI p x y (m%(w:Int)).toNat:=by
   rw[er,CI p x y Kn];rfl
  refine#[Kn,#[by rw[l];lia,by rw[l];lia],.inl #[by rw[l];lia,by rw[l];lia],Kn,by rw[l];lia,Kn,?_];show R (.int (m/((aI p x y w).length:Int)*occC (aI p x y w) (aV v)+occC (Txt.slice (aI p x y w) q8 (be (m%((aI p x y w).length:Int)))) (aV v)));rw[l,e2,vk ok x y v0 v6,vk ok x y v0 v6];have KY:∀k:Nat,(λk:Nat=>p.show (x+k) y) (k+w)=(λk:Nat=>p.show (x+k) y) k:=λk=>by
   have:=kw (x+k) y;rw[HK]at this;show p.show (x+((k+w:Nat):Int)) y=p.show (x+(k:Int)) y;rw[<-this,HI,IH]
  have:=CF (f:=λk:Nat=>p.show (x+k) y) w0 KY v m.toNat;have d1:m/(w:Int)=((m.toNat/w:Nat):Int):=by rw[Int.natCast_ediv,GZ m0]
  have d2:(m%(w:Int)).toNat=m.toNat%w:=by
   have:m%(w:Int)=((m.toNat%w:Nat):Int):=by rw[JH,GZ m0]
   lia
  rw[d1,d2,this];exact hR
def Fg:SpN:=λds R RX=>CQ ds (λd=>kdL d R) RX
abbrev jg(V:Bx):Prop:=V.NL 11 "count_all" nv Fg
def Fh(T:V.T "count_all" iC nv)(uV:V.m "max")(uA:V.m "range")(OC:V.m "min")(KI:V.m "enumerate")(KH:jb V)(OD:pJ V)(OE:C_round_row V)(OF:pK V)(uR:V.gs "SIGNS" ".123456")(z9:V.a "Pattern" "shifts"):jg V:=by
  refine Tx.okN T sc_count_all (λds R RX h=>?_) (λf cdv A outer s H E J hr hx=>⟨_,((dz (rX (sG KH hx hr (ac (aa 1) (ac (aa 2) ae))))
      (dz (rX (sG KH hx hr (ac (aa 3) (ac (aa 4) ae))))
      (dz (am 5 sc_count_all.nd (eO z9 (aa 0)))
      (dz (am 6 sc_count_all.nd (aD OD hr (ac (aa 0) ae)))
      (dz (am 7 sc_count_all.nd (fS rfl uV (ac (ao (bq (aa 3) (aa 1)) ad) (ac ad ae))))
      (dz (am 8 sc_count_all.nd (ax (af (aa 5) ad) (af (aa 5) ad)))
      (dz (AH 9 rfl (compScope (by change cR _ (ah iC) ["pattern","left","top","right","bottom","family","rows","many","again","counts","y","times","row","hue","sign"] _=true;decide+kernel)) sc_count_all.nd (eQ uR) (λcl s0 H0 fp=>ad))
      (dz (zl 10 PassesOwn.leaving rfl sc_count_all.nd uA (aa 2) (yO rfl OC (ac (ao (aa 4) ad) (ac (ao (aa 2) (aa 8)) ae))) (ai (am 11 sc_count_all.nd (ao (aX (bq (aa 4) (aa 10)) (aa 8)) ad))
        (ai (am 12 sc_count_all.nd (aD OE hr (ac (aa 5) (ac (aa 6) (ac (aa 1) (ac (aa 10) ae))))))
        (ar (AL PassesOwn.leaving rfl KI (eQ uR) (dg_cons 13 sc_count_all.nd (dg_cons 14 sc_count_all.nd eK)) (ar (zm 9 (ao (yU 9 (aa 13)) (ax (aa 11) (aD OF hr (ac (aa 12) (ac (aa 14) (ac (aa 7) ae)))))) (aa 13))))))))
      (vB (Dh 9))))))))))),λds R RX d9 h=>?_⟩)
  . obtain⟨_,_,_,_,_,_,rfl,_⟩:=h;rfl
  . obtain⟨p,d,left,top,right,b8,rfl,hd,ok,hR,hX⟩:=h;obtain⟨w,h,s,fs,rfl,e1,e2,hp⟩:=id hd;have F:=hp.toFam;have sm:=ok.fits.small F;refine#[left,top,rfl,λn1=>?_,λn1=>by rw[d9];exact hX λz=>n1 #[z.1,z.2.1]];refine#[right,b8,rfl,λn2=>?_,λn2=>by rw[d9];exact hX λz=>n2 #[z.2.2.1,z.2.2.2]];have hR:=hR #[n1.1,n1.2,n2.1,n2.2];unfold bn at n1 n2;refine#[λd=>d=.tup [.int w,.int h,.int s],#[rfl,_,e2,rfl],?_];rintro _ rfl;k_places;refine#[λd=>d=gh p w h/\w*h<=720,#[p,_,rfl,hd,ok,λw' h' s' F' hb _ _=>by obtain⟨rfl,rfl,rfl⟩:=F.uniq F';exact#[rfl,hb]],?_];rintro _⟨rfl,hb⟩;k_places;refine#[λd=>d=.int ((right-left+1).toNat:Nat),congrArg D.int (CP _),?_];rintro _ rfl;k_places;have Rl:0<w*h:=Gz F.f.w0 F.f.h0;refine#[λd=>d=.int (w*h),#[_,rfl,_,rfl,.inl #[Kn,Kn],rfl],?_];rintro _ rfl;k_places;generalize hm:(right-left+1).toNat=m at*;generalize hn:(b8-top+1).toNat=n at*;generalize hN:(w*h).toNat=N at*;refine#[Kr,Kr,λk ys=>ys=GV k (D.int 0),rfl,?_,?_]
    . rintro k v ys hk hl rfl;show _=GV (k+1) _;rw[List.replicate_succ']
    rintro ys hl rfl;have wN:w*h=(N:Int):=Kn
    have J1:=CM (top:=top) hn wN;have R9:=vn n1.1 n2.1 hm;have R':=vn n1.2 n2.2 hn;refine#[CN #[n1.2.1,n1.2.2] #[n2.2.1,n2.2.2] Rl hb,λk z=>∃OG KD KE s9 s_,z=[be (.obj "Pattern" fs),be (.int left),be (.int top),be (.int right),be (.int b8),be (.tup [.int w,.int h,.int s]),be (gh p w h),be (.int m),be (.int (w*h)),be (.own ((Gj 7).map λ(v:Nat)=>D.int (bZ p left top m n N k v))),OG,KD,KE,s9,s_],#[q8,q8,q8,q8,q8,?_],?_,?_]
    . have e7:(bL (".123456":C_)).length=7:=by decide+kernel
      rw[e7];rfl
    . rintro k v z hk⟨OG,KD,KE,s9,s_,rfl⟩;k_places;obtain⟨w6,rfl⟩:=range2_int hk;rw[J1]at w6;refine#[λd=>d=.int (((n:Int)-1-k)/N+1),#[#[Kn,Kn],?_],?_]
      . rw[wN];congr 3;exact CO hn w6
      rintro _ rfl;k_places;refine#[λd=>d=.str (aI p left (top+k) w.toNat),#[p,w,h,s,left,top+k,rfl,F,sm.2.1,sm.2.2.2.1,rfl],?_];rintro _ rfl;k_places;refine#[Kr,λi z=>∃s9 s_,z=[be (.obj "Pattern" fs),be (.int left),be (.int top),be (.int right),be (.int b8),be (.tup [.int w,.int h,.int s]),be (gh p w h),be (.int m),be (.int (w*h)),be (.own ((Gj 7).map λ(v:Nat)=>D.int (if v<i then bZ p left top m n N (k+1) v else bZ p left top m n N k v))),be (.int (top+k)),be (.int (((n:Int)-1-k)/N+1)),be (.str (aI p left (top+k) w.toNat)),s9,s_],#[_,_,rfl],?_,?_]
      . rintro i v z hi⟨s9,s_,rfl⟩;k_places;rw[CL]at hi;have i7:i<7:=by simpa using(Gq.mp hi).1
        have ev:v=.str #[[aV (i:Int)].toArray]:=by
          rw[Gr,G2 i7]at hi;exact(Option.some.inj hi).symm
        subst ev;have ci:=vi (λk'=>p.show (left+k') (top+k)) i m;have tq:0<=((n:Int)-1-k)/N/\((n:Int)-1-k)/N<=(n:Int)-1-k:=#[IL Kn Kn,IM _ Kn];refine#[_,ca (by rw[Gr,G2 i7];rfl),p,left,top+k,i,m,w.toNat,rfl,ok,Kn,Kn,Kn,Kn,Kn,Kn,by rw[GZ Kn];exact F.across,?_];refine#[.inl #[Kn,Kn],i,?_,?_]
        . unfold ixN;rw[if_pos Kn,if_pos Pa];simp
        refine#[be (.int i),be (.str #[[aV (i:Int)].toArray]),?_];rw[HL,if_neg (G7 i)];have e:bZ p left top m n N k i+(((n:Int)-1-k)/N+1)*cntN (λk'=>p.show (left+k') (top+k)) i m=bZ p left top m n N (k+1) i:=rfl;rw[e];have q:=vm (n:=7) (i:=i) (λ(v:Nat)=>D.int (if v<i then bZ p left top m n N (k+1) v else bZ p left top m n N k v)) (λ(v:Nat)=>D.int (if v<i+1 then bZ p left top m n N (k+1) v else bZ p left top m n N k v)) (λv hv ne=>by
          by_cases c:v<i
          . rw[if_pos c,if_pos Kn]
          . rw[if_neg c,if_neg Kn])
        rw[if_pos (show i<i+1 by lia)]at q;rw[q];rfl
      . rintro z⟨s9,s_,rfl⟩;k_places;refine#[be (.int (top+k)),be (.int (((n:Int)-1-k)/N+1)),be (.str (aI p left (top+k) w.toNat)),s9,s_,?_];have:∀v∈Gj 7,D.int (if v<(bL (".123456":C_)).length then bZ p left top m n N (k+1) v else bZ p left top m n N k v)=D.int (bZ p left top m n N (k+1) v):=λv hv=>by
          rw[if_pos (by  have e7:(bL (".123456":C_)).length=7:=by decide+kernel
                         rw[e7];simpa using hv)]
        rw[HE this]
    . rintro z⟨OG,KD,KE,s9,s_,rfl⟩;k_places;have e:((Gj ((if top+w*h<b8+1 then top+w*h else b8+1)-top).toNat).map λ(k:Nat)=>D.int (top+(k:Int))).length=min n N:=by simp[J1]
      rw[e];have fold:∀v:Nat,bZ p left top m n N (min n N) v=cB p v left top m n:=λv=>CK Kn (by rw[<-wN];exact F.down) v left top m n;simp only[fold];have e2:((Gj 7).map λ(v:Nat)=>D.int (cB p v left top m n))=(bS p left top m n).map D.int:=by unfold bS;rw[HG];rfl
      rw[e2];exact hR
def Fi:SpM:=λds M R _=>∃a q f,ds=[.ptr a]/\mget M a=be (.ins "Floor" (Fl.fs f q))/\f.Ok/\∀p,p∉aj M->R (.ptr p) ((p,.lst ((bS f.p 0 0 f.w.toNat f.l.toNat).map D.int))::M)
abbrev jh(V:Bx):Prop:=V.Q 12 "Floor" "lies" ny Fi
def Fj(T:V.Tm "Floor" "lies" "Floor.lies" nw ny)(K':jg V)(uE:V.a "Floor" "laid")(uO:V.a "Floor" "width")(uL:V.a "Floor" "pattern"):jh V:=by
 refine Txm.okM T DF (λds M R RX h=>?_) (λf cdv A outer s H E J hr hx=>#[_,((av (aF (aK (CalNL.new K') hx hr (az (aA uL (ag (aa 0))) (az (ag ad) (az (ag ad) (az (cU (aA uO (ag (aa 0))) (ag ad)) (az (cU (aA uE (ag (aa 0))) (ag ad)) aU))))))))),λds M R RX d9 h=>?_])
 .obtain⟨_,_,_,rfl,_⟩:=h;rfl
 .obtain⟨a,q,f,rfl,m,ok,hR⟩:=h;have w1:=ok.w1;have w2:=ok.w2;have l0:=ok.l0;have l1:=ok.l1;have h2:=ok.h2;refine#[_,m,_,iT,_,m,_,gu,_,m,_,fA,f.p,f.d,0,0,f.w-1,f.l-1,rfl,ok.is,ok.ok,λ_ p hp=>?_,λz=>absurd #[#[Kn,Kn],#[Kn,Kn],#[Kn,Kn],Kn,Kn] z];rw[show(f.w-1-0+1).toNat=f.w.toNat by lia,show(f.l-1-0+1).toNat=f.l.toNat by lia];exact hR p hp
def Fk:SpM:=λds M R _=>∃a q f,ds=[.ptr a]/\mget M a=be (.ins "Floor" (Fl.fs f q))/\f.Ok/\∀p,p∉aj M->R (.ptr p) ((p,.lst ((bS f.p 0 f.l f.w.toNat (f.h-f.l).toNat).map D.int))::M)
abbrev ji(V:Bx):Prop:=V.Q 12 "Floor" "still" nA Fk
def Fn(T:V.Tm "Floor" "still" "Floor.still" nz nA)(K':jg V)(uW:V.a "Floor" "height")(uO:V.a "Floor" "width")(uE:V.a "Floor" "laid")(uL:V.a "Floor" "pattern"):ji V:=by
 refine Txm.okM T DG (λds M R RX h=>?_) (λf cdv A outer s H E J hr hx=>#[_,((av (aF (aK (CalNL.new K') hx hr (az (aA uL (ag (aa 0))) (az (ag ad) (az (aA uE (ag (aa 0))) (az (cU (aA uO (ag (aa 0))) (ag ad)) (az (cU (aA uW (ag (aa 0))) (ag ad)) aU))))))))),λds M R RX d9 h=>?_])
 .obtain⟨_,_,_,rfl,_⟩:=h;rfl
 .obtain⟨a,q,f,rfl,m,ok,hR⟩:=h;have w1:=ok.w1;have w2:=ok.w2;have l0:=ok.l0;have l1:=ok.l1;have h2:=ok.h2;refine#[_,m,_,iT,_,m,_,fA,_,m,_,gu,_,m,_,iU,f.p,f.d,0,f.l,f.w-1,f.h-1,rfl,ok.is,ok.ok,λ_ p hp=>?_,λz=>absurd #[#[Kn,Kn],#[Kn,Kn],#[Kn,Kn],Kn,Kn] z];rw[show(f.w-1-0+1).toNat=f.w.toNat by lia,show(f.h-1-f.l+1).toNat=(f.h-f.l).toNat by lia];exact hR p hp
def Fo:SpM:=λds M R _=>∃a q f,ds=[.ptr a]/\a≠q/\M=Fl.M f a q/\R (.int f.ds.length) (f.M a q)
abbrev pL(V:Bx):Prop:=V.Q 1 "Floor" "kept" nC Fo
def Fp(T:V.Tm "Floor" "kept" "Floor.kept" nB nC)(uB:V.m "len")(uS:V.a "Floor" "deeds"):pL V:=by
 refine Txm.okM T DJ (λds M R RX h=>?_) (λf cdv A outer s H E J hr hx=>#[_,((av (aF (kI uB (aA uS (ag (aa 0))))))),λds M R RX d9 h=>?_])
 .obtain⟨_,_,_,rfl,_⟩:=h;rfl
 .obtain⟨a,q,f,rfl,ne,rfl,hR⟩:=h;refine#[_,Fl.ma ne,_,iV,_,Fl.mq,?_];rw[Gm];exact hR
def Fq:SpM:=λds M R _=>∃a q f,ds=[.ptr a,.str f.p.text,.tup [.int f.w,.int f.h],.lst (aH f.p f.w 0 f.l.toNat),.lst (aH f.p f.w f.l (f.h-f.l).toNat),.int f.ds.length]/\a≠q/\M=Fl.M f a q/\f.Ok/\R (.bl true) (f.M a q)
abbrev pM(V:Bx):Prop:=V.MM 13 "_law_view" nF Fq
def Fs(T:V.T "_law_view" nE nF)(uD:V.m "isinstance")(uK:V.m "str")(w_:gw V)(K_:je V)(MI:pH V)(MJ:pI V)(z8:V.a "Floor" "text")(uO:V.a "Floor" "width")(uW:V.a "Floor" "height")(J2:gv V)(La:jh V)(Lb:ji V)(OH:pL V):pM V:=by
 refine Tx.okM T sc__law_view (λds M R RX h=>?_) (λf cdv A outer s H E J hr hx=>⟨_,((aq (bi (mt_w (dL (du (dm (C3 uD uK (aA z8 (ag (aa 0))) PyProof.Rows.boot_str kit_str))) (eX (fV (aA z8 (ag (aa 0))) (ag (aa 1)))))) (av (aF (ag bx))) bb)
   (aq (bi (mt_w (dL (du (dm (aK (CalD.toM w_) hx hr (az (aA uO (ag (aa 0))) aU)))) (eX (fV (aA uO (ag (aa 0))) (ag (af (aa 2) ad)))))) (av (aF (ag bx))) bb)
   (aq (bi (mt_w (dL (du (dm (aK (CalD.toM w_) hx hr (az (aA uW (ag (aa 0))) aU)))) (eX (fV (aA uW (ag (aa 0))) (ag (af (aa 2) ad)))))) (av (aF (ag bx))) bb)
   (aq (bi (du (dm (aK (CalD.lendL K_) hx hr (az (bD (CalMth.one (CalMth.lendN J2)) hx hr (ag (aa 0))) (az (ag (aa 3)) aU))))) (av (aF (ag bx))) bb)
   (aq (bi (du (dm (aK (CalD.lendL MI) hx hr (az (bD (CalMth.one La) hx hr (ag (aa 0))) (az (ag (aD MJ hr (ac (aa 3) ae))) aU))))) (av (aF (ag bx))) bb)
   (aq (bi (du (dm (aK (CalD.lendL MI) hx hr (az (bD (CalMth.one Lb) hx hr (ag (aa 0))) (az (ag (aD MJ hr (ac (aa 4) ae))) aU))))) (av (aF (ag bx))) bb)
   (aq (aM 6 sc__law_view.nd (bD (CalMth.one OH) hx hr (ag (aa 0))))
   (av (aF (ag (fM (aD w_ hr (ac (aa 6) ae)) (fL (cP (aa 6) (aa 5))))))))))))))),λds M R RX d9 h=>?_⟩)
 .obtain⟨_,_,_,rfl,_⟩:=h;rfl
 .obtain⟨a,q,f,rfl,ne,rfl,ok,hR⟩:=h;have w1:=ok.w1;have w2:=ok.w2;have l0:=ok.l0;have l1:=ok.l1;have h2:=ok.h2;have nd:=Fl.nd (f:=f) ne;have ec:∀lo n,(bS f.p 0 lo f.w.toNat n).length=7:=λlo n=>by unfold bS;simp
  refine#[_,Fl.ma ne,_,vC,?_];dsimp only[kd];refine ite2 (λc=>nomatch c) λ_=>#[_,Fl.ma ne,_,vC,ite2 (λc=>absurd c Kv) λ_=>?_];refine#[_,Fl.ma ne,_,gu,_,rfl,ite2 (λc=>nomatch c) λ_=>#[_,Fl.ma ne,_,gu,_,rfl,ite2 (λc=>absurd c Kv) λ_=>?_]];refine#[_,Fl.ma ne,_,iU,_,rfl,ite2 (λc=>nomatch c) λ_=>#[_,Fl.ma ne,_,iU,_,rfl,ite2 (λc=>absurd c Kv) λ_=>?_]];refine#[_,Gf.mpr rfl,_,Fl.ma ne,rfl,?_];dsimp only[mNil];refine pF (Fl.ma ne) ok λp hp=>?_;refine#[p,_,_,bp,oW nd,f.p,f.w,0,f.l.toNat,?_,Kn,?_]
  .show[cu p _ (.ptr p),_]=_;rw[gk];rfl
  dsimp only[kdB];refine ite2 (λc=>nomatch c) λ_=>?_;refine#[_,Gf.mpr rfl,_,Fl.ma ne,rfl,a,q,f,rfl,Fl.ma ne,ok,λp hp=>?_];refine#[f.p,f.w,0,_,rfl,ok.ok,Kn,w2,Kn,p,_,_,bp,oW nd,bS f.p 0 0 f.w.toNat f.l.toNat,?_,ec _ _,?_]
  .show[cu p _ (.ptr p),_]=_;rw[gk];rfl
  dsimp only[kdB];refine ite2 (λc=>nomatch c) λ_=>?_;refine#[_,Gf.mpr rfl,_,Fl.ma ne,rfl,a,q,f,rfl,Fl.ma ne,ok,λp hp=>?_];refine#[f.p,f.w,f.l,_,rfl,ok.ok,Kn,w2,Kn,p,_,_,bp,oW nd,bS f.p 0 f.l f.w.toNat (f.h-f.l).toNat,?_,ec _ _,?_]
  .show[cu p _ (.ptr p),_]=_;rw[gk];rfl
  dsimp only[kdB];refine ite2 (λc=>nomatch c) λ_=>?_;refine#[λd M'=>d=.int f.ds.length/\M'=f.M a q,#[_,Gf.mpr rfl,_,Fl.ma ne,rfl,a,q,f,rfl,ne,rfl,rfl,rfl],?_];rintro _ _⟨rfl,rfl⟩;k_places;refine#[_,rfl,?_];show R (.bl (decide ((f.ds.length:Int)=f.ds.length))) (f.M a q);rw[decide_eq_true rfl];exact hR
abbrev dA(V:Bx):Prop:=V.Q 1 "Reading" "may_take" nH BS
def Ft(T:V.Tm "Reading" "may_take" "Reading.may_take" nG nH)(uB:V.m "len")(Ki:V.a "Reading" "text")(uN:V.a "Reading" "place"):dA V:=by
 refine Txm.okM T DK (λds M R RX h=>?_) (λf cdv A outer s H E J hr hx=>⟨_,((aq (bi (mt_w (dL (fU (aA uN (ag (aa 0))) (sV uB (az (aA Ki (ag (aa 0))) aU))) (eX (zL (sP (aA Ki (ag (aa 0))) (aA uN (ag (aa 0)))) (ag (aa 1)))))) (av (aF (ag aw))) bb)
   (aq (bM uN (ag (aa 0)) (gX (aA uN (ag (aa 0))) (ag ad)))
   (av (aF (sP (aA Ki (ag (aa 0))) (cU (aA uN (ag (aa 0))) (ag ad)))))))),λds M R RX d9 h=>?_⟩)
 .obtain⟨_,_,_,_,_,rfl,_⟩:=h;rfl
 .obtain⟨a,t,k,l,al,rfl,rfl,d5,hR⟩:=h;refine#[_,aS,_,fj,_,aS,_,kY,Go d5.sz Ku,?_];cases l with
  |nil=>
   refine ifdT (by rw[d5.nil]) (ifT rfl ?_);exact hR
  |cons c l=>
   have lt:=d5.lt;refine ifdF Kn ?_;refine#[_,aS,_,kY,_,aS,_,fj,c,#[Go d5.sz Ku,ca d5.get],?_];refine ite2 (λe=>?_) (λe=>?_)
   .have e2:(!(!(Builtin.Str.occurrences al #[[c].toArray] 0 al.length 1).isEmpty))=true:=e;rw[uo]at e2;have nc:c∉cs al:=by simpa using e2
    rw[dO nc,dP nc]at hR;exact hR
   .have e2:¬(!(!(Builtin.Str.occurrences al #[[c].toArray] 0 al.length 1).isEmpty))=true:=e;rw[uo]at e2;have nc:c∈cs al:=by simpa using e2
    rw[fk nc,fo nc]at hR;refine#[_,aS,_,fj,_,aS,by show(2:Nat)<1000;decide,?_];rw[show mput (RdM a t k) a (.ins "Reading" (putD ("place":C_) (.int ((k:Int)+1)) (rdF t k)))=RdM a t (k+1)by rw[BQ];exact hZ];refine#[_,aS,_,kY,_,aS,_,fj,c,#[Go d5.sz Ku,?_],hR];rw[show((k+1:Nat):Int)-1=(k:Int)by lia];exact ca d5.get
abbrev cE(V:Bx):Prop:=V.Q 2 "Reading" "take" nJ BT
def Fu(T:V.Tm "Reading" "take" "Reading.take" nI nJ)(uI:dA V):cE V:=by
 refine Txm.okM T sc_Reading_take (λds M R RX h=>?_) (λf cdv A outer s H E J hr hx=>⟨_,((aq (aM 2 sc_Reading_take.nd (aQ (CalMth.one uI) hx hr (ag (aa 0)) (ay (ac (aa 1) ae))))
   (aq (bi (bC (bz (aa 2) aw)) (av hU) bb)
   (av (aF (ag (aa 2))))))),λds M R RX d9 h=>?_⟩)
 .obtain⟨_,_,_,_,_,_,rfl,_⟩:=h;rfl
 .obtain⟨a,t,k,c,l,al,rfl,rfl,d5,hc,hR⟩:=h;refine#[λd M'=>d=.str #[[c].toArray]/\M'=RdM a t (k+1),#[_,Gf.mpr rfl,_,aS,df,a,t,k,_,al,rfl,rfl,d5,by rw[fk hc,fo hc];exact#[rfl,rfl]],?_];rintro _ _⟨rfl,rfl⟩;k_places;exact hR
abbrev pN(V:Bx):Prop:=V.MM 3 "line_from" nM S_line_from
def Fv(T:V.T "line_from" nK nM)(uA:V.m "range")(uR:V.gs "SIGNS" ".123456")(uC:cE V)(uI:dA V):pN V:=by
 refine Tx.okM T sc_line_from (λds M R RX h=>?_) (λf cdv A outer s H E J hr hx=>⟨_,((aq (aM 3 sc_line_from.nd (ag aw))
   (aq (Ad 4 PassesOwn.leaving rfl sc_line_from.nd uA (ag (aa 2)) (av (aM 3 sc_line_from.nd (gX (ag (aa 3)) (fW (bC (eo (aa 4) (aa 1))) (aQ (CalMth.one uC) hx hr (ag (aa 0)) (ay (ac (eQ uR) ae))) (aQ (CalMth.one uI) hx hr (ag (aa 0)) (ay (ac (eQ uR) ae))))))))
   (av (aF (ag (aa 3))))))),λds M R RX d9 h=>?_⟩)
 .obtain⟨_,_,_,_,_,_,_,rfl,_⟩:=h;rfl
 .obtain⟨a,t,k,n,m,x,l,rfl,rfl,d5,hs,hn,hm,R_,l5,hR⟩:=h;refine#[λd M'=>d=.str ""/\M'=RdM a t k,#[rfl,rfl],?_];rintro _ _⟨rfl,rfl⟩;k_places;refine#[#[Kn,Kn],λi z M'=>i<=m/\∃col,z=[be (.ptr a),be (.int n),be (.int m),be (.str #[(x.take i).toArray]),col]/\M'=RdM a t (k+min i x.length),#[GI _,q8,rfl,by rw[Nat.zero_min];rfl],?_,?_]
  .rintro i d z M' hi⟨Sa,col,rfl,rfl⟩;k_places;obtain⟨J1,rfl⟩:=cw hi;have J1:i<m:=by lia
   have c5:=List.length_take_le i x;refine#[λd M'=>d=.str #[(x.take (i+1)).toArray]/\M'=RdM a t (k+min (i+1) x.length),?_,?_]
   .by_cases gt:i<x.length
    .have e1:x.take (i+1)=x.take i++[x[i]]:=List.take_succ_eq_append_getElem gt;have d6:At t (k+i) (x[i]::(x.drop (i+1)++l)):=by
      have:=d5;rw[<-JL i x,G6,Hj gt]at this;have:=this.app;rw[HC,HJ Kn]at this;exact this
     have hc:=signs_is.mpr (BP (hs x[i] (GT gt)));have e2:(#[(x.take i).toArray]:C_)++#[[x[i]].toArray]=#[(x.take (i+1)).toArray]:=by rw[show(#[[x[i]].toArray]:C_)=#[[x[i]].toArray]from rfl,gc,e1]
     rw[HJ Kn,HJ Kn];refine ite2 (λ_=>?_) (λ_=>?_)
     .exact#[_,Gf.mpr rfl,_,aS,cj,a,t,_,_,_,".123456",rfl,rfl,d6,hc,by rw[fq,show(#[[x[i]].toArray]:C_).length=1 from rfl];lia,congrArg D.str e2,rfl]
     .refine#[_,Gf.mpr rfl,_,aS,df,a,t,_,_,".123456",rfl,rfl,d6,?_];rw[fk hc,fo hc];exact#[by rw[fq,show(#[[x[i]].toArray]:C_).length=1 from rfl];lia,congrArg D.str e2,rfl]
    .obtain⟨c,l',rfl,hc⟩:=l5.resolve_left Kn;have d6:=d5.app;rw[Ib Kn,Ib Kn,Ht Kn,Ht Kn];refine ite2 (λc=>absurd (of_decide_eq_true c) Kn) (λ_=>?_);refine#[_,Gf.mpr rfl,_,aS,df,a,t,_,_,".123456",rfl,rfl,d6,?_];rw[dO (uq hc),dP (uq hc)];refine#[by rw[fq,show("":C_).length=0 from rfl];lia,?_,rfl];rw[show("":C_)=#[([]:List Nat).toArray]from rfl,gc,GS]
   .rintro _ _⟨rfl,rfl⟩;k_places;exact#[J1,_,rfl,trivial]
  .intro z M' hz;rw[cf,HL]at hz;obtain⟨_,col,rfl,rfl⟩:=hz;rw[Ht hm,Ib hm];exact hR
abbrev pO(V:Bx):Prop:=V.MM 4 "lines_from" nO BZ
def Fw(T:V.T "lines_from" nN nO)(uB:V.m "len")(MK:pN V)(ML:V.gi "LONGEST" 8)(uI:dA V):pO V:=by
 refine Tx.okM T sc_lines_from (λds M R RX h=>?_) (λf cdv A outer s H E J hr hx=>⟨_,((aq (aM 1 sc_lines_from.nd (kE (az (aK (CalMM.frame MK) hx hr (ay (ac (aa 0) (ac ad (ac (cS ML) ae))))) aU)))
   (aq (aM 2 sc_lines_from.nd (sV uB (az (Af (ag (aa 1)) (ag ad)) aU)))
   (aq (Ac PassesOwn.leaving (mt_w (sT (sQ (kI uB (ag (aa 1))) (ag (cS ML))) (sS (fU (aQ (CalMth.one (CalMth.frame uI)) hx hr (ag (aa 0)) (ay (ac aw ae))) (ag aw))))) (av (bE (tf (ag (aa 1)) (aK (CalMM.frame MK) hx hr (ay (ac (aa 0) (ac (aa 2) (ac (aa 2) ae)))))))))
   (tm 1 (av (aF (ag (aa 1))))))))),λds M R RX d9 h=>?_⟩)
 .obtain⟨_,_,_,_,_,_,rfl,_⟩:=h;rfl
 .obtain⟨a,t,k,L,w,l,rfl,rfl,hL,d5,hR⟩:=h;have hw:=hL.w1;have Rm:=hL.w8;have x8:=hL.many;cases L with
  |nil=>exact absurd x8.1 Ku
  |cons x L=>
   obtain⟨Ka,l9⟩:=hL.each x Gk;rw[um]at d5 hR;rw[G6]at d5;rw[Gv]at x8;have stop:∀N:List (List Nat),∃c l',rowsT N++59::l=c::l'/\isSg c=false:=λN=>by
    cases N with
    |nil=>exact#[59,l,rfl,rfl]
    |cons y N=>exact#[47,_,rfl,rfl]
   refine#[λd M'=>∃p,p≠a/\d=.ptr p/\M'=(p,.lst [.str #[x.toArray]])::RdM a t (k+x.length),#[[],RdM a t k,rfl,a,t,k,1,8,x,_,rfl,rfl,d5,l9,Kn,Kn,Ku,.inr (stop L),by show 1<=1000;decide,λp hp=>#[p,λe=>hp (by rw[e];exact Gf.mpr rfl),rfl,rfl]],?_];rintro _ _⟨p,Rn,rfl,rfl⟩;k_places;refine#[λd M'=>d=.int w/\M'=(p,.lst [.str #[x.toArray]])::RdM a t (k+x.length),#[_,cM,_,rfl,by rw[fq];lia,by rw[fq,Ka],rfl],?_];rintro _ _⟨rfl,rfl⟩;k_places;refine#[λm z M'=>∃L1 L2 k',L=L1++L2/\m=L2.length/\At t k' (rowsT L2++59::l)/\k'+(rowsT L2).length=k+(x++rowsT L).length/\z=[be (.ptr a),be (.ptr p),be (.int w)]/\M'=(p,.lst (lstD (x::L1)))::RdM a t k',#[_,[],L,_,rfl,rfl,d5.app,by rw[Gx];lia,rfl,rfl],?_];rintro m z M'⟨L1,L2,k',rfl,rfl,g_,hk,rfl,rfl⟩;k_places;rw[Gx]at x8;have LS:(lstD (x::L1)).length=L1.length+1:=by simp[lstD]
   have done:L2=[]->R (.lst (lstD (x::L1))) (RdM a t k'):=λe=>by
    subst e;rw[show k'=k+(x++rowsT (L1++[])).length from hk,show lstD (x::L1)=lstD (x::(L1++[]))by rw[GS]];exact hR
   refine#[_,cM,?_];rw[LS];refine ite2 (λc=>?_) (λc=>?_)
   .refine#[_,Gf.mpr rfl,_,BY Rn,df,[(p,_)],RdM a t _,rfl,a,t,_,_,"/",rfl,rfl,g_,?_];cases L2 with
    |nil=>
     rw[show rowsT []++59::l=59::l from rfl,dO Ku,dP Ku];refine#[_,cM,?_];rw[show mdel ([(p,MO.lst (lstD (x::L1)))]++RdM a t (k'+0)) p=RdM a t k' from kZ];exact done rfl
    |cons y N=>
     have e1:rowsT (y::N)++59::l=47::(y++(rowsT N++59::l)):=by simp[rowsT]
     have P0:(47:Nat)∈cs "/":=Ku
     rw[e1]at g_ ⊢;rw[fk P0,fo P0];obtain⟨Ro,KA⟩:=hL.each y (Gi _ (GE _ Gk));have n8:=g_.next;refine#[#[_,cM],[(p,_)],RdM a t _,rfl,a,t,_,w,w,y,_,rfl,rfl,n8,KA,Kn,Kn,Rm,.inl Ro,?_];refine#[_,cM,by rw[LS];lia,N.length,by rw[Gv];lia,L1++[y],N,_,Kv,rfl,n8.app,?_,rfl,?_]
     .rw[<-hk];simp[rowsT];lia
     .show mput ((p,MO.lst (lstD (x::L1)))::RdM a t _) p _=_;rw[ut];simp[lstD]
   .have c':L1.length+1=8:=by
     have:¬((L1.length+1:Nat):Int)<8:=λz=>c (decide_eq_true z);lia
    refine#[_,cM,?_];rw[kZ];exact done (Ir Kn)
abbrev pP(V:Bx):Prop:=V.MM 3 "number_from" nQ BW
def Fx(T:V.T "number_from" nP nQ)(uF:V.m "int")(uI:dA V)(uC:cE V):pP V:=by
  refine Tx.okM T sc_number_from (λds M R RX h=>?_) (λf cdv A outer s H E J hr hx=>⟨_,((aq (bi (fU (aQ (CalMth.one uI) hx hr (ag (aa 0)) (ay (ac aw ae))) (ag aw)) (av (aF (ag ad))) bb)
      (aq (aM 1 sc_number_from.nd (gX (aQ (CalMth.one uI) hx hr (ag (aa 0)) (ay (ac aw ae))) (aQ (CalMth.one uC) hx hr (ag (aa 0)) (ay (ac aw ae)))))
      (aq (kH (bC (cG (zI (aa 1) (ac aw ae)))) (av (aM 1 sc_number_from.nd (gX (ag (aa 1)) (aQ (CalMth.one uI) hx hr (ag (aa 0)) (ay (ac aw ae)))))) bb)
      (av (aF (ag (gM uF (ac (aa 1) ae))))))))),λds M R RX d9 h=>?_⟩)
  . obtain⟨_,_,_,_,_,_,rfl,_⟩:=h;rfl
  . obtain⟨a,t,k,x,e,l,rfl,rfl,gt,he,d5,hR⟩:=h;have hi:=BU gt;have hl:=bF gt;rw[<-bu]at hl;change (numL x).length<=3 at hl;refine#[_,Gf.mpr rfl,_,aS,df,a,t,k,_,"0",rfl,rfl,d5,?_];rcases numS gt with e0|⟨pre,c,y,hp,hc,ev,hy⟩
    . rw[e0]at hR hi ⊢;have e1:x=0:=Option.some.inj (hi.symm.trans Kr);subst e1;have e2:(48:Nat)∈cs "0":=by decide
      rw[show([48]++e::l:List Nat)=48::e::l from rfl,fk e2,fo e2];exact hR
    rw[ev]at d5 hR hi hl ⊢;have h0:mayS "0" (pre++c::y++e::l)=""/\mayN "0" (pre++c::y++e::l)=0:=by
      have n:c∉cs "0":=λq=>by have:=Gf.mp q;lia
      rcases hp with rfl|rfl
      . exact#[dO n,dP n]
      . exact#[dO Ku,dP Ku]
    have hm:mayS "-" (pre++c::y++e::l)=#[pre.toArray]/\mayN "-" (pre++c::y++e::l)=pre.length:=by
      have n:c∉cs "-":=λq=>by have:=Gf.mp q;lia
      rcases hp with rfl|rfl
      . exact#[dO n,dP n]
      . exact#[rfl,rfl]
    rw[h0.1,h0.2];have d6:At t (k+pre.length) (c::(y++e::l)):=by rw[G6]at d5;exact d5.app
    have g_:=d6.next;refine#[λd M'=>d=.str #[(pre++[c]).toArray]/\M'=RdM a t (k+pre.length+1),?_,?_]
    . refine#[_,Gf.mpr rfl,_,aS,df,a,t,k,_,"-",rfl,rfl,d5,?_];rw[hm.1,hm.2];refine#[_,Gf.mpr rfl,_,aS,cj,a,t,k+pre.length,c,_,"123456789",rfl,rfl,d6,digits19.mpr hc,?_,?_,rfl]
      . rcases hp with rfl|rfl<;>simp[Str.length]
      . rw[show(#[[c].toArray]:C_)=#[[c].toArray]from rfl,gc]
    . rintro _ _⟨rfl,rfl⟩;k_places;refine#[λz M'=>z=[be (.ptr a),be (.str #[(pre++c::y).toArray])]/\M'=RdM a t (k+(pre++c::y).length),?_,?_]
      . show if Txt.endswith #[(pre++[c]).toArray] "1"=true then _ else _
        rw[BV];refine ite2 (λz=>?_) (λz=>?_)
        . obtain⟨e1,e2,e3⟩:(⟨(pre++[c]).toArray⟩:C_)++mayS "012" (y++e::l)=⟨(pre++c::y).toArray⟩/\mayN "012" (y++e::l)=y.length/\(mayS "012" (y++e::l)).length<=1:=by
            rcases hy with rfl|⟨_,d,hd,rfl⟩
            . have n:e∉cs "012":=λq=>by have:=digits02.mp q;unfold endS at he;lia
              rw[List.nil_append,dO n,dP n];refine#[?_,rfl,Ku];rw[show("":C_)=#[([]:List Nat).toArray]from rfl,gc];simp
            . rw[show([d]++e::l:List Nat)=d::e::l from rfl,fk (digits02.mpr hd),fo (digits02.mpr hd)];refine#[?_,rfl,Gg 1];rw[show(#[[d].toArray]:C_)=#[[d].toArray]from rfl,gc];simp
          refine#[λv M'=>v=.str #[(pre++c::y).toArray]/\M'=RdM a t (k+(pre++c::y).length),#[_,Gf.mpr rfl,_,aS,df,a,t,_,_,"012",rfl,rfl,g_,?_],?_]
          . refine#[?_,congrArg D.str e1,?_]
            . rcases hp with rfl|rfl<;>simp[Str.length]at e3 ⊢<;>lia
            . rw[e2];congr 1;simp;lia
          . rintro _ _⟨rfl,rfl⟩;k_places;exact#[rfl,trivial]
        . have M9:y=[]:=hy.resolve_right λq=>z (decide_eq_true q.1);subst M9;exact#[rfl,by rw[Gx];rfl]
      . rintro _ _⟨rfl,rfl⟩;k_places;exact#[x,#[hi,by show(pre++c::y).length<=640;lia],hR]
abbrev gx(V:Bx):Prop:=V.MM 4 "shift_from" nS BX
def Fy(T:V.T "shift_from" nR nS)(MN:pP V)(uC:cE V):gx V:=by
 refine Tx.okM T sc_shift_from (λds M R RX h=>?_) (λf cdv A outer s H E J hr hx=>⟨_,((aq (aM 1 sc_shift_from.nd (aK MN hx hr (ay (ac (aa 0) ae))))
   (aq (bE (aQ (CalMth.one uC) hx hr (ag (aa 0)) (ay (ac aw ae))))
   (av (aF (sU (az (ag (aa 1)) (az (aK MN hx hr (ay (ac (aa 0) ae))) aU)))))))),λds M R RX d9 h=>?_⟩)
 .obtain⟨_,_,_,_,_,_,_,rfl,_⟩:=h;rfl
 .obtain⟨a,t,k,x,y,e,l,rfl,rfl,gt,hy,he,d5,hR⟩:=h;refine#[λd M'=>d=.int x/\M'=RdM a t (k+(numL x).length),#[a,t,k,x,44,_,rfl,rfl,gt,.inl rfl,d5,rfl,rfl],?_];rintro _ _⟨rfl,rfl⟩;k_places;have d6:=d5.app;exact#[_,Gf.mpr rfl,_,aS,cj,a,t,_,44,_,",",rfl,rfl,d6,Ku,a,t,_,y,e,l,rfl,rfl,hy,he,d6.next,Kv,hR]
abbrev jj(V:Bx):Prop:=V.D 1 "levelled" nV A8
def Fz(T:V.T "levelled" nU nV):jj V:=by
 refine Tx.okDW T sc_levelled (λds R h=>?_) (λf cdv A outer s H E J hr=>⟨_,((ai (fR PassesOwn.never (cr (af (aa 1) ad) ad) (ai (am 2 sc_levelled.nd (yh (af (aa 0) ad) (af (aa 1) ad)))
    (ai (am 3 sc_levelled.nd (aL (ac (bq (af (aa 0) ad) (ax (aa 2) (af (aa 1) ad))) (ac (bq (af (aa 0) ad) (ax (aa 2) (af (aa 1) ad))) ae))))
    (ai (am 0 sc_levelled.nd (aa 1))
    (ar (am 1 sc_levelled.nd (aa 3)))))))
   (ai (fO (eo (af (aa 0) ad) ad) (ar (am 0 sc_levelled.nd (aL (ac (cb (af (aa 0) ad)) (ac (cb (af (aa 0) ad)) ae))))) bj)
   (ar (aE (aL (ac (aa 0) (ac (aa 1) ae)))))))),λds R h=>?_⟩)
 .obtain⟨a,b,c,d,rfl,_⟩:=h;rfl
 .obtain⟨a,b,c,d,rfl,hb,hd,hR⟩:=h;refine#[λm z=>∃(f0 f1 s0 s1:Int) (t r:Option D),z=[be (.tup [.int f0,.int f1]),be (.tup [.int s0,.int s1]),t,r]/\Uni a b c d f0 f1 s0 s1/\f1.natAbs<4611686018427387904/\s1.natAbs<4611686018427387904/\m=s1.natAbs,#[_,a,b,c,d,q8,q8,rfl,Uni.refl a b c d,hb,hd,rfl],?_];rintro m z⟨f0,f1,s0,s1,t,r,rfl,hu,hf,hs,rfl⟩;k_places;refine#[_,rfl,ite2 (λcc=>?_) (λcc=>?_)]
  .have c':¬s1=0:=by simpa using cc
   obtain⟨g1,g2⟩:=fdm f1 s1 c';refine#[λd=>d=.int (f1.fdiv s1),#[_,rfl,_,rfl,#[c',hs],rfl],?_];rintro _ rfl;k_places;refine#[λd=>d=.tup [.int (f0-f1.fdiv s1*s0),.int (f1-f1.fdiv s1*s1)],#[_,rfl,_,rfl,.inl #[Kn,Kn],_,rfl,_,rfl,.inl #[Kn,Kn],Kv,rfl],?_];rintro _ rfl;k_places;refine#[λd=>d=.tup [.int s0,.int s1],rfl,?_];rintro _ rfl;k_places;refine#[λd=>d=.tup [.int (f0-f1.fdiv s1*s0),.int (f1-f1.fdiv s1*s1)],rfl,?_];rintro _ rfl;k_places;exact#[_,g1,s0,s1,_,_,_,_,rfl,hu.step _,hs,Kn,rfl]
  .have c':s1=0:=by simpa using cc
   subst c';refine#[λz=>∃p0 p1:Int,z=[be (.tup [.int p0,.int p1]),be (.tup [.int s0,.int 0]),t,r]/\Lev a b c d p0 p1 s0,#[_,rfl,ite2 (λe=>?_) (λe=>?_)],?_]
   .have e':=of_decide_eq_true e;refine#[λd=>d=.tup [.int (-f0),.int (-f1)],#[_,rfl,_,rfl,Kv,rfl],?_];rintro _ rfl;k_places;exact#[_,_,rfl,Kn,hu.neg]
   .have e':=of_decide_eq_false (GO.mpr e);exact#[_,_,rfl,Kn,hu]
   .rintro _⟨p0,p1,rfl,hL⟩;k_places;exact#[Kv,hR p0 p1 s0 hL]
abbrev jk(V:Bx):Prop:=V.D 2 "spread" nX A9
def FA(T:V.T "spread" nW nX)(uP:V.m "abs")(Lc:jj V):jk V:=by
 refine Tx.okDW T sc_spread (λds R h=>?_) (λf cdv A outer s H E J hr=>⟨_,((ai (bw (bz (ax (af (aa 0) ad) (af (aa 1) ad)) (ax (af (aa 0) ad) (af (aa 1) ad))) (ar (aE dG)) bj)
   (ai (am 2 sc_spread.nd (aD Lc hr (ac (aa 0) (ac (aa 1) ae))))
   (ai (am 3 sc_spread.nd (eg uP (ac (af (af (aa 2) ad) ad) ae)))
   (ar (aE (aL (ac (aa 3) (ac (af (af (aa 2) ad) ad) (ac (aC (af (af (aa 2) ad) ad) (aa 3)) ae)))))))))),λds R h=>?_⟩)
 .obtain⟨a,b,c,d,rfl,_⟩:=h;rfl
 .obtain⟨a,b,c,d,rfl,ha,hb,hc,hd,hN,hR⟩:=h;refine#[_,rfl,_,rfl,.inl #[Kn,Kn],_,rfl,_,rfl,.inl #[Kn,Kn],ite2 (λe=>?_) (λe=>?_)]
  .exact hN (of_decide_eq_true e)
  .have e':=of_decide_eq_false (GO.mpr e);refine#[λx=>∃p0 p1 q0:Int,x=.tup [.tup [.int p0,.int p1],.tup [.int q0,.int 0]]/\Lev a b c d p0 p1 q0,#[a,b,c,d,rfl,hb,hd,λp0 p1 q0 hL=>#[p0,p1,q0,rfl,hL]],?_];rintro _⟨p0,p1,q0,rfl,hL⟩;k_places;have hF:=fY e' hL;refine#[λx=>x=.int (if q0<0 then -q0 else q0),#[_,rfl,_,rfl,rfl],?_];rintro _ rfl;k_places;exact#[_,rfl,_,rfl,_,rfl,_,rfl,hF.1,Kv,hR e' _ _ _ hF]
abbrev pQ(V:Bx):Prop:=V.MM 2 "hues_by_home" nZ B4
def FC(T:V.T "hues_by_home" nY nZ)(KI:V.m "enumerate")(w9:fB V)(uR:V.gs "SIGNS" ".123456"):pQ V:=by
 refine Tx.okM T sc_hues_by_home (λds M R RX h=>?_) (λf cdv A outer s H E J hr hx=>⟨_,((aq (aM 2 sc_hues_by_home.nd Aw)
   (aq (Am PassesOwn.leaving rfl KI (ag (aa 0)) (dg_cons 3 sc_hues_by_home.nd (dg_cons 4 sc_hues_by_home.nd eK)) (av (An PassesOwn.leaving rfl KI (ag (aa 4)) (dg_cons 5 sc_hues_by_home.nd (dg_cons 6 sc_hues_by_home.nd eK)) (av (kH (bC (cr (aa 6) aw)) (av (bE (Az (qW hr) (ag (aa 2)) (ay (ac (aD w9 hr (ac (aa 1) (ac (aa 5) (ac (aa 3) ae)))) (ac (sL (eQ uR) (ac (aa 6) ae)) ae)))))) bb)))))
   (tm 2 (av (aF (ag (aa 2)))))))),λds M R RX d9 h=>?_⟩)
 .obtain⟨_,_,_,_,_,rfl,_⟩:=h;rfl
 .obtain⟨L,wd,w,h,s,rfl,hL,hw,hh,z6,hs,g7,hR⟩:=h;have Rh:=hL.w8;refine#[λd M'=>∃p,p∉aj M/\d=.ptr p/\M'=(p,.dti [])::M,λp hp=>#[p,hp,rfl,rfl],?_];rintro _ _⟨p,hp,rfl,rfl⟩;k_places;refine#[λj z M'=>∃(kv:List ((Int×Int)×Int)) (x3 x4 x5 x6:Option D),hAll w h s j (L.drop j) kv=hAll w h s 0 L []/\kv.length<=8*j/\z=[be (.lst (lstD L)),be (.tup [.int w,.int h,.int s]),be (.ptr p),x3,x4,x5,x6]/\M'=(p,.dti kv)::M,#[[],q8,q8,q8,q8,rfl,Kv,rfl,rfl],?_,?_]
  .rintro j d z M' hd⟨kv,x3,x4,x5,x6,e1,Rp,rfl,rfl⟩;k_places;obtain⟨x,gt,rfl⟩:=B2 hd;have hj:j<L.length:=(Gq.mp gt).1;have Sb:=hL.many;obtain⟨xl,xs⟩:=hL.each x (HS gt);rw[uv gt]at e1;refine#[B1 xs,λi z M'=>∃(J3:List ((Int×Int)×Int)) (x5 x6:Option D),hRow w h s j i (x.drop i) J3=hRow w h s j 0 x kv/\J3.length<=8*j+i/\i<=x.length/\z=[be (.lst (lstD L)),be (.tup [.int w,.int h,.int s]),be (.ptr p),be (.int j),be (.str #[x.toArray]),x5,x6]/\M'=(p,.dti J3)::M,#[kv,x5,x6,rfl,Kn,GI _,rfl,rfl],?_,?_]
   .rintro i d z M' Mi⟨J3,y5,y6,e2,OI,hi,rfl,rfl⟩;k_places;obtain⟨c,hc,rfl⟩:=B3 Mi;have J1:i<x.length:=(Gq.mp hc).1;have sc:=xs c (HS hc);rw[uv hc,hRow]at e2;refine#[λz M'=>∃LU:List ((Int×Int)×Int),hRow w h s j (i+1) (x.drop (i+1)) LU=hRow w h s j 0 x kv/\LU.length<=8*j+(i+1)/\z=[be (.lst (lstD L)),be (.tup [.int w,.int h,.int s]),be (.ptr p),be (.int j),be (.str #[x.toArray]),be (.int i),be (.str #[[c].toArray])]/\M'=(p,.dti LU)::M,?_,?_]
    .show if(!decide ((#[[c].toArray]:C_)="."))=true then _ else _;by_cases r_:c=46
     .subst r_;rw[if_pos rfl]at e2;exact#[J3,e2,Kn,rfl,rfl]
     .rw[if_neg r_]at e2;refine ifT (by simp[one_sign,r_]) ?_;have c6:49<=c/\c<=54:=by unfold aZ at sc;lia
      obtain⟨ix,b7,ho,Nl⟩:=B0 c6;refine#[#[_,cM],w,h,s,i,j,rfl,hw,hh,z6,hs,g7,ix,b7,ho,_,cM,by have:=uu J3 (hmX w h s i j) ((j:Int)%h) ((c:Int)-48);lia,λv=>?_];rw[ut,Nl];exact#[_,e2,by have:=uu J3 (hmX w h s i j) ((j:Int)%h) ((c:Int)-48);lia,rfl,rfl]
    .rintro z M'⟨LU,e3,h3,rfl,rfl⟩;k_places;exact#[LU,_,_,e3,h3,J1,rfl,rfl]
   .rintro z M' hz;rw[eU,fq]at hz;obtain⟨J3,y5,y6,e2,OI,hi,rfl,rfl⟩:=hz;rw[JM]at e2;refine#[J3,_,_,_,_,?_,Kn,rfl,rfl];rw[<-e1,hAll,<-e2];rfl
  .rintro z M' hz;rw[show(lstD L).length=L.length by simp[lstD]]at hz;obtain⟨kv,x3,x4,x5,x6,e1,Rp,rfl,rfl⟩:=hz;rw[JM]at e1;refine#[_,cM,?_];rw[kZ];have e2:kv=hAll w h s 0 L []:=e1;rw[<-e2]at hR;exact hR
abbrev pR(V:Bx):Prop:=V.M 3 "Motif" og B5
def FD(T:V.Ti "Motif" "Motif.__init__" oa og)(Ld:jk V)(OJ:pQ V)(OK:V.a "Motif" "place")(uM:V.a "Motif" "shifts")(Kc:V.a "Motif" "hues"):pR V:=by
 refine Txi.okIM T DL (λds R h=>?_) (λf cdv A outer s H E J hr hx=>⟨_,((aq (bM OK (ag (aa 0)) (ag (aa 1)))
   (aq (bM uM (ag (aa 0)) (ag (aD Ld hr (ac (aa 3) (ac (aa 4) ae)))))
   (av (bM Kc (ag (aa 0)) (fW (sR (aA uM (ag (aa 0))) (ag dG)) Av (aK OJ hx hr (az (ag (aa 2)) (az (aA uM (ag (aa 0))) aU))))))))),λa ds R KN h=>?_⟩)
 .obtain⟨_,_,_,_,_,_,_,rfl,_⟩:=h;rfl
 .obtain⟨k,L,wd,x,y,u,v,rfl,hL,gt,hy,hu,hv,hn,h1⟩:=h;unfold B12 at gt hy hu hv;refine#[_,dN,by show(0:Nat)<1000;decide,?_];rw[hZ,B6];refine#[x,y,u,v,rfl,Kn,Kn,Kn,Kn,λe=>absurd e hn,λe w h s F=>?_];refine#[_,dN,N9,?_];rw[hZ,B7];refine#[_,dN,_,uw,?_];obtain⟨b1,b2,b3⟩:=F.bd (N:=288) (by
   have m1:=bN (a:=x) (d:=v) (A:=12) (B:=12) Kn Kn;have m2:=bN (a:=y) (d:=u) (A:=12) (B:=12) Kn Kn;lia)
  refine#[_,dN,_,uw,L,wd,w,h,s,rfl,hL,F.1,F.2.1,Kn,F.2.2.1,Kn,?_];refine#[_,dN,by show(2:Nat)<1000;decide,?_];rw[hZ,B8];exact#[_,rfl,h1 w h s F]
abbrev jl(V:Bx):Prop:=V.MM 5 "motif_from" oi Cg
def FE(T:V.T "motif_from" oh oi)(OL:pO V)(J4:gx V)(uN:V.a "Reading" "place")(OM:pR V)(uC:cE V):jl V:=by
 refine Tx.okM T sc_motif_from (λds M R RX h=>?_) (λf cdv A outer s H E J hr hx=>⟨_,((aq (aM 1 sc_motif_from.nd (aA uN (ag (aa 0))))
   (aq (bE (aQ (CalMth.one uC) hx hr (ag (aa 0)) (ay (ac aw ae))))
   (aq (aM 2 sc_motif_from.nd (aK OL hx hr (ay (ac (aa 0) ae))))
   (aq (bE (aQ (CalMth.one uC) hx hr (ag (aa 0)) (ay (ac aw ae))))
   (aq (aM 3 sc_motif_from.nd (aK J4 hx hr (ay (ac (aa 0) ae))))
   (aq (bE (aQ (CalMth.one uC) hx hr (ag (aa 0)) (ay (ac aw ae))))
   (aq (aM 4 sc_motif_from.nd (aK J4 hx hr (ay (ac (aa 0) ae))))
   (aq (bE (aQ (CalMth.one uC) hx hr (ag (aa 0)) (ay (ac aw ae))))
   (av (aF (ag (kq OM hr (ac (aa 1) (ac (aa 2) (ac (aa 3) (ac (aa 4) ae))))))))))))))))),λds M R RX d9 h=>?_⟩)
 .obtain⟨_,_,_,_,_,_,_,_,_,rfl,_⟩:=h;rfl
 .obtain⟨g,t,k,L,a,b,c,d,l,rfl,rfl,d5,⟨LV,ha,hb,hc,hd,hn⟩,hR⟩:=h;obtain⟨w,hL⟩:=Cf LV;have d5:At t k (91::(rowsL (L.map cs)++59::(numL a++44::(numL b++59::(numL c++44::(numL d++93::l)))))):=by simpa[motL]using d5
  have c5:k+(motL (L.map cs) a b c d).length=k+1+(rowsL (L.map cs)).length+1+(numL a).length+1+(numL b).length+1+(numL c).length+1+(numL d).length+1:=by simp[motL];lia
  rw[c5]at hR;have d6:=d5.next;have g_:=d6.app;have n8:=g_.next;have LW:At t (k+1+(rowsL (L.map cs)).length+1+(numL a).length+1+(numL b).length) _:=n8.app.next.app;have LX:=LW.next;have ON:At t (k+1+(rowsL (L.map cs)).length+1+(numL a).length+1+(numL b).length+1+(numL c).length+1+(numL d).length) _:=LX.app.next.app;refine#[λv M'=>v=.int k/\M'=RdM g t k,#[_,aS,_,fj,rfl,rfl],?_];rintro _ _⟨rfl,rfl⟩;k_places;refine#[_,Gf.mpr rfl,_,aS,cj,g,t,_,91,_,"[",rfl,rfl,d5,Ku,?_];refine#[λv M'=>v=.lst (lstD (L.map cs))/\M'=RdM g t (k+1+(rowsL (L.map cs)).length),#[g,t,_,_,w,_,rfl,rfl,hL,d6,rfl,rfl],?_];rintro _ _⟨rfl,rfl⟩;k_places;refine#[_,Gf.mpr rfl,_,aS,cj,g,t,_,59,_,";",rfl,rfl,g_,Ku,?_];refine#[λv M'=>v=.tup [.int a,.int b]/\M'=RdM g t (k+1+(rowsL (L.map cs)).length+1+(numL a).length+1+(numL b).length),#[g,t,_,a,b,59,_,rfl,rfl,ha,hb,.inr (.inl rfl),n8,rfl,rfl],?_];rintro _ _⟨rfl,rfl⟩;k_places;refine#[_,Gf.mpr rfl,_,aS,cj,g,t,_,59,_,";",rfl,rfl,LW,Ku,?_];refine#[λv M'=>v=.tup [.int c,.int d]/\M'=RdM g t (k+1+(rowsL (L.map cs)).length+1+(numL a).length+1+(numL b).length+1+(numL c).length+1+(numL d).length),#[g,t,_,c,d,93,_,rfl,rfl,hc,hd,.inr (.inr (.inr rfl)),LX,rfl,rfl],?_];rintro _ _⟨rfl,rfl⟩;k_places;exact#[_,Gf.mpr rfl,_,aS,cj,g,t,_,93,_,"]",rfl,rfl,ON,Ku,k,_,w,a,b,c,d,rfl,hL,ha,hb,hc,hd,hn,λw h s F=>hR _ #[k,w,h,s,rfl,F]]
abbrev jm(V:Bx):Prop:=V.M 1 "Mirror" ol Cb
def FF(T:V.Ti "Mirror" "Mirror.__init__" oj ol)(uY:V.a "Mirror" "form"):jm V:=by
 refine Txi.okI T DM (λds R h=>?_) (λf cdv A outer s H E J hr=>#[_,((bK uY (aa 1) dJ)),λds R h=>?_])
 .obtain⟨_,_,rfl,_⟩:=h;rfl
 .obtain⟨x,fs,rfl,hR⟩:=h;exact#[Ku,hR]
abbrev jn(V:Bx):Prop:=V.M 1 "Turn" oq Cd
def FG(T:V.Ti "Turn" "Turn.__init__" om oq)(uZ:V.a "Turn" "form"):jn V:=by
 refine Txi.okI T DN (λds R h=>?_) (λf cdv A outer s H E J hr=>#[_,((bK uZ (aa 1) dJ)),λds R h=>?_])
 .obtain⟨_,_,rfl,_⟩:=h;rfl
 .obtain⟨x,fs,rfl,hR⟩:=h;exact#[Ku,hR]
abbrev jp(V:Bx):Prop:=V.M 1 "Over" ou B9
def FH(T:V.Ti "Over" "Over.__init__" ot ou)(uU:V.a "Over" "above")(uT:V.a "Over" "below"):jp V:=by
 refine Txi.okI T DO (λds R h=>?_) (λf cdv A outer s H E J hr=>#[_,((bK uU (aa 1) (bK uT (aa 2) dJ))),λds R h=>?_])
 .obtain⟨_,_,_,_,rfl,_⟩:=h;rfl
 .obtain⟨x,y,fs,gs,rfl,hR⟩:=h;refine#[Ku,N9,?_];show R (putD _ _ (putD _ _ []));rw[putD,putD,if_neg Kr];exact hR
abbrev jq(V:Bx):Prop:=V.M 1 "Shifted" oy Ca
def FI(T:V.Ti "Shifted" "Shifted.__init__" ow oy)(p_:V.a "Shifted" "form")(Ke:V.a "Shifted" "x")(Kd:V.a "Shifted" "y"):jq V:=by
 refine Txi.okI T DP (λds R h=>?_) (λf cdv A outer s H E J hr=>#[_,((bK p_ (aa 1) (bK Ke (aa 2) (bK Kd (aa 3) dJ)))),λds R h=>?_])
 .obtain⟨_,_,_,_,rfl,_⟩:=h;rfl
 .obtain⟨x,fs,a,b,rfl,hR⟩:=h;refine#[Ku,N9,by show(2:Nat)<1000;decide,?_];show R (putD _ _ (putD _ _ (putD _ _ [])));rw[show putD ("x":C_) (.int a) (putD ("form":C_) (.obj x fs) [])=([("form",.obj x fs),("x",.int a)]:List (C_×D))by rw[putD,putD,if_neg Kr];rfl,putD,if_neg Kr,putD,if_neg Kr];exact hR
abbrev jr(V:Bx):Prop:=V.M 1 "Rehue" oA Ce
def FJ(T:V.Ti "Rehue" "Rehue.__init__" oz oA)(uX:V.a "Rehue" "form")(Kf:V.a "Rehue" "old")(Kg:V.a "Rehue" "new"):jr V:=by
 refine Txi.okI T DQ (λds R h=>?_) (λf cdv A outer s H E J hr=>#[_,((bK uX (aa 1) (bK Kf (aa 2) (bK Kg (aa 3) dJ)))),λds R h=>?_])
 .obtain⟨_,_,_,_,rfl,_⟩:=h;rfl
 .obtain⟨x,fs,a,b,rfl,hR⟩:=h;refine#[Ku,N9,by show(2:Nat)<1000;decide,?_];show R (putD _ _ (putD _ _ (putD _ _ [])));rw[show putD ("old":C_) (.int a) (putD ("form":C_) (.obj x fs) [])=([("form",.obj x fs),("old",.int a)]:List (C_×D))by rw[putD,putD,if_neg Kr];rfl,putD,if_neg Kr,putD,if_neg Kr];exact hR
def FK(hL:5<=n)(T:V.T "over_from" iD gl)(uJ:V.MM n "form_from" cC (dg j))(LY:jp V)(uC:cE V):V.MM (n+1) "over_from" gl (uy j):=by
 refine Tx.okM T sc_over_from (λds M R RX h=>?_) (λf cdv A outer s H E J hr hx=>⟨_,((aq (aM 2 sc_over_from.nd (aK (hn:=Lg) uJ hx hr (ay (ac (aa 0) (ac (aa 1) ae)))))
   (aq (bE (aQ (hn:=Lg) (CalMth.one uC) hx hr (ag (aa 0)) (ay (ac aw ae))))
   (aq (aM 3 sc_over_from.nd (aK (hn:=Lg) uJ hx hr (ay (ac (aa 0) (ac (aa 1) ae)))))
   (aq (bE (aQ (hn:=Lg) (CalMth.one uC) hx hr (ag (aa 0)) (ay (ac aw ae))))
   (av (aF (ag (kq (hn:=Lg) LY hr (ac (aa 2) (ac (aa 3) ae))))))))))),λds M R RX d9 h=>?_⟩)
 .obtain⟨_,_,_,_,_,_,_,rfl,_⟩:=h;rfl
 .obtain⟨a,t,k,p,q,l,d,rfl,rfl,d5,KJ,JY,hp,hq,t7,Rq,hR⟩:=h;have d6:=d5.app;have g_:=d6.next;have n8:=g_.app;refine#[λv M'=>FormOf p v/\M'=RdM a t (k+p.tl.length),#[a,t,k,p,_,d,rfl,rfl,d5,KJ,JY,hp,t7,λv h=>#[h,rfl]],?_];rintro v _⟨hv,rfl⟩;k_places;obtain⟨fs,rfl,_⟩:=hv.objm;refine#[_,Gf.mpr rfl,_,aS,cj,a,t,_,124,_,"|",rfl,rfl,d6,Ku,?_];refine#[λv M'=>FormOf q v/\M'=RdM a t (k+p.tl.length+1+q.tl.length),#[a,t,_,q,_,d,rfl,rfl,g_,KJ,JY,hq,Rq,λv h=>#[h,rfl]],?_];rintro v _⟨P1,rfl⟩;k_places;obtain⟨gs,rfl,_⟩:=P1.objm;exact#[_,Gf.mpr rfl,_,aS,cj,a,t,_,41,_,")",rfl,rfl,n8,Ku,_,_,_,_,rfl,hR _ _ hv P1]
def FL(hL:5<=n)(T:V.T "shifted_from" iE gm)(J4:gx V)(uJ:V.MM n "form_from" cC (dg j))(LZ:jq V)(uC:cE V):V.MM (n+1) "shifted_from" gm (uz j):=by
 refine Tx.okM T sc_shifted_from (λds M R RX h=>?_) (λf cdv A outer s H E J hr hx=>⟨_,((aq (aM 2 sc_shifted_from.nd (aK (hn:=Lg) J4 hx hr (ay (ac (aa 0) ae))))
   (aq (bE (aQ (hn:=Lg) (CalMth.one uC) hx hr (ag (aa 0)) (ay (ac aw ae))))
   (av (aF (gY (hn:=Lg) LZ hr (az (aK (hn:=Lg) uJ hx hr (ay (ac (aa 0) (ac (aa 1) ae)))) (az (ag (af (aa 2) ad)) (az (ag (af (aa 2) ad)) aU))))))))),λds M R RX d9 h=>?_⟩)
 .obtain⟨_,_,_,_,_,_,_,_,rfl,_⟩:=h;rfl
 .obtain⟨a,t,k,x,y,p,l,d,rfl,rfl,d5,KJ,JY,gt,hy,hp,t7,hR⟩:=h;have d6:At t (k+(numL x).length+1+(numL y).length) _:=d5.app.next.app;refine#[λv M'=>v=.tup [.int x,.int y]/\M'=RdM a t (k+(numL x).length+1+(numL y).length),#[a,t,_,x,y,58,_,rfl,rfl,gt,hy,.inr (.inr (.inl rfl)),d5,rfl,rfl],?_];rintro _ _⟨rfl,rfl⟩;k_places;refine#[_,Gf.mpr rfl,_,aS,cj,a,t,_,58,_,":",rfl,rfl,d6,Ku,?_];refine#[a,t,_,p,l,d,rfl,rfl,d6.next,KJ,JY,hp,t7,λv h=>?_];obtain⟨fs,rfl,_⟩:=h.objm;exact#[_,rfl,_,rfl,_,_,_,_,rfl,hR _ h]
def FM(hL:5<=n)(T:V.T "rehue_from" iF gq)(uF:V.m "int")(uJ:V.MM n "form_from" cC (dg j))(L4:jr V)(uC:cE V):V.MM (n+1) "rehue_from" gq (va j):=by
 refine Tx.okM T sc_rehue_from (λds M R RX h=>?_) (λf cdv A outer s H E J hr hx=>⟨_,((aq (aM 2 sc_rehue_from.nd (sW uF (az (aQ (hn:=Lg) (CalMth.one uC) hx hr (ag (aa 0)) (ay (ac aw ae))) aU)))
   (aq (aM 3 sc_rehue_from.nd (sW uF (az (aQ (hn:=Lg) (CalMth.one uC) hx hr (ag (aa 0)) (ay (ac aw ae))) aU)))
   (av (aF (gY (hn:=Lg) L4 hr (az (aK (hn:=Lg) uJ hx hr (ay (ac (aa 0) (ac (aa 1) ae)))) (az (ag (aa 2)) (az (ag (aa 3)) aU))))))))),λds M R RX d9 h=>?_⟩)
 .obtain⟨_,_,_,_,_,_,_,_,rfl,_⟩:=h;rfl
 .obtain⟨a,t,k,f,g,p,l,d,rfl,rfl,d5,KJ,JY,hf,hg,hp,t7,hR⟩:=h;have P2:∀{f:Int},1<=f/\f<=6->PySem.intText? (#[[(48+f).toNat].toArray]:C_)=be f:=λ{f} h=>by
   have:=digit_of (c:=(48+f).toNat) Kn;rw[show(((48+f).toNat:Nat):Int)-48=f by lia]at this;exact this
  refine#[λv M'=>v=.int f/\M'=RdM a t (k+1),#[_,Gf.mpr rfl,_,aS,cj,a,t,_,_,_,"123456",rfl,rfl,d5,ux hf,_,#[P2 hf,by show(1:Nat)<=640;decide],rfl,rfl],?_];rintro _ _⟨rfl,rfl⟩;k_places;refine#[λv M'=>v=.int g/\M'=RdM a t (k+2),#[_,Gf.mpr rfl,_,aS,cj,a,t,_,_,_,"123456",rfl,rfl,d5.next,ux hg,_,#[P2 hg,by show(1:Nat)<=640;decide],rfl,rfl],?_];rintro _ _⟨rfl,rfl⟩;k_places;refine#[a,t,_,p,l,d,rfl,rfl,d5.next.next,KJ,JY,hp,t7,λv h=>?_];obtain⟨fs,rfl,_⟩:=h.objm;exact#[_,_,_,_,rfl,hR _ h]
def FN(hL:5<=n)(T:V.T "form_from" iG cC)(Rr:V.MM n "over_from" gl (uy j))(Rs:V.MM n "shifted_from" gm (uz j))(uJ:V.MM n "form_from" cC (dg j))(Rt:V.MM n "rehue_from" gq (va j))(L5:jl V)(L6:V.gi "DEEP" 5)(L7:jm V)(L8:jn V)(uI:dA V):V.MM (n+1) "form_from" cC (dg (j+1)):=by
 refine Tx.okM T sc_form_from (λds M R RX h=>?_) (λf cdv A outer s H E J hr hx=>⟨_,((aq (aM 2 sc_form_from.nd (fW (bC (eo (aa 1) (cS L6))) (aQ (hn:=Lg) (CalMth.one uI) hx hr (ag (aa 0)) (ay (ac aw ae))) (ag aw)))
   (aq (bi (bC (bz (aa 2) aw)) (av (aF (aK (hn:=Lg) Rr hx hr (ay (ac (aa 0) (ac (ao (aa 1) ad) ae)))))) bb)
   (aq (bi (bC (bz (aa 2) aw)) (av (aF (aK (hn:=Lg) Rs hx hr (ay (ac (aa 0) (ac (ao (aa 1) ad) ae)))))) bb)
   (aq (bi (bC (bz (aa 2) aw)) (av (aF (gY (hn:=Lg) L7 hr (az (aK (hn:=Lg) uJ hx hr (ay (ac (aa 0) (ac (ao (aa 1) ad) ae)))) aU)))) bb)
   (aq (bi (bC (bz (aa 2) aw)) (av (aF (gY (hn:=Lg) L8 hr (az (aK (hn:=Lg) uJ hx hr (ay (ac (aa 0) (ac (ao (aa 1) ad) ae)))) aU)))) bb)
   (aq (bi (bC (bz (aa 2) aw)) (av (aF (aK (hn:=Lg) Rt hx hr (ay (ac (aa 0) (ac (ao (aa 1) ad) ae)))))) bb)
   (av (aF (aK (hn:=Lg) L5 hx hr (ay (ac (aa 0) ae)))))))))))),λds M R RX d9 h=>?_⟩)
 .obtain⟨_,_,_,_,_,_,rfl,_⟩:=h;rfl
 .obtain⟨a,t,k,p,l,d,rfl,rfl,d5,KJ,JY,hp,t7,hR⟩:=h;refine#[λv M'=>v=.str (mayS "(smth" (p.tl++l))/\M'=RdM a t (k+mayN "(smth" (p.tl++l)),?_,?_]
  .show if decide ((d:Int)<5)=true then _ else _
   refine ite2 (λc=>?_) (λc=>?_)
   .exact#[_,Gf.mpr rfl,_,aS,df,a,t,_,_,"(smth",rfl,rfl,d5,rfl,rfl]
   .have c':¬((d:Int)<5):=λz=>c (decide_eq_true z);cases p with
    |mot L a b c d=>exact#[rfl,rfl]
    |_=>rw[Pat.depth]at t7;lia
  rintro _ _⟨rfl,rfl⟩;k_places;cases p with
  |mot L x y u v=>exact#[a,t,k,L,x,y,u,v,l,rfl,rfl,d5,hp,hR]
  |over p q=>
   rw[Pat.depth]at t7;have e:k+(Pat.over p q).tl.length=k+1+p.tl.length+1+q.tl.length+1:=by rw[Pat.tl];simp;lia
   have d6:At t (k+1) (p.tl++124::(q.tl++41::l)):=by have:=d5.next;simpa using this
   rw[e]at hR;exact#[a,t,k+1,p,q,l,d+1,rfl,rfl,d6,Kn,Kn,hp.1,hp.2,Kn,Kn,λu u' h1 h2=>hR _ #[u,u',rfl,h1,h2]]
  |sh x y p=>
   rw[Pat.depth]at t7;have e:k+(Pat.sh x y p).tl.length=k+1+(numL x).length+1+(numL y).length+1+p.tl.length:=by rw[Pat.tl];simp;lia
   have d6:At t (k+1) (numL x++44::(numL y++58::(p.tl++l))):=by have:=d5.next;simpa using this
   rw[e]at hR;exact#[a,t,k+1,x,y,p,l,d+1,rfl,rfl,d6,Kn,Kn,hp.1,hp.2.1,hp.2.2,Kn,λu h1=>hR _ #[u,rfl,h1]]
  |mir p=>
   rw[Pat.depth]at t7;have e:k+(Pat.mir p).tl.length=k+1+p.tl.length:=by rw[Pat.tl];simp;lia
   rw[e]at hR;refine#[a,t,k+1,p,l,d+1,rfl,rfl,d5.next,Kn,Kn,hp,Kn,λu h1=>?_];obtain⟨fs,rfl,_⟩:=h1.objm;exact#[_,_,rfl,hR _ #[_,rfl,h1]]
  |tur p=>
   rw[Pat.depth]at t7;have e:k+(Pat.tur p).tl.length=k+1+p.tl.length:=by rw[Pat.tl];simp;lia
   rw[e]at hR;refine#[a,t,k+1,p,l,d+1,rfl,rfl,d5.next,Kn,Kn,hp,Kn,λu h1=>?_];obtain⟨fs,rfl,_⟩:=h1.objm;exact#[_,_,rfl,hR _ #[_,rfl,h1]]
  |hue f g p=>
   rw[Pat.depth]at t7;have e:k+(Pat.hue f g p).tl.length=k+1+2+p.tl.length:=by rw[Pat.tl,hueL hp.1,hueL hp.2.1];simp;lia
   have d6:At t (k+1) ((48+f).toNat::(48+g).toNat::(p.tl++l)):=by
    have:=d5.next;rw[hueL hp.1,hueL hp.2.1]at this;simpa using this
   rw[e]at hR;exact#[a,t,k+1,f,g,p,l,d+1,rfl,rfl,d6,Kn,Kn,hp.1,hp.2.1,hp.2.2,Kn,λu h1=>hR _ #[u,rfl,h1]]
def FO(Ru:V.T "over_from" iD gl)(Rv:V.T "shifted_from" iE gm)(Rw:V.T "rehue_from" iF gq)(P4:V.T "form_from" iG cC)(LY:jp V)(uC:cE V)(J4:gx V)(LZ:jq V)(uF:V.m "int")(L4:jr V)(L5:jl V)(L6:V.gi "DEEP" 5)(L7:jm V)(L8:jn V)(uI:dA V):∀j,V.MM (5+2*j) "form_from" cC (dg j):=by
 intro j;induction j with
 |zero=>exact CalMM.never P4 (λds M R RX=>Ch)
 |succ j ih=>
  have L9:=ih;have OO:=FK (n:=5+2*j) (j:=j) Lg Ru L9 LY uC;have OP:=FL (n:=5+2*j) (j:=j) Lg Rv J4 L9 LZ uC;have OQ:=FM (n:=5+2*j) (j:=j) Lg Rw uF L9 L4 uC;have L9:=Cal.mono ih (Hl _);exact FN (n:=5+2*j+1) (j:=j) Lg P4 OO OP L9 OQ L5 L6 L7 L8 uI
abbrev pS(V:Bx):Prop:=V.M 1 "Reading" oC BR
def FP(T:V.Ti "Reading" "Reading.__init__" oB oC)(Ki:V.a "Reading" "text")(uN:V.a "Reading" "place"):pS V:=by
 refine Txi.okI T DR (λds R h=>?_) (λf cdv A outer s H E J hr=>#[_,((bK Ki (aa 1) (bK uN ad dJ))),λds R h=>?_])
 .obtain⟨_,rfl,_⟩:=h;rfl
 .obtain⟨t,rfl,hR⟩:=h;refine#[Ku,N9,?_];show R (putD _ _ (putD _ _ []));rw[putD,putD,if_neg Kr];exact hR
abbrev pT(V:Bx):Prop:=V.M 1 "Pattern" oF Cn
def FQ(T:V.Ti "Pattern" "Pattern.__init__" oE oF)(K6:V.a "Pattern" "text")(z9:V.a "Pattern" "shifts")(K7:V.a "Pattern" "form"):pT V:=by
 refine Txi.okI T DU (λds R h=>?_) (λf cdv A outer s H E J hr=>#[_,((bK K6 (aa 1) (bK z9 (aa 2) (bK K7 (aa 3) dJ)))),λds R h=>?_])
 .obtain⟨_,_,_,_,_,_,rfl,_⟩:=h;rfl
 .obtain⟨t,w,h,s,x,fs,rfl,hR⟩:=h;refine#[Ku,N9,by show(2:Nat)<1000;decide,?_];show R (putD _ _ (putD _ _ (putD _ _ [])));rw[show putD ("shifts":C_) (.tup [.int w,.int h,.int s]) (putD ("text":C_) (.str t) [])=([("text",.str t),("shifts",.tup [.int w,.int h,.int s])]:List (C_×D))by rw[putD,putD,if_neg Kr];rfl,putD,if_neg Kr,putD,if_neg Kr];exact hR
abbrev pU(V:Bx):Prop:=V.D 2 "measure" oH Bc
def FR(T:V.T "measure" oG oH)(Lc:jj V):pU V:=by
 refine Tx.okDW T sc_measure (λds R h=>?_) (λf cdv A outer s H E J hr=>⟨_,((ai (am 2 sc_measure.nd (af (aD Lc hr (ac (aL (ac ad (ac (aa 0) ae))) (ac (aL (ac ad (ac (aa 1) ae))) ae))) ad))
   (ar (aE (aL (ac (af (aa 2) ad) (ac (af (aa 2) ad) ae))))))),λds R h=>?_⟩)
 .obtain⟨x,y,rfl,_⟩:=h;rfl
 .obtain⟨x,y,rfl,hx,hy,hR⟩:=h;refine#[λd=>∃p0 p1:Int,d=.tup [.int p0,.int p1]/\Meas x y p1 p0,#[Kv,Kv,1,x,0,y,rfl,hx,hy,λp0 p1 q0 hL=>#[_,rfl,p0,p1,rfl,tN #[hL.1,hL.2]]],?_];rintro _⟨p0,p1,rfl,hM⟩;k_places;exact#[_,rfl,_,rfl,Kv,hR p1 p0 hM]
abbrev js(V:Bx):Prop:=V.D 3 "met" oJ Bd
def FS(T:V.T "met" oI oJ)(L':pU V):js V:=by
 refine Tx.okDW T sc_met (λds R h=>?_) (λf cdv A outer s H E J hr=>⟨_,((ai (am 2 sc_met.nd (aD L' hr (ac (af (aa 0) ad) (ac (af (aa 1) ad) ae))))
   (ai (am 3 sc_met.nd (aX (ax (af (aa 0) ad) (af (aa 1) ad)) (af (aa 2) ad)))
   (ai (am 4 sc_met.nd (aX (ax (af (aa 0) ad) (af (aa 1) ad)) (af (aD L' hr (ac (af (aa 0) ad) (ac (af (aa 1) ad) ae))) ad)))
   (ai (am 5 sc_met.nd (ax (aX (aa 4) (af (aa 0) ad)) (af (aa 0) ad)))
   (ai (am 6 sc_met.nd (bq (ax (aX (aa 4) (af (aa 1) ad)) (af (aa 1) ad)) (aa 5)))
   (ai (am 7 sc_met.nd (aX (af (aa 2) ad) (af (aD L' hr (ac (af (aa 2) ad) (ac (aa 6) ae))) ad)))
   (ai (am 8 sc_met.nd (ax (aX (ax (aa 7) (aa 6)) (af (aa 2) ad)) (af (aa 2) ad)))
   (ar (aE (aL (ac (aa 3) (ac (ax (aa 4) (aa 7)) (ac (aC (ao (ax (aa 7) (aa 5)) (ax (aa 8) (af (aa 0) ad))) (aa 3)) ae)))))))))))))),λds R h=>?_⟩)
 .obtain⟨_,_,_,_,_,_,rfl,_⟩:=h;rfl
 .obtain⟨w1,h1,s1,w2,h2,s2,rfl,a1,a2,a3,a4,a5,a6,b1,b2,b3,b4,b5,b6,hR⟩:=h;refine#[λd=>∃g u:Int,d=.tup [.int g,.int u]/\Meas w1 w2 g u,#[_,rfl,_,rfl,w1,w2,rfl,Lg,Lg,λg u M=>#[g,u,rfl,M]],?_];rintro _⟨g,u,rfl,M1⟩;k_places;have hg:=M1.pos a1;have N7:=M1.le a1;refine#[λd=>d=.int (w1*w2/g),#[_,rfl,_,rfl,.inl (b64B a1 a2),_,rfl,d30B hg (GX N7 a2),rfl],?_];rintro _ rfl;k_places;refine#[λd=>∃k u':Int,d=.int (h1*h2/k)/\Meas h1 h2 k u',#[_,rfl,_,rfl,.inl (b64B a3 a4),_,rfl,_,rfl,h1,h2,rfl,Lg,Lg,λk u' M=>#[_,rfl,d30B (M.pos a3) (GX (M.le a3) a4),k,u',rfl,M]],?_];rintro _⟨k,u',rfl,M2⟩;k_places;obtain⟨r0,r1,r2,r3,r4,r5⟩:=kS a3 b3 M2;have Rx:h1*h2<=1125899906842624:=by
   have:=bN (a:=h1) (d:=h2) (A:=33554432) (B:=33554432) Lg Lg;omega
  refine#[λd=>d=.int (h1*h2/k/h1*s1),#[_,rfl,d30B a3 a4,_,rfl,.inr (s64B a5 a6 a2),rfl],?_];rintro _ rfl;k_places;refine#[λd=>d=.int (h1*h2/k/h2*s2-h1*h2/k/h1*s1),#[_,rfl,d30B b3 b4,_,rfl,.inr (s64B b5 b6 b2),rfl],?_];rintro _ rfl;k_places;have t1:=bN (a:=h1*h2/k/h1) (d:=s1) (A:=33554432) (B:=33554432) Lg Lg;have t2:=bN (a:=h1*h2/k/h2) (d:=s2) (A:=33554432) (B:=33554432) Lg Lg;refine#[λd=>∃gg q_:Int,d=.int (g/gg)/\Meas g (h1*h2/k/h2*s2-h1*h2/k/h1*s1) gg q_,#[_,rfl,_,rfl,g,_,rfl,Lg,Lg,λgg q_ M=>#[_,rfl,d30B (M.pos hg) (GX (M.le hg) (GX N7 a2)),gg,q_,rfl,M]],?_];rintro _⟨gg,q_,rfl,M3⟩;k_places;have JU:=M3.pos hg;have c1:0<=g/gg:=IL Lg Lg;have c2:g/gg<=g:=IM _ Lg;have c4:=AX (c:=g/gg) (gap:=h1*h2/k/h2*s2-h1*h2/k/h1*s1) (N:=2251799813685248) hg c1 c2 Lg;have mr:=kR a1 b1 a3 b3 M1 M2 M3;refine#[λd=>d=.int (g/gg*(h1*h2/k/h2*s2-h1*h2/k/h1*s1)/g*u),#[.inl #[Lg,Lg],_,rfl,#[Lg,Lg],_,rfl,.inl #[Lg,Lg],rfl],?_];rintro _ rfl;k_places;obtain⟨w0,w3,_⟩:=kS a1 b1 M1;have Ry:w1*w2<=1125899906842624:=by
   have:=bN (a:=w1) (d:=w2) (A:=33554432) (B:=33554432) Lg Lg;omega
  have Px:=bN (a:=h1*h2/k) (d:=g/gg) (A:=1125899906842624) (B:=33554432) Lg Lg;exact#[.inl #[Lg,Lg],.inl #[Lg,Lg],_,rfl,.inr #[Lg,Lg],w0,Kv,hR _ _ _ _ mr]
abbrev jt(V:Bx):Prop:=V.D 1 "mirrored" oM Ba
def FT(T:V.T "mirrored" oK oM):jt V:=by
 refine Tx.okDW T DV (λds R h=>?_) (λf cdv A outer s H E J hr=>#[_,((ar (aE (aL (ac (af (aa 0) ad) (ac (af (aa 0) ad) (ac (aC (cb (af (aa 0) ad)) (af (aa 0) ad)) ae))))))),λds R h=>?_])
 .obtain⟨w,h,s,rfl,_⟩:=h;rfl
 .obtain⟨w,h,s,rfl,hw,hR⟩:=h;exact#[_,rfl,_,rfl,_,rfl,_,rfl,hw,Kv,hR]
abbrev ju(V:Bx):Prop:=V.D 3 "turned" oO Bb
def FU(T:V.T "turned" oN oO)(Ld:jk V):ju V:=by
 refine Tx.okDW T DX (λds R h=>?_) (λf cdv A outer s H E J hr=>#[_,((ar (aE (aD Ld hr (ac (aL (ac ad (ac (af (aa 0) ad) ae))) (ac (aL (ac (cb (af (aa 0) ad)) (ac (af (aa 0) ad) ae))) ae)))))),λds R h=>?_])
 .obtain⟨w,h,s,rfl,_⟩:=h;rfl
 .obtain⟨w,h,s,rfl,hw,hh,LJ,z6,hs,g7,hR⟩:=h;have hp:0<w*h:=Gz hw hh;have hn:¬0*s=w* -h:=by rw[H9];lia
  exact#[_,rfl,Kv,_,rfl,_,rfl,Kv,0,w,-h,s,rfl,Kn,Kn,Kn,Kn,λe=>absurd e hn,λ_ w' h' s' f=>hR w' h' s' f]
def ok_Motif_family(hL:3<=n)(T:V.Tm "Motif" "family" "Motif.family" iH cy)(uM:V.a "Motif" "shifts"):V.Q (n+1) "Motif" "family" cy (ofX (bU (j+1) "Motif")):=by
 refine Txm.okM T DY (λds M R RX h=>?_) (λf cdv A outer s H E J hr hx=>⟨_,((aq (bi (sR (aA uM (ag (aa 0))) (ag dG)) (av hU) bb)
   (av (aF (aA uM (ag (aa 0))))))),λds M R RX d9 h=>?_⟩)
 .obtain⟨_,_,rfl,_⟩:=h;rfl
 .obtain⟨p,v,rfl,hv,hp,hd,hc,hf,hR⟩:=h;cases p<;>simp only[Pat.cls]at hc<;>try exact absurd hc Kr
  obtain⟨k,w,h,s,rfl,F⟩:=hv;exact#[_,#[rfl,rfl],_,mo_shifts,_,#[rfl,rfl],_,mo_shifts,hR w h s (Pat.Fam.mot F)]
def FV(hL:3<=n)(T:V.Tm "Over" "family" "Over.family" iI iJ)(L_:js V)(uU:V.a "Over" "above")(uT:V.a "Over" "below")(uG:∀x,x∈(["Motif","Over","Shifted","Mirror","Turn","Rehue"]:List C_)->V.Q n x "family" cy (ofX (bU j x))):V.Q (n+1) "Over" "family" iJ (ofX (bU (j+1) "Over")):=by
 refine Txm.okM T sc_Over_family (λds M R RX h=>?_) (λf cdv A outer s H E J hr hx=>⟨_,((aq (aM 1 sc_Over_family.nd (bD (hn:=Lg) uG hx hr (aA uU (ag (aa 0)))))
   (av (aF (aK (hn:=Lg) (CalD.toM L_) hx hr (az (ag (aa 1)) (az (bD (hn:=Lg) uG hx hr (aA uT (ag (aa 0)))) aU))))))),λds M R RX d9 h=>?_⟩)
 .obtain⟨_,_,rfl,_⟩:=h;rfl
 .obtain⟨p,v,rfl,hv,hp,hd,hc,hf,hR⟩:=h;cases p<;>simp only[Pat.cls]at hc<;>try exact absurd hc Kr
  rename_i p q;obtain⟨u,u',rfl,hu,LQ⟩:=hv;obtain⟨fs,rfl,o1⟩:=hu.objm;obtain⟨gs,rfl,o2⟩:=LQ.objm;obtain⟨f1,f2⟩:=Pat.Fits.over_parts hp.1 hp.2 hf;rw[Pat.depth]at hd;refine#[λd M'=>(∃w h s,p.Fam w h s/\d=.tup [.int w,.int h,.int s])/\M'=M,#[_,#[rfl,rfl],_,rfl,p.cls,p.cls_mem,fs,#[rfl,rfl],o1.fam,p,_,rfl,hu,hp.1,Kn,rfl,f1,λw h s F=>#[#[w,h,s,F,rfl],rfl]],?_];rintro _ _⟨⟨w1,h1,s1,F1,rfl⟩,rfl⟩;k_places;refine#[_,#[rfl,rfl],_,fu Kr,q.cls,q.cls_mem,gs,#[rfl,rfl],o2.fam,q,_,rfl,LQ,hp.2,Kn,rfl,f2,λw2 h2 s2 F2=>?_];obtain⟨a1,a2,a3,a4,a5,a6⟩:=f1.small F1;obtain⟨b1,b2,b3,b4,b5,b6⟩:=f2.small F2;exact#[w1,h1,s1,w2,h2,s2,rfl,a1,Kn,a3,Kn,a5,a6,b1,Kn,b3,Kn,b5,b6,λw h s A MR=>hR w h s (Pat.Fam.over F1 F2 MR)]
def FW(hL:3<=n)(T:V.Tm "Shifted" "family" "Shifted.family" iK iL)(p_:V.a "Shifted" "form")(uG:∀x,x∈(["Motif","Over","Shifted","Mirror","Turn","Rehue"]:List C_)->V.Q n x "family" cy (ofX (bU j x))):V.Q (n+1) "Shifted" "family" iL (ofX (bU (j+1) "Shifted")):=by
 refine Txm.okM T DZ (λds M R RX h=>?_) (λf cdv A outer s H E J hr hx=>#[_,((av (aF (bD (hn:=Lg) uG hx hr (aA p_ (ag (aa 0))))))),λds M R RX d9 h=>?_])
 .obtain⟨_,_,rfl,_⟩:=h;rfl
 .obtain⟨p,v,rfl,hv,hp,hd,hc,hf,hR⟩:=h;cases p<;>simp only[Pat.cls]at hc<;>try exact absurd hc Kr
  rename_i a b p;obtain⟨u,rfl,hu⟩:=hv;obtain⟨fs,rfl,o1⟩:=hu.objm;rw[Pat.depth]at hd;refine#[_,#[rfl,rfl],_,rfl,p.cls,p.cls_mem,fs,#[rfl,rfl],o1.fam,p,_,rfl,hu,hp.2.2,Kn,rfl,hf.of_sh,λw h s F=>?_];exact hR w h s (F.sh a b)
def FX(hL:3<=n)(T:V.Tm "Mirror" "family" "Mirror.family" iM iN)(Ma:jt V)(uY:V.a "Mirror" "form")(uG:∀x,x∈(["Motif","Over","Shifted","Mirror","Turn","Rehue"]:List C_)->V.Q n x "family" cy (ofX (bU j x))):V.Q (n+1) "Mirror" "family" iN (ofX (bU (j+1) "Mirror")):=by
 refine Txm.okM T D0 (λds M R RX h=>?_) (λf cdv A outer s H E J hr hx=>#[_,((av (aF (aK (hn:=Lg) (CalD.toM Ma) hx hr (az (bD (hn:=Lg) uG hx hr (aA uY (ag (aa 0)))) aU))))),λds M R RX d9 h=>?_])
 .obtain⟨_,_,rfl,_⟩:=h;rfl
 .obtain⟨p,v,rfl,hv,hp,hd,hc,hf,hR⟩:=h;cases p<;>simp only[Pat.cls]at hc<;>try exact absurd hc Kr
  rename_i p;obtain⟨u,rfl,hu⟩:=hv;obtain⟨fs,rfl,o1⟩:=hu.objm;rw[Pat.depth]at hd;refine#[_,#[rfl,rfl],_,rfl,p.cls,p.cls_mem,fs,#[rfl,rfl],o1.fam,p,_,rfl,hu,hp,Kn,rfl,Pat.Fits.of_mir (p:=p) hp hf,λw h s F=>?_];exact#[w,h,s,rfl,F.f.w0,hR w h _ F.mir]
def FY(hL:3<=n)(T:V.Tm "Turn" "family" "Turn.family" iO iP)(Mb:ju V)(uZ:V.a "Turn" "form")(uG:∀x,x∈(["Motif","Over","Shifted","Mirror","Turn","Rehue"]:List C_)->V.Q n x "family" cy (ofX (bU j x))):V.Q (n+1) "Turn" "family" iP (ofX (bU (j+1) "Turn")):=by
 refine Txm.okM T D1 (λds M R RX h=>?_) (λf cdv A outer s H E J hr hx=>#[_,((av (aF (aK (hn:=Lg) (CalD.toM Mb) hx hr (az (bD (hn:=Lg) uG hx hr (aA uZ (ag (aa 0)))) aU))))),λds M R RX d9 h=>?_])
 .obtain⟨_,_,rfl,_⟩:=h;rfl
 .obtain⟨p,v,rfl,hv,hp,hd,hc,hf,hR⟩:=h;cases p<;>simp only[Pat.cls]at hc<;>try exact absurd hc Kr
  rename_i p;obtain⟨u,rfl,hu⟩:=hv;obtain⟨fs,rfl,o1⟩:=hu.objm;rw[Pat.depth]at hd;refine#[_,#[rfl,rfl],_,rfl,p.cls,p.cls_mem,fs,#[rfl,rfl],o1.fam,p,_,rfl,hu,hp,Kn,rfl,Pat.Fits.of_tur (p:=p) hp hf,λw h s F=>?_];obtain⟨a1,a2,a3,a4,a5,a6⟩:=(Pat.Fits.of_tur (p:=p) hp hf).small F;exact#[w,h,s,rfl,a1,a3,Kn,Kn,a5,Kn,λw' h' s' F'=>hR w' h' s' (F.tur F')]
def FZ(hL:3<=n)(T:V.Tm "Rehue" "family" "Rehue.family" iQ iR)(uX:V.a "Rehue" "form")(uG:∀x,x∈(["Motif","Over","Shifted","Mirror","Turn","Rehue"]:List C_)->V.Q n x "family" cy (ofX (bU j x))):V.Q (n+1) "Rehue" "family" iR (ofX (bU (j+1) "Rehue")):=by
 refine Txm.okM T D2 (λds M R RX h=>?_) (λf cdv A outer s H E J hr hx=>#[_,((av (aF (bD (hn:=Lg) uG hx hr (aA uX (ag (aa 0))))))),λds M R RX d9 h=>?_])
 .obtain⟨_,_,rfl,_⟩:=h;rfl
 .obtain⟨p,v,rfl,hv,hp,hd,hc,hf,hR⟩:=h;cases p<;>simp only[Pat.cls]at hc<;>try exact absurd hc Kr
  rename_i f g p;obtain⟨u,rfl,hu⟩:=hv;obtain⟨fs,rfl,o1⟩:=hu.objm;rw[Pat.depth]at hd;refine#[_,#[rfl,rfl],_,rfl,p.cls,p.cls_mem,fs,#[rfl,rfl],o1.fam,p,_,rfl,hu,hp.2.2,Kn,rfl,hf.of_hue,λw h s F=>?_];exact hR w h s (F.hue f g)
def F4(P5:V.Tm "Motif" "family" "Motif.family" iH cy)(P6:V.Tm "Over" "family" "Over.family" iI iJ)(P7:V.Tm "Shifted" "family" "Shifted.family" iK iL)(P8:V.Tm "Mirror" "family" "Mirror.family" iM iN)(P9:V.Tm "Turn" "family" "Turn.family" iO iP)(P':V.Tm "Rehue" "family" "Rehue.family" iQ iR)(uM:V.a "Motif" "shifts")(L_:js V)(uU:V.a "Over" "above")(uT:V.a "Over" "below")(p_:V.a "Shifted" "form")(Ma:jt V)(uY:V.a "Mirror" "form")(Mb:ju V)(uZ:V.a "Turn" "form")(uX:V.a "Rehue" "form"):∀j x,x∈(["Motif","Over","Shifted","Mirror","Turn","Rehue"]:List C_)->V.Q (3+j) x "family" cy (ofX (bU j x)):=by
 intro j;induction j with
 |zero=>
  intro x hx;simp only[Gh,Hz,or_false]at hx;rcases hx with rfl|rfl|rfl|rfl|rfl|rfl
  .exact CalMth.never P5 (λds M R RX=>fv)
  .exact CalMth.never P6 (λds M R RX=>fv)
  .exact CalMth.never P7 (λds M R RX=>fv)
  .exact CalMth.never P8 (λds M R RX=>fv)
  .exact CalMth.never P9 (λds M R RX=>fv)
  .exact CalMth.never P' (λds M R RX=>fv)
 |succ j Mc=>
  intro x hx;simp only[Gh,Hz,or_false]at hx;rcases hx with rfl|rfl|rfl|rfl|rfl|rfl
  .exact ok_Motif_family (n:=3+j) (j:=j) Lg P5 uM
  .exact FV (n:=3+j) (j:=j) Lg P6 L_ uU uT Mc
  .exact FW (n:=3+j) (j:=j) Lg P7 p_ Mc
  .exact FX (n:=3+j) (j:=j) Lg P8 Ma uY Mc
  .exact FY (n:=3+j) (j:=j) Lg P9 Mb uZ Mc
  .exact FZ (n:=3+j) (j:=j) Lg P' uX Mc
abbrev vH(V:Bx):Prop:=V.MM 17 "form_from" cC (dg 6)
abbrev vI(V:Bx):Prop:=∀x,x∈(["Motif","Over","Shifted","Mirror","Turn","Rehue"]:List C_)->V.Q 9 x "family" cy (ofX (bU 6 x))
abbrev pV(V:Bx):Prop:=V.X 18 "read" oQ ve
def F5(T:V.T "read" oP oQ)(uB:V.m "len")(uJ:vH V)(OR:V.gi "MOST" 720)(uN:V.a "Reading" "place")(OS:pS V)(OT:pT V)(uG:vI V):pV V:=by
 refine CalMM.nilX (Tx.okM T sc_read (λds M R RX h=>?_) (λf cdv A outer s H E J hr hx=>⟨_,((aq (aM 1 sc_read.nd (zU OS hr (ay (ac (aa 0) ae))))
   (aq (aM 2 sc_read.nd (aK uJ hx hr (ay (ac (aa 1) (ac ad ae)))))
   (aq (bi (sQ (aA uN (ag (aa 1))) (ag (cq uB (ac (aa 0) ae)))) (av hU) bb)
   (aq (aM 3 sc_read.nd (bD uG hx hr (ag (aa 2))))
   (aq (bi (bC (rQ (ax (af (aa 3) ad) (af (aa 3) ad)) (cS OR))) (av hU) bb)
   (av (aF (ag (kq OT hr (ac (aa 0) (ac (aa 3) (ac (aa 2) ae))))))))))))),λds M R RX d9 h=>?_⟩))
 .obtain⟨_,R0,JS,⟨_,rfl,_⟩,_⟩:=h;rfl
 .obtain⟨rfl,R0,JS,⟨p,rfl,ok,hG⟩,hR,hX⟩:=h;have c5:=Pat.text_short ok.wf ok.deep;have d5:At p.text 0 (p.tl++[]):=#[by rw[GS];exact db p,GI _,Kn];have Rk:=ok.deep;have hl:p.text.length=p.tl.length:=by rw[<-bu,db]
  refine#[λd M'=>∃a,d=.ptr a/\M'=RdM a p.text 0,#[_,rfl,λa _=>#[a,rfl,rfl]],?_];rintro _ _⟨a,rfl,rfl⟩;k_places;refine#[λv M'=>FormOf p v/\M'=RdM a p.text p.tl.length,#[a,p.text,0,p,[],0,rfl,rfl,d5,rfl,Ku,ok.wf,Kn,λv h=>#[h,by rw[JJ]]],?_];rintro v _⟨hv,rfl⟩;k_places;refine#[_,aS,_,fj,Kn,ite2 (λc=>absurd (of_decide_eq_true c) Kn) (λ_=>?_)];obtain⟨fs,rfl,o1⟩:=hv.objm;refine#[λd M'=>∃w h s,p.Fam w h s/\d=.tup [.int w,.int h,.int s],#[p.cls,p.cls_mem,fs,#[rfl,rfl],o1.fam,p,_,rfl,hv,ok.wf,Kn,rfl,ok.fits,λw h s F=>#[w,h,s,F,rfl]],?_];rintro _ M'⟨w,h,s,F,rfl⟩;k_places;have a1:=ok.fits.small F;obtain⟨w',h',s',F',hb⟩:=ok.fits;obtain⟨rfl,rfl,_⟩:=F.uniq F';refine#[_,rfl,_,rfl,.inl #[Kn,Kn],ite2 (λc=>absurd (of_decide_eq_true c) Kn) (λ_=>?_)];exact#[_,_,_,_,_,_,rfl,hR _ _ (hG _ #[_,_,s,_,rfl,rfl,fu Kr,#[F,#[_,lf Kr Kr,hv],by simp[noLF,noL,noLs,o1.nl]]])]
def F6:SiM:=λa ds R=>∃p w h,ds=[.str (Pat.text p),.int w,.int h]/\p.Ok/\∀d q,bW p d->a≠q->R (Fl.M #[p,d,w,h,0,[]] a q)
abbrev pW(V:Bx):Prop:=V.N 19 "Floor" oS F6
def F7(T:V.Ti "Floor" "Floor.__init__" oR oS)(OU:pV V)(uL:V.a "Floor" "pattern")(z8:V.a "Floor" "text")(uO:V.a "Floor" "width")(uW:V.a "Floor" "height")(uE:V.a "Floor" "laid")(uS:V.a "Floor" "deeds"):pW V:=by
 refine Txi.okIN T D3 (λa ds R h=>?_) (λf cdv A outer s H E J hr hx=>⟨_,((aq (bM uL (ag (aa 0)) (aK (CalX.toM OU) hx hr (ay (ac (aa 1) ae))))
   (aq (bM z8 (ag (aa 0)) (ag (aa 1)))
   (aq (bM uO (ag (aa 0)) (ag (aa 2)))
   (aq (bM uW (ag (aa 0)) (ag (aa 3)))
   (aq (bM uE (ag (aa 0)) (ag ad))
   (av (bM uS (ag (aa 0)) (kE (ay ae)))))))))),λa ds R KN h=>?_⟩)
 .obtain⟨_,_,_,rfl,_⟩:=h;rfl
 .obtain⟨p,w,h,rfl,ok,hR⟩:=h;refine Co (RX:=λ_ _=>True) ok λd hd=>?_;refine#[_,bp,by show(0:Nat)<1000;decide,?_];rw[bX];refine#[_,bp,N9,?_];rw[bX];refine#[_,bp,by show(2:Nat)<1000;decide,?_];rw[bX];refine#[_,bp,by show(3:Nat)<1000;decide,?_];rw[bX];refine#[_,bp,by show(4:Nat)<1000;decide,?_];rw[bX];refine#[by show(0:Nat)<=1000;decide,λq hq=>?_];have ne:a≠q:=λe=>hq (e ▸ Gk);refine#[_,(ck (Ne.symm ne)).trans bp,by show(5:Nat)<1000;decide,?_];rw[cD (Ne.symm ne),bX];exact hR d q hd ne
def F8{fa:KF}{fd:Sq}(F:Fun V.K "law" "law" iS fa fd)(OV:pr V)(v8:iX V)(OW:pz V)(MP:pG V)(MQ:pM V)(w_:gw V)(K_:je V)(MU:V.gi "SIDE" 30)(MV:pW V)(Lb:ji V)(La:jh V)(J2:gv V)(K9:jd V):FnOk V.P V.w V.K V.mg V.base (Exc.CX1 V.P V.w) 21 fa fd oU (lSp V.K eL):=by
 refine C1 (Fun.okM F sc_law (λds M R RX h=>?_) (λcdv A outer s H E J hr hx=>⟨_,((aq (aM 1 sc_law.nd (ag (aD OV hr (ac (aa 0) (ac ad ae)))))
   (aq (aM 2 sc_law.nd (ag (ao ad (aC (aD v8 hr (ac (aa 0) (ac ad ae))) (af (aY (ac ad (ac ad ae))) (aC (aD v8 hr (ac (aa 0) (ac ad ae))) ad))))))
   (aq (aM 3 sc_law.nd (ag (ao ad (aC (aD v8 hr (ac (aa 0) (ac ad ae))) (af (aY (ac ad (ac ad ae))) (aC (aD v8 hr (ac (aa 0) (ac ad ae))) ad))))))
   (aq (aM 4 sc_law.nd (ag (aD OW hr (ac (af (aa 1) ad) (ac (aa 2) (ac (aa 3) ae))))))
   (aq (aM 5 sc_law.nd (vz (vw MV hr (ay (ac (af (aa 1) ad) (ac (aa 2) (ac (aa 3) ae)))))))
   (aq (bi (mt_w (dL (du (dm (aK (CalMM.splitN MQ) hx hr (ay (ac (aa 5) (ac (af (aa 1) ad) (ac (aL (ac (aa 2) (ac (aa 3) ae))) (ac (aY ae) (ac (aa 4) (ac ad ae)))))))))) (eX (fV (aK (CalMM.splitN MP) hx hr (ay (ac (aa 5) (ac ad ae)))) (ag aw))))) (av (aF (ag bx))) bb)
   (aq (bi (mt_w (sT (bC (eo (aa 3) ad)) (sS (fV (aK (CalMM.splitN MP) hx hr (ay (ac (aa 5) (ac (ao (aa 3) ad) ae)))) (ag aw))))) (av (aF (ag bx))) bb)
   (aq (C4 6 PassesOwn.leaving rfl sc_law.nd (De (az (bD (CalMth.one (CalMth.splitN (CalMth.lendN J2))) hx hr (ag (aa 5))) (az (bD (CalMth.one (CalMth.splitN La)) hx hr (ag (aa 5))) (az (bD (CalMth.one (CalMth.splitN Lb)) hx hr (ag (aa 5))) aU)))) (aq (bE (tf (ag (aa 6)) (ag ad)))
    (av (Da (ag ad) (ag (aa 6)) (ag ad)))))
   (aq (aM 7 sc_law.nd (vz (vw MV hr (ay (ac (af (aa 1) ad) (ac (aa 2) (ac (aa 3) ae)))))))
   (aq (bi (mt_w (dL (du (dm (aK (CalD.lendL K_) hx hr (az (aQ (CalMth.one (CalMth.splitN K9.1)) hx hr (ag (aa 7)) (ay (ac (aa 3) ae))) (az (ag (aa 4)) aU))))) (dL (bC (eB (cG (aD w_ hr (ac (cS MU) ae))))) (eX (bC (cr (cS MU) ad)))))) (av (aF (ag bx))) bb)
   (av (aF (aK (CalMM.splitN MQ) hx hr (ay (ac (aa 5) (ac (af (aa 1) ad) (ac (aL (ac (aa 2) (ac (aa 3) ae))) (ac (aY ae) (ac (aa 4) (ac ad ae))))))))))))))))))))),λds M R RX d9 h=>?_⟩))
 .obtain⟨rfl,_,⟨ns,rfl,_⟩,rfl⟩:=h;rfl
 .obtain⟨rfl,R0,⟨ns,rfl,hl,hR⟩,rfl⟩:=h;refine#[λd M'=>M'=[]/\∃p:Pat,d=p.D/\p.Ok,#[ns,3,rfl,Ku,λp ok=>#[rfl,p,rfl,ok]],?_];rintro _ _⟨rfl,p,rfl,Md⟩;k_places;obtain⟨m,em,m0,Rz⟩:∃m:Int,atI [D.int 6,.int 30] (cell ns 2%2)=be (.int m)/\6<=m/\m<=30:=by
   rcases Int.emod_two_eq (cell ns 2)with e|e<;>rw[e]
   .exact#[6,rfl,Ku,Ku]
   .exact#[30,rfl,Ku,Ku]
  have bd:∀c:Int,1<=1+c%m/\1+c%m<=30:=λc=>by
   have a1:=Hc c (show m≠0 by lia);have a2:=Hd c (show 0<m by lia);exact#[Kn,Kn]
  refine#[λd M'=>M'=[]/\∃w:Int,d=.int w/\1<=w/\w<=30,#[ns,0,rfl,Ku,by show(2:Nat)<=1000;decide,ns,2,rfl,Ku,Ku,_,em,by show(0:Int)<m;lia,rfl,_,rfl,bd _],?_];rintro _ _⟨rfl,w,rfl,w1,w2⟩;k_places;refine#[λd M'=>M'=[]/\∃h:Int,d=.int h/\1<=h/\h<=30,#[ns,1,rfl,Ku,by show(2:Nat)<=1000;decide,ns,2,rfl,Ku,Ku,_,em,by show(0:Int)<m;lia,rfl,_,rfl,bd _],?_];rintro _ _⟨rfl,h,rfl,h1,h2⟩;k_places;clear bd em m0 Rz m;refine#[λd M'=>M'=[]/\d=.lst (aH p w 0 h.toNat),#[_,rfl,p,w,h,rfl,Md,Kn,Kn,Kn,Kn,rfl,rfl],?_];rintro _ _⟨rfl,rfl⟩;k_places;refine#[λd M'=>∃a qa d0,d=.ptr a/\a≠qa/\bW p d0/\M'=Fl.M #[p,d0,w,h,0,[]] a qa,#[_,rfl,λa _=>#[p,w,h,rfl,Md,λd0 qa is ne _=>#[a,qa,d0,rfl,ne,is,Kv]]],?_];rintro _ _⟨a,q,d0,rfl,ne,is,rfl⟩;k_places;have JZ:=Fl.ok_new is Md w1 w2 h1 h2;generalize hf:Fl.mk p d0 w h 0 []=f at*;have fp:f.p=p:=by rw[<-hf]
  have fw:f.w=w:=by rw[<-hf]
  have fh:f.h=h:=by rw[<-hf]
  have fl:f.l=0:=by rw[<-hf]
  have fd:f.ds=[]:=by rw[<-hf]
  have sub:=Fl.sub (f:=f) ne;have ev:([.ptr a,.str p.text,.tup [.int w,.int h],.lst [],.lst (aH p w 0 h.toNat),.int 0]:List D)=[.ptr a,.str f.p.text,.tup [.int f.w,.int f.h],.lst (aH f.p f.w 0 f.l.toNat),.lst (aH f.p f.w f.l (f.h-f.l).toNat),.int f.ds.length]:=by rw[fp,fw,fh,fl,fd,Jv];rfl
  refine#[_,rfl,by show(2:Nat)<=1000;decide,Ku,[],f.M a q,sub,a,q,f,ev,ne,rfl,JZ,λ_=>ite2 (λc=>nomatch c) λ_=>?_];refine#[[],f.M a q,sub,a,q,f,0,"nothing",rfl,ne,rfl,JZ,.inl #[rfl,fd,rfl],λ_=>?_];refine(λnext=>ite2 (λc=>?_) (λ_=>next)) ?_
  .have c':h<30:=of_decide_eq_true c;refine#[[],f.M a q,sub,a,q,f,h+1,"row",rfl,ne,rfl,JZ,.inr #[Kn,Kn,by rw[fh,fl];lia,rfl],λ_=>next]
  refine#[_,Gf.mpr rfl,_,Fl.ma ne,rfl,[],f.M a q,sub,pF (Fl.ma ne) JZ λp1 g1 RA=>?_];have m1:=(vD (o:=.lst (aH f.p f.w 0 f.l.toNat)) g1 (by simp[aj,Fl.M])).trans (Fl.ma (f:=f) ne);refine#[_,Gf.mpr rfl,_,m1,rfl,[],_,subM.refl RA,a,q,f,rfl,m1,JZ,λp2 g2 RB=>?_];have m2:=(vD (o:=.lst ((bS f.p 0 0 f.w.toNat f.l.toNat).map D.int)) g2 (by simp[aj,Fl.M])).trans m1;refine#[_,Gf.mpr rfl,_,m2,rfl,[],_,subM.refl RB,a,q,f,rfl,m2,JZ,λp3 g3 Sc=>?_];have P_:p2≠p1:=λe=>g2 (by rw[e];exact Gk);have Qa:p3≠p2:=λe=>g3 (by rw[e];exact Gk);have Qb:p3≠p1:=λe=>g3 (by rw[e];exact Gi _ Gk);have ec:∀lo n,((bS f.p 0 lo f.w.toNat n).map D.int).length<=40+0:=λlo n=>by unfold bS;simp
  refine#[by show(3:Nat)<=1000;decide,λk z M=>∃(o6:Option D) (x1 x2 x3:List D),z=[be (.rol (ns.map D.int)),be p.D,be (.int w),be (.int h),be (.lst (aH p w 0 h.toNat)),be (.ptr a),o6,q8]/\M=(p3,.lst x3)::(p2,.lst x2)::(p1,.lst x1)::f.M a q/\x1.length<=40+k/\x2.length<=40+k/\x3.length<=40+k,#[_,_,_,_,rfl,rfl,by rw[fl];simp[aH],ec _ _,ec _ _],?_,?_]
  .rintro k v z M hk⟨o6,x1,x2,x3,rfl,rfl,l1,l2,l3⟩;k_places;have k3:k<3:=(Gq.mp hk).1;rcases(Kn:k=0\/k=1\/k=2)with rfl|rfl|rfl<;>cases hk
   .have mp:∀(y:List D),mget ((p3,.lst x3)::(p2,.lst x2)::(p1,.lst y)::f.M a q) p1=be (.lst y):=λy=>(ck Qb).trans ((ck P_).trans bp);have pp:∀y y',mput ((p3,.lst x3)::(p2,.lst x2)::(p1,.lst y)::f.M a q) p1 (.lst y')=(p3,.lst x3)::(p2,.lst x2)::(p1,.lst y')::f.M a q:=λy y'=>by rw[cD Qb,cD P_,bX]
    refine#[#[_,mp _],_,mp _,Kn,?_];rw[pp];refine#[_,0,mp _,ix0,?_];rw[pp];exact#[_,_,_,_,rfl,rfl,oX l1,Kn,Kn]
   .have mp:∀(y:List D),mget ((p3,.lst x3)::(p2,.lst y)::(p1,.lst x1)::f.M a q) p2=be (.lst y):=λy=>(ck Qa).trans bp;have pp:∀y y',mput ((p3,.lst x3)::(p2,.lst y)::(p1,.lst x1)::f.M a q) p2 (.lst y')=(p3,.lst x3)::(p2,.lst y')::(p1,.lst x1)::f.M a q:=λy y'=>by rw[cD Qa,bX]
    refine#[#[_,mp _],_,mp _,Kn,?_];rw[pp];refine#[_,0,mp _,ix0,?_];rw[pp];exact#[_,_,_,_,rfl,rfl,Kn,oX l2,Kn]
   .refine#[#[_,bp],_,bp,Kn,?_];rw[bX];refine#[_,0,bp,ix0,?_];rw[bX];exact#[_,_,_,_,rfl,rfl,Kn,Kn,oX l3]
  rintro z M⟨o6,x1,x2,x3,rfl,rfl,-⟩;k_places;refine#[λd M'=>∃b qb e0,d=.ptr b/\b≠qb/\bW p e0/\M'=Fl.M #[p,e0,w,h,0,[]] b qb++((p3,.lst x3)::(p2,.lst x2)::(p1,.lst x1)::f.M a q)/\(aj M').Nodup,#[_,rfl,λb _=>#[p,w,h,rfl,Md,λe0 qb is ne nd=>#[b,qb,e0,rfl,ne,is,rfl,nd]]],?_];rintro _ _⟨b,qb,e0,rfl,Qc,RC,rfl,nd⟩;k_places;have RD:=Fl.ok_new RC Md w1 w2 h1 h2;have KL:[qb,b,p3,p2,p1,q,a].Nodup:=nd;refine#[_,Gf.mpr rfl,_,(ck (Ne.symm Qc)).trans bp,rfl,f.M a q,Fl.M #[p,e0,w,h,0,[]] b qb,#[λe he=>?_,?_],b,qb,_,h,rfl,Qc,rfl,RD,h1,Kn,λz=>absurd z (by show¬(h-0<h);lia),λ_ q' p' Kh np z7=>?_]
  .rcases GD.mp he with z|z
   .exact GD.mpr (.inr (Gi _ (Gi _ (Gi _ z))))
   .exact GD.mpr (.inl z)
  .show[q,a,qb,b].Nodup;simp only[GP,Gh,Hz,or_false,not_or]at KL ⊢;exact#[#[Ne.symm ne,Ne.symm KL.1.2.2.2.2.1,Ne.symm KL.2.1.2.2.2.1],#[Ne.symm KL.1.2.2.2.2.2,Ne.symm KL.2.1.2.2.2.2],KL.1.1,KL.2.2.2.2.2.2]
  refine#[p',_,f.M a q,Dg z7 (GD.mpr (.inr Gk)),#[λe he=>GD.mpr (.inl he),Fl.nd ne],p,w,0,h.toNat,?_,Kn,?_]
  .show[cu p' _ (.ptr p'),_]=_;rw[gk];rfl
  exact#[_,rfl,_,rfl,by show(2:Nat)<=1000;decide,Ku,[],f.M a q,sub,a,q,f,ev,ne,rfl,JZ,λ_=>hR]
end
local macro_rules | `(tactic| walk_at "b1") => `(tactic| exact AE λ_ _ _ _ _ _ _ => rfl)
local macro_rules | `(tactic| walk_at "b2") => `(tactic| exact bind2 λ_ _ _ _ _ _ _ _ => rfl)
local macro_rules | `(tactic| walk_at "b3") => `(tactic| exact bind3 λ_ _ _ _ _ _ _ _ _ => rfl)
local macro_rules | `(tactic| walk_at "b4") => `(tactic| exact bind4 λ_ _ _ _ _ _ _ _ _ _ => rfl)
local macro_rules | `(tactic| walk_at "b5") => `(tactic| exact bind5 λ_ _ _ _ _ _ _ _ _ _ _ => rfl)
local macro_rules | `(tactic| walk_at "b6") => `(tactic| exact bind6 λ_ _ _ _ _ _ _ _ _ _ _ _ => rfl)
local macro_rules | `(tactic| walk_at "bd") => `(tactic| exact λ_ _ _ _ _ _ _ _ _ _ _ _ _ _ h hs => ⟨.of_defaults rfl h hs rfl rfl, .of_defaults rfl h hs rfl rfl⟩)
structure TopIn(K:Ex):Prop where
 uHH:FnIn K "_law_at" ll
 uHF:FnIn K "_law_draws" lq
 uHE:FnIn K "_law_lines" lu
 uFC:FnIn K "_law_shift_pair" lw
 uHT:FnIn K "_law_motif_text" ly
 uKO:FnIn K "_law_motif" lC
 uGV:FnIn K "_law_wrapped" ie
 uJY:FnIn K "_law_gcd" lG
 uHZ:FnIn K "_law_on" lJ
 uIJ:FnIn K "_law_leaf_family" lL
 uHA:FnIn K "_law_in_family" lP
 uFE:FnIn K "_law_both" lR
 uHG:FnIn K "_law_family" lV
 uKW:FnIn K "_law_over" lX
 uJI:FnIn K "_law_pattern" lZ
 uKU:FnIn K "_law_leaf_shows" me
 uKT:FnIn K "_law_shows" mi
 uIE:FnIn K "_law_floor_rows" ig
 uHM:FnIn K "_law_kind" mm
 uGS:FnIn K "refuse_far" mC
 uIK:FnIn K "home" mF
 uHS:FnIn K "cell_at" mH
 uJN:FnIn K "row_from" iy
 uHU:FnIn K "_law_refusal" mM
 uKJ:FnIn K "_law_whole" mQ
 uJE:FnIn K "_law_texts" mU
 uGU:FnIn K "_law_seven" mW
 uIG:FnIn K "_law_counts" mZ
 uIN:FnIn K "field_rows" iB
 uHR:FnIn K "round_row" nj
 uFD:FnIn K "count_sign" nt
 uIT:FnIn K "count_all" iC
 uGW:FnIn K "_law_view" nE
 uIC:FnIn K "line_from" nK
 uJH:FnIn K "lines_from" nN
 uJM:FnIn K "number_from" nP
 uFN:FnIn K "shift_from" nR
 uIM:FnIn K "levelled" nU
 uKP:FnIn K "spread" nW
 uIX:FnIn K "hues_by_home" nY
 uKH:FnIn K "motif_from" oh
 uGD:FnIn K "over_from" iD
 uIZ:FnIn K "shifted_from" iE
 uGR:FnIn K "rehue_from" iF
 uGX:FnIn K "form_from" iG
 uHV:FnIn K "measure" oG
 uKN:FnIn K "met" oI
 uJF:FnIn K "mirrored" oK
 uFV:FnIn K "turned" oN
 uHL:FnIn K "read" oP
 uKR:FnIn K "law" iS
 uKC:NnIn K "len"
 uHY:NnIn K "range"
 uFG:NnIn K "int"
 uKB:NnIn K "str"
 uFR:NnIn K "list"
 uJQ:NnIn K "abs"
 uFX:NnIn K "max"
 uIW:NnIn K "isinstance"
 uGP:NnIn K "ValueError"
 uJB:NnIn K "bool"
 uIU:NnIn K "min"
 uGO:NnIn K "enumerate"
 uQ:ClIn K "Floor"
 uDQ:ClIn K "Pattern"
 uBK:ClIn K "Motif"
 uCF:ClIn K "Over"
 uBN:ClIn K "Shifted"
 uEC:ClIn K "Mirror"
 uDV:ClIn K "Turn"
 uBS:ClIn K "Rehue"
 uCK:ClIn K "Reading"
 uGL:InIn K "Motif" "Motif.__init__" oa
 uKL:InIn K "Mirror" "Mirror.__init__" oj
 uHX:InIn K "Turn" "Turn.__init__" om
 uGG:InIn K "Over" "Over.__init__" ot
 uGE:InIn K "Shifted" "Shifted.__init__" ow
 uFW:InIn K "Rehue" "Rehue.__init__" oz
 uHB:InIn K "Reading" "Reading.__init__" oB
 uGZ:InIn K "Pattern" "Pattern.__init__" oE
 uJJ:InIn K "Floor" "Floor.__init__" oR
 uGM:MtIn K "Floor" "stand" "Floor.stand" mo
 uHQ:MtIn K "Floor" "undo" "Floor.undo" mx
 uIF:MtIn K "Floor" "keep" "Floor.keep" mz
 uGQ:MtIn K "Motif" "shows" "Motif.shows" ii
 uGN:MtIn K "Over" "shows" "Over.shows" ij
 uFU:MtIn K "Shifted" "shows" "Shifted.shows" il
 uHC:MtIn K "Mirror" "shows" "Mirror.shows" io
 uGJ:MtIn K "Turn" "shows" "Turn.shows" iq
 uIH:MtIn K "Rehue" "shows" "Rehue.shows" iu
 uFB:MtIn K "Floor" "rows" "Floor.rows" iz
 uKX:MdIn K "Floor" "lay" "Floor.lay" mL 1
 uGC:MtIn K "Floor" "lies" "Floor.lies" nw
 uGI:MtIn K "Floor" "still" "Floor.still" nz
 uFZ:MtIn K "Floor" "kept" "Floor.kept" nB
 uGY:MtIn K "Reading" "may_take" "Reading.may_take" nG
 uGF:MtIn K "Reading" "take" "Reading.take" nI
 uHP:MtIn K "Motif" "family" "Motif.family" iH
 uGA:MtIn K "Over" "family" "Over.family" iI
 uJX:MtIn K "Shifted" "family" "Shifted.family" iK
 uGT:MtIn K "Mirror" "family" "Mirror.family" iM
 uIA:MtIn K "Turn" "family" "Turn.family" iO
 uGK:MtIn K "Rehue" "family" "Rehue.family" iQ
 uHJ:NoIn K "Floor" "pattern"
 uKA:NoIn K "Floor" "text"
 uFJ:NoIn K "Pattern" "text"
 uKI:NoIn K "Floor" "deeds"
 uIO:NoIn K "Floor" "laid"
 uIL:NoIn K "Motif" "hues"
 uJU:NoIn K "Motif" "shifts"
 uIS:NoIn K "Over" "above"
 uIQ:NoIn K "Over" "below"
 uJT:NoIn K "Shifted" "form"
 uHD:NoIn K "Shifted" "y"
 uKM:NoIn K "Shifted" "x"
 uHN:NoIn K "Mirror" "form"
 uJW:NoIn K "Turn" "form"
 uFH:NoIn K "Rehue" "form"
 uII:NoIn K "Rehue" "old"
 uJG:NoIn K "Rehue" "new"
 uJP:NoIn K "Pattern" "form"
 uGH:NoIn K "Floor" "width"
 uFK:NoIn K "Floor" "height"
 uFS:NoIn K "Pattern" "shifts"
 uIR:NoIn K "Reading" "text"
 uHO:NoIn K "Reading" "place"
 uIV:NoIn K "Motif" "place"
 uJK:CiIn K "KEPT" 20
 uFO:CiIn K "FAR" 1000000000000
 uJS:CsIn K "SIGNS" ".123456"
 uFY:CiIn K "LONGEST" 8
 uID:CiIn K "DEEP" 5
 uJA:CiIn K "MOST" 720
 uKG:CiIn K "SIDE" 30
 eb:EbIn K
 uEO:E0In K "TooFar"
 uAE:E0In K "NoRow"
 uAF:E0In K "NothingKept"
 uKD:EmIn K "MotifError" "MotifError"
 uFP:EmIn K "MotifError" "TooFar"
 uJO:EmIn K "MotifError" "NoRow"
 uJL:EmIn K "MotifError" "NothingKept"
 uFL:EmIn K "TooFar" "MotifError"
 uFI:EmIn K "TooFar" "TooFar"
 uKV:EmIn K "TooFar" "NoRow"
 uFM:EmIn K "TooFar" "NothingKept"
 uHI:EmIn K "NoRow" "MotifError"
 uEM:EmIn K "NoRow" "TooFar"
 uEP:EmIn K "NoRow" "NoRow"
 uEH:EmIn K "NoRow" "NothingKept"
 uKS:EmIn K "NothingKept" "MotifError"
 uEQ:EmIn K "NothingKept" "TooFar"
 uEK:EmIn K "NothingKept" "NoRow"
 uEW:EmIn K "NothingKept" "NothingKept"
 uAS:ExIn K "NoRow"
 uAO:ExIn K "NothingKept"
 uIY:YeIn K "TooFar"
 uKE:YeIn K "TooGreat"
 uKQ:EmIn K "NoRow" "TooGreat"
 uGB:EmIn K "NothingKept" "TooGreat"
 uIB:YeIn K "OneLine"
 uJC:EmIn K "NoRow" "OneLine"
 uIP:EmIn K "NothingKept" "OneLine"
 uFT:YeIn K "WrongSign"
 uHK:EmIn K "NoRow" "WrongSign"
 uHW:EmIn K "NothingKept" "WrongSign"
 uFF:YeIn K "NothingKept"
 uKF:YeIn K "Parted"
 uJZ:EmIn K "NoRow" "Parted"
 uKK:EmIn K "NothingKept" "Parted"
 uJV:YeIn K "NoRow"
def F9{V:Bx}{h:Sl}(t:TopIn V.K)(X:V.K.In h)(G:h.Ns Pi V.mg){fa:KF}{fd:Sq}(F:Fun V.K "law" "law" iS fa fd):FnOk V.P V.w V.K V.mg V.base (Exc.CX1 V.P V.w) 21 fa fd oU (lSp V.K eL):=by
 have uB:=mg_none_of X G t.uKC;have uA:=mg_none_of X G t.uHY;have uF:=mg_none_of X G t.uFG;have uK:=mg_none_of X G t.uKB;have JX:=mg_none_of X G t.uFR;have uP:=mg_none_of X G t.uJQ;have uV:=mg_none_of X G t.uFX;have uD:=mg_none_of X G t.uIW;have Op:=mg_none_of X G t.uGP;have OB:=mg_none_of X G t.uJB;have OC:=mg_none_of X G t.uIU;have KI:=mg_none_of X G t.uGO;have uL:=t.uQ.a t.uHJ;have z8:=t.uQ.a t.uKA;have K6:=t.uDQ.a t.uFJ;have uS:=t.uQ.a t.uKI;have uE:=t.uQ.a t.uIO;have Kc:=t.uBK.a t.uIL;have uM:=t.uBK.a t.uJU;have uU:=t.uCF.a t.uIS;have uT:=t.uCF.a t.uIQ;have p_:=t.uBN.a t.uJT;have Kd:=t.uBN.a t.uHD;have Ke:=t.uBN.a t.uKM;have uY:=t.uEC.a t.uHN;have uZ:=t.uDV.a t.uJW;have uX:=t.uBS.a t.uFH;have Kf:=t.uBS.a t.uII;have Kg:=t.uBS.a t.uJG;have K7:=t.uDQ.a t.uJP;have uO:=t.uQ.a t.uGH;have uW:=t.uQ.a t.uFK;have z9:=t.uDQ.a t.uFS;have Ki:=t.uCK.a t.uIR;have uN:=t.uCK.a t.uHO;have OK:=t.uBK.a t.uIV;have Oi:=t.uJK.g X G;have Oj:=t.uFO.g X G;have uR:=t.uJS.g X G;have ML:=t.uFY.g X G;have L6:=t.uID.g X G;have OR:=t.uJA.g X G;have MU:=t.uKG.g X G;have Ol:=t.uEO.k t.eb X G;have Oo:=t.uAE.k t.eb X G;have Oh:=t.uAF.k t.eb X G;have ek:vG V:=AF #[(let ⟨C,N,bm,k,_⟩:=t.eb.k X G;#[C,N,bm,k]),(let ⟨C,N,bm,k,_⟩:=t.uEO.k t.eb X G;#[C,N,bm,k]),(let ⟨C,N,bm,k,_⟩:=t.uAE.k t.eb X G;#[C,N,bm,k]),(let ⟨C,N,bm,k,_⟩:=t.uAF.k t.eb X G;#[C,N,bm,k]),trivial] #[#[t.uKD,t.uFP,t.uJO,t.uJL,trivial],#[t.uFL,t.uFI,t.uKV,t.uFM,trivial],#[t.uHI,t.uEM,t.uEP,t.uEH,trivial],#[t.uKS,t.uEQ,t.uEK,t.uEW,trivial],trivial];have Ot:V.j "TooFar" [("NoRow",false),("NothingKept",false)]:=let ⟨D,n,h,ty⟩:=t.uIY;#[D,mg_of X G n,bH (isY (let ⟨C,N,bm,k,_⟩:=t.uAE.k t.eb X G;#[C,N,bm,k]) t.uAS n h ty t.uEM Kr) (bH (isY (let ⟨C,N,bm,k,_⟩:=t.uAF.k t.eb X G;#[C,N,bm,k]) t.uAO n h ty t.uEQ Kr) (dv))]
 have Ou:V.j "TooGreat" [("NoRow",false),("NothingKept",false)]:=let ⟨D,n,h,ty⟩:=t.uKE;#[D,mg_of X G n,bH (isY (let ⟨C,N,bm,k,_⟩:=t.uAE.k t.eb X G;#[C,N,bm,k]) t.uAS n h ty t.uKQ Kr) (bH (isY (let ⟨C,N,bm,k,_⟩:=t.uAF.k t.eb X G;#[C,N,bm,k]) t.uAO n h ty t.uGB Kr) (dv))]
 have Ov:V.j "OneLine" [("NoRow",false),("NothingKept",false)]:=let ⟨D,n,h,ty⟩:=t.uIB;#[D,mg_of X G n,bH (isY (let ⟨C,N,bm,k,_⟩:=t.uAE.k t.eb X G;#[C,N,bm,k]) t.uAS n h ty t.uJC Kr) (bH (isY (let ⟨C,N,bm,k,_⟩:=t.uAF.k t.eb X G;#[C,N,bm,k]) t.uAO n h ty t.uIP Kr) (dv))]
 have Ow:V.j "WrongSign" [("NoRow",false),("NothingKept",false)]:=let ⟨D,n,h,ty⟩:=t.uFT;#[D,mg_of X G n,bH (isY (let ⟨C,N,bm,k,_⟩:=t.uAE.k t.eb X G;#[C,N,bm,k]) t.uAS n h ty t.uHK Kr) (bH (isY (let ⟨C,N,bm,k,_⟩:=t.uAF.k t.eb X G;#[C,N,bm,k]) t.uAO n h ty t.uHW Kr) (dv))]
 have Ox:V.j "NothingKept" [("NoRow",false),("NothingKept",true)]:=let ⟨D,n,h,ty⟩:=t.uFF;#[D,mg_of X G n,bH (isY (let ⟨C,N,bm,k,_⟩:=t.uAE.k t.eb X G;#[C,N,bm,k]) t.uAS n h ty t.uEH Kr) (bH (isY (let ⟨C,N,bm,k,_⟩:=t.uAF.k t.eb X G;#[C,N,bm,k]) t.uAO n h ty t.uEW Kr) (dv))]
 have Oy:V.j "Parted" [("NoRow",false),("NothingKept",false)]:=let ⟨D,n,h,ty⟩:=t.uKF;#[D,mg_of X G n,bH (isY (let ⟨C,N,bm,k,_⟩:=t.uAE.k t.eb X G;#[C,N,bm,k]) t.uAS n h ty t.uJZ Kr) (bH (isY (let ⟨C,N,bm,k,_⟩:=t.uAF.k t.eb X G;#[C,N,bm,k]) t.uAO n h ty t.uKK Kr) (dv))]
 have Oz:V.j "NoRow" [("NoRow",true),("NothingKept",false)]:=let ⟨D,n,h,ty⟩:=t.uJV;#[D,mg_of X G n,bH (isY (let ⟨C,N,bm,k,_⟩:=t.uAE.k t.eb X G;#[C,N,bm,k]) t.uAS n h ty t.uEP Kr) (bH (isY (let ⟨C,N,bm,k,_⟩:=t.uAF.k t.eb X G;#[C,N,bm,k]) t.uAO n h ty t.uEK Kr) (dv))]
 have jv:V.jv [("NoRow",true),("NothingKept",true)]:=bH (isVE (let ⟨C,N,bm,k,_⟩:=t.uAE.k t.eb X G;#[C,N,bm,k]) t.uAS) (bH (isVE (let ⟨C,N,bm,k,_⟩:=t.uAF.k t.eb X G;#[C,N,bm,k]) t.uAO) (dv));have v8:iX V:=Ei (t.uHH.tx X G Lp) uB;have KZ:iY V:=Ej (t.uHF.tx X G Nj) uA v8;have NY:oY V:=El (t.uHE.tx X G Lw) uA uB;have NZ:oZ V:=Em (t.uFC.tx X G Lw) uF;have N0:pd V:=En (t.uHT.tx X G Nj) uK;have MF:pe V:=Eo (t.uKO.tx X G Lp) KZ NY NZ N0;have MG:pf V:=Ep (t.uGV.tx X G Lp) uK JX uF;have K3:iZ V:=Er (t.uJY.tx X G Lp) uP;have K4:ja V:=Es (t.uHZ.tx X G (by walk_at "b4"));have MD:ph V:=Et (t.uIJ.tx X G Lw) uP K3 K4;have N6:pi V:=Eu (t.uHA.tx X G Nj);have N_:pj V:=Ev (t.uFE.tx X G Lp) K3 N6;have Oa:pk V:=Ew (t.uHG.tx X G Lw) MD N_;have MH:pq V:=Ey (t.uKW.tx X G Lp) uV Oa;have OV:pr V:=Ez (t.uJI.tx X G Lp) uA KZ MF MG MH;have Oe:pv V:=EA (t.uKU.tx X G Nj) uA uB uF K4;have Of:pw V:=EB (t.uKT.tx X G Nj) Oe;have OW:pz V:=EE (t.uIE.tx X G Nj) uA Of;have Oq:pA V:=EG (t.uHM.tx X G Lw);have Og:pB V:=EI (t.uGM.txm t.uQ Lp) uL z8 K6;have OA:pC V:=EK (t.uHQ.txm t.uQ Lw) uB uS uE Og Oh;have On:pD V:=EM (t.uIF.txm t.uQ Lp) Oi uS uE uL;have KH:jb V:=EN (t.uGS.tx X G Lp) uV uP Oj Ol;have w9:fB V:=EO (t.uIK.tx X G Nj);have uH:vE V:=EV (t.uGQ.txm t.uBK Nj) (t.uGN.txm t.uCF Nj) (t.uFU.txm t.uBN Nj) (t.uHC.txm t.uEC Nj) (t.uGJ.txm t.uDV Nj) (t.uIH.txm t.uBS Nj) w9 Kc uM uU uT p_ Kd Ke uY uZ uX Kf Kg 6;have Om:pE V:=EW (t.uHS.tx X G Nj) KH K7 uH;have K8:jc V:=EY (t.uJN.tx X G (by walk_at "b4")) uA Om uR;have J2:gv V:=E1 (t.uFB.txm t.uQ Lw) uA K8 uE uO uL;have K9:jd V:=E2 (t.uKX.txd t.uQ (by walk_at "bd")) uV uW uE On J2 Oo;have MP:pG V:=E4 (t.uHU.tx X G Lp) uD Op Oq Ot Ou Ov Ow Ox Oy Oz jv OA K9 ek;have w_:gw V:=E5 (t.uKJ.tx X G Lw) uD OB uF;have K_:je V:=E7 (t.uJE.tx X G Lp) uB uD JX uA uK;have MI:pH V:=E9 (t.uGU.tx X G Lp) uB uD JX uA w_;have MJ:pI V:=Fc (t.uIG.tx X G Lw);have OD:pJ V:=Fd (t.uIN.tx X G Lw) uA K8 z9;have OE:C_round_row V:=Fe (t.uHR.tx X G (by walk_at "b4")) w9;have OF:pK V:=Ff (t.uFD.tx X G Nj) uB;have K':jg V:=Fh (t.uIT.tx X G (by walk_at "b5")) uV uA OC KI KH OD OE OF uR z9;have La:jh V:=Fj (t.uGC.txm t.uQ Lw) K' uE uO uL;have Lb:ji V:=Fn (t.uGI.txm t.uQ Lw) K' uW uO uE uL;have OH:pL V:=Fp (t.uFZ.txm t.uQ Lw) uB uS;have MQ:pM V:=Fs (t.uGW.tx X G (by walk_at "b6")) uD uK w_ K_ MI MJ z8 uO uW J2 La Lb OH;have uI:dA V:=Ft (t.uGY.txm t.uCK Lp) uB Ki uN;have uC:cE V:=Fu (t.uGF.txm t.uCK Lp) uI;have MK:pN V:=Fv (t.uIC.tx X G Nj) uA uR uC uI;have OL:pO V:=Fw (t.uJH.tx X G Lw) uB MK ML uI;have MN:pP V:=Fx (t.uJM.tx X G Lw) uF uI uC;have J4:gx V:=Fy (t.uFN.tx X G Lw) MN uC;have Lc:jj V:=Fz (t.uIM.tx X G Lp);have Ld:jk V:=FA (t.uKP.tx X G Lp) uP Lc;have OJ:pQ V:=FC (t.uIX.tx X G Lp) KI w9 uR;have OM:pR V:=FD (t.uGL.txi X G (by walk_at "b5")) Ld OJ OK uM Kc;have L5:jl V:=FE (t.uKH.tx X G Lw) OL J4 uN OM uC;have L7:jm V:=FF (t.uKL.txi X G Lp) uY;have L8:jn V:=FG (t.uHX.txi X G Lp) uZ;have LY:jp V:=FH (t.uGG.txi X G Nj) uU uT;have LZ:jq V:=FI (t.uGE.txi X G (by walk_at "b4")) p_ Ke Kd;have L4:jr V:=FJ (t.uFW.txi X G (by walk_at "b4")) uX Kf Kg;have uJ:vH V:=FO (t.uGD.tx X G Lp) (t.uIZ.tx X G Lp) (t.uGR.tx X G Lp) (t.uGX.tx X G Lp) LY uC J4 LZ uF L4 L5 L6 L7 L8 uI 6;have OS:pS V:=FP (t.uHB.txi X G Lp) Ki uN;have OT:pT V:=FQ (t.uGZ.txi X G (by walk_at "b4")) K6 z9 K7;have L':pU V:=FR (t.uHV.tx X G Lp) Lc;have L_:js V:=FS (t.uKN.tx X G Lp) L';have Ma:jt V:=FT (t.uJF.tx X G Lw);have Mb:ju V:=FU (t.uFV.tx X G Lw) Ld;have uG:vI V:=F4 (t.uHP.txm t.uBK Lw) (t.uGA.txm t.uCF Lw) (t.uJX.txm t.uBN Lw) (t.uGT.txm t.uEC Lw) (t.uIA.txm t.uDV Lw) (t.uGK.txm t.uBS Lw) uM L_ uU uT p_ Ma uY Mb uZ uX 6;have OU:pV V:=F5 (t.uHL.tx X G Lw) uB uJ OR uN OS OT uG;have MV:pW V:=F7 (t.uJJ.txi X G (by walk_at "b4")) OU uL z8 uO uW uE uS;exact F8 F OV v8 OW MP MQ w_ K_ MU MV Lb La J2 K9
def all_mk{l:Il}{w:Sj}{K:Ex}{h:Sl}{mg:C_->Option KB}{fa:KF}(X:K.In h)(G:h.Ns Pi mg)(NM:mg "law"=be (.ref fa))(t:TopIn K):
  ∃fd:Sq,(∀(s:KM) (v:KB),S_ s fd #[[v],[]] [("_law_script",v)])/\∀base:Sl,K.In base->base.Ns Pi mg->FnOk l.prog w K mg base (Exc.CX1 l.prog w) 21 fa fd ["_law_script"] (lSp K eL):=by
 obtain⟨fd,b,F⟩:=t.uKR.law X G NM (λ_ _ _ _ _ _ _=>rfl);exact#[fd,b,λbase _ _=>F9 (V:=#[l.prog,w,K,mg,base]) t X G F]
def law_walk{l:Il}{q:Sd}{j6:List C_}{XP:(C_->Option KB)->Sl->Prop}{YP:Sj->Sl->Prop}{d:DefRec}{K:Params->Ex}(hn:l.most=be 63)(Ll:d.params.defaults=[])
  (hY:∀(w:Sj) (h:Sl),YP w h->(K w.params).In h)
  (F:∀(w:Sj) (mg:C_->Option KB) (fa:KF) (h:Sl),(K w.params).In h->h.Ns Pi mg->mg d.name=be (.ref fa)->
   ∃fd:Sq,(∀(s:KM) (u:KB),S_ s fd #[[u],[]] [("_law_script",u)])/\∀base:Sl,(K w.params).In base->base.Ns Pi mg->FnOk l.prog w (K w.params) mg base (Exc.CX1 l.prog w) 21 fa fd ["_law_script"] (lSp (K w.params) eL)):
  IU q j6 XP YP l.row.toRowW d [] (λf vs=>PySem.call f vs):=
 L2.walk_of (n:=63) (k:=21) (x:="_law_script") (CX:=λw=>Exc.CX1 l.prog w) (sp:=λw=>lSp (K w.params) eL) hn Ku Ll #[rfl,Ku,Ku] hY F (λ_ _ a ns hl _ hS=>yG hl hS) λ_ _ _ _ _ h=>by obtain⟨_,_,_,_,_,_,_,_,_,_,_,_,_,_,_,z⟩:=h;exact z
end My
open PySem PySem.W PyProof.Rows
set_option maxRecDepth 100000 in
set_option maxHeartbeats 0 in
theorem PySem.Challenge.cw_motiffield_k28_new_floor_holds : PySem.Challenge.rw_motiffield_k28_new_floor.Holds := by
  w_on;o_law;k_head;(case hw =>w_witness2)
  k_fill
  refine My.law_walk (l :=PySem.Challenge.rw_motiffield_k28_new_floor) rfl rfl (λw h Y =>kIn_of Y) ?F
  case F =>
    intro w mg fa h KX G i9;refine My.all_mk KX G i9 ?_;constructor
    all_goals first|((with_reducible refine' My.fnIn_mk ?a ?l ?c ?k);(case a =>k_is);(case l =>k_is);(case c =>k_is);(case k =>k_is))|((with_reducible refine' My.nnIn_mk ?a);(case a =>k_is))|((with_reducible refine' My.noIn_mk ?a ?b);(case a =>k_is);(case b =>k_is))|((with_reducible refine' My.mtIn_mk ?a ?b ?i ?l ?c ?k);(case a =>k_is);(case b =>k_is);(case i =>k_is);(case l =>k_is);(case c =>k_is);(case k =>k_is))|((with_reducible refine' My.mdIn_mk ?a ?b ?i' ?l ?c ?k ?d);(case a =>k_is);(case b =>k_is);(case i' =>k_is);(case l =>k_is);(case c =>k_is);(case k =>k_is);(case d =>k_is))|((with_reducible refine' My.inIn_mk ?a ?mk ?b ?i ?kp ?l ?c ?k);(case a =>k_is);(case mk =>k_is);(case b =>k_is);(case i =>k_is);(case kp =>k_is);(case l =>k_is);(case c =>k_is);(case k =>k_is))|((with_reducible refine' My.clIn_mk ?a ?pg ?hd ?po ?sa ?ha ?hn ?ht ?hm);(case a =>k_is);(case pg =>k_is);(case hd =>k_is);(case po =>k_is);(case sa =>k_is);(case ha =>k_is);(case hn =>k_is);(case ht =>k_is);(case hm =>k_is))|((with_reducible refine' My.ciIn_mk ?a);(case a =>k_is))|((with_reducible refine' My.csIn_mk ?a);(case a =>k_is))|((with_reducible refine' My.ebIn_mk ?a ?kp ?o ?nk ?al ?ni);(case a =>k_is);(case kp =>k_is);(case o =>k_is);(case nk =>k_is);(case al =>rfl);(case ni =>k_is))|((with_reducible refine' My.e0In_mk ?b ?a ?kp ?o ?nk ?al ?ni);(case b =>k_is);(case a =>k_is);(case kp =>k_is);(case o =>k_is);(case nk =>k_is);(case al =>rfl);(case ni =>k_is))|((with_reducible refine' My.emIn_mkT ?e ?a ?c ?d);(case e =>decide);(case a =>k_is);(case c =>k_is);(case d =>k_is))|((with_reducible refine' My.emIn_mkF ?e ?a ?c ?d);(case e =>decide);(case a =>k_is);(case c =>k_is);(case d =>k_is))|((with_reducible refine' My.exIn_mk ?a ?b ?c ?d ?e ?f);(case a =>k_is);(case b =>k_is);(case c =>k_is);(case d =>k_is);(case e =>k_is);(case f =>k_is))|((with_reducible refine' My.yeIn_mk ?a ?b ?c);(case a =>k_is);(case b =>k_is);(case c =>k_is))
end
