import PyProof.Rows.All
import Wide.All
import OpenK.AllK
import Wide.FinOn
import Lean
import PyProof.EqAt
import PyProof.EqKinds
import PyProof.TupleCall
import PySem.Challenge.RW_motiffield_k07_first_wrong_sign
set_option compiler.extract_closed false
set_option Elab.async false
set_option linter.all false
set_option maxRecDepth 100000
set_option maxHeartbeats 4000000
local macro_rules|`(command|def $x:declId $s:optDeclSig $v:declVal)=>`(command|noncomputable def $x:declId $s:optDeclSig $v:declVal)
local macro_rules|`(command|abbrev $x:declId $s:optDeclSig $v:declVal)=>`(command|noncomputable abbrev $x:declId $s:optDeclSig $v:declVal)
local macro_rules|`(#[$x,*])=>`(⟨$x,*⟩)
theorem G_{p:Prop}(h:p:=by decide):p:=h
theorem Hd{p:Prop}(h:p:=by decide+kernel):p:=h
theorem Hf{p:Prop}(h:p:=by first|decide|rfl|exact Dv rfl):p:=h
theorem HN{p:Prop}(h:p:=by lia):p:=h
theorem HV{p:Prop}(h:p:=by simp):p:=h
theorem HX{p:Prop}(h:p:=by rw[ht];decide+kernel):p:=h
theorem Ia{p:Prop}(h:p:=by omega):p:=h
theorem Jf{p:Prop}(h:p:=by k_memK):p:=h
theorem Kb{p:Prop}(h:p:=by simp[step,aD,ay]):p:=h
theorem KK{p:Prop}(h:p:=by grind):p:=h
theorem Ld{p:Prop}(h:p:=by cases d<;>first|exact#[_,rfl,h]|exact False.elim h):p:=h
theorem L8{p:Prop}(h:p:=by walk_at "b2"):p:=h
theorem Mg{p:Prop}(h:p:=by rw[ht];rfl):p:=h
theorem Mm{p:Prop}(h:p:=by walk_at "b1"):p:=h
theorem O0{p:Prop}(h:p:=by cases q:cd.mro with|nil=>rw[q]at hm;simp[aL]at hm|cons _ _=>rfl):p:=h
theorem O1{p:Prop}(h:p:=by rw[Pat.depth];lia):p:=h
theorem Ps{p:Prop}(h:p:=by show(1:Nat)<1000;decide):p:=h
theorem Ro{p:Prop}(h:p:=by rw[<-hY];rfl):p:=h
theorem Rp{p:Prop}(h:p:=by rw[bL];simp[aQ,show¬d=5 by lia]):p:=h
open PySem renaming Str->G8
open Option renaming some->u5,none->A'
open PySem renaming Value->GT,Shared->KB,Addr->KF,wpAny_bind->KM,mainGlobals->Os,wpAny_pure->Pi,model->Pt,Expr->Pu,Program->Pw,wpAny->Px,Stmt->Py,World->Pz,Around->PB,assignEach->PC,starEach->PD,attributeBase->PF,FuncData->PH,compareOp->PJ,Pos->PK,wpAny_Call_Name_kw->PL,eval->PM,wpAny_newObj_type->PN,wpAny_mono->PP,behindInMarks->PQ,binaryOp->PR,wpAny_loadPart_at->PU,swapsWith->PV,Obj->PX,bootBuiltins->PY,excClassObj->P0,ExceptHandler->P1,wpAny_passesOwn->P2,PassesOwn->P3,Scope->P4,sysModules->P5,wpAny_getItem_str_slice->P6,wpAny_truthy_bool->P7,wpAny_standAt->P8,wpAny_holding->P9,wpAny_field->P',sliceBounds->P_,bindArgs->Qa,NameKind->Qb,wpAny_execs_nil->Qc,wpAny_isSubtype_exc->Qd,codeAny_mono->Qe,wpAny_call->Qf,wpAny_pyIter_enum->Qg,swapsWithSole->Qi,swappedStores->Qj,noteFrame->Qk,Env->Ql,assign->Qm,post_val_or_str->Qn,letOwnedTupleGo->Qo,wpAny_setField->Qp,sizeLine_eq->Qq,rawInt->Qr,keywordEach->Qt,codeAny_call_builtin->Qu,backTo->Qv,tupleKind->Qw,standAt->Qx,holding->Qy,codeAny->Qz,call_meets->QA,wpAny_assign_Name->QC,callerA->QD,cLine->QE,BindsTo->QF,plainObj_wpAny_Assign_Attribute->QG,setFlight->QH,getMethod->QI,IsPart->QJ,atKey->QK,getItem->QL,wpAny_letOwnedTupleGo_enum->QM,isInstance->QN,handleBy->QO,dictSetDefault->QP,bindName->QQ,backToKw->QR,Operator->QS,wpAny_comprehension_free->QT,assignInOrder->QU,bindL->QV,bindC->QW,seqIndex_neg->QY,leaving->QZ,getAttr->Q0,codeAny_compStart_list->Q2,codeAny_handlers_test->Q4,Sem->Q5,wpAny_of_eq->Q6,wpAny_newFunctionEnv->Q7,seqIndex_of->Q8,Model->Q9,GenState->Q_,wpAny_handleBy_cons->Ra,wpAny_rule->Rb,wpAny_entryPlaceOf->Rc,wpAny_Name->Re,typeIs_str->Rf,typeIs_int->Rg,builtinsNs->Rh,wpAny_frameOf_fun->Ri,relabel->Rj,foldedSetIterable->Rk,Keyword->Rm,CmpOp->Rn
open PyProof.Rows renaming envOfC->PZ,AllBare->Qh,assignInOrder_cons->QB,subscriptTail_builtinR->QX,floordiv_int->Q1,IntsAre->Q3,assignInOrder_nil->Rl
open PySem.W renaming Frag->Dr,findIn->DD,mroIn->Eo,OpenLaw->Fx,clsIn->FC,handedIn->FW,WalkO->F7
open List renaming mem_singleton->Ds,length_cons->Du,mem_cons->Dw,mem_cons_of_mem->Dx,size_toArray->Dz,length_append->DB,mem_cons_self->DC,replicate->DG,length_map->DJ,getElem?_set_ne->DL,getElem?_eq_some_iff->DN,lookup_cons->DQ,set_cons_succ->DR,set_cons_zero->DU,getElem?_eq_getElem->DV,mem_append_right->DY,map_cons->DZ,append_assoc->D0,mem_map->D1,mem_append->D3,getElem?_map->D4,range->D9,append_nil->Ea,getElem?_set_self->Eb,nodup_cons->Ed,replicate_succ->Ee,map_append->Ef,length_set->Ej,cons_append->Em,length_take->Ep,getElem?_append_left->Er,flatten_cons->Es,length_nil->Et,getElem_mem->Eu,lookup->Ew,getD->Ey,all_eq_true->Ez,eq_nil_of_length_eq_zero->EA,mem_append_left->EC,getElem?_append_right->EE,all_cons->EG,getElem?_set->EH,length->EL,mem_of_getElem?->EM,length_drop->EN,map_nil->EO,getElem?_eq_none->EQ,nodup_append->ES,not_mem_nil->EW,filterMap_cons->EZ,any_cons->E2,find?_cons->E8,take_length->Fi,of_mem_zip->Fo,getElem?_replicate->Fp,foldl->Fq,length_singleton->Fs,nil_append->Fu,contains_cons->Fy,ext_getElem?->Fz,drop->FD,drop_eq_getElem_cons->FP,mem_of_mem_drop->FR,mem_filter->FS,mem_filterMap->FU,length_replicate->FY,filterMap_map->FZ,foldl_cons->F5,forIn_cons->F9,take_succ->Gd,dropLast_cons₂->Gh,nodup_nil->Gi,sum_cons->Gx,map_map->GE,mem_of_mem_take->GL,dropLast_concat->GM,drop_length->GN
open Nat renaming le_refl->Dt,le_of_ble_eq_true->Dv,le_trans->Dy,ne_of_lt->DF,zero_le->DO,lt_of_lt_of_le->DP,pow_succ->D2,ne_of_gt->Ec,pow_le_pow_right->Eh,pow_pos->Ei,le_succ->Ex,lt_irrefl->EB,le_of_lt->EK,lt_or_ge->ER,mul_le_mul->EU,zero_add->EY,le_of_eq->E1,succ_mul->E3,lt_of_le_of_lt->E4,add_le_add->Fb,pow_add->Ff,add_comm->Ft,mul_comm->Fv,le_of_not_lt->Fw,lt_succ_of_lt->FA,lt_trans->FE,le_max_left->FM,le_max_right->FN,not_lt_zero->FQ,lt_succ_self->FX,log2_lt->F8,add_sub_add_right->Ga,mul_le_mul_left->Gf,succ_ne_self->Gj,eq_zero_or_pos->Gk,add_sub_cancel->GD,mul_two->GH
open Bool renaming false_ne_true->DK,and_eq_true->D6,eq_false_iff->D7,eq_iff_iff->En,or_true->E5,or_eq_true_iff->Gb
open Int renaming mul_pos->DM,mul_le_mul_of_nonneg_right->D5,mul_ediv_cancel->D8,natAbs_mul->Eg,mul_nonpos_of_nonpos_of_nonneg->El,mul_comm->Ev,toNat_natCast->EF,mul_nonneg->EI,eq_of_mul_eq_mul_right->EJ,emod_def->ET,le_trans->EV,natAbs_add_le->E9,fmod_nonneg_of_pos->Fc,mul_le_mul_of_nonneg_left->Fd,natAbs_neg->Fe,dvd_mul_of_dvd_right->Fg,zero_mul->Fh,mul_neg->Fj,toNat_of_nonneg->Fk,mul_nonneg_of_nonpos_of_nonpos->FF,emod_nonneg->FG,emod_lt_of_pos->FH,mul_nonpos_of_nonneg_of_nonpos->FI,sub_zero->FJ,eq_of_mul_eq_mul_left->FK,dvd_add->FL,mul_eq_zero->FO,mul_one->FT,fdiv_eq_ediv_of_nonneg->FV,fmod_def->Gm,fmod_lt_of_pos->Gn,neg_fmod_neg->Go,natAbs_sub_le->Gp,mul_emod_left->Gq,fmod_eq_zero_of_dvd->Gr,le_natAbs->Gs,ofNat_le->Gu,fdiv_nonneg->Gv,dvd_mul_of_dvd_left->Gw,mul_fdiv_cancel_of_fmod_eq_zero->Gy,dvd_antisymm->Gz,zero_sub->GA,emod_add_mul_ediv->GB,mul_le_mul->GC,pow_add->GI,one_mul->GJ,neg_mul->GK
open Option renaming bind_some->E6,getD_none->F4
open Array renaming getElem?_eq_some_iff->E7,length_toList->Fl,getElem?_toList->F6,all_toList->Gc,eq_empty_of_size_eq_zero->Ge,getElem?_eq_getElem->Gg,toList_inj->GF
open PySem.W (InitBack any_some callWith_K callWith_K0 cellsFrom_some cls_value codeIn codeRec_of emptyDict eq_bytes findCls findObj_own fnOf get_value hasDictIn hideAll hideAll_get hideAll_none hideAll_size instObj isFn isNs_of_in kIn_of keepIn ki_setAt ki_setBack kia_one kitOne kitx_bool kitx_dict kitx_float kitx_int kitx_list kitx_none kitx_own kitx_str kitx_tuple kun_itemsOf len_bytes lookIn make_core makesIn makes_of methodCall_KW methodObj method_cls method_fn mg_none_of mg_of ne_bytes nsIn nsMap_none_of_in nsOkIn of_hideAll osa_open plainGet plainGet_of plainOver readsIn specialIn tailIn tail_of_in takerIn takesIn truthy_bytes)
def qZ0(_:0=0:=by rfl):=0
nonrec def zA0:=qZ0._auto_1
def qZ1(_:0=0:=by decide):=0
nonrec def zA1:=qZ1._auto_1
def qZ2(_:0=0:=by first|exact .inl rfl|exact .inr rfl|assumption):=0
nonrec def zA2:=qZ2._auto_1
def qZ3(_:0=0:=by exact λ_=>rfl):=0
nonrec def zA3:=qZ3._auto_1
def qZ4(_:0=0:=by first|exact Or.inl rfl|exact Or.inr rfl):=0
nonrec def zA4:=qZ4._auto_1
def qZ5(_:0=0:=by first|exact Or.inl rfl|exact Or.inr (Or.inl rfl)|exact Or.inr (Or.inr rfl)):=0
nonrec def zA5:=qZ5._auto_1
def qZ6(_:0=0:=by exact λ_ _=>rfl):=0
nonrec def zA6:=qZ6._auto_1
def qZ7(_:0=0:=by intros;rfl):=0
nonrec def zA7:=qZ7._auto_1
namespace PySem.W.Fast
def tw6688300664430677794:=Nat
def tw16228123007555162800:=Nat
def tw18077468993728363431:=Nat
def tw15223699402757128907:=Nat
def tw2208472990409145697:=Nat
def tw6458691088796059515:=Nat
def tw10225264105140092592:=Nat
def tw15238566150103732730:=Nat
def tw10314847434093843882:=Nat
def tw1650616283114316540:=Nat
def tw6147478191867403751:=Nat
def tw10979845636693138636:=Nat
def tw7553530775791739982:=Nat
def tw12056627986800841058:=Nat
def tw6928541362189833017:=Nat
def tw2105577221872033554:=Nat
def tw7712965565490844192:=Nat
def tw9813576151370489749:=Nat
def tw3080357395144246454:=Nat
def tw3186393288129806887:=Nat
def tw17489118347855859020:=Nat
def tw7227213265023496595:=Nat
def tw9817372925296269006:=Nat
def tw1810219782703187676:=Nat
def tw10292382726169454337:=Nat
def tw17716496284859213627:=Nat
def tw611389462772062938:=Nat
def tw7874638428622918610:=Nat
def tw9293306704990105235:=Nat
def tw7528138264484602715:=Nat
def tw6456717789157033194:=Nat
def tw15129605990095922316:=Nat
def tw11402884670737318491:=Nat
def tw12114912783238423366:=Nat
def tw11342624062907226345:=Nat
def tw18188427386575276147:=Nat
def tw15159955459938364900:=Nat
def tw16271524553936571077:=Nat
def tw3321323706868302860:=Nat
def tw11146671337170058034:=Nat
def tw9207670546707140240:=Nat
def tw9703222905009896547:=Nat
def tw6310800178318672379:=Nat
def tw16845908456137543280:=Nat
def tw9198034756609123081:=Nat
def tw405902452036553994:=Nat
def tw17734726262772104339:=Nat
def tw4024954980743013999:=Nat
def tw15422512273983464746:=Nat
def tw747959892315641397:=Nat
def tw6446286335679562257:=Nat
def tw15432594597955724279:=Nat
def tw14613736601184313578:=Nat
def tw8179454759398111383:=Nat
def tw8603040682489458290:=Nat
def tw6624889694915387189:=Nat
def tw263673244133223224:=Nat
def tw12475398760951064063:=Nat
def tw7612117966469541400:=Nat
def tw3556225926696258463:=Nat
def tw7291212454123313827:=Nat
def tw6722521264989879951:=Nat
def tw216701711128045426:=Nat
def tw12912758860369585578:=Nat
def tw17939674089119871569:=Nat
def tw12554004905500512090:=Nat
def tw7036244657753400510:=Nat
def tw13987238481580222881:=Nat
def tw6050938289926978458:=Nat
def tw4409182319120245468:=Nat
def tw14802136083570921726:=Nat
def tw9902886578831082605:=Nat
def tw7821438190440362306:=Nat
def tw13243853582993174032:=Nat
def tw4566728268066716092:=Nat
def tw18329084448532535081:=Nat
def tw984064139512429540:=Nat
def tw5893336286744783734:=Nat
def tw4828494645589651204:=Nat
def tw10911487987325710342:=Nat
def tw1059023591340956933:=Nat
def tw5357641850184177129:=Nat
def tw9563162733646907365:=Nat
def tw2445210265061389635:=Nat
def tw5083520841735123494:=Nat
def tw11204988297377384435:=Nat
def tw2741000616545533020:=Nat
def tw14484812874410918929:=Nat
def tw17665999174284332359:=Nat
def tw4288366770839148120:=Nat
def tw10775116251756120028:=Nat
def tw14021767447275431775:=Nat
def tw18326884122510760122:=Nat
def tw11566094286052399174:=Nat
def tw7294747897036140872:=Nat
def tw17166075589177272937:=Nat
def tw1297299201772250996:=Nat
def tw8955814965572387275:=Nat
def tw5570047527928151242:=Nat
def tw16046688585744455:=Nat
def tw11982867015986370958:=Nat
def tw8576239249724645344:=Nat
def tw16133916509095434908:=Nat
def tw10694523610793090725:=Nat
def tw16065115985361979458:=Nat
def tw15133619963047964348:=Nat
def tw15713641542925243466:=Nat
def tw4987764730556276187:=Nat
def tw2839807308385529757:=Nat
def tw8855657642007166502:=Nat
def tw832984976492212151:=Nat
def tw755095336515312945:=Nat
def tw7722913449541764299:=Nat
def tw572903653787640440:=Nat
def tw16402923370166493905:=Nat
def tw14561071708590274194:=Nat
def tw7654986016114576754:=Nat
def tw777712117374165189:=Nat
def tw7144535788107251136:=Nat
def tw3403828104058443875:=Nat
def tw16569961068626645555:=Nat
def tw9157180178993093381:=Nat
def tw18024447561295533842:=Nat
def tw14007536582984335277:=Nat
def tw8554654760143550233:=Nat
def tw16855732556072658371:=Nat
def tw13424962680273930617:=Nat
def tw17793394605348401330:=Nat
def tw16946717798793967212:=Nat
def tw13075710183591301301:=Nat
def tw2198421222627511602:=Nat
def tw16761137445526840281:=Nat
def tw4038692681570610845:=Nat
def tw1051946729367660009:=Nat
def tw13401424092564461645:=Nat
def tw14106906562113205475:=Nat
def tw10766588250479571739:=Nat
def tw5960916594709316403:=Nat
def tw15995177214682152819:=Nat
def tw16348637641418788000:=Nat
def tw8010378136245167026:=Nat
def tw9289538677312111315:=Nat
def tw1308749661581617318:=Nat
def tw11231628355495675276:=Nat
def tw16223915599855762187:=Nat
def tw3315135023184054252:=Nat
def tw130656221547329344:=Nat
def tw17436572174562567526:=Nat
def tw10728586836465546235:=Nat
def tw5720088366908722567:=Nat
def tw14104297154315305572:=Nat
def tw4219070552017179987:=Nat
def tw7373404320627765252:=Nat
def tw12285868008127689533:=Nat
def tw4780098984242963563:=Nat
def tw14408817202414855853:=Nat
def tw13631156751448074534:=Nat
def tw4786108345092036193:=Nat
def tw85542125177444559:=Nat
def tw4698517811129790403:=Nat
def tw13387348773426156050:=Nat
def tw4306425254854264996:=Nat
def tw1536495487048110180:=Nat
def tw8600723330594476914:=Nat
def tw5125603458672367335:=Nat
def tw7798914141780706883:=Nat
def tw10694413766219506203:=Nat
def tw3674558520588778107:=Nat
def tw12179149218465078604:=Nat
def tw11215676983464967787:=Nat
def tw10666127617472492812:=Nat
def tw13387565440242607880:=Nat
def tw9877340838361416619:=Nat
def tw402717863471714041:=Nat
def tw17708220109870559415:=Nat
def tw8944812607081110747:=Nat
def tw15943067652833297446:=Nat
def tw6701707498344795680:=Nat
def tw4476848606160292014:=Nat
def tw16346393293230816866:=Nat
def tw3202368594495320176:=Nat
def tw15099587103612183009:=Nat
def tw14278727566177994636:=Nat
def tw12353257609164383398:=Nat
def tw1510915639711141515:=Nat
def tw7321028000812879307:=Nat
def tw10846220659525434316:=Nat
def tw7137423273392441152:=Nat
def tw7492176178016633602:=Nat
def tw16986110774673765651:=Nat
def tw13789955133509934898:=Nat
def tw11603166007355055417:=Nat
def tw12718628094708469323:=Nat
def tw9101038996399093302:=Nat
def tw17057787138513205924:=Nat
def tw16069321118429600475:=Nat
def tw1412155114959894332:=Nat
def tw13946277027792145570:=Nat
def tw1266778896973926660:=Nat
def tw4418148045395044035:=Nat
def tw3547898512138602442:=Nat
def tw10243858922642939515:=Nat
def tw18361241520979025008:=Nat
def tw12109465873048219939:=Nat
def tw14183423213009396526:=Nat
def tw18136858561588175784:=Nat
def tw9602189987118722991:=Nat
def tw7531611650399189910:=Nat
def tw6435587920241494318:=Nat
def tw13196683438775295548:=Nat
def tw7027294582338973295:=Nat
def tw14581424899207767981:=Nat
def tw13371348784053104603:=Nat
def tw15408139370433762470:=Nat
def tw12059741223034068148:=Nat
def tw266762231760245644:=Nat
def tw14705928582095968958:=Nat
def tw3434093784255039275:=Nat
def tw12905644426466284135:=Nat
def tw11290796412828440624:=Nat
def tw9852697518851321658:=Nat
def tw9199904489712589575:=Nat
def tw3646054410993243218:=Nat
def tw3800965652543328589:=Nat
def tw2389194123989222225:=Nat
def tw4739650394577899962:=Nat
def tw6318568666966083666:=Nat
def tw16658358737280563258:=Nat
def tw4366229342206830343:=Nat
def tw2778144086531219827:=Nat
def tw12766122091713544255:=Nat
def tw17897118311994638482:=Nat
def tw17910521766268875450:=Nat
def tw14059994558590956042:=Nat
def tw8362610358488344409:=Nat
def tw6468735662483843154:=Nat
def tw7857417649315892519:=Nat
def tw7112055501494518965:=Nat
def tw2834648348745020309:=Nat
def tw10903946684005671573:=Nat
def tw138324779238569910:=Nat
def tw11089973428795083410:=Nat
def tw17550164451785796638:=Nat
def tw14725791529379299632:=Nat
def tw15418086312012920217:=Nat
def tw17985232819199459115:=Nat
def tw8276219960944488267:=Nat
def tw1800958487019493941:=Nat
def tw9929896589874455349:=Nat
def tw8026460083263300333:=Nat
def tw2691412663021701297:=Nat
def tw14600903571439019046:=Nat
def tw1942167169323582023:=Nat
def tw5216466766242980533:=Nat
def tw2712689760322607522:=Nat
def tw4103195648834990835:=Nat
def tw343456123328581342:=Nat
def tw8965445205626219292:=Nat
def tw17837885634779998644:=Nat
def tw17321480272879593512:=Nat
def tw17526588612291899511:=Nat
def tw4336505182768062863:=Nat
def tw12516070020335844866:=Nat
def tw4163704803986492483:=Nat
def tw3770519896938492904:=Nat
def tw8108735698920276545:=Nat
def tw15171154148603250356:=Nat
def tw3734944879414476237:=Nat
def tw265048292122504087:=Nat
def tw13843800729884876333:=Nat
def tw16740593513786706866:=Nat
def tw4337331281504898019:=Nat
def tw1194199893621562048:=Nat
def tw15536586984219639943:=Nat
def tw5032494551618896171:=Nat
def tw11758743525825751109:=Nat
def tw15782984075090599443:=Nat
def tw3184002434665445317:=Nat
def tw12780782172159071159:=Nat
def tw12814489878092793779:=Nat
def tw9254566499601666113:=Nat
def tw16230014451022259458:=Nat
def tw15825357767658655655:=Nat
def tw11465116593945268187:=Nat
def tw7020390209100139489:=Nat
def tw11683529241521895822:=Nat
def tw8709150345274315815:=Nat
def tw12092771869135751868:=Nat
def tw4130018975624007290:=Nat
def tw4852401129080959903:=Nat
def tw17652701067250446250:=Nat
def tw1364378981950244357:=Nat
def tw12643696338462733963:=Nat
def tw534411685859324045:=Nat
def tw12282484762315126894:=Nat
def tw10051783857864283324:=Nat
def tw2973698014364951148:=Nat
def tw3960547764770096074:=Nat
def tw13149755359974506479:=Nat
def tw9709006813637931216:=Nat
def tw15922813694024632604:=Nat
def tw126286026024449397:=Nat
def tw14920538716513204668:=Nat
def tw9660429196098413369:=Nat
def tw17689909554955194288:=Nat
def tw12022570513927822262:=Nat
def tw9259327308144473546:=Nat
def tw16028999962384230683:=Nat
def tw10444639709553622393:=Nat
def tw5456513399965159847:=Nat
def tw8946183495971899641:=Nat
def tw1765516636524153379:=Nat
def tw7751422986598250315:=Nat
def tw12905420449177476429:=Nat
def tw10031047215982643568:=Nat
def tw7418803165861859779:=Nat
def tw9979042313053539464:=Nat
def tw14017565491974854970:=Nat
def tw412762768716074958:=Nat
def tw9576400601978740629:=Nat
def tw12513206233823994143:=Nat
def tw14033039585132319974:=Nat
def tw4440730019569989817:=Nat
def tw7092056888048933032:=Nat
def tw3087283180196802775:=Nat
def tw18249586196968287273:=Nat
def tw14666026756135102213:=Nat
def tw15811237487813727645:=Nat
def tw1355601209177960224:=Nat
def tw10559492889963065744:=Nat
def tw12514875175628281601:=Nat
def tw15293172396411868703:=Nat
def tw3852972123375497229:=Nat
def tw1918432672917086813:=Nat
def tw6617101713703239636:=Nat
def tw17141407748949623176:=Nat
def tw6914699808232093906:=Nat
def tw12477396296599540054:=Nat
def tw9587135966392308606:=Nat
def tw7438312389551465994:=Nat
def tw8331886849621575630:=Nat
def tw1625677358543643840:=Nat
def tw4404509762225614040:=Nat
def tw7032430098449448429:=Nat
def tw12817792074377152779:=Nat
def tw14037959662977602396:=Nat
def tw437949458847537201:=Nat
def tw4977630695016996021:=Nat
def tw8113225113441465952:=Nat
def tw7415135527043851850:=Nat
def tw9105043143216605654:=Nat
def tw13640792366146649317:=Nat
def tw12890733167714448847:=Nat
def tw8688291551388457391:=Nat
def tw13533576010733447287:=Nat
def tw12483625690720219070:=Nat
def tw620764041607393243:=Nat
def tw11937087820367018172:=Nat
def tw16176950329667701158:=Nat
def tw13982680295397975329:=Nat
def tw18095094233778618512:=Nat
def tw6230311336929037817:=Nat
def tw797315055062432356:=Nat
def tw16861568702831404188:=Nat
def tw2191140789066813029:=Nat
def tw7994516841950778808:=Nat
def tw13490624973950907406:=Nat
def tw2725522236984137683:=Nat
def tw17502942961690972274:=Nat
def tw16987821950816075543:=Nat
def tw2737875063557317613:=Nat
def tw15975523033941397709:=Nat
def tw11752034460784011305:=Nat
def tw11643180941215313301:=Nat
def tw1983095877431808312:=Nat
def tw2624206252146535545:=Nat
def tw16904842539918318205:=Nat
def tw3553073532146943483:=Nat
def tw2989762155535183073:=Nat
def tw14846315384304247640:=Nat
def tw18115752372720549102:=Nat
def tw16306417927975388451:=Nat
def tw6949286163093561838:=Nat
def tw16649958458195626881:=Nat
def tw11465460485502216661:=Nat
def tw11262751419385558086:=Nat
def tw3471928332423352526:=Nat
def tw4926491273395896823:=Nat
def tw6581227766948753956:=Nat
def tw1762192407857585519:=Nat
def tw4478459913193952426:=Nat
def tw17032620701295916945:=Nat
def tw3344416416583599268:=Nat
def tw4791652582979944846:=Nat
def tw15564026473630090082:=Nat
def tw18175922681704569331:=Nat
def tw3585960356717088919:=Nat
def tw2055645527534242779:=Nat
def tw3636696988915999187:=Nat
def tw13392202825419129736:=Nat
def tw17060554656383237519:=Nat
def tw13749834267809051229:=Nat
def tw3920059215218645544:=Nat
def tw12924968713277509158:=Nat
def tw4600308476713784240:=Nat
def tw1841191164767598025:=Nat
def tw14101528122752711657:=Nat
def tw3375642737811823704:=Nat
def tw14697780956133732805:=Nat
def tw15383010260241640351:=Nat
def tw4598903065826699040:=Nat
def tw8473200431495791424:=Nat
def tw3842939409494265808:=Nat
def tw13907596055283799089:=Nat
def tw1936246581960078645:=Nat
def tw553053098761957322:=Nat
def tw9744962941229555158:=Nat
def tw15296590130114141004:=Nat
def tw4066500568555860391:=Nat
def tw11485484224458523407:=Nat
def tw9041453649175920114:=Nat
def tw4728846912306376038:=Nat
def tw3518398128026649047:=Nat
def tw11613316414325554219:=Nat
def tw6395964462361118186:=Nat
def tw2607330060900631861:=Nat
def tw18381146838021364311:=Nat
def tw5109196497326412648:=Nat
def tw5813745292499145627:=Nat
def tw4206434747369931552:=Nat
def tw9447219456852835554:=Nat
def tw9187601307390082977:=Nat
def tw11422338800189104041:=Nat
def tw9713359193579256964:=Nat
def tw18043981387990190550:=Nat
def tw1602806335631480806:=Nat
def tw15177298381666327940:=Nat
def tw625754890575498185:=Nat
def tw15232619462380871938:=Nat
end PySem.W.Fast
section
namespace L2
open PySem PySem.Spec PyProof.Rows
abbrev Key:=Sum Int G8
def dO:Key->GT->Bool
 |.inl k,v=>Value.isInt k v
 |.inr x,v=>Value.isStrOf x v
def keyH(w:Pz):Key->Int
 |.inl k=>hashInt k
 |.inr x=>hashStr w x
def keyIs_shape:∀{k:Key} {v:GT},dO k v=true->(∃i t,k=Sum.inl i/\v=Value.int i t)\/(∃x t,k=Sum.inr x/\v=Value.str x t)
 |.inl i,v,h=>by
  obtain⟨t,e⟩:=Value.isInt_shape (k:=i) (v:=v) h;exact .inl #[i,t,rfl,e]
 |.inr x,v,h=>by
  obtain⟨t,e⟩:=Value.isStrOf_shape (x:=x) (v:=v) h;exact .inr #[x,t,rfl,e]
def sQ(i:Int)(t:Tok):dO (.inl i) (.int i t)=true:=by simp[dO,Value.isInt]
def sR(x:G8)(t:Tok):dO (.inr x) (.str x t)=true:=by simp[dO,Value.isStrOf]
def sS(a b:Int):decide ((Sum.inl a:Key)=Sum.inl b)=(a==b):=by
 by_cases e:a=b
 .subst e;simp
 .have h:¬(Sum.inl a:Key)=Sum.inl b:=λq=>e (Sum.inl.inj q);rw[decide_eq_false h];exact(beq_eq_false_iff_ne.mpr e).symm
def sT(a b:G8):decide ((Sum.inr a:Key)=Sum.inr b)=decide (a=b):=by
 by_cases e:a=b
 .subst e;simp
 .have h:¬(Sum.inr a:Key)=Sum.inr b:=λq=>e (Sum.inr.inj q);rw[decide_eq_false h,decide_eq_false e]
def sU(a:Int)(b:G8):decide ((Sum.inl a:Key)=Sum.inr b)=false:=decide_eq_false (λq=>nomatch q)
def sV(a:G8)(b:Int):decide ((Sum.inr a:Key)=Sum.inl b)=false:=decide_eq_false (λq=>nomatch q)
def cg(prog:Pw)(w:Pz):PySem.KeyKind prog w Key where
 is:=dO
 hash:=keyH w
 inj:=λv a b ha hb=>by
  rcases keyIs_shape ha with⟨i,t,rfl,rfl⟩|⟨x,t,rfl,rfl⟩
  .rcases keyIs_shape hb with⟨j,u,rfl,e⟩|⟨y,u,rfl,e⟩
   .injection e with e1 _;rw[e1]
   .exact nomatch e
  .rcases keyIs_shape hb with⟨j,u,rfl,e⟩|⟨y,u,rfl,e⟩
   .exact nomatch e
   .injection e with e1 _;rw[e1]
 byValue:=λk v h=>by
  rcases keyIs_shape h with⟨i,t,rfl,rfl⟩|⟨x,t,rfl,rfl⟩<;>rfl
 pyHash:=λhv h=>by
  rcases keyIs_shape hv with⟨i,t,rfl,rfl⟩|⟨x,t,rfl,rfl⟩
  .exact wpAny_pyHash_int h
  .exact wpAny_pyHash_str h
 eqBool:=λhu hv h=>by
  rcases keyIs_shape hu with⟨i,t,rfl,rfl⟩|⟨x,t,rfl,rfl⟩
  .rcases keyIs_shape hv with⟨j,u,rfl,rfl⟩|⟨y,u,rfl,rfl⟩
   .rw[sS]at h;exact wpAny_eqBool_int h
   .rw[sU]at h;exact SeqAt.EqAt.int_str i t y u _ _ _ _ h
  .rcases keyIs_shape hv with⟨j,u,rfl,rfl⟩|⟨y,u,rfl,rfl⟩
   .rw[sV]at h;exact SeqAt.EqAt.str_int x t j u _ _ _ _ h
   .rw[sT]at h;exact wpAny_eqBool_str h
 «strs»:=λk x t v h=>by
  rcases keyIs_shape h with⟨i,u,rfl,e⟩|⟨y,u,rfl,e⟩
  .exact nomatch e
  .injection e with e1 _;subst e1;cases v<;>rfl
def mixKind_int(prog:Pw)(w:Pz)(i:Int)(t:Tok):(cg prog w).is (.inl i) (.int i t)=true:=sQ i t
def sW(prog:Pw)(w:Pz)(x:G8)(t:Tok):(cg prog w).is (.inr x) (.str x t)=true:=sR x t
inductive V where
 |non|bl (b:Bool)|int (i:Int)|str (x:Str)|byt (b:Array UInt8)|flt (b:UInt64)|ref (a:KF)|ty (n:String)
 deriving DecidableEq
def RelV:V->GT->Prop
 |.non,u=>u=Value.none
 |.bl b,u=>u=Value.bool b
 |.int i,u=>∃t,u=Value.int i t
 |.str x,u=>∃t,u=Value.str x t
 |.byt b,u=>∃t,u=Value.bytes b t
 |.flt b,u=>∃t,u=Value.float b t
 |.ref a,u=>u=Value.ref a
 |.ty n,u=>u=Value.type n
abbrev Vals:List V->List GT->Prop:=Paired RelV
variable{xs:List V}{us:List GT}
def Vals.length(r:Vals xs us):xs.length=us.length:=Paired.length r
def Vals.get:∀{xs:List V} {us:List GT} {i:Nat} {x:V},Vals xs us->xs[i]?=u5 x->∃u,us[i]?=u5 u/\RelV x u
 |_,_,_,_,.nil,e=>by simp at e
 |_,_,0,_,.cons r _,e=>by simp at e;subst e;exact#[_,rfl,r]
 |_,_,i+1,x,.cons _ t,e=>by
  obtain⟨u,h1,h2⟩:=Vals.get (i:=i) (x:=x) t (by simpa using e);exact#[u,by simpa using h1,h2]
def Vals.set{x:V}{u:GT}(r:RelV x u):∀{xs:List V} {us:List GT} (i:Nat),Vals xs us->Vals (xs.set i x) (us.set i u)
 |_,_,_,.nil=>.nil
 |_,_,0,.cons _ t=>.cons r t
 |_,_,i+1,.cons q t=>.cons q (Vals.set r i t)
def Vals.append:∀{xs ys:List V} {us ws:List GT},Vals xs us->Vals ys ws->Vals (xs++ys) (us++ws):=by
 intro xs ys us ws h s;induction h with
 |nil=>exact s
 |cons r _ e=>exact .cons r e
def Vals.take:∀{xs:List V} {us:List GT} (n:Nat),Vals xs us->Vals (xs.take n) (us.take n)
 |_,_,0,_=>.nil
 |_,_,_+1,.nil=>.nil
 |_,_,n+1,.cons r t=>.cons r (Vals.take n t)
def Vals.drop:∀{xs:List V} {us:List GT} (n:Nat),Vals xs us->Vals (xs.drop n) (us.drop n)
 |_,_,0,r=>r
 |_,_,_+1,.nil=>.nil
 |_,_,n+1,.cons _ t=>Vals.drop n t
def RelO:Option V->Option GT->Prop
 |some v,u5 u=>RelV v u
 |none,A'=>True
 |_,_=>False
def KV{κ:Type}:List (κ×V)->List (κ×GT)->Prop:=Paired λ(p:κ×V) (q:κ×GT)=>p.1=q.1/\RelV p.2 q.2
def kV:Key->V
 |.inl i=>.int i
 |.inr x=>.str x
inductive HO where
  |lst (xs:List V)
  |tup (xs:List V)
  |dK (a9:List (Key×V))|dT (a9:List (List Key×V))
  |set (S:Int->Bool) (n:Nat)
  |ins (C dx:KF) (fs:List (G8×V))
  |own (x:KF)
  |xd (fs:List (G8×V))
  |met (f x:KF)
  |rng (lo hi:Int)
  |frz (o:PX) (u:HO)
  |tbl (ps:Array GT)
  |ext (φ:Heap->Prop)
abbrev Hp:=KF->Option HO
def upd(H:Hp)(a:KF)(o:HO):Hp:=λb=>if b=a then u5 o else H b
variable{H:Hp}{a:KF}{o:HO}
def aA:upd H a o a=u5 o:=by unfold upd;rw[if_pos rfl]
variable{b:KF}
def ao(h:b≠a):upd H a o b=H b:=by unfold upd;rw[if_neg h]
def sX{u:HO}(h:H a=u5 o)(h':H b=u5 u)(d:o≠u):a≠b:=by
 intro e;subst e;rw[h]at h';exact d (Option.some.inj h')
def bU(h:H a=u5 o)(h':H b=A'):a≠b:=by
 intro e;subst e;rw[h]at h';cases h'
section
variable (P:Pw)(w:Pz)
def ObjOk(H:Hp)(h:Heap)(a:KF):HO->Prop
 |.lst xs=>xs.length<=sizeLine/\∃(its:List GT) (n:Nat),Vals xs its/\h.get? a=u5 {cls:=.type "list",data:=.seq its.toArray n}
 |.tup xs=>xs.length<=sizeLine/\∃its:List GT,Vals xs its/\IsTup h a its.toArray
 |.dK a9=>a9.length<=sizeLine/\(a==P5)=false/\∃vs,KV a9 vs/\h.DictOf (cg P w) a vs
 | .dT a9=>a9.length<=sizeLine/\(a==P5)=false/\∃xs:List (List Key×KF×GT),
   Paired (λ(p:List Key×V) (q:List Key×KF×GT)=>p.1=q.1/\H q.2.1=u5 (.tup (p.1.map kV))/\RelV p.2 q.2.2) a9 xs/\
   ∃o es ep,h.get? a=u5 o/\o.ExactDict/\o.data=.dict es ep/\es.toList=xs.map (entryOfKey (Qw (cg P w)))/\(xs.map (·.1)).Nodup
 |.set S n=>h.SetOf (intKind P w) a S n
 | .ins C dx fs=>H dx=u5 (.own a)/\fs.length<=1000/\dx≠a/\h.get? a=u5 (instObj C dx)/\
   ∃mA,h.Ns1 dx mA/\(∀f,RelO (fs.lookup f) (mA f))/\PySem.Within mA (fs.map (·.1))
 |.own _=>∃o,h.get? a=u5 o
 |.xd fs=>∃mA,h.Ns1 a mA/\∀f,RelO (fs.lookup f) (mA f)
 |.rng lo hi=>∃t u v,h.get? a=u5 {cls:=.type "range",data:=.fields [.int lo t,.int hi u,.int 1 v].toArray}
 |.frz o u=>h.get? a=u5 o/\ObjOk H h a u
 |.tbl ps=>h.get? a=u5 {cls:=.none,data:=.fields ps}
 |.met f x=>h.get? a=u5 (methodObj (.ref f) (.ref x))
 |.ext φ=>φ h/\(∃o,h.get? a=u5 o)/\∀h1 h2:Heap,φ h1->(∀o,h1.get? a=u5 o->h2.get? a=u5 o)->φ h2
def HOk(H:Hp)(h:Heap):Prop:=∀a o,H a=u5 o->ObjOk P w H h a o
end
section
variable {P:Pw}{w:Pz}{H H':Hp}{h h':Heap}{a:KF}{o:HO}
def ObjOk.lt(x:ObjOk P w H h a o):a<h.objs.size:=by
 cases o with
 |lst xs=>obtain⟨_,_,_,_,e⟩:=x;exact Heap.lt_size e
 |tup xs=>obtain⟨_,_,_,p⟩:=x;exact p.lt
 |dK a9=>obtain⟨_,_,_,_,o,_,_,e,_⟩:=x;exact Heap.lt_size e
 |dT a9=>obtain⟨_,_,_,_,o,_,_,e,_⟩:=x;exact Heap.lt_size e
 |set S n=>obtain⟨o,_,_,_,e,_⟩:=x;exact Heap.lt_size e
 |ins C dx fs=>obtain⟨_,_,_,e,_⟩:=x;exact Heap.lt_size e
 |own y=>obtain⟨_,e⟩:=x;exact Heap.lt_size e
 |xd fs=>obtain⟨_,⟨_,_,_,e,_⟩,_⟩:=x;exact Heap.lt_size e
 |rng lo hi=>obtain⟨_,_,_,e⟩:=x;exact Heap.lt_size e
 |frz ob u=>obtain⟨e,_⟩:=x;exact Heap.lt_size e
 |tbl ps=>exact Heap.lt_size (show h.get? a=u5 _ from x)
 |met f y=>exact Heap.lt_size (show h.get? a=u5 _ from x)
 |ext φ=>obtain⟨_,⟨_,e⟩,_⟩:=x;exact Heap.lt_size e
def Paired.mapP{α β:Type}{F G:α->β->Prop}:∀{l₁:List α} {l₂:List β},Paired F l₁ l₂->(∀a b,F a b->G a b)->Paired G l₁ l₂:=by
 intro l₁ l₂ h f;induction h with
 |nil=>exact .nil
 |cons r _ e=>exact .cons (f _ _ r) e
def ObjOk.stay(x:ObjOk P w H h a o)(k:∀b u,(b=a\/H b=u5 (.own a))->h.get? b=u5 u->h'.get? b=u5 u)
  (ho:∀b,H b=u5 (.own a)->H' b=u5 (.own a)) (ht:∀b xs,H b=u5 (.tup xs)->H' b=u5 (.tup xs)):ObjOk P w H' h' a o:=by
 induction o with
 |lst xs=>obtain⟨z,its,n,r,e⟩:=x;exact#[z,its,n,r,k _ _ (.inl rfl) e]
 |tup xs=>obtain⟨z,its,r,ob,e,c⟩:=x;exact#[z,its,r,ob,k _ _ (.inl rfl) e,c]
 |dK a9=>obtain⟨z,y,vs,r,ob,es,ep,e,c⟩:=x;exact#[z,y,vs,r,ob,es,ep,k _ _ (.inl rfl) e,c]
 |dT a9=>
  obtain⟨z,y,xs,r,ob,es,ep,e,c⟩:=x;exact#[z,y,xs,Paired.mapP r λp q z=>#[z.1,ht _ _ z.2.1,z.2.2],ob,es,ep,k _ _ (.inl rfl) e,c]
 |set S n=>obtain⟨ob,es,ep,t,e,c⟩:=x;exact#[ob,es,ep,t,k _ _ (.inl rfl) e,c]
 |ins C dx fs=>
  obtain⟨d,z,ne,e,mA,⟨od,es,ep,e2,c⟩,r⟩:=x;exact#[ho _ d,z,ne,k _ _ (.inl rfl) e,mA,#[od,es,ep,k _ _ (.inr d) e2,c],r]
 |own y=>obtain⟨ob,e⟩:=x;exact#[ob,k _ _ (.inl rfl) e]
 |xd fs=>obtain⟨mA,⟨od,es,ep,e,c⟩,r⟩:=x;exact#[mA,#[od,es,ep,k _ _ (.inl rfl) e,c],r]
 |rng lo hi=>obtain⟨t,u,v,e⟩:=x;exact#[t,u,v,k _ _ (.inl rfl) e]
 |frz ob u ih=>obtain⟨e,q⟩:=x;exact#[k _ _ (.inl rfl) e,ih q]
 |tbl ps=>
  have e:h.get? a=u5 {cls:=.none,data:=.fields ps}:=x;show h'.get? a=u5 {cls:=.none,data:=.fields ps};exact k a _ (.inl rfl) e
 |met f y=>
  have e:h.get? a=u5 (methodObj (.ref f) (.ref y)):=x;show h'.get? a=u5 (methodObj (.ref f) (.ref y));exact k a _ (.inl rfl) e
 |ext φ=>obtain⟨p,⟨o,e⟩,st⟩:=x;exact#[st _ _ p λo q=>k _ _ (.inl rfl) q,#[o,k _ _ (.inl rfl) e],st]
def HOk.lt(x:HOk P w H h)(e:H a=u5 o):a<h.objs.size:=(x a o e).lt
def HOk.fresh(x:HOk P w H h)(e:h.objs.size<=a):H a=none:=by
 cases q:H a with
 |none=>rfl
 |some u=>exact absurd (DP (x.lt q) e) (EB _)
def HOk.kept(x:HOk P w H h)(k:∀b u,h.get? b=u5 u->h'.get? b=u5 u):HOk P w H h':=λa o e=>
 (x a o e).stay (λb u _ q=>k b u q) (λ_ q=>q) λ_ _ q=>q
def HOk.laid(x:HOk P w H h)(k:∀b u,h.get? b=u5 u->h'.get? b=u5 u)(hp:h.objs.size<=a)(new:ObjOk P w (upd H a o) h' a o):HOk P w (upd H a o) h':=λb u e=>by
 have hn:=x.fresh hp;by_cases hb:b=a
 .subst hb;rw[aA]at e;cases e;exact new
 .rw[ao hb]at e;exact(x b u e).stay (λc v _ q=>k c v q) (λc q=>by rw[ao (bU q hn)];exact q) λc xs q=>by rw[ao (bU q hn)];exact q
end
def Rd(H:Hp)(a:KF)(u:HO):Prop:=H a=u5 u\/∃o,H a=u5 (.frz o u)
variable{P:Pw}{w:Pz}{h:Heap}
def Rd.ok{u:HO}(r:Rd H a u)(x:HOk P w H h):ObjOk P w H h a u:=by
 rcases r with r|⟨o,r⟩
 .exact x a u r
 .obtain⟨_,q⟩:=x a _ r;exact q
def Mut:Option HO->Prop
 |some (.lst _)=>True
 |some (.dK _)=>True
 |some (.dT _)=>True
 |some (.set _ _)=>True
 |some (.ins _ _ _)=>True
 |some (.ext _)=>True
 |_=>False
section
variable {P:Pw}{w:Pz}{H:Hp}{h h':Heap}{x e:KF}{o':HO}
def HOk.write(ok:HOk P w H h)(mu:Mut (H x))(he:e=x\/H e=u5 (.own x))(k:∀b u,b≠e->h.get? b=u5 u->h'.get? b=u5 u)(y7:∃u,h'.get? e=u5 u)
  (new:ObjOk P w (upd H x o') h' x o'):HOk P w (upd H x o') h':=λb u q=>by
 have HJ:∀c y,H c=u5 (.own y)->c≠x:=λc y r z=>by subst z;rw[r]at mu;exact mu
 have JQ:∀c xs,H c=u5 (.tup xs)->c≠x:=λc xs r z=>by subst z;rw[r]at mu;exact mu
 by_cases hb:b=x
 .subst hb;rw[aA]at q;cases q;exact new
 .rw[ao hb]at q;by_cases G4:b=e
  .have q':H b=u5 (.own x):=by
    rcases he with z|z
    .exact absurd (G4.trans z) hb
    .rw[G4];exact z
   rw[q]at q';cases q';obtain⟨v,hv⟩:=y7;exact#[v,by rw[G4];exact hv]
  .refine(ok b u q).stay (λc v hc r=>k c v ?_ r) (λc r=>by rw[ao (HJ c b r)];exact r) λc xs r=>by rw[ao (JQ c xs r)];exact r
   rcases hc with rfl|hc
   .exact G4
   .rintro rfl;rcases he with z|z
    .exact HJ c b hc z
    .rw[hc]at z;cases z;exact hb rfl
end
structure Un(fs ex:List KF)(H H':Hp)(h h':Heap):Prop where
 keep:∀b o,h.get? b=u5 o->H b=A'->b∉fs->b∉ex->h'.get? b=u5 o
 slot:∀b o,h.get? b=u5 o->H b=A'->b∈fs->b∉ex->∃sl,h'.get? b=u5 {o with slots:=sl}
 free:∀b o,h.get? b=u5 o->H b=A'->b∉ex->H' b=A'
 there:∀b o,h.get? b=u5 o->b∉ex->∃o',h'.get? b=u5 o'
 tups:∀b xs,H b=u5 (.tup xs)->H' b=u5 (.tup xs)
 frzs:∀b o u,H b=u5 (.frz o u)->H' b=u5 (.frz o u)
 tbls:∀b ps,H b=u5 (.tbl ps)->∃more,H' b=u5 (.tbl (ps++more))
section
variable {fs m6 ex OX:List KF}{H H1 H2:Hp}{h h1 h2 h':Heap}{a x e:KF}{o:HO}
def Un.any(u:Un fs ex H H1 h h1){b:KF}{ob:PX}(q:h.get? b=u5 ob)(n:H b=A')(hx:b∉ex):∃sl,h1.get? b=u5 {ob with slots:=sl}:=by
 by_cases hb:b∈fs
 .exact u.slot b ob q n hb hx
 .exact#[ob.slots,u.keep b ob q n hb hx]
def Un.kept(k:∀b u,h.get? b=u5 u->h'.get? b=u5 u):Un fs ex H H h h':=
 #[λb ob q _ _ _=>k b ob q,λb ob q _ _ _=>#[ob.slots,k b ob q],λ_ _ _ n _=>n,λb ob q _=>#[ob,k b ob q],λ_ _ q=>q,λ_ _ _ q=>q,λ_ ps q=>#[[].toArray,by rw[q];simp]]
def Un.refl:Un fs ex H H h h:=Un.kept λ_ _ q=>q
def Un.laid(k:∀b u,h.get? b=u5 u->h'.get? b=u5 u)(hp:h.objs.size<=a)(hn:H a=A'):Un fs ex H (upd H a o) h h' where
 keep:=λb u q _ _ _=>k b u q
 slot:=λb u q _ _ _=>#[u.slots,k b u q]
 free:=λb u q n _=>by rw[ao (DF (DP (Heap.lt_size q) hp))];exact n
 there:=λb u q _=>#[u,k b u q]
 tups:=λb xs q=>by rw[ao (bU q hn)];exact q
 frzs:=λb u xs q=>by rw[ao (bU q hn)];exact q
 tbls:=λb ps q=>#[[].toArray,by rw[ao (bU q hn),q];simp]
def Un.write(mu:Mut (H x))(he:e=x\/H e=u5 (.own x))(k:∀b u,b≠e->h.get? b=u5 u->h'.get? b=u5 u)(y7:∃u,h'.get? e=u5 u):Un fs ex H (upd H x o) h h':=by
 have hx:∀b,H b=A'->b≠x:=λb n z=>by subst z;rw[n]at mu;exact mu
 have hb:∀b,H b=A'->b≠e:=λb n z=>by
  subst z;rcases he with r|r
  .exact hx b n r
  .rw[n]at r;cases r
 have hm:∀b u,H b=u5 u->¬Mut (u5 u)->b≠x:=λb u q nm z=>by subst z;rw[q]at mu;exact nm mu
 refine⟨λb u q n _ _=>k b u (hb b n) q,λb u q n _ _=>#[u.slots,k b u (hb b n) q],λb u q n _=>by rw[ao (hx b n)];exact n,λb u q _=>?_,
  λb xs q=>by rw[ao (hm b _ q λz=>z)];exact q,λb u xs q=>by rw[ao (hm b _ q λz=>z)];exact q,λb ps q=>#[[].toArray,by rw[ao (hm b _ q λz=>z),q];simp]⟩
 by_cases G4:b=e
 .subst G4;exact y7
 .exact#[u,k b u G4 q]
end
def trk(h:Heap)(H:Hp):List KF:=(D9 h.objs.size).filter λa=>(H a).isSome
def hidT(h:Heap)(H:Hp):Heap:=hideAll h (trk h H)
def sY(h:Heap)(H:Hp):(hidT h H).objs.size=h.objs.size:=hideAll_size _ _
def sZ{o:PX}(e:h.get? b=u5 o)(n:H b=A'):(hidT h H).get? b=u5 o:=
 hideAll_get _ e λhm=>by
  have q:(H b).isSome=true:=(FS.mp hm).2;rw[n]at q;simp at q
def tf{o:PX}(e:(hidT h H).get? b=u5 o):h.get? b=u5 o/\H b=none:=by
 have e':h.get? b=u5 o:=of_hideAll (trk h H) e;refine#[e',?_];cases q:H b with
 |none=>rfl
 |some x=>
  have hm:b∈trk h H:=FS.mpr #[List.mem_range.mpr (Heap.lt_size e'),by simp[q]];have z:(hidT h H).get? b=none:=hideAll_none (trk h H) hm;rw[z]at e;cases e
structure Mod(K:Dr)(mg:Str->Option GT)(base:Heap):Prop where
 kin:K.In base
 glob:base.Ns Os mg
 blt:∃mb,base.Ns Rh mb/\∀x:G8,x≠"__name__"->mb x=PY x
 nolimit:base.NoLimit
structure Cx where
 prog:Pw
 w:Pz
 K:Dr
 mg:G8->Option GT
 base:Heap
 A:PB
 N:List G8
 s₀:KB
 H₀:Hp
 env:Ql
 outer:List Ql
 stack:List Ql
 ex:List KF
 fn:G8->Bool
 calm:Bool
 pn:List (KF×PX)
 xe:GT->KB->Prop
abbrev zSE(X:Cx)(e:Pu)(es:List Pu):Prop:=PD (e::es) X.env=(false,PM e X.env)::PD es X.env
abbrev zPL(X:Cx)(p:PK)(es:List Pu):Prop:=(Qv p (PD es X.env)).any (·.1)=false
abbrev zHF(X:Cx)(p:PK)(es:List Pu):Prop:=((Qv p (PD es X.env)).all (λx=>!x.1)&&(QR p (Qt [] X.env)).all (λx=>x.1.isSome)&&decide (es.length+([]:List Rm).length+(if([]:List Rm).isEmpty then 0 else 1)<30))=true
abbrev zFN(X:Cx)(x:G8):Prop:=X.fn x=true\/X.env.scope.names.lookup x=u5 .local
abbrev zND(x:G8):Prop:=(x==("__debug__":G8))=false
abbrev zNC(x:G8):Prop:=(x==("__classdict__":G8))=false
abbrev zFS(X:Cx)(e:Pu)(y:GT):Prop:=Rk e X.env y=pure y
def frs(l:List Ql):List KF:=l.filterMap (·.frame)
abbrev Cx.fs(X:Cx):List KF:=frs X.outer
def Vis(sc:P4)(x:G8):Prop:=sc.names.lookup x=u5 .local\/sc.names.lookup x=u5 .cell\/sc.names.lookup x=u5 .free
def Loc(sc:P4)(x:G8):Prop:=sc.names.lookup x=u5 .local\/sc.names.lookup x=u5 .cell
def Look(env:Ql)(h:Heap)(m:G8->Option GT)(x:G8)(u:GT):Prop:=
 (env.kindOf x=u5 .local/\m x=u5 u)\/((env.kindOf x=u5 .cell\/env.kindOf x=u5 .free)/\∃c,env.cells.lookup x=u5 c/\h.IsCell c (u5 u))
structure Cx.Ok(X:Cx):Prop where
 mod:Mod X.K X.mg X.base
 kind:X.env.scope.kind=.function
 glob:X.env.globals=Os
 blt:X.env.builtins=Rh
 above:X.s₀.heap.objs.size<=X.env.locals
 inj:∀x y c,X.env.cells.lookup x=u5 c->X.env.cells.lookup y=u5 c->x=y
 has:∀x,(X.env.kindOf x=u5 .cell\/X.env.kindOf x=u5 .free)->∃c,X.env.cells.lookup x=u5 c
 cab:∀x c,X.fn x=true->X.env.cells.lookup x=u5 c->X.s₀.heap.objs.size<=c
 hd:X.calm=true->X.A.handled=A'
 frames:X.A.frames=u5 X.stack
 stk:X.stack=X.outer\/(X.stack=X.env::X.outer/\X.env.frame=u5 X.env.locals)
 exf:∀b∈X.ex,b≠X.env.locals/\∀x c,X.env.cells.lookup x=u5 c->c≠b
 bs:∀b o,X.base.get? b=u5 o->X.s₀.heap.get? b=u5 o/\X.H₀ b=A'
 bsz:X.base.objs.size<=X.s₀.heap.objs.size
 noex:∀b o,X.base.get? b=u5 o->b∉X.ex
 exfs:∀b∈X.ex,b∉X.fs
 funs:X.s₀.heap.FunFrames X.base X.outer
 frf:∀b∈X.fs,X.H₀ b=A'
structure Inv(X:Cx)(pins:List (KF×PX))(σ:List (Option V))(H:Hp)(s:KB):Prop where
 ok:X.Ok
 os:s.os=X.s₀.os
 bare:Qh s.gens
 base:Un X.fs X.ex X.H₀ H X.s₀.heap s.heap
 loc:∃m,s.heap.Ns X.env.locals m/\∀(i:Nat) (x:G8) (v:V),X.N[i]?=u5 x->σ[i]?=u5 (u5 v)->Vis X.env.scope x->∃u,RelV v u/\Look X.env s.heap m x u
 cell:∀x c,X.env.cells.lookup x=u5 c->∃v,s.heap.IsCell c v
 free:H X.env.locals=A'
 freeC:∀x c,X.env.cells.lookup x=u5 c->H c=A'
 pin:∀p∈X.pn++pins,s.heap.get? p.1=u5 p.2/\H p.1=A'/\p.1≠X.env.locals/\p.1∉X.fs/\∀v,p.2.data≠.cell v
 hok:HOk X.prog X.w H s.heap
 len:σ.length=X.N.length
section
variable {X:Cx}{pins:List (KF×PX)}{σ:List (Option V)}{H H':Hp}{s:KB}{h':Heap}
def Cx.Ok.nofr(ok:X.Ok){b:KF}{o:PX}(e:X.base.get? b=u5 o):b∉X.fs:=λhb=>by
 have:=(ok.funs.mem hb).1;rw[e]at this;cases this
def Inv.bs(I:Inv X pins σ H s):∀b o,X.base.get? b=u5 o->s.heap.get? b=u5 o/\H b=none:=λb o e=>
 #[I.base.keep b o (I.ok.bs b o e).1 (I.ok.bs b o e).2 (I.ok.nofr e) (I.ok.noex b o e),I.base.free b o (I.ok.bs b o e).1 (I.ok.bs b o e).2 (I.ok.noex b o e)]
def Inv.bk(I:Inv X pins σ H s):∀b o,X.base.get? b=u5 o->s.heap.get? b=u5 o:=λb o e=>(I.bs b o e).1
def Inv.mod(I:Inv X pins σ H s):Mod X.K X.mg X.base:=I.ok.mod
def Inv.kIn(I:Inv X pins σ H s):X.K.In s.heap:=I.ok.mod.kin.keeps I.bk
def Inv.lt(I:Inv X pins σ H s):X.env.locals<s.heap.objs.size:=let ⟨_,hn,_⟩:=I.loc;hn.lt
def Inv.sz(I:Inv X pins σ H s):X.s₀.heap.objs.size<=s.heap.objs.size:=Dy I.ok.above (EK I.lt)
def Inv.nofs(I:Inv X pins σ H s){a:KF}(h:s.heap.objs.size<=a):a∉X.fs:=λhb=>by
 obtain⟨_,o,ho,_⟩:=I.ok.funs.mem hb;exact absurd (DP (Heap.lt_size ho) (Dy I.sz h)) (EB _)
def Inv.cne(I:Inv X pins σ H s):∀x c,X.env.cells.lookup x=u5 c->c≠X.env.locals:=λx c e z=>by
 obtain⟨v,o,ho,hd⟩:=I.cell x c e;obtain⟨m,⟨o',es,ep,G5,i6,_⟩,_⟩:=I.loc;rw[z,G5]at ho;cases ho;rw[i6]at hd;cases hd
def Inv.funs(I:Inv X pins σ H s):s.heap.FunFrames X.base X.outer:=by
 have all:∀(l:List Ql),(∀b∈frs l,b∈X.fs)->X.s₀.heap.FunFrames X.base l->s.heap.FunFrames X.base l:=by
  intro l;induction l with
  |nil=>intro _ _;trivial
  |cons env r ih=>
   intro hs hl;obtain⟨hk,⟨L,o,hf,hn,ho,hd⟩,hr⟩:=hl;have hL:L∈X.fs:=hs L (by unfold frs;rw[EZ,hf];exact DC);obtain⟨sl,e⟩:=I.base.slot L o ho (I.ok.frf L hL) hL λz=>I.ok.exfs L z hL;exact#[hk,#[L,_,hf,hn,e,hd],ih (λb hb=>hs b (by unfold frs;rw[EZ,hf];exact Dx _ hb)) hr]
 exact all X.outer (λ_ hb=>hb) I.ok.funs
def Inv.stack(I:Inv X pins σ H s):s.heap.FunFrames X.base X.stack:=by
 rcases I.ok.stk with e|⟨e,hf⟩
 .rw[e];exact I.funs
 .rw[e];obtain⟨m,hn,_⟩:=I.loc;refine .cons (by rw[I.ok.kind];decide) hf hn ?_ I.funs;exact Heap.get?_none_of_le (Dy I.ok.bsz I.ok.above)
def Inv.stkSub(I:Inv X pins σ H s):∀b∈frs X.stack,b∈X.env.locals::X.fs:=λb hb=>by
 rcases I.ok.stk with e|⟨e,hf⟩
 .rw[e]at hb;exact Dx _ hb
 .rw[e]at hb;unfold frs at hb;rw[EZ,hf]at hb;exact hb
def Inv.stkFree(I:Inv X pins σ H s):∀b∈frs X.stack,H b=none:=λb hb=>by
 rcases Dw.mp (I.stkSub b hb)with e|hb
 .rw[e];exact I.free
 .obtain⟨_,o,ho,_⟩:=I.ok.funs.mem hb;exact I.base.free b o ho (I.ok.frf b hb) λz=>I.ok.exfs b z hb
variable{g':Array Q_}{ch:List KF}
def Inv.step{t':Nat}{d':Drawn}(I:Inv X pins σ H s)
  (y8:∀b∈ch,(b∈X.ex\/X.s₀.heap.objs.size<=b)/\b≠X.env.locals/\(∀x c,X.env.cells.lookup x=u5 c->c≠b)/\∀p∈X.pn++pins,p.1≠b)
  (keep:∀b o,b≠X.env.locals->b∉X.fs->b∉ch->s.heap.get? b=u5 o->H b=A'->h'.get? b=u5 o)
  (slot:∀b o,b≠X.env.locals->b∈X.fs->b∉ch->s.heap.get? b=u5 o->H b=A'->∃sl,h'.get? b=u5 {o with slots:=sl}) (free:∀b o,b∉ch->s.heap.get? b=u5 o->H b=A'->H' b=A')
  (there:∀b o,b∉ch->s.heap.get? b=u5 o->∃o',h'.get? b=u5 o')
  (tups:∀b xs,H b=u5 (.tup xs)->H' b=u5 (.tup xs)) (frzs:∀b o u,H b=u5 (.frz o u)->H' b=u5 (.frz o u)) (tbls:∀b ps,H b=u5 (.tbl ps)->∃more,H' b=u5 (.tbl (ps++more)))
  (ns:∀m,s.heap.Ns X.env.locals m->h'.Ns X.env.locals m) (hok:HOk X.prog X.w H' h') (hg:Qh g'):
  Inv X pins σ H' {s with heap:=h',gens:=g',drawn:=d',toks:=t'}:=by
 have L4:∀b o,X.s₀.heap.get? b=u5 o->b≠X.env.locals:=λb o e=>DF (DP (Heap.lt_size e) I.ok.above);have I_:∀b o,X.s₀.heap.get? b=u5 o->b∉X.ex->b∉ch:=λb o e hx hb=>by
  rcases(y8 b hb).1 with z|z
  .exact hx z
  .exact absurd (DP (Heap.lt_size e) z) (EB _)
 have m8:∀x c,X.env.cells.lookup x=u5 c->∀v,s.heap.IsCell c v->h'.IsCell c v:=λx c e v ⟨o,ho,hd⟩=>by
  have HK:c∉ch:=λz=>(y8 c z).2.2.1 x c e rfl;by_cases hc:c∈X.fs
  .obtain⟨sl,q⟩:=slot c o (I.cne x c e) hc HK ho (I.freeC x c e);exact#[_,q,hd]
  .exact#[o,keep c o (I.cne x c e) hc HK ho (I.freeC x c e),hd]
 refine#[I.ok,I.os,hg,#[λb o e n hb hx=>?_,λb o e n hb hx=>?_,λb o e n hx=>?_,λb o e hx=>?_,λb xs e=>tups b xs (I.base.tups b xs e),λb o xs e=>frzs b o xs (I.base.frzs b o xs e),λb ps e=>?_],?_,λx c e=>?_,?_,λx c e=>?_,λp hp=>?_,hok,I.len]
 .exact keep b o (L4 b o e) hb (I_ b o e hx) (I.base.keep b o e n hb hx) (I.base.free b o e n hx)
 .obtain⟨sl,e1⟩:=I.base.slot b o e n hb hx;obtain⟨t9,e2⟩:=slot b _ (L4 b o e) hb (I_ b o e hx) e1 (I.base.free b o e n hx);exact#[t9,e2]
 .obtain⟨o',e1⟩:=I.base.there b o e hx;exact free b o' (I_ b o e hx) e1 (I.base.free b o e n hx)
 .obtain⟨o',e1⟩:=I.base.there b o e hx;exact there b o' (I_ b o e hx) e1
 .obtain⟨m1,e1⟩:=I.base.tbls b ps e;obtain⟨m2,e2⟩:=tbls b _ e1;exact#[m1++m2,by rw[e2,Array.append_assoc]]
 .obtain⟨m,hn,hl⟩:=I.loc;refine#[m,ns m hn,λi x v e1 e2 e3=>?_];obtain⟨u,r,l⟩:=hl i x v e1 e2 e3;refine#[u,r,?_];rcases l with l|⟨k,c,e,z⟩
  .exact .inl l
  .exact .inr #[k,c,e,m8 x c e _ z]
 .obtain⟨v,z⟩:=I.cell x c e;exact#[v,m8 x c e v z]
 .obtain⟨m,⟨o,_,_,ho,_⟩,_⟩:=I.loc;exact free _ o (λz=>(y8 _ z).2.1 rfl) ho I.free
 .obtain⟨v,o,ho,hd⟩:=I.cell x c e;exact free c o (λz=>(y8 c z).2.2.1 x c e rfl) ho (I.freeC x c e)
 .obtain⟨e,n,ne,nf,d⟩:=I.pin p hp;have HK:p.1∉ch:=λz=>(y8 p.1 z).2.2.2 p hp rfl;exact#[keep p.1 p.2 ne nf HK e n,free p.1 p.2 HK e n,ne,nf,d]
def Inv.un{t':Nat}(I:Inv X pins σ H s)(u:Un X.fs [] H H' s.heap h')(hok:HOk X.prog X.w H' h'):Inv X pins σ H' {s with heap:=h',toks:=t'}:=by
 obtain⟨m,⟨o,es,ep,ho,r⟩,_⟩:=id I.loc;obtain⟨sl,hL⟩:=u.any ho I.free HV;exact I.step (g':=s.gens) (d':=s.drawn) (ch:=[]) (λ_ z=>nomatch z) (λb o _ hb _ e n=>u.keep b o e n hb HV) (λb o _ hb _ e n=>u.slot b o e n hb HV) (λb o _ e n=>u.free b o e n HV) (λb o _ e=>u.there b o e HV) u.tups u.frzs u.tbls (λm' hm=>by
  obtain⟨o',JR,JS,G5,r'⟩:=hm;rw[ho]at G5;cases G5;exact#[_,JR,JS,hL,r']) hok I.bare
def Inv.call{t':Nat}{d':Drawn}(I:Inv X pins σ H s)(u:Un (frs X.stack) ch H H' s.heap h')(hok:HOk X.prog X.w H' h')(hg:Qh g')
  (y8:∀b∈ch,(b∈X.ex\/X.s₀.heap.objs.size<=b)/\b≠X.env.locals/\(∀x c,X.env.cells.lookup x=u5 c->c≠b)/\∀p∈X.pn++pins,p.1≠b):
  Inv X pins σ H' {s with heap:=h',gens:=g',drawn:=d',toks:=t'}:=by
 obtain⟨m,⟨o,es,ep,ho,r⟩,_⟩:=id I.loc;obtain⟨sl,hL⟩:=u.any ho I.free λz=>(y8 _ z).2.1 rfl;exact I.step (ch:=ch) y8 (λb o hL hb hc e n=>u.keep b o e n (λz=>(Dw.mp (I.stkSub b z)).elim hL hb) hc) (λb o _ _ hc e n=>u.any e n hc) (λb o hc e n=>u.free b o e n hc) (λb o hc e=>u.there b o e hc) u.tups u.frzs u.tbls (λm' hm=>by
  obtain⟨o',JR,JS,G5,r'⟩:=hm;rw[ho]at G5;cases G5;exact#[_,JR,JS,hL,r']) hok hg
def Inv.turned{t':Nat}{it:KF}(I:Inv X pins σ H s)(k:∀b o,b≠it->s.heap.get? b=u5 o->h'.get? b=u5 o)(hn:H it=A')(hL:it≠X.env.locals)
  (h1:it∈X.ex\/X.s₀.heap.objs.size<=it) (h2:∀x c,X.env.cells.lookup x=u5 c->c≠it) (h3:∀p∈X.pn++pins,p.1≠it):Inv X pins σ H {s with heap:=h',toks:=t'}:=by
 have G6:∀b u,H b=u5 u->b≠it:=λb u e z=>by rw[z,hn]at e;cases e
 refine I.step (g':=s.gens) (d':=s.drawn) (ch:=[it]) (λb hb=>?_) (λb o _ _ hc e _=>k b o (λz=>hc (by simp[z])) e) (λb o _ _ hc e _=>#[o.slots,k b o (λz=>hc (by simp[z])) e]) (λ_ _ _ _ n=>n)
  (λb o hc e=>#[o,k b o (λz=>hc (by simp[z])) e]) (λ_ _ e=>e) (λ_ _ _ e=>e) (λb ps e=>#[[].toArray,by rw[e];simp]) (λm hm=>?_) (λb u e=>?_) I.bare
 .have e:b=it:=by simpa using hb
  subst e;exact#[h1,hL,h2,h3]
 .obtain⟨o,es,ep,ho,r⟩:=hm;exact#[o,es,ep,k _ o (Ne.symm hL) ho,r]
 .refine(I.hok b u e).stay (λc v hc q=>k c v ?_ q) (λ_ q=>q) λ_ _ q=>q;rcases hc with z|z
  .rw[z];exact G6 b u e
  .exact G6 c _ z
def Inv.tok(I:Inv X pins σ H s)(t:Nat):Inv X pins σ H {s with toks:=t}:=I.un (h':=s.heap) (t':=t) Un.refl I.hok
def Inv.kept{t':Nat}(I:Inv X pins σ H s)(k:∀b u,s.heap.get? b=u5 u->h'.get? b=u5 u):Inv X pins σ H {s with heap:=h',toks:=t'}:=I.un (Un.kept k) (I.hok.kept k)
def Inv.laid{a:KF}{o:HO}{t':Nat}(I:Inv X pins σ H s)(k:∀b u,s.heap.get? b=u5 u->h'.get? b=u5 u)(hp:s.heap.objs.size<=a)(new:ObjOk X.prog X.w (upd H a o) h' a o):
  Inv X pins σ (upd H a o) {s with heap:=h',toks:=t'}:=I.un (Un.laid k hp (I.hok.fresh hp)) (I.hok.laid k hp new)
def Inv.write{x e:KF}{o:HO}{t':Nat}(I:Inv X pins σ H s)(mu:Mut (H x))(he:e=x\/H e=u5 (.own x))(k:∀b u,b≠e->s.heap.get? b=u5 u->h'.get? b=u5 u)(y7:∃u,h'.get? e=u5 u)
  (new:ObjOk X.prog X.w (upd H x o) h' x o):Inv X pins σ (upd H x o) {s with heap:=h',toks:=t'}:=I.un (Un.write mu he k y7) (I.hok.write mu he k y7 new)
def Inv.pins_of{GZ:List (KF×PX)}(I:Inv X pins σ H s)(h:∀p∈GZ,s.heap.get? p.1=u5 p.2/\H p.1=A'/\p.1≠X.env.locals/\p.1∉X.fs/\∀v,p.2.data≠.cell v):Inv X GZ σ H s:=
 #[I.ok,I.os,I.bare,I.base,I.loc,I.cell,I.free,I.freeC,λp hp=>(D3.mp hp).elim (λz=>I.pin p (EC _ z)) (h p),I.hok,I.len]
variable{x:G8}{i:Nat}
def iN{N:List G8}(hN:N.Nodup){j:Nat}(a:N[i]?=u5 x)(b:N[j]?=u5 x):i=j:=by
 obtain⟨h1,e1⟩:=DN.mp a;obtain⟨h2,e2⟩:=DN.mp b;exact(List.getElem_inj hN).mp (e1.trans e2.symm)
variable{E:GT->KB->Prop}{Q:Unit->KB->Prop}
def nK{M:Q9}{A:PB}{v:V}{u:GT}(I:Inv X pins σ H s)(hN:X.N.Nodup)(hi:X.N[i]?=u5 x)(hx:Loc X.env.scope x)(r:RelV v u)
  (h:∀s',Inv X pins (σ.set i (u5 v)) H s'->(∃a,Heap.SameBut a s.heap s'.heap/\(a=X.env.locals\/X.env.cells.lookup x=u5 a))->Q () s') (hf:autoParam (zFN X x) zA2):Px M A (storeName X.env x u) Q E s:=by
 obtain⟨m,hn,hl⟩:=id I.loc;have u8:(X.env.scope.kind== .class||(X.env.scope.kind== .module&&X.env.locals !=X.env.globals))=false:=by rw[I.ok.kind];rfl
 have hiσ:i<σ.length:=by rw[I.len];exact(DN.mp hi).1
 have cne:=I.cne;have gV:∀{a:KF} {h':Heap},(∃o,s.heap.get? a=u5 o/\H a=A')->Heap.SameBut a s.heap h'->HOk X.prog X.w H h':=λ{a h'} ha hs b ob e=>by
  obtain⟨_,_,j8⟩:=ha;refine(I.hok b ob e).stay (λc w' hc q=>(hs.2 c ?_).trans q) (λ_ q=>q) λ_ _ q=>q;rintro rfl;rcases hc with rfl|hc
  .rw[j8]at e;cases e
  .rw[j8]at hc;cases hc
 rcases hx with hk|hk
 .refine wpAny_storeName_local hk hn (λh' j9 hs=>?_) u8;obtain⟨oL,_,_,L5,_⟩:=id hn;refine h _ #[I.ok,I.os,I.bare,#[λb o e n hb hx=>?_,λb o e n hb hx=>?_,I.base.free,λb o e hx=>?_,I.base.tups,I.base.frzs,I.base.tbls],#[_,j9,λj y v' e1 e2 e3=>?_],λy c e=>?_,I.free,I.freeC,λp hp=>?_,gV #[oL,L5,I.free] hs,by simpa using I.len] #[_,hs,.inl rfl]
  .exact(hs.2 b (DF (DP (Heap.lt_size e) I.ok.above))).trans (I.base.keep b o e n hb hx)
  .obtain⟨sl,e1⟩:=I.base.slot b o e n hb hx;exact#[sl,(hs.2 b (DF (DP (Heap.lt_size e) I.ok.above))).trans e1]
  .obtain⟨o',e1⟩:=I.base.there b o e hx;exact#[o',(hs.2 b (DF (DP (Heap.lt_size e) I.ok.above))).trans e1]
  .by_cases hj:j=i
   .subst hj;rw[hi]at e1;cases e1;rw[Eb hiσ]at e2;cases e2;exact#[u,r,.inl #[hk,HV]]
   .rw[DL (Ne.symm hj)]at e2;obtain⟨u',r',q⟩:=hl j y v' e1 e2 e3;refine#[u',r',?_];rcases q with⟨k,e⟩|⟨k,c,e,z⟩
    .refine .inl #[k,?_];have:y≠x:=λe=>hj (iN hN e1 (e ▸ hi));simp[this,e]
    .exact .inr #[k,c,e,z.sameBut hs (cne y c e)]
  .obtain⟨w',z⟩:=I.cell y c e;exact#[w',z.sameBut hs (cne y c e)]
  .obtain⟨e,n,ne,nf,d⟩:=I.pin p hp;exact#[(hs.2 p.1 ne).trans e,n,ne,nf,d]
 .have HL:X.fn x=true:=by
   rcases hf with z|z
   .exact z
   .rw[z]at hk;cases hk
  obtain⟨c,hc⟩:=I.ok.has x (.inl hk);obtain⟨w',z⟩:=I.cell x c hc;refine wpAny_storeName_cell I.ok.kind hk hc z (λh' t_ hs=>?_);obtain⟨oc,L6,JT⟩:=id z;refine h {s with heap:=h'} #[I.ok,I.os,I.bare,#[λb o e n hb hx=>?_,λb o e n hb hx=>?_,I.base.free,λb o e hx=>?_,I.base.tups,I.base.frzs,I.base.tbls],#[m,hn.sameBut hs (Ne.symm (cne x c hc)),λj y v' e1 e2 e3=>?_],λy c' e=>?_,I.free,I.freeC,λp hp=>?_,gV #[oc,L6,I.freeC x c hc] hs,by simpa using I.len] #[c,hs,.inr hc]
  .exact(hs.2 b (DF (DP (Heap.lt_size e) (I.ok.cab x c HL hc)))).trans (I.base.keep b o e n hb hx)
  .obtain⟨sl,e1⟩:=I.base.slot b o e n hb hx;exact#[sl,(hs.2 b (DF (DP (Heap.lt_size e) (I.ok.cab x c HL hc)))).trans e1]
  .obtain⟨o',e1⟩:=I.base.there b o e hx;exact#[o',(hs.2 b (DF (DP (Heap.lt_size e) (I.ok.cab x c HL hc)))).trans e1]
  .by_cases hj:j=i
   .subst hj;rw[hi]at e1;cases e1;rw[Eb hiσ]at e2;cases e2;exact#[u,r,.inr #[.inl hk,c,hc,t_]]
   .rw[DL (Ne.symm hj)]at e2;obtain⟨u',r',q⟩:=hl j y v' e1 e2 e3;refine#[u',r',?_];rcases q with q|⟨k,c',e,z'⟩
    .exact .inl q
    .refine .inr #[k,c',e,z'.sameBut hs ?_];rintro rfl;exact hj (iN hN e1 (I.ok.inj _ _ _ e hc ▸ hi))
  .by_cases L7:c'=c
   .subst L7;exact#[_,t_]
   .obtain⟨w2,z2⟩:=I.cell y c' e;exact#[w2,z2.sameBut hs L7]
  .obtain⟨e,n,ne,nf,d⟩:=I.pin p hp;refine#[(hs.2 p.1 ?_).trans e,n,ne,nf,d];intro q;rw[q,L6]at e;have q':oc=p.2:=Option.some.inj e;exact d w' (by rw[<-q'];exact JT)
def dP{M:Q9}{A:PB}{v:V}{u:GT}(I:Inv X pins σ H s)(hN:X.N.Nodup)(hi:X.N[i]?=u5 x)(hx:Loc X.env.scope x)(r:RelV v u)
  (h:∀s',Inv X pins (σ.set i (u5 v)) H s'->Q () s') (hf:autoParam (zFN X x) zA2):Px M A (storeName X.env x u) Q E s:=
 nK I hN hi hx r (λs' I' _=>h s' I') hf
def Inv.call'{s':KB}(I:Inv X pins σ H s)(ho:s'.os=s.os)(u:Un (frs X.stack) ch H H' s.heap s'.heap)(hok:HOk X.prog X.w H' s'.heap)(hg:Qh s'.gens)
  (y8:∀b∈ch,(b∈X.ex\/X.s₀.heap.objs.size<=b)/\b≠X.env.locals/\(∀x c,X.env.cells.lookup x=u5 c->c≠b)/\∀p∈X.pn++pins,p.1≠b):Inv X pins σ H' s':=by
 obtain⟨h',g',d',t',o'⟩:=s';have e:o'=s.os:=ho;subst e;exact I.call (g':=g') (t':=t') (d':=d') u hok hg y8
end
abbrev XK:=GT->Option KF->Hp->Prop
abbrev St:=List (Option V)
abbrev VK:=V->Hp->Prop
abbrev TE:=St->Hp->VK->Prop
abbrev TT:=St->Hp->(Bool->Hp->Prop)->Prop
abbrev TA:=St->Hp->(List V->Hp->Prop)->Prop
structure Ends where
 nx:St->Hp->Prop
 rt:VK
 bk:St->Hp->Prop:=λ_ _=>False
 ct:St->Hp->Prop:=λ_ _=>False
abbrev TS:=Ends->St->Hp->Prop
def EP(X:Cx)(pins:List (KF×PX))(σ:St)(Q:VK)(u:GT)(s':KB):Prop:=∃v H',Inv X pins σ H' s'/\RelV v u/\Q v H'
def TP(X:Cx)(pins:List (KF×PX))(σ:St)(Q:Bool->Hp->Prop)(b:Bool)(s':KB):Prop:=∃H',Inv X pins σ H' s'/\Q b H'
def AP(X:Cx)(pins:List (KF×PX))(σ:St)(Q:List V->Hp->Prop)(us:List GT)(s':KB):Prop:=∃vs H',Inv X pins σ H' s'/\Vals vs us/\Q vs H'
def SP(X:Cx)(pins:List (KF×PX))(D:Ends)(f:Flow)(s':KB):Prop:=
 match f with
 |.next=>∃σ' H',Inv X pins σ' H' s'/\D.nx σ' H'
 |.brk=>∃σ' H',Inv X pins σ' H' s'/\D.bk σ' H'
 |.cont=>∃σ' H',Inv X pins σ' H' s'/\D.ct σ' H'
 |.ret u=>∃v σ' H',Inv X pins σ' H' s'/\RelV v u/\D.rt v H'
def PE(X:Cx)(e:Pu)(t:TE):Prop:=
 ∀(pins:List (KF×PX)) (s:KB) (σ:St) (H:Hp) (Q:VK),Inv X pins σ H s->t σ H Q->Px (Pt X.prog X.w) X.A (PM e X.env) (EP X pins σ Q) X.xe s
def PT(X:Cx)(e:Pu)(t:TT):Prop:=
 ∀(pins:List (KF×PX)) (s:KB) (σ:St) (H:Hp) (Q:Bool->Hp->Prop),Inv X pins σ H s->t σ H Q->Px (Pt X.prog X.w) X.A (isTrue e X.env (PM e X.env)) (TP X pins σ Q) X.xe s
def PW(X:Cx)(e:Pu)(t:TT):Prop:=
 ∀(f9:Q5 GT) (pins:List (KF×PX)) (s:KB) (σ:St) (H:Hp) (Q:Bool->Hp->Prop),Inv X pins σ H s->t σ H Q->Px (Pt X.prog X.w) X.A (isTrue e X.env f9) (TP X pins σ Q) X.xe s
variable{X:Cx}
def PW.pt{e:Pu}{t:TT}(h:PW X e t):PT X e t:=h _
def PA(X:Cx)(es:List Pu)(t:TA):Prop:=
 ∀(pos:PK) (pins:List (KF×PX)) (s:KB) (σ:St) (H:Hp) (Q:List V->Hp->Prop),Inv X pins σ H s->t σ H Q->Px (Pt X.prog X.w) X.A (spliced (Qv pos (PD es X.env))) (AP X pins σ Q) X.xe s
def PS(X:Cx)(st:Py)(t:TS):Prop:=
 ∀(pins:List (KF×PX)) (s:KB) (σ:St) (H:Hp) (D:Ends),Inv X pins σ H s->t D σ H->Px (Pt X.prog X.w) X.A (exec st X.env) (SP X pins D) X.xe s
def PSs(X:Cx)(st:List Py)(t:TS):Prop:=
 ∀(pins:List (KF×PX)) (s:KB) (σ:St) (H:Hp) (D:Ends),Inv X pins σ H s->t D σ H->Px (Pt X.prog X.w) X.A (execs st X.env) (SP X pins D) X.xe s
variable{A:PB}{E:GT->KB->Prop}{s:KB}
def thn{α:Type}{t:Q5 α}{Q Q':α->KB->Prop}{M:Q9}(h:Px M A t Q E s)(hQ:∀a s,Q a s->Q' a s):Px M A t Q' E s:=PP h hQ λ_ _ x=>x
section
variable {X:Cx}
def tVar(i:Nat):TE:=λσ H Q=>∃v,σ[i]?=u5 (u5 v)/\Q v H
def tC(v:V):TE:=λ_ H Q=>Q v H
variable{x:G8}{pos:PK}
def dg{i:Nat}(hN:X.N[i]?=u5 x)(hv:Vis X.env.scope x)(hd:autoParam (zND x) zA1)(i8:autoParam (zNC x) zA1):PE X (.Name x pos) (tVar i):=by
 intro pins s σ H Q I h;obtain⟨v,e,h⟩:=h;obtain⟨m,hn,hl⟩:=I.loc;obtain⟨u,r,l⟩:=hl i x v hN e hv;have c9:EP X pins σ Q u s:=#[v,H,I,r,h];rcases l with⟨hk,hm⟩|⟨hk,c,hc,m9⟩
 .exact Re (wpAny_loadName_local I.ok.kind hk hn hm c9) hd
 .rcases hk with hk|hk
  .exact Re (wpAny_loadName_cell I.ok.kind hk hc m9 c9) hd
  .exact Re (wpAny_loadName_free I.ok.kind hk hc m9 c9 i8) hd
def tm{i j pos}:PE X (.Constant (.int i) j pos) (tC (.int i)):=λ_ _ _ H _ I h=>wpAny_Constant_int #[.int i,H,I.tok _,#[_,rfl],h]
def tq{b j pos}:PE X (.Constant (.bool b) j pos) (tC (.bl b)):=λ_ _ _ H _ I h=>Constant_bool #[.bl b,H,I,rfl,h]
def tw{j pos}:PE X (.Constant .none j pos) (tC .non):=λ_ _ _ H _ I h=>Constant_none #[.non,H,I,rfl,h]
def nM{x j pos}:PE X (.Constant (.str x) j pos) (tC (.str x)):=λ_ _ _ H _ I h=>Calls.Constant_str #[.str x,H,I.tok _,#[_,rfl],h]
def Gl(X:Cx)(x:G8):Prop:=X.env.kindOf x=u5 .globalImplicit
variable{E Q:GT->KB->Prop}{pins:List (KF×PX)}{u:GT}
def cu{s:KB}{σ:St}{H:Hp}(I:Inv X pins σ H s)(hg:Gl X x)(hm:X.mg x=u5 u)(h:Q u s)
  (hd:autoParam (zND x) zA1):Px (Pt X.prog X.w) X.A (PM (.Name x pos) X.env) Q E s:=
 Calls.Name_function_global I.ok.kind hg (Calls.loadGlobal_global (by rw[I.ok.glob];exact I.mod.glob.keeps I.bk) hm h) hd
def dQ{s:KB}{σ:St}{H:Hp}(I:Inv X pins σ H s)(hg:Gl X x)(hm:X.mg x=A')(hv:PY x=u5 u)(h:Q u s)
  (hn:autoParam (x≠"__name__") zA1) (hd:autoParam (zND x) zA1):Px (Pt X.prog X.w) X.A (PM (.Name x pos) X.env) Q E s:=by
 obtain⟨mb,h1,h2⟩:=I.mod.blt;exact Calls.Name_function_global I.ok.kind hg (Calls.loadGlobal_builtin (by rw[I.ok.glob];exact I.mod.glob.keeps I.bk) hm (by rw[I.ok.blt];exact h1.keeps I.bk) ((h2 x hn).trans hv) h) hd
def tz{v:V}(hg:Gl X x)(hm:X.mg x=u5 u)(r:RelV v u)(hd:autoParam (zND x) zA1):PE X (.Name x pos) (tC v):=
 λ_ _ _ H _ I h=>cu I hg hm #[v,H,I,r,h] hd
def tD{v:V}(hg:Gl X x)(hm:X.mg x=A')(hv:PY x=u5 u)(r:RelV v u)(hn:autoParam (x≠"__name__") zA1)(hd:autoParam (zND x) zA1):PE X (.Name x pos) (tC v):=
 λ_ _ _ H _ I h=>dQ I hg hm hv #[v,H,I,r,h] hn hd
variable {a b:Pu}{ta tb:TE}{pos:PK}
variable {tA z8:TT}{rest:List Pu}
def tAnd(t u:TT):TT:=λσ H Q=>t σ H λc H1=>if c=true then u σ H1 Q else Q false H1
def tOr(t u:TT):TT:=λσ H Q=>t σ H λc H1=>if c=true then Q true H1 else u σ H1 Q
def tNot(t:TT):TT:=λσ H Q=>t σ H λc H1=>Q (!c) H1
def nN(ha:PT X a tA):PW X (.BoolOp .And [a] pos) tA:=by
 intro wh pins s σ H Q I h;refine isTrue_and (thn (ha pins s σ H Q I h) λc s1 e=>?_);cases c with
 |true=>exact isTrue_and_nil e
 |false=>exact e
def nO(ha:PT X a tA):PW X (.BoolOp .Or [a] pos) tA:=by
 intro wh pins s σ H Q I h;refine isTrue_or (thn (ha pins s σ H Q I h) λc s1 e=>?_);cases c with
 |false=>exact isTrue_or_nil e
 |true=>exact e
def nP(ha:PT X a tA)(hb:PW X (.BoolOp .And (b::rest) pos) z8):PW X (.BoolOp .And (a::b::rest) pos) (tAnd tA z8):=by
 intro wh pins s σ H Q I h;refine isTrue_and (thn (ha pins s σ H _ I h) λc s1 b_=>?_);obtain⟨H1,I1,q1⟩:=b_;cases c with
 |true=>exact hb wh pins s1 σ H1 Q I1 q1
 |false=>exact#[H1,I1,q1]
def nQ(ha:PT X a tA)(hb:PW X (.BoolOp .Or (b::rest) pos) z8):PW X (.BoolOp .Or (a::b::rest) pos) (tOr tA z8):=by
 intro wh pins s σ H Q I h;refine isTrue_or (thn (ha pins s σ H _ I h) λc s1 b_=>?_);obtain⟨H1,I1,q1⟩:=b_;cases c with
 |true=>exact#[H1,I1,q1]
 |false=>exact hb wh pins s1 σ H1 Q I1 q1
def nR(ha:PT X a tA):PT X (.UnaryOp .Not a pos) (tNot tA):=by
 intro pins s σ H Q I h;exact isTrue_not (ha pins s σ H (λc H1=>Q (!c) H1) I h)
def tE(ta tb:TE):TE:=λσ H Q=>ta σ H λx H1=>∃c,x=.bl c/\if c=true then tb σ H1 Q else Q (.bl false) H1
def tOrV(ta tb:TE):TE:=λσ H Q=>ta σ H λx H1=>∃c,x=.bl c/\if c=true then Q (.bl true) H1 else tb σ H1 Q
def tF(ta:TE):TE:=λσ H Q=>ta σ H λx H1=>∃c,x=.bl c/\Q (.bl (!c)) H1
def tG{op}{t:TE}(h:PE X a t):PE X (.BoolOp op [a] pos) t:=λpins s σ H Q I hw=>BoolOp_one (h pins s σ H Q I hw)
def tH(ha:PE X a ta)(hb:PE X (.BoolOp .And (b::rest) pos) tb):PE X (.BoolOp .And (a::b::rest) pos) (tE ta tb):=by
 intro pins s σ H Q I h;refine BoolOp_and (thn (ha pins s σ H _ I h) λv s1 b_=>?_);obtain⟨x,H1,I1,r1,q1⟩:=b_;obtain⟨c,rfl,q1⟩:=q1;cases r1;refine P7 ?_;cases c with
 |true=>exact hb pins s1 σ H1 Q I1 q1
 |false=>exact#[.bl false,H1,I1,rfl,q1]
def tI(ha:PE X a ta)(hb:PE X (.BoolOp .Or (b::rest) pos) tb):PE X (.BoolOp .Or (a::b::rest) pos) (tOrV ta tb):=by
 intro pins s σ H Q I h;refine BoolOp_or (thn (ha pins s σ H _ I h) λv s1 b_=>?_);obtain⟨x,H1,I1,r1,q1⟩:=b_;obtain⟨c,rfl,q1⟩:=q1;cases r1;refine P7 ?_;cases c with
 |false=>exact hb pins s1 σ H1 Q I1 q1
 |true=>exact#[.bl true,H1,I1,rfl,q1]
def tJ(ha:PE X a ta):PE X (.UnaryOp .Not a pos) (tF ta):=by
 intro pins s σ H Q I h;refine UnaryOp_ (thn (ha pins s σ H _ I h) λv s1 b_=>?_);obtain⟨x,H1,I1,r1,q1⟩:=b_;obtain⟨c,rfl,q1⟩:=q1;cases r1;exact not_of (P7 #[.bl (!c),H1,I1,rfl,q1])
def tIf(t:TT)(ta tb:TE):TE:=λσ H Q=>t σ H λc H1=>if c=true then ta σ H1 Q else tb σ H1 Q
def tK{c:Pu}(hc:PT X c tA)(ha:PE X a ta)(hb:PE X b tb):PE X (.IfExp c a b pos) (tIf tA ta tb):=by
 intro pins s σ H Q I h;refine wpAny_IfExp (thn (hc pins s σ H _ I h) λd s1 b_=>?_);obtain⟨H1,I1,q1⟩:=b_;cases d with
 |true=>exact ha pins s1 σ H1 Q I1 q1
 |false=>exact hb pins s1 σ H1 Q I1 q1
end
def SqL(K:Dr)(H:Hp)(a:KF)(xs:List V):Prop:=
 Rd H a (.lst xs)\/
  ∃(o:PX) (its:Array GT) (n:Nat),K.lookup a=u5 o/\o.cls=.type "list"/\o.dict=A'/\o.data=.seq its n/\its.size<=sizeLine/\Vals xs its.toList
def SqT(K:Dr)(H:Hp)(a:KF)(xs:List V):Prop:=
 Rd H a (.tup xs)\/
  ∃(o:PX) (its:Array GT) (n:Nat),K.lookup a=u5 o/\o.cls=.type "tuple"/\o.data=.seq its n/\its.size<=sizeLine/\Vals xs its.toList
def absV:GT->Option V
 |.none=>u5 .non
 |.bool b=>u5 (.bl b)
 |.int i _=>u5 (.int i)
 |.str x _=>u5 (.str x)
 |.bytes b _=>u5 (.byt b)
 |.float b _=>u5 (.flt b)
 |.ref a=>u5 (.ref a)
 |.type n=>u5 (.ty n)
 |_=>A'
variable{u:GT}
def RelV.abs{x:V}(r:RelV x u):absV u=u5 x:=by
 cases x with
 |non=>cases r;rfl
 |bl _=>cases r;rfl
 |int _=>obtain⟨t,rfl⟩:=r;rfl
 |str _=>obtain⟨t,rfl⟩:=r;rfl
 |byt _=>obtain⟨t,rfl⟩:=r;rfl
 |flt _=>obtain⟨t,rfl⟩:=r;rfl
 |ref _=>cases r;rfl
 |ty _=>cases r;rfl
def RelV.inj{x y:V}(r:RelV x u)(q:RelV y u):x=y:=Option.some.inj (r.abs.symm.trans q.abs)
def Vals.inj:∀{xs ys:List V} {us:List GT},Vals xs us->Vals ys us->xs=ys:=by
 intro xs ys us h;induction h generalizing ys with
 |nil=>intro g;cases g;rfl
 |cons r _ e=>
  intro g;cases g with
  |cons r' t'=>rw[r.inj r',e t']
section
variable {X:Cx}{pins:List (KF×PX)}{σ:St}{H:Hp}{s:KB}{a:KF}{xs ys:List V}
def SqL.of{K:Dr}(h:H a=u5 (.lst xs)):SqL K H a xs:=.inl (.inl h)
def SqT.of{K:Dr}(h:H a=u5 (.tup xs)):SqT K H a xs:=.inl (.inl h)
def Inv.list(I:Inv X pins σ H s)(h:SqL X.K H a xs):∃its:List GT,Vals xs its/\PlainL s.heap a its.toArray/\xs.length<=sizeLine:=by
 rcases h with h|⟨o,its,n,hk,hc,hd,hs,hz,r⟩
 .obtain⟨z,its,n,r,e⟩:=h.ok I.hok;exact#[its,r,#[_,n,e,rfl,rfl,rfl],z]
 .refine#[its.toList,r,#[o,n,I.kIn a o hk,hc,hd,by simpa using hs],?_];have e:=r.length;simp only[Fl]at e;lia
def Inv.tuple(I:Inv X pins σ H s)(h:SqT X.K H a xs):∃its:List GT,Vals xs its/\IsTup s.heap a its.toArray/\xs.length<=sizeLine:=by
 rcases h with h|⟨o,its,n,hk,hc,hs,hz,r⟩
 .obtain⟨z,its,r,p⟩:=h.ok I.hok;exact#[its,r,p,z]
 .refine#[its.toList,r,#[o,I.kIn a o hk,hc,n,by simpa using hs],?_];have e:=r.length;simp only[Fl]at e;lia
def Inv.list_inj(I:Inv X pins σ H s)(h:SqL X.K H a xs)(h':SqL X.K H a ys):xs=ys:=by
 obtain⟨its,r,⟨o,n,e,_,_,d⟩,_⟩:=I.list h;obtain⟨its',r',⟨o',n',e',_,_,d'⟩,_⟩:=I.list h';rw[e]at e';cases e';rw[d]at d';injection d' with d1 _;have:its=its':=by simpa using congrArg Array.toList d1
 subst this;exact r.inj r'
end
abbrev Cx.wish(X:Cx)(E:GT->KB->Prop):Cx:={X with xe:=E}
abbrev Cx.nox(X:Cx):Cx:=X.wish λ_ _=>False
def Cx.Ok.wish(ok:X.Ok)(E:GT->KB->Prop):(X.wish E).Ok:=
 #[ok.mod,ok.kind,ok.glob,ok.blt,ok.above,ok.inj,ok.has,ok.cab,ok.hd,ok.frames,ok.stk,ok.exf,ok.bs,ok.bsz,ok.noex,ok.exfs,ok.funs,ok.frf]
def Cx.Ok.unwish(ok:(X.wish E).Ok):X.Ok:=
 #[ok.mod,ok.kind,ok.glob,ok.blt,ok.above,ok.inj,ok.has,ok.cab,ok.hd,ok.frames,ok.stk,ok.exf,ok.bs,ok.bsz,ok.noex,ok.exfs,ok.funs,ok.frf]
section
variable {X:Cx}{pins:List (KF×PX)}{σ:St}{H:Hp}{s:KB}{E:GT->KB->Prop}
def Inv.wish(I:Inv X pins σ H s)(E:GT->KB->Prop):Inv (X.wish E) pins σ H s:=#[I.ok.wish E,I.os,I.bare,I.base,I.loc,I.cell,I.free,I.freeC,I.pin,I.hok,I.len]
def Inv.unwish(I:Inv (X.wish E) pins σ H s):Inv X pins σ H s:=#[I.ok.unwish,I.os,I.bare,I.base,I.loc,I.cell,I.free,I.freeC,I.pin,I.hok,I.len]
def SP.unwish{D:Ends}{f:Flow}{s':KB}(h:SP (X.wish E) pins D f s'):SP X pins D f s':=by
 cases f with
 |next=>obtain⟨σ',H',I,q⟩:=h;exact#[σ',H',I.unwish,q]
 |brk=>obtain⟨σ',H',I,q⟩:=h;exact#[σ',H',I.unwish,q]
 |cont=>obtain⟨σ',H',I,q⟩:=h;exact#[σ',H',I.unwish,q]
 |ret u=>obtain⟨v,σ',H',I,r,q⟩:=h;exact#[v,σ',H',I.unwish,r,q]
def PSs.nox{st:List Py}{t:TS}(h:PSs X.nox st t):PSs X st t:=λpins s σ H D I hw=>
 PP (h pins s σ H D (I.wish _) hw) (λ_ _ q=>q.unwish) λ_ _ z=>False.elim z
end
section
variable {X:Cx}{st:Py}{rest:List Py}{t u:TS}{e:Pu}{te:TE}{pos:PK}
def tL:TS:=λD σ H=>D.nx σ H
def tSeq(t u:TS):TS:=λD σ H=>t {D with nx:=u D} σ H
def pss_nil:PSs X [] tL:=λ_ _ σ H _ I h=>Qc #[σ,H,I,h]
def fb(h1:PS X st t)(h2:PSs X rest u):PSs X (st::rest) (tSeq t u):=by
 intro pins s σ H D I h;refine wpAny_execs_cons (thn (h1 pins s σ H {D with nx:=u D} I h) λf s1 q=>?_);cases f with
 |next=>
  obtain⟨σ',H',I',q⟩:=q;exact h2 pins s1 σ' H' D I' q
 |ret v=>exact q
 |brk=>exact q
 |cont=>exact q
def nS(h1:PS X st t):PSs X [st] t:=by
 intro pins s σ H D I h;refine wpAny_execs_cons (thn (h1 pins s σ H D I h) λf s1 q=>?_);cases f with
 |next=>exact Qc q
 |ret v=>exact q
 |brk=>exact q
 |cont=>exact q
def Inv.quiet{pins:List (KF×PX)}{σ:St}{H:Hp}{s:KB}(I:Inv X pins σ H s):interactive X.env=false:=by simp[interactive,I.ok.kind]
def tM(te:TE):TS:=λD σ H=>te σ H λ_ H1=>D.nx σ H1
def iO(he:PE X e te)(hs:autoParam (PV e A' pos.line X.env=pure false) zA0):PS X (.Expr e pos) (tM te):=by
 intro pins s σ H D I h;exact wpAny_Expr_any (thn (he pins s σ H _ I h) λv s1 ⟨x,H1,I1,r1,q1⟩=>#[σ,H1,I1,q1]) I.quiet hs
def tRet(te:TE):TS:=λD σ H=>te σ H D.rt
def nU(he:PE X e te):PS X (.Return (u5 e) pos) (tRet te):=by
 intro pins s σ H D I h;exact wpAny_Return_some (thn (he pins s σ H _ I h) λv s1 ⟨x,H1,I1,r1,q1⟩=>#[x,σ,H1,I1,r1,q1])
def tIfS(c:TT)(t u:TS):TS:=λD σ H=>c σ H λb H1=>if b=true then t D σ H1 else u D σ H1
def nV{c:Pu}{a b:List Py}{tc:TT}(hc:PT X c tc)(ha:PSs X a t)(hb:PSs X b u):PS X (.If c a b pos) (tIfS tc t u):=by
 intro pins s σ H D I h;refine wpAny_If (thn (hc pins s σ H _ I h) λd s1 b_=>?_);obtain⟨H1,I1,q1⟩:=b_;cases d with
 |true=>exact ha pins s1 σ H1 D I1 q1
 |false=>exact hb pins s1 σ H1 D I1 q1
end
abbrev TG:=V->St->Hp->(St->Hp->Prop)->Prop
abbrev TGs:=List V->St->Hp->(St->Hp->Prop)->Prop
def PG(X:Cx)(g7:Pu)(t:TG):Prop:=
 ∀(pins:List (KF×PX)) (s:KB) (σ:St) (H:Hp) (v:V) (u:GT) (Q:St->Hp->Prop),Inv X pins σ H s->RelV v u->t v σ H Q->
  Px (Pt X.prog X.w) X.A (Qm g7 X.env u) (λ_ s'=>∃σ' H',Inv X pins σ' H' s'/\Q σ' H') X.xe s
def PGs(X:Cx)(ts:List Pu)(t:TGs):Prop:=
 ∀(pins:List (KF×PX)) (s:KB) (σ:St) (H:Hp) (vs:List V) (us:List GT) (Q:St->Hp->Prop),Inv X pins σ H s->Vals vs us->t vs σ H Q->
  Px (Pt X.prog X.w) X.A (QU ((PC ts X.env).map (·.2)) us) (λ_ s'=>∃σ' H',Inv X pins σ' H' s'/\Q σ' H') X.xe s
abbrev TSet:=V->V->V->Hp->(Hp->Prop)->Prop
def PSet(X:Cx)(t:TSet):Prop:=
 ∀(pins:List (KF×PX)) (s:KB) (σ:St) (H:Hp) (o i v:V) (ov iv u:GT) (Q:Hp->Prop),Inv X pins σ H s->RelV o ov->RelV i iv->RelV v u->t o i v H Q->
  Px (Pt X.prog X.w) X.A (setItem ov iv u) (λ_ s'=>∃H',Inv X pins σ H' s'/\Q H') X.xe s
abbrev TIp:=V->V->Hp->VK->Prop
def PIp(X:Cx)(op:QS)(t:TIp):Prop:=
 ∀(pins:List (KF×PX)) (s:KB) (σ:St) (H:Hp) (x y:V) (v u:GT) (Q:VK),Inv X pins σ H s->RelV x v->RelV y u->t x y H Q->
  Px (Pt X.prog X.w) X.A (inplaceOp op v u) (EP X pins σ Q) X.xe s
section
variable {X:Cx}{pos:PK}
def fX(i:Nat):TG:=λv σ H Q=>Q (σ.set i (u5 v)) H
variable{i:Nat}{x:G8}
def fg(hN:X.N.Nodup)(hi:X.N[i]?=u5 x)(hx:Loc X.env.scope x)(hf:autoParam (zFN X x) zA2):PG X (.Name x pos) (fX i):=by
 intro pins s σ H v u Q I r h;exact QC (dP I hN hi hx r (λs' I'=>#[_,H,I',h]) hf)
def gNil:TGs:=λvs σ H Q=>vs=[]/\Q σ H
def tN(t:TG)(u:TGs):TGs:=λvs σ H Q=>∃v r,vs=v::r/\t v σ H λσ' H'=>u r σ' H' Q
def tO:PGs X [] gNil:=by
 intro pins s σ H vs us Q I r h;obtain⟨e,h⟩:=h;subst e;cases r;exact Rl #[σ,H,I,h]
variable{e:Pu}{es:List Pu}
def tP{t:TG}{u:TGs}(h1:PG X e t)(h2:PGs X es u)
  (hs:autoParam ((PC (e::es) X.env).map (·.2)=Qm e X.env::(PC es X.env).map (·.2)) zA0):PGs X (e::es) (tN t u):=by
 intro pins s σ H vs us Q I r h;obtain⟨v,vr,e1,h⟩:=h;subst e1;cases r with
 |cons r rr=>
  rw[hs];refine QB (thn (h1 pins s σ H _ _ _ I r h) λ_ s1 b_=>?_);obtain⟨σ1,H1,I1,q1⟩:=b_;exact h2 pins s1 σ1 H1 _ _ Q I1 rr q1
def gTup(K:Dr)(n:Nat)(t:TGs):TG:=λv σ H Q=>∃a xs,v=.ref a/\SqT K H a xs/\xs.length=n/\t xs σ H Q
def iP{k:Nat}{t:TGs}{n:Nat}(hc:X.calm=true)(h:PGs X es t)
  (hn:autoParam ((PC es X.env).length=n) zA0) (q_:autoParam ((PC es X.env).findIdx? (·.1)=none) zA0):PG X (.Tuple es k pos) (gTup X.K n t):=by
 intro pins s σ H v u Q I r hw;obtain⟨a,xs,e1,hq,hl,hw⟩:=hw;subst e1;cases r;obtain⟨its,rv,ht,hz⟩:=I.tuple hq;refine assign_Tuple_tuple (I.ok.hd hc) ht (by simp[hn,<-hl,rv.length]) q_ λh' hx=>?_;have I1:Inv X pins σ H {s with heap:=h'}:=I.kept (t':=s.toks) λb o e=>hx b o (DF (Heap.lt_size e)) e;exact h pins _ σ H xs _ Q I1 (by simpa using rv) hw
def tAsg(te:TE)(g:TG):TS:=λD σ H=>te σ H λx H1=>g x σ H1 D.nx
variable{te:TE}
def nW{tg:Pu}{g:TG}(he:PE X e te)(hg:PG X tg g)(hs:autoParam (Qi [tg] e pos.line X.env=pure false) zA0)(hw:autoParam (Qj [tg] e X.env=pure none) zA0)
  (h1:autoParam ((PC [tg] X.env).map (·.2)=[Qm tg X.env]) zA0):PS X (.Assign [tg] e pos) (tAsg te g):=by
 intro pins s σ H D I h;refine wpAny_Assign_stores (thn (he pins s σ H _ I h) λv s1 hh=>?_) hs hw;obtain⟨x,H1,I1,r1,q1⟩:=hh;rw[h1];exact thn (hg pins s1 σ H1 x v _ I1 r1 q1) λ_ s2 q=>q
def fY{c_:PK}(hN:X.N.Nodup)(hi:X.N[i]?=u5 x)(hx:Loc X.env.scope x)(he:PE X e te)(hs:autoParam (PV e (u5 (.Name x c_)) pos.line X.env=pure false) zA0)(hf:autoParam (zFN X x) zA2):
  PS X (.Assign [.Name x c_] e pos) (tAsg te (fX i)):=by
 intro pins s σ H D I h;refine wpAny_Assign_Name (thn (he pins s σ H _ I h) λv s1 hh=>?_) hs;obtain⟨y,H1,I1,r1,q1⟩:=hh;exact dP I1 hN hi hx r1 (λs2 I2=>#[_,H1,I2,q1]) hf
def tPar(i j:Nat)(ta:TA):TS:=λD σ H=>ta σ H λvs H1=>∃v w,vs=[v,w]/\D.nx ((σ.set i (u5 v)).set j (u5 w)) H1
def tQ{j:Nat}{y:G8}{a b:Pu}{ta:TA}{px py pt:PK}{kt k2 G7}(hc:X.calm=true)(hN:X.N.Nodup)(hi:X.N[i]?=u5 x)(hj:X.N[j]?=u5 y)(JU:i≠j)
  (hx:X.env.scope.names.lookup x=u5 .local) (hy:X.env.scope.names.lookup y=u5 .local) (ha:PA X [a,b] ta)
  (hw:Qj [.Tuple [.Name x px,.Name y py] kt pt] (.Tuple [a,b] k2 G7) X.env=pure (u5 [x,y]))
  (hs:autoParam (Qi [.Tuple [.Name x px,.Name y py] kt pt] (.Tuple [a,b] k2 G7) pos.line X.env=pure false) zA0):
  PS X (.Assign [.Tuple [.Name x px,.Name y py] kt pt] (.Tuple [a,b] k2 G7) pos) (tPar i j ta):=by
 intro pins s σ H D I h;rw[exec_Assign_arm];refine KM (P8 ?_);rw[hs];refine KM (Pi ?_);rw[if_neg G_];refine KM (Tuple_ (thn (ha _ pins s σ H _ I h) λus s1 b_=>?_));obtain⟨vs,H1,I1,r1,q1⟩:=b_;obtain⟨v,w,e1,q1⟩:=q1;subst e1;obtain⟨u1,u2,rfl,rv,m_⟩:∃u1 u2,us=[u1,u2]/\RelV v u1/\RelV w u2:=by
  cases r1 with
  |cons p q=>
   cases q with
   |cons p' q'=>
    cases q';exact#[_,_,rfl,p,p']
 refine PN ?_ (by show 2<=sizeLine;decide);have I2:Inv X pins σ H1 {s1 with heap:=s1.heap.push {cls:=.type "tuple",data:=.seq [u1,u2].toArray} }:=I1.kept (t':=s1.toks) λb o e=>Heap.get?_push_of_some _ e;rw[hw];refine KM (Pi ?_);show Px (Pt X.prog X.w) X.A (do rule "assign.swapped-stores";let items <-unpackItems (.ref s1.heap.objs.size) 2 A';QU [λv=>QQ X.env y v,λv=>QQ X.env x v] items.reverse;pure Flow.next) _ _ _;refine KM (Rb (KM (unpackItems_tuple (items:=[u1,u2].toArray) (I.ok.hd hc) (IsTup.new s1.heap _) λh' g8=>?_)));have I3:=I2.kept (h':=h') (t':=s1.toks) λb o e=>g8 b o (DF (Heap.lt_size e)) e;show Px _ _ (QU [λv=>QQ X.env y v,λv=>QQ X.env x v] [u2,u1]>>=λ_=>pure Flow.next) _ _ _;refine KM (QB (wpAny_bindName (dP I3 hN hj (.inl hy) m_ (λs2 I4=>?_) (.inr hy))));refine QB (wpAny_bindName (dP I4 hN hi (.inl hx) rv (λs3 I5=>Rl (Pi ?_)) (.inr hx)));rw[List.set_comm _ _ (Ne.symm JU)]at I5;exact#[_,H1,I5,q1]
def tR(to ti te:TE)(z9:V->V->Hp->VK->Prop)(Ja:TIp)(z_:TSet):TS:=λD σ H=>to σ H λo H1=>ti σ H1 λi H2=>z9 o i H2 λx H3=>te σ H3 λy H4=>Ja x y H4 λz H5=>z_ o i z H5 λH6=>D.nx σ H6
def PGet(X:Cx)(t:V->V->Hp->VK->Prop):Prop:=
 ∀(pins:List (KF×PX)) (s:KB) (σ:St) (H:Hp) (o i:V) (ov iv:GT) (Q:VK),Inv X pins σ H s->RelV o ov->RelV i iv->t o i H Q->
  Px (Pt X.prog X.w) X.A (QL ov iv) (EP X pins σ Q) X.xe s
def tS{o i:Pu}{to ti:TE}{z9:V->V->Hp->VK->Prop}{Ja:TIp}{z_:TSet}{op:QS}{HM:PK}(ho:PE X o to)(hi:PE X i ti)(hg:PGet X z9)(he:PE X e te)(hp:PIp X op Ja)(hs:PSet X z_)
  (ha:autoParam (∀ov iv new,augStore i ov iv new=(do Qy [new,ov,iv] (setItem ov iv new);release [new,ov,iv] [];pure .next)) zA7):PS X (.AugAssign (.Subscript o i HM) op e pos) (tR to ti te z9 Ja z_):=by
 intro pins s σ H D I h;refine wpAny_AugAssign_SubscriptAny (thn (ho pins s σ H _ I h) λov s1 hh=>?_) ha;obtain⟨x1,H1,I1,r1,q1⟩:=hh;refine thn (hi pins s1 σ H1 _ I1 q1) λiv s2 b_=>?_;obtain⟨x2,H2,I2,r2,q2⟩:=b_;refine thn (hg pins s2 σ H2 x1 x2 ov iv _ I2 r1 r2 q2) λf7 s3 b_=>?_;obtain⟨x3,H3,I3,r3,q3⟩:=b_;refine thn (he pins s3 σ H3 _ I3 q3) λv s4 b_=>?_;obtain⟨x4,H4,I4,r4,q4⟩:=b_;refine thn (hp pins s4 σ H4 x3 x4 f7 v _ I4 r3 r4 q4) λnew s5 b_=>?_;obtain⟨x5,H5,I5,r5,q5⟩:=b_;exact thn (hs pins s5 σ H5 x1 x2 x5 ov iv new _ I5 r1 r2 r5 q5) λ_ s6 ⟨H6,I6,q6⟩=>#[σ,H6,I6,q6]
def tT(c:TT)(tb:TS):TS:=λD σ H=>∃W:Nat->St->Hp->Prop,(∃m,W m σ H)/\∀m σ H,W m σ H->
 c σ H λb H1=>if b=true then ∃N:St->Hp->Prop,(∀σ' H',N σ' H'->∃m',m'<m/\W m' σ' H')/\tb {D with nx:=N,ct:=N,bk:=D.nx} σ H1 else D.nx σ H1
def nX{c:Pu}{body:List Py}{tc:TT}{tb:TS}(hp:P3 (Pt X.prog X.w) X.A X.env X.xe)(hc:PT X c tc)(hb:PSs X body tb):PS X (.While c body [] pos) (tT tc tb):=by
 intro pins s σ H D I h;obtain⟨W,⟨m0,w0⟩,d9⟩:=h;refine wpAny_While (codeAny_whileLoop (λn s'=>∃σ' H',Inv X pins σ' H' s'/\W n σ' H') ?_ m0 #[σ,H,I,w0]);rintro n s1⟨σ1,H1,I1,w1⟩;refine P2 hp (thn (hc pins s1 σ1 H1 _ I1 (d9 n σ1 H1 w1)) λb s2 b_=>?_);obtain⟨H2,I2,q2⟩:=b_;cases b with
 |true=>
  obtain⟨N,hN,q2⟩:=q2;rw[if_pos rfl];refine P2 hp (thn (hb pins s2 σ1 H2 _ I2 q2) λf s3 q3=>?_);cases f with
  |next=>
   obtain⟨σ3,H3,I3,n3⟩:=q3;obtain⟨m',hm,w3⟩:=hN σ3 H3 n3;exact#[m',hm,σ3,H3,I3,w3]
  |cont=>
   obtain⟨σ3,H3,I3,n3⟩:=q3;obtain⟨m',hm,w3⟩:=hN σ3 H3 n3;exact#[m',hm,σ3,H3,I3,w3]
  |brk=>exact q3
  |ret v=>exact q3
 |false=>
  rw[if_neg DK];exact Qc #[σ1,H2,I2,q2]
end
structure It where
 go:Nat->Hp->Prop
 yld:Nat->Hp->V->Hp->Prop
 stop:Nat->Hp->Prop
def FpOk(X:Cx)(pins:List (KF×PX))(H:Hp)(b:KF):Prop:=
 H b=A'/\b≠X.env.locals/\b∉X.fs/\(b∈X.ex\/X.s₀.heap.objs.size<=b)/\(∀x c,X.env.cells.lookup x=u5 c->c≠b)/\∀p∈X.pn++pins,p.1≠b
variable{σ:St}
def Inv.fpOk{pins:List (KF×PX)}{H':Hp}(I:Inv X pins σ H s)(hb:s.heap.objs.size<=b)(hn:H' b=A'):FpOk X pins H' b:=by
 refine#[hn,Ec (DP I.lt hb),I.nofs hb,.inr (Dy I.sz hb),λx c e z=>?_,λp hp z=>?_]
 .obtain⟨v,q⟩:=I.cell x c e;exact absurd (DP q.lt (by rw[z];exact hb)) (EB _)
 .exact absurd (DP (Heap.lt_size (I.pin p hp).1) (by rw[z];exact hb)) (EB _)
structure Turn(P:Pw)(w:Pz)(K:Dr)(tg:Pu)(J:It)(fp:List KF)(it:KF)(tn:Nat->Heap->Prop):Prop where
 mem:it∈fp
 obj:∀i h,tn i h->∀b∈fp,∃o,h.get? b=u5 o/\∀v,o.data≠.cell v
 keep:∀i h h',tn i h->(∀b∈fp,∀o,h.get? b=u5 o->h'.get? b=u5 o)->tn i h'
 item:∀(X:Cx),X.prog=P->X.w=w->X.K=K->X.calm=true->∀(i:Nat) (pins:List (KF×PX)) (s:KB) (σ:St) (H:Hp) (E:GT->KB->Prop),Inv X pins σ H s->(∀b∈fp,FpOk X pins H b)->tn i s.heap->J.go i H->
  Px (Pt P w) X.A (pyNext (.ref it)) (λr s1=>∃u,r=u5 u/\
   Px (Pt P w) X.A (Qo tg (.ref it) u) (λ_ s2=>∃x H',Inv X pins σ H' s2/\RelV x u/\J.yld i H x H'/\tn (i+1) s2.heap/\∀b∈fp,H' b=A') E s1) E s
 done:∀(X:Cx),X.prog=P->X.w=w->X.K=K->X.calm=true->∀(i:Nat) (pins:List (KF×PX)) (s:KB) (σ:St) (H:Hp) (E:GT->KB->Prop),Inv X pins σ H s->(∀b∈fp,FpOk X pins H b)->tn i s.heap->J.stop i H->
  Px (Pt P w) X.A (pyNext (.ref it)) (λr s1=>r=A'/\Inv X pins σ H s1) E s
 self:∀(A:PB) (i:Nat) (s:KB) (Q:GT->KB->Prop) (E:GT->KB->Prop),tn i s.heap->Q (.ref it) s->Px (Pt P w) A (pyIter (.ref it)) Q E s
abbrev TI:=St->Hp->(It->Hp->Prop)->Prop
def PIE(X:Cx)(pins:List (KF×PX))(σ:St)(tg:Pu)(R:It->Hp->Prop)(Jb:GT)(s2:KB):Prop:=
 ∃(it:KF) (fp:List KF) (tn:Nat->Heap->Prop) (J:It) (H':Hp),Jb=.ref it/\Inv X pins σ H' s2/\Turn X.prog X.w X.K tg J fp it tn/\tn 0 s2.heap/\(∀b∈fp,FpOk X pins H' b)/\R J H'
def PI(X:Cx)(tg iter:Pu)(wi:TI):Prop:=
 ∀(pins:List (KF×PX)) (s:KB) (σ:St) (H:Hp) (R:It->Hp->Prop),Inv X pins σ H s->wi σ H R->
  Px (Pt X.prog X.w) X.A (PM iter X.env) (λv s1=>Px (Pt X.prog X.w) X.A (pyIter v) (PIE X pins σ tg R) X.xe s1) X.xe s
variable{tg:Pu}
def iQ{M:Q9}{it:KF}{o:PX}{n:String}{vs:Array GT}{Q:Unit->KB->Prop}(ho:s.heap.get? it=u5 o)(hc:o.cls=.type n)(hd:o.data=.fields vs)
    (hn:["enumerate","zip","dict_itemiterator","dict_reverseitemiterator","odict_iterator","itertools.zip_longest","itertools.pairwise"].contains n=false) (hQ:Q () s):Px M A (Qo tg (.ref it) u) Q E s:=by
  unfold Qo;cases tg<;>first
    |exact Pi hQ
    |(cases u<;>first
        |exact Pi hQ
        |( refine KM (wpAny_load ho ?_)
           rw[hc,hd];show Px M A (if(["enumerate","zip","dict_itemiterator","dict_reverseitemiterator","odict_iterator","itertools.zip_longest","itertools.pairwise"].contains n&&vs[0]?==u5 (Qr _))=true then _ else _) Q E s;rw[if_neg (by intro h;rw[hn,Bool.false_and]at h;cases h)];exact Pi hQ))
def Itl(K:Dr)(a:KF):It:=
 #[λi H=>∃xs x,SqL K H a xs/\xs[i]?=u5 x,λi H x H'=>H'=H/\∀xs,SqL K H a xs->xs[i]?=u5 x,λi H=>∃xs,SqL K H a xs/\xs.length<=i]
def Itr(lo:Int)(n:Nat):It:=#[λi _=>i<n,λi H x H'=>H'=H/\x=.int (lo+i),λi _=>n<=i]
variable{K:Dr}
def tU(a it:KF):Turn P w K tg (Itl K a) [it] it (λi h=>h.IsListIter it a i) where
 mem:=HV
 obj:=λi h st b hb=>by
  have e:b=it:=by simpa using hb
  subst e;obtain⟨o,e,c,d⟩:=st;exact#[o,e,λv z=>by rw[d]at z;cases z]
 keep:=λi h h' st k=>st.at λo e=>k it HV o e
 item:=by
  intro X hP hw hK hc i pins s σ H E I hf st hg;subst hP hw hK;obtain⟨xs,x,hq,hx⟩:=hg;obtain⟨its,rv,p,hz⟩:=I.list hq;obtain⟨u,hu,ru⟩:=rv.get hx;obtain⟨f0,f1,f2,f3,f4,f5⟩:=hf it HV;refine wpAny_pyNext_list_item st p.isList (x:=u) (by simpa using hu) λh' st' sb=>?_;have I1:Inv X pins σ H {s with heap:=h'}:=I.turned (t':=s.toks) (λb o hb e=>(sb.2 b hb).trans e) f0 f1 f3 f4 f5;obtain⟨o,e,c,d⟩:=id st';exact#[u,rfl,iQ (s:={s with heap:=h'}) e c d G_ #[x,H,I1,ru,#[rfl,λys hy=>by rw[I.list_inj hy hq];exact hx],st',λb hb=>(hf b hb).1]]
 done:=by
  intro X hP hw hK hc i pins s σ H E I hf st hg;subst hP hw hK;obtain⟨xs,hq,hx⟩:=hg;obtain⟨its,rv,p,hz⟩:=I.list hq;obtain⟨f0,f1,f2,f3,f4,f5⟩:=hf it HV;have hl:=rv.length;exact wpAny_pyNext_list_end (I.ok.hd hc) st p.isList (by simp;lia) λh' eb=>#[rfl,I.turned (t':=s.toks) (λb o hb e=>eb b o hb e) f0 f1 f3 f4 f5]
 self:=λ_ _ _ _ _ st h=>wpAny_pyIter_listiter st h
def tV(it:KF)(lo:Int)(n:Nat):Turn P w K tg (Itr lo n) [it] it (λi h=>IsRangeIter h it (lo+(i:Nat)*1) ((n:Int)-(i:Nat)) 1) where
 mem:=HV
 obj:=λi h st b hb=>by
  have e:b=it:=by simpa using hb
  subst e;exact⟨_,st,λv z=>by
   have z':Data.fields _=Data.cell v:=z;cases z'⟩
 keep:=λi h h' st k=>k it HV _ st
 item:=by
  intro X hP hw hK hc i pins s σ H E I hf st hg;subst hP hw hK;obtain⟨f0,f1,f2,f3,f4,f5⟩:=hf it HV;have W:=Walks.range (prog:=X.prog) (w:=X.w) (I.ok.hd hc) it lo 1 n;refine W.item i s _ _ hg st λv h' tk hv st' kk=>?_;obtain⟨t,rfl⟩:=hv;have I1:Inv X pins σ H {s with heap:=h',toks:=tk}:=I.turned (λb o hb e=>kk b o (by simpa using hb) e) f0 f1 f3 f4 f5;refine#[_,rfl,iQ (s:={s with heap:=h',toks:=tk}) (n:="range_iterator") st' rfl rfl G_ #[.int (lo+i),H,I1,#[t,?_],#[rfl,rfl],st',λb hb=>(hf b hb).1]];rw[FT]
 done:=by
  intro X hP hw hK hc i pins s σ H E I hf st hg;subst hP hw hK;obtain⟨f0,f1,f2,f3,f4,f5⟩:=hf it HV;exact wpAny_pyNext_range_end (I.ok.hd hc) st (by have:n<=i:=hg;lia) λh' eb=>#[rfl,I.turned (t':=s.toks) (λb o hb e=>eb b o hb e) f0 f1 f3 f4 f5]
 self:=λ_ _ _ _ _ st h=>wpAny_pyIter_rangeiter st h
section
variable {X:Cx}{tg:Pu}
def nY(K:Dr)(tl:TE):TI:=λσ H R=>tl σ H λx H1=>∃a,x=.ref a/\(∃xs,SqL K H1 a xs)/\R (Itl K a) H1
def iR{l:Pu}{tl:TE}(hl:PE X l tl):PI X tg l (nY X.K tl):=by
 intro pins s σ H R I h;refine thn (hl pins s σ H _ I h) λv s1 b_=>?_;obtain⟨x,H1,I1,r1,q1⟩:=b_;obtain⟨a,e,⟨xs,hq⟩,q⟩:=q1;subst e;cases r1;obtain⟨its,rv,p,hz⟩:=I1.list hq;refine wpAny_pyIter_list p.isList ?_;refine#[s1.heap.objs.size,[s1.heap.objs.size],_,_,H1,rfl,I1.kept (t':=s1.toks) λb o e=>Heap.get?_push_of_some _ e,tU a _,#[_,Heap.get?_push_size _ rfl,rfl,rfl],λb hb=>?_,q];have e:b=s1.heap.objs.size:=by simpa using hb
 subst e;exact I1.fpOk (Dt _) (I1.hok.fresh (Dt _))
variable{pins:List (KF×PX)}{σ:St}{H:Hp}{s:KB}
def tW{R:It->Hp->Prop}{E:GT->KB->Prop}{lo hi:Int}{t u v:Tok}{tk:Nat}(I:Inv X pins σ H s)(h1:-(2^62)<=lo)(h2:lo<2^62)(h3:-(2^62)<=hi)(h4:hi<2^62)
  (q:R (Itr lo (hi-lo).toNat) H):Px (Pt X.prog X.w) X.A (pyIter (.ref s.heap.objs.size)) (PIE X pins σ tg R) E {s with heap:=s.heap.push {cls:=.type "range",data:=.fields [.int lo t,.int hi u,.int 1 v].toArray},toks:=tk}:=by
 refine wpAny_pyIter_range (IsRange.new ..) (small_one h1 h2 h3 h4) ?_;have I1:Inv X pins σ H {s with heap:=s.heap.push {cls:=.type "range",data:=.fields [.int lo t,.int hi u,.int 1 v].toArray},toks:=tk}:=I.kept λb o e=>Heap.get?_push_of_some _ e;refine⟨(s.heap.push {cls:=.type "range",data:=.fields [.int lo t,.int hi u,.int 1 v].toArray}).objs.size,[(s.heap.push {cls:=.type "range",data:=.fields [.int lo t,.int hi u,.int 1 v].toArray}).objs.size],_,_,H,rfl,
  I1.kept (t':=tk) λb o e=>Heap.get?_push_of_some _ e,tV _ lo (hi-lo).toNat,?_,λb hb=>?_,q⟩
 .have e1:lo+((0:Nat):Int)*1=lo:=by simp
  have e2:(((hi-lo).toNat:Nat):Int)-((0:Nat):Int)=Builtin.Range.rangeSize lo hi 1:=by rw[rangeSize_one];split<;>lia
  show IsRangeIter _ _ (lo+((0:Nat):Int)*1) ((((hi-lo).toNat:Nat):Int)-((0:Nat):Int)) 1;rw[e1,e2];exact Heap.get?_push_size _ rfl
 .have e:b=(s.heap.push {cls:=.type "range",data:=.fields [.int lo t,.int hi u,.int 1 v].toArray}).objs.size:=by simpa using hb
  subst e;exact I1.fpOk (Dt _) (I1.hok.fresh (Dt _))
def tX(ta:TA):TI:=λσ H R=>ta σ H λvs H1=>∃j:Int,vs=[.int j]/\-(2^62)<=j/\j<2^62/\R (Itr 0 j.toNat) H1
def nZ{a:Pu}{ta:TA}{p pos:PK}(hg:Gl X "range")(hm:X.mg "range"=A')(ha:PA X [a] ta)(hs:autoParam (PD [a] X.env=[(false,PM a X.env)]) zA0):PI X tg (.Call (.Name "range" p) [a] [] pos) (tX ta):=by
 intro pins s σ H R I h;refine Call_ (dQ I hg hm boot_range (PyProof.Rows.callWith_type1 (thn (ha pos pins s σ H _ I h) λus s1 hh=>?_) hs rfl));obtain⟨vs,H1,I1,r1,q1⟩:=hh;obtain⟨j,e,q1,q2,q⟩:=q1;subst e;cases r1 with
 |cons r rr=>
  cases rr;obtain⟨t,rfl⟩:=r;exact call_range_1 (tW I1 HN HN q1 q2 (by simpa using q))
def tFor(wi:TI)(g:TG)(tb:TS):TS:=λD σ H=>wi σ H λJ H1=>∃W:Nat->Nat->St->Hp->Prop,(∃m,W 0 m σ H1)/\∀i m σ H,W i m σ H->
 (J.stop i H/\D.nx σ H)\/(J.go i H/\∃N:St->Hp->Prop,(∀σ' H',N σ' H'->∃m',m'<m/\W (i+1) m' σ' H')/\∀x H',J.yld i H x H'->g x σ H' λσ2 H2=>tb {D with nx:=N,ct:=N,bk:=D.nx} σ2 H2)
def fZ(fp:List KF)(h:Heap):List (KF×PX):=fp.filterMap λb=>(h.get? b).map λo=>(b,o)
variable{fp:List KF}
def dR{h:Heap}{b:KF}{o:PX}(hb:b∈fp)(e:h.get? b=u5 o):(b,o)∈fZ fp h:=FU.mpr #[b,hb,by rw[e];rfl]
def tY{h:Heap}{p:KF×PX}(hp:p∈fZ fp h):p.1∈fp/\h.get? p.1=u5 p.2:=by
 obtain⟨b,hb,e⟩:=FU.mp hp;cases q:h.get? b with
 |none=>rw[q]at e;cases e
 |some o=>
  rw[q]at e;have e':(b,o)=p:=Option.some.inj e;subst e';exact#[hb,q]
def Inv.pinned(I:Inv X pins σ H s)(hf:∀b∈fp,FpOk X pins H b)(ho:∀b∈fp,∃o,s.heap.get? b=u5 o/\∀v,o.data≠.cell v):Inv X (pins++fZ fp s.heap) σ H s:=
 I.pins_of λp hp=>(D3.mp hp).elim (λz=>I.pin p (DY _ z)) λz=>by
  obtain⟨hb,e⟩:=tY z;obtain⟨f0,f1,f2,_⟩:=hf p.1 hb;obtain⟨o,e',d⟩:=ho p.1 hb;rw[e]at e';cases e';exact#[e,f0,f1,f2,d]
def Inv.unpinned{pl:List (KF×PX)}(I:Inv X (pins++pl) σ H s):Inv X pins σ H s:=I.pins_of λp hp=>I.pin p (DY _ (EC _ hp))
def dS{iter:Pu}{body:List Py}{wi:TI}{g:TG}{tb:TS}{pos:PK}(hp:P3 (Pt X.prog X.w) X.A X.env X.xe)(hc:X.calm=true)(hi:PI X tg iter wi)(hg:PG X tg g)(hb:PSs X body tb)
  (hs:∀x,Rk iter X.env x=pure x:=by intro _;rfl):PS X (.For tg iter body [] pos) (tFor wi g tb):=by
 intro pins s σ H D I h;refine wpAny_For (thn (hi pins s σ H _ I h) λv s1 h1=>thn h1 λJb s2 h2=>?_) hs;obtain⟨it,fp,tn,J,H2,e,I2,T,p9,f2,W,⟨m0,w0⟩,d9⟩:=h2;subst e;have o7:∀{H':Hp},(∀b∈fp,H' b=A')->∀b∈fp,FpOk X pins H' b:=λhn b hb=>#[hn b hb,(f2 b hb).2];refine codeAny_forLoop_any (λn s'=>∃i σ' H',Inv X pins σ' H' s'/\tn i s'.heap/\(∀b∈fp,H' b=A')/\W i n σ' H') ?_ m0 #[0,σ,H2,I2,p9,λb hb=>(f2 b hb).1,w0];rintro n s3⟨i,σ3,H3,I3,y9,L9,w3⟩;rcases d9 i n σ3 H3 w3 with⟨stop,qn⟩|⟨go,N,hN,step⟩
 .refine P2 hp (thn (T.done X rfl rfl rfl hc i pins s3 σ3 H3 X.xe I3 (o7 L9) y9 stop) λr s4 b_=>?_);obtain⟨hr,I4⟩:=b_;subst hr;exact Qc #[σ3,H3,I4,qn]
 .refine P2 hp (thn (T.item X rfl rfl rfl hc i pins s3 σ3 H3 X.xe I3 (o7 L9) y9 go) λr s4 b_=>?_);obtain⟨u,hr,h4⟩:=b_;subst hr;refine P2 hp (thn h4 λ_ s5 b_=>?_);obtain⟨x,H5,I5,r5,y5,A_,JV⟩:=b_;have Nf:=I5.pinned (o7 JV) (T.obj _ _ A_);refine P2 hp (thn (hg _ s5 σ3 H5 x u _ Nf r5 (step x H5 y5)) λ_ s6 b_=>?_);obtain⟨σ6,H6,I6,q6⟩:=b_;refine P2 hp (thn (hb _ s6 σ6 H6 _ I6 q6) λf s7 q7=>?_);have again:∀{σ7:St} {H7:Hp},Inv X (pins++fZ fp s5.heap) σ7 H7 s7->N σ7 H7->∃m,m<n/\∃i σ' H',Inv X pins σ' H' s7/\tn i s7.heap/\(∀b∈fp,H' b=A')/\W i m σ' H':=λ{σ7 H7} I7 n7=>by
   obtain⟨m',hm,w7⟩:=hN σ7 H7 n7;refine#[m',hm,i+1,σ7,H7,I7.unpinned,T.keep _ _ _ A_ λb hb o e=>(I7.pin (b,o) (DY _ (DY _ (dR hb e)))).1,λb hb=>?_,w7];obtain⟨o,e,d⟩:=T.obj _ _ A_ b hb;exact(I7.pin (b,o) (DY _ (DY _ (dR hb e)))).2.1
  cases f with
  |next=>obtain⟨σ7,H7,I7,n7⟩:=q7;exact again I7 n7
  |cont=>obtain⟨σ7,H7,I7,n7⟩:=q7;exact again I7 n7
  |brk=>obtain⟨σ7,H7,I7,q7⟩:=q7;exact#[σ7,H7,I7.unpinned,q7]
  |ret v=>obtain⟨x7,σ7,H7,I7,r7,q7⟩:=q7;exact#[x7,σ7,H7,I7.unpinned,r7,q7]
end
def oa{g:TG}{tb:TS}{D:Ends}(Pv:Nat->St->Hp->Prop)(h0:Pv 0 σ H)(hl:∀i σ H,i<=xs.length->Pv i σ H->SqL K H a xs)
  (hs:∀i x σ H,xs[i]?=u5 x->Pv i σ H->g x σ H λσ2 H2=>tb {D with nx:=Pv (i+1),ct:=Pv (i+1),bk:=D.nx} σ2 H2) (hd:∀σ H,Pv xs.length σ H->D.nx σ H):
  ∃W:Nat->Nat->St->Hp->Prop,(∃m,W 0 m σ H)/\∀i m σ H,W i m σ H->
   ((Itl K a).stop i H/\D.nx σ H)\/((Itl K a).go i H/\∃N:St->Hp->Prop,(∀σ' H',N σ' H'->∃m',m'<m/\W (i+1) m' σ' H')/\∀x H',(Itl K a).yld i H x H'->g x σ H' λσ2 H2=>tb {D with nx:=N,ct:=N,bk:=D.nx} σ2 H2):=by
 refine#[λi m σ H=>m=xs.length-i/\i<=xs.length/\Pv i σ H,#[xs.length,HV,DO _,h0],?_];rintro i m σ H ⟨rfl,hi,p⟩;have q:=hl i σ H hi p;by_cases g9:i<xs.length
 .refine .inr #[#[xs,xs[i],q,by simp[g9]],Pv (i+1),λσ' H' p'=>#[xs.length-(i+1),HN,rfl,g9,p'],λx H' y=>?_];obtain⟨e,y⟩:=y;subst e;exact hs i x σ _ (y xs q) p
 .have e:i=xs.length:=by lia
  subst e;exact .inl #[#[xs,q,Dt _],hd σ H p]
def og{lo:Int}{n:Nat}{g:TG}{tb:TS}{D:Ends}(Pv:Nat->St->Hp->Prop)(h0:Pv 0 σ H)
  (hs:∀i σ H,i<n->Pv i σ H->g (.int (lo+i)) σ H λσ2 H2=>tb {D with nx:=Pv (i+1),ct:=Pv (i+1),bk:=D.nx} σ2 H2) (hd:∀σ H,Pv n σ H->D.nx σ H):
  ∃W:Nat->Nat->St->Hp->Prop,(∃m,W 0 m σ H)/\∀i m σ H,W i m σ H->
   ((Itr lo n).stop i H/\D.nx σ H)\/((Itr lo n).go i H/\∃N:St->Hp->Prop,(∀σ' H',N σ' H'->∃m',m'<m/\W (i+1) m' σ' H')/\∀x H',(Itr lo n).yld i H x H'->g x σ H' λσ2 H2=>tb {D with nx:=N,ct:=N,bk:=D.nx} σ2 H2):=by
 refine#[λi m σ H=>m=n-i/\i<=n/\Pv i σ H,#[n,HV,DO _,h0],?_];rintro i m σ H ⟨rfl,hi,p⟩;by_cases g9:i<n
 .refine .inr #[g9,Pv (i+1),λσ' H' p'=>#[n-(i+1),HN,rfl,g9,p'],λx H' y=>?_];obtain⟨e,y⟩:=y;subst e y;exact hs i σ _ g9 p
 .have e:i=n:=by lia
  subst e;exact .inl #[Dt _,hd σ H p]
abbrev R2:=V->V->Hp->VK->Prop
def OpR(X:Cx)(f:GT->GT->Q5 GT)(r:R2):Prop:=
 ∀(pins:List (KF×PX)) (s:KB) (σ:St) (H:Hp) (x y:V) (v u:GT) (Q:VK),Inv X pins σ H s->RelV x v->RelV y u->r x y H Q->
  Px (Pt X.prog X.w) X.A (f v u) (EP X pins σ Q) X.xe s
def UnR(X:Cx)(f:GT->Q5 GT)(r:V->Hp->VK->Prop):Prop:=
 ∀(pins:List (KF×PX)) (s:KB) (σ:St) (H:Hp) (x:V) (v:GT) (Q:VK),Inv X pins σ H s->RelV x v->r x H Q->
  Px (Pt X.prog X.w) X.A (f v) (EP X pins σ Q) X.xe s
def bM(X:Cx)(f:GT)(r:List V->Hp->VK->Prop):Prop:=
 ∀(pins:List (KF×PX)) (s:KB) (σ:St) (H:Hp) (xs:List V) (us:List GT) (Q:VK),Inv X pins σ H s->Vals xs us->r xs H Q->
  Px (Pt X.prog X.w) X.A (call f us) (EP X pins σ Q) X.xe s
def TruR(X:Cx)(r:V->Hp->(Bool->Hp->Prop)->Prop):Prop:=
 ∀(pins:List (KF×PX)) (s:KB) (σ:St) (H:Hp) (x:V) (v:GT) (Q:Bool->Hp->Prop),Inv X pins σ H s->RelV x v->r x H Q->
  Px (Pt X.prog X.w) X.A (truthy v) (TP X pins σ Q) X.xe s
def tOp(r:R2)(ta tb:TE):TE:=λσ H Q=>ta σ H λx H1=>tb σ H1 λy H2=>r x y H2 Q
def tUn(r:V->Hp->VK->Prop)(ta:TE):TE:=λσ H Q=>ta σ H λx H1=>r x H1 Q
def rI(C:Int->Int->Prop)(g:Int->Int->V):R2:=λx y H Q=>∃i j,x=.int i/\y=.int j/\C i j/\Q (g i j) H
def rI0(g:Int->Int->V):R2:=λx y H Q=>∃i j,x=.int i/\y=.int j/\Q (g i j) H
def rU(g:Int->V):V->Hp->VK->Prop:=λx H Q=>∃i,x=.int i/\Q (g i) H
section
variable {X:Cx}{a b c:Pu}{ta tb tc:TE}{pos:PK}
variable{f:GT->GT->Q5 GT}
def binT(ha:PE X a ta)(hb:PE X b tb){pins:List (KF×PX)}{s:KB}{σ:St}{H:Hp}{R:V->V->Hp->Prop}(I:Inv X pins σ H s)
  (h:ta σ H λx H1=>tb σ H1 λy H2=>R x y H2) {Q:GT->KB->Prop} 
  (hf:∀v u s2 x y H2,Inv X pins σ H2 s2->RelV x v->RelV y u->R x y H2->Px (Pt X.prog X.w) X.A (f v u) Q X.xe s2):
  Px (Pt X.prog X.w) X.A (PM a X.env) (λv s₁=>Px (Pt X.prog X.w) X.A (PM b X.env) (λu s₂=>Px (Pt X.prog X.w) X.A (f v u) Q X.xe s₂) X.xe s₁) X.xe s:=by
 refine thn (ha pins s σ H _ I h) λv s1 b_=>?_;obtain⟨x,H1,I1,r1,q1⟩:=b_;refine thn (hb pins s1 σ H1 _ I1 q1) λu s2 b_=>?_;obtain⟨y,H2,I2,r2,q2⟩:=b_;exact hf v u s2 x y H2 I2 r1 r2 q2
def iS{op:QS}{r:R2}(ho:OpR X (PR op) r)(ha:PE X a ta)(hb:PE X b tb):PE X (.BinOp a op b pos) (tOp r ta tb):=by
 intro pins s σ H Q I h;exact wpAny_BinOp (binT ha hb I h λv u s2 x y H2 I2 rx ry q=>ho pins s2 σ H2 x y v u Q I2 rx ry q)
def tZ{op:UnaryOp}{r:V->Hp->VK->Prop}(ho:UnR X (unaryOp op) r)(ha:PE X a ta):PE X (.UnaryOp op a pos) (tUn r ta):=by
 intro pins s σ H Q I h;exact UnaryOp_ (thn (ha pins s σ H _ I h) λv s1 ⟨x,H1,I1,r1,q1⟩=>ho pins s1 σ H1 x v Q I1 r1 q1)
variable{g:Int->Int->Int}
def opI{C:Int->Int->Prop}
  (rule:∀(i j:Int) (t u:Tok) (s:KB) (Q:GT->KB->Prop) (E:GT->KB->Prop),C i j->Q (.int (g i j) s.toks) {s with toks:=s.toks+1}->Px (Pt X.prog X.w) X.A (f (.int i t) (.int j u)) Q E s):
  OpR X f (rI C λi j=>.int (g i j)):=by
 intro pins s σ H x y v u Q I rx ry h;obtain⟨i,j,rfl,rfl,hc,q⟩:=h;obtain⟨t,rfl⟩:=rx;obtain⟨t',rfl⟩:=ry;exact rule i j t t' s _ _ hc #[.int (g i j),H,I.tok _,#[_,rfl],q]
def opI0
  (rule:∀(i j:Int) (t u:Tok) (s:KB) (Q:GT->KB->Prop) (E:GT->KB->Prop),Q (.int (g i j) s.toks) {s with toks:=s.toks+1}->Px (Pt X.prog X.w) X.A (f (.int i t) (.int j u)) Q E s):
  OpR X f (rI0 λi j=>.int (g i j)):=by
 intro pins s σ H x y v u Q I rx ry h;obtain⟨i,j,rfl,rfl,q⟩:=h;obtain⟨t,rfl⟩:=rx;obtain⟨t',rfl⟩:=ry;exact rule i j t t' s _ _ #[.int (g i j),H,I.tok _,#[_,rfl],q]
def opB0{g:Int->Int->Bool}
  (rule:∀(i j:Int) (t u:Tok) (s:KB) (Q:GT->KB->Prop) (E:GT->KB->Prop),Q (.bool (g i j)) s->Px (Pt X.prog X.w) X.A (f (.int i t) (.int j u)) Q E s):
  OpR X f (rI0 λi j=>.bl (g i j)):=by
 intro pins s σ H x y v u Q I rx ry h;obtain⟨i,j,rfl,rfl,q⟩:=h;obtain⟨t,rfl⟩:=rx;obtain⟨t',rfl⟩:=ry;exact rule i j t t' s _ _ #[.bl (g i j),H,I,rfl,q]
def CDiv(i j:Int):Prop:=0<j/\j<1073741824
def CMul(i j:Int):Prop:=(-(2^64)<i/\i<2^64)\/(-(2^64)<j/\j<2^64)
def CMul.ok{i j:Int}(h:CMul i j):IntMulOk i j:=by
 rcases h with⟨h1,h2⟩|⟨h1,h2⟩
 .exact .of_left (intBits_le_64 h1 h2)
 .exact .of_right (intBits_le_64 h1 h2)
def ub:OpR X (PR .Add) (rI0 λi j=>.int (i+j)):=opI0 λ_ _ _ _ _ _ _ q=>add_int q
def oh:OpR X (PR .Sub) (rI0 λi j=>.int (i-j)):=opI0 λ_ _ _ _ _ _ _ q=>sub_int q
def oi:OpR X (PR .Mult) (rI CMul λi j=>.int (i*j)):=opI λ_ _ _ _ _ _ _ hc q=>mul_int q hc.ok
def uc:OpR X (PR .FloorDiv) (rI CDiv λi j=>.int (i/j)):=opI λi j _ _ _ _ _ hc q=>by
 have h1:(0:Int)<j:=hc.1;have h2:j<1073741824:=hc.2;exact Q1 HN (by rw[FV i HN];exact q) (.inl (PyProof.noPylong_small HN))
def ud:OpR X (PR .Mod) (rI (λ_ j=>0<j) λi j=>.int (i%j)):=opI λi j _ _ _ _ _ hc q=>by
 have h1:(0:Int)<j:=hc;exact mod_int' HN (by rw[Int.fmod_eq_emod_of_nonneg i HN];exact q)
def ue:OpR X (PR .Mod) (rI (λ_ j=>j≠0) λi j=>.int (i.fmod j)):=opI λ_ _ _ _ _ _ _ hc q=>mod_int' hc q
def unI{f:GT->Q5 GT}{g:Int->Int}
  (rule:∀(i:Int) (t:Tok) (s:KB) (Q:GT->KB->Prop) (E:GT->KB->Prop),Q (.int (g i) s.toks) {s with toks:=s.toks+1}->Px (Pt X.prog X.w) X.A (f (.int i t)) Q E s):
  UnR X f (rU λi=>.int (g i)):=by
 intro pins s σ H x v Q I rx h;obtain⟨i,rfl,q⟩:=h;obtain⟨t,rfl⟩:=rx;exact rule i t s _ _ #[.int (g i),H,I.tok _,#[_,rfl],q]
def uf:UnR X (unaryOp .USub) (rU λi=>.int (-i)):=unI λ_ _ _ _ _ q=>neg_int q
end
def scal:V->V->Bool
 |.non,.non=>true|.non,.int _=>true|.int _,.non=>true|.non,.bl _=>true|.bl _,.non=>true|.non,.str _=>true|.str _,.non=>true
 |.int _,.int _=>true|.bl _,.bl _=>true|.str _,.str _=>true|.byt _,.byt _=>true
 |.int _,.str _=>true|.str _,.int _=>true|.bl _,.str _=>true|.str _,.bl _=>true
 |_,_=>false
def rEq:R2:=λx y H Q=>scal x y=true/\Q (.bl (decide (x=y))) H
def rNe:R2:=λx y H Q=>scal x y=true/\Q (.bl (!decide (x=y))) H
def oj{i j:Int}:decide (V.int i=V.int j)=(i==j):=by
 rw[En];simp
def ol{i j:Bool}:decide (V.bl i=V.bl j)=(i==j):=by
 rw[En];simp
def om{i j:G8}:decide (V.str i=V.str j)=(i==j):=by
 rw[En];simp
def oq{i j:Array UInt8}:decide (V.byt i=V.byt j)=(i.toList==j.toList):=by
 rw[En];cases i;cases j;simp
section
variable {X:Cx}{a b c:Pu}{ta tb tc:TE}{pos:PK}
def aO{pins:List (KF×PX)}{σ:St}{H:Hp}{s:KB}{Q:VK}{k k':Bool}(I:Inv X pins σ H s)(q:Q (.bl k) H)(e:k=k'):EP X pins σ Q (.bool k') s:=by
 subst e;exact#[.bl k,H,I,rfl,q]
def iT:OpR X (PJ .Eq) rEq:=by
 intro pins s σ H x y v u Q I rx ry h;obtain⟨hs,q⟩:=h;cases x with
 |non=>
  cases rx;cases y with
  |non=>cases ry;exact PySem.EqNone.eq_none_none (aO I q HV)
  |bl j=>cases ry;exact PySem.EqNone.eq_none_bool (aO I q HV)
  |int j=>obtain⟨t',rfl⟩:=ry;exact PySem.EqNone.eq_none_int (aO I q HV)
  |str j=>obtain⟨t',rfl⟩:=ry;exact PySem.EqNone.eq_none_str (aO I q HV)
  |_=>exact absurd (show false=true from hs) DK
 |bl i=>
  cases rx;cases y with
  |non=>cases ry;exact PySem.EqNone.eq_bool_none (aO I q HV)
  |bl j=>cases ry;exact eq_bool (aO I q ol)
  |str j=>obtain⟨t',rfl⟩:=ry;exact PySem.EqMixed.eq_bool_str (aO I q HV)
  |_=>exact absurd (show false=true from hs) DK
 |int i=>
  obtain⟨t,rfl⟩:=rx;cases y with
  |non=>cases ry;exact PySem.EqNone.eq_int_none (aO I q HV)
  |int j=>obtain⟨t',rfl⟩:=ry;exact eq_int (aO I q oj)
  |str j=>obtain⟨t',rfl⟩:=ry;exact PySem.EqMixed.eq_int_str (aO I q HV)
  |_=>exact absurd (show false=true from hs) DK
 |str i=>
  obtain⟨t,rfl⟩:=rx;cases y with
  |non=>cases ry;exact PySem.EqNone.eq_str_none (aO I q HV)
  |bl j=>cases ry;exact PySem.EqMixed.eq_str_bool (aO I q HV)
  |int j=>obtain⟨t',rfl⟩:=ry;exact PySem.EqMixed.eq_str_int (aO I q HV)
  |str j=>obtain⟨t',rfl⟩:=ry;exact eq_str (aO I q om)
  |_=>exact absurd (show false=true from hs) DK
 |byt i=>
  obtain⟨t,rfl⟩:=rx;cases y with
  |byt j=>obtain⟨t',rfl⟩:=ry;exact eq_bytes (aO I q oq)
  |_=>exact absurd (show false=true from hs) DK
 |_=>cases y<;>exact absurd (show false=true from hs) DK
def uh:OpR X (PJ .NotEq) rNe:=by
 intro pins s σ H x y v u Q I rx ry h;obtain⟨hs,q⟩:=h;cases x with
 |non=>
  cases rx;cases y with
  |non=>cases ry;exact PySem.EqNone.ne_none_none (aO I q HV)
  |bl j=>cases ry;exact PySem.EqNone.ne_none_bool (aO I q HV)
  |int j=>obtain⟨t',rfl⟩:=ry;exact PySem.EqNone.ne_none_int (aO I q HV)
  |str j=>obtain⟨t',rfl⟩:=ry;exact PySem.EqNone.ne_none_str (aO I q HV)
  |_=>exact absurd (show false=true from hs) DK
 |bl i=>
  cases rx;cases y with
  |non=>cases ry;exact PySem.EqNone.ne_bool_none (aO I q HV)
  |bl j=>cases ry;exact ne_bool (aO I q (congrArg not ol))
  |str j=>obtain⟨t',rfl⟩:=ry;exact PySem.EqMixed.ne_bool_str (aO I q HV)
  |_=>exact absurd (show false=true from hs) DK
 |int i=>
  obtain⟨t,rfl⟩:=rx;cases y with
  |non=>cases ry;exact PySem.EqNone.ne_int_none (aO I q HV)
  |int j=>obtain⟨t',rfl⟩:=ry;exact ne_int (aO I q (congrArg not oj))
  |str j=>obtain⟨t',rfl⟩:=ry;exact PySem.EqMixed.ne_int_str (aO I q HV)
  |_=>exact absurd (show false=true from hs) DK
 |str i=>
  obtain⟨t,rfl⟩:=rx;cases y with
  |non=>cases ry;exact PySem.EqNone.ne_str_none (aO I q HV)
  |bl j=>cases ry;exact PySem.EqMixed.ne_str_bool (aO I q HV)
  |int j=>obtain⟨t',rfl⟩:=ry;exact PySem.EqMixed.ne_str_int (aO I q HV)
  |str j=>obtain⟨t',rfl⟩:=ry;exact ne_str (aO I q (congrArg not om))
  |_=>exact absurd (show false=true from hs) DK
 |byt i=>
  obtain⟨t,rfl⟩:=rx;cases y with
  |byt j=>obtain⟨t',rfl⟩:=ry;exact ne_bytes (aO I q (congrArg not oq))
  |_=>exact absurd (show false=true from hs) DK
 |_=>cases y<;>exact absurd (show false=true from hs) DK
def iU:OpR X (PJ .Lt) (rI0 λi j=>.bl (decide (i<j))):=opB0 λ_ _ _ _ _ _ _ q=>lt_int q
def ui:OpR X (PJ .LtE) (rI0 λi j=>.bl (decide (i<=j))):=opB0 λ_ _ _ _ _ _ _ q=>le_int q
def ot:OpR X (PJ .Gt) (rI0 λi j=>.bl (decide (j<i))):=opB0 λ_ _ _ _ _ _ _ q=>gt_int q
def uj:OpR X (PJ .GtE) (rI0 λi j=>.bl (decide (j<=i))):=opB0 λ_ _ _ _ _ _ _ q=>ge_int q
def uk:OpR X (PJ .In) (λx y H Q=>∃i j,x=.str i/\y=.str j/\Q (.bl (!(Builtin.Str.occurrences j i 0 j.length 1).isEmpty)) H):=by
 intro pins s σ H x y v u Q I rx ry h;obtain⟨i,j,rfl,rfl,q⟩:=h;obtain⟨t,rfl⟩:=rx;obtain⟨t',rfl⟩:=ry;exact in_str (aO I q rfl)
def ou:OpR X (PJ .Is) (λx y H Q=>y=.non/\Q (.bl (decide (x=.non))) H):=by
 intro pins s σ H x y v u Q I rx ry h;obtain⟨rfl,q⟩:=h;cases ry;refine is_none_gen (aO I q ?_);cases x<;>first
  |(cases rx;rfl)
  |(obtain⟨t,rfl⟩:=rx;rfl)
variable{r:R2}
def OpR.or{f:GT->GT->Q5 GT}{r':R2}(h:OpR X f r)(h':OpR X f r'):OpR X f (λx y H Q=>r x y H Q\/r' x y H Q):=by
 intro pins s σ H x y v u Q I rx ry q;rcases q with q|q
 .exact h pins s σ H x y v u Q I rx ry q
 .exact h' pins s σ H x y v u Q I rx ry q
variable{op:Rn}
def nomark(b:Pu)(h:autoParam (op≠.In) zA1)(h2:autoParam (op≠.NotIn) zA1):PQ op b=false:=by
 have e1:(op==CmpOp.In)=false:=by cases op<;>first|rfl|exact absurd rfl h
 have e2:(op==CmpOp.NotIn)=false:=by cases op<;>first|rfl|exact absurd rfl h2
 cases b<;>simp[PQ,e1,e2]
def ul(ho:OpR X (PJ op) r)(ha:PE X a ta)(hb:PE X b tb)(hm:PQ op b=false):PE X (.Compare a [op] [b] pos) (tOp r ta tb):=by
 intro pins s σ H Q I h;exact wpAny_Compare1 (binT ha hb I h λv u s2 x y H2 I2 rx ry q=>ho pins s2 σ H2 x y v u Q I2 rx ry q) hm
def um(t:TE):TT:=λσ H Q=>t σ H λx H'=>∃k,x=.bl k/\Q k H'
def gc(ho:OpR X (PJ op) r)(ha:PE X a ta)(hb:PE X b tb)(hm:PQ op b=false):PT X (.Compare a [op] [b] pos) (um (tOp r ta tb)):=by
 intro pins s σ H Q I h;refine wpAny_isTrue_Compare1 (thn (ha pins s σ H _ I h) λv s1 ⟨x,H1,I1,r1,q1⟩=>thn (hb pins s1 σ H1 _ I1 q1) λu s2 ⟨y,H2,I2,r2,q2⟩=>
  thn (ho pins s2 σ H2 x y v u _ I2 r1 r2 q2) λc s3 hh=>?_) hm
 obtain⟨z,H3,I3,r3,k,e,q3⟩:=hh;subst e;cases r3;exact P7 #[H3,I3,q3]
def TruV(K:Dr)(x:V)(H:Hp)(k:Bool):Prop:=
 match x with
 |.non=>k=false
 |.bl b=>k=b
 |.int i=>k=(i !=0)
 |.str y=>y.length<=sizeLine/\k=((y.length:Int) !=0)
 |.byt y=>y.size<=sizeLine/\k=((y.size:Int) !=0)
 |.ref p=>(∃xs,SqL K H p xs/\k=!xs.isEmpty)\/(∃xs,SqT K H p xs/\k=!xs.isEmpty)\/∃a9,H p=u5 (.dK a9)/\k=!a9.isEmpty
 |_=>False
def uo{κ:Type}{a9:List (κ×V)}{vs:List (κ×GT)}(r:KV a9 vs):(!vs.isEmpty)=!a9.isEmpty:=by
 cases r<;>rfl
def isEmpty_of{xs:List V}{its:List GT}(r:Vals xs its):(!its.toArray.isEmpty)=!xs.isEmpty:=by
 cases r<;>simp
def line63:(sizeLine:Nat)<2^63:=by rw[Qq];decide
def uq:TruR X (λx H Q=>∃k,TruV X.K x H k/\Q k H):=by
 intro pins s σ H x v Q I rx h;obtain⟨k,e,q⟩:=h;have hl:=line63;have hs:sizeLine=16777216:=Qq;cases x with
 |non=>
  cases rx;have e':k=false:=e;subst e';exact truthy_none #[H,I,q]
 |bl b=>
  cases rx;have e':k=b:=e;subst e';exact P7 #[H,I,q]
 |int i=>
  obtain⟨t,rfl⟩:=rx;have e':k=(i !=0):=e;subst e';exact PySem.P.truthy_int #[H,I,q]
 |str y=>
  obtain⟨t,rfl⟩:=rx;obtain⟨hy,e'⟩:y.length<=sizeLine/\k=((y.length:Int) !=0):=e;subst e';exact PySem.P.truthy_str HN #[H,I.tok _,q]
 |byt y=>
  obtain⟨t,rfl⟩:=rx;obtain⟨hy,e'⟩:y.size<=sizeLine/\k=((y.size:Int) !=0):=e;subst e';exact truthy_bytes HN #[H,I.tok _,q]
 |ref p=>
  cases rx;have e':(∃xs,SqL X.K H p xs/\k=!xs.isEmpty)\/(∃xs,SqT X.K H p xs/\k=!xs.isEmpty)\/∃a9,H p=u5 (.dK a9)/\k=!a9.isEmpty:=e;rcases e' with⟨xs,hx,e'⟩|⟨xs,hx,e'⟩|⟨a9,hx,e'⟩
  .subst e';obtain⟨its,r,pl,hz⟩:=I.list hx;have b8:=r.length;exact wpAny_truthy_list pl.isList (by simp only[Dz];lia) #[H,I.tok _,by rw[isEmpty_of r];exact q]
  .subst e';obtain⟨its,r,pl,hz⟩:=I.tuple hx;have b8:=r.length;exact truthy_tuple pl (by simp only[Dz];lia) #[H,I.tok _,by rw[isEmpty_of r];exact q]
  .subst e';obtain⟨hz,hS,vs,r,m⟩:a9.length<=sizeLine/\(p==P5)=false/\∃vs,KV a9 vs/\s.heap.DictOf (cg X.prog X.w) p vs:=I.hok p _ hx;have b8:a9.length=vs.length:=Paired.length r;exact wpAny_truthy_dict hS m HN #[H,I.tok _,by rw[uo r];exact q]
 |_=>exact(show False from e).elim
def ow(ha:PE X a ta)(he:∀f9,isTrue a X.env f9=(do let v <-f9;Qx a.pos;Qy [v] (truthy v))):
  PT X a (λσ H Q=>ta σ H λx H'=>∃k,TruV X.K x H' k/\Q k H'):=by
 intro pins s σ H Q I h;exact isTrue_plain (thn (ha pins s σ H _ I h) λv s1 ⟨x,H1,I1,r1,q1⟩=>uq pins s1 σ H1 x v Q I1 r1 q1) (he _)
def ut:OpR X (PR .Add) (λx y H Q=>∃i j,x=.str i/\y=.str j/\i.length+j.length<=sizeLine/\Q (.str (i++j)) H):=by
 intro pins s σ H x y v u Q I rx ry h;obtain⟨i,j,rfl,rfl,hz,q⟩:=h;obtain⟨t,rfl⟩:=rx;obtain⟨t',rfl⟩:=ry;exact add_str (λt' tk=>#[.str (i++j),H,I.tok _,#[_,rfl],q]) hz
def uu:OpR X (inplaceOp .Add) (λx y H Q=>∃i j,x=.str i/\y=.str j/\i.length+j.length<=sizeLine/\Q (.str (i++j)) H):=by
 intro pins s σ H x y v u Q I rx ry h;obtain⟨i,j,rfl,rfl,hz,q⟩:=h;obtain⟨t,rfl⟩:=rx;obtain⟨t',rfl⟩:=ry;exact iadd_str (λt' tk=>#[.str (i++j),H,I.tok _,#[_,rfl],q]) hz
variable{us:List GT}
def bY{x:V}(r:Vals [x] us):∃u,us=[u]/\RelV x u:=by
 cases r with
 |cons r1 r2=>cases r2;exact#[_,rfl,r1]
def iV{x y:V}(r:Vals [x,y] us):∃u w',us=[u,w']/\RelV x u/\RelV y w':=by
 cases r with
 |cons r1 r2=>
  cases r2 with
  |cons r3 r4=>cases r4;exact#[_,_,rfl,r1,r3]
def uw:bM X (.builtin "abs") (λxs H Q=>∃i,xs=[.int i]/\Q (.int (if i<0 then -i else i)) H):=by
 intro pins s σ H xs us Q I r h;obtain⟨i,rfl,q⟩:=h;obtain⟨u,rfl,t,rfl⟩:=bY r;exact call_abs_int λu tk=>#[.int (if i<0 then -i else i),H,I.tok _,#[_,rfl],q]
def ux(hc:X.calm=true):bM X (.builtin "max") (λxs H Q=>∃i j,xs=[.int i,.int j]/\Q (.int (if j>i then j else i)) H):=by
 intro pins s σ H xs us Q I r h;obtain⟨i,j,rfl,q⟩:=h;obtain⟨u,w',rfl,⟨t,rfl⟩,⟨t',rfl⟩⟩:=iV r;refine max_two_ints (I.ok.hd hc) λh' tk k=>#[_,H,I.kept k,?_,q];by_cases hj:j>i
 .rw[if_pos hj,if_pos hj];exact#[_,rfl]
 .rw[if_neg hj,if_neg hj];exact#[_,rfl]
def uy:bM X (.type "int") (λxs H Q=>(∃i,xs=[.int i]/\Q (.int i) H)\/∃k,xs=[.bl k]/\Q (.int (if k then 1 else 0)) H):=by
 intro pins s σ H xs us Q I r h;rcases h with⟨i,rfl,q⟩|⟨k,rfl,q⟩
 .obtain⟨u,rfl,t,rfl⟩:=bY r;exact call_int_int #[.int i,H,I,#[_,rfl],q]
 .obtain⟨u,rfl,r1⟩:=bY r;cases r1;exact call_int_bool #[.int (if k then 1 else 0),H,I.tok _,#[_,rfl],q]
def uz:bM X (.type "str") (λxs H Q=>∃i,xs=[.int i]/\i.natAbs.log2<1920/\Q (.str (toString i)) H):=by
 intro pins s σ H xs us Q I r h;obtain⟨i,rfl,hz,q⟩:=h;obtain⟨u,rfl,t,rfl⟩:=bY r;exact PySem.P.str_of_int hz #[.str _,H,I.tok _,#[_,rfl],q]
def LenV(K:Dr)(x:V)(H:Hp)(n:Nat):Prop:=
 match x with
 |.str y=>y.length<=sizeLine/\n=y.length
 |.byt y=>y.size<=sizeLine/\n=y.size
 |.ref p=>(∃xs,SqL K H p xs/\n=xs.length)\/∃xs,SqT K H p xs/\n=xs.length
 |_=>False
def gf:bM X (.builtin "len") (λxs H Q=>∃x n,xs=[x]/\LenV X.K x H n/\Q (.int n) H):=by
 intro pins s σ H xs us Q I r h;obtain⟨x,n,rfl,e,q⟩:=h;obtain⟨u,rfl,rx⟩:=bY r;have hl:=line63;have hs:sizeLine=16777216:=Qq;cases x with
 |str y=>
  obtain⟨t,rfl⟩:=rx;obtain⟨hy,e'⟩:y.length<=sizeLine/\n=y.length:=e;subst e';exact len_str HN #[.int _,H,I.tok _,#[_,rfl],q]
 |byt y=>
  obtain⟨t,rfl⟩:=rx;obtain⟨hy,e'⟩:y.size<=sizeLine/\n=y.size:=e;subst e';exact len_bytes HN #[.int _,H,I.tok _,#[_,rfl],q]
 |ref p=>
  cases rx;have e':(∃xs,SqL X.K H p xs/\n=xs.length)\/∃xs,SqT X.K H p xs/\n=xs.length:=e;rcases e' with⟨xs,hx,e'⟩|⟨xs,hx,e'⟩
  .subst e';obtain⟨its,r',pl,hz⟩:=I.list hx;have b8:=r'.length;exact Calls.call_len_list pl.isList (by simp only[Dz];lia) #[.int xs.length,H,I.tok _,#[_,by simp only[Dz];rw[b8]],q]
  .subst e';obtain⟨its,r',pl,hz⟩:=I.tuple hx;have b8:=r'.length;exact len_tuple pl (by simp only[Dz];lia) #[.int xs.length,H,I.tok _,#[_,by simp only[Dz];rw[b8]],q]
 |_=>exact(show False from e).elim
end
structure ObjM(h:Heap)(x dx C:KF)(mA:Str->Option GT):Prop where
 obj:h.get? x=u5 (instObj C dx)
 ns:h.Ns1 dx mA
 ne:dx≠x
variable{mA:G8->Option GT}
def oy{dx:KF}(n:h.Ns1 dx mA):∃od,h.get? dx=u5 od/\∀name,lookIn name od=u5 (mA name):=by
 obtain⟨o,es,ep,ho,hd,hk,_,hm⟩:=n;refine#[o,ho,λname=>?_];have e:=hm name;unfold nsFind findBy at e;rw[<-Array.find?_toList]at e;unfold lookIn;rw[hd];dsimp only;split
 .rename_i y q;rw[q]at e;exact congrArg u5 e
 .rename_i q;rw[q]at e;have a:es.toList.any (·.refKey)=false:=by
   rw[List.any_eq_false];intro y hy;obtain⟨z,t,o8⟩:=hk y (Array.mem_toList_iff.mp hy);simp[DictEntry.refKey,o8]
  have a':¬es.toList.any (·.refKey)=true:=by rw[a];exact DK
  rw[if_neg a'];exact congrArg u5 e
variable{C:KF}
def ObjM.look{x dx:KF}(I:ObjM h x dx C mA):∃od,PySem.W.InstAt h x (instObj C dx) C (u5 od)/\∀name,lookIn name od=u5 (mA name):=
 let ⟨od,ho,hl⟩:=oy I.ns
 #[od,#[I.obj,rfl,rfl,ho],hl]
section
variable {prog:Pw}{w:Pz}{A:PB}{E:GT->KB->Prop}{s:KB}{K:Dr}{x dx C f:KF}{mA:G8->Option GT}{name:G8}{v:GT}
def va{u9:Bool}{Q:GT->KB->Prop}(X:K.In s.heap)(I:ObjM s.heap x dx C mA)(hg:plainGet K C name=true)(hh:hasDictIn K C=true)
  (ha:DD K (.ref C) name=u5 A') (hv:mA name=u5 v) (Ng:FW v=true) (h:Q v {s with toks:=s.toks+1}):
  Px (Pt prog w) A (Q0 (.ref x) name u9) Q E s:=by
 obtain⟨od,J,hl⟩:=I.look;exact get_value X J (plainGet_of hg).1 (findObj_own hh ha rfl (by rw[hl,hv])) Ng h
def vb{pl:Q5 Bool}{Q:GT×List GT->KB->Prop}(X:K.In s.heap)(I:ObjM s.heap x dx C mA)(hg:plainGet K C name=true)
  (hf:DD K (.ref C) name=u5 (u5 (.ref f))) (ht:isFn K (.ref f)=true) (hv:mA name=A') (h:Q (.ref f,[.ref x]) s):
  Px (Pt prog w) A (QI (.ref x) name pl) Q E s:=by
 obtain⟨od,J,hl⟩:=I.look;exact method_fn X J (plainGet_of hg).1 (plainGet_of hg).2 hf (beq_iff_eq.mp ht) (by show(lookIn name od).map (·.isSome)=u5 false;rw[hl,hv];rfl) h
def vc{ns:List G8}{Q:Unit->KB->Prop}(X:K.In s.heap)(I:ObjM s.heap x dx C mA)
  (hs:DD K (.ref C) "__setattr__"=u5 (u5 (.builtin "object.__setattr__"))) (hp:plainOver K C=true) (ht:takerIn K C name=u5 A') (hh:hasDictIn K C=true)
  (hw:PySem.Within mA ns) (j3:ns.length<=sizeLine)
  (h:∀h',ObjM h' x dx C (λy=>if y=name then u5 v else mA y)->Heap.SameBut dx s.heap h'->Q () {s with heap:=h',toks:=s.toks+2}):
  Px (Pt prog w) A (setAttr (.ref x) name v) Q E s:=by
 obtain⟨od,J,hl⟩:=I.look;refine PySem.W.set_plain X J hs (osa_open (s:={s with toks:=s.toks+1}) (r:=A') X J hp ht λb=>?_);obtain⟨cd,hc,i6⟩:=any_some hh;have hx:s.heap.get? x=u5 #[.ref C,u5 dx,.plain,[].toArray]:=I.obj;refine KM (Pi (KM (KM (wpAny_loadPart hx (KM (PySem.W.Looks.here (s:={s with toks:=s.toks+1}) (PySem.W.looks_clsIn X hc) ?_))))));rw[i6];refine Pi (a:=u5 dx) (KM (Pi (KM ?_)));refine wpAny_nsSet1 (s:={s with toks:=s.toks+1}) I.ns λh' y' g6=>?_;obtain⟨oD,Nh,Ni,JW,JX,JY⟩:=y'.count (PySem.Within.cons name v hw);refine KM (wpAny_lookBehind JW (by rw[JX];exact pastItsLine_dict (Dy JY (by rw[Du];lia))) ?_);exact Pi (h _ #[(g6.2 _ (Ne.symm I.ne)).trans I.obj,y',I.ne] g6)
def vd{R:Result->KB->Prop}{vs:List GT}{kw:List (G8×GT)}(X:K.In s.heap)(hm:makesIn K C=true)
  (hi:DD K (.ref C) "__init__"=u5 (u5 (.ref f))) (hf:PySem.W.typeIn K (.ref f)=u5 (.type "function"))
  (h:Qz (Pt prog w) (A.under (.builtin "type.__call__" #[.ref C::vs,kw])) (.call (.ref f) #[.ref (s.heap.objs.size+1)::vs,kw]) (InitBack (s.heap.objs.size+1) R)
   {s with heap:=(s.heap.push emptyDict).push (instObj C s.heap.objs.size)}):
  Qz (Pt prog w) A (.call (.ref C) #[vs,kw]) R s:=by
 obtain⟨hh,g,d,t,os⟩:=s;exact make_core (makes_of X hm) (PySem.W.looks_findIn X hi) (λself=>PySem.W.bind_fn X self hf) (.inl rfl) h
end
def putF(f:G8)(v:V):List (G8×V)->List (G8×V)
 |[]=>[(f,v)]
 |(g,x)::r=>if g=f then(g,v)::r else(g,x)::putF f v r
def oz(f g:G8)(v:V):∀fs:List (G8×V),(putF f v fs).lookup g=if g=f then u5 v else fs.lookup g
 |[]=>by
  show Ew g [(f,v)]=_;by_cases h:g=f
  .have hb:(g==f)=true:=beq_iff_eq.mpr h;simp only[Ew,hb,if_pos h]
  .have hb:(g==f)=false:=beq_eq_false_iff_ne.mpr h;simp only[Ew,hb,if_neg h]
 |(k,x)::r=>by
  have ih:=oz f g v r;rw[show putF f v ((k,x)::r)=(if k=f then(k,v)::r else(k,x)::putF f v r)from rfl];by_cases hk:k=f
  .rw[if_pos hk];by_cases h:g=k
   .have hb:(g==k)=true:=beq_iff_eq.mpr h;simp only[Ew,hb,if_pos (h.trans hk)]
   .have hb:(g==k)=false:=beq_eq_false_iff_ne.mpr h;simp only[Ew,hb,if_neg (λe:g=f=>h (e.trans hk.symm))]
  .rw[if_neg hk];by_cases h:g=k
   .have hb:(g==k)=true:=beq_iff_eq.mpr h;simp only[Ew,hb,if_neg (λe:g=f=>hk (h.symm.trans e))]
   .have hb:(g==k)=false:=beq_eq_false_iff_ne.mpr h;simp only[Ew,hb];exact ih
def iW(f:G8)(v:V):∀fs:List (G8×V),f∈(putF f v fs).map (·.1)/\∀g,g∈fs.map (·.1)->g∈(putF f v fs).map (·.1)
 |[]=>#[by simp[putF],λg h=>by simp at h]
 |(k,x)::r=>by
  obtain⟨i1,i2⟩:=iW f v r;rw[show putF f v ((k,x)::r)=(if k=f then(k,v)::r else(k,x)::putF f v r)from rfl];by_cases hk:k=f
  .rw[if_pos hk];subst hk;exact#[HV,λg h=>by simpa using h]
  .rw[if_neg hk];refine#[?_,λg h=>?_]
   .rw[DZ];exact Dx _ i1
   .rw[DZ]at h ⊢;rcases Dw.mp h with e|e
    .exact Dw.mpr (.inl e)
    .exact Dx _ (i2 g e)
def oA(f:G8)(v:V):∀fs:List (G8×V),(putF f v fs).length<=fs.length+1
 |[]=>by simp[putF]
 |(k,x)::r=>by
  have ih:=oA f v r;rw[show putF f v ((k,x)::r)=(if k=f then(k,v)::r else(k,x)::putF f v r)from rfl];by_cases hk:k=f
  .rw[if_pos hk,Du,Du];lia
  .rw[if_neg hk,Du,Du];lia
def RelO.some_of{v:V}{o:Option GT}(r:RelO (u5 v) o):∃u,o=u5 u/\RelV v u:=by
 cases o with
 |none=>exact(show False from r).elim
 |some u=>exact#[u,rfl,r]
def RelO.none_of{o:Option GT}(r:RelO A' o):o=none:=by
 cases o with
 |none=>rfl
 |some u=>exact(show False from r).elim
def oB{v:V}(r:RelV v u):FW u=true:=by
 cases v with
 |non=>cases(show u=Value.none from r);rfl
 |bl b=>cases(show u=Value.bool b from r);rfl
 |int i=>obtain⟨t,e⟩:=(show ∃t,u=Value.int i t from r);cases e;rfl
 |str x=>obtain⟨t,e⟩:=(show ∃t,u=Value.str x t from r);cases e;rfl
 |byt b=>obtain⟨t,e⟩:=(show ∃t,u=Value.bytes b t from r);cases e;rfl
 |flt b=>obtain⟨t,e⟩:=(show ∃t,u=Value.float b t from r);cases e;rfl
 |ref a=>cases(show u=Value.ref a from r);rfl
 |ty n=>cases(show u=Value.type n from r);rfl
section
variable {P:Pw}{w:Pz}{H H':Hp}{h h':Heap}{a C dx:KF}{fs m6:List (G8×V)}
def gh(hok:HOk P w H h)(e:H a=u5 (.ins C dx fs)):∃mA,ObjM h a dx C mA/\(∀f,RelO (fs.lookup f) (mA f))/\PySem.Within mA (fs.map (·.1))/\fs.length<=1000/\H dx=u5 (.own a):=by
 obtain⟨d,z,ne,ob,mA,n,r,q⟩:=(show ObjOk P w H h a (.ins C dx fs)from hok a _ e);exact#[mA,#[ob,n,ne],r,q,z,d]
end
structure Cls(K:Dr)(C:KF):Prop where
 pg:plainGet K C Str.empty=true
 hd:hasDictIn K C=true
 po:plainOver K C=true
 sa:DD K (.ref C) "__setattr__"=u5 (u5 (.builtin "object.__setattr__"))
def Cls.get(c:Cls K C)(f:G8):plainGet K C f=true:=c.pg
def NoAttr(K:Dr)(C:KF)(f:G8):Prop:=DD K (.ref C) f=u5 A'
def NoAttr.taker{f:G8}(n:NoAttr K C f):takerIn K C f=u5 none:=by
 unfold takerIn;rw[show DD K (.ref C) f=u5 A' from n];rfl
structure Meth(K:Dr)(C:KF)(m:Str)(f:KF):Prop where
 at_:DD K (.ref C) m=u5 (u5 (.ref f))
 fn:isFn K (.ref f)=true
 kp:keepIn K (.ref f)=true
section
variable {X:Cx}{pins:List (KF×PX)}{σ:St}{H:Hp}{s:KB}{a C dx:KF}{fs:List (G8×V)}{f:G8}{v:V}{A:PB}{E:GT->KB->Prop}
variable{Q:GT->KB->Prop}
def ve{b:Bool}(I:Inv X pins σ H s)(e:H a=u5 (.ins C dx fs))(c:Cls X.K C)(n:NoAttr X.K C f)(l:fs.lookup f=u5 v)
  (h:∀u s',Inv X pins σ H s'->RelV v u->Q u s'):Px (Pt X.prog X.w) A (Q0 (.ref a) f b) Q E s:=by
 obtain⟨mA,O,r,_,_,_⟩:=gh I.hok e;obtain⟨u,hu,ru⟩:=RelO.some_of (v:=v) (o:=mA f) (by rw[<-l];exact r f);exact va I.kIn O (c.get f) c.hd n hu (oB ru) (h u _ (I.tok _) ru)
def oC{m:G8}{g:KF}{pl:Q5 Bool}{Q:GT×List GT->KB->Prop}(I:Inv X pins σ H s)(e:H a=u5 (.ins C dx fs))(c:Cls X.K C)(k:Meth X.K C m g)(l:fs.lookup m=A')
  (h:Q (.ref g,[.ref a]) s):Px (Pt X.prog X.w) A (QI (.ref a) m pl) Q E s:=by
 obtain⟨mA,O,r,_,_,_⟩:=gh I.hok e;have hn:mA m=none:=RelO.none_of (by rw[<-l];exact r m);exact vb I.kIn O (c.get m) k.at_ k.fn hn h
def vf{y:V}{u:GT}{Q:Unit->KB->Prop}(I:Inv X pins σ H s)(e:H a=u5 (.ins C dx fs))(c:Cls X.K C)(n:NoAttr X.K C f)(hl:fs.length<1000)(ry:RelV y u)
  (h:∀s',Inv X pins σ (upd H a (.ins C dx (putF f y fs))) s'->Q () s'):Px (Pt X.prog X.w) A (setAttr (.ref a) f u) Q E s:=by
 obtain⟨mA,O,r,wi,_,ho⟩:=gh I.hok e;have hz:(fs.map (·.1)).length<=sizeLine:=by rw[DJ,Qq];lia
 refine vc I.kIn O c.sa c.po n.taker c.hd wi hz λh' O' sb=>h _ ?_;have hd:∃o,h'.get? dx=u5 o:=let ⟨o,_,_,e',_⟩:=O'.ns;#[o,e']
 refine I.write (x:=a) (e:=dx) (by rw[e];exact True.intro) (.inr ho) (λb q hb z=>(sb.2 b hb).trans z) hd ?_;refine#[by rw[ao O.ne];exact ho,?_,O.ne,O'.obj,_,O'.ns,λg=>?_,λg hg=>?_]
 .have:=oA f y fs;lia
 .show RelO ((putF f y fs).lookup g) (if g=f then u5 u else mA g);rw[oz];by_cases q:g=f
  .rw[if_pos q,if_pos q];exact ry
  .rw[if_neg q,if_neg q];exact r g
 .by_cases q:g=f
  .rw[q];exact(iW f y fs).1
  .refine(iW f y fs).2 g (wi g λz=>hg ?_);show(if g=f then u5 u else mA g)=A';rw[if_neg q];exact z
def Inv.made(I:Inv X pins σ H s):Inv X pins σ (upd (upd H s.heap.objs.size (.own (s.heap.objs.size+1))) (s.heap.objs.size+1) (.ins C s.heap.objs.size []))
  {s with heap:=(s.heap.push emptyDict).push (instObj C s.heap.objs.size)}:=by
 have e1:(s.heap.push emptyDict).get? s.heap.objs.size=u5 emptyDict:=Heap.get?_push_size s.heap rfl;have e2:((s.heap.push emptyDict).push (instObj C s.heap.objs.size)).get? (s.heap.objs.size+1)=u5 (instObj C s.heap.objs.size):=by
  have:=Heap.get?_push_size (s.heap.push emptyDict) (o:=instObj C s.heap.objs.size) rfl;rwa [Heap.size_push]at this
 have e3:(s.heap.push emptyDict).Ns s.heap.objs.size (λ_=>A'):=#[emptyDict,[].toArray,_,e1,rfl,(λe he=>absurd he HV),λ_=>rfl];have I1:=I.laid (a:=s.heap.objs.size) (o:=.own (s.heap.objs.size+1)) (h':=s.heap.push emptyDict) (t':=s.toks) (λb u q=>Heap.get?_push_of_some _ q) (Dt _) #[_,e1];refine I1.laid (a:=s.heap.objs.size+1) (o:=.ins C s.heap.objs.size []) (t':=s.toks) (λb u q=>Heap.get?_push_of_some _ q) (E1 (Heap.size_push _ _)) ?_;have ne:s.heap.objs.size≠s.heap.objs.size+1:=DF (FX _);refine#[by rw[ao ne,aA],DO _,ne,e2,λ_=>A',(Heap.Ns1.of_empty e3).at λo q=>Heap.get?_push_of_some _ q,λ_=>True.intro,λy hy=>absurd rfl hy]
def attr_of{prog:Pw}{w:Pz}{env:Ql}{e:Pu}{f:G8}{pos:PK}{s:KB}(hb:PF e f env (PM e env)=PM e env)
  (h:Px (Pt prog w) A (PM e env) (λo s₁=>Px (Pt prog w) A (Q0 o f true) Q E s₁) E s):Px (Pt prog w) A (PM (.Attribute e f pos) env) Q E s:=
 Attribute_any_ h (by rw[arm_eval_Attribute,hb])
end
def tFld(K:Dr)(ta:TE)(f:G8):TE:=λσ H Q=>ta σ H λx H1=>∃a C dx fs v,x=.ref a/\H1 a=u5 (.ins C dx fs)/\Cls K C/\NoAttr K C f/\fs.lookup f=u5 v/\Q v H1
def sFld(K:Dr)(ta tv:TE)(f:G8):TS:=λD σ H=>tv σ H λy H1=>ta σ H1 λx H2=>∃a C dx fs,x=.ref a/\H2 a=u5 (.ins C dx fs)/\Cls K C/\NoAttr K C f/\fs.length<1000/\
 D.nx σ (upd H2 a (.ins C dx (putF f y fs)))
section
variable {X:Cx}{o e value:Pu}{f:G8}{pos c_ HM:PK}{ta tv:TE}
def vg(he:PE X e ta)(hb:PF e f X.env (PM e X.env)=PM e X.env):PE X (.Attribute e f pos) (tFld X.K ta f):=by
 intro pins s σ H Q I h;refine attr_of hb (thn (he pins s σ H _ I h) λu s1 b_=>?_);obtain⟨x,H1,I1,rx,a,C,dx,fs,v,ex,ea,c,n,l,q⟩:=b_;subst ex;obtain rfl:u=Value.ref a:=rx;exact ve I1 ea c n l λu' s2 I2 ru=>#[v,H1,I2,ru,q]
def oE(ha:PE X o ta)(hv:PE X value tv)(hs:PV value (u5 (.Attribute o f c_)) pos.line X.env=pure false):PS X (.Assign [.Attribute o f c_] value pos) (sFld X.K ta tv f):=by
 intro pins s σ H D I h;refine QG (thn (hv pins s σ H _ I h) λu s1 ⟨y,H1,I1,ry,q⟩=>thn (ha pins s1 σ H1 _ I1 q) λov s2 hh=>?_) hs;obtain⟨x,H2,I2,rx,a,C,dx,fs,ex,ea,c,n,l,q2⟩:=hh;subst ex;obtain rfl:ov=Value.ref a:=rx;exact vf I2 ea c n l ry λs3 I3=>#[σ,_,I3,q2]
end
section
variable {X:Cx}{pins:List (KF×PX)}{σ:St}{H:Hp}{s:KB}{A:PB}{E:GT->KB->Prop}{Q:GT->KB->Prop}{c:GT}{b:Bool}
inductive TyOf(K:Dr)(H:Hp):V->GT->Prop where
 |non:TyOf K H .non (.type "NoneType")
 |bl (x:Bool):TyOf K H (.bl x) (.type "bool")
 |int (i:Int):TyOf K H (.int i) (.type "int")
 |str (x:Str):TyOf K H (.str x) (.type "str")
 |flt (x:UInt64):TyOf K H (.flt x) (.type "float")
 |lst {a:KF} {xs:List V} (e:H a=some (.lst xs)):TyOf K H (.ref a) (.type "list")
 |frz {a:KF} {o:PX} {xs:List V} (e:H a=some (.frz o (.lst xs))):TyOf K H (.ref a) (.type "list")
 |tup {a:KF} {xs:List V} (e:H a=some (.tup xs)):TyOf K H (.ref a) (.type "tuple")
 |dK {a:KF} {a9:List (Key×V)} (e:H a=some (.dK a9)):TyOf K H (.ref a) (.type "dict")
 |dT {a:KF} {a9:List (List Key×V)} (e:H a=some (.dT a9)):TyOf K H (.ref a) (.type "dict")
 |ins {a C dx:KF} {fs:List (Str×V)} (e:H a=some (.ins C dx fs)) (cl:Cls K C) (ha:DD K (.ref C) "__class__"=some (some (.builtin "object.__class__")))
   (hn:specialIn K (.builtin "object.__class__") "__get__"=u5 (u5 (.builtin "getset_descriptor.__get__"))) (L_:takesIn K (.builtin "object.__class__")=u5 true)
   (hm:Eo K C (.type "object")=u5 true):TyOf K H (.ref a) (.ref C)
def vh{x:V}{u t:GT}(I:Inv X pins σ H s)(rx:RelV x u)(ty:TyOf X.K H x t)(e:kitOne X.K t c=u5 b)(h:∀tk,Q (.bool b) {s with toks:=tk}):
  Px (Pt X.prog X.w) A (call (.builtin "isinstance") [u,c]) Q E s:=by
 cases ty with
 |non=>cases(show u=Value.none from rx);exact kia_one kitx_none I.kIn True.intro e (λz=>nomatch z) h
 |bl y=>cases(show u=Value.bool y from rx);exact kia_one kitx_bool I.kIn True.intro e (λz=>nomatch z) h
 |int i=>obtain⟨t,q⟩:=(show ∃t,u=Value.int i t from rx);cases q;exact kia_one kitx_int I.kIn True.intro e (λz=>nomatch z) h
 |str y=>obtain⟨t,q⟩:=(show ∃t,u=Value.str y t from rx);cases q;exact kia_one kitx_str I.kIn True.intro e (λz=>nomatch z) h
 |flt y=>obtain⟨t,q⟩:=(show ∃t,u=Value.float y t from rx);cases q;exact kia_one kitx_float I.kIn True.intro e (λz=>nomatch z) h
 |@lst a xs ea=>
  cases(show u=Value.ref a from rx);obtain⟨_,_,n,_,h1⟩:=(show ObjOk X.prog X.w H s.heap a (.lst xs)from I.hok a _ ea);exact kia_one kitx_list I.kIn #[_,h1,rfl] e (λz=>nomatch z) h
 |@frz a ob xs ea=>
  cases(show u=Value.ref a from rx);obtain⟨_,_,_,n,_,h1⟩:=(show ObjOk X.prog X.w H s.heap a (.frz ob (.lst xs))from I.hok a _ ea);exact kia_one kitx_list I.kIn #[_,h1,rfl] e (λz=>nomatch z) h
 |@tup a xs ea=>
  cases(show u=Value.ref a from rx);obtain⟨_,_,_,p⟩:=(show ObjOk X.prog X.w H s.heap a (.tup xs)from I.hok a _ ea);obtain⟨o,h1,h2,_⟩:=p;exact kia_one kitx_tuple I.kIn #[o,h1,h2] e (λz=>nomatch z) h
 |@dK a a9 ea=>
  cases(show u=Value.ref a from rx);obtain⟨_,_,vs,_,p⟩:=(show ObjOk X.prog X.w H s.heap a (.dK a9)from I.hok a _ ea);obtain⟨o,es,ep,h1,h2,_⟩:=p;exact kia_one kitx_dict I.kIn #[o,h1,h2.1] e (λz=>nomatch z) h
 |@dT a a9 ea=>
  cases(show u=Value.ref a from rx);obtain⟨_,_,xs,_,o,es,ep,h1,h2,_⟩:=(show ObjOk X.prog X.w H s.heap a (.dT a9)from I.hok a _ ea);exact kia_one kitx_dict I.kIn #[o,h1,h2.1] e (λz=>nomatch z) h
 |@ins a C dx fs ea cl ha hn L_ hm=>
  cases(show u=Value.ref a from rx);obtain⟨mA,O,_⟩:=gh I.hok ea;obtain⟨od,J,_⟩:=O.look;exact kia_one (kitx_own (cl.get _) cl.hd ha hn L_ hm) I.kIn J e (λz=>nomatch z) h
end
structure Room(k:Nat)(A:PB):Prop where
 hd:A.handled=A'
 dp:A.depth+3*k+5<recursionLimit
 un:A.units+16*k+200<QE
variable{k:Nat}
def Room.mono{j:Nat}(r:Room k A)(h:j<=k):Room j A:=#[r.hd,by have:=r.dp;lia,by have:=r.un;lia]
def Room.deeper(r:Room (k+1) A)(env:Ql):Room k (A.deeper env):=
 #[r.hd,by have:=r.dp;show A.depth+1+3*k+5<_;lia,by have:=r.un;show A.units+3+16*k+200<_;lia]
variable{kw:List (G8×GT)}
def vi:(A.under (.builtin "type.__call__" #[.ref C::us,kw])).depth=A.depth+1:=by
 first|rfl|simp[Around.under,Code.weight,Code.isCreation,Code.isGuard,Code.isCaller,Code.frames,Code.isFrame,guardIds]
def vj:(A.under (.builtin "type.__call__" #[.ref C::us,kw])).units=A.units+1:=by
 first|rfl|simp[Around.under,Code.cUnits,Code.frames,Code.isFrame]
def Room.make(r:Room (k+1) A)(C:KF)(us:List GT)(kw:List (G8×GT)):Room k (A.under (.builtin "type.__call__" #[.ref C::us,kw])):=
 #[r.hd,by have:=r.dp;rw[vi];lia,by have:=r.un;rw[vj];lia]
def Room.depth(r:Room k A):A.depth<recursionLimit:=by have:=r.dp;lia
def Room.units(r:Room k A):A.units+64<QE:=by have:=r.un;lia
def tNil:TA:=λ_ H Q=>Q [] H
def vk(ta:TE)(tr:TA):TA:=λσ H Q=>ta σ H λx H1=>tr σ H1 λxs H2=>Q (x::xs) H2
section
variable {X:Cx}{e:Pu}{es:List Pu}{te:TE}{t:TA}{pos:PK}
def pa_nil:PA X [] tNil:=λ_ _ _ _ H Q I h=>Calls.spliced_nil #[[],H,I,.nil,h]
def bN(ha:PE X e te)(hr:PA X es t)(hs:autoParam (zSE X e es) zA0):PA X (e::es) (vk te t):=by
 intro pos pins s σ H Q I h;rw[hs];show Px _ _ (spliced ((false,PM e X.env)::Qv pos (PD es X.env))) _ _ s;refine Calls.spliced_cons (thn (ha pins s σ H _ I h) λu s1 b_=>?_);obtain⟨x,H1,I1,r1,q1⟩:=b_;exact thn (hr pos pins s1 σ H1 _ I1 q1) λus s2 ⟨xs,H2,I2,r2,q2⟩=>#[x::xs,H2,I2,.cons r1 r2,q2]
def tTup(t:TA):TE:=λσ H Q=>t σ H λxs H1=>xs.length<=sizeLine/\∀p,H1 p=A'->Q (.ref p) (upd H1 p (.tup xs))
def tLst(t:TA):TE:=λσ H Q=>t σ H λxs H1=>xs.length<=sizeLine/\∀p,H1 p=A'->Q (.ref p) (upd H1 p (.lst xs))
def oF{x1}(h:PA X es t):PE X (.Tuple es x1 pos) (tTup t):=by
 intro pins s σ H Q I hq;refine wpAny_Tuple_spliced (thn (h pos pins s σ H _ I hq) λus s1 ⟨xs,H1,I1,r,z,q⟩=>#[by rw[<-r.length];exact z,?_]);have hf:H1 s1.heap.objs.size=none:=I1.hok.fresh (Dt _);refine#[.ref s1.heap.objs.size,upd H1 s1.heap.objs.size (.tup xs),I1.laid (t':=s1.toks) (λb u e=>Heap.get?_push_of_some _ e) (Dt _) ?_,rfl,q _ hf];exact#[z,us,r,#[_,Heap.get?_push_size _ rfl,rfl,_,rfl]]
def iX(h:PA X es t):PE X (.List es pos) (tLst t):=by
 intro pins s σ H Q I hq;refine wpAny_List_spliced (thn (h pos pins s σ H _ I hq) λus s1 ⟨xs,H1,I1,r,z,q⟩=>#[by rw[<-r.length];exact z,?_]);have hf:H1 s1.heap.objs.size=none:=I1.hok.fresh (Dt _);refine#[.ref s1.heap.objs.size,upd H1 s1.heap.objs.size (.lst xs),I1.laid (t':=s1.toks) (λb u e=>Heap.get?_push_of_some _ e) (Dt _) ?_,rfl,q _ hf];exact#[z,us,0,r,Heap.get?_push_size _ rfl]
end
abbrev Sp:=List V->Hp->VK->XK->Prop
abbrev CXT:=List Ql->Hp->KB->XK->GT->KB->Prop
structure Env0(P:Pw)(w:Pz)(K:Dr)(mg:Str->Option GT)(base:Heap)(A:PB)(outer:List Ql)(s:KB)(H:Hp):Prop where
 frames:A.frames=u5 outer
 mod:Mod K mg base
 bs:∀b o,base.get? b=u5 o->s.heap.get? b=u5 o/\H b=A'
 bsz:base.objs.size<=s.heap.objs.size
 funs:s.heap.FunFrames base outer
 frf:∀b∈frs outer,H b=A'
 hok:HOk P w H s.heap
 bare:Qh s.gens
def CE(outer:List Ql)(P:Pw)(w:Pz)(H:Hp)(s:KB)(Q:VK)(u:GT)(s':KB):Prop:=
 ∃v H',s'.os=s.os/\Qh s'.gens/\Un (frs outer) [] H H' s.heap s'.heap/\HOk P w H' s'.heap/\RelV v u/\Q v H'
def CR(CX:CXT)(outer:List Ql)(P:Pw)(w:Pz)(H:Hp)(s:KB)(Q:VK)(E:XK)(r:Result)(s':KB):Prop:=
 match r with
 |.ok (.ret u)=>CE outer P w H s Q u s'
 |.ok _=>False
 |.error e=>CX outer H s E e s'
structure FnOk(P:Pw)(w:Pz)(K:Dr)(mg:Str->Option GT)(base:Heap)(CX:CXT)(k:Nat)(f:KF)(fd:PH)(ps:List Str)(sp:Sp):Prop where
 len:∀vs H Q E,sp vs H Q E->vs.length=ps.length
 run:∀(A:PB) (outer:List Ql) (s:KB) (H:Hp) (args:Args) (us:List GT) (vs:List V) (Q:VK) (E:XK),Room k A->Env0 P w K mg base A outer s H->QF s fd args (ps.zip us)->Vals vs us->sp vs H Q E->
  Qz (Pt P w) A (.call (.ref f) args) (CR CX outer P w H s Q E) s
variable{f:KF}{mg:G8->Option GT}{base:Heap}{CX:CXT}{fd:PH}{ps:List G8}{sp:Sp}
def FnOk.mono{j:Nat}(F:FnOk P w K mg base CX j f fd ps sp)(h:j<=k):
  FnOk P w K mg base CX k f fd ps sp:=#[F.len,λA outer s H args us vs Q E hr=>F.run A outer s H args us vs Q E (hr.mono h)]
def FnOk.imp{G0:Sp}(F:FnOk P w K mg base CX k f fd ps sp)
  (h:∀vs H Q E,G0 vs H Q E->sp vs H Q E):FnOk P w K mg base CX k f fd ps G0:=
 #[λvs H Q E q=>F.len vs H Q E (h _ _ _ _ q),λA outer s H args us vs Q E hr he hb hv hs=>F.run A outer s H args us vs Q E hr he hb hv (h _ _ _ _ hs)]
variable{outer:List Ql}
def Env0.make(e:Env0 P w K mg base A outer s H)(C:KF)(us:List GT)(kw:List (G8×GT)):
  Env0 P w K mg base (A.under (.builtin "type.__call__" #[.ref C::us,kw])) outer s H:=#[by first|exact e.frames|(simpa[Around.under,Code.envs,Code.isFrame,pushEnvs]using e.frames),e.mod,e.bs,e.bsz,e.funs,e.frf,e.hok,e.bare]
section
variable {X:Cx}{pins:List (KF×PX)}{σ:St}{H:Hp}{s s':KB}
def Inv.env0(I:Inv X pins σ H s):Env0 X.prog X.w X.K X.mg X.base X.A X.stack s H:=
 #[I.ok.frames,I.ok.mod,I.bs,Dy I.ok.bsz I.sz,I.stack,I.stkFree,I.hok,I.bare]
def Inv.after{Q:VK}{u:GT}(I:Inv X pins σ H s)(h:CE X.stack X.prog X.w H s Q u s'):EP X pins σ Q u s':=by
 obtain⟨v,H',os,bare,un,hok,r,q⟩:=h;obtain⟨hh,g,d,t,Nj⟩:=s';obtain rfl:Nj=s.os:=os;exact#[v,H',I.call (h':=hh) (g':=g) (d':=d) (t':=t) (ch:=[]) un hok bare (λb z=>absurd z HV),r,q]
end
def iY(sp:Sp)(n8:List V)(E:XK)(t:TA):TE:=λσ H Q=>t σ H λvs H1=>sp (vs++n8) H1 Q E
def vm(C:KF)(sp:Sp)(n8:List V)(E:XK)(t:TA):TE:=λσ H Q=>t σ H λvs H1=>∀x dx,H1 x=A'->H1 dx=A'->dx≠x->
 sp (.ref x::(vs++n8)) (upd (upd H1 dx (.own x)) x (.ins C dx [])) (λv H2=>v=.non/\Q (.ref x) H2) E
def Binds(K:Dr)(fd:PH)(ps:List G8)(ds:List GT):Prop:=
 ∀(s:KB) (us:List GT),K.In s.heap->(us++ds).length=ps.length->QF s fd #[us,[]] (ps.zip (us++ds))
def Binds.all(h:∀us:List GT,us.length=ps.length->Qa fd #[us,[]]=pure (ps.zip us)):Binds K fd ps []:=λs us _ hl=>by
 rw[Ea]at hl ⊢;exact .of_eq (h us hl)
def dU(CX:CXT)(X:Cx)(E:XK):Prop:=∀(pins:List (KF×PX)) (σ:St) (H:Hp) (s:KB) (e:GT) (s':KB),Inv X pins σ H s->CX X.stack H s E e s'->X.xe e s'
section
variable {X:Cx}{CX:CXT}{k:Nat}{f C:KF}{fd:PH}{ps:List G8}{sp:Sp}{n8:List V}{ds:List GT}{E:XK}{x m:G8}{p pos b7:PK}{e o:Pu}{es:List Pu}{ta:TE}{t:TA}
variable{pins:List (KF×PX)}{us:List GT}{vs:List V}
def oG{σ:St}{H:Hp}{s:KB}{Q:VK}(F:FnOk X.prog X.w X.K X.mg X.base CX k f fd ps sp)(hr:Room k X.A)(hb:Binds X.K fd ps ds)(hd:Vals n8 ds)(hx:dU CX X E)
  (I:Inv X pins σ H s) (r:Vals vs us) (h:sp (vs++n8) H Q E):Px (Pt X.prog X.w) X.A (call (.ref f) us) (EP X pins σ Q) X.xe s:=by
 have r2:Vals (vs++n8) (us++ds):=r.append hd;have hl:(us++ds).length=ps.length:=by rw[<-r2.length];exact F.len _ _ _ _ h
 refine Qf (Qe (F.run X.A X.stack s H #[us,[]] (us++ds) (vs++n8) Q E hr I.env0 (hb s us I.kIn hl) r2 h) λr s' hq=>?_);cases r with
 |error e=>exact hx pins σ H s e s' I hq
 |ok fl=>
  cases fl with
  |ret u=>exact I.after hq
  |next=>exact False.elim hq
  |brk=>exact False.elim hq
  |cont=>exact False.elim hq
def vn(F:FnOk X.prog X.w X.K X.mg X.base CX k f fd ps sp)(hr:Room k X.A)(hg:Gl X x)(hm:X.mg x=u5 (.ref f))(hk:keepIn X.K (.ref f)=true)(hb:Binds X.K fd ps ds)(hd:Vals n8 ds)(hx:dU CX X E)
  (ha:PA X (e::es) t) (e_:autoParam (zND x) zA1) (he:autoParam (zSE X e es) zA0) (d0:autoParam (zPL X pos es) zA0):
  PE X (.Call (.Name x p) (e::es) [] pos) (iY sp n8 E t):=by
 intro pins s σ H Q I h;refine PL (cu I hg hm ?_ e_);refine callWith_K (h₀:=X.base) I.ok.mod.kin hk (thn (ha pos pins s σ H _ I h) λus s1 ⟨vs,H1,I1,r,q⟩=>#[I1.kIn,?_]) he d0;exact oG F hr hb hd hx I1 r q
def vo(F:FnOk X.prog X.w X.K X.mg X.base CX k f fd ps sp)(hr:Room k X.A)(hg:Gl X x)(hm:X.mg x=u5 (.ref f))(hk:keepIn X.K (.ref f)=true)(hb:Binds X.K fd ps ds)(hd:Vals n8 ds)(hx:dU CX X E)
  (e_:autoParam (zND x) zA1):PE X (.Call (.Name x p) [] [] pos) (iY sp n8 E tNil):=by
 intro pins s σ H Q I h;refine PL (cu I hg hm ?_ e_);exact callWith_K0 I.kIn hk (oG (us:=[]) F hr hb hd hx I .nil h)
structure Mk(K:Dr)(C f:KF):Prop where
 makes:makesIn K C=true
 init:DD K (.ref C) "__init__"=u5 (u5 (.ref f))
 fn:isFn K (.ref f)=true
 kp:keepIn K (.ref C)=true
def vp{σ:St}{H:Hp}{s:KB}{Q:VK}(M:Mk X.K C f)(F:FnOk X.prog X.w X.K X.mg X.base CX k f fd ps sp)(hr:Room (k+1) X.A)(hb:Binds X.K fd ps ds)(hd:Vals n8 ds)
  (hx:dU CX X E) (I:Inv X pins σ H s) (r:Vals vs us)
  (h:∀x dx,H x=A'->H dx=A'->dx≠x->sp (.ref x::(vs++n8)) (upd (upd H dx (.own x)) x (.ins C dx [])) (λv H2=>v=.non/\Q (.ref x) H2) E):
  Px (Pt X.prog X.w) X.A (call (.ref C) us) (EP X pins σ Q) X.xe s:=by
 have hq:=h (s.heap.objs.size+1) s.heap.objs.size (I.hok.fresh (Ex _)) (I.hok.fresh (Dt _)) (DF (FX _));have I2:=Inv.made (C:=C) I;have r2:Vals (V.ref (s.heap.objs.size+1)::(vs++n8)) (Value.ref (s.heap.objs.size+1)::(us++ds)):=.cons rfl (r.append hd);have hl:(Value.ref (s.heap.objs.size+1)::us++ds).length=ps.length:=by
  have e:=r2.length;rw[F.len _ _ _ _ hq]at e;exact e.symm
 refine Qf (vd (f:=f) I.kIn M.makes M.init (beq_iff_eq.mp M.fn) (Qe (F.run _ X.stack _ _ #[Value.ref (s.heap.objs.size+1)::us,[]] (Value.ref (s.heap.objs.size+1)::(us++ds)) _ _ E (hr.make C us [])
  (I2.env0.make C us []) (hb _ (Value.ref (s.heap.objs.size+1)::us) I2.kIn hl) r2 hq) λr s' u_=>?_))
 cases r with
 |error e=>exact hx pins σ _ _ e s' I2 u_
 |ok fl=>
  cases fl with
  |ret u=>
   obtain⟨v,H',I3,rv,ev,q3⟩:=I2.after u_;subst ev;exact#[rv,#[V.ref (s.heap.objs.size+1),H',I3,rfl,q3]]
  |next=>exact False.elim u_
  |brk=>exact False.elim u_
  |cont=>exact False.elim u_
def iZ(M:Mk X.K C f)(F:FnOk X.prog X.w X.K X.mg X.base CX k f fd ps sp)(hr:Room (k+1) X.A)(hg:Gl X x)(hm:X.mg x=u5 (.ref C))(hb:Binds X.K fd ps ds)(hd:Vals n8 ds)(hx:dU CX X E)
  (ha:PA X (e::es) t) (e_:autoParam (zND x) zA1) (he:autoParam (zSE X e es) zA0) (d0:autoParam (zPL X pos es) zA0):
  PE X (.Call (.Name x p) (e::es) [] pos) (vm C sp n8 E t):=by
 intro pins s σ H Q I h;refine PL (cu I hg hm ?_ e_);refine callWith_K (h₀:=X.base) I.ok.mod.kin M.kp (thn (ha pos pins s σ H _ I h) λus s1 ⟨vs,H1,I1,r,q⟩=>#[I1.kIn,?_]) he d0;exact vp M F hr hb hd hx I1 r q
end
structure FnScope(N P:List Str)(sc:P4):Prop where
 kind:sc.kind=.function
 co:sc.isCoroutine=false
 gen:sc.isGenerator=false
 nd:N.Nodup
 pre:N.take P.length=P
 par:∀x∈P,sc.names.lookup x=u5 .local\/sc.names.lookup x=u5 .cell
 nofree:∀y∈sc.names,y.2≠.free
def oH{kindOf:G8->Option Qb}{x:G8}:∀{binds:List (G8×GT)} {m:G8->Option GT},(∀v,(x,v)∉binds)->QV kindOf binds m x=m x
 |[],_,_=>rfl
 |(n,v)::r,m,h=>by
  unfold QV;rw[oH λw hw=>h w (Dx _ hw)];split
  .have:x≠n:=by rintro rfl;exact h v DC
   simp[this]
  .rfl
def bindC_out{kindOf:G8->Option Qb}{x:G8}:∀{binds:List (G8×GT)} {m:G8->Option GT},(∀v,(x,v)∉binds)->QW kindOf binds m x=m x
 |[],_,_=>rfl
 |(n,v)::r,m,h=>by
  unfold QW;rw[bindC_out λw hw=>h w (Dx _ hw)];split
  .rfl
  .have:x≠n:=by rintro rfl;exact h v DC
   simp[this]
def bindL_get{kindOf:G8->Option Qb}{x:G8}{v:GT}:∀{P:List G8} {vs:List GT} {i:Nat} {m:G8->Option GT},P.Nodup->P[i]?=u5 x->vs[i]?=u5 v->kindOf x=u5 .local->
  QV kindOf (P.zip vs) m x=u5 v
 |[],_,_,_,_,h,_,_=>by simp at h
 |_::_,[],_,_,_,_,h,_=>by simp at h
 |p::P,w::vs,0,m,nd,h1,h2,hk=>by
  simp at h1 h2;subst h1;subst h2;show QV kindOf ((p,w)::P.zip vs) m p=_;unfold QV;rw[oH λv hv=>(Ed.mp nd).1 (Fo hv).1,if_pos hk];simp
 |p::P,w::vs,i+1,m,nd,h1,h2,hk=>by
  show QV kindOf ((p,w)::P.zip vs) m x=_;unfold QV;exact bindL_get (i:=i) (Ed.mp nd).2 (by simpa using h1) (by simpa using h2) hk
def oI{kindOf:G8->Option Qb}{x:G8}{v:GT}:∀{P:List G8} {vs:List GT} {i:Nat} {m:G8->Option GT},P.Nodup->P[i]?=u5 x->vs[i]?=u5 v->kindOf x≠u5 .local->
  QW kindOf (P.zip vs) m x=u5 v
 |[],_,_,_,_,h,_,_=>by simp at h
 |_::_,[],_,_,_,_,h,_=>by simp at h
 |p::P,w::vs,0,m,nd,h1,h2,hk=>by
  simp at h1 h2;subst h1;subst h2;show QW kindOf ((p,w)::P.zip vs) m p=_;unfold QW;rw[bindC_out λv hv=>(Ed.mp nd).1 (Fo hv).1,if_neg hk];simp
 |p::P,w::vs,i+1,m,nd,h1,h2,hk=>by
  show QW kindOf ((p,w)::P.zip vs) m x=_;unfold QW;exact oI (i:=i) (Ed.mp nd).2 (by simpa using h1) (by simpa using h2) hk
def start(N:List G8)(vs:List V):St:=vs.map u5++DG (N.length-vs.length) A'
def cxOf(CX:CXT)(P:Pw)(w:Pz)(K:Dr)(mg:G8->Option GT)(base:Heap)(N:List G8)(qual:G8)(scope:P4)(f:KF)(cd:GT)(A:PB)(outer:List Ql)(s:KB)(H:Hp)(E:XK):Cx where
 prog:=P
 w:=w
 K:=K
 mg:=mg
 base:=base
 A:=A.deeper (PZ qual scope s.heap.objs.size f cd)
 N:=N
 s₀:=s
 H₀:=H
 env:=PZ qual scope s.heap.objs.size f cd
 outer:=outer
 stack:=PZ qual scope s.heap.objs.size f cd::outer
 ex:=[]
 calm:=true
 fn:=λ_=>true
 pn:=[]
 xe:=λe s'=>Px (Pt P w) (A.deeper (PZ qual scope s.heap.objs.size f cd)) (QZ (PZ qual scope s.heap.objs.size f cd) e) (λ_ JZ=>CX outer H s E e JZ) (λe' JZ=>CX outer H s E e' JZ) s'
def cell_has{sc:P4}{n:Nat}{x:G8}(h:sc.names.lookup x=u5 .cell):∃c,(cellsFrom n sc.names []).lookup x=u5 c:=by
 have q:=cellsFrom_some sc.names n [] (.inl h);exact Option.isSome_iff_exists.mp q
variable{N:List G8}{scope:P4}
def vq{qual:G8}{cd:GT}{s1:KB}{E:XK}{vs:List V}
  (S:FnScope N ps scope) (hd:A.handled=A') (e0:Env0 P w K mg base A outer s H) (hl:vs.length=ps.length) (r:Vals vs us)
  (x:InCallC s s.heap.objs.size (QV (PZ qual scope s.heap.objs.size f cd).kindOf (ps.zip us) λ_=>A') (cellsFrom (s.heap.objs.size+1) scope.names []) (QW (PZ qual scope s.heap.objs.size f cd).kindOf (ps.zip us) λ_=>A') s1):
  Inv (cxOf CX P w K mg base N qual scope f cd A outer s H E) [] (start N vs) H s1:=by
 have d0:ps.length<=N.length:=by have:=congrArg EL S.pre;rw[Ep]at this;lia
 obtain⟨h1,tk,rfl,hk⟩:=x.done;have HP:∀b:KF,b∉(cxOf CX P w K mg base N qual scope f cd A outer s H E).ex:=λb z=>absurd (show b∈([]:List KF)from z) HV;refine⟨#[e0.mod,S.kind,rfl,rfl,Dt _,λy z c h1 h2=>?_,λy hy=>?_,λy c _ h=>?_,λ_=>hd,Around.frames_deeper e0.frames,.inr #[rfl,rfl],λb z=>absurd z (HP b),e0.bs,e0.bsz,λb _ _=>HP b,λb z=>absurd z (HP b),e0.funs,e0.frf],
  rfl,e0.bare,Un.kept hk,#[_,x.toInCall.ns,λi y v h1 h2 h3=>?_],λy c h=>#[_,x.cell y c h],e0.hok.fresh (Dt _),λy c h=>?_,λp hp=>absurd (show p∈([]:List (KF×PX))from hp) HV,e0.hok.kept hk,?_⟩
 .exact name_of_addr x.apart (PySem.mem_of_lookup h1) (PySem.mem_of_lookup h2)
 .have hy:scope.names.lookup y=u5 .cell\/scope.names.lookup y=u5 .free:=hy;rcases hy with hy|hy
  .exact cell_has hy
  .exact absurd rfl (S.nofree _ (PySem.mem_of_lookup hy))
 .exact EK (x.above y c (PySem.mem_of_lookup h))
 .have hi:i<vs.length:=by
   unfold start at h2;by_cases hi:i<vs.length
   .exact hi
   .rw[EE (by simpa using hi)]at h2;rw[Fp]at h2;split at h2<;>cases h2
  have ha:vs[i]?=u5 v:=by
   unfold start at h2;rw[Er (by simpa using hi),D4]at h2;cases e:vs[i]? with
   |none=>rw[e]at h2;cases h2
   |some a=>rw[e]at h2;cases h2;rfl
  obtain⟨u,hu,rv⟩:=r.get ha;have hp:ps[i]?=u5 y:=by
   rw[<-S.pre,List.getElem?_take_of_lt HN];exact h1
  have Ma:ps.Nodup:=by rw[<-S.pre];exact S.nd.sublist (List.take_sublist _ _)
  refine#[u,rv,?_];rcases S.par y (EM hp)with k|k
  .exact .inl #[k,bindL_get Ma hp hu k]
  .obtain⟨c,e⟩:=cell_has (n:=s.heap.objs.size+1) k;refine .inr #[.inl k,c,e,?_];have q:=x.cell y c e;rw[oI Ma hp hu (by show scope.names.lookup y≠_;rw[k];decide)]at q;exact q
 .exact e0.hok.fresh (EK (x.above y c (PySem.mem_of_lookup h)))
 .unfold start;show _=N.length;rw[DB,DJ,FY];lia
def vt{name qual:G8}{params:Arguments}{body:List Py}{dV kV doc pm cdv ct oc:GT}{an od:Option KF}
  {osl:Array (Option GT)}   (lk:K.lookup f=u5 #[oc,od,.func (fnOf name qual params body scope dV kV doc pm an cdv ct),osl]) (i8:codeIn K cdv qual=true) (S:FnScope N ps scope)
  (len:∀vs H Q E,sp vs H Q E->vs.length=ps.length)
  (a_:∀(A:PB) (outer:List Ql) (s:KB) (H:Hp) (vs:List V) (Q:VK) (E:XK),Room k (A.deeper (PZ qual scope s.heap.objs.size f cdv))->sp vs H Q E->
   ∃t,PSs (cxOf CX P w K mg base N qual scope f cdv A outer s H E) body t/\t {nx:=λ_ H'=>Q .non H',rt:=Q} (start N vs) H):
  FnOk P w K mg base CX (k+1) f (fnOf name qual params body scope dV kV doc pm an cdv ct) ps sp:=by
 refine#[len,λA outer s H args us vs Q E hr e0 hb r v3=>?_];have hl:=len _ _ _ _ v3;have KX:K.In s.heap:=e0.mod.kin.keeps λb o e=>(e0.bs b o e).1;have Nk:s.heap.NoLimit:=e0.mod.nolimit.keeps λb o e=>(e0.bs b o e).1;have HQ:∀y∈ps.zip us,scope.names.lookup y.1=u5 .local\/(scope.names.lookup y.1=u5 .cell/\((cellsFrom (s.heap.objs.size+1) scope.names []).lookup y.1).isSome=true):=λ⟨n,v⟩ hy=>by
  rcases S.par n (Fo hy).1 with q|q
  .exact .inl q
  .exact .inr #[q,cellsFrom_some _ _ _ (.inl q)]
 refine codeAny_call_function hr.depth (KX _ _ lk) rfl S.co S.gen rfl (codeRec_of KX i8) (hb _ _ _ _ ?_);refine wpAny_newFunctionEnv_cells S.kind HQ λenv he s1 x=>?_;subst he;refine#[Nk.keeps x.toInCall.keep,codeAny_func ?_];obtain⟨t,ht,hq⟩:=a_ A outer s H vs Q E (hr.deeper _) v3;have I:Inv (cxOf CX P w K mg base N qual scope f cdv A outer s H E) [] (start N vs) H s1:=vq S hr.hd e0 hl r x;refine PP (ht [] s1 (start N vs) H _ I hq) (λfl s' hs=>?_) λe s' hs=>hs;have c9:∀{σ':St} {H':Hp} {v:V} {u:GT},Inv (cxOf CX P w K mg base N qual scope f cdv A outer s H E) [] σ' H' s'->RelV v u->Q v H'->CE outer P w H s Q u s':=
  λ{σ' H' v u} J rv q=>#[v,H',J.os,J.bare,J.base,J.hok,rv,q]
 cases fl with
 |ret u=>
  obtain⟨v,σ',H',J,rv,q⟩:=hs;exact c9 J rv q
 |next=>
  obtain⟨σ',H',J,q⟩:=hs;exact c9 (v:=V.non) (u:=Value.none) J rfl q
 |brk=>
  obtain⟨_,_,_,q⟩:=hs;exact False.elim q
 |cont=>
  obtain⟨_,_,_,q⟩:=hs;exact False.elim q
section
variable {X:Cx}{x:G8}{p pos:PK}{e:Pu}{es:List Pu}{t:TA}{id T:String}{r:List V->Hp->VK->Prop}
def tCB(r:List V->Hp->VK->Prop)(t:TA):TE:=λσ H Q=>t σ H λvs H1=>r vs H1 Q
def fj(hc:bM X (.builtin id) r)(hg:Gl X x)(hm:X.mg x=A')(hv:PY x=u5 (.builtin id))(ha:PA X (e::es) t)(hn:autoParam (x≠"__name__") zA1)(e_:autoParam (zND x) zA1)
  (he:autoParam (zSE X e es) zA0) (d0:autoParam (zPL X pos es) zA0):PE X (.Call (.Name x p) (e::es) [] pos) (tCB r t):=by
 intro pins s σ H Q I h;refine PL (dQ I hg hm hv ?_ hn e_);exact PyProof.Rows.callWith_builtin1 (thn (ha pos pins s σ H _ I h) λus s1 ⟨vs,H1,I1,r1,q1⟩=>hc pins s1 σ H1 vs us Q I1 r1 q1) he d0
def oJ(hc:bM X (.type T) r)(hg:Gl X x)(hm:X.mg x=A')(hv:PY x=u5 (.type T))(ha:PA X (e::es) t)(hn:autoParam (x≠"__name__") zA1)(e_:autoParam (zND x) zA1)
  (he:autoParam (zSE X e es) zA0) (d0:autoParam (zPL X pos es) zA0):PE X (.Call (.Name x p) (e::es) [] pos) (tCB r t):=by
 intro pins s σ H Q I h;refine PL (dQ I hg hm hv ?_ hn e_);exact PyProof.Rows.callWith_type1 (thn (ha pos pins s σ H _ I h) λus s1 ⟨vs,H1,I1,r1,q1⟩=>hc pins s1 σ H1 vs us Q I1 r1 q1) he d0
end
end L2
namespace HT
open PySem PyProof.Rows
section
variable {prog:Pw}{w:Pz}{A:PB}{E:GT->KB->Prop}{s:KB}
variable{Q:GT->KB->Prop}
def cat_tup{t b:KF}{vs ws:List GT}(ht:IsTup s.heap t vs.toArray)(hb:IsTup s.heap b ws.toArray)(hv:vs≠[])
  (h1:ws=[]->Q (.ref t) s) (h2:ws≠[]->Q (.ref s.heap.objs.size) {s with heap:=s.heap.push {cls:=.type "tuple",data:=.seq (vs++ws).toArray} })
  (j3:vs.length+ws.length<=sizeLine):Px (Pt prog w) A (PR .Add (.ref t) (.ref b)) Q E s:=by
 obtain⟨⟨cls,dd,data,sl⟩,ho,hc,n,hd⟩:=id ht;obtain⟨⟨Nl,Mb,data2,Mc⟩,Jc,Md,n2,Jd⟩:=id hb;simp only at hc hd Md Jd;subst hc hd Md Jd;have e:vs.toArray++ws.toArray=(vs++ws).toArray:=HV
 by_cases hw:ws=[]
 .exact concat_meets #[_,ho,rfl] #[_,Jc,rfl] noFill_tuple_add seq_tuple_add PySem.F.slot_tuple_add PySem.F.entry_tuple_add (PySem.F.args_tuple_add_2 _ _)
   (tuple_addW1 t b vs.toArray ws.toArray n n2 dd Mb sl Mc (by simpa using hv) (by simp[hw])) #[ho,Jc,h1 hw]
 .refine concat_meets #[_,ho,rfl] #[_,Jc,rfl] noFill_tuple_add seq_tuple_add PySem.F.slot_tuple_add PySem.F.entry_tuple_add (PySem.F.args_tuple_add_2 _ _)
   (tuple_addW2 t b vs.toArray ws.toArray n n2 dd Mb sl Mc (by simpa using hv) (by simpa using hw) (by rw[Dz,Dz];exact j3)) #[ho,Jc,?_]
  rw[e];exact h2 hw
def sIx(n d:Nat):Option Int->Nat
 |none=>d
 |some v=>if v<0 then(v+(n:Int)).toNat else min v.toNat n
def sIx_none(n d:Nat):sIx n d A'=d:=rfl
def sIx_nat(n d k:Nat):sIx n d (u5 (k:Int))=min k n:=by
 show(if(k:Int)<0 then((k:Int)+(n:Int)).toNat else min (k:Int).toNat n)=min k n;rw[if_neg HN,EF]
def sIx_le(n d:Nat)(hd:d<=n)(o:Option Int):sIx n d o<=n:=by
 cases o with
 |none=>exact hd
 |some v=>
  show(if v<0 then(v+(n:Int)).toNat else min v.toNat n)<=n;by_cases hv:v<0
  .rw[if_pos hv];lia
  .rw[if_neg hv];exact Nat.min_le_right _ _
def oK(v:Int)(n d:Nat):(if v<0 then max (v+(n:Int)) 0 else min v (n:Int))=((sIx n d (u5 v):Nat):Int):=by
 show(if v<0 then max (v+(n:Int)) 0 else min v (n:Int))=(((if v<0 then(v+(n:Int)).toNat else min v.toNat n):Nat):Int);by_cases hv:v<0
 .simp only[if_pos hv];lia
 .simp only[if_neg hv];lia
def vw(lo hi:Option Int)(n:Nat):Builtin.Slice.sliceAdjust lo hi 1 (n:Int)=(((sIx n 0 lo:Nat):Int),((sIx n n hi:Nat):Int)):=by
 have h1:¬((1:Int)<0):=HN
 unfold Builtin.Slice.sliceAdjust;simp only[h1,if_false];refine Prod.ext ?_ ?_
 .cases lo with
  |none=>rfl
  |some v=>exact oK v n 0
 .cases hi with
  |none=>rfl
  |some v=>exact oK v n n
def vx(i j:Nat):Builtin.Slice.slicePlaces (i:Int) (j:Int) 1=j-i:=by
 unfold Builtin.Slice.slicePlaces;have h1:(1:Int)>0:=HN
 simp only[h1,if_true,Int.ediv_one];split<;>lia
def oM{v:GT}{o:Option Int}{Q:Option Int->KB->Prop}(p:QJ v o)(h:Q o s):Px (Pt prog w) A (Builtin.Slice.slicePartIndex v) Q E s:=by
 cases p with
 |none=>exact slicePart_none h
 |int i t=>exact slicePart_int h
variable{lo hi:Option Int}
def vy{sl:KF}{vl vu:GT}{n:Nat}{Q:Int×Int×Nat->KB->Prop}(hs:s.heap.IsSliceOf sl vl vu .none)(pl:QJ vl lo)(pu:QJ vu hi)
  (h:Q (((sIx n 0 lo:Nat):Int),1,sIx n n hi-sIx n 0 lo) s):Px (Pt prog w) A (Builtin.Slice.sliceApplied (.ref sl) (pure (n:Int))) Q E s:=by
 obtain⟨os,B_,Me,Je⟩:=id hs;unfold Builtin.Slice.sliceApplied Builtin.Slice.sliceFields;refine KM (KM (P' B_ Je (x:=vl) rfl (KM (P' B_ Je (x:=vu) rfl (KM (P' B_ Je (x:=.none) rfl (Pi ?_)))))));refine KM (slicePart_none ?_);show Px _ _ (if((1:Int)==0)=true then _ else _) _ _ s;rw[if_neg G_];refine KM (oM pl (KM (oM pu (KM (Pi ?_)))));show Px _ _ (match Builtin.Slice.sliceAdjust lo hi 1 (n:Int)with|(lo,hi)=>pure (lo,(1:Int),Builtin.Slice.slicePlaces lo hi 1)) _ _ s;rw[vw lo hi n];show Px _ _ (pure (((sIx n 0 lo:Nat):Int),(1:Int),Builtin.Slice.slicePlaces ((sIx n 0 lo:Nat):Int) ((sIx n n hi:Nat):Int) 1)) _ _ s;rw[vx];exact Pi h
def vz(xs:Array GT)(i k:Nat):((D9 k).filterMap λ(m:Nat)=>xs[((i:Int)+(m:Int)*1).toNat]?).toArray=((xs.toList.drop i).take k).toArray:=by
 have e:(λ(m:Nat)=>xs[((i:Int)+(m:Int)*1).toNat]?)=λm=>xs[i+m]?:=by
  funext m;have:((i:Int)+(m:Int)*1).toNat=i+m:=HN
  rw[this]
 rw[e];have:=pick_run xs i k;rw[FZ]at this;have e2:((λx=>xs[x]?) ∘ λx=>i+x)=λm=>xs[i+m]?:=rfl;rw[e2]at this;rw[this]
def getItem_tuple_cut{t sl:KF}{items:Array GT}{vl vu:GT}(ht:IsTup s.heap t items)(hs:s.heap.IsSliceOf sl vl vu .none)(pl:QJ vl lo)(pu:QJ vu hi)
  (hw:¬(sIx items.size 0 lo=0/\sIx items.size items.size hi=items.size))
  (h:Q (.ref s.heap.objs.size) {s with heap:=s.heap.push {cls:=.type "tuple",data:=.seq ((items.toList.drop (sIx items.size 0 lo)).take (sIx items.size items.size hi-sIx items.size 0 lo)).toArray} })
  (j3:items.size<=sizeLine):Px (Pt prog w) A (QL (.ref t) (.ref sl)) Q E s:=by
 have i9:sizeOk (.seq ((items.toList.drop (sIx items.size 0 lo)).take (sIx items.size items.size hi-sIx items.size 0 lo)).toArray):=by
  show((items.toList.drop (sIx items.size 0 lo)).take (sIx items.size items.size hi-sIx items.size 0 lo)).toArray.size<=sizeLine;rw[Dz,Ep,EN,Fl];lia
 have hj:sIx items.size items.size hi<=items.size:=sIx_le _ _ (Dt _) hi;obtain⟨os,B_,Me,Je⟩:=id hs;have Nm:s.TypeIs (.ref sl) "slice":=#[os,B_,Me];unfold QL
 try with_reducible refine P9 ?_
 first|refine KM (Pi ?_)|skip
 refine KM (wpAny_sequenceKey ht.typeIs G_ ?_);refine KM (wpAny_callSpecial?_slot (name:=Str.ofString "__getitem__") ht.typeIs PyProof.Rows.slot_tuple_getitem
  (wpAny_call_entry PyProof.Rows.slot_tuple_getitem ht.typeIs entry_tuple_getitem ?_ (args_tuple_getitem _ _)))
 show Px _ _ (Builtin.Tuple.tupleItemsOf (.ref t)>>=_) _ _ s;refine KM (tupleItemsOf_ ht ?_);refine KM (wpAny_typeOf Nm ?_);rw[if_pos G_];refine KM (vy hs pl pu ?_);have f6:¬((((sIx items.size 0 lo:Nat):Int)==0&&(1:Int)==1&&(sIx items.size items.size hi-sIx items.size 0 lo)==items.size)=true):=by
  intro q;rw[D6,D6]at q;have q1:((sIx items.size 0 lo:Nat):Int)=0:=eq_of_beq q.1.1;have q2:sIx items.size items.size hi-sIx items.size 0 lo=items.size:=eq_of_beq q.2;exact hw #[HN,HN]
 show Px _ _ (if(((sIx items.size 0 lo:Nat):Int)==0&&(1:Int)==1&&(sIx items.size items.size hi-sIx items.size 0 lo)==items.size)=true then _ else _) _ _ s;rw[if_neg f6,vz]
 first
  |exact KM (m:=Builtin.Tuple.tupleExact _) (PN (Pi ⟨_,rfl,Pi h⟩) i9)
  |exact KM (m:=Builtin.Tuple.tupleExact _) (PN (KM (Pi (Pi ⟨_,rfl,Pi h⟩))) i9)
  |exact KM (KM (m:=Builtin.Tuple.tupleExact _) (PN (Pi (Pi ⟨_,rfl,Pi h⟩)) i9))
  |exact KM (KM (m:=Builtin.Tuple.tupleExact _) (PN (Pi ⟨_,rfl,Pi h⟩) i9))
end
end HT
namespace L2
open PySem PySem.Spec PyProof.Rows
abbrev TO:=St->Hp->(Option Int->Hp->Prop)->Prop
def PO(X:Cx)(e:Option Pu)(t:TO):Prop:=
 ∀(pins:List (KF×PX)) (s:KB) (σ:St) (H:Hp) (Q:Option Int->Hp->Prop),Inv X pins σ H s->t σ H Q->
  Px (Pt X.prog X.w) X.A (evalPart e X.env) (λu s'=>∃o H',Inv X pins σ H' s'/\QJ u o/\Q o H') X.xe s
def vA:TO:=λ_ H Q=>Q A' H
def vB(t:TE):TO:=λσ H Q=>t σ H λx H1=>∃i,x=.int i/\Q (u5 i) H1
section
variable {X:Cx}{e:Pu}{te:TE}{lo hi:Option Pu}{tl th:TO}{pos p2:PK}
def oN:PO X A' vA:=by
 intro pins s σ H Q I h;rw[evalPart_none];exact Pi #[A',H,I,.none,h]
def oO(h:PE X e te):PO X (u5 e) (vB te):=by
 intro pins s σ H Q I hw;rw[evalPart_some];refine thn (h pins s σ H _ I hw) λu s1 b_=>?_;obtain⟨x,H1,I1,r1,q1⟩:=b_;obtain⟨i,rfl,q⟩:=q1;obtain⟨t,rfl⟩:=r1;exact#[u5 i,H1,I1,.int i t,q]
def SlR(X:Cx)(r:V->Option Int->Option Int->Hp->VK->Prop):Prop:=
 ∀(pins:List (KF×PX)) (s:KB) (σ:St) (H:Hp) (x:V) (v vl vu:GT) (lo hi:Option Int) (sl:KF) (Q:VK),Inv X pins σ H s->RelV x v->s.heap.IsSliceOf sl vl vu .none->QJ vl lo->QJ vu hi->r x lo hi H Q->
  ∃T id,typeLookup (.type T) "__getitem__"=pure (u5 (.builtin id))/\s.TypeIs v T/\Px (Pt X.prog X.w) X.A (QL v (.ref sl)) (EP X pins σ Q) X.xe s
variable{r:V->Option Int->Option Int->Hp->VK->Prop}
def SlR.or{r':V->Option Int->Option Int->Hp->VK->Prop}(h:SlR X r)(h':SlR X r'):SlR X (λx lo hi H Q=>r x lo hi H Q\/r' x lo hi H Q):=by
 intro pins s σ H x v vl vu lo hi sl Q I rx hs pl pu q;rcases q with q|q
 .exact h pins s σ H x v vl vu lo hi sl Q I rx hs pl pu q
 .exact h' pins s σ H x v vl vu lo hi sl Q I rx hs pl pu q
def tSl(r:V->Option Int->Option Int->Hp->VK->Prop)(te:TE)(tl th:TO):TE:=λσ H Q=>te σ H λx H1=>tl σ H1 λl H2=>th σ H2 λu H3=>r x l u H3 Q
def oP(hr:SlR X r)(he:PE X e te)(hl:PO X lo tl)(hu:PO X hi th):PE X (.Subscript e (.Slice lo hi A' p2) pos) (tSl r te tl th):=by
 intro pins s σ H Q I h;refine Subscript_ (thn (he pins s σ H _ I h) λv s1 b_=>?_);obtain⟨x,H1,I1,r1,q1⟩:=b_;refine wpAny_Slice (thn (hl pins s1 σ H1 _ I1 q1) λvl s2 ⟨l,H2,I2,pl,q2⟩=>thn (hu pins s2 σ H2 _ I2 q2) λvu s3 b_=>?_);obtain⟨u,H3,I3,pu,q3⟩:=b_;rw[evalPart_none];refine Pi ?_;have I4:Inv X pins σ H3 {s3 with heap:=s3.heap.push {cls:=.type "slice",data:=.fields [vl,vu,.none].toArray} }:=I3.kept (t':=s3.toks) λb ob q=>Heap.get?_push_of_some _ q;obtain⟨T,id,hT,ht,hg⟩:=hr pins {s3 with heap:=s3.heap.push {cls:=.type "slice",data:=.fields [vl,vu,.none].toArray} } σ H3 x v vl vu l u s3.heap.objs.size Q I4 r1 (Heap.IsSliceOf.new ..) pl pu q3;show Px (Pt X.prog X.w) X.A (subscriptTail e (.Slice lo hi A' p2) v (.ref s3.heap.objs.size)) (EP X pins σ Q) X.xe {s3 with heap:=s3.heap.push {cls:=.type "slice",data:=.fields [vl,vu,.none].toArray} };exact tail_any (ops:=[.ref s3.heap.objs.size,v]) ht hT hg (by with_unfolding_all rfl)
def cutV(xs:List V)(lo hi:Option Int):List V:=(xs.drop (HT.sIx xs.length 0 lo)).take (HT.sIx xs.length xs.length hi-HT.sIx xs.length 0 lo)
def oQ(xs:List V)(lo hi:Option Int):(cutV xs lo hi).length<=xs.length:=by
 unfold cutV;rw[Ep,EN];lia
def rSlT(K:Dr):V->Option Int->Option Int->Hp->VK->Prop:=λx lo hi H Q=>∃a xs,x=.ref a/\SqT K H a xs/\
 ¬(HT.sIx xs.length 0 lo=0/\HT.sIx xs.length xs.length hi=xs.length)/\∀p,H p=A'->Q (.ref p) (upd H p (.tup (cutV xs lo hi)))
def vC:SlR X (rSlT X.K):=by
 intro pins s σ H x v vl vu lo hi sl Q I rx hs pl pu h;obtain⟨a,xs,rfl,hx,hw,q⟩:=h;cases rx;obtain⟨its,r,ht,hz⟩:=I.tuple hx;have b8:its.toArray.size=xs.length:=by rw[Dz];exact r.length.symm
 refine#["tuple",_,PyProof.Rows.slot_tuple_getitem.lookup,ht.typeIs,?_];refine HT.getItem_tuple_cut ht hs pl pu (by rw[b8];exact hw) ?_ (by rw[b8];exact hz);rw[b8];refine#[.ref s.heap.objs.size,_,I.laid (t':=s.toks) (o:=.tup (cutV xs lo hi)) (λb ob q=>Heap.get?_push_of_some _ q) (Dt _) ?_,rfl,q _ (I.hok.fresh (Dt _))];exact#[Dy (oQ xs lo hi) hz,_,(r.drop (HT.sIx xs.length 0 lo)).take (HT.sIx xs.length xs.length hi-HT.sIx xs.length 0 lo),IsTup.new _ _]
def oR(K:Dr):R2:=λx y H Q=>∃a b xs ys,x=.ref a/\y=.ref b/\SqT K H a xs/\SqT K H b ys/\xs≠[]/\xs.length+ys.length<=sizeLine/\
 (ys=[]->Q (.ref a) H)/\(ys≠[]->∀p,H p=A'->Q (.ref p) (upd H p (.tup (xs++ys))))
def Vals.nil_iff{xs:List V}{us:List GT}(r:Vals xs us):us=[]↔xs=[]:=by
 cases r with
 |nil=>simp
 |cons _ _=>simp
def vD:OpR X (PR .Add) (oR X.K):=by
 intro pins s σ H x y v u Q I rx ry h;obtain⟨a,b,xs,ys,rfl,rfl,ha,hb,hx,hz,q1,q2⟩:=h;cases rx;cases ry;obtain⟨its,r1,p1,_⟩:=I.tuple ha;obtain⟨g_,r2,p2,_⟩:=I.tuple hb;refine HT.cat_tup p1 p2 (λz=>hx (r1.nil_iff.mp z)) (λz=>#[.ref a,H,I,rfl,q1 (r2.nil_iff.mp z)]) (λz=>?_) (by rw[<-r1.length,<-r2.length];exact hz);refine#[.ref s.heap.objs.size,_,I.laid (t':=s.toks) (o:=.tup (xs++ys)) (λb ob q=>Heap.get?_push_of_some _ q) (Dt _) ?_,rfl,q2 (λw=>z (r2.nil_iff.mpr w)) _ (I.hok.fresh (Dt _))];exact#[by rw[DB];exact hz,_,r1.append r2,IsTup.new _ _]
end
def ixN(n:Nat)(i:Int):Option Nat:=if 0<=i then(if i<n then u5 i.toNat else A')else if -(n:Int)<=i then u5 (i+n).toNat else A'
def atI{α:Type}(xs:List α)(i:Int):Option α:=(ixN xs.length i).bind λj=>xs[j]?
def oS{n:Nat}{i:Int}{j:Nat}(h:ixN n i=u5 j):seqIndex? i n=u5 j/\j<n/\-(n:Int)<=i/\i<n:=by
 unfold ixN at h;by_cases h0:0<=i
 .rw[if_pos h0]at h;by_cases h1:i<n
  .rw[if_pos h1]at h;have e:i.toNat=j:=Option.some.inj h;exact#[by rw[Q8 h0 h1,e],HN,HN,h1]
  .rw[if_neg h1]at h;cases h
 .rw[if_neg h0]at h;by_cases h1:-(n:Int)<=i
  .rw[if_pos h1]at h;have e:(i+n).toNat=j:=Option.some.inj h;exact#[by rw[QY HN h1,e],HN,h1,HN]
  .rw[if_neg h1]at h;cases h
def atI_get{α:Type}{xs:List α}{i:Int}{v:α}(h:atI xs i=u5 v):∃j,seqIndex? i xs.length=u5 j/\xs[j]?=u5 v/\j<xs.length/\-(xs.length:Int)<=i/\i<xs.length:=by
 unfold atI at h;cases e:ixN xs.length i with
 |none=>rw[e]at h;cases h
 |some j=>
  rw[e]at h;obtain⟨h1,h2,h3,h4⟩:=oS e;exact#[j,h1,h,h2,h3,h4]
def dh{α:Type}{xs:List α}{j:Nat}{v:α}(h:xs[j]?=u5 v):atI xs (j:Int)=u5 v:=by
 have hj:j<xs.length:=(DN.mp h).1;have e:ixN xs.length (j:Int)=u5 j:=by
  unfold ixN;rw[if_pos HN,if_pos HN];simp
 unfold atI;rw[e];exact h
def fk(b:Pu):Prop:=∀o i,subscripted b false o i=operate [o,i] (QL o i)
def IxR(X:Cx)(r:R2):Prop:=
 ∀(value slice:Pu) (pins:List (KF×PX)) (s:KB) (σ:St) (H:Hp) (x y:V) (v u:GT) (Q:VK),Inv X pins σ H s->RelV x v->RelV y u->r x y H Q->
  subscripted slice false v u=operate [v,u] (QL v u)->Px (Pt X.prog X.w) X.A (subscriptTail value slice v u) (EP X pins σ Q) X.xe s
def MtR(X:Cx)(id:String)(r:V->List V->Hp->VK->Prop):Prop:=
 ∀(pins:List (KF×PX)) (s:KB) (σ:St) (H:Hp) (x:V) (xs:List V) (v:GT) (us:List GT) (Q:VK),Inv X pins σ H s->RelV x v->Vals xs us->r x xs H Q->
  Px (Pt X.prog X.w) X.A (call (.builtin id) (v::us)) (EP X pins σ Q) X.xe s
section
variable {X:Cx}{a b:Pu}{ta tb:TE}{pos:PK}
def IxR.or{r r':R2}(h:IxR X r)(h':IxR X r'):IxR X (λx y H Q=>r x y H Q\/r' x y H Q):=by
 intro value slice pins s σ H x y v u Q I rx ry q hs;rcases q with q|q
 .exact h value slice pins s σ H x y v u Q I rx ry q hs
 .exact h' value slice pins s σ H x y v u Q I rx ry q hs
def pe_ix{r:R2}(hr:IxR X r)(ha:PE X a ta)(hb:PE X b tb)(hs:fk b):PE X (.Subscript a b pos) (tOp r ta tb):=by
 intro pins s σ H Q I h;exact Subscript_ (binT ha hb I h λv u s2 x y H2 I2 rx ry q=>hr a b pins s2 σ H2 x y v u Q I2 rx ry q (hs _ _))
def rIxL(K:Dr):R2:=λx y H Q=>∃p xs i v,x=.ref p/\y=.int i/\SqL K H p xs/\atI xs i=u5 v/\Q v H
def rIxT(K:Dr):R2:=λx y H Q=>∃p xs i v,x=.ref p/\y=.int i/\SqT K H p xs/\atI xs i=u5 v/\Q v H
def rIxS:R2:=λx y H Q=>∃z i c,x=.str z/\y=.int i/\z.length<=sizeLine/\atI z.cps.toList i=u5 c/\Q (.str #[[c].toArray]) H
def ix_list:IxR X (rIxL X.K):=by
 intro value slice pins s σ H x y v u Q I rx ry h hs;obtain⟨p,xs,i,z,rfl,rfl,hq,he,q⟩:=h;cases rx;obtain⟨t,rfl⟩:=ry;obtain⟨its,r,pl,hz⟩:=I.list hq;obtain⟨j,h1,h2,h3,h4,h5⟩:=atI_get he;obtain⟨w,ew,m_⟩:=r.get h2;have hl:=r.length;have hn:=line63;have c9:EP X pins σ Q w s:=#[z,H,I,m_,q];by_cases h0:0<=i
 .have hj:i.toNat=j:=by
   rw[Q8 h0 h5]at h1;exact Option.some.inj h1
  exact item_listR pl.isList h0 HN (by rw[hj];simpa using ew) c9 hs
 .have hj:(i+(its.toArray.size:Int)).toNat=j:=by
   rw[QY HN h4]at h1;rw[Dz,<-hl];exact Option.some.inj h1
  exact QX (x:=w) pl.isList.typeIs slot_list_getitem.lookup
   (wpAny_getItem_list_neg (Q:=λr s'=>r=w/\EP X pins σ Q r s') pl.isList HN (by rw[Dz]<;>lia) HN (by rw[hj];simpa using ew) #[rfl,c9]) hs
def ix_tup:IxR X (rIxT X.K):=by
 intro value slice pins s σ H x y v u Q I rx ry h hs;obtain⟨p,xs,i,z,rfl,rfl,hq,he,q⟩:=h;cases rx;obtain⟨t,rfl⟩:=ry;obtain⟨its,r,pl,hz⟩:=I.tuple hq;obtain⟨j,h1,h2,h3,h4,h5⟩:=atI_get he;obtain⟨w,ew,m_⟩:=r.get h2;have hl:=r.length;have hn:=line63;have c9:EP X pins σ Q w s:=#[z,H,I,m_,q];exact QX (x:=w) pl.typeIs slot_tuple_getitem.lookup
  (getItem_tuple (j:=j) (Q:=λr s'=>r=w/\EP X pins σ Q r s') pl HN HN (by rw[Dz,<-hl];exact h1) (by simpa using ew) #[rfl,c9]) hs
def vE:IxR X rIxS:=by
 intro value slice pins s σ H x y v u Q I rx ry h hs;obtain⟨z,i,c,rfl,rfl,hz,he,q⟩:=h;obtain⟨t,rfl⟩:=rx;obtain⟨t',rfl⟩:=ry;obtain⟨j,h1,h2,h3,h4,h5⟩:=atI_get he;have hl:z.cps.toList.length=z.length:=by simp[Str.length]
 rw[hl]at h1 h4 h5;have hn:=line63;exact tail_any (Rf s z t) slot_str_getitem.lookup (getItem_str (c:=c) (by
  have e1:decide (i< -(2^63:Int))=false:=decide_eq_false HN;have e2:decide (i>=2^63)=false:=decide_eq_false HN;rw[e1,e2,Bool.or_false]) (by rw[h1];simpa using h2) #[.str #[[c].toArray],H,I.tok _,#[_,rfl],q]) hs
def rIx(K:Dr):R2:=λx y H Q=>rIxL K x y H Q\/rIxT K x y H Q\/rIxS x y H Q
def oU:IxR X (rIx X.K):=ix_list.or (ix_tup.or vE)
def vF(its:List GT)(n j:Nat)(u:GT):Obj.mapSeq (·.setIfInBounds j u) {cls:=.type "list",data:=.seq its.toArray n}={cls:=.type "list",data:=.seq (its.set j u).toArray n}:=by
 simp[Obj.mapSeq]
def Inv.lst{pins:List (KF×PX)}{σ:St}{H:Hp}{s:KB}{p:KF}{xs:List V}(I:Inv X pins σ H s)(h:H p=u5 (.lst xs)):
  ∃(its:List GT) (n:Nat),Vals xs its/\s.heap.get? p=u5 {cls:=.type "list",data:=.seq its.toArray n}/\xs.length<=sizeLine:=by
 obtain⟨z,its,n,r,e⟩:=I.hok p _ h;exact#[its,n,r,e,z]
variable{pins:List (KF×PX)}{s:KB}
def Inv.lstUpd{σ:St}{H:Hp}{p:KF}{xs ys:List V}{its its':List GT}{n n':Nat}{f:PX->PX}(I:Inv X pins σ H s)(h:H p=u5 (.lst xs))
  (ho:s.heap.get? p=u5 {cls:=.type "list",data:=.seq its.toArray n}) (hf:f {cls:=.type "list",data:=.seq its.toArray n}={cls:=.type "list",data:=.seq its'.toArray n'}) (r:Vals ys its') (hz:ys.length<=sizeLine) (t:Nat):
  Inv X pins σ (upd H p (.lst ys)) {s with heap:=s.heap.update p f,toks:=t}:=by
 have e:(s.heap.update p f).get? p=u5 {cls:=.type "list",data:=.seq its'.toArray n'}:=by
  rw[Heap.get?_update_self f ho (by rw[hf]<;>rfl),hf]
 refine I.write (x:=p) (e:=p) (by rw[h];trivial) (.inl rfl) (λb u hb q=>(Heap.get?_update_other _ _ (Ne.symm hb)).trans q) #[_,e] ?_;exact#[hz,its',n',r,e]
def vG:V->V->V->Hp->(Hp->Prop)->Prop:=λo i v H Q=>∃p xs k j,o=.ref p/\i=.int k/\H p=u5 (.lst xs)/\ixN xs.length k=u5 j/\Q (upd H p (.lst (xs.set j v)))
def vH:PSet X vG:=by
 intro pins s σ H o i v ov iv u Q I ro ri rv h;obtain⟨p,xs,k,j,rfl,rfl,hp,hj,q⟩:=h;cases ro;obtain⟨t,rfl⟩:=ri;obtain⟨its,n,r,ho,hz⟩:=I.lst hp;obtain⟨h1,h2,h3,h4⟩:=oS hj;have hl:=r.length;have hn:=line63;have I':Inv X pins σ (upd H p (.lst (xs.set j v))) {s with heap:=s.heap.update p (Obj.mapSeq (·.setIfInBounds j u))}:=
  I.lstUpd hp ho (vF its n j u) (r.set rv j) (by rw[Ej];exact hz) s.toks
 by_cases h0:0<=k
 .have hk:k.toNat=j:=by
   rw[Q8 h0 h4]at h1;exact Option.some.inj h1
  exact ki_setAt ho h0 HN (by rw[Dz,<-hl];exact h4) (by rw[hk];exact#[_,I',q])
 .have hk:(k+(its.toArray.size:Int)).toNat=j:=by
   rw[QY HN h3]at h1;rw[Dz,<-hl];exact Option.some.inj h1
  exact ki_setBack ho HN (by rw[Dz,<-hl];exact h3) HN (by rw[hk];exact#[_,I',q])
def vI(lo hi:Option Int)(n:Nat):(P_ lo hi A' n).1=((HT.sIx n 0 lo:Nat):Int)/\(P_ lo hi A' n).2.1=((HT.sIx n n hi:Nat):Int)/\(P_ lo hi A' n).2.2=1:=by
 refine#[?_,?_,rfl]
 .cases lo with
  |none=>simp[P_,HT.sIx]
  |some i=>
   simp only[P_,HT.sIx,F4,show(1:Int)>0 by decide,if_true];by_cases h:i<0
   .simp only[h,if_true]<;>lia
   .simp only[h,if_false]<;>lia
 .cases hi with
  |none=>simp[P_,HT.sIx]
  |some i=>
   simp only[P_,HT.sIx,F4,show(1:Int)>0 by decide,if_true];by_cases h:i<0
   .simp only[h,if_true]<;>lia
   .simp only[h,if_false]<;>lia
def vJ(its:List GT)(lo hi:Option Int):slicePick its.toArray lo hi A'=((its.drop (HT.sIx its.length 0 lo)).take (HT.sIx its.length its.length hi-HT.sIx its.length 0 lo)).toArray:=by
 obtain⟨h1,h2,h3⟩:=vI lo hi its.toArray.size;unfold slicePick;rw[h1,h2,h3];simp only[sliceRange_one,pick_run,Dz]<;>rfl
def rSlL(K:Dr):V->Option Int->Option Int->Hp->VK->Prop:=λx lo hi H Q=>∃a xs,x=.ref a/\SqL K H a xs/\∀p,H p=A'->Q (.ref p) (upd H p (.lst (cutV xs lo hi)))
def oV:SlR X (rSlL X.K):=by
 intro pins s σ H x v vl vu lo hi sl Q I rx hs pl pu h;obtain⟨a,xs,rfl,hx,q⟩:=h;cases rx;obtain⟨its,r,ht,hz⟩:=I.list hx;have b8:=r.length;refine#["list",_,slot_list_getitem.lookup,ht.isList.typeIs,?_];refine wpAny_getItem_list_slice ht.isList hs pl pu .none HV ?_ (by rw[Dz]<;>lia);rw[vJ,<-b8];refine#[.ref s.heap.objs.size,_,I.laid (t':=s.toks) (o:=.lst (cutV xs lo hi)) (λb ob q=>Heap.get?_push_of_some _ q) (Dt _) ?_,rfl,q _ (I.hok.fresh (Dt _))];exact#[Dy (oQ xs lo hi) hz,_,0,(r.drop (HT.sIx xs.length 0 lo)).take (HT.sIx xs.length xs.length hi-HT.sIx xs.length 0 lo),Heap.get?_push_size _ rfl]
def bO:V->Bool
 |.non=>true
 |.bl _=>true
 |.int _=>true
 |.str _=>true
 |_=>false
def eqV:V->V->Bool
 |.non,.non=>true
 |.bl a,.bl b=>a==b
 |.bl a,.int b=>(if a then 1 else 0)==b
 |.int a,.bl b=>a==(if b then 1 else 0)
 |.int a,.int b=>a==b
 |.str a,.str b=>a==b
 |_,_=>false
variable{x:V}
def eqAt_V{A:PB}{y:V}{u v:GT}(ry:RelV y u)(rx:RelV x v)(fy:bO y=true)(fx:bO x=true):SeqAt.EqAt A s u v (eqV y x):=by
 cases y with
 |non=>
  cases ry;cases x with
  |non=>cases rx;exact SeqAt.EqAt.same _
  |bl b=>cases rx;exact SeqAt.EqAt.none_bool b
  |int b=>obtain⟨t,rfl⟩:=rx;exact SeqAt.EqAt.none_int b t
  |str b=>obtain⟨t,rfl⟩:=rx;exact SeqAt.EqAt.none_str b t
  |_=>exact absurd (show false=true from fx) DK
 |bl a=>
  cases ry;cases x with
  |non=>cases rx;exact SeqAt.EqAt.bool_none a
  |bl b=>cases rx;exact SeqAt.EqAt.bool_bool a b
  |int b=>obtain⟨t,rfl⟩:=rx;exact SeqAt.EqAt.bool_int a b t
  |str b=>obtain⟨t,rfl⟩:=rx;exact SeqAt.EqAt.bool_str a b t
  |_=>exact absurd (show false=true from fx) DK
 |int a=>
  obtain⟨t',rfl⟩:=ry;cases x with
  |non=>cases rx;exact SeqAt.EqAt.int_none a t'
  |bl b=>cases rx;exact SeqAt.EqAt.int_bool a t' b
  |int b=>obtain⟨t,rfl⟩:=rx;exact SeqAt.EqAt.int_int a t' b t
  |str b=>obtain⟨t,rfl⟩:=rx;exact SeqAt.EqAt.int_str a t' b t
  |_=>exact absurd (show false=true from fx) DK
 |str a=>
  obtain⟨t',rfl⟩:=ry;cases x with
  |non=>cases rx;exact SeqAt.EqAt.str_none a t'
  |bl b=>cases rx;exact SeqAt.EqAt.str_bool a t' b
  |int b=>obtain⟨t,rfl⟩:=rx;exact SeqAt.EqAt.str_int a t' b t
  |str b=>obtain⟨t,rfl⟩:=rx;exact SeqAt.EqAt.str_str a t' b t
  |_=>exact absurd (show false=true from fx) DK
 |_=>exact absurd (show false=true from fy) DK
def eqU(x:V)(u:GT):Bool:=match u with
 |.none=>eqV .non x
 |.bool b=>eqV (.bl b) x
 |.int i _=>eqV (.int i) x
 |.str z _=>eqV (.str z) x
 |_=>false
def oW{y:V}{u:GT}(r:RelV y u)(f:bO y=true):eqU x u=eqV y x:=by
 cases y with
 |non=>cases r;rfl
 |bl b=>cases r;rfl
 |int i=>obtain⟨t,rfl⟩:=r;rfl
 |str z=>obtain⟨t,rfl⟩:=r;rfl
 |_=>exact absurd (show false=true from f) DK
def fo{x:V}:∀{xs:List V} {us:List GT},Vals xs us->xs.all bO=true->us.any (eqU x)=xs.any λy=>eqV y x
 |_,_,.nil,_=>rfl
 |y::xs,u::us,.cons r t,f=>by
  rw[EG,D6]at f;rw[E2,E2,oW r f.1,fo t f.2]
def mem_eqAt{A:PB}{s:KB}{x:V}{v:GT}(rx:RelV x v)(fx:bO x=true):∀{xs:List V} {us:List GT},Vals xs us->xs.all bO=true->∀u∈us,SeqAt.EqAt A s u v (eqU x u)
 |_,_,.nil,_=>λu hu=>by cases hu
 |y::xs,u::us,.cons r t,f=>λu' hu=>by
  rw[EG,D6]at f;rcases Dw.mp hu with rfl|hu
  .rw[oW r f.1];exact eqAt_V r rx f.1 fx
  .exact mem_eqAt rx fx t f.2 u' hu
def inV(x:V)(xs:List V):Bool:=xs.any λy=>eqV y x
def rIn(K:Dr)(neg:Bool):R2:=λx y H Q=>∃p xs,y=.ref p/\(SqL K H p xs\/SqT K H p xs)/\bO x=true/\xs.all bO=true/\Q (.bl (if neg then !inV x xs else inV x xs)) H
def vK:OpR X (PJ .In) (rIn X.K false):=by
 intro pins s σ H x y v u Q I rx ry h;obtain⟨p,xs,rfl,hq,fx,fs,q⟩:=h;cases ry;rcases hq with hq|hq
 .obtain⟨its,r,pl,hz⟩:=I.list hq;refine SeqAt.in_listAt (eqU x) pl.isList (λw hw=>mem_eqAt rx fx r fs w (by simpa using hw)) #[.bl _,H,I,rfl,?_];rw[show its.toArray.any (eqU x)=its.any (eqU x)by simp,fo r fs];exact q
 .obtain⟨its,r,pl,hz⟩:=I.tuple hq;refine SeqAt.in_tupleAt (eqU x) pl (λw hw=>mem_eqAt rx fx r fs w (by simpa using hw)) #[.bl _,H,I,rfl,?_];rw[show its.toArray.any (eqU x)=its.any (eqU x)by simp,fo r fs];exact q
def vL:OpR X (PJ .NotIn) (rIn X.K true):=by
 intro pins s σ H x y v u Q I rx ry h;obtain⟨p,xs,rfl,hq,fx,fs,q⟩:=h;cases ry;rcases hq with hq|hq
 .obtain⟨its,r,pl,hz⟩:=I.list hq;refine SeqAt.notIn_listAt (eqU x) pl.isList (λw hw=>mem_eqAt rx fx r fs w (by simpa using hw)) #[.bl _,H,I,rfl,?_];rw[show its.toArray.any (eqU x)=its.any (eqU x)by simp,fo r fs];exact q
 .obtain⟨its,r,pl,hz⟩:=I.tuple hq;refine SeqAt.notIn_tupleAt (eqU x) pl (λw hw=>mem_eqAt rx fx r fs w (by simpa using hw)) #[.bl _,H,I,rfl,?_];rw[show its.toArray.any (eqU x)=its.any (eqU x)by simp,fo r fs];exact q
def vM:OpR X (PJ .NotIn) (λx y H Q=>∃i j,x=.str i/\y=.str j/\Q (.bl (!(!(Builtin.Str.occurrences j i 0 j.length 1).isEmpty))) H):=by
 intro pins s σ H x y v u Q I rx ry h;obtain⟨i,j,rfl,rfl,q⟩:=h;obtain⟨t,rfl⟩:=rx;obtain⟨t',rfl⟩:=ry;exact notIn_str #[.bl _,H,I,rfl,q]
def vN:bM X (.type "list") (λxs H Q=>∃p ys,xs=[.ref p]/\(SqL X.K H p ys\/SqT X.K H p ys)/\∀l,H l=A'->Q (.ref l) (upd H l (.lst ys))):=by
 intro pins s σ H xs us Q I r h;obtain⟨p,ys,rfl,hq,q⟩:=h;obtain⟨u,rfl,rx⟩:=bY r;cases rx;have c9:∀(its:List GT),Vals ys its->ys.length<=sizeLine->∀(h':Heap) (c':Nat),(∀b o',s.heap.get? b=u5 o'->h'.get? b=u5 o')->
   h'.get? s.heap.objs.size=u5 {cls:=.type "list",dict:=A',data:=.seq its.toArray c',slots:=[].toArray}->EP X pins σ Q (.ref s.heap.objs.size) {s with heap:=h'}:=λits r' hz h' c' kp e=>
  #[.ref s.heap.objs.size,_,I.laid (t':=s.toks) kp (Dt _) (show ObjOk X.prog X.w _ h' _ (.lst ys)from#[hz,its,c',r',e]),rfl,q _ (I.hok.fresh (Dt _))]
 rcases hq with hq|hq
 .obtain⟨its,r',pl,hz⟩:=I.list hq;have b8:=r'.length;obtain⟨o,ho,hc,n,hd⟩:=pl.isList;exact call_list_seq p (.inl rfl) ho hc hd (λh' c' kp e=>c9 its r' hz h' c' kp e) (by simp only[Dz]<;>lia)
 .obtain⟨its,r',pl,hz⟩:=I.tuple hq;have b8:=r'.length;obtain⟨o,ho,hc,n,hd⟩:=pl;exact call_list_seq p (.inr rfl) ho hc hd (λh' c' kp e=>c9 its r' hz h' c' kp e) (by simp only[Dz]<;>lia)
def tyV(K:Dr)(T:String)(x:V)(H:Hp):Prop:=match x with
 |.str _=>T="str"
 |.int _=>T="int"
 | .ref p=>(T="list"/\∃xs,SqL K H p xs)\/(T="tuple"/\∃o,K.lookup p=u5 o/\o.cls=.type "tuple"/\o.dict=A')\/
   (T="dict"/\((∃a9,H p=u5 (.dK a9))\/∃a9,H p=u5 (.dT a9)))\/(T="set"/\∃S n,H p=u5 (.set S n))
 |_=>False
def oX{σ:St}{H:Hp}{T:String}{v:GT}(I:Inv X pins σ H s)(r:RelV x v)(ty:tyV X.K T x H):
  s.TypeIs v T/\∀a,v=.ref a->∃ob,s.heap.get? a=u5 ob/\ob.dict=none:=by
 cases x with
 |str z=>
  obtain⟨t,rfl⟩:=r;cases(show T="str" from ty);exact#[Rf s z t,λ_ e=>nomatch e]
 |int i=>
  obtain⟨t,rfl⟩:=r;cases(show T="int" from ty);exact#[Rg s i t,λ_ e=>nomatch e]
 |ref p=>
  cases r;rcases ty with⟨rfl,xs,hq⟩|⟨rfl,o,hk,hc,hd⟩|⟨rfl,hk⟩|⟨rfl,S,n,hk⟩
  .obtain⟨its,_,pl,_⟩:=I.list hq;refine#[pl.isList.typeIs,λa e=>?_];cases e;obtain⟨o,n,e,c,hd,_⟩:=pl;exact#[o,e,hd]
  .refine#[#[o,I.kIn p o hk,hc],λa e=>?_];cases e;exact#[o,I.kIn _ o hk,hd]
  .have z:∃o,s.heap.get? p=u5 o/\o.ExactDict:=by
    rcases hk with⟨a9,hk⟩|⟨a9,hk⟩
    .obtain⟨_,_,_,_,o,_,_,e,ex,_⟩:=I.hok p _ hk;exact#[o,e,ex]
    .obtain⟨_,_,_,_,o,_,_,e,ex,_⟩:=I.hok p _ hk;exact#[o,e,ex]
   obtain⟨o,e,ex⟩:=z;refine#[#[o,e,ex.1],λa e2=>?_];cases e2;exact#[o,e,ex.2.1]
  .obtain⟨o,_,_,_,e,ex,_⟩:=I.hok p _ hk;refine#[#[o,e,ex.1],λa e2=>?_];cases e2;exact#[o,e,ex.2.1]
 |_=>exact False.elim ty
def tBM0(K:Dr)(T:String)(r:V->List V->Hp->VK->Prop)(to:TE):TE:=λσ H Q=>to σ H λx H1=>tyV K T x H1/\r x [] H1 Q
def tBM(K:Dr)(T:String)(r:V->List V->Hp->VK->Prop)(to:TE)(t:TA):TE:=λσ H Q=>to σ H λx H1=>tyV K T x H1/\t σ H1 λxs H2=>r x xs H2 Q
variable {o e:Pu}{es:List Pu}{to:TE}{t:TA}{name:G8}{b7 a8:PK}{T id:String}{r:V->List V->Hp->VK->Prop}
def vO(pa:PlainAttrs T)(slot:Slot T name id)(HR:typeOf (.builtin id)=pure (.type "method_descriptor"))(hm:MtR X id r)(ho:PE X o to)
  (b9:autoParam (PF o name X.env (PM o X.env)=PM o X.env) zA0) (c7:autoParam ((b7.endLine==a8.line)=true) zA0):PE X (.Call (.Attribute o name b7) [] [] a8) (tBM0 X.K T r to):=by
 intro pins s σ H Q I h;refine wpAny_Call_method0_late b9 c7 (thn (ho pins s σ H _ I h) λv s1 b_=>?_);obtain⟨x,H1,I1,r1,ty,q1⟩:=b_;obtain⟨h1,h2⟩:=oX I1 r1 ty;exact#[T,id,pa,slot,HR,h1,h2,Calls.callWith_builtin rfl (PySem.evalArgs_none (hm pins s1 σ H1 x [] v [] Q I1 r1 .nil q1))]
def dW(pa:PlainAttrs T)(slot:Slot T name id)(HR:typeOf (.builtin id)=pure (.type "method_descriptor"))(hm:MtR X id r)(ho:PE X o to)(ha:PA X (e::es) t)
  (b9:autoParam (PF o name X.env (PM o X.env)=PM o X.env) zA0)
  (f8:((Qv a8 (PD (e::es) X.env)).all (λx=>!x.1)&&(QR a8 (Qt [] X.env)).all (λx=>x.1.isSome)
   && decide ((e::es).length+([]:List Rm).length+(if([]:List Rm).isEmpty then 0 else 1)<30))=true:=by rfl)
  (c7:autoParam ((b7.endLine==a8.line)=true) zA0) (hs:autoParam (zSE X e es) zA0) (o9:autoParam (zPL X a8 es) zA0):
  PE X (.Call (.Attribute o name b7) (e::es) [] a8) (tBM X.K T r to t):=by
 intro pins s σ H Q I h;refine wpAny_Call_method_late b9 f8 c7 rfl (thn (ho pins s σ H _ I h) λv s1 b_=>?_);obtain⟨x,H1,I1,r1,ty,q1⟩:=b_;obtain⟨h1,h2⟩:=oX I1 r1 ty;refine#[T,id,pa,slot,HR,h1,h2,?_];have hA:=ha a8 pins s1 σ H1 _ I1 q1;rw[hs]at hA ⊢;refine Calls.callWith_builtin (by show(false||(Qv a8 (PD es X.env)).any (·.1))=false;rw[o9]<;>rfl) (Calls.evalArgs_plain ?_);exact thn hA λus s2 ⟨vs,H2,I2,r2,q2⟩=>hm pins s2 σ H2 x vs v us Q I2 r1 r2 q2
end
def MtM(X:Cx)(id:String)(r:V->List V->Hp->VK->Prop):Prop:=
 ∀(pins:List (KF×PX)) (s:KB) (σ:St) (H:Hp) (x:V) (xs:List V) (v:GT) (us:List GT) (Q:VK),Inv X pins σ H s->RelV x v->Vals xs us->r x xs H Q->
  Px (Pt X.prog X.w) X.A (call (.builtin id) (v::us)) (EP X pins σ Q) X.xe s
def Vals.one:∀{x:V} {us:List GT},Vals [x] us->∃u,us=[u]/\RelV x u:=by
 intro x us h;cases h with
 |cons r h=>cases h;exact#[_,rfl,r]
def Vals.zero:∀{us:List GT},Vals [] us->us=[]
 |_,.nil=>rfl
def Vals.dropLast{xs:List V}{us:List GT}(h:Vals xs us):Vals xs.dropLast us.dropLast:=by
 induction h with
 |nil=>exact .nil
 |cons r t ih=>
  cases t with
  |nil=>exact .nil
  |cons q t'=>exact .cons r ih
def Vals.rep{xs:List V}{us:List GT}(h:Vals xs us):∀k:Nat,Vals (DG k xs).flatten (DG k us).flatten
 |0=>.nil
 |k+1=>by
  rw[Ee,Ee,Es,Es];exact Vals.append h (Vals.rep h k)
def vP{α:Type}(l:List α):l.eraseIdx (l.length-1)=l.dropLast:=by
 induction l with
 |nil=>rfl
 |cons a r ih=>
  cases r with
  |nil=>rfl
  |cons b r=>
   have e:(a::b::r).length-1=((b::r).length-1)+1:=by
    have h1:(a::b::r).length=r.length+2:=rfl;have h2:(b::r).length=r.length+1:=rfl;lia
   rw[e,List.eraseIdx_cons_succ,ih]
   all_goals rfl
def oY(its:List GT):∀(k:Nat) (f_:List GT),
  Fq (λx1 x2=>x1++x2) f_.toArray (DG k its.toArray)=(f_++(DG k its).flatten).toArray
 |0,f_=>by simp
 |k+1,f_=>by
  have e:f_.toArray++its.toArray=(f_++its).toArray:=HV
  have e2:(f_++its)++(DG k its).flatten=f_++(DG (k+1) its).flatten:=by
   rw[Ee,Es,D0]
  rw[<-e2,<-oY its k (f_++its),<-e,Ee,F5]
section
variable {X:Cx}{pins:List (KF×PX)}{σ:St}{H:Hp}{s:KB}{l b:KF}{xs ys zs:List V}
variable{its:List GT}
def Inv.lset{its':List GT}{n:Nat}{f:Array GT->Array GT}{t':Nat}(I:Inv X pins σ H s)(hH:H l=u5 (.lst xs))
  (e:s.heap.get? l=u5 {cls:=.type "list",data:=.seq its.toArray n}) (hf:f its.toArray=its'.toArray) (hv:Vals ys its') (hz:ys.length<=sizeLine):
  Inv X pins σ (upd H l (.lst ys)) {s with heap:=s.heap.update l (Obj.mapSeq f),toks:=t'}:=by
 have q:=PySem.IsL.update e f;rw[hf]at q;refine I.write (x:=l) (e:=l) (by rw[hH];exact trivial) (.inl rfl) (λb' u hb hu=>(Heap.get?_update_other s.heap (Obj.mapSeq f) (Ne.symm hb)).trans hu) #[_,q] ?_;exact#[hz,its',_,hv,q]
def Inv.lnew{t':Nat}(I:Inv X pins σ H s)(hv:Vals ys its)(hz:ys.length<=sizeLine):
  Inv X pins σ (upd H s.heap.objs.size (.lst ys)) {s with heap:=s.heap.push {cls:=.type "list",data:=.seq its.toArray},toks:=t'}:=
 I.laid (λ_ _ q=>Heap.get?_push_of_some _ q) (Dt _) #[hz,its,0,hv,Heap.get?_push_size _ rfl]
def Inv.fresh(I:Inv X pins σ H s):H s.heap.objs.size=none:=I.hok.fresh (Dt _)
def Inv.lstM(I:Inv X pins σ H s)(hH:H l=u5 (.lst xs)):xs.length<=sizeLine/\∃(its:List GT) (n:Nat),Vals xs its/\xs.length=its.length/\s.heap.get? l=u5 {cls:=.type "list",data:=.seq its.toArray n}:=by
 obtain⟨z,its,n,r,e⟩:=I.hok l _ hH;exact#[z,its,n,r,r.length,e]
def oZ{n:Nat}(h:n<=sizeLine):Builtin.List.listTooLong n=false:=by
 unfold Builtin.List.listTooLong;exact decide_eq_false HN
end
section
variable {X:Cx}
def vQ:V->List V->Hp->VK->Prop:=λx vs H Q=>∃l xs y,x=.ref l/\vs=[y]/\H l=u5 (.lst xs)/\xs.length<sizeLine/\Q .non (upd H l (.lst (xs++[y])))
def ja:MtM X "list.append" vQ:=by
 intro pins s σ H x vs v us Q I rx rv h;obtain⟨l,xs,y,rfl,rfl,hH,hz,q⟩:=h;cases rx;obtain⟨u,rfl,ru⟩:=rv.one;obtain⟨z,its,n,r,hl,e⟩:=I.lstM hH;refine QA F.slot_list_append #[_,e,rfl] F.entry_list_append (F.args_list_append_2 _ _) (PySem.list_append l its.toArray n u (by rw[Dz];lia)) #[e,?_];refine#[.non,_,I.lset (its':=its++[u]) hH e HV (r.append (.cons ru .nil)) ?_,rfl,q];rw[DB,Fs];lia
def vR:V->List V->Hp->VK->Prop:=λx vs H Q=>∃l b xs zs,x=.ref l/\vs=[.ref b]/\H l=u5 (.lst xs)/\H b=u5 (.lst zs)/\xs.length+zs.length<=sizeLine/\Q .non (upd H l (.lst (xs++zs)))
def vS:MtM X "list.extend" vR:=by
 intro pins s σ H x vs v us Q I rx rv h;obtain⟨l,b,xs,zs,rfl,rfl,hH,hB,hz,q⟩:=h;cases rx;obtain⟨u,rfl,ru⟩:=rv.one;cases ru;obtain⟨z,its,n,r,hl,e⟩:=I.lstM hH;obtain⟨z2,g_,n2,r2,C_,e2⟩:=I.lstM hB;have j3:its.toArray.size+g_.toArray.size<=sizeLine:=by rw[Dz,Dz];lia
 have v4:¬(!its.toArray.isEmpty&&Builtin.List.listTooLong (its.toArray.size+g_.toArray.size))=true:=by
  rw[oZ j3,Bool.and_false];exact DK
 refine QA F.slot_list_extend #[_,e,rfl] F.entry_list_extend (F.args_list_extend_2 _ _)
  (AutoSeq1.list_extend_list_list_0 l its.toArray n b g_.toArray n2 v4 (by rw[Dz];lia) HN) #[e,e2,?_]
 refine#[.non,_,I.lset (its':=its++g_) hH e HV (r.append r2) ?_,rfl,q];rw[DB];lia
def rPop:V->List V->Hp->VK->Prop:=λx vs H Q=>∃l xs y,x=.ref l/\vs=[]/\H l=u5 (.lst xs)/\xs[xs.length-1]?=u5 y/\Q y (upd H l (.lst xs.dropLast))
def vT:MtM X "list.pop" rPop:=by
 intro pins s σ H x vs v us Q I rx rv h;obtain⟨l,xs,y,rfl,rfl,hH,hy,q⟩:=h;cases rx;have Nn:=rv.zero;subst Nn;obtain⟨z,its,n,r,hl,e⟩:=I.lstM hH;obtain⟨u,hu,ru⟩:=r.get hy;have No:its.toArray[its.toArray.size-1]?=u5 u:=by
  show its.toArray[its.length-1]?=u5 u;rw[<-F6,<-hl];exact hu
 refine QA F.slot_list_pop #[_,e,rfl] F.entry_list_pop (F.args_list_pop_1 _) (MeetsSeq.list_pop_last l its.toArray n u No (by rw[Dz];lia)) #[e,?_];refine#[y,_,I.lset (its':=its.dropLast) hH e ?_ r.dropLast ?_,ru,q]
 .show its.toArray.eraseIdxIfInBounds (its.toArray.size-1)=its.dropLast.toArray;rw[Dz,List.eraseIdxIfInBounds_toArray,vP]
 .rw[List.length_dropLast];lia
def rCat:R2:=λx y H Q=>∃l b xs zs,x=.ref l/\y=.ref b/\H l=u5 (.lst xs)/\H b=u5 (.lst zs)/\xs.length+zs.length<=sizeLine/\∀p,H p=A'->Q (.ref p) (upd H p (.lst (xs++zs)))
def vU:OpR X (PR .Add) rCat:=by
 intro pins s σ H x y v u Q I rx ry h;obtain⟨l,b,xs,zs,rfl,rfl,hH,hB,hz,q⟩:=h;cases rx;cases ry;obtain⟨z,its,n,r,hl,e⟩:=I.lstM hH;obtain⟨z2,g_,n2,r2,C_,e2⟩:=I.lstM hB;refine PySem.P.add_list e e2 ?_ (by rw[Dz,Dz];lia);have ea:its.toArray++g_.toArray=(its++g_).toArray:=HV
 rw[ea];exact#[.ref _,_,I.lnew (t':=s.toks) (r.append r2) (by rw[DB];lia),rfl,q _ I.fresh]
def rRep:R2:=λx y H Q=>∃l k xs,x=.ref l/\y=.int k/\H l=u5 (.lst xs)/\-(2^63)<=k/\k<2^63/\xs.length*k.toNat<=sizeLine/\
 ∀p,H p=A'->Q (.ref p) (upd H p (.lst (DG k.toNat xs).flatten))
def vV{α:Type}(xs:List α)(k:Nat):(DG k xs).flatten.length=k*xs.length:=by
 induction k with
 |zero=>simp
 |succ k ih=>rw[Ee,Es,DB,ih,E3,Ft]
def pd:OpR X (PR .Mult) rRep:=by
 intro pins s σ H x y v u Q I rx ry h;obtain⟨l,k,xs,rfl,rfl,hH,h1,h2,hz,q⟩:=h;cases rx;obtain⟨t,rfl⟩:=ry;obtain⟨z,its,n,r,hl,e⟩:=I.lstM hH;have b8:its.toArray.size*k.toNat<=sizeLine:=by rw[Dz,<-hl];exact hz
 have J0:¬its.toArray.size*k.toNat>(2^63-1)/8:=by
  have:(sizeLine:Nat)<=(2^63-1)/8:=by decide
  lia
 have J1:¬(!Builtin.List.listFitsIndex k)=true:=by
  rw[fitsIndex_both h1 h2];exact DK
 have v4:¬Builtin.List.listTooLong (its.toArray.size*k.toNat)=true:=by
  rw[oZ b8];exact DK
 have J2:Fq (λx1 x2=>x1++x2) [].toArray (DG (if its.toArray.isEmpty=true then 0 else k.toNat) its.toArray)=(DG k.toNat its).flatten.toArray:=by
  have f0:∀m:Nat,Fq (λx1 x2=>x1++x2) [].toArray (DG m its.toArray)=(DG m its).flatten.toArray:=λm=>by
   have:=oY its m [];rw[Fu]at this;exact this
  rw[f0];cases its with
  |nil=>simp
  |cons a r'=>rw[if_neg HV]
 refine wpAny_binaryOp_repeat_ref (T:="list") (U:="int") G_ #[_,e,rfl] (λs'=>Rg s' k t) noFill_list_mul F.fills_int_mul F.slot_int_rmul repeat_list F.slot_int_index.lookup
  (QA F.slot_int_rmul (Rg s k t) F.entry_int_rmul (F.args_int_rmul_2 _ _) (int___rmul___int_list k t l its.toArray n)
   #[e,rfl,#[_,e,rfl],QA F.slot_list_mul #[_,e,rfl] F.entry_list_mul (F.args_list_mul_2 _ _) (AutoListH.list___mul___list_int_3 l its.toArray n k t J1 J0 v4) #[e,?_]])
 rw[J2];exact#[.ref _,_,I.lnew (t':=s.toks) (r.rep k.toNat) (by rw[vV,Fv];exact hz),rfl,q _ I.fresh]
end
end L2
namespace Mf
open PySem PySem.W PySem.Calls PyProof.Rows
variable{P:Params}
def vW{h:Heap}:∀(ns:List Int) (vs:List GT),WellAll P h vs (ns.map WData.int)->Q3 vs ns:=by
 intro ns;induction ns with
 |nil=>
  intro vs w;rw[EO]at w;cases w;exact .nil
 |cons n ns ih=>
  intro vs w;rw[DZ]at w;cases w with
  |cons a b=>
   cases a;exact .cons _ _ (ih _ b)
variable{l:OpenLaw}
def vX{n:Nat}(hn:l.most=u5 n){h:Heap}{args:List WData}{G9:List GT}
  (D':l.row.toRowW.claim.pre args=true) (J3:WellAll P h G9 args):
  ∃a vs ns,G9=[Value.ref a]/\args=[WData.list (ns.map WData.int)]/\h.get? a=u5 {cls:=.type "list",data:=.seq vs.toArray}/\Q3 vs ns/\ns.length<=n:=by
 have Np:WShape.hasAll [] args [.list .int]=true:=(pre_splitW D').1;have hc:l.pre.holds [] {args:=args}=true:=(pre_splitW D').2;obtain⟨d,r,rfl,h1,h2⟩:=hasAllW_cons Np;obtain rfl:=hasAllW_nil h2;obtain⟨xs,rfl,h3⟩:=hasW_list h1;obtain⟨ns,rfl⟩:=items_int h3;have b8:ns.length<=n:=by
  unfold OpenLaw.pre at hc;have h4:(WTm.not (.lt (.lit (.int (n:Int))) (.len (.arg 0)))).holds [] {args:=[.list (ns.map .int)]}=true:=by
   have h4:=(holds_andW hc).1;rw[hn]at h4;exact h4
  have h5:=condW_of h4 (w_not (w_lt w_lit (w_len_list (w_arg rfl))));rw[DJ]at h5;refine Fw λq=>?_;have q':(n:Int)<((ns.length:Nat):Int):=HN
  first
   |(rw[decide_eq_true q']at h5;exact absurd h5 G_)
   |(simp at h5;lia)
 cases J3 with
 |cons w1 w2=>
  cases w2;cases w1 with
  |list ho D_=>exact#[_,_,ns,rfl,rfl,ho,vW ns _ D_,b8]
def vY(l:OpenLaw)(args:List WData):l.row.toRowW.claim.post args (.bool true) args=true:=
 postW_of (r:=l.row.toRowW) (X:=(true==true))
  (show WShape.has [] (.bool true) .bool=true by first|rfl|decide|simp[WShape.has,WShape.arms,WShape.armsAll])
  (show(WTm.eq .res (.lit (.bool true))).value [] {args:=args,res:=u5 (.bool true),after:=args}=u5 (.bool (true==true))from w_eq_bool (w_res rfl) w_lit) rfl
def attach_call{n:Nat}{q:Pw}{j_:List G8}{XP:(G8->Option GT)->Heap->Prop}{YP:Pz->Heap->Prop}{d:DefRec}
  (hn:l.most=u5 n) (HS:d.params.defaults=[])
  (call:∀(w:Pz) (s₀ s₁:KB) (mg mb:G8->Option GT) (fa:KF) (o:PX) (pm cd doc:GT) (a:KF) (vs:List GT) (ns:List Int),
   Ground q j_ [] XP w s₀ mg mb s₁.heap->YP w s₁.heap->
   s₁.heap.get? fa=u5 o->o.data=.func (docDef d.name d.params d.body d.scope pm cd doc)->s₁.heap.CodeRec cd d.name->mg d.name=u5 (.ref fa)->
   s₁.heap.get? a=u5 {cls:=.type "list",data:=.seq vs.toArray}->Q3 vs ns->ns.length<=n->s₁.gens=[].toArray->
   Qz (Pt l.prog w) QD (.call (.ref fa) #[[.ref a],[]]) (λr s'=>r=.ok (.ret (.bool true))/\OldK s₁.heap s'.heap/\s'.os=s₁.os/\Qh s'.gens) s₁):
  WalkO q j_ XP YP l.row.toRowW d [] (λf vs=>PySem.call f vs):=by
 intro w s₀ s₁ mg mb G Y fa o pm cd doc dV kV ho hd i8 hD n9 hg args G9 as D' Nq OY J3 OZ;obtain rfl:dV=.none:=Dflts.none hD HS;obtain rfl:kV=.none:=Dflts.noKw hD;obtain⟨a,vs,ns,rfl,rfl,G',v5,b8⟩:=vX hn D' J3;refine enter_call (Qe (call w s₀ s₁ mg mb fa o pm cd doc a vs ns G Y ho (fd_plain hd) i8 n9 G' v5 b8 hg) λr s' hq=>?_);obtain⟨rfl,h2,h3,h4⟩:=hq;exact#[.inl #[.bool true,.bool true,[],rfl,λ_=>rfl,.bool true,vY l _,λ_=>#[List.Pairwise.nil,λ_ hm=>(nomatch hm)]],h2,h3,h4]
end Mf
namespace L2
open PySem PySem.Spec PyProof.Rows
def pe:∀{vs:List GT} {ns:List Int},Q3 vs ns->Vals (ns.map V.int) vs
 |_,_,.nil=>.nil
 |_,_,.cons n t h=>.cons #[t,rfl] (pe h)
def Only(H:Hp):Prop:=∀b,H b=A'\/∃o xs,H b=u5 (.frz o (.lst xs))
variable{k:Nat}
def vZ{P:Pw}{w:Pz}{K:Dr}{mg mb:G8->Option GT}{CX:CXT}{fa a:KF}{fd:PH}{x:G8}{sp:Sp}{s₁:KB}{vs:List GT}{ns:List Int}
  (KX:K.In s₁.heap) (hns:s₁.heap.Ns Os mg) (hb:s₁.heap.Ns Rh mb) (Nr:∀x:G8,x≠"__name__"->mb x=PY x) (J4:s₁.heap.NoLimit) (hg:s₁.gens=[].toArray)
  (ha:s₁.heap.get? a=u5 {cls:=.type "list",data:=.seq vs.toArray}) (hi:Q3 vs ns) (hl:ns.length<=sizeLine) (hr:Room k QD)
  (F:∀base:Heap,K.In base->base.Ns Os mg->FnOk P w K mg base CX k fa fd [x] sp) (HU:∀(s:KB) (u:GT),QF s fd #[[u],[]] [(x,u)])
  (v3:∀H:Hp,Only H->SqL K H a (ns.map V.int)->sp [.ref a] H (λv _=>v=.bl true) λ_ _ _=>False)
  (J5:∀H e s',CX [] H s₁ (λ_ _ _=>False) e s'->False):
  Qz (Pt P w) QD (.call (.ref fa) #[[.ref a],[]]) (λr s'=>r=.ok (.ret (.bool true))/\OldK s₁.heap s'.heap/\s'.os=s₁.os/\Qh s'.gens) s₁:=by
 have rv:=pe hi;have J6:=hi.length;have HW:∀H:Hp,Only H->SqL K H a (ns.map V.int)->HOk P w H s₁.heap->(∀b,H b≠A'->b=a)->(H a≠A'->K.lookup a=A')->
   Qz (Pt P w) QD (.call (.ref fa) #[[.ref a],[]]) (λr s'=>r=.ok (.ret (.bool true))/\OldK s₁.heap s'.heap/\s'.os=s₁.os/\Qh s'.gens) s₁:=by
  intro H hO hS hok hA hK;have p_:∀{b:KF} {o:PX},s₁.heap.get? b=u5 o->H b=A'->(hidT s₁.heap H).get? b=u5 o:=λe n=>sZ e n;have HP:∀{b:KF} {o:PX} {es:Array DictEntry} {ep:Nat},s₁.heap.get? b=u5 o->o.data=.dict es ep->H b=none:=λ{b o es ep} e d=>by
   cases q:H b with
   |none=>rfl
   |some u=>
    have e':b=a:=hA b (by rw[q];simp);subst e';rw[ha]at e;cases e;have d':Data.seq vs.toArray _=Data.dict es ep:=d;cases d'
  have Jg:∀{b:KF} {m:G8->Option GT},s₁.heap.Ns b m->(hidT s₁.heap H).Ns b m:=λ{b m} ⟨o,es,ep,e,d,r⟩=>#[o,es,ep,p_ e (HP e d),d,r];have Mh:K.In (hidT s₁.heap H):=λb o e=>p_ (KX b o e) (by
   cases q:H b with
   |none=>rfl
   |some u=>
    have e':b=a:=hA b (by rw[q];simp);subst e';rw[hK (by rw[q];simp)]at e;cases e)
  have hM:Mod K mg (hidT s₁.heap H):=#[Mh,Jg hns,#[mb,Jg hb,Nr],let ⟨mc,h1,h2⟩:=J4;#[mc,Jg h1,h2]];have e0:Env0 P w K mg (hidT s₁.heap H) QD [] s₁ H:=#[rfl,hM,λb o e=>tf e,E1 (sY _ _),trivial,λb hb=>absurd (show b∈([]:List KF)from hb) HV,hok,.of_eq hg];refine Qe ((F _ Mh (Jg hns)).run QD [] s₁ H #[[.ref a],[]] [.ref a] [.ref a] _ _ hr e0 (HU s₁ (.ref a)) (.cons rfl .nil) (v3 H hO hS)) λr s' h=>?_;cases r with
  |error e=>exact(J5 H e s' h).elim
  |ok fl=>
   cases fl with
   |next=>exact False.elim h
   |brk=>exact False.elim h
   |cont=>exact False.elim h
   |ret u=>
    obtain⟨v,H',os,bare,un,J7,r',q⟩:=h;have q':v=.bl true:=q;subst q';obtain rfl:u=Value.bool true:=r';refine#[rfl,OldK.of_keep λb o e=>?_,os,bare];cases q:H b with
    |none=>exact un.keep b o e q (by intro z;exact absurd (show b∈([]:List KF)from z) HV) HV
    |some u=>
     rcases hO b with z|⟨ob,xs,z⟩
     .rw[q]at z;cases z
     .have z2:=un.frzs b ob _ z;obtain⟨e1,_⟩:=hok b _ z;obtain⟨e2,_⟩:=J7 b _ z2;rw[e]at e1;cases e1;exact e2
 cases hk:K.lookup a with
 |some o=>
  have e:=KX a o hk;rw[ha]at e;cases e;refine HW (λ_=>A') (λ_=>.inl rfl) (.inr #[_,vs.toArray,_,hk,rfl,rfl,rfl,by rw[Dz,J6];exact hl,by simpa using rv]) (λb u z=>by have z':(A':Option HO)=u5 u:=z;cases z') (λb z=>absurd rfl z) λz=>absurd rfl z
 |none=>
  refine HW (λb=>if b=a then u5 (.frz {cls:=.type "list",data:=.seq vs.toArray} (.lst (ns.map V.int)))else A') (λb=>?_) (.inl (.inr #[{cls:=.type "list",data:=.seq vs.toArray},if_pos rfl])) (λb u z=>?_) (λb z=>?_) λ_=>hk
  .by_cases hb:b=a
   .exact .inr #[_,_,if_pos hb]
   .exact .inl (if_neg hb)
  .by_cases hb:b=a
   .have z':=(if_pos hb).symm.trans z;cases z';subst hb;exact#[ha,by rw[DJ];exact hl,vs,_,rv,ha]
   .have z':=(if_neg hb).symm.trans z;cases z'
  .by_cases hb:b=a
   .exact hb
   .exact absurd (if_neg hb) z
def walk_of{l:Fx}{n:Nat}{q:Pw}{j_:List G8}{XP:(G8->Option GT)->Heap->Prop}{YP:Pz->Heap->Prop}{d:DefRec}{K:Params->Dr}{CX:Pz->CXT}{sp:Pz->Sp}{x:G8}
  (hn:l.most=u5 n) (y':n<=sizeLine) (HS:d.params.defaults=[]) (hr:Room k QD)
  (hY:∀(w:Pz) (h:Heap),YP w h->(K w.params).In h)
  (F:∀(w:Pz) (mg:G8->Option GT) (fa:KF) (h:Heap),(K w.params).In h->h.Ns Os mg->mg d.name=u5 (.ref fa)->
   ∃fd:PH,(∀(s:KB) (u:GT),QF s fd #[[u],[]] [(x,u)])/\
    ∀base:Heap,(K w.params).In base->base.Ns Os mg->FnOk l.prog w (K w.params) mg base (CX w) k fa fd [x] (sp w))
  (v3:∀(w:Pz) (H:Hp) (a:KF) (ns:List Int),ns.length<=n->Only H->SqL (K w.params) H a (ns.map V.int)->sp w [.ref a] H (λv _=>v=.bl true) λ_ _ _=>False)
  (J5:∀(w:Pz) (H:Hp) (s:KB) (e:GT) (s':KB),CX w [] H s (λ_ _ _=>False) e s'->False):
  F7 q j_ XP YP l.row.toRowW d [] (λf vs=>PySem.call f vs):=by
 refine Mf.attach_call hn HS λw s₀ s₁ mg mb fa o pm cd doc a vs ns G Y ho hd i8 n9 G' v5 b8 hg=>?_;have KX:=hY w _ Y;obtain⟨fd,hb,hF⟩:=F w mg fa _ KX G.T.g n9;exact vZ KX G.T.g G.T.b G.T.builtins G.T.nolimit hg G' v5 (Dy b8 y') hr hF hb (λH hO hS=>v3 w H a ns b8 hO hS) λH e s'=>J5 w H s₁ e s'
def bB(s:Py)(j:Nat):Py:=match s with
 |.ClassDef _ _ _ body _ _ _ _ _ _ _=>body.getD j (.Pass #[0,0,0,0])
 |_=>.Pass #[0,0,0,0]
def bI(s:Py):Arguments:=match s with
 |.FunctionDef _ a _ _ _ _ _ _ _ _=>a
 |_=>{posonlyargs:=[],args:=[],vararg:=A',kwonlyargs:=[],kw_defaults:=[],kwarg:=A',defaults:=[]}
def aP(s:Py):List Py:=match s with
 |.FunctionDef _ _ b _ _ _ _ _ _ _=>b
 |_=>[]
def ag(s:Py):P4:=match s with
 |.FunctionDef _ _ _ _ _ _ sc _ _ _=>sc
 |_=>{kind:=.function,names:=[],isGenerator:=false,isCoroutine:=false}
abbrev E0:XK:=λ_ _ _=>False
structure FunG(K:Dr)(dV:GT)(x qual:Str)(st:Py)(f:KF)(fd:PH):Prop where
 ex:∃(oc:GT) (od:Option KF) (kV doc pm:GT) (an:Option KF) (cdv ct:GT) (osl:Array (Option GT)),
  fd=fnOf x qual (bI st) (aP st) (ag st) dV kV doc pm an cdv ct/\K.lookup f=u5 #[oc,od,.func fd,osl]/\codeIn K cdv qual=true
 kp:keepIn K (.ref f)=true
abbrev Fun(K:Dr):G8->G8->Py->KF->PH->Prop:=FunG K .none
section
variable {P:Pw}{w:Pz}{K:Dr}{mg:G8->Option GT}{base:Heap}
def Fun.binds{x qual:G8}{st:Py}{f:KF}{fd:PH}{ps:List G8}(F:Fun K x qual st f fd)
  (h:∀(kV doc pm:GT) (an:Option KF) (cdv ct:GT) (us:List GT),us.length=ps.length->Qa (fnOf x qual (bI st) (aP st) (ag st) .none kV doc pm an cdv ct) #[us,[]]=pure (ps.zip us)):Binds K fd ps []:=by
 obtain⟨oc,od,kV,doc,pm,an,cdv,ct,osl,rfl,lk,i8⟩:=F.ex;exact .all (h kV doc pm an cdv ct)
def gj{x qual:G8}{st:Py}{f:KF}{oc:GT}{od an:Option KF}{osl:Array (Option GT)}{kV doc pm cdv ct:GT}(l:K.lookup f=u5 #[oc,od,.func (fnOf x qual (bI st) (aP st) (ag st) .none kV doc pm an cdv ct),osl])
  (c:codeIn K cdv qual=true) (k:keepIn K (.ref f)=true):Fun K x qual st f (fnOf x qual (bI st) (aP st) (ag st) .none kV doc pm an cdv ct):=#[#[oc,od,kV,doc,pm,an,cdv,ct,osl,rfl,l,c],k]
end
def fq{A:PB}(hr:Room k A):A.units+1<QE:=E4 (Nat.add_le_add_left (G_:1<=64) _) hr.units
def wa{n:Nat}(h:n<=1000):n<sizeLine:=E4 h G_
variable{A B:Prop}
def iteF(h:B):if false=true then A else B:=by
 rw[if_neg DK];exact h
def iteT(h:A):if true=true then A else B:=by
 rw[if_pos rfl];exact h
def ite2{c:Prop}[Decidable c](h1:c->A)(h2:¬c->B):if c then A else B:=by
 by_cases h:c
 .rw[if_pos h];exact h1 h
 .rw[if_neg h];exact h2 h
def Same(H H':Hp):Prop:=∀b o,H b=u5 o->H' b=u5 o
def Same.refl(H:Hp):Same H H:=λ_ _ h=>h
variable{H:Hp}
def Same.trans{H1 H2:Hp}(a:Same H H1)(b:Same H1 H2):Same H H2:=λc o h=>b c o (a c o h)
def Same.free{H':Hp}(e:Same H H'){l:KF}(h:H' l=Option.none):H l=Option.none:=by
 cases q:H l with
 |none=>rfl
 |some o=>
  rw[e l o q]at h;cases h
def Same.seq{K:Dr}{H':Hp}{a:KF}{xs:List V}(e:Same H H')(h:SqL K H a xs):SqL K H' a xs:=by
 rcases h with(h|⟨o,h⟩)|h
 .exact .inl (.inl (e _ _ h))
 .exact .inl (.inr #[o,e _ _ h])
 .exact .inr h
end L2
end
section
open PySem PySem.Spec PyProof.Rows L2
namespace Exc
open PySem PySem.Spec PyProof.Rows PySem.W L2
def aL:List GT->Bool
 |.ref _::r=>aL r
 |l=>l==[.type "ValueError",.type "Exception",.type "BaseException",.type "object"]
def pf(self:GT):∀{l:List GT},aL l=true->refuseLoop self "__setattr__" l=pure ()
 |.ref c::r,e=>by rw[refuseLoop_ref];exact pf self (by unfold aL at e;exact e)
 |[],e=>by simp[aL]at e
 |.type n::r,e=>by
  have e':(Value.type n::r)=[.type "ValueError",.type "Exception",.type "BaseException",.type "object"]:=by simpa[aL]using e
  rw[e'];exact PySem.F.store_ValueError.passes self
 |.none::r,e=>by simp[aL]at e
 |.bool _::r,e=>by simp[aL]at e
 |.int _ _::r,e=>by simp[aL]at e
 |.float _ _::r,e=>by simp[aL]at e
 |.str _ _::r,e=>by simp[aL]at e
 |.bytes _ _::r,e=>by simp[aL]at e
 |.builtin _::r,e=>by simp[aL]at e
def fu{T:String}(hT:[Value.type "ValueError",.type "Exception",.type "BaseException",.type "object"].contains (.type T)=true):∀{l:List GT},aL l=true->l.contains (.type T)=true
 |.ref c::r,e=>by rw[Fy,fu hT (l:=r) (by unfold aL at e;exact e),E5]
 |[],e=>by simp[aL]at e
 |.type n::r,e=>by
  have e':(Value.type n::r)=[.type "ValueError",.type "Exception",.type "BaseException",.type "object"]:=by simpa[aL]using e
  rw[e'];exact hT
 |.none::r,e=>by simp[aL]at e
 |.bool _::r,e=>by simp[aL]at e
 |.int _ _::r,e=>by simp[aL]at e
 |.float _ _::r,e=>by simp[aL]at e
 |.str _ _::r,e=>by simp[aL]at e
 |.bytes _ _::r,e=>by simp[aL]at e
 |.builtin _::r,e=>by simp[aL]at e
section
variable {prog:Pw}{w:Pz}{A:PB}{E:GT->KB->Prop}{s:KB}{K:Dr}{x C:KF}{ox:PX}{cd:ClassData}{name:G8}{v:GT}{vs:Array GT}
def wc{Q:Unit->KB->Prop}(X:K.In s.heap)(hx:s.heap.get? x=u5 ox)(k9:ox.cls=.ref C)(Ha:ox.data=.fields vs)(hd:ox.dict=A')(hc:clsIn K C=u5 cd)(hm:aL cd.mro=true)(hh:cd.hasDict=true)
  (hs:findIn K (.ref C) "__setattr__"=u5 (u5 (.builtin "object.__setattr__"))) (hf:findIn K (.ref C) name=u5 A')
  (h:∀h',h'.get? x=u5 {ox with dict:=u5 s.heap.objs.size}->h'.Ns1 s.heap.objs.size (λy=>if y=name then u5 v else A')->(∀b o,b≠x->s.heap.get? b=u5 o->h'.get? b=u5 o)->∀tk,Q () {s with heap:=h',toks:=tk}):
  Px (Pt prog w) A (setAttr (.ref x) name v) Q E s:=by
 have hn:notCls ox=true:=by unfold notCls;rw[Ha]
 have I:InstAt s.heap x ox C none:=#[hx,k9,hn,by rw[hd];trivial];refine set_plain X I hs ?_;have SF:=PySem.F.store_object;have ne:cd.mro.isEmpty=false:=O0
 have sub:Looks (Pt prog w) s.heap (QN (.ref x) (.type "object")) true:=I.type.andThen (looks_mroIn X (by unfold mroIn;rw[hc,E6,if_neg (by rw[ne];decide),fu Hd hm]));refine Qu SF.slot.plain SF.entry (@check_slot (Pt prog w) _ _ _ "object.__setattr__" "object" "__setattr__" (.ref x) [.str name s.toks,v] [] _ SF.kind SF.split sub (SF.args (.ref x) (.str name s.toks) v) ?_);have J8:Looks (Pt prog w) s.heap (mroOf (.ref C)) cd.mro:=(looks_clsIn X hc).andThen .now;rw[osa_eq,refuse_eq];refine KM (KM (I.type.here (s:={s with toks:=s.toks+1}) (KM (J8.here (s:={s with toks:=s.toks+1}) ?_))));rw[pf _ hm];refine Pi (KM (I.type.here (s:={s with toks:=s.toks+1}) (KM ((looks_findIn X hf).here (s:={s with toks:=s.toks+1}) (KM (Looks.now.here (s:={s with toks:=s.toks+1}) ?_))))));obtain⟨oc,Nt,Nu,osl⟩:=ox;dsimp only at k9 hd Ha;subst k9 hd Ha;refine KM (Pi (KM (KM (wpAny_loadPart hx (KM ((looks_clsIn X hc).here (s:={s with toks:=s.toks+1}) ?_))))));rw[hh];rw[if_neg G_];have hx₁:(s.heap.push {cls:=.type "dict",data:=.dict [].toArray}).get? x=u5 #[.ref C,A',.fields vs,osl]:=Heap.get?_push_of_some _ hx;have Mi:x≠s.heap.objs.size:=DF (Heap.lt_size hx);show Px _ _ (do
  let d <-alloc {cls:=Value.type "dict",data:=Data.dict [].toArray}
  update x λo=>{cls:=o.cls,dict:=u5 d,data:=o.data,slots:=o.slots}
  dictMade (.ref C) x d) _ _ _
 refine KM (wpAny_alloc' ?_);refine KM (wpAny_update' hx₁ ?_);refine Pi ?_;have Nv:((s.heap.push {cls:=.type "dict",data:=.dict [].toArray}).update x λo=>{cls:=o.cls,dict:=u5 s.heap.objs.size,data:=o.data,slots:=o.slots}).get? s.heap.objs.size
   =u5 {cls:=.type "dict",data:=.dict [].toArray}:=
  (Heap.get?_update_ne _ _ _ _ Mi.symm).trans (Heap.get?_push_at rfl rfl)
 have Nw:((s.heap.push {cls:=.type "dict",data:=.dict [].toArray}).update x λo=>{cls:=o.cls,dict:=u5 s.heap.objs.size,data:=o.data,slots:=o.slots}).Ns s.heap.objs.size (λ_=>A'):=
  #[_,[].toArray,_,Nv,rfl,λe he=>absurd he HV,λ_=>rfl]
 show Px _ _ (Builtin.ObjectAttr.storeInDict s.heap.objs.size (.str name s.toks) name v) _ _ _;unfold Builtin.ObjectAttr.storeInDict Builtin.ObjectAttr.newKeyGuard;refine KM (Pi (KM (wpAny_nsSet1 (Heap.Ns1.of_empty Nw) λh' j9 hs=>?_)));obtain⟨oD,Nh,Ni,JW,JX,JY⟩:=j9.count (Within.cons name v Within.nil);refine KM (wpAny_lookBehind JW (by rw[JX];exact pastItsLine_dict (Dy JY (by rw[Du,Et,Qq];lia))) ?_);refine Pi (h h' ?_ j9 (λb o hb q=>?_) _)
 .exact(hs.2 x Mi).trans (Heap.get?_update_self _ hx₁ rfl)
 .exact(hs.2 b (DF (Heap.lt_size q))).trans ((Heap.get?_update_ne _ _ _ _ hb).trans (Heap.get?_push_of_some _ q))
variable{Q:GT->KB->Prop}
def we{od:PX}{u9:Bool}(X:K.In s.heap)(I:InstAt s.heap x ox C (u5 od))(hc:clsIn K C=u5 cd)(hm:aL cd.mro=true)
  (Ny:findIn K (.ref C) "__getattribute__"=u5 (u5 (.builtin "BaseException.__getattribute__"))) (Nz:findIn K (.ref C) "__getattr__"=u5 A')
  (hf:findObj K C (u5 od) name=u5 (.value v)) (hh:handedIn v=true) (h:∀tk,Q v {s with toks:=tk}):Px (Pt prog w) A (Q0 (.ref x) name u9) Q E s:=by
 have FB:=PySem.F.attr_ValueError;obtain⟨hp,g,d,t,os⟩:=s;have L0:=I.type (M:=Pt prog w);have L1:=looks_findIn (M:=Pt prog w) X Ny;have L2:=looks_findIn (M:=Pt prog w) X Nz;have L3:=looks_find (M:=Pt prog w) X I hf;have f3:=FB.ga.bind (.ref x);have ne:cd.mro.isEmpty=false:=O0
 have sub:Looks (Pt prog w) hp (QN (.ref x) (.type "BaseException")) true:=I.type.andThen (looks_mroIn X (by unfold mroIn;rw[hc,E6,if_neg (by rw[ne];decide),fu Hd hm]));unfold Q0 getAttrBy;refine KM (wpAny_mkText (P9 (KM (L0.at (KM (L1.at ?_))))));dsimp only;have Jh:(onTheHeap (Value.ref C)&&Value.builtin "BaseException.__getattribute__"==Value.builtin "object.__getattribute__")=false:=by
  have u6:(Value.builtin "BaseException.__getattribute__"==Value.builtin "object.__getattribute__")=false:=Hd
  rw[u6];rfl
 have NA:(u9&&onTheHeap (Value.builtin "BaseException.__getattribute__"))=false:=by cases u9<;>rfl
 rw[Jh,if_neg DK];unfold getAttrByItsOwn hookBefore;rw[show onTheHeap (Value.ref C)=true from rfl,if_pos rfl];refine KM (L2.at ?_);unfold callGetattribute;rw[NA,if_neg DK];unfold boundAndCalled;refine KM (wpAny_attempt (P9 (KM (Q6 f3 ?_))));refine Qf (Qu FB.ga.plain PySem.F.entry_bexc_ga (@check_slot (Pt prog w) _ _ _ "BaseException.__getattribute__" "BaseException" "__getattribute__" (.ref x) [.str name t] [] _ Hd Hd sub (PySem.F.args_bexc_ga _ _) ?_));unfold Builtin.«object.__getattribute__»;refine KM (Q6 (a:=(Value.ref x,[Value.str name t])) rfl ?_);refine KM (Q6 (a:=name) rfl ?_);refine KM (L0.at (KM (L3.at ?_)));refine Pi ?_;show Px _ _ (handedOut v) _ _ _;rw[handedOut_of hh];exact Pi (h _)
def wg{rest:List GT}{t0:KF}{a1 a2 a3 a4 a5:GT}(X:K.In s.heap)(hx:s.heap.get? x=u5 ox)(k9:ox.cls=.ref C)(Ha:ox.data=.fields [.ref t0,a1,a2,a3,a4,a5].toArray)(hc:clsIn K C=u5 cd)(hm:aL cd.mro=true)(hl:rest.length<=sizeLine)
  (h:∀h',h'.get? x=u5 {ox with data:=.fields [.ref s.heap.objs.size,a1,a2,a3,a4,a5].toArray}->(∀b o,b≠x->s.heap.get? b=u5 o->h'.get? b=u5 o)->Q .none {s with heap:=h'}):
  Px (Pt prog w) A (call (.builtin "ValueError.__init__") (.ref x::rest)) Q E s:=by
 have F:=PySem.F.excBase_ValueError;have hn:notCls ox=true:=by unfold notCls;rw[Ha]
 have ht:Looks (Pt prog w) s.heap (typeOf (.ref x)) (.ref C):=k9 ▸ (Looks.ld hx).andThen .now;have ne:cd.mro.isEmpty=false:=O0
 have sub:Looks (Pt prog w) s.heap (QN (.ref x) (.type "ValueError")) true:=ht.andThen (looks_mroIn X (by unfold mroIn;rw[hc,E6,if_neg (by rw[ne];decide),fu Hd hm]));have NB:∀{Q:Unit->KB->Prop} {E:GT->KB->Prop} {A:PB},Q () s->Px (Pt prog w) A (checkBuiltinCall "ValueError.__init__" #[.ref x::rest,[]]) Q E s:=λ{Q E A} hq=>by
  have J9:=F.noStar;simp only[checkBuiltinCall,F.initKind,F.initSplit,F.initRow];refine KM (sub.here ?_);obtain⟨hp,g,d,t,os⟩:=s;have Lc:=looks_clsIn (M:=Pt prog w) X hc
  repeat(first|(with_reducible refine PU hx ?_;rw[k9])|(with_reducible refine Lc.here ?_)|wp_step)
  refine wpAny_onRaise ?_;rw[show ∀(a b:String) (n:Nat),Bind.check #[.positional,"*","ValueError",.self,[#["args",.varPos,false]]] a b n (List.map (λx=>x.fst) ({pos:=Value.ref x::rest}:Args).kw)=pure ()from
   λa b n=>check_star_args _ _ _ _ _ _]
  exact Pi hq
 refine Qf (Qu F.init.plain F.initEntry (NB ?_));obtain⟨hp,g,d,t,os⟩:=s;obtain⟨oc,Nt,Nu,osl⟩:=ox;dsimp only at k9 Ha hx h;subst k9 Ha
 wp_walk
 have hx₁:=Heap.get?_push_of_some {cls:=Value.type "tuple",data:=Data.seq rest.toArray} hx;refine h _ ?_ (λb o hb q=>?_)
 .rw[Heap.get?_update_self _ hx₁ rfl];rfl
 .rw[Heap.get?_update_other _ _ (Ne.symm hb)];exact Heap.get?_push_of_some _ q
end
abbrev veLine:List GT:=[.type "ValueError",.type "Exception",.type "BaseException",.type "object"]
section
variable {prog:Pw}{w:Pz}{A:PB}{E:GT->KB->Prop}{h:Heap}{g:Array Q_}{d:Drawn}{t:Nat}{os:OsState}{K:Dr}
variable {nm q:G8}{C N fI:KF}{bs bm:List GT}{hdct:Bool}{sn:List G8}{sub:List GT}{ab:Bool}{col:Option Bool}{dd:Option KF}{k0 k1 k2 k3 k5:Option GT}{rest:List GT}
def wj{Q:Fin->KB->Prop}(X:K.In h)(T:OwnTail h veLine bm)(hC:h.get? C=u5 (P0 nm q C N bs bm hdct sn sub ab col dd k0 k1 k2 k3 k5 "ValueError.__new__"))
  (hi:findIn K (.ref C) "__init__"=u5 (u5 (.ref fI))) (hf:typeIn K (.ref fI)=u5 (.type "function"))
  (hq:∀h' e,Heap.MadeExcOf h h' e (.ref C) rest->Px (Pt prog w) A (call (.ref fI) (.ref e::rest)) (λr s'=>r=.none/\Q (.done (.ret (.ref e))) s') E #[h',g,d,t,os]) (hl:rest.length<=sizeLine):
  Px (Pt prog w) A (Builtin.«type.__call__» #[.ref C::rest,[]]) Q E #[h,g,d,t,os]:=by
 have F:=PySem.F.excBase_ValueError
 repeat(first|(with_reducible refine PU hC ?_)|(with_reducible refine wpAny_madeBy_exc hC ?_)|wp_step)
 refine codeAny_call_builtin_code (Code.quiet_builtin _ F.quiet) (wpAny_check_new_subT F T hC (codeAny_exc_new_subT F T hC ?_ hl));have kp:∀b o,h.get? b=u5 o->((h.push {cls:=.type "tuple",data:=.seq rest.toArray}).push {cls:=.ref C,data:=.fields [.ref h.objs.size,.none,.none,.none,.bool false,.none].toArray}).get? b=u5 o:=λb o e=>Heap.get?_push_of_some _ (Heap.get?_push_of_some _ e);have NC:=kp _ _ hC;have X1:K.In _:=X.keeps kp;have he:((h.push {cls:=.type "tuple",data:=.seq rest.toArray}).push {cls:=.ref C,data:=.fields [.ref h.objs.size,.none,.none,.none,.bool false,.none].toArray}).get? (h.objs.size+1)=u5 {cls:=.ref C,data:=.fields [.ref h.objs.size,.none,.none,.none,.bool false,.none].toArray}:=by heap_get
 have ND:(Value.ref C::bm).contains (.ref C)=true:=HV
 have L1:=looks_findIn (M:=Pt prog w) X1 hi;have L2:=bind_fn (M:=Pt prog w) X1 (.ref (h.objs.size+1)) hf;show Px _ _ _ _ _ _;unfold QN
 repeat(first|(with_reducible refine PU he ?_)|(with_reducible refine Qd NC ?_;rw[ND])|wp_step)
 refine L1.at ?_;refine P9 (KM (L2.at ?_));refine KM (PP (hq _ (h.objs.size+1) #[kp,Heap.get?_none_of_le (Ex _),h.objs.size,he,Heap.get?_none_of_le (Dt _),Heap.get?_push_of_some _ (Heap.get?_push_at rfl rfl)]) (λr s' hr=>?_) λ_ _ x=>x);obtain⟨rfl,hQ⟩:=hr;refine Pi ?_;exact Pi hQ
def wk{Q:GT->KB->Prop}(X:K.In h)(T:OwnTail h veLine bm)(hC:h.get? C=u5 (P0 nm q C N bs bm hdct sn sub ab col dd k0 k1 k2 k3 k5 "ValueError.__new__"))
  (hi:findIn K (.ref C) "__init__"=u5 (u5 (.ref fI))) (hf:typeIn K (.ref fI)=u5 (.type "function"))
  (hq:∀h' e,Heap.MadeExcOf h h' e (.ref C) rest->Px (Pt prog w) (A.under (.builtin "type.__call__" #[.ref C::rest,[]])) (call (.ref fI) (.ref e::rest)) (λr s'=>r=.none/\Q (.ref e) s') E #[h',g,d,t,os]) (hl:rest.length<=sizeLine):
  Px (Pt prog w) A (call (.ref C) rest) Q E #[h,g,d,t,os]:=by
 have f1:=tc_lookup;have f2:=tc_bind (.ref C);have hT:(#[h,g,d,t,os]:KB).TypeIs (.ref C) "type":=#[_,hC,rfl];refine Qf (codeAny_of_tree ?_);show Px _ _ (callAny (.ref C) _) _ _ _
 repeat(any_goals (first|(with_reducible refine PU hC ?_)|assumption|wp_step))
 exact#[rfl,codeAny_call_builtin_at (Code.quiet_builtin _ Hd) entry_typeCall (wpAny_check_type_call_sub hC (wj X T hC hi hf (λh' e hm=>hq h' e hm) hl))]
end
section
variable {prog:Pw}{w:Pz}{A:PB}{E:GT->KB->Prop}{s:KB}{env:Ql}
variable {nm q:G8}{C N:KF}{bs bm:List GT}{hdct:Bool}{sn:List G8}{sub:List GT}{ab:Bool}{col:Option Bool}{dd:Option KF}{k0 k1 k2 k3 k5:Option GT}{newId:String}
variable{Q:Flow->KB->Prop}
def wl{x:Q5 GT}(b9:bm.contains (.type "BaseException")=true)(hh:A.handled=A')
  (h:Px (Pt prog w) A x (λv s₁=>∃e t od sl,v=.ref e/\s₁.heap.get? C=u5 (P0 nm q C N bs bm hdct sn sub ab col dd k0 k1 k2 k3 k5 newId)/\
   s₁.heap.get? e=u5 #[.ref C,od,.fields [.ref t,.none,.none,.none,.bool false,.none].toArray,sl]/\E (.ref e) s₁) E s):
  Px (Pt prog w) A (raiseStmt env (u5 x) A') Q E s:=by
 have J_:(Value.ref C::bm).contains (.type "BaseException")=true:=by rw[Fy,b9,E5]
 unfold raiseStmt;refine KM (PP h (λv s₁ h₁=>?_) λ_ _ x=>x);obtain⟨e,t,od,sl,rfl,hC,he,hE⟩:=h₁;obtain⟨hp,g,d,tk,os⟩:=s₁
 repeat(first|(with_reducible refine PU he ?_)|(with_reducible refine PU hC ?_)|(with_reducible refine Qd hC ?_;rw[J_])|wp_step)
 exact wpAny_raiseNew_none hh hE
def ph{x:Pu}{pos:PK}(b9:bm.contains (.type "BaseException")=true)(hh:A.handled=A')
  (h:Px (Pt prog w) A (PM x env) (λv s₁=>∃e t od sl,v=.ref e/\s₁.heap.get? C=u5 (P0 nm q C N bs bm hdct sn sub ab col dd k0 k1 k2 k3 k5 newId)/\
   s₁.heap.get? e=u5 #[.ref C,od,.fields [.ref t,.none,.none,.none,.bool false,.none].toArray,sl]/\E (.ref e) s₁) E s):
  Px (Pt prog w) A (exec (.Raise (u5 x) A' pos) env) Q E s:=by
 rw[arm_exec_Raise];show Px (Pt prog w) A (do Qx pos;raiseStmt env (u5 (do let v <-PM x env;Qx pos;pure v)) A') Q E s;exact KM (P8 (wl b9 hh (KM (PP h (λv s₁ h₁=>KM (P8 (Pi h₁))) λ_ _ x=>x))))
end
def ExAt(h:Heap)(e C:KF)(od:Option KF)(T:KF)(fl:GT):Prop:=
 ∃sl vs oT ts,h.get? e=u5 #[.ref C,od,.fields vs,sl]/\vs[1]?=u5 (.ref T)/\T≠e/\h.get? T=u5 oT/\oT.data=.fields ts/\ts[3]?=u5 fl
structure Stay(fs ex:List KF)(h h':Heap):Prop where
 keep:∀b o,h.get? b=u5 o->b∉ex->b∉fs->h'.get? b=u5 o
 slot:∀b o,h.get? b=u5 o->b∉ex->∃sl,h'.get? b=u5 {o with slots:=sl}
 there:∀b o,h.get? b=u5 o->∃o',h'.get? b=u5 o'
variable{fs ex:List KF}{h:Heap}
def Stay.refl:Stay fs ex h h:=#[λ_ _ e _ _=>e,λ_ o e _=>#[o.slots,e],λ_ o e=>#[o,e]]
section
variable {M:Q9}{A:PB}{E:GT->KB->Prop}{s:KB}{env:Ql}{outer:List Ql}{base:Heap}{L e C T:KF}{od:Option KF}
variable{Q:Unit->KB->Prop}
def pi{sl:Array (Option GT)}{vs:Array GT}(hfr:A.frames=u5 (env::outer))(hl:s.heap.FunFrames base (env::outer))(hf:env.frame=u5 L)
  (he:s.heap.get? e=u5 #[.ref C,od,.fields vs,sl]) (h1:vs[1]?=u5 .none)
  (h:∀h' T,ExAt h' e C od T (Qr L)->s.heap.objs.size<=T->Stay (frs (env::outer)) [e] s.heap h'->Q () {s with heap:=h'}):Px M A (Qk (.ref e) env) Q E s:=by
 have j3:1<vs.size:=(E7.mp h1).1;have Hb:e∉(env::outer).filterMap (·.frame):=λhm=>by
  obtain⟨_,o,ho,hnf⟩:=hl.mem hm;rw[he]at ho;injection ho with ho;subst ho;exact hnf vs rfl
 unfold Qk;simp only[hf];refine KM (P' he rfl h1 ?_);rw[if_neg G_];refine KM (Ri hfr hl hf λh₁ hs₁=>KM (Rc λpl d0=>?_));unfold EntryCells.newEntry newFields;refine KM (PN ?_ (d0.sizeOk5 _ _ _ _ _));have he₁:h₁.get? e=u5 #[.ref C,od,.fields vs,sl]:=(hs₁.2.1 e Hb).trans he;have fresh:h₁.get? h₁.objs.size=none:=Heap.get?_none_of_le (Dt _);generalize HY:({cls:=.type "traceback",dict:=A',data:=.fields ([Value.none,.ref L,.none,Qr L,.none]++(if pl.isEmpty then DG 6 Value.none else pl)).toArray}:PX)=oT;have he₂:=Heap.get?_push_of_some (h:=h₁) oT he₁;have s9:h₁.objs.size≠e:=Ec (Heap.lt_size he₁);refine Qp he₂ rfl j3 (h _ h₁.objs.size ?_ ?_ ?_)
 .refine#[sl,vs.setIfInBounds 1 (.ref h₁.objs.size),oT,([Value.none,.ref L,.none,Qr L,.none]++(if pl.isEmpty then DG 6 Value.none else pl)).toArray,?_,by simp[j3],s9,?_,by rw[<-HY],HV]
  .rw[Heap.get?_update_self _ he₂ rfl];rfl
  .rw[Heap.get?_update_other _ _ (Ne.symm s9)];exact Heap.get?_push_size h₁ (by rw[<-HY];rfl)
 .exact E1 hs₁.1.symm
 .have kp:∀b o,b≠e->h₁.get? b=u5 o->((h₁.push oT).update e (Obj.mapFields (·.setIfInBounds 1 (Value.ref h₁.objs.size)))).get? b=u5 o:=λb o hb z=>by
   rw[Heap.get?_update_other _ _ (Ne.symm hb)];exact Heap.get?_push_of_some _ z
  refine#[λb o q n m=>kp b o (λz=>n (by simp[z])) ((hs₁.2.1 b m).trans q),λb o q n=>?_,λb o q=>?_]
  .obtain⟨t9,z⟩:=hs₁.2.2 b o q;exact#[t9,kp b _ (λz=>n (by simp[z])) z]
  .by_cases hb:b=e
   .subst hb;exact#[_,Heap.get?_update_self _ he₂ rfl]
   .obtain⟨t9,z⟩:=hs₁.2.2 b o q;exact#[_,kp b _ hb z]
def pj{fl:GT}(hfr:A.frames=u5 (env::outer))(hl:s.heap.FunFrames base (env::outer))(hf:env.frame=u5 L)(hx:ExAt s.heap e C od T fl)
  (h:∀h' T',ExAt h' e C od T' (Qr L)->T'=T\/s.heap.objs.size<=T'->Stay (frs (env::outer)) [T,e] s.heap h'->Q () {s with heap:=h'}):Px M A (Qk (.ref e) env) Q E s:=by
 obtain⟨sl,vs,oT,ts,he,h1,s9,hT,k6,h3⟩:=hx;have j3:1<vs.size:=(E7.mp h1).1;have Ji:3<ts.size:=(E7.mp h3).1;have Hb:e∉(env::outer).filterMap (·.frame):=λhm=>by
  obtain⟨_,o,ho,hnf⟩:=hl.mem hm;rw[he]at ho;injection ho with ho;subst ho;exact hnf vs rfl
 unfold Qk;simp only[hf];refine KM (P' he rfl h1 ?_);rw[if_pos (show(Value.ref T !=Value.none)=true from HV)];refine KM (P' hT k6 h3 ?_);by_cases hq:(fl==Qr L)=true
 .rw[if_pos hq];exact Pi (h s.heap T #[sl,vs,oT,ts,he,h1,s9,hT,k6,by rw[<-eq_of_beq hq];exact h3] (.inl rfl) Stay.refl)
 rw[if_neg hq];refine KM (Qp hT k6 Ji ?_);have other:∀b,b≠T->(s.heap.update T (Obj.mapFields (·.setIfInBounds 3 Value.none))).get? b=s.heap.get? b:=λb hb=>Heap.get?_update_other _ _ (Ne.symm hb);have nT:∀b o,s.heap.get? b=u5 o->(∀vs,o.data≠.fields vs)->b≠T:=λb o hb hnf q=>by
  rw[q,hT]at hb;injection hb with hb;subst hb;exact hnf ts k6
 have NE:(s.heap.update T (Obj.mapFields (·.setIfInBounds 3 Value.none))).FunFrames base (env::outer):=hl.of_keeps λb o hb hnf=>#[o,(other b (nT b o hb hnf)).trans hb,rfl];have NF:∃o',(s.heap.update T (Obj.mapFields (·.setIfInBounds 3 Value.none))).get? T=u5 o':=#[_,Heap.get?_update_self _ hT (Obj.isFreed_of_fields (Obj.data_mapFields k6 _))];refine KM (Ri hfr NE hf λh₁ hs₁=>KM (Rc λpl d0=>?_));unfold EntryCells.newEntry newFields;refine KM (PN ?_ (d0.sizeOk5 _ _ _ _ _));have he₁:h₁.get? e=u5 #[.ref C,od,.fields vs,sl]:=(hs₁.2.1 e Hb).trans ((other e (Ne.symm s9)).trans he);have fresh:h₁.get? h₁.objs.size=none:=Heap.get?_none_of_le (Dt _);generalize HY:({cls:=.type "traceback",dict:=A',data:=.fields ([Value.ref T,.ref L,.none,Qr L,.none]++(if pl.isEmpty then DG 6 Value.none else pl)).toArray}:PX)=Ka;have he₂:=Heap.get?_push_of_some (h:=h₁) Ka he₁;have HZ:h₁.objs.size≠e:=Ec (Heap.lt_size he₁);refine Qp he₂ rfl j3 (h _ h₁.objs.size ?_ (.inr ?_) ?_)
 .refine#[sl,vs.setIfInBounds 1 (.ref h₁.objs.size),Ka,([Value.ref T,.ref L,.none,Qr L,.none]++(if pl.isEmpty then DG 6 Value.none else pl)).toArray,?_,by simp[j3],HZ,?_,by rw[<-HY],HV]
  .rw[Heap.get?_update_self _ he₂ rfl];rfl
  .rw[Heap.get?_update_other _ _ (Ne.symm HZ)];exact Heap.get?_push_size h₁ (by rw[<-HY];rfl)
 .exact E1 (hs₁.1.trans (Heap.size_after_update _ _ _)).symm
 .have kp:∀b o,b≠e->h₁.get? b=u5 o->((h₁.push Ka).update e (Obj.mapFields (·.setIfInBounds 1 (Value.ref h₁.objs.size)))).get? b=u5 o:=λb o hb z=>by
   rw[Heap.get?_update_other _ _ (Ne.symm hb)];exact Heap.get?_push_of_some _ z
  refine#[λb o q n m=>kp b o (λz=>n (by simp[z])) ((hs₁.2.1 b m).trans ((other b (λz=>n (by simp[z]))).trans q)),λb o q n=>?_,λb o q=>?_]
  .obtain⟨t9,z⟩:=hs₁.2.2 b o ((other b (λz=>n (by simp[z]))).trans q);exact#[t9,kp b _ (λz=>n (by simp[z])) z]
  .by_cases hb:b=e
   .subst hb;exact#[_,Heap.get?_update_self _ he₂ rfl]
   .have:∃o',(s.heap.update T (Obj.mapFields (·.setIfInBounds 3 Value.none))).get? b=u5 o':=by
     by_cases hb:b=T
     .rw[hb];exact NF
     .exact#[o,(other _ hb).trans q]
    obtain⟨o',q'⟩:=this;obtain⟨t9,z⟩:=hs₁.2.2 b o' q';exact#[_,kp b _ hb z]
def fv{fl:GT}(hx:ExAt s.heap e C od T fl)(h:∀h',ExAt h' e C od T .none->Stay [] [T] s.heap h'->Q () {s with heap:=h'}):Px M A (QH (.ref e) A') Q E s:=by
 obtain⟨sl,vs,oT,ts,he,h1,s9,hT,k6,h3⟩:=hx;have Ji:3<ts.size:=(E7.mp h3).1;unfold QH;refine KM (P' he rfl h1 ?_);rw[if_pos (show(Value.ref T !=Value.none)=true from HV)];refine Qp hT k6 Ji (h _ ?_ ?_)
 .exact#[sl,vs,_,_,(Heap.get?_update_other _ _ s9).trans he,h1,s9,Heap.get?_update_self _ hT (Obj.isFreed_of_fields (Obj.data_mapFields k6 _)),Obj.data_mapFields k6 _,by simp[Ji]]
 .have other:∀b o,b∉[T]->s.heap.get? b=u5 o->(s.heap.update T (Obj.mapFields (·.setIfInBounds 3 ((A':Option KF).elim Value.none λf=>Qr f)))).get? b=u5 o:=λb o hb q=>(Heap.get?_update_other _ _ (λz=>hb (by simp[z]))).trans q;refine#[λb o q n _=>other b o n q,λb o q n=>#[o.slots,other b o n q],λb o q=>?_];by_cases hb:b=T
  .subst hb;exact#[_,Heap.get?_update_self _ hT (Obj.isFreed_of_fields (Obj.data_mapFields k6 _))]
  .exact#[o,other b o (by simp[hb]) q]
end
def CX1(P:Pw)(w:Pz):CXT:=λouter H s E ev s'=>∃e C od T H',ev=.ref e/\s'.os=s.os/\Qh s'.gens/\Un (frs outer) [] H H' s.heap s'.heap/\HOk P w H' s'.heap/\ExAt s'.heap e C od T .none/\s.heap.get? e=A'/\s.heap.get? T=A'/\H' e=A'/\H' T=A'/\E (.ref C) od H'
def fw{P:Pw}{w:Pz}{H:Hp}{h':Heap}(x:HOk P w H h)(st:Stay fs ex h h')(hf:∀b∈fs,H b=A')(he:∀b∈ex,H b=A'):HOk P w H h':=λa o q=>
 (x a o q).stay (λb u hb r=>by
  have hn:H b≠none:=by
   rcases hb with rfl|hb
   .rw[q];exact λz=>nomatch z
   .rw[hb];exact λz=>nomatch z
  exact st.keep b u r (λz=>hn (he b z)) (λz=>hn (hf b z))) (λ_ q=>q) λ_ _ q=>q
def gk{m6:List KF}{H H':Hp}{h1 h2:Heap}(u:Un fs [] H H' h h1)(st:Stay m6 ex h1 h2)(hex:∀b∈ex,h.get? b=A')(Jj:∀b∈m6,b∈fs\/h.get? b=A'):Un fs [] H H' h h2 where
 keep:=λb o q n hb hx=>st.keep b o (u.keep b o q n hb hx) (λz=>by rw[hex b z]at q;cases q) (λz=>(Jj b z).elim hb λy=>by rw[y]at q;cases q)
 slot:=λb o q n hb hx=>by
  obtain⟨sl,e1⟩:=u.slot b o q n hb hx;obtain⟨t9,e2⟩:=st.slot b _ e1 (λz=>by rw[hex b z]at q;cases q);exact#[t9,e2]
 free:=u.free
 there:=λb o q hx=>by
  obtain⟨o1,e1⟩:=u.there b o q hx;exact st.there b o1 e1
 tups:=u.tups
 frzs:=u.frzs
 tbls:=u.tbls
section
variable {P:Pw}{w:Pz}{K:Dr}{mg:G8->Option GT}{base:Heap}{N:List G8}{qual:G8}{scope:P4}{f:KF}{cd:GT}{A:PB}{outer:List Ql}{s:KB}{H:Hp}{E E':XK}
def pk{b:KF}(hb:b∈frs (PZ qual scope s.heap.objs.size f cd::outer)):b∈frs outer\/s.heap.get? b=none:=by
 unfold frs at hb;rw[EZ]at hb;rcases Dw.mp (show b∈s.heap.objs.size::outer.filterMap (·.frame)from hb)with e|e
 .rw[e];exact .inr (Heap.get?_none_of_le (Dt _))
 .exact .inl e
def wm{pins:List (KF×PX)}{σ:L2.St}{H1:Hp}{s1:KB}{e C:KF}{od:Option KF}{sl:Array (Option GT)}{vs:Array GT}(I:Inv (cxOf (CX1 P w) P w K mg base N qual scope f cd A outer s H E') pins σ H1 s1)
  (he:s1.heap.get? e=u5 #[.ref C,od,.fields vs,sl]) (h1:vs[1]?=u5 .none) (He:H1 e=A') (ne:s.heap.get? e=A') (hE:E' (.ref C) od H1):(cxOf (CX1 P w) P w K mg base N qual scope f cd A outer s H E').xe (.ref e) s1:=by
 show Px _ _ (QZ _ _) _ _ _;unfold QZ;refine KM (pi I.ok.frames I.stack rfl he h1 λh2 T2 u6 y_ p9=>fv (s:={s1 with heap:=h2}) u6 λh3 H8 y9=>?_);have Hv:s1.heap.get? T2=none:=Heap.get?_none_of_le y_;have f1:∀b,s1.heap.get? b=A'->s.heap.get? b=none:=λb q=>by
  cases z:s.heap.get? b with
  |none=>rfl
  |some o=>
   obtain⟨o',z'⟩:=I.base.there b o z (by exact λy=>absurd (show b∈([]:List KF)from y) HV);rw[q]at z';cases z'
 have hok:HOk P w H1 s1.heap:=I.hok;have H9:H1 T2=none:=hok.fresh y_;have u2:Un (frs outer) [] H H1 s.heap h2:=gk (show Un (frs outer) [] H H1 s.heap s1.heap from I.base) p9 (λb hb=>by rw[Ds.mp hb];exact ne) λb hb=>pk hb;have u3:Un (frs outer) [] H H1 s.heap h3:=gk u2 y9 (λb hb=>by rw[Ds.mp hb];exact f1 T2 Hv) λb hb=>by cases hb
 have k2:=fw hok p9 (λb hb=>I.stkFree b hb) (λb hb=>by rw[Ds.mp hb];exact He);have k3:=fw k2 y9 (λb hb=>by cases hb) (λb hb=>by rw[Ds.mp hb];exact H9);exact#[e,C,od,T2,H1,rfl,I.os,I.bare,u3,k3,H8,ne,f1 T2 Hv,He,H9,hE]
end
end Exc
namespace L2
def Same.tup{K:Dr}{H H':Hp}{a:KF}{xs:List V}(e:Same H H')(h:SqT K H a xs):SqT K H' a xs:=by
 rcases h with(h|⟨o,h⟩)|h
 .exact .inl (.inl (e _ _ h))
 .exact .inl (.inr #[o,e _ _ h])
 .exact .inr h
end L2
namespace My
def dX{X:Cx}:dU (Exc.CX1 X.prog X.w) X E0:=λ_ _ _ _ _ _ _ h=>by
 obtain⟨e,C,od,T,H',_,_,_,_,_,_,_,_,_,_,h⟩:=h;exact h.elim
def Fun.okC{P:Pw}{w:Pz}{K:Dr}{mg:G8->Option GT}{base:Heap}{CX:CXT}{x qual:G8}{st:Py}{f:KF}{fd:PH}{N ps:List G8}{k:Nat}{sp:Sp}{dV:GT}(F:FunG K dV x qual st f fd)(S:FnScope N ps (ag st))(len:∀vs H Q E,sp vs H Q E->vs.length=ps.length)
  (a_:∀(cdv:GT) (A:PB) (outer:List Ql) (s:KB) (H:Hp) (vs:List V) (Q:VK) (E:XK),Room k (A.deeper (PZ qual (ag st) s.heap.objs.size f cdv))->sp vs H Q E->
   ∃t,PSs (cxOf CX P w K mg base N qual (ag st) f cdv A outer s H E) (aP st) t/\t {nx:=λ_ H'=>Q .non H',rt:=Q} (start N vs) H):FnOk P w K mg base CX (k+1) f fd ps sp:=by
 obtain⟨oc,od,kV,doc,pm,an,cdv,ct,osl,rfl,lk,i8⟩:=F.ex;refine vt lk i8 S len λA outer s H vs Q E hr v3=>?_;exact a_ cdv A outer s H vs Q E hr v3
def Cal(P:Pw)(w:Pz)(K:Dr)(mg:G8->Option GT)(base:Heap)(n:Nat)(x:G8)(ps:List G8)(sp:Sp):Prop:=
 ∃f fd,FnOk P w K mg base (Exc.CX1 P w) n f fd ps sp/\Binds K fd ps []/\keepIn K (.ref f)=true/\mg x=u5 (.ref f)
def Tx(K:Dr)(mg:G8->Option GT)(x:G8)(st:Py)(ps:List G8):Prop:=
 ∃f fd,Fun K x x st f fd/\Binds K fd ps []/\mg x=u5 (.ref f)
section
variable {X:Cx}{n m:Nat}{ps:List G8}{sp:Sp}{x:G8}{p pos:PK}{e:Pu}{es:List Pu}{t:TA}
def wn(C:Cal X.prog X.w X.K X.mg X.base n x ps sp)(hr:Room m X.A)(ha:PA X (e::es) t)(hg:autoParam (Gl X x) zA0)(hn:autoParam (n<=m) zA1)(e_:autoParam (zND x) zA1)
  (he:autoParam (zSE X e es) zA0) (d0:autoParam (zPL X pos es) zA0):
  PE X (.Call (.Name x p) (e::es) [] pos) (iY sp [] E0 t):=by
 obtain⟨f,fd,F,hb,hk,hm⟩:=C;exact vn F (hr.mono hn) hg hm hk hb .nil dX ha e_ he d0
end
def aM{H:Hp}{p:KF}(h:H p=A')(o:HO):Same H (upd H p o):=λb u q=>by rw[ao (bU q h)];exact q
def sz{n:Nat}(h:n<=1000):n<=sizeLine:=EK (wa h)
end My
namespace L2
section
variable {X:Cx}
variable{e:Pu}
def PE.anti{t t':TE}(h:PE X e t)(a:∀s H Q,t' s H Q->t s H Q):PE X e t':=λpins s σ H Q I q=>h pins s σ H Q I (a _ _ _ q)
def PT.anti{t t':TT}(h:PT X e t)(a:∀s H Q,t' s H Q->t s H Q):PT X e t':=λpins s σ H Q I q=>h pins s σ H Q I (a _ _ _ q)
def PW.anti{t t':TT}(h:PW X e t)(a:∀s H Q,t' s H Q->t s H Q):PW X e t':=λwh pins s σ H Q I q=>h wh pins s σ H Q I (a _ _ _ q)
def PA.anti{e:List Pu}{t t':TA}(h:PA X e t)(a:∀s H Q,t' s H Q->t s H Q):PA X e t':=λp pins s σ H Q I q=>h p pins s σ H Q I (a _ _ _ q)
def PS.anti{e:Py}{t t':TS}(h:PS X e t)(a:∀E s H,t' E s H->t E s H):PS X e t':=λpins s σ H Q I q=>h pins s σ H Q I (a _ _ _ q)
def PSs.anti{e:List Py}{t t':TS}(h:PSs X e t)(a:∀E s H,t' E s H->t E s H):PSs X e t':=λpins s σ H Q I q=>h pins s σ H Q I (a _ _ _ q)
end
end L2
namespace My
inductive D where
 |non|bl (b:Bool)|int (i:Int)|str (x:Str)|tup (xs:List D)|lst (xs:List D)
  |rol (xs:List D)
  |obj (x:G8) (fs:List (G8×D))
  |exc (x:G8) (fs:List (G8×D))
  |own (xs:List D)
  |ptr (a:KF)
  |dti (a9:List ((Int×Int)×Int))
def dtiV(a9:List ((Int×Int)×Int)):List (List Key×V):=a9.map λe=>([.inl e.1.1,.inl e.1.2],.int e.2)
def XO(e C:KF)(od:Option KF):HO:=.ext λh=>∃vs sl,h.get? e=u5 #[.ref C,od,.fields vs,sl]
mutual
def Rep(K:Dr)(H:Hp):D->V->Prop
 |.non,v=>v=.non
 |.bl b,v=>v=.bl b
 |.int i,v=>v=.int i
 |.str x,v=>v=.str x
 |.tup ds,v=>∃a vs,v=.ref a/\H a=u5 (.tup vs)/\Reps K H ds vs
 |.lst ds,v=>∃a vs,v=.ref a/\H a=u5 (.lst vs)/\Reps K H ds vs
 |.rol ds,v=>∃a vs,v=.ref a/\SqL K H a vs/\Reps K H ds vs
 |.obj x fs,v=>∃a C dx vs,v=.ref a/\nsIn K Os x=u5 (u5 (.ref C))/\H a=u5 (.ins C dx vs)/\RepF K H fs vs
 |.exc x fs,v=>∃a C od vs,v=.ref a/\nsIn K Os x=u5 (u5 (.ref C))/\H a=u5 (XO a C od)/\RepF K H fs vs/\((od=A'/\vs=[])\/∃b,od=u5 b/\H b=u5 (.xd vs))
 |.own _,_=>False
 |.ptr a,v=>v=.ref a
 |.dti a9,v=>∃a,v=.ref a/\H a=u5 (.dT (dtiV a9))
def RepF(K:Dr)(H:Hp):List (G8×D)->List (G8×V)->Prop
 |[],vs=>vs=[]
 |(f,d)::ds,vs=>∃v r,vs=(f,v)::r/\Rep K H d v/\RepF K H ds r
def Reps(K:Dr)(H:Hp):List D->List V->Prop
 |[],vs=>vs=[]
 |d::ds,vs=>∃v r,vs=v::r/\Rep K H d v/\Reps K H ds r
end
mutual
def Rep.mono{K:Dr}{H H':Hp}(g:Same H H'):∀(d:D) (v:V),Rep K H d v->Rep K H' d v
 |.non,v,h=>by unfold Rep at h ⊢;exact h
 |.bl b,v,h=>by unfold Rep at h ⊢;exact h
 |.int b,v,h=>by unfold Rep at h ⊢;exact h
 |.str b,v,h=>by unfold Rep at h ⊢;exact h
 |.tup ds,v,h=>by
  unfold Rep at h ⊢;obtain⟨a,vs,e,q,r⟩:=h;exact#[a,vs,e,g _ _ q,Reps.mono g ds vs r]
 |.lst ds,v,h=>by
  unfold Rep at h ⊢;obtain⟨a,vs,e,q,r⟩:=h;exact#[a,vs,e,g _ _ q,Reps.mono g ds vs r]
 |.rol ds,v,h=>by
  unfold Rep at h ⊢;obtain⟨a,vs,e,q,r⟩:=h;exact#[a,vs,e,g.seq q,Reps.mono g ds vs r]
 |.obj C fs,v,h=>by
  unfold Rep at h ⊢;obtain⟨a,C,dx,vs,e,n,q,r⟩:=h;exact#[a,C,dx,vs,e,n,g _ _ q,RepF.mono g fs vs r]
 |.exc C fs,v,h=>by
  unfold Rep at h ⊢;obtain⟨a,C,od,vs,e,n,q,r,d⟩:=h;exact#[a,C,od,vs,e,n,g _ _ q,RepF.mono g fs vs r,d.imp id λ⟨b,h1,h2⟩=>#[b,h1,g _ _ h2]]
 |.own ds,v,h=>by
  unfold Rep at h ⊢;exact h
 |.ptr a,v,h=>by unfold Rep at h ⊢;exact h
 |.dti a9,v,h=>by
  unfold Rep at h ⊢;obtain⟨a,e,q⟩:=h;exact#[a,e,g _ _ q]
def RepF.mono{K:Dr}{H H':Hp}(g:Same H H'):∀(ds:List (G8×D)) (vs:List (G8×V)),RepF K H ds vs->RepF K H' ds vs
 |[],vs,h=>by unfold RepF at h ⊢;exact h
 |(f,d)::ds,vs,h=>by
  unfold RepF at h ⊢;obtain⟨v,r,e,q1,q2⟩:=h;exact#[v,r,e,Rep.mono g d v q1,RepF.mono g ds r q2]
def Reps.mono{K:Dr}{H H':Hp}(g:Same H H'):∀(ds:List D) (vs:List V),Reps K H ds vs->Reps K H' ds vs
 |[],vs,h=>by unfold Reps at h ⊢;exact h
 |d::ds,vs,h=>by
  unfold Reps at h ⊢;obtain⟨v,r,e,q1,q2⟩:=h;exact#[v,r,e,Rep.mono g d v q1,Reps.mono g ds r q2]
end
section
variable {K:Dr}{H:Hp}
variable{v:V}
def rep_non:Rep K H .non v↔v=.non:=by unfold Rep;exact Iff.rfl
def rep_bl{b:Bool}:Rep K H (.bl b) v↔v=.bl b:=by unfold Rep;exact Iff.rfl
def rep_int{i:Int}:Rep K H (.int i) v↔v=.int i:=by unfold Rep;exact Iff.rfl
variable{x:G8}
def rep_str:Rep K H (.str x) v↔v=.str x:=by unfold Rep;exact Iff.rfl
variable{ds:List My.D}
def rep_tupS:Rep K H (.tup ds) v↔∃a vs,v=.ref a/\H a=u5 (.tup vs)/\Reps K H ds vs:=by
 constructor
 .intro h;unfold Rep at h;exact h
 .intro h;unfold Rep;exact h
def rep_tup_mp(h:Rep K H (.tup ds) v):∃a vs,v=.ref a/\SqT K H a vs/\Reps K H ds vs:=by
 obtain⟨a,vs,e,q,r⟩:=rep_tupS.mp h;exact#[a,vs,e,SqT.of q,r]
def rep_ptr{a:KF}:Rep K H (.ptr a) v↔v=.ref a:=by unfold Rep;exact Iff.rfl
def rep_dti{a9:List ((Int×Int)×Int)}:Rep K H (.dti a9) v↔∃a,v=.ref a/\H a=u5 (.dT (dtiV a9)):=by
 constructor
 .intro h;unfold Rep at h;exact h
 .intro h;unfold Rep;exact h
def rep_lst:Rep K H (.lst ds) v↔∃a vs,v=.ref a/\H a=u5 (.lst vs)/\Reps K H ds vs:=by
 constructor
 .intro h;unfold Rep at h;exact h
 .intro h;unfold Rep;exact h
def rep_rol:Rep K H (.rol ds) v↔∃a vs,v=.ref a/\SqL K H a vs/\Reps K H ds vs:=by
 constructor
 .intro h;unfold Rep at h;exact h
 .intro h;unfold Rep;exact h
variable{fs:List (G8×My.D)}
def rep_obj:Rep K H (.obj x fs) v↔∃a C dx vs,v=.ref a/\nsIn K Os x=u5 (u5 (.ref C))/\H a=u5 (.ins C dx vs)/\RepF K H fs vs:=by
 constructor
 .intro h;unfold Rep at h;exact h
 .intro h;unfold Rep;exact h
def rep_exc:Rep K H (.exc x fs) v↔∃a C od vs,v=.ref a/\nsIn K Os x=u5 (u5 (.ref C))/\H a=u5 (XO a C od)/\RepF K H fs vs/\((od=A'/\vs=[])\/∃b,od=u5 b/\H b=u5 (.xd vs)):=by
 constructor
 .intro h;unfold Rep at h;exact h
 .intro h;unfold Rep;exact h
def rep_own:¬Rep K H (.own ds) v:=by intro h;unfold Rep at h;exact h
variable{vs:List (G8×V)}
def repf_nil:RepF K H [] vs↔vs=[]:=by unfold RepF;exact Iff.rfl
def repf_cons{f:G8}{d:D}{ds:List (G8×D)}:RepF K H ((f,d)::ds) vs↔∃v r,vs=(f,v)::r/\Rep K H d v/\RepF K H ds r:=by
 constructor
 .intro h;unfold RepF at h;exact h
 .intro h;unfold RepF;exact h
def RepF.look{f:G8}{d:D}:∀{fs:List (G8×D)} {vs:List (G8×V)},RepF K H fs vs->fs.lookup f=u5 d->∃v,vs.lookup f=u5 v/\Rep K H d v
 |[],_,_,e=>by cases e
 |(g,x)::fs,vs,h,e=>by
  obtain⟨v,r,rfl,h1,h2⟩:=repf_cons.mp h;rw[DQ]at e ⊢;split at e
  .cases e;exact#[v,rfl,h1]
  .exact RepF.look h2 e
def RepF.none{f:G8}:∀{fs:List (G8×D)} {vs:List (G8×V)},RepF K H fs vs->fs.lookup f=Option.none->vs.lookup f=Option.none
 |[],vs,h,_=>by rw[repf_nil.mp h];rfl
 |(g,x)::fs,vs,h,e=>by
  obtain⟨v,r,rfl,h1,h2⟩:=repf_cons.mp h;rw[DQ]at e ⊢;split at e
  .cases e
  .exact RepF.none h2 e
def reps_nil{vs:List V}:Reps K H [] vs↔vs=[]:=by unfold Reps;exact Iff.rfl
def reps_cons{d:D}{vs:List V}:Reps K H (d::ds) vs↔∃v r,vs=v::r/\Rep K H d v/\Reps K H ds r:=by
 constructor
 .intro h;unfold Reps at h;exact h
 .intro h;unfold Reps;exact h
def Reps.length:∀{ds:List D} {vs:List V},Reps K H ds vs->vs.length=ds.length
 |[],vs,h=>by rw[reps_nil.mp h];rfl
 |d::ds,vs,h=>by
  obtain⟨v,r,rfl,_,h2⟩:=reps_cons.mp h;rw[Du,Du,Reps.length h2]
def Reps.get:∀{ds:List D} {vs:List V} {i:Nat} {d:D},Reps K H ds vs->ds[i]?=u5 d->∃v,vs[i]?=u5 v/\Rep K H d v
 |[],_,_,_,_,e=>by simp at e
 |x::ds,vs,0,d,h,e=>by
  obtain⟨v,r,rfl,h1,_⟩:=reps_cons.mp h;simp at e;subst e;exact#[v,rfl,h1]
 |x::ds,vs,i+1,d,h,e=>by
  obtain⟨v,r,rfl,_,h2⟩:=reps_cons.mp h;obtain⟨u,q1,q2⟩:=Reps.get (i:=i) h2 (by simpa using e);exact#[u,by simpa using q1,q2]
def Reps.ints:∀{ns:List Int} {vs:List V},Reps K H (ns.map D.int) vs↔vs=ns.map V.int
 |[],vs=>reps_nil
 |n::ns,vs=>by
  rw[DZ,reps_cons,DZ];constructor
  .rintro⟨v,r,rfl,h1,h2⟩;rw[rep_int.mp h1,Reps.ints.mp h2]
  .rintro rfl;exact#[_,_,rfl,rep_int.mpr rfl,Reps.ints.mpr rfl]
end
abbrev SD:=List (Option D)
def gl:D->Bool|.own _=>true|_=>false
structure RepS(K:Dr)(B F H:Hp)(t:SD)(s:L2.St):Prop where
 len:s.length=t.length
 val:∀(i:Nat) d,t[i]?=u5 (u5 d)->gl d=false->∃v,s[i]?=u5 (u5 v)/\Rep K F d v
 own:∀(i:Nat) ds,t[i]?=u5 (u5 (.own ds))->∃a vs,s[i]?=u5 (u5 (.ref a))/\H a=u5 (.lst vs)/\B a=A'/\F a=A'/\Reps K F ds vs
 apart:∀(i j:Nat) di dj a,t[i]?=u5 (u5 (.own di))->t[j]?=u5 (u5 (.own dj))->s[i]?=u5 (u5 (.ref a))->s[j]?=u5 (u5 (.ref a))->i=j
structure Grow(F H F' H':Hp):Prop where
 ff:Same F F'
 fh:Same F' H'
 hh:Same H H'
 out:∀b,F b=A'->H b≠A'->F' b=A'
variable{F H:Hp}
def Grow.refl(h:Same F H):Grow F H F H:=#[Same.refl F,h,Same.refl H,λ_ h _=>h]
def Grow.trans{F1 H1 F2 H2:Hp}(g:Grow F H F1 H1)(k:Grow F1 H1 F2 H2):Grow F H F2 H2:=
 ⟨g.ff.trans k.ff,k.fh,g.hh.trans k.hh,λb h1 h2=>k.out b (g.out b h1 h2) (by
  cases e:H b with
  |none=>exact absurd e h2
  |some o=>rw[g.hh b o e];exact λz=>nomatch z)⟩
def Grow.new{p:KF}(h:Same F H)(hp:H p=A')(o:HO):Grow F H (upd F p o) (upd H p o):=by
 have fp:F p=none:=h.free hp;refine#[aM fp o,λb u e=>?_,aM hp o,λb h1 h2=>?_]
 .by_cases hb:b=p
  .subst hb;rw[aA]at e ⊢;exact e
  .rw[ao hb]at e ⊢;exact h b u e
 .by_cases hb:b=p
  .subst hb;exact absurd hp h2
  .rw[ao hb];exact h1
class Jx where
 B:Hp
 F0:Hp
 RX:SD->G8->List (G8×D)->Prop
structure Kept[J:Jx](B F0 F H:Hp):Prop where
 bh:Same B H
 fh:Same F H
 f0:Same F0 F
 out:∀b,F0 b=A'->B b≠A'->F b=A'
 eb:B=J.B
 jf:Same J.F0 F0
 jo:∀b,J.F0 b=A'->B b≠A'->F0 b=A'
variable{B:Hp}
def Kept.kf[J:Jx]{F0:Hp}(k:Kept B F0 F H):Kept B J.F0 F H:=#[k.bh,k.fh,k.jf.trans k.f0,λb h1 h2=>k.out b (k.jo b h1 h2) h2,k.eb,Same.refl _,λ_ h _=>h]
def Kept.grow[Jx]{F0 F' H':Hp}(k:Kept B F0 F H)(g:Grow F H F' H'):Kept B F0 F' H':=
 ⟨k.bh.trans g.hh,g.fh,k.f0.trans g.ff,λb h1 h2=>g.out b (k.out b h1 h2) (by
  cases e:B b with
  |none=>exact absurd e h2
  |some o=>rw[k.bh b o e];exact λz=>nomatch z),k.eb,k.jf,k.jo⟩
section
variable {K:Dr}{B F H F' H':Hp}{t:SD}{s:L2.St}
def RepS.grow(g:Grow F H F' H')(h:RepS K B F H t s):RepS K B F' H' t s where
 len:=h.len
 val:=λi d e no=>let ⟨v,q1,q2⟩:=h.val i d e no;#[v,q1,q2.mono g.ff]
 own:=λi ds e=>by
  obtain⟨a,vs,q1,q2,q3,q4,q5⟩:=h.own i ds e;exact#[a,vs,q1,g.hh a _ q2,q3,g.out a q4 (by rw[q2];exact λz=>nomatch z),q5.mono g.ff]
 apart:=h.apart
variable{i:Nat}
def RepS.set{d:D}{v:V}(h:RepS K B F H t s)(r:Rep K F d v):RepS K B F H (t.set i (u5 d)) (s.set i (u5 v)):=by
 have no:gl d=false:=by
  cases d with
  |own ds=>exact absurd r rep_own
  |_=>rfl
 have get:∀{j:Nat} {x:D},(t.set i (u5 d))[j]?=u5 (u5 x)->(j=i/\x=d/\i<t.length)\/(j≠i/\t[j]?=u5 (u5 x)):=λ{j x} e=>by
  by_cases hj:i=j
  .subst hj;rw[EH]at e;simp at e;exact .inl #[rfl,e.2.symm,e.1]
  .rw[DL hj]at e;exact .inr #[λz=>hj z.symm,e]
 refine#[by rw[Ej,Ej];exact h.len,λj x e nx=>?_,λj ds e=>?_,λj k dj dk a e1 e2 e3 e4=>?_]
 .rcases get e with⟨rfl,rfl,hl⟩|⟨hj,e⟩
  .exact#[v,by rw[Eb (by rw[h.len];exact hl)],r]
  .obtain⟨u,q1,q2⟩:=h.val j x e nx;exact#[u,by rw[DL (λz=>hj z.symm)];exact q1,q2]
 .rcases get e with⟨rfl,rfl,hl⟩|⟨hj,e⟩
  .cases no
  .obtain⟨a,vs,q1,q⟩:=h.own j ds e;exact#[a,vs,by rw[DL (λz=>hj z.symm)];exact q1,q]
 .rcases get e1 with⟨rfl,rfl,hl⟩|⟨hj,e1⟩
  .cases no
  .rcases get e2 with⟨rfl,rfl,hl⟩|⟨hk,e2⟩
   .cases no
   .rw[DL (λz=>hj z.symm)]at e3;rw[DL (λz=>hk z.symm)]at e4;exact h.apart j k dj dk a e1 e2 e3 e4
variable{ds:List My.D}
def RepS.setOwn{a:KF}{vs:List V}(h:RepS K B F H t s)(hB:B a=A')(hF:F a=A')(r:Reps K F ds vs)
  (free:∀(j:Nat) dj,j≠i->t[j]?=u5 (u5 (.own dj))->s[j]?≠u5 (u5 (.ref a))):RepS K B F (upd H a (.lst vs)) (t.set i (u5 (.own ds))) (s.set i (u5 (.ref a))):=by
 have get:∀{j:Nat} {x:D},(t.set i (u5 (.own ds)))[j]?=u5 (u5 x)->(j=i/\x=.own ds/\i<t.length)\/(j≠i/\t[j]?=u5 (u5 x)):=λ{j x} e=>by
  by_cases hj:i=j
  .subst hj;rw[EH]at e;simp at e;exact .inl #[rfl,e.2.symm,e.1]
  .rw[DL hj]at e;exact .inr #[λz=>hj z.symm,e]
 refine#[by rw[Ej,Ej];exact h.len,λj x e nx=>?_,λj dj e=>?_,λj k dj dk b e1 e2 e3 e4=>?_]
 .rcases get e with⟨rfl,rfl,hl⟩|⟨hj,e⟩
  .cases nx
  .obtain⟨u,q1,q2⟩:=h.val j x e nx;exact#[u,by rw[DL (λz=>hj z.symm)];exact q1,q2]
 .rcases get e with⟨rfl,e,hl⟩|⟨hj,e⟩
  .cases e;exact#[a,vs,by rw[Eb (by rw[h.len];exact hl)],aA,hB,hF,r]
  .obtain⟨b,us,q1,q2,q⟩:=h.own j dj e;have ne:b≠a:=λz=>free j dj hj e (z ▸ q1);exact#[b,us,by rw[DL (λz=>hj z.symm)];exact q1,by rw[ao ne];exact q2,q]
 .rcases get e1 with⟨hj,c1,hl⟩|⟨hj,f1⟩
  .rcases get e2 with⟨hk,c2,C_⟩|⟨hk,f2⟩
   .rw[hj,hk]
   .rw[hj,Eb (by rw[h.len];exact hl)]at e3;rw[DL (λz=>hk z.symm)]at e4;cases e3;exact absurd e4 (free k dk hk f2)
  .rcases get e2 with⟨hk,c2,C_⟩|⟨hk,f2⟩
   .rw[hk,Eb (by rw[h.len];exact C_)]at e4;rw[DL (λz=>hj z.symm)]at e3;cases e4;exact absurd e3 (free j dj hj f1)
   .rw[DL (λz=>hj z.symm)]at e3;rw[DL (λz=>hk z.symm)]at e4;exact h.apart j k dj dk b f1 f2 e3 e4
def RepS.freeze[Jx]{F0:Hp}(h:RepS K B F H t s)(k:Kept B F0 F H)(e:t[i]?=u5 (u5 (.own ds))):∃F',Kept B F0 F' H/\RepS K B F' H (t.set i (u5 (.lst ds))) s:=by
 obtain⟨a,vs,q1,q2,q3,q4,q5⟩:=h.own i ds e;have hl:i<t.length:=(DN.mp e).1;have g:Same F (upd F a (.lst vs)):=aM q4 _;have get:∀{j:Nat} {x:D},(t.set i (u5 (.lst ds)))[j]?=u5 (u5 x)->(j=i/\x=.lst ds)\/(j≠i/\t[j]?=u5 (u5 x)):=λ{j x} e=>by
  by_cases hj:i=j
  .subst hj;rw[EH]at e;simp at e;exact .inl #[rfl,e.2.symm]
  .rw[DL hj]at e;exact .inr #[λz=>hj z.symm,e]
 refine#[upd F a (.lst vs),#[k.bh,λb o z=>?_,k.f0.trans g,λb h1 h2=>?_,k.eb,k.jf,k.jo],#[by rw[Ej];exact h.len,λj x e' nx=>?_,λj dj e'=>?_,λj l dj dl b e1 e2 e3 e4=>?_]]
 .by_cases hb:b=a
  .subst hb;rw[aA]at z;cases z;exact q2
  .rw[ao hb]at z;exact k.fh b o z
 .by_cases hb:b=a
  .subst hb;exact absurd q3 h2
  .rw[ao hb];exact k.out b h1 h2
 .rcases get e' with⟨rfl,rfl⟩|⟨hj,e'⟩
  .exact#[.ref a,q1,rep_lst.mpr #[a,vs,rfl,aA,q5.mono g]]
  .obtain⟨u,p1,p2⟩:=h.val j x e' nx;exact#[u,p1,p2.mono g]
 .rcases get e' with⟨rfl,c⟩|⟨hj,e'⟩
  .cases c
  .obtain⟨b,us,p1,p2,p3,p4,p5⟩:=h.own j dj e';have ne:b≠a:=λz=>hj (h.apart j i dj ds a e' e (z ▸ p1) q1);exact#[b,us,p1,p2,p3,by rw[ao ne];exact p4,p5.mono g]
 .rcases get e1 with⟨rfl,c⟩|⟨hj,e1⟩
  .cases c
  .rcases get e2 with⟨rfl,c⟩|⟨hk,e2⟩
   .cases c
   .exact h.apart j l dj dl b e1 e2 e3 e4
end
def startD(N:List G8)(ds:List D):SD:=ds.map u5++DG (N.length-ds.length) A'
variable{K:Dr}
def Rep.noown{d:D}{v:V}(r:Rep K F d v):gl d=false:=by
 cases d with
 |own ds=>exact absurd r rep_own
 |_=>rfl
def fz{N:List G8}{ds:List D}{vs:List V}(h:Reps K F ds vs):RepS K B F H (startD N ds) (L2.start N vs):=by
 have hl:=h.length;have get:∀(i:Nat) d,(startD N ds)[i]?=u5 (u5 d)->∃v,(L2.start N vs)[i]?=u5 (u5 v)/\Rep K F d v:=λi d e=>by
  unfold startD at e;unfold L2.start;by_cases hi:i<ds.length
  .rw[Er (by simpa using hi),D4]at e;cases q:ds[i]? with
   |none=>rw[q]at e;cases e
   |some x=>
    rw[q]at e;cases e;obtain⟨v,q1,q2⟩:=h.get q;exact#[v,by rw[Er (by simpa[hl]using hi),D4,q1];rfl,q2]
  .rw[EE (by simpa using hi),Fp]at e;split at e<;>cases e
 refine#[by unfold startD L2.start;simp[hl],λi d e _=>get i d e,λi d e=>?_,λi j di dj a e=>?_]
 .obtain⟨v,_,r⟩:=get i _ e;exact absurd r rep_own
 .obtain⟨v,_,r⟩:=get i _ e;exact absurd r rep_own
abbrev TD:=SD->(D->Prop)->Prop
abbrev TDT:=SD->(Bool->Prop)->Prop
abbrev TDA:=SD->(List D->Prop)->Prop
structure EndsD where
 nx:SD->Prop
 rt:D->Prop
 bk:SD->Prop:=λ_=>False
 ct:SD->Prop:=λ_=>False
abbrev TSD:=EndsD->SD->Prop
def lE(K:Dr)[J:Jx](t:TD):TE:=λs H Q=>∃B F z,Kept B J.F0 F H/\RepS K B F H z s/\∃R:D->Prop,t z R/\∀d v F' H',Grow F H F' H'->R d->Rep K F' d v->Q v H'
def lT(K:Dr)[J:Jx](t:TDT):TT:=λs H Q=>∃B F z,Kept B J.F0 F H/\RepS K B F H z s/\∃R:Bool->Prop,t z R/\∀b F' H',Grow F H F' H'->R b->Q b H'
def lA(K:Dr)[J:Jx](t:TDA):TA:=λs H Q=>∃B F z,Kept B J.F0 F H/\RepS K B F H z s/\∃R:List D->Prop,t z R/\∀ds vs F' H',Grow F H F' H'->R ds->Reps K F' ds vs->Q vs H'
structure EndsOk[Jx](K:Dr)(B F0:Hp)(ED:EndsD)(E:Ends):Prop where
 nx:∀z' s' F' H',Kept B F0 F' H'->ED.nx z'->RepS K B F' H' z' s'->E.nx s' H'
 rt:∀d v F' H',Kept B F0 F' H'->ED.rt d->Rep K F' d v->E.rt v H'
 bk:∀z' s' F' H',Kept B F0 F' H'->ED.bk z'->RepS K B F' H' z' s'->E.bk s' H'
 ct:∀z' s' F' H',Kept B F0 F' H'->ED.ct z'->RepS K B F' H' z' s'->E.ct s' H'
def lS(K:Dr)[Jx](t:TSD):TS:=λE s H=>∃B F0 F z,Kept B F0 F H/\RepS K B F H z s/\∃ED:EndsD,t ED z/\EndsOk K B F0 ED E
abbrev DE(X:Cx)[Jx](e:Pu)(t:TD):Prop:=PE X e (lE X.K t)
abbrev DT(X:Cx)[Jx](e:Pu)(t:TDT):Prop:=PT X e (lT X.K t)
abbrev DW(X:Cx)[Jx](e:Pu)(t:TDT):Prop:=PW X e (lT X.K t)
abbrev DA(X:Cx)[Jx](es:List Pu)(t:TDA):Prop:=PA X es (lA X.K t)
abbrev DS(X:Cx)[Jx](st:Py)(t:TSD):Prop:=PS X st (lS X.K t)
abbrev DSs(X:Cx)[Jx](st:List Py)(t:TSD):Prop:=PSs X st (lS X.K t)
structure WDE(X:Cx)[Jx](e:Pu)(t:TD):Prop where
 out:DE X e t
structure WDT(X:Cx)[Jx](e:Pu)(t:TDT):Prop where
 out:DT X e t
structure WDW(X:Cx)[Jx](e:Pu)(t:TDT):Prop where
 out:DW X e t
structure WDA(X:Cx)[Jx](es:List Pu)(t:TDA):Prop where
 out:DA X es t
structure WDS(X:Cx)[Jx](st:Py)(t:TSD):Prop where
 out:DS X st t
structure WDSs(X:Cx)[Jx](st:List Py)(t:TSD):Prop where
 out:DSs X st t
section
variable {X:Cx}
def okR(R:D->Prop):D->Prop|.own _=>False|d=>R d
def dVar(i:Nat):TD:=λz R=>match z[i]? with|some (u5 d)=>okR R d|_=>False
def dC(d:D):TD:=λ_ R=>R d
variable{x:G8}
def aa[Jx](i:Nat){pos:PK}(hN:autoParam (X.N[i]?=u5 x) zA0)(hv:autoParam (Vis X.env.scope x) zA5)(hd:autoParam (zND x) zA1)
  (i8:autoParam (zNC x) zA1):WDE X (.Name x pos) (dVar i):=⟨(dg hN hv hd i8).anti λs H Q h=>by
 obtain⟨B,F,z,kf,r,R,h1,h2⟩:=h;have fh:=kf.fh;unfold dVar at h1;split at h1
 .rename_i d e;have no:gl d=false:=by
   cases d with
   |own ds=>exact False.elim h1
   |_=>rfl
  have NG:R d:=by
   cases d with
   |own ds=>exact False.elim h1
   |_=>exact h1
  obtain⟨v,q1,q2⟩:=r.val i d e no;exact#[v,q1,h2 d v F H (Grow.refl fh) NG q2]
 .exact h1.elim⟩
variable{e:Pu}{d:My.D}
def de_c[Jx]{v:V}(h:PE X e (tC v))(r:∀H,Rep X.K H d v):DE X e (dC d):=h.anti λs H Q q=>by
 obtain⟨B,F,z,kf,_,R,h1,h2⟩:=q;have fh:=kf.fh;exact h2 d v F H (Grow.refl fh) h1 (r F)
def ad[Jx]{i j pos}:WDE X (.Constant (.int i) j pos) (dC (.int i)):=#[de_c tm λ_=>rep_int.mpr rfl]
def ci[Jx]{b j pos}:WDE X (.Constant (.bool b) j pos) (dC (.bl b)):=#[de_c tq λ_=>rep_bl.mpr rfl]
def dm[Jx]{j pos}:WDE X (.Constant .none j pos) (dC .non):=#[de_c tw λ_=>rep_non.mpr rfl]
def ak[Jx]{x j pos}:WDE X (.Constant (.str x) j pos) (dC (.str x)):=#[de_c nM λ_=>rep_str.mpr rfl]
abbrev RD2:=D->D->(D->Prop)->Prop
def dOp(r:RD2)(ta tb:TD):TD:=λz R=>ta z λx=>tb z λy=>r x y R
def aS(K:Dr)(r:R2)(rd:RD2):Prop:=∀x y u v F H R Q,Same F H->rd x y R->Rep K F x u->Rep K F y v->(∀d w F' H',Grow F H F' H'->R d->Rep K F' d w->Q w H')->r u v H Q
variable{r:R2}{rd:RD2}
def jb[Jx]{ta tb:TD}(L:aS X.K r rd)(h:PE X e (tOp r (lE X.K ta) (lE X.K tb))):DE X e (dOp rd ta tb):=h.anti λs H Q q=>by
 obtain⟨B,F,z,kf,rs,R,h1,h2⟩:=q;have fh:=kf.fh;refine#[B,F,z,kf,rs,_,h1,λx u F1 H1 g1 hx rx=>?_];refine#[B,F1,z,kf.grow g1,rs.grow g1,_,hx,λy v F2 H2 g2 hy ry=>?_];exact L x y u v F2 H2 R Q g2.fh hy (rx.mono g2.ff) ry λd w F' H' g3=>h2 d w F' H' (g1.trans (g2.trans g3))
variable {a b c:Pu}{ta tb tc:TD}{pos:PK}
def cy[Jx]{op:QS}(ho:OpR X (PR op) r)(L:aS X.K r rd)(ha:DE X a ta)(hb:DE X b tb):DE X (.BinOp a op b pos) (dOp rd ta tb):=jb L (iS ho ha hb)
def gm[Jx]{op:Rn}(ho:OpR X (PJ op) r)(L:aS X.K r rd)(ha:DE X a ta)(hb:DE X b tb)(hm:PQ op b=false):DE X (.Compare a [op] [b] pos) (dOp rd ta tb):=jb L (ul ho ha hb hm)
def wo[Jx](hr:IxR X r)(L:aS X.K r rd)(ha:DE X a ta)(hb:DE X b tb)(hs:autoParam (fk b) zA6):DE X (.Subscript a b pos) (dOp rd ta tb):=jb L (pe_ix hr ha hb hs)
def kdI(d:D)(k:Int->Prop):Prop:=match d with|.int i=>k i|_=>False
def kdB(d:D)(k:Bool->Prop):Prop:=match d with|.bl i=>k i|_=>False
def kdS(d:D)(k:G8->Prop):Prop:=match d with|.str i=>k i|_=>False
def kdL(d:D)(k:List D->Prop):Prop:=match d with|.lst i=>k i|_=>False
def kdT(d:D)(k:List D->Prop):Prop:=match d with|.tup i=>k i|_=>False
def kdN(d:D)(p:Prop):Prop:=match d with|.non=>p|_=>False
def kd1(ds:List D)(k:D->Prop):Prop:=match ds with|[x]=>k x|_=>False
def kd2(ds:List D)(k:D->D->Prop):Prop:=match ds with|[x,y]=>k x y|_=>False
def kdI.of{k:Int->Prop}(h:kdI d k):∃i,d=.int i/\k i:=Ld
def kdB.of{k:Bool->Prop}(h:kdB d k):∃i,d=.bl i/\k i:=Ld
def kdS.of{k:G8->Prop}(h:kdS d k):∃i,d=.str i/\k i:=Ld
variable{k:List My.D->Prop}
def kdL.of(h:kdL d k):∃i,d=.lst i/\k i:=Ld
def kdT.of(h:kdT d k):∃i,d=.tup i/\k i:=Ld
def kdP(d:D)(k:KF->Prop):Prop:=match d with|.ptr i=>k i|_=>False
def kdP.of{k:KF->Prop}(h:kdP d k):∃i,d=.ptr i/\k i:=Ld
def kdN.of{p:Prop}(h:kdN d p):d=.non/\p:=by cases d<;>first|exact#[rfl,h]|exact False.elim h
variable{ds:List My.D}
def kd1.of{k:D->Prop}(h:kd1 ds k):∃x,ds=[x]/\k x:=by
 cases ds with
 |nil=>exact False.elim h
 |cons x r=>cases r with
  |nil=>exact#[x,rfl,h]
  |cons=>exact False.elim h
def kd2.of{k:D->D->Prop}(h:kd2 ds k):∃x y,ds=[x,y]/\k x y:=by
 cases ds with
 |nil=>exact False.elim h
 |cons x r=>cases r with
  |nil=>exact False.elim h
  |cons y r=>cases r with
   |nil=>exact#[x,y,rfl,h]
   |cons=>exact False.elim h
def rdI0(f:Int->Int->D):RD2:=λx y R=>kdI x λi=>kdI y λj=>R (f i j)
def rdI1(C:Int->Int->Prop)(f:Int->Int->D):RD2:=λx y R=>kdI x λi=>kdI y λj=>C i j/\R (f i j)
variable{K:Dr}{f:Int->Int->My.D}{g:Int->Int->V}
def fA(k:∀F i j,Rep K F (f i j) (g i j)):aS K (rI0 g) (rdI0 f):=by
 intro x y u v F H R Q fh h rx ry q;replace h:=kdI.of h;obtain⟨i,rfl,h⟩:=h;replace h:=kdI.of h;obtain⟨j,rfl,h⟩:=h;exact#[i,j,rep_int.mp rx,rep_int.mp ry,q _ _ F H (Grow.refl fh) h (k F i j)]
def du{C:Int->Int->Prop}(k:∀F i j,Rep K F (f i j) (g i j)):aS K (rI C g) (rdI1 C f):=by
 intro x y u v F H R Q fh h rx ry q;replace h:=kdI.of h;obtain⟨i,rfl,h⟩:=h;replace h:=kdI.of h;obtain⟨j,rfl,h⟩:=h;exact#[i,j,rep_int.mp rx,rep_int.mp ry,h.1,q _ _ F H (Grow.refl fh) h.2 (k F i j)]
def jc:RD2:=λx y R=>match x with
 |.int i=>kdI y λj=>R (.int (i+j))
 |.str i=>kdS y λj=>i.length+j.length<=1000000/\R (.str (i++j))
 |.lst xs=>kdL y λys=>xs.length+ys.length<=1000000/\R (.lst (xs++ys))
 |.tup xs=>kdT y λys=>(xs≠[]/\ys≠[]/\xs.length+ys.length<=1000000)/\R (.tup (xs++ys))
 |_=>False
def pp(K:Dr):R2:=λx y H Q=>rI0 (λi j=>.int (i+j)) x y H Q\/((λx y H Q=>∃i j,x=.str i/\y=.str j/\i.length+j.length<=sizeLine/\Q (.str (i++j)) H) x y H Q\/(rCat x y H Q\/oR K x y H Q))
def pq:OpR X (PR .Add) (pp X.K):=OpR.or ub (OpR.or ut (OpR.or vU vD))
def Reps.append{K:Dr}{F:Hp}:∀{xs ys:List D} {us vs:List V},Reps K F xs us->Reps K F ys vs->Reps K F (xs++ys) (us++vs)
 |[],ys,us,vs,r1,r2=>by rw[reps_nil.mp r1];exact r2
 |x::xs,ys,us,vs,r1,r2=>by
  obtain⟨u,ur,rfl,a1,a2⟩:=reps_cons.mp r1;exact reps_cons.mpr #[u,ur++vs,rfl,a1,Reps.append a2 r2]
def Reps.ne_nil{F:Hp}{xs:List D}{us:List V}(r:Reps K F xs us)(h:xs≠[]):us≠[]:=by
 cases xs with
 |nil=>exact absurd rfl h
 |cons x xs=>obtain⟨u,ur,rfl,_⟩:=reps_cons.mp r;exact λz=>nomatch z
def pr:aS K (pp K) jc:=by
 intro x y u v F H R Q fh h rx ry q;cases x with
 |int i=>
  replace h:=kdI.of h;obtain⟨j,rfl,h⟩:=h;exact .inl #[_,_,rep_int.mp rx,rep_int.mp ry,q _ _ F H (Grow.refl fh) h (rep_int.mpr rfl)]
 |str i=>
  replace h:=kdS.of h;obtain⟨j,rfl,h⟩:=h;exact .inr (.inl #[_,_,rep_str.mp rx,rep_str.mp ry,Dy h.1 G_,q _ _ F H (Grow.refl fh) h.2 (rep_str.mpr rfl)])
 |lst xs=>
  replace h:=kdL.of h;obtain⟨ys,rfl,h⟩:=h;obtain⟨a,us,rfl,hq,rr⟩:=rep_lst.mp rx;obtain⟨b,vs,rfl,u_,E_⟩:=rep_lst.mp ry;refine .inr (.inr (.inl #[a,b,us,vs,rfl,rfl,fh _ _ hq,fh _ _ u_,by rw[rr.length,E_.length];exact Dy h.1 G_,λp hp=>?_]));exact q _ _ _ _ (Grow.new fh hp _) h.2 (rep_lst.mpr #[p,_,rfl,aA,(rr.append E_).mono (aM (fh.free hp) _)])
 |tup xs=>
  replace h:=kdT.of h;obtain⟨ys,rfl,h⟩:=h;obtain⟨a,us,rfl,hq,rr⟩:=rep_tup_mp rx;obtain⟨b,vs,rfl,u_,E_⟩:=rep_tup_mp ry;obtain⟨⟨n1,n2,hz⟩,h⟩:=h;refine .inr (.inr (.inr #[a,b,us,vs,rfl,rfl,fh.tup hq,fh.tup u_,rr.ne_nil n1,by rw[rr.length,E_.length];exact Dy hz G_,λz=>absurd z (E_.ne_nil n2),λ_ p hp=>?_]));exact q _ _ _ _ (Grow.new fh hp _) h (rep_tupS.mpr #[p,_,rfl,aA,(rr.append E_).mono (aM (fh.free hp) _)])
 |_=>exact False.elim h
def aj[Jx](ha:WDE X a ta)(hb:WDE X b tb):WDE X (.BinOp a .Add b pos) (dOp jc ta tb):=#[have ha:=ha.out;have hb:=hb.out;cy pq pr ha hb]
def jd:RD2:=rdI0 λi j=>.int (i-j)
def pv:aS K (rI0 λi j=>.int (i-j)) jd:=fA λ_ _ _=>rep_int.mpr rfl
def bJ[Jx](ha:WDE X a ta)(hb:WDE X b tb):WDE X (.BinOp a .Sub b pos) (dOp jd ta tb):=#[have ha:=ha.out;have hb:=hb.out;cy oh pv ha hb]
def pw:RD2:=λx y R=>kdI x λi=>kdI y λj=>CMul i j/\R (.int (i*j))
def wr:aS K (rI CMul λi j=>.int (i*j)) pw:=du λ_ _ _=>rep_int.mpr rfl
def aH[Jx](ha:WDE X a ta)(hb:WDE X b tb):WDE X (.BinOp a .Mult b pos) (dOp pw ta tb):=#[have ha:=ha.out;have hb:=hb.out;cy oi wr ha hb]
def pz:RD2:=λx y R=>kdI x λi=>kdI y λj=>(0<j/\j<1073741824)/\R (.int (i/j))
def wt:aS K (rI CDiv λi j=>.int (i/j)) pz:=du λ_ _ _=>rep_int.mpr rfl
def bt[Jx](ha:WDE X a ta)(hb:WDE X b tb):WDE X (.BinOp a .FloorDiv b pos) (dOp pz ta tb):=#[have ha:=ha.out;have hb:=hb.out;cy uc wt ha hb]
def pA:RD2:=λx y R=>kdI x λi=>kdI y λj=>0<j/\R (.int (i%j))
def wu:aS K (rI (λ_ j=>0<j) λi j=>.int (i%j)) pA:=du λ_ _ _=>rep_int.mpr rfl
def aw[Jx](ha:WDE X a ta)(hb:WDE X b tb):WDE X (.BinOp a .Mod b pos) (dOp pA ta tb):=#[have ha:=ha.out;have hb:=hb.out;cy ud wu ha hb]
def pB:RD2:=λx y R=>kdI x λi=>kdI y λj=>j≠0/\R (.int (i.fmod j))
def wv:aS K (rI (λ_ j=>j≠0) λi j=>.int (i.fmod j)) pB:=du λ_ _ _=>rep_int.mpr rfl
def pC[Jx](ha:WDE X a ta)(hb:WDE X b tb):WDE X (.BinOp a .Mod b pos) (dOp pB ta tb):=#[have ha:=ha.out;have hb:=hb.out;cy ue wv ha hb]
def rdLt:RD2:=rdI0 λi j=>.bl (decide (i<j))
def je:aS K (rI0 λi j=>.bl (decide (i<j))) rdLt:=fA λ_ _ _=>rep_bl.mpr rfl
def pD[Jx](ha:WDE X a ta)(hb:WDE X b tb):WDE X (.Compare a [.Lt] [b] pos) (dOp rdLt ta tb):=#[have ha:=ha.out;have hb:=hb.out;gm iU je ha hb (nomark _)]
def rdLe:RD2:=rdI0 λi j=>.bl (decide (i<=j))
def ww:aS K (rI0 λi j=>.bl (decide (i<=j))) rdLe:=fA λ_ _ _=>rep_bl.mpr rfl
def rdGt:RD2:=rdI0 λi j=>.bl (decide (j<i))
def pE:aS K (rI0 λi j=>.bl (decide (j<i))) rdGt:=fA λ_ _ _=>rep_bl.mpr rfl
def wx[Jx](ha:WDE X a ta)(hb:WDE X b tb):WDE X (.Compare a [.Gt] [b] pos) (dOp rdGt ta tb):=#[have ha:=ha.out;have hb:=hb.out;gm ot pE ha hb (nomark _)]
def rdGe:RD2:=rdI0 λi j=>.bl (decide (j<=i))
def wy:aS K (rI0 λi j=>.bl (decide (j<=i))) rdGe:=fA λ_ _ _=>rep_bl.mpr rfl
def rdEq:RD2:=λx y R=>match x with
 |.int i=>kdI y λj=>R (.bl (decide (i=j)))
 |.bl i=>kdB y λj=>R (.bl (decide (i=j)))
 |.str i=>kdS y λj=>R (.bl (decide (i=j)))
 |.non=>kdN y (R (.bl true))
 |_=>False
def rdNe:RD2:=λx y R=>match x with
 |.int i=>kdI y λj=>R (.bl (!decide (i=j)))
 |.bl i=>kdB y λj=>R (.bl (!decide (i=j)))
 |.str i=>kdS y λj=>R (.bl (!decide (i=j)))
 |.non=>kdN y (R (.bl false))
 |_=>False
def jg:aS K rEq rdEq:=by
 intro x y u v F H R Q fh h rx ry q;cases x with
 |int i=>
  replace h:=kdI.of h;obtain⟨j,rfl,h⟩:=h;rw[rep_int.mp rx,rep_int.mp ry];exact#[rfl,q _ _ F H (Grow.refl fh) h (rep_bl.mpr HV)]
 |bl i=>
  replace h:=kdB.of h;obtain⟨j,rfl,h⟩:=h;rw[rep_bl.mp rx,rep_bl.mp ry];exact#[rfl,q _ _ F H (Grow.refl fh) h (rep_bl.mpr HV)]
 |str i=>
  replace h:=kdS.of h;obtain⟨j,rfl,h⟩:=h;rw[rep_str.mp rx,rep_str.mp ry];exact#[rfl,q _ _ F H (Grow.refl fh) h (rep_bl.mpr HV)]
 |non=>
  replace h:=kdN.of h;obtain⟨rfl,h⟩:=h;rw[rep_non.mp rx,rep_non.mp ry];exact#[rfl,q _ _ F H (Grow.refl fh) h (rep_bl.mpr HV)]
 |_=>exact False.elim h
def wz:aS K rNe rdNe:=by
 intro x y u v F H R Q fh h rx ry q;cases x with
 |int i=>
  replace h:=kdI.of h;obtain⟨j,rfl,h⟩:=h;rw[rep_int.mp rx,rep_int.mp ry];exact#[rfl,q _ _ F H (Grow.refl fh) h (rep_bl.mpr HV)]
 |bl i=>
  replace h:=kdB.of h;obtain⟨j,rfl,h⟩:=h;rw[rep_bl.mp rx,rep_bl.mp ry];exact#[rfl,q _ _ F H (Grow.refl fh) h (rep_bl.mpr HV)]
 |str i=>
  replace h:=kdS.of h;obtain⟨j,rfl,h⟩:=h;rw[rep_str.mp rx,rep_str.mp ry];exact#[rfl,q _ _ F H (Grow.refl fh) h (rep_bl.mpr HV)]
 |non=>
  replace h:=kdN.of h;obtain⟨rfl,h⟩:=h;rw[rep_non.mp rx,rep_non.mp ry];exact#[rfl,q _ _ F H (Grow.refl fh) h (rep_bl.mpr HV)]
 |_=>exact False.elim h
def cj[Jx](ha:WDE X a ta)(hb:WDE X b tb):WDE X (.Compare a [.Eq] [b] pos) (dOp rdEq ta tb):=#[have ha:=ha.out;have hb:=hb.out;gm iT jg ha hb (nomark _)]
def pF:D->Bool|.non=>true|_=>false
def rdIs(f:Bool->Bool):RD2:=λx y R=>kdN y (R (.bl (f (pF x))))
def wA{H:Hp}{x:D}{u:V}(r:Rep K H x u):decide (u=.non)=pF x:=by
 cases x with
 |non=>rw[rep_non.mp r];rfl
 |bl b=>rw[rep_bl.mp r];rfl
 |int b=>rw[rep_int.mp r];rfl
 |str b=>rw[rep_str.mp r];rfl
 |tup b=>obtain⟨a,vs,rfl,_⟩:=rep_tup_mp r;rfl
 |lst b=>obtain⟨a,vs,rfl,_⟩:=rep_lst.mp r;rfl
 |rol b=>obtain⟨a,vs,rfl,_⟩:=rep_rol.mp r;rfl
 |obj C b=>obtain⟨a,C,dx,vs,rfl,_⟩:=rep_obj.mp r;rfl
 |exc C b=>obtain⟨a,C,od,vs,rfl,_⟩:=rep_exc.mp r;rfl
 |own b=>exact absurd r rep_own
 |ptr b=>rw[rep_ptr.mp r];rfl
 |dti b=>obtain⟨a,rfl,_⟩:=rep_dti.mp r;rfl
def pG:aS K (λx y H Q=>y=.non/\Q (.bl (decide (x=.non))) H) (rdIs id):=by
 intro x y u v F H R Q fh h rx ry q;replace h:=kdN.of h;obtain⟨rfl,h⟩:=h;exact#[rep_non.mp ry,q _ _ F H (Grow.refl fh) h (rep_bl.mpr (by rw[wA rx];rfl))]
def rdIx:RD2:=λx y R=>kdI y λi=>match x with
 |.tup ds=>∃d,atI ds i=u5 d/\R d
 |.lst ds=>∃d,atI ds i=u5 d/\R d
 |.rol ds=>∃d,atI ds i=u5 d/\R d
 |.str x=>∃c,(x.length<=1000000/\atI x.cps.toList i=u5 c)/\R (.str #[[c].toArray])
 |_=>False
def Reps.at{H:Hp}{vs:List V}{i:Int}(r:Reps K H ds vs)(e:atI ds i=u5 d):∃v,atI vs i=u5 v/\Rep K H d v:=by
 unfold atI at e ⊢;rw[r.length];cases q:ixN ds.length i with
 |none=>rw[q]at e;cases e
 |some j=>
  rw[q]at e;exact r.get e
def pH:aS K (rIx K) rdIx:=by
 intro x y u v F H R Q fh h rx ry q;replace h:=kdI.of h;obtain⟨i,rfl,h⟩:=h;cases x with
 |tup ds=>
  obtain⟨d,e,h⟩:=h;obtain⟨a,vs,e1,hq,rs⟩:=rep_tup_mp rx;obtain⟨w,e2,m_⟩:=rs.at e;exact .inr (.inl #[a,vs,_,w,e1,rep_int.mp ry,fh.tup hq,e2,q d w F H (Grow.refl fh) h m_])
 |lst ds=>
  obtain⟨d,e,h⟩:=h;obtain⟨a,vs,e1,hq,rs⟩:=rep_lst.mp rx;obtain⟨w,e2,m_⟩:=rs.at e;exact .inl #[a,vs,_,w,e1,rep_int.mp ry,fh.seq (SqL.of hq),e2,q d w F H (Grow.refl fh) h m_]
 |rol ds=>
  obtain⟨d,e,h⟩:=h;obtain⟨a,vs,e1,hq,rs⟩:=rep_rol.mp rx;obtain⟨w,e2,m_⟩:=rs.at e;exact .inl #[a,vs,_,w,e1,rep_int.mp ry,fh.seq hq,e2,q d w F H (Grow.refl fh) h m_]
 |str x=>
  obtain⟨c,⟨hz,e⟩,h⟩:=h;exact .inr (.inr #[_,_,c,rep_str.mp rx,rep_int.mp ry,Dy hz G_,e,q _ _ F H (Grow.refl fh) h (rep_str.mpr rfl)])
 |_=>exact False.elim h
def af[Jx](ha:WDE X a ta)(hb:WDE X b tb)(hs:autoParam (fk b) zA6):WDE X (.Subscript a b pos) (dOp rdIx ta tb):=#[have ha:=ha.out;have hb:=hb.out;wo oU pH ha hb hs]
def dUn(r:D->(D->Prop)->Prop)(ta:TD):TD:=λz R=>ta z λx=>r x R
def pI:D->(D->Prop)->Prop:=λx R=>match x with|.int i=>R (.int (-i))|_=>False
def bZ[Jx](ha:WDE X a ta):WDE X (.UnaryOp .USub a pos) (dUn pI ta):=⟨have ha:=ha.out;(tZ uf ha).anti λs H Q h=>by
 obtain⟨B,F,z,kf,rs,R,h1,h2⟩:=h;have fh:=kf.fh;refine#[B,F,z,kf,rs,_,h1,λx u F1 H1 g1 hx rx=>?_];unfold pI at hx;split at hx
 .exact#[_,rep_int.mp rx,h2 _ _ F1 H1 g1 hx (rep_int.mpr rfl)]
 .exact hx.elim⟩
def dNil:TDA:=λ_ R=>R []
def wB(ta:TD)(tr:TDA):TDA:=λz R=>ta z λx=>tr z λxs=>R (x::xs)
def ae[Jx]:WDA X [] dNil:=⟨pa_nil.anti λs H Q h=>by
 obtain⟨B,F,z,kf,rs,R,h1,h2⟩:=h;have fh:=kf.fh;exact h2 [] [] F H (Grow.refl fh) h1 (reps_nil.mpr rfl)⟩
variable{es:List Pu}{t:TDA}
def ac[Jx]{te:TD}(ha:WDE X e te)(hr:WDA X es t)(hs:autoParam (zSE X e es) zA0):WDA X (e::es) (wB te t):=⟨have ha:=ha.out;have hr:=hr.out;(bN ha hr hs).anti λs H Q h=>by
 obtain⟨B,F,z,kf,rs,R,h1,h2⟩:=h;have fh:=kf.fh;refine#[B,F,z,kf,rs,_,h1,λx u F1 H1 g1 hx rx=>?_];refine#[B,F1,z,kf.grow g1,rs.grow g1,_,hx,λxs us F2 H2 g2 hy ry=>?_];exact h2 _ _ F2 H2 (g1.trans g2) hy (reps_cons.mpr #[_,_,rfl,rx.mono g2.ff,ry])⟩
def dTup(t:TDA):TD:=λz R=>t z λxs=>xs.length<=1000/\R (.tup xs)
def dLst(t:TDA):TD:=λz R=>t z λxs=>xs.length<=1000/\R (.lst xs)
def aB[Jx]{x1}(h:WDA X es t):WDE X (.Tuple es x1 pos) (dTup t):=⟨have h:=h.out;(oF h).anti λs H Q q=>by
 obtain⟨B,F,z,kf,rs,R,h1,h2⟩:=q;have fh:=kf.fh;refine#[B,F,z,kf,rs,_,h1,λds vs F1 H1 g1 hx rx=>?_];have hl:=rx.length;refine#[sz (by rw[hl];exact hx.1),λp hp=>?_];exact h2 _ _ _ _ (g1.trans (Grow.new g1.fh hp _)) hx.2 (rep_tupS.mpr #[p,vs,rfl,aA,rx.mono (aM (g1.fh.free hp) _)])⟩
def aY[Jx](h:WDA X es t):WDE X (.List es pos) (dLst t):=⟨have h:=h.out;(iX h).anti λs H Q q=>by
 obtain⟨B,F,z,kf,rs,R,h1,h2⟩:=q;have fh:=kf.fh;refine#[B,F,z,kf,rs,_,h1,λds vs F1 H1 g1 hx rx=>?_];have hl:=rx.length;refine#[sz (by rw[hl];exact hx.1),λp hp=>?_];exact h2 _ _ _ _ (g1.trans (Grow.new g1.fh hp _)) hx.2 (rep_lst.mpr #[p,vs,rfl,aA,rx.mono (aM (g1.fh.free hp) _)])⟩
abbrev SpD:=List D->(D->Prop)->Prop
def lSp(K:Dr)(S:SpD):Sp:=λvs H Q _=>∃F ds,Same F H/\Reps K F ds vs/\∃R:D->Prop,S ds R/\∀d v F' H',Grow F H F' H'->R d->Rep K F' d v->Q v H'
def pJ(S:SpD)(t:TDA):TD:=λz R=>t z λds=>S ds R
abbrev CalD(P:Pw)(w:Pz)(K:Dr)(mg:G8->Option GT)(base:Heap)(n:Nat)(x:G8)(ps:List G8)(S:SpD):Prop:=Cal P w K mg base n x ps (lSp K S)
variable{p:PK}
def aF[Jx]{n m:Nat}{ps:List G8}{S:SpD}(C:CalD X.prog X.w X.K X.mg X.base n x ps S)(hr:Room m X.A)(ha:WDA X (e::es) t)(hg:autoParam (Gl X x) zA0)(hn:autoParam (n<=m) zA1)(e_:autoParam (zND x) zA1)
  (he:autoParam (zSE X e es) zA0) (d0:autoParam (zPL X pos es) zA0):WDE X (.Call (.Name x p) (e::es) [] pos) (pJ S t):=⟨have ha:=ha.out;(wn C hr ha hg hn e_ he d0).anti λs H Q h=>by
 obtain⟨B,F,z,kf,rs,R,h1,h2⟩:=h;have fh:=kf.fh;refine#[B,F,z,kf,rs,_,h1,λds vs F1 H1 g1 hx rx=>?_];exact#[F1,ds,g1.fh,by rw[Ea];exact rx,R,hx,λd v F' H' g=>h2 d v F' H' (g1.trans g)]⟩
abbrev RDn:=List D->(D->Prop)->Prop
def cv(K:Dr)(r:List V->Hp->VK->Prop)(rd:RDn):Prop:=∀ds vs F H R Q,Same F H->rd ds R->Reps K F ds vs->(∀d w F' H',Grow F H F' H'->R d->Rep K F' d w->Q w H')->r vs H Q
def dCB(r:RDn)(t:TDA):TD:=λz R=>t z λds=>r ds R
def jh[Jx]{id:String}{r:List V->Hp->VK->Prop}{rd:RDn}(hc:bM X (.builtin id) r)(L:cv X.K r rd)(hm:X.mg x=A')(hv:PY x=u5 (.builtin id))(ha:DA X (e::es) t)(hg:autoParam (Gl X x) zA0)(hn:autoParam (x≠"__name__") zA1)(e_:autoParam (zND x) zA1)
  (he:autoParam (zSE X e es) zA0) (d0:autoParam (zPL X pos es) zA0):DE X (.Call (.Name x p) (e::es) [] pos) (dCB rd t):=(fj hc hg hm hv ha hn e_ he d0).anti λs H Q h=>by
 obtain⟨B,F,z,kf,rs,R,h1,h2⟩:=h;have fh:=kf.fh;refine#[B,F,z,kf,rs,_,h1,λds vs F1 H1 g1 hx rx=>?_];exact L ds vs F1 H1 R Q g1.fh hx rx λd w F' H' g=>h2 d w F' H' (g1.trans g)
def ji:RDn:=λds R=>kd1 ds λx=>match x with
 |.tup xs=>R (.int xs.length)
 |.lst xs=>R (.int xs.length)
 |.rol xs=>R (.int xs.length)
 |.str x=>x.length<=1000000/\R (.int x.length)
 |_=>False
def pK:cv K (λxs H Q=>∃x n,xs=[x]/\LenV K x H n/\Q (.int n) H) ji:=by
 intro ds vs F H R Q fh h rx q;replace h:=kd1.of h;obtain⟨x,rfl,h⟩:=h;obtain⟨v,r,rfl,h1,h2⟩:=reps_cons.mp rx;rw[reps_nil.mp h2];cases x with
 |tup xs=>
  obtain⟨a,us,rfl,hq,rs⟩:=rep_tup_mp h1;exact#[.ref a,us.length,rfl,.inr #[us,fh.tup hq,rfl],q _ _ F H (Grow.refl fh) h (rep_int.mpr (by rw[rs.length]))]
 |lst xs=>
  obtain⟨a,us,rfl,hq,rs⟩:=rep_lst.mp h1;exact#[.ref a,us.length,rfl,.inl #[us,fh.seq (SqL.of hq),rfl],q _ _ F H (Grow.refl fh) h (rep_int.mpr (by rw[rs.length]))]
 |rol xs=>
  obtain⟨a,us,rfl,hq,rs⟩:=rep_rol.mp h1;exact#[.ref a,us.length,rfl,.inl #[us,fh.seq hq,rfl],q _ _ F H (Grow.refl fh) h (rep_int.mpr (by rw[rs.length]))]
 |str x=>
  rw[rep_str.mp h1];exact#[.str _,_,rfl,#[Dy h.1 G_,rfl],q _ _ F H (Grow.refl fh) h.2 (rep_int.mpr rfl)]
 |_=>exact False.elim h
def cP[Jx](hm:X.mg "len"=A')(ha:WDA X [e] t)(hg:autoParam (Gl X "len") zA0)(he:autoParam (zSE X e []) zA0):WDE X (.Call (.Name "len" p) [e] [] pos) (dCB ji t):=#[have ha:=ha.out;jh gf pK hm PySem.boot_len ha hg G_ G_ he]
def pL:RDn:=λds R=>kd1 ds λx=>kdI x λi=>R (.int (if i<0 then -i else i))
def wC:cv K (λxs H Q=>∃i,xs=[.int i]/\Q (.int (if i<0 then -i else i)) H) pL:=by
 intro ds vs F H R Q fh h rx q;replace h:=kd1.of h;obtain⟨x,rfl,h⟩:=h;replace h:=kdI.of h;obtain⟨i,rfl,h⟩:=h;obtain⟨v,r,rfl,h1,h2⟩:=reps_cons.mp rx;rw[reps_nil.mp h2,rep_int.mp h1];exact#[_,rfl,q _ _ F H (Grow.refl fh) h (rep_int.mpr rfl)]
def gp[Jx](hm:X.mg "abs"=A')(ha:WDA X [e] t)(hg:autoParam (Gl X "abs") zA0)(he:autoParam (zSE X e []) zA0):WDE X (.Call (.Name "abs" p) [e] [] pos) (dCB pL t):=#[have ha:=ha.out;jh uw wC hm PyProof.Rows.boot_abs ha hg G_ G_ he]
end
section
variable {X:Cx}{a b c e:Pu}{ta tb tc te:TD}{pos:PK}
def dTst(t:TD):TDT:=λz R=>t z λx=>match x with|.bl k=>R k|_=>False
def cH[Jx]{op:Rn}{r:R2}{rd:RD2}(ho:OpR X (PJ op) r)(L:aS X.K r rd)(ha:DE X a ta)(hb:DE X b tb)(hm:PQ op b=false):DT X (.Compare a [op] [b] pos) (dTst (dOp rd ta tb)):=(gc ho ha hb hm).anti λs H Q q=>by
 obtain⟨B,F,z,kf,rs,R,h1,h2⟩:=q;have fh:=kf.fh;refine#[B,F,z,kf,rs,_,h1,λx u F1 H1 g1 hx rx=>?_];refine#[B,F1,z,kf.grow g1,rs.grow g1,_,hx,λy v F2 H2 g2 hy ry=>?_];refine L x y u v F2 H2 _ _ g2.fh hy (rx.mono g2.ff) ry λd w F' H' g3 hd rd=>?_;split at hd
 .exact#[_,rep_bl.mp rd,h2 _ F' H' (g1.trans (g2.trans g3)) hd]
 .exact hd.elim
def dY[Jx](ha:WDE X a ta)(hb:WDE X b tb):WDT X (.Compare a [.Lt] [b] pos) (dTst (dOp rdLt ta tb)):=#[have ha:=ha.out;have hb:=hb.out;cH iU je ha hb (nomark _)]
def wE[Jx](ha:WDE X a ta)(hb:WDE X b tb):WDT X (.Compare a [.LtE] [b] pos) (dTst (dOp rdLe ta tb)):=#[have ha:=ha.out;have hb:=hb.out;cH ui ww ha hb (nomark _)]
def pM[Jx](ha:WDE X a ta)(hb:WDE X b tb):WDT X (.Compare a [.Gt] [b] pos) (dTst (dOp rdGt ta tb)):=#[have ha:=ha.out;have hb:=hb.out;cH ot pE ha hb (nomark _)]
def pN[Jx](ha:WDE X a ta)(hb:WDE X b tb):WDT X (.Compare a [.GtE] [b] pos) (dTst (dOp rdGe ta tb)):=#[have ha:=ha.out;have hb:=hb.out;cH uj wy ha hb (nomark _)]
def aI[Jx](ha:WDE X a ta)(hb:WDE X b tb):WDT X (.Compare a [.Eq] [b] pos) (dTst (dOp rdEq ta tb)):=#[have ha:=ha.out;have hb:=hb.out;cH iT jg ha hb (nomark _)]
def jj[Jx](ha:WDE X a ta)(hb:WDE X b tb):WDT X (.Compare a [.NotEq] [b] pos) (dTst (dOp rdNe ta tb)):=#[have ha:=ha.out;have hb:=hb.out;cH uh wz ha hb (nomark _)]
def pO[Jx](ha:WDE X a ta)(hb:WDE X b tb):WDT X (.Compare a [.Is] [b] pos) (dTst (dOp (rdIs id) ta tb)):=#[have ha:=ha.out;have hb:=hb.out;cH ou pG ha hb (nomark _)]
def dTru(t:TD):TDT:=λz R=>t z λx=>match x with
 |.non=>R false
 |.bl k=>R k
 |.int i=>R (i !=0)
 |.str y=>y.length<=1000/\R ((y.length:Int) !=0)
 |.tup xs=>R (!xs.isEmpty)
 |.lst xs=>R (!xs.isEmpty)
 |.rol xs=>R (!xs.isEmpty)
 |_=>False
variable{K:Dr}
def Reps.isEmpty{H:Hp}{ds:List D}{vs:List V}(r:Reps K H ds vs):vs.isEmpty=ds.isEmpty:=by
 cases ds with
 |nil=>rw[reps_nil.mp r];rfl
 |cons d ds=>obtain⟨v,r',rfl,_⟩:=reps_cons.mp r;rfl
def fB[Jx](ha:WDE X a ta)(he:autoParam (∀f9,isTrue a X.env f9=(do let v <-f9;Qx a.pos;Qy [v] (truthy v))) zA3):WDT X a (dTru ta):=⟨have ha:=ha.out;(ow ha he).anti λs H Q q=>by
 obtain⟨B,F,z,kf,rs,R,h1,h2⟩:=q;have fh:=kf.fh;refine#[B,F,z,kf,rs,_,h1,λx u F1 H1 g1 hx rx=>?_];split at hx
 .rw[rep_non.mp rx];exact#[false,rfl,h2 _ F1 H1 g1 hx]
 .rw[rep_bl.mp rx];exact#[_,rfl,h2 _ F1 H1 g1 hx]
 .rw[rep_int.mp rx];exact#[_,rfl,h2 _ F1 H1 g1 hx]
 .rw[rep_str.mp rx];exact#[_,#[sz hx.1,rfl],h2 _ F1 H1 g1 hx.2]
 .obtain⟨p,vs,rfl,hq,rr⟩:=rep_tup_mp rx;exact#[_,.inr (.inl #[vs,g1.fh.tup hq,by rw[rr.isEmpty]]),h2 _ F1 H1 g1 hx]
 .obtain⟨p,vs,rfl,hq,rr⟩:=rep_lst.mp rx;exact#[_,.inl #[vs,g1.fh.seq (SqL.of hq),by rw[rr.isEmpty]],h2 _ F1 H1 g1 hx]
 .obtain⟨p,vs,rfl,hq,rr⟩:=rep_rol.mp rx;exact#[_,.inl #[vs,g1.fh.seq hq,by rw[rr.isEmpty]],h2 _ F1 H1 g1 hx]
 .exact hx.elim⟩
variable {tA z8:TDT}{rest:List Pu}
def dAnd(t u:TDT):TDT:=λz R=>t z λc=>if c=true then u z R else R false
def dOr(t u:TDT):TDT:=λz R=>t z λc=>if c=true then R true else u z R
def dNot(t:TDT):TDT:=λz R=>t z λc=>R (!c)
def pP[Jx](ha:WDT X a tA):WDW X (.BoolOp .And [a] pos) tA:=#[have ha:=ha.out;nN ha]
def pQ[Jx](ha:WDT X a tA):WDW X (.BoolOp .Or [a] pos) tA:=#[have ha:=ha.out;nO ha]
def pR[Jx](ha:WDT X a tA)(hb:WDW X (.BoolOp .And (b::rest) pos) z8):WDW X (.BoolOp .And (a::b::rest) pos) (dAnd tA z8):=⟨have ha:=ha.out;have hb:=hb.out;(nP ha hb).anti λs H Q q=>by
 obtain⟨B,F,z,kf,rs,R,h1,h2⟩:=q;have fh:=kf.fh;refine#[B,F,z,kf,rs,_,h1,λk F1 H1 g1 hx=>?_];cases k with
 |true=>exact#[B,F1,z,kf.grow g1,rs.grow g1,R,hx,λb F' H' g=>h2 b F' H' (g1.trans g)]
 |false=>exact h2 _ F1 H1 g1 hx⟩
def pS[Jx](ha:WDT X a tA)(hb:WDW X (.BoolOp .Or (b::rest) pos) z8):WDW X (.BoolOp .Or (a::b::rest) pos) (dOr tA z8):=⟨have ha:=ha.out;have hb:=hb.out;(nQ ha hb).anti λs H Q q=>by
 obtain⟨B,F,z,kf,rs,R,h1,h2⟩:=q;have fh:=kf.fh;refine#[B,F,z,kf,rs,_,h1,λk F1 H1 g1 hx=>?_];cases k with
 |false=>exact#[B,F1,z,kf.grow g1,rs.grow g1,R,hx,λb F' H' g=>h2 b F' H' (g1.trans g)]
 |true=>exact h2 _ F1 H1 g1 hx⟩
def gq[Jx](h:WDW X a tA):WDT X a tA:=#[have h:=h.out;PW.pt h]
def jk[Jx](ha:WDT X a tA):WDT X (.UnaryOp .Not a pos) (dNot tA):=⟨have ha:=ha.out;(nR ha).anti λs H Q q=>by
 obtain⟨B,F,z,kf,rs,R,h1,h2⟩:=q;have fh:=kf.fh;exact#[B,F,z,kf,rs,_,h1,λk F1 H1 g1 hx=>h2 _ F1 H1 g1 hx]⟩
def wF(ta tb:TD):TD:=λz R=>ta z λx=>match x with|.bl k=>if k=true then tb z R else R (.bl false)|_=>False
def dOrV(ta tb:TD):TD:=λz R=>ta z λx=>match x with|.bl k=>if k=true then R (.bl true)else tb z R|_=>False
def wG(ta:TD):TD:=λz R=>ta z λx=>match x with|.bl k=>R (.bl (!k))|_=>False
def dv[Jx]{op}(h:WDE X a ta):WDE X (.BoolOp op [a] pos) ta:=#[have h:=h.out;tG h]
def dz[Jx](ha:WDE X a ta)(hb:WDE X (.BoolOp .And (b::rest) pos) tb):WDE X (.BoolOp .And (a::b::rest) pos) (wF ta tb):=⟨have ha:=ha.out;have hb:=hb.out;(tH ha hb).anti λs H Q q=>by
 obtain⟨B,F,z,kf,rs,R,h1,h2⟩:=q;have fh:=kf.fh;refine#[B,F,z,kf,rs,_,h1,λx u F1 H1 g1 hx rx=>?_];split at hx
 .rename_i k;refine#[k,rep_bl.mp rx,?_];cases k with
  |true=>exact#[B,F1,z,kf.grow g1,rs.grow g1,R,hx,λd v F' H' g=>h2 d v F' H' (g1.trans g)]
  |false=>exact h2 _ _ F1 H1 g1 hx (rep_bl.mpr rfl)
 .exact hx.elim⟩
def wH[Jx](ha:WDE X a ta)(hb:WDE X (.BoolOp .Or (b::rest) pos) tb):WDE X (.BoolOp .Or (a::b::rest) pos) (dOrV ta tb):=⟨have ha:=ha.out;have hb:=hb.out;(tI ha hb).anti λs H Q q=>by
 obtain⟨B,F,z,kf,rs,R,h1,h2⟩:=q;have fh:=kf.fh;refine#[B,F,z,kf,rs,_,h1,λx u F1 H1 g1 hx rx=>?_];split at hx
 .rename_i k;refine#[k,rep_bl.mp rx,?_];cases k with
  |false=>exact#[B,F1,z,kf.grow g1,rs.grow g1,R,hx,λd v F' H' g=>h2 d v F' H' (g1.trans g)]
  |true=>exact h2 _ _ F1 H1 g1 hx (rep_bl.mpr rfl)
 .exact hx.elim⟩
def pT[Jx](ha:WDE X a ta):WDE X (.UnaryOp .Not a pos) (wG ta):=⟨have ha:=ha.out;(tJ ha).anti λs H Q q=>by
 obtain⟨B,F,z,kf,rs,R,h1,h2⟩:=q;have fh:=kf.fh;refine#[B,F,z,kf,rs,_,h1,λx u F1 H1 g1 hx rx=>?_];split at hx
 .exact#[_,rep_bl.mp rx,h2 _ _ F1 H1 g1 hx (rep_bl.mpr rfl)]
 .exact hx.elim⟩
def tyD:D->String
 |.non=>"NoneType"|.bl _=>"bool"|.int _=>"int"|.str _=>"str"|.tup _=>"tuple"|.lst _=>"list"|.rol _=>"list"|.obj _ _=>"object"|.exc _ _=>"object"|.own _=>"list"|.ptr _=>"object"|.dti _=>"dict"
def fC(t:String)(x:D):Bool:=tyD x==t||(tyD x=="bool" && t=="int")
def TyQ(K:Dr)(H:Hp)(x:V)(t:String):Prop:=TyOf K H x (.type t)\/(t="tuple"/\∃a xs,x=.ref a/\SqT K H a xs)\/(t="list"/\∃a xs,x=.ref a/\SqL K H a xs)
def wI:bM X (.builtin "isinstance") (λxs H Q=>∃x t c k,xs=[x,.ty c]/\TyQ X.K H x t/\kitOne X.K (.type t) (.type c)=u5 k/\Q (.bl k) H):=by
 intro pins s σ H xs us Q I r h;obtain⟨x,t,c,k,rfl,ty,e,q⟩:=h;obtain⟨u,u',rfl,rx,rc⟩:=iV r;cases(show u'=Value.type c from rc);rcases ty with ty|⟨rfl,a,ys,rfl,hq⟩|⟨rfl,a,ys,rfl,hq⟩
 .exact vh I rx ty e λtk=>#[.bl k,H,I.tok _,rfl,q]
 .cases(show u=Value.ref a from rx);obtain⟨its,_,⟨o,h1,h2,_⟩,_⟩:=I.tuple hq;exact kia_one kitx_tuple I.kIn #[o,h1,h2] e (λz=>nomatch z) λtk=>#[.bl k,H,I.tok _,rfl,q]
 .cases(show u=Value.ref a from rx);obtain⟨its,_,pl,_⟩:=I.list hq;obtain⟨o,n,h1,h2,_⟩:=pl;exact kia_one kitx_list I.kIn #[o,h1,h2] e (λz=>nomatch z) λtk=>#[.bl k,H,I.tok _,rfl,q]
def fD:D->Bool|.obj _ _=>false|.exc _ _=>false|.ptr _=>false|.dti _=>false|_=>true
def wJ{F H:Hp}{x:D}{u:V}(fh:Same F H)(r:Rep K F x u)(no:fD x=true):TyQ K H u (tyD x):=by
 cases x with
 |non=>rw[rep_non.mp r];exact .inl .non
 |bl b=>rw[rep_bl.mp r];exact .inl (.bl b)
 |int b=>rw[rep_int.mp r];exact .inl (.int b)
 |str b=>rw[rep_str.mp r];exact .inl (.str b)
 |tup b=>obtain⟨a,vs,rfl,hq,_⟩:=rep_tup_mp r;exact .inr (.inl #[rfl,a,vs,rfl,fh.tup hq])
 |lst b=>obtain⟨a,vs,rfl,hq,_⟩:=rep_lst.mp r;exact .inr (.inr #[rfl,a,vs,rfl,fh.seq (SqL.of hq)])
 |rol b=>obtain⟨a,vs,rfl,hq,_⟩:=rep_rol.mp r;exact .inr (.inr #[rfl,a,vs,rfl,fh.seq hq])
 |obj C b=>cases no
 |exc C b=>cases no
 |ptr b=>cases no
 |dti b=>cases no
 |own b=>exact absurd r rep_own
def wK(t:String):D->(D->Prop)->Prop:=λx R=>match x with|.obj _ _=>False|.exc _ _=>False|.ptr _=>False|.dti _=>False|x=>R (.bl (fC t x))
def pU[Jx]{p p2:PK}{y:G8}{t:String}(hm:X.mg "isinstance"=A')(NH:X.mg y=A')(ha:WDE X a ta)(hv:PY y=u5 (.type t))
  (hk:∀x:D,fD x=true->kitOne X.K (.type (tyD x)) (.type t)=u5 (fC t x)) (hg:autoParam (Gl X "isinstance") zA0) (NI:autoParam (Gl X y) zA0) (hn:autoParam (y≠"__name__") zA1) (e_:autoParam (zND y) zA1)
  (k_:autoParam (PD [a,.Name y p2] X.env=(false,PM a X.env)::PD [.Name y p2] X.env) zA0) (g6:autoParam (PD [.Name y p2] X.env=(false,PM (.Name y p2) X.env)::PD [] X.env) zA0) (d0:autoParam ((Qv pos (PD [.Name y p2] X.env)).any (·.1)=false) zA0):WDE X (.Call (.Name "isinstance" p) [a,.Name y p2] [] pos) (dUn (wK t) ta):=⟨have ha:=ha.out;(fj wI hg hm PyProof.Rows.boot_isinstance (bN ha (bN (tD (v:=.ty t) NI NH hv rfl hn e_) pa_nil g6) k_) G_ G_ k_ d0).anti λs H Q q=>by
 obtain⟨B,F,z,kf,rs,R,h1,h2⟩:=q;have fh:=kf.fh;refine#[B,F,z,kf,rs,_,h1,λx u F1 H1 g1 hx rx=>?_];have no:fD x=true:=by
  cases x with
  |obj C b=>exact False.elim hx
  |exc C b=>exact False.elim hx
  |ptr b=>exact False.elim hx
  |dti b=>exact False.elim hx
  |_=>rfl
 have g8:R (.bl (fC t x)):=by
  cases x with
  |obj C b=>exact False.elim hx
  |exc C b=>exact False.elim hx
  |ptr b=>exact False.elim hx
  |dti b=>exact False.elim hx
  |_=>exact hx
 exact#[u,tyD x,t,_,rfl,wJ g1.fh rx no,hk x no,h2 _ _ F1 H1 g1 g8 (rep_bl.mpr rfl)]⟩
def wL:∀x:D,fD x=true->kitOne K (.type (tyD x)) (.type "int")=u5 (fC "int" x):=by intro x no;cases x<;>first|rfl|cases no
def kit_bool:∀x:D,fD x=true->kitOne K (.type (tyD x)) (.type "bool")=u5 (fC "bool" x):=by intro x no;cases x<;>first|rfl|cases no
def toV:D->Option V
 |.non=>u5 .non|.bl b=>u5 (.bl b)|.int i=>u5 (.int i)|.str x=>u5 (.str x)|_=>A'
def bE(d:D):Bool:=(toV d).isSome
def eqF:D->D->Bool
 |.non,.non=>true
 |.bl a,.bl b=>a==b
 |.bl a,.int b=>(if a then 1 else 0)==b
 |.int a,.bl b=>a==(if b then 1 else 0)
 |.int a,.int b=>a==b
 |.str a,.str b=>a==b
 |_,_=>false
def eqFs:List D->List D->Bool
 |[],[]=>true
 |x::xs,y::ys=>eqF x y&&eqFs xs ys
 |_,_=>false
end
section
variable {X:Cx}{a b:Pu}{ta tb:TD}{pos:PK}
def eqVs:List V->List V->Bool
 |[],[]=>true
 |x::xs,y::ys=>eqV x y&&eqVs xs ys
 |_,_=>false
def pV:∀(xs ys:List V),((D9 (min xs.length ys.length)).all (λj=>eqV (xs.getD j .non) (ys.getD j .non))&&xs.length==ys.length)=eqVs xs ys
 |[],[]=>rfl
 |[],_::_=>by simp[eqVs]
 |_::_,[]=>by simp[eqVs]
 |x::xs,y::ys=>by
  have ih:=pV xs ys;rw[eqVs,<-ih];have e:min (x::xs).length (y::ys).length=min xs.length ys.length+1:=by simp only[Du];lia
  rw[e,List.range_succ_eq_map,EG,List.all_map];have e2:((x::xs).length==(y::ys).length)=(xs.length==ys.length):=HV
  rw[e2,Bool.and_assoc];rfl
variable{xs:List V}
def Vals.getD{us:List GT}{j:Nat}(r:Vals xs us)(h:j<us.length):RelV (xs.getD j .non) us[j]:=by
 have hl:=L2.Vals.length r;obtain⟨u,q1,q2⟩:=L2.Vals.get (i:=j) (x:=xs.getD j .non) r (by rw[DV HN];simp[Ey,DV (show j<xs.length by lia)]);rw[DV h]at q1;cases q1;exact q2
def flat_getD{j:Nat}(h:xs.all bO=true):bO (xs.getD j .non)=true:=by
 by_cases hj:j<xs.length
 .have q:=Ez.mp h xs[j] (Eu hj);simpa[Ey,DV hj]using q
 .simp[Ey,EQ (Fw hj),bO]
def rEqT(K:Dr):R2:=λx y H Q=>∃a b xs ys,x=.ref a/\y=.ref b/\SqT K H a xs/\SqT K H b ys/\xs.all bO=true/\ys.all bO=true/\Q (.bl (eqVs xs ys)) H
def wM(hu:X.A.units+1<QE):OpR X (PJ .Eq) (rEqT X.K):=by
 intro pins s σ H x y v u Q I rx ry h;obtain⟨a,b,xs,ys,rfl,rfl,ha,hb,fx,fy,q⟩:=h;cases rx;cases ry;obtain⟨its,r1,p1,_⟩:=I.tuple ha;obtain⟨g_,r2,p2,_⟩:=I.tuple hb;refine SeqAt.eq_tupleAt (e:=λj=>eqV (xs.getD j .non) (ys.getD j .non)) p1 p2 HN (λj h1 h2=>?_) #[.bl (eqVs xs ys),H,I,?_,q]
 .rw[Dz]at h1 h2;simp only[List.getElem_toArray];exact eqAt_V (Vals.getD r1 h1) (Vals.getD r2 h2) (flat_getD fx) (flat_getD fy)
 .rw[<-pV,Dz,Dz,<-L2.Vals.length r1,<-L2.Vals.length r2];rfl
variable{K:Dr}
def pW{H:Hp}{x y:D}{u v:V}(rx:Rep K H x u)(ry:Rep K H y v)(fx:bE x=true)(fy:bE y=true):eqV u v=eqF x y:=by
 cases x with
 |tup _=>cases fx
 |lst _=>cases fx
 |rol _=>cases fx
 |obj _ _=>cases fx
 |exc _ _=>cases fx
 |ptr _=>cases fx
 |dti _=>cases fx
 |own _=>cases fx
 |non=>rw[rep_non.mp rx];cases y with
  |tup _=>cases fy
  |lst _=>cases fy
  |rol _=>cases fy
  |obj _ _=>cases fy
  |exc _ _=>cases fy
  |ptr _=>cases fy
  |dti _=>cases fy
  |own _=>cases fy
  |non=>rw[rep_non.mp ry];rfl
  |bl _=>rw[rep_bl.mp ry];rfl
  |int _=>rw[rep_int.mp ry];rfl
  |str _=>rw[rep_str.mp ry];rfl
 |bl _=>rw[rep_bl.mp rx];cases y with
  |tup _=>cases fy
  |lst _=>cases fy
  |rol _=>cases fy
  |obj _ _=>cases fy
  |exc _ _=>cases fy
  |ptr _=>cases fy
  |dti _=>cases fy
  |own _=>cases fy
  |non=>rw[rep_non.mp ry];rfl
  |bl _=>rw[rep_bl.mp ry];rfl
  |int _=>rw[rep_int.mp ry];rfl
  |str _=>rw[rep_str.mp ry];rfl
 |int _=>rw[rep_int.mp rx];cases y with
  |tup _=>cases fy
  |lst _=>cases fy
  |rol _=>cases fy
  |obj _ _=>cases fy
  |exc _ _=>cases fy
  |ptr _=>cases fy
  |dti _=>cases fy
  |own _=>cases fy
  |non=>rw[rep_non.mp ry];rfl
  |bl _=>rw[rep_bl.mp ry];rfl
  |int _=>rw[rep_int.mp ry];rfl
  |str _=>rw[rep_str.mp ry];rfl
 |str _=>rw[rep_str.mp rx];cases y with
  |tup _=>cases fy
  |lst _=>cases fy
  |rol _=>cases fy
  |obj _ _=>cases fy
  |exc _ _=>cases fy
  |ptr _=>cases fy
  |dti _=>cases fy
  |own _=>cases fy
  |non=>rw[rep_non.mp ry];rfl
  |bl _=>rw[rep_bl.mp ry];rfl
  |int _=>rw[rep_int.mp ry];rfl
  |str _=>rw[rep_str.mp ry];rfl
def gu{H:Hp}{x:D}{u:V}(rx:Rep K H x u)(fx:bE x=true):bO u=true:=by
 cases x with
 |tup _=>cases fx
 |lst _=>cases fx
 |rol _=>cases fx
 |obj _ _=>cases fx
 |exc _ _=>cases fx
 |ptr _=>cases fx
 |dti _=>cases fx
 |own _=>cases fx
 |non=>rw[rep_non.mp rx];rfl
 |bl _=>rw[rep_bl.mp rx];rfl
 |int _=>rw[rep_int.mp rx];rfl
 |str _=>rw[rep_str.mp rx];rfl
def dZ{K:Dr}{H:Hp}:∀{xs:List D} {us:List V},Reps K H xs us->xs.all bE=true->us.all bO=true
 |[],us,r,_=>by rw[reps_nil.mp r];rfl
 |x::xs,us,r,f=>by
  obtain⟨v,vr,rfl,r1,r2⟩:=reps_cons.mp r;rw[EG,D6]at f ⊢;exact#[gu r1 f.1,dZ r2 f.2]
def pX{K:Dr}{H:Hp}:∀{xs ys:List D} {us vs:List V},Reps K H xs us->Reps K H ys vs->xs.all bE=true->ys.all bE=true->eqVs us vs=eqFs xs ys
 |[],[],us,vs,r1,r2,_,_=>by rw[reps_nil.mp r1,reps_nil.mp r2];rfl
 |[],y::ys,us,vs,r1,r2,_,_=>by
  obtain⟨v,vr,rfl,_,_⟩:=reps_cons.mp r2;rw[reps_nil.mp r1];rfl
 |x::xs,[],us,vs,r1,r2,_,_=>by
  obtain⟨v,vr,rfl,_,_⟩:=reps_cons.mp r1;rw[reps_nil.mp r2];rfl
 |x::xs,y::ys,us,vs,r1,r2,f1,f2=>by
  obtain⟨u,ur,rfl,a1,a2⟩:=reps_cons.mp r1;obtain⟨v,vr,rfl,b1,b2⟩:=reps_cons.mp r2;rw[EG,D6]at f1 f2;rw[eqVs,eqFs,pW a1 b1 f1.1 f2.1,pX a2 b2 f1.2 f2.2]
def pY:RD2:=λx y R=>kdT x λxs=>kdT y λys=>(xs.all bE=true/\ys.all bE=true)/\R (.bl (eqFs xs ys))
def wN:aS K (rEqT K) pY:=by
 intro x y u v F H R Q fh h rx ry q;obtain⟨xs,rfl,h2⟩:=kdT.of h;obtain⟨ys,rfl,⟨f1,f2⟩,h3⟩:=kdT.of h2;obtain⟨a,us,rfl,hq,rr⟩:=rep_tup_mp rx;obtain⟨b,vs,rfl,u_,E_⟩:=rep_tup_mp ry;exact#[a,b,us,vs,rfl,rfl,fh.tup hq,fh.tup u_,dZ rr f1,dZ E_ f2,q _ _ F H (Grow.refl fh) h3 (rep_bl.mpr (by rw[pX rr E_ f1 f2]))]
end
section
variable {X:Cx}{a b c e:Pu}{ta tb tc te:TD}{pos:PK}{st:Py}{rest:List Py}{t u:TSD}
def wO:TSD:=λE z=>E.nx z
def dSeq(t u:TSD):TSD:=λE z=>t {E with nx:=u E} z
def aU[Jx]:WDSs X [] wO:=⟨pss_nil.anti λE s H q=>by
 obtain⟨B,F0,F,z,k,rs,ED,h,e⟩:=q;exact e.nx z s F H k h rs⟩
def ai[Jx](h1:WDS X st t)(h2:WDSs X rest u):WDSs X (st::rest) (dSeq t u):=⟨have h1:=h1.out;have h2:=h2.out;(fb h1 h2).anti λE s H q=>by
 obtain⟨B,F0,F,z,k,rs,ED,h,e⟩:=q;exact#[B,F0,F,z,k,rs,{ED with nx:=u ED},h,#[λz' s' F' H' k' hz r'=>#[B,F0,F',z',k',r',ED,hz,e],e.rt,e.bk,e.ct]]⟩
def ar[Jx](h1:WDS X st t):WDSs X [st] t:=#[have h1:=h1.out;nS h1]
def dFrz(i:Nat)(t:TSD):TSD:=λE z=>match z[i]? with|some (u5 (.own ds))=>t E (z.set i (u5 (.lst ds)))|_=>False
def fE[Jx](i:Nat){H_:List Py}(h:WDSs X H_ t):WDSs X H_ (dFrz i t):=⟨have h:=h.out;PSs.anti h λE s H q=>by
 obtain⟨B,F0,F,z,k,rs,ED,h,e⟩:=q;unfold dFrz at h;split at h
 .rename_i ds ez;obtain⟨F',k',r'⟩:=rs.freeze k ez;exact#[B,F0,F',_,k',r',ED,h,e]
 .exact h.elim⟩
def dRet(te:TD):TSD:=λE z=>te z E.rt
def aC[Jx](he:WDE X e te):WDS X (.Return (u5 e) pos) (dRet te):=⟨have he:=he.out;(nU he).anti λE s H q=>by
 obtain⟨B,F0,F,z,k,rs,ED,h,e⟩:=q;exact#[B,F,z,k.kf,rs,_,h,λd v F' H' g hd rd=>e.rt d v F' H' (k.grow g) hd rd]⟩
def wP(te:TD):TSD:=λE z=>te z λ_=>E.nx z
def wQ[Jx](he:WDE X e te)(hs:autoParam (PV e A' pos.line X.env=pure false) zA0):WDS X (.Expr e pos) (wP te):=⟨have he:=he.out;(iO he hs).anti λE s H q=>by
 obtain⟨B,F0,F,z,k,rs,ED,h,e⟩:=q;exact#[B,F,z,k.kf,rs,_,h,λd v F' H' g hd rd=>e.nx z s F' H' (k.grow g) hd (rs.grow g)]⟩
def dIfS(c:TDT)(t u:TSD):TSD:=λE z=>c z λb=>if b=true then t E z else u E z
variable{l r:List Py}
def pZ[Jx]{c:Pu}{tc:TDT}(hc:DT X c tc)(ha:DSs X l t)(hb:DSs X r u):DS X (.If c l r pos) (dIfS tc t u):=(nV hc ha hb).anti λE s H q=>by
 obtain⟨B,F0,F,z,k,rs,ED,h,e⟩:=q;refine#[B,F,z,k.kf,rs,_,h,λb F1 H1 g hk=>?_];cases b with
 |true=>exact#[B,F0,F1,z,k.grow g,rs.grow g,ED,hk,e]
 |false=>exact#[B,F0,F1,z,k.grow g,rs.grow g,ED,hk,e]
def dIfJ(c:TDT)(t u:TSD):TSD:=λE z=>∃J:SD->Prop,(c z λb=>if b=true then t {E with nx:=J} z else u {E with nx:=J} z)/\∀z',J z'->E.nx z'
def fF[Jx]{c:Pu}{tc:TDT}(hc:WDT X c tc)(ha:WDSs X l t)(hb:WDSs X r u):WDS X (.If c l r pos) (dIfJ tc t u):=⟨have hc:=hc.out;have ha:=ha.out;have hb:=hb.out;(pZ hc ha hb).anti λE s H q=>by
 obtain⟨B,F0,F,z,k,rs,ED,⟨J,h,j⟩,e⟩:=q;exact#[B,F0,F,z,k,rs,{ED with nx:=J},h,#[λz' s' F' H' k' hz r'=>e.nx z' s' F' H' k' (j z' hz) r',e.rt,e.bk,e.ct]]⟩
def dSet(i:Nat)(te:TD):TSD:=λE z=>∃P:D->Prop,te z P/\∀d,P d->E.nx (z.set i (u5 d))
variable{x:G8}
def am[Jx](i:Nat){c_:PK}(hN:X.N.Nodup)(he:WDE X e te)(hi:autoParam (X.N[i]?=u5 x) zA0)(hx:autoParam (Loc X.env.scope x) zA4)(hs:autoParam (PV e (u5 (.Name x c_)) pos.line X.env=pure false) zA0)
  (hf:autoParam (zFN X x) zA2):WDS X (.Assign [.Name x c_] e pos) (dSet i te):=⟨have he:=he.out;(fY hN hi hx he hs hf).anti λE s H q=>by
 obtain⟨B,F0,F,z,k,rs,ED,⟨P,h,j⟩,e⟩:=q;exact#[B,F,z,k.kf,rs,P,h,λd v F' H' g hd rd=>e.nx _ _ F' H' (k.grow g) (j d hd) ((rs.grow g).set rd)]⟩
def dNew(i:Nat)(ta:TDA):TSD:=λE z=>ta z λds=>ds.length<=1000/\E.nx (z.set i (u5 (.own ds)))
variable{es:List Pu}
def jl[Jx](i:Nat){c_ p2:PK}{ta:TDA}(hN:X.N.Nodup)(he:WDA X es ta)(hi:autoParam (X.N[i]?=u5 x) zA0)(hx:autoParam (Loc X.env.scope x) zA4)(hs:autoParam (PV (.List es p2) (u5 (.Name x c_)) pos.line X.env=pure false) zA0)
  (hf:autoParam (zFN X x) zA2):WDS X (.Assign [.Name x c_] (.List es p2) pos) (dNew i ta):=⟨have he:=he.out;(fY hN hi hx (iX he) hs hf).anti λE s H q=>by
 obtain⟨B,F0,F,z,k,rs,ED,h,e⟩:=q;refine#[B,F,z,k.kf,rs,_,h,λds vs F1 H1 g hd rd=>?_];have hl:=rd.length;refine#[sz (by rw[hl];exact hd.1),λp hp=>?_];have k1:=k.grow g;have r1:=rs.grow g;have hB:B p=none:=k1.bh.free hp;have hF:F1 p=none:=k1.fh.free hp;refine e.nx _ _ F1 _ #[k1.bh.trans (aM hp _),k1.fh.trans (aM hp _),k1.f0,k1.out,k1.eb,k1.jf,k1.jo] hd.2 (r1.setOwn hB hF rd λj dj hj e1 e2=>?_);obtain⟨a,us,q1,q2,_⟩:=r1.own j dj e1;rw[e2]at q1;cases q1;rw[hp]at q2;cases q2⟩
def dApp(i:Nat)(te:TD):TSD:=λE z=>match z[i]? with|some (u5 (.own ds))=>(te z λd=>ds.length<=100000/\E.nx (z.set i (u5 (.own (ds++[d])))))|_=>False
def fG{K:Dr}{F:Hp}{d:D}{v:V}(r:Rep K F d v):Reps K F [d] [v]:=reps_cons.mpr #[v,[],rfl,r,reps_nil.mpr rfl]
def gv[Jx](i:Nat){p1 b7 a8:PK}(he:WDE X e te)(hN:autoParam (X.N[i]?=u5 x) zA0)(hv:autoParam (Vis X.env.scope x) zA5)(hd:autoParam (zND x) zA1)
  (i8:autoParam (zNC x) zA1) (k_:autoParam (zSE X e []) zA0)
  (b9:autoParam (PF (.Name x p1) "append" X.env (PM (.Name x p1) X.env)=PM (.Name x p1) X.env) zA0)
  (f8:autoParam (zHF X a8 [e]) zA0)
  (c7:autoParam ((b7.endLine==a8.line)=true) zA0) (Hc:autoParam (PV (.Call (.Attribute (.Name x p1) "append" b7) [e] [] a8) A' pos.line X.env=pure false) zA0):WDS X (.Expr (.Call (.Attribute (.Name x p1) "append" b7) [e] [] a8) pos) (dApp i te):=⟨have he:=he.out;(iO (dW PySem.F.plainAttrs_list PySem.F.slot_list_append PySem.F.type_list_append ja (dg hN hv hd i8) (bN he pa_nil k_) b9 f8 c7 k_) Hc).anti λE s H q=>by
 obtain⟨B,F0,F,z,k,rs,ED,h,e⟩:=q;unfold dApp at h;split at h
 .rename_i ds ez;obtain⟨a,vs,q1,q2,q3,q4,q5⟩:=rs.own i ds ez;refine#[.ref a,q1,.inl #[rfl,vs,SqL.of q2],?_];refine#[B,F,z,k.kf,rs,_,h,λd v F1 H1 g hd rd=>?_];have k1:=k.grow g;have r1:=rs.grow g;have a1:H1 a=u5 (.lst vs):=g.hh a _ q2;have f1:F1 a=none:=g.out a q4 (by rw[q2];exact λz=>nomatch z);have hl:vs.length=ds.length:=q5.length;have hz:vs.length<sizeLine:=by
   have h1:ds.length<=100000:=hd.1;have h2:(100000:Nat)<sizeLine:=G_
   lia
  refine#[a,vs,v,rfl,rfl,a1,hz,?_];have same:∀{G:Hp},G a=A'->Same G H1->Same G (upd H1 a (.lst (vs++[v]))):=λ{G} ga gs b o eb=>by
   have ne:b≠a:=λz=>by rw[z,ga]at eb;cases eb
   rw[ao ne];exact gs b o eb
  have r2:=r1.setOwn (i:=i) (a:=a) (vs:=vs++[v]) (ds:=ds++[d]) q3 f1 ((q5.mono g.ff).append (fG rd)) (λj dj hj e1 e2=>hj (rs.apart j i dj ds a e1 ez e2 q1));have es:s.set i (u5 (.ref a))=s:=by
   apply Fz;intro n;by_cases hn:i=n
   .subst hn;rw[Eb (DN.mp q1).1,q1]
   .rw[DL hn]
  rw[es]at r2;exact e.nx _ s F1 _ #[same q3 k1.bh,same f1 k1.fh,k1.f0,k1.out,k1.eb,k1.jf,k1.jo] hd.2 r2
 .exact h.elim⟩
def aZ:List Nat->List D->SD->SD
 |i::is,d::ds,z=>aZ is ds (z.set i (u5 d))
 |_,_,z=>z
def DGs(X:Cx)(ts:List Pu)(is:List Nat):Prop:=∃u:TGs,PGs X ts u/\∀(ds:List D) (vs:List V) (z:SD) (s:L2.St) (B F H:Hp) (Q:L2.St->Hp->Prop),ds.length=is.length->Reps X.K F ds vs->RepS X.K B F H z s->(∀s',RepS X.K B F H (aZ is ds z) s'->Q s' H)->u vs s H Q
def fH[Jx]:DGs X [] []:=⟨_,tO,λds vs z s B F H Q hl r rs q=>by
 cases ds with
 |nil=>exact#[reps_nil.mp r,q s rs]
 |cons _ _=>cases hl⟩
variable{p:PK}{is:List Nat}
def dg_cons[Jx](i:Nat)(hN:X.N.Nodup)(h2:DGs X es is)(hi:autoParam (X.N[i]?=u5 x) zA0)(hx:autoParam (Loc X.env.scope x) zA4)(hf:autoParam (zFN X x) zA2)
  (hs:autoParam ((PC (.Name x p::es) X.env).map (·.2)=Qm (.Name x p) X.env::(PC es X.env).map (·.2)) zA0):DGs X (.Name x p::es) (i::is):=by
 obtain⟨u,hu,k⟩:=h2;refine#[_,tP (fg hN hi hx hf) hu hs,λds vs z s B F H Q hl r rs q=>?_];cases ds with
 |nil=>cases hl
 |cons d ds=>
  obtain⟨v,vr,rfl,r1,r2⟩:=reps_cons.mp r;exact#[v,vr,rfl,k ds vr _ _ B F H Q (Nat.succ.inj hl) r2 (rs.set r1) q]
def wR(is:List Nat)(te:TD):TSD:=λE z=>te z λx=>match x with|.tup ds=>ds.length=is.length/\E.nx (aZ is ds z)|_=>False
def qa[Jx]{k:Nat}(hc:X.calm=true)(he:WDE X e te)(hg:DGs X es is)(hn:autoParam ((PC es X.env).length=is.length) zA0)(q_:autoParam ((PC es X.env).findIdx? (·.1)=none) zA0)
  (hs:autoParam (Qi [.Tuple es k p] e pos.line X.env=pure false) zA0) (hw:autoParam (Qj [.Tuple es k p] e X.env=pure none) zA0) (h1:autoParam ((PC [.Tuple es k p] X.env).map (·.2)=[Qm (.Tuple es k p) X.env]) zA0):WDS X (.Assign [.Tuple es k p] e pos) (wR is te):=⟨by
 have he:=he.out;obtain⟨u,hu,kk⟩:=hg;refine(nW he (iP hc hu hn q_) hs hw h1).anti λE s H q=>?_;obtain⟨B,F0,F,z,k,rs,ED,h,e⟩:=q;refine#[B,F,z,k.kf,rs,_,h,λd v F' H' g hd rd=>?_];split at hd
 .obtain⟨p,vs,rfl,hq,rr⟩:=rep_tup_mp rd;exact#[p,vs,rfl,g.fh.tup hq,by rw[rr.length];exact hd.1,kk _ vs z s B F' H' _ hd.1 rr (rs.grow g) λs' r'=>e.nx _ _ F' H' (k.grow g) hd.2 r']
 .exact hd.elim⟩
def dPar(i j:Nat)(ta:TDA):TSD:=λE z=>ta z λds=>match ds with|[x,y]=>E.nx ((z.set i (u5 x)).set j (u5 y))|_=>False
def wS[Jx](i j:Nat){y:G8}{t:TDA}{px py pt:PK}{kt k2 G7}(hc:X.calm=true)(hN:X.N.Nodup)(ha:WDA X [a,b] t)(hi:autoParam (X.N[i]?=u5 x) zA0)(hj:autoParam (X.N[j]?=u5 y) zA0)(JU:autoParam (i≠j) zA1)
  (hx:autoParam (X.env.scope.names.lookup x=u5 .local) zA0) (hy:autoParam (X.env.scope.names.lookup y=u5 .local) zA0)
  (hw:autoParam (Qj [.Tuple [.Name x px,.Name y py] kt pt] (.Tuple [a,b] k2 G7) X.env=pure (u5 [x,y])) zA0)
  (hs:autoParam (Qi [.Tuple [.Name x px,.Name y py] kt pt] (.Tuple [a,b] k2 G7) pos.line X.env=pure false) zA0):WDS X (.Assign [.Tuple [.Name x px,.Name y py] kt pt] (.Tuple [a,b] k2 G7) pos) (dPar i j t):=⟨have ha:=ha.out;(tQ hc hN hi hj JU hx hy ha hw hs).anti λE s H q=>by
 obtain⟨B,F0,F,z,k,rs,ED,h,e⟩:=q;refine#[B,F,z,k.kf,rs,_,h,λds vs F' H' g hd rd=>?_];split at hd
 .obtain⟨v,r,rfl,r1,r2⟩:=reps_cons.mp rd;obtain⟨w,r,rfl,r3,r4⟩:=reps_cons.mp r2;rw[reps_nil.mp r4];exact#[v,w,rfl,e.nx _ _ F' H' (k.grow g) hd (((rs.grow g).set r1).set r3)]
 .exact hd.elim⟩
def wT(c:TDT)(tb:TSD):TSD:=λE z=>∃W:Nat->SD->Prop,(∃m,W m z)/\∀m z,W m z->
 c z λb=>if b=true then tb {E with nx:=λz'=>∃m',m'<m/\W m' z',ct:=λz'=>∃m',m'<m/\W m' z',bk:=E.nx} z else E.nx z
variable{body:List Py}
def fJ[Jx]{c:Pu}{tc:TDT}{tb:TSD}(hp:P3 (Pt X.prog X.w) X.A X.env X.xe)(hc:WDT X c tc)(hb:WDSs X body tb):WDS X (.While c body [] pos) (wT tc tb):=⟨have hc:=hc.out;have hb:=hb.out;(nX hp hc hb).anti λE s H q=>by
 obtain⟨B,F0,F,z,k,rs,ED,⟨W,⟨m0,w0⟩,d9⟩,e⟩:=q;refine#[λm s' H'=>∃F' z',Kept B F0 F' H'/\RepS X.K B F' H' z' s'/\W m z',#[m0,F,z,k,rs,w0],?_];rintro m s1 H1⟨F1,z1,k1,r1,w1⟩;refine#[B,F1,z1,k1.kf,r1,_,d9 m z1 w1,λb F2 H2 g2 hk=>?_];cases b with
 |true=>
  refine#[λs3 H3=>∃F3 z3,Kept B F0 F3 H3/\RepS X.K B F3 H3 z3 s3/\∃m',m'<m/\W m' z3,λs3 H3 ⟨F3,z3,k3,r3,m',l,w3⟩=>#[m',l,F3,z3,k3,r3,w3],?_];exact#[B,F0,F2,z1,k1.grow g2,r1.grow g2,_,hk,#[λz3 s3 F3 H3 k3 h3 r3=>#[F3,z3,k3,r3,h3],e.rt,e.nx,λz3 s3 F3 H3 k3 h3 r3=>#[F3,z3,k3,r3,h3]]]
 |false=>exact e.nx z1 s1 F2 H2 (k1.grow g2) hk (r1.grow g2)⟩
abbrev TDI:=SD->(List D->Prop)->Prop
def dItL(t:TD):TDI:=λz R=>t z λx=>match x with|.lst ds=>R ds|.rol ds=>R ds|_=>False
def dItR(t:TD):TDI:=λz R=>t z λx=>match x with|.int n=>(0<=n/\n<2^62)/\R ((D9 n.toNat).map λk=>D.int ((k:Nat):Int))|_=>False
def dFor(i:Nat)(ti:TDI)(tb:TSD):TSD:=λE z=>ti z λds=>∃W:Nat->SD->Prop,W 0 z/\(∀k x z,ds[k]?=u5 x->W k z->tb {E with nx:=W (k+1),ct:=W (k+1),bk:=E.nx} (z.set i (u5 x)))/\∀z,W ds.length z->E.nx z
def Reps.get'{K:Dr}{H:Hp}{ds:List D}{vs:List V}{k:Nat}{v:V}(r:Reps K H ds vs)(e:vs[k]?=u5 v):∃d,ds[k]?=u5 d/\Rep K H d v:=by
 have hk:k<ds.length:=by rw[<-r.length];exact(DN.mp e).1
 obtain⟨u,q1,q2⟩:=r.get (DV hk);rw[e]at q1;cases q1;exact#[_,DV hk,q2]
def qc[Jx](i:Nat){tb:TSD}(hp:P3 (Pt X.prog X.w) X.A X.env X.xe)(hc:X.calm=true)(hN:X.N.Nodup)(he:WDE X e te)(hb:WDSs X body tb)(hi:autoParam (X.N[i]?=u5 x) zA0)(hx:autoParam (Loc X.env.scope x) zA4)
  (hf:autoParam (zFN X x) zA2) (hs:autoParam (∀y,zFS X e y) zA3):WDS X (.For (.Name x p) e body [] pos) (dFor i (dItL te) tb):=⟨have he:=he.out;have hb:=hb.out;(dS hp hc (iR he) (fg hN hi hx hf) hb hs).anti λE s H q=>by
 obtain⟨B,F0,F,z,kp,rs,ED,h,e⟩:=q;refine#[B,F,z,kp.kf,rs,_,h,λd v F1 H1 g1 hd rd=>?_];split at hd
 .obtain⟨p,vs,rfl,hq,rr⟩:=rep_lst.mp rd;obtain⟨W,w0,d9,out⟩:=hd;refine#[p,rfl,#[vs,g1.fh.seq (SqL.of hq)],oa (K:=X.K) (a:=p) (xs:=vs) (λk s' H'=>∃F' z',Kept B F0 F' H'/\Same F1 F'/\RepS X.K B F' H' z' s'/\W k z') #[F1,z,kp.grow g1,Same.refl F1,rs.grow g1,w0] (λk s' H' _ ⟨F',z',k',g',r',w'⟩=>k'.fh.seq (g'.seq (SqL.of hq))) ?_ ?_]
  .rintro k y s' H' hk⟨F',z',k',g',r',w'⟩;obtain⟨d,hd,ry⟩:=rr.get' hk;refine#[B,F',F',_,#[k'.bh,k'.fh,Same.refl F',λb h1 _=>h1,k'.eb,k'.jf.trans k'.f0,λb h1 h2=>k'.out b (k'.jo b h1 h2) h2],r'.set (ry.mono g'),_,d9 k d z' hd w',?_];have up:∀{F2 H2:Hp},Kept B F' F2 H2->Kept B F0 F2 H2:=λk2=>#[k2.bh,k2.fh,k'.f0.trans k2.f0,λb h1 h2=>k2.out b (k'.out b h1 h2) h2,k'.eb,k'.jf,k'.jo];exact#[λz3 s3 F3 H3 k3 h3 r3=>#[F3,z3,up k3,g'.trans k3.f0,r3,h3],λd v F3 H3 k3=>e.rt d v F3 H3 (up k3),λz3 s3 F3 H3 k3=>e.nx z3 s3 F3 H3 (up k3),λz3 s3 F3 H3 k3 h3 r3=>#[F3,z3,up k3,g'.trans k3.f0,r3,h3]]
  .rintro s' H'⟨F',z',k',g',r',w'⟩;exact e.nx z' s' F' H' k' (out z' (by rw[<-rr.length];exact w')) r'
 .obtain⟨p,vs,rfl,hq,rr⟩:=rep_rol.mp rd;obtain⟨W,w0,d9,out⟩:=hd;refine#[p,rfl,#[vs,g1.fh.seq hq],oa (K:=X.K) (a:=p) (xs:=vs) (λk s' H'=>∃F' z',Kept B F0 F' H'/\Same F1 F'/\RepS X.K B F' H' z' s'/\W k z') #[F1,z,kp.grow g1,Same.refl F1,rs.grow g1,w0] (λk s' H' _ ⟨F',z',k',g',r',w'⟩=>k'.fh.seq (g'.seq hq)) ?_ ?_]
  .rintro k y s' H' hk⟨F',z',k',g',r',w'⟩;obtain⟨d,hd,ry⟩:=rr.get' hk;refine#[B,F',F',_,#[k'.bh,k'.fh,Same.refl F',λb h1 _=>h1,k'.eb,k'.jf.trans k'.f0,λb h1 h2=>k'.out b (k'.jo b h1 h2) h2],r'.set (ry.mono g'),_,d9 k d z' hd w',?_];have up:∀{F2 H2:Hp},Kept B F' F2 H2->Kept B F0 F2 H2:=λk2=>#[k2.bh,k2.fh,k'.f0.trans k2.f0,λb h1 h2=>k2.out b (k'.out b h1 h2) h2,k'.eb,k'.jf,k'.jo];exact#[λz3 s3 F3 H3 k3 h3 r3=>#[F3,z3,up k3,g'.trans k3.f0,r3,h3],λd v F3 H3 k3=>e.rt d v F3 H3 (up k3),λz3 s3 F3 H3 k3=>e.nx z3 s3 F3 H3 (up k3),λz3 s3 F3 H3 k3 h3 r3=>#[F3,z3,up k3,g'.trans k3.f0,r3,h3]]
  .rintro s' H'⟨F',z',k',g',r',w'⟩;exact e.nx z' s' F' H' k' (out z' (by rw[<-rr.length];exact w')) r'
 .exact hd.elim⟩
def fK[Jx](i:Nat){p1 p2:PK}{tb:TSD}(hp:P3 (Pt X.prog X.w) X.A X.env X.xe)(hc:X.calm=true)(hN:X.N.Nodup)(hm:X.mg "range"=A')(he:WDE X e te)(hb:WDSs X body tb)(hg:autoParam (Gl X "range") zA0)(hi:autoParam (X.N[i]?=u5 x) zA0)(hx:autoParam (Loc X.env.scope x) zA4)
  (hf:autoParam (zFN X x) zA2) (hs:autoParam (∀y,zFS X (.Call (.Name "range" p1) [e] [] p2) y) zA3) (Hg:autoParam (zSE X e []) zA0) (o_:autoParam (PD [e] X.env=[(false,PM e X.env)]) zA0):WDS X (.For (.Name x p) (.Call (.Name "range" p1) [e] [] p2) body [] pos) (dFor i (dItR te) tb):=⟨have he:=he.out;have hb:=hb.out;(dS hp hc (nZ hg hm (bN he pa_nil Hg) o_) (fg hN hi hx hf) hb hs).anti λE s H q=>by
 obtain⟨B,F0,F,z,kp,rs,ED,h,e⟩:=q;refine#[B,F,z,kp.kf,rs,_,h,λd v F1 H1 g1 hd rd=>?_];split at hd
 .rename_i n;obtain⟨⟨b1,b2⟩,W,w0,d9,out⟩:=hd;have hl:((D9 n.toNat).map λk=>D.int ((k:Nat):Int)).length=n.toNat:=by simp
  refine#[n,by rw[rep_int.mp rd],HN,b2,og (lo:=0) (n:=n.toNat) (λk s' H'=>∃F' z',Kept B F0 F' H'/\RepS X.K B F' H' z' s'/\W k z') #[F1,z,kp.grow g1,rs.grow g1,w0] ?_ ?_]
  .rintro k s' H' hk⟨F',z',k',r',w'⟩;have e1:(0:Int)+(k:Int)=(k:Int):=by lia
   exact#[B,F0,F',_,k',r'.set (d:=.int (k:Int)) (rep_int.mpr (by rw[e1])),_,d9 k (.int (k:Int)) z' (by simp[hk]) w',#[λz3 s3 F3 H3 k3 h3 r3=>#[F3,z3,k3,r3,h3],e.rt,e.nx,λz3 s3 F3 H3 k3 h3 r3=>#[F3,z3,k3,r3,h3]]]
  .rintro s' H'⟨F',z',k',r',w'⟩;exact e.nx z' s' F' H' k' (out z' (by rw[hl];exact w')) r'
 .exact hd.elim⟩
end
section
variable {P:Pw}{w:Pz}{K:Dr}{mg:G8->Option GT}{base:Heap}
variable{N ps:List G8}
def _root_.L2.Fun.okD{x qual:G8}{st:Py}{f:KF}{fd:PH}{k:Nat}{S:SpD}(T:Fun K x qual st f fd)(F:FnScope N ps (ag st))(len:∀ds R,S ds R->ds.length=ps.length)
  (a_:∀(cdv:GT) (A:PB) (outer:List Ql) (s:KB) (H:Hp) (E:XK) (J:Jx),Room k (A.deeper (PZ qual (ag st) s.heap.objs.size f cdv))->
   ∃t,DSs (cxOf (Exc.CX1 P w) P w K mg base N qual (ag st) f cdv A outer s H E).nox (aP st) t/\∀ds R,S ds R->t {nx:=λ_=>R .non,rt:=R} (startD N ds)):FnOk P w K mg base (Exc.CX1 P w) (k+1) f fd ps (lSp K S):=by
 refine Fun.okC T F (λvs H Q E h=>?_) (λcdv A outer s H vs Q E hr h=>?_)
 .obtain⟨F,ds,fh,rs,R,h,_⟩:=h;rw[rs.length];exact len ds R h
 .obtain⟨F,ds,fh,rs,R,h,q⟩:=h
  letI:Jx:=#[H,F,λ_ _ _=>False]
  obtain⟨t,ht,hq⟩:=a_ cdv A outer s H E inferInstance hr;refine#[_,ht.nox,H,F,F,startD N ds,#[Same.refl H,fh,Same.refl F,λ_ h _=>h,rfl,Same.refl F,λ_ h _=>h],fz rs,_,hq ds R h,#[λz' s' F' H' k hn _=>q _ _ F' H' #[k.f0,k.fh,k.bh,k.out] hn (rep_non.mpr rfl),λd v F' H' k hd rd=>q d v F' H' #[k.f0,k.fh,k.bh,k.out] hd rd,λ_ _ _ _ _ h _=>h.elim,λ_ _ _ _ _ h _=>h.elim]]
def Tx.okD{x:G8}{st:Py}{k:Nat}{S:SpD}(T:Tx K mg x st ps)(F:FnScope N ps (ag st))(len:∀ds R,S ds R->ds.length=ps.length)
  (a_:∀(f:KF) (cdv:GT) (A:PB) (outer:List Ql) (s:KB) (H:Hp) (E:XK) (J:Jx),Room k (A.deeper (PZ x (ag st) s.heap.objs.size f cdv))->
   ∃t,DSs (cxOf (Exc.CX1 P w) P w K mg base N x (ag st) f cdv A outer s H E).nox (aP st) t/\∀ds R,S ds R->t {nx:=λ_=>R .non,rt:=R} (startD N ds)):CalD P w K mg base (k+1) x ps S:=by
 obtain⟨f,fd,T,hb,hm⟩:=T;exact#[f,fd,T.okD F len λcdv A outer s H E J hr=>a_ f cdv A outer s H E J hr,hb,T.kp,hm]
end
def el:SpD:=λds R=>∃ns:List Int,ds=[.rol (ns.map D.int)]/\ns.length<=63/\R (.bl true)
def wU{a:KF}{ns:List Int}(hl:ns.length<=63)(hS:SqL K H a (ns.map V.int)){E:XK}:lSp K el [.ref a] H (λv _=>v=.bl true) E:=
 #[H,[.rol (ns.map D.int)],Same.refl H,reps_cons.mpr #[_,_,rfl,rep_rol.mpr #[a,_,rfl,hS,Reps.ints.mpr rfl],reps_nil.mpr rfl],λd=>d=.bl true,#[ns,rfl,hl,rfl],λd v F' H' _ hd rd=>by subst hd;exact rep_bl.mp rd]
section
variable {X:Cx}{a b c e:Pu}{ta tb tc te:TD}{pos:PK}
variable{p:PK}{es:List Pu}{t:TDA}
def gw[Jx]{x:G8}{T:String}{r:List V->Hp->VK->Prop}{rd:RDn}(hc:bM X (.type T) r)(L:cv X.K r rd)(hm:X.mg x=A')(hv:PY x=u5 (.type T))(ha:DA X (e::es) t)(hg:autoParam (Gl X x) zA0)(hn:autoParam (x≠"__name__") zA1)(e_:autoParam (zND x) zA1)
  (he:autoParam (zSE X e es) zA0) (d0:autoParam (zPL X pos es) zA0):DE X (.Call (.Name x p) (e::es) [] pos) (dCB rd t):=(oJ hc hg hm hv ha hn e_ he d0).anti λs H Q h=>by
 obtain⟨B,F,z,kf,rs,R,h1,h2⟩:=h;have fh:=kf.fh;refine#[B,F,z,kf,rs,_,h1,λds vs F1 H1 g1 hx rx=>?_];exact L ds vs F1 H1 R Q g1.fh hx rx λd w F' H' g=>h2 d w F' H' (g1.trans g)
def rdStr:RDn:=λds R=>match ds with|[.int i]=>i.natAbs<18446744073709551616/\R (.str (toString i))|_=>False
variable{K:Dr}
def wV:cv K (λxs H Q=>∃i,xs=[.int i]/\i.natAbs.log2<1920/\Q (.str (toString i)) H) rdStr:=by
 intro ds vs F H R Q fh h rx q;unfold rdStr at h;split at h
 .obtain⟨v,r,rfl,h1,h2⟩:=reps_cons.mp rx;rw[reps_nil.mp h2,rep_int.mp h1];refine#[_,rfl,?_,q _ _ F H (Grow.refl fh) h.2 (rep_str.mpr rfl)];rename_i i;by_cases h0:i.natAbs=0
  .rw[h0];decide
  .have:=(F8 h0).mpr (show i.natAbs<2^64 from h.1);lia
 .exact h.elim
def cQ[Jx](hm:X.mg "str"=A')(ha:WDA X [e] t)(hg:autoParam (Gl X "str") zA0)(he:autoParam (zSE X e []) zA0):WDE X (.Call (.Name "str" p) [e] [] pos) (dCB rdStr t):=#[have ha:=ha.out;gw uz wV hm PyProof.Rows.boot_str ha hg G_ G_ he]
def jm:RDn:=λds R=>kd1 ds λx=>match x with
 |.int i=>R (.int i)
 |.bl k=>R (.int (if k then 1 else 0))
 |.str x=>∃n,(PySem.intText? x=u5 n/\x.length<=640)/\R (.int n)
 |_=>False
def qd:bM X (.type "int") (λxs H Q=>((∃i,xs=[.int i]/\Q (.int i) H)\/∃k,xs=[.bl k]/\Q (.int (if k then 1 else 0)) H)\/∃x n,xs=[.str x]/\PySem.intText? x=u5 n/\x.length<=640/\Q (.int n) H):=by
 intro pins s σ H xs us Q I r h;rcases h with h|⟨x,n,rfl,h1,h2,q⟩
 .exact uy pins s σ H xs us Q I r h
 .obtain⟨u,rfl,t,rfl⟩:=bY r;exact PySem.W.KIN.call_text h1 h2 #[.int n,H,I.tok _,#[_,rfl],q]
def qe:cv K (λxs H Q=>((∃i,xs=[.int i]/\Q (.int i) H)\/∃k,xs=[.bl k]/\Q (.int (if k then 1 else 0)) H)\/∃x n,xs=[.str x]/\PySem.intText? x=u5 n/\x.length<=640/\Q (.int n) H) jm:=by
 intro ds vs F H R Q fh h rx q;replace h:=kd1.of h;obtain⟨x,rfl,h⟩:=h;obtain⟨v,r,rfl,h1,h2⟩:=reps_cons.mp rx;rw[reps_nil.mp h2];cases x with
 |int i=>
  rw[rep_int.mp h1];exact .inl (.inl #[_,rfl,q _ _ F H (Grow.refl fh) h (rep_int.mpr rfl)])
 |bl k=>
  rw[rep_bl.mp h1];exact .inl (.inr #[_,rfl,q _ _ F H (Grow.refl fh) h (rep_int.mpr rfl)])
 |str x=>
  rw[rep_str.mp h1];obtain⟨n,⟨e1,e2⟩,h⟩:=h;exact .inr #[_,n,rfl,e1,e2,q _ _ F H (Grow.refl fh) h (rep_int.mpr rfl)]
 |_=>exact False.elim h
def gx[Jx](hm:X.mg "int"=A')(ha:WDA X [e] t)(hg:autoParam (Gl X "int") zA0)(he:autoParam (zSE X e []) zA0):WDE X (.Call (.Name "int" p) [e] [] pos) (dCB jm t):=#[have ha:=ha.out;gw qd qe hm PyProof.Rows.boot_int ha hg G_ G_ he]
def qf:RDn:=λds R=>kd1 ds λx=>match x with|.lst xs=>R (.lst xs)|.tup xs=>R (.lst xs)|.rol xs=>R (.lst xs)|_=>False
def wW:cv K (λxs H Q=>∃p ys,xs=[.ref p]/\(SqL K H p ys\/SqT K H p ys)/\∀l,H l=A'->Q (.ref l) (upd H l (.lst ys))) qf:=by
 intro ds vs F H R Q fh h rx q;replace h:=kd1.of h;obtain⟨x,rfl,h⟩:=h;obtain⟨v,r,rfl,h1,h2⟩:=reps_cons.mp rx;rw[reps_nil.mp h2];cases x with
 |lst xs=>
  obtain⟨a,us,rfl,hq,rs⟩:=rep_lst.mp h1;exact#[a,us,rfl,.inl (fh.seq (SqL.of hq)),λl hl=>q _ _ _ _ (Grow.new fh hl _) h (rep_lst.mpr #[l,us,rfl,aA,rs.mono (aM (fh.free hl) _)])]
 |tup xs=>
  obtain⟨a,us,rfl,hq,rs⟩:=rep_tup_mp h1;exact#[a,us,rfl,.inr (fh.tup hq),λl hl=>q _ _ _ _ (Grow.new fh hl _) h (rep_lst.mpr #[l,us,rfl,aA,rs.mono (aM (fh.free hl) _)])]
 |rol xs=>
  obtain⟨a,us,rfl,hq,rs⟩:=rep_rol.mp h1;exact#[a,us,rfl,.inl (fh.seq hq),λl hl=>q _ _ _ _ (Grow.new fh hl _) h (rep_lst.mpr #[l,us,rfl,aA,rs.mono (aM (fh.free hl) _)])]
 |_=>exact False.elim h
def wX[Jx](hm:X.mg "list"=A')(ha:WDA X [e] t)(hg:autoParam (Gl X "list") zA0)(he:autoParam (zSE X e []) zA0):WDE X (.Call (.Name "list" p) [e] [] pos) (dCB qf t):=#[have ha:=ha.out;gw vN wW hm PyProof.Rows.boot_list ha hg G_ G_ he]
def qg:RDn:=λds R=>kd2 ds λx y=>kdI x λi=>kdI y λj=>R (.int (if j>i then j else i))
def wY:cv K (λxs H Q=>∃i j,xs=[.int i,.int j]/\Q (.int (if j>i then j else i)) H) qg:=by
 intro ds vs F H R Q fh h rx q;replace h:=kd2.of h;obtain⟨x,y,rfl,h⟩:=h;replace h:=kdI.of h;obtain⟨i,rfl,h⟩:=h;replace h:=kdI.of h;obtain⟨j,rfl,h⟩:=h;obtain⟨v,r,rfl,h1,h2⟩:=reps_cons.mp rx;obtain⟨v',r',rfl,h3,h4⟩:=reps_cons.mp h2;rw[reps_nil.mp h4,rep_int.mp h1,rep_int.mp h3];exact#[_,_,rfl,q _ _ F H (Grow.refl fh) h (rep_int.mpr rfl)]
def qh[Jx](hc:X.calm=true)(hm:X.mg "max"=A')(ha:WDA X [e,a] t)(hg:autoParam (Gl X "max") zA0)(he:autoParam (zSE X e [a]) zA0)(d0:autoParam (zPL X pos [a]) zA0):WDE X (.Call (.Name "max" p) [e,a] [] pos) (dCB qg t):=#[have ha:=ha.out;jh (ux hc) wY hm PyProof.Rows.boot_max ha hg G_ G_ he d0]
def cR:List D->Option (List G8)
 |[]=>u5 []
 |.str x::r=>(cR r).map (x::·)
 |_=>A'
def qi{K:Dr}{F:Hp}:∀{ds:List D} {xs:List G8} {vs:List V} {us:List GT},cR ds=u5 xs->Reps K F ds vs->Vals vs us->StrsAre us xs
 |[],xs,vs,us,e,r,q=>by
  cases e;rw[reps_nil.mp r]at q;cases q;exact .nil
 | .str x::ds,xs,vs,us,e,r,q=>by
  obtain⟨v,r',rfl,h1,h2⟩:=reps_cons.mp r;rw[rep_str.mp h1]at q;cases q with
  |cons q1 q2=>
   obtain⟨t,rfl⟩:=q1;cases e2:cR ds with
   |none=>simp[cR,e2]at e
   |some ys=>
    simp[cR,e2]at e;subst e;exact .cons x t (qi e2 h2 q2)
def wZ:V->List V->Hp->VK->Prop:=λx vs H Q=>∃sep l xs ys,x=.str sep/\vs=[.ref l]/\H l=u5 (.lst xs)/\(∀us,Vals xs us->StrsAre us ys)/\(ys.map (·.length)).sum+ys.length*sep.length<=16777216/\Q (.str (Txt.join sep ys)) H
def xa:MtR X "str.join" wZ:=by
 intro pins s σ H x vs v us Q I rx rv h;obtain⟨sep,l,xs,ys,rfl,rfl,hl,hs,hz,q⟩:=h;obtain⟨t,rfl⟩:=rx;obtain⟨u,rfl,ru⟩:=bY rv;cases ru;obtain⟨its,r,pl,_⟩:=I.list (SqL.of hl);exact PyProof.Rows.join_list pl.isList (by simpa using hs its r) hz λt' k=>#[.str _,H,I.tok _,#[_,rfl],q]
def xb(sep:G8)(te:TD):TD:=λz R=>te z λx=>match x with
 |.lst ds=>∃ys,cR ds=u5 ys/\(ys.map (·.length)).sum+ys.length*sep.length<=1000000/\R (.str (Txt.join sep ys))
 |_=>False
variable{k:Nat}
def jn[Jx]{sep:G8}{p1 b7 a8:PK}(he:WDE X e te)(k_:autoParam (zSE X e []) zA0)
  (b9:autoParam (PF (.Constant (.str sep) k p1) "join" X.env (PM (.Constant (.str sep) k p1) X.env)=PM (.Constant (.str sep) k p1) X.env) zA0)
  (f8:autoParam (zHF X a8 [e]) zA0)
  (c7:autoParam ((b7.endLine==a8.line)=true) zA0):WDE X (.Call (.Attribute (.Constant (.str sep) k p1) "join" b7) [e] [] a8) (xb sep te):=⟨have he:=he.out;(dW PySem.F.plainAttrs_str PySem.F.slot_str_join PySem.F.type_str_join xa nM (bN he pa_nil k_) b9 f8 c7 k_).anti λs H Q q=>by
 obtain⟨B,F,z,kf,rs,R,h1,h2⟩:=q;have fh:=kf.fh;refine#[rfl,?_];refine#[B,F,z,kf,rs,_,h1,λx u F1 H1 g1 hx rx=>?_];split at hx
 .obtain⟨ys,e1,e2,hx⟩:=hx;obtain⟨l,vs,rfl,hq,rr⟩:=rep_lst.mp rx;exact#[sep,l,vs,ys,rfl,rfl,g1.fh _ _ hq,λus q=>qi e1 rr q,Dy e2 G_,h2 _ _ F1 H1 g1 hx (rep_str.mpr rfl)]
 .exact hx.elim⟩
def dOix(i:Nat)(tb:TD):TD:=λz R=>match z[i]? with
 |some (u5 (.own ds))=>tb z λy=>match y with|.int k=>∃d,atI ds k=u5 d/\R d|_=>False
 |_=>False
def qj(i:Nat):TD:=λz R=>match z[i]? with|some (u5 (.own ds))=>R (.int ds.length)|_=>False
def xc[Jx](i:Nat){x:G8}{p1:PK}(hm:X.mg "len"=A')(hN:autoParam (X.N[i]?=u5 x) zA0)(hv:autoParam (Vis X.env.scope x) zA5)(hd:autoParam (zND x) zA1)
  (i8:autoParam (zNC x) zA1) (hg:autoParam (Gl X "len") zA0) (he:autoParam (PD [.Name x p] X.env=(false,PM (.Name x p) X.env)::PD [] X.env) zA0):WDE X (.Call (.Name "len" p1) [.Name x p] [] pos) (qj i):=⟨(fj gf hg hm PySem.boot_len (bN (dg hN hv hd i8) pa_nil he) G_ G_ he).anti λs H Q q=>by
 obtain⟨B,F,z,kf,rs,R,h1,h2⟩:=q;have fh:=kf.fh;unfold qj at h1;split at h1
 .rename_i ds ez;obtain⟨a,vs,q1,q2,q3,q4,q5⟩:=rs.own i ds ez;exact#[.ref a,q1,.ref a,vs.length,rfl,.inl #[vs,SqL.of q2,rfl],h2 _ _ F H (Grow.refl fh) h1 (rep_int.mpr (by rw[q5.length]))]
 .exact h1.elim⟩
def cutD(xs:List D)(lo hi:Option Int):List D:=(xs.drop (HT.sIx xs.length 0 lo)).take (HT.sIx xs.length xs.length hi-HT.sIx xs.length 0 lo)
def Reps.drop{K:Dr}{F:Hp}:∀(n:Nat) {xs:List D} {us:List V},Reps K F xs us->Reps K F (xs.drop n) (us.drop n)
 |0,_,_,r=>r
 |n+1,[],us,r=>by rw[reps_nil.mp r];exact reps_nil.mpr rfl
 |n+1,x::xs,us,r=>by
  obtain⟨u,ur,rfl,_,a2⟩:=reps_cons.mp r;exact Reps.drop n a2
def Reps.take{K:Dr}{F:Hp}:∀(n:Nat) {xs:List D} {us:List V},Reps K F xs us->Reps K F (xs.take n) (us.take n)
 |0,_,_,_=>reps_nil.mpr rfl
 |n+1,[],us,r=>by rw[reps_nil.mp r];exact reps_nil.mpr rfl
 |n+1,x::xs,us,r=>by
  obtain⟨u,ur,rfl,a1,a2⟩:=reps_cons.mp r;exact reps_cons.mpr #[u,_,rfl,a1,Reps.take n a2]
def Reps.cut{F:Hp}{xs:List D}{us:List V}(r:Reps K F xs us)(lo hi:Option Int):Reps K F (cutD xs lo hi) (cutV us lo hi):=by
 unfold cutD cutV;rw[r.length];exact(r.drop _).take _
def xg(ta tb:TD):TD:=λz R=>ta z λx=>tb z λy=>match x,y with|.lst xs,.int i=>R (.lst (cutD xs (u5 i) A'))|_,_=>False
def xh[Jx]{p2:PK}(ha:WDE X a ta)(hb:WDE X b tb):WDE X (.Subscript a (.Slice (u5 b) A' A' p2) pos) (xg ta tb):=⟨have ha:=ha.out;have hb:=hb.out;(oP oV ha (oO hb) oN).anti λs H Q q=>by
 obtain⟨B,F,z,kf,rs,R,h1,h2⟩:=q;have fh:=kf.fh;refine#[B,F,z,kf,rs,_,h1,λx u F1 H1 g1 hx rx=>?_];refine#[B,F1,z,kf.grow g1,rs.grow g1,_,hx,λy v F2 H2 g2 hy ry=>?_];split at hy
 .refine#[_,rep_int.mp ry,?_];obtain⟨l,vs,rfl,hq,rr⟩:=rep_lst.mp (rx.mono g2.ff);refine#[l,vs,rfl,SqL.of (g2.fh _ _ hq),λp hp=>?_];exact h2 _ _ _ _ (g1.trans (g2.trans (Grow.new g2.fh hp _))) hy (rep_lst.mpr #[p,_,rfl,aA,(rr.cut _ _).mono (aM (g2.fh.free hp) _)])
 .exact hy.elim⟩
def xi{t:TGs}{n:Nat}(hc:X.calm=true)(h:PGs X es t)(hn:autoParam ((PC es X.env).length=n) zA0)(q_:autoParam ((PC es X.env).findIdx? (·.1)=none) zA0):
  PG X (.Tuple es k pos) (λv σ H Q=>∃a xs,v=.ref a/\SqL X.K H a xs/\xs.length=n/\t xs σ H Q):=by
 intro pins s σ H v u Q I r hw;obtain⟨a,xs,e1,hq,hl,hw⟩:=hw;subst e1;cases r;obtain⟨its,rv,pl,hz⟩:=I.list hq;have e2:(PC es X.env).length=its.toArray.size:=by simp[hn,<-hl,rv.length]
 rw[PyProof.Rows.assign_Tuple];refine KM (P8 ?_);unfold unpack;rw[e2,q_];refine KM (P9 (kun_itemsOf (I.ok.hd hc) pl.isList λh' hx=>?_));have I1:Inv X pins σ H {s with heap:=h'}:=I.kept (t':=s.toks) λb o e=>hx b o (DF (Heap.lt_size e)) e;exact h pins _ σ H xs _ Q I1 (by simpa using rv) hw
def xj(is:List Nat)(te:TD):TSD:=λE z=>te z λx=>match x with|.lst ds=>ds.length=is.length/\E.nx (aZ is ds z)|_=>False
def xk[Jx]{is:List Nat}(hc:X.calm=true)(he:WDE X e te)(hg:DGs X es is)(hn:autoParam ((PC es X.env).length=is.length) zA0)(q_:autoParam ((PC es X.env).findIdx? (·.1)=none) zA0)
  (hs:autoParam (Qi [.Tuple es k p] e pos.line X.env=pure false) zA0) (hw:autoParam (Qj [.Tuple es k p] e X.env=pure none) zA0) (h1:autoParam ((PC [.Tuple es k p] X.env).map (·.2)=[Qm (.Tuple es k p) X.env]) zA0):WDS X (.Assign [.Tuple es k p] e pos) (xj is te):=⟨by
 have he:=he.out;obtain⟨u,hu,kk⟩:=hg;refine(nW he (xi hc hu hn q_) hs hw h1).anti λE s H q=>?_;obtain⟨B,F0,F,z,k,rs,ED,h,e⟩:=q;refine#[B,F,z,k.kf,rs,_,h,λd v F' H' g hd rd=>?_];split at hd
 .obtain⟨p,vs,rfl,hq,rr⟩:=rep_lst.mp rd;exact#[p,vs,rfl,SqL.of (g.fh _ _ hq),by rw[rr.length];exact hd.1,kk _ vs z s B F' H' _ hd.1 rr (rs.grow g) λs' r'=>e.nx _ _ F' H' (k.grow g) hd.2 r']
 .exact hd.elim⟩
end
end My
namespace L2
def jp{env:Ql}:∀(names:List (G8×Qb)) (f_:List (G8×KF)),(∀n,(n,NameKind.free)∈names->∃c,env.cells.lookup n=u5 c)->
  ∃cl,(forIn (m:=Q5) names f_ λx r=>match x with
     |(name,kind)=>if(kind==NameKind.free)=true then(do let a <-cellOf env name;pure (ForInStep.yield ((name,a)::r)))else pure (ForInStep.yield r))=(pure cl:Q5 (List (G8×KF)))/\
   (∀n c,cl.lookup n=u5 c->env.cells.lookup n=u5 c\/f_.lookup n=u5 c)/\(∀n,(n,NameKind.free)∈names->∃c,cl.lookup n=u5 c)/\∀n c,f_.lookup n=u5 c->∃c',cl.lookup n=u5 c'
 |[],f_,_=>#[f_,rfl,(λ_ _ h=>.inr h),(λ_ h=>by cases h),(λ_ c h=>#[c,h])]
 |(name,kind)::r,f_,h=>by
  by_cases hk:(kind==NameKind.free)=true
  .have ek:kind=.free:=by simpa using hk
   subst ek;obtain⟨c,hc⟩:=h name DC;obtain⟨cl,e,p1,p2,p3⟩:=jp r ((name,c)::f_) λn q=>h n (Dx _ q);refine#[cl,?_,λn c' q=>?_,λn q=>?_,λn c' q=>?_]
   .rw[F9];have ec:cellOf env name=pure c:=by unfold cellOf;rw[hc]
    simp only[hk,if_true,ec];exact e
   .rcases p1 n c' q with z|z
    .exact .inl z
    .rw[DQ]at z;split at z
     .rename_i q2;have en:n=name:=by simpa using q2
      cases z;exact .inl (en ▸ hc)
     .exact .inr z
   .rcases Dw.mp q with z|z
    .cases z;exact p3 _ c (by rw[DQ];simp)
    .exact p2 n z
   .by_cases hn:n=name
    .subst hn;exact p3 n c (by rw[DQ];simp)
    .exact p3 n c' (by rw[DQ,beq_eq_false_iff_ne.mpr hn];exact q)
  .obtain⟨cl,e,p1,p2,p3⟩:=jp r f_ λn q=>h n (Dx _ q);refine#[cl,?_,p1,λn q=>?_,p3]
   .rw[F9];simp only[hk];exact e
   .rcases Dw.mp q with z|z
    .cases z;exact absurd rfl hk
    .exact p2 n z
def closure_is{env:Ql}{scope:P4}(h:∀n,(n,NameKind.free)∈scope.names->∃c,env.cells.lookup n=u5 c):
  ∃cl,closureFor scope env=pure cl/\(∀n c,cl.lookup n=u5 c->env.cells.lookup n=u5 c)/\∀n,(n,NameKind.free)∈scope.names->∃c,cl.lookup n=u5 c:=by
 obtain⟨cl,e,p1,p2,_⟩:=jp scope.names [] h;refine#[cl,?_,λn c q=>(p1 n c q).elim id (λz=>nomatch z),p2];unfold closureFor;show(forIn (m:=Q5) scope.names [] _>>=λs=>pure s)=pure cl;rw[e];rfl
def gy{env:Ql}:∀{names:List (G8×Qb)} {n:G8} {k:Qb},(∀y∈names,y.2≠.cell)->k=.cell\/k=.free->
  (names.map λ(n,k)=>if(k==NameKind.free&&env.scope.kind== .function&&env.kindOf n==u5 .cell)then(n,NameKind.cell)else(n,k)).lookup n=u5 k->(n,NameKind.free)∈names
 |[],_,_,_,_,h=>by simp at h
 |(a,b)::r,n,k,hc,hk,h=>by
  rw[DZ]at h;by_cases hb:(b==NameKind.free&&env.scope.kind== .function&&env.kindOf a==u5 .cell)=true
  .have eb:b=.free:=by
    have:=(D6 _ _ ▸ ((D6 _ _ ▸ hb).1)).1;simpa using this
   simp only[hb,if_true]at h;rw[DQ]at h;split at h
   .rename_i q;have en:n=a:=by simpa using q
    subst en eb;exact DC
   .exact Dx _ (gy (λy q=>hc y (Dx _ q)) hk h)
  .simp only[hb]at h;rw[if_neg HV,DQ]at h;split at h
   .rename_i q;have en:n=a:=by simpa using q
    cases h;subst en;rcases hk with z|z
    .exact absurd z (hc _ DC)
    .rw[z];exact DC
   .exact Dx _ (gy (λy q=>hc y (Dx _ q)) hk h)
section
variable {prog:Pw}{w:Pz}{A:PB}{R:Result->KB->Prop}{s:KB}
abbrev qk(j5:List Pu)(env:Ql):Q5 Bool:=forIn j5 true λc r=>if r=true then do let ok <-isTrue c env (PM c env);pure (ForInStep.yield ok)else pure (ForInStep.yield r)
def xm{i_ g7 iter:Pu}{j5:List Pu}{scope:P4}{pos:PK}{it f_:GT}{env:Ql}(I:Nat->KB->Prop)
  (d9:∀n s,I n s->Px (Pt prog w) A (pyNext it) (λr s₁=>match r with
   |none=>R (.ok .next) s₁
   |some v=>Px (Pt prog w) A (Qo g7 it v) (λ_ s₁'=>Px (Pt prog w) A (Qm g7 env v) (λ_ s₂=>Px (Pt prog w) A (qk j5 env) (λok s₂'=>if ok=true then Px (Pt prog w) A (PM i_ env) (λx s₃=>
     Px (Pt prog w) A (call (.builtin "list.append") [f_,x]) (λ_ s₄=>∃m,m<n/\I m s₄) (λ_ _=>False) s₃)
     (λ_ _=>False) s₂' else ∃m,m<n/\I m s₂') (λ_ _=>False) s₂) (λ_ _=>False) s₁') (λ_ _=>False) s₁) (λ_ _=>False) s)
  (n:Nat) (h:I n s):
  Qz (Pt prog w) A (.compLoop (.ListComp i_ [#[g7,iter,j5,0]] scope pos) 0 it f_ env) R s:=by
 refine codeAny_loop rfl I (λn s hI=>?_) n h;show Px _ _ ((compTurn (.ListComp i_ [#[g7,iter,j5,0]] scope pos) 0 it f_ env).onRaise (λx=>do Qk x env;theTreesLotGoes x)) _ _ s;refine wpAny_noted ?_;rw[compTurn_list];refine KM (P8 (KM (PP (d9 n s hI) (λr s₁ h₁=>?_) λ_ _ h'=>h'.elim)));cases r with
 |none=>exact Pi h₁
 |some v=>
  refine KM (PP h₁ (λ_ s₁' h₁'=>KM (PP h₁' (λ_ s₂ h₂=>KM (PP h₂ (λok s₃ h₃=>?_) λ_ _ h'=>h'.elim)) λ_ _ h'=>h'.elim)) λ_ _ h'=>h'.elim);cases ok with
  |false=>exact Pi #[rfl,h₃]
  |true=>
   exact KM (KM (PP h₃ (λx s₄ h₄=>KM (PP h₄ (λ_ s₅ h₅=>Pi (Pi #[rfl,h₅])) λ_ _ h'=>h'.elim)) λ_ _ h'=>h'.elim))
end
def ck(X:Cx)(scope:P4)(cl:List (G8×KF))(x:G8)(s₀:KB)(H₀:Hp)(fp:List KF):Cx where
 prog:=X.prog
 w:=X.w
 K:=X.K
 mg:=X.mg
 base:=X.base
 A:=X.A
 N:=X.N.map (λn=>if n=x then("":G8)else n)++[x]
 s₀:=s₀
 H₀:=H₀
 env:=compEnvC scope cl s₀.heap.objs.size X.env
 outer:=X.stack
 stack:=X.stack
 ex:=fp
 fn:=λ_=>false
 calm:=X.calm
 pn:=[]
 xe:=λ_ _=>False
structure CompScope(X:Cx)(scope:P4)(x:Str):Prop where
 kind:scope.kind=.function
 nocell:∀y∈scope.names,y.2≠.cell
 names:∀y∈scope.names,y.2=.local->scope.names.lookup y.1=u5 .local
 own:scope.names.lookup x=u5 .local
 free:∀n,(n,NameKind.free)∈scope.names->X.env.kindOf n=u5 .cell
 vis:∀n∈X.N,n≠x->Vis (Rj scope X.env) n->(n,NameKind.free)∈scope.names
 empty:¬Vis (Rj scope X.env) ("":G8)
 cells:∀n,(n,NameKind.free)∈scope.names->(Rj scope X.env).names.lookup n=u5 .cell
 nd:(X.N.map (λn=>if n=x then("":G8)else n)++[x]).Nodup
section
variable {X:Cx}{pins:List (KF×PX)}{σ:St}{H:Hp}{s:KB}{scope:P4}{cl:List (G8×KF)}{x:G8}{fp:List KF}
def ql(I:Inv X pins σ H s)(S:CompScope X scope x)(c1:∀n c,cl.lookup n=u5 c->X.env.cells.lookup n=u5 c)(c2:∀n,(n,NameKind.free)∈scope.names->∃c,cl.lookup n=u5 c)
  (hf:∀b∈fp,FpOk X pins H b) (hl:∀b∈fp,b<s.heap.objs.size):(ck X scope cl x s H fp).Ok where
 mod:=I.ok.mod
 kind:=S.kind
 glob:=I.ok.glob
 blt:=I.ok.blt
 above:=Dt _
 inj:=λy z c h1 h2=>I.ok.inj y z c (c1 y c h1) (c1 z c h2)
 has:=λn hn=>by
  rcases hn with hn|hn
  .exact c2 n (gy S.nocell (.inl rfl) hn)
  .exact c2 n (gy S.nocell (.inr rfl) hn)
 cab:=λ_ _ h=>nomatch h
 hd:=I.ok.hd
 frames:=I.ok.frames
 stk:=.inl rfl
 exf:=λb hb=>#[DF (hl b hb),λy c h=>(hf b hb).2.2.2.2.1 y c (c1 y c h)]
 bs:=I.bs
 bsz:=Dy I.ok.bsz I.sz
 noex:=λb o e hb=>by
  have h1:=I.ok.noex b o e;rcases(hf b hb).2.2.2.1 with z|z
  .exact h1 z
  .exact absurd (DP (Heap.lt_size e) (Dy I.ok.bsz z)) (EB _)
 exfs:=λb hb hs=>by
  rcases Dw.mp (I.stkSub b hs)with z|z
  .exact(hf b hb).2.1 z
  .exact(hf b hb).2.2.1 z
 funs:=I.stack
 frf:=I.stkFree
def qm{h':Heap}{t':Nat}(I:Inv X pins σ H s)(S:CompScope X scope x)(c1:∀n c,cl.lookup n=u5 c->X.env.cells.lookup n=u5 c)(c2:∀n,(n,NameKind.free)∈scope.names->∃c,cl.lookup n=u5 c)
  (hf:∀b∈fp,FpOk X pins H b) (hl:∀b∈fp,b<s.heap.objs.size) {m:G8->Option GT} (hn:h'.Ns s.heap.objs.size m) (k:∀b o,s.heap.get? b=u5 o->h'.get? b=u5 o):
  Inv (ck X scope cl x s H fp) [] (σ++[A']) H {s with heap:=h',toks:=t'}:=by
 refine#[ql I S c1 c2 hf hl,rfl,I.bare,Un.kept k,#[m,hn,λi n v e1 e2 e3=>?_],λn c e=>?_,I.hok.fresh (Dt _),λn c e=>I.freeC n c (c1 n c e),λp hp=>absurd (show p∈([]:List (KF×PX))from hp) HV,I.hok.kept k,?_]
 .have hi:i<σ.length:=by
   rcases ER i σ.length with q|q
   .exact q
   .rw[EE q]at e2;cases hz:i-σ.length with
    |zero=>rw[hz]at e2;simp at e2
    |succ z=>rw[hz]at e2;simp at e2
  rw[Er hi]at e2;have Jk:i<X.N.length:=by rw[<-I.len];exact hi
  have Hw:(X.N.map (λn=>if n=x then("":G8)else n)++[x])[i]?=u5 n:=e1;rw[Er (by simpa using Jk),D4,DV Jk]at Hw;simp only[Option.map_some,Option.some.injEq]at Hw;by_cases hx:X.N[i]=x
  .rw[if_pos hx]at Hw;subst Hw;exact absurd e3 S.empty
  .rw[if_neg hx]at Hw;subst Hw;have j8:=S.vis _ (Eu Jk) hx e3;have m9:=S.free _ j8;obtain⟨c,hc⟩:=c2 _ j8;obtain⟨mX,O2,NJ⟩:=I.loc;obtain⟨u,ru,lk⟩:=NJ i X.N[i] v (DV Jk) e2 (.inr (.inl m9));refine#[u,ru,.inr #[?_,c,hc,?_]]
   .exact .inl (S.cells _ j8)
   .rcases lk with⟨kl,_⟩|⟨_,c',t_,k9⟩
    .rw[m9]at kl;cases kl
    .have:c=c':=by
      have:=c1 _ c hc;rw[t_]at this;exact(Option.some.inj this).symm
     subst this;obtain⟨o,ho,hd⟩:=k9;exact#[o,k _ _ ho,hd]
 .obtain⟨v,o,ho,hd⟩:=I.cell n c (c1 n c e);exact#[v,o,k _ _ ho,hd]
 .show(σ++[A']).length=(X.N.map _++[x]).length;rw[DB,DB,DJ,I.len];rfl
end
def gz(wi:TI)(tt:TT)(i7:TE):TE:=λσ H Q=>wi σ H λJ H1=>∀D,H1 D=A'->∃W:Nat->Nat->Hp->Prop,(∃m,W 0 m (upd H1 D (.lst [])))/\∀i m H,W i m H->
 (J.stop i H/\Q (.ref D) H)\/(J.go i H/\∀x H',J.yld i H x H'->tt (σ++[u5 x]) H' λb H1=>if b=true then i7 (σ++[u5 x]) H1 λy H''=>∃vs,H'' D=u5 (.lst vs)/\vs.length<sizeLine/\∃m',m'<m/\W (i+1) m' (upd H'' D (.lst (vs++[y])))else ∃m',m'<m/\W (i+1) m' H1)
def PIf(X:Cx)(j5:List Pu)(t:TT):Prop:=
 ∀(pins:List (KF×PX)) (s:KB) (σ:St) (H:Hp) (Q:Bool->Hp->Prop),Inv X pins σ H s->t σ H Q->Px (Pt X.prog X.w) X.A (qk j5 X.env) (TP X pins σ Q) X.xe s
def pif_nil{X:Cx}:PIf X [] (λ_ H Q=>Q true H):=λpins s σ H Q I q=>wpAny_tests_nil #[H,I,q]
def PIf.anti{X:Cx}{e:List Pu}{t t':TT}(h:PIf X e t)(a:∀s H Q,t' s H Q->t s H Q):PIf X e t':=λpins s σ H Q I q=>h pins s σ H Q I (a _ _ _ q)
section
variable {X:Cx}
variable{i_ iter:Pu}{j5:List Pu}{x:G8}{px pos:PK}{scope:P4}{tt:TT}{i7:TE}
def qo{pins:List (KF×PX)}{s2:KB}{σ:St}{H1:Hp}{cl:List (G8×KF)}{it:KF}{fp:List KF}{tn:Nat->Heap->Prop}{J:It}{Qs:Hp->Prop}{R:Result->KB->Prop}{W:Nat->Nat->Hp->Prop}{m0:Nat}{h₁:Heap}(hc:X.calm=true)(S:CompScope X scope x)
  (hq:∀cl s₀ H₀ fp,PIf (ck X scope cl x s₀ H₀ fp) j5 tt) (he:∀cl s₀ H₀ fp,PE (ck X scope cl x s₀ H₀ fp) i_ i7) (c1:∀n c,cl.lookup n=u5 c->X.env.cells.lookup n=u5 c) (c2:∀n,(n,NameKind.free)∈scope.names->∃c,cl.lookup n=u5 c)
  (I1:Inv X pins σ H1 s2) (T:Turn X.prog X.w X.K (.Name x px) J fp it tn) (st:tn 0 s2.heap) (f1:∀b∈fp,FpOk X pins H1 b) (w0:W 0 m0 (upd H1 s2.heap.objs.size (.lst [])))
  (step:∀i m H,W i m H->(J.stop i H/\Qs H)\/(J.go i H/\∀x H',J.yld i H x H'->tt (σ++[u5 x]) H' λb H1=>if b=true then i7 (σ++[u5 x]) H1 λy H''=>∃vs,H'' s2.heap.objs.size=u5 (.lst vs)/\vs.length<sizeLine/\∃m',m'<m/\W (i+1) m' (upd H'' s2.heap.objs.size (.lst (vs++[y])))else ∃m',m'<m/\W (i+1) m' H1))
  (I4:Inv (ck X scope cl x {s2 with heap:=s2.heap.push {cls:=.type "list",data:=.seq ([]:List GT).toArray},toks:=s2.toks} (upd H1 s2.heap.objs.size (.lst [])) fp) [] (σ++[A']) (upd H1 s2.heap.objs.size (.lst [])) {s2 with heap:=h₁,toks:=s2.toks+([]:List (G8×GT)).length}) (t0:tn 0 h₁)
  (Kc:∀H' s4 m,Inv X pins σ H' s4->s4.heap.Ns (s2.heap.push {cls:=.type "list",data:=.seq ([]:List GT).toArray}).objs.size m->H' (s2.heap.push {cls:=.type "list",data:=.seq ([]:List GT).toArray}).objs.size=A'->Qs H'->R (.ok .next) s4):
  Qz (Pt X.prog X.w) X.A (.compLoop (.ListComp i_ [#[.Name x px,iter,j5,0]] scope pos) 0 (.ref it) (.ref s2.heap.objs.size) (compEnvC scope cl (s2.heap.push {cls:=.type "list",data:=.seq ([]:List GT).toArray}).objs.size X.env)) R {s2 with heap:=h₁,toks:=s2.toks+([]:List (G8×GT)).length}:=by
 have g9:∀b∈fp,b<s2.heap.objs.size:=λb hb=>by
  obtain⟨o,ho,_⟩:=T.obj _ _ st b hb;exact Heap.lt_size ho
 have I3:Inv X pins σ (upd H1 s2.heap.objs.size (.lst [])) {s2 with heap:=s2.heap.push {cls:=.type "list",data:=.seq ([]:List GT).toArray},toks:=s2.toks}:=I1.lnew (its:=[]) (ys:=[]) .nil (DO _);have j3:∀b∈fp,b<(s2.heap.push {cls:=.type "list",data:=.seq ([]:List GT).toArray}).objs.size:=λb hb=>by
  rw[Heap.size_push];exact FA (g9 b hb)
 have z6:∀b∈fp,FpOk X pins (upd H1 s2.heap.objs.size (.lst [])) b:=λb hb=>#[by rw[ao (DF (g9 b hb))];exact(f1 b hb).1,(f1 b hb).2];have Jl:=ql (x:=x) (fp:=fp) I3 S c1 c2 z6 j3;generalize hY:ck X scope cl x {s2 with heap:=s2.heap.push {cls:=.type "list",data:=.seq ([]:List GT).toArray},toks:=s2.toks} (upd H1 s2.heap.objs.size (.lst [])) fp=Y at I4 Jl;have yP:Y.prog=X.prog:=Ro
 have yW:Y.w=X.w:=Ro
 have yK:Y.K=X.K:=Ro
 have yA:Y.A=X.A:=Ro
 have yN:Y.N=X.N.map (λn=>if n=x then("":G8)else n)++[x]:=Ro
 have yE:Y.env=compEnvC scope cl (s2.heap.push {cls:=.type "list",data:=.seq ([]:List GT).toArray}).objs.size X.env:=Ro
 have yX:Y.xe=λ_ _=>False:=Ro
 have yC:Y.calm=true:=by rw[<-hY];exact hc
 have Mj:Y.ex=fp:=Ro
 have NK:Y.pn=[]:=Ro
 have NL:Y.fs=frs X.stack:=Ro
 have NM:Y.H₀=upd H1 s2.heap.objs.size (.lst []):=Ro
 have Ml:Y.s₀={s2 with heap:=s2.heap.push {cls:=.type "list",data:=.seq ([]:List GT).toArray},toks:=s2.toks}:=Ro
 have NN:PE Y i_ i7:=by rw[<-hY];exact he _ _ _ _
 have NO:PIf Y j5 tt:=by rw[<-hY];exact hq _ _ _ _
 have o7:∀{H':Hp},(∀b∈fp,H' b=A')->∀b∈fp,FpOk Y [] H' b:=λ{H'} hn b hb=>by
  have l8:b∈Y.ex:=by rw[Mj];exact hb
  exact#[hn b hb,(Jl.exf b l8).1,Jl.exfs b l8,.inl l8,λn c e=>(Jl.exf b l8).2 n c e,by rw[NK];simp]
 have Ib:Y.env.scope.names.lookup x=u5 .local:=by rw[yE];exact lookup_relabel_local S.own
 have Kd:Y.N[X.N.length]?=u5 x:=by rw[yN];simp
 have NP:Y.N.Nodup:=by rw[yN];exact S.nd
 have Ke:Y.env.locals=(s2.heap.push {cls:=.type "list",data:=.seq ([]:List GT).toArray}).objs.size:=by rw[yE];rfl
 have c9:∀(o:Option V) (H':Hp) (s':KB),Inv Y [] (σ++[o]) H' s'->Inv X pins σ H' s':=λo H' s' I'=>by
  have bs:=I'.base;rw[NL,Mj,NM,Ml]at bs;refine I3.call' (ch:=fp) ?_ bs ?_ I'.bare ?_
  .have:=I'.os;rw[Ml]at this;exact this
  .have:=I'.hok;rw[yP,yW]at this;exact this
  .exact λb hb=>#[(z6 b hb).2.2.2.1,(z6 b hb).2.1,(z6 b hb).2.2.2.2.1,(z6 b hb).2.2.2.2.2]
 refine xm (λn s'=>∃i o H',Inv Y [] (σ++[o]) H' s'/\tn i s'.heap/\(∀b∈fp,H' b=A')/\W i n H') ?_ m0 #[0,A',_,I4,t0,λb hb=>(z6 b hb).1,w0];rintro n s3⟨i,o,H3,I5,t3,f3,w3⟩;rcases step i n H3 w3 with⟨stop,q⟩|⟨go,q⟩
 .have dn:=T.done Y yP yW yK yC i [] s3 _ H3 (λ_ _=>False) I5 (o7 f3) t3 stop;rw[yA]at dn;refine thn dn λr s4 b_=>?_;obtain⟨hr,I6⟩:=b_;subst hr;obtain⟨m,hn,_⟩:=I6.loc;have hfr:=I6.free;rw[Ke]at hn hfr;exact Kc H3 s4 m (c9 o H3 s4 I6) hn hfr q
 .have Mn:=T.item Y yP yW yK yC i [] s3 _ H3 (λ_ _=>False) I5 (o7 f3) t3 go;rw[yA]at Mn;refine thn Mn λr s4 b_=>?_;obtain⟨u,hr,h4⟩:=b_;subst hr;refine thn h4 λ_ s5 b_=>?_;obtain⟨xv,H5,I6,r5,y5,A_,JV⟩:=b_;have NQ:=I6.pinned (o7 JV) (T.obj _ _ A_);rw[<-yE];refine QC (dP NQ NP Kd (.inl Ib) r5 (λs6 I7=>?_) (.inr Ib));have Kf:(σ++[o]).set X.N.length (u5 xv)=σ++[u5 xv]:=by
   rw[<-I1.len];simp
  rw[Kf]at I7;have tv:=NO _ s6 _ H5 _ I7 (q xv H5 y5);rw[yP,yW,yA,yX]at tv;refine thn tv λb NR b_=>?_;obtain⟨NS,Jn,qb⟩:=b_;cases b with
  |false=>
   obtain⟨m',hm,w7⟩:=qb;refine#[m',hm,i+1,u5 xv,_,Jn.unpinned,T.keep _ _ _ A_ λb hb ob e=>(Jn.pin (b,ob) (DY _ (DY _ (dR hb e)))).1,λb hb=>?_,w7];obtain⟨ob,e,d⟩:=T.obj _ _ A_ b hb;exact(Jn.pin (b,ob) (DY _ (DY _ (dR hb e)))).2.1
  |true=>
  have ev:=NN _ NR _ NS _ Jn qb;rw[yP,yW,yA,yX]at ev;refine thn ev λyv s7 b_=>?_;obtain⟨y,H6,I8,ry,vs,NT,b8,m',hm,w7⟩:=b_;have ap:=ja (X:=Y) _ s7 _ H6 (.ref s2.heap.objs.size) [y] (.ref s2.heap.objs.size) [yv] (λ_ H7=>H7=upd H6 s2.heap.objs.size (.lst (vs++[y]))) I8 rfl (.cons ry .nil) #[_,vs,y,rfl,rfl,NT,b8,rfl];rw[yP,yW,yA,yX]at ap;refine thn ap λ_ s8 b_=>?_;obtain⟨_,H7,I9,_,e7⟩:=b_;subst e7;refine#[m',hm,i+1,u5 xv,_,I9.unpinned,T.keep _ _ _ A_ λb hb ob e=>(I9.pin (b,ob) (DY _ (DY _ (dR hb e)))).1,λb hb=>?_,w7];obtain⟨ob,e,d⟩:=T.obj _ _ A_ b hb;exact(I9.pin (b,ob) (DY _ (DY _ (dR hb e)))).2.1
def xn{wi:TI}(hc:X.calm=true)(S:CompScope X scope x)(hi:PI X (.Name x px) iter wi)
  (hq:∀cl s₀ H₀ fp,PIf (ck X scope cl x s₀ H₀ fp) j5 tt) (he:∀cl s₀ H₀ fp,PE (ck X scope cl x s₀ H₀ fp) i_ i7) (hs:autoParam (∀y,zFS X iter y) zA3):
  PE X (.ListComp i_ [#[.Name x px,iter,j5,0]] scope pos) (gz wi tt i7):=by
 intro pins s σ H Q I h;obtain⟨cl,k9,c1,c2⟩:=closure_is (env:=X.env) (scope:=scope) (λn q=>I.ok.has n (.inl (S.free n q)));rw[eval_ListComp];refine QT (use:=A') rfl hs k9 S.kind S.names (thn (hi pins s σ H _ I h) λv s1 h1=>thn h1 λJb s2 h2=>?_);obtain⟨it,fp,tn,J,H1,e,I1,T,st,f1,hr⟩:=h2;subst e;have g9:∀b∈fp,b<s2.heap.objs.size:=λb hb=>by
  obtain⟨o,ho,_⟩:=T.obj _ _ st b hb;exact Heap.lt_size ho
 have hD:H1 s2.heap.objs.size=none:=I1.hok.fresh (Dt _);obtain⟨W,⟨m0,w0⟩,step⟩:=hr _ hD;refine PN (Q7 S.nocell (by intro y hy;simp at hy) (λh₁ hns₁ hsb₁=>?_) S.kind);have I3:Inv X pins σ (upd H1 s2.heap.objs.size (.lst [])) {s2 with heap:=s2.heap.push {cls:=.type "list",data:=.seq ([]:List GT).toArray},toks:=s2.toks}:=I1.lnew (its:=[]) (ys:=[]) .nil (DO _);have j3:∀b∈fp,b<(s2.heap.push {cls:=.type "list",data:=.seq ([]:List GT).toArray}).objs.size:=λb hb=>by
  rw[Heap.size_push];exact FA (g9 b hb)
 have z6:∀b∈fp,FpOk X pins (upd H1 s2.heap.objs.size (.lst [])) b:=λb hb=>#[by rw[ao (DF (g9 b hb))];exact(f1 b hb).1,(f1 b hb).2];have kp:∀b o,(s2.heap.push {cls:=.type "list",data:=.seq ([]:List GT).toArray}).get? b=u5 o->h₁.get? b=u5 o:=λb o e=>
  (hsb₁.2 b (DF (Heap.lt_size e))).trans (Heap.get?_push_of_some _ e)
 have I4:=qm (x:=x) (fp:=fp) (t':=s2.toks+([]:List (G8×GT)).length) I3 S c1 c2 z6 j3 hns₁ kp;have F_:(s2.heap.push {cls:=.type "list",data:=.seq ([]:List GT).toArray}).objs.size≠X.env.locals:=Ec I3.lt;have GO:∀z c,X.env.cells.lookup z=u5 c->c≠(s2.heap.push {cls:=.type "list",data:=.seq ([]:List GT).toArray}).objs.size:=λz c e=>by
  obtain⟨vv,oo,ho,_⟩:=I3.cell z c e;exact DF (Heap.lt_size ho)
 have Hi:∀p∈X.pn++pins,p.1≠(s2.heap.push {cls:=.type "list",data:=.seq ([]:List GT).toArray}).objs.size:=λp hp=>DF (Heap.lt_size (I3.pin p hp).1);have r_:=qo (pos:=pos) (iter:=iter) (R:=compPost (Pt X.prog X.w) X.A X.xe A' (EP X pins σ Q) (.ref s2.heap.objs.size) (s2.heap.push {cls:=.type "list",data:=.seq ([]:List GT).toArray}).objs.size) hc S hq he c1 c2 I1 T st f1 w0 step I4 (T.keep _ _ _ st (λb hb ob e=>kp b ob (Heap.get?_push_of_some _ e))) λH' s4 m IX hn hfr q=>
  #[m,hn,λh' hsb=>#[.ref s2.heap.objs.size,H',IX.turned (t':=s4.toks) (it:=(s2.heap.push {cls:=.type "list",data:=.seq ([]:List GT).toArray}).objs.size) (λb ob hb e=>(hsb.2 b hb).trans e) hfr F_ (.inr I3.sz) GO Hi,rfl,q]]
 exact Q2 r_ (T.self _ _ _ _ _ (T.keep _ _ _ st (λb hb ob e=>kp b ob (Heap.get?_push_of_some _ e))) r_)
def xo{y:G8}{py v6:PK}{wi:TI}{ix:Nat}(hc:X.calm=true)(S:CompScope X scope x)(hi:PI X (.Name x px) iter wi)
  (hq:∀cl s₀ H₀ fp,PIf (ck X scope cl x s₀ H₀ fp) j5 tt) (he:∀cl s₀ H₀ fp,PE (ck X scope cl x s₀ H₀ fp) i_ i7) (hN:X.N.Nodup) (Kg:X.N[ix]?=u5 y) (hy:Loc X.env.scope y) (hf:zFN X y)
  (Hc:PV (.ListComp i_ [#[.Name x px,iter,j5,0]] scope pos) (u5 (.Name y py)) v6.line X.env=pure true) (hs:autoParam (∀y,zFS X iter y) zA3):
  PS X (.Assign [.Name y py] (.ListComp i_ [#[.Name x px,iter,j5,0]] scope pos) v6) (tAsg (gz wi tt i7) (fX ix)):=by
 intro pins s σ H DE I h;have h:wi σ H λJ H1=>∀D,H1 D=A'->∃W:Nat->Nat->Hp->Prop,(∃m,W 0 m (upd H1 D (.lst [])))/\∀i m H,W i m H->
  (J.stop i H/\DE.nx (σ.set ix (u5 (.ref D))) H)\/(J.go i H/\∀x H',J.yld i H x H'->tt (σ++[u5 x]) H' λb H1=>if b=true then i7 (σ++[u5 x]) H1 λy H''=>∃vs,H'' D=u5 (.lst vs)/\vs.length<sizeLine/\∃m',m'<m/\W (i+1) m' (upd H'' D (.lst (vs++[y])))else ∃m',m'<m/\W (i+1) m' H1):=h
 obtain⟨cl,k9,c1,c2⟩:=closure_is (env:=X.env) (scope:=scope) (λn q=>I.ok.has n (.inl (S.free n q)));rw[exec_Assign_Name_used _ _ _ _ Hc];refine KM (P8 (KM ?_));show Px _ X.A (do let _ <-comprehension (.ListComp i_ [#[.Name x px,iter,j5,0]] scope pos) scope X.env _ (newList []) false (PM iter X.env) (u5 (Qm (.Name y py) X.env))) _ _ s;refine KM (PP (QT (use:=u5 (Qm (.Name y py) X.env)) (Q:=λ_ s'=>SP X pins DE .next s') rfl hs k9 S.kind S.names
  (thn (hi pins s σ H _ I h) λv s1 h1=>thn h1 λJb s2 h2=>?_)) (λ_ s' hq=>Pi (Pi hq)) λ_ _ e=>e)
 obtain⟨it,fp,tn,J,H1,e,I1,T,st,f1,hr⟩:=h2;subst e;have g9:∀b∈fp,b<s2.heap.objs.size:=λb hb=>by
  obtain⟨o,ho,_⟩:=T.obj _ _ st b hb;exact Heap.lt_size ho
 have hD:H1 s2.heap.objs.size=none:=I1.hok.fresh (Dt _);obtain⟨W,⟨m0,w0⟩,step⟩:=hr _ hD;refine PN (Q7 S.nocell (by intro y hy;simp at hy) (λh₁ hns₁ hsb₁=>?_) S.kind);have I3:Inv X pins σ (upd H1 s2.heap.objs.size (.lst [])) {s2 with heap:=s2.heap.push {cls:=.type "list",data:=.seq ([]:List GT).toArray},toks:=s2.toks}:=I1.lnew (its:=[]) (ys:=[]) .nil (DO _);have j3:∀b∈fp,b<(s2.heap.push {cls:=.type "list",data:=.seq ([]:List GT).toArray}).objs.size:=λb hb=>by
  rw[Heap.size_push];exact FA (g9 b hb)
 have z6:∀b∈fp,FpOk X pins (upd H1 s2.heap.objs.size (.lst [])) b:=λb hb=>#[by rw[ao (DF (g9 b hb))];exact(f1 b hb).1,(f1 b hb).2];have kp:∀b o,(s2.heap.push {cls:=.type "list",data:=.seq ([]:List GT).toArray}).get? b=u5 o->h₁.get? b=u5 o:=λb o e=>
  (hsb₁.2 b (DF (Heap.lt_size e))).trans (Heap.get?_push_of_some _ e)
 have I4:=qm (x:=x) (fp:=fp) (t':=s2.toks+([]:List (G8×GT)).length) I3 S c1 c2 z6 j3 hns₁ kp;have F_:(s2.heap.push {cls:=.type "list",data:=.seq ([]:List GT).toArray}).objs.size≠X.env.locals:=Ec I3.lt;have GO:∀z c,X.env.cells.lookup z=u5 c->c≠(s2.heap.push {cls:=.type "list",data:=.seq ([]:List GT).toArray}).objs.size:=λz c e=>by
  obtain⟨vv,oo,ho,_⟩:=I3.cell z c e;exact DF (Heap.lt_size ho)
 have Hi:∀p∈X.pn++pins,p.1≠(s2.heap.push {cls:=.type "list",data:=.seq ([]:List GT).toArray}).objs.size:=λp hp=>DF (Heap.lt_size (I3.pin p hp).1);have r_:=qo (pos:=pos) (iter:=iter) (R:=compPost (Pt X.prog X.w) X.A X.xe (u5 (Qm (.Name y py) X.env)) (λ_ s'=>SP X pins DE .next s') (.ref s2.heap.objs.size) (s2.heap.push {cls:=.type "list",data:=.seq ([]:List GT).toArray}).objs.size) hc S hq he c1 c2 I1 T st f1 w0 step I4 (T.keep _ _ _ st (λb hb ob e=>kp b ob (Heap.get?_push_of_some _ e))) λH' s4 m IX hn hfr q=>by
  show Px _ X.A (Qm (.Name y py) X.env (.ref s2.heap.objs.size)) _ _ s4;refine QC (nK IX hN Kg hy (v:=.ref s2.heap.objs.size) rfl (λs5 I7 ⟨a,hsb,ha⟩=>?_) hf);have Kh:(s2.heap.push {cls:=.type "list",data:=.seq ([]:List GT).toArray}).objs.size≠a:=by
   rcases ha with e|e
   .rw[e];exact F_
   .exact λz=>GO y a e z.symm
  exact#[m,hn.sameBut hsb Kh,λh' G1=>#[_,H',I7.turned (t':=s5.toks) (it:=(s2.heap.push {cls:=.type "list",data:=.seq ([]:List GT).toArray}).objs.size) (λb ob hb e=>(G1.2 b hb).trans e) hfr F_ (.inr I3.sz) GO Hi,q]]
 exact Q2 r_ (T.self _ _ _ _ _ (T.keep _ _ _ st (λb hb ob e=>kp b ob (Heap.get?_push_of_some _ e))) r_)
end
end L2
namespace My
def RepS.snoc{K:Dr}{B F H:Hp}{z:SD}{s:L2.St}{d:D}{v:V}(h:RepS K B F H z s)(r:Rep K F d v):RepS K B F H (z++[u5 d]) (s++[u5 v]):=by
 have no:=r.noown;have get:∀{j:Nat} {x:D},(z++[u5 d])[j]?=u5 (u5 x)->(j<z.length/\z[j]?=u5 (u5 x))\/(j=z.length/\x=d):=λ{j x} e=>by
  rcases ER j z.length with q|q
  .rw[Er q]at e;exact .inl #[q,e]
  .rw[EE q]at e;cases hz:j-z.length with
   |zero=>rw[hz]at e;simp at e;exact .inr #[HN,e.symm]
   |succ n=>rw[hz]at e;simp at e
 have lt:∀{j:Nat},j<z.length->(s++[u5 v])[j]?=s[j]?:=λ{j} q=>Er (by rw[h.len];exact q);refine#[by rw[DB,DB,h.len];rfl,λj x e nx=>?_,λj ds e=>?_,λj k dj dk a e1 e2 e3 e4=>?_]
 .rcases get e with⟨q,e⟩|⟨q,rfl⟩
  .rw[lt q];exact h.val j x e nx
  .exact#[v,by rw[q,EE (by rw[h.len];exact Dt _),h.len];simp,r]
 .rcases get e with⟨q,e⟩|⟨q,e⟩
  .rw[lt q];exact h.own j ds e
  .rw[<-e]at no;cases no
 .rcases get e1 with⟨q,e1⟩|⟨q,e1⟩
  .rcases get e2 with⟨q2,e2⟩|⟨q2,e2⟩
   .rw[lt q]at e3;rw[lt q2]at e4;exact h.apart j k dj dk a e1 e2 e3 e4
   .rw[<-e2]at no;cases no
  .rw[<-e1]at no;cases no
def okB:Bool->Bool->Prop->Prop->Prop
 |_,true,A,_=>A
 |false,false,_,B=>B
 |true,false,_,_=>False
def cmpG(nf:Bool)(tt:TDT)(te:TD)(z:SD)(R:D->Prop)(items:List D):Prop:=items.length<=100000/\∃W:Nat->List D->Prop,W 0 []/\(∀k x ys,items[k]?=u5 x->(nf=true->ys.length=k)->W k ys->tt (z++[u5 x]) λb=>okB nf b (te (z++[u5 x]) λy=>W (k+1) (ys++[y])) (W (k+1) ys))/\∀ys,(nf=true->ys.length=items.length)->W items.length ys->R (.lst ys)
def cmpP(te:TD)(z:SD)(R:D->Prop)(items:List D):Prop:=items.length<=100000/\∃W:Nat->List D->Prop,W 0 []/\(∀k x ys,items[k]?=u5 x->ys.length=k->W k ys->te (z++[u5 x]) λy=>W (k+1) (ys++[y]))/\∀ys,ys.length=items.length->W items.length ys->R (.lst ys)
def jq(ti:TDI)(te:TD):TD:=λz R=>ti z (cmpP te z R)
def dT1:TDT:=λ_ R=>R true
abbrev DIf(X:Cx)[Jx](j5:List Pu)(t:TDT):Prop:=PIf X j5 (lT X.K t)
variable{X:Cx}
def qp[Jx]:DIf X [] dT1:=pif_nil.anti λs H Q q=>by
 obtain⟨B,F,z,kf,rs,R,h1,h2⟩:=q;exact h2 true F H (Grow.refl kf.fh) h1
structure ItIs(K:Dr)(J:It)(F1 H1:Hp)(items:List D):Prop where
 go:∀k F' H',Grow F1 H1 F' H'->k<items.length->J.go k H'
 yld:∀k F' H' x H'',Grow F1 H1 F' H'->k<items.length->J.yld k H' x H''->H''=H'/\∃d,items[k]?=u5 d/\Rep K F' d x
 stop:∀F' H',Grow F1 H1 F' H'->J.stop items.length H'
def ItOk[Jx](K:Dr)(wi:TI)(ti:TDI):Prop:=∀{s:L2.St} {H B F:Hp} {z:SD} {P:List D->Prop} {Q:It->Hp->Prop},Kept B Jx.F0 F H->RepS K B F H z s->ti z P->(∀items J F1 H1,Grow F H F1 H1->P items->ItIs K J F1 H1 items->Q J H1)->wi s H Q
section
variable {X:Cx}
variable{K:Dr}{H:Hp}{s:L2.St}{R:My.D->Prop}{items:List My.D}
def xp[Jx]{B F F1 H1:Hp}{z:SD}{Q:VK}{nf:Bool}{tt:TDT}{te:TD}{J:It}(kf:Kept B Jx.F0 F H)(g1:Grow F H F1 H1)(rs:RepS K B F H z s)(h2:∀D ys us F' H',H D=A'->F' D=A'->Grow F H F' H'->H' D=u5 (.lst us)->Reps K F' ys us->R (.lst ys)->Q (.ref D) H')
    (it:ItIs K J F1 H1 items) (hd:cmpG nf tt te z R items):
    ∀D,H1 D=A'->∃W:Nat->Nat->Hp->Prop,(∃m,W 0 m (upd H1 D (.lst [])))/\∀i m H,W i m H->
      (J.stop i H/\Q (.ref D) H)\/(J.go i H/\∀x H',J.yld i H x H'->lT K tt (s++[u5 x]) H' λb H1=>if b=true then lE K te (s++[u5 x]) H1 λy H''=>∃vs,H'' D=u5 (.lst vs)/\vs.length<sizeLine/\∃m',m'<m/\W (i+1) m' (upd H'' D (.lst (vs++[y])))else ∃m',m'<m/\W (i+1) m' H1):=by
  intro D hD;obtain⟨hz,W,w0,d9,out⟩:=hd;have NU:F1 D=none:=g1.fh.free hD;have hH:H D=none:=g1.hh.free hD;refine⟨λk m H'=>m=items.length-k/\k<=items.length/\∃F' ys us,Grow F1 H1 F' H'/\H' D=u5 (.lst us)/\F' D=A'/\Reps K F' ys us/\(ys.length<=k/\(nf=true->ys.length=k))/\W k ys,
    #[items.length,HV,DO _,F1,[],[],#[Same.refl F1,g1.fh.trans (aM hD _),aM hD _,λb h _=>h],aA,NU,reps_nil.mpr rfl,#[Dt _,λ_=>rfl],w0],?_⟩
  rintro k m H'⟨rfl,hk,F',ys,us,G,hu,hF,ry,hl,w⟩;by_cases g9:k<items.length
  . refine .inr #[it.go k F' H' G g9,λx H'' hy=>?_];obtain⟨e,d,hd,rd⟩:=it.yld k F' H' x H'' G g9 hy;subst e;refine#[B,F',z++[u5 d],kf.grow (g1.trans G),(rs.grow (g1.trans G)).snoc rd,_,d9 k d ys hd hl.2 w,λb F3 H3 g3 hb=>?_];have Ki:H3 D=u5 (.lst us):=g3.hh D _ hu;have Jo:F3 D=none:=g3.out D hF (by rw[hu];exact λq=>nomatch q);cases b with
    |false=>
      cases nf with
      |true=>exact hb.elim
      |false=>exact#[items.length-(k+1),HN,rfl,HN,F3,ys,us,G.trans g3,Ki,Jo,ry.mono g3.ff,#[HN,λz=>nomatch z],hb]
    |true=>
    refine#[B,F3,z++[u5 d],(kf.grow (g1.trans G)).grow g3,((rs.grow (g1.trans G)).snoc rd).grow g3,_,(show te _ _ from by cases nf<;>exact hb),λy yv F2 H2 g2 hw rv=>?_];have NV:H2 D=u5 (.lst us):=g2.hh D _ Ki;have Hj:F2 D=none:=g2.out D Jo (by rw[Ki];exact λq=>nomatch q);have O3:us.length<=k:=by rw[ry.length];exact hl.1
    refine⟨us,NV,by     have:(100000:Nat)<sizeLine:=by decide
                        lia,items.length-(k+1),HN,rfl,HN,F2,ys++[y],us++[yv],?_,aA,Hj,((ry.mono g3.ff).mono g2.ff).append (fG rv),#[by simp;lia,λz=>by simp[hl.2 z]],hw⟩
    have GG:=(G.trans g3).trans g2;refine#[GG.ff,λb o e=>?_,λb o e=>?_,GG.out]
    . have ne:b≠D:=λq=>by rw[q,Hj]at e;cases e
      rw[ao ne];exact GG.fh b o e
    . have ne:b≠D:=λq=>by rw[q,hD]at e;cases e
      rw[ao ne];exact GG.hh b o e
  . have ek:k=items.length:=by lia
    subst ek;exact .inl #[it.stop F' H' G,h2 D ys us F' H' hH hF (g1.trans G) hu ry (out ys hl.2 w)]
def xq{F F' H':Hp}{D:KF}{us:List V}(GG:Grow F H F' H')(hu:H' D=u5 (.lst us))(hF:F' D=A')(hH:H D=A'):Grow F H (upd F' D (.lst us)) H':=by
 refine#[GG.ff.trans (aM hF _),λb o e=>?_,GG.hh,λb h1 h3=>?_]
 .by_cases hb:b=D
  .subst hb;rw[aA]at e;cases e;exact hu
  .rw[ao hb]at e;exact GG.fh b o e
 .have ne:b≠D:=λq=>h3 (q ▸ hH);rw[ao ne];exact GG.out b h1 h3
variable {i_ iter:Pu}{j5:List Pu}{x:G8}{px pos:PK}{scope:P4}{ti te:TD}{tt:TDT}{wi:TI}{Jp:TDI}
def qq[Jx]{nf:Bool}{G:SD->(D->Prop)->List D->Prop}(hG:∀z R items,G z R items->cmpG nf tt te z R items)(hI:ItOk K wi Jp){Q:VK}(q:lE K (λz R=>Jp z (G z R)) s H Q):gz wi (lT K tt) (lE K te) s H Q:=by
 obtain⟨B,F,z,kf,rs,R,h1,h2⟩:=q;exact hI kf rs h1 λitems J F1 H1 g1 hg it=>xp kf g1 rs (λD ys us F' H' hH hF GG hu ry hR=>h2 (.lst ys) (.ref D) _ H' (xq GG hu hF hH) hR (rep_lst.mpr #[D,us,rfl,aA,ry.mono (aM hF _)])) it (hG _ _ _ hg)
def cmpP.g{z:SD}(h:cmpP te z R items):cmpG true dT1 te z R items:=
 let ⟨hz,W,w0,d9,out⟩:=h
 #[hz,W,w0,λk x ys e l w=>d9 k x ys e (l rfl) w,λys l w=>out ys (l rfl) w]
def itL[Jx]:ItOk K (nY K (lE K ti)) (dItL ti):=λ{s H B F z P Q} kf rs h1 h2=>by
 refine#[B,F,z,kf,rs,_,h1,λd v F1 H1 g1 hd rd=>?_];have key:∀(items:List D) (p:KF) (vs:List V),SqL K F1 p vs->Reps K F1 items vs->P items->∃a,V.ref p=.ref a/\(∃xs,SqL K H1 a xs)/\Q (Itl K a) H1:=λitems p vs hq rr hd=>by
  refine#[p,rfl,#[vs,g1.fh.seq hq],h2 items _ F1 H1 g1 hd #[λk F' H' G hk=>?_,λk F' H' x H'' G hk hy=>?_,λF' H' G=>?_]]
  .have s_:k<vs.length:=by rw[rr.length];exact hk
   exact#[vs,vs[k],G.hh.seq (g1.fh.seq hq),by simp[s_]]
  .obtain⟨e,hy⟩:=hy;obtain⟨d,e2,r2⟩:=rr.get' (hy vs (G.hh.seq (g1.fh.seq hq)));exact#[e,d,e2,r2.mono G.ff]
  .exact#[vs,G.hh.seq (g1.fh.seq hq),by rw[rr.length];exact Dt _]
 split at hd
 .obtain⟨p,vs,rfl,hq,rr⟩:=rep_lst.mp rd;exact key _ p vs (SqL.of hq) rr hd
 .obtain⟨p,vs,rfl,hq,rr⟩:=rep_rol.mp rd;exact key _ p vs hq rr hd
 .exact hd.elim
def xr[Jx](hc:X.calm=true)(S:CompScope X scope x)(hi:WDE X iter ti)(he:∀cl s₀ H₀ fp,WDE (ck X scope cl x s₀ H₀ fp) i_ te)(hs:autoParam (∀y,zFS X iter y) zA3):WDE X (.ListComp i_ [#[.Name x px,iter,[],0]] scope pos) (jq (dItL ti) te):=#[have hi:=hi.out;have he:=λcl s₀ H₀ fp=>(he cl s₀ H₀ fp).out;(xn hc S (iR hi) (λ_ _ _ _=>qp) he hs).anti λs H Q q=>qq (λ_ _ _=>cmpP.g) itL q]
def xt[Jx]{E:Ends}{ix:Nat}(hI:ItOk K wi Jp)(q:lS K (dSet ix (jq Jp te)) E s H):tAsg (gz wi (lT K dT1) (lE K te)) (fX ix) E s H:=by
 obtain⟨B,F0,F,z,k,rs,ED,⟨P,h,j⟩,e⟩:=q;exact qq (λ_ _ _=>cmpP.g) hI #[B,F,z,k.kf,rs,P,h,λd v F' H' g hd rd=>e.nx _ _ F' H' (k.grow g) (j d hd) ((rs.grow g).set rd)]
def xu[Jx](ix:Nat){y:G8}{py v6:PK}(hc:X.calm=true)(S:CompScope X scope x)(hN:X.N.Nodup)(hi:WDE X iter ti)(he:∀cl s₀ H₀ fp,WDE (ck X scope cl x s₀ H₀ fp) i_ te)(Kg:autoParam (X.N[ix]?=u5 y) zA0)(hy:autoParam (Loc X.env.scope y) zA4)
  (hf:autoParam (zFN X y) zA2) (Hc:autoParam (PV (.ListComp i_ [#[.Name x px,iter,[],0]] scope pos) (u5 (.Name y py)) v6.line X.env=pure true) zA0) (hs:autoParam (∀y,zFS X iter y) zA3):WDS X (.Assign [.Name y py] (.ListComp i_ [#[.Name x px,iter,[],0]] scope pos) v6) (dSet ix (jq (dItL ti) te)):=#[have hi:=hi.out;have he:=λcl s₀ H₀ fp=>(he cl s₀ H₀ fp).out;(xo hc S (iR hi) (λ_ _ _ _=>qp) he hN Kg hy hf Hc hs).anti λE s H q=>xt itL q]
end
def eo(scope fsc:P4):List (G8×Qb):=scope.names.map λ(n,k)=>if(k==NameKind.free&&fsc.kind== .function&&fsc.names.lookup n==u5 .cell)then(n,NameKind.cell)else(n,k)
def visB(l:List (G8×Qb))(n:G8):Bool:=l.lookup n==u5 .local||l.lookup n==u5 .cell||l.lookup n==u5 .free
def gA(scope fsc:P4)(N:List G8)(x:G8):Bool:=
 scope.kind== .function&&scope.names.all (λy=>!(y.2== .cell))&&scope.names.all (λy=>!(y.2== .local)||scope.names.lookup y.1==u5 .local)&&scope.names.lookup x==u5 .local &&
 scope.names.all (λy=>!(y.2== .free)||fsc.names.lookup y.1==u5 .cell)&&N.all (λn=>decide (n=x)||!visB (eo scope fsc) n||scope.names.any (λy=>decide (y=(n,NameKind.free))))&&!visB (eo scope fsc) "" &&
 scope.names.all (λy=>!(y.2== .free)||(eo scope fsc).lookup y.1==u5 .cell)&&decide (N.map (λn=>if n=x then("":G8)else n)++[x]).Nodup
def qr{l:List (G8×Qb)}{n:G8}(h:l.lookup n=u5 .local\/l.lookup n=u5 .cell\/l.lookup n=u5 .free):visB l n=true:=by
 unfold visB;rcases h with h|h|h<;>rw[h]<;>rfl
def compScope{scope:P4}{x:G8}(h:gA scope X.env.scope X.N x=true):CompScope X scope x:=by
 unfold gA at h;simp only[D6]at h;obtain⟨⟨⟨⟨⟨⟨⟨⟨h1,h2⟩,h3⟩,h4⟩,h5⟩,h6⟩,h7⟩,h8⟩,h9⟩:=h;have er:(Rj scope X.env).names=eo scope X.env.scope:=rfl;refine#[by simpa using h1,λy hy=>?_,λy hy e=>?_,by simpa using h4,λn hn=>?_,λn hn ne v=>?_,λv=>?_,λn hn=>?_,of_decide_eq_true h9]
 .have:=Ez.mp h2 y hy;simpa using this
 .have:=Ez.mp h3 y hy;rw[e]at this;simpa using this
 .have:=Ez.mp h5 _ hn;show X.env.scope.names.lookup n=u5 .cell;simpa using this
 .have:=Ez.mp h6 n hn;have v':visB (eo scope X.env.scope) n=true:=qr v;rw[v']at this;simp[ne]at this;exact this
 .have v':visB (eo scope X.env.scope) ""=true:=qr v;rw[v']at h7;cases h7
 .have:=Ez.mp h8 _ hn;rw[er];simpa using this
def putD(f:G8)(v:D):List (G8×D)->List (G8×D)
 |[]=>[(f,v)]
 |(g,x)::r=>if g=f then(g,v)::r else(g,x)::putD f v r
def RepF.put{K:Dr}{F:Hp}{f:G8}{d:D}{v:V}(r:Rep K F d v):∀{fs:List (G8×D)} {ws:List (G8×V)},RepF K F fs ws->RepF K F (putD f d fs) (putF f v ws)
 |[],ws,h=>by
  rw[repf_nil.mp h];exact repf_cons.mpr #[v,[],rfl,r,repf_nil.mpr rfl]
 |(g,x)::fs,ws,h=>by
  obtain⟨w,Hk,rfl,h1,h2⟩:=repf_cons.mp h;unfold putD putF;by_cases e:g=f
  .rw[if_pos e,if_pos e];exact repf_cons.mpr #[v,Hk,rfl,r,h2]
  .rw[if_neg e,if_neg e];exact repf_cons.mpr #[w,_,rfl,h1,RepF.put r h2]
def RepF.length{K:Dr}{F:Hp}:∀{fs:List (G8×D)} {ws:List (G8×V)},RepF K F fs ws->ws.length=fs.length
 |[],ws,h=>by rw[repf_nil.mp h];rfl
 |(g,x)::fs,ws,h=>by
  obtain⟨w,Hk,rfl,h1,h2⟩:=repf_cons.mp h;rw[Du,Du,RepF.length h2]
def ClsA(K:Dr)(x f:G8):Prop:=∃C,nsIn K Os x=u5 (u5 (.ref C))/\Cls K C/\NoAttr K C f
section
variable {X:Cx}{a b c e:Pu}{ta tb tc te:TD}{pos:PK}
variable{x:G8}
def qt[Jx]{d:D}{v:V}{u:GT}(hm:X.mg x=u5 u)(r:RelV v u)(rd:∀H,Rep X.K H d v)(hg:autoParam (Gl X x) zA0)(hd:autoParam (zND x) zA1):DE X (.Name x pos) (dC d):=de_c (tz hg hm r hd) rd
def gB[Jx]{i:Int}(h:∃t,X.mg x=u5 (.int i t))(hg:autoParam (Gl X x) zA0)(hd:autoParam (zND x) zA1):WDE X (.Name x pos) (dC (.int i)):=⟨by
 obtain⟨t,h⟩:=h;exact qt (v:=.int i) h #[t,rfl] (λ_=>rep_int.mpr rfl) hg hd⟩
def jr[Jx]{y:G8}(h:∃t,X.mg x=u5 (.str y t))(hg:autoParam (Gl X x) zA0)(hd:autoParam (zND x) zA1):WDE X (.Name x pos) (dC (.str y)):=⟨by
 obtain⟨t,h⟩:=h;exact qt (v:=.str y) h #[t,rfl] (λ_=>rep_str.mpr rfl) hg hd⟩
end
abbrev SiD:=List D->(List (G8×D)->Prop)->Prop
def lSi(K:Dr)(C:KF)(S:SiD):Sp:=λvs H Q _=>∃a dx us H1 F ds,vs=.ref a::us/\H=upd (upd H1 dx (.own a)) a (.ins C dx [])/\H1 a=A'/\H1 dx=A'/\dx≠a/\Same F H1/\Reps K F ds us/\
 ∃R:List (G8×D)->Prop,S ds R/\∀fs ws GP F' H',Grow F H1 F' H'->R fs->H' a=u5 (.ins C GP ws)->F' a=A'->RepF K F' fs ws->Q .non H'
def CalM(P:Pw)(w:Pz)(K:Dr)(mg:G8->Option GT)(base:Heap)(n:Nat)(x:G8)(ps:List G8)(S:SiD):Prop:=
 ∃C f fd,nsIn K Os x=u5 (u5 (.ref C))/\mg x=u5 (.ref C)/\Mk K C f/\FnOk P w K mg base (Exc.CX1 P w) n f fd ps (lSi K C S)/\Binds K fd ps []
def xw(x:G8)(S:SiD)(t:TDA):TD:=λz R=>t z λds=>S ds λfs=>R (.obj x fs)
def js[Jx]{pos:PK}{n m:Nat}{ps:List G8}{S:SiD}{x:G8}{p:PK}{e:Pu}{es:List Pu}{t:TDA}(M:CalM X.prog X.w X.K X.mg X.base n x ps S)(hr:Room m X.A)(ha:WDA X (e::es) t)(hg:autoParam (Gl X x) zA0)(hn:autoParam (n+1<=m) zA1)(e_:autoParam (zND x) zA1)
  (he:autoParam (zSE X e es) zA0) (d0:autoParam (zPL X pos es) zA0):WDE X (.Call (.Name x p) (e::es) [] pos) (xw x S t):=⟨by
 have ha:=ha.out;obtain⟨C,f,fd,hns,n9,mk,F,hb⟩:=M;refine(iZ mk F (hr.mono hn) hg n9 hb .nil dX ha e_ he d0).anti λs H Q q=>?_;obtain⟨B,F,z,kf,rs,R,h1,h2⟩:=q;have fh:=kf.fh;refine#[B,F,z,kf,rs,_,h1,λds vs F1 H1 g1 hx rx=>?_];intro a dx ha v7 l9;refine#[a,dx,vs,H1,F1,ds,by rw[Ea],rfl,ha,v7,l9,g1.fh,rx,_,hx,λfs ws GP F' H' g hR gt j6 rf=>#[rfl,?_]];have s1:Same F' (upd F' a (.ins C GP ws)):=aM j6 _;refine h2 (.obj x fs) (.ref a) (upd F' a (.ins C GP ws)) H' #[(g1.ff.trans g.ff).trans s1,λb o q=>?_,g1.hh.trans g.hh,λb q1 q2=>?_] hR (rep_obj.mpr #[a,C,GP,ws,rfl,hns,aA,RepF.mono s1 fs ws rf])
 .by_cases hb:b=a
  .subst hb;rw[aA]at q;cases q;exact gt
  .rw[ao hb]at q;exact g.fh b o q
 .by_cases hb:b=a
  .subst hb;exact absurd (g1.hh.free ha) q2
  .rw[ao hb];exact(g1.trans g).out b q1 q2⟩
abbrev TID:=SD->List (G8×D)->(List (G8×D)->Prop)->Prop
def lI(K:Dr)[J:Jx](x:G8)(t:TID):TS:=λE σ H=>∃C a dx ws F z fs,nsIn K Os x=u5 (u5 (.ref C))/\σ[0]?=u5 (u5 (.ref a))/\H a=u5 (.ins C dx ws)/\J.B a=A'/\F a=A'/\Kept J.B J.F0 F H/\RepS K J.B F H z σ/\RepF K F fs ws/\
 ∃R:List (G8×D)->Prop,t z fs R/\∀m6 Hk F' H',Kept J.B J.F0 F' H'->R m6->H' a=u5 (.ins C dx Hk)->F' a=A'->RepF K F' m6 Hk->E.nx σ H'
abbrev DI(X:Cx)[Jx](x:G8)(st:List Py)(t:TID):Prop:=PSs X st (lI X.K x t)
structure WDI(X:Cx)[Jx](x:Str)(st:List Py)(t:TID):Prop where
 out:DI X x st t
section
variable {X:Cx}{x f:G8}{e:Pu}{te:TD}{pos c_ p:PK}{rest:List Py}{tr:TID}
def qu:TID:=λ_ fs R=>R fs
def xx(f:G8)(te:TD)(tr:TID):TID:=λz fs R=>te z λd=>fs.length<1000/\tr z (putD f d fs) R
def dA[Jx]:WDI X x [] qu:=⟨pss_nil.anti λE s H q=>by
 obtain⟨C,a,dx,ws,F,z,fs,hn,h0,gt,GQ,j6,g,rs,rf,R,hR,k⟩:=q;exact k fs ws F H g hR gt j6 rf⟩
def RepS.other{K:Dr}{B F H:Hp}{z:SD}{σ:L2.St}{a:KF}{o o':HO}(rs:RepS K B F H z σ)(h:H a=u5 o)(hl:∀vs,o≠.lst vs):RepS K B F (upd H a o') z σ:=
 ⟨rs.len,rs.val,λi ds e=>by
  obtain⟨b,vs,q1,q2,q⟩:=rs.own i ds e;have ne:b≠a:=by
   rintro rfl;rw[h]at q2;cases q2;exact hl vs rfl
  exact#[b,vs,q1,by rw[ao ne];exact q2,q],rs.apart⟩
def bP[J:Jx]{ps:PK}{sx:G8}(hA:ClsA X.K x f)(he:WDE X e te)(hr:WDI X x rest tr)(hN:autoParam (X.N[0]?=u5 sx) zA0)(hv:autoParam (Vis X.env.scope sx) zA5)(hd:autoParam (zND sx) zA1)
  (i8:autoParam (zNC sx) zA1) (hs:autoParam (PV e (u5 (.Attribute (.Name sx ps) f c_)) pos.line X.env=pure false) zA0):WDI X x (.Assign [.Attribute (.Name sx ps) f c_] e pos::rest) (xx f te tr):=⟨have he:=he.out;have hr:=hr.out;(fb (oE (dg (i:=0) hN hv hd i8) he hs) hr).anti λE s H q=>by
 obtain⟨C,a,dx,ws,F,z,fs,hn,h0,gt,GQ,j6,g,rs,rf,R,hR,k⟩:=q;obtain⟨C',j9,hc,hf⟩:=hA;rw[hn]at j9;cases j9;refine#[_,F,z,g,rs,_,hR,λd v F2 H2 g2 hx rv=>?_];have k2:=g.grow g2;have Mo:=g2.hh a _ gt;have Hj:F2 a=none:=g2.out a j6 (by rw[gt];exact λz=>nomatch z);refine#[.ref a,h0,a,C,dx,ws,rfl,Mo,hc,hf,by rw[rf.length];exact hx.1,?_];have NW:Same F2 (upd H2 a (.ins C dx (putF f v ws))):=λb o q=>by
  have ne:b≠a:=by rintro rfl;rw[Hj]at q;cases q
  rw[ao ne];exact g2.fh b o q
 have GR:Same J.B (upd H2 a (.ins C dx (putF f v ws))):=λb o q=>by
  have ne:b≠a:=by rintro rfl;rw[GQ]at q;cases q
  rw[ao ne];exact k2.bh b o q
 exact#[C,a,dx,putF f v ws,F2,z,putD f d fs,hn,h0,aA,GQ,Hj,#[GR,NW,k2.f0,k2.out,k2.eb,k2.jf,k2.jo],(rs.grow g2).other Mo (λ_ z=>nomatch z),RepF.put rv (RepF.mono g2.ff fs ws rf),R,hx.2,k]⟩
end
section
variable {P:Pw}{w:Pz}{K:Dr}{mg:G8->Option GT}{base:Heap}
def qv{K:Dr}{B F H:Hp}{z:SD}{σ:L2.St}{v:V}(rs:RepS K B F H z σ):RepS K B F H (A'::z) (u5 v::σ):=
  ⟨by rw[Du,Du,rs.len],λi d e no=>by
    cases i with
    |zero=>cases e
    |succ i=>exact rs.val i d e no,λi ds e=>by
    cases i with
    |zero=>cases e
    |succ i=>exact rs.own i ds e,λi j di dj a e1 e2 e3 e4=>by
    cases i with
    |zero=>cases e1
    |succ i=>
      cases j with
      |zero=>cases e2
      |succ j=>rw[rs.apart i j di dj a e1 e2 e3 e4]⟩
def Cls.okI{x qual:G8}{st:Py}{f C:KF}{fd:PH}{N:List G8}{p0:G8}{ps:List G8}{k:Nat}{S:SiD}(T:Fun K "__init__" qual st f fd)(hb:Binds K fd (p0::ps) [])(F:FnScope (p0::N) (p0::ps) (ag st))(len:∀ds R,S ds R->ds.length=ps.length)
  (hns:nsIn K Os x=u5 (u5 (.ref C))) (n9:mg x=u5 (.ref C)) (mk:Mk K C f)
  (a_:∀(cdv:GT) (A:PB) (outer:List Ql) (s:KB) (H:Hp) (E:XK) (J:Jx),Room k (A.deeper (PZ qual (ag st) s.heap.objs.size f cdv))->
   ∃t,DI (cxOf (Exc.CX1 P w) P w K mg base (p0::N) qual (ag st) f cdv A outer s H E).nox x (aP st) t/\∀ds R,S ds R->t (A'::startD N ds) [] R):CalM P w K mg base (k+1) x (p0::ps) S:=by
 refine#[C,f,fd,hns,n9,mk,Fun.okC T F (λvs H Q E h=>?_) (λcdv A outer s H vs Q E hr h=>?_),hb]
 .obtain⟨a,dx,us,H1,F,ds,rfl,_,_,_,_,_,rs,R,h,_⟩:=h;rw[Du,Du,rs.length,len ds R h]
 .obtain⟨a,dx,us,H1,F1,ds,rfl,rfl,ha,v7,l9,fh,rs,R,h,q⟩:=h
  letI:Jx:=#[H1,F1,λ_ _ _=>False]
  obtain⟨t,ht,hq⟩:=a_ cdv A outer s _ E inferInstance hr;have Fa:F1 a=none:=fh.free ha;have hl:L2.start (p0::N) (.ref a::us)=u5 (.ref a)::L2.start N us:=by
   unfold L2.start;rw[DZ,Du,Du,Ga];rfl
  have s1:Same H1 (upd (upd H1 dx (.own a)) a (.ins C dx [])):=(aM v7 _).trans (aM (by rw[ao (Ne.symm l9)];exact ha) _);refine#[_,ht.nox,C,a,dx,[],F1,A'::startD N ds,[],hns,by rw[hl];rfl,aA,ha,Fa,#[s1,fh.trans s1,Same.refl F1,λ_ h _=>h,rfl,Same.refl F1,λ_ h _=>h],?_,repf_nil.mpr rfl,R,hq ds R h,λm6 Hk F' H' g hR gt j6 rf=>q m6 Hk dx F' H' #[g.f0,g.fh,g.bh,g.out] hR gt j6 rf];rw[hl];exact qv (fz rs)
end
section
variable {X:Cx}{a b c e:Pu}{ta tb tc te:TD}{pos:PK}
def RepS.change[Jx]{K:Dr}{B F0 F H:Hp}{z:SD}{s:L2.St}{i:Nat}{ds Kj:List D}{a:KF}{q8:List V}(rs:RepS K B F H z s)(k:Kept B F0 F H)(ez:z[i]?=u5 (u5 (.own ds)))(q1:s[i]?=u5 (u5 (.ref a)))(hB:B a=A')(hF:F a=A')(r:Reps K F Kj q8):
  Kept B F0 F (upd H a (.lst q8))/\RepS K B F (upd H a (.lst q8)) (z.set i (u5 (.own Kj))) s:=by
 have same:∀{G:Hp},G a=A'->Same G H->Same G (upd H a (.lst q8)):=λ{G} ga gs b o eb=>by
  have ne:b≠a:=λz=>by rw[z,ga]at eb;cases eb
  rw[ao ne];exact gs b o eb
 have r2:=rs.setOwn (i:=i) (a:=a) (vs:=q8) (ds:=Kj) hB hF r (λj dj hj e1 e2=>hj (rs.apart j i dj ds a e1 ez e2 q1));have es:s.set i (u5 (.ref a))=s:=by
  apply Fz;intro n;by_cases hn:i=n
  .subst hn;rw[Eb (DN.mp q1).1,q1]
  .rw[DL hn]
 rw[es]at r2;exact#[#[same hB k.bh,same hF k.fh,k.f0,k.out,k.eb,k.jf,k.jo],r2]
def Reps.put{K:Dr}{F:Hp}{d:D}{v:V}(r:Rep K F d v):∀{ds:List D} {vs:List V} (j:Nat),Reps K F ds vs->Reps K F (ds.set j d) (vs.set j v)
 |[],vs,j,h=>by rw[reps_nil.mp h];exact reps_nil.mpr rfl
 |x::ds,vs,0,h=>by
  obtain⟨u,us,rfl,h1,h2⟩:=reps_cons.mp h;exact reps_cons.mpr #[v,us,rfl,r,h2]
 |x::ds,vs,j+1,h=>by
  obtain⟨u,us,rfl,h1,h2⟩:=reps_cons.mp h;exact reps_cons.mpr #[u,_,rfl,h1,Reps.put r j h2]
end
end My
namespace My
open Exc
abbrev XD:=G8->List (G8×D)->Prop
def ErrD(K:Dr)(F:Hp)(x:G8)(fs:List (G8×D))(C:KF)(od:Option KF):Prop:=
 nsIn K Os x=u5 (u5 (.ref C))/\∃vs,RepF K F fs vs/\((od=A'/\vs=[])\/∃b,od=u5 b/\F b=u5 (.xd vs))
abbrev SpX:=List D->(D->Prop)->XD->Prop
def lSpX(K:Dr)(S:SpX):Sp:=λvs H Q E=>∃F ds,Same F H/\Reps K F ds vs/\∃(R:D->Prop) (RX:XD),S ds R RX/\(∀d v F' H',Grow F H F' H'->R d->Rep K F' d v->Q v H')/\
 ∀x fs C od F' H',Grow F H F' H'->RX x fs->ErrD K F' x fs C od->E (.ref C) od H'
def Exd(X:Cx)(H:Hp)(s:KB)(e C:KF)(od:Option KF):Prop:=
  H e=A'/\X.s₀.heap.get? e=A'/\(∀p∈X.pn,p.1≠e)/\
  ((∃sl vs,s.heap.get? e=u5 #[.ref C,od,.fields vs,sl]/\vs[1]?=u5 .none)\/
    ∃T fl,ExAt s.heap e C od T fl/\X.s₀.heap.get? T=A'/\H T=A'/\∀p∈X.pn,p.1≠T)
def XOk(X:Cx)[J:Jx]:Prop:=∀(σ:L2.St) (z:SD) (F H:Hp) (s:KB) (e C:KF) (od:Option KF) (x:G8) (fs:List (G8×D)),Inv X [] σ H s->Kept J.B J.F0 F H->RepS X.K J.B F H z σ->J.RX z x fs->ErrD X.K F x fs C od->Exd X H s e C od->X.xe (.ref e) s
variable{X:Cx}{pins:List (KF×PX)}{σ:L2.St}{H:Hp}{s:KB}
def Inv.nopins(I:Inv X pins σ H s):Inv X [] σ H s:=I.pins_of λp hp=>by cases hp
section
variable {X:Cx}{k:Nat}{f:KF}{fd:PH}{ps:List G8}{sp:Sp}{E:XK}
def gC{pins:List (KF×PX)}{σ:L2.St}{H:Hp}{s:KB}{Q:VK}{us:List GT}{vs:List V}(F:FnOk X.prog X.w X.K X.mg X.base (CX1 X.prog X.w) k f fd ps sp)(hr:Room k X.A)(hb:Binds X.K fd ps [])
  (hx:∀e s',CX1 X.prog X.w X.stack H s E e s'->X.xe e s') (I:Inv X pins σ H s) (r:Vals vs us) (h:sp vs H Q E):Px (Pt X.prog X.w) X.A (call (.ref f) us) (EP X pins σ Q) X.xe s:=by
 have hl:us.length=ps.length:=by rw[<-L2.Vals.length r];exact F.len _ _ _ _ h
 have l8:=hb s us I.kIn (by rw[Ea];exact hl);rw[Ea]at l8;refine Qf (Qe (F.run X.A X.stack s H #[us,[]] us vs Q E hr I.env0 l8 r h) λr s' hq=>?_);cases r with
 |error e=>exact hx e s' hq
 |ok fl=>
  cases fl with
  |ret u=>exact I.after hq
  |next=>exact False.elim hq
  |brk=>exact False.elim hq
  |cont=>exact False.elim hq
end
variable{b:KF}
def cI(I:Inv X pins σ H s)(hex:X.ex=[])(q:s.heap.get? b=A'):X.s₀.heap.get? b=none:=by
 cases z:X.s₀.heap.get? b with
 |none=>rfl
 |some o=>
  obtain⟨o',z'⟩:=I.base.there b o z (by rw[hex];simp);rw[q]at z';cases z'
def pn_free(I:Inv X pins σ H s)(q:s.heap.get? b=A'):∀p∈X.pn,p.1≠b:=λp hp z=>by
 have:=(I.pin p (EC _ hp)).1;rw[z,q]at this;cases this
def XOk.out[J:Jx](hx:XOk X)(hex:X.ex=[]){z:SD}{s':KB}{ev:GT}(I:Inv X pins σ H s)
  (h:CX1 X.prog X.w X.stack H s (λCv od H'=>∃x fs C F',Cv=.ref C/\Kept J.B J.F0 F' H'/\RepS X.K J.B F' H' z σ/\J.RX z x fs/\ErrD X.K F' x fs C od) ev s'):X.xe ev s':=by
 obtain⟨e,C,od,T,H',rfl,B_,hb,un,hok,Kk,ne,nT,He,HT,x,fs,C',F',hC,kk,rr,hR,er⟩:=h;cases hC;have I':Inv X pins σ H' s':=I.call' B_ un hok hb (λb z=>absurd z HV);exact hx σ z F' H' s' e C od x fs (Inv.nopins I') kk rr hR er #[He,cI I hex ne,pn_free I ne,.inr #[T,.none,Kk,cI I hex nT,HT,pn_free I nT]]
abbrev CalX(P:Pw)(w:Pz)(K:Dr)(mg:G8->Option GT)(base:Heap)(n:Nat)(x:G8)(ps:List G8)(S:SpX):Prop:=Cal P w K mg base n x ps (lSpX K S)
def xy[J:Jx](S:SpX)(t:TDA):TD:=λz R=>t z λds=>S ds R (J.RX z)
variable{pos:PK}{ps:List G8}{x:G8}
def xz[J:Jx]{n m:Nat}{S:SpX}{p:PK}{e:Pu}{es:List Pu}{t:TDA}(C:CalX X.prog X.w X.K X.mg X.base n x ps S)(hx:XOk X)(hr:Room m X.A)(ha:WDA X (e::es) t)(hex:autoParam (X.ex=[]) zA0)(hg:autoParam (Gl X x) zA0)(hn:autoParam (n<=m) zA1)(e_:autoParam (zND x) zA1)
  (he:autoParam (zSE X e es) zA0) (d0:autoParam (zPL X pos es) zA0):WDE X (.Call (.Name x p) (e::es) [] pos) (xy S t):=⟨by
 have ha:=ha.out;obtain⟨f,fd,F,hb,hk,hm⟩:=C;intro pins s σ H Q I h;obtain⟨B,Fr,z,kf,rs,R,h1,h2⟩:=h;obtain rfl:B=J.B:=kf.eb;refine PL (cu I hg hm ?_ e_);refine callWith_K (h₀:=X.base) I.ok.mod.kin hk (thn (ha pos pins s σ H (λvs H1=>lSpX X.K S vs H1 Q (λCv od H'=>∃x fs C F',Cv=.ref C/\Kept J.B J.F0 F' H'/\RepS X.K J.B F' H' z σ/\J.RX z x fs/\ErrD X.K F' x fs C od)) I #[_,Fr,z,kf,rs,_,h1,λds vs F1 H1 g1 hx rx=>?_]) λus s1 ⟨vs,H1,I1,r,q⟩=>#[I1.kIn,?_]) he d0
 .exact#[F1,ds,g1.fh,rx,R,J.RX z,hx,λd v F' H' g=>h2 d v F' H' (g1.trans g),λx fs C od F' H' g hR er=>#[x,fs,C,F',rfl,(kf.grow g1).grow g,(rs.grow g1).grow g,hR,er]]
 .exact gC F (hr.mono hn) hb (λe s' hq=>hx.out hex I1 hq) I1 r q⟩
section
variable {P:Pw}{w:Pz}{K:Dr}{mg:G8->Option GT}{base:Heap}
def xA{N:List G8}{qual:G8}{scope:P4}{f:KF}{cd:GT}{A:PB}{outer:List Ql}{s:KB}{H:Hp}{E':XK}{pins:List (KF×PX)}{σ:L2.St}{H':Hp}{s':KB}{e C T:KF}{od:Option KF}{fl:GT}
  (I':Inv (cxOf (CX1 P w) P w K mg base N qual scope f cd A outer s H E') pins σ H' s') (hx:ExAt s'.heap e C od T fl) (ne:s.heap.get? e=A') (nT:s.heap.get? T=A') (He:H' e=A') (HT:H' T=A') (hE:E' (.ref C) od H'):
  (cxOf (CX1 P w) P w K mg base N qual scope f cd A outer s H E').xe (.ref e) s':=by
 show Px _ _ (QZ _ _) _ _ _;unfold QZ;refine KM (pj I'.ok.frames I'.stack rfl hx λh2 T2 u6 y_ p9=>fv (s:={s' with heap:=h2}) u6 λh3 H8 y9=>?_);have f1:∀b,s'.heap.get? b=A'->s.heap.get? b=none:=λb q=>cI I' rfl q;have hok:HOk P w H' s'.heap:=I'.hok;have q2:s.heap.get? T2=A'/\H' T2=none:=y_.elim (λz=>by rw[z];exact#[nT,HT]) λz=>#[f1 _ (Heap.get?_none_of_le z),hok.fresh z];have NX:∀b∈[T,e],s.heap.get? b=none:=λb hb=>by
  rcases Dw.mp hb with z|z
  .rw[z];exact nT
  .rw[Ds.mp z];exact ne
 have u2:Un (frs outer) [] H H' s.heap h2:=gk (show Un (frs outer) [] H H' s.heap s'.heap from I'.base) p9 NX λb hb=>pk hb;have u3:Un (frs outer) [] H H' s.heap h3:=gk u2 y9 (λb hb=>by rw[Ds.mp hb];exact q2.1) λb hb=>by cases hb
 have k2:=fw hok p9 (λb hb=>I'.stkFree b hb) (λb hb=>by
  rcases Dw.mp hb with z|z
  .rw[z];exact HT
  .rw[Ds.mp z];exact He)
 have k3:=fw k2 y9 (λb hb=>by cases hb) (λb hb=>by rw[Ds.mp hb];exact q2.2);exact#[e,C,od,T2,H',rfl,I'.os,I'.bare,u3,k3,H8,ne,q2.1,He,q2.2,hE]
end
variable{P:Pw}{w:Pz}{h:Heap}
def ObjOk.there{a:KF}{o:HO}(x:ObjOk P w H h a o):∃u,h.get? a=u5 u:=by
 cases o with
 |lst xs=>obtain⟨_,_,_,_,e⟩:=x;exact#[_,e]
 |tup xs=>obtain⟨_,_,_,o,e,_⟩:=x;exact#[_,e]
 |dK a9=>obtain⟨_,_,_,_,o,_,_,e,_⟩:=x;exact#[_,e]
 |dT a9=>obtain⟨_,_,_,_,o,_,_,e,_⟩:=x;exact#[_,e]
 |set S n=>obtain⟨o,_,_,_,e,_⟩:=x;exact#[_,e]
 |ins C dx fs=>obtain⟨_,_,_,e,_⟩:=x;exact#[_,e]
 |own y=>exact x
 |xd fs=>obtain⟨_,⟨_,_,_,e,_⟩,_⟩:=x;exact#[_,e]
 |rng lo hi=>obtain⟨_,_,_,e⟩:=x;exact#[_,e]
 |frz ob u=>obtain⟨e,_⟩:=x;exact#[_,e]
 |tbl ps=>exact#[_,(show h.get? a=u5 _ from x)]
 |met f y=>exact#[_,(show h.get? a=u5 _ from x)]
 |ext φ=>obtain⟨_,e,_⟩:=x;exact e
def gD{a:KF}(x:HOk P w H h)(e:h.get? a=A'):H a=none:=by
 cases q:H a with
 |none=>rfl
 |some o=>
  obtain⟨u,hu⟩:=ObjOk.there (x a o q);rw[e]at hu;cases hu
def del(H:Hp)(a:KF):Hp:=λb=>if b=a then A' else H b
def fL{a:KF}:del H a a=none:=by unfold del;rw[if_pos rfl]
def cm{a:KF}(h:b≠a):del H a b=H b:=by unfold del;rw[if_neg h]
section
variable {X:Cx}{pins:List (KF×PX)}{σ:L2.St}{H:Hp}{s:KB}{e:KF}
variable{φ:Heap->Prop}
def Inv.drop(I:Inv X pins σ H s)(h:H e=u5 (.ext φ))(ne:X.s₀.heap.get? e=A'):Inv X pins σ (del H e) s:=by
 have nx:∀b o,H b=u5 o->(∀φ,o≠.ext φ)->b≠e:=λb o q n z=>by rw[z,h]at q;cases q;exact n φ rfl
 refine#[I.ok,I.os,I.bare,#[I.base.keep,I.base.slot,λb o q n hx=>?_,I.base.there,λb xs q=>?_,λb o u q=>?_,λb ps q=>?_],I.loc,I.cell,?_,λx c q=>?_,λp hp=>?_,λa o q=>?_,I.len]
 .have:b≠e:=λz=>by rw[z,ne]at q;cases q
  rw[cm this];exact I.base.free b o q n hx
 .have:=I.base.tups b xs q;rw[cm (nx b _ this λφ z=>nomatch z)];exact this
 .have:=I.base.frzs b o u q;rw[cm (nx b _ this λφ z=>nomatch z)];exact this
 .obtain⟨m,this⟩:=I.base.tbls b ps q;exact#[m,by rw[cm (nx b _ this λφ z=>nomatch z)];exact this]
 .by_cases z:X.env.locals=e
  .rw[z];exact fL
  .rw[cm z];exact I.free
 .by_cases z:c=e
  .rw[z];exact fL
  .rw[cm z];exact I.freeC x c q
 .obtain⟨h1,h2,h3⟩:=I.pin p hp;refine#[h1,?_,h3];by_cases z:p.1=e
  .rw[z];exact fL
  .rw[cm z];exact h2
 .by_cases z:a=e
  .rw[z,fL]at q;cases q
  .rw[cm z]at q;exact(I.hok a o q).stay (λb u _ r=>r) (λb r=>by rw[cm (nx b _ r λφ z=>nomatch z)];exact r) λb xs r=>by rw[cm (nx b _ r λφ z=>nomatch z)];exact r
def Inv.adopt(I:Inv X pins σ H s)(He:H e=A')(ok:ObjOk X.prog X.w H s.heap e (.ext φ))(ne:X.s₀.heap.get? e=A')(hl:e≠X.env.locals)(hc:∀x c,X.env.cells.lookup x=u5 c->c≠e)(hp:∀p∈X.pn++pins,p.1≠e):Inv X pins σ (upd H e (.ext φ)) s:=by
 refine#[I.ok,I.os,I.bare,#[I.base.keep,I.base.slot,λb o q n hx=>?_,I.base.there,λb xs q=>?_,λb o u q=>?_,λb ps q=>?_],I.loc,I.cell,?_,λx c q=>?_,λp Hx=>?_,λa o q=>?_,I.len]
 .have:b≠e:=λz=>by rw[z,ne]at q;cases q
  rw[ao this];exact I.base.free b o q n hx
 .have:=I.base.tups b xs q;rw[ao (bU this He)];exact this
 .have:=I.base.frzs b o u q;rw[ao (bU this He)];exact this
 .obtain⟨m,this⟩:=I.base.tbls b ps q;exact#[m,by rw[ao (bU this He)];exact this]
 .rw[ao (Ne.symm hl)];exact I.free
 .rw[ao (hc x c q)];exact I.freeC x c q
 .obtain⟨h1,h2,h3⟩:=I.pin p Hx;refine#[h1,?_,h3];rw[ao (hp p Hx)];exact h2
 .by_cases z:a=e
  .rw[z,aA]at q;cases q;rw[z];exact ok
  .rw[ao z]at q;exact(I.hok a o q).stay (λb u _ r=>r) (λb r=>by rw[ao (bU r He)];exact r) λb xs r=>by rw[ao (bU r He)];exact r
end
structure ErrK(K:Dr)(mg:Str->Option GT)(x:Str)(C N:KF)(bm:List GT):Prop where
 ns:nsIn K Os x=u5 (u5 (.ref C))
 mg:mg x=u5 (.ref C)
 kp:keepIn K (.ref C)=true
 obj:∃nm q bs sn sub ab col dd k0 k1 k2 k3 k5,K.lookup C=u5 (P0 nm q C N bs bm true sn sub ab col dd k0 k1 k2 k3 k5 "ValueError.__new__")
 tail:tailIn K veLine bm=true
structure ErrN(K:Dr)(N:KF):Prop where
 ok:nsOkIn K N=true
 no:nsIn K N "__init__"=u5 A'
def jt{K:Dr}:∀{l:List GT},tailIn K veLine l=true->aL l=true
 |[],e=>by simp[tailIn,veLine]at e
 |v::r,e=>by
  unfold tailIn at e;rcases Gb.mp e with q|q
  .rw[beq_iff_eq.mp q];decide+kernel
  .split at q
   .split at q
    .simp only[D6,beq_iff_eq]at q;unfold aL;exact jt q.2
    .cases q
   .cases q
variable{K:Dr}{mg:G8->Option GT}{C N:KF}{bm:List GT}
def ErrK.base(k:ErrK K mg x C N bm):bm.contains (.type "BaseException")=true:=fu Hd (jt k.tail)
def XN(e C:KF)(od:Option KF):HO:=.ext λh=>∃t sl,h.get? e=u5 #[.ref C,od,.fields [.ref t,.none,.none,.none,.bool false,.none].toArray,sl]
variable{e:KF}{od:Option KF}{sl:Array (Option GT)}
def XN.ok{t:KF}(q:h.get? e=u5 #[.ref C,od,.fields [.ref t,.none,.none,.none,.bool false,.none].toArray,sl]):ObjOk P w H h e (XN e C od):=
 #[#[t,sl,q],#[_,q],λh1 h2 ⟨t,sl,q⟩ k=>#[t,sl,k _ q]]
def XN.get(x:HOk P w H h)(q:H e=u5 (XN e C od)):∃t sl,h.get? e=u5 #[.ref C,od,.fields [.ref t,.none,.none,.none,.bool false,.none].toArray,sl]:=(x e _ q).1
def ErrF(K:Dr)(F:Hp)(fs:List (G8×D))(od:Option KF):Prop:=∃vs,RepF K F fs vs/\((od=A'/\vs=[])\/∃b,od=u5 b/\F b=u5 (.xd vs))
def lEi(K:Dr)(C:KF)(S:SiD):Sp:=λvs H Q _=>∃e us H1 F ds,vs=.ref e::us/\H=upd H1 e (XN e C A')/\H1 e=A'/\Same F H1/\Reps K F ds us/\
 ∃R:List (G8×D)->Prop,S ds R/\∀fs od F' H',Grow F H1 F' H'->R fs->H' e=u5 (XN e C od)->F' e=A'->ErrF K F' fs od->Q .non H'
def CalE(P:Pw)(w:Pz)(K:Dr)(mg:G8->Option GT)(base:Heap)(n:Nat)(x:G8)(ps:List G8)(S:SiD):Prop:=
 ∃C N bm f fd,ErrK K mg x C N bm/\DD K (.ref C) "__init__"=u5 (u5 (.ref f))/\isFn K (.ref f)=true/\FnOk P w K mg base (CX1 P w) n f fd ps (lEi K C S)/\Binds K fd ps []
section
variable {X:Cx}{pins:List (KF×PX)}{σ:L2.St}{H:Hp}{s:KB}{e:KF}
def Inv.newx{C:KF}{h':Heap}{us:List GT}(I:Inv X pins σ H s)(hex:X.ex=[])(hm:Heap.MadeExcOf s.heap h' e (.ref C) us):Inv X pins σ (upd H e (XN e C A')) {s with heap:=h'}:=by
 obtain⟨ta,h1,h2,h3⟩:=hm.there;have I2:Inv X pins σ H {s with heap:=h'}:=I.kept (t':=s.toks) hm.keeps;refine Inv.adopt I2 (gD I.hok hm.new) (XN.ok h1) (cI I hex hm.new) (λz=>?_) (λx c q z=>?_) λp hp z=>?_
 .obtain⟨m,⟨o,_,_,ho,_⟩,_⟩:=I.loc;rw[<-z,hm.new]at ho;cases ho
 .obtain⟨v,o,ho,_⟩:=I.cell x c q;rw[z,hm.new]at ho;cases ho
 .have:=(I.pin p hp).1;rw[z,hm.new]at this;cases this
end
structure BaseK(K:Dr)(mg:Str->Option GT)(y:Str)(M:KF):Prop where
 mg:mg y=u5 (.ref M)
 rd:readsIn K M (.type "type")=true
 fc:findCls K (.ref M) (.type "type") "__init__"=u5 (.val (.builtin "ValueError.__init__"))
 sp:specialIn K (.ref M) "__getattribute__"=u5 (u5 (.builtin "type.__getattribute__"))
structure ErrA(K:Dr)(x:Str)(C:KF)(cd:ClassData):Prop where
 ns:nsIn K Os x=u5 (u5 (.ref C))
 cl:FC K C=u5 cd
 mro:aL cd.mro=true
 hd:cd.hasDict=true
 sa:DD K (.ref C) "__setattr__"=u5 (u5 (.builtin "object.__setattr__"))
def ErrK.a(k:ErrK K mg x C N bm)(sa:DD K (.ref C) "__setattr__"=u5 (u5 (.builtin "object.__setattr__"))):∃cd,ErrA K x C cd:=by
 obtain⟨nm,q,bs,sn,sub,ab,col,dd,k0,k1,k2,k3,k5,lk⟩:=k.obj;exact⟨_,k.ns,by unfold FC;rw[lk],by
  show aL (.ref C::bm)=true;unfold aL;exact jt k.tail,rfl,sa⟩
def lX(K:Dr)[J:Jx](x:G8)(t:TID):TS:=λE σ H=>∃C e od ws F z fs,nsIn K Os x=u5 (u5 (.ref C))/\σ[0]?=u5 (u5 (.ref e))/\H e=u5 (XN e C od)/\J.B e=A'/\F e=A'/\Kept J.B J.F0 F H/\RepS K J.B F H z σ/\RepF K F fs ws/\
 ((od=A'/\ws=[])\/∃b,od=u5 b/\H b=u5 (.xd ws)/\J.B b=A'/\F b=A'/\b≠e/\ws≠[])/\
 ∃R:List (G8×D)->Prop,t z fs R/\∀m6 Jq F' H',Kept J.B J.F0 F' H'->R m6->H' e=u5 (XN e C Jq)->F' e=A'->ErrF K F' m6 Jq->E.nx σ H'
abbrev DX(X:Cx)[Jx](x:G8)(st:List Py)(t:TID):Prop:=PSs X st (lX X.K x t)
structure WDX(X:Cx)[Jx](x:Str)(st:List Py)(t:TID):Prop where
 out:DX X x st t
def xB{a:KF}{o:HO}(h:H a=u5 o):upd H a o=H:=by
 funext b;unfold upd;by_cases q:b=a
 .rw[if_pos q,q,h]
 .rw[if_neg q]
section
variable {X:Cx}[J:Jx]{x f:G8}{e:Pu}{te:TD}{ta:TDA}{pos c_ p:PK}{rest:List Py}{tr:TID}
def qw:WDX X x [] qu:=⟨pss_nil.anti λE s H q=>by
 obtain⟨C,a,od,ws,F,z,fs,hn,h0,gt,hB,j6,k,rs,rf,hd,R,hR,kk⟩:=q;rcases hd with⟨rfl,rfl⟩|⟨b,rfl,hb,Jr,Js,ne,_⟩
 .exact kk fs A' F H k hR gt j6 #[[],rf,.inl #[rfl,rfl]]
 .have s1:Same F (upd F b (.xd ws)):=aM Js _;refine kk fs (u5 b) (upd F b (.xd ws)) H #[k.bh,λc o q=>?_,k.f0.trans s1,λc h1 h2=>?_,k.eb,k.jf,k.jo] hR gt (by rw[ao (Ne.symm ne)];exact j6) #[ws,RepF.mono s1 fs ws rf,.inr #[b,rfl,aA]]
  .by_cases hc:c=b
   .subst hc;rw[aA]at q;cases q;exact hb
   .rw[ao hc]at q;exact k.fh c o q
  .have:c≠b:=λz=>h2 (z ▸ Jr);rw[ao this];exact k.out c h1 h2⟩
def xC(ta:TDA)(tr:TID):TID:=λz fs R=>ta z λds=>ds.length<=1000/\tr z fs R
def qy{y sx:G8}{ps py b7 a8:PK}{es:List Pu}{pl:Q5 Bool}(hb:∃M,BaseK X.K X.mg y M)(hA:∃C cd,ErrA X.K x C cd)(ha:WDA X es ta)(hr:WDX X x rest tr)(hg:autoParam (Gl X y) zA0)(hN:autoParam (X.N[0]?=u5 sx) zA0)(hv:autoParam (Vis X.env.scope sx) zA5)(hd:autoParam (zND sx) zA1)
  (i8:autoParam (zNC sx) zA1) (NY:autoParam (zND y) zA1)
  (he:autoParam (PD (.Name sx ps::es) X.env=(false,PM (.Name sx ps) X.env)::PD es X.env) zA0) (d0:autoParam (zPL X a8 es) zA0)
  (ht:PM (.Call (.Attribute (.Name y py) "__init__" b7) (.Name sx ps::es) [] a8) X.env=(do
   let ov <-PM (.Name y py) X.env
   Qx b7.atName
   let (f,first) <-Qy [ov] (QI ov "__init__" pl)
   callWith a8 f first (Qv a8 (PD (.Name sx ps::es) X.env)) (QR a8 (Qt [] X.env))):=by rfl)
  (hs:autoParam (PV (.Call (.Attribute (.Name y py) "__init__" b7) (.Name sx ps::es) [] a8) A' pos.line X.env=pure false) zA0):WDX X x (.Expr (.Call (.Attribute (.Name y py) "__init__" b7) (.Name sx ps::es) [] a8) pos::rest) (xC ta tr):=⟨by
 have ha:=ha.out;have hr:=hr.out;obtain⟨M,bk⟩:=hb;obtain⟨C,cd,er⟩:=hA;have step:PS X (.Expr (.Call (.Attribute (.Name y py) "__init__" b7) (.Name sx ps::es) [] a8) pos) (λE σ H=>∃C' e od,nsIn X.K Os x=u5 (u5 (.ref C'))/\σ[0]?=u5 (u5 (.ref e))/\
   lA X.K ta σ H (λvs H1=>H1 e=u5 (XN e C' od)/\vs.length<=1000/\E.nx σ H1)):=by
  intro pins s σ H D I h;obtain⟨C',ea,od,hn,h0,h⟩:=h;rw[er.ns]at hn;cases hn;refine wpAny_Expr_any (methodCall_KW (pl:=pl) (cu I hg bk.mg ?_ NY) ht) I.quiet hs;refine method_cls I.kIn bk.sp (cls_value I.kIn bk.rd bk.fc Hd ?_);have I0:Inv X pins σ H {s with toks:=s.toks+1}:=I.tok _;obtain⟨B,F,z,kf,rs,R,h1,h2⟩:=h;refine PyProof.Rows.callWith_builtin1 (thn (bN (dg (i:=0) hN hv hd i8) ha he a8 pins _ σ H (λvs H1=>∃us,vs=.ref ea::us/\H1 ea=u5 (XN ea C od)/\us.length<=1000/\D.nx σ H1) I0 #[.ref ea,h0,#[B,F,z,kf,rs,R,h1,λds vs F' H' g hx rx=>#[vs,rfl,h2 ds vs F' H' g hx rx]]]) λus s1 hh=>?_) he d0;obtain⟨vs,H1,I1,r,O4,ev,v8,hl,Ic⟩:=hh;subst ev;cases r with
  |cons r1 r2=>
   rename_i u0 O5;obtain rfl:u0=Value.ref ea:=r1;obtain⟨t0,sl,l_⟩:=XN.get I1.hok v8;refine wg (K:=X.K) (C:=C) (cd:=cd) I1.kIn l_ rfl rfl er.cl er.mro (by rw[<-L2.Vals.length r2];exact sz hl) λh' g1 g2=>?_;refine#[σ,H1,?_,Ic];have w:=I1.write (x:=ea) (e:=ea) (o:=XN ea C od) (h':=h') (t':=s1.toks) (by rw[v8];exact True.intro) (.inl rfl) (λb u hb q=>g2 b u hb q) #[_,g1] (XN.ok g1);rw[xB v8]at w;exact w
 refine(fb step hr).anti λE s H q=>?_;obtain⟨C',a,od,ws,F,z,fs,hn,h0,gt,hB,j6,k,rs,rf,i6,R,hR,kk⟩:=q;refine#[C',a,od,hn,h0,_,F,z,k,rs,_,hR,λds vs F1 H1 g hx rx=>#[g.hh a _ gt,by rw[rx.length];exact hx.1,?_]];refine#[C',a,od,ws,F1,z,fs,hn,h0,g.hh a _ gt,hB,g.out a j6 (by rw[gt];exact λz=>nomatch z),k.grow g,rs.grow g,RepF.mono g.ff fs ws rf,?_,R,hx.2,kk];rcases i6 with i6|⟨b,h1,h2,h3,h4,h5⟩
 .exact .inl i6
 .exact .inr #[b,h1,g.hh b _ h2,h3,g.out b h4 (by rw[h2];exact λz=>nomatch z),h5]⟩
def xD(f:G8)(te:TD)(tr:TID):TID:=λz fs R=>fs=[]/\te z λd=>tr z [(f,d)] R
def qz{sx:G8}{ps:PK}(hA:∃C cd,ErrA X.K x C cd)(hf:∀C,nsIn X.K Os x=u5 (u5 (.ref C))->DD X.K (.ref C) f=u5 A')(he:WDE X e te)(hr:WDX X x rest tr)(hN:autoParam (X.N[0]?=u5 sx) zA0)(hv:autoParam (Vis X.env.scope sx) zA5)(hd:autoParam (zND sx) zA1)
  (i8:autoParam (zNC sx) zA1) (hs:autoParam (PV e (u5 (.Attribute (.Name sx ps) f c_)) pos.line X.env=pure false) zA0):WDX X x (.Assign [.Attribute (.Name sx ps) f c_] e pos::rest) (xD f te tr):=⟨by
 have he:=he.out;have hr:=hr.out;obtain⟨C,cd,er⟩:=hA;have Ie:=hf C er.ns;have step:PS X (.Assign [.Attribute (.Name sx ps) f c_] e pos) (λE σ H=>∃e,σ[0]?=u5 (u5 (.ref e))/\
   lE X.K te σ H (λv H1=>H1 e=u5 (XN e C A')/\∀b,H1 b=A'->b≠e->E.nx σ (upd (upd H1 b (.xd [(f,v)])) e (XN e C (u5 b))))):=by
  intro pins s σ H D I h;obtain⟨ea,h0,h⟩:=h;refine QG (thn (he pins s σ H _ I h) λu s1 ⟨y,H1,I1,ry,v8,Ic⟩=>thn (dg (i:=0) hN hv hd i8 pins s1 σ H1 (λv H'=>v=.ref ea/\H'=H1) I1 #[.ref ea,h0,rfl,rfl]) λov s2 hh=>?_) hs;obtain⟨v0,H2,I2,r0,e1,e2⟩:=hh;subst e1 e2;obtain rfl:ov=Value.ref ea:=r0;obtain⟨t0,sl,l_⟩:=XN.get I2.hok v8;refine wc (K:=X.K) (C:=C) (cd:=cd) I2.kIn l_ rfl rfl rfl er.cl er.mro er.hd er.sa Ie λh' g1 g2 g3 tk=>?_;have hfr:H2 s2.heap.objs.size=none:=I2.hok.fresh (Dt _);have l9:s2.heap.objs.size≠ea:=Ec (Heap.lt_size l_);have Kl:∀b o,s2.heap.get? b=u5 o->b≠s2.heap.objs.size:=λb o q=>DF (Heap.lt_size q);have Km:∀b,H2 b=A'->b≠ea:=λb q z=>by rw[z,v8]at q;cases q
  refine#[σ,_,?_,Ic _ hfr l9];have Ig:∀b o,H2 b=u5 o->(∀φ,o≠.ext φ)->upd (upd H2 s2.heap.objs.size (.xd [(f,y)])) ea (XN ea C (u5 s2.heap.objs.size)) b=u5 o:=λb o q n=>by
   have n1:b≠ea:=λz=>by rw[z,v8]at q;cases q;exact n _ rfl
   rw[ao n1,ao (bU q hfr)];exact q
  refine I2.un (h':=h') (t':=tk) #[λb o q n _ _=>g3 b o (Km b n) q,λb o q n _ _=>#[o.slots,g3 b o (Km b n) q],λb o q n _=>?_,λb o q _=>?_,λb xs q=>Ig b _ q (λφ z=>nomatch z),λb o u q=>Ig b _ q (λφ z=>nomatch z),λb ps q=>#[[].toArray,by rw[Ig b _ q (λφ z=>nomatch z)];simp]] λa o q=>?_
  .rw[ao (Km b n),ao (Kl b o q)];exact n
  .by_cases hb:b=ea
   .rw[hb];exact#[_,g1]
   .exact#[o,g3 b o hb q]
  .by_cases ha:a=ea
   .subst ha;rw[aA]at q;cases q;exact XN.ok g1
   .rw[ao ha]at q;by_cases hb:a=s2.heap.objs.size
    .subst hb;rw[aA]at q;cases q;refine#[_,g2,λg=>?_];rw[DQ];by_cases hg:g=f
     .subst hg;simp;exact ry
     .have:(g==f)=false:=by simpa using hg
      rw[this,if_neg hg];exact True.intro
    .rw[ao hb]at q;refine(I2.hok a o q).stay (λb u l8 r=>?_) (λb r=>Ig b _ r (λφ z=>nomatch z)) λb xs r=>Ig b _ r (λφ z=>nomatch z);refine g3 b u (λz=>?_) r;rcases l8 with e1|e1
     .exact ha (e1 ▸ z)
     .rw[z,v8]at e1;cases e1
 refine(fb step hr).anti λE s H q=>?_;obtain⟨C',a,od,ws,F,z,fs,hn,h0,gt,hB,j6,k,rs,rf,i6,R,⟨rfl,hR⟩,kk⟩:=q;rw[er.ns]at hn;cases hn;have NZ:ws=[]:=repf_nil.mp rf;subst NZ;refine#[a,h0,_,F,z,k,rs,_,hR,λd v F1 H1 g hx rv=>?_];have Ih:F1 a=none:=g.out a j6 (by rw[gt];exact λz=>nomatch z);have k1:=k.grow g;rcases i6 with⟨rfl,_⟩|⟨b,rfl,h1,h2,h3,h4⟩
 .refine#[g.hh a _ gt,λb hb l9=>?_];have Jr:J.B b=none:=k1.bh.free hb;have Js:F1 b=none:=k1.fh.free hb;have same:∀{G:Hp},G a=A'->G b=A'->Same G H1->Same G (upd (upd H1 b (.xd [(f,v)])) a (XN a C (u5 b))):=λ{G} ga gb gs c o q=>by
   have n1:c≠a:=λz=>by rw[z,ga]at q;cases q
   have n2:c≠b:=λz=>by rw[z,gb]at q;cases q
   rw[ao n1,ao n2];exact gs c o q
  have z7:=rs.grow g;refine#[C,a,u5 b,[(f,v)],F1,z,[(f,d)],er.ns,h0,aA,hB,Ih,#[same hB Jr k1.bh,same Ih Js k1.fh,k1.f0,k1.out,k1.eb,k1.jf,k1.jo],?_,repf_cons.mpr #[v,[],rfl,rv,repf_nil.mpr rfl],.inr #[b,rfl,by rw[ao l9];exact aA,Jr,Js,l9,λz=>nomatch z],R,hx,kk];refine#[z7.len,z7.val,λi ds e'=>?_,z7.apart];obtain⟨c,vs,q1,q2,q⟩:=z7.own i ds e';have n1:c≠a:=λz=>by rw[z,g.hh a _ gt]at q2;cases q2
  have n2:c≠b:=λz=>by rw[z,hb]at q2;cases q2
  exact#[c,vs,q1,by rw[ao n1,ao n2];exact q2,q]
 .exact absurd rfl h4.2⟩
end
section
variable {P:Pw}{w:Pz}{K:Dr}{mg:G8->Option GT}{base:Heap}
def Cls.okE{x qual:G8}{st:Py}{f C N0:KF}{bm:List GT}{fd:PH}{N:List G8}{p0:G8}{ps:List G8}{k:Nat}{S:SiD}(T:Fun K "__init__" qual st f fd)(hb:Binds K fd (p0::ps) [])(F:FnScope (p0::N) (p0::ps) (ag st))(len:∀ds R,S ds R->ds.length=ps.length)
  (ek:ErrK K mg x C N0 bm) (hi:DD K (.ref C) "__init__"=u5 (u5 (.ref f))) (hf:isFn K (.ref f)=true)
  (a_:∀(cdv:GT) (A:PB) (outer:List Ql) (s:KB) (H:Hp) (E:XK) (J:Jx),Room k (A.deeper (PZ qual (ag st) s.heap.objs.size f cdv))->
   ∃t,DX (cxOf (CX1 P w) P w K mg base (p0::N) qual (ag st) f cdv A outer s H E).nox x (aP st) t/\∀ds R,S ds R->t (A'::startD N ds) [] R):CalE P w K mg base (k+1) x (p0::ps) S:=by
 refine#[C,N0,bm,f,fd,ek,hi,hf,Fun.okC T F (λvs H Q E h=>?_) (λcdv A outer s H vs Q E hr h=>?_),hb]
 .obtain⟨a,us,H1,F,ds,rfl,_,_,_,rs,R,h,_⟩:=h;rw[Du,Du,rs.length,len ds R h]
 .obtain⟨a,us,H1,F1,ds,rfl,rfl,ha,fh,rs,R,h,q⟩:=h
  letI:Jx:=#[H1,F1,λ_ _ _=>False]
  obtain⟨t,ht,hq⟩:=a_ cdv A outer s _ E inferInstance hr;have Fa:F1 a=none:=fh.free ha;have hl:L2.start (p0::N) (.ref a::us)=u5 (.ref a)::L2.start N us:=by
   unfold L2.start;rw[DZ,Du,Du,Ga];rfl
  have s1:Same H1 (upd H1 a (XN a C A')):=aM ha _;refine#[_,ht.nox,C,a,A',[],F1,A'::startD N ds,[],ek.ns,by rw[hl];rfl,aA,ha,Fa,#[s1,fh.trans s1,Same.refl F1,λ_ h _=>h,rfl,Same.refl F1,λ_ h _=>h],?_,repf_nil.mpr rfl,.inl #[rfl,rfl],R,hq ds R h,λm6 Jq F' H' g hR gt j6 er=>q m6 Jq F' H' #[g.f0,g.fh,g.bh,g.out] hR gt j6 er];rw[hl];exact qv (fz rs)
end
section
variable {M:Q9}{A:PB}{E:GT->KB->Prop}{h:Heap}{g:Array Q_}{d:Drawn}{t:Nat}{os:OsState}
variable {nm q:G8}{C N:KF}{bs bm:List GT}{hdct:Bool}{sn:List G8}{sub:List GT}{ab:Bool}{col:Option Bool}{dd:Option KF}{k0 k1 k2 k3 k5:Option GT}{newId:String}
variable {Kn q':G8}{C' N':KF}{Ko Ii:List GT}{Ij:Bool}{Kp:List G8}{Hl:List GT}{Kq:Bool}{Hm:Option Bool}{Ik:Option KF}{Kr Ks Kt Ku Kv:Option GT}{Hn:String}
def qA{e:KF}{oe:PX}{b:Bool}{Q:Bool->KB->Prop}(hC:h.get? C=u5 (P0 nm q C N bs bm hdct sn sub ab col dd k0 k1 k2 k3 k5 newId))(hD:h.get? C'=u5 (P0 Kn q' C' N' Ko Ii Ij Kp Hl Kq Hm Ik Kr Ks Kt Ku Kv Hn))
  (he:h.get? e=u5 oe) (u8:oe.cls=.ref C) (b9:Ii.contains (.type "BaseException")=true) (hb:(Value.ref C::bm).contains (.ref C')=b) (hq:Q b #[h,g,d,t,os]):Px M A (excMatches (.ref e) (.ref C')) Q E #[h,g,d,t,os]:=by
 have J_:(Value.ref C'::Ii).contains (.type "BaseException")=true:=by rw[Fy,b9,E5]
 have f:=tc_notTuple;unfold excMatches
 repeat(first|(with_reducible refine PU he ?_;rw[u8])|with_reducible refine PU hD ?_|(with_reducible refine Qd hD ?_;rw[J_])|(with_reducible refine Qd hC ?_;rw[hb])|wp_step)
 cases b with
 |true=>wp_walk;exact hq
 |false=>wp_walk;exact hq
end
abbrev _root_.L2.Cx.held(X:Cx)(e:KF):Cx:={X with A:=X.A.mark (u5 (.ref e)),calm:=false,xe:=λ_ _=>False}
section
variable {X:Cx}{pins:List (KF×PX)}{σ:L2.St}{H:Hp}{s:KB}{e:KF}
def Cx.Ok.held(ok:X.Ok):(X.held e).Ok:=
 #[ok.mod,ok.kind,ok.glob,ok.blt,ok.above,ok.inj,ok.has,ok.cab,(λz=>nomatch z),ok.frames,ok.stk,ok.exf,ok.bs,ok.bsz,ok.noex,ok.exfs,ok.funs,ok.frf]
def Inv.held(I:Inv X pins σ H s):Inv (X.held e) pins σ H s:=#[Cx.Ok.held I.ok,I.os,I.bare,I.base,I.loc,I.cell,I.free,I.freeC,I.pin,I.hok,I.len]
def Inv.unheld(ok:X.Ok)(I:Inv (X.held e) pins σ H s):Inv X pins σ H s:=#[ok,I.os,I.bare,I.base,I.loc,I.cell,I.free,I.freeC,I.pin,I.hok,I.len]
def SP.unheld{D:Ends}{f:Flow}{s':KB}(ok:X.Ok)(h:SP (X.held e) pins D f s'):SP X pins D f s':=by
 cases f with
 |next=>obtain⟨σ',H',I,q⟩:=h;exact#[σ',H',Inv.unheld ok I,q]
 |brk=>obtain⟨σ',H',I,q⟩:=h;exact#[σ',H',Inv.unheld ok I,q]
 |cont=>obtain⟨σ',H',I,q⟩:=h;exact#[σ',H',Inv.unheld ok I,q]
 |ret u=>obtain⟨v,σ',H',I,r,q⟩:=h;exact#[v,σ',H',Inv.unheld ok I,r,q]
def gE{M:Q9}{A:PB}{E:GT->KB->Prop}{i:Nat}{x:G8}{pos:PK}{Q:Unit->KB->Prop}(I:Inv X pins σ H s)(hN:X.N.Nodup)(hi:X.N[i]?=u5 x)(hk:X.env.scope.names.lookup x=u5 .local)
  (h:∀s',Inv X pins (σ.set i A') H s'->Q () s'):Px M A (do QQ X.env x .none;unbindBehindTheSuite X.env x pos) Q E s:=by
 obtain⟨m,hn,hl⟩:=id I.loc;have u8:(X.env.scope.kind== .class||(X.env.scope.kind== .module&&X.env.locals !=X.env.globals))=false:=by rw[I.ok.kind];rfl
 have hiσ:i<σ.length:=by rw[I.len];exact(DN.mp hi).1
 have cne:=I.cne;refine wpAny_nameGoes_keeps hk hn u8 λh' v j9 hs=>?_;obtain⟨oL,_,_,L5,_⟩:=id hn;have gV:HOk X.prog X.w H h':=λb ob e=>by
  refine(I.hok b ob e).stay (λc w' hc q=>(hs.2 c ?_).trans q) (λ_ q=>q) λ_ _ q=>q;rintro rfl;rcases hc with rfl|hc
  .rw[I.free]at e;cases e
  .rw[I.free]at hc;cases hc
 refine h _ #[I.ok,I.os,I.bare,#[λb o e n hb hx=>?_,λb o e n hb hx=>?_,I.base.free,λb o e hx=>?_,I.base.tups,I.base.frzs,I.base.tbls],#[_,j9,λj y v' e1 e2 e3=>?_],λy c e=>?_,I.free,I.freeC,λp hp=>?_,gV,by simpa using I.len]
 .exact(hs.2 b (DF (DP (Heap.lt_size e) I.ok.above))).trans (I.base.keep b o e n hb hx)
 .obtain⟨sl,e1⟩:=I.base.slot b o e n hb hx;exact#[sl,(hs.2 b (DF (DP (Heap.lt_size e) I.ok.above))).trans e1]
 .obtain⟨o',e1⟩:=I.base.there b o e hx;exact#[o',(hs.2 b (DF (DP (Heap.lt_size e) I.ok.above))).trans e1]
 .by_cases hj:j=i
  .subst hj;rw[Eb hiσ]at e2;cases e2
  .rw[DL (Ne.symm hj)]at e2;obtain⟨u',r',q⟩:=hl j y v' e1 e2 e3;refine#[u',r',?_];rcases q with⟨k,e⟩|⟨k,c,e,z⟩
   .refine .inl #[k,?_];have:y≠x:=λe=>hj (iN hN e1 (e ▸ hi));simp[this,e]
   .exact .inr #[k,c,e,z.sameBut hs (cne y c e)]
 .obtain⟨w',z⟩:=I.cell y c e;exact#[w',z.sameBut hs (cne y c e)]
 .obtain⟨e,n,ne,nf,d⟩:=I.pin p hp;exact#[(hs.2 p.1 ne).trans e,n,ne,nf,d]
def Inv.stay{h':Heap}{m6 ex:List KF}(I:Inv X pins σ H s)(st:Stay m6 ex s.heap h')(Jj:∀b∈m6,b∈frs X.stack)(hH:∀b∈ex,H b=A')(h0:∀b∈ex,X.s₀.heap.get? b=A')(hL:∀b∈ex,b≠X.env.locals)(hc:∀b∈ex,∀x c,X.env.cells.lookup x=u5 c->c≠b)
  (hp:∀b∈ex,∀p∈X.pn++pins,p.1≠b):Inv X pins σ H {s with heap:=h'}:=by
 have hok:HOk X.prog X.w H h':=fw I.hok st (λb hb=>I.stkFree b (Jj b hb)) hH;have sub:∀b∈m6,b=X.env.locals\/b∈X.fs:=λb hb=>Dw.mp (I.stkSub b (Jj b hb));have nL:∀b o,X.s₀.heap.get? b=u5 o->b≠X.env.locals:=λb o q=>DF (DP (Heap.lt_size q) I.ok.above);have Mp:∀b o,X.s₀.heap.get? b=u5 o->b∉ex:=λb o q z=>by rw[h0 b z]at q;cases q
 have m8:∀x c v,X.env.cells.lookup x=u5 c->s.heap.IsCell c v->h'.IsCell c v:=λx c v e ⟨o,ho,hd⟩=>by
  obtain⟨sl,z⟩:=st.slot c o ho (λz=>hc c z x c e rfl);exact#[_,z,hd]
 refine#[I.ok,I.os,I.bare,#[λb o e n hb hx=>?_,λb o e n hb hx=>?_,I.base.free,λb o e hx=>?_,I.base.tups,I.base.frzs,I.base.tbls],?_,λy c e=>?_,I.free,I.freeC,λp Hx=>?_,hok,I.len]
 .exact st.keep b o (I.base.keep b o e n hb hx) (Mp b o e) (λz=>(sub b z).elim (nL b o e) hb)
 .obtain⟨sl,e1⟩:=I.base.slot b o e n hb hx;obtain⟨t9,e2⟩:=st.slot b _ e1 (Mp b o e);exact#[t9,e2]
 .obtain⟨o',e1⟩:=I.base.there b o e hx;exact st.there b o' e1
 .obtain⟨m,⟨o,es,ep,ho,r⟩,hl⟩:=I.loc;obtain⟨sl,z⟩:=st.slot _ o ho (λz=>hL _ z rfl);refine#[m,#[_,es,ep,z,r],λj y v' e1 e2 e3=>?_];obtain⟨u',r',q⟩:=hl j y v' e1 e2 e3;refine#[u',r',?_];rcases q with q|⟨k,c,e,z⟩
  .exact .inl q
  .exact .inr #[k,c,e,m8 y c _ e z]
 .obtain⟨w',z⟩:=I.cell y c e;exact#[w',m8 y c _ e z]
 .obtain⟨e,n,ne,nf,d⟩:=I.pin p Hx;exact#[st.keep _ _ e (λz=>hp _ z p Hx rfl) (λz=>(sub _ z).elim ne nf),n,ne,nf,d]
end
def subE(x c:G8):Bool:=x==c||c=="MotifError"
structure ErrsK(K:Dr)(mg:Str->Option GT)(es:List Str):Prop where
 cls:∀x∈es,∃C N bm,ErrK K mg x C N bm
 sub:∀x∈es,∀y∈es,∀C C',nsIn K Os x=u5 (u5 (.ref C))->nsIn K Os y=u5 (u5 (.ref C'))->Eo K C (.ref C')=u5 (subE x y)
def ErrsK.has{es:List G8}(k:ErrsK K mg es){y:G8}{C' N':KF}{Ii:List GT}(hx:x∈es)(hy:y∈es)(a:ErrK K mg x C N bm)(b:ErrK K mg y C' N' Ii):(Value.ref C::bm).contains (.ref C')=subE x y:=by
 have h:=k.sub x hx y hy C C' a.ns b.ns;obtain⟨nm,q,bs,sn,sub,ab,col,dd,k0,k1,k2,k3,k5,lk⟩:=a.obj;unfold Eo FC at h;rw[lk]at h;simp only[E6,List.isEmpty_cons,Bool.false_eq_true,if_false,Option.some.injEq]at h;exact h
structure Held(X:Cx)(pins:List (KF×PX))(H:Hp)(s:KB)(e C:KF)(od:Option KF)(T:KF):Prop where
 ex:ExAt s.heap e C od T .none
 He:H e=A'
 HT:H T=A'
 e0:X.s₀.heap.get? e=A'
 T0:X.s₀.heap.get? T=A'
 eP:∀p∈X.pn++pins,p.1≠e
 TP:∀p∈X.pn++pins,p.1≠T
section
variable {X:Cx}{pins:List (KF×PX)}{σ:L2.St}{H:Hp}{s:KB}
variable{vs:Array GT}
def gG{b:KF}{o:PX}(I:Inv X pins σ H s)(h:s.heap.get? b=u5 o)(hd:o.data=.fields vs):b≠X.env.locals:=λz=>by
 obtain⟨m,⟨o',es,ep,ho,i6,_⟩,_⟩:=I.loc;rw[<-z,h]at ho;cases ho;rw[hd]at i6;cases i6
def fld_cell{b:KF}{o:PX}(I:Inv X pins σ H s)(h:s.heap.get? b=u5 o)(hd:o.data=.fields vs):∀x c,X.env.cells.lookup x=u5 c->c≠b:=λx c q z=>by
 obtain⟨v,o',ho,i6⟩:=I.cell x c q;rw[z,h]at ho;cases ho;rw[hd]at i6;cases i6
variable{od:Option KF}
def Held.flight{e C T:KF}{h':Heap}(I:Inv X pins σ H s)(k:Held X pins H s e C od T)(hx:ExAt h' e C od T .none)(st:Stay [] [T] s.heap h'):Inv X pins σ H {s with heap:=h'}/\Held X pins H {s with heap:=h'} e C od T:=by
 obtain⟨sl,vs,oT,ts,he,h1,s9,hT,k6,h3⟩:=k.ex;refine#[Inv.stay I st (λb hb=>by cases hb) (λb hb=>?_) (λb hb=>?_) (λb hb=>?_) (λb hb=>?_) (λb hb=>?_),#[hx,k.He,k.HT,k.e0,k.T0,k.eP,k.TP]]<;>rw[Ds.mp hb]
 .exact k.HT
 .exact k.T0
 .exact gG I hT k6
 .exact fld_cell I hT k6
 .exact k.TP
def XO.ok{P:Pw}{w:Pz}{h:Heap}{e C:KF}{sl:Array (Option GT)}(q:h.get? e=u5 #[.ref C,od,.fields vs,sl]):ObjOk P w H h e (XO e C od):=
 #[#[vs,sl,q],#[_,q],λh1 h2 ⟨vs,sl,q⟩ k=>#[vs,sl,k _ q]]
end
variable{B F:Hp}
def RepS.unset{z:SD}{s:L2.St}{i:Nat}(h:RepS K B F H z s):RepS K B F H (z.set i A') (s.set i A'):=by
 have get:∀{j:Nat} {x:D},(z.set i A')[j]?=u5 (u5 x)->j≠i/\z[j]?=u5 (u5 x):=λ{j x} e=>by
  by_cases hj:i=j
  .subst hj;rw[EH]at e;simp at e
  .rw[DL hj]at e;exact#[λz=>hj z.symm,e]
 refine#[by rw[Ej,Ej];exact h.len,λj x e nx=>?_,λj ds e=>?_,λj k dj dk a e1 e2 e3 e4=>?_]
 .obtain⟨hj,e⟩:=get e;rw[DL (λz=>hj z.symm)];exact h.val j x e nx
 .obtain⟨hj,e⟩:=get e;rw[DL (λz=>hj z.symm)];exact h.own j ds e
 .obtain⟨hj,e1⟩:=get e1;obtain⟨hk,e2⟩:=get e2;rw[DL (λz=>hj z.symm)]at e3;rw[DL (λz=>hk z.symm)]at e4;exact h.apart j k dj dk a e1 e2 e3 e4
abbrev TH:=G8->List (G8×D)->TSD
def DH(X:Cx)[J:Jx](hs:List P1)(th:TH):Prop:=
 ∀(pins:List (KF×PX)) (s:KB) (σ:L2.St) (H:Hp) (D:Ends) (e C:KF) (od:Option KF) (T:KF) (x:G8) (fs:List (G8×My.D)) (B F0 F:Hp) (z:SD) (ED:EndsD),Inv X pins σ H s->Held X pins H s e C od T->Kept B F0 F H->RepS X.K B F H z σ->ErrD X.K F x fs C od->
  th x fs ED z->EndsOk X.K B F0 ED D->Px (Pt X.prog X.w) X.A (QO (.ref e) X.env hs) (SP X pins D) X.xe s
structure WDH(X:Cx)[Jx](hs:List P1)(th:TH):Prop where
 out:DH X hs th
section
variable {X:Cx}[J:Jx]{es:List G8}{c:G8}{b₀:Py}{q9:List Py}{pos pc:PK}{rest:List P1}{t:TSD}{r:TH}
def xE:TH:=λ_ _ _ _=>False
def xF(es:List G8)(c:G8)(t:TSD)(r:TH):TH:=λx fs E z=>(x∈es/\c∈es)/\if subE x c=true then t E z else r x fs E z
def dHas(es:List G8)(c:G8)(i:Nat)(t:TSD)(r:TH):TH:=λx fs E z=>(x∈es/\c∈es)/\if subE x c=true then t {nx:=λz'=>E.nx (z'.set i A'),rt:=E.rt,bk:=λz'=>E.bk (z'.set i A'),ct:=λz'=>E.ct (z'.set i A')} (z.set i (u5 (.exc x fs)))else r x fs E z
def xG:WDH X [] xE:=#[λ_ _ _ _ _ _ _ _ _ _ _ _ _ _ _ _ _ _ _ _ _ h _=>h.elim]
def qB(hE:ErrsK X.K X.mg es)(hs:∀e,WDSs (X.held e) (b₀::q9) t)(hr:WDH X rest r)(hg:autoParam (Gl X c) zA0)(e_:autoParam (zND c) zA1):WDH X (.ExceptHandler (u5 (.Name c pc)) A' (b₀::q9) pos::rest) (xF es c t r):=⟨by
 have hs:=λe=>(hs e).out;have hr:=hr.out;intro pins s σ H D e C od T x fs B F0 F z ED I hd k rs er ht ee;obtain⟨⟨Il,Im⟩,ht⟩:=ht;obtain⟨Cc,Nc,N1,kc⟩:=hE.cls c Im;obtain⟨GS,Nx,N2,kx⟩:=hE.cls x Il;obtain rfl:GS=C:=by have h1:=kx.ns;rw[er.1]at h1;cases h1;rfl
 have hb:=hE.has Il Im kx kc;obtain⟨nm,q,bs,sn,sub,ab,col,dd,k0,k1,k2,k3,k5,lk⟩:=kx.obj;obtain⟨Kn,q',Ko,Kp,Hl,Kq,Hm,Ik,Kr,Ks,Kt,Ku,Kv,Kw⟩:=kc.obj;refine Ra (Q4 (cu (X:=X.held e) (Inv.held I) hg kc.mg ?_ e_)) (by intro q;cases q);obtain⟨sl,vs,oT,ts,he,h1,s9,hT,k6,h3⟩:=id hd.ex;refine qA (g:=s.gens) (d:=s.drawn) (t:=s.toks) (os:=s.os) (I.kIn _ _ lk) (I.kIn _ _ Kw) he rfl kc.base hb ?_;cases v9:subE x c with
 |true=>
  rw[v9,if_pos rfl]at ht;refine codeAny_handlers_suite (fv hd.ex λh' g8 st'=>?_);obtain⟨I',_⟩:=Held.flight I hd g8 st';exact PP (hs e pins _ σ H D (Inv.held I') #[B,F0,F,z,k,rs,ED,ht,ee]) (λf s1 q=>SP.unheld I.ok q) λ_ _ z=>False.elim z
 |false=>
  rw[v9,if_neg DK]at ht;exact hr pins s σ H D e GS od T x fs B F0 F z ED I hd k rs er ht ee⟩
def xH(i:Nat){n:G8}(hE:ErrsK X.K X.mg es)(hN:X.N.Nodup)(hs:∀e,WDSs (X.held e) (b₀::q9) t)(hr:WDH X rest r)(hg:autoParam (Gl X c) zA0)(hi:autoParam (X.N[i]?=u5 n) zA0)(hk:autoParam (X.env.scope.names.lookup n=u5 .local) zA0)(e_:autoParam (zND c) zA1):WDH X (.ExceptHandler (u5 (.Name c pc)) (u5 n) (b₀::q9) pos::rest) (dHas es c i t r):=⟨by
 have hs:=λe=>(hs e).out;have hr:=hr.out;intro pins s σ H D e C od T x fs B F0 F z ED I hd k rs er ht ee;obtain⟨⟨Il,Im⟩,ht⟩:=ht;obtain⟨Cc,Nc,N1,kc⟩:=hE.cls c Im;obtain⟨GS,Nx,N2,kx⟩:=hE.cls x Il;obtain rfl:GS=C:=by have h1:=kx.ns;rw[er.1]at h1;cases h1;rfl
 have hb:=hE.has Il Im kx kc;obtain⟨nm,q,bs,sn,sub,ab,col,dd,k0,k1,k2,k3,k5,lk⟩:=kx.obj;obtain⟨Kn,q',Ko,Kp,Hl,Kq,Hm,Ik,Kr,Ks,Kt,Ku,Kv,Kw⟩:=kc.obj;refine Ra (Q4 (cu (X:=X.held e) (Inv.held I) hg kc.mg ?_ e_)) (by intro q;cases q);obtain⟨sl,vs,oT,ts,he,h1,s9,hT,k6,h3⟩:=id hd.ex;refine qA (g:=s.gens) (d:=s.drawn) (t:=s.toks) (os:=s.os) (I.kIn _ _ lk) (I.kIn _ _ Kw) he rfl kc.base hb ?_;cases v9:subE x c with
 |true=>
  rw[v9,if_pos rfl]at ht;refine codeAny_handlers_suite_as (fv hd.ex λh' g8 st'=>?_);obtain⟨I',i6⟩:=Held.flight I hd g8 st';obtain⟨t9,q8,_,_,Kx,_⟩:=id g8;have I2:Inv X pins σ (upd H e (XO e GS od)) {s with heap:=h'}:=Inv.adopt I' hd.He (XO.ok Kx) hd.e0 (gG I' Kx rfl) (fld_cell I' Kx rfl) hd.eP;refine dP (X:=X.held e) (v:=.ref e) (Inv.held I2) hN hi (.inl hk) rfl (λs2 I3=>?_) (.inr hk);have g:=Grow.new k.fh hd.He (XO e GS od);obtain⟨ns,ws,rf,Ky⟩:=er;have rep:Rep X.K (upd F e (XO e GS od)) (.exc x fs) (.ref e):=rep_exc.mpr #[e,GS,od,ws,rfl,ns,aA,RepF.mono g.ff fs ws rf,Ky.imp id λ⟨b,q1,q2⟩=>#[b,q1,g.ff _ _ q2]];have N3:EndsOk X.K B F0 {nx:=λz'=>ED.nx (z'.set i A'),rt:=ED.rt,bk:=λz'=>ED.bk (z'.set i A'),ct:=λz'=>ED.ct (z'.set i A')} {nx:=λσ' H'=>D.nx (σ'.set i A') H',rt:=D.rt,bk:=λσ' H'=>D.bk (σ'.set i A') H',ct:=λσ' H'=>D.ct (σ'.set i A') H'}:=
   #[λz' s' F' H' k hz r=>ee.nx _ _ F' H' k hz (RepS.unset r),ee.rt,λz' s' F' H' k hz r=>ee.bk _ _ F' H' k hz (RepS.unset r),λz' s' F' H' k hz r=>ee.ct _ _ F' H' k hz (RepS.unset r)]
  refine PP (hs e pins s2 _ _ _ I3 #[B,F0,_,_,k.grow g,(rs.grow g).set rep,_,ht,N3]) (λf s3 q=>?_) λ_ _ z=>False.elim z;have q':=SP.unheld I.ok q;cases f with
  |next=>obtain⟨σ',H',I4,q4⟩:=q';exact gE I4 hN hi hk λs5 I5=>#[_,H',I5,q4]
  |brk=>obtain⟨σ',H',I4,q4⟩:=q';exact gE I4 hN hi hk λs5 I5=>#[_,H',I5,q4]
  |cont=>obtain⟨σ',H',I4,q4⟩:=q';exact gE I4 hN hi hk λs5 I5=>#[_,H',I5,q4]
  |ret u=>obtain⟨v,σ',H',I4,rv,q4⟩:=q';exact gE I4 hN hi hk λs5 I5=>#[v,_,H',I5,rv,q4]
 |false=>
  rw[v9,if_neg DK]at ht;exact hr pins s σ H D e GS od T x fs B F0 F z ED I hd k rs er ht ee⟩
end
abbrev _root_.L2.Cx.tried(X:Cx)(pn:List (KF×PX))(xe:GT->KB->Prop):Cx:={X with pn:=pn,xe:=xe}
section
variable {X:Cx}{pn pins:List (KF×PX)}{xe:GT->KB->Prop}{σ:L2.St}{H:Hp}{s:KB}
def Cx.Ok.tried(ok:X.Ok):(X.tried pn xe).Ok:=#[ok.mod,ok.kind,ok.glob,ok.blt,ok.above,ok.inj,ok.has,ok.cab,ok.hd,ok.frames,ok.stk,ok.exf,ok.bs,ok.bsz,ok.noex,ok.exfs,ok.funs,ok.frf]
def Inv.tried(I:Inv X pins σ H s):Inv (X.tried (X.pn++pins) xe) [] σ H s:=#[Cx.Ok.tried I.ok,I.os,I.bare,I.base,I.loc,I.cell,I.free,I.freeC,λp hp=>I.pin p (by simpa using hp),I.hok,I.len]
def Inv.untried(ok:X.Ok)(I:Inv (X.tried (X.pn++pins) xe) [] σ H s):Inv X pins σ H s:=#[ok,I.os,I.bare,I.base,I.loc,I.cell,I.free,I.freeC,λp hp=>I.pin p (by simpa using hp),I.hok,I.len]
def SP.untried{D:Ends}{f:Flow}{s':KB}(ok:X.Ok)(h:SP (X.tried (X.pn++pins) xe) [] D f s'):SP X pins D f s':=by
 cases f with
 |next=>obtain⟨σ',H',I,q⟩:=h;exact#[σ',H',Inv.untried ok I,q]
 |brk=>obtain⟨σ',H',I,q⟩:=h;exact#[σ',H',Inv.untried ok I,q]
 |cont=>obtain⟨σ',H',I,q⟩:=h;exact#[σ',H',Inv.untried ok I,q]
 |ret u=>obtain⟨v,σ',H',I,r,q⟩:=h;exact#[v,σ',H',Inv.untried ok I,r,q]
end
variable{RX:SD->XD}
def Kept.re{J:Jx}{F0:Hp}(k:@Kept J B F0 F H):@Kept #[B,F0,RX] B F0 F H:=@Kept.mk #[B,F0,RX] B F0 F H k.bh k.fh k.f0 k.out rfl (Same.refl F0) (λ_ h _=>h)
def Kept.un{J:Jx}{F0 F' H':Hp}(k:@Kept J B F0 F H)(k':@Kept #[B,F0,RX] B F0 F' H'):@Kept J B F0 F' H':=by
 obtain⟨a,b,c,d,_,_,_⟩:=k';exact @Kept.mk J B F0 F' H' a b c d k.eb k.jf k.jo
variable{hs:List P1}
def try_core{h₀:P1}{σ':L2.St}{H':Hp}{s':KB}{D:Ends}{xe:GT->KB->Prop}(I2:Inv X pins σ' H' s')
  (hd:Exd (X.tried (X.pn++pins) xe) H' s' e C od) (hex:X.ex=[]) (hstk:X.stack=X.env::X.outer) (hfr:X.env.frame=u5 X.env.locals)
  (hh:∀s4 T2,Inv X pins σ' H' s4->Held X pins H' s4 e C od T2->Px (Pt X.prog X.w) X.A (QO (.ref e) X.env (h₀::hs)) (SP X pins D) X.xe s4):
  Px (Pt X.prog X.w) X.A (Qk (.ref e) X.env) (λ_ s₂=>Px (Pt X.prog X.w) X.A (QH (.ref e) A') (λ_ s₃=>Px (Pt X.prog X.w) X.A (QO (.ref e) X.env (h₀::hs)) (SP X pins D) X.xe s₃) X.xe s₂) X.xe s':=by
 obtain⟨He,e0,eP,hd⟩:=hd;have stk:s'.heap.FunFrames X.base (X.env::X.outer):=by rw[<-hstk];exact I2.stack
 have Mq:X.A.frames=u5 (X.env::X.outer):=by rw[<-hstk];exact I2.ok.frames
 have c9:∀(v_:Heap) (T2:KF) (ex:List KF),(∀b∈ex,H' b=A'/\X.s₀.heap.get? b=A'/\(∃o vs,s'.heap.get? b=u5 o/\o.data=.fields vs)/\∀p∈X.pn++pins,p.1≠b)->ExAt v_ e C od T2 (Qr X.env.locals)->(H' T2=A'/\X.s₀.heap.get? T2=A'/\∀p∈X.pn++pins,p.1≠T2)->Stay (frs (X.env::X.outer)) ex s'.heap v_->
   Px (Pt X.prog X.w) X.A (QH (.ref e) A') (λ_ s₃=>Px (Pt X.prog X.w) X.A (QO (.ref e) X.env (h₀::hs)) (SP X pins D) X.xe s₃) X.xe {s' with heap:=v_}:=by
  intro v_ T2 ex w6 u6 y_ p9;obtain⟨H9,T0,TP⟩:=y_;have I3:Inv X pins σ' H' {s' with heap:=v_}:=Inv.stay I2 p9 (λb hb=>by rw[hstk];exact hb) (λb hb=>(w6 b hb).1) (λb hb=>(w6 b hb).2.1) (λb hb=>let ⟨_,_,q1,q2⟩:=(w6 b hb).2.2.1;gG I2 q1 q2) (λb hb=>let ⟨_,_,q1,q2⟩:=(w6 b hb).2.2.1;fld_cell I2 q1 q2) (λb hb=>(w6 b hb).2.2.2);obtain⟨sl,vs,oT,ts,he,g1,s9,hT,k6,g3⟩:=id u6;refine fv (s:={s' with heap:=v_}) u6 λh3 H8 y9=>?_;have I4:Inv X pins σ' H' {s' with heap:=h3}:=Inv.stay (s:={s' with heap:=v_}) I3 y9 (λb hb=>by cases hb) (λb hb=>by rw[Ds.mp hb];exact H9) (λb hb=>by rw[Ds.mp hb];exact T0) (λb hb=>by rw[Ds.mp hb];exact gG I3 hT k6) (λb hb=>by rw[Ds.mp hb];exact fld_cell I3 hT k6) (λb hb=>by rw[Ds.mp hb];exact TP);exact hh _ T2 I4 #[H8,He,H9,e0,T0,eP,TP]
 have new:∀T2,s'.heap.objs.size<=T2->H' T2=A'/\X.s₀.heap.get? T2=A'/\∀p∈X.pn++pins,p.1≠T2:=λT2 z=>
  have Hv:s'.heap.get? T2=none:=Heap.get?_none_of_le z
  ⟨gD I2.hok Hv,cI I2 hex Hv,λp hp z=>by
   have:=(I2.pin p hp).1;rw[z,Hv]at this;cases this⟩
 rcases hd with⟨sl,vs,he,hv⟩|⟨T,fl,Jh,T0,HT,TP⟩
 .refine pi Mq stk hfr he hv λv_ T2 u6 y_ p9=>c9 v_ T2 [e] (λb hb=>?_) u6 (new T2 y_) p9;rw[Ds.mp hb];exact#[He,e0,#[_,_,he,rfl],eP]
 .obtain⟨sl,vs,oT,ts,he,g1,s9,hT,k6,g3⟩:=id Jh;refine pj Mq stk hfr Jh λv_ T2 u6 y_ p9=>c9 v_ T2 [T,e] (λb hb=>?_) u6 (y_.elim (λz=>by rw[z];exact#[HT,T0,TP]) (new T2)) p9;rcases Dw.mp hb with z|z
  .rw[z];exact#[HT,T0,#[_,_,hT,k6],TP]
  .rw[Ds.mp z];exact#[He,e0,#[_,_,he,rfl],eP]
def dTry(tb:Jx->TSD)(th:TH):TSD:=λE z=>∃RX:SD->XD,(∀J:Jx,J.RX=RX->tb J E z)/\∀z' x fs,RX z' x fs->th x fs E z'
def xI[J:Jx]{body:List Py}{h₀:P1}{tb:Jx->TSD}{th:TH}
  (hb:∀(pn:List (KF×PX)) (xe:GT->KB->Prop) (J':Jx),P3 (Pt X.prog X.w) X.A X.env xe->@XOk (X.tried pn xe) J'->@DSs (X.tried pn xe) J' body (tb J'))
  (hh:DH X (h₀::hs) th) (hex:autoParam (X.ex=[]) zA0) (hstk:autoParam (X.stack=X.env::X.outer) zA0) (hfr:autoParam (X.env.frame=u5 X.env.locals) zA0):DS X (.Try body (h₀::hs) [] [] pos) (dTry tb th):=by
 intro pins s σ H D I h;obtain⟨B,F0,F,z,k,rs,ED,⟨RX,h1,h2⟩,ee⟩:=h;have ok:=I.ok;have hx:@XOk (X.tried (X.pn++pins) (λe s₁=>Px (Pt X.prog X.w) X.A (Qk e X.env) (λ_ s₂=>Px (Pt X.prog X.w) X.A (QH e A') (λ_ s₃=>Px (Pt X.prog X.w) X.A (QO e X.env (h₀::hs)) (SP X pins D) X.xe s₃) X.xe s₂) X.xe s₁)) #[B,F0,RX]:=by
  intro σ' z' F' H' s' e C od x fs I1 kk rr hR er hd;exact try_core (Inv.untried ok I1) hd hex hstk hfr λs4 T2 I4 hl=>hh pins _ σ' H' D e C od T2 x fs B F0 F' z' ED I4 hl (Kept.un k kk) rr er (h2 z' x fs hR) ee
 refine wpAny_Try_except (PP (hb (X.pn++pins) _ #[B,F0,RX] PassesOwn.looking hx [] s σ H D (Inv.tried I) ?_) (λf s1 q=>?_) λe s1 q=>q)
 .refine#[B,F0,F,z,Kept.re k,rs,ED,h1 #[B,F0,RX] rfl,@EndsOk.mk #[B,F0,RX] _ _ _ _ _ (λz' s' F' H' k'=>ee.nx z' s' F' H' (Kept.un k k')) (λd v F' H' k'=>ee.rt d v F' H' (Kept.un k k')) (λz' s' F' H' k'=>ee.bk z' s' F' H' (Kept.un k k')) (λz' s' F' H' k'=>ee.ct z' s' F' H' (Kept.un k k'))]
 .have q:=SP.untried ok q;cases f with
  |next=>exact Qc q
  |ret v=>exact q
  |brk=>exact q
  |cont=>exact q
def ErrG(K:Dr)(f y:G8):Prop:=∃C cd,ErrA K y C cd/\DD K (.ref C) "__getattribute__"=u5 (u5 (.builtin "BaseException.__getattribute__"))/\DD K (.ref C) "__getattr__"=u5 A'/\DD K (.ref C) f=u5 A'
def xJ(ys:List G8)(f:G8)(te:TD):TD:=λz R=>te z λd=>match d with|.exc y fs=>y∈ys/\∃d,fs.lookup f=u5 d/\R d|_=>False
def xK[J:Jx]{e:Pu}{te:TD}{ys:List G8}{f:G8}(hG:∀y∈ys,ErrG X.K f y)(he:WDE X e te)(hb:autoParam (PF e f X.env (PM e X.env)=PM e X.env) zA0):WDE X (.Attribute e f pos) (xJ ys f te):=⟨by
 have he:=he.out;intro pins s σ H Q I h;obtain⟨B,F,z,kf,rs,R,h1,h2⟩:=h;refine attr_of hb (thn (he pins s σ H (λv H1=>∃F1 x fs,Grow F H F1 H1/\Rep X.K F1 (.exc x fs) v/\x∈ys/\∃d,fs.lookup f=u5 d/\R d) I #[B,F,z,kf,rs,_,h1,λd v F1 H1 g1 hx rx=>?_]) λu s1 ⟨v,H1,I1,rv,F1,x,fs,g1,rx,hy,d,hl,hR⟩=>?_)
 .split at hx
  .obtain⟨hy,d,hl,hR⟩:=hx;exact#[F1,_,_,g1,rx,hy,d,hl,hR]
  .exact hx.elim
 .obtain⟨a,C,od,vs,rfl,hn,N4,rf,Ky⟩:=rep_exc.mp rx;obtain rfl:u=Value.ref a:=rv;obtain⟨C',cd,ea,ga,gb,hf⟩:=hG x hy;have j9:=ea.ns;rw[hn]at j9;cases j9;obtain⟨q8,sl,l_⟩:=(I1.hok a _ (g1.fh _ _ N4)).1;obtain⟨w',hw,m_⟩:=rf.look hl;rcases Ky with⟨_,e2⟩|⟨b,rfl,l8⟩
  .rw[e2]at hw;cases hw
  .obtain⟨mA,hns,Io⟩:=(show ObjOk X.prog X.w H1 s1.heap b (.xd vs)from I1.hok b _ (g1.fh _ _ l8));obtain⟨uv,hu,ru⟩:=RelO.some_of (v:=w') (o:=mA f) (by rw[<-hw];exact Io f);obtain⟨N5,ho,look⟩:=oy hns;have Kz:hasDictIn X.K C=true:=by unfold hasDictIn;rw[ea.cl];exact ea.hd
   exact we (K:=X.K) (ox:=#[.ref C,u5 b,.fields q8,sl]) (od:=N5) I1.kIn #[l_,rfl,rfl,ho] ea.cl ea.mro ga gb (findObj_own Kz hf rfl (by rw[look,hu])) (oB ru) λtk=>#[w',H1,I1.tok tk,ru,h2 d w' F1 H1 g1 hR m_]⟩
def xL:tailIn K veLine veLine=true:=by
 unfold tailIn;rfl
def qC{c:GT}{d:Option KF}{es:Array DictEntry}{ep:Nat}(l:K.lookup N=u5 #[c,d,.dict es ep,sl])(h:es.toList.all (λe=>match e.key with|.str _ _=>true|_=>false)=true):nsOkIn K N=true:=by
 unfold nsOkIn;rw[l];dsimp only;rw[<-Gc];exact h
def xM{M:KF}{c0:GT}{dd:Option KF}{cd:ClassData}(l:K.lookup M=u5 #[c0,dd,.cls cd,sl])(hn:cd.ns=N)(h1:nsOkIn K N=true)(h2:nsIn K N "__init__"=u5 A'):tailIn K veLine (.ref M::veLine)=true:=by
 unfold tailIn;subst hn;dsimp only;rw[l];dsimp only;rw[h1,h2,xL];simp
def xN(S:SpX):SpD:=λds R=>S ds R λ_ _=>False
def CalX.no{base:Heap}{n:Nat}{S:SpX}(C:CalX P w K mg base n x ps S):CalD P w K mg base n x ps (xN S):=by
 obtain⟨f,fd,F,hb,hk,hm⟩:=C;refine#[f,fd,F.imp λvs H Q E h=>?_,hb,hk,hm];obtain⟨F,ds,fh,rs,R,h,q⟩:=h;exact#[F,ds,fh,rs,R,_,h,q,λ_ _ _ _ _ _ _ z=>z.elim]
end My
namespace My
def repS(x:G8)(n:Nat):Str:=#[(DG n x.cps.toList).flatten.toArray]
def qD(x:G8)(n:Nat):(DG n x.cps).foldl (·++·) [].toArray=(DG n x.cps.toList).flatten.toArray:=by
 have:∀(m:Nat) (f_:List Nat),(DG m x.cps).foldl (·++·) f_.toArray=(f_++(DG m x.cps.toList).flatten).toArray:=by
  intro m;induction m with
  |zero=>intro f_;simp
  |succ m ih=>
   intro f_;rw[Ee,F5,Ee,Es,<-D0];rw[show f_.toArray++x.cps=(f_++x.cps.toList).toArray by simp];exact ih _
 have h:=this n [];simpa using h
def qE(x:G8)(n:Nat):(repS x n).length=n*x.length:=by
 show(DG n x.cps.toList).flatten.toArray.size=n*x.cps.size;rw[Dz];induction n with
 |zero=>simp
 |succ n ih=>rw[Ee,Es,DB,ih,E3,Ft];simp
def qF{α:Type}(l:List α):∀m:Nat,(D9 m).filterMap (λk=>l[k]?)=l.take m
 |0=>by simp
 |m+1=>by
  rw[List.range_succ,List.filterMap_append,qF l m,Gd];cases h:l[m]?<;>simp[h]
def xO(lo hi:Option Int)(n:Nat):Builtin.Str.strSliceIndices lo hi 1 n=(D9 (HT.sIx n n hi-HT.sIx n 0 lo)).map λk=>HT.sIx n 0 lo+k:=by
 have GU:∀(i:Int) (d:Nat),max 0 (min (if i<0 then i+(n:Int)else i) (n:Int))=((HT.sIx n d (u5 i):Nat):Int):=by
  intro i d;show max 0 (min (if i<0 then i+(n:Int)else i) (n:Int))=(((if i<0 then(i+(n:Int)).toNat else min i.toNat n):Nat):Int);by_cases h:i<0
  .rw[if_pos h,if_pos h];lia
  .rw[if_neg h,if_neg h];lia
 have h1:Builtin.Str.strSliceIndices lo hi 1 n=sliceRange ((HT.sIx n 0 lo:Nat):Int) ((HT.sIx n n hi:Nat):Int) 1:=by
  unfold Builtin.Str.strSliceIndices;simp only[show(1:Int)>0 by decide,if_true];cases lo with
  |none=>cases hi with
   |none=>rfl
   |some j=>rw[<-GU j n];rfl
  |some i=>cases hi with
   |none=>rw[<-GU i 0];rfl
   |some j=>rw[<-GU i 0,<-GU j n]
 rw[h1];unfold sliceRange;simp only[show(1:Int)>0 by decide,if_true];have e3:(if((HT.sIx n 0 lo:Nat):Int)<((HT.sIx n n hi:Nat):Int)then(((HT.sIx n n hi:Nat):Int)-((HT.sIx n 0 lo:Nat):Int)+1-1)/1 else 0).toNat=HT.sIx n n hi-HT.sIx n 0 lo:=by
  split<;>lia
 rw[e3];apply List.map_congr_left;intro k _;lia
def slice_cps(y:G8)(lo hi:Option Int):Txt.slice y lo hi=#[((y.cps.toList.drop (HT.sIx y.length 0 lo)).take (HT.sIx y.length y.length hi-HT.sIx y.length 0 lo)).toArray]:=by
 have la:HT.sIx y.length 0 lo<=y.length:=HT.sIx_le _ _ (DO _) lo;have lb:HT.sIx y.length y.length hi<=y.length:=HT.sIx_le _ _ (Dt _) hi;unfold Txt.slice;rw[xO];split
 .rename_i h;have hl:HT.sIx y.length y.length hi-HT.sIx y.length 0 lo=y.length:=by simpa using h
  have ha:HT.sIx y.length 0 lo=0\/y.length=0:=HN
  rw[hl];obtain⟨cp⟩:=y;have e:(FD (HT.sIx (Str.mk cp).length 0 lo) cp.toList)=cp.toList:=by
   rcases ha with ha|ha
   .rw[ha];rfl
   .have:cp=[].toArray:=Ge ha;subst this;simp
  show(#[cp]:G8)=#[((FD (HT.sIx (Str.mk cp).length 0 lo) cp.toList).take cp.size).toArray];rw[e,List.take_of_length_le HV]
 .congr 2;rw[FZ];have:=qF (y.cps.toList.drop (HT.sIx y.length 0 lo)) (HT.sIx y.length y.length hi-HT.sIx y.length 0 lo);rw[<-this];congr 1;funext k;simp
section
variable {X:Cx}[J:Jx]{a b c e:Pu}{ta tb tc te:TD}{pos:PK}
def qG:R2:=λx y H Q=>∃i n,x=.str i/\y=.int n/\(-(2^62)<=n/\n<=1000000/\i.length*n.toNat<=1000000)/\Q (.str (repS i n.toNat)) H
def xP:OpR X (PR .Mult) qG:=by
 intro pins s σ H x y v u Q I rx ry h;obtain⟨i,n,rfl,rfl,⟨h1,h2,h3⟩,q⟩:=h;obtain⟨t,rfl⟩:=rx;obtain⟨t',rfl⟩:=ry;have c9:∀tk t2,EP X pins σ Q (.str (repS i n.toNat) t2) {s with toks:=tk}:=λtk t2=>#[.str _,H,I.tok tk,#[_,rfl],q];have hs:i.length*n.toNat<=sizeLine:=Dy h3 G_;refine PySem.P.mul_str (by
  have a1:¬n< -(2^63:Int):=HN
  have a2:¬n>=2^63:=HN
  rw[decide_eq_false a1,decide_eq_false a2];rfl) (λn1 n2 hg=>?_) (λn1 n2=>?_) ?_
 .have hn:0<n:=by lia
  have h5:(2^63-1)/n>=1000000000000:=by
   have:(1000000000000:Int)*n<=2^63-1:=by lia
   exact Int.le_ediv_of_mul_le hn this
  have h6:i.length<=1000000:=by
   have:i.length*1<=i.length*n.toNat:=Gf _ HN;lia
  lia
 .unfold Builtin.Str.tooLong;exact decide_eq_false HN
 .by_cases c1:n<1
  .rw[if_pos c1];have e0:n.toNat=0:=by lia
   have:=c9 (s.toks+1) s.toks;rw[e0]at this;exact#[DO _,this]
  .rw[if_neg c1];by_cases c2:(n==1||i.length==0)=true
   .rw[if_pos c2];have e1:repS i n.toNat=i:=by
     rcases Gb.mp c2 with c|c
     .have:n=1:=by simpa using c
      subst this;show(#[(DG 1 i.cps.toList).flatten.toArray]:G8)=i;simp
     .have h0:i.length=0:=by simpa using c
      have h1:i.cps=[].toArray:=Ge h0;obtain⟨cp⟩:=i;dsimp only at h1;subst h1;show(#[(DG n.toNat []).flatten.toArray]:G8)=#[[].toArray];simp
    have:=c9 s.toks t;rw[e1]at this;exact this
   .rw[if_neg c2];have:=c9 (s.toks+1) s.toks;unfold repS at this;rw[<-qD]at this;refine#[?_,this];show((DG n.toNat i.cps).foldl (·++·) [].toArray).size<=sizeLine;rw[qD,Dz];have:=qE i n.toNat;have e3:(repS i n.toNat).length=(DG n.toNat i.cps.toList).flatten.length:=by show(DG n.toNat i.cps.toList).flatten.toArray.size=_;rw[Dz]
    rw[<-e3,this,Fv];exact hs
def rdMulX:RD2:=λx y R=>match x,y with
 |.int i,.int j=>CMul i j/\R (.int (i*j))
 |.str i,.int n=>(-(2^62)<=n/\n<=1000000/\i.length*n.toNat<=1000000)/\R (.str (repS i n.toNat))
 |.lst xs,.int n=>(-(2^62)<=n/\n<=1000000/\xs.length*n.toNat<=1000000)/\R (.lst (DG n.toNat xs).flatten)
 |_,_=>False
def Reps.rep{K:Dr}{F:Hp}{xs:List D}{us:List V}(r:Reps K F xs us):∀n:Nat,Reps K F (DG n xs).flatten (DG n us).flatten
 |0=>reps_nil.mpr rfl
 |n+1=>by
  rw[Ee,Es,Ee,Es];exact r.append (Reps.rep r n)
def xQ{K:Dr}:aS K (λx y H Q=>rI CMul (λi j=>.int (i*j)) x y H Q\/(qG x y H Q\/rRep x y H Q)) rdMulX:=by
 intro x y u v F H R Q fh h rx ry q;unfold rdMulX at h;split at h
 .exact .inl #[_,_,rep_int.mp rx,rep_int.mp ry,h.1,q _ _ F H (Grow.refl fh) h.2 (rep_int.mpr rfl)]
 .exact .inr (.inl #[_,_,rep_str.mp rx,rep_int.mp ry,h.1,q _ _ F H (Grow.refl fh) h.2 (rep_str.mpr rfl)])
 .obtain⟨l,vs,rfl,hq,rr⟩:=rep_lst.mp rx;obtain⟨⟨h1,h2,h3⟩,h⟩:=h;refine .inr (.inr #[l,_,vs,rfl,rep_int.mp ry,fh _ _ hq,HN,HN,by rw[rr.length];exact Dy h3 G_,λp hp=>?_]);exact q _ _ _ _ (Grow.new fh hp _) h (rep_lst.mpr #[p,_,rfl,aA,(Reps.rep rr _).mono (aM (fh.free hp) _)])
 .exact h.elim
def xR(ha:WDE X a ta)(hb:WDE X b tb):WDE X (.BinOp a .Mult b pos) (dOp rdMulX ta tb):=#[have ha:=ha.out;have hb:=hb.out;cy (OpR.or oi (OpR.or xP pd)) xQ ha hb]
def xS:SlR X (λx lo hi H Q=>∃y,x=.str y/\y.length<=sizeLine/\Q (.str (Txt.slice y lo hi)) H):=by
 intro pins s σ H x v vl vu lo hi sl Q I rx hs pl pu h;obtain⟨y,rfl,hz,q⟩:=h;obtain⟨t,rfl⟩:=rx;have c9:∀t' k,EP X pins σ Q (.str (Txt.slice y lo hi) t') {s with toks:=k}:=λt' k=>#[.str _,H,I.tok k,#[_,rfl],q];have le:=Dy (Txt.slice_le y lo hi) hz;refine#["str",_,PySem.F.slot_str_getitem.lookup,Rf _ _ _,?_];cases pl with
 |none=>cases pu with
  |none=>exact P6 (l:=A') (u:=A') (st:=A') hs rfl (Qn #[le,c9])
  |int j tj=>exact P6 (l:=A') (u:=u5 (j,tj)) (st:=A') hs rfl (Qn #[le,c9])
 |int i ti=>cases pu with
  |none=>exact P6 (l:=u5 (i,ti)) (u:=A') (st:=A') hs rfl (Qn #[le,c9])
  |int j tj=>exact P6 (l:=u5 (i,ti)) (u:=u5 (j,tj)) (st:=A') hs rfl (Qn #[le,c9])
abbrev TDO:=SD->(Option Int->Prop)->Prop
def xT:TDO:=λ_ R=>R A'
def xU(te:TD):TDO:=λz R=>te z λx=>match x with|.int i=>R (u5 i)|_=>False
def lO(K:Dr)[J:Jx](t:TDO):TO:=λs H Q=>∃B F z,Kept B J.F0 F H/\RepS K B F H z s/\∃R:Option Int->Prop,t z R/\∀o F' H',Grow F H F' H'->R o->Q o H'
abbrev DPO(X:Cx)[Jx](e:Option Pu)(t:TDO):Prop:=PO X e (lO X.K t)
structure WDPO(X:Cx)[Jx](e:Option Pu)(t:TDO):Prop where
 out:DPO X e t
def PO.anti{X:Cx}{e:Option Pu}{t t':TO}(h:PO X e t)(a:∀s H Q,t' s H Q->t s H Q):PO X e t':=λpins s σ H Q I q=>h pins s σ H Q I (a _ _ _ q)
def bF:WDPO X A' xT:=⟨PO.anti oN λs H Q q=>by
 obtain⟨B,F,z,kf,rs,R,h1,h2⟩:=q;exact h2 A' F H (Grow.refl kf.fh) h1⟩
def bv(he:WDE X e te):WDPO X (u5 e) (xU te):=⟨have he:=he.out;PO.anti (oO he) λs H Q q=>by
 obtain⟨B,F,z,kf,rs,R,h1,h2⟩:=q;refine#[B,F,z,kf,rs,_,h1,λx u F1 H1 g1 hx rx=>?_];split at hx
 .exact#[_,rep_int.mp rx,h2 _ F1 H1 g1 hx]
 .exact hx.elim⟩
def rdSl:D->Option Int->Option Int->(D->Prop)->Prop:=λx lo hi R=>match x with
 |.str y=>y.length<=1000000/\R (.str (Txt.slice y lo hi))
 |.lst xs=>R (.lst (cutD xs lo hi))
 |.rol xs=>R (.lst (cutD xs lo hi))
 |.tup xs=>¬(HT.sIx xs.length 0 lo=0/\HT.sIx xs.length xs.length hi=xs.length)/\R (.tup (cutD xs lo hi))
 |_=>False
def dSl(ta:TD)(tl th:TDO):TD:=λz R=>ta z λx=>tl z λlo=>th z λhi=>rdSl x lo hi R
def bC{lo hi:Option Pu}{tl th:TDO}{p2:PK}(ha:WDE X a ta)(hl:WDPO X lo tl)(hu:WDPO X hi th):WDE X (.Subscript a (.Slice lo hi A' p2) pos) (dSl ta tl th):=⟨have ha:=ha.out;have hl:=hl.out;have hu:=hu.out;(oP (SlR.or xS (SlR.or oV vC)) ha hl hu).anti λs H Q q=>by
 obtain⟨B,F,z,kf,rs,R,h1,h2⟩:=q;refine#[B,F,z,kf,rs,_,h1,λx u F1 H1 g1 hx rx=>?_];refine#[B,F1,z,kf.grow g1,rs.grow g1,_,hx,λlo F2 H2 g2 hy=>?_];refine#[B,F2,z,(kf.grow g1).grow g2,(rs.grow g1).grow g2,_,hy,λhi F3 H3 g3 hw=>?_];have g:=g1.trans (g2.trans g3);have Jt:=(rx.mono g2.ff).mono g3.ff;unfold rdSl at hw;split at hw
 .exact .inl #[_,rep_str.mp Jt,Dy hw.1 G_,h2 _ _ F3 H3 g hw.2 (rep_str.mpr rfl)]
 .obtain⟨l,vs,rfl,hq,rr⟩:=rep_lst.mp Jt;refine .inr (.inl #[l,vs,rfl,SqL.of (g3.fh _ _ hq),λp hp=>?_]);exact h2 _ _ _ _ (g.trans (Grow.new g3.fh hp _)) hw (rep_lst.mpr #[p,_,rfl,aA,(rr.cut _ _).mono (aM (g3.fh.free hp) _)])
 .obtain⟨l,vs,rfl,hq,rr⟩:=rep_rol.mp Jt;refine .inr (.inl #[l,vs,rfl,g3.fh.seq hq,λp hp=>?_]);exact h2 _ _ _ _ (g.trans (Grow.new g3.fh hp _)) hw (rep_lst.mpr #[p,_,rfl,aA,(rr.cut _ _).mono (aM (g3.fh.free hp) _)])
 .obtain⟨l,vs,rfl,hq,rr⟩:=rep_tup_mp Jt;refine .inr (.inr #[l,vs,rfl,g3.fh.tup hq,by rw[rr.length];exact hw.1,λp hp=>?_]);exact h2 _ _ _ _ (g.trans (Grow.new g3.fh hp _)) hw.2 (rep_tupS.mpr #[p,_,rfl,aA,(rr.cut _ _).mono (aM (g3.fh.free hp) _)])
 .exact hw.elim⟩
def rdIn(neg:Bool):RD2:=λx y R=>match y with
 |.str j=>kdS x λi=>R (.bl (if neg then !(!(Builtin.Str.occurrences j i 0 j.length 1).isEmpty)else !(Builtin.Str.occurrences j i 0 j.length 1).isEmpty))
 |.lst ys=>(bE x=true/\ys.all bE=true)/\R (.bl (if neg then !(ys.any λy=>eqF y x)else ys.any λy=>eqF y x))
 |.rol ys=>(bE x=true/\ys.all bE=true)/\R (.bl (if neg then !(ys.any λy=>eqF y x)else ys.any λy=>eqF y x))
 |.tup ys=>(bE x=true/\ys.all bE=true)/\R (.bl (if neg then !(ys.any λy=>eqF y x)else ys.any λy=>eqF y x))
 |_=>False
def gH{K:Dr}{H:Hp}{x:D}{u:V}(rx:Rep K H x u)(fx:bE x=true):∀{ys:List D} {vs:List V},Reps K H ys vs->ys.all bE=true->inV u vs=ys.any λy=>eqF y x
 |[],vs,r,_=>by rw[reps_nil.mp r];rfl
 |y::ys,vs,r,f=>by
  obtain⟨v,vr,rfl,r1,r2⟩:=reps_cons.mp r;rw[EG,D6]at f;have ih:=gH rx fx r2 f.2;unfold inV at ih ⊢;rw[E2,E2,ih,pW r1 rx f.1 fx]
def rInV(K:Dr)(neg:Bool):R2:=λx y H Q=>(∃i j,x=.str i/\y=.str j/\Q (.bl (if neg then !(!(Builtin.Str.occurrences j i 0 j.length 1).isEmpty)else !(Builtin.Str.occurrences j i 0 j.length 1).isEmpty)) H)\/rIn K neg x y H Q
def gI{K:Dr}{neg:Bool}:aS K (rInV K neg) (rdIn neg):=by
 intro x y u v F H R Q fh h rx ry q;cases y with
 |str j=>
  replace h:=kdS.of h;obtain⟨i,rfl,h⟩:=h;exact .inl #[_,_,rep_str.mp rx,rep_str.mp ry,q _ _ F H (Grow.refl fh) h (rep_bl.mpr rfl)]
 |lst ys=>
  obtain⟨⟨f1,f2⟩,h⟩:=h;obtain⟨l,vs,rfl,hq,rr⟩:=rep_lst.mp ry;exact .inr #[l,vs,rfl,.inl (fh.seq (SqL.of hq)),gu rx f1,dZ rr f2,q _ _ F H (Grow.refl fh) h (rep_bl.mpr (by rw[gH rx f1 rr f2]))]
 |rol ys=>
  obtain⟨⟨f1,f2⟩,h⟩:=h;obtain⟨l,vs,rfl,hq,rr⟩:=rep_rol.mp ry;exact .inr #[l,vs,rfl,.inl (fh.seq hq),gu rx f1,dZ rr f2,q _ _ F H (Grow.refl fh) h (rep_bl.mpr (by rw[gH rx f1 rr f2]))]
 |tup ys=>
  obtain⟨⟨f1,f2⟩,h⟩:=h;obtain⟨l,vs,rfl,hq,rr⟩:=rep_tup_mp ry;exact .inr #[l,vs,rfl,.inr (fh.tup hq),gu rx f1,dZ rr f2,q _ _ F H (Grow.refl fh) h (rep_bl.mpr (by rw[gH rx f1 rr f2]))]
 |_=>exact False.elim h
def qH:OpR X (PJ .In) (rInV X.K false):=OpR.or uk vK
def qI:OpR X (PJ .NotIn) (rInV X.K true):=OpR.or vM vL
def ju(ha:WDE X a ta)(hb:WDE X b tb)(hm:autoParam (PQ .In b=false) zA0):WDE X (.Compare a [.In] [b] pos) (dOp (rdIn false) ta tb):=#[have ha:=ha.out;have hb:=hb.out;gm qH gI ha hb hm]
def xV(ha:WDE X a ta)(hb:WDE X b tb)(hm:autoParam (PQ .In b=false) zA0):WDT X (.Compare a [.In] [b] pos) (dTst (dOp (rdIn false) ta tb)):=#[have ha:=ha.out;have hb:=hb.out;cH qH gI ha hb hm]
def xW(ha:WDE X a ta)(hb:WDE X b tb)(hm:autoParam (PQ .NotIn b=false) zA0):WDT X (.Compare a [.NotIn] [b] pos) (dTst (dOp (rdIn true) ta tb)):=#[have ha:=ha.out;have hb:=hb.out;cH qI gI ha hb hm]
def qJ{n m:Nat}{S:SpD}{x:G8}{p:PK}(C:CalD X.prog X.w X.K X.mg X.base n x [] S)(hr:Room m X.A)(hg:autoParam (Gl X x) zA0)(hn:autoParam (n<=m) zA1)(e_:autoParam (zND x) zA1):WDE X (.Call (.Name x p) [] [] pos) (pJ S dNil):=⟨by
 obtain⟨f,fd,F,hb,hk,hm⟩:=C;refine(vo F (hr.mono hn) hg hm hk hb .nil dX e_).anti λs H Q h=>?_;obtain⟨B,F,z,kf,rs,R,h1,h2⟩:=h;exact#[F,[],kf.fh,reps_nil.mpr rfl,R,h1,h2]⟩
end
end My
namespace L2
def Its(x:G8):It:=#[λi _=>i<x.length,λi H v H'=>H'=H/\∃c,x.cps[i]?=u5 c/\v=.str #[[c].toArray],λi _=>x.length<=i]
def xX{P:Pw}{w:Pz}{K:Dr}{tg:Pu}(x:G8)(t:Tok)(it:KF):Turn P w K tg (Its x) [it] it (λi h=>h.IsStrIter it "str_ascii_iterator" x t i) where
 mem:=HV
 obj:=λi h st b hb=>by
  have e:b=it:=by simpa using hb
  subst e;obtain⟨o,e,c,d⟩:=st;exact#[o,e,λv z=>by rw[d]at z;cases z]
 keep:=λi h h' st k=>by
  obtain⟨o,e,r⟩:=st;exact#[o,k it HV o e,r]
 item:=by
  intro X hP hw hK hc i pins s σ H E I hf st hg;subst hP hw hK;have hi:i<x.cps.size:=hg;obtain⟨f0,f1,f2,f3,f4,f5⟩:=hf it HV;refine wpAny_pyNext_ascii_item st (c:=x.cps[i]) (Gg hi) λh' st' sb=>?_;have I1:Inv X pins σ H {s with heap:=h',toks:=s.toks+1}:=I.turned (t':=s.toks+1) (λb o hb e=>(sb.2 b hb).trans e) f0 f1 f3 f4 f5;obtain⟨o,e,c,d⟩:=id st';exact#[_,rfl,iQ (s:={s with heap:=h',toks:=s.toks+1}) e c d G_ #[.str #[[x.cps[i]].toArray],H,I1,#[_,rfl],#[rfl,_,Gg hi,rfl],st',λb hb=>(hf b hb).1]]
 done:=by
  intro X hP hw hK hc i pins s σ H E I hf st hg;subst hP hw hK;have hi:x.cps.size<=i:=hg;obtain⟨f0,f1,f2,f3,f4,f5⟩:=hf it HV;exact wpAny_pyNext_ascii_end (I.ok.hd hc) st (Array.getElem?_eq_none hi) λh' eb=>#[rfl,I.turned (t':=s.toks) (λb o hb e=>eb b o hb e) f0 f1 f3 f4 f5]
 self:=λA i s Q E st hQ=>wpAny_pyIter_striter_ascii st hQ
def iStr(tl:TE):TI:=λσ H R=>tl σ H λv H1=>∃x,v=.str x/\x.cps.all (·<128)=true/\R (Its x) H1
def xY{X:Cx}{tg l:Pu}{tl:TE}(hl:PE X l tl):PI X tg l (iStr tl):=by
 intro pins s σ H R I h;refine thn (hl pins s σ H _ I h) λv s1 b_=>?_;obtain⟨v1,H1,I1,r1,q1⟩:=b_;obtain⟨x,rfl,ha,q⟩:=q1;obtain⟨t,rfl⟩:=r1;refine wpAny_pyIter_ascii ha ?_;refine#[s1.heap.objs.size,[s1.heap.objs.size],_,_,H1,rfl,I1.kept (t':=s1.toks) λb o e=>Heap.get?_push_of_some _ e,xX x t _,#[_,Heap.get?_push_size _ rfl,rfl,rfl],λb hb=>?_,q];have e:b=s1.heap.objs.size:=by simpa using hb
 subst e;exact I1.fpOk (Dt _) (I1.hok.fresh (Dt _))
def xZ{x:G8}{g:TG}{tb:TS}{D:Ends}{σ:St}{H:Hp}(Pv:Nat->St->Hp->Prop)(h0:Pv 0 σ H)
  (hs:∀i c σ H,x.cps[i]?=u5 c->Pv i σ H->g (.str #[[c].toArray]) σ H λσ2 H2=>tb {D with nx:=Pv (i+1),ct:=Pv (i+1),bk:=D.nx} σ2 H2) (hd:∀σ H,Pv x.length σ H->D.nx σ H):
  ∃W:Nat->Nat->St->Hp->Prop,(∃m,W 0 m σ H)/\∀i m σ H,W i m σ H->
   ((Its x).stop i H/\D.nx σ H)\/((Its x).go i H/\∃N:St->Hp->Prop,(∀σ' H',N σ' H'->∃m',m'<m/\W (i+1) m' σ' H')/\∀v H',(Its x).yld i H v H'->g v σ H' λσ2 H2=>tb {D with nx:=N,ct:=N,bk:=D.nx} σ2 H2):=by
 refine#[λi m σ H=>m=x.length-i/\i<=x.length/\Pv i σ H,#[x.length,HV,DO _,h0],?_];rintro i m σ H ⟨rfl,hi,p⟩;by_cases g9:i<x.length
 .refine .inr #[g9,Pv (i+1),λσ' H' p'=>#[x.length-(i+1),HN,rfl,g9,p'],λv H' y=>?_];obtain⟨e,c,hc,rfl⟩:=y;subst e;exact hs i c σ _ hc p
 .have e:i=x.length:=by lia
  subst e;exact .inl #[Dt _,hd σ H p]
end L2
namespace My
section
variable {X:Cx}[J:Jx]{a b c e:Pu}{ta tb tc te:TD}{pos:PK}
def bQ(x:G8):List D:=x.cps.toList.map λc=>D.str #[[c].toArray]
def dItS(t:TD):TDI:=λz R=>t z λy=>match y with|.str x=>x.cps.all (·<128)=true/\R (bQ x)|_=>False
def qK{x:G8}{k c:Nat}(h:x.cps[k]?=u5 c):(bQ x)[k]?=u5 (.str #[[c].toArray]):=by
 unfold bQ;rw[D4,F6,h];rfl
def jv(x:G8):(bQ x).length=x.length:=by unfold bQ;rw[DJ];simp[Str.length]
def ya(i:Nat){x:G8}{p:PK}{body:List Py}{tb:TSD}(hp:P3 (Pt X.prog X.w) X.A X.env X.xe)(hc:X.calm=true)(hN:X.N.Nodup)(he:WDE X e te)(hb:WDSs X body tb)(hi:autoParam (X.N[i]?=u5 x) zA0)(hx:autoParam (Loc X.env.scope x) zA4)
  (hf:autoParam (zFN X x) zA2) (hs:autoParam (∀y,zFS X e y) zA3):WDS X (.For (.Name x p) e body [] pos) (dFor i (dItS te) tb):=⟨have he:=he.out;have hb:=hb.out;(dS hp hc (xY he) (fg hN hi hx hf) hb hs).anti λE s H q=>by
 obtain⟨B,F0,F,z,kp,rs,ED,h,e⟩:=q;refine#[B,F,z,kp.kf,rs,_,h,λd v F1 H1 g1 hd rd=>?_];split at hd
 .rename_i y;obtain⟨ha,W,w0,d9,out⟩:=hd;refine#[y,rep_str.mp rd,ha,xZ (λk s' H'=>∃F' z',Kept B F0 F' H'/\RepS X.K B F' H' z' s'/\W k z') #[F1,z,kp.grow g1,rs.grow g1,w0] ?_ ?_]
  .rintro k c s' H' hk⟨F',z',k',r',w'⟩;exact#[B,F0,F',_,k',r'.set (d:=.str #[[c].toArray]) (rep_str.mpr rfl),_,d9 k (.str #[[c].toArray]) z' (qK hk) w',#[λz3 s3 F3 H3 k3 h3 r3=>#[F3,z3,k3,r3,h3],e.rt,e.nx,λz3 s3 F3 H3 k3 h3 r3=>#[F3,z3,k3,r3,h3]]]
  .rintro s' H'⟨F',z',k',r',w'⟩;exact e.nx z' s' F' H' k' (out z' (by rw[jv];exact w')) r'
 .exact hd.elim⟩
variable {i_ iter:Pu}{x:G8}{px:PK}{scope:P4}{ti:TD}
end
section
variable {X:Cx}[J:Jx]{a b c e o:Pu}{es:List Pu}{ta tb tc te to:TD}{t:TDA}{pos:PK}
abbrev RTx:=G8->List D->(D->Prop)->Prop
def dTx(r:RTx)(to:TD)(t:TDA):TD:=λz R=>to z λx=>match x with|.str y=>t z λds=>r y ds R|_=>False
def MtS(X:Cx)(id:String)(r:RTx):Prop:=∃rv:V->List V->Hp->VK->Prop,MtR X id rv/\∀(y:G8) (ds:List D) (vs:List V) (F H:Hp) (R:D->Prop) (Q:VK),Reps X.K F ds vs->r y ds R->(∀d v,(∀G,Rep X.K G d v)->R d->Q v H)->rv (.str y) vs H Q
variable{b7 a8:PK}
def qL{name:G8}{id:String}{r:RTx}(slot:Slot "str" name id)(HR:typeOf (.builtin id)=pure (.type "method_descriptor"))(hm:MtS X id r)(ho:DE X o to)(ha:DA X (e::es) t)
  (b9:autoParam (PF o name X.env (PM o X.env)=PM o X.env) zA0)
  (f8:autoParam (zHF X a8 (e::es)) zA0)
  (c7:autoParam ((b7.endLine==a8.line)=true) zA0) (hs:autoParam (zSE X e es) zA0) (o9:autoParam (zPL X a8 es) zA0):
  DE X (.Call (.Attribute o name b7) (e::es) [] a8) (dTx r to t):=by
 obtain⟨rv,hm,L⟩:=hm;refine(dW PySem.F.plainAttrs_str slot HR hm ho ha b9 f8 c7 hs o9).anti λs H Q q=>?_;obtain⟨B,F,z,kf,rs,R,h1,h2⟩:=q;refine#[B,F,z,kf,rs,_,h1,λx u F1 H1 g1 hx rx=>?_];split at hx
 .rename_i y;rw[rep_str.mp rx];refine#[rfl,B,F1,z,kf.grow g1,rs.grow g1,_,hx,λds vs F2 H2 g2 hy ry=>?_];exact L y ds vs F2 H2 R Q ry hy λd v rd hR=>h2 d v F2 H2 (g1.trans g2) hR (rd F2)
 .exact hx.elim
def Dp:RTx:=λy ds R=>match ds with|[.str p]=>R (.bl (Txt.startswith y p))|_=>False
def rEnds:RTx:=λy ds R=>match ds with|[.str p]=>R (.bl (Txt.endswith y p))|_=>False
def ms_ends:MtS X "str.endswith" rEnds:=by
 refine#[λx vs H Q=>∃y p,x=.str y/\vs=[.str p]/\Q (.bl (Txt.endswith y p)) H,?_,?_]
 .intro pins s σ H x vs v us Q I rx rv h;obtain⟨y,p,rfl,rfl,q⟩:=h;obtain⟨t,rfl⟩:=rx;obtain⟨u,rfl,t',rfl⟩:=bY rv;exact SC.endswith #[.bl _,H,I,rfl,q]
 .intro y ds vs F H R Q r h q;unfold rEnds at h;split at h
  .obtain⟨v,vr,rfl,h1,h2⟩:=reps_cons.mp r;rw[reps_nil.mp h2,rep_str.mp h1];exact#[_,_,rfl,rfl,q _ _ (λ_=>rep_bl.mpr rfl) h]
  .exact h.elim
def yb(ho:WDE X o to)(ha:WDA X [e] t)(b9:autoParam (PF o "endswith" X.env (PM o X.env)=PM o X.env) zA0)
  (f8:autoParam (zHF X a8 [e]) zA0)
  (c7:autoParam ((b7.endLine==a8.line)=true) zA0) (hs:autoParam (zSE X e []) zA0):WDE X (.Call (.Attribute o "endswith" b7) [e] [] a8) (dTx rEnds to t):=#[have ho:=ho.out;have ha:=ha.out;qL PySem.F.slot_str_endswith PySem.F.type_str_endswith ms_ends ho ha b9 f8 c7 hs]
def rSIndex:RTx:=λy ds R=>match ds with|[.str p]=>∃i rest,Builtin.Str.occurrences y p 0 y.length 1=i::rest/\R (.int (i:Nat))|_=>False
def yc:MtS X "str.index" rSIndex:=by
 refine#[λx vs H Q=>∃y p i rest,x=.str y/\vs=[.str p]/\Builtin.Str.occurrences y p 0 y.length 1=i::rest/\Q (.int (i:Nat)) H,?_,?_]
 .intro pins s σ H x vs v us Q I rx rv h;obtain⟨y,p,i,rest,rfl,rfl,ho,q⟩:=h;obtain⟨t,rfl⟩:=rx;obtain⟨u,rfl,t',rfl⟩:=bY rv;exact SC.index ho #[.int _,H,I.tok _,#[_,rfl],q]
 .intro y ds vs F H R Q r h q;unfold rSIndex at h;split at h
  .obtain⟨i,rest,ho,h⟩:=h;obtain⟨v,vr,rfl,h1,h2⟩:=reps_cons.mp r;rw[reps_nil.mp h2,rep_str.mp h1];exact#[_,_,i,rest,rfl,rfl,ho,q _ _ (λ_=>rep_int.mpr rfl) h]
  .exact h.elim
def yd(ho:WDE X o to)(ha:WDA X [e] t)(b9:autoParam (PF o "index" X.env (PM o X.env)=PM o X.env) zA0)
  (f8:autoParam (zHF X a8 [e]) zA0)
  (c7:autoParam ((b7.endLine==a8.line)=true) zA0) (hs:autoParam (zSE X e []) zA0):WDE X (.Call (.Attribute o "index" b7) [e] [] a8) (dTx rSIndex to t):=#[have ho:=ho.out;have ha:=ha.out;qL PySem.F.slot_str_index PySem.F.type_str_index yc ho ha b9 f8 c7 hs]
def Reps.init{K:Dr}{F:Hp}:∀{ds:List D} {vs:List V},Reps K F ds vs->Reps K F ds.dropLast vs.dropLast
 |[],vs,r=>by rw[reps_nil.mp r];exact reps_nil.mpr rfl
 |[d],vs,r=>by
  obtain⟨v,vr,rfl,_,h2⟩:=reps_cons.mp r;rw[reps_nil.mp h2];exact reps_nil.mpr rfl
 |d::d2::ds,vs,r=>by
  obtain⟨v,vr,rfl,h1,h2⟩:=reps_cons.mp r;obtain⟨v2,O6,rfl,h3,h4⟩:=reps_cons.mp h2;rw[Gh,Gh];exact reps_cons.mpr #[v,_,rfl,h1,Reps.init h2]
end
end My
namespace My
open Exc
section
variable {X:Cx}{a b c e:Pu}{ta tb tc te:TD}{pos:PK}{st:Py}{rest:List Py}{t u:TSD}
def bj[Jx]{c:Pu}{l r:List Py}{tc:TDT}(hc:WDT X c tc)(ha:WDSs X l t)(hb:WDSs X r u):WDS X (.If c l r pos) (dIfS tc t u):=#[pZ (c:=c) (l:=l) (r:=r) (tc:=tc) (hc:=hc.out) (ha:=ha.out) (hb:=hb.out)]
end
def ye{X:Cx}[J:Jx]{body:List Py}{h₀:P1}{hs:List P1}{pos:PK}{tb:Jx->TSD}{th:TH}(hb:∀(pn:List (KF×PX)) (xe:GT->KB->Prop) (J':Jx),P3 (Pt X.prog X.w) X.A X.env xe->@XOk (X.tried pn xe) J'->@WDSs (X.tried pn xe) J' body (tb J'))(hh:WDH X (h₀::hs) th)(hex:autoParam (X.ex=[]) zA0)(hstk:autoParam (X.stack=X.env::X.outer) zA0)(hfr:autoParam (X.env.frame=u5 X.env.locals) zA0):WDS X (.Try body (h₀::hs) [] [] pos) (dTry tb th):=#[xI (X:=X) (body:=body) (h₀:=h₀) (hs:=hs) (pos:=pos) (tb:=tb) (th:=th) (hb:=λa b c d e=>(hb a b c d e).out) (hh:=hh.out) (hex:=hex) (hstk:=hstk) (hfr:=hfr)]
section
variable {P:Pw}{w:Pz}{K:Dr}{mg:G8->Option GT}{base:Heap}
variable{x qual:G8}{st:Py}{f:KF}{fd:PH}{N ps:List G8}{k:Nat}
def _root_.L2.Fun.okDW{S:SpD}(T:Fun K x qual st f fd)(F:FnScope N ps (ag st))(len:∀ds R,S ds R->ds.length=ps.length)
  (a_:∀(cdv:GT) (A:PB) (outer:List Ql) (s:KB) (H:Hp) (E:XK) (J:Jx),Room k (A.deeper (PZ qual (ag st) s.heap.objs.size f cdv))->
   ∃t,WDSs (cxOf (Exc.CX1 P w) P w K mg base N qual (ag st) f cdv A outer s H E).nox (aP st) t/\∀ds R,S ds R->t {nx:=λ_=>R .non,rt:=R} (startD N ds)):FnOk P w K mg base (Exc.CX1 P w) (k+1) f fd ps (lSp K S):=
 T.okD F len λcdv A outer s H E J hr=>let ⟨t,h,q⟩:=a_ cdv A outer s H E J hr;#[t,h.out,q]
def Tx.okDW{S:SpD}(T:Tx K mg x st ps)(F:FnScope N ps (ag st))(len:∀ds R,S ds R->ds.length=ps.length)
  (a_:∀(f:KF) (cdv:GT) (A:PB) (outer:List Ql) (s:KB) (H:Hp) (E:XK) (J:Jx),Room k (A.deeper (PZ x (ag st) s.heap.objs.size f cdv))->
   ∃t,WDSs (cxOf (Exc.CX1 P w) P w K mg base N x (ag st) f cdv A outer s H E).nox (aP st) t/\∀ds R,S ds R->t {nx:=λ_=>R .non,rt:=R} (startD N ds)):CalD P w K mg base (k+1) x ps S:=
 Tx.okD T F len λf cdv A outer s H E J hr=>let ⟨t,h,q⟩:=a_ f cdv A outer s H E J hr;#[t,h.out,q]
def Cls.okIW{C:KF}{p0:G8}{S:SiD}(T:Fun K "__init__" qual st f fd)(hb:Binds K fd (p0::ps) [])(F:FnScope (p0::N) (p0::ps) (ag st))(len:∀ds R,S ds R->ds.length=ps.length)
  (hns:nsIn K Os x=u5 (u5 (.ref C))) (n9:mg x=u5 (.ref C)) (mk:Mk K C f)
  (a_:∀(cdv:GT) (A:PB) (outer:List Ql) (s:KB) (H:Hp) (E:XK) (J:Jx),Room k (A.deeper (PZ qual (ag st) s.heap.objs.size f cdv))->
   ∃t,WDI (cxOf (Exc.CX1 P w) P w K mg base (p0::N) qual (ag st) f cdv A outer s H E).nox x (aP st) t/\∀ds R,S ds R->t (A'::startD N ds) [] R):CalM P w K mg base (k+1) x (p0::ps) S:=
 Cls.okI T hb F len hns n9 mk λcdv A outer s H E J hr=>let ⟨t,h,q⟩:=a_ cdv A outer s H E J hr;#[t,h.out,q]
def Cls.okEW{C N0:KF}{bm:List GT}{p0:G8}{S:SiD}(T:Fun K "__init__" qual st f fd)(hb:Binds K fd (p0::ps) [])(F:FnScope (p0::N) (p0::ps) (ag st))(len:∀ds R,S ds R->ds.length=ps.length)
  (ek:ErrK K mg x C N0 bm) (hi:DD K (.ref C) "__init__"=u5 (u5 (.ref f))) (hf:isFn K (.ref f)=true)
  (a_:∀(cdv:GT) (A:PB) (outer:List Ql) (s:KB) (H:Hp) (E:XK) (J:Jx),Room k (A.deeper (PZ qual (ag st) s.heap.objs.size f cdv))->
   ∃t,WDX (cxOf (CX1 P w) P w K mg base (p0::N) qual (ag st) f cdv A outer s H E).nox x (aP st) t/\∀ds R,S ds R->t (A'::startD N ds) [] R):CalE P w K mg base (k+1) x (p0::ps) S:=
 Cls.okE T hb F len ek hi hf λcdv A outer s H E J hr=>let ⟨t,h,q⟩:=a_ cdv A outer s H E J hr;#[t,h.out,q]
end
inductive MO where
 |ins (x:Str) (fs:List (Str×D))|lst (ds:List D)|dti (a9:List ((Int×Int)×Int))
abbrev MS:=List (KF×MO)
def MRep(K:Dr)(F H:Hp)(a:KF):MO->Prop
 |.ins x fs=>∃C dx ws,nsIn K Os x=u5 (u5 (.ref C))/\H a=u5 (.ins C dx ws)/\RepF K F fs ws
 |.lst ds=>∃vs,H a=u5 (.lst vs)/\Reps K F ds vs
 |.dti a9=>H a=u5 (.dT (dtiV a9))
def az(M:MS):List KF:=M.map (·.1)
def mget:MS->KF->Option MO
 |[],_=>A'
 |(b,o)::r,a=>if b=a then u5 o else mget r a
def mput:MS->KF->MO->MS
 |[],_,_=>[]
 |(b,p)::r,a,o=>if b=a then(b,o)::r else(b,p)::mput r a o
def mdel:MS->KF->MS
 |[],_=>[]
 |(b,p)::r,a=>if b=a then r else(b,p)::mdel r a
def bo:∀{M:MS} {a:KF} {o:MO},mget M a=u5 o->(a,o)∈M
 |[],_,_,h=>by cases h
 |(b,p)::r,a,o,h=>by
  unfold mget at h;split at h
  .rename_i e;subst e;cases h;exact DC
  .exact Dx _ (bo h)
variable{M:MS}{a:KF}{o:MO}
def ca(h:(a,o)∈M):a∈az M:=D1.mpr #[_,h,rfl]
def gJ:∀(M:MS) (a:KF) (o:MO),az (mput M a o)=az M
 |[],_,_=>rfl
 |(b,p)::r,a,o=>by
  unfold mput;split
  .rfl
  .show b::az (mput r a o)=b::az r;rw[gJ r a o]
def mem_put:∀{M:MS} {a b:KF} {o q:MO},(az M).Nodup->(b,q)∈mput M a o->(b=a/\q=o/\a∈az M)\/(b≠a/\(b,q)∈M)
 |[],_,_,_,_,_,h=>by cases h
 |(c,p)::r,a,b,o,q,nd,h=>by
  have Ip:c∉az r/\(az r).Nodup:=Ed.mp nd;unfold mput at h;split at h
  .rename_i e;subst e;rcases Dw.mp h with z|z
   .cases z;exact .inl #[rfl,rfl,DC]
   .have:b∈az r:=ca z;exact .inr #[λe=>Ip.1 (e ▸ this),Dx _ z]
  .rename_i ne;rcases Dw.mp h with z|z
   .cases z;exact .inr #[ne,DC]
   .rcases mem_put Ip.2 z with⟨e1,e2,e3⟩|⟨e1,e2⟩
    .exact .inl #[e1,e2,Dx _ e3]
    .exact .inr #[e1,Dx _ e2]
def jw:∀{M:MS} {a b:KF} {q:MO},(az M).Nodup->(b,q)∈mdel M a->b≠a/\(b,q)∈M
 |[],_,_,_,_,h=>by cases h
 |(c,p)::r,a,b,q,nd,h=>by
  have Ip:c∉az r/\(az r).Nodup:=Ed.mp nd;unfold mdel at h;split at h
  .rename_i e;subst e;exact#[λe=>Ip.1 (e ▸ ca h),Dx _ h]
  .rename_i ne;rcases Dw.mp h with z|z
   .cases z;exact#[ne,DC]
   .obtain⟨e1,e2⟩:=jw Ip.2 z;exact#[e1,Dx _ e2]
def del_sub:∀{M:MS} {a:KF},(az (mdel M a)).Sublist (az M)
 |[],_=>.slnil
 |(c,p)::r,a=>by
  unfold mdel;split
  .exact List.sublist_cons_self _ _
  .exact List.Sublist.cons_cons _ del_sub
variable{K:Dr}{F H F' H':Hp}
def MRep.mono(ff:Same F F')(hh:∀o,H a=u5 o->H' a=u5 o):∀{o:MO},MRep K F H a o->MRep K F' H' a o
 |.ins x fs,⟨C,dx,ws,n,h,r⟩=>#[C,dx,ws,n,hh _ h,RepF.mono ff fs ws r]
 |.lst ds,⟨vs,h,r⟩=>#[vs,hh _ h,Reps.mono ff ds vs r]
 |.dti a9,h=>hh _ h
def MRep.there:∀{o:MO},MRep K F H a o->H a≠A'
 |.ins x fs,⟨C,dx,ws,n,h,r⟩=>by rw[h];exact λz=>nomatch z
 |.lst ds,⟨vs,h,r⟩=>by rw[h];exact λz=>nomatch z
 |.dti a9,h=>by rw[show H a=_ from h];exact λz=>nomatch z
structure RepM(K:Dr)(F H:Hp)(M:MS):Prop where
 nd:(az M).Nodup
 ok:∀a o,(a,o)∈M->MRep K F H a o
 fr:∀a,a∈az M->F a=A'
def RepM.nil:RepM K F H []:=#[Gi,(λ_ _ h=>nomatch h),(λ_ h=>nomatch h)]
def RepM.here(r:RepM K F H M)(h:a∈az M):H a≠none:=by
 obtain⟨⟨b,o⟩,h1,rfl⟩:=D1.mp h;exact(r.ok _ _ h1).there
structure GrowM(M M':MS)(F H F' H':Hp):Prop where
 ff:Same F F'
 fh:Same F' H'
 hh:∀b o,b∉az M->H b=u5 o->H' b=u5 o
 out:∀b,b∉az M->F b=A'->H b≠A'->F' b=A'
 ks:∀b,b∈az M'->b∈az M\/H b=A'
def Grow.toM(g:Grow F H F' H'):GrowM M M F H F' H':=#[g.ff,g.fh,λb o _ h=>g.hh b o h,λb _ h1 h2=>g.out b h1 h2,λb h=>.inl h]
def GrowM.refl(h:Same F H):GrowM M M F H F H:=(Grow.refl h).toM
def GrowM.trans{M1 M2:MS}{F1 H1 F2 H2:Hp}(g:GrowM M M1 F H F1 H1)(k:GrowM M1 M2 F1 H1 F2 H2):GrowM M M2 F H F2 H2 where
  ff:=g.ff.trans k.ff
  fh:=k.fh
  hh:=λb o nb h=>k.hh b o (λz=>by rcases g.ks b z with q|q;exact nb q;rw[q]at h;cases h) (g.hh b o nb h)
  out:=λb nb h1 h2=>k.out b (λz=>by rcases g.ks b z with q|q;exact nb q;exact h2 q) (g.out b nb h1 h2) (by
    cases e:H b with
    |none=>exact absurd e h2
    |some o=>rw[g.hh b o nb e];exact λz=>nomatch z)
  ks :=λb h=>by
    rcases k.ks b h with q|q
    . exact g.ks b q
    . by_cases nb:b∈az M
      . exact .inl nb
      . right;cases e:H b with
        |none=>rfl
        |some o=>rw[g.hh b o nb e]at q;cases q
def RepM.grow(r:RepM K F H M)(g:Grow F H F' H'):RepM K F' H' M:=
 #[r.nd,λa o h=>(r.ok a o h).mono g.ff λo e=>g.hh a o e,λa h=>g.out a (r.fr a h) (r.here h)]
variable{ho:HO}
def RepM.put{o':MO}(r:RepM K F H M)(e:mget M a=u5 o)(h:MRep K F (upd H a ho) a o'):RepM K F (upd H a ho) (mput M a o'):=
 ⟨by rw[gJ];exact r.nd,λb q hb=>by
  rcases mem_put r.nd hb with⟨rfl,rfl,_⟩|⟨ne,hb⟩
  .exact h
  .exact(r.ok b q hb).mono (Same.refl F) λu z=>by rw[ao ne];exact z,λb hb=>r.fr b (by rw[gJ]at hb;exact hb)⟩
def GrowM.put{o':MO}(fh:Same F H)(fa:F a=A')(e:mget M a=u5 o):GrowM M (mput M a o') F H F (upd H a ho) where
 ff:=Same.refl F
 fh:=λb u z=>by
  have ne:b≠a:=by rintro rfl;rw[fa]at z;cases z
  rw[ao ne];exact fh b u z
 hh:=λb u nb z=>by
  have ne:b≠a:=by rintro rfl;exact nb (ca (bo e))
  rw[ao ne];exact z
 out:=λb _ h _=>h
 ks:=λb h=>.inl (by rw[gJ]at h;exact h)
def RepM.new{p:KF}(r:RepM K F H M)(fh:Same F H)(hp:H p=A')(h:MRep K F (upd H p ho) p o):RepM K F (upd H p ho) ((p,o)::M):=by
 have np:p∉az M:=λz=>r.here z hp;refine#[Ed.mpr #[np,r.nd],λb q hb=>?_,λb hb=>?_]
 .rcases Dw.mp hb with z|z
  .cases z;exact h
  .exact(r.ok b q z).mono (Same.refl F) λu z'=>by rw[ao (λe:b=p=>np (e ▸ ca z))];exact z'
 .rcases Dw.mp hb with z|z
  .rw[z];exact fh.free hp
  .exact r.fr b z
def GrowM.new{p:KF}(fh:Same F H)(hp:H p=A'):GrowM M ((p,o)::M) F H F (upd H p ho) where
 ff:=Same.refl F
 fh:=fh.trans (aM hp _)
 hh:=λb u _ z=>aM hp _ b u z
 out:=λb _ h _=>h
 ks:=λb h=>by
  rcases Dw.mp h with z|z
  .exact .inr (by rw[z];exact hp)
  .exact .inl z
structure RepZ(K:Dr)(B F H:Hp)(z:SD)(s:L2.St)(M:MS):Prop where
 rs:RepS K B F H z s
 no:∀(i:Nat) ds,z[i]?≠u5 (u5 (.own ds))
 rm:RepM K F H M
 mb:∀a,a∈az M->B a=A'
variable{B:Hp}{M':MS}
def Kept.growM[Jx]{F0:Hp}(k:Kept B F0 F H)(mb:∀a,a∈az M->B a=A')(g:GrowM M M' F H F' H'):Kept B F0 F' H' where
 bh:=λb o e=>g.hh b o (λz=>by rw[mb b z]at e;cases e) (k.bh b o e)
 fh:=g.fh
 f0:=k.f0.trans g.ff
 out:=λb h1 h2=>g.out b (λz=>h2 (mb b z)) (k.out b h1 h2) (by
  cases e:B b with
  |none=>exact absurd e h2
  |some o=>rw[k.bh b o e];exact λz=>nomatch z)
 eb:=k.eb
 jf:=k.jf
 jo:=k.jo
variable{z:SD}{s:L2.St}
def RepS.growM(r:RepS K B F H z s)(no:∀(i:Nat) ds,z[i]?≠u5 (u5 (.own ds)))(g:GrowM M M' F H F' H'):RepS K B F' H' z s where
 len:=r.len
 val:=λi d e n=>let ⟨v,q1,q2⟩:=r.val i d e n;#[v,q1,q2.mono g.ff]
 own:=λi ds e=>absurd e (no i ds)
 apart:=r.apart
def RepZ.growM(r:RepZ K B F H z s M)(bh:Same B H)(g:GrowM M M' F H F' H')(rm:RepM K F' H' M'):RepZ K B F' H' z s M':=
 ⟨r.rs.growM r.no g,r.no,rm,λa h=>by
  rcases g.ks a h with q|q
  .exact r.mb a q
  .exact bh.free q⟩
def RepZ.set{i:Nat}{d:D}{v:V}(r:RepZ K B F H z s M)(rd:Rep K F d v):RepZ K B F H (z.set i (u5 d)) (s.set i (u5 v)) M:=
 ⟨r.rs.set rd,λj ds e=>by
  by_cases hj:i=j
  .subst hj;rw[EH]at e;simp at e;have:=rd.noown;rw[e.2]at this;cases this
  .rw[DL hj]at e;exact r.no j ds e,r.rm,r.mb⟩
class Jm extends Jx where
 RM:SD->MS->XD
abbrev TME:=SD->MS->(D->MS->Prop)->Prop
abbrev TMT:=SD->MS->(Bool->MS->Prop)->Prop
abbrev TMA:=SD->MS->(List D->MS->Prop)->Prop
structure EndsM where
 nx:SD->MS->Prop
 rt:D->MS->Prop
 bk:SD->MS->Prop:=λ_ _=>False
 ct:SD->MS->Prop:=λ_ _=>False
abbrev TMS:=EndsM->SD->MS->Prop
def mE(K:Dr)[J:Jm](t:TME):TE:=λs H Q=>∃F z M,Kept J.B J.F0 F H/\RepZ K J.B F H z s M/\∃R:D->MS->Prop,t z M R/\∀d v M' F' H',GrowM M M' F H F' H'->R d M'->Rep K F' d v->RepM K F' H' M'->Q v H'
def mT(K:Dr)[J:Jm](t:TMT):TT:=λs H Q=>∃F z M,Kept J.B J.F0 F H/\RepZ K J.B F H z s M/\∃R:Bool->MS->Prop,t z M R/\∀b M' F' H',GrowM M M' F H F' H'->R b M'->RepM K F' H' M'->Q b H'
def mA(K:Dr)[J:Jm](t:TMA):TA:=λs H Q=>∃F z M,Kept J.B J.F0 F H/\RepZ K J.B F H z s M/\∃R:List D->MS->Prop,t z M R/\∀ds vs M' F' H',GrowM M M' F H F' H'->R ds M'->Reps K F' ds vs->RepM K F' H' M'->Q vs H'
structure EndsOkM[J:Jm](K:Dr)(F0:Hp)(ED:EndsM)(E:Ends):Prop where
 nx:∀z' s' M' F' H',Kept J.B F0 F' H'->ED.nx z' M'->RepZ K J.B F' H' z' s' M'->E.nx s' H'
 rt:∀d v M' F' H',Kept J.B F0 F' H'->ED.rt d M'->Rep K F' d v->RepM K F' H' M'->(∀a,a∈az M'->J.B a=A')->E.rt v H'
 bk:∀z' s' M' F' H',Kept J.B F0 F' H'->ED.bk z' M'->RepZ K J.B F' H' z' s' M'->E.bk s' H'
 ct:∀z' s' M' F' H',Kept J.B F0 F' H'->ED.ct z' M'->RepZ K J.B F' H' z' s' M'->E.ct s' H'
def mS(K:Dr)[J:Jm](t:TMS):TS:=λE s H=>∃F0 F z M,Kept J.B F0 F H/\RepZ K J.B F H z s M/\∃ED:EndsM,t ED z M/\EndsOkM K F0 ED E
structure ME(X:Cx)[Jm](e:Pu)(t:TME):Prop where
 out:PE X e (mE X.K t)
structure MT(X:Cx)[Jm](e:Pu)(t:TMT):Prop where
 out:PT X e (mT X.K t)
structure MW(X:Cx)[Jm](e:Pu)(t:TMT):Prop where
 out:PW X e (mT X.K t)
structure MA(X:Cx)[Jm](es:List Pu)(t:TMA):Prop where
 out:PA X es (mA X.K t)
structure MSt(X:Cx)[Jm](st:Py)(t:TMS):Prop where
 out:PS X st (mS X.K t)
structure MSs(X:Cx)[Jm](st:List Py)(t:TMS):Prop where
 out:PSs X st (mS X.K t)
section
variable {X:Cx}{a b c e:Pu}{ta tb:TME}{pos:PK}
def mP(t:TD):TME:=λz M R=>t z λd=>R d M
def mPT(t:TDT):TMT:=λz M R=>t z λd=>R d M
def mPA(t:TDA):TMA:=λz M R=>t z λd=>R d M
def ah[J:Jm]{t:TD}(h:WDE X e t):ME X e (mP t):=⟨PE.anti h.out λs H Q q=>by
 obtain⟨F,z,M,k,r,R,h1,h2⟩:=q;exact#[J.B,F,z,k,r.rs,_,h1,λd v F' H' g hd rd=>h2 d v M F' H' g.toM hd rd (r.rm.grow g)]⟩
def aV[J:Jm]{t:TDT}(h:WDT X e t):MT X e (mPT t):=⟨PT.anti h.out λs H Q q=>by
 obtain⟨F,z,M,k,r,R,h1,h2⟩:=q;exact#[J.B,F,z,k,r.rs,_,h1,λd F' H' g hd=>h2 d M F' H' g.toM hd (r.rm.grow g)]⟩
variable{es:List Pu}
def aE[J:Jm]{t:TDA}(h:WDA X es t):MA X es (mPA t):=⟨PA.anti h.out λs H Q q=>by
 obtain⟨F,z,M,k,r,R,h1,h2⟩:=q;exact#[J.B,F,z,k,r.rs,_,h1,λd v F' H' g hd rd=>h2 d v M F' H' g.toM hd rd (r.rm.grow g)]⟩
def mOp(r:RD2)(ta tb:TME):TME:=λz M R=>ta z M λx M1=>tb z M1 λy M2=>r x y λd=>R d M2
variable{r:R2}{rd:RD2}
def qM[J:Jm]{e:Pu}{ta tb:TME}(L:aS X.K r rd)(h:PE X e (tOp r (mE X.K ta) (mE X.K tb))):ME X e (mOp rd ta tb):=⟨h.anti λs H Q q=>by
 obtain⟨F,z,M,k,rs,R,h1,h2⟩:=q;refine#[F,z,M,k,rs,_,h1,λx u M1 F1 H1 g1 hx rx m1=>?_];refine#[F1,z,M1,k.growM rs.mb g1,rs.growM k.bh g1 m1,_,hx,λy v M2 F2 H2 g2 hy ry m2=>?_];exact L x y u v F2 H2 _ Q g2.fh hy (rx.mono g2.ff) ry λd w F3 H3 g3 hd rd=>h2 d w M2 F3 H3 ((g1.trans g2).trans g3.toM) hd rd (m2.grow g3)⟩
def qN[J:Jm]{op:QS}(ho:OpR X (PR op) r)(L:aS X.K r rd)(ha:ME X a ta)(hb:ME X b tb):ME X (.BinOp a op b pos) (mOp rd ta tb):=qM L (iS ho ha.out hb.out)
def qO[J:Jm](ha:ME X a ta)(hb:ME X b tb)(hs:autoParam (fk b) zA6):ME X (.Subscript a b pos) (mOp rdIx ta tb):=qM pH (pe_ix oU ha.out hb.out hs)
def gK[Jm](ha:ME X a ta)(hb:ME X b tb):ME X (.BinOp a .Add b pos) (mOp jc ta tb):=qN pq pr ha hb
def yf[Jm](ha:ME X a ta)(hb:ME X b tb):ME X (.BinOp a .Sub b pos) (mOp jd ta tb):=qN oh pv ha hb
def mTst(t:TME):TMT:=λz M R=>t z M λx M1=>match x with|.bl k=>R k M1|_=>False
def fM[J:Jm]{op:Rn}(ho:OpR X (PJ op) r)(L:aS X.K r rd)(ha:ME X a ta)(hb:ME X b tb)(hm:PQ op b=false):MT X (.Compare a [op] [b] pos) (mTst (mOp rd ta tb)):=⟨(gc ho ha.out hb.out hm).anti λs H Q q=>by
 obtain⟨F,z,M,k,rs,R,h1,h2⟩:=q;refine#[F,z,M,k,rs,_,h1,λx u M1 F1 H1 g1 hx rx m1=>?_];refine#[F1,z,M1,k.growM rs.mb g1,rs.growM k.bh g1 m1,_,hx,λy v M2 F2 H2 g2 hy ry m2=>?_];refine L x y u v F2 H2 _ _ g2.fh hy (rx.mono g2.ff) ry λd w F3 H3 g3 hd rd=>?_;dsimp only at hd;split at hd
 .exact#[_,rep_bl.mp rd,h2 _ M2 F3 H3 ((g1.trans g2).trans g3.toM) hd (m2.grow g3)]
 .exact hd.elim⟩
def qP[Jm](ha:ME X a ta)(hb:ME X b tb):MT X (.Compare a [.Lt] [b] pos) (mTst (mOp rdLt ta tb)):=fM iU je ha hb (nomark _)
def jx[Jm](ha:ME X a ta)(hb:ME X b tb):MT X (.Compare a [.Eq] [b] pos) (mTst (mOp rdEq ta tb)):=fM iT jg ha hb (nomark _)
def qQ[Jm](ha:ME X a ta)(hb:ME X b tb):MT X (.Compare a [.Is] [b] pos) (mTst (mOp (rdIs id) ta tb)):=fM ou pG ha hb (nomark _)
def yg[Jm](ha:ME X a ta)(hb:ME X b tb)(hm:autoParam (PQ .NotIn b=false) zA0):MT X (.Compare a [.NotIn] [b] pos) (mTst (mOp (rdIn true) ta tb)):=fM qI gI ha hb hm
variable {tA tB:TMT}{rest:List Pu}
def mt_w[Jm](h:MW X a tA):MT X a tA:=#[PW.pt h.out]
def qR[Jm](ha:MT X a tA):MW X (.BoolOp .And [a] pos) tA:=#[nN ha.out]
def qS[Jm](ha:MT X a tA):MW X (.BoolOp .Or [a] pos) tA:=#[nO ha.out]
def mAnd(tA tB:TMT):TMT:=λz M R=>tA z M λk M1=>if k=true then tB z M1 R else R false M1
def mOr(tA tB:TMT):TMT:=λz M R=>tA z M λk M1=>if k=true then R true M1 else tB z M1 R
def jy[J:Jm](ha:MT X a tA)(hb:MW X (.BoolOp .And (b::rest) pos) tB):MW X (.BoolOp .And (a::b::rest) pos) (mAnd tA tB):=⟨(nP ha.out hb.out).anti λs H Q q=>by
 obtain⟨F,z,M,k,rs,R,h1,h2⟩:=q;refine#[F,z,M,k,rs,_,h1,λx M1 F1 H1 g1 hx m1=>?_];cases x with
 |true=>exact#[F1,z,M1,k.growM rs.mb g1,rs.growM k.bh g1 m1,R,hx,λy M2 F2 H2 g2 hy m2=>h2 y M2 F2 H2 (g1.trans g2) hy m2]
 |false=>exact h2 _ M1 F1 H1 g1 hx m1⟩
def qT[J:Jm](ha:MT X a tA)(hb:MW X (.BoolOp .Or (b::rest) pos) tB):MW X (.BoolOp .Or (a::b::rest) pos) (mOr tA tB):=⟨(nQ ha.out hb.out).anti λs H Q q=>by
 obtain⟨F,z,M,k,rs,R,h1,h2⟩:=q;refine#[F,z,M,k,rs,_,h1,λx M1 F1 H1 g1 hx m1=>?_];cases x with
 |false=>exact#[F1,z,M1,k.growM rs.mb g1,rs.growM k.bh g1 m1,R,hx,λy M2 F2 H2 g2 hy m2=>h2 y M2 F2 H2 (g1.trans g2) hy m2]
 |true=>exact h2 _ M1 F1 H1 g1 hx m1⟩
def mIf(tc:TMT)(ta tb:TME):TME:=λz M R=>tc z M λk M1=>if k=true then ta z M1 R else tb z M1 R
def jz[J:Jm]{tc:TMT}(hc:MT X c tc)(ha:ME X a ta)(hb:ME X b tb):ME X (.IfExp c a b pos) (mIf tc ta tb):=⟨(tK hc.out ha.out hb.out).anti λs H Q q=>by
 obtain⟨F,z,M,k,rs,R,h1,h2⟩:=q;refine#[F,z,M,k,rs,_,h1,λx M1 F1 H1 g1 hx m1=>?_];cases x with
 |true=>exact#[F1,z,M1,k.growM rs.mb g1,rs.growM k.bh g1 m1,R,hx,λd v M2 F2 H2 g2 hy rd m2=>h2 d v M2 F2 H2 (g1.trans g2) hy rd m2]
 |false=>exact#[F1,z,M1,k.growM rs.mb g1,rs.growM k.bh g1 m1,R,hx,λd v M2 F2 H2 g2 hy rd m2=>h2 d v M2 F2 H2 (g1.trans g2) hy rd m2]⟩
def mNil:TMA:=λ_ M R=>R [] M
def yh(ta:TME)(tr:TMA):TMA:=λz M R=>ta z M λx M1=>tr z M1 λxs M2=>R (x::xs) M2
def bz[J:Jm]:MA X [] mNil:=⟨pa_nil.anti λs H Q q=>by
 obtain⟨F,z,M,k,rs,R,h1,h2⟩:=q;exact h2 [] [] M F H (GrowM.refl k.fh) h1 (reps_nil.mpr rfl) rs.rm⟩
variable{t:TMA}
def bf[J:Jm]{e:Pu}{te:TME}(ha:ME X e te)(hr:MA X es t)(hs:autoParam (zSE X e es) zA0):MA X (e::es) (yh te t):=⟨(bN ha.out hr.out hs).anti λs H Q q=>by
 obtain⟨F,z,M,k,rs,R,h1,h2⟩:=q;refine#[F,z,M,k,rs,_,h1,λx u M1 F1 H1 g1 hx rx m1=>?_];refine#[F1,z,M1,k.growM rs.mb g1,rs.growM k.bh g1 m1,_,hx,λxs us M2 F2 H2 g2 hy ry m2=>?_];exact h2 _ _ M2 F2 H2 (g1.trans g2) hy (reps_cons.mpr #[_,_,rfl,rx.mono g2.ff,ry]) m2⟩
def mTup(t:TMA):TME:=λz M R=>t z M λxs M1=>xs.length<=1000/\R (.tup xs) M1
def yi[J:Jm]{x1}(h:MA X es t):ME X (.Tuple es x1 pos) (mTup t):=⟨(oF h.out).anti λs H Q q=>by
 obtain⟨F,z,M,k,rs,R,h1,h2⟩:=q;refine#[F,z,M,k,rs,_,h1,λds vs M1 F1 H1 g1 hx rx m1=>?_];have hl:=rx.length;refine#[sz (by rw[hl];exact hx.1),λp hp=>?_];have gn:=Grow.new g1.fh hp (.tup vs);exact h2 _ _ M1 _ _ (g1.trans gn.toM) hx.2 (rep_tupS.mpr #[p,vs,rfl,aA,rx.mono (aM (g1.fh.free hp) _)]) (m1.grow gn)⟩
def mLst(t:TMA):TME:=λz M R=>t z M λxs M1=>xs.length<=1000/\∀p,p∉az M1->R (.ptr p) ((p,.lst xs)::M1)
def gL[J:Jm](h:MA X es t):ME X (.List es pos) (mLst t):=⟨(iX h.out).anti λs H Q q=>by
 obtain⟨F,z,M,k,rs,R,h1,h2⟩:=q;refine#[F,z,M,k,rs,_,h1,λds vs M1 F1 H1 g1 hx rx m1=>?_];have hl:=rx.length;refine#[sz (by rw[hl];exact hx.1),λp hp=>?_];exact h2 _ _ _ F1 _ (g1.trans (GrowM.new g1.fh hp)) (hx.2 p λz=>m1.here z hp) (rep_ptr.mpr rfl) (m1.new g1.fh hp #[vs,aA,rx])⟩
def mCB(r:RDn)(t:TMA):TME:=λz M R=>t z M λds M1=>r ds λd=>R d M1
variable{x:G8}{p:PK}
def yj[J:Jm]{e:Pu}{id:String}{r:List V->Hp->VK->Prop}{rd:RDn}(hc:bM X (.builtin id) r)(L:cv X.K r rd)(hm:X.mg x=A')(hv:PY x=u5 (.builtin id))(ha:MA X (e::es) t)(hg:autoParam (Gl X x) zA0)(hn:autoParam (x≠"__name__") zA1)(e_:autoParam (zND x) zA1)
  (he:autoParam (zSE X e es) zA0) (d0:autoParam (zPL X pos es) zA0):ME X (.Call (.Name x p) (e::es) [] pos) (mCB rd t):=⟨(fj hc hg hm hv ha.out hn e_ he d0).anti λs H Q h=>by
 obtain⟨F,z,M,k,rs,R,h1,h2⟩:=h;refine#[F,z,M,k,rs,_,h1,λds vs M1 F1 H1 g1 hx rx m1=>?_];exact L ds vs F1 H1 _ Q g1.fh hx rx λd w F' H' g hd rd=>h2 d w M1 F' H' (g1.trans g.toM) hd rd (m1.grow g)⟩
def qU[Jm]{e:Pu}(hm:X.mg "len"=A')(ha:MA X [e] t)(hg:autoParam (Gl X "len") zA0)(he:autoParam (zSE X e []) zA0):ME X (.Call (.Name "len" p) [e] [] pos) (mCB ji t):=yj gf pK hm PySem.boot_len ha hg G_ G_ he
def yk[J:Jm]{e:Pu}{T:String}{r:List V->Hp->VK->Prop}{rd:RDn}(hc:bM X (.type T) r)(L:cv X.K r rd)(hm:X.mg x=A')(hv:PY x=u5 (.type T))(ha:MA X (e::es) t)(hg:autoParam (Gl X x) zA0)(hn:autoParam (x≠"__name__") zA1)(e_:autoParam (zND x) zA1)
  (he:autoParam (zSE X e es) zA0) (d0:autoParam (zPL X pos es) zA0):ME X (.Call (.Name x p) (e::es) [] pos) (mCB rd t):=⟨(oJ hc hg hm hv ha.out hn e_ he d0).anti λs H Q h=>by
 obtain⟨F,z,M,k,rs,R,h1,h2⟩:=h;refine#[F,z,M,k,rs,_,h1,λds vs M1 F1 H1 g1 hx rx m1=>?_];exact L ds vs F1 H1 _ Q g1.fh hx rx λd w F' H' g hd rd=>h2 d w M1 F' H' (g1.trans g.toM) hd rd (m1.grow g)⟩
def qV[Jm](hm:X.mg "int"=A')(ha:MA X [e] t)(hg:autoParam (Gl X "int") zA0)(he:autoParam (zSE X e []) zA0):ME X (.Call (.Name "int" p) [e] [] pos) (mCB jm t):=yk qd qe hm PyProof.Rows.boot_int ha hg G_ G_ he
def eA(M:MS)(d:D)(x:G8)(fs:List (G8×D)):Prop:=match d with|.ptr a=>mget M a=u5 (.ins x fs)|.obj y gs=>y=x/\gs=fs|_=>False
def mFld(x f:G8)(te:TME):TME:=λz M R=>te z M λd M1=>∃fs,eA M1 d x fs/\∃d',fs.lookup f=u5 d'/\R d' M1
def jA{K:Dr}{F H:Hp}{M:MS}{d:D}{v:V}{fs:List (G8×D)}(fh:Same F H)(rm:RepM K F H M)(rd:Rep K F d v)(h:eA M d x fs):∃a C dx ws,v=.ref a/\nsIn K Os x=u5 (u5 (.ref C))/\H a=u5 (.ins C dx ws)/\RepF K F fs ws:=by
 unfold eA at h;split at h
 .rename_i a;obtain⟨C,dx,ws,n,h1,h2⟩:=rm.ok _ _ (bo h);exact#[a,C,dx,ws,rep_ptr.mp rd,n,h1,h2]
 .obtain⟨rfl,rfl⟩:=h;obtain⟨a,C,dx,ws,e,n,h1,h2⟩:=rep_obj.mp rd;exact#[a,C,dx,ws,e,n,fh _ _ h1,h2]
 .exact h.elim
def bn[J:Jm]{f:G8}(hA:ClsA X.K x f)(he:ME X e ta)(hb:autoParam (PF e f X.env (PM e X.env)=PM e X.env) zA0):ME X (.Attribute e f pos) (mFld x f ta):=⟨(vg he.out hb).anti λs H Q q=>by
 obtain⟨C,hn,hc,hf⟩:=hA;obtain⟨F,z,M,k,rs,R,h1,h2⟩:=q;refine#[F,z,M,k,rs,_,h1,λd u M1 F1 H1 g1 hx rx m1=>?_];obtain⟨fs,hi,d',hl,hR⟩:=hx;obtain⟨a,C',dx,ws,rfl,j9,hH,rf⟩:=jA g1.fh m1 rx hi;rw[hn]at j9;cases j9;obtain⟨v,l,rv⟩:=rf.look hl;exact#[a,C,dx,ws,v,rfl,hH,hc,hf,l,h2 d' v M1 F1 H1 g1 hR rv m1]⟩
end
abbrev XDM:=G8->List (G8×D)->MS->Prop
abbrev SpM:=List D->MS->(D->MS->Prop)->XDM->Prop
def lSpM(K:Dr)(S:SpM):Sp:=λvs H Q E=>∃F ds M,Same F H/\Reps K F ds vs/\RepM K F H M/\∃(R:D->MS->Prop) (RX:XDM),S ds M R RX/\(∀d v M' F' H',GrowM M M' F H F' H'->R d M'->Rep K F' d v->RepM K F' H' M'->Q v H')/\
 ∀x fs C od M' F' H',GrowM M M' F H F' H'->RX x fs M'->ErrD K F' x fs C od->RepM K F' H' M'->E (.ref C) od H'
abbrev CalMM(P:Pw)(w:Pz)(K:Dr)(mg:G8->Option GT)(base:Heap)(n:Nat)(x:G8)(ps:List G8)(S:SpM):Prop:=Cal P w K mg base n x ps (lSpM K S)
def ofX(S:SpX):SpM:=λds M R RX=>S ds (λd=>R d M) λx fs=>RX x fs M
def ofD(S:SpD):SpM:=λds M R _=>S ds λd=>R d M
def yl{S:SpD}{vs:List V}{Q:VK}{E:XK}(h:lSpM K (ofD S) vs H Q E):lSp K S vs H Q E:=by
 obtain⟨F,ds,M,fh,rs,rm,R,RX,hS,q,qx⟩:=h;exact#[F,ds,fh,rs,_,hS,λd v F' H' g hd rd=>q d v M F' H' g.toM hd rd (rm.grow g)]
section
variable {P:Pw}{w:Pz}{K:Dr}{mg:G8->Option GT}{base:Heap}{n:Nat}{x:G8}{ps:List G8}
def CalD.toM{S:SpD}(C:CalD P w K mg base n x ps S):CalMM P w K mg base n x ps (ofD S):=by
 obtain⟨f,fd,F,hb,hk,hm⟩:=C;exact#[f,fd,F.imp λvs H Q E h=>yl h,hb,hk,hm]
def CalMth(P:Pw)(w:Pz)(K:Dr)(mg:G8->Option GT)(base:Heap)(n:Nat)(x m:G8)(ps:List G8)(sp:Sp):Prop:=
 ∃C f fd,nsIn K Os x=u5 (u5 (.ref C))/\Cls K C/\Meth K C m f/\FnOk P w K mg base (CX1 P w) n f fd ps sp/\Binds K fd ps []
variable{sp:Sp}
def Cal.mono{n':Nat}(h:Cal P w K mg base n x ps sp)(hn:n<=n'):Cal P w K mg base n' x ps sp:=by
 obtain⟨f,fd,F,h⟩:=h;exact#[f,fd,F.mono hn,h]
def Cal.imp{G0:Sp}(h:Cal P w K mg base n x ps sp)(i:∀vs H Q E,G0 vs H Q E->sp vs H Q E):Cal P w K mg base n x ps G0:=by
 obtain⟨f,fd,F,h⟩:=h;exact#[f,fd,F.imp i,h]
def CalMth.imp{m:G8}{G0:Sp}(h:CalMth P w K mg base n x m ps sp)(i:∀vs H Q E,G0 vs H Q E->sp vs H Q E):CalMth P w K mg base n x m ps G0:=by
 obtain⟨C,f,fd,h1,h2,h3,h4,h5⟩:=h;exact#[C,f,fd,h1,h2,h3,h4.imp i,h5]
end
def XOkM(X:Cx)[J:Jm]:Prop:=∀(σ:L2.St) (z:SD) (M:MS) (F H:Hp) (s:KB) (e C:KF) (od:Option KF) (x:G8) (fs:List (G8×D)),Inv X [] σ H s->Kept J.B J.F0 F H->RepZ X.K J.B F H z σ M->J.RM z M x fs->ErrD X.K F x fs C od->Exd X H s e C od->X.xe (.ref e) s
def EX(X:Cx)[J:Jm](z:SD)(σ:L2.St):XK:=λCv od H'=>∃x fs C M' F',Cv=.ref C/\Kept J.B J.F0 F' H'/\RepZ X.K J.B F' H' z σ M'/\J.RM z M' x fs/\ErrD X.K F' x fs C od
def XOkM.out{X:Cx}[J:Jm](hx:XOkM X)(hex:X.ex=[]){pins:List (KF×PX)}{σ:L2.St}{s s':KB}{ev:GT}(I:Inv X pins σ H s)
  (h:CX1 X.prog X.w X.stack H s (EX X z σ) ev s'):X.xe ev s':=by
 obtain⟨e,C,od,T,H',rfl,B_,hb,un,hok,Kk,ne,nT,He,HT,x,fs,C',M',F',hC,kk,rr,hR,er⟩:=h;cases hC;have I':Inv X pins σ H' s':=I.call' B_ un hok hb (λb z=>absurd z HV);exact hx σ z M' F' H' s' e C od x fs (Inv.nopins I') kk rr hR er #[He,cI I hex ne,pn_free I ne,.inr #[T,.none,Kk,cI I hex nT,HT,pn_free I nT]]
section
variable {X:Cx}[J:Jm]{a b c e o:Pu}{ta tb te:TME}{pos p b7 a8:PK}{n m:Nat}{ps:List G8}{S:SpM}{x:G8}{es:List Pu}{t:TMA}
def ym(S:SpM)(t:TMA):TME:=λz M R=>t z M λds M1=>S ds M1 R λx fs M'=>J.RM z M' x fs
variable{ds:List My.D}{vs:List V}
def jB{σ:L2.St}{z:SD}{M M1:MS}{F H F1 H1:Hp}{Q:VK}{R:D->MS->Prop}(k:Kept J.B J.F0 F H)(rs:RepZ X.K J.B F H z σ M)(g1:GrowM M M1 F H F1 H1)(m1:RepM X.K F1 H1 M1)(rx:Reps X.K F1 ds vs)
  (hS:S ds M1 R λx fs M'=>J.RM z M' x fs) (h2:∀d v M' F' H',GrowM M M' F H F' H'->R d M'->Rep X.K F' d v->RepM X.K F' H' M'->Q v H'):lSpM X.K S vs H1 Q (EX X z σ):=
 #[F1,ds,M1,g1.fh,rx,m1,R,_,hS,λd v M' F' H' g hd rd m'=>h2 d v M' F' H' (g1.trans g) hd rd m',λy fs C od M' F' H' g hR er m'=>#[y,fs,C,M',F',rfl,(k.growM rs.mb g1).growM (rs.growM k.bh g1 m1).mb g,(rs.growM k.bh g1 m1).growM (k.growM rs.mb g1).bh g m',hR,er]]
def aX(C:CalMM X.prog X.w X.K X.mg X.base n x ps S)(hx:XOkM X)(hr:Room m X.A)(ha:MA X (e::es) t)(hex:autoParam (X.ex=[]) zA0)(hg:autoParam (Gl X x) zA0)(hn:autoParam (n<=m) zA1)(e_:autoParam (zND x) zA1)
  (he:autoParam (zSE X e es) zA0) (d0:autoParam (zPL X pos es) zA0):
  ME X (.Call (.Name x p) (e::es) [] pos) (ym S t):=by
 obtain⟨f,fd,F,hb,hk,hm⟩:=C;refine#[λpins s σ H Q I h=>?_];obtain⟨Fr,z,M,k,rs,R,h1,h2⟩:=h;refine PL (cu I hg hm ?_ e_);refine callWith_K (h₀:=X.base) I.ok.mod.kin hk (thn (ha.out pos pins s σ H (λvs H1=>lSpM X.K S vs H1 Q (EX X z σ)) I #[Fr,z,M,k,rs,_,h1,λds vs M1 F1 H1 g1 hx rx m1=>jB k rs g1 m1 rx hx h2]) λus s1 hh=>#[hh.elim λ_ h=>h.elim λ_ h=>h.1.kIn,?_]) he d0;obtain⟨vs,H1,I1,r,q⟩:=hh;exact gC F (hr.mono hn) hb (λe s' hq=>hx.out hex I1 hq) I1 r q
def qW(cs:List G8)(m:G8)(S:G8->SpM)(to:TME)(t:TMA):TME:=λz M R=>to z M λd M1=>∃x,x∈cs/\∃fs,eA M1 d x fs/\fs.lookup m=A'/\t z M1 λds M2=>S x (d::ds) M2 R λx fs M'=>J.RM z M' x fs
variable{cs:List G8}{pl:Q5 Bool}
def bA{nm:G8}{S:G8->SpM}(C:∀x,x∈cs->CalMth X.prog X.w X.K X.mg X.base n x nm ps (lSpM X.K (S x)))(hx:XOkM X)(hr:Room m X.A)(ho:ME X o te)(ha:MA X (e::es) t)(hex:autoParam (X.ex=[]) zA0)(hn:autoParam (n<=m) zA1)
  (q_:autoParam (zSE X e es) zA0) (d0:autoParam (zPL X pos es) zA0)
  (ht:PM (.Call (.Attribute o nm b7) (e::es) [] pos) X.env=(do
   let ov <-PM o X.env
   Qx b7.atName
   let (f,first) <-Qy [ov] (QI ov nm pl)
   callWith pos f first (Qv pos (PD (e::es) X.env)) (QR pos (Qt [] X.env))):=by rfl):
  ME X (.Call (.Attribute o nm b7) (e::es) [] pos) (qW cs nm S te t):=by
 refine#[λpins s σ H Q I h=>?_];obtain⟨Fr,z,M,k,rs,R,h1,h2⟩:=h;refine methodCall_KW (pl:=pl) (thn (ho.out pins s σ H (λv H1=>∃d M1 F1,GrowM M M1 Fr H F1 H1/\Rep X.K F1 d v/\RepM X.K F1 H1 M1/\∃x,x∈cs/\∃fs,eA M1 d x fs/\fs.lookup nm=A'/\t z M1 λds M2=>S x (d::ds) M2 R λx fs M'=>J.RM z M' x fs) I #[Fr,z,M,k,rs,_,h1,λd v M1 F1 H1 g1 hd rd m1=>#[d,M1,F1,g1,rd,m1,hd]]) λu s1 hh=>?_) ht;obtain⟨v,H1,I1,rv,d,M1,F1,g1,rd,m1,x,KA,fs,hi,hl,hq⟩:=hh;obtain⟨C',f,fd,hns,k9,Iq,F,hb⟩:=C x KA;obtain⟨a,C2,dx,ws,rfl,w9,hH,rf⟩:=jA g1.fh m1 rd hi;rw[hns]at w9;cases w9;obtain rfl:u=Value.ref a:=rv;refine oC I1 hH k9 Iq (rf.none hl) ?_;refine callWith_K (first:=[.ref a]) (h₀:=X.base) I.ok.mod.kin Iq.kp (thn (ha.out pos pins s1 σ H1 (λvs H2=>lSpM X.K (S x) (.ref a::vs) H2 Q (EX X z σ)) I1 #[F1,z,M1,k.growM rs.mb g1,rs.growM k.bh g1 m1,_,hq,λds vs M2 F2 H2 g2 hx rx m2=>jB k rs (g1.trans g2) m2 (reps_cons.mpr #[_,_,rfl,rd.mono g2.ff,rx]) hx h2]) λus s2 hh=>#[hh.elim λ_ h=>h.elim λ_ h=>h.1.kIn,?_]) q_ d0;obtain⟨vs,H2,I2,r,q2⟩:=hh;exact gC (us:=.ref a::us) (vs:=.ref a::vs) F (hr.mono hn) hb (λe s' hq=>hx.out hex I2 hq) I2 (.cons rfl r) q2
def dB{nm:G8}{S:G8->SpM}(C:∀x,x∈cs->CalMth X.prog X.w X.K X.mg X.base n x nm ps (lSpM X.K (S x)))(hx:XOkM X)(hr:Room m X.A)(ho:ME X o te)(hex:autoParam (X.ex=[]) zA0)(hn:autoParam (n<=m) zA1)
  (ht:PM (.Call (.Attribute o nm b7) [] [] pos) X.env=(do
   let ov <-PM o X.env
   Qx b7.atName
   let (f,first) <-Qy [ov] (QI ov nm pl)
   callWith pos f first (Qv pos (PD [] X.env)) (QR pos (Qt [] X.env))):=by rfl):
  ME X (.Call (.Attribute o nm b7) [] [] pos) (qW cs nm S te mNil):=by
 refine#[λpins s σ H Q I h=>?_];obtain⟨Fr,z,M,k,rs,R,h1,h2⟩:=h;refine methodCall_KW (pl:=pl) (thn (ho.out pins s σ H (λv H1=>∃d M1 F1,GrowM M M1 Fr H F1 H1/\Rep X.K F1 d v/\RepM X.K F1 H1 M1/\∃x,x∈cs/\∃fs,eA M1 d x fs/\fs.lookup nm=A'/\S x [d] M1 R λx fs M'=>J.RM z M' x fs) I #[Fr,z,M,k,rs,_,h1,λd v M1 F1 H1 g1 hd rd m1=>#[d,M1,F1,g1,rd,m1,hd]]) λu s1 hh=>?_) ht;obtain⟨v,H1,I1,rv,d,M1,F1,g1,rd,m1,x,KA,fs,hi,hl,hq⟩:=hh;obtain⟨C',f,fd,hns,k9,Iq,F,hb⟩:=C x KA;obtain⟨a,C2,dx,ws,rfl,w9,hH,rf⟩:=jA g1.fh m1 rd hi;rw[hns]at w9;cases w9;obtain rfl:u=Value.ref a:=rv;refine oC I1 hH k9 Iq (rf.none hl) ?_;refine callWith_K0 (first:=[.ref a]) I1.kIn Iq.kp (gC (E:=EX X z σ) (us:=[.ref a]) (vs:=[.ref a]) F (hr.mono hn) hb (λe s' hq=>hx.out hex I1 hq) I1 (.cons rfl .nil) ?_);exact jB k rs g1 m1 (fG rd) hq h2
def make_of{C:KF}{S:SiD}{x:G8}{σ:L2.St}{z:SD}{M M1:MS}{F H F1 H1:Hp}{a dx:KF}{Q:VK}{E:XK}{T:List (G8×D)->Prop}(g1:GrowM M M1 F H F1 H1)(m1:RepM X.K F1 H1 M1)(rx:Reps X.K F1 ds vs)(hS:S ds T)
  (ha:H1 a=A') (v7:H1 dx=A') (l9:dx≠a) (q:∀fs ws dx F' H',Grow F1 H1 F' H'->T fs->H' a=u5 (.ins C dx ws)->F' a=A'->RepF X.K F' fs ws->Q (.ref a) H'):
  lSi X.K C S (.ref a::(vs++[])) (upd (upd H1 dx (.own a)) a (.ins C dx [])) (λv H2=>v=.non/\Q (.ref a) H2) E:=
 #[a,dx,vs,H1,F1,ds,by rw[Ea],rfl,ha,v7,l9,g1.fh,rx,_,hS,λfs ws GP F' H' g hR gt j6 rf=>#[rfl,q fs ws GP F' H' g hR gt j6 rf]]
def yn(x:G8)(S:SiD)(t:TMA):TME:=λz M R=>t z M λds M1=>S ds λfs=>R (.obj x fs) M1
def gM{S:SiD}(M:CalM X.prog X.w X.K X.mg X.base n x ps S)(hr:Room m X.A)(ha:MA X (e::es) t)(hg:autoParam (Gl X x) zA0)(hn:autoParam (n+1<=m) zA1)(e_:autoParam (zND x) zA1)
  (he:autoParam (zSE X e es) zA0) (d0:autoParam (zPL X pos es) zA0):
  ME X (.Call (.Name x p) (e::es) [] pos) (yn x S t):=by
 obtain⟨C,f,fd,hns,n9,mk,F,hb⟩:=M;refine#[(iZ mk F (hr.mono hn) hg n9 hb .nil dX ha.out e_ he d0).anti λs H Q q=>?_];obtain⟨F,z,M,k,rs,R,h1,h2⟩:=q;refine#[F,z,M,k,rs,_,h1,λds vs M1 F1 H1 g1 hx rx m1=>?_];intro a dx ha v7 l9;refine make_of (σ:=s) (z:=z) (x:=x) g1 m1 rx hx ha v7 l9 λfs ws dx F' H' g hR gt j6 rf=>?_;have s1:Same F' (upd F' a (.ins C dx ws)):=aM j6 _;have g2:Grow F1 H1 (upd F' a (.ins C dx ws)) H':=⟨g.ff.trans s1,λb o q=>by
  by_cases hb:b=a
  .subst hb;rw[aA]at q;cases q;exact gt
  .rw[ao hb]at q;exact g.fh b o q,g.hh,λb q1 q2=>by
  by_cases hb:b=a
  .subst hb;exact absurd ha q2
  .rw[ao hb];exact g.out b q1 q2⟩
 exact h2 (.obj x fs) (.ref a) M1 (upd F' a (.ins C dx ws)) H' (g1.trans g2.toM) hR (rep_obj.mpr #[a,C,dx,ws,rfl,hns,aA,RepF.mono s1 fs ws rf]) (m1.grow g2)
def yo(x:G8)(S:SiD)(t:TMA):TME:=λz M R=>t z M λds M1=>S ds λfs=>∀a,a∉az M1->R (.ptr a) ((a,.ins x fs)::M1)
def yp{S:SiD}(M:CalM X.prog X.w X.K X.mg X.base n x ps S)(hr:Room m X.A)(ha:MA X (e::es) t)(hg:autoParam (Gl X x) zA0)(hn:autoParam (n+1<=m) zA1)(e_:autoParam (zND x) zA1)
  (he:autoParam (zSE X e es) zA0) (d0:autoParam (zPL X pos es) zA0):
  ME X (.Call (.Name x p) (e::es) [] pos) (yo x S t):=by
 obtain⟨C,f,fd,hns,n9,mk,F,hb⟩:=M;refine#[(iZ mk F (hr.mono hn) hg n9 hb .nil dX ha.out e_ he d0).anti λs H Q q=>?_];obtain⟨F,z,M,k,rs,R,h1,h2⟩:=q;refine#[F,z,M,k,rs,_,h1,λds vs M1 F1 H1 g1 hx rx m1=>?_];intro a dx ha v7 l9;refine make_of (σ:=s) (z:=z) (x:=x) g1 m1 rx hx ha v7 l9 λfs ws dx F' H' g hR gt j6 rf=>?_;have na:a∉az M1:=λz=>m1.here z ha;have m2:=m1.grow g;refine h2 (.ptr a) (.ref a) _ F' H' (g1.trans #[g.ff,g.fh,λb o _ q=>g.hh b o q,λb _ q1 q2=>g.out b q1 q2,λb q=>?_]) (hR a na) (rep_ptr.mpr rfl) #[Ed.mpr #[na,m2.nd],λb o q=>?_,λb q=>?_]
 .rcases Dw.mp q with q|q
  .exact .inr (by rw[q];exact ha)
  .exact .inl q
 .rcases Dw.mp q with q|q
  .cases q;exact#[C,dx,ws,hns,gt,rf]
  .exact m2.ok b o q
 .rcases Dw.mp q with q|q
  .rw[q];exact j6
  .exact m2.fr b q
end
section
variable {X:Cx}{x:G8}{e:Pu}{es:List Pu}{t:TA}{p a8 pos:PK}{n m:Nat}{ps:List G8}{S:SiD}
def gN(X:Cx)(σ:L2.St)(F1 H1:Hp)(x:G8)(fs:List (G8×D)):Prop:=∀F' H' s' e C od,Inv X [] σ H' s'->Grow F1 H1 F' H'->ErrD X.K F' x fs C od->Exd X H' s' e C od->X.xe (.ref e) s'
def yq(M:CalE X.prog X.w X.K X.mg X.base n x ps S)(hr:Room m X.A)(hc:X.calm=true)(ha:PA X (e::es) t)(hex:autoParam (X.ex=[]) zA0)(hg:autoParam (Gl X x) zA0)(hn:autoParam (n+1<=m) zA1)(e_:autoParam (zND x) zA1)
  (he:autoParam (zSE X e es) zA0) (d0:autoParam (zPL X a8 es) zA0):
  PS X (.Raise (u5 (.Call (.Name x p) (e::es) [] a8)) A' pos) (λ_ σ H=>t σ H λvs H1=>vs.length<=1000/\∃F1 ds,Same F1 H1/\Reps X.K F1 ds vs/\∃T:List (G8×D)->Prop,S ds T/\∀fs,T fs->gN X σ F1 H1 x fs):=by
 obtain⟨C,N,bm,f,fd,k,hi,HL,Fn,hb⟩:=M;intro pins s σ H D I h;obtain⟨nm,q,bs,sn,sub,ab,col,dd,k0,k1,k2,k3,k5,lk⟩:=k.obj;refine ph (nm:=nm) (q:=q) (C:=C) (N:=N) (bs:=bs) (bm:=bm) (hdct:=true) (sn:=sn) (sub:=sub) (ab:=ab) (col:=col) (dd:=dd) (k0:=k0) (k1:=k1) (k2:=k2) (k3:=k3) (k5:=k5) (newId:="ValueError.__new__") k.base (I.ok.hd hc) ?_;refine PL (cu I hg k.mg ?_ e_);refine callWith_K (h₀:=X.base) I.ok.mod.kin k.kp (thn (ha a8 pins s σ H _ I h) λus s1 hh=>#[hh.elim λ_ h=>h.elim λ_ h=>h.1.kIn,?_]) he d0;obtain⟨vs,H1,I1,r,hl,F1,ds,KC,rx,T,hS,hT⟩:=hh;have hC:=I1.kIn _ _ lk;have N6:us.length<=sizeLine:=by rw[<-L2.Vals.length r];exact sz hl
 refine wk (g:=s1.gens) (d:=s1.drawn) (t:=s1.toks) (os:=s1.os) (rest:=us) I1.kIn (tail_of_in I1.kIn k.tail) hC hi (beq_iff_eq.mp HL) (λh' ea hm=>?_) N6;have I2:=Inv.newx I1 hex hm;have r2:Vals (V.ref ea::vs) (Value.ref ea::us):=.cons rfl r;have He:H1 ea=none:=gD I1.hok hm.new;have v3:lEi X.K C S (V.ref ea::vs) (upd H1 ea (XN ea C A')) (λv H'=>v=.non/\∃fs od F',Grow F1 H1 F' H'/\gN X σ F1 H1 x fs/\H' ea=u5 (XN ea C od)/\F' ea=A'/\ErrF X.K F' fs od) (λ_ _ _=>False):=
  #[ea,vs,H1,F1,ds,rfl,rfl,He,KC,rx,_,hS,λfs od F' H' g hR h1 h2 h3=>#[rfl,fs,od,F',g,hT fs hR,h1,h2,h3]]
 have b8:(Value.ref ea::us).length=ps.length:=by rw[<-L2.Vals.length r2];exact Fn.len _ _ _ _ v3
 have l8:=hb {s1 with heap:=h'} (Value.ref ea::us) I2.kIn (by rw[Ea];exact b8);rw[Ea]at l8;refine Qf (Qe (Fn.run _ X.stack _ _ #[Value.ref ea::us,[]] (Value.ref ea::us) _ _ _ ((hr.mono hn).make C us []) (I2.env0.make C us []) l8 r2 v3) λrr s' hq=>?_);cases rr with
 |error e'=>exact(dX (X:=X) pins σ _ _ e' s' I2 hq:X.xe e' s')
 |ok fl=>
  cases fl with
  |next=>exact False.elim hq
  |brk=>exact False.elim hq
  |cont=>exact False.elim hq
  |ret u=>
   obtain⟨v,H',I3,rv,rfl,fs,od,F',g,hR,v8,N7,er⟩:=I2.after hq;obtain rfl:u=Value.none:=rv;refine#[rfl,?_];have e0:X.s₀.heap.get? ea=none:=cI I1 hex hm.new;have I4:=Inv.drop I3 v8 e0;obtain⟨ta,sl,l_⟩:=XN.get I3.hok v8;have g4:Grow F1 H1 F' (del H' ea):=⟨g.ff,λb o q=>by
    have:b≠ea:=λz=>by rw[z,N7]at q;cases q
    rw[cm this];exact g.fh b o q,λb o q=>by
    have:b≠ea:=λz=>by rw[z,He]at q;cases q
    rw[cm this];exact g.hh b o q,g.out⟩
   refine#[ea,ta,od,sl,rfl,I3.kIn _ _ lk,l_,?_];exact hR F' (del H' ea) s' ea C od (Inv.nopins I4) g4 #[k.ns,er] #[fL,e0,pn_free I1 hm.new,.inl #[sl,_,l_,rfl]]
def yr(h:∃C N bm,ErrK X.K X.mg x C N bm/\ErrN X.K N)(hc:X.calm=true)(ha:PA X (e::es) t)(hex:autoParam (X.ex=[]) zA0)(hg:autoParam (Gl X x) zA0)(e_:autoParam (zND x) zA1)
  (he:autoParam (zSE X e es) zA0) (d0:autoParam (zPL X a8 es) zA0):
  PS X (.Raise (u5 (.Call (.Name x p) (e::es) [] a8)) A' pos) (λ_ σ H=>t σ H λvs H1=>vs.length<=1000/\∃F1,Same F1 H1/\gN X σ F1 H1 x []):=by
 obtain⟨C,N,bm,k,kn⟩:=h;intro pins s σ H D I h;obtain⟨nm,q,bs,sn,sub,ab,col,dd,k0,k1,k2,k3,k5,lk⟩:=k.obj;refine ph (nm:=nm) (q:=q) (C:=C) (N:=N) (bs:=bs) (bm:=bm) (hdct:=true) (sn:=sn) (sub:=sub) (ab:=ab) (col:=col) (dd:=dd) (k0:=k0) (k1:=k1) (k2:=k2) (k3:=k3) (k5:=k5) (newId:="ValueError.__new__") k.base (I.ok.hd hc) ?_;refine PL (cu I hg k.mg ?_ e_);refine callWith_K (h₀:=X.base) I.ok.mod.kin k.kp (thn (ha a8 pins s σ H _ I h) λus s1 hh=>#[hh.elim λ_ h=>h.elim λ_ h=>h.1.kIn,?_]) he d0;obtain⟨vs,H1,I1,r,hl,F1,KC,hR⟩:=hh;have hC:=I1.kIn _ _ lk;obtain⟨hp,gg,dr,tk,os⟩:=s1;refine wpAny_call_exc_subT PySem.F.excBase_ValueError (tail_of_in I1.kIn k.tail) hC (.of_isNs (isNs_of_in I1.kIn kn.ok)) (nsMap_none_of_in I1.kIn kn.ok kn.no) (λh' ea hm=>?_) (by show us.length<=_;rw[<-L2.Vals.length r];exact sz hl);obtain⟨ta,h1,h2,h3⟩:=hm.there;have I2:Inv X pins σ H1 #[h',gg,dr,tk,os]:=I1.kept (t':=tk) hm.keeps;refine#[ea,ta,A',[].toArray,rfl,hm.keeps _ _ hC,h1,?_];exact hR F1 H1 _ ea C A' (Inv.nopins I2) (Grow.refl KC) #[k.ns,[],repf_nil.mpr rfl,.inl #[rfl,rfl]] #[gD I1.hok hm.new,cI I1 hex hm.new,pn_free I1 hm.new,.inl #[[].toArray,_,h1,rfl]]
end
section
variable {X:Cx}[J:Jm]{x:G8}{e:Pu}{es:List Pu}{t:TMA}{p a8 pos:PK}{n m:Nat}{ps:List G8}{S:SiD}
def yt(x:G8)(S:SiD)(t:TMA):TMS:=λ_ z M=>t z M λds M1=>ds.length<=1000/\S ds λfs=>J.RM z M1 x fs
def qX{σ:L2.St}{z:SD}{M M1:MS}{F H F1 H1:Hp}{fs:List (G8×D)}(hx:XOkM X)(k:Kept J.B J.F0 F H)(rs:RepZ X.K J.B F H z σ M)(g1:GrowM M M1 F H F1 H1)(m1:RepM X.K F1 H1 M1)(hR:J.RM z M1 x fs):gN X σ F1 H1 x fs:=λF' H' s' e C od I g er ex=>
 hx σ z M1 F' H' s' e C od x fs I ((k.growM rs.mb g1).grow g) ((rs.growM k.bh g1 m1).growM (k.growM rs.mb g1).bh g.toM (m1.grow g)) hR er ex
def jC(M:CalE X.prog X.w X.K X.mg X.base n x ps S)(hr:Room m X.A)(hx:XOkM X)(hc:X.calm=true)(ha:MA X (e::es) t)(hex:autoParam (X.ex=[]) zA0)(hg:autoParam (Gl X x) zA0)(hn:autoParam (n+1<=m) zA1)(e_:autoParam (zND x) zA1)
  (he:autoParam (zSE X e es) zA0) (d0:autoParam (zPL X a8 es) zA0):
  MSt X (.Raise (u5 (.Call (.Name x p) (e::es) [] a8)) A' pos) (yt x S t):=⟨(yq M hr hc ha.out hex hg hn e_ he d0).anti λE s H q=>by
 obtain⟨F0,F,z,M,k,rs,ED,h,ee⟩:=q;exact#[F,z,M,k.kf,rs,_,h,λds vs M1 F1 H1 g1 g8 rx m1=>#[by rw[rx.length];exact g8.1,F1,ds,g1.fh,rx,_,g8.2,λfs hR=>qX hx k.kf rs g1 m1 hR]]⟩
def yu(x:G8)(t:TMA):TMS:=λ_ z M=>t z M λds M1=>ds.length<=1000/\J.RM z M1 x []
def yw(h:∃C N bm,ErrK X.K X.mg x C N bm/\ErrN X.K N)(hx:XOkM X)(hc:X.calm=true)(ha:MA X (e::es) t)(hex:autoParam (X.ex=[]) zA0)(hg:autoParam (Gl X x) zA0)(e_:autoParam (zND x) zA1)
  (he:autoParam (zSE X e es) zA0) (d0:autoParam (zPL X a8 es) zA0):
  MSt X (.Raise (u5 (.Call (.Name x p) (e::es) [] a8)) A' pos) (yu x t):=⟨(yr h hc ha.out hex hg e_ he d0).anti λE s H q=>by
 obtain⟨F0,F,z,M,k,rs,ED,h,ee⟩:=q;exact#[F,z,M,k.kf,rs,_,h,λds vs M1 F1 H1 g1 g8 rx m1=>#[by rw[rx.length];exact g8.1,F1,g1.fh,qX hx k.kf rs g1 m1 g8.2]]⟩
end
section
variable {X:Cx}[J:Jm]{a b c e:Pu}{ta tb tc te:TME}{pos:PK}{st:Py}{rest:List Py}{t u:TMS}
def yx:TMS:=λE z M=>E.nx z M
def mSeq(t u:TMS):TMS:=λE z M=>t {E with nx:=u E} z M
def aT:MSs X [] yx:=⟨pss_nil.anti λE s H q=>by
 obtain⟨F0,F,z,M,k,rs,ED,h,e⟩:=q;exact e.nx z s M F H k h rs⟩
def au(h1:MSt X st t)(h2:MSs X rest u):MSs X (st::rest) (mSeq t u):=⟨(fb h1.out h2.out).anti λE s H q=>by
 obtain⟨F0,F,z,M,k,rs,ED,h,e⟩:=q;exact#[F0,F,z,M,k,rs,{ED with nx:=u ED},h,#[λz' s' M' F' H' k' hz r'=>#[F0,F',z',M',k',r',ED,hz,e],e.rt,e.bk,e.ct]]⟩
def av(h1:MSt X st t):MSs X [st] t:=#[nS h1.out]
def mRet(te:TME):TMS:=λE z M=>te z M E.rt
def aG(he:ME X e te):MSt X (.Return (u5 e) pos) (mRet te):=⟨(nU he.out).anti λE s H q=>by
 obtain⟨F0,F,z,M,k,rs,ED,h,e⟩:=q;exact#[F,z,M,k.kf,rs,_,h,λd v M' F' H' g hd rd m'=>e.rt d v M' F' H' (k.growM rs.mb g) hd rd m' (rs.growM k.bh g m').mb]⟩
def yy(te:TME):TMS:=λE z M=>te z M λ_ M1=>E.nx z M1
def bq(he:ME X e te)(hs:autoParam (PV e A' pos.line X.env=pure false) zA0):MSt X (.Expr e pos) (yy te):=⟨(iO he.out hs).anti λE s H q=>by
 obtain⟨F0,F,z,M,k,rs,ED,h,e⟩:=q;exact#[F,z,M,k.kf,rs,_,h,λd v M' F' H' g hd rd m'=>e.nx z s M' F' H' (k.growM rs.mb g) hd (rs.growM k.bh g m')]⟩
def mIfS(c:TMT)(t u:TMS):TMS:=λE z M=>c z M λb M1=>if b=true then t E z M1 else u E z M1
variable{l r:List Py}
def bb{c:Pu}{tc:TMT}(hc:MT X c tc)(ha:MSs X l t)(hb:MSs X r u):MSt X (.If c l r pos) (mIfS tc t u):=⟨(nV hc.out ha.out hb.out).anti λE s H q=>by
 obtain⟨F0,F,z,M,k,rs,ED,h,e⟩:=q;refine#[F,z,M,k.kf,rs,_,h,λb M1 F1 H1 g hk m1=>?_];cases b with
 |true=>exact#[F0,F1,z,M1,k.growM rs.mb g,rs.growM k.bh g m1,ED,hk,e]
 |false=>exact#[F0,F1,z,M1,k.growM rs.mb g,rs.growM k.bh g m1,ED,hk,e]⟩
def mIfJ(c:TMT)(t u:TMS):TMS:=λE z M=>∃J:SD->MS->Prop,(c z M λb M1=>if b=true then t {E with nx:=J} z M1 else u {E with nx:=J} z M1)/\∀z' M',J z' M'->E.nx z' M'
def dD{c:Pu}{tc:TMT}(hc:MT X c tc)(ha:MSs X l t)(hb:MSs X r u):MSt X (.If c l r pos) (mIfJ tc t u):=⟨(bb hc ha hb).out.anti λE s H q=>by
 obtain⟨F0,F,z,M,k,rs,ED,⟨J,h,j⟩,e⟩:=q;exact#[F0,F,z,M,k,rs,{ED with nx:=J},h,#[λz' s' M' F' H' k' hz r'=>e.nx z' s' M' F' H' k' (j z' M' hz) r',e.rt,e.bk,e.ct]]⟩
def mSet(i:Nat)(te:TME):TMS:=λE z M=>∃P:D->MS->Prop,te z M P/\∀d M',P d M'->E.nx (z.set i (u5 d)) M'
def aW(i:Nat){x:G8}{c_:PK}(hN:X.N.Nodup)(he:ME X e te)(hi:autoParam (X.N[i]?=u5 x) zA0)(hx:autoParam (Loc X.env.scope x) zA4)(hs:autoParam (PV e (u5 (.Name x c_)) pos.line X.env=pure false) zA0)
  (hf:autoParam (zFN X x) zA2):MSt X (.Assign [.Name x c_] e pos) (mSet i te):=⟨(fY hN hi hx he.out hs hf).anti λE s H q=>by
 obtain⟨F0,F,z,M,k,rs,ED,⟨P,h,j⟩,e⟩:=q;exact#[F,z,M,k.kf,rs,P,h,λd v M' F' H' g hd rd m'=>e.nx _ _ M' F' H' (k.growM rs.mb g) (j d M' hd) ((rs.growM k.bh g m').set rd)]⟩
def yz(x f:G8)(to te:TME):TMS:=λE z M=>te z M λd M1=>to z M1 λo M2=>match o with|.ptr a=>∃fs,mget M2 a=u5 (.ins x fs)/\fs.length<1000/\E.nx z (mput M2 a (.ins x (putD f d fs)))|_=>False
def gO{x f:G8}{o:Pu}{to:TME}{c_:PK}(hA:ClsA X.K x f)(ho:ME X o to)(he:ME X e te)(hs:autoParam (PV e (u5 (.Attribute o f c_)) pos.line X.env=pure false) zA0):
  MSt X (.Assign [.Attribute o f c_] e pos) (yz x f to te):=⟨(oE ho.out he.out hs).anti λE s H q=>by
 obtain⟨C,hn,hc,hf⟩:=hA;obtain⟨F0,F,z,M,k,rs,ED,h,ee⟩:=q;refine#[F,z,M,k.kf,rs,_,h,λd v M1 F1 H1 g1 hx rd m1=>?_];have k1:=k.growM rs.mb g1;have z7:=rs.growM k.bh g1 m1;refine#[F1,z,M1,k1.kf,z7,_,hx,λo' v' M2 F2 H2 g2 hy ro m2=>?_];have k2:=k1.growM z7.mb g2;have Ju:=z7.growM k1.bh g2 m2;split at hy
 .rename_i a;obtain⟨fs,hm,hl,Ic⟩:=hy;obtain⟨C',dx,ws,j9,hH,rf⟩:=m2.ok _ _ (bo hm);rw[hn]at j9;cases j9;have fa:=m2.fr a (ca (bo hm));refine#[a,C,dx,ws,rep_ptr.mp ro,hH,hc,hf,by rw[rf.length];exact hl,?_];have m3:RepM X.K F2 (upd H2 a (.ins C dx (putF f v ws))) (mput M2 a (.ins x (putD f d fs))):=m2.put hm #[C,dx,_,hn,aA,RepF.put (rd.mono g2.ff) rf];have g3:GrowM M2 (mput M2 a (.ins x (putD f d fs))) F2 H2 F2 (upd H2 a (.ins C dx (putF f v ws))):=GrowM.put k2.fh fa hm;exact ee.nx z s _ F2 _ (k2.growM Ju.mb g3) Ic (Ju.growM k2.bh g3 m3)
 .exact hy.elim⟩
def yB(c:TMT)(tb:TMS):TMS:=λE z M=>∃W:Nat->SD->MS->Prop,(∃m,W m z M)/\∀m z M,W m z M->
 c z M λb M1=>if b=true then tb {E with nx:=λz' M'=>∃m',m'<m/\W m' z' M',ct:=λz' M'=>∃m',m'<m/\W m' z' M',bk:=E.nx} z M1 else E.nx z M1
def yD{c:Pu}{body:List Py}{tc:TMT}{tb:TMS}(hp:P3 (Pt X.prog X.w) X.A X.env X.xe)(hc:MT X c tc)(hb:MSs X body tb):MSt X (.While c body [] pos) (yB tc tb):=⟨(nX hp hc.out hb.out).anti λE s H q=>by
 obtain⟨F0,F,z,M,k,rs,ED,⟨W,⟨m0,w0⟩,d9⟩,e⟩:=q;refine#[λm s' H'=>∃F' z' M',Kept J.B F0 F' H'/\RepZ X.K J.B F' H' z' s' M'/\W m z' M',#[m0,F,z,M,k,rs,w0],?_];rintro m s1 H1⟨F1,z1,M1,k1,r1,w1⟩;refine#[F1,z1,M1,k1.kf,r1,_,d9 m z1 M1 w1,λb M2 F2 H2 g2 hk m2=>?_];cases b with
 |true=>
  refine#[λs3 H3=>∃F3 z3 M3,Kept J.B F0 F3 H3/\RepZ X.K J.B F3 H3 z3 s3 M3/\∃m',m'<m/\W m' z3 M3,λs3 H3 ⟨F3,z3,M3,k3,r3,m',l,w3⟩=>#[m',l,F3,z3,M3,k3,r3,w3],?_];exact#[F0,F2,z1,M2,k1.growM r1.mb g2,r1.growM k1.bh g2 m2,_,hk,#[λz3 s3 M3 F3 H3 k3 h3 r3=>#[F3,z3,M3,k3,r3,h3],e.rt,e.nx,λz3 s3 M3 F3 H3 k3 h3 r3=>#[F3,z3,M3,k3,r3,h3]]]
 |false=>exact e.nx z1 s1 M2 F2 H2 (k1.growM r1.mb g2) hk (r1.growM k1.bh g2 m2)⟩
end
end My
end
section
namespace L2
open PySem PySem.Spec PyProof.Rows
section
variable {κ:Type}[DecidableEq κ]
def valV(a9:List (κ×V))(k:κ):Option V:=(a9.find? λkv=>decide (kv.1=k)).map (·.2)
def qY{p:κ×V}{r:List (κ×V)}{k:κ}(e:p.1=k):valV (p::r) k=u5 p.2:=by simp[valV,E8,e]
def qZ{p:κ×V}{r:List (κ×V)}{k:κ}(e:¬p.1=k):valV (p::r) k=valV r k:=by simp[valV,E8,e]
end
def yF{P:Pw}{w:Pz}{k:Key}{u:GT}(r:RelV (kV k) u):(cg P w).is k u=true:=by
 cases k with
 |inl i=>obtain⟨t,e⟩:=(show ∃t,u=Value.int i t from r);subst e;exact mixKind_int P w i t
 |inr x=>obtain⟨t,e⟩:=(show ∃t,u=Value.str x t from r);subst e;exact sW P w x t
def ra{P:Pw}{w:Pz}:∀{ks:List Key} {us:List GT},Vals (ks.map kV) us->ItemsAre (cg P w) ks us
 |[],_,r=>by rw[EO]at r;cases r;exact .nil
 |k::ks,_,r=>by
  rw[DZ]at r;cases r with
  |cons h t=>exact .cons (yF h) (ra t)
abbrev KT(H:Hp):List (List Key×V)->List (List Key×KF×GT)->Prop:=Paired λp q=>p.1=q.1/\H q.2.1=u5 (.tup (p.1.map kV))/\RelV p.2 q.2.2
variable{H:Hp}{a9:List (List Key×V)}{xs:List (List Key×KF×GT)}
def KT.val(r:KT H a9 xs)(k:List Key):RelO (valV a9 k) ((QK xs k).map (·.2)):=by
 induction r with
 |nil=>exact True.intro
 |@cons p q ps qs h t ih=>
  obtain⟨h1,_,h2⟩:=h;by_cases e:p.1=k
  .have e':q.1=k:=h1.symm.trans e;have b:QK (q::qs) k=u5 q.2:=by simp[QK,E8,e']
   rw[qY e,b];exact h2
  .have e':¬q.1=k:=λz=>e (h1.trans z);have b:QK (q::qs) k=QK qs k:=by simp[QK,E8,e']
   rw[qZ e,b];exact ih
def KT.keeps{H':Hp}(r:KT H a9 xs)(ht:∀b ys,H b=u5 (.tup ys)->H' b=u5 (.tup ys)):KT H' a9 xs:=
 Paired.mapP r λ_ _ z=>#[z.1,ht _ _ z.2.1,z.2.2]
section
variable {P:Pw}{w:Pz}{H:Hp}{h:Heap}{a:KF}
def yG{u:HO}(ok:HOk P w H h)(e:Rd H a u):ObjOk P w H h a u:=e.ok ok
def key_of{ks:List Key}(ok:HOk P w H h)(e:H a=u5 (.tup (ks.map kV))):(Qw (cg P w)).is h ks a:=by
 obtain⟨_,its,r,o,h1,h2,n,h3⟩:=(show ObjOk P w H h a (.tup (ks.map kV))from ok a _ e);exact#[o,its.toArray,n,h1,h2,h3,by simpa using ra r]
variable{a9:List (List Key×V)}
def yH(ok:HOk P w H h)(e:Rd H a (.dT a9)):a9.length<=sizeLine/\(a==P5)=false/\
  ∃xs,KT H a9 xs/\h.DictOfH (Qw (cg P w)) a xs:=by
 obtain⟨z,y,xs,r,o,es,ep,h1,h2,h3,h4,h5⟩:=(show ObjOk P w H h a (.dT a9)from yG ok e);refine#[z,y,xs,r,o,es,ep,h1,h2,h3,h4,λx hx=>?_,h5];have all:∀{l:List (List Key×V)} {m:List (List Key×KF×GT)},KT H l m->∀x∈m,(Qw (cg P w)).is h x.1 x.2.1:=by
  intro l m q;induction q with
  |nil=>intro x hx;exact nomatch hx
  |@cons p q ps qs hq t ih=>
   intro x hx;rcases Dw.mp hx with e|hx
   .subst e;exact key_of ok (by rw[<-hq.1];exact hq.2.1)
   .exact ih x hx
 exact all r x hx
def yI(ok:HOk P w H h)(e:H a=u5 (.dT a9)):a9.length<=sizeLine/\(a==P5)=false/\
  ∃xs,KT H a9 xs/\h.DictOfH (Qw (cg P w)) a xs:=yH ok (.inl e)
end
section
variable {X:Cx}{pins:List (KF×PX)}{σ:St}{H:Hp}{s:KB}{a:KF}{y v:V}{u r:GT}{o:Option V}{A:PB}{E:GT->KB->Prop}
def Inv.big(I:Inv X pins σ H s):P5<s.heap.objs.size:=by
 have h:Os<s.heap.objs.size:=(I.mod.glob.keeps I.bk).lt;exact FE G_ h
def yJ{h':Heap}{t':Nat}{ob:HO}(I:Inv X pins σ H s)(mu:Mut (H a))(hs:Heap.SameBut a s.heap h')(he:∃q,h'.get? a=u5 q)(new:ObjOk X.prog X.w (upd H a ob) h' a ob):
  Inv X pins σ (upd H a ob) {s with heap:=h',toks:=t'}:=
 I.write (x:=a) (e:=a) mu (.inl rfl) (λb q hb z=>(hs.2 b hb).trans z) he new
end
def yL{P:Pw}{w:Pz}(h:Heap)(hb:P5<h.objs.size):ObjOk P w H (h.push {cls:=.type "dict",data:=.dict [].toArray}) h.objs.size (.dT []):=
 #[DO _,beq_eq_false_iff_ne.mpr (Ne.symm (DF hb)),[],.nil,_,[].toArray,0,Heap.get?_push_size _ rfl,#[rfl,rfl,rfl],rfl,rfl,Gi]
def yM:TE:=λ_ H Q=>∀p,H p=A'->Q (.ref p) (upd H p (.dT []))
section
variable {X:Cx}{pos:PK}
def pe_dnewT:PE X (.Dict [] [] pos) yM:=λpins s σ H Q I h=>
 wpAny_Dict_empty #[.ref s.heap.objs.size,_,I.laid (a:=s.heap.objs.size) (o:=.dT []) (t':=s.toks) (λ_ _ q=>Heap.get?_push_of_some _ q) (Dt _) (yL s.heap I.big),rfl,h _ (I.hok.fresh (Dt _))]
end
end L2
end
section
open PySem PySem.Spec PyProof.Rows L2
namespace My
open Exc
section
variable {X:Cx}[J:Jm]{a b c e o:Pu}{ta tb tc te to:TME}{pos:PK}{st:Py}{rest:List Py}{t u:TMS}
abbrev TMI:=SD->MS->(List D->MS->Prop)->Prop
def mItR(t:TME):TMI:=λz M R=>t z M λx M1=>match x with|.int n=>(0<=n/\n<2^62)/\R ((D9 n.toNat).map λk=>D.int ((k:Nat):Int)) M1|_=>False
def mFor(i:Nat)(ti:TMI)(tb:TMS):TMS:=λE z M=>ti z M λds M1=>∃W:Nat->SD->MS->Prop,W 0 z M1/\(∀k x z M,ds[k]?=u5 x->W k z M->tb {E with nx:=W (k+1),ct:=W (k+1),bk:=E.nx} (z.set i (u5 x)) M)/\∀z M,W ds.length z M->E.nx z M
def rb(i:Nat){x:G8}{p p1 p2:PK}{body:List Py}{tb:TMS}(hp:P3 (Pt X.prog X.w) X.A X.env X.xe)(hc:X.calm=true)(hN:X.N.Nodup)(hm:X.mg "range"=A')(he:ME X e te)(hb:MSs X body tb)(hg:autoParam (Gl X "range") zA0)(hi:autoParam (X.N[i]?=u5 x) zA0)(hx:autoParam (Loc X.env.scope x) zA4)
  (hf:autoParam (zFN X x) zA2) (hs:autoParam (∀y,zFS X (.Call (.Name "range" p1) [e] [] p2) y) zA3) (Hg:autoParam (zSE X e []) zA0) (o_:autoParam (PD [e] X.env=[(false,PM e X.env)]) zA0):
  MSt X (.For (.Name x p) (.Call (.Name "range" p1) [e] [] p2) body [] pos) (mFor i (mItR te) tb):=⟨(dS hp hc (nZ hg hm (bN he.out pa_nil Hg) o_) (fg hN hi hx hf) hb.out hs).anti λE s H q=>by
 obtain⟨F0,F,z,M,kp,rs,ED,h,e⟩:=q;refine#[F,z,M,kp.kf,rs,_,h,λd v M1 F1 H1 g1 hd rd m1=>?_];split at hd
 .rename_i n;obtain⟨⟨b1,b2⟩,W,w0,d9,out⟩:=hd;have hl:((D9 n.toNat).map λk=>D.int ((k:Nat):Int)).length=n.toNat:=by simp
  refine#[n,by rw[rep_int.mp rd],HN,b2,og (lo:=0) (n:=n.toNat) (λk s' H'=>∃F' z' M',Kept J.B F0 F' H'/\RepZ X.K J.B F' H' z' s' M'/\W k z' M') #[F1,z,M1,kp.growM rs.mb g1,rs.growM kp.bh g1 m1,w0] ?_ ?_]
  .rintro k s' H' hk⟨F',z',M',k',r',w'⟩;have e1:(0:Int)+(k:Int)=(k:Int):=by lia
   exact#[F0,F',_,M',k',r'.set (d:=.int (k:Int)) (rep_int.mpr (by rw[e1])),_,d9 k (.int (k:Int)) z' M' (by simp[hk]) w',#[λz3 s3 M3 F3 H3 k3 h3 r3=>#[F3,z3,M3,k3,r3,h3],e.rt,e.nx,λz3 s3 M3 F3 H3 k3 h3 r3=>#[F3,z3,M3,k3,r3,h3]]]
  .rintro s' H'⟨F',z',M',k',r',w'⟩;exact e.nx z' s' M' F' H' k' (out z' M' (by rw[hl];exact w')) r'
 .exact hd.elim⟩
def yO(te:TME):TME:=λz M R=>te z M λd M1=>match d with|.ptr a=>∃ds,mget M1 a=u5 (.lst ds)/\R (.int ds.length) M1|_=>False
def yQ{p:PK}(hm:X.mg "len"=A')(ha:ME X e te)(hg:autoParam (Gl X "len") zA0)(he:autoParam (zSE X e []) zA0):ME X (.Call (.Name "len" p) [e] [] pos) (yO te):=⟨(fj gf hg hm PySem.boot_len (bN ha.out pa_nil he) G_ G_ he).anti λs H Q h=>by
 obtain⟨F,z,M,k,rs,R,h1,h2⟩:=h;refine#[F,z,M,k,rs,_,h1,λd v M1 F1 H1 g1 hx rx m1=>?_];split at hx
 .rename_i a;obtain⟨ds,hm,hR⟩:=hx;obtain⟨vs,hH,rr⟩:=m1.ok _ _ (bo hm);exact#[.ref a,vs.length,by rw[rep_ptr.mp rx],.inl #[vs,SqL.of hH,rfl],h2 _ _ M1 F1 H1 g1 hR (rep_int.mpr (by rw[rr.length])) m1]
 .exact hx.elim⟩
def mIxP(ta tb:TME):TME:=λz M R=>ta z M λx M1=>tb z M1 λy M2=>kdP x λa=>kdI y λi=>∃ds,mget M2 a=u5 (.lst ds)/\∃d,atI ds i=u5 d/\R d M2
def rg(ha:ME X a ta)(hb:ME X b tb)(hs:autoParam (fk b) zA6):ME X (.Subscript a b pos) (mIxP ta tb):=⟨(pe_ix ix_list ha.out hb.out hs).anti λs H Q h=>by
 obtain⟨F,z,M,k,rs,R,h1,h2⟩:=h;refine#[F,z,M,k,rs,_,h1,λx u M1 F1 H1 g1 hx rx m1=>?_];refine#[F1,z,M1,k.growM rs.mb g1,rs.growM k.bh g1 m1,_,hx,λy v M2 F2 H2 g2 hy ry m2=>?_];obtain⟨p,rfl,N8⟩:=kdP.of hy;obtain⟨i,rfl,ds,hm,d,hd,hR⟩:=kdI.of N8;obtain⟨vs,hH,rr⟩:=m2.ok _ _ (bo hm);obtain⟨w,e2,m_⟩:=rr.at hd;exact#[p,vs,_,w,rep_ptr.mp rx,rep_int.mp ry,SqL.of hH,e2,h2 d w M2 F2 H2 (g1.trans g2) hR m_ m2]⟩
def yR(to te:TME):TME:=λz M R=>to z M λo M1=>match o with|.ptr a=>(∃ds,mget M1 a=u5 (.lst ds))/\te z M1 λd M2=>∃ds,mget M2 a=u5 (.lst ds)/\ds.length<=100000/\R .non (mput M2 a (.lst (ds++[d])))|_=>False
def dE{b7 a8:PK}(ho:ME X o to)(he:ME X e te)(k_:autoParam (zSE X e []) zA0)
  (b9:autoParam (PF o "append" X.env (PM o X.env)=PM o X.env) zA0)
  (f8:autoParam (zHF X a8 [e]) zA0)
  (c7:autoParam ((b7.endLine==a8.line)=true) zA0):
  ME X (.Call (.Attribute o "append" b7) [e] [] a8) (yR to te):=⟨(dW PySem.F.plainAttrs_list PySem.F.slot_list_append PySem.F.type_list_append ja ho.out (bN he.out pa_nil k_) b9 f8 c7 k_).anti λs H Q h=>by
 obtain⟨F,z,M,k,rs,R,h1,h2⟩:=h;refine#[F,z,M,k,rs,_,h1,λx u M1 F1 H1 g1 hx rx m1=>?_];split at hx
 .rename_i a;obtain⟨⟨N9,Ir⟩,hx⟩:=hx;obtain⟨KD,KE,N_⟩:=m1.ok _ _ (bo Ir);rw[rep_ptr.mp rx];refine#[.inl #[rfl,KD,SqL.of KE],?_];refine#[F1,z,M1,k.growM rs.mb g1,rs.growM k.bh g1 m1,_,hx,λd v M2 F2 H2 g2 hd rd m2=>?_];obtain⟨ds,hm,hl,hR⟩:=hd;obtain⟨vs,hH,rr⟩:=m2.ok _ _ (bo hm);have hz:vs.length<sizeLine:=by
   rw[rr.length];have h2:(100000:Nat)<sizeLine:=G_
   lia
  refine#[a,vs,v,rfl,rfl,hH,hz,?_];exact h2 _ _ _ F2 _ (g1.trans (g2.trans (GrowM.put g2.fh (m2.fr a (ca (bo hm))) hm))) hR (rep_non.mpr rfl) (m2.put hm #[_,aA,rr.append (fG rd)])
 .exact hx.elim⟩
def frzD:MO->D|.ins x fs=>.obj x fs|.lst ds=>.lst ds|.dti a9=>.dti a9
def mFrz(i:Nat)(t:TMS):TMS:=λE z M=>match z[i]? with|some (u5 (.ptr a))=>∃o,mget M a=u5 o/\t E (z.set i (u5 (frzD o))) (mdel M a)|_=>False
def rh(i:Nat){H_:List Py}(h:MSs X H_ t):MSs X H_ (mFrz i t):=⟨PSs.anti h.out λE s H q=>by
 obtain⟨F0,F,z,M,k,rs,ED,h,e⟩:=q;unfold mFrz at h;split at h
 .rename_i a ez;obtain⟨o,hm,h⟩:=h;have mem:=bo hm;have fa:=rs.rm.fr a (ca mem);have ba:=rs.mb a (ca mem);obtain⟨v,hv,rv⟩:=rs.rs.val i _ ez rfl;have Oa:=rep_ptr.mp rv;subst Oa;have hok:=rs.rm.ok a o mem;obtain⟨ho,gt,KG⟩:∃ho,H a=u5 ho/\∀F',Same F F'->F' a=u5 ho->Rep X.K F' (frzD o) (.ref a):=by
   cases o with
   |ins x fs=>obtain⟨C,dx,ws,n,h1,h2⟩:=hok;exact#[_,h1,λF' s' hF=>rep_obj.mpr #[a,C,dx,ws,rfl,n,hF,RepF.mono s' fs ws h2]]
   |lst ds=>obtain⟨vs,h1,h2⟩:=hok;exact#[_,h1,λF' s' hF=>rep_lst.mpr #[a,vs,rfl,hF,h2.mono s']]
   |dti a9=>exact#[_,hok,λF' s' hF=>rep_dti.mpr #[a,rfl,hF]]
  have s1:Same F (upd F a ho):=aM fa _;have hs:s.set i (u5 (.ref a))=s:=by
   apply Fz;intro n;by_cases hn:i=n
   .subst hn;rw[Eb (DN.mp hv).1,hv]
   .rw[DL hn]
  have k1:Kept J.B F0 (upd F a ho) H:=⟨k.bh,λb u q=>by
   by_cases hb:b=a
   .subst hb;rw[aA]at q;cases q;exact gt
   .rw[ao hb]at q;exact k.fh b u q,k.f0.trans s1,λb h1 h2=>by
   by_cases hb:b=a
   .subst hb;exact absurd ba h2
   .rw[ao hb];exact k.out b h1 h2,k.eb,k.jf,k.jo⟩
  have r0:RepS X.K J.B (upd F a ho) H z s:=#[rs.rs.len,λi d e n=>let ⟨v,q1,q2⟩:=rs.rs.val i d e n;#[v,q1,q2.mono s1],λi ds e=>absurd e (rs.no i ds),rs.rs.apart];have Ob:RepM X.K (upd F a ho) H (mdel M a):=⟨rs.rm.nd.sublist del_sub,λb q hb=>by
   obtain⟨ne,hb⟩:=jw rs.rm.nd hb;exact(rs.rm.ok b q hb).mono s1 λ_ z=>z,λb hb=>by
   obtain⟨⟨b',q⟩,l8,rfl⟩:=D1.mp hb;obtain⟨ne,Jv⟩:=jw rs.rm.nd l8;rw[ao ne];exact rs.rm.fr _ (ca Jv)⟩
  have z0:RepZ X.K J.B (upd F a ho) H z s (mdel M a):=#[r0,rs.no,Ob,λb hb=>rs.mb b (del_sub.subset hb)];have z1:=z0.set (i:=i) (KG _ s1 aA);rw[hs]at z1;exact#[F0,_,_,_,k1,z1,ED,h,e]
 .exact h.elim⟩
end
def rj{K:Dr}{F:Hp}{N:List G8}{ds:List D}{vs:List V}(rs:Reps K F ds vs):∀(i:Nat) d,(startD N ds)[i]?≠u5 (u5 (.own d)):=by
 intro i d e;unfold startD at e;by_cases hi:i<ds.length
 .rw[Er (by simpa using hi),D4]at e;cases q:ds[i]? with
  |none=>rw[q]at e;cases e
  |some x=>
   rw[q]at e;cases e;obtain⟨v,_,q2⟩:=rs.get q;exact rep_own q2
 .rw[EE (by simpa using hi),Fp]at e;split at e
  .cases e
  .cases e
def growM_nil{M':MS}{F H F' H':Hp}(g:GrowM [] M' F H F' H'):Grow F H F' H':=#[g.ff,g.fh,λb o h=>g.hh b o (λz=>nomatch z) h,λb h1 h2=>g.out b (λz=>nomatch z) h1 h2]
section
variable {P:Pw}{w:Pz}{K:Dr}{mg:G8->Option GT}{base:Heap}
variable{x:G8}{ps:List G8}{S:SpM}
def CalMM.toX{n:Nat}{S0:SpX}(C:CalMM P w K mg base n x ps S)(h:∀ds R RX,S0 ds R RX->S ds [] (λd _=>R d) λx fs _=>RX x fs):CalX P w K mg base n x ps S0:=by
 obtain⟨f,fd,F,hb,hk,hm⟩:=C;refine#[f,fd,F.imp λvs H Q E q=>?_,hb,hk,hm];obtain⟨F,ds,fh,rs,R,RX,hS,q1,q2⟩:=q;exact#[F,ds,[],fh,rs,RepM.nil,_,_,h ds R RX hS,λd v M' F' H' g hd rd _=>q1 d v F' H' (growM_nil g) hd rd,λy fs C od M' F' H' g hR er _=>q2 y fs C od F' H' (growM_nil g) hR er]
open Classical in
def Fun.okM{x qual:G8}{st:Py}{f:KF}{fd:PH}{N ps:List G8}{k:Nat}{S:SpM}{dV:GT}(T:FunG K dV x qual st f fd)(F:FnScope N ps (ag st))(len:∀ds M R RX,S ds M R RX->ds.length=ps.length)
  (a_:∀(cdv:GT) (A:PB) (outer:List Ql) (s:KB) (H:Hp) (E:XK) (J:Jm),Room k (A.deeper (PZ qual (ag st) s.heap.objs.size f cdv))->XOkM (cxOf (CX1 P w) P w K mg base N qual (ag st) f cdv A outer s H E)->
   ∃t,MSs (cxOf (CX1 P w) P w K mg base N qual (ag st) f cdv A outer s H E) (aP st) t/\∀ds M R RX,(∀z,J.RM z=λM' x fs=>RX x fs M')->S ds M R RX->t {nx:=λ_ M'=>R .non M',rt:=R} (startD N ds) M):FnOk P w K mg base (CX1 P w) (k+1) f fd ps (lSpM K S):=by
 refine Fun.okC T F (λvs H Q E h=>?_) (λcdv A outer s H vs Q E hr h=>?_)
 .obtain⟨F,ds,M,fh,rs,rm,R,RX,h,_⟩:=h;rw[rs.length];exact len ds M R RX h
 .obtain⟨F,ds,M,fh,rs,rm,R,RX,h,q,qx⟩:=h
  let B:Hp:=λb=>if b∈az M then A' else H b
  have Mr:∀{b:KF},b∈az M->B b=none:=λ{b} h=>if_pos h;have Jw:∀{b:KF},b∉az M->B b=H b:=λ{b} h=>if_neg h
  letI:Jm:={B:=B,F0:=F,RX:=λ_ _ _=>False,RM:=λ_ M' x fs=>RX x fs M'}
  have gr:∀{M':MS} {F' H':Hp},Kept B F F' H'->(∀a,a∈az M'->B a=A')->GrowM M M' F H F' H':=λ{M' F' H'} k mb=>⟨k.f0,k.fh,λb o nb e=>k.bh b o (by rw[Jw nb];exact e),λb nb h1 h2=>k.out b h1 (by rw[Jw nb];exact h2),λb hb=>by
   by_cases nb:b∈az M
   .exact .inl nb
   .right;rw[<-Jw nb];exact mb b hb⟩
  have hx:XOkM (cxOf (CX1 P w) P w K mg base N qual (ag st) f cdv A outer s H E):=by
   intro σ z M' F' H' s' e C od y fs I kk rr hR er ⟨He,ne,_,hx⟩;have hE:E (.ref C) od H':=qx y fs C od M' F' H' (gr kk rr.mb) hR er rr.rm;rcases hx with⟨sl,vs,h1,h2⟩|⟨T,fl,h1,h2,h3,_⟩
   .exact wm I h1 h2 He ne hE
   .exact xA I h1 ne h2 He h3 hE
  obtain⟨t,ht,hq⟩:=a_ cdv A outer s H E inferInstance hr hx;have k0:Kept B F F H:=⟨λb o e=>by
   by_cases nb:b∈az M
   .rw[Mr nb]at e;cases e
   .rw[Jw nb]at e;exact e,fh,Same.refl F,λ_ h _=>h,rfl,Same.refl F,λ_ h _=>h⟩
  have r0:RepZ K B F H (startD N ds) (L2.start N vs) M:=#[fz rs,rj rs,rm,λa h=>Mr h];exact#[_,ht.out,F,F,startD N ds,M,k0,r0,_,hq ds M R RX (λ_=>rfl) h,#[λz' s' M' F' H' k hn r=>q _ _ M' F' H' (gr k r.mb) hn (rep_non.mpr rfl) r.rm,λd v M' F' H' k hd rd Ms mb=>q d v M' F' H' (gr k mb) hd rd Ms,λ_ _ _ _ _ _ h _=>h.elim,λ_ _ _ _ _ _ h _=>h.elim]]
variable{N:List G8}
def Tx.okM{st:Py}{k:Nat}(T:Tx K mg x st ps)(F:FnScope N ps (ag st))(len:∀ds M R RX,S ds M R RX->ds.length=ps.length)
  (a_:∀(f:KF) (cdv:GT) (A:PB) (outer:List Ql) (s:KB) (H:Hp) (E:XK) (J:Jm),Room k (A.deeper (PZ x (ag st) s.heap.objs.size f cdv))->XOkM (cxOf (CX1 P w) P w K mg base N x (ag st) f cdv A outer s H E)->
   ∃t,MSs (cxOf (CX1 P w) P w K mg base N x (ag st) f cdv A outer s H E) (aP st) t/\∀ds M R RX,(∀z,J.RM z=λM' x fs=>RX x fs M')->S ds M R RX->t {nx:=λ_ M'=>R .non M',rt:=R} (startD N ds) M):CalMM P w K mg base (k+1) x ps S:=by
 obtain⟨f,fd,T,hb,hm⟩:=T;exact#[f,fd,Fun.okM T F len λcdv A outer s H E J hr hx=>a_ f cdv A outer s H E J hr hx,hb,T.kp,hm]
def Txm(K:Dr)(x m:G8)(qual:G8)(st:Py)(ps:List G8):Prop:=
 ∃C f fd,nsIn K Os x=u5 (u5 (.ref C))/\Cls K C/\Meth K C m f/\Fun K m qual st f fd/\Binds K fd ps []
def Txm.okM{m qual:G8}{st:Py}{k:Nat}(T:Txm K x m qual st ps)(F:FnScope N ps (ag st))(len:∀ds M R RX,S ds M R RX->ds.length=ps.length)
  (a_:∀(f:KF) (cdv:GT) (A:PB) (outer:List Ql) (s:KB) (H:Hp) (E:XK) (J:Jm),Room k (A.deeper (PZ qual (ag st) s.heap.objs.size f cdv))->XOkM (cxOf (CX1 P w) P w K mg base N qual (ag st) f cdv A outer s H E)->
   ∃t,MSs (cxOf (CX1 P w) P w K mg base N qual (ag st) f cdv A outer s H E) (aP st) t/\∀ds M R RX,(∀z,J.RM z=λM' x fs=>RX x fs M')->S ds M R RX->t {nx:=λ_ M'=>R .non M',rt:=R} (startD N ds) M):CalMth P w K mg base (k+1) x m ps (lSpM K S):=by
 obtain⟨C,f,fd,h1,h2,h3,T,hb⟩:=T;exact#[C,f,fd,h1,h2,h3,Fun.okM T F len λcdv A outer s H E J hr hx=>a_ f cdv A outer s H E J hr hx,hb]
end
end My
namespace L2
section
variable {X:Cx}{pins:List (KF×PX)}{σ:St}{H:Hp}{s:KB}{h':Heap}
def Inv.turned2{t':Nat}{e it:KF}(I:Inv X pins σ H s)(k:∀b o,b≠e->b≠it->s.heap.get? b=u5 o->h'.get? b=u5 o)(he:FpOk X pins H e)(hi:FpOk X pins H it):Inv X pins σ H {s with heap:=h',toks:=t'}:=by
 obtain⟨e0,e1,e2,e3,e4,e5⟩:=he;obtain⟨i0,i1,i2,i3,i4,i5⟩:=hi;have G6:∀b u,H b=u5 u->b≠e/\b≠it:=λb u q=>#[(λz=>by rw[z,e0]at q;cases q),(λz=>by rw[z,i0]at q;cases q)];have nc:∀{b:KF},b∉[e,it]->b≠e/\b≠it:=λ{b} h=>#[λz=>h (by simp[z]),λz=>h (by simp[z])];refine I.step (g':=s.gens) (d':=s.drawn) (ch:=[e,it]) (λb hb=>?_) (λb o _ _ hc q _=>k b o (nc hc).1 (nc hc).2 q) (λb o _ _ hc q _=>#[o.slots,k b o (nc hc).1 (nc hc).2 q]) (λ_ _ _ _ n=>n)
  (λb o hc q=>#[o,k b o (nc hc).1 (nc hc).2 q]) (λ_ _ q=>q) (λ_ _ _ q=>q) (λb ps q=>#[[].toArray,by rw[q];simp]) (λm hm=>?_) (λb u q=>?_) I.bare
 .rcases Dw.mp hb with z|z
  .rw[z];exact#[e3,e1,e4,e5]
  .rw[Ds.mp z];exact#[i3,i1,i4,i5]
 .obtain⟨o,es,ep,ho,r⟩:=hm;exact#[o,es,ep,k _ o (Ne.symm e1) (Ne.symm i1) ho,r]
 .refine(I.hok b u q).stay (λc v hc q'=>k c v ?_ ?_ q') (λ_ q=>q) λ_ _ q=>q
  .rcases hc with z|z
   .rw[z];exact(G6 b u q).1
   .exact(G6 c _ z).1
  .rcases hc with z|z
   .rw[z];exact(G6 b u q).2
   .exact(G6 c _ z).2
end
def Itel(K:Dr)(a:KF):It:=
 #[λi H=>∃xs x,SqL K H a xs/\xs[i]?=u5 x,λi H x H'=>∃T v,H T=A'/\x=.ref T/\H'=upd H T (.tup [.int i,v])/\∀xs,SqL K H a xs->xs[i]?=u5 v,λi H=>∃xs,SqL K H a xs/\xs.length<=i]
def Ites(x:G8):It:=#[λi _=>i<x.length,λi H v H'=>∃T c,H T=A'/\v=.ref T/\H'=upd H T (.tup [.int i,.str #[[c].toArray]])/\x.cps[i]?=u5 c,λi _=>i=x.length]
variable{P:Pw}{w:Pz}
def yT{H:Hp}{h:Heap}{T:KF}{i:Int}{t:Tok}{v:V}{u:GT}(r:RelV v u)(q:h.get? T=u5 {cls:=.type "tuple",data:=.seq [.int i t,u].toArray}):ObjOk P w H h T (.tup [.int i,v]):=
 #[by show 2<=sizeLine;decide,[.int i t,u],.cons #[t,rfl] (.cons r .nil),#[_,q,rfl,_,rfl]]
def rk{X:Cx}{pins:List (KF×PX)}{σ:St}{H:Hp}{s:KB}{h':Heap}{t':Nat}{e it:KF}{i:Int}{t:Tok}{v:V}{u:GT}(I:Inv X pins σ H s)(he:FpOk X pins H e)(hi:FpOk X pins H it)(le:e<s.heap.objs.size)(li:it<s.heap.objs.size)(r:RelV v u)
  (hT:h'.get? s.heap.objs.size=u5 {cls:=.type "tuple",data:=.seq [.int i t,u].toArray}) (hk:∀b o,b≠e->b≠it->s.heap.get? b=u5 o->h'.get? b=u5 o):Inv X pins σ (upd H s.heap.objs.size (.tup [.int i,v])) {s with heap:=h',toks:=t'}:=by
 have I1:Inv X pins σ (upd H s.heap.objs.size (.tup [.int i,v])) {s with heap:=s.heap.push {cls:=.type "tuple",data:=.seq [.int i t,u].toArray},toks:=t'}:=
  I.laid (λb o q=>Heap.get?_push_of_some _ q) (Dt _) (yT r (Heap.get?_push_size _ rfl))
 have fp:∀{b:KF},FpOk X pins H b->b<s.heap.objs.size->FpOk X pins (upd H s.heap.objs.size (.tup [.int i,v])) b:=λ{b} h l=>#[by rw[ao (DF l)];exact h.1,h.2];refine I1.turned2 (h':=h') (t':=t') (λb o h1 h2 q=>?_) (fp he le) (fp hi li);rcases Heap.get?_push_cases (show(s.heap.push {cls:=.type "tuple",data:=.seq [.int i t,u].toArray}).get? b=u5 o from q)with⟨rfl,rfl⟩|q2
 .exact hT
 .exact hk b o h1 h2 q2
variable{td:List Pu}
def yU{K:Dr}{x1:Nat}{tp:PK}(a e it:KF)(Hy:e≠it):Turn P w K (.Tuple td x1 tp) (Itel K a) [e,it] e (λi h=>(∃f7,IsEnum h e it i f7)/\h.IsListIter it a i) where
 mem:=HV
 obj:=λi h st b hb=>by
  obtain⟨⟨f7,he⟩,m7⟩:=st;rcases Dw.mp hb with z|z
  .rw[z];exact#[_,he,λv z=>by cases z]
  .rw[Ds.mp z];obtain⟨o,ho,c,d⟩:=m7;exact#[o,ho,λv z=>by rw[d]at z;cases z]
 keep:=λi h h' st k=>#[let ⟨f7,he⟩:=st.1;#[f7,k e HV _ he],st.2.at λo q=>k it HV o q]
 item:=by
  intro X hP hw hK hc i pins s σ H E I hf st hg;subst hP hw hK;obtain⟨xs,x,hq,hx⟩:=hg;obtain⟨its,rv,p,hz⟩:=I.list hq;obtain⟨u,hu,ru⟩:=rv.get hx;obtain⟨⟨f7,he⟩,m7⟩:=st;have fe:=hf e HV;have fi:=hf it HV;have le:e<s.heap.objs.size:=Heap.lt_size he;have li:it<s.heap.objs.size:=by obtain⟨o,ho,_⟩:=m7;exact Heap.lt_size ho
  refine wpAny_pyNext_enum_item he m7 p.isList (x:=u) (by simpa using hu) Hy λh' y7 Ho hT j3 hk=>?_;refine#[_,rfl,QM y7 λh2 KH g6=>?_];have p6:Heap.SameBut e h' h2:=g6;have nT:s.heap.objs.size≠e:=Ec le;have I1:Inv X pins σ (upd H s.heap.objs.size (.tup [.int i,x])) {s with heap:=h2,toks:=s.toks+1}:=rk I fe fi le li ru ((p6.2 _ nT).trans hT) λb o h1 h3 q=>(p6.2 b h1).trans (hk b o h1 h3 q);refine#[.ref s.heap.objs.size,_,I1,rfl,#[_,x,I.hok.fresh (Dt _),rfl,rfl,λys hy=>by rw[I.list_inj hy hq];exact hx],#[#[u,by simpa using KH],Ho.at λo q=>(p6.2 it (Ne.symm Hy)).trans q],λb hb=>?_];rcases Dw.mp hb with z|z
  .rw[z,ao (DF le)];exact fe.1
  .rw[Ds.mp z,ao (DF li)];exact fi.1
 done:=by
  intro X hP hw hK hc i pins s σ H E I hf st hg;subst hP hw hK;obtain⟨xs,hq,hx⟩:=hg;obtain⟨its,rv,p,hz⟩:=I.list hq;obtain⟨⟨f7,he⟩,m7⟩:=st;have hl:=rv.length;obtain⟨f0,f1,f2,f3,f4,f5⟩:=hf it HV;exact wpAny_pyNext_enum_end (I.ok.hd hc) he m7 p.isList (by simp;lia) λh' eb=>#[rfl,I.turned (t':=s.toks) (λb o hb q=>eb b o hb q) f0 f1 f3 f4 f5]
 self:=λ_ _ _ _ _ st h=>let ⟨⟨f7,he⟩,_⟩:=st;Qg he h
def yV{K:Dr}{x1:Nat}{tp:PK}(x:G8)(t:Tok)(e it:KF)(Hy:e≠it):Turn P w K (.Tuple td x1 tp) (Ites x) [e,it] e (λi h=>(∃f7,IsEnum h e it i f7)/\h.IsStrIter it "str_ascii_iterator" x t i) where
 mem:=HV
 obj:=λi h st b hb=>by
  obtain⟨⟨f7,he⟩,m7⟩:=st;rcases Dw.mp hb with z|z
  .rw[z];exact#[_,he,λv z=>by cases z]
  .rw[Ds.mp z];obtain⟨o,ho,c,d⟩:=m7;exact#[o,ho,λv z=>by rw[d]at z;cases z]
 keep:=λi h h' st k=>#[let ⟨f7,he⟩:=st.1;#[f7,k e HV _ he],let ⟨o,ho,r⟩:=st.2;#[o,k it HV o ho,r]]
 item:=by
  intro X hP hw hK hc i pins s σ H E I hf st hg;subst hP hw hK;have hi:i<x.cps.size:=hg;obtain⟨⟨f7,he⟩,m7⟩:=st;have fe:=hf e HV;have fi:=hf it HV;have le:e<s.heap.objs.size:=Heap.lt_size he;have li:it<s.heap.objs.size:=by obtain⟨o,ho,_⟩:=m7;exact Heap.lt_size ho
  refine wpAny_pyNext_enum_itemD (Draws.strAscii (A:=X.A.in1) (by exact I.ok.hd hc) it x t) he m7 hi Hy (by simp[Hy]) λu h' tk hP y7 Ho hT j3 hk=>?_;obtain⟨c,tu,t_,rfl⟩:=hP;refine#[_,rfl,QM y7 λh2 KH g6=>?_];have p6:Heap.SameBut e h' h2:=g6;have nT:s.heap.objs.size≠e:=Ec le;have I1:Inv X pins σ (upd H s.heap.objs.size (.tup [.int i,.str #[[c].toArray]])) {s with heap:=h2,toks:=tk+1}:=rk I fe fi le li #[tu,rfl] ((p6.2 _ nT).trans hT) λb o h1 h3 q=>(p6.2 b h1).trans (hk b o h1 h3 q);refine#[.ref s.heap.objs.size,_,I1,rfl,#[_,c,I.hok.fresh (Dt _),rfl,rfl,t_],#[#[_,by simpa using KH],let ⟨o,ho,r⟩:=Ho;#[o,(p6.2 it (Ne.symm Hy)).trans ho,r]],λb hb=>?_];rcases Dw.mp hb with z|z
  .rw[z,ao (DF le)];exact fe.1
  .rw[Ds.mp z,ao (DF li)];exact fi.1
 done:=by
  intro X hP hw hK hc i pins s σ H E I hf st hg;subst hP hw hK;have hi:i=x.cps.size:=hg;subst hi;obtain⟨⟨f7,he⟩,m7⟩:=st;obtain⟨f0,f1,f2,f3,f4,f5⟩:=hf it HV;exact wpAny_pyNext_enum_endD (Draws.strAscii (A:=X.A.in1) (by exact I.ok.hd hc) it x t) he m7 λh' eb=>#[rfl,I.turned (t':=s.toks) (λb o hb q=>eb b o hb q) f0 f1 f3 f4 f5]
 self:=λ_ _ _ _ _ st h=>let ⟨⟨f7,he⟩,_⟩:=st;Qg he h
def iEnL(K:Dr)(ta:TA):TI:=λσ H R=>ta σ H λvs H1=>∃a,vs=[.ref a]/\(∃xs,SqL K H1 a xs)/\R (Itel K a) H1
def iEnS(ta:TA):TI:=λσ H R=>ta σ H λvs H1=>∃x,vs=[.str x]/\x.cps.all (·<128)=true/\R (Ites x) H1
section
variable {X:Cx}{td:List Pu}{x1:Nat}{tp p pos:PK}{l:Pu}{ta:TA}
def yY(hg:Gl X "enumerate")(hm:X.mg "enumerate"=A')(ha:PA X [l] ta)(hs:autoParam (PD [l] X.env=[(false,PM l X.env)]) zA0):PI X (.Tuple td x1 tp) (.Call (.Name "enumerate" p) [l] [] pos) (iEnL X.K ta):=by
 intro pins s σ H R I h;refine Call_ (dQ I hg hm PyProof.Rows.boot_enumerate (PyProof.Rows.callWith_type1 (thn (ha pos pins s σ H _ I h) λus s1 ⟨vs,H1,I1,r1,q1⟩=>?_) hs rfl));obtain⟨a,rfl,⟨xs,hq⟩,q⟩:=q1;obtain⟨u,rfl,ru⟩:=bY r1;cases ru;obtain⟨its,rv,pl,hz⟩:=I1.list hq;refine call_enumerate_list pl.isList λh' he m7 j3 hk=>?_;have I2:Inv X pins σ H1 {s1 with heap:=h'}:=I1.kept (t':=s1.toks) hk;refine Qg he ?_;have ne:s1.heap.objs.size+1≠s1.heap.objs.size:=Gj _;refine#[s1.heap.objs.size+1,[s1.heap.objs.size+1,s1.heap.objs.size],_,_,H1,rfl,I2,yU a _ _ ne,#[#[_,he],m7],λb hb=>?_,q];rcases Dw.mp hb with z|z
 .rw[z];exact I1.fpOk (Ex _) (I1.hok.fresh (Ex _))
 .rw[Ds.mp z];exact I1.fpOk (Dt _) (I1.hok.fresh (Dt _))
def yZ(hg:Gl X "enumerate")(hm:X.mg "enumerate"=A')(ha:PA X [l] ta)(hs:autoParam (PD [l] X.env=[(false,PM l X.env)]) zA0):PI X (.Tuple td x1 tp) (.Call (.Name "enumerate" p) [l] [] pos) (iEnS ta):=by
 intro pins s σ H R I h;refine Call_ (dQ I hg hm PyProof.Rows.boot_enumerate (PyProof.Rows.callWith_type1 (thn (ha pos pins s σ H _ I h) λus s1 ⟨vs,H1,I1,r1,q1⟩=>?_) hs rfl));obtain⟨x,rfl,KI,q⟩:=q1;obtain⟨u,rfl,t,rfl⟩:=bY r1;refine call_enumerate_str λh' he m7 j3 hk=>?_;have I2:Inv X pins σ H1 {s1 with heap:=h'}:=I1.kept (t':=s1.toks) hk;refine Qg he ?_;have ne:s1.heap.objs.size+1≠s1.heap.objs.size:=Gj _;have Oc:strIterType x="str_ascii_iterator":=by unfold strIterType;rw[KI];rfl
 rw[Oc]at m7;refine#[s1.heap.objs.size+1,[s1.heap.objs.size+1,s1.heap.objs.size],_,_,H1,rfl,I2,yV x t _ _ ne,#[#[_,he],m7],λb hb=>?_,q];rcases Dw.mp hb with z|z
 .rw[z];exact I1.fpOk (Ex _) (I1.hok.fresh (Ex _))
 .rw[Ds.mp z];exact I1.fpOk (Dt _) (I1.hok.fresh (Dt _))
end
end L2
namespace My
open Exc
section
variable {X:Cx}[J:Jm]{a b c e o:Pu}{ta tb tc te to:TME}{pos:PK}{st:Py}{rest:List Py}{t u:TMS}
def rl{K:Dr}{F:Hp}:∀(is:List Nat) (ds:List D) (vs:List V) (z:SD),Reps K F ds vs->(∀(i:Nat) d,z[i]?≠u5 (u5 (.own d)))->∀(i:Nat) d,(aZ is ds z)[i]?≠u5 (u5 (.own d))
 |[],_,_,z,_,h=>h
 |_::_,[],_,z,_,h=>h
 |i::is,d::ds,vs,z,r,h=>by
  obtain⟨v,vr,rfl,r1,r2⟩:=reps_cons.mp r;refine rl is ds vr _ r2 λj q e=>?_;by_cases hj:i=j
  .subst hj;rw[EH]at e;simp at e;have:=r1.noown;rw[e.2]at this;cases this
  .rw[DL hj]at e;exact h j q e
def mItE(t:TME):TMI:=λz M R=>t z M λx M1=>match x with|.lst ds=>R ds M1|_=>False
def za(t:TME):TMI:=λz M R=>t z M λx M1=>match x with|.str x=>x.cps.all (·<128)=true/\R (bQ x) M1|_=>False
def rn(is:List Nat)(ti:TMI)(tb:TMS):TMS:=λE z M=>ti z M λds M1=>∃W:Nat->SD->MS->Prop,W 0 z M1/\(∀(k:Nat) x z M,ds[k]?=u5 x->W k z M->tb {E with nx:=W (k+1),ct:=W (k+1),bk:=E.nx} (aZ is [.int k,x] z) M)/\∀z M,W ds.length z M->E.nx z M
variable{is:List Nat}
def rq{K:Dr}{F0 F1 H1:Hp}{z:SD}{s:L2.St}{M1:MS}{E:Ends}{ED:EndsM}{It':It}{g:TG}{tb:TMS}{Mt:TS}{ds:List D}(hK:K=X.K)(k1:Kept J.B F0 F1 H1)(z7:RepZ K J.B F1 H1 z s M1)(e:EndsOkM K F0 ED E)(b8:is.length=2)
  (go:∀k F' H',Same F1 F'->Same F' H'->k<ds.length->It'.go k H') (stop:∀F' H',Same F1 F'->Same F' H'->It'.stop ds.length H')
  (yld:∀k F' H' x H'',Same F1 F'->Same F' H'->k<ds.length->It'.yld k H' x H''->∃T d v,H' T=A'/\x=.ref T/\H''=upd H' T (.tup [.int k,v])/\ds[k]?=u5 d/\Rep K F' d v)
  (hg:∀(dd:List D) (vs:List V) (T:KF) (z:SD) (s:L2.St) (F H:Hp) (Q:L2.St->Hp->Prop),dd.length=2->H T=u5 (.tup vs)->Reps K F dd vs->RepS K J.B F H z s->(∀s',RepS K J.B F H (aZ is dd z) s'->Q s' H)->g (.ref T) s H Q)
  (Od:∀E s H,mS K tb E s H->Mt E s H)
  (hd:∃W:Nat->SD->MS->Prop,W 0 z M1/\(∀(k:Nat) x z M,ds[k]?=u5 x->W k z M->tb {ED with nx:=W (k+1),ct:=W (k+1),bk:=ED.nx} (aZ is [.int k,x] z) M)/\∀z M,W ds.length z M->ED.nx z M):
  ∃W:Nat->Nat->L2.St->Hp->Prop,(∃m,W 0 m s H1)/\∀i m σ H,W i m σ H->
   (It'.stop i H/\E.nx σ H)\/(It'.go i H/\∃N:L2.St->Hp->Prop,(∀σ' H',N σ' H'->∃m',m'<m/\W (i+1) m' σ' H')/\∀x H',It'.yld i H x H'->g x σ H' λσ2 H2=>Mt {E with nx:=N,ct:=N,bk:=E.nx} σ2 H2):=by
 obtain⟨W,w0,d9,out⟩:=hd;refine#[λk m s' H'=>m=ds.length-k/\k<=ds.length/\∃F' z' M',Kept J.B F0 F' H'/\Same F1 F'/\RepZ K J.B F' H' z' s' M'/\W k z' M',#[ds.length,HV,DO _,F1,z,M1,k1,Same.refl F1,z7,w0],?_];rintro k m s' H'⟨rfl,hk,F',z',M',k',g',r',w'⟩;by_cases g9:k<ds.length
 .refine .inr #[go k F' H' g' k'.fh g9,λs3 H3=>∃F3 z3 M3,Kept J.B F0 F3 H3/\Same F1 F3/\RepZ K J.B F3 H3 z3 s3 M3/\W (k+1) z3 M3,λs3 H3 h3=>#[ds.length-(k+1),HN,rfl,g9,h3],λx H'' hy=>?_];obtain⟨T,d,v,hT,rfl,rfl,hd,rd⟩:=yld k F' H' x H'' g' k'.fh g9 hy;have gn:=Grow.new k'.fh hT (.tup [.int k,v]);have k2:=k'.grow gn;have r2:=r'.growM k'.bh gn.toM (r'.rm.grow gn);have rp:Reps K (upd F' T (.tup [.int k,v])) [.int k,d] [.int k,v]:=reps_cons.mpr #[_,_,rfl,rep_int.mpr rfl,fG (rd.mono gn.ff)];refine hg [.int k,d] _ T z' s' _ _ _ rfl aA rp r2.rs λs2 Ju=>Od _ _ _ ?_;have gF:Same F1 (upd F' T (.tup [.int k,v])):=g'.trans gn.ff;refine#[upd F' T (.tup [.int k,v]),upd F' T (.tup [.int k,v]),_,M',#[k2.bh,k2.fh,Same.refl _,λb h1 _=>h1,k2.eb,k2.jf.trans k2.f0,λb h1 h2=>k2.out b (k2.jo b h1 h2) h2],#[Ju,rl is _ _ z' rp r2.no,r2.rm,r2.mb],_,d9 k d z' M' hd w',?_];have up:∀{F3 H3:Hp},Kept J.B (upd F' T (.tup [.int k,v])) F3 H3->Kept J.B F0 F3 H3:=λk3=>#[k3.bh,k3.fh,k2.f0.trans k3.f0,λb h1 h2=>k3.out b (k2.out b h1 h2) h2,k2.eb,k2.jf,k2.jo];exact#[λz3 s3 M3 F3 H3 k3 h3 r3=>#[F3,z3,M3,up k3,gF.trans k3.f0,r3,h3],λd v M3 F3 H3 k3=>e.rt d v M3 F3 H3 (up k3),λz3 s3 M3 F3 H3 k3=>e.nx z3 s3 M3 F3 H3 (up k3),λz3 s3 M3 F3 H3 k3 h3 r3=>#[F3,z3,M3,up k3,gF.trans k3.f0,r3,h3]]
 .have ek:k=ds.length:=by lia
  subst ek;exact .inl #[stop F' H' g' k'.fh,e.nx z' s' M' F' H' k' (out z' M' w') r']
variable{es:List Pu}{body:List Py}
def zb{x1:Nat}{tp p1 p2:PK}{tb:TMS}(hp:P3 (Pt X.prog X.w) X.A X.env X.xe)(hc:X.calm=true)(hm:X.mg "enumerate"=A')(he:ME X e te)(hG:DGs X es is)(hb:MSs X body tb)(b8:autoParam (is.length=2) zA0)(hg:autoParam (Gl X "enumerate") zA0)
  (hn:autoParam ((PC es X.env).length=2) zA0) (q_:autoParam ((PC es X.env).findIdx? (·.1)=none) zA0)
  (hs:autoParam (∀y,zFS X (.Call (.Name "enumerate" p1) [e] [] p2) y) zA3) (Hg:autoParam (zSE X e []) zA0) (o_:autoParam (PD [e] X.env=[(false,PM e X.env)]) zA0):
  MSt X (.For (.Tuple es x1 tp) (.Call (.Name "enumerate" p1) [e] [] p2) body [] pos) (rn is (mItE te) tb):=by
 obtain⟨ug,KJ,kk⟩:=hG;refine#[(dS hp hc (yY hg hm (bN he.out pa_nil Hg) o_) (iP hc KJ hn q_) hb.out hs).anti λE s H q=>?_];obtain⟨F0,F,z,M,kp,rs,ED,h,e⟩:=q;refine#[F,z,M,kp.kf,rs,_,h,λd v M1 F1 H1 g1 hd rd m1=>?_];split at hd
 .rename_i ds;obtain⟨p,vs,rfl,hq,rr⟩:=rep_lst.mp rd;refine#[p,rfl,#[vs,SqL.of (g1.fh _ _ hq)],rq (It':=Itel X.K p) rfl (kp.growM rs.mb g1) (rs.growM kp.bh g1 m1) e b8 (λk F' H' s1 s2 hk=>?_) (λF' H' s1 s2=>?_) (λk F' H' x H'' s1 s2 hk hy=>?_) (λdd q8 T z s F H Q hl hT rp Hz hQ=>?_) (λ_ _ _ h=>h) hd]
  .have s_:k<vs.length:=by rw[rr.length];exact hk
   exact#[vs,vs[k],SqL.of (s2 _ _ (s1 _ _ hq)),by simp[s_]]
  .exact#[vs,SqL.of (s2 _ _ (s1 _ _ hq)),by rw[rr.length];exact Dt _]
  .obtain⟨T,v,hT,e1,e2,hv⟩:=hy;obtain⟨d,hd,rd⟩:=rr.get' (hv vs (SqL.of (s2 _ _ (s1 _ _ hq))));exact#[T,d,v,hT,e1,e2,hd,rd.mono s1]
  .exact#[T,q8,rfl,SqT.of hT,by rw[rp.length];exact hl,kk dd q8 z s J.B F H Q (by rw[hl,b8]) rp Hz hQ]
 .exact hd.elim
def zc{x1:Nat}{tp p1 p2:PK}{tb:TMS}(hp:P3 (Pt X.prog X.w) X.A X.env X.xe)(hc:X.calm=true)(hm:X.mg "enumerate"=A')(he:ME X e te)(hG:DGs X es is)(hb:MSs X body tb)(b8:autoParam (is.length=2) zA0)(hg:autoParam (Gl X "enumerate") zA0)
  (hn:autoParam ((PC es X.env).length=2) zA0) (q_:autoParam ((PC es X.env).findIdx? (·.1)=none) zA0)
  (hs:autoParam (∀y,zFS X (.Call (.Name "enumerate" p1) [e] [] p2) y) zA3) (Hg:autoParam (zSE X e []) zA0) (o_:autoParam (PD [e] X.env=[(false,PM e X.env)]) zA0):
  MSt X (.For (.Tuple es x1 tp) (.Call (.Name "enumerate" p1) [e] [] p2) body [] pos) (rn is (za te) tb):=by
 obtain⟨ug,KJ,kk⟩:=hG;refine#[(dS hp hc (yZ hg hm (bN he.out pa_nil Hg) o_) (iP hc KJ hn q_) hb.out hs).anti λE s H q=>?_];obtain⟨F0,F,z,M,kp,rs,ED,h,e⟩:=q;refine#[F,z,M,kp.kf,rs,_,h,λd v M1 F1 H1 g1 hd rd m1=>?_];split at hd
 .rename_i x;obtain⟨ha,hd⟩:=hd;have hl:=jv x;refine#[x,by rw[rep_str.mp rd],ha,rq (It':=Ites x) rfl (kp.growM rs.mb g1) (rs.growM kp.bh g1 m1) e b8 (λk F' H' s1 s2 hk=>?_) (λF' H' s1 s2=>?_) (λk F' H' x H'' s1 s2 hk hy=>?_) (λdd q8 T z s F H Q hl hT rp Hz hQ=>?_) (λ_ _ _ h=>h) hd]
  .rw[hl]at hk;exact hk
  .exact hl
  .obtain⟨T,c,hT,e1,e2,hc⟩:=hy;exact#[T,.str #[[c].toArray],.str #[[c].toArray],hT,e1,e2,qK hc,rep_str.mpr rfl]
  .exact#[T,q8,rfl,SqT.of hT,by rw[rp.length];exact hl,kk dd q8 z s J.B F H Q (by rw[hl,b8]) rp Hz hQ]
 .exact hd.elim
end
end My
namespace L2
section
variable {prog:Pw}{w:Pz}{K:Type}[DecidableEq K]{m4:HeapKind prog w K}{A:PB}{E:GT->KB->Prop}{s:KB}{d a:KF}{k:K}{xs:List (K×KF×GT)}
def zd{v:GT}{Q:GT->KB->Prop}(hu:m4.room A)(o8:m4.is s.heap k a)(hm:s.heap.DictOfH m4 d xs)
  (h1:∀p,QK xs k=u5 p->Q p.2 {s with toks:=s.toks+m4.draws k})
  (h2:QK xs k=A'->∀h',h'.DictOfH m4 d (xs++[(k,a,v)])->Heap.SameBut d s.heap h'->Q v {s with heap:=h',toks:=s.toks+m4.draws k})
  (j3:xs.length<=sizeLine):Px (Pt prog w) A (QP d (.ref a) v) Q E s:=by
 obtain⟨o,es,ep,ho,hc,hd,he,Mu,hn⟩:=hm;unfold QP
 try with_reducible refine P9 ?_
 refine KM (m4.pyHash hu o8 ?_);refine KM (wpAny_dictFind_heap (s:={s with toks:=s.toks+m4.draws k}) hu o8 ho hd he Mu hn ?_ ?_)
 .intro f6;have KL:k∉xs.map (·.1):=not_mem_keys_of_get f6;refine KM (Rb (KM (wpAny_updateDictKeys (hz:=by have e:=size_of_entries he;lia) (s:={s with toks:=s.toks+m4.draws k}) ho hd (Pi (h2 (atKey_none_of_get f6) _ ⟨_,_,ep+1,Heap.get?_update_self _ ho (Obj.isFreed_of_dict (Obj.data_mapDictKeys hd _)),
   hc.mapDictKeys _,Obj.data_mapDictKeys hd _,?_,?_,?_⟩ (Heap.SameBut.update ..))))))
  .simp[he,entryOfKey]
  .intro x hx;rcases D3.mp hx with hx|hx
   .exact m4.keeps (Mu x hx) ho hd (Heap.SameBut.update ..)
   .simp only[Ds]at hx;subst hx;exact m4.keeps o8 ho hd (Heap.SameBut.update ..)
  .rw[Ef,ES];refine#[hn,HV,?_];intro x hx y hy;simp only[DZ,EO,Ds]at hy;subst hy;exact λe=>KL (e ▸ hx)
 .intro j p hj;refine KM (wpAny_dictEntries (s:={s with toks:=s.toks+m4.draws k}) ho hd ?_);rw[entry_at he j,hj];exact KM (Rb (Pi (h1 p (atKey_of_get hn hj))))
def ze(m4:HeapKind prog w K)(d a:KF)(hd:(d==P5)=false)(v:GT):
  MeetsIn prog w (Builtin.«dict.setdefault» #[[.ref d,.ref a,v],[]]) (λA R s=>m4.room A.in1/\∃k xs,m4.is s.heap k a/\s.heap.DictOfH m4 d xs/\xs.length<=sizeLine/\
   (∀p,QK xs k=u5 p->R (.ok (.ret p.2)) {s with toks:=s.toks+m4.draws k})/\
   (QK xs k=A'->∀h',h'.DictOfH m4 d (xs++[(k,a,v)])->Heap.SameBut d s.heap h'->R (.ok (.ret v)) {s with heap:=h',toks:=s.toks+m4.draws k})):=
 .of_wp λA R s hh=>by
  obtain⟨hu,k,xs,o8,hm,hz,h1,h2⟩:=hh;unfold Builtin.«dict.setdefault»;refine KM ?_;unfold Builtin.Dict.keyAndDefault;refine KM (wpAny_notOrdered_dict hm.typeIs ?_);show Px _ _ (pure (d,Value.ref a,u5 v)) _ _ s;refine Pi ?_;show Px _ _ (if(d==P5)=true then _ else(QP d (.ref a) v>>=_)) _ _ s;rw[if_neg (by rw[hd];exact DK)];exact KM (zd hu o8 hm (λp hp=>Pi #[p.2,rfl,h1 p hp]) (λhn h' J8 G1=>Pi #[v,rfl,h2 hn h' J8 G1]) hz)
end
end L2
namespace My
open Exc
def eB:List ((Int×Int)×Int)->Int->Int->Option Int
 |[],_,_=>A'
 |((a,b),h)::r,x,y=>if a=x/\b=y then u5 h else eB r x y
def rz(x y:Int):∀a9:List ((Int×Int)×Int),valV (dtiV a9) [.inl x,.inl y]=(eB a9 x y).map V.int
 |[]=>rfl
 |((a,b),h)::r=>by
  show valV (([.inl a,.inl b],V.int h)::dtiV r) _=_;unfold eB;by_cases e:a=x/\b=y
  .rw[if_pos e,qY (by rw[e.1,e.2])];rfl
  .rw[if_neg e,qZ (λz=>e (by
    have z':([Sum.inl a,Sum.inl b]:List Key)=[.inl x,.inl y]:=z;injection z' with z1 z2;injection z2 with z2 _;exact#[Sum.inl.inj z1,Sum.inl.inj z2])),rz x y r]
def sdD(a9:List ((Int×Int)×Int))(x y v:Int):List ((Int×Int)×Int):=if(eB a9 x y).isSome then a9 else a9++[((x,y),v)]
def rSdT:V->List V->Hp->VK->Prop:=λx vs H Q=>∃a b i j d a9,x=.ref a/\vs=[.ref b,.int d]/\H a=u5 (.dT (dtiV a9))/\H b=u5 (.tup [.int i,.int j])/\a9.length<100000/\∀w,Q (.int w) (upd H a (.dT (dtiV (sdD a9 i j d))))
def zf{H:Hp}{a:KF}{o:HO}(h:H a=u5 o):upd H a o=H:=by
 funext b;by_cases e:b=a
 .subst e;rw[aA,h]
 .rw[ao e]
def zg{X:Cx}(hu:X.A.units+1<QE):MtR X "dict.setdefault" rSdT:=by
 intro pins s σ H x vs v us Q I rx rv h;obtain⟨a,b,i,j,d,a9,rfl,rfl,ha,hb,hl,q⟩:=h;obtain⟨u,u',rfl,ru,t,rfl⟩:=iV rv;cases(show v=Value.ref a from rx);cases(show u=Value.ref b from ru);obtain⟨z,hd,xs,Io,dd⟩:=yI I.hok ha;have b8:xs.length=a9.length:=by rw[<-Paired.length Io];simp[dtiV]
 have big:(100000:Nat)<sizeLine:=G_
 have l8:H b=u5 (.tup (([.inl i,.inl j]:List Key).map kV)):=hb;have m5:=Io.val [.inl i,.inl j];rw[rz]at m5;refine call_meetsIn PySem.F.slot_dict_setdefault dd.typeIs PySem.F.entry_dict_setdefault (PySem.F.args_dict_setdefault_3 _ _ _) (ze (Qw (cg X.prog X.w)) a b hd (.int d t)) #[tupleKind_room_in1 hu,[.inl i,.inl j],xs,key_of I.hok l8,dd,HN,λp hp=>?_,λhn h' Ik hs=>?_]
 .rw[hp]at m5;cases e:eB a9 i j with
  |none=>rw[e]at m5;exact m5.elim
  |some w=>
   rw[e]at m5;have:=q w;unfold sdD at this;rw[e]at this;have e2:(if(u5 w:Option Int).isSome then a9 else a9++[((i,j),d)])=a9:=rfl;rw[e2,zf ha]at this;exact#[.int w,H,I.tok _,m5,this]
 .rw[hn]at m5;cases e:eB a9 i j with
  |some w=>rw[e]at m5;exact m5.elim
  |none=>
   have e2:sdD a9 i j d=a9++[((i,j),d)]:=by unfold sdD;rw[e];rfl
   have e3:dtiV (sdD a9 i j d)=dtiV a9++[([.inl i,.inl j],.int d)]:=by rw[e2];simp[dtiV]
   obtain⟨o,es,ep,ho,hx,h3,h4,_,h5⟩:=Ik;have new:ObjOk X.prog X.w (upd H a (.dT (dtiV (sdD a9 i j d)))) h' a (.dT (dtiV (sdD a9 i j d))):=by
    refine#[by rw[e3,DB];simp[dtiV];lia,hd,_,?_,o,es,ep,ho,hx,h3,h4,h5];rw[e3];refine KT.keeps (H:=H) (Paired.snoc (a:=(([.inl i,.inl j]:List Key),V.int d)) (b:=(([.inl i,.inl j]:List Key),b,Value.int d t)) Io #[rfl,l8,#[t,rfl]]) λc ys ec=>?_;rw[ao (sX ec ha (λz=>nomatch z))];exact ec
   exact#[.int d,_,yJ I (by rw[ha];exact True.intro) hs #[o,ho] new,#[t,rfl],q d]
section
variable {X:Cx}[J:Jm]{a b c e o f:Pu}{ta tb tc te to:TME}{pos b7 a8:PK}{t:TMA}
def mD0:TME:=λ_ M R=>R (.dti []) M
def zh:ME X (.Dict [] [] pos) mD0:=⟨pe_dnewT.anti λs H Q q=>by
 obtain⟨F,z,M,k,rs,R,h1,h2⟩:=q;intro p hp;have gn:=Grow.new k.fh hp (.dT []);exact h2 _ _ M _ _ gn.toM h1 (rep_dti.mpr #[p,rfl,aA]) (rs.rm.grow gn)⟩
def mDN:TME:=λ_ M R=>∀p,p∉az M->R (.ptr p) ((p,.dti [])::M)
def zi:ME X (.Dict [] [] pos) mDN:=⟨pe_dnewT.anti λs H Q q=>by
 obtain⟨F,z,M,k,rs,R,h1,h2⟩:=q;intro p hp;exact h2 _ _ _ F _ (GrowM.new k.fh hp) (h1 p λz=>rs.rm.here z hp) (rep_ptr.mpr rfl) (rs.rm.new k.fh hp aA)⟩
def kdK(ds:List D)(k:Int->Int->Int->Prop):Prop:=kd2 ds λa b=>kdT a λl=>kd2 l λx y=>kdI x λi=>kdI y λj=>kdI b (k i j)
def kdK.of{ds:List D}{k:Int->Int->Int->Prop}(h:kdK ds k):∃i j x,ds=[.tup [.int i,.int j],.int x]/\k i j x:=by
 obtain⟨a,b,rfl,h2⟩:=kd2.of h;obtain⟨l,rfl,h3⟩:=kdT.of h2;obtain⟨x,y,rfl,h4⟩:=kd2.of h3;obtain⟨i,rfl,h5⟩:=kdI.of h4;obtain⟨j,rfl,h6⟩:=kdI.of h5;obtain⟨v,rfl,h7⟩:=kdI.of h6;exact#[i,j,v,rfl,h7]
def mDsd(to:TME)(t:TMA):TME:=λz M R=>to z M λd M1=>match d with|.ptr a=>(∃a9,mget M1 a=u5 (.dti a9))/\(t z M1 λds M2=>kdK ds λi j x=>∃a9,mget M2 a=u5 (.dti a9)/\a9.length<100000/\∀w,R (.int w) (mput M2 a (.dti (sdD a9 i j x))))|_=>False
def zj(hu:X.A.units+1<QE)(ho:ME X o to)(ha:MA X [e,f] t)(b9:autoParam (PF o "setdefault" X.env (PM o X.env)=PM o X.env) zA0)
  (f8:autoParam (zHF X a8 [e,f]) zA0)
  (c7:autoParam ((b7.endLine==a8.line)=true) zA0) (k_:autoParam (zSE X e [f]) zA0) (d0:autoParam (zPL X a8 [f]) zA0):
  ME X (.Call (.Attribute o "setdefault" b7) [e,f] [] a8) (mDsd to t):=⟨(dW PySem.F.plainAttrs_dict PySem.F.slot_dict_setdefault PySem.F.type_dict_setdefault (zg hu) ho.out ha.out b9 f8 c7 k_ d0).anti λs H Q h=>by
 obtain⟨F,z,M,k,rs,R,h1,h2⟩:=h;refine#[F,z,M,k,rs,_,h1,λx u M1 F1 H1 g1 hx rx m1=>?_];split at hx
 .rename_i a;obtain⟨⟨O7,Ir⟩,hx⟩:=hx;rw[rep_ptr.mp rx];refine#[.inr (.inr (.inl #[rfl,.inr #[_,m1.ok _ _ (bo Ir)]])),?_];refine#[F1,z,M1,k.growM rs.mb g1,rs.growM k.bh g1 m1,_,hx,λds vs M2 F2 H2 g2 hd rd m2=>?_];obtain⟨i,j,x,rfl,a9,hm,hl,hR⟩:=kdK.of hd
  focus
   obtain⟨v1,r1,rfl,q1,q2⟩:=reps_cons.mp rd;obtain⟨v2,r2,rfl,q3,q4⟩:=reps_cons.mp q2;rw[reps_nil.mp q4,rep_int.mp q3];obtain⟨b,us,rfl,hb,ru⟩:=rep_tupS.mp q1;have Oe:us=[.int i,.int j]:=(Reps.ints (ns:=[i,j])).mp ru;subst Oe;refine#[a,b,i,j,x,a9,rfl,rfl,m2.ok _ _ (bo hm),g2.fh _ _ hb,hl,λw=>?_];exact h2 _ _ _ F2 _ (g1.trans (g2.trans (GrowM.put g2.fh (m2.fr a (ca (bo hm))) hm))) (hR w) (rep_int.mpr rfl) (m2.put hm aA)
 .exact hx.elim⟩
end
section
variable {P:Pw}{w:Pz}{K:Dr}{mg:G8->Option GT}{base:Heap}
open Classical in
def Cls.okIM{x qual:G8}{st:Py}{f C:KF}{fd:PH}{N:List G8}{p0:G8}{ps:List G8}{k:Nat}{S:SiD}(T:Fun K "__init__" qual st f fd)(hb:Binds K fd (p0::ps) [])(F:FnScope N (p0::ps) (ag st))(len:∀ds R,S ds R->ds.length=ps.length)
  (hns:nsIn K Os x=u5 (u5 (.ref C))) (n9:mg x=u5 (.ref C)) (mk:Mk K C f)
  (a_:∀(cdv:GT) (A:PB) (outer:List Ql) (s:KB) (H:Hp) (E:XK) (J:Jm),Room k (A.deeper (PZ qual (ag st) s.heap.objs.size f cdv))->XOkM (cxOf (CX1 P w) P w K mg base N qual (ag st) f cdv A outer s H E).nox->
   ∃t,MSs (cxOf (CX1 P w) P w K mg base N qual (ag st) f cdv A outer s H E).nox (aP st) t/\∀a ds R,(∀z M x fs,¬J.RM z M x fs)->S ds R->t {nx:=λ_ M'=>∃fs,M'=[(a,.ins x fs)]/\R fs,rt:=λ_ _=>False} (startD N (.ptr a::ds)) [(a,.ins x [])]):CalM P w K mg base (k+1) x (p0::ps) S:=by
 refine#[C,f,fd,hns,n9,mk,Fun.okC T F (λvs H Q E h=>?_) (λcdv A outer s H vs Q E hr h=>?_),hb]
 .obtain⟨a,dx,us,H1,F,ds,rfl,_,_,_,_,_,rs,R,h,_⟩:=h;rw[Du,Du,rs.length,len ds R h]
 .obtain⟨a,dx,us,H1,F1,ds,rfl,rfl,ha,v7,l9,fh,rs,R,h,q⟩:=h
  let H:Hp:=upd (upd H1 dx (.own a)) a (.ins C dx [])
  let B:Hp:=λb=>if b=a then A' else H b
  have Mv:B a=none:=if_pos rfl;have hB:∀{b:KF},b≠a->B b=H b:=λ{b} h=>if_neg h;have GQ:∀{b:KF} {o:HO},H1 b=u5 o->b≠a/\H b=u5 o:=λ{b o} e=>by
   have n1:b≠a:=bU e ha;exact#[n1,by show upd _ _ _ b=_;rw[ao n1,ao (bU e v7)];exact e]
  letI:Jm:={B:=B,F0:=F1,RX:=λ_ _ _=>False,RM:=λ_ _ _ _=>False}
  have hx:XOkM (cxOf (CX1 P w) P w K mg base N qual (ag st) f cdv A outer s H E).nox:=λσ z M' F' H' s' e C od y fs I kk rr hR er _=>hR.elim;obtain⟨t,ht,hq⟩:=a_ cdv A outer s H E inferInstance hr hx;have Fa:F1 a=none:=fh.free ha;have k0:Kept B F1 F1 H:=⟨λb o e=>by
   by_cases n:b=a
   .rw[n,Mv]at e;cases e
   .rw[hB n]at e;exact e,λb o e=>(GQ (fh b o e)).2,Same.refl F1,λ_ h _=>h,rfl,Same.refl F1,λ_ h _=>h⟩
  have Hz:Reps K F1 (.ptr a::ds) (.ref a::us):=reps_cons.mpr #[_,_,rfl,rep_ptr.mpr rfl,rs];have Of:RepM K F1 H [(a,.ins x [])]:=⟨by simp[az],λb o hb=>by
   have e:=Ds.mp hb;cases e;exact#[C,dx,[],hns,aA,repf_nil.mpr rfl],λb hb=>by
   have e:b=a:=by simpa[az]using hb
   rw[e];exact Fa⟩
  have r0:RepZ K B F1 H (startD N (.ptr a::ds)) (L2.start N (.ref a::us)) [(a,.ins x [])]:=⟨fz Hz,rj Hz,Of,λb hb=>by
   have e:b=a:=by simpa[az]using hb
   rw[e];exact Mv⟩
  refine#[_,ht.out.nox,F1,F1,_,_,k0,r0,_,hq a ds R (λ_ _ _ _ z=>z) h,#[λz' s' M' F' H' kk hn r=>?_,λd v M' F' H' kk hd rd Ms mb=>hd.elim,λ_ _ _ _ _ _ h _=>h.elim,λ_ _ _ _ _ _ h _=>h.elim]];obtain⟨fs,rfl,hR⟩:=hn;obtain⟨C',GP,ws,j9,gt,rf⟩:=r.rm.ok a _ (Ds.mpr rfl);have y':nsIn K Os x=u5 (u5 (.ref C')):=j9;rw[hns]at y';cases y';exact q fs ws GP F' H' ⟨kk.f0,kk.fh,λb o e=>kk.bh b o (by show B b=u5 o;rw[hB (GQ e).1];exact(GQ e).2),λb h1 h2=>kk.out b h1 (by
   show B b≠A';cases e:H1 b with
   |none=>exact absurd e h2
   |some o=>rw[hB (GQ e).1,(GQ e).2];exact λz=>nomatch z)⟩ hR gt (r.rm.fr a (by simp[az])) rf
end
section
variable {P:Pw}{w:Pz}{K:Dr}{mg:G8->Option GT}{base:Heap}{n:Nat}{x m:G8}{ps:List G8}
variable{S:SpM}
def CalMth.one(h:CalMth P w K mg base n x m ps (lSpM K S)):∀y,y∈[x]->CalMth P w K mg base n y m ps (lSpM K ((λ_=>S) y)):=λy hy=>by
 rw[Ds.mp hy];exact h
def rA{f:KF}{fd:PH}{sp:Sp}(h:∀vs H Q E,¬sp vs H Q E):FnOk P w K mg base (CX1 P w) n f fd ps sp:=#[λvs H Q E q=>(h _ _ _ _ q).elim,λA outer s H args us vs Q E _ _ _ _ q=>(h _ _ _ _ q).elim]
def rB(h:∀ds M R RX,¬S ds M R RX):∀vs H Q E,¬lSpM K S vs H Q E:=by
 rintro vs H Q E⟨F,ds,M,_,_,_,R,RX,q,_⟩;exact h ds M R RX q
def CalMth.never{qual:G8}{st:Py}(T:Txm K x m qual st ps)(h:∀ds M R RX,¬S ds M R RX):CalMth P w K mg base n x m ps (lSpM K S):=by
 obtain⟨C,f,fd,h1,h2,h3,T,hb⟩:=T;exact#[C,f,fd,h1,h2,h3,rA (rB h),hb]
def CalMM.never{st:Py}(T:Tx K mg x st ps)(h:∀ds M R RX,¬S ds M R RX):CalMM P w K mg base n x ps S:=by
 obtain⟨f,fd,T,hb,hm⟩:=T;exact#[f,fd,rA (rB h),hb,T.kp,hm]
end
def jD(S:SpM):SpM:=λds M R RX=>∃M1 M2,M=M1++M2/\S ds M2 (λd M'=>R d (M1++M')) λx fs M'=>RX x fs (M1++M')
def keys_app{M1 M2:MS}{a:KF}:a∈az (M1++M2)↔a∈az M1\/a∈az M2:=by unfold az;rw[Ef,D3]
def rC{K:Dr}{S:SpM}{vs:List V}{H:Hp}{Q:VK}{E:XK}(h:lSpM K (jD S) vs H Q E):lSpM K S vs H Q E:=by
 obtain⟨F,ds,M,fh,rs,rm,R,RX,⟨M1,M2,rfl,hS⟩,q,qx⟩:=h;have nd:(az M1++az M2).Nodup:=by have:=rm.nd;unfold az at this ⊢;rw[Ef]at this;exact this
 have KN:∀{a:KF},a∈az M1->a∉az M2:=λ{a} h1 h2=>(ES.mp nd).2.2 a h1 a h2 rfl;have Og:RepM K F H M2:=#[(ES.mp nd).2.1,λa o h=>rm.ok a o (DY _ h),λa h=>rm.fr a (keys_app.mpr (.inr h))];have up:∀{M':MS} {F' H':Hp},GrowM M2 M' F H F' H'->RepM K F' H' M'->GrowM (M1++M2) (M1++M') F H F' H'/\RepM K F' H' (M1++M'):=λ{M' F' H'} g r=>by
  have w_:∀{a:KF},a∈az M1->H a≠none:=λ{a} h=>rm.here (keys_app.mpr (.inl h));have KO:∀{a:KF},a∈az M1->a∉az M':=λ{a} h1 h2=>by
   rcases g.ks a h2 with z|z
   .exact KN h1 z
   .exact w_ h1 z
  refine#[#[g.ff,g.fh,λb o nb e=>g.hh b o (λz=>nb (keys_app.mpr (.inr z))) e,λb nb h1 h2=>g.out b (λz=>nb (keys_app.mpr (.inr z))) h1 h2,λb hb=>?_],#[?_,λa o h=>?_,λa h=>?_]]
  .rcases keys_app.mp hb with z|z
   .exact .inl (keys_app.mpr (.inl z))
   .exact(g.ks b z).imp (λz=>keys_app.mpr (.inr z)) id
  .unfold az;rw[Ef];exact ES.mpr #[(ES.mp nd).1,r.nd,λa h1 b h2 e=>KO h1 (e ▸ h2)]
  .rcases D3.mp h with z|z
   .have ka:a∈az M1:=ca z;exact(rm.ok a o (EC _ z)).mono g.ff λo e=>g.hh a o (KN ka) e
   .exact r.ok a o z
  .rcases keys_app.mp h with z|z
   .exact g.out a (KN z) (rm.fr a (keys_app.mpr (.inl z))) (w_ z)
   .exact r.fr a z
 exact#[F,ds,M2,fh,rs,Og,_,_,hS,λd v M' F' H' g hd rd m'=>q d v _ F' H' (up g m').1 hd rd (up g m').2,λx fs C od M' F' H' g hR er m'=>qx x fs C od _ F' H' (up g m').1 hR er (up g m').2]
section
variable {P:Pw}{w:Pz}{K:Dr}{mg:G8->Option GT}{base:Heap}{n:Nat}{x m:G8}{ps:List G8}{S:SpM}
def CalMM.frame(C:CalMM P w K mg base n x ps S):CalMM P w K mg base n x ps (jD S):=C.imp λ_ _ _ _ h=>rC h
def CalMth.frame(C:CalMth P w K mg base n x m ps (lSpM K S)):CalMth P w K mg base n x m ps (lSpM K (jD S)):=C.imp λ_ _ _ _ h=>rC h
end
def nilX(S:SpX):SpM:=λds M R RX=>M=[]/\∃(R0:D->Prop) (G2:XD),S ds R0 G2/\(∀d M',R0 d->R d M')/\∀x fs M',G2 x fs->RX x fs M'
def CalMM.nilX{P:Pw}{w:Pz}{K:Dr}{mg:G8->Option GT}{base:Heap}{n:Nat}{x:G8}{ps:List G8}{S:SpX}(C:CalMM P w K mg base n x ps (nilX S)):CalX P w K mg base n x ps S:=C.toX λ_ R RX h=>#[rfl,R,RX,h,λ_ _ h=>h,λ_ _ _ h=>h]
end My
namespace My
section
variable {K:Dr}{h:Heap}{mg:G8->Option GT}{x y m q f:G8}{st:Py}{ps:List G8}
abbrev NsC(K:Dr)(x:G8)(C:KF):Prop:=nsIn K Os x=u5 (u5 (.ref C))
variable{C:KF}
def NsC.uniq{D:KF}(a:NsC K x C)(b:NsC K x D):C=D:=by
 have e:=a.symm.trans b;cases e;rfl
abbrev BindA(x q:G8)(st:Py)(ps:List G8):Prop:=∀(kV doc pm:GT) (an:Option KF) (cdv ct:GT) (us:List GT),us.length=ps.length->Qa (fnOf x q (bI st) (aP st) (ag st) .none kV doc pm an cdv ct) #[us,[]]=pure (ps.zip us)
def FnIn(K:Dr)(x:G8)(st:Py):Prop:=∃f fd,NsC K x f/\Fun K x x st f fd
variable{oc kV dc pm cd ct:GT}{od an:Option KF}{sl:Array (Option GT)}
def fnIn_mk{f:KF}(a:nsIn K Os x=u5 (u5 (.ref f)))(l:K.lookup f=u5 #[oc,od,.func (fnOf x x (bI st) (aP st) (ag st) .none kV dc pm an cd ct),sl])(c:codeIn K cd x=true)(k:keepIn K (.ref f)=true):FnIn K x st:=#[f,_,a,gj l c k]
def FnIn.tx(T:FnIn K x st)(X:K.In h)(G:h.Ns Os mg)(b:BindA x x st ps):Tx K mg x st ps:=by
 obtain⟨f,fd,a,F⟩:=T;exact#[f,fd,F,F.binds b,mg_of X G a]
def FnIn.law{p:G8}(T:FnIn K x st)(X:K.In h)(G:h.Ns Os mg){fa:KF}(Ie:mg x=u5 (.ref fa))(b:∀(kV doc pm:GT) (an:Option KF) (cdv ct v:GT),Qa (fnOf x x (bI st) (aP st) (ag st) .none kV doc pm an cdv ct) #[[v],[]]=pure [(p,v)]):∃fd,(∀(s:KB) (v:GT),QF s fd #[[v],[]] [(p,v)])/\Fun K x x st fa fd:=by
 obtain⟨f,fd,a,F⟩:=T;have e:=Ie.symm.trans (mg_of X G a);cases e;refine#[fd,λs v=>?_,F];obtain⟨oc,od,kV,doc,pm,an,cdv,ct,osl,rfl,lk,i8⟩:=F.ex;exact .of_eq (b _ _ _ _ _ _ v)
variable{us:List GT}
def bR{x:G8}{xs:List G8}(h:us.length=(x::xs).length):∃u t,us=u::t/\t.length=xs.length:=by
 cases us with
 |nil=>cases h
 |cons u t=>exact#[u,t,rfl,Nat.succ.inj h]
def len_0(h:us.length=([]:List G8).length):us=[]:=EA h
variable{x0:G8}
def zk(b:∀(kV doc pm:GT) (an:Option KF) (cdv ct u0:GT),Qa (fnOf x q (bI st) (aP st) (ag st) .none kV doc pm an cdv ct) #[[u0],[]]=pure [(x0,u0)]):BindA x q st [x0]:=λkV doc pm an cdv ct us hl=>by
 obtain⟨u0,t0,rfl,h0⟩:=bR hl;cases len_0 h0;exact b kV doc pm an cdv ct u0
variable{x1:G8}
def bind2(b:∀(kV doc pm:GT) (an:Option KF) (cdv ct u0 u1:GT),Qa (fnOf x q (bI st) (aP st) (ag st) .none kV doc pm an cdv ct) #[[u0,u1],[]]=pure [(x0,u0),(x1,u1)]):BindA x q st [x0,x1]:=λkV doc pm an cdv ct us hl=>by
 obtain⟨u0,t0,rfl,h0⟩:=bR hl;obtain⟨u1,t1,rfl,h1⟩:=bR h0;cases len_0 h1;exact b kV doc pm an cdv ct u0 u1
variable{x2:G8}
def bind3(b:∀(kV doc pm:GT) (an:Option KF) (cdv ct u0 u1 u2:GT),Qa (fnOf x q (bI st) (aP st) (ag st) .none kV doc pm an cdv ct) #[[u0,u1,u2],[]]=pure [(x0,u0),(x1,u1),(x2,u2)]):BindA x q st [x0,x1,x2]:=λkV doc pm an cdv ct us hl=>by
 obtain⟨u0,t0,rfl,h0⟩:=bR hl;obtain⟨u1,t1,rfl,h1⟩:=bR h0;obtain⟨u2,t2,rfl,h2⟩:=bR h1;cases len_0 h2;exact b kV doc pm an cdv ct u0 u1 u2
def bind4{x3:G8}(b:∀(kV doc pm:GT) (an:Option KF) (cdv ct u0 u1 u2 u3:GT),Qa (fnOf x q (bI st) (aP st) (ag st) .none kV doc pm an cdv ct) #[[u0,u1,u2,u3],[]]=pure [(x0,u0),(x1,u1),(x2,u2),(x3,u3)]):BindA x q st [x0,x1,x2,x3]:=λkV doc pm an cdv ct us hl=>by
 obtain⟨u0,t0,rfl,h0⟩:=bR hl;obtain⟨u1,t1,rfl,h1⟩:=bR h0;obtain⟨u2,t2,rfl,h2⟩:=bR h1;obtain⟨u3,t3,rfl,h3⟩:=bR h2;cases len_0 h3;exact b kV doc pm an cdv ct u0 u1 u2 u3
def bind5{x3 x4:G8}(b:∀(kV doc pm:GT) (an:Option KF) (cdv ct u0 u1 u2 u3 u4:GT),Qa (fnOf x q (bI st) (aP st) (ag st) .none kV doc pm an cdv ct) #[[u0,u1,u2,u3,u4],[]]=pure [(x0,u0),(x1,u1),(x2,u2),(x3,u3),(x4,u4)]):BindA x q st [x0,x1,x2,x3,x4]:=λkV doc pm an cdv ct us hl=>by
 obtain⟨u0,t0,rfl,h0⟩:=bR hl;obtain⟨u1,t1,rfl,h1⟩:=bR h0;obtain⟨u2,t2,rfl,h2⟩:=bR h1;obtain⟨u3,t3,rfl,h3⟩:=bR h2;obtain⟨u4,t4,rfl,h4⟩:=bR h3;cases len_0 h4;exact b kV doc pm an cdv ct u0 u1 u2 u3 u4
structure ClF(K:Dr)(x:Str)(C:KF):Prop where
 ns:NsC K x C
 cl:Cls K C
 ha:DD K (.ref C) "__class__"=u5 (u5 (.builtin "object.__class__"))
 hn:specialIn K (.builtin "object.__class__") "__get__"=u5 (u5 (.builtin "getset_descriptor.__get__"))
 ht:takesIn K (.builtin "object.__class__")=u5 true
 hm:Eo K C (.type "object")=u5 true
def ClIn(K:Dr)(x:G8):Prop:=∃C,ClF K x C
def clIn_mk(a:nsIn K Os x=u5 (u5 (.ref C)))(pg:plainGet K C Str.empty=true)(hd:hasDictIn K C=true)(po:plainOver K C=true)(sa:DD K (.ref C) "__setattr__"=u5 (u5 (.builtin "object.__setattr__")))
  (ha:DD K (.ref C) "__class__"=u5 (u5 (.builtin "object.__class__"))) (hn:specialIn K (.builtin "object.__class__") "__get__"=u5 (u5 (.builtin "getset_descriptor.__get__"))) (ht:takesIn K (.builtin "object.__class__")=u5 true) (hm:Eo K C (.type "object")=u5 true):ClIn K x:=#[C,a,#[pg,hd,po,sa],ha,hn,ht,hm]
def NoIn(K:Dr)(x f:G8):Prop:=∃C,NsC K x C/\DD K (.ref C) f=u5 A'
def noIn_mk(a:nsIn K Os x=u5 (u5 (.ref C)))(b:DD K (.ref C) f=u5 A'):NoIn K x f:=#[C,a,b]
def ClIn.a(c:ClIn K x)(n:NoIn K x f):ClsA K x f:=by
 obtain⟨C,k⟩:=c;obtain⟨D,a,b⟩:=n;cases NsC.uniq k.ns a;exact#[C,a,k.cl,b]
def NoIn.all(n:NoIn K x f):∀C,nsIn K Os x=u5 (u5 (.ref C))->DD K (.ref C) f=u5 none:=λC hC=>by
 obtain⟨D,a,b⟩:=n;cases NsC.uniq hC a;exact b
def MtIn(K:Dr)(x m q:G8)(st:Py):Prop:=∃C f fd,NsC K x C/\Meth K C m f/\Fun K m q st f fd
def mtIn_mk{f:KF}(a:nsIn K Os x=u5 (u5 (.ref C)))(b:DD K (.ref C) m=u5 (u5 (.ref f)))(i:isFn K (.ref f)=true)(l:K.lookup f=u5 #[oc,od,.func (fnOf m q (bI st) (aP st) (ag st) .none kV dc pm an cd ct),sl])(c:codeIn K cd q=true)(k:keepIn K (.ref f)=true):MtIn K x m q st:=#[C,f,_,a,#[b,i,k],gj l c k]
def MtIn.txm(T:MtIn K x m q st)(c:ClIn K x)(b:BindA m q st ps):Txm K x m q st ps:=by
 obtain⟨C,k⟩:=c;obtain⟨D,f,fd,a,mt,F⟩:=T;cases NsC.uniq k.ns a;exact#[C,f,fd,a,k.cl,mt,F,F.binds b]
def InIn(K:Dr)(x q:G8)(st:Py):Prop:=∃C f fd,NsC K x C/\Mk K C f/\Fun K "__init__" q st f fd
def inIn_mk{f:KF}(a:nsIn K Os x=u5 (u5 (.ref C)))(mk:makesIn K C=true)(b:DD K (.ref C) "__init__"=u5 (u5 (.ref f)))(i:isFn K (.ref f)=true)(kp:keepIn K (.ref C)=true)(l:K.lookup f=u5 #[oc,od,.func (fnOf "__init__" q (bI st) (aP st) (ag st) .none kV dc pm an cd ct),sl])(c:codeIn K cd q=true)(k:keepIn K (.ref f)=true):InIn K x q st:=#[C,f,_,a,#[mk,b,i,kp],gj l c k]
def Txi(K:Dr)(mg:G8->Option GT)(x q:G8)(st:Py)(ps:List G8):Prop:=∃C f fd,NsC K x C/\mg x=u5 (.ref C)/\Mk K C f/\Fun K "__init__" q st f fd/\Binds K fd ps []
def InIn.txi(T:InIn K x q st)(X:K.In h)(G:h.Ns Os mg)(b:BindA "__init__" q st ps):Txi K mg x q st ps:=by
 obtain⟨C,f,fd,a,mk,F⟩:=T;exact#[C,f,fd,a,mg_of X G a,mk,F,F.binds b]
def CiIn(K:Dr)(x:G8)(i:Int):Prop:=∃t,nsIn K Os x=u5 (u5 (.int i t))
def CsIn(K:Dr)(x y:G8):Prop:=∃t,nsIn K Os x=u5 (u5 (.str y t))
def ciIn_mk{i:Int}{t:Tok}(a:nsIn K Os x=u5 (u5 (.int i t))):CiIn K x i:=#[t,a]
def csIn_mk{t:Tok}(a:nsIn K Os x=u5 (u5 (.str y t))):CsIn K x y:=#[t,a]
def CiIn.g{i:Int}(c:CiIn K x i)(X:K.In h)(G:h.Ns Os mg):∃t,mg x=u5 (.int i t):=let ⟨t,a⟩:=c;#[t,mg_of X G a]
def CsIn.g(c:CsIn K x y)(X:K.In h)(G:h.Ns Os mg):∃t,mg x=u5 (.str y t):=let ⟨t,a⟩:=c;#[t,mg_of X G a]
def NnIn(K:Dr)(x:G8):Prop:=nsIn K Os x=u5 A'
def nnIn_mk(a:nsIn K Os x=u5 A'):NnIn K x:=a
structure ErF(K:Dr)(x:Str)(bm:List GT)(C N:KF):Prop where
 ns:NsC K x C
 kp:keepIn K (.ref C)=true
 ob:∃nm q bs sn sub ab col dd k0 k1 k2 k3 k5,K.lookup C=u5 (P0 nm q C N bs bm true sn sub ab col dd k0 k1 k2 k3 k5 "ValueError.__new__")
structure ErN(K:Dr)(N:KF):Prop where
 ok:nsOkIn K N=true
 no:nsIn K N "__init__"=u5 A'
def EbIn(K:Dr):Prop:=∃C N,ErF K "MotifError" Exc.veLine C N/\ErN K N
def EdIn(K:Dr)(x:G8)(C N:KF):Prop:=∃B,NsC K "MotifError" B/\ErF K x (.ref B::Exc.veLine) C N
def E0In(K:Dr)(x:G8):Prop:=∃C N,EdIn K x C N/\ErN K N
def E1In(K:Dr)(x q:G8)(st:Py):Prop:=∃C N f fd,EdIn K x C N/\DD K (.ref C) "__init__"=u5 (u5 (.ref f))/\isFn K (.ref f)=true/\Fun K "__init__" q st f fd
def EaIn(K:Dr)(x:G8):Prop:=∃C,NsC K x C/\DD K (.ref C) "__setattr__"=u5 (u5 (.builtin "object.__setattr__"))
def EgIn(K:Dr)(x:G8):Prop:=∃C,NsC K x C/\DD K (.ref C) "__getattribute__"=u5 (u5 (.builtin "BaseException.__getattribute__"))/\DD K (.ref C) "__getattr__"=u5 A'
def EiIn(K:Dr)(x:G8):Prop:=∃M,NsC K x M/\readsIn K M (.type "type")=true/\findCls K (.ref M) (.type "type") "__init__"=u5 (.val (.builtin "ValueError.__init__"))/\specialIn K (.ref M) "__getattribute__"=u5 (u5 (.builtin "type.__getattribute__"))
def EmIn(K:Dr)(x y:G8):Prop:=∃C D,NsC K x C/\NsC K y D/\Eo K C (.ref D)=u5 (subE x y)
section
variable {B C D N:KF}{nm qn:G8}{bs:List GT}{sn:List G8}{sub:List GT}{ab:Bool}{col:Option Bool}{dd:Option KF}{k0 k1 k2 k3 k5:Option GT}{nc:GT}{nd:Option KF}{ne:Array DictEntry}{np:Nat}{nl:Array (Option GT)}
def ebIn_mk(a:nsIn K Os "MotifError"=u5 (u5 (.ref C)))(kp:keepIn K (.ref C)=true)(o:K.lookup C=u5 (P0 nm qn C N bs Exc.veLine true sn sub ab col dd k0 k1 k2 k3 k5 "ValueError.__new__"))(nk:K.lookup N=u5 #[nc,nd,.dict ne np,nl])(al:ne.toList.all (λe=>match e.key with|.str _ _=>true|_=>false)=true)(ni:nsIn K N "__init__"=u5 A'):EbIn K:=#[C,N,#[a,kp,_,_,_,_,_,_,_,_,_,_,_,_,_,o],qC nk al,ni]
def e0In_mk(b:nsIn K Os "MotifError"=u5 (u5 (.ref B)))(a:nsIn K Os x=u5 (u5 (.ref C)))(kp:keepIn K (.ref C)=true)(o:K.lookup C=u5 (P0 nm qn C N bs (.ref B::Exc.veLine) true sn sub ab col dd k0 k1 k2 k3 k5 "ValueError.__new__"))(nk:K.lookup N=u5 #[nc,nd,.dict ne np,nl])(al:ne.toList.all (λe=>match e.key with|.str _ _=>true|_=>false)=true)(ni:nsIn K N "__init__"=u5 A'):E0In K x:=#[C,N,#[B,b,a,kp,_,_,_,_,_,_,_,_,_,_,_,_,_,o],qC nk al,ni]
def e1In_mk{f:KF}{oc:GT}{od an:Option KF}{sl:Array (Option GT)}{kV dc pm cd ct:GT}(b:nsIn K Os "MotifError"=u5 (u5 (.ref B)))(a:nsIn K Os x=u5 (u5 (.ref C)))(kp:keepIn K (.ref C)=true)(o:K.lookup C=u5 (P0 nm qn C N bs (.ref B::Exc.veLine) true sn sub ab col dd k0 k1 k2 k3 k5 "ValueError.__new__"))
  (j:DD K (.ref C) "__init__"=u5 (u5 (.ref f))) (i:isFn K (.ref f)=true) (l:K.lookup f=u5 #[oc,od,.func (fnOf "__init__" q (bI st) (aP st) (ag st) .none kV dc pm an cd ct),sl]) (c:codeIn K cd q=true) (k:keepIn K (.ref f)=true):E1In K x q st:=#[C,N,f,_,#[B,b,a,kp,_,_,_,_,_,_,_,_,_,_,_,_,_,o],j,i,gj l c k]
def eaIn_mk(a:nsIn K Os x=u5 (u5 (.ref C)))(b:DD K (.ref C) "__setattr__"=u5 (u5 (.builtin "object.__setattr__"))):EaIn K x:=#[C,a,b]
def egIn_mk(a:nsIn K Os x=u5 (u5 (.ref C)))(b:DD K (.ref C) "__getattribute__"=u5 (u5 (.builtin "BaseException.__getattribute__")))(c:DD K (.ref C) "__getattr__"=u5 A'):EgIn K x:=#[C,a,b,c]
def eiIn_mk(a:nsIn K Os x=u5 (u5 (.ref C)))(b:readsIn K C (.type "type")=true)(c:findCls K (.ref C) (.type "type") "__init__"=u5 (.val (.builtin "ValueError.__init__")))(d:specialIn K (.ref C) "__getattribute__"=u5 (u5 (.builtin "type.__getattribute__"))):EiIn K x:=#[C,a,b,c,d]
def emIn_mkT(e:subE x y=true)(a:nsIn K Os x=u5 (u5 (.ref C)))(c:nsIn K Os y=u5 (u5 (.ref D)))(d:Eo K C (.ref D)=u5 true):EmIn K x y:=#[C,D,a,c,e ▸ d]
def emIn_mkF(e:subE x y=false)(a:nsIn K Os x=u5 (u5 (.ref C)))(c:nsIn K Os y=u5 (u5 (.ref D)))(d:Eo K C (.ref D)=u5 false):EmIn K x y:=#[C,D,a,c,e ▸ d]
end
def EdIn.k{N:KF}(e:EdIn K x C N)(b:EbIn K)(X:K.In h)(G:h.Ns Os mg):∃bm,ErrK K mg x C N bm:=by
 obtain⟨B,hB,k⟩:=e;obtain⟨B',N',kb,n⟩:=b;cases NsC.uniq kb.ns hB;obtain⟨_,_,_,_,_,_,_,_,_,_,_,_,_,o⟩:=kb.ob;exact#[_,k.ns,mg_of X G k.ns,k.kp,k.ob,xM o rfl n.ok n.no]
def E0In.k(e:E0In K x)(b:EbIn K)(X:K.In h)(G:h.Ns Os mg):∃C N bm,ErrK K mg x C N bm/\ErrN K N:=by
 obtain⟨C,N,k,n⟩:=e;obtain⟨bm,z⟩:=k.k b X G;exact#[C,N,bm,z,n.ok,n.no]
def Txe(K:Dr)(mg:G8->Option GT)(x q:G8)(st:Py)(ps:List G8):Prop:=∃C N bm f fd,ErrK K mg x C N bm/\DD K (.ref C) "__init__"=u5 (u5 (.ref f))/\isFn K (.ref f)=true/\Fun K "__init__" q st f fd/\Binds K fd ps []
def E1In.txe(e:E1In K x q st)(b:EbIn K)(X:K.In h)(G:h.Ns Os mg)(bi:BindA "__init__" q st ps):Txe K mg x q st ps:=by
 obtain⟨C,N,f,fd,k,i,j,F⟩:=e;obtain⟨bm,z⟩:=k.k b X G;exact#[C,N,bm,f,fd,z,i,j,F,F.binds bi]
def ErrK.a'{N:KF}{bm:List GT}(k:ErrK K mg x C N bm)(a:EaIn K x):∃C cd,ErrA K x C cd:=by
 obtain⟨D,hD,sa⟩:=a;cases NsC.uniq k.ns hD;exact#[C,k.a sa]
def E1In.a(e:E1In K x q st)(b:EbIn K)(a:EaIn K x)(X:K.In h)(G:h.Ns Os mg):∃C cd,ErrA K x C cd:=by
 obtain⟨C,N,f,fd,k,_⟩:=e;obtain⟨bm,z⟩:=k.k b X G;exact z.a' a
def E1In.c(e:E1In K x q st)(b:EbIn K)(X:K.In h)(G:h.Ns Os mg):∃C N bm,ErrK K mg x C N bm:=by
 obtain⟨C,N,f,fd,k,_⟩:=e;obtain⟨bm,z⟩:=k.k b X G;exact#[C,N,bm,z]
def EiIn.b(e:EiIn K x)(X:K.In h)(G:h.Ns Os mg):∃M,BaseK K mg x M:=by
 obtain⟨M,a,b,c,d⟩:=e;exact#[M,mg_of X G a,b,c,d]
def EgIn.g(e:EgIn K x)(a:∃C cd,ErrA K x C cd)(n:NoIn K x f):ErrG K f x:=by
 obtain⟨C,h1,h2,h3⟩:=e;obtain⟨D,cd,ea⟩:=a;cases NsC.uniq ea.ns h1;exact#[C,cd,ea,h2,h3,n.all C h1]
def AllP(p:G8->Prop):List G8->Prop
 |[]=>True
 |a::l=>p a/\AllP p l
def AllP.mem{p:G8->Prop}:∀{l:List G8},AllP p l->∀x∈l,p x
 |_::_,h,_,.head _=>h.1
 |_::_,h,_,.tail _ m=>AllP.mem h.2 _ m
def zl{es:List G8}(c:AllP (λx=>∃C N bm,ErrK K mg x C N bm) es)(s:AllP (λx=>AllP (λy=>EmIn K x y) es) es):ErrsK K mg es:=by
 refine#[c.mem,λx hx y hy C C' h1 h2=>?_];obtain⟨A,B,a,b,m⟩:=(s.mem x hx).mem y hy;cases NsC.uniq a h1;cases NsC.uniq b h2;exact m
end
structure Bx where
 P:Pw
 w:Pz
 K:Dr
 mg:G8->Option GT
 base:Heap
abbrev Bx.T(V:Bx)(x:G8)(st:Py)(ps:List G8):Prop:=Tx V.K V.mg x st ps
abbrev Bx.Tm(V:Bx)(x m q:G8)(st:Py)(ps:List G8):Prop:=Txm V.K x m q st ps
abbrev Bx.Ti(V:Bx)(x q:G8)(st:Py)(ps:List G8):Prop:=Txi V.K V.mg x q st ps
abbrev Bx.Te(V:Bx)(x q:G8)(st:Py)(ps:List G8):Prop:=Txe V.K V.mg x q st ps
abbrev Bx.Ek(V:Bx)(es:List G8):Prop:=ErrsK V.K V.mg es
abbrev Bx.m(V:Bx)(x:G8):Prop:=V.mg x=A'
abbrev Bx.gi(V:Bx)(x:G8)(i:Int):Prop:=∃t,V.mg x=u5 (.int i t)
abbrev Bx.gs(V:Bx)(x y:G8):Prop:=∃t,V.mg x=u5 (.str y t)
abbrev Bx.a(V:Bx)(x f:G8):Prop:=ClsA V.K x f
abbrev Bx.D(V:Bx)(n:Nat)(x:G8)(ps:List G8)(S:SpD):Prop:=CalD V.P V.w V.K V.mg V.base n x ps S
abbrev Bx.X(V:Bx)(n:Nat)(x:G8)(ps:List G8)(S:SpX):Prop:=CalX V.P V.w V.K V.mg V.base n x ps S
abbrev Bx.MM(V:Bx)(n:Nat)(x:G8)(ps:List G8)(S:SpM):Prop:=CalMM V.P V.w V.K V.mg V.base n x ps S
abbrev Bx.M(V:Bx)(n:Nat)(x:G8)(ps:List G8)(S:SiD):Prop:=CalM V.P V.w V.K V.mg V.base n x ps S
abbrev Bx.E(V:Bx)(n:Nat)(x:G8)(ps:List G8)(S:SiD):Prop:=CalE V.P V.w V.K V.mg V.base n x ps S
abbrev Bx.Q(V:Bx)(n:Nat)(x m:G8)(ps:List G8)(S:SpM):Prop:=CalMth V.P V.w V.K V.mg V.base n x m ps (lSpM V.K S)
abbrev Bx.n(V:Bx)(x:G8):Prop:=∃C N bm,ErrK V.K V.mg x C N bm/\ErrN V.K N
abbrev Bx.b(V:Bx)(x:G8):Prop:=∃M,BaseK V.K V.mg x M
abbrev Bx.ea(V:Bx)(x:G8):Prop:=∃C cd,ErrA V.K x C cd
abbrev Bx.xf(V:Bx)(x f:G8):Prop:=∀C,nsIn V.K Os x=u5 (u5 (.ref C))->DD V.K (.ref C) f=u5 A'
abbrev Bx.x(V:Bx)(f:G8)(ys:List G8):Prop:=∀y∈ys,ErrG V.K f y
section
variable {P:Pw}{w:Pz}{K:Dr}{mg:G8->Option GT}{base:Heap}
variable{x qual p0:G8}{st:Py}{N ps:List G8}{k:Nat}{S:SiD}
def Txi.okI(T:Txi K mg x qual st (p0::ps))(F:FnScope (p0::N) (p0::ps) (ag st))(len:∀ds R,S ds R->ds.length=ps.length)
  (a_:∀(f:KF) (cdv:GT) (A:PB) (outer:List Ql) (s:KB) (H:Hp) (E:XK) (J:Jx),Room k (A.deeper (PZ qual (ag st) s.heap.objs.size f cdv))->
   ∃t,WDI (cxOf (Exc.CX1 P w) P w K mg base (p0::N) qual (ag st) f cdv A outer s H E).nox x (aP st) t/\∀ds R,S ds R->t (A'::startD N ds) [] R):CalM P w K mg base (k+1) x (p0::ps) S:=by
 obtain⟨C,f,fd,a,b,c,d,e⟩:=T;exact Cls.okIW d e F len a b c (a_ f)
def Txi.okIM(T:Txi K mg x qual st (p0::ps))(F:FnScope N (p0::ps) (ag st))(len:∀ds R,S ds R->ds.length=ps.length)
  (a_:∀(f:KF) (cdv:GT) (A:PB) (outer:List Ql) (s:KB) (H:Hp) (E:XK) (J:Jm),Room k (A.deeper (PZ qual (ag st) s.heap.objs.size f cdv))->XOkM (cxOf (Exc.CX1 P w) P w K mg base N qual (ag st) f cdv A outer s H E).nox->
   ∃t,MSs (cxOf (Exc.CX1 P w) P w K mg base N qual (ag st) f cdv A outer s H E).nox (aP st) t/\∀a ds R,(∀z M x fs,¬J.RM z M x fs)->S ds R->t {nx:=λ_ M'=>∃fs,M'=[(a,.ins x fs)]/\R fs,rt:=λ_ _=>False} (startD N (.ptr a::ds)) [(a,.ins x [])]):CalM P w K mg base (k+1) x (p0::ps) S:=by
 obtain⟨C,f,fd,a,b,c,d,e⟩:=T;exact Cls.okIM d e F len a b c (a_ f)
def Txe.okE(T:Txe K mg x qual st (p0::ps))(F:FnScope (p0::N) (p0::ps) (ag st))(len:∀ds R,S ds R->ds.length=ps.length)
  (a_:∀(f:KF) (cdv:GT) (A:PB) (outer:List Ql) (s:KB) (H:Hp) (E:XK) (J:Jx),Room k (A.deeper (PZ qual (ag st) s.heap.objs.size f cdv))->
   ∃t,WDX (cxOf (Exc.CX1 P w) P w K mg base (p0::N) qual (ag st) f cdv A outer s H E).nox x (aP st) t/\∀ds R,S ds R->t (A'::startD N ds) [] R):CalE P w K mg base (k+1) x (p0::ps) S:=by
 obtain⟨C,N',bm,f,fd,a,b,c,d,e⟩:=T;exact Cls.okEW d e F len a b c (a_ f)
end
section
variable {X:Cx}[J:Jx]{a b c e o i_ iter:Pu}{es:List Pu}{ta tb tc te to ti tj:TD}{tt:TDT}{t:TDA}{pos px:PK}{x:G8}{scope:P4}
def zm(K:Dr):R2:=λx y H Q=>∃p xs i z,x=.ref p/\y=.int i/\0<=i/\SqL K H p xs/\xs[i.toNat]?=u5 z/\Q z H
def zn:PGet X (zm X.K):=by
 intro pins s σ H x y v u Q I rx ry h;obtain⟨p,xs,i,z,rfl,rfl,h0,hq,he,q⟩:=h;cases rx;obtain⟨t,rfl⟩:=ry;obtain⟨its,r,pl,hz⟩:=I.list hq;obtain⟨w,ew,m_⟩:=r.get he;have hl:=r.length;have hn:=line63;have hi:=(DN.mp he).1;exact wpAny_getItem_list pl.isList h0 HN (by simpa using ew) #[z,H,I,m_,q]
end
section
variable {X:Cx}[J:Jx]{a b c e o:Pu}{es:List Pu}{ta tb tc te to:TD}{t:TDA}{pos:PK}
def Dq:RTx:=λy ds R=>match ds with|[.str p,.int i]=>∃k rest,Builtin.Str.occurrences y p (PySem.fromIndex y.length i) y.length 1=k::rest/\R (.int (k:Nat))|_=>False
def chV(x:G8):List V:=x.cps.toList.map λc=>V.str #[[c].toArray]
def zo{α β:Type}{F:α->β->Prop}:∀{l:List α} {m:List β},l.length=m.length->(∀(k:Nat) a b,l[k]?=u5 a->m[k]?=u5 b->F a b)->Paired F l m:=by
 intro l;induction l with
 |nil=>intro m h _;cases m with|nil=>exact .nil|cons _ _=>cases h
 |cons a l ih=>
  intro m h g;cases m with
  |nil=>cases h
  |cons b m=>exact .cons (g 0 a b rfl rfl) (ih (by simpa using h) λk a b h1 h2=>g (k+1) a b h1 h2)
def zp(hc:X.calm=true):bM X (.type "list") (λxs H Q=>∃z,xs=[.str z]/\z.length<=1000000/\∀l,H l=A'->Q (.ref l) (upd H l (.lst (chV z)))):=by
 intro pins s σ H xs us Q I r h;obtain⟨z,rfl,hz,q⟩:=h;obtain⟨u,rfl,t,rfl⟩:=bY r;have O8:1000000<=sizeLine:=G_
 have hl:z.cps.size=z.length:=rfl;refine PySem.call_list_str (I.ok.hd hc) z t (λh' tk f_ c' kp e it=>?_) HN;have r':Vals (chV z) f_.toList:=zo (by unfold chV;rw[DJ];simp[it.1]) λk a b h1 h2=>by
  unfold chV at h1;rw[D4]at h1;obtain⟨c,u,e1,rfl⟩:=it.2 k b (by simpa using h2);have e2:z.cps.toList[k]?=u5 c:=by simpa using e1
  rw[e2]at h1;cases h1;exact#[u,rfl]
 exact#[.ref s.heap.objs.size,_,I.laid (t':=tk) kp (Dt _) (show ObjOk X.prog X.w _ h' _ (.lst (chV z))from#[by unfold chV;rw[DJ];simp;lia,f_.toList,c',r',by simpa using e]),rfl,q _ (I.hok.fresh (Dt _))]
def rdListS:RDn:=λds R=>match ds with|[.str z]=>z.length<=1000000/\R (.lst (bQ z))|_=>False
def zq{K:Dr}{H:Hp}(l:List Nat):Reps K H (l.map λc=>D.str #[[c].toArray]) (l.map λc=>V.str #[[c].toArray]):=by
 induction l with
 |nil=>exact reps_nil.mpr rfl
 |cons c l ih=>exact reps_cons.mpr #[_,_,rfl,rep_str.mpr rfl,ih]
def zr{K:Dr}:cv K (λxs H Q=>∃z,xs=[.str z]/\z.length<=1000000/\∀l,H l=A'->Q (.ref l) (upd H l (.lst (chV z)))) rdListS:=by
 intro ds vs F H R Q fh h rx q;unfold rdListS at h;split at h
 .obtain⟨v,r,rfl,h1,h2⟩:=reps_cons.mp rx;rw[reps_nil.mp h2,rep_str.mp h1];exact#[_,rfl,h.1,λl hl=>q _ _ _ _ (Grow.new fh hl _) h.2 (rep_lst.mpr #[l,_,rfl,aA,zq _])]
 .exact h.elim
def gP{p:PK}(hc:X.calm=true)(hm:X.mg "list"=A')(ha:WDA X [e] t)(hg:autoParam (Gl X "list") zA0)(he:autoParam (zSE X e []) zA0):WDE X (.Call (.Name "list" p) [e] [] pos) (dCB rdListS t):=#[have ha:=ha.out;gw (zp hc) zr hm PyProof.Rows.boot_list ha hg G_ G_ he]
end
mutual
def noL:D->Bool
 |.non=>true|.bl _=>true|.int _=>true|.str _=>true|.ptr _=>true|.dti _=>true
 |.tup ds=>noLs ds
 |.obj _ fs=>noLF fs
 |_=>false
def noLs:List D->Bool
 |[]=>true
 |d::ds=>noL d&&noLs ds
def noLF:List (G8×D)->Bool
 |[]=>true
 |(_,d)::ds=>noL d&&noLF ds
end
def nlF(F:Hp):Hp:=λb=>match F b with|some (.lst _)=>A'|o=>o
def jE{F:Hp}{b:KF}{o:HO}(e:F b=u5 o)(h:∀vs,o≠.lst vs):nlF F b=u5 o:=by
 unfold nlF;rw[e];cases o with
 |lst vs=>exact absurd rfl (h vs)
 |_=>rfl
mutual
def Rep.nl{K:Dr}{F:Hp}:∀(d:D) (v:V),noL d=true->Rep K F d v->Rep K (nlF F) d v
 |.non,v,_,h=>by unfold Rep at h ⊢;exact h
 |.bl b,v,_,h=>by unfold Rep at h ⊢;exact h
 |.int b,v,_,h=>by unfold Rep at h ⊢;exact h
 |.str b,v,_,h=>by unfold Rep at h ⊢;exact h
 |.ptr b,v,_,h=>by unfold Rep at h ⊢;exact h
 |.dti a9,v,_,h=>by
  unfold Rep at h ⊢;obtain⟨a,e,q⟩:=h;exact#[a,e,jE q λ_ z=>nomatch z]
 |.tup ds,v,n,h=>by
  unfold Rep at h ⊢;obtain⟨a,vs,e,q,r⟩:=h;exact#[a,vs,e,jE q (λ_ z=>nomatch z),Reps.nl ds vs (by unfold noL at n;exact n) r]
 |.obj x fs,v,n,h=>by
  unfold Rep at h ⊢;obtain⟨a,C,dx,vs,e,n1,q,r⟩:=h;exact#[a,C,dx,vs,e,n1,jE q (λ_ z=>nomatch z),RepF.nl fs vs (by unfold noL at n;exact n) r]
 |.lst _,_,n,_=>by unfold noL at n;cases n
 |.rol _,_,n,_=>by unfold noL at n;cases n
 |.exc _ _,_,n,_=>by unfold noL at n;cases n
 |.own _,_,n,_=>by unfold noL at n;cases n
def RepF.nl{K:Dr}{F:Hp}:∀(ds:List (G8×D)) (vs:List (G8×V)),noLF ds=true->RepF K F ds vs->RepF K (nlF F) ds vs
 |[],vs,_,h=>by unfold RepF at h ⊢;exact h
 |(f,d)::ds,vs,n,h=>by
  unfold noLF at n;rw[D6]at n;unfold RepF at h ⊢;obtain⟨v,r,e,q1,q2⟩:=h;exact#[v,r,e,Rep.nl d v n.1 q1,RepF.nl ds r n.2 q2]
def Reps.nl{K:Dr}{F:Hp}:∀(ds:List D) (vs:List V),noLs ds=true->Reps K F ds vs->Reps K (nlF F) ds vs
 |[],vs,_,h=>by unfold Reps at h ⊢;exact h
 |d::ds,vs,n,h=>by
  unfold noLs at n;rw[D6]at n;unfold Reps at h ⊢;obtain⟨v,r,e,q1,q2⟩:=h;exact#[v,r,e,Rep.nl d v n.1 q1,Reps.nl ds r n.2 q2]
end
def Bt(n:Nat)(x:Int):Prop:=x.natAbs<2^n
def Bt.log{n:Nat}{x:Int}(h:Bt n x)(n0:0<n):x.natAbs.log2<n:=by
 rcases Gk x.natAbs with z|z
 .rw[z];exact n0
 .exact(F8 (Ec z)).mpr h
def Bt.bits{n:Nat}{x:Int}(h:Bt n x)(n0:0<n):Builtin.Int.intBits x<=n:=by
 have:=h.log n0;unfold Builtin.Int.intBits;split
 .exact DO _
 .omega
def CMulB(i j:Int):Prop:=CMul i j\/(Bt 4000 i/\Bt 4000 j)
def CMulB.ok{i j:Int}(h:CMulB i j):IntMulOk i j:=by
 rcases h with h|⟨h,k⟩
 .exact h.ok
 .exact IntMulOk.of_bits (Dy (h.bits G_) G_) (Dy (k.bits G_) G_)
section
variable {X:Cx}{a b:Pu}{ta tb:TD}{pos:PK}
def zt:OpR X (PR .Mult) (rI CMulB λi j=>.int (i*j)):=opI λ_ _ _ _ _ _ _ hc q=>mul_int q hc.ok
def zu:OpR X (PR .FloorDiv) (rI (λ_ j=>j≠0/\Bt 4000 j) λi j=>.int (i.fdiv j)):=opI λ_ j _ _ _ _ _ hc q=>Q1 hc.1 q (.inl (PyProof.noPylong_of_log2 (FE (hc.2.log G_) G_)))
def zv:OpR X (PR .FloorDiv) (rI (λ_ j=>0<j/\Bt 4000 j) λi j=>.int (i/j)):=opI λi j _ _ _ _ _ hc q=>by
 have h1:(0:Int)<j:=hc.1;exact Q1 Ia (by rw[FV i Ia];exact q) (.inl (PyProof.noPylong_of_log2 (FE (hc.2.log G_) G_)))
def rD:RD2:=λx y R=>kdI x λi=>kdI y λj=>CMulB i j/\R (.int (i*j))
def rE:RD2:=λx y R=>kdI x λi=>kdI y λj=>(j≠0/\Bt 4000 j)/\R (.int (i.fdiv j))
def rF:RD2:=λx y R=>kdI x λi=>kdI y λj=>(0<j/\Bt 4000 j)/\R (.int (i/j))
variable{K:Dr}
def zw:aS K (rI CMulB λi j=>.int (i*j)) rD:=du λ_ _ _=>rep_int.mpr rfl
def zx:aS K (rI (λ_ j=>j≠0/\Bt 4000 j) λi j=>.int (i.fdiv j)) rE:=du λ_ _ _=>rep_int.mpr rfl
def zy:aS K (rI (λ_ j=>0<j/\Bt 4000 j) λi j=>.int (i/j)) rF:=du λ_ _ _=>rep_int.mpr rfl
def bV[Jx](ha:WDE X a ta)(hb:WDE X b tb):WDE X (.BinOp a .Mult b pos) (dOp rD ta tb):=#[cy zt zw ha.out hb.out]
def zz[Jx](ha:WDE X a ta)(hb:WDE X b tb):WDE X (.BinOp a .FloorDiv b pos) (dOp rE ta tb):=#[cy zu zx ha.out hb.out]
def eE[Jx](ha:WDE X a ta)(hb:WDE X b tb):WDE X (.BinOp a .FloorDiv b pos) (dOp rF ta tb):=#[cy zv zy ha.out hb.out]
end
end My
end
section
namespace My
open PySem PySem.Spec PyProof.Rows L2
variable{x y:Int}
def ab24(h:x.natAbs<=12)(h':y.natAbs<=12):(x+y).natAbs<=24:=Dy (E9 x y) (Fb h h')
def sq0(a:Int):0<=a*a:=(Int.le_total 0 a).elim (λq=>EI q q) (λq=>FF q q)
variable{w:Int}
def u64(h:w=1\/w=-1\/w=0):-(2^64)<w/\w<2^64:=HN
variable{k:Nat}
def n64(h:w.natAbs<=k)(hk:autoParam (k<=1073741823) zA1):-(2^64)<w/\w<2^64:=HN
variable{a b:Int}
def i64(h:a<=w)(h':w<=b)(ha:autoParam ( -1000000000001<=a) zA1)(hb:autoParam (b<=1000000000001) zA1):-(2^64)<w/\w<2^64:=HN
def zA{X Y Z A B r:Nat}(h1:X<=Y)(h2:X=Z+2*B)(h3:1*A<=Z)(h5:Y<=A+r)(h6:r<B):False:=Ia
def fdm(a b:Int)(hb:b≠0):(a-a.fdiv b*b).natAbs<b.natAbs/\(a.fdiv b).natAbs<=a.natAbs+1:=by
 have e:=Gm a b;have e2:a-a.fdiv b*b=a.fmod b:=by rw[e,Ev]
 rw[e2];have r:(a.fmod b).natAbs<b.natAbs:=by
  rcases(HN:0<b\/b<0)with h|h
  .have h1:=Fc a h;have h2:=Gn a h;lia
  .have h1:=Fc (-a) (show 0< -b by lia);have h2:=Gn (-a) (show 0< -b by lia);rw[Go]at h1 h2;lia
 refine#[r,?_];have e3:(b*a.fdiv b).natAbs=b.natAbs*(a.fdiv b).natAbs:=Eg _ _;have e4:=Int.mul_fdiv_self a b;rcases ER (a.natAbs+1) (a.fdiv b).natAbs with c|c
 .have h1:b.natAbs*(a.natAbs+2)<=b.natAbs*(a.fdiv b).natAbs:=Gf _ c;have h2:b.natAbs*(a.natAbs+2)=b.natAbs*a.natAbs+2*b.natAbs:=by rw[Nat.mul_add,Fv _ 2]
  have h3:1*a.natAbs<=b.natAbs*a.natAbs:=Nat.mul_le_mul_right _ HN;have h5:(b*a.fdiv b).natAbs<=a.natAbs+(a.fmod b).natAbs:=by rw[e4];exact Gp a _
  rw[e3]at h5;exact(zA h1 h2 h3 h5 r).elim
 .exact c
def Uni(a b c d p0 p1 q0 q1:Int):Prop:=∃m n k l:Int,(m*l-n*k=1\/m*l-n*k=-1)/\p0=m*a+n*c/\p1=m*b+n*d/\q0=k*a+l*c/\q1=k*b+l*d
def Uni.refl(a b c d:Int):Uni a b c d a b c d:=#[1,0,0,1,.inl G_,HN,HN,HN,HN]
variable{d p0 p1 q0 q1:Int}
def Uni.step{c:Int}(t:Int)(h:Uni a b c d p0 p1 q0 q1):Uni a b c d q0 q1 (p0-t*q0) (p1-t*q1):=by
 obtain⟨m,n,k,l,hd,rfl,rfl,rfl,rfl⟩:=h;refine#[k,l,m-t*k,n-t*l,?_,rfl,rfl,KK,KK];rcases hd with h|h
 .right;grind
 .left;grind
def Uni.neg{c:Int}(h:Uni a b c d p0 p1 q0 q1):Uni a b c d (-p0) (-p1) q0 q1:=by
 obtain⟨m,n,k,l,hd,rfl,rfl,rfl,rfl⟩:=h;refine#[-m,-n,k,l,?_,KK,KK,rfl,rfl];rcases hd with h|h
 .right;grind
 .left;grind
def Uni.inv{c:Int}(h:Uni a b c d p0 p1 q0 q1):Uni p0 p1 q0 q1 a b c d:=by
 obtain⟨m,n,k,l,hd,rfl,rfl,rfl,rfl⟩:=h;rcases hd with h|h
 .exact#[l,-n,-k,m,.inl KK,KK,KK,KK,KK]
 .exact#[-l,n,k,-m,.inr KK,KK,KK,KK,KK]
def Uni.det{c:Int}(h:Uni a b c d p0 p1 q0 q1):p0*q1-p1*q0=a*d-b*c\/p0*q1-p1*q0=-(a*d-b*c):=by
 obtain⟨m,n,k,l,hd,rfl,rfl,rfl,rfl⟩:=h;rcases hd with h|h
 .left;grind
 .right;grind
def Lev(a b c d p0 p1 q0:Int):Prop:=0<=p1/\Uni a b c d p0 p1 q0 0
def FamOf(a b c d w h s:Int):Prop:=0<w/\0<h/\0<=s/\s<w/\Uni a b c d w 0 s h
def zB(x:Int):(if x<0 then -x else x)=x\/(if x<0 then -x else x)=-x:=by
 split<;>simp
def zC(h:x≠0):0<(if x<0 then -x else x):=by split<;>lia
def fN{c:Int}(hn:¬a*d=b*c)(h:Lev a b c d p0 p1 q0):FamOf a b c d (if q0<0 then -q0 else q0) p1 (p0%(if q0<0 then -q0 else q0)):=by
 obtain⟨hp,hu⟩:=h;have dt:=hu.det;have Oh:q0≠0:=by
  rintro rfl;simp at dt;lia
 have O9:p1≠0:=by
  rintro rfl;simp at dt;lia
 have hw:=zC Oh;have hs:=zB q0;generalize (if q0<0 then -q0 else q0)=w at hw hs;refine#[hw,HN,FG _ HN,FH _ hw,?_];have em:=ET p0 w;generalize p0%w=s at em;generalize p0/w=t at em;obtain⟨m,n,k,l,hd,e1,e2,e3,e4⟩:=hu;rcases hs with e|e
 .refine#[k,l,m-t*k,n-t*l,?_,KK,KK,KK,KK];rcases hd with h|h
  .right;grind
  .left;grind
 .refine#[-k,-l,m+t*k,n+t*l,?_,KK,KK,KK,KK];rcases hd with h|h
  .left;grind
  .right;grind
variable{h s i j:Int}
def in_fam(hh:0<h)(ex:x=i*w+j*s)(ey:y=j*h):y%h=0/\(x-y/h*s)%w=0:=by
 subst ex ey;rw[D8 _ HN];refine#[Gq _ _,?_];have e:i*w+j*s-j*s=i*w:=HN
 rw[e];exact Gq _ _
variable{u:Int}
def zD{c v:Int}(eu:u=i*a+j*c)(ev:v=i*b+j*d):(u*d-v*c).fmod (a*d-b*c)=0/\(a*v-b*u).fmod (a*d-b*c)=0:=by
 subst eu ev;refine#[Gr #[i,KK],Gr #[j,KK]]
def FamOf.cells{c:Int}(f:FamOf a b c d w h s):w*h=a*d-b*c\/w*h=-(a*d-b*c):=by
 have:=f.2.2.2.2.det;simpa using this
def cz{A B:Nat}(h1:a.natAbs<=A)(h2:d.natAbs<=B):(a*d).natAbs<=A*B:=by
 rw[Eg];exact EU h1 h2
def cS(hw:0<w)(hh:0<h):w<=w*h/\h<=w*h:=by
 have h1:=Fd (show 1<=h by lia) (show 0<=w by lia);have h2:=D5 (show 1<=w by lia) (show 0<=h by lia);lia
def FamOf.bd{c:Int}(f:FamOf a b c d w h s){N:Nat}(hN:(a*d-b*c).natAbs<=N):w<=N/\h<=N/\s<N:=by
 obtain⟨h1,h2⟩:=cS f.1 f.2.1;have h3:w*h<=N:=by
  rcases f.cells with e|e<;>rw[e]
  .exact EV Gs (Gu.mpr hN)
  .exact EV Gs (Gu.mpr (by rw[Fe];exact hN))
 exact#[EV h1 h3,EV h2 h3,Int.lt_of_lt_of_le f.2.2.2.1 (EV h1 h3)]
variable{m n:Nat}
def Bt.mono(h:Bt m x)(k:m<=n):Bt n x:=DP h (Eh G_ k)
def Bt.mul(h:Bt m x)(k:Bt n y):Bt (m+n) (x*y):=by
 unfold Bt at*;rw[Eg,Ff];exact Nat.mul_lt_mul_of_lt_of_le h (EK k) (Ei G_)
def Bt.add(h:Bt m x)(k:Bt m y):Bt (m+1) (x+y):=by
 unfold Bt at*;have:=E9 x y;rw[D2];omega
def Bt.neg(h:Bt m x):Bt m (-x):=by unfold Bt at*;rw[Fe];exact h
def Bt.sub(h:Bt m x)(k:Bt m y):Bt (m+1) (x-y):=by rw[Int.sub_eq_add_neg];exact h.add k.neg
def Bt.le(h:Bt n x)(k:y.natAbs<=x.natAbs):Bt n y:=E4 k h
variable{g:Int}
def Bt.div(h:Bt m x):Bt m (x/g):=h.le (Int.natAbs_ediv_le_natAbs x g)
def Bt.one(h:x.natAbs<=1)(hn:0<n):Bt n x:=E4 h (Nat.one_lt_two_pow (Ec hn))
structure Cof(n:Nat)(f0 f1 s0 s1:Int):Prop where
 b1:Bt n f1
 b2:Bt n s1
 ne:f1≠0
 a:Bt n f0
 det:Bt n (f0*s1-s0*f1)
 pat:s0=0\/((0<=f0/\s0<=0\/f0<=0/\0<=s0)/\(0<=f1/\0<=s1\/f1<=0/\s1<=0))
variable{f1 s1:Int}
def Cof.s0{f0 s0:Int}(h:Cof n f0 f1 s0 s1):Bt n s0:=by
 refine h.det.le ?_;have k:s0.natAbs<=(s0*f1).natAbs:=by
  rw[Eg];exact Nat.le_mul_of_pos_right _ (Int.natAbs_pos.mpr h.ne)
 refine Dy k ?_;rcases h.pat with e|⟨p|p,q|q⟩
 .rw[e];simp
 .have a1:=EI p.1 q.2;have a2:=El p.2 q.1;omega
 .have a1:=FI p.1 q.2;have a2:=FF p.2 q.1;omega
 .have a1:=El p.1 q.2;have a2:=EI p.2 q.1;omega
 .have a1:=FF p.1 q.2;have a2:=FI p.2 q.1;omega
def Cof.step{f0 s0:Int}(h:Cof n f0 f1 s0 s1)(hs:s1≠0):Cof n s0 s1 (f0-f1.fdiv s1*s0) (f1-f1.fdiv s1*s1):=by
 have lt:=(fdm f1 s1 hs).1;have em:=Gm f1 s1;have sg:(0<s1->0<=f1-f1.fdiv s1*s1)/\(s1<0->f1-f1.fdiv s1*s1<=0):=by
  rw[Ev,<-em];exact⟨λz=>Fc f1 z,λz=>by
   have:=Fc (-f1) (show 0< -s1 by omega);rw[Go]at this;omega⟩
 refine#[h.b2,h.b2.le Ia,hs,h.s0,?_,?_]
 .have e:s0*(f1-f1.fdiv s1*s1)-(f0-f1.fdiv s1*s0)*s1=-(f0*s1-s0*f1):=by grind
  rw[e];exact h.det.neg
 .right;have q':0<=s1/\0<=f1-f1.fdiv s1*s1\/s1<=0/\f1-f1.fdiv s1*s1<=0:=by omega
  refine#[?_,q'];rcases h.pat with e|⟨p,q⟩
  .rw[e,Int.mul_zero,FJ];omega
  .have t0:0<=f1.fdiv s1:=by
    rcases q with q|q
    .exact Gv q.1 q.2
    .rw[<-Int.neg_fdiv_neg];exact Gv Ia Ia
   rcases p with p|p
   .have:=FI t0 p.2;omega
   .have:=EI t0 p.2;omega
def Bt.t(h:Bt n f1)(hs:s1≠0):Bt (n+1) (f1.fdiv s1):=by
 have:=(fdm f1 s1 hs).2;unfold Bt at*;rw[D2];have:=Ei (n:=n) (show 0<2 by decide);omega
def Meas(x y g u:Int):Prop:=0<=g/\(∃i,x=i*g)/\(∃j,y=j*g)/\∃n,g=u*x+n*y
def rG{q:Int}(h:0<=g/\∃m n k l:Int,(m*l-n*k=1\/m*l-n*k=-1)/\u=m*1+n*0/\g=m*x+n*y/\q=k*1+l*0/\0=k*x+l*y):Meas x y g u:=by
 obtain⟨h0,m,n,k,l,hd,e1,e2,e3,e4⟩:=h;refine#[h0,?_,?_,n,KK]
 .rcases hd with h|h
  .exact#[l,KK]
  .exact#[-l,KK]
 .rcases hd with h|h
  .exact#[-k,KK]
  .exact#[k,KK]
def Meas.pos(h:Meas x y g u)(hx:0<x):0<g:=by
 obtain⟨h0,⟨i,hi⟩,_⟩:=h;rcases(HN:g=0\/0<g)with e|e
 .subst e;simp at hi;lia
 .exact e
def Meas.le(h:Meas x y g u)(hx:0<x):g<=x:=by
 have hg:=h.pos hx;obtain⟨h0,⟨i,hi⟩,_⟩:=h;have O_:0<i:=by
  rcases(HN:i<=0\/0<i)with e|e
  .have:=El e h0;lia
  .exact e
 have:=D5 (show 1<=i by lia) h0;lia
structure MetR(w1 h1 s1 w2 h2 s2 w h s A:Int):Prop where
 w0:0<w
 h0:0<h
 s0:0<=s
 sw:s<w
 in1:∃i,w=i*w1
 in2:∃i,w=i*w2
 up1:∃i j,s=i*w1+j*s1/\h=j*h1
 up2:∃i j,s=i*w2+j*s2/\h=j*h2
 A0:0<A
 cells:w*h*A=w1*h1*w2*h2
 d11:A∣w1*h1
 d12:A∣w1*h2
 d21:A∣w2*h1
 d22:A∣w2*h2
 ds:A∣s1*h2-h1*s2
 all:∀x y:Int,(∃i j,x=i*w1+j*s1/\y=j*h1)->(∃i j,x=i*w2+j*s2/\y=j*h2)->∃i j,x=i*w+j*s/\y=j*h
 comb:∀G:Int,G∣w1*h1->G∣w1*h2->G∣w2*h1->G∣w2*h2->G∣s1*h2-h1*s2->G∣A
def dF(h:0<x*y)(hy:0<y):0<x:=by
 rcases(HN:x<=0\/0<x)with e|e
 .have:=El e (show 0<=y by lia);lia
 .exact e
def jF{c:Int}(ha:0<a)(h:a*b=a*c):b=c:=FK HN h
def r1(k j c:Int):k*(j*c)=j*(c*k):=KK
def r2(j u c n d:Int):j*(u*c+n*d)=u*(j*c)+n*d*j:=KK
def r3(u j d n j1:Int):u*(j*d)+n*d*j1=d*(u*j+n*j1):=KK
def r4(j u c n d:Int):j*(u*c+n*d)=u*c*j+n*(j*d):=KK
def r5(u c j n j1:Int):u*c*j+n*(j1*c)=c*(u*j+n*j1):=KK
def r6(g e i1 a i2 b d T s1 c s2:Int)(q:i1*(a*(e*g))+d*T*s1=i2*(b*(e*g))+c*T*s2):g*(e*(i1*a-i2*b))=T*(c*s2-d*s1):=KK
def r7(g T f:Int):g*(T*f)=T*(f*g):=KK
def r8(T v e q f:Int):T*(v*e+q*f)=v*T*e+q*(T*f):=KK
def r9(v T e q m:Int):v*T*e+q*(e*m)=e*(v*T+q*m):=KK
def r10(e r f:Int):e*r*f=e*(r*f):=KK
def r11(i u a n b:Int):i*(u*a+n*b)=u*(i*a)+n*b*i:=KK
def r12(u r f i2 b n i1:Int):u*(r*f+i2*b)+n*b*i1=u*(r*f)+b*(u*i2+n*i1):=KK
def r13(u r f b M a e g d s1 t:Int):(u*(r*f)+b*M)*(a*(e*g))+d*(e*r)*s1=(M+r*t)*(a*b*(e*g))+r*(e*(d*s1)+f*u*(a*(e*g))-a*b*(e*g)*t):=KK
def r14(d e r c k:Int):d*(e*r)*(c*k)=r*(c*d*k*e):=KK
variable{f gg u' s2:Int}
def zE{c e k n n' v q t i1 j1 i2 j2:Int}(hk:0<k)(G3:0<gg)(he:0<e)
  (t5:u*a+n*b=1) (p7:u'*c+n'*d=1) (Iu:c*s2-d*s1=f*gg) (t6:v*e+q*f=1)
  (hs:s=e*(d*s1)+f*u*(a*(e*gg))-a*b*(e*gg)*t) (x1:x=i1*(a*(e*gg))+j1*s1) (y1:y=j1*(c*k)) (x2:x=i2*(b*(e*gg))+j2*s2) (y2:y=j2*(d*k)):
  ∃i j,x=i*(a*b*(e*gg))+j*s/\y=j*(c*d*k*e):=by
 have h1:j1*c=j2*d:=jF hk (by rw[r1 k j1 c,r1 k j2 d,<-y1,<-y2]);have Jy:j1=d*(u'*j2+n'*j1):=by
  have p:=r2 j1 u' c n' d;rw[p7,h1,r3]at p;lia
 have Mw:j2=c*(u'*j2+n'*j1):=by
  have p:=r4 j2 u' c n' d;rw[p7,<-h1,r5]at p;lia
 generalize u'*j2+n'*j1=T at Jy Mw;have q1:i1*(a*(e*gg))+d*T*s1=i2*(b*(e*gg))+c*T*s2:=by rw[<-Jy,<-Mw,<-x1,<-x2]
 have h2:e*(i1*a-i2*b)=T*f:=jF G3 (by rw[r6 gg e i1 a i2 b d T s1 c s2 q1,r7,Iu]);have eT:T=e*(v*T+q*(i1*a-i2*b)):=by
  have p:=r8 T v e q f;rw[t6,<-h2,r9]at p;lia
 generalize hr:v*T+q*(i1*a-i2*b)=r at eT;have h3:i1*a-i2*b=r*f:=jF he (by rw[h2,eT,r10]);have h4:i1=u*(r*f)+b*(u*i2+n*i1):=by
  have p:=r11 i1 u a n b;have q3:i1*a=r*f+i2*b:=HN
  rw[t5,q3,r12]at p;lia
 generalize u*i2+n*i1=M at h4;refine#[M+r*t,r,?_,?_]
 .rw[hs,x1,Jy,eT,<-r13,<-h4]
 .rw[y1,Jy,eT,r14]
def zF{c e k n n' v q t:Int}(ha:0<a)(hb:0<b)(hc:0<c)(hd:0<d)(he:0<e)(hk:0<k)(G3:0<gg)
  (t5:u*a+n*b=1) (p7:u'*c+n'*d=1) (Iu:c*s2-d*s1=f*gg) (t6:v*e+q*f=1)
  (hs:s=e*(d*s1)+f*u*(a*(e*gg))-a*b*(e*gg)*t) (m1:0<=s) (m2:s<a*b*(e*gg)):
  MetR (a*(e*gg)) (c*k) s1 (b*(e*gg)) (d*k) s2 (a*b*(e*gg)) (c*d*k*e) s (k*gg):=by
 have hg:0<e*gg:=DM he G3;have hW:0<a*b*(e*gg):=DM (DM ha hb) hg;have KP:d*s1=c*s2-f*gg:=HN
 have ua:u*a=1-n*b:=HN
 refine#[hW,DM (DM (DM hc hd) hk) he,m1,m2,#[b,?_],#[a,?_],#[f*u-t*b,d*e,?_,?_],#[-(f*n)-t*a,c*e,?_,?_],DM hk G3,?_,#[a*e*c,?_],#[a*e*d,?_],#[b*e*c,?_],#[b*e*d,?_],#[-f,?_],?_,?_]
 .grind
 .grind
 .grind
 .grind
 .rw[hs,KP];have x2:f*u*(a*(e*gg))=f*(u*a)*(e*gg):=by grind
  rw[x2,ua];grind
 .grind
 .grind
 .grind
 .grind
 .grind
 .grind
 .have:s1*(d*k)-c*k*s2=-(k*(c*s2-d*s1)):=by grind
  rw[this,Iu];grind
 .rintro x y⟨i1,j1,x1,z1⟩ ⟨i2,j2,x2,z2⟩;exact zE hk G3 he t5 p7 Iu t6 hs x1 z1 x2 z2
 .rintro G⟨y1,z1⟩ ⟨y2,z2⟩ ⟨y3,z3⟩ ⟨y4,z4⟩ ⟨y5,z5⟩;refine#[v*(u'*u*y1+n'*u*y2+u'*n*y3+n'*n*y4)-q*y5,?_];have k1:k*(e*gg)=G*(u'*u*y1+n'*u*y2+u'*n*y3+n'*n*y4):=by
   have p1:k*(e*gg)=(u'*c+n'*d)*(u*a+n*b)*(k*(e*gg)):=by rw[t5,p7];grind
   have p2:(u'*c+n'*d)*(u*a+n*b)*(k*(e*gg))=u'*u*(a*(e*gg)*(c*k))+n'*u*(a*(e*gg)*(d*k))+u'*n*(b*(e*gg)*(c*k))+n'*n*(b*(e*gg)*(d*k)):=KK
   rw[p1,p2,z1,z2,z3,z4];grind
  have k2:k*(f*gg)=-(G*y5):=by
   rw[<-z5,<-Iu];grind
  have k3:k*gg=(v*e+q*f)*(k*gg):=by rw[t6];grind
  have k4:(v*e+q*f)*(k*gg)=v*(k*(e*gg))+q*(k*(f*gg)):=KK
  rw[k3,k4,k1,k2];grind
variable{w1 h1 w2 h2:Int}
def gQ{k t7:Int}(p8:0<w1)(u7:0<w2)(Mx:0<h1)(GR:0<h2)
  (M1:Meas w1 w2 g u) (M2:Meas h1 h2 k u')
  (M3:Meas g (h1*h2/k/h2*s2-h1*h2/k/h1*s1) gg t7):
  MetR w1 h1 s1 w2 h2 s2 (w1*w2/g) (h1*h2/k*(g/gg)) ((g/gg*(h1*h2/k/h1*s1)+g/gg*(h1*h2/k/h2*s2-h1*h2/k/h1*s1)/g*u*w1)%(w1*w2/g)) (k*gg):=by
 have hg:=M1.pos p8;have hk:=M2.pos Mx;have G3:=M3.pos hg;obtain⟨_,⟨a,ea⟩,⟨b,eb⟩,n,en⟩:=M1;obtain⟨_,⟨c,ec⟩,⟨d,ed⟩,n',Pa⟩:=M2;have ha:0<a:=dF (ea ▸ p8) hg;have hb:0<b:=dF (eb ▸ u7) hg;have hc:0<c:=dF (ec ▸ Mx) hk;have hd:0<d:=dF (ed ▸ GR) hk;have t5:u*a+n*b=1:=by
  have p:(u*a+n*b)*g=1*g:=by
   have:(u*a+n*b)*g=u*(a*g)+n*(b*g):=by grind
   rw[this,<-ea,<-eb];lia
  exact EJ HN p
 have p7:u'*c+n'*d=1:=by
  have p:(u'*c+n'*d)*k=1*k:=by
   have:(u'*c+n'*d)*k=u'*(c*k)+n'*(d*k):=by grind
   rw[this,<-ec,<-ed];lia
  exact EJ HN p
 have eW:w1*w2/g=a*b*g:=by
  have:w1*w2=(a*b*g)*g:=by rw[ea,eb];grind
  rw[this];exact D8 _ HN
 have eR:h1*h2/k=c*d*k:=by
  have:h1*h2=(c*d*k)*k:=by rw[ec,ed];grind
  rw[this];exact D8 _ HN
 have Oi:h1*h2/k/h1=d:=by
  rw[eR];have:c*d*k=d*h1:=by rw[ec];grind
  rw[this];exact D8 _ HN
 have Oj:h1*h2/k/h2=c:=by
  rw[eR];have:c*d*k=c*h2:=by rw[ed];grind
  rw[this];exact D8 _ HN
 rw[Oi,Oj]at M3 ⊢;obtain⟨_,⟨e,ee⟩,⟨f,ef⟩,q,eq⟩:=M3;have he:0<e:=dF (ee ▸ hg) G3;have t6:t7*e+q*f=1:=by
  have p:(t7*e+q*f)*gg=1*gg:=by
   have:(t7*e+q*f)*gg=t7*(e*gg)+q*(f*gg):=by grind
   rw[this,<-ee,<-ef];lia
  exact EJ HN p
 have eC:g/gg=e:=by rw[ee];exact D8 _ HN
 have eS:e*(c*s2-d*s1)/g=f:=by
  have:e*(c*s2-d*s1)=f*g:=by rw[ef,ee];grind
  rw[this];exact D8 _ HN
 rw[eC,eS,eW,eR];have hW:0<a*b*g:=DM (DM ha hb) hg;have em:=ET (e*(d*s1)+f*u*w1) (a*b*g);have m1:=FG (e*(d*s1)+f*u*w1) (show a*b*g≠0 by lia);have m2:=FH (e*(d*s1)+f*u*w1) hW;generalize (e*(d*s1)+f*u*w1)%(a*b*g)=s at em m1 m2 ⊢;generalize (e*(d*s1)+f*u*w1)/(a*b*g)=t at em;subst ea eb ec ed;subst ee;exact zF ha hb hc hd he hk G3 t5 p7 ef t6 em m1 m2
def rH(hx:0<x)(hy:0<y)(M:Meas x y g u):0<x*y/g/\x*y/g<=x*y/\x*y/g/x*1<=y/\0<=x*y/g/x/\x*y/g/y<=x/\0<=x*y/g/y:=by
 have hg:=M.pos hx;obtain⟨_,⟨a,ea⟩,⟨b,eb⟩,_⟩:=M;have ha:0<a:=dF (ea ▸ hx) hg;have hb:0<b:=dF (eb ▸ hy) hg;have e1:x*y/g=a*b*g:=by
  have:x*y=(a*b*g)*g:=by rw[ea,eb];grind
  rw[this];exact D8 _ HN
 have e2:a*b*g/x=b:=by
  have:a*b*g=b*x:=by rw[ea];grind
  rw[this];exact D8 _ HN
 have e3:a*b*g/y=a:=by
  have:a*b*g=a*y:=by rw[eb];grind
  rw[this];exact D8 _ HN
 have p1:0<a*b*g:=DM (DM ha hb) hg;have q1:=(cS (w:=b) (h:=g) hb hg).1;have q2:=(cS (w:=a) (h:=g) ha hg).1;have q3:x*y=a*b*g*g:=by rw[ea,eb];grind
 have q4:=(cS (w:=a*b*g) (h:=g) p1 hg).1;rw[e1,e2,e3];lia
def cell(ns:List Int)(k:Int):Int:=ns.getD k.toNat 0
variable{ns:List Int}
def rJ{k:Int}(h0:0<=k)(h1:k<(ns.length:Int)):atI (ns.map D.int) k=u5 (.int (cell ns k)):=by
 obtain⟨j,rfl⟩:∃j:Nat,k=(j:Int):=#[k.toNat,HN];have hk:j<ns.length:=HN
 refine dh ?_;rw[D4,DV hk];simp[cell,Ey,DV hk]
def zG{k:Int}(h1:(ns.length:Int)<=k):cell ns k=0:=by
 have hk:ns.length<=k.toNat:=HN
 simp[cell,Ey,EQ hk]
def cb(h:0<b):0<=a%b:=FG a HN
def ce(h:0<b):a%b<b:=FH a h
def zH:SpD:=λds R=>∃(ns:List Int) (k:Int),ds=[.rol (ns.map D.int),.int k]/\0<=k/\R (.int (cell ns k))
def zI:SpD:=λds R=>∃i:Int,ds=[.int i]/\R (.bl true)
def zJ:SpD:=λds R=>∃w h s x y:Int,ds=[.tup [.int w,.int h,.int s],.int x,.int y]/\0<w/\0<h/\h<1073741824/\0<=s/\s<1073741824/\
 R (.bl (decide (y%h=0/\(x-y/h*s)%w=0)))
def zK:SpD:=λds R=>∃a b c d u v:Int,ds=[.tup [.int a,.int b],.tup [.int c,.int d],.int u,.int v]/\a.natAbs<1073741824/\b.natAbs<1073741824/\c.natAbs<1073741824/\d.natAbs<1073741824/\
 ¬a*d=b*c/\R (.bl (decide ((u*d-v*c).fmod (a*d-b*c)=0/\(a*v-b*u).fmod (a*d-b*c)=0)))
def zL:SpD:=λds R=>∃x y:Int,ds=[.int x,.int y]/\∀g:Int,0<=g->g∣x->g∣y->(∀e,e∣x->e∣y->e∣g)->R (.int g)
def rK{e:Int}:e∣(if x<0 then -x else x)↔e∣x:=by
 split
 .exact Int.dvd_neg
 .exact Iff.rfl
def rL{e:Int}(hb:e∣b):e∣a%b↔e∣a:=by
 have e1:=ET a b;rw[e1];constructor
 .intro h;have:=FL h (Gw (c:=a/b) hb);simpa using this
 .intro h;exact Int.dvd_sub h (Gw hb)
def zM:SpD:=λds R=>∃w h s x y:Int,ds=[.tup [.int w,.int h,.int s],.int x,.int y]/\0<w/\0<h/\h<1073741824/\0<=s/\s<1073741824/\
 R (.tup [.int ((x-y/h*s)%w),.int (y%h)])
def zN:SpD:=λds R=>∃(a b c d:Int) (n:Nat),ds=[.tup [.int a,.int b],.tup [.int c,.int d]]/\n<=2000/\((b.natAbs<4611686018427387904/\d.natAbs<4611686018427387904)\/Cof n a b c d)/\
 ∀p0 p1 q0,Lev a b c d p0 p1 q0->(Cof n a b c d->Bt n p0)->R (.tup [.tup [.int p0,.int p1],.tup [.int q0,.int 0]])
def fO(h:x.natAbs<4611686018427387904):Bt 4000 x:=Bt.mono (m:=62) h G_
def zO:SpD:=λds R=>∃(a b c d:Int) (n:Nat),ds=[.tup [.int a,.int b],.tup [.int c,.int d]]/\n<=2000/\((a.natAbs<4611686018427387904/\b.natAbs<4611686018427387904/\c.natAbs<4611686018427387904/\d.natAbs<4611686018427387904)\/Cof n a b c d)/\
 (a*d=b*c->R .non)/\(¬a*d=b*c->∀w h s,FamOf a b c d w h s->R (.tup [.int w,.int h,.int s]))
def zP:SpD:=λds R=>∃w h s:Int,ds=[.tup [.int w,.int h,.int s]]/\0<w/\R (.tup [.int w,.int h,.int (-s%w)])
def zQ:SpD:=λds R=>∃w h s:Int,ds=[.tup [.int w,.int h,.int s]]/\0<w/\0<h/\0<=s/\s<w/\Bt 600 w/\Bt 600 h/\
 ∀w' h' s',FamOf 0 w (-h) s w' h' s'->R (.tup [.int w',.int h',.int s'])
def zR:SpD:=λds R=>∃(x y:Int) (n:Nat),ds=[.int x,.int y]/\0<x/\0<n/\n<=2000/\Bt n x/\Bt n y/\∀g u,Meas x y g u->Bt n u->R (.tup [.int g,.int u])
def zS:SpD:=λds R=>∃w1 h1 s1 w2 h2 s2:Int,ds=[.tup [.int w1,.int h1,.int s1],.tup [.int w2,.int h2,.int s2]]/\(0<w1/\0<h1/\0<=s1/\s1<w1/\Bt 140 w1/\Bt 140 h1)/\(0<w2/\0<h2/\0<=s2/\s2<w2/\Bt 140 w2/\Bt 140 h2)/\
 ∀w h s A,MetR w1 h1 s1 w2 h2 s2 w h s A->R (.tup [.int w,.int h,.int s])
def Drawn(xs:List Int):Prop:=∀x∈xs,0<=x/\x<5040
variable{xs:List Int}
def Drawn.at(h:Drawn xs)(k:Int):0<=cell xs k/\cell xs k<5040:=by
 by_cases hk:k.toNat<xs.length
 .have:cell xs k=xs[k.toNat]:=by simp[cell,Ey,DV hk]
  rw[this];exact h _ (Eu hk)
 .have:cell xs k=0:=by simp[cell,Ey,EQ (Fw hk)]
  lia
def cA{k:Int}(h0:0<=k)(h:k.toNat<xs.length):atI (xs.map D.int) k=u5 (.int (cell xs k)):=rJ h0 HN
def rM{v:Int}:xs.map D.int++[D.int v]=(xs++[v]).map D.int:=HV
def rN{v:Int}(h:Drawn xs)(h1:0<=v)(h2:v<5040):Drawn (xs++[v]):=by
 intro x hx;rcases D3.mp hx with q|q
 .exact h x q
 .rw[Ds.mp q];exact#[h1,h2]
def zT:SpD:=λds R=>∃(ns:List Int) (k:Int) (n:Nat),ds=[.rol (ns.map D.int),.int k,.int n]/\0<=k/\n<=100/\∀xs:List Int,xs.length=n->Drawn xs->R (.lst (xs.map D.int))
def zU:SpD:=λds R=>∃xs:List Int,ds=[.lst (xs.map D.int)]/\8<=xs.length/\Drawn xs/\
 ∀a b c d:Int,(-12<=a/\a<=12)->(-12<=b/\b<=12)->(-12<=c/\c<=12)->(-12<=d/\d<=12)->¬a*d=b*c->R (.lst [.tup [.int a,.int b],.tup [.int c,.int d]])
abbrev cs(x:G8):List Nat:=x.cps.toList
def bG(x:G8):(cs x).length=x.length:=by simp[Str.length]
def zV:cs ""=[]:=rfl
def cw(x y:G8):cs (x++y)=cs x++cs y:=by
 show((x++y:G8)).cps.toList=_;rw[show(x++y:G8).cps=x.cps++y.cps from rfl,Array.toList_append]
def aq(x y:G8):(x++y).length=x.length+y.length:=by rw[<-bG,cw,DB,bG,bG]
def aK(c:Nat):Prop:=c=46\/(49<=c/\c<=54)
def gR:∀(L:List G8),cR (L.map D.str)=u5 L
 |[]=>rfl
 |x::L=>by simp[cR,gR L]
def eF(x:G8):Prop:=0<x.length/\x.length<=7/\∀c∈cs x,aK c
def zW{x:G8}(h:eF x)(v:Int):∃c,(x.length<=1000000/\atI (cs x) (v%(x.length:Int))=u5 c)/\aK c:=by
 have h1:=cb (a:=v) (show 0<(x.length:Int)by have:=h.1;lia);have h2:=ce (a:=v) (show 0<(x.length:Int)by have:=h.1;lia);obtain⟨j,ej⟩:∃j:Nat,v%(x.length:Int)=(j:Int):=#[(v%(x.length:Int)).toNat,HN];have hj:j<(cs x).length:=by rw[bG];lia
 refine#[(cs x)[j],#[by have:=h.2.1;lia,?_],h.2.2 _ (Eu hj)];rw[ej];exact dh (DV hj)
def zX:eF "1.23456":=#[Hd,Hd,by unfold aK;decide+kernel]
def zY:eF "12":=#[Hd,Hd,by unfold aK;decide+kernel]
def zZ:eF "1.":=#[Hd,Hd,by unfold aK;decide+kernel]
def Aa:eF "...2":=#[Hd,Hd,by unfold aK;decide+kernel]
def Ab(k:Int):∃x,atI [D.str "1.23456",D.str "12",D.str "1.",D.str "...2"] (k%4)=u5 (.str x)/\eF x:=by
 rcases(HN:k%4=0\/k%4=1\/k%4=2\/k%4=3)with e|e|e|e<;>rw[e]
 .exact#[_,rfl,zX]
 .exact#[_,rfl,zY]
 .exact#[_,rfl,zZ]
 .exact#[_,rfl,Aa]
def Ac(k:Int):∃m,atI [D.int 1,D.int 70] (k%2)=u5 (.int m)/\(m=1\/m=70):=by
 rcases(HN:k%2=0\/k%2=1)with e|e<;>rw[e]
 .exact#[1,rfl,.inl rfl]
 .exact#[70,rfl,.inr rfl]
structure Rows(L:List Str):Prop where
 many:1<=L.length/\L.length<=8
 wide:∃w,(1<=w/\w<=8)/\∀l∈L,l.length=w/\∀c∈cs l,aK c
variable{L:List G8}
def Rows.of{w t:Nat}(h1:1<=t)(h2:t<=8)(hl:L.length=t)(w1:1<=w)(w2:w<=8)(h:∀l∈L,l.length=w/\∀c∈cs l,aK c):Rows L:=#[HN,w,#[w1,w2],h]
variable{c:Nat}
def Ad{x:G8}{i:Nat}(h1:x.length=i)(h2:∀c∈cs x,aK c)(hc:aK c):(x++#[[c].toArray]:G8).length=i+1/\∀c'∈cs (x++#[[c].toArray]),aK c':=by
 refine#[by rw[aq,h1];rfl,λc' q=>?_];rw[cw]at q;rcases D3.mp q with q|q
 .exact h2 _ q
 .have:c'=c:=by simpa[cs]using q
  rw[this];exact hc
def Ae{x:G8}:L.map D.str++[D.str x]=(L++[x]).map D.str:=HV
def cJ(L:List G8)(a b c d:Int):Str:=("["++Txt.join "/" L)++((((((((";":G8)++(toString a:String))++",")++(toString b:String))++";")++(toString c:String))++",")++(toString d:String))++"]"
def bD(h:-12<=a/\a<=12):((toString a:String):G8).length<=3:=by
 have key:∀k:Fin 25,((toString (((k.val:Nat):Int)-12):String):G8).length<=3:=Hd
 have:=key #[(a+12).toNat,HN];have e:(((a+12).toNat:Nat):Int)-12=a:=HN
 rw[e]at this;exact this
def B12(a:Int):Prop:=-12<=a/\a<=12
def Af{w:Nat}(h:∀l∈L,l.length=w):(L.map (·.length)).sum=L.length*w:=by
 induction L with
 |nil=>simp
 |cons x L ih=>
  rw[DZ,Gx,ih (λl hl=>h l (Dx _ hl)),h x DC,Du,E3,Ft]
def rO(h:Rows L):(L.map (·.length)).sum+L.length*("/":G8).length<=72:=by
 obtain⟨h1,w,hw,h2⟩:=h;rw[Af (λl hl=>(h2 l hl).1)];have e:("/":G8).length=1:=rfl;rw[e];have:=EU h1.2 hw.2;lia
def Ag:SpD:=λds R=>∃xs:List Int,ds=[.lst (xs.map D.int)]/\40<=xs.length/\Drawn xs/\∀L:List G8,Rows L->R (.lst (L.map D.str))
def Ah:SpD:=λds R=>∃(L:List G8) (a b c d:Int),ds=[.lst (L.map D.str),.tup [.int a,.int b],.tup [.int c,.int d]]/\Rows L/\B12 a/\B12 b/\B12 c/\B12 d/\R (.str (cJ L a b c d))
structure Leaf where
 rows:List G8
 a:Int
 b:Int
 c:Int
 d:Int
 w0:Int
 w1:Int
 w2:Int
 w3:Int
 w4:Int
 w5:Int
 hues:List Int
def Leaf.D(l:Leaf):My.D:=.tup [.lst (l.rows.map D.str),.tup [.int l.a,.int l.b],.tup [.int l.c,.int l.d],.tup [.int l.w0,.int l.w1,.int l.w2,.int l.w3,.int l.w4,.int l.w5],.lst (l.hues.map D.int)]
def Ai:(#[[c].toArray]:G8)="."↔c=46:=by
 constructor
 .intro h;have:([c].toArray:Array Nat)=(".":G8).cps:=congrArg Str.cps h;have e:([c].toArray:Array Nat).toList=(".":G8).cps.toList:=by rw[this]
  have e2:(".":G8).cps.toList=[46]:=rfl;rw[e2]at e;simpa using e
 .rintro rfl;rfl
def digit_of(h:49<=c/\c<=54):PySem.intText? (#[[c].toArray]:G8)=u5 ((c:Int)-48):=by
 rcases(HN:c=49\/c=50\/c=51\/c=52\/c=53\/c=54)with e|e|e|e|e|e<;>subst e<;>decide+kernel
def range_int{n:Int}{x:D}(h:((D9 n.toNat).map λk=>D.int ((k:Nat):Int))[k]?=u5 x):k<n.toNat/\x=.int (k:Int):=by
 have hk:k<n.toNat:=by simpa using(DN.mp h).1
 refine#[hk,?_];simp[hk]at h;exact h.symm
def Aj{n:Int}:((D9 n.toNat).map λk=>D.int ((k:Nat):Int)).length=n.toNat:=HV
def bH(L:List G8)(a b c d:Int):Leaf:=#[L,a,b,c,d,1,0,0,1,0,0,[0,1,2,3,4,5,6]]
def Ak:SpD:=λds R=>∃(ns:List Int) (k:Int),ds=[.rol (ns.map D.int),.int k]/\0<=k/\
 ∀(L:List G8) (a b c d:Int),Rows L->B12 a->B12 b->B12 c->B12 d->¬a*d=b*c->R (.lst [.str (cJ L a b c d),.int 0,.lst [(bH L a b c d).D]])
inductive Pat where
 |mot (L:List Str) (a b c d:Int)
 |over (p q:Pat)
 |sh (a b:Int) (p:Pat)
 |mir (p:Pat)
 |tur (p:Pat)
 |hue (f g:Int) (p:Pat)
def Pat.text:Pat->G8
 |.mot L a b c d=>cJ L a b c d
 |.over p q=>(((("(":G8)++p.text)++"|")++q.text)++")"
 |.sh a b p=>((((("s":G8)++(toString a:String))++",")++(toString b:String))++":")++p.text
 |.mir p=>("m":G8)++p.text
 |.tur p=>("t":G8)++p.text
 |.hue f g p=>((("h":G8)++(toString f:String))++(toString g:String))++p.text
def Pat.depth:Pat->Nat
 |.mot ..=>0
 |.over p q=>1+max p.depth q.depth
 |.sh _ _ p=>p.depth+1
 |.mir p=>p.depth+1
 |.tur p=>p.depth+1
 |.hue _ _ p=>p.depth+1
def Leaf.by(l:Leaf)(b0 b1 b2 b3 b4 b5:Int):Leaf:=
 {l with w0:=l.w0*b0+l.w1*b2,w1:=l.w0*b1+l.w1*b3,w2:=l.w2*b0+l.w3*b2,w3:=l.w2*b1+l.w3*b3,w4:=l.w4+l.w0*b4+l.w1*b5,w5:=l.w5+l.w2*b4+l.w3*b5}
def eI(f g h:Int):Int:=if h=f then g else h
def Leaf.dye(l:Leaf)(f g:Int):Leaf:={l with hues:=l.hues.map (eI f g)}
def Pat.leaves:Pat->List Leaf
 |.mot L a b c d=>[bH L a b c d]
 |.over p q=>p.leaves++q.leaves
 |.sh a b p=>p.leaves.map (λl=>l.by 1 0 0 1 (-a) (-b))
 |.mir p=>p.leaves.map (λl=>l.by (-1) 0 0 1 0 0)
 |.tur p=>p.leaves.map (λl=>l.by 0 1 (-1) 0 0 0)
 |.hue f g p=>p.leaves.map (λl=>(l.by 1 0 0 1 0 0).dye f g)
def Pat.Wf:Pat->Prop
 |.mot L a b c d=>Rows L/\B12 a/\B12 b/\B12 c/\B12 d/\¬a*d=b*c
 |.over p q=>p.Wf/\q.Wf
 |.sh a b p=>B12 a/\B12 b/\p.Wf
 |.mir p=>p.Wf
 |.tur p=>p.Wf
 |.hue f g p=>(1<=f/\f<=6)/\(1<=g/\g<=6)/\p.Wf
structure Leaf.Near(l:Leaf)(n:Nat):Prop where
 u0:(l.w0.natAbs=1/\l.w1=0/\l.w2=0/\l.w3.natAbs=1)\/(l.w0=0/\l.w1.natAbs=1/\l.w2.natAbs=1/\l.w3=0)
 w4:l.w4.natAbs<=24*n
 w5:l.w5.natAbs<=24*n
def Leaf.Near.mono{l:Leaf}(h:l.Near n)(k:n<=m):l.Near m:=#[h.u0,by have:=h.w4;lia,by have:=h.w5;lia]
def Leaf.Near.unit{l:Leaf}(h:l.Near n):(l.w0=1\/l.w0=-1\/l.w0=0)/\(l.w1=1\/l.w1=-1\/l.w1=0)/\(l.w2=1\/l.w2=-1\/l.w2=0)/\(l.w3=1\/l.w3=-1\/l.w3=0):=by
 have k:∀{w:Int},w.natAbs=1->w=1\/w=-1\/w=0:=λ{w} e=>(Int.natAbs_eq w).imp (λz=>by rw[z,e];rfl) λz=>.inl (by rw[z,e];rfl);rcases h.u0 with⟨p,q,r,t⟩|⟨p,q,r,t⟩
 .exact#[k p,.inr (.inr q),.inr (.inr r),k t]
 .exact#[.inr (.inr p),k q,k r,.inr (.inr t)]
def rP(h:w=1\/w=-1\/w=0):w.natAbs<=1:=by rcases h with rfl|rfl|rfl<;>decide
def near_add{e v:Int}(h:e.natAbs<=24*n)(hw:w=1\/w=-1\/w=0)(hv:v=1\/v=-1\/v=0)(ha:B12 a)(hb:B12 b):(e+w* -a+v* -b).natAbs<=24*(n+1):=by
 have m:∀{w a:Int},(w=1\/w=-1\/w=0)->B12 a->(w* -a).natAbs<=12:=λ{w a} hw ha=>by
  rw[Eg,Fe];exact EU (rP hw) (show a.natAbs<=12 by unfold B12 at ha;clear hw;lia)
 rw[show 24*(n+1)=24*n+12+12 from rfl];exact Dy (E9 _ _) (Fb (Dy (E9 _ _) (Fb h (m hw ha))) (m hv hb))
def Al{l:Leaf}(h:l.Near n)(ha:B12 a)(hb:B12 b):(l.by 1 0 0 1 (-a) (-b)).Near (n+1):=by
 obtain⟨h0,h1,h2,h3⟩:=h.unit;exact#[by simpa[Leaf.by]using h.u0,near_add h.w4 h0 h1 ha hb,near_add h.w5 h2 h3 ha hb]
def Am{l:Leaf}(h:l.Near n):(l.by (-1) 0 0 1 0 0).Near (n+1):=by
 have p:=h.w4;have q:=h.w5;exact#[by simpa[Leaf.by]using h.u0,by simp[Leaf.by];lia,by simp[Leaf.by];lia]
def An{l:Leaf}(h:l.Near n):(l.by 0 1 (-1) 0 0 0).Near (n+1):=by
 have p:=h.w4;have q:=h.w5;refine#[?_,by simp[Leaf.by];lia,by simp[Leaf.by];lia];rcases h.u0 with⟨a,b,c,d⟩|⟨a,b,c,d⟩
 .exact .inr (by simp[Leaf.by,a,b,c,d])
 .exact .inl (by simp[Leaf.by,a,b,c,d])
def Ao{l:Leaf}(h:l.Near n):((l.by 1 0 0 1 0 0).dye f g).Near (n+1):=by
 have p:=h.w4;have q:=h.w5;exact#[by simpa[Leaf.by,Leaf.dye]using h.u0,by simp[Leaf.by,Leaf.dye];lia,by simp[Leaf.by,Leaf.dye];lia]
structure Leaf.Good(l:Leaf):Prop where
 rows:Rows l.rows
 a:B12 l.a
 b:B12 l.b
 c:B12 l.c
 d:B12 l.d
 ne:¬l.a*l.d=l.b*l.c
 many:l.hues.length=7
 hue:∀h∈l.hues,0<=h/\h<=6
def Pat.leaf_good:∀{p:Pat},p.Wf->∀l∈p.leaves,l.Good/\l.Near p.depth
 |.mot L a b c d,h,l,q=>by
  have:l=bH L a b c d:=by simpa[Pat.leaves]using q
  subst this;obtain⟨h1,h2,h3,h4,h5,h6⟩:=h;exact#[#[h1,h2,h3,h4,h5,h6,rfl,by intro h q;simp[bH]at q;lia],#[by simp[bH],by simp[bH],by simp[bH]]]
 |.over p r,h,l,q=>by
  rcases D3.mp q with q|q
  .obtain⟨g,n⟩:=Pat.leaf_good h.1 l q;exact#[g,n.mono (by simp only[Pat.depth];lia)]
  .obtain⟨g,n⟩:=Pat.leaf_good h.2 l q;exact#[g,n.mono (by simp only[Pat.depth];lia)]
 |.sh a b p,h,l,q=>by
  obtain⟨l',q',rfl⟩:=D1.mp q;obtain⟨g,n⟩:=Pat.leaf_good h.2.2 l' q';exact#[#[g.rows,g.a,g.b,g.c,g.d,g.ne,g.many,g.hue],Al n h.1 h.2.1]
 |.mir p,h,l,q=>by
  obtain⟨l',q',rfl⟩:=D1.mp q;obtain⟨g,n⟩:=Pat.leaf_good (p:=p) h l' q';exact#[#[g.rows,g.a,g.b,g.c,g.d,g.ne,g.many,g.hue],Am n]
 |.tur p,h,l,q=>by
  obtain⟨l',q',rfl⟩:=D1.mp q;obtain⟨g,n⟩:=Pat.leaf_good (p:=p) h l' q';exact#[#[g.rows,g.a,g.b,g.c,g.d,g.ne,g.many,g.hue],An n]
 |.hue f k p,h,l,q=>by
  obtain⟨l',q',rfl⟩:=D1.mp q;obtain⟨g,n⟩:=Pat.leaf_good (p:=p) h.2.2 l' q';refine#[#[g.rows,g.a,g.b,g.c,g.d,g.ne,?_,λv hv=>?_],Ao n]
  .show(l'.hues.map _).length=7;rw[DJ];exact g.many
  .obtain⟨u,hu,rfl⟩:=D1.mp hv;have:=g.hue u hu;have:=h.2.1;unfold eI;split<;>lia
def Pat.D(p:Pat):My.D:=.lst [.str p.text,.int p.depth,.lst (p.leaves.map Leaf.D)]
def Leaf.T(dy:Bool)(f7 new b0 b1 b2 b3 b4 b5:Int)(l:Leaf):Leaf:=if dy then(l.by b0 b1 b2 b3 b4 b5).dye f7 new else l.by b0 b1 b2 b3 b4 b5
def cT(h:1<=a/\a<=6):((toString a:String):G8).length<=3:=bD HN
def Wraps(p:Pat)(H:Prop)(R:My.D->Prop):Prop:=(5<=p.depth->R p.D)/\(p.depth<5->R (Pat.mir p).D/\R (Pat.tur p).D/\(∀a b,B12 a->B12 b->R (Pat.sh a b p).D)/\(H->∀f g:Int,(1<=f/\f<=6)->(1<=g/\g<=6)->R (Pat.hue f g p).D))
variable{A:Int}{p:Pat}{R:My.D->Prop}
def Ap(h:Wraps p (j=3) R)(hd:p.depth<5){k B f7 new:Int}(hA:B12 A)(hB:B12 B)(ho:1<=f7/\f7<=6)(hn:1<=new/\new<=6)(hj:0<=j/\j<4):
  ∃(hs:G8) (b0 b1 b2 b3 b4 b5:Int),atI [D.str "m",D.str "t",D.str ((((("s":G8)++(toString A:String))++",")++(toString B:String))++":"),D.str ((("h":G8)++(toString f7:String))++(toString new:String))] j=u5 (.str hs)/\
   atI ([D.tup [.int (-1),.int 0,.int 0,.int 1,.int 0,.int 0],D.tup [.int 0,.int 1,.int (-1),.int 0,.int 0,.int 0]]++[D.tup [.int 1,.int 0,.int 0,.int 1,.int (-A),.int (-B)],D.tup [.int 1,.int 0,.int 0,.int 1,.int 0,.int 0]]) j=u5 (.tup [.int b0,.int b1,.int b2,.int b3,.int b4,.int b5])/\
   (b0.natAbs<=1/\b1.natAbs<=1/\b2.natAbs<=1/\b3.natAbs<=1/\b4.natAbs<=12/\b5.natAbs<=12)/\hs.length<=20/\
   R (.lst [.str (hs++p.text),.int (p.depth+1),.lst ((p.leaves.map (Leaf.T (decide (j=3)) f7 new b0 b1 b2 b3 b4 b5)).map Leaf.D)]):=by
 obtain⟨h1,h2,h3,h4⟩:=h.2 hd;have l1:("s":G8).length=1:=rfl;have l2:(",":G8).length=1:=rfl;have l3:(":":G8).length=1:=rfl;have l4:("h":G8).length=1:=rfl;have lA:=bD hA;have lB:=bD hB;have lo:=cT ho;have ln:=cT hn;have eD:∀n:Nat,D.int ((n+1:Nat):Int)=D.int ((n:Int)+1):=λn=>by congr 1
 unfold B12 at hA hB;rcases(HN:j=0\/j=1\/j=2\/j=3)with rfl|rfl|rfl|rfl
 .exact#[_,_,_,_,_,_,_,rfl,rfl,HN,G_,h1]
 .exact#[_,_,_,_,_,_,_,rfl,rfl,HN,G_,h2]
 .refine#[_,_,_,_,_,_,_,rfl,rfl,HN,?_,h3 A B hA hB]
  repeat rw[aq]
  lia
 .refine#[_,_,_,_,_,_,_,rfl,rfl,HN,?_,h4 rfl f7 new ho hn]
  repeat rw[aq]
  lia
def Aq(h f7 new:Int):atI [D.int h,D.int new] (if decide (h=f7)=true then(1:Int)else 0)=u5 (.int (eI f7 new h)):=by
 unfold eI;by_cases e:h=f7
 .rw[if_pos e,if_pos (by simpa using e)];rfl
 .rw[if_neg e,if_neg (by simpa using e)];rfl
def jG{α:Type}{xs:List α}{x:α}(h:xs[k]?=u5 x):xs.take (k+1)=xs.take k++[x]:=by
 have hk:k<xs.length:=(DN.mp h).1;rw[Gd,h];rfl
def Pat.leaves_len:∀(p:Pat),p.leaves.length<=2^p.depth
 |.mot ..=>Dt _
 |.over p q=>by
  have h1:=p.leaves_len;have h2:=q.leaves_len;have m1:2^p.depth<=2^(max p.depth q.depth):=Eh G_ (FM _ _);have m2:2^q.depth<=2^(max p.depth q.depth):=Eh G_ (FN _ _);rw[Pat.leaves,DB,Pat.depth,Ff];lia
 |.sh a b p=>by rw[Pat.leaves,DJ,Pat.depth,D2];have:=p.leaves_len;lia
 |.mir p=>by rw[Pat.leaves,DJ,Pat.depth,D2];have:=p.leaves_len;lia
 |.tur p=>by rw[Pat.leaves,DJ,Pat.depth,D2];have:=p.leaves_len;lia
 |.hue f g p=>by rw[Pat.leaves,DJ,Pat.depth,D2];have:=p.leaves_len;lia
def Pat.leaves_32(h:p.depth<=5):p.leaves.length<=32:=Dy p.leaves_len (Eh G_ h)
def Ar:SpD:=λds R=>∃(p:Pat) (draw:Int),ds=[p.D,.int draw]/\p.Wf/\p.depth<=5/\p.text.length<=100000/\Wraps p (draw%4=3) R
def As{c v:Int}(hn:¬a*d=b*c)(h:(u*d-v*c).fmod (a*d-b*c)=0/\(a*v-b*u).fmod (a*d-b*c)=0):∃i j,u=i*a+j*c/\v=i*b+j*d:=by
 have hz:a*d-b*c≠0:=Ia
 obtain⟨i,ei⟩:(a*d-b*c)∣(u*d-v*c):=#[_,(Gy h.1).symm];obtain⟨j,ej⟩:(a*d-b*c)∣(a*v-b*u):=#[_,(Gy h.2).symm];refine#[i,j,?_,?_]
 .have:(a*d-b*c)*u=(a*d-b*c)*(i*a+j*c):=by
   have q1:(a*d-b*c)*u=a*(u*d-v*c)+c*(a*v-b*u):=KK
   rw[q1,ei,ej];grind
  exact FK hz this
 .have:(a*d-b*c)*v=(a*d-b*c)*(i*b+j*d):=by
   have q1:(a*d-b*c)*v=b*(u*d-v*c)+d*(a*v-b*u):=KK
   rw[q1,ei,ej];grind
  exact FK hz this
def Uni.trans{c x0 x1 y0 y1:Int}(h:Uni a b c d p0 p1 q0 q1)(k:Uni p0 p1 q0 q1 x0 x1 y0 y1):Uni a b c d x0 x1 y0 y1:=by
 obtain⟨m,n,k1,l,hd,rfl,rfl,rfl,rfl⟩:=h;obtain⟨m',n',k',l',i6,rfl,rfl,rfl,rfl⟩:=k;have dt:(m'*m+n'*k1)*(k'*n+l'*l)-(m'*n+n'*l)*(k'*m+l'*k1)=(m'*l'-n'*k')*(m*l-n*k1):=KK
 refine#[m'*m+n'*k1,m'*n+n'*l,k'*m+l'*k1,k'*n+l'*l,?_,KK,KK,KK,KK];rw[dt];rcases hd with e|e<;>rcases i6 with e'|e'<;>rw[e,e']<;>decide
def eJ:∀(n:Nat) (a b c d:Int),d.natAbs<=n->∃p0 p1 q0,Lev a b c d p0 p1 q0
 |n,a,b,c,d,hn=>by
  by_cases hd:d=0
  .subst hd;by_cases hb:0<=b
   .exact#[a,b,c,hb,Uni.refl a b c 0]
   .exact#[-a,-b,c,HN,(Uni.refl a b c 0).neg]
  .match n,hn with
   |0,hn=>exact absurd (HN:d=0) hd
   |n+1,hn=>
    have lt:=(fdm b d hd).1;obtain⟨p0,p1,q0,h0,hu⟩:=eJ n c d (a-b.fdiv d*c) (b-b.fdiv d*d) HN;exact#[p0,p1,q0,h0,((Uni.refl a b c d).step (b.fdiv d)).trans hu]
def Au{c:Int}(hn:¬a*d=b*c)(g0:0<=g)(g1:g∣b)(g2:g∣d)(g3:∀e,e∣b->e∣d->e∣g):
  ∃w s,FamOf a b c d w g s:=by
 obtain⟨p0,p1,q0,hL⟩:=eJ d.natAbs a b c d (Dt _);have hF:=fN hn hL;have hp:=hF.2.1;obtain⟨m,n,k,l,_,e1,e2,e3,e4⟩:=hL.2;obtain⟨m',n',k',l',_,f1,f2,f3,f4⟩:=hL.2.inv;have d1:p1∣g:=g3 p1 #[m',by rw[f2];grind] #[k',by rw[f4];grind];have d2:g∣p1:=by
  rw[e2];exact FL (Fg g1) (Fg g2)
 have:p1=g:=Gz HN g0 d1 d2;subst this;exact#[_,_,hF]
def FamOf.uniq_lean{c:Int}(f:FamOf a b c d w h s)(e1:x=i*a+j*c)(e2:h=i*b+j*d)(h0:0<=x)(h1:x<=s):x=s:=by
 obtain⟨hw,hh,hs,Hc,hu⟩:=f;obtain⟨m,n,k,l,_,f1,f2,f3,f4⟩:=hu.inv;have ex:x=(i*m+j*k)*w+(i*n+j*l)*s:=by rw[e1,f1,f3];grind
 have eh:h=(i*n+j*l)*h:=by
  have:i*b+j*d=(i*n+j*l)*h:=by rw[f2,f4];grind
  rw[<-this];exact e2
 have one:i*n+j*l=1:=by
  have:(i*n+j*l)*h=1*h:=by lia
  exact EJ HN this
 rw[one]at ex;generalize i*m+j*k=t at ex;have:t*w=x-s:=HN
 rcases(HN:t<=-1\/t=0\/1<=t)with z|z|z
 .have:=D5 z (show 0<=w by lia);lia
 .subst z;lia
 .have:=D5 z (show 0<=w by lia);lia
def notT{c:Prop}[Decidable c](h:(!decide c)=true):¬c:=by
 intro q;rw[decide_eq_true q]at h;cases h
def notF{c:Prop}[Decidable c](h:¬(!decide c)=true):c:=by
 rcases Classical.em c with q|q
 .exact q
 .rw[decide_eq_false q]at h;exact absurd rfl h
def Leaf.o0(l:Leaf):Int:=l.w0*l.a+l.w2*l.b
def Leaf.o1(l:Leaf):Int:=l.w1*l.a+l.w3*l.b
def Leaf.t0(l:Leaf):Int:=l.w0*l.c+l.w2*l.d
def Leaf.t1(l:Leaf):Int:=l.w1*l.c+l.w3*l.d
def cU(h:w=1\/w=-1\/w=0)(ha:B12 a):(w*a).natAbs<=12:=by
 rw[Eg];exact EU (rP h) (show a.natAbs<=12 by unfold B12 at ha;clear h;lia)
def rQ(ha:B12 a)(hb:B12 b):(a*b).natAbs<=144:=by
 unfold B12 at ha hb;rw[Eg];exact Dy (EU (show a.natAbs<=12 by lia) (show b.natAbs<=12 by lia)) G_
def Leaf.sizes{l:Leaf}(g:l.Good)(h:l.Near n):l.o0.natAbs<=24/\l.o1.natAbs<=24/\l.t0.natAbs<=24/\l.t1.natAbs<=24/\¬l.o0*l.t1=l.o1*l.t0/\(l.o0*l.t1-l.o1*l.t0).natAbs<=288:=by
 obtain⟨h0,h1,h2,h3⟩:=h.unit;have a0:=cU h0 g.a;have a1:=cU h1 g.a;have b2:=cU h2 g.b;have b3:=cU h3 g.b;have c0:=cU h0 g.c;have c1:=cU h1 g.c;have d2:=cU h2 g.d;have d3:=cU h3 g.d;have dt:l.o0*l.t1-l.o1*l.t0=(l.w0*l.w3-l.w1*l.w2)*(l.a*l.d-l.b*l.c):=by unfold Leaf.o0 Leaf.o1 Leaf.t0 Leaf.t1;grind
 have dw:(l.w0*l.w3-l.w1*l.w2).natAbs=1:=by
  rcases h.u0 with⟨p,q,r,t⟩|⟨p,q,r,t⟩
  .rw[q,Fh,FJ,Eg,p,t]
  .rw[p,Fh,GA,Fe,Eg,q,r]
 have da:(l.o0*l.t1-l.o1*l.t0).natAbs=(l.a*l.d-l.b*l.c).natAbs:=by rw[dt,Eg,dw,Nat.one_mul]
 refine#[ab24 a0 b2,ab24 a1 b3,ab24 c0 d2,ab24 c1 d3,λz=>g.ne ?_,?_]
 .rw[z,Int.sub_self]at da;exact Int.sub_eq_zero.mp (Int.natAbs_eq_zero.mp da.symm)
 .rw[da];exact Dy (Gp _ _) (Fb (rQ g.a g.d) (rQ g.b g.c))
def Av:SpD:=λds R=>∃(l:Leaf) (n:Nat),ds=[l.D]/\l.Good/\l.Near n/\∀w h s:Int,FamOf l.o0 l.o1 l.t0 l.t1 w h s->w*h<=288->R (.tup [.int w,.int h,.int s])
def Aw(h1:y%h=0/\(x-y/h*s)%w=0):∃i j,x=i*w+j*s/\y=j*h:=by
 refine#[(x-y/h*s)/w,y/h,?_,?_]
 .have:=GB (x-y/h*s) w;rw[h1.2]at this;rw[Ev w]at this;lia
 .have:=GB y h;rw[h1.1,Ev h]at this;lia
def cK(x y:Int):∃g u,Meas x y g u:=by
 obtain⟨p0,p1,q0,hL⟩:=eJ y.natAbs 1 x 0 y (Dt _);exact#[p1,p0,rG #[hL.1,hL.2]]
def Meas.gcd{G:Int}(h:Meas x y g u)(g0:0<=G)(g1:G∣x)(g2:G∣y)(g3:∀e,e∣x->e∣y->e∣G):G=g:=by
 obtain⟨h0,⟨i,ei⟩,⟨j,ej⟩,n,en⟩:=h;refine Gz g0 h0 ?_ (g3 g #[i,by rw[ei,Ev]] #[j,by rw[ej,Ev]]);rw[en];exact FL (Fg g1) (Fg g2)
structure Fm(w h s:Int):Prop where
 w0:0<w
 w1:w<=720
 h0:0<h
 h1:h<=720
 s0:0<=s
 sw:s<w
def Ax(f:Fm w1 h1 s1)(k:Fm w2 h2 s2):∃g u w h s A,Meas w1 w2 g u/\w=w1*w2/g/\MetR w1 h1 s1 w2 h2 s2 w h s A:=by
 obtain⟨g,u,M1⟩:=cK w1 w2;obtain⟨k',u',M2⟩:=cK h1 h2;obtain⟨gg,t7,M3⟩:=cK g (h1*h2/k'/h2*s2-h1*h2/k'/h1*s1);exact#[g,u,_,_,_,_,M1,rfl,gQ f.w0 k.w0 f.h0 k.h0 M1 M2 M3]
def MetR.high(M:MetR w1 h1 s1 w2 h2 s2 w h s A)(hh:0<h1)(hj:1<=j)(e1:∃i,x=i*w1+j*s1)(e2:∃i k,x=i*w2+k*s2/\j*h1=k*h2):h<=j*h1/\(j*h1=h->0<=x->x<w->x=s):=by
 obtain⟨i,e1⟩:=e1;obtain⟨i',k,e3,e4⟩:=e2;obtain⟨a,b,e5,e6⟩:=M.all x (j*h1) #[i,j,e1,rfl] #[i',k,e3,e4];have hp:0<j*h1:=DM HN hh;have hb:1<=b:=by
  rcases(HN:b<=0\/1<=b)with z|z
  .have:=El z (show 0<=h by have:=M.h0;lia);lia
  .exact z
 refine#[?_,λe x0 x1=>?_]
 .have:=D5 hb (show 0<=h by have:=M.h0;lia);lia
 .have ob:b=1:=by
   have:b*h=1*h:=by lia
   exact EJ (by have:=M.h0;lia) this
  rw[ob]at e5;have s0:=M.s0;have sw:=M.sw;have:a*w=x-s:=HN
  rcases(HN:a<=-1\/a=0\/1<=a)with z|z|z
  .have:=D5 z (show 0<=w by lia);lia
  .subst z;lia
  .have:=D5 z (show 0<=w by lia);lia
def Ay:SpD:=λds R=>∃w1 h1 s1 w2 h2 s2:Int,ds=[.tup [.int w1,.int h1,.int s1],.tup [.int w2,.int h2,.int s2]]/\Fm w1 h1 s1/\Fm w2 h2 s2/\
 ∀w h s A,MetR w1 h1 s1 w2 h2 s2 w h s A->(w*h<=720->R (.tup [.int w,.int h,.int s]))/\(720<w*h->R .non)
def Az{S:Int}(hw:0<w1)(hx:x<w1)(x0:0<=x)(hS:0<=S)(e:S=i*w1+s)(e2:∃i',x=i'*w1+s):∃k,S=x+k*w1/\0<=k:=by
 obtain⟨i',e2⟩:=e2;refine#[i-i',KK,?_];rcases(HN:i-i'<=-1\/0<=i-i')with z|z
 .have:=D5 z (show 0<=w1 by lia);have:(i-i')*w1=S-x:=by grind
  lia
 .exact z
def InF(w h s x y:Int):Prop:=∃i j,x=i*w+j*s/\y=j*h
def Leaf.Lat(l:Leaf)(x y:Int):Prop:=∃i j,x=i*l.o0+j*l.t0/\y=i*l.o1+j*l.t1
def FamOf.lat{c:Int}(f:FamOf a b c d w h s)(x y:Int):InF w h s x y↔∃i j,x=i*a+j*c/\y=i*b+j*d:=by
 obtain⟨_,_,_,_,hu⟩:=f;obtain⟨m,n,k,l,_,e1,e2,e3,e4⟩:=id hu;obtain⟨m',n',k',l',_,f1,f2,f3,f4⟩:=hu.inv;constructor
 .rintro⟨i,j,rfl,rfl⟩;refine#[i*m+j*k,i*n+j*l,by rw[e1,e3];grind,?_];have z:i*0+j*h=(i*m+j*k)*b+(i*n+j*l)*d:=by rw[e2,e4];grind
  lia
 .rintro⟨i,j,rfl,rfl⟩;refine#[i*m'+j*k',i*n'+j*l',by rw[f1,f3];grind,by rw[f2,f4];grind]
def MetR.lat(M:MetR w1 h1 s1 w2 h2 s2 w h s A)(x y:Int):InF w h s x y↔InF w1 h1 s1 x y/\InF w2 h2 s2 x y:=by
 constructor
 .rintro⟨i,j,rfl,rfl⟩;obtain⟨a1,e1⟩:=M.in1;obtain⟨a2,e2⟩:=M.in2;obtain⟨b1,c1,e3,e4⟩:=M.up1;obtain⟨b2,c2,e5,e6⟩:=M.up2;refine#[#[i*a1+j*b1,j*c1,?_,?_],#[i*a2+j*b2,j*c2,?_,?_]]
  .rw[e1,e3];grind
  .rw[e4];grind
  .rw[e2,e5];grind
  .rw[e6];grind
 .rintro⟨h1,h2⟩;exact M.all x y h1 h2
variable{w' h' s':Int}
def InF.le(hw:0<w)(hh:0<h)(n_:0<w')(KQ:0<h')(sub:∀x y,InF w' h' s' x y->InF w h s x y):w*h<=w'*h'/\w<=w'/\h<=h':=by
 obtain⟨i,j,e1,e2⟩:=sub w' 0 #[1,0,HN,HN];have j0:j=0:=by
  rcases FO.mp e2.symm with z|z
  .exact z
  .lia
 subst j0;have i1:1<=i:=by
  rcases(HN:i<=0\/1<=i)with z|z
  .have:=El z (show 0<=w by lia);lia
  .exact z
 obtain⟨i',j',e3,e4⟩:=sub s' h' #[0,1,HN,HN];have j1:1<=j':=by
  rcases(HN:j'<=0\/1<=j')with z|z
  .have:=El z (show 0<=h by lia);lia
  .exact z
 have a1:=D5 i1 (show 0<=w by lia);have a2:=D5 j1 (show 0<=h by lia);have b1:w<=w':=HN
 have b2:h<=h':=HN
 exact#[GC b1 b2 HN HN,b1,b2]
def InF.uniq(hw:0<w)(hh:0<h)(hs:0<=s)(Hc:s<w)(n_:0<w')(KQ:0<h')(G1:0<=s')(Ol:s'<w')(e:∀x y,InF w h s x y↔InF w' h' s' x y):w=w'/\h=h'/\s=s':=by
 obtain⟨_,a1,a2⟩:=InF.le hw hh n_ KQ (λx y q=>(e x y).mpr q);obtain⟨_,b1,b2⟩:=InF.le n_ KQ hw hh (λx y q=>(e x y).mp q);have ew:w=w':=HN
 have eh:h=h':=HN
 subst ew eh;refine#[rfl,rfl,?_];obtain⟨i,j,e1,e2⟩:=(e s h).mp #[0,1,HN,HN];have j1:j=1:=by
  have:j*h=1*h:=by lia
  exact EJ HN this
 subst j1;have:i*w=s-s':=HN
 rcases(HN:i<=-1\/i=0\/1<=i)with z|z|z
 .have:=D5 z (show 0<=w by lia);lia
 .subst z;lia
 .have:=D5 z (show 0<=w by lia);lia
structure Fam0(w h s:Int):Prop where
 w0:0<w
 h0:0<h
 s0:0<=s
 sw:s<w
def rR(f:Fam0 w1 h1 s1)(k:Fam0 w2 h2 s2):∃w h s,Fam0 w h s/\∀x y,InF w h s x y↔InF w1 h1 s1 x y/\InF w2 h2 s2 x y:=by
 obtain⟨g,u,M1⟩:=cK w1 w2;obtain⟨k',u',M2⟩:=cK h1 h2;obtain⟨gg,t7,M3⟩:=cK g (h1*h2/k'/h2*s2-h1*h2/k'/h1*s1);have M:=gQ f.w0 k.w0 f.h0 k.h0 M1 M2 M3;exact#[_,_,_,#[M.w0,M.h0,M.s0,M.sw],M.lat]
def Leaf.fam_ex{l:Leaf}(g:l.Good)(h:l.Near n):∃w k s,Fam0 w k s/\∀x y,InF w k s x y↔l.Lat x y:=by
 obtain⟨_,_,_,_,ne,_⟩:=Leaf.sizes g h;obtain⟨p0,p1,q0,hL⟩:=eJ l.t1.natAbs l.o0 l.o1 l.t0 l.t1 (Dt _);have f:=fN ne hL;exact#[_,_,_,#[f.1,f.2.1,f.2.2.1,f.2.2.2.1],f.lat]
def bS(ls:List Leaf)(x y:Int):Prop:=∀l∈ls,l.Lat x y
def rS{n:Nat}:∀(ls:List Leaf) (w h s:Int),Fam0 w h s->(∀l∈ls,l.Good/\l.Near n)->∃w' h' s',Fam0 w' h' s'/\∀x y,InF w' h' s' x y↔InF w h s x y/\bS ls x y
 |[],w,h,s,f,_=>#[w,h,s,f,λx y=>#[λq=>#[q,λl z=>by cases z],λq=>q.1]]
 |l::r,w,h,s,f,g=>by
  obtain⟨w1,h1,s1,f1,e1⟩:=Leaf.fam_ex (g l DC).1 (g l DC).2;obtain⟨w2,h2,s2,f2,e2⟩:=rR f f1;obtain⟨w3,h3,s3,f3,e3⟩:=rS r w2 h2 s2 f2 λl' q=>g l' (Dx _ q);refine#[w3,h3,s3,f3,λx y=>?_];rw[e3,e2,e1];constructor
  .rintro⟨⟨a,b⟩,c⟩;exact#[a,λl' q=>(Dw.mp q).elim (λz=>z ▸ b) (c l')]
  .rintro⟨a,b⟩;exact#[#[a,b l DC],λl' q=>b l' (Dx _ q)]
def cut1(d:D)(ds:List D):cutD (d::ds) (u5 1) A'=ds:=by
 unfold cutD;have e1:HT.sIx (d::ds).length 0 (u5 1)=1:=by simp[HT.sIx]
 have e2:HT.sIx (d::ds).length (d::ds).length A'=(d::ds).length:=by simp[HT.sIx]
 rw[e1,e2,List.drop_one,List.tail_cons,Du,GD,Fi]
def AA:SpD:=λds R=>∃(ls:List Leaf) (n:Nat),ds=[.lst (ls.map Leaf.D)]/\ls≠[]/\(∀l∈ls,l.Good/\l.Near n)/\
 ∀w h s:Int,Fam0 w h s->(∀x y,InF w h s x y↔bS ls x y)->(w*h<=720->R (.tup [.int w,.int h,.int s]))/\(720<w*h->R .non)
def Pat.Lat:Pat->Int->Int->Prop
 |.mot _ a b c d,x,y=>∃i j,x=i*a+j*c/\y=i*b+j*d
 |.over p q,x,y=>p.Lat x y/\q.Lat x y
 |.sh _ _ p,x,y=>p.Lat x y
 |.mir p,x,y=>p.Lat (-x) y
 |.tur p,x,y=>p.Lat y (-x)
 |.hue _ _ p,x,y=>p.Lat x y
def Leaf.by_lat(l:Leaf)(b0 b1 b2 b3 b4 b5 x y:Int):(l.by b0 b1 b2 b3 b4 b5).Lat x y↔∃u v,l.Lat u v/\x=b0*u+b2*v/\y=b1*u+b3*v:=by
 have e0:(l.by b0 b1 b2 b3 b4 b5).o0=b0*l.o0+b2*l.o1:=by simp only[Leaf.o0,Leaf.o1,Leaf.by];grind
 have e1:(l.by b0 b1 b2 b3 b4 b5).o1=b1*l.o0+b3*l.o1:=by simp only[Leaf.o0,Leaf.o1,Leaf.by];grind
 have e2:(l.by b0 b1 b2 b3 b4 b5).t0=b0*l.t0+b2*l.t1:=by simp only[Leaf.t0,Leaf.t1,Leaf.by];grind
 have e3:(l.by b0 b1 b2 b3 b4 b5).t1=b1*l.t0+b3*l.t1:=by simp only[Leaf.t0,Leaf.t1,Leaf.by];grind
 unfold Leaf.Lat;rw[e0,e1,e2,e3];generalize l.o0=o0;generalize l.o1=o1;generalize l.t0=t0;generalize l.t1=t1;constructor
 .rintro⟨i,j,rfl,rfl⟩;exact#[_,_,#[i,j,rfl,rfl],KK,KK]
 .rintro⟨_,_,⟨i,j,rfl,rfl⟩,rfl,rfl⟩;exact#[i,j,KK,KK]
def Leaf.dye_lat(l:Leaf)(f g x y:Int):(l.dye f g).Lat x y↔l.Lat x y:=Iff.rfl
def AB(a b:List Leaf)(x y:Int):bS (a++b) x y↔bS a x y/\bS b x y:=by
 constructor
 .intro h;exact#[λl q=>h l (EC _ q),λl q=>h l (DY _ q)]
 .rintro⟨h1,h2⟩ l q;rcases D3.mp q with q|q
  .exact h1 l q
  .exact h2 l q
def latAll_map{f:Leaf->Leaf}{v:Int}(hf:∀l:Leaf,(f l).Lat x y↔l.Lat u v)(ls:List Leaf):bS (ls.map f) x y↔bS ls u v:=by
 constructor
 .intro h l q;exact(hf l).mp (h _ (D1.mpr #[l,q,rfl]))
 .intro h l q;obtain⟨l',q',rfl⟩:=D1.mp q;exact(hf l').mpr (h l' q')
def rT(l:Leaf)(e f x y:Int):(l.by 1 0 0 1 e f).Lat x y↔l.Lat x y:=by
 rw[Leaf.by_lat];constructor
 .rintro⟨u,v,h,e1,e2⟩;have e1:x=u:=by lia
  have e2:y=v:=HN
  rw[e1,e2];exact h
 .intro h;exact#[x,y,h,HN,HN]
def Pat.lat_leaves:∀(p:Pat) (x y:Int),bS p.leaves x y↔p.Lat x y
 | .mot L a b c d,x,y=>by
  have e0:(bH L a b c d).o0=a:=by simp[Leaf.o0,bH]
  have e1:(bH L a b c d).o1=b:=by simp[Leaf.o1,bH]
  have e2:(bH L a b c d).t0=c:=by simp[Leaf.t0,bH]
  have e3:(bH L a b c d).t1=d:=by simp[Leaf.t1,bH]
  have e:(bH L a b c d).Lat x y↔(Pat.mot L a b c d).Lat x y:=by
   unfold Leaf.Lat;rw[e0,e1,e2,e3];exact Iff.rfl
  rw[<-e];constructor
  .intro h;exact h _ DC
  .intro h l q;rw[Ds.mp q];exact h
 |.over p q,x,y=>by rw[Pat.leaves,AB,Pat.lat_leaves p,Pat.lat_leaves q,Pat.Lat]
 |.sh a b p,x,y=>by rw[Pat.leaves,latAll_map (λl=>rT l _ _ x y),Pat.lat_leaves p,Pat.Lat]
 | .mir p,x,y=>by
  have e:∀l:Leaf,(l.by (-1) 0 0 1 0 0).Lat x y↔l.Lat (-x) y:=λl=>by
   rw[Leaf.by_lat];constructor
   .rintro⟨u,v,h,e1,e2⟩;have e1:-x=u:=by lia
    have e2:y=v:=HN
    rw[e1,e2];exact h
   .intro h;exact#[-x,y,h,HN,HN]
  rw[Pat.leaves,latAll_map e,Pat.lat_leaves p,Pat.Lat]
 | .tur p,x,y=>by
  have e:∀l:Leaf,(l.by 0 1 (-1) 0 0 0).Lat x y↔l.Lat y (-x):=λl=>by
   rw[Leaf.by_lat];constructor
   .rintro⟨u,v,h,e1,e2⟩;have e1:-x=v:=by lia
    have e2:y=u:=HN
    rw[e1,e2];exact h
   .intro h;exact#[y,-x,h,HN,HN]
  rw[Pat.leaves,latAll_map e,Pat.lat_leaves p,Pat.Lat]
 |.hue f g p,x,y=>by
  rw[Pat.leaves,latAll_map (λl=>(Leaf.dye_lat _ f g x y).trans (rT l _ _ x y)),Pat.lat_leaves p,Pat.Lat]
structure Pat.Fam(p:Pat)(w h s:Int):Prop where
 f:Fam0 w h s
 lat:∀x y,InF w h s x y↔p.Lat x y
def Pat.Fam.uniq(a:p.Fam w h s)(b:p.Fam w' h' s'):w=w'/\h=h'/\s=s':=
 InF.uniq a.f.w0 a.f.h0 a.f.s0 a.f.sw b.f.w0 b.f.h0 b.f.s0 b.f.sw λx y=>(a.lat x y).trans (b.lat x y).symm
def Pat.Fam.mot{c:Int}(k:FamOf a b c d w h s):(Pat.mot L a b c d).Fam w h s:=#[#[k.1,k.2.1,k.2.2.1,k.2.2.2.1],k.lat]
def Pat.Fam.sh(a b:Int)(k:p.Fam w h s):(Pat.sh a b p).Fam w h s:=#[k.f,k.lat]
def Pat.Fam.hue(a b:Int)(k:p.Fam w h s):(Pat.hue a b p).Fam w h s:=#[k.f,k.lat]
def Pat.Fam.mir(k:p.Fam w h s):(Pat.mir p).Fam w h (-s%w):=by
 refine#[#[k.f.w0,k.f.h0,cb k.f.w0,ce k.f.w0],λx y=>?_];show _↔p.Lat (-x) y;rw[<-k.lat];have e:=ET (-s) w;generalize -s%w=r at e;generalize -s/w=t at e;constructor
 .rintro⟨i,j,rfl,rfl⟩;exact#[j*t-i,j,by rw[e];grind,rfl]
 .rintro⟨i,j,ex,rfl⟩;exact#[j*t-i,j,by rw[e];grind,rfl]
def Pat.Fam.tur(k:p.Fam w h s)(f:FamOf 0 w (-h) s w' h' s'):(Pat.tur p).Fam w' h' s':=by
 refine#[#[f.1,f.2.1,f.2.2.1,f.2.2.2.1],λx y=>?_];show _↔p.Lat y (-x);rw[<-k.lat,f.lat];constructor
 .rintro⟨i,j,rfl,rfl⟩;exact#[i,j,KK,KK]
 .rintro⟨i,j,ex,ey⟩;exact#[i,j,KK,KK]
variable{q:Pat}
def Pat.Fam.over(k1:p.Fam w1 h1 s1)(k2:q.Fam w2 h2 s2)(M:MetR w1 h1 s1 w2 h2 s2 w h s A):(Pat.over p q).Fam w h s:=by
 refine#[#[M.w0,M.h0,M.s0,M.sw],λx y=>?_];rw[M.lat,k1.lat,k2.lat];exact Iff.rfl
def jH(hw:0<w)(hh:0<h):∃w' h' s',FamOf 0 w (-h) s w' h' s'/\w'*h'=w*h:=by
 have hp:0<w*h:=DM hw hh;have hn:¬0*s=w* -h:=by rw[Fj];lia
 obtain⟨p0,p1,q0,hL⟩:=eJ s.natAbs 0 w (-h) s (Dt _);have f:=fN hn hL;refine#[_,_,_,f,?_];have Hx:=DM f.1 f.2.1;have c:=f.cells;rw[Fj]at c;lia
def jI{c:Int}(hn:¬a*d=b*c):∃w h s,FamOf a b c d w h s/\(Pat.mot L a b c d).Fam w h s:=by
 obtain⟨p0,p1,q0,hL⟩:=eJ d.natAbs a b c d (Dt _);have f:=fN hn hL;exact#[_,_,_,f,.mot f]
def Pat.fam_ex:∀{p:Pat},p.Wf->∃w h s,p.Fam w h s
 |.mot L a b c d,h=>by
  obtain⟨w,k,s,_,f⟩:=jI (L:=L) h.2.2.2.2.2;exact#[w,k,s,f]
 |.over p q,h=>by
  obtain⟨w1,h1,s1,f1⟩:=Pat.fam_ex h.1;obtain⟨w2,h2,s2,f2⟩:=Pat.fam_ex h.2;obtain⟨w,k,s,f,e⟩:=rR f1.f f2.f;refine#[w,k,s,f,λx y=>?_];rw[e,f1.lat,f2.lat];exact Iff.rfl
 |.sh a b p,h=>by
  obtain⟨w,k,s,f⟩:=Pat.fam_ex h.2.2;exact#[w,k,s,f.sh a b]
 |.mir p,h=>by
  obtain⟨w,k,s,f⟩:=Pat.fam_ex (p:=p) h;exact#[w,k,_,f.mir]
 |.tur p,h=>by
  obtain⟨w,k,s,f⟩:=Pat.fam_ex (p:=p) h;obtain⟨w',k',s',f',_⟩:=jH (s:=s) f.f.w0 f.f.h0;exact#[w',k',s',f.tur f']
 |.hue a b p,h=>by
  obtain⟨w,k,s,f⟩:=Pat.fam_ex h.2.2;exact#[w,k,s,f.hue a b]
def Pat.Fits(p:Pat):Prop:=∃w h s,p.Fam w h s/\w*h<=720
def Pat.fits_mot{c:Int}(ha:B12 a)(hb:B12 b)(hc:B12 c)(hd:B12 d)(hn:¬a*d=b*c):(Pat.mot L a b c d).Fits:=by
 obtain⟨w,h,s,k,f⟩:=jI (L:=L) hn;refine#[w,h,s,f,?_];have kc:=k.cells;unfold B12 at*;have m1:=cz (a:=a) (d:=d) (A:=12) (B:=12) HN HN;have m2:=cz (a:=b) (d:=c) (A:=12) (B:=12) HN HN;lia
def Pat.Fits.sh(a b:Int)(k:p.Fits):(Pat.sh a b p).Fits:=by
 obtain⟨w,h,s,f,q⟩:=k;exact#[w,h,s,f.sh a b,q]
def Pat.Fits.hue(a b:Int)(k:p.Fits):(Pat.hue a b p).Fits:=by
 obtain⟨w,h,s,f,q⟩:=k;exact#[w,h,s,f.hue a b,q]
def Pat.Fits.mir(k:p.Fits):(Pat.mir p).Fits:=by
 obtain⟨w,h,s,f,q⟩:=k;exact#[w,h,_,f.mir,q]
def Pat.Fits.tur(k:p.Fits):(Pat.tur p).Fits:=by
 obtain⟨w,h,s,f,q⟩:=k;obtain⟨w',k',s',f',e⟩:=jH (s:=s) f.f.w0 f.f.h0;exact#[w',k',s',f.tur f',HN]
def rV{c:Int}(hL:Rows L)(ha:B12 a)(hb:B12 b)(hc:B12 c)(hd:B12 d):(cJ L a b c d).length<=100:=by
 have la:=bD ha;have lb:=bD hb;have lc:=bD hc;have ld:=bD hd;have l1:(";":G8).length=1:=rfl;have l2:(",":G8).length=1:=rfl;have l3:("[":G8).length=1:=rfl;have l4:("]":G8).length=1:=rfl;have ls:=rO hL;have lj:=StrLaws.join_length_le "/" L;have lg:(Txt.join "/" L).length<=72:=by
  have e:Txt.join "/" L=Str.join "/" L:=StrLaws.glued_eq_join _ _;rw[e];exact Dy lj ls
 unfold cJ
 repeat rw[aq]
 lia
def Pat.text_len:∀{p:Pat},p.Wf->p.text.length+10<=110*2^p.depth
 |.mot L a b c d,h=>by
  have:=rV h.1 h.2.1 h.2.2.1 h.2.2.2.1 h.2.2.2.2.1;show(cJ L a b c d).length+10<=110*2^0;lia
 |.over p q,h=>by
  have h1:=Pat.text_len h.1;have h2:=Pat.text_len h.2;have m1:2^p.depth<=2^(max p.depth q.depth):=Eh G_ (FM _ _);have m2:2^q.depth<=2^(max p.depth q.depth):=Eh G_ (FN _ _);have l1:("(":G8).length=1:=rfl;have l2:("|":G8).length=1:=rfl;have l3:(")":G8).length=1:=rfl;rw[Pat.text,Pat.depth,Ff]
  repeat rw[aq]
  lia
 |.sh a b p,h=>by
  have h1:=Pat.text_len h.2.2;have la:=bD h.1;have lb:=bD h.2.1;have l1:("s":G8).length=1:=rfl;have l2:(",":G8).length=1:=rfl;have l3:(":":G8).length=1:=rfl;have:0<2^p.depth:=Ei G_;rw[Pat.text,Pat.depth,D2]
  repeat rw[aq]
  lia
 |.mir p,h=>by
  have h1:=Pat.text_len (p:=p) h;have l1:("m":G8).length=1:=rfl;have:0<2^p.depth:=Ei G_;rw[Pat.text,Pat.depth,D2,aq];lia
 |.tur p,h=>by
  have h1:=Pat.text_len (p:=p) h;have l1:("t":G8).length=1:=rfl;have:0<2^p.depth:=Ei G_;rw[Pat.text,Pat.depth,D2,aq];lia
 |.hue f g p,h=>by
  have h1:=Pat.text_len h.2.2;have la:=cT h.1;have lb:=cT h.2.1;have l1:("h":G8).length=1:=rfl;have:0<2^p.depth:=Ei G_;rw[Pat.text,Pat.depth,D2]
  repeat rw[aq]
  lia
def Pat.leaves_pos:∀p:Pat,0<p.leaves.length
 |.mot ..=>Nat.zero_lt_one
 |.over p q=>by rw[Pat.leaves,DB];have:=p.leaves_pos;lia
 |.sh _ _ p=>by rw[Pat.leaves,DJ];exact p.leaves_pos
 |.mir p=>by rw[Pat.leaves,DJ];exact p.leaves_pos
 |.tur p=>by rw[Pat.leaves,DJ];exact p.leaves_pos
 |.hue _ _ p=>by rw[Pat.leaves,DJ];exact p.leaves_pos
def Pat.text_short(h:p.Wf)(hd:p.depth<=5):p.text.length<=3510:=by
 have h1:=Pat.text_len h;have h2:2^p.depth<=2^5:=Eh G_ hd;lia
structure Pat.Ok(p:Pat):Prop where
 wf:p.Wf
 deep:p.depth<=5
 fits:p.Fits
def Wraps.of{H:Prop}(h:p.Ok)(hR:∀q:Pat,q.Ok->R q.D):Wraps p H R:=by
 refine#[λ_=>hR p h,λhd=>#[hR _ #[h.wf,?_,h.fits.mir],hR _ #[h.wf,?_,h.fits.tur],λa b ha hb=>hR _ #[#[ha,hb,h.wf],?_,h.fits.sh a b],λ_ f g hf hg=>hR _ #[#[hf,hg,h.wf],?_,h.fits.hue f g]]]<;>(simp only[Pat.depth];lia)
def AC:SpD:=λds R=>∃p q:Pat,ds=[p.D,q.D]/\p.Wf/\q.Wf/\p.depth<=5/\q.depth<=5/\R p.D/\(p.depth<5->q.depth<5->(Pat.over p q).Fits->R (Pat.over p q).D)
def AD:SpD:=λds R=>∃(ns:List Int) (k:Int),ds=[.rol (ns.map D.int),.int k]/\0<=k/\∀p:Pat,p.Ok->R p.D
inductive Wt where
 |sign (c:Nat)|pat (d:Nat)|lin (w h k:Nat)|hue|num|fig|more
 deriving DecidableEq
abbrev isSg(c:Nat):Bool:=c==46||(49<=c&&c<=54)
def motW(r:List Wt):List Wt:=.lin 0 0 0::.num::.sign 44::.num::.sign 59::.num::.sign 44::.num::.sign 93::r
def aQ(d c:Nat)(r:List Wt):Option (List Wt):=
 if c=91 then u5 (motW r)
 else if d=5 then A'
 else if c=40 then u5 (.pat (d+1)::.sign 124::.pat (d+1)::.sign 41::r)
 else if c=115 then u5 (.num::.sign 44::.num::.sign 58::.pat (d+1)::r)
 else if c=104 then u5 (.hue::.hue::.pat (d+1)::r)
 else if c=109\/c=116 then u5 (.pat (d+1)::r)
 else A'
def goesOn(w h k c:Nat)(r:List Wt):Option (List Wt):=
 if isSg c then(if h<(if 0<k then w else 8)then u5 (.lin w (h+1) k::r)else A')
 else if h=0\/(0<k/\h<w)then A'
 else if c=47 then(if k<7 then u5 (.lin h 0 (k+1)::r)else A')
 else if c=59 then u5 r
 else A'
def ay:List Wt->Nat->Option (List Wt)
 |[],_=>A'
 |.sign s::r,c=>if c=s then u5 r else A'
 |.pat d::r,c=>aQ d c r
 |.lin w h k::r,c=>goesOn w h k c r
 |.hue::r,c=>if 49<=c/\c<=54 then u5 r else A'
 |.more::r,_=>u5 r
 |.num::r,c=>if c=49 then u5 (.more::r)else if c=45 then u5 (.fig::r)else if 48<=c/\c<=57 then u5 r else A'
 |.fig::r,c=>if c=49 then u5 (.more::r)else if 50<=c/\c<=57 then u5 r else A'
def aD(st:List Wt)(c:Nat):List Wt:=match st with
 |.more::r=>if 48<=c/\c<=50 then st else r
 |_=>st
def step(st:List Wt)(c:Nat):Option (List Wt):=ay (aD st c) c
def walk:List Wt->List Nat->Nat->Option Nat
 |st,[],k=>if st=[]then A' else u5 k
 |st,c::l,k=>match step st c with
  |none=>u5 k
  |some st'=>walk st' l (k+1)
def bK(t:G8):Option Nat:=walk [.pat 0] (cs t) 0
def Pat.Syn:Pat->Prop
 |.mot L a b c d=>Rows L/\B12 a/\B12 b/\B12 c/\B12 d
 |.over p q=>p.Syn/\q.Syn
 |.sh a b p=>B12 a/\B12 b/\p.Syn
 |.mir p=>p.Syn
 |.tur p=>p.Syn
 |.hue f g p=>(1<=f/\f<=6)/\(1<=g/\g<=6)/\p.Syn
variable{l:List Nat}{st:List Wt}
def aJ{st':List Wt}(h:step st c=u5 st'):walk st (c::l) k=walk st' l (k+1):=by
 rw[walk,h]
def numL(a:Int):List Nat:=cs (toString a:String)
def rW(h:B12 a){P:Int->Prop}(hP:∀k:Fin 25,P (((k.val:Nat):Int)-12)):P a:=by
 unfold B12 at h;have:=hP #[(a+12).toNat,HN];have e:(((a+12).toNat:Nat):Int)-12=a:=HN
 rw[e]at this;exact this
def isNumL(l:List Nat):Prop:=(∃c,(48<=c/\c<=57)/\l=[c])\/(∃c,(48<=c/\c<=50)/\l=[49,c])\/(∃c,(49<=c/\c<=57)/\l=[45,c])\/∃c,(48<=c/\c<=50)/\l=[45,49,c]
def numL_is(h:B12 a):isNumL (numL a):=by
 have key:∀k:Fin 25,(numL (((k.val:Nat):Int)-12))∈([[45,49,50],[45,49,49],[45,49,48],[45,57],[45,56],[45,55],[45,54],[45,53],[45,52],[45,51],[45,50],[45,49],[48],[49],[50],[51],[52],[53],[54],[55],[56],[57],[49,48],[49,49],[49,50]]:List (List Nat)):=Hd
 have h1:=rW (P:=λa=>numL a∈([[45,49,50],[45,49,49],[45,49,48],[45,57],[45,56],[45,55],[45,54],[45,53],[45,52],[45,51],[45,50],[45,49],[48],[49],[50],[51],[52],[53],[54],[55],[56],[57],[49,48],[49,49],[49,50]]:List (List Nat))) h key;revert h1;generalize numL a=l;intro h1;unfold isNumL;simp only[Dw,EW,or_false]at h1;rcases h1 with e|e|e|e|e|e|e|e|e|e|e|e|e|e|e|e|e|e|e|e|e|e|e|e|e<;>subst e
 all_goals first
  |exact .inl ⟨_,G_,rfl⟩
  |exact .inr (.inl ⟨_,G_,rfl⟩)
  |exact .inr (.inr (.inl ⟨_,G_,rfl⟩))
  |exact .inr (.inr (.inr ⟨_,G_,rfl⟩))
def dG(h:isNumL l):∃a,B12 a/\numL a=l:=by
 have key:∀c:Fin 58,(48<=c.val->∃k:Fin 25,numL (((k.val:Nat):Int)-12)=[c.val])/\(48<=c.val->c.val<=50->∃k:Fin 25,numL (((k.val:Nat):Int)-12)=[49,c.val])/\(49<=c.val->∃k:Fin 25,numL (((k.val:Nat):Int)-12)=[45,c.val])/\(48<=c.val->c.val<=50->∃k:Fin 25,numL (((k.val:Nat):Int)-12)=[45,49,c.val]):=Hd
 have c9:∀k:Fin 25,B12 (((k.val:Nat):Int)-12):=λk=>by unfold B12;have:=k.isLt;lia
 rcases h with⟨c,hc,rfl⟩|⟨c,hc,rfl⟩|⟨c,hc,rfl⟩|⟨c,hc,rfl⟩
 .obtain⟨k,e⟩:=(key #[c,HN]).1 (by show 48<=c;lia);exact#[_,c9 k,e]
 .obtain⟨k,e⟩:=(key #[c,HN]).2.1 (by show 48<=c;lia) (by show c<=50;lia);exact#[_,c9 k,e]
 .obtain⟨k,e⟩:=(key #[c,HN]).2.2.1 (by show 49<=c;lia);exact#[_,c9 k,e]
 .obtain⟨k,e⟩:=(key #[c,HN]).2.2.2 (by show 48<=c;lia) (by show c<=50;lia);exact#[_,c9 k,e]
def endS(c:Nat):Prop:=c=44\/c=59\/c=58\/c=93
def eK(h:isNumL l)(hc:endS c)(r:List Wt)(t:List Nat)(k:Nat):walk (.num::.sign c::r) (l++c::t) k=walk r t (k+l.length+1):=by
 unfold endS at hc;have Om:¬(48<=c/\c<=50):=HN
 have c9:∀k,walk (.sign c::r) (c::t) k=walk r t (k+1):=λk=>aJ Kb;have Iv:∀k,walk (.more::.sign c::r) (c::t) k=walk r t (k+1):=λk=>aJ (by simp[step,aD,ay,Om]);rcases h with⟨x,hx,rfl⟩|⟨x,hx,rfl⟩|⟨x,hx,rfl⟩|⟨x,hx,rfl⟩
 .by_cases e:x=49
  .subst e;show walk _ (49::c::t) k=_;rw[aJ (st':=.more::.sign c::r) Kb,Iv];simp
  .show walk _ (x::c::t) k=_;rw[aJ (st':=.sign c::r) (by simp[step,aD,ay,e,hx,show¬x=45 by lia]),c9];simp
 .show walk _ (49::x::c::t) k=_;rw[aJ (st':=.more::.sign c::r) Kb,aJ (st':=.sign c::r) (by simp[step,aD,ay,hx]),c9];simp
 .show walk _ (45::x::c::t) k=_;rw[aJ (st':=.fig::.sign c::r) Kb];by_cases e:x=49
  .subst e;rw[aJ (st':=.more::.sign c::r) Kb,Iv];simp
  .rw[aJ (st':=.sign c::r) (by simp[step,aD,ay,e,show 50<=x/\x<=57 by lia]),c9];simp
 .show walk _ (45::49::x::c::t) k=_;rw[aJ (st':=.fig::.sign c::r) Kb,aJ (st':=.more::.sign c::r) Kb,aJ (st':=.sign c::r) (by simp[step,aD,ay,hx]),c9];simp
def rowsL:List (List Nat)->List Nat
 |[]=>[]
 |[x]=>x
 |x::y::r=>x++47::rowsL (y::r)
def AE(h:aK c):isSg c=true:=by
 unfold aK at h;unfold isSg;rcases h with h|h
 .subst h;rfl
 .have:(decide (49<=c)&&decide (c<=54))=true:=by simp[h]
  rw[this,E5]
def isSign_of(h:isSg c=true):aK c:=by
 unfold isSg at h;unfold aK;simp at h;lia
variable{r:List Wt}
def cV{w h:Nat}:step (.lin w h k::r) c=goesOn w h k c r:=Kb
def eM{w k:Nat}{r:List Wt}:∀(x:List Nat) (h:Nat) (t:List Nat) (j:Nat),(∀c∈x,aK c)->h+x.length<=(if 0<k then w else 8)->walk (.lin w h k::r) (x++t) j=walk (.lin w (h+x.length) k::r) t (j+x.length)
 |[],h,t,j,_,_=>rfl
 |c::x,h,t,j,hs,hl=>by
  rw[Du]at hl ⊢;have h1:step (.lin w h k::r) c=u5 (.lin w (h+1) k::r):=by
   rw[cV];unfold goesOn;rw[if_pos (AE (hs c DC)),if_pos HN]
  rw[Em,aJ h1,eM x (h+1) t (j+1) (λc q=>hs c (Dx _ q)) HN];rw[show h+1+x.length=h+(x.length+1)by lia,show j+1+x.length=j+(x.length+1)by lia]
def rX{wd:Nat}(hw:1<=wd/\wd<=8){r:List Wt}:∀(L:List (List Nat)) (w0 k:Nat) (t:List Nat) (j:Nat),L≠[]->(∀x∈L,x.length=wd/\∀c∈x,aK c)->k+L.length<=8->(0<k->w0=wd)->walk (.lin w0 0 k::r) (rowsL L++59::t) j=walk r t (j+(rowsL L).length+1)
 |[],_,_,_,_,ne,_,_,_=>absurd rfl ne
 |[x],w0,k,t,j,_,hs,hl,hk=>by
  obtain⟨h1,h2⟩:=hs x DC;have hb:0+x.length<=(if 0<k then w0 else 8):=by split<;>lia
  have ns:isSg 59=false:=rfl;have h3:step (.lin w0 (0+x.length) k::r) 59=u5 r:=by
   rw[cV];unfold goesOn;rw[ns,if_neg DK,if_neg HN,if_neg G_,if_pos rfl]
  show walk (.lin w0 0 k::r) (x++59::t) j=walk r t (j+x.length+1);rw[eM x 0 _ j h2 hb,aJ h3]
 |x::y::L,w0,k,t,j,_,hs,hl,hk=>by
  obtain⟨h1,h2⟩:=hs x DC;rw[Du,Du]at hl;have hb:0+x.length<=(if 0<k then w0 else 8):=by split<;>lia
  have ns:isSg 47=false:=rfl;have h3:step (.lin w0 (0+x.length) k::r) 47=u5 (.lin (0+x.length) 0 (k+1)::r):=by
   rw[cV];unfold goesOn;rw[ns,if_neg DK,if_neg HN,if_pos rfl,if_pos HN]
  show walk (.lin w0 0 k::r) ((x++47::rowsL (y::L))++59::t) j=walk r t (j+(x++47::rowsL (y::L)).length+1);rw[D0,Em,eM x 0 _ j h2 hb,aJ h3,rX hw (y::L) (0+x.length) (k+1) t _ (λz=>nomatch z) (λz q=>hs z (Dx _ q)) (by rw[Du];lia) (λ_=>HN)];rw[DB,Du];congr 1;lia
def motL(L:List (List Nat))(a b c d:Int):List Nat:=91::(rowsL L++59::(numL a++44::(numL b++59::(numL c++44::(numL d++[93])))))
def Pat.tl:Pat->List Nat
 |.mot L a b c d=>motL (L.map cs) a b c d
 |.over p q=>40::(p.tl++124::(q.tl++[41]))
 |.sh a b p=>115::(numL a++44::(numL b++58::p.tl))
 |.mir p=>109::p.tl
 |.tur p=>116::p.tl
 |.hue f g p=>104::(numL f++(numL g++p.tl))
def rY:∀L:List G8,cs (Str.join "/" L)=rowsL (L.map cs)
 |[]=>rfl
 |[x]=>rfl
 |x::y::L=>by
  show cs (x++"/"++Str.join "/" (y::L))=cs x++47::rowsL ((y::L).map cs);rw[cw,cw,rY (y::L),D0];rfl
def cB:∀p:Pat,cs p.text=p.tl
 |.mot L a b c d=>by
  show cs (cJ L a b c d)=motL (L.map cs) a b c d;unfold cJ motL;have e:Txt.join "/" L=Str.join "/" L:=StrLaws.glued_eq_join _ _;rw[e]
  repeat rw[cw]
  rw[rY];simp only[D0];rfl
 |.over p q=>by
  rw[Pat.text,Pat.tl]
  repeat rw[cw]
  rw[cB p,cB q];simp only[D0];rfl
 |.sh a b p=>by
  rw[Pat.text,Pat.tl]
  repeat rw[cw]
  rw[cB p];simp only[D0];rfl
 |.mir p=>by
  rw[Pat.text,Pat.tl,cw,cB p];rfl
 |.tur p=>by
  rw[Pat.text,Pat.tl,cw,cB p];rfl
 |.hue f g p=>by
  rw[Pat.text,Pat.tl]
  repeat rw[cw]
  rw[cB p];simp only[D0];rfl
def AF(p:Pat):p.text.length=p.tl.length:=by rw[<-bG,cB]
def hueL(h:1<=f/\f<=6):numL f=[(48+f).toNat]:=by
 have key:∀k:Fin 6,numL (((k.val:Nat):Int)+1)=[49+k.val]:=Hd
 have:=key #[(f-1).toNat,HN];have e:(((f-1).toNat:Nat):Int)+1=f:=HN
 rw[e]at this;rw[this];congr 1;show 49+(f-1).toNat=(48+f).toNat;lia
def bL{d:Nat}:step (.pat d::r) c=aQ d c r:=Kb
def rZ(h:1<=f/\f<=6)(r:List Wt)(t:List Nat)(k:Nat):walk (.hue::r) (numL f++t) k=walk r t (k+1):=by
 rw[hueL h];show walk (.hue::r) ((48+f).toNat::t) k=_;exact aJ (by simp[step,aD,ay];lia)
def AG{c:Int}(hL:Rows L)(ha:B12 a)(hb:B12 b)(hc:B12 c)(hd:B12 d)(n:Nat)(r:List Wt)(t:List Nat)(k:Nat):walk (.pat n::r) (motL (L.map cs) a b c d++t) k=walk r t (k+(motL (L.map cs) a b c d).length):=by
 obtain⟨h1,w,hw,hs⟩:=hL;have G1:∀x∈L.map cs,x.length=w/\∀c∈x,aK c:=λx hx=>by
  obtain⟨l,q1,q2⟩:=D1.mp hx;subst q2;exact#[by rw[bG];exact(hs l q1).1,(hs l q1).2]
 have l9:L.map cs≠[]:=λz=>by have:=congrArg EL z;simp at this;subst this;simp at h1
 unfold motL;simp only[Em,D0,Fu];have c9:∀k,walk (.sign 93::r) (93::t) k=walk r t (k+1):=λk=>aJ Kb;rw[aJ (st':=motW r) (by rw[bL];simp[aQ])];unfold motW;rw[rX hw (L.map cs) 0 0 _ _ l9 G1 (by rw[DJ];lia) (λz=>absurd z HN)];rw[eK (numL_is ha) (.inl rfl),eK (numL_is hb) (.inr (.inl rfl)),eK (numL_is hc) (.inl rfl),eK (numL_is hd) (.inr (.inr (.inr rfl)))];congr 1;simp only[Du,DB,Et];lia
def cC:∀{p:Pat},p.Syn->∀(d:Nat) (r:List Wt) (t:List Nat) (k:Nat),p.depth+d<=5->walk (.pat d::r) (p.tl++t) k=walk r t (k+p.tl.length)
 |.mot L a b c e,h,d,r,t,k,_=>AG h.1 h.2.1 h.2.2.1 h.2.2.2.1 h.2.2.2.2 d r t k
 |.over p q,h,d,r,t,k,hd=>by
  rw[Pat.depth]at hd;have h1:step (.pat d::r) 40=u5 (.pat (d+1)::.sign 124::.pat (d+1)::.sign 41::r):=Rp
  rw[Pat.tl];simp only[Em,D0,Fu];rw[aJ h1,cC h.1 (d+1) _ _ _ HN,aJ (st':=.pat (d+1)::.sign 41::r) Kb,cC h.2 (d+1) _ _ _ HN,aJ (st':=r) Kb];congr 1;simp only[Du,DB,Et];lia
 |.sh a b p,h,d,r,t,k,hd=>by
  rw[Pat.depth]at hd;have h1:step (.pat d::r) 115=u5 (.num::.sign 44::.num::.sign 58::.pat (d+1)::r):=Rp
  rw[Pat.tl];simp only[Em,D0];rw[aJ h1,eK (numL_is h.1) (.inl rfl),eK (numL_is h.2.1) (.inr (.inr (.inl rfl))),cC h.2.2 (d+1) _ _ _ HN];congr 1;simp only[Du,DB];lia
 |.mir p,h,d,r,t,k,hd=>by
  rw[Pat.depth]at hd;have h1:step (.pat d::r) 109=u5 (.pat (d+1)::r):=Rp
  rw[Pat.tl,Em,aJ h1,cC (p:=p) h (d+1) _ _ _ HN,Du];congr 1;lia
 |.tur p,h,d,r,t,k,hd=>by
  rw[Pat.depth]at hd;have h1:step (.pat d::r) 116=u5 (.pat (d+1)::r):=Rp
  rw[Pat.tl,Em,aJ h1,cC (p:=p) h (d+1) _ _ _ HN,Du];congr 1;lia
 |.hue f g p,h,d,r,t,k,hd=>by
  rw[Pat.depth]at hd;have h1:step (.pat d::r) 104=u5 (.hue::.hue::.pat (d+1)::r):=Rp
  rw[Pat.tl];simp only[Em,D0];rw[aJ h1,rZ h.1,rZ h.2.1,cC h.2.2 (d+1) _ _ _ HN];rw[hueL h.1,hueL h.2.1];congr 1;simp only[Du,DB,Et];lia
def se(h:p.Syn)(hd:p.depth<=5):bK p.text=none:=by
 unfold bK;rw[cB];have:=cC h 0 [] [] 0 HN;rw[Ea]at this;rw[this];rfl
def cX{s:Wt}(h:walk (s::r) l k=A'):∃c l' st',l=c::l'/\step (s::r) c=u5 st'/\walk st' l' (k+1)=none:=by
 cases l with
 |nil=>simp[walk]at h
 |cons c l'=>
  rw[walk]at h;cases hs:step (s::r) c with
  |none=>rw[hs]at h;cases h
  |some st'=>rw[hs]at h;exact#[c,l',st',rfl,hs,h]
variable{e:Nat}
def fP(h:walk (.sign e::r) l k=A'):∃t,l=e::t/\walk r t (k+1)=none:=by
 obtain⟨c,l',st',rfl,hs,hw⟩:=cX h;simp[step,aD,ay]at hs;obtain⟨rfl,rfl⟩:=hs;exact#[l',rfl,hw]
def more_inv(he:endS e)(h:walk (.more::.sign e::r) l k=A'):(∃c t,(48<=c/\c<=50)/\l=c::e::t/\walk r t (k+2)=A')\/∃t,l=e::t/\walk r t (k+1)=none:=by
 obtain⟨c,l',st',rfl,hs,hw⟩:=cX h;by_cases hc:48<=c/\c<=50
 .simp[step,aD,ay,hc]at hs;subst hs;obtain⟨t,rfl,n_⟩:=fP hw;exact .inl #[c,t,hc,rfl,n_]
 .simp[step,aD,ay,hc]at hs;obtain⟨rfl,rfl⟩:=hs;exact .inr #[l',rfl,hw]
def eN(he:endS e)(h:walk (.num::.sign e::r) l k=A'):∃n t,isNumL n/\l=n++e::t/\walk r t (k+n.length+1)=none:=by
 obtain⟨c,l',st',rfl,hs,hw⟩:=cX h;have st:step (.num::.sign e::r) c=if c=49 then u5 (.more::.sign e::r)else if c=45 then u5 (.fig::.sign e::r)else if 48<=c/\c<=57 then u5 (.sign e::r)else none:=Kb
 rw[st]at hs;by_cases h1:c=49
 .subst h1;rw[if_pos rfl]at hs;cases hs;rcases more_inv he hw with⟨x,t,hx,rfl,n_⟩|⟨t,rfl,n_⟩
  .exact#[[49,x],t,.inr (.inl #[x,hx,rfl]),rfl,n_]
  .exact#[[49],t,.inl #[49,HN,rfl],rfl,n_]
 .rw[if_neg h1]at hs;by_cases h2:c=45
  .subst h2;rw[if_pos rfl]at hs;cases hs;obtain⟨c2,l2,p9,rfl,g6,u7⟩:=cX hw;have On:step (.fig::.sign e::r) c2=if c2=49 then u5 (.more::.sign e::r)else if 50<=c2/\c2<=57 then u5 (.sign e::r)else none:=by simp[step,aD,ay]
   rw[On]at g6;by_cases h3:c2=49
   .subst h3;rw[if_pos rfl]at g6;cases g6;rcases more_inv he u7 with⟨x,t,hx,rfl,n_⟩|⟨t,rfl,n_⟩
    .exact#[[45,49,x],t,.inr (.inr (.inr #[x,hx,rfl])),rfl,n_]
    .exact#[[45,49],t,.inr (.inr (.inl #[49,HN,rfl])),rfl,n_]
   .rw[if_neg h3]at g6;by_cases h4:50<=c2/\c2<=57
    .rw[if_pos h4]at g6;cases g6;obtain⟨t,rfl,n_⟩:=fP u7;exact#[[45,c2],t,.inr (.inr (.inl #[c2,HN,rfl])),rfl,n_]
    .rw[if_neg h4]at g6;cases g6
  .rw[if_neg h2]at hs;by_cases h4:48<=c/\c<=57
   .rw[if_pos h4]at hs;cases hs;obtain⟨t,rfl,n_⟩:=fP hw;exact#[[c],t,.inl #[c,h4,rfl],rfl,n_]
   .rw[if_neg h4]at hs;cases hs
def rowsT(L:List (List Nat)):List Nat:=L.flatMap λy=>47::y
def sf:∀(x:List Nat) (L:List (List Nat)),rowsL (x::L)=x++rowsT L
 |x,[]=>by simp[rowsL,rowsT]
 |x,y::L=>by
  rw[rowsL,sf y L];simp[rowsT]
def jJ{r:List Wt}:∀(l:List Nat) (w h kk k:Nat),(0<kk->h<=w/\w<=8)->(kk=0->h<=8)->walk (.lin w h kk::r) l k=A'->
  ∃x L t,(∀c∈x,aK c)/\(1<=h+x.length/\h+x.length<=8)/\(0<kk->h+x.length=w)/\(∀y∈L,y.length=h+x.length/\∀c∈y,aK c)/\(L=[]\/kk+L.length<=7)/\l=x++(rowsT L++59::t)/\walk r t (k+x.length+(rowsT L).length+1)=A'
 |[],w,h,kk,k,_,_,hw=>by simp[walk]at hw
 |c::l,w,h,kk,k,i1,i2,hw=>by
  obtain⟨c',l',st',e,hs,hw⟩:=cX hw;cases e;rw[cV]at hs;unfold goesOn at hs;by_cases g1:isSg c=true
  .rw[if_pos g1]at hs;by_cases g2:h<(if 0<kk then w else 8)
   .rw[if_pos g2]at hs;cases hs;have b1:0<kk->h+1<=w/\w<=8:=λz=>by rw[if_pos z]at g2;exact#[g2,(i1 z).2]
    have b2:kk=0->h+1<=8:=λz=>by rw[if_neg HN]at g2;exact g2
    obtain⟨x,L,t,h1,h2,h3,h4,h5,h6,h7⟩:=jJ l w (h+1) kk (k+1) b1 b2 hw;refine#[c::x,L,t,?_,by rw[Du];lia,λz=>by rw[Du];have:=h3 z;lia,λy hy=>#[by rw[Du,(h4 y hy).1];lia,(h4 y hy).2],h5,by rw[h6];rfl,?_]
    .intro c' t_;rcases Dw.mp t_ with e|e
     .rw[e];exact isSign_of g1
     .exact h1 c' e
    .rw[Du];rw[show k+(x.length+1)+(rowsT L).length+1=k+1+x.length+(rowsT L).length+1 by lia];exact h7
   .rw[if_neg g2]at hs;cases hs
  .rw[if_neg g1]at hs;by_cases g2:h=0\/(0<kk/\h<w)
   .rw[if_pos g2]at hs;cases hs
   .rw[if_neg g2]at hs;have bh:1<=h/\h<=8:=by
     rcases Gk kk with z|z
     .exact#[HN,i2 z]
     .have:=i1 z;lia
    have bw:0<kk->h=w:=λz=>by have:=i1 z;lia
    by_cases g3:c=47
    .subst g3;rw[if_pos rfl]at hs;by_cases g4:kk<7
     .rw[if_pos g4]at hs;cases hs;obtain⟨x,L,t,h1,h2,h3,h4,h5,h6,h7⟩:=jJ l h 0 (kk+1) (k+1) (λ_=>#[DO _,bh.2]) (λz=>HN) hw;have e1:0+x.length=h:=h3 HN;refine#[[],x::L,t,λc hc=>(by cases hc),(by simpa using bh),(λz=>by simpa using bw z),?_,.inr ?_,?_,?_]
      .intro y hy;rcases Dw.mp hy with e|e
       .rw[e];exact#[by simp;lia,h1]
       .exact#[by rw[(h4 y e).1];simp;lia,(h4 y e).2]
      .rw[Du];rcases h5 with h5|h5
       .rw[h5];simp;lia
       .lia
      .rw[h6];simp[rowsT]
      .have e2:(rowsT (x::L)).length=1+x.length+(rowsT L).length:=by simp[rowsT];lia
       rw[e2];rw[show k+([]:List Nat).length+(1+x.length+(rowsT L).length)+1=k+1+x.length+(rowsT L).length+1 by simp;lia];exact h7
     .rw[if_neg g4]at hs;cases hs
    .rw[if_neg g3]at hs;by_cases g4:c=59
     .subst g4;rw[if_pos rfl]at hs;cases hs;exact#[[],[],l,λc hc=>(by cases hc),(by simpa using bh),(λz=>by simpa using bw z),λy hy=>(by cases hy),.inl rfl,rfl,hw]
     .rw[if_neg g4]at hs;cases hs
def ofL(l:List Nat):Str:=#[l.toArray]
def cs_ofL(l:List Nat):cs (ofL l)=l:=by simp[cs,ofL]
def AH(L:List (List Nat)):(L.map ofL).map cs=L:=by
 rw[GE];have:(cs ∘ ofL)=id:=by funext l;exact cs_ofL l
 rw[this,List.map_id]
def AI{d:Nat}(h:walk (motW r) l (k+1)=A'):∃L a b c e t,(Pat.mot L a b c e).Syn/\91::l=(Pat.mot L a b c e).tl++t/\walk r t (k+(Pat.mot L a b c e).tl.length)=none:=by
 unfold motW at h;obtain⟨x,L,t,h1,h2,h3,h4,h5,rfl,h7⟩:=jJ l 0 0 0 (k+1) (λz=>HN) (λ_=>HN) h;obtain⟨n1,t1,i1,rfl,h8⟩:=eN (.inl rfl) h7;obtain⟨n2,t2,i2,rfl,h9⟩:=eN (.inr (.inl rfl)) h8;obtain⟨n3,t3,i3,rfl,Oo⟩:=eN (.inl rfl) h9;obtain⟨n4,t4,i4,rfl,Op⟩:=eN (.inr (.inr (.inr rfl))) Oo;obtain⟨a1,b1,e1⟩:=dG i1;obtain⟨a2,b2,e2⟩:=dG i2;obtain⟨a3,b3,e3⟩:=dG i3;obtain⟨a4,b4,e4⟩:=dG i4;rw[EY]at h2 h4;have rows:Rows ((x::L).map ofL):=by
  have hl:1<=L.length+1/\L.length+1<=8:=by
   rcases h5 with h5|h5
   .rw[h5];simp
   .lia
  refine#[by rw[DJ,Du];exact hl,x.length,h2,λs hs=>?_];obtain⟨y,hy,rfl⟩:=D1.mp hs;rw[<-bG,cs_ofL];rcases Dw.mp hy with e|e
  .rw[e];exact#[rfl,h1]
  .exact h4 y e
 have Mz:(Pat.mot ((x::L).map ofL) a1 a2 a3 a4).tl=91::(x++(rowsT L++59::(n1++44::(n2++59::(n3++44::(n4++[93])))))):=by
  show motL _ _ _ _ _=_;unfold motL;rw[AH,sf,e1,e2,e3,e4,D0]
 refine#[(x::L).map ofL,a1,a2,a3,a4,t4,#[rows,b1,b2,b3,b4],?_,?_]
 .rw[Mz];simp
 .rw[Mz];have:k+(91::(x++(rowsT L++59::(n1++44::(n2++59::(n3++44::(n4++[93])))))):List Nat).length=k+1+x.length+(rowsT L).length+1+n1.length+1+n2.length+1+n3.length+1+n4.length+1:=by
   simp only[Du,DB,Et];lia
  rw[this];exact Op
def eO:∀(m d:Nat),m+d=5->∀{r:List Wt} {l:List Nat} {k:Nat},walk (.pat d::r) l k=A'->∃(p:Pat) (t:List Nat),p.Syn/\p.depth+d<=5/\l=p.tl++t/\walk r t (k+p.tl.length)=A'
 |m,d,hm,r,l,k,h=>by
  obtain⟨c,l',st',rfl,hs,hw⟩:=cX h;rw[bL]at hs;unfold aQ at hs;by_cases c1:c=91
  .subst c1;rw[if_pos rfl]at hs;cases hs;obtain⟨L,a,b,c,e,t,h1,h2,h3⟩:=AI (d:=d) hw;exact#[_,t,h1,O1,h2,h3]
  .rw[if_neg c1]at hs;by_cases c2:d=5
   .rw[if_pos c2]at hs;cases hs
   .rw[if_neg c2]at hs;obtain⟨m',rfl⟩:∃m',m=m'+1:=#[m-1,HN];by_cases c3:c=40
    .subst c3;rw[if_pos rfl]at hs;cases hs;obtain⟨p,t,h1,h2,rfl,h4⟩:=eO m' (d+1) HN hw;obtain⟨t1,rfl,h5⟩:=fP h4;obtain⟨q,t2,g1,g2,rfl,g4⟩:=eO m' (d+1) HN h5;obtain⟨t3,rfl,g5⟩:=fP g4;refine#[.over p q,t3,#[h1,g1],O1,by rw[Pat.tl];simp,?_];have:k+(Pat.over p q).tl.length=k+1+p.tl.length+1+q.tl.length+1:=by rw[Pat.tl];simp only[Du,DB,Et];lia
     rw[this];exact g5
    .rw[if_neg c3]at hs;by_cases c4:c=115
     .subst c4;rw[if_pos rfl]at hs;cases hs;obtain⟨n1,t1,i1,rfl,h8⟩:=eN (.inl rfl) hw;obtain⟨n2,t2,i2,rfl,h9⟩:=eN (.inr (.inr (.inl rfl))) h8;obtain⟨a1,b1,e1⟩:=dG i1;obtain⟨a2,b2,e2⟩:=dG i2;obtain⟨p,t,h1,h2,rfl,h4⟩:=eO m' (d+1) HN h9;refine#[.sh a1 a2 p,t,#[b1,b2,h1],O1,by rw[Pat.tl,e1,e2];simp,?_];have:k+(Pat.sh a1 a2 p).tl.length=k+1+n1.length+1+n2.length+1+p.tl.length:=by rw[Pat.tl,e1,e2];simp only[Du,DB];lia
      rw[this];exact h4
     .rw[if_neg c4]at hs;by_cases c5:c=104
      .subst c5;rw[if_pos rfl]at hs;cases hs;obtain⟨f,l1,s1,rfl,k_,p8⟩:=cX hw;simp[step,aD,ay]at k_;obtain⟨hf,rfl⟩:=k_;obtain⟨g,l2,s2,rfl,g6,u7⟩:=cX p8;simp[step,aD,ay]at g6;obtain⟨hg,rfl⟩:=g6;obtain⟨p,t,h1,h2,rfl,h4⟩:=eO m' (d+1) HN u7;have ef:numL ((f:Int)-48)=[f]:=by rw[hueL HN];congr 1;lia
       have eg:numL ((g:Int)-48)=[g]:=by rw[hueL HN];congr 1;lia
       refine#[.hue ((f:Int)-48) ((g:Int)-48) p,t,#[HN,HN,h1],O1,by rw[Pat.tl,ef,eg];simp,?_];have:k+(Pat.hue ((f:Int)-48) ((g:Int)-48) p).tl.length=k+1+1+1+p.tl.length:=by rw[Pat.tl,ef,eg];simp only[Du,DB,Et];lia
       rw[this];exact h4
      .rw[if_neg c5]at hs;by_cases c6:c=109\/c=116
       .rw[if_pos c6]at hs;cases hs;obtain⟨p,t,h1,h2,rfl,h4⟩:=eO m' (d+1) HN hw;have hl:k+(p.tl.length+1)=k+1+p.tl.length:=by lia
        rcases c6 with e|e
        .subst e;exact#[.mir p,t,h1,O1,by rw[Pat.tl];simp,by rw[Pat.tl,Du,hl];exact h4]
        .subst e;exact#[.tur p,t,h1,O1,by rw[Pat.tl];simp,by rw[Pat.tl,Du,hl];exact h4]
       .rw[if_neg c6]at hs;cases hs
def cs_inj{x y:G8}(h:cs x=cs y):x=y:=by
 obtain⟨a⟩:=x;obtain⟨b⟩:=y;have:a=b:=GF.mp h;rw[this]
def AJ{t:G8}(h:bK t=A'):∃p:Pat,p.Syn/\p.depth<=5/\t=p.text:=by
 unfold bK at h;obtain⟨p,l,h1,h2,h3,h4⟩:=eO 5 0 rfl h;have:l=[]:=by
  cases l with
  |nil=>rfl
  |cons c l=>simp[walk,step,aD,ay]at h4
 subst this;rw[Ea]at h3;exact#[p,h1,h2,cs_inj (by rw[cB];exact h3)]
def Pat.lineAt:Pat->Nat->Option Nat
 |.mot _ a b c d,k=>if a*d=b*c then u5 k else A'
 |.over p q,k=>match p.lineAt (k+1)with
  |some j=>u5 j
  |none=>q.lineAt (k+1+p.tl.length+1)
 |.sh a b p,k=>p.lineAt (k+1+(numL a).length+1+(numL b).length+1)
 |.mir p,k=>p.lineAt (k+1)
 |.tur p,k=>p.lineAt (k+1)
 |.hue _ _ p,k=>p.lineAt (k+3)
def Pat.line_wf:∀{p:Pat} (k:Nat),p.Syn->p.lineAt k=A'->p.Wf
 |.mot L a b c d,k,h,e=>by
  refine#[h.1,h.2.1,h.2.2.1,h.2.2.2.1,h.2.2.2.2,λz=>?_];rw[Pat.lineAt,if_pos z]at e;cases e
 |.over p q,k,h,e=>by
  rw[Pat.lineAt]at e;cases hp:p.lineAt (k+1)with
  |some j=>rw[hp]at e;cases e
  |none=>rw[hp]at e;exact#[Pat.line_wf _ h.1 hp,Pat.line_wf _ h.2 e]
 |.sh a b p,k,h,e=>#[h.1,h.2.1,Pat.line_wf _ h.2.2 (by rw[Pat.lineAt]at e;exact e)]
 |.mir p,k,h,e=>Pat.line_wf (p:=p) (k+1) h (by rw[Pat.lineAt]at e;exact e)
 |.tur p,k,h,e=>Pat.line_wf (p:=p) (k+1) h (by rw[Pat.lineAt]at e;exact e)
 |.hue f g p,k,h,e=>#[h.1,h.2.1,Pat.line_wf _ h.2.2 (by rw[Pat.lineAt]at e;exact e)]
def Pat.syn_len:∀{p:Pat},p.Syn->p.text.length+10<=110*2^p.depth
 |.mot L a b c d,h=>by
  have:=rV h.1 h.2.1 h.2.2.1 h.2.2.2.1 h.2.2.2.2;show(cJ L a b c d).length+10<=110*2^0;lia
 |.over p q,h=>by
  have h1:=Pat.syn_len h.1;have h2:=Pat.syn_len h.2;have m1:2^p.depth<=2^(max p.depth q.depth):=Eh G_ (FM _ _);have m2:2^q.depth<=2^(max p.depth q.depth):=Eh G_ (FN _ _);have l1:("(":G8).length=1:=rfl;have l2:("|":G8).length=1:=rfl;have l3:(")":G8).length=1:=rfl;rw[Pat.text,Pat.depth,Ff]
  repeat rw[aq]
  lia
 |.sh a b p,h=>by
  have h1:=Pat.syn_len h.2.2;have la:=bD h.1;have lb:=bD h.2.1;have l1:("s":G8).length=1:=rfl;have l2:(",":G8).length=1:=rfl;have l3:(":":G8).length=1:=rfl;have:0<2^p.depth:=Ei G_;rw[Pat.text,Pat.depth,D2]
  repeat rw[aq]
  lia
 |.mir p,h=>by
  have h1:=Pat.syn_len (p:=p) h;have l1:("m":G8).length=1:=rfl;have:0<2^p.depth:=Ei G_;rw[Pat.text,Pat.depth,D2,aq];lia
 |.tur p,h=>by
  have h1:=Pat.syn_len (p:=p) h;have l1:("t":G8).length=1:=rfl;have:0<2^p.depth:=Ei G_;rw[Pat.text,Pat.depth,D2,aq];lia
 |.hue f g p,h=>by
  have h1:=Pat.syn_len h.2.2;have la:=cT h.1;have lb:=cT h.2.1;have l1:("h":G8).length=1:=rfl;have:0<2^p.depth:=Ei G_;rw[Pat.text,Pat.depth,D2]
  repeat rw[aq]
  lia
def Pat.syn_short(h:p.Syn)(hd:p.depth<=5):p.text.length<=3510:=by
 have h1:=Pat.syn_len h;have h2:2^p.depth<=2^5:=Eh G_ hd;lia
variable{B:Prop}
def ifT{c A:Prop}[Decidable c](h:c)(a:A):if c then A else B:=by rw[if_pos h];exact a
def ifdT{p A:Prop}[Decidable p](h:p)(a:A):if decide p=true then A else B:=by rw[if_pos (decide_eq_true h)];exact a
def ifdF{p A:Prop}[Decidable p](h:¬p)(b:B):if decide p=true then A else B:=by rw[if_neg (by simpa using h)];exact b
def rdF(t:G8)(k:Nat):List (G8×D):=[("text",.str t),("place",.int k)]
def RdM(a:KF)(t:G8)(k:Nat):MS:=[(a,.ins "Reading" (rdF t k))]
variable{o:MO}
def cD{a:KF}:mget [(a,o)] a=u5 o:=by unfold mget;rw[if_pos rfl]
def eQ{a:KF}{o':MO}:mput [(a,o)] a o'=[(a,o')]:=by unfold mput;rw[if_pos rfl]
def aN{a:KF}{t:G8}:mget (RdM a t k) a=u5 (.ins "Reading" (rdF t k)):=cD
def jK{t:G8}:(rdF t k).lookup ("text":G8)=u5 (.str t):=rfl
def cY{t:G8}:(rdF t k).lookup ("place":G8)=u5 (.int k):=by
 unfold rdF;rw[DQ,show(("place":G8)==("text":G8))=false by decide+kernel];rfl
def AK{t:G8}:putD ("place":G8) (.int ((k:Int)+1)) (rdF t k)=rdF t (k+1):=by
 unfold rdF putD;rw[if_neg Hd];unfold putD;rw[if_pos rfl];rfl
def cL{t:G8}:(rdF t k).lookup ("may_take":G8)=none:=by
 unfold rdF;rw[DQ,show(("may_take":G8)==("text":G8))=false by decide+kernel,DQ,show(("may_take":G8)==("place":G8))=false by decide+kernel];rfl
def cf{t:G8}:(rdF t k).lookup ("take":G8)=none:=by
 unfold rdF;rw[DQ,show(("take":G8)==("text":G8))=false by decide+kernel,DQ,show(("take":G8)==("place":G8))=false by decide+kernel];rfl
structure At(t:Str)(k:Nat)(l:List Nat):Prop where
 eq:(cs t).drop k=l
 le:k<=t.length
 sz:t.length<=100000
def At.nil{t:G8}(h:At t k []):k=t.length:=by
 have h1:=congrArg EL h.eq;rw[EN,bG]at h1;have:=h.le;simp at h1;lia
def At.lt{t:G8}(h:At t k (c::l)):k<t.length:=by
 have h1:=congrArg EL h.eq;rw[EN,bG]at h1;simp at h1;lia
def At.get{t:G8}(h:At t k (c::l)):(cs t)[k]?=u5 c:=by
 have h1:=congrArg (·[0]?) h.eq;simpa using h1
def At.next{t:G8}(h:At t k (c::l)):At t (k+1) l:=by
 refine#[?_,h.lt,h.sz];have h1:=congrArg (FD 1) h.eq;rw[List.drop_drop]at h1;simpa using h1
def At.app{t:G8}:∀{x l:List Nat} {k:Nat},At t k (x++l)->At t (k+x.length) l
 |[],_,_,h=>h
 |c::x,l,k,h=>by
  have h1:At t (k+1+x.length) l:=At.app (At.next h);have e:k+1+x.length=k+(c::x).length:=by rw[Du];lia
  rw[e]at h1;exact h1
variable{al:G8}
def si:(!(!(Builtin.Str.occurrences al #[[c].toArray] 0 al.length 1).isEmpty))=!decide (c∈cs al):=by
 rw[StrLaws.found_one]
def mayS(al:G8):List Nat->G8|c::_=>if c∈cs al then#[[c].toArray]else ""|[]=>""
def mayN(al:G8):List Nat->Nat|c::_=>if c∈cs al then 1 else 0|[]=>0
def dH(h:c∈cs al):mayS al (c::l)=#[[c].toArray]:=if_pos h
def dI(h:c∈cs al):mayN al (c::l)=1:=if_pos h
def cZ(h:c∉cs al):mayS al (c::l)="":=if_neg h
def db(h:c∉cs al):mayN al (c::l)=0:=if_neg h
def AL:SiD:=λds R=>∃t:G8,ds=[.str t]/\R (rdF t 0)
def AM:SpM:=λds M R RX=>∃(a:KF) (t:G8) (k:Nat) (l:List Nat) (al:G8),ds=[.ptr a,.str al]/\M=RdM a t k/\At t k l/\R (.str (mayS al l)) (RdM a t (k+mayN al l))
def AN:SpM:=λds M R RX=>∃(a:KF) (t:G8) (k:Nat) (l:List Nat) (al:G8),ds=[.ptr a,.str al]/\M=RdM a t k/\At t k l/\
 (∀c l',l=c::l'->c∈cs al->R (.str #[[c].toArray]) (RdM a t (k+1)))/\((∀c l',l=c::l'->c∉cs al)->∀M',RX "WrongSign" [("place",.int k)] M')
def walk_bad(h1:st≠[])(h:∀c l',l=c::l'->step st c=A'):walk st l k=u5 k:=by
 cases l with
 |nil=>rw[walk,if_neg h1]
 |cons c l=>rw[walk,h c l rfl]
def dJ(h:∀l',l≠e::l'):walk (.sign e::r) l k=u5 k:=
 walk_bad (λz=>nomatch z) λc l' q=>by
  have:c≠e:=λz=>h l' (z ▸ q);simp[step,aD,ay,this]
def dL:walk (.sign e::r) (e::l) k=walk r l (k+1):=aJ Kb
def AO(h:∀d l',l=d::l'->¬(48<=d/\d<=50)):walk (.more::.sign e::r) l k=walk (.sign e::r) l k:=by
 cases l with
 |nil=>simp[walk]
 |cons d l=>
  have:step (.more::.sign e::r) d=step (.sign e::r) d:=by simp[step,aD,h d l rfl]
  rw[walk,walk,this]
variable{pre:List Nat}
def AQ(hp:pre=[]\/pre=[45])(hc:49<=c/\c<=57){x l3:List Nat}(hx:(c=49/\∃d,(48<=d/\d<=50)/\x=[d])\/(x=[]/\(c=49->∀d l',l3=d::l'->¬(48<=d/\d<=50))))(k e:Nat)(r:List Wt)(hl:l=pre++c::(x++l3)):
  walk (.num::.sign e::r) l k=walk (.sign e::r) l3 (k+(pre++c::x).length):=by
 subst hl;have fig:∀k,walk (.fig::.sign e::r) (c::(x++l3)) k=walk (.sign e::r) l3 (k+(c::x).length):=λk=>by
  rcases hx with⟨rfl,d,hd,rfl⟩|⟨rfl,h⟩
  .rw[aJ (st':=.more::.sign e::r) Kb];show walk _ (d::l3) _=_;rw[aJ (st':=.sign e::r) (by simp[step,aD,ay,hd])];rfl
  .by_cases e1:c=49
   .subst e1;rw[aJ (st':=.more::.sign e::r) Kb];show walk _ l3 _=_;rw[AO (h rfl)];rfl
   .rw[aJ (st':=.sign e::r) (by simp[step,aD,ay,e1,show 50<=c/\c<=57 by lia])];rfl
 rcases hp with rfl|rfl
 .have same:step (.num::.sign e::r) c=step (.fig::.sign e::r) c:=by
   by_cases e1:c=49
   .subst e1;simp[step,aD,ay]
   .simp[step,aD,ay,e1,show¬c=45 by lia,show 48<=c/\c<=57 by lia,show 50<=c/\c<=57 by lia]
  have:=fig k;rw[walk]at this;show walk _ (c::(x++l3)) k=_;rw[walk,same,this];simp
 .show walk _ (45::c::(x++l3)) k=_;rw[aJ (st':=.fig::.sign e::r) Kb,fig];congr 1;simp only[DB,Du,Et];lia
def AR(hp:pre=[]\/pre=[45]){l1:List Nat}(hl:l=pre++l1)(h:∀c l',l1=c::l'->¬(49<=c/\c<=57))(h0:pre=[]->∀c l',l1=c::l'->c≠48/\c≠45)(k:Nat)(r:List Wt):walk (.num::r) l k=u5 (k+pre.length):=by
 subst hl;rcases hp with rfl|rfl
 .refine walk_bad (λz=>nomatch z) λc l' q=>?_;have h1:=h c l' q;have h2:=h0 rfl c l' q;simp[step,aD,ay,h2.2,show¬c=49 by lia,show¬(48<=c/\c<=57)by lia]
 .show walk _ (45::l1) k=_;rw[aJ (st':=.fig::r) Kb];refine walk_bad (λz=>nomatch z) λc l' q=>?_;have h1:=h c l' q;simp[step,aD,ay,show¬c=49 by lia,show¬(50<=c/\c<=57)by lia]
def jL(h:B12 x):PySem.intText? #[(numL x).toArray]=u5 x:=
 rW (P:=λx=>PySem.intText? #[(numL x).toArray]=u5 x) h Hd
def eU(x y:List Nat):((#[x.toArray]:G8)++#[y.toArray]:G8)=#[(x++y).toArray]:=by
 apply cs_inj;rw[cw]
def digits19:c∈cs "123456789"↔49<=c/\c<=57:=by
 refine#[λh=>?_,λ⟨h1,h2⟩=>?_]
 .exact(show ∀c∈cs "123456789",49<=c/\c<=57 by decide+kernel) c h
 .obtain⟨k,rfl⟩:=Nat.le.dest h1;exact(show ∀k,k<9->49+k∈cs "123456789" by decide+kernel) k HN
def digits02:c∈cs "012"↔48<=c/\c<=50:=by
 have e:cs "012"=[48,49,50]:=rfl;rw[e];simp;lia
def AS(w:List Nat)(c:Nat):Txt.endswith #[(w++[c]).toArray] "1"=decide (c=49):=by
 unfold Txt.endswith;have e1:("1":G8).length=1:=rfl;have e2:(#[(w++[c]).toArray]:G8).length=w.length+1:=by simp[Str.length]
 rw[e1,e2];have e3:decide (0+1<=w.length+1)=true:=HV
 rw[e3,Bool.true_and,GD];unfold Builtin.Str.subAt;have e4:(#[(w++[c]).toArray]:G8).cps.extract w.length (w.length+("1":G8).length)=[c].toArray:=by
  apply GF.mp;simp[Array.toList_extract,e1]
 rw[e4];have e5:("1":G8).cps=[49].toArray:=rfl;rw[e5];by_cases h:c=49
 .subst h;rfl
 .simp[h]
def AT:SpM:=λds M R RX=>∃(a:KF) (t:G8) (k:Nat) (l:List Nat),ds=[.ptr a]/\M=RdM a t k/\At t k l/\
 (∀x l',B12 x->l=numL x++l'->(∀e r,walk (.num::.sign e::r) l k=walk (.sign e::r) l' (k+(numL x).length))->R (.int x) (RdM a t (k+(numL x).length)))/\
 (∀j:Nat,(∀r,walk (.num::r) l k=u5 j)->∀M',RX "WrongSign" [("place",.int j)] M')
def AU:SpM:=λds M R RX=>∃(a:KF) (t:G8) (k:Nat) (l:List Nat),ds=[.ptr a]/\M=RdM a t k/\At t k l/\
 (∀x y l',B12 x->B12 y->l=numL x++44::(numL y++l')->(∀e r,walk (.num::.sign 44::.num::.sign e::r) l k=walk (.sign e::r) l' (k+(numL x).length+1+(numL y).length))->R (.tup [.int x,.int y]) (RdM a t (k+(numL x).length+1+(numL y).length)))/\
 (∀j:Nat,(∀r,walk (.num::.sign 44::.num::r) l k=u5 j)->∀M',RX "WrongSign" [("place",.int j)] M')
def sgPre:Nat->List Nat->List Nat
 |0,_=>[]
 |_+1,[]=>[]
 |n+1,c::l=>if isSg c=true then c::sgPre n l else[]
def eV(n c:Nat)(l:List Nat):sgPre (n+1) (c::l)=if isSg c=true then c::sgPre n l else[]:=rfl
def sgPre_succ:∀(n:Nat) (l:List Nat),(∃c l',l=sgPre n l++c::l'/\(sgPre n l).length=n/\isSg c=true/\sgPre (n+1) l=sgPre n l++[c])\/(∃l',l=sgPre n l++l'/\(∀c KR,l'=c::KR->isSg c=false)/\∀m,n<=m->sgPre m l=sgPre n l)
 |0,[]=>.inr #[[],rfl,(λ_ _ q=>nomatch q),λm _=>by cases m<;>rfl]
 |0,c::l=>by
  by_cases h:isSg c=true
  .exact .inl #[c,l,rfl,rfl,h,by rw[eV,if_pos h];rfl]
  .refine .inr #[c::l,rfl,λ_ _ q=>?_,λm _=>?_]
   .cases q;simpa using h
   .cases m with
    |zero=>rfl
    |succ m=>rw[eV,if_neg h];rfl
 |n+1,[]=>.inr #[[],rfl,(λ_ _ q=>nomatch q),λm _=>by cases m<;>rfl]
 |n+1,c::l=>by
  by_cases h:isSg c=true
  .have e:∀m,sgPre (m+1) (c::l)=c::sgPre m l:=λm=>by rw[eV,if_pos h]
   rcases sgPre_succ n l with⟨d,l',h1,h2,h3,h4⟩|⟨l',h1,h2,h3⟩
   .refine .inl #[d,l',?_,by rw[e,Du,h2],h3,by rw[e,e,h4];rfl];rw[e];exact congrArg (c::·) h1
   .refine .inr #[l',?_,h2,λm hm=>?_]
    .rw[e];exact congrArg (c::·) h1
    .cases m with
     |zero=>lia
     |succ m=>rw[e,e,h3 m HN]
  .refine .inr #[c::l,?_,λ_ _ q=>?_,λm hm=>?_]
   .rw[eV,if_neg h];rfl
   .cases q;simpa using h
   .cases m with
    |zero=>lia
    |succ m=>rw[eV,if_neg h,eV,if_neg h]
def gS:∀(n:Nat) (l:List Nat),(sgPre n l).length<=n
 |0,_=>Dt _
 |n+1,[]=>DO _
 |n+1,c::l=>by
  rw[sgPre];split
  .rw[Du];exact Nat.succ_le_succ (gS n l)
  .exact DO _
def sgPre_sign:∀(n:Nat) (l:List Nat),∀c∈sgPre n l,aK c
 |0,_,_,h=>by cases h
 |n+1,[],_,h=>by cases h
 |n+1,c::l,d,h=>by
  rw[sgPre]at h;split at h
  .rename_i q;rcases Dw.mp h with e|e
   .rw[e];exact isSign_of q
   .exact sgPre_sign n l d e
  .cases h
def sgPre_split(n:Nat)(l:List Nat):∃l',l=sgPre n l++l'/\((sgPre n l).length=n\/∀c KR,l'=c::KR->isSg c=false):=by
 rcases sgPre_succ n l with⟨d,l',h1,h2,h3,h4⟩|⟨l',h1,h2,h3⟩
 .exact#[d::l',h1,.inl h2]
 .exact#[l',h1,.inr h2]
def signs_is:c∈cs ".123456"↔isSg c=true:=by
 have e:cs ".123456"=[46,49,50,51,52,53,54]:=rfl;rw[e];simp;lia
def dM(x:List Nat):(#[x.toArray]:G8).length=x.length:=by simp[Str.length]
def AV:SpM:=λds M R RX=>∃(a:KF) (t:G8) (k:Nat) (l:List Nat) (n m:Nat),ds=[.ptr a,.int n,.int m]/\M=RdM a t k/\At t k l/\n<=m/\m<=8/\
 (n<=(sgPre m l).length->R (.str #[(sgPre m l).toArray]) (RdM a t (k+(sgPre m l).length)))/\((sgPre m l).length<n->∀M',RX "WrongSign" [("place",.int ((k+(sgPre m l).length:Nat):Int))] M')
def AW{p a:KF}{t:G8}(h:p≠a):mget ((p,o)::RdM a t k) a=u5 (.ins "Reading" (rdF t k)):=by
 unfold mget;rw[if_neg h];exact cD
variable{M:MS}
def cM{p:KF}:mget ((p,o)::M) p=u5 o:=by unfold mget;rw[if_pos rfl]
def sj{p:KF}{o':MO}:mput ((p,o)::M) p o'=(p,o')::M:=by unfold mput;rw[if_pos rfl]
def jM{p:KF}:mdel ((p,o)::M) p=M:=by unfold mdel;rw[if_pos rfl]
structure RowsL(L:List (List Nat))(w:Nat):Prop where
 many:1<=L.length/\L.length<=8
 w1:1<=w
 w8:w<=8
 each:∀x∈L,x.length=w/\∀c∈x,aK c
def gT:∀(L:List (List Nat)) (x:List Nat),L≠[]->rowsL (L++[x])=rowsL L++47::x
 |[],_,h=>absurd rfl h
 |[y],x,_=>rfl
 |y::z::L,x,_=>by
  show y++47::rowsL ((z::L)++[x])=(y++47::rowsL (z::L))++47::x;rw[gT (z::L) x (λq=>nomatch q)];simp
structure LinAt(w h n:Nat)(l:List Nat):Prop where
 h1:1<=h
 n1:1<=n
 one:n=1->h=8\/∀c l',l=c::l'->isSg c=false
 more:2<=n->w=h
def AX{w h:Nat}(H:LinAt w h n l)(hn:n<=8)(stop:n=8\/∀l',l≠47::l')(r:List Wt)(p:Nat):walk (.lin w h (n-1)::r) l p=walk (.sign 59::r) l p:=by
 cases l with
 |nil=>simp[walk]
 |cons c l=>
  have key:step (.lin w h (n-1)::r) c=step (.sign 59::r) c:=by
   rw[cV];unfold goesOn;have Oq:step (.sign 59::r) c=if c=59 then u5 r else none:=Kb
   rw[Oq];have h1:=H.h1;by_cases hs:isSg c=true
   .rw[if_pos hs];have nc:¬c=59:=by rintro rfl;cases hs
    rw[if_neg nc];refine if_neg ?_;by_cases n1:n=1
    .rcases H.one n1 with e|e
     .subst n1;simp;lia
     .rw[e c l rfl]at hs;cases hs
    .have MB:=H.n1;have:=H.more HN;rw[if_pos HN];lia
   .rw[if_neg hs];have g:¬(h=0\/(0<n-1/\h<w)):=by
     have MB:=H.n1;rintro(z|⟨z1,z2⟩)
     .lia
     .have:=H.more HN;lia
    rw[if_neg g];by_cases MC:c=47
    .subst MC;rw[if_pos rfl,if_neg (c:=47=59) G_];refine if_neg ?_;rcases stop with e|e
     .lia
     .exact absurd rfl (e l)
    .rw[if_neg MC]
  rw[walk,walk,key]
def sk{w h:Nat}(H:LinAt w h n (47::l))(hn:n<8)(r:List Wt)(p:Nat):walk (.lin w h (n-1)::r) (47::l) p=walk (.lin h 0 n::r) l (p+1):=by
 refine aJ ?_;rw[cV];unfold goesOn;have h1:=H.h1;have MB:=H.n1;have ns:isSg 47=false:=rfl;rw[ns,if_neg DK,if_neg (by
  rintro(z|⟨z1,z2⟩)
  .lia
  .have:=H.more HN;lia),if_pos rfl,if_pos HN]
 congr 3;lia
def so{w:Nat}{x:List Nat}(hs:∀c∈x,aK c)(hx:x.length<w)(hw:w<=8)(hn:n=0->x=[])(hl:∀c l',l=c::l'->isSg c=false)(r:List Wt)(p:Nat):walk (.lin w 0 n::r) (x++l) p=u5 (p+x.length):=by
 rw[eM x 0 l p hs (by split<;>lia)];refine walk_bad (λz=>nomatch z) λc l' q=>?_;rw[cV];unfold goesOn;rw[hl c l' q,if_neg DK];refine if_pos ?_;by_cases n0:n=0
 .left;rw[hn n0];rfl
 .right;exact#[HN,HN]
def lstD(L:List (List Nat)):List D:=L.map λx=>D.str #[x.toArray]
def AY:SpM:=λds M R RX=>∃(a:KF) (t:G8) (k:Nat) (l:List Nat),ds=[.ptr a]/\M=RdM a t k/\At t k l/\
 (∀(L:List (List Nat)) (w:Nat) l',RowsL L w->l=rowsL L++l'->(∀r,walk (.lin 0 0 0::r) l k=walk (.sign 59::r) l' (k+(rowsL L).length))->R (.lst (lstD L)) (RdM a t (k+(rowsL L).length)))/\
 (∀j:Nat,(∀r,walk (.lin 0 0 0::r) l k=u5 j)->∀M',RX "WrongSign" [("place",.int j)] M')
def hmX(w h s:Int)(i j:Int):Int:=(i-j/h*s)%w
def hRow(w h s:Int)(j:Nat):Nat->List Nat->List ((Int×Int)×Int)->List ((Int×Int)×Int)
 |_,[],kv=>kv
 |i,c::r,kv=>hRow w h s j (i+1) r (if c=46 then kv else sdD kv (hmX w h s i j) ((j:Int)%h) ((c:Int)-48))
def hAll(w h s:Int):Nat->List (List Nat)->List ((Int×Int)×Int)->List ((Int×Int)×Int)
 |_,[],kv=>kv
 |j,x::r,kv=>hAll w h s (j+1) r (hRow w h s j 0 x kv)
def sq(kv:List ((Int×Int)×Int))(x y v:Int):(sdD kv x y v).length<=kv.length+1:=by
 unfold sdD;split
 .lia
 .rw[DB];simp
def AZ(h:49<=c/\c<=54):∃i rest,Builtin.Str.occurrences ".123456" #[[c].toArray] 0 (".123456":G8).length 1=i::rest/\((i:Nat):Int)=(c:Int)-48:=by
 rcases(HN:c=49\/c=50\/c=51\/c=52\/c=53\/c=54)with e|e|e|e|e|e<;>subst e
 .exact#[1,[],Hd,G_]
 .exact#[2,[],Hd,G_]
 .exact#[3,[],Hd,G_]
 .exact#[4,[],Hd,G_]
 .exact#[5,[],Hd,G_]
 .exact#[6,[],Hd,G_]
def A1{x:List Nat}(h:∀c∈x,aK c):(#[x.toArray]:G8).cps.all (·<128)=true:=by
 rw[<-Gc,Ez];intro c hc;have:=h c hc;unfold aK at this;simp;lia
def A2{L:List (List Nat)}{j:Nat}{d:D}(h:(lstD L)[j]?=u5 d):∃x,L[j]?=u5 x/\d=.str #[x.toArray]:=by
 unfold lstD at h;rw[D4]at h;cases e:L[j]? with
 |none=>rw[e]at h;cases h
 |some x=>rw[e]at h;cases h;exact#[x,rfl,rfl]
def A3{x:List Nat}{i:Nat}{d:D}(h:(bQ #[x.toArray])[i]?=u5 d):∃c,x[i]?=u5 c/\d=.str #[[c].toArray]:=by
 unfold bQ at h;rw[D4]at h;cases e:x[i]? with
 |none=>simp[e]at h
 |some c=>simp[e]at h;exact#[c,rfl,h.symm]
def sr{α:Type}{l:List α}{i:Nat}{x:α}(h:l[i]?=u5 x):l.drop i=x::l.drop (i+1):=by
 have hi:i<l.length:=(DN.mp h).1;rw[FP hi];congr 1;rw[DV hi]at h;exact Option.some.inj h
def A4:SpM:=λds M R RX=>∃(L:List (List Nat)) (wd:Nat) (w h s:Int),ds=[.lst (lstD L),.tup [.int w,.int h,.int s]]/\RowsL L wd/\0<w/\0<h/\h<1073741824/\0<=s/\s<1073741824/\R (.dti (hAll w h s 0 L [])) M
def moF(k:Nat)(sh:D)(hu:List ((Int×Int)×Int)):List (G8×D):=[("place",.int k),("shifts",sh),("hues",.dti hu)]
def A5:SiD:=λds R=>∃(k:Nat) (L:List (List Nat)) (wd:Nat) (a b c d:Int),ds=[.int k,.lst (lstD L),.tup [.int a,.int b],.tup [.int c,.int d]]/\RowsL L wd/\B12 a/\B12 b/\B12 c/\B12 d/\
 (a*d=b*c->R (moF k .non []))/\(¬a*d=b*c->∀w h s,FamOf a b c d w h s->R (moF k (.tup [.int w,.int h,.int s]) (hAll w h s 0 L [])))
variable{v:My.D}
def A6:putD ("place":G8) v []=([("place",v)]:List (G8×D)):=rfl
def ss{u:D}:putD ("shifts":G8) v [("place",u)]=([("place",u),("shifts",v)]:List (G8×D)):=by
 unfold putD;rw[if_neg Hd];rfl
def su{t u:D}:putD ("hues":G8) v [("place",t),("shifts",u)]=([("place",t),("shifts",u),("hues",v)]:List (G8×D)):=by
 unfold putD;rw[if_neg Hd];unfold putD;rw[if_neg Hd];rfl
def jN{u:D}:([("place",u),("shifts",v)]:List (G8×D)).lookup ("shifts":G8)=u5 v:=by
 rw[DQ,show(("shifts":G8)==("place":G8))=false by decide+kernel];rfl
def A7:SiD:=λds R=>∃(x y:G8) (fs gs:List (G8×D)),ds=[.obj x fs,.obj y gs]/\R [("above",.obj x fs),("below",.obj y gs)]
def A8:SiD:=λds R=>∃(x:G8) (fs:List (G8×D)) (a b:Int),ds=[.obj x fs,.int a,.int b]/\R [("form",.obj x fs),("x",.int a),("y",.int b)]
def A9:SiD:=λds R=>∃(x:G8) (fs:List (G8×D)),ds=[.obj x fs]/\R [("form",.obj x fs)]
def Ba:SiD:=λds R=>∃(x:G8) (fs:List (G8×D)),ds=[.obj x fs]/\R [("form",.obj x fs)]
def Bb:SiD:=λds R=>∃(x:G8) (fs:List (G8×D)) (a b:Int),ds=[.obj x fs,.int a,.int b]/\R [("form",.obj x fs),("old",.int a),("new",.int b)]
def FormOf:Pat->Nat->D->Prop
 |.mot L a b c d,k,v=>∃sh hu,v=.obj "Motif" (moF k sh hu)/\(a*d=b*c->sh=.non)/\(¬a*d=b*c->∃w h s,FamOf a b c d w h s/\sh=.tup [.int w,.int h,.int s]/\hu=hAll w h s 0 (L.map cs) [])
 |.over p q,k,v=>∃u u',v=.obj "Over" [("above",u),("below",u')]/\FormOf p (k+1) u/\FormOf q (k+1+p.tl.length+1) u'
 |.sh a b p,k,v=>∃u,v=.obj "Shifted" [("form",u),("x",.int a),("y",.int b)]/\FormOf p (k+1+(numL a).length+1+(numL b).length+1) u
 |.mir p,k,v=>∃u,v=.obj "Mirror" [("form",u)]/\FormOf p (k+1) u
 |.tur p,k,v=>∃u,v=.obj "Turn" [("form",u)]/\FormOf p (k+1) u
 |.hue f g p,k,v=>∃u,v=.obj "Rehue" [("form",u),("old",.int f),("new",.int g)]/\FormOf p (k+3) u
def Pat.cls:Pat->G8
 |.mot ..=>"Motif"|.over ..=>"Over"|.sh ..=>"Shifted"|.mir ..=>"Mirror"|.tur ..=>"Turn"|.hue ..=>"Rehue"
def FormOf.nl:∀{k:Nat} {v:D},FormOf p k v->noL v=true:=by
 induction p with
 |mot L a b c d=>
  intro k v h;obtain⟨sh,hu,rfl,h1,h2⟩:=h;have hs:noL sh=true:=by
   by_cases e:a*d=b*c
   .rw[h1 e];rfl
   .obtain⟨w,h,s,_,rfl,_⟩:=h2 e;rfl
  simp[noL,noLF,moF,hs]
 |over p q i j=>
  intro k v h;obtain⟨u,u',rfl,h1,h2⟩:=h;simp[noL,noLF,i h1,j h2]
 |sh a b p i=>
  intro k v h;obtain⟨u,rfl,h1⟩:=h;simp[noL,noLF,i h1]
 |mir p i=>
  intro k v h;obtain⟨u,rfl,h1⟩:=h;simp[noL,noLF,i h1]
 |tur p i=>
  intro k v h;obtain⟨u,rfl,h1⟩:=h;simp[noL,noLF,i h1]
 |hue f g p i=>
  intro k v h;obtain⟨u,rfl,h1⟩:=h;simp[noL,noLF,i h1]
def FormOf.obj(h:FormOf p k v):∃fs,v=.obj p.cls fs:=by
 cases p with
 |mot L a b c d=>obtain⟨sh,hu,rfl,_⟩:=h;exact#[_,rfl]
 |over p q=>obtain⟨_,_,rfl,_⟩:=h;exact#[_,rfl]
 |sh a b p=>obtain⟨_,rfl,_⟩:=h;exact#[_,rfl]
 |mir p=>obtain⟨_,rfl,_⟩:=h;exact#[_,rfl]
 |tur p=>obtain⟨_,rfl,_⟩:=h;exact#[_,rfl]
 |hue f g p=>obtain⟨_,rfl,_⟩:=h;exact#[_,rfl]
def Bc{L:List (List Nat)}{w:Nat}(h:RowsL L w):Rows (L.map λx=>(#[x.toArray]:G8))/\(L.map λx=>(#[x.toArray]:G8)).map cs=L:=by
 refine#[#[by rw[DJ];exact h.many,w,#[h.w1,h.w8],λl hl=>?_],?_]
 .obtain⟨x,hx,rfl⟩:=D1.mp hl;obtain⟨h1,h2⟩:=h.each x hx;exact#[by rw[dM];exact h1,h2]
 .rw[GE];simp[Function.comp_def,cs]
def Bd:SpM:=λds M R RX=>∃(a:KF) (t:G8) (k:Nat) (l:List Nat),ds=[.ptr a]/\M=RdM a t k/\At t k l/\
 (∀p l',p.Syn->p.depth=0->l=p.tl++l'->∀v,FormOf p k v->R v (RdM a t (k+p.tl.length)))/\
 (∀j:Nat,(∀r,walk (.pat 5::r) l k=u5 j)->∀M',RX "WrongSign" [("place",.int j)] M')
def Be{d:Nat}(h:d=5\/∀c l',l=c::l'->c∉cs "(smth"):walk (.pat d::r) l k=walk (.pat 5::r) l k:=by
 rcases h with rfl|h
 .rfl
 .cases l with
  |nil=>simp[walk]
  |cons c l=>
   have hc:=h c l rfl;have e:cs "(smth"=[40,115,109,116,104]:=rfl;rw[e]at hc;simp only[Dw,EW,or_false,not_or]at hc;have:step (.pat d::r) c=step (.pat 5::r) c:=by
    rw[bL,bL];unfold aQ;by_cases Jz:c=91
    .rw[if_pos Jz,if_pos Jz]
    .rw[if_neg Jz,if_neg Jz,if_pos rfl];split
     .rfl
     .rw[if_neg hc.1,if_neg hc.2.1,if_neg hc.2.2.2.2,if_neg (by rintro(z|z);exact hc.2.2.1 z;exact hc.2.2.2.1 z)]
   rw[walk,walk,this]
def hue_dig:c∈cs "123456"↔49<=c/\c<=54:=by
 have e:cs "123456"=[49,50,51,52,53,54]:=rfl;rw[e];simp;lia
def gU(h:49<=c/\c<=54):numL ((c:Int)-48)=[c]:=by
 rw[hueL HN];congr 1;lia
def jO(h:49<=c/\c<=54):walk (.hue::r) (c::l) k=walk r l (k+1):=aJ (by simp[step,aD,ay,h])
def sy(h:∀c l',l=c::l'->c∉cs "123456"):walk (.hue::r) l k=u5 k:=
 walk_bad (λz=>nomatch z) λc l' q=>by
  have:=λz=>h c l' q (hue_dig.mpr z);simp only[step,aD,ay];exact if_neg this
def de(j:Nat):SpM:=λds M R RX=>∃(a:KF) (t:G8) (k:Nat) (l:List Nat) (d:Nat),ds=[.ptr a,.int d]/\M=RdM a t k/\At t k l/\d+j=6/\1<=j/\
 (∀p l',p.Syn->p.depth+d<=5->l=p.tl++l'->∀v,FormOf p k v->R v (RdM a t (k+p.tl.length)))/\(∀i:Nat,(∀r,walk (.pat d::r) l k=u5 i)->∀M',RX "WrongSign" [("place",.int i)] M')
variable{ds:List My.D}
def Bf{R:D->MS->Prop}{RX:XDM}:¬de 0 ds M R RX:=by
 rintro⟨_,_,_,_,_,_,_,_,_,h,_⟩;exact absurd h G_
def sA(j:Nat):SpM:=λds M R RX=>∃(a:KF) (t:G8) (k:Nat) (l:List Nat) (d:Nat),ds=[.ptr a,.int d]/\M=RdM a t k/\At t k l/\d+j=6/\1<=j/\
 (∀p q l',p.Syn->q.Syn->p.depth+d<=5->q.depth+d<=5->l=p.tl++124::(q.tl++41::l')->∀u u',FormOf p k u->FormOf q (k+p.tl.length+1) u'->R (.obj "Over" [("above",u),("below",u')]) (RdM a t (k+p.tl.length+1+q.tl.length+1)))/\
 (∀i:Nat,(∀r,walk (.pat d::.sign 124::.pat d::.sign 41::r) l k=u5 i)->∀M',RX "WrongSign" [("place",.int i)] M')
def sB(j:Nat):SpM:=λds M R RX=>∃(a:KF) (t:G8) (k:Nat) (l:List Nat) (d:Nat),ds=[.ptr a,.int d]/\M=RdM a t k/\At t k l/\d+j=6/\1<=j/\
 (∀x y p l',B12 x->B12 y->p.Syn->p.depth+d<=5->l=numL x++44::(numL y++58::(p.tl++l'))->∀u,FormOf p (k+(numL x).length+1+(numL y).length+1) u->R (.obj "Shifted" [("form",u),("x",.int x),("y",.int y)]) (RdM a t (k+(numL x).length+1+(numL y).length+1+p.tl.length)))/\
 (∀i:Nat,(∀r,walk (.num::.sign 44::.num::.sign 58::.pat d::r) l k=u5 i)->∀M',RX "WrongSign" [("place",.int i)] M')
def sC(j:Nat):SpM:=λds M R RX=>∃(a:KF) (t:G8) (k:Nat) (l:List Nat) (d:Nat),ds=[.ptr a,.int d]/\M=RdM a t k/\At t k l/\d+j=6/\1<=j/\
 (∀c e p l',(49<=c/\c<=54)->(49<=e/\e<=54)->p.Syn->p.depth+d<=5->l=c::e::(p.tl++l')->∀u,FormOf p (k+2) u->R (.obj "Rehue" [("form",u),("old",.int ((c:Int)-48)),("new",.int ((e:Int)-48))]) (RdM a t (k+2+p.tl.length)))/\
 (∀i:Nat,(∀r,walk (.hue::.hue::.pat d::r) l k=u5 i)->∀M',RX "WrongSign" [("place",.int i)] M')
def Pat.Area(p:Pat)(N:Int):Prop:=∃w h s,p.Fam w h s/\w*h<=N
variable{N:Int}
def Pat.Area.small(h:p.Area N){k:Int}(f:p.Fam w k s):0<w/\w<=N/\0<k/\k<=N/\0<=s/\s<w:=by
 obtain⟨w',k',s',f',hb⟩:=h;obtain⟨rfl,rfl,rfl⟩:=f.uniq f';obtain⟨h1,h2⟩:=cS f.f.w0 f.f.h0;exact#[f.f.w0,HN,f.f.h0,HN,f.f.s0,f.f.sw]
def Pat.Area.tur(h:p.Area N):(Pat.tur p).Area N:=by
 obtain⟨w,k,s,f,b⟩:=h;obtain⟨w2,h2,s2,g,e⟩:=jH (s:=s) f.f.w0 f.f.h0;exact#[_,_,_,f.tur g,HN]
abbrev capN:Int:=2^139
def eX(h:0<w)(k:w<=capN):Bt 140 w:=by
 show w.natAbs<2^140;have e:capN=2^139:=rfl;omega
def Pat.Area.le{M:Int}(h:p.Area M)(e:M<=N):p.Area N:=by
 obtain⟨w,k,s,f,b⟩:=h;exact#[w,k,s,f,Ia]
def Bg{c:Int}(h:(Pat.mot L a b c d).Wf):(Pat.mot L a b c d).Area 288:=by
 obtain⟨hL,ha,hb,hc,hd,hn⟩:=h;obtain⟨w,k,s,q,f⟩:=jI (L:=L) hn;refine#[w,k,s,f,?_];have kc:=q.cells;unfold B12 at*;have m1:=cz (a:=a) (d:=d) (A:=12) (B:=12) Ia Ia;have m2:=cz (a:=b) (d:=c) (A:=12) (B:=12) Ia Ia;omega
def Bh{M:Int}(h:p.Area M)(k:q.Area N):(Pat.over p q).Area (M*N):=by
 obtain⟨w1,h1,s1,f1,b1⟩:=h;obtain⟨w2,h2,s2,f2,b2⟩:=k;obtain⟨g,u,M1⟩:=cK w1 w2;obtain⟨k',u',M2⟩:=cK h1 h2;obtain⟨gg,t7,M3⟩:=cK g (h1*h2/k'/h2*s2-h1*h2/k'/h1*s1);have MR:=gQ f1.f.w0 f2.f.w0 f1.f.h0 f2.f.h0 M1 M2 M3;refine#[_,_,_,Pat.Fam.over f1 f2 MR,?_];have c:=MR.cells;have A0:=MR.A0;have wp:=DM MR.w0 MR.h0;generalize (w1*w2/g)*(h1*h2/k'*(g/gg))=x at*;generalize k'*gg=A at*;have e1:=Fd (show 1<=A by omega) (show 0<=x by omega);have p1:=DM f1.f.w0 f1.f.h0;have p2:=DM f2.f.w0 f2.f.h0;have e2:=GC b1 b2 (Int.le_of_lt p2) Ia;rw[<-Int.mul_assoc]at e2;omega
def fQ(d:Nat):(288:Int)^2^d<=288^2^(d+1):=by
 rw[D2,GH,GI];have:(0:Int)<288^2^d:=Int.pow_pos G_;have k:=Fd (show(1:Int)<=288^2^d by omega) (show(0:Int)<=288^2^d by omega);rw[FT]at k;exact k
def cN:∀{p:Pat} (d:Nat),p.Wf->p.depth<=d->p.Area (288^2^d)
 |.mot ..,0,h,_=>Bg h
 |.mot ..,d+1,h,_=>(cN d h (DO _)).le (fQ d)
 |.over p q,0,_,k=>absurd k (by simp[Pat.depth])
 |.over p q,d+1,h,k=>by
  rw[Pat.depth]at k;rw[D2,GH,GI];exact Bh (cN d h.1 Ia) (cN d h.2 Ia)
 |.sh _ _ p,0,_,k=>absurd k (by simp[Pat.depth])
 |.sh a b p,d+1,h,k=>by
  rw[Pat.depth]at k;obtain⟨w,e,s,f,q⟩:=(cN d h.2.2 Ia).le (fQ d);exact#[w,e,s,f.sh a b,q]
 |.mir p,0,_,k=>absurd k (by simp[Pat.depth])
 |.mir p,d+1,h,k=>by
  rw[Pat.depth]at k;obtain⟨w,e,s,f,q⟩:=(cN (p:=p) d h Ia).le (fQ d);exact#[w,e,_,f.mir,q]
 |.tur p,0,_,k=>absurd k (by simp[Pat.depth])
 |.tur p,d+1,h,k=>by
  rw[Pat.depth]at k;exact((cN (p:=p) d h Ia).le (fQ d)).tur
 |.hue _ _ p,0,_,k=>absurd k (by simp[Pat.depth])
 |.hue f g p,d+1,h,k=>by
  rw[Pat.depth]at k;obtain⟨w,e,s,F,q⟩:=(cN d h.2.2 Ia).le (fQ d);exact#[w,e,s,F.hue f g,q]
def jP(h:p.Wf)(k:p.depth<=4):p.Area capN:=(cN 4 h k).le Hd
def Pat.Cal:Pat->Prop
 |.mot ..=>True
 |.over p q=>p.Cal/\q.Cal/\(p.Wf->q.Wf->p.Area capN/\q.Area capN)
 |.sh _ _ p=>p.Cal
 |.mir p=>p.Cal
 |.tur p=>p.Cal/\(p.Wf->p.Area capN)
 |.hue _ _ p=>p.Cal
def Pat.cal_deep:∀{p:Pat},p.depth<=5->p.Cal
 |.mot ..,_=>trivial
 |.over p q,k=>by
  rw[Pat.depth]at k;exact#[Pat.cal_deep Ia,Pat.cal_deep Ia,λh1 h2=>#[jP h1 Ia,jP h2 Ia]]
 |.sh _ _ p,k=>by rw[Pat.depth]at k;exact Pat.cal_deep (p:=p) Ia
 |.mir p,k=>by rw[Pat.depth]at k;exact Pat.cal_deep (p:=p) Ia
 |.tur p,k=>by rw[Pat.depth]at k;exact#[Pat.cal_deep (p:=p) Ia,λh=>jP h Ia]
 |.hue _ _ p,k=>by rw[Pat.depth]at k;exact Pat.cal_deep (p:=p) Ia
def Pat.cls_mem(p:Pat):p.cls∈(["Motif","Over","Shifted","Mirror","Turn","Rehue"]:List G8):=by
 cases p<;>simp[Pat.cls]
def no_look{f g:G8}{r:List (G8×D)}(h:(f==g)=false)(hr:r.lookup f=A'):(((g,v)::r:List (G8×D))).lookup f=none:=by
 rw[DQ,h];exact hr
def FormOf.objm(h:FormOf p k v):∃fs,v=.obj p.cls fs/\fs.lookup ("family":G8)=A'/\fs.lookup ("shows":G8)=none:=by
 cases p with
 |mot L a b c d=>obtain⟨sh,hu,rfl,_⟩:=h;exact#[_,rfl,no_look Hd (no_look Hd (no_look Hd rfl)),no_look Hd (no_look Hd (no_look Hd rfl))]
 |over p q=>obtain⟨_,_,rfl,_⟩:=h;exact#[_,rfl,no_look Hd (no_look Hd rfl),no_look Hd (no_look Hd rfl)]
 |sh a b p=>obtain⟨_,rfl,_⟩:=h;exact#[_,rfl,no_look Hd (no_look Hd (no_look Hd rfl)),no_look Hd (no_look Hd (no_look Hd rfl))]
 |mir p=>obtain⟨_,rfl,_⟩:=h;exact#[_,rfl,no_look Hd rfl,no_look Hd rfl]
 |tur p=>obtain⟨_,rfl,_⟩:=h;exact#[_,rfl,no_look Hd rfl,no_look Hd rfl]
 |hue f g p=>obtain⟨_,rfl,_⟩:=h;exact#[_,rfl,no_look Hd (no_look Hd (no_look Hd rfl)),no_look Hd (no_look Hd (no_look Hd rfl))]
variable{hu:List ((Int×Int)×Int)}
def sE{sh:D}:(moF k sh hu).lookup ("shifts":G8)=u5 sh:=by
 unfold moF;rw[DQ,show(("shifts":G8)==("place":G8))=false by decide+kernel];rfl
def Bi{sh:D}:(moF k sh hu).lookup ("place":G8)=u5 (.int k):=rfl
def jQ{f g:G8}{u:D}{r:List (G8×D)}(h:(g==f)=false):(((f,u)::(g,v)::r:List (G8×D))).lookup g=u5 v:=by
 rw[DQ,h,DQ,beq_self_eq_true]
def Bj{e f g:G8}{t u:D}{r:List (G8×D)}(h1:(g==e)=false)(h2:(g==f)=false):(((e,t)::(f,u)::(g,v)::r:List (G8×D))).lookup g=u5 v:=by
 rw[DQ,h1];exact jQ h2
def bW(j:Nat)(x:G8):SpX:=λds R RX=>∃(p:Pat) (k:Nat) (v:D),ds=[v]/\FormOf p k v/\p.Syn/\p.depth<j/\p.cls=x/\p.Cal/\(∀i:Nat,p.lineAt k=u5 i->RX "OneLine" [("place",.int i)])/\(p.lineAt k=A'->∀w h s,p.Fam w h s->R (.tup [.int w,.int h,.int s]))
def eY{x:G8}{R:D->MS->Prop}{RX:XDM}:¬ofX (bW 0 x) ds M R RX:=by
 rintro⟨_,_,_,_,_,_,h,_⟩;exact absurd h (FQ _)
structure PatOf(p:Pat)(w h s:Int)(fs:List (Str×D)):Prop extends Pat.Fam p w h s where
 form:∃k v,fs.lookup ("form":G8)=u5 v/\FormOf p k v
 nl:noLF fs=true
def sF(p:Pat)(d:D):Prop:=∃w h s fs,d=.obj "Pattern" fs/\fs.lookup ("text":G8)=u5 (.str p.text)/\fs.lookup ("shifts":G8)=u5 (.tup [.int w,.int h,.int s])/\PatOf p w h s fs
def cO{e:Nat}:∀{a b x y:List Nat},e∉a->e∉b->a++e::x=b++e::y->a=b/\x=y
 |[],[],x,y,_,_,h=>by cases h;exact#[rfl,rfl]
 |[],c::b,x,y,_,hb,h=>by
  cases h;exact absurd DC hb
 |c::a,[],x,y,ha,_,h=>by
  cases h;exact absurd DC ha
 |c::a,d::b,x,y,ha,hb,h=>by
  have h':c::(a++e::x)=d::(b++e::y):=h;injection h' with h1 h2;obtain⟨e1,e2⟩:=cO (λz=>ha (Dx _ z)) (λz=>hb (Dx _ z)) h2;exact#[by rw[h1,e1],e2]
def eZ(ha:B12 a)(hb:B12 b)(h:numL a=numL b):a=b:=by
 have h1:=jL ha;rw[h,jL hb]at h1;exact(Option.some.inj h1).symm
def Bk(ha:B12 a):∀c∈numL a,c=45\/(48<=c/\c<=57):=by
 rcases numL_is ha with⟨c,hc,e⟩|⟨c,hc,e⟩|⟨c,hc,e⟩|⟨c,hc,e⟩<;>rw[e]<;>simp<;>lia
def cn(ha:B12 a)(he:endS e):e∉numL a:=λz=>by
 have:=Bk ha e z;unfold endS at he;lia
def rowsL_chars:∀{L:List (List Nat)},(∀x∈L,∀c∈x,aK c)->∀c∈rowsL L,aK c\/c=47
 |[],_,c,h=>by cases h
 |[x],hx,c,h=>.inl (hx x DC c h)
 |x::y::L,hx,c,h=>by
  have h':c∈x++47::rowsL (y::L):=h;rcases D3.mp h' with z|z
  .exact .inl (hx x DC c z)
  .rcases Dw.mp z with z|z
   .exact .inr z
   .exact rowsL_chars (λx q=>hx x (Dx _ q)) c z
def fR(h:aK c):c≠47/\c≠59:=by unfold aK at h;lia
def sG:∀{L M:List (List Nat)},L≠[]->M≠[]->(∀x∈L,∀c∈x,aK c)->(∀x∈M,∀c∈x,aK c)->rowsL L=rowsL M->L=M
 |[],_,h,_,_,_,_=>absurd rfl h
 |_,[],_,h,_,_,_=>absurd rfl h
 |[x],[y],_,_,_,_,h=>by rw[show x=y from h]
 |[x],y::z::M,_,_,hx,_,h=>by
  have h':x=y++47::rowsL (z::M):=h;have:(47:Nat)∈x:=by rw[h'];simp
  exact absurd rfl (fR (hx x DC 47 this)).1
 |x::z::L,[y],_,_,_,hy,h=>by
  have h':x++47::rowsL (z::L)=y:=h;have:(47:Nat)∈y:=by rw[<-h'];simp
  exact absurd rfl (fR (hy y DC 47 this)).1
 |x::z::L,y::z'::M,_,_,hx,hy,h=>by
  have h':x++47::rowsL (z::L)=y++47::rowsL (z'::M):=h;obtain⟨e1,e2⟩:=cO (λq=>(fR (hx x DC 47 q)).1 rfl) (λq=>(fR (hy y DC 47 q)).1 rfl) h';rw[e1,sG (L:=z::L) (M:=z'::M) (λq=>nomatch q) (λq=>nomatch q) (λx q=>hx x (Dx _ q)) (λx q=>hy x (Dx _ q)) e2]
def sH:∀{L M:List G8},L.map cs=M.map cs->L=M
 |[],[],_=>rfl
 |[],_::_,h=>by cases h
 |_::_,[],h=>by cases h
 |x::L,y::M,h=>by
  rw[DZ,DZ]at h;injection h with h1 h2;rw[cs_inj h1,sH h2]
def Bl{L':List G8}{c a' b' c' d':Int}{x y:List Nat}(h:(Pat.mot L a b c d).Syn)(h':(Pat.mot L' a' b' c' d').Syn)(e:(Pat.mot L a b c d).tl++x=(Pat.mot L' a' b' c' d').tl++y):Pat.mot L a b c d=Pat.mot L' a' b' c' d'/\x=y:=by
 have e0:91::(rowsL (L.map cs)++59::(numL a++44::(numL b++59::(numL c++44::(numL d++93::x)))))=91::(rowsL (L'.map cs)++59::(numL a'++44::(numL b'++59::(numL c'++44::(numL d'++93::y))))):=by
  simpa[Pat.tl,motL]using e
 injection e0 with _ e1;have sg:∀{L:List G8},Rows L->∀x∈L.map cs,∀c∈x,aK c:=λ{L} hL x hx=>by
  obtain⟨l,hl,rfl⟩:=D1.mp hx;obtain⟨_,w,_,q⟩:=hL;exact(q l hl).2
 have MD:∀{L:List G8},Rows L->(59:Nat)∉rowsL (L.map cs):=λ{L} hL z=>by
  rcases rowsL_chars (sg hL) 59 z with q|q
  .exact(fR q).2 rfl
  .cases q
 have ne:∀{L:List G8},Rows L->L.map cs≠[]:=λ{L} hL z=>by
  have h1:=hL.many.1;have h2:=congrArg EL z;rw[DJ]at h2;simp at h2;rw[h2]at h1;simp at h1
 obtain⟨q1,e2⟩:=cO (MD h.1) (MD h'.1) e1;obtain⟨q2,e3⟩:=cO (cn h.2.1 (.inl rfl)) (cn h'.2.1 (.inl rfl)) e2;obtain⟨q3,e4⟩:=cO (cn h.2.2.1 (.inr (.inl rfl))) (cn h'.2.2.1 (.inr (.inl rfl))) e3;obtain⟨q4,e5⟩:=cO (cn h.2.2.2.1 (.inl rfl)) (cn h'.2.2.2.1 (.inl rfl)) e4;obtain⟨q5,e6⟩:=cO (cn h.2.2.2.2 (.inr (.inr (.inr rfl)))) (cn h'.2.2.2.2 (.inr (.inr (.inr rfl)))) e5;rw[sH (sG (ne h.1) (ne h'.1) (sg h.1) (sg h'.1) q1),eZ h.2.1 h'.2.1 q2,eZ h.2.2.1 h'.2.2.1 q3,eZ h.2.2.2.1 h'.2.2.2.1 q4,eZ h.2.2.2.2 h'.2.2.2.2 q5];exact#[rfl,e6]
def Pat.head:Pat->Nat
 |.mot ..=>91|.over ..=>40|.sh ..=>115|.mir ..=>109|.tur ..=>116|.hue ..=>104
def Pat.tl_head(p:Pat):∃l,p.tl=p.head::l:=by cases p<;>exact#[_,rfl]
def dN{x y:List Nat}(e:p.tl++x=q.tl++y):p.head=q.head:=by
 obtain⟨l1,e1⟩:=p.tl_head;obtain⟨l2,e2⟩:=q.tl_head;rw[e1,e2]at e;have e':p.head::(l1++x)=q.head::(l2++y):=e;injection e'
def sI(h:1<=f/\f<=6)(h':1<=g/\g<=6)(e:(48+f).toNat=(48+g).toNat):f=g:=HN
def Bm{x y:List Nat}(hp:p.Syn)(hq:q.Syn)(e:p.tl++x=q.tl++y):p=q/\x=y:=by
 have hh:=dN e;induction p generalizing q x y with
 |mot=>
  cases q with
  |mot=>exact Bl hp hq e
  |_=>simp[Pat.head]at hh
 |over p q i1 i2=>
  cases q with
  |over p' q'=>
   have e0:40::(p.tl++124::(q.tl++41::x))=40::(p'.tl++124::(q'.tl++41::y)):=by simpa[Pat.tl]using e
   injection e0 with _ e1;obtain⟨rfl,e2⟩:=i1 hp.1 hq.1 e1 (dN e1);injection e2 with _ e3;obtain⟨rfl,e4⟩:=i2 hp.2 hq.2 e3 (dN e3);injection e4 with _ e5;exact#[rfl,e5]
  |_=>simp[Pat.head]at hh
 |sh a b p i=>
  cases q with
  |sh a' b' p'=>
   have e0:115::(numL a++44::(numL b++58::(p.tl++x)))=115::(numL a'++44::(numL b'++58::(p'.tl++y))):=by simpa[Pat.tl]using e
   injection e0 with _ e1;obtain⟨q2,e3⟩:=cO (cn hp.1 (.inl rfl)) (cn hq.1 (.inl rfl)) e1;obtain⟨q3,e4⟩:=cO (cn hp.2.1 (.inr (.inr (.inl rfl)))) (cn hq.2.1 (.inr (.inr (.inl rfl)))) e3;obtain⟨rfl,e5⟩:=i hp.2.2 hq.2.2 e4 (dN e4);rw[eZ hp.1 hq.1 q2,eZ hp.2.1 hq.2.1 q3];exact#[rfl,e5]
  |_=>simp[Pat.head]at hh
 |mir p i=>
  cases q with
  |mir p'=>
   have e0:109::(p.tl++x)=109::(p'.tl++y):=e;injection e0 with _ e1;obtain⟨rfl,e5⟩:=i (q:=p') hp hq e1 (dN e1);exact#[rfl,e5]
  |_=>simp[Pat.head]at hh
 |tur p i=>
  cases q with
  |tur p'=>
   have e0:116::(p.tl++x)=116::(p'.tl++y):=e;injection e0 with _ e1;obtain⟨rfl,e5⟩:=i (q:=p') hp hq e1 (dN e1);exact#[rfl,e5]
  |_=>simp[Pat.head]at hh
 |hue f g p i=>
  cases q with
  |hue f' g' p'=>
   have e0:104::(numL f++(numL g++(p.tl++x)))=104::(numL f'++(numL g'++(p'.tl++y))):=by simpa[Pat.tl]using e
   rw[hueL hp.1,hueL hp.2.1,hueL hq.1,hueL hq.2.1]at e0;have e1:104::(48+f).toNat::(48+g).toNat::(p.tl++x)=104::(48+f').toNat::(48+g').toNat::(p'.tl++y):=e0;injection e1 with _ e2;injection e2 with e3 e4;injection e4 with e5 e6;obtain⟨rfl,e7⟩:=i hp.2.2 hq.2.2 e6 (dN e6);rw[sI hp.1 hq.1 e3,sI hp.2.1 hq.2.1 e5];exact#[rfl,e7]
  |_=>simp[Pat.head]at hh
def Bn:SiD:=λds R=>∃(t:G8) (w h s:Int) (x:G8) (fs:List (G8×D)),ds=[.str t,.tup [.int w,.int h,.int s],.obj x fs]/\R [("text",.str t),("shifts",.tup [.int w,.int h,.int s]),("form",.obj x fs)]
def Bo:SiD:=λds R=>∃i:Int,ds=[.int i]/\R [("place",.int i)]
def Bp:SiD:=λds R=>∃i:Int,ds=[.int i]/\R [("place",.int i)]
def Bq(hp:p.Wf)(hd:p.depth<=5)(f:p.Fam w h s):Bt 4000 w/\Bt 4000 h:=by
 obtain⟨a1,a2,a3,a4,_⟩:=(cN 5 hp hd).small f;have k:∀{x:Int},0<x->x<=(288:Int)^2^5->Bt 4000 x:=λ{x} x0 hx=>by
  have e:((288^2^5:Nat):Int)=(288:Int)^2^5:=by rw[Int.natCast_pow];rfl
  rw[<-e]at hx;have l:(288:Nat)^2^5<(2^9)^2^5:=Nat.pow_lt_pow_left G_ G_;rw[<-Nat.pow_mul]at l;refine Bt.mono (m:=9*2^5) ?_ G_;show x.natAbs<2^(9*2^5);generalize 288^2^5=N at*;generalize 2^(9*2^5)=M at*;omega
 exact#[k a1 a2,k a3 a4]
def jR:SpX:=λds R RX=>(∃(t:G8) (k:Nat),ds=[.str t]/\t.length<=100000/\bK t=u5 k/\RX "WrongSign" [("place",.int k)])\/
 ∃p:Pat,ds=[.str p.text]/\p.Syn/\p.depth<=5/\(∀k:Nat,p.lineAt 0=u5 k->RX "OneLine" [("place",.int k)])/\(p.lineAt 0=A'->¬p.Fits->RX "TooGreat" [])/\(p.lineAt 0=A'->p.Fits->∀d,sF p d->R d)
end My
end
section
open PySem PySem.Spec PyProof.Rows L2
namespace My
open Exc
section
variable {X:Cx}[J:Jm]{a b c e:Pu}{ta tb te:TME}{pos:PK}
def mTru(te:TME):TMT:=λz M R=>te z M λd M1=>match d with|.bl k=>R k M1|_=>False
end
section
variable {X:Cx}[J:Jm]{a b c e o:Pu}{ta tb te:TME}{pos p b7 a8:PK}{n m:Nat}{ps:List G8}{S:SpM}{x:G8}{es:List Pu}{t:TMA}
def Br(to:TME):TME:=λz M R=>to z M λo M1=>match o with|.ptr a=>∃ds d,mget M1 a=u5 (.lst ds)/\ds[ds.length-1]?=u5 d/\R d (mput M1 a (.lst ds.dropLast))|_=>False
def sJ(ho:ME X o ta)(b9:autoParam (PF o "pop" X.env (PM o X.env)=PM o X.env) zA0)(c7:autoParam ((b7.endLine==a8.line)=true) zA0):ME X (.Call (.Attribute o "pop" b7) [] [] a8) (Br ta):=⟨(vO PySem.F.plainAttrs_list PySem.F.slot_list_pop PySem.F.type_list_pop vT ho.out b9 c7).anti λs H Q q=>by
 obtain⟨F,z,M,k,rs,R,h1,h2⟩:=q;refine#[F,z,M,k,rs,_,h1,λx u M1 F1 H1 g1 hx rx m1=>?_];split at hx
 .rename_i l;obtain⟨ds,d,hm,hl,hR⟩:=hx;obtain⟨us,hH,ru⟩:=m1.ok _ _ (bo hm);obtain⟨v,hv,rv⟩:=ru.get hl;rw[rep_ptr.mp rx];exact#[.inl #[rfl,us,SqL.of hH],l,us,v,rfl,rfl,hH,by rw[ru.length];exact hv,h2 _ _ _ F1 _ (g1.trans (GrowM.put g1.fh (m1.fr l (ca (bo hm))) hm)) hR rv (m1.put hm #[_,aA,ru.init])]
 .exact hx.elim⟩
end
section
variable {X:Cx}[J:Jm]{a:Pu}{ta:TME}{tA:TMT}{pos:PK}
def Bs(ha:ME X a ta)(he:autoParam (∀f9,isTrue a X.env f9=(do let v <-f9;Qx a.pos;Qy [v] (truthy v))) zA3):MT X a (mTru ta):=⟨(ow ha.out he).anti λs H Q q=>by
 obtain⟨F,z,M,k,rs,R,h1,h2⟩:=q;refine#[F,z,M,k,rs,_,h1,λx u M1 F1 H1 g1 hx rx m1=>?_];split at hx
 .rw[rep_bl.mp rx];exact#[_,rfl,h2 _ M1 F1 H1 g1 hx m1]
 .exact hx.elim⟩
def mNot(tA:TMT):TMT:=λz M R=>tA z M λk M1=>R (!k) M1
def Bu(ha:MT X a tA):MT X (.UnaryOp .Not a pos) (mNot tA):=⟨(nR ha.out).anti λs H Q q=>by
 obtain⟨F,z,M,k,rs,R,h1,h2⟩:=q;exact#[F,z,M,k,rs,_,h1,λk M1 F1 H1 g1 hx m1=>h2 _ M1 F1 H1 g1 hx m1]⟩
end
end My
namespace My
section
variable {X:Cx}
def Bv(K:Dr):R2:=λx y H Q=>∃a b xs,x=.ref a/\y=.ref b/\SqL K H a xs/\SqL K H b []/\Q (.bl (!xs.isEmpty)) H
def Bw(hu:X.A.units<QE):OpR X (PJ .NotEq) (Bv X.K):=by
 intro pins s σ H x y v u Q I rx ry h;obtain⟨a,b,xs,rfl,rfl,ha,hb,q⟩:=h;cases rx;cases ry;obtain⟨its,r1,p1,_⟩:=I.list ha;obtain⟨g_,r2,p2,_⟩:=I.list hb;have e2:g_=[]:=EA (L2.Vals.length r2).symm;have e1:=L2.Vals.length r1;subst e2;cases xs with
 |nil=>
  have e3:its=[]:=EA e1.symm;subst e3;exact SeqAt.RcNeAt.lists (e:=λ_=>true) p1.isList p2.isList rfl hu (λj h1 _=>absurd h1 (FQ j)) _ _ _ _ #[.bl false,H,I,rfl,q]
 |cons x xs=>
  refine SeqAt.RcNeAt.lists_lengths p1.isList p2.isList ?_ hu _ _ _ _ #[.bl true,H,I,rfl,q];rw[Dz,Dz,<-e1];rfl
variable {a b c e:Pu}{ta tb:TD}{pos:PK}
end
section
variable {X:Cx}[J:Jm]{a b c e:Pu}{ta tb te:TME}{pos p2:PK}
def By(hu:X.A.units+1<QE)(ha:ME X a ta)(hb:ME X b tb):MT X (.Compare a [.Eq] [b] pos) (mTst (mOp pY ta tb)):=fM (wM hu) wN ha hb (nomark _)
def Bz(ta:TME):TMT:=λz M R=>ta z M λx M1=>match x with|.ptr a=>∃ds,mget M1 a=u5 (.lst ds)/\R (!ds.isEmpty) M1|_=>False
def sK(hu:X.A.units+1<QE)(ha:ME X a ta):MT X (.Compare a [.NotEq] [.List [] p2] pos) (Bz ta):=⟨(gc (Bw HN) ha.out (gL (pos:=p2) bz).out (nomark _)).anti λs H Q q=>by
 obtain⟨F,z,M,k,rs,R,h1,h2⟩:=q;refine#[F,z,M,k,rs,_,h1,λx u M1 F1 H1 g1 hx rx m1=>?_];split at hx
 .rename_i p;obtain⟨ds,hm,hR⟩:=hx;refine#[F1,z,M1,k.growM rs.mb g1,rs.growM k.bh g1 m1,λy M2=>∃p',p'∉az M1/\y=.ptr p'/\M2=(p',.lst [])::M1,#[G_,λp' hp=>#[p',hp,rfl,rfl]],λy v M2 F2 H2 g2 hy ry m2=>?_];obtain⟨p',hp,rfl,rfl⟩:=hy;obtain⟨us,hH,ru⟩:=m2.ok _ _ (Dx _ (bo hm));obtain⟨vs,KS,rv⟩:=m2.ok _ _ DC;have ev:=reps_nil.mp rv;subst ev;have e3:us.isEmpty=ds.isEmpty:=by have:=ru.length;cases us<;>cases ds<;>simp at this ⊢
  exact#[p,p',us,rep_ptr.mp rx,rep_ptr.mp ry,SqL.of hH,SqL.of KS,#[_,rfl,h2 _ _ F2 H2 (g1.trans #[g2.ff,g2.fh,g2.hh,g2.out,λb h=>.inl h]) (by rw[e3];exact hR) #[(Ed.mp m2.nd).2,λb o hb=>m2.ok b o (Dx _ hb),λb hb=>m2.fr b (Dx _ hb)]]]
 .exact hx.elim⟩
end
section
variable {X:Cx}{a b:Pu}{ta tb:TD}{pos p2:PK}
def BA(K:Dr):R2:=λx y H Q=>∃a b xs,x=.ref a/\y=.ref b/\SqL K H a xs/\SqL K H b []/\Q (.bl xs.isEmpty) H
def BB(hu:X.A.units<QE):OpR X (PJ .Eq) (BA X.K):=by
 intro pins s σ H x y v u Q I rx ry h;obtain⟨a,b,xs,rfl,rfl,ha,hb,q⟩:=h;cases rx;cases ry;obtain⟨its,r1,p1,_⟩:=I.list ha;obtain⟨g_,r2,p2,_⟩:=I.list hb;have e2:g_=[]:=EA (L2.Vals.length r2).symm;have e1:=L2.Vals.length r1;subst e2;cases xs with
 |nil=>
  have e3:its=[]:=EA e1.symm;subst e3;exact SeqAt.RcAt.lists (e:=λ_=>true) p1.isList p2.isList rfl hu (λj h1 _=>absurd h1 (FQ j)) _ _ _ _ #[.bl true,H,I,rfl,q]
 |cons x xs=>
  refine SeqAt.RcAt.lists_lengths p1.isList p2.isList ?_ hu _ _ _ _ #[.bl false,H,I,rfl,q];rw[Dz,Dz,<-e1];rfl
end
section
variable {X:Cx}[J:Jm]{a o e:Pu}{ta to te:TME}{pos p2:PK}
def BC(ta:TME):TMT:=λz M R=>ta z M λx M1=>kdP x λa=>∃ds,mget M1 a=u5 (.lst ds)/\R ds.isEmpty M1
def BD(hu:X.A.units+1<QE)(ha:ME X a ta):MT X (.Compare a [.Eq] [.List [] p2] pos) (BC ta):=⟨(gc (BB Ia) ha.out (gL (pos:=p2) bz).out (nomark _)).anti λs H Q q=>by
 obtain⟨F,z,M,k,rs,R,h1,h2⟩:=q;refine#[F,z,M,k,rs,_,h1,λx u M1 F1 H1 g1 hx rx m1=>?_];obtain⟨p,rfl,ds,hm,hR⟩:=kdP.of hx;refine#[F1,z,M1,k.growM rs.mb g1,rs.growM k.bh g1 m1,λy M2=>∃p',p'∉az M1/\y=.ptr p'/\M2=(p',.lst [])::M1,#[G_,λp' hp=>#[p',hp,rfl,rfl]],λy v M2 F2 H2 g2 hy ry m2=>?_];obtain⟨p',hp,rfl,rfl⟩:=hy;obtain⟨us,hH,ru⟩:=m2.ok _ _ (Dx _ (bo hm));obtain⟨vs,KS,rv⟩:=m2.ok _ _ DC;have ev:=reps_nil.mp rv;subst ev;have e3:us.isEmpty=ds.isEmpty:=by have:=ru.length;cases us<;>cases ds<;>simp at this ⊢
 exact#[p,p',us,rep_ptr.mp rx,rep_ptr.mp ry,SqL.of hH,SqL.of KS,#[_,rfl,h2 _ _ F2 H2 (g1.trans #[g2.ff,g2.fh,g2.hh,g2.out,λb h=>.inl h]) (by rw[e3];exact hR) #[(Ed.mp m2.nd).2,λb o hb=>m2.ok b o (Dx _ hb),λb hb=>m2.fr b (Dx _ hb)]]]⟩
def BE(to te:TME):TME:=λz M R=>to z M λo M1=>kdP o λa=>(∃ds,mget M1 a=u5 (.lst ds))/\te z M1 λd M2=>kdL d λxs=>∃ds,mget M2 a=u5 (.lst ds)/\ds.length+xs.length<=100000/\R .non (mput M2 a (.lst (ds++xs)))
def gW{b7 a8:PK}(ho:ME X o to)(he:ME X e te)(k_:autoParam (zSE X e []) zA0)
  (b9:autoParam (PF o "extend" X.env (PM o X.env)=PM o X.env) zA0)
  (f8:autoParam (zHF X a8 [e]) zA0)
  (c7:autoParam ((b7.endLine==a8.line)=true) zA0):
  ME X (.Call (.Attribute o "extend" b7) [e] [] a8) (BE to te):=⟨(dW PySem.F.plainAttrs_list PySem.F.slot_list_extend PySem.F.type_list_extend vS ho.out (bN he.out pa_nil k_) b9 f8 c7 k_).anti λs H Q h=>by
 obtain⟨F,z,M,k,rs,R,h1,h2⟩:=h;refine#[F,z,M,k,rs,_,h1,λx u M1 F1 H1 g1 hx rx m1=>?_];obtain⟨a,rfl,⟨N9,Ir⟩,hx⟩:=kdP.of hx;obtain⟨KD,KE,N_⟩:=m1.ok _ _ (bo Ir);rw[rep_ptr.mp rx];refine#[.inl #[rfl,KD,SqL.of KE],?_];refine#[F1,z,M1,k.growM rs.mb g1,rs.growM k.bh g1 m1,_,hx,λd v M2 F2 H2 g2 hd rd m2=>?_];obtain⟨xs,rfl,ds,hm,hl,hR⟩:=kdL.of hd;obtain⟨vs,hH,rr⟩:=m2.ok _ _ (bo hm);obtain⟨l,us,rfl,hq,ru⟩:=rep_lst.mp rd;refine#[a,l,vs,us,rfl,rfl,hH,g2.fh _ _ hq,?_,?_]
 .rw[rr.length,ru.length];exact Dy hl G_
 .exact h2 _ _ _ F2 _ (g1.trans (g2.trans (GrowM.put g2.fh (m2.fr a (ca (bo hm))) hm))) hR (rep_non.mpr rfl) (m2.put hm #[_,aA,rr.append ru])⟩
end
section
variable {X:Cx}[J:Jx]{a b e:Pu}{ta tb te:TD}{pos:PK}
def BF(i:Nat)(ta tb:TD):TSD:=λE z=>ta z λx=>tb z λy=>kdL x λxs=>kdI y λn=>(-(2^62)<=n/\n<=1000000/\xs.length*n.toNat<=1000000)/\E.nx (z.set i (u5 (.own (DG n.toNat xs).flatten)))
def BG(i:Nat){x:G8}{c_ p2:PK}(hN:X.N.Nodup)(ha:WDE X a ta)(hb:WDE X b tb)(hi:autoParam (X.N[i]?=u5 x) zA0)(hx:autoParam (Loc X.env.scope x) zA4)(hs:autoParam (PV (.BinOp a .Mult b p2) (u5 (.Name x c_)) pos.line X.env=pure false) zA0)
  (hf:autoParam (zFN X x) zA2):WDS X (.Assign [.Name x c_] (.BinOp a .Mult b p2) pos) (BF i ta tb):=⟨(fY hN hi hx (iS pd ha.out hb.out) hs hf).anti λE s H q=>by
 obtain⟨B,F0,F,z,k,rs,ED,h,e⟩:=q;refine#[B,F,z,k.kf,rs,_,h,λx u F1 H1 g1 hx rx=>?_];refine#[B,F1,z,k.kf.grow g1,rs.grow g1,_,hx,λy v F2 H2 g2 hy ry=>?_];obtain⟨xs,rfl,hy⟩:=kdL.of hy;obtain⟨n,rfl,⟨h1,h2,h3⟩,hn⟩:=kdI.of hy;obtain⟨l,vs,rfl,hq,rr⟩:=rep_lst.mp (rx.mono g2.ff);refine#[l,_,vs,rfl,rep_int.mp ry,g2.fh _ _ hq,Ia,Ia,by rw[rr.length];exact Dy h3 G_,λp hp=>?_];have k1:=(k.grow g1).grow g2;have r1:=(rs.grow g1).grow g2;have hB:B p=none:=k1.bh.free hp;have hF:F2 p=none:=k1.fh.free hp;refine e.nx _ _ F2 _ #[k1.bh.trans (aM hp _),k1.fh.trans (aM hp _),k1.f0,k1.out,k1.eb,k1.jf,k1.jo] hn (r1.setOwn hB hF (Reps.rep rr _) λj dj hj e1 e2=>?_);obtain⟨a,us,q1,q2,_⟩:=r1.own j dj e1;rw[e2]at q1;cases q1;rw[hp]at q2;cases q2⟩
def dOAugS(i:Nat)(ti te:TD):TSD:=λE z=>match z[i]? with
 |some (u5 (.own ds))=>ti z λy=>kdI y λk=>∃n:G8,0<=k/\ds[k.toNat]?=u5 (.str n)/\te z λd=>kdS d λm=>n.length+m.length<=1000000/\E.nx (z.set i (u5 (.own (ds.set k.toNat (.str (n++m))))))
 |_=>False
def BH(i:Nat){x:G8}{p1 p2:PK}(hb:WDE X b tb)(he:WDE X e te)(hN:autoParam (X.N[i]?=u5 x) zA0)(hv:autoParam (Vis X.env.scope x) zA5)(hd:autoParam (zND x) zA1)
  (i8:autoParam (zNC x) zA1)
  (ha:autoParam (∀ov iv new,augStore b ov iv new=(do Qy [new,ov,iv] (setItem ov iv new);release [new,ov,iv] [];pure .next)) zA7):
  WDS X (.AugAssign (.Subscript (.Name x p1) b p2) .Add e pos) (dOAugS i tb te):=⟨(tS (dg hN hv hd i8) hb.out zn he.out uu vH ha).anti λE s H q=>by
 obtain⟨B,F0,F,z,k,rs,ED,h,e⟩:=q;unfold dOAugS at h;split at h
 .rename_i ds ez;obtain⟨a,vs,q1,q2,q3,q4,q5⟩:=rs.own i ds ez;refine#[.ref a,q1,B,F,z,k.kf,rs,_,h,λy w F2 H2 g2 hy ry=>?_];obtain⟨k',rfl,n,k0,en,hn⟩:=kdI.of hy;have Hj:F2 a=none:=g2.out a q4 (by rw[q2];exact λz=>nomatch z);obtain⟨v,ev,rv⟩:=q5.get en;refine#[a,vs,_,v,rfl,rep_int.mp ry,k0,SqL.of (g2.hh _ _ q2),ev,B,F2,z,k.kf.grow g2,rs.grow g2,_,hn,λd u F3 H3 g3 hd rd=>?_];obtain⟨m,rfl,hl,hd⟩:=kdS.of hd;have r2:=(rs.grow g2).grow g3;have k2:=(k.grow g2).grow g3;have Jo:F3 a=none:=g3.out a Hj (by rw[g2.hh _ _ q2];exact λz=>nomatch z);rw[rep_str.mp rv,rep_str.mp rd];have g9:=(DN.mp en).1;refine#[_,_,rfl,rfl,Dy hl G_,a,vs,_,k'.toNat,rfl,rep_int.mp ry,g3.hh _ _ (g2.hh _ _ q2),by unfold ixN;rw[q5.length,if_pos k0,if_pos Ia],?_];obtain⟨k3,r3⟩:=r2.change k2 ez q1 q3 Jo (Reps.put (d:=.str _) (v:=.str _) (rep_str.mpr rfl) k'.toNat ((q5.mono g2.ff).mono g3.ff));exact e.nx _ s F3 _ k3 hd r3
 .exact h.elim⟩
end
end My
end
section
namespace My
local macro_rules | `(tactic| k_memK) => `(tactic| exact⟨rfl, rfl, rfl, by decide +kernel, rfl, by decide +kernel, by decide +kernel⟩)
local macro_rules | `(tactic| k_places) => `(tactic| try simp only[DR, DU, My.aZ])
open PySem PySem.Spec PyProof.Rows L2
def top(i:Nat):Stmt:=PySem.Challenge.pw_motiffield_k07_first_wrong_sign.main.body.getD i (.Pass #[0,0,0,0])
abbrev jS:Py:=top 39
abbrev jT:List Str:=["_law_script","_law_k"]
def BI:FnScope ["_law_script","_law_k"] jT (ag jS):=Jf
abbrev jU:Py:=top 40
abbrev jV:List Str:=["_law_script","_law_k","_law_many"]
def sc__law_draws:FnScope ["_law_script","_law_k","_law_many","_law_left","_law_drawn","_law_turn","_law_seed"] jV (ag jU):=Jf
abbrev jW:Py:=top 43
abbrev jX:List Str:=["_law_draws_here"]
def sc__law_lines:FnScope ["_law_draws_here","_law_wide","_law_tall","_law_signs","_law_lines_here","_law_j","_law_line","_law_i","_law_place","_law_value"] jX (ag jW):=Jf
abbrev jY:Py:=top 41
abbrev jZ:List Str:=["_law_draws_here"]
def sc__law_shift_pair:FnScope ["_law_draws_here","_law_a","_law_b","_law_c","_law_d"] jZ (ag jY):=Jf
abbrev kd:Py:=top 42
abbrev ke:List Str:=["_law_lines_here","_law_one","_law_two"]
def sc__law_motif_text:FnScope ["_law_lines_here","_law_one","_law_two","_law_tail"] ke (ag kd):=Jf
abbrev kg:Py:=top 44
abbrev kh:List Str:=["_law_script","_law_k"]
def sc__law_motif:FnScope ["_law_script","_law_k","_law_draws_here","_law_lines_here","_law_one","_law_two","_law_leaf"] kh (ag kg):=Jf
abbrev gX:Py:=top 45
abbrev ki:List Str:=["_law_part","_law_draw"]
def sc__law_wrapped:FnScope ["_law_part","_law_draw","_law_across","_law_down","_law_old","_law_new","_law_shift","_law_head","_law_ways","_law_by","_law_leaves","_law_leaf","_law_a","_law_b","_law_c","_law_d","_law_e","_law_f","_law_way","_law_hues"] ki (ag gX):=Jf
abbrev kj:Py:=top 47
abbrev km:List Str:=["_law_a","_law_b"]
def sc__law_gcd:FnScope ["_law_a","_law_b"] km (ag kj):=Jf
abbrev ko:Py:=top 46
abbrev kq:List Str:=["_law_one","_law_two","_law_u","_law_v"]
def sc__law_on:FnScope ["_law_one","_law_two","_law_u","_law_v","_law_size"] kq (ag ko):=Jf
abbrev kr:Py:=top 49
abbrev ku:List Str:=["_law_leaf"]
def sc__law_leaf_family:FnScope ["_law_leaf","_law_a","_law_b","_law_c","_law_d","_law_e","_law_f","_law_one","_law_two","_law_high","_law_wide","_law_lean"] ku (ag kr):=Jf
abbrev ky:Py:=top 48
abbrev kz:List Str:=["_law_three","_law_x","_law_y"]
def BJ:FnScope ["_law_three","_law_x","_law_y"] kz (ag ky):=Jf
abbrev kA:Py:=top 50
abbrev kB:List Str:=["_law_one","_law_two"]
def sc__law_both:FnScope ["_law_one","_law_two","_law_wide","_law_high","_law_x"] kB (ag kA):=Jf
abbrev kC:Py:=top 51
abbrev kD:List Str:=["_law_leaves"]
def sc__law_family:FnScope ["_law_leaves","_law_both_here","_law_leaf"] kD (ag kC):=Jf
abbrev kE:Py:=top 52
abbrev kF:List Str:=["_law_upper","_law_lower"]
def sc__law_over:FnScope ["_law_upper","_law_lower","_law_leaves"] kF (ag kE):=Jf
abbrev kG:Py:=top 53
abbrev kH:List Str:=["_law_script","_law_k"]
def sc__law_pattern:FnScope ["_law_script","_law_k","_law_plan","_law_part","_law_turn","_law_step","_law_other"] kH (ag kG):=Jf
abbrev kI:Py:=top 55
abbrev kJ:List Str:=["_law_waits","_law_sign_here","_law_deep"]
def sc__law_begins:FnScope ["_law_waits","_law_sign_here","_law_deep","_law_pair","_law_inner"] kJ (ag kI):=Jf
abbrev kK:Py:=top 56
abbrev kL:List Str:=["_law_waits","_law_sign_here","_law_wide","_law_have","_law_done"]
def BK:FnScope ["_law_waits","_law_sign_here","_law_wide","_law_have","_law_done"] kL (ag kK):=Jf
abbrev kM:Py:=top 57
abbrev kN:List Str:=["_law_waits","_law_sign_here"]
def sc__law_takes:FnScope ["_law_waits","_law_sign_here","_law_top"] kN (ag kM):=Jf
abbrev kO:Py:=top 58
abbrev kP:List Str:=["_law_text"]
def sc__law_wrong_place:FnScope ["_law_text","_law_waits","_law_k"] kP (ag kO):=Jf
abbrev kQ:Py:=bB (top 2) 0
abbrev kR:List Str:=["self","place"]
def BL:FnScope ["self","place"] kR (ag kQ):=Jf
abbrev kS:Py:=bB (top 27) 1
abbrev kT:List Str:=["self","allowed"]
def BM:FnScope ["self","allowed"] kT (ag kS):=Jf
abbrev kU:Py:=bB (top 27) 2
abbrev kW:List Str:=["self","allowed"]
def sc_Reading_take:FnScope ["self","allowed","sign"] kW (ag kU):=Jf
abbrev kX:Py:=top 30
abbrev kY:List Str:=["reading","least","most"]
def sc_line_from:FnScope ["reading","least","most","line","column"] kY (ag kX):=Jf
abbrev kZ:Py:=top 31
abbrev lf:List Str:=["reading"]
def sc_lines_from:FnScope ["reading","lines","width"] lf (ag kZ):=Jf
abbrev lh:Py:=top 28
abbrev ll:List Str:=["reading"]
def sc_number_from:FnScope ["reading","written"] ll (ag lh):=Jf
abbrev lm:Py:=top 29
abbrev lp:List Str:=["reading"]
def sc_shift_from:FnScope ["reading","x"] lp (ag lm):=Jf
abbrev lq:Py:=top 6
abbrev lr:List Str:=["first","second"]
def sc_levelled:FnScope ["first","second","times","rest"] lr (ag lq):=Jf
abbrev lu:Py:=top 8
abbrev lv:List Str:=["first","second"]
def sc_spread:FnScope ["first","second","pair","width"] lv (ag lu):=Jf
abbrev lx:Py:=top 9
abbrev ly:List Str:=["family","x","y"]
def sc_home:FnScope ["family","x","y","width","height","slant"] ly (ag lx):=Jf
abbrev lz:Py:=top 15
abbrev lC:List Str:=["lines","family"]
def sc_hues_by_home:FnScope ["lines","family","hues","row","line","column","sign"] lC (ag lz):=Jf
abbrev lD:Py:=bB (top 16) 0
abbrev lF:List Str:=["self","place","lines","first","second"]
def BN:FnScope ["self","place","lines","first","second"] lF (ag lD):=Jf
abbrev lG:Py:=top 32
abbrev lH:List Str:=["reading"]
def sc_motif_from:FnScope ["reading","place","lines","first","second"] lH (ag lG):=Jf
abbrev lJ:Py:=bB (top 19) 0
abbrev lK:List Str:=["self","form"]
def BO:FnScope ["self","form"] lK (ag lJ):=Jf
abbrev lM:Py:=bB (top 20) 0
abbrev lN:List Str:=["self","form"]
def BP:FnScope ["self","form"] lN (ag lM):=Jf
abbrev lP:Py:=bB (top 17) 0
abbrev lQ:List Str:=["self","above","below"]
def BQ:FnScope ["self","above","below"] lQ (ag lP):=Jf
abbrev lR:Py:=bB (top 18) 0
abbrev lU:List Str:=["self","form","x","y"]
def BR:FnScope ["self","form","x","y"] lU (ag lR):=Jf
abbrev lV:Py:=bB (top 21) 0
abbrev lW:List Str:=["self","form","old","new"]
def BS:FnScope ["self","form","old","new"] lW (ag lV):=Jf
abbrev gY:Py:=top 33
abbrev fS:List Str:=["reading","around"]
def sc_over_from:FnScope ["reading","around","above","below"] fS (ag gY):=Jf
abbrev gZ:Py:=top 34
abbrev fT:List Str:=["reading","around"]
def sc_shifted_from:FnScope ["reading","around","shift"] fT (ag gZ):=Jf
abbrev hU:Py:=top 35
abbrev fU:List Str:=["reading","around"]
def sc_rehue_from:FnScope ["reading","around","old","new"] fU (ag hU):=Jf
abbrev hV:Py:=top 36
abbrev cE:List Str:=["reading","around"]
def sc_form_from:FnScope ["reading","around","sign"] cE (ag hV):=Jf
abbrev lY:Py:=bB (top 27) 0
abbrev lZ:List Str:=["self","text"]
def BT:FnScope ["self","text"] lZ (ag lY):=Jf
abbrev ma:Py:=bB (top 26) 0
abbrev md:List Str:=["self","text","shifts","form"]
def BU:FnScope ["self","text","shifts","form"] md (ag ma):=Jf
abbrev me:Py:=bB (top 3) 0
abbrev mf:List Str:=["self","place"]
def BV:FnScope ["self","place"] mf (ag me):=Jf
abbrev mi:Py:=top 7
abbrev mj:List Str:=["one","two"]
def sc_measure:FnScope ["one","two","last"] mj (ag mi):=Jf
abbrev ml:Py:=top 10
abbrev mm:List Str:=["one","two"]
def sc_met:FnScope ["one","two","common","width","rise","start","gap","climbs","steps"] mm (ag ml):=Jf
abbrev mn:Py:=top 11
abbrev mo:List Str:=["family"]
def BW:FnScope ["family"] mo (ag mn):=Jf
abbrev mq:Py:=top 12
abbrev mv:List Str:=["family"]
def BX:FnScope ["family"] mv (ag mq):=Jf
abbrev hZ:Py:=bB (top 16) 1
abbrev cx:List Str:=["self"]
def BY:FnScope ["self"] cx (ag hZ):=Jf
abbrev ia:Py:=bB (top 17) 1
abbrev ib:List Str:=["self"]
def sc_Over_family:FnScope ["self","first"] ib (ag ia):=Jf
abbrev ic:Py:=bB (top 18) 1
abbrev ie:List Str:=["self"]
def BZ:FnScope ["self"] ie (ag ic):=Jf
abbrev ig:Py:=bB (top 19) 1
abbrev ii:List Str:=["self"]
def B0:FnScope ["self"] ii (ag ig):=Jf
abbrev ij:Py:=bB (top 20) 1
abbrev ik:List Str:=["self"]
def B1:FnScope ["self"] ik (ag ij):=Jf
abbrev il:Py:=bB (top 21) 1
abbrev im:List Str:=["self"]
def B2:FnScope ["self"] im (ag il):=Jf
abbrev mx:Py:=top 37
abbrev my:List Str:=["text"]
def sc_read:FnScope ["text","reading","form","family"] my (ag mx):=Jf
abbrev mz:Py:=top 54
abbrev mB:List Str:=["_law_found"]
def B3:FnScope ["_law_found"] mB (ag mz):=Jf
abbrev mC:Py:=top 62
abbrev mD:List Str:=["_law_text"]
def sc__law_fine:FnScope ["_law_text","_law_due","_law_told","_law_good","_law_e"] mD (ag mC):=Jf
abbrev mF:Py:=top 59
abbrev mG:List Str:=[]
def sc__law_all_signs:FnScope ["_law_signs"] mG (ag mF):=Jf
abbrev mH:Py:=top 60
abbrev mI:List Str:=["_law_draw"]
def B4:FnScope ["_law_draw"] mI (ag mH):=Jf
abbrev io:Py:=top 61
abbrev mJ:List Str:=["_law_text","_law_kind","_law_place","_law_draws_here"]
def sc__law_spoiled:FnScope ["_law_text","_law_kind","_law_place","_law_draws_here","_law_k","_law_sign_here","_law_other","_law_line","_law_lines_here"] mJ (ag io):=Jf
abbrev ip:Py:=top 63
abbrev mK:List Str:=["_law_script"]
def sc_law:FnScope ["_law_script","_law_text","_law_draws_here","_law_place","_law_k","_law_sign_here"] mK (ag ip):=Jf
def B5{x q:G8}{st:Py}(b:∀(kV doc pm:GT) (an:Option KF) (cdv ct:GT),Qa (fnOf x q (bI st) (aP st) (ag st) .none kV doc pm an cdv ct) #[[],[]]=pure []):BindA x q st []:=λkV doc pm an cdv ct us hl=>by
 cases len_0 hl;exact b kV doc pm an cdv ct
def Wt.D:Wt->My.D
 |.sign c=>.tup [.str "sign",.str #[[c].toArray]]
 |.pat d=>.tup [.str "pattern",.int d]
 |.lin w h k=>.tup [.str "lines",.int w,.int h,.int k]
 |.hue=>.tup [.str "hue"]
 |.num=>.tup [.str "number"]
 |.fig=>.tup [.str "figure"]
 |.more=>.tup [.str "more"]
def wtL(st:List Wt):List My.D:=st.reverse.map Wt.D
def bT(x:Wt)(r:List Wt):wtL (x::r)=wtL r++[x.D]:=by
 unfold wtL;rw[List.reverse_cons,Ef];rfl
def cq(r:List Wt):(wtL r).length=r.length:=by unfold wtL;simp
def aR{p:KF}{o:MO}{M:MS}:mget ((p,o)::M) p=u5 o:=if_pos rfl
def bX{p:KF}{o o':MO}{M:MS}:mput ((p,o)::M) p o'=(p,o')::M:=if_pos rfl
variable{a b:Nat}
def chr_eq:decide ((#[[a].toArray]:G8)=#[[b].toArray])=decide (a=b):=by
 by_cases h:a=b
 .rw[h];simp
 .have:¬((#[[a].toArray]:G8)=#[[b].toArray]):=λz=>h (by cases z;rfl);rw[decide_eq_false h,decide_eq_false this]
def cr(h:decide ((#[[a].toArray]:G8)=#[[b].toArray])=true):a=b:=by
 rw[chr_eq]at h;exact of_decide_eq_true h
def cF(h:¬decide ((#[[a].toArray]:G8)=#[[b].toArray])=true):a≠b:=by
 rw[chr_eq]at h;exact λe=>h (decide_eq_true e)
def iteN{A B:Prop}{k:Bool}(e:k=false)(b:B):if k=true then A else B:=by rw[e];exact b
def B6{x:Wt}{r st:List Wt}{c:Nat}(h:ay (x::r) c=u5 st):st.length<=r.length+9:=by
 cases x
 all_goals rw[ay]at h
 all_goals (try unfold aQ at h)
 all_goals (try unfold goesOn at h)
 all_goals repeat' split at h
 all_goals first|(cases h;done)|(cases h;simp[motW];done)|(cases h;simp;done)|(cases h;simp;lia)|(cases h;lia)
def Wt.tup(x:Wt):∃xs,x.D=.tup xs/\xs.all bE=true/\eqFs xs [.str "more"]=decide (x=.more):=by
 have n1:decide (("sign":G8)="more")=false:=Hd
 have n2:decide (("pattern":G8)="more")=false:=Hd
 have n3:decide (("lines":G8)="more")=false:=Hd
 have n4:decide (("hue":G8)="more")=false:=Hd
 have n5:decide (("number":G8)="more")=false:=Hd
 have n6:decide (("figure":G8)="more")=false:=Hd
 cases x with
 |sign c=>exact#[_,rfl,rfl,by show(decide (("sign":G8)="more")&&_)=_;rw[n1];rfl]
 |pat c=>exact#[_,rfl,rfl,by show(decide (("pattern":G8)="more")&&_)=_;rw[n2];rfl]
 |lin a b c=>exact#[_,rfl,rfl,by show(decide (("lines":G8)="more")&&_)=_;rw[n3];rfl]
 |hue=>exact#[_,rfl,rfl,by show(decide (("hue":G8)="more")&&_)=_;rw[n4];rfl]
 |num=>exact#[_,rfl,rfl,by show(decide (("number":G8)="more")&&_)=_;rw[n5];rfl]
 |fig=>exact#[_,rfl,rfl,by show(decide (("figure":G8)="more")&&_)=_;rw[n6];rfl]
 |more=>exact#[_,rfl,rfl,Hd]
def B7{xs:List D}{d:D}:atI (xs++[d]) (-1)=u5 d:=by
 have e:ixN (xs++[d]).length (-1)=u5 xs.length:=by
  rw[DB,Fs];unfold ixN;simp;lia
 unfold atI;rw[e];simp
def mL(l:List Nat):cs (#[l.toArray]:G8)=l:=HV
variable{y:G8}
def B8(h:a<=b):(Txt.slice y (u5 (a:Int)) (u5 (b:Int))).length<=b-a:=by
 rw[<-bG,slice_cps,mL,HT.sIx_nat,HT.sIx_nat,Ep];lia
def mM{k:Nat}:(Txt.slice y A' (u5 (k:Int))).length<=k:=by
 rw[<-bG,slice_cps,mL,HT.sIx_none,HT.sIx_nat,Ep];lia
def iq{k:Nat}:(Txt.slice y (u5 (k:Int)) A').length<=y.length-k:=by
 rw[<-bG,slice_cps,mL,HT.sIx_none,HT.sIx_nat,Ep];by_cases h:k<=y.length
 .lia
 .lia
def ir{l:List Nat}{i:Int}(h0:0<=i)(h1:i<l.length):∃c,atI l i=u5 c:=by
 have:atI l ((i.toNat:Nat):Int)=u5 (l[i.toNat]' HN):=dh (DV HN);rw[Fk h0]at this;exact#[_,this]
def iu{b:Nat}:∀{L:List G8},(∀s∈L,s.length<=b)->(L.map (·.length)).sum<=L.length*b
 |[],_=>DO _
 |x::L,h=>by
  have:=iu (L:=L) λs hs=>h s (Dx _ hs);have hx:=h x DC;rw[DZ,Gx,Du,E3];lia
def sL{sep:G8}{L:List G8}(h:∀s∈L,s.length<=b):(Txt.join sep L).length<=L.length*b+L.length*sep.length:=by
 have e:Txt.join sep L=Str.join sep L:=StrLaws.glued_eq_join _ _;rw[e];have:=StrLaws.join_length_le sep L;have:=iu h;lia
section
variable {V:Bx}
abbrev iw(V:Bx):Prop:=V.D 1 "_law_at" jT zH
def B9(T:V.T "_law_at" jS jT)(uA:V.m "len"):iw V:=by
 refine Tx.okDW T BI (λds R h=>?_) (λf cdv A outer s H E J hr=>⟨_,((ai (bj (dY (aa 1) (cP uA (ac (aa 0) ae))) (ar (aC (af (aa 0) (aa 1)))) aU)
   (ar (aC ad)))),λds R h=>?_⟩)
 .obtain⟨ns,k,rfl,_⟩:=h;rfl
 .obtain⟨ns,k,rfl,hk,hR⟩:=h;refine ite2 (λc=>?_) (λc=>?_)
  .have c':=of_decide_eq_true c;rw[DJ]at c';exact#[_,rJ hk c',hR]
  .have c':=of_decide_eq_false (D7.mpr c);rw[DJ]at c';rw[zG HN]at hR;exact hR
abbrev fV(V:Bx):Prop:=V.D 2 "_law_draws" jV zT
def Ca(T:V.T "_law_draws" jU jV)(uH:V.m "range")(uM:iw V):fV V:=by
 refine Tx.okDW T sc__law_draws (λds R h=>?_) (λf cdv A outer s H E J hr=>⟨_,((ai (am 3 sc__law_draws.nd (aF uM hr (ac (aa 0) (ac (aa 1) ae))))
   (ai (jl 4 sc__law_draws.nd ae)
   (ai (bj (aI (aw (aF uM hr (ac (aa 0) (ac (aj (aa 1) ad) ae))) ad) ad) (ai (fK 5 PassesOwn.never rfl sc__law_draws.nd uH (aa 2) (ai (gv 4 (aw (aa 3) ad))
     (ar (am 3 sc__law_draws.nd (bt (aa 3) ad)))))
    (fE 4 (ar (aC (aa 4))))) aU)
   (ai (am 6 sc__law_draws.nd (aw (aj (aa 3) ad) ad))
   (ai (fK 5 PassesOwn.never rfl sc__law_draws.nd uH (aa 2) (ai (am 6 sc__law_draws.nd (aw (aj (aj (aH (aa 6) ad) (aF uM hr (ac (aa 0) (ac (aj (aj (aa 1) ad) (aw (aa 5) ad)) ae)))) (aa 5)) ad))
    (ar (gv 4 (aw (aw (aH (aa 6) ad) ad) ad)))))
   (fE 4 (ar (aC (aa 4)))))))))),λds R h=>?_⟩)
 .obtain⟨_,_,_,rfl,_⟩:=h;rfl
 .obtain⟨ns,k,n,rfl,hk,hn,hR⟩:=h;refine#[λd=>∃v:Int,d=.int v,#[ns,k,rfl,hk,_,rfl],?_];rintro _⟨left,rfl⟩;k_places;refine#[HV,?_];refine#[ns,k+1,rfl,HN,G_,ite2 (λ_=>?_) (λ_=>?_)]
  .refine#[#[HN,HN],λi z=>∃(xs:List Int) (l:Int) (o p:Option D),z=[u5 (.rol (ns.map D.int)),u5 (.int k),u5 (.int n),u5 (.int l),u5 (.own (xs.map D.int)),o,p]/\xs.length=i/\Drawn xs,#[[],left,_,_,rfl,rfl,(λx hx=>by cases hx)],?_,?_]
   .rintro i x z hi⟨xs,l,o,p,rfl,hl,hd⟩;k_places;have Iw:i<n:=by simpa using(DN.mp hi).1
    refine#[G_,by simp;lia,?_];refine#[λd=>∃v:Int,d=.int v,#[#[G_,G_],_,rfl],?_];rintro _⟨l',rfl⟩;k_places;rw[rM];exact#[_,l',_,_,rfl,by simp[hl],rN hd (cb G_) (ce G_)]
   .rintro z⟨xs,l,o,p,rfl,hl,hd⟩;k_places;exact hR xs (by simpa using hl) hd
  .refine#[λd=>∃v:Int,d=.int v/\0<=v/\v<2147483647,#[G_,_,rfl,cb G_,ce G_],?_];rintro _⟨KU,rfl,s1,s2⟩;k_places;refine#[#[HN,HN],λi z=>∃(xs:List Int) (sd:Int) (o:Option D),z=[u5 (.rol (ns.map D.int)),u5 (.int k),u5 (.int n),u5 (.int left),u5 (.own (xs.map D.int)),o,u5 (.int sd)]/\xs.length=i/\Drawn xs/\0<=sd/\sd<2147483647,#[[],KU,_,rfl,rfl,(λx hx=>by cases hx),s1,s2],?_,?_]
   .rintro i x z hi⟨xs,sd,o,rfl,hl,hd,s1,s2⟩;k_places;have Iw:i<n:=by simpa using(DN.mp hi).1
    have ex:x=.int (i:Int):=by simp[Iw]at hi;exact hi.symm
    subst ex;refine#[λd=>∃v:Int,d=.int v/\0<=v/\v<2147483647,#[.inr #[G_,G_],G_,ns,_,rfl,HN,G_,_,rfl,cb G_,ce G_],?_];rintro _⟨Ot,rfl,t1,t2⟩;k_places;refine#[.inr #[G_,G_],G_,G_,by simp;lia,?_];rw[rM];exact#[_,Ot,_,rfl,by simp[hl],rN hd (cb G_) (ce G_),t1,t2]
   .rintro z⟨xs,sd,o,rfl,hl,hd,_⟩;k_places;exact hR xs (by simpa using hl) hd
abbrev mN(V:Bx):Prop:=V.D 1 "_law_lines" jX Ag
def Cb(T:V.T "_law_lines" jW jX)(uH:V.m "range")(uA:V.m "len"):mN V:=by
 refine Tx.okDW T sc__law_lines (λds R h=>?_) (λf cdv A outer s H E J hr=>⟨_,((ai (am 1 sc__law_lines.nd (aj ad (aw (af (aa 0) ad) ad)))
   (ai (am 2 sc__law_lines.nd (aj ad (aw (af (aa 0) ad) ad)))
   (ai (fF (aI (aw (af (aa 0) ad) ad) ad) (ai (am 1 sc__law_lines.nd (aj ad (aw (af (aa 0) ad) ad)))
    (ar (am 2 sc__law_lines.nd (aj ad (aw (af (aa 0) ad) ad))))) aU)
   (ai (am 3 sc__law_lines.nd (af (aY (ac ak (ac ak (ac ak (ac ak ae))))) (aw (af (aa 0) ad) ad)))
   (ai (jl 4 sc__law_lines.nd ae)
   (ai (fK 5 PassesOwn.never rfl sc__law_lines.nd uH (aa 2) (ai (am 6 sc__law_lines.nd ak)
    (ai (fK 7 PassesOwn.never rfl sc__law_lines.nd uH (aa 1) (ai (am 8 sc__law_lines.nd (aj (aH (aa 5) (aa 1)) (aa 7)))
     (ai (am 9 sc__law_lines.nd (aw (bt (af (aa 0) (aj ad (bt (aa 8) ad))) (af (aY (ac ad (ac ad ae))) (aw (aa 8) ad))) ad))
     (ar (am 6 sc__law_lines.nd (aj (aa 6) (af (aa 3) (aw (aa 9) (cP uA (ac (aa 3) ae))))))))))
    (ar (gv 4 (aa 6))))))
   (fE 4 (ar (aC (aa 4))))))))))),λds R h=>?_⟩)
 .obtain⟨_,rfl,_⟩:=h;rfl
 .obtain⟨xs,rfl,hl,hd,hR⟩:=h;have x8:∀k:Nat,k<40->atI (xs.map D.int) (k:Int)=u5 (.int (cell xs k)):=λk hk=>cA HN (by simpa using(HN:k<xs.length));have a0:atI (xs.map D.int) 0=u5 (.int (cell xs 0)):=x8 0 G_;have a1:atI (xs.map D.int) 1=u5 (.int (cell xs 1)):=x8 1 G_;have a2:atI (xs.map D.int) 2=u5 (.int (cell xs 2)):=x8 2 G_;have a3:atI (xs.map D.int) 3=u5 (.int (cell xs 3)):=x8 3 G_;clear hl;refine#[λd=>∃v:Int,d=.int v/\1<=v/\v<=8,#[_,a0,G_,_,rfl,HN],?_];rintro _⟨w0,rfl,Pb⟩;k_places;refine#[λd=>∃v:Int,d=.int v/\1<=v/\v<=8,#[_,a1,G_,_,rfl,HN],?_];rintro _⟨t0,rfl,Pc⟩;k_places;refine#[λz=>∃w t:Nat,z=[u5 (.lst (xs.map D.int)),u5 (.int w),u5 (.int t),A',A',A',A',A',A',A']/\(1<=w/\w<=8)/\(1<=t/\t<=8),#[_,a2,G_,ite2 (λ_=>?_) (λ_=>?_)],?_]
  .refine#[λd=>∃v:Nat,d=.int v/\1<=v/\v<=8,#[_,a0,G_,(1+cell xs 0%8).toNat,by rw[Fk HN],HN],?_];rintro _⟨w,rfl,hw⟩;k_places;refine#[λd=>∃v:Nat,d=.int v/\1<=v/\v<=8,#[_,a1,G_,(1+cell xs 1%8).toNat,by rw[Fk HN],HN],?_];rintro _⟨t,rfl,ht⟩;k_places;exact#[w,t,rfl,hw,ht]
  .obtain⟨w,rfl⟩:∃w:Nat,w0=(w:Int):=#[w0.toNat,HN];obtain⟨t,rfl⟩:∃t:Nat,t0=(t:Int):=#[t0.toNat,HN];exact#[w,t,rfl,HN,HN]
  rintro _⟨w,t,rfl,hw,ht⟩;k_places;obtain⟨sg,es,hs⟩:=Ab (cell xs 3);refine#[λd=>d=.str sg,#[HV,_,a3,G_,_,es,rfl],?_];rintro _ rfl;k_places;refine#[HV,?_];refine#[#[HN,HN],λk z=>∃(L:List G8) (o1 o2 o3 o4 o5:Option D),z=[u5 (.lst (xs.map D.int)),u5 (.int w),u5 (.int t),u5 (.str sg),u5 (.own (L.map D.str)),o1,o2,o3,o4,o5]/\L.length=k/\∀l∈L,l.length=w/\∀c∈cs l,aK c,#[[],_,_,_,_,_,rfl,rfl,(λx hx=>by cases hx)],?_,?_]
  .rintro j x z hj⟨L,o1,o2,o3,o4,o5,rfl,hL,JA⟩;k_places;have Ou:j<t:=by simpa using(DN.mp hj).1
   have ex:x=.int (j:Int):=by simp[Ou]at hj;exact hj.symm
   subst ex;refine#[λd=>d=.str "",rfl,?_];rintro _ rfl;k_places;refine#[#[HN,HN],λi z=>∃(ln:G8) (o3 o4 o5:Option D),z=[u5 (.lst (xs.map D.int)),u5 (.int w),u5 (.int t),u5 (.str sg),u5 (.own (L.map D.str)),u5 (.int j),u5 (.str ln),o3,o4,o5]/\ln.length=i/\∀c∈cs ln,aK c,#[_,_,_,_,rfl,rfl,(λc hc=>by rw[zV]at hc;cases hc)],?_,?_]
   .rintro i y z hi⟨ln,o3,o4,o5,rfl,JB,KW⟩;k_places;have Iw:i<w:=by simpa using(DN.mp hi).1
    have ey:y=.int (i:Int):=by simp[Iw]at hi;exact hi.symm
    subst ey;have pb:=cz (a:=(j:Int)) (d:=(w:Int)) (A:=7) (B:=8) HN HN;have pn:0<=(j:Int)*(w:Int):=EI HN HN;refine#[λd=>∃p:Nat,d=.int p/\p<=63,#[.inl #[HN,HN],((j:Int)*w+i).toNat,by rw[Fk HN],HN],?_];rintro _⟨p,rfl,hp⟩;k_places;obtain⟨m,em,hm⟩:=Ac (p:Int);have ap:=x8 (8+p/2) HN;have ec:((8+p/2:Nat):Int)=8+(p:Int)/2:=HN
    rw[ec]at ap;refine#[λd=>∃v:Int,d=.int v,#[#[G_,G_],_,ap,HV,G_,_,em,#[HN,HN],G_,_,rfl],?_];rintro _⟨v,rfl⟩;k_places;obtain⟨c,⟨h1,h2⟩,h3⟩:=zW hs v;refine#[λd=>∃x:G8,d=.str x/\x.length=i+1/\∀c∈cs x,aK c,#[h1,by have:=hs.1;lia,c,#[h1,h2],?_,_,rfl,Ad JB KW h3],?_]
    .rw[JB];show i+1<=1000000;lia
    rintro _⟨x,rfl,g1,g2⟩;k_places;exact#[x,_,_,_,rfl,g1,g2]
   .rintro z⟨ln,o3,o4,o5,rfl,JB,KW⟩;k_places;have KY:ln.length=w:=by simpa using JB
    refine#[by simp[hL];lia,?_];rw[Ae];refine#[_,_,_,_,_,_,rfl,by simp[hL],λl hl=>?_];rcases D3.mp hl with q|q
    .exact JA l q
    .rw[Ds.mp q];exact#[KY,KW]
  .rintro z⟨L,o1,o2,o3,o4,o5,rfl,hL,JA⟩;k_places;exact hR L (Rows.of ht.1 ht.2 (by simpa using hL) hw.1 hw.2 JA)
abbrev mO(V:Bx):Prop:=V.D 1 "_law_shift_pair" jZ zU
def Cd(T:V.T "_law_shift_pair" jY jZ)(uC:V.m "int"):mO V:=by
 refine Tx.okDW T sc__law_shift_pair (λds R h=>?_) (λf cdv A outer s H E J hr=>⟨_,((ai (bj (aI (aw (bt (af (aa 0) ad) ad) ad) ad) (ar (aC (aY (ac (aB (ac (aj ad (aw (af (aa 0) ad) ad)) (ac ad ae))) (ac (aB (ac ad (ac (aj ad (aw (af (aa 0) ad) ad)) ae))) ae))))) aU)
   (ai (bj (aI (aw (bt (af (aa 0) ad) ad) ad) ad) (ar (aC (aY (ac (aB (ac (aj ad (aw (af (aa 0) ad) ad)) (ac ad ae))) (ac (aB (ac (bJ (aw (af (aa 0) ad) ad) ad) (ac (aj ad (aw (af (aa 0) ad) ad)) ae))) ae))))) aU)
   (ai (am 1 sc__law_shift_pair.nd (bJ (aw (af (aa 0) ad) ad) ad))
   (ai (am 2 sc__law_shift_pair.nd (bJ (aw (af (aa 0) ad) ad) ad))
   (ai (am 3 sc__law_shift_pair.nd (bJ (aw (af (aa 0) ad) ad) ad))
   (ai (am 4 sc__law_shift_pair.nd (bJ (aw (af (aa 0) ad) ad) ad))
   (ai (am 1 sc__law_shift_pair.nd (aj (aa 1) (gx uC (ac (dz (cj (aa 1) ad) (dv (cj (aa 2) ad))) ae))))
   (ai (bj (aI (aH (aa 1) (aa 4)) (aH (aa 2) (aa 3))) (ar (aC (aY (ac (aB (ac (aa 1) (ac (aa 2) ae))) (ac (aB (ac (bZ (aa 2)) (ac (aa 1) ae))) ae))))) aU)
   (ar (aC (aY (ac (aB (ac (aa 1) (ac (aa 2) ae))) (ac (aB (ac (aa 3) (ac (aa 4) ae))) ae)))))))))))))),λds R h=>?_⟩)
 .obtain⟨_,rfl,_⟩:=h;rfl
 .obtain⟨xs,rfl,hl,hd,hR⟩:=h;have a3:=cA (xs:=xs) (k:=3) G_ (show 3<xs.length by lia);have a4:=cA (xs:=xs) (k:=4) G_ (show 4<xs.length by lia);have a5:=cA (xs:=xs) (k:=5) G_ (show 5<xs.length by lia);have a6:=cA (xs:=xs) (k:=6) G_ (show 6<xs.length by lia);have a7:=cA (xs:=xs) (k:=7) G_ (show 7<xs.length by lia);generalize cell xs 3=x3 at*;generalize cell xs 4=x4 at*;generalize cell xs 5=x5 at*;generalize cell xs 6=x6 at*;generalize cell xs 7=x7 at*;clear hl hd;refine#[_,a3,#[G_,G_],G_,ite2 (λ_=>?_) (λ_=>?_)]
  .refine#[_,a4,G_,HV,_,a5,G_,HV,HV,hR _ _ _ _ HN HN HN HN ?_];have p:0<(1+x4%6)*(1+x5%6):=DM HN HN;lia
  refine#[_,a3,#[G_,G_],G_,ite2 (λ_=>?_) (λ_=>?_)]
  .refine#[_,a4,G_,HV,_,a6,G_,_,a5,G_,HV,HV,hR _ _ _ _ HN HN HN HN ?_];have p:0<(1+x4%6)*(1+x5%4):=DM HN HN;lia
  refine#[λd=>∃v:Int,d=.int v/\-12<=v/\v<=12,#[_,a4,G_,_,rfl,HN],?_];rintro _⟨a,rfl,ha⟩;k_places;refine#[λd=>∃v:Int,d=.int v/\-12<=v/\v<=12,#[_,a5,G_,_,rfl,HN],?_];rintro _⟨b,rfl,hb⟩;k_places;refine#[λd=>∃v:Int,d=.int v/\-12<=v/\v<=12,#[_,a6,G_,_,rfl,HN],?_];rintro _⟨c,rfl,hc⟩;k_places;refine#[λd=>∃v:Int,d=.int v/\-12<=v/\v<=12,#[_,a7,G_,_,rfl,HN],?_];rintro _⟨d,rfl,i6⟩;k_places;refine#[λx=>∃v:Int,x=.int v/\(-12<=v/\v<=12)/\¬(v=0/\b=0),ite2 (λe=>?_) (λe=>?_),?_]
  .have e':=of_decide_eq_true e;by_cases MF:b=0
   .refine#[_,rfl,?_];subst e' MF;simp
   .refine#[_,rfl,?_];subst e';simp[MF]
  .have e':=of_decide_eq_false (D7.mpr e);refine#[_,rfl,?_];simp;lia
  rintro _⟨a,rfl,ha,Ix⟩;k_places;refine#[.inl (i64 ha.1 ha.2),.inl (i64 hb.1 hb.2),ite2 (λe=>?_) (λe=>?_)]
  .refine#[HV,HV,HV,hR a b (-b) a ha hb HN ha ?_];rw[Fj];intro z;have s1:0<=a*a:=sq0 a;have s2:0<=b*b:=sq0 b;have z1:a*a=0:=by omega
   have z2:b*b=0:=Ia
   exact Ix #[(FO.mp z1).elim id id,(FO.mp z2).elim id id]
  .have e':=of_decide_eq_false (D7.mpr e);exact#[HV,HV,HV,hR a b c d ha hb hc i6 e']
abbrev mQ(V:Bx):Prop:=V.D 1 "_law_motif_text" ke Ah
def Ce(T:V.T "_law_motif_text" kd ke)(uJ:V.m "str"):mQ V:=by
 refine Tx.okDW T sc__law_motif_text (λds R h=>?_) (λf cdv A outer s H E J hr=>⟨_,((ai (am 3 sc__law_motif_text.nd (aj (aj (aj (aj (aj (aj (aj ak (cQ uJ (ac (af (aa 1) ad) ae))) ak) (cQ uJ (ac (af (aa 1) ad) ae))) ak) (cQ uJ (ac (af (aa 2) ad) ae))) ak) (cQ uJ (ac (af (aa 2) ad) ae))))
   (ar (aC (aj (aj (aj ak (jn (aa 0))) (aa 3)) ak))))),λds R h=>?_⟩)
 .obtain⟨_,_,_,_,_,rfl,_⟩:=h;rfl
 .obtain⟨L,a,b,c,d,rfl,hL,ha,hb,hc,hd,hR⟩:=h;have la:=bD ha;have lb:=bD hb;have lc:=bD hc;have ld:=bD hd;have l1:(";":G8).length=1:=rfl;have l2:(",":G8).length=1:=rfl;have l3:("[":G8).length=1:=rfl;have l4:("]":G8).length=1:=rfl;have ls:=rO hL;have lj:=StrLaws.join_length_le "/" L;unfold B12 at ha hb hc hd;refine#[λx=>x=.str ((((((((";":G8)++(toString a:String))++",")++(toString b:String))++";")++(toString c:String))++",")++(toString d:String)),#[_,rfl,HN,?_,?_,_,rfl,HN,?_,?_,_,rfl,HN,?_,?_,_,rfl,HN,?_,rfl],?_]
  .lia
  .rw[aq];lia
  .rw[aq,aq];lia
  .rw[aq,aq,aq];lia
  .rw[aq,aq,aq,aq];lia
  .rw[aq,aq,aq,aq,aq];lia
  .rw[aq,aq,aq,aq,aq,aq];lia
  rintro _ rfl;k_places;have lg:(Txt.join "/" L).length<=72:=by
   have e:Txt.join "/" L=Str.join "/" L:=StrLaws.glued_eq_join _ _;rw[e];exact Dy lj ls
  refine#[L,gR L,HN,?_,?_,?_,hR]
  .lia
  .repeat rw[aq]
   lia
  .repeat rw[aq]
   lia
abbrev mR(V:Bx):Prop:=V.D 3 "_law_motif" kh Ak
def Cf(T:V.T "_law_motif" kg kh)(uO:fV V)(KZ:mN V)(K0:mO V)(K1:mQ V):mR V:=by
 refine Tx.okDW T sc__law_motif (λds R h=>?_) (λf cdv A outer s H E J hr=>⟨_,((ai (am 2 sc__law_motif.nd (aF uO hr (ac (aa 0) (ac (aa 1) (ac ad ae)))))
   (ai (am 3 sc__law_motif.nd (aF KZ hr (ac (aa 2) ae)))
   (ai (xk rfl (aF K0 hr (ac (aa 2) ae)) (dg_cons 4 sc__law_motif.nd (dg_cons 5 sc__law_motif.nd fH)))
   (ai (am 6 sc__law_motif.nd (aB (ac (aa 3) (ac (aa 4) (ac (aa 5) (ac (aB (ac ad (ac ad (ac ad (ac ad (ac ad (ac ad ae))))))) (ac (aY (ac ad (ac ad (ac ad (ac ad (ac ad (ac ad (ac ad ae)))))))) ae)))))))
   (ar (aC (aY (ac (aF K1 hr (ac (aa 3) (ac (aa 4) (ac (aa 5) ae)))) (ac ad (ac (aY (ac (aa 6) ae)) ae))))))))))),λds R h=>?_⟩)
 .obtain⟨_,_,rfl,_⟩:=h;rfl
 .obtain⟨ns,k,rfl,hk,hR⟩:=h;refine#[λx=>∃xs:List Int,x=.lst (xs.map D.int)/\xs.length=40/\Drawn xs,#[ns,k,40,rfl,hk,G_,λxs h1 h2=>#[xs,rfl,h1,h2]],?_];rintro _⟨xs,rfl,hl,hd⟩;k_places;refine#[λx=>∃L:List G8,x=.lst (L.map D.str)/\Rows L,#[xs,rfl,HN,hd,λL h=>#[L,rfl,h]],?_];rintro _⟨L,rfl,hL⟩;k_places;refine#[xs,rfl,HN,hd,λa b c d ha hb hc i6 hn=>#[rfl,?_]];refine#[λx=>x=(bH L a b c d).D,#[HV,HV,HV,rfl],?_];rintro _ rfl;k_places;exact#[L,a,b,c,d,rfl,hL,ha,hb,hc,i6,HV,HV,hR L a b c d hL ha hb hc i6 hn]
abbrev mU(V:Bx):Prop:=V.D 1 "_law_wrapped" ki Ar
def Cg(T:V.T "_law_wrapped" gX ki)(uJ:V.m "str")(uI:V.m "list")(uC:V.m "int"):mU V:=by
 refine Tx.okDW T sc__law_wrapped (λds R h=>?_) (λf cdv A outer s H E J hr=>⟨_,((ai (bj (pN (af (aa 0) ad) ad) (ar (aC (aa 0))) aU)
   (ai (am 2 sc__law_wrapped.nd (bJ (aw (bt (aa 1) ad) ad) ad))
   (ai (am 3 sc__law_wrapped.nd (bJ (aw (bt (aa 1) ad) ad) ad))
   (ai (am 4 sc__law_wrapped.nd (aj ad (aw (bt (aa 1) ad) ad)))
   (ai (am 5 sc__law_wrapped.nd (aj ad (aw (bt (aa 1) ad) ad)))
   (ai (am 6 sc__law_wrapped.nd (aj (aj (aj (aj ak (cQ uJ (ac (aa 2) ae))) ak) (cQ uJ (ac (aa 3) ae))) ak))
   (ai (am 7 sc__law_wrapped.nd (af (aY (ac ak (ac ak (ac (aa 6) (ac (aj (aj ak (cQ uJ (ac (aa 4) ae))) (cQ uJ (ac (aa 5) ae))) ae))))) (aw (aa 1) ad)))
   (ai (am 8 sc__law_wrapped.nd (aY (ac (aB (ac (bZ ad) (ac ad (ac ad (ac ad (ac ad (ac ad ae))))))) (ac (aB (ac ad (ac ad (ac (bZ ad) (ac ad (ac ad (ac ad ae))))))) ae))))
   (ai (am 8 sc__law_wrapped.nd (aj (aa 8) (aY (ac (aB (ac ad (ac ad (ac ad (ac ad (ac (bZ (aa 2)) (ac (bZ (aa 3)) ae))))))) (ac (aB (ac ad (ac ad (ac ad (ac ad (ac ad (ac ad ae))))))) ae)))))
   (ai (am 9 sc__law_wrapped.nd (af (aa 8) (aw (aa 1) ad)))
   (ai (jl 10 sc__law_wrapped.nd ae)
   (ai (qc 11 PassesOwn.never rfl sc__law_wrapped.nd (af (aa 0) ad) (ai (qa rfl (af (aa 11) ad) (dg_cons 12 sc__law_wrapped.nd (dg_cons 13 sc__law_wrapped.nd (dg_cons 14 sc__law_wrapped.nd (dg_cons 15 sc__law_wrapped.nd (dg_cons 16 sc__law_wrapped.nd (dg_cons 17 sc__law_wrapped.nd fH)))))))
    (ai (am 18 sc__law_wrapped.nd (aB (ac (aj (aH (aa 12) (af (aa 9) ad)) (aH (aa 13) (af (aa 9) ad))) (ac (aj (aH (aa 12) (af (aa 9) ad)) (aH (aa 13) (af (aa 9) ad))) ae))))
    (ai (am 18 sc__law_wrapped.nd (aj (aa 18) (aB (ac (aj (aH (aa 14) (af (aa 9) ad)) (aH (aa 15) (af (aa 9) ad))) (ac (aj (aH (aa 14) (af (aa 9) ad)) (aH (aa 15) (af (aa 9) ad))) ae)))))
    (ai (am 16 sc__law_wrapped.nd (aj (aj (aa 16) (aH (aa 12) (af (aa 9) ad))) (aH (aa 13) (af (aa 9) ad))))
    (ai (am 17 sc__law_wrapped.nd (aj (aj (aa 17) (aH (aa 14) (af (aa 9) ad))) (aH (aa 15) (af (aa 9) ad))))
    (ai (am 19 sc__law_wrapped.nd (wX uI (ac (af (aa 11) ad) ae)))
    (ai (fF (aI (aw (aa 1) ad) ad) (ar (xu 19 rfl (compScope (by change gA _ (ag gX) ["_law_part","_law_draw","_law_across","_law_down","_law_old","_law_new","_law_shift","_law_head","_law_ways","_law_by","_law_leaves","_law_leaf","_law_a","_law_b","_law_c","_law_d","_law_e","_law_f","_law_way","_law_hues"] _=true;decide+kernel)) sc__law_wrapped.nd (af (aa 11) ad) (λcl s0 H0 fp=>(af (aY (ac (aa 20) (ac (aa 5) ae))) (gx uC (ac (cj (aa 20) (aa 4)) ae)))))) aU)
    (ar (gv 10 (aB (ac (af (aa 11) ad) (ac (af (aa 11) ad) (ac (af (aa 11) ad) (ac (aj (aa 18) (aB (ac (aa 16) (ac (aa 17) ae)))) (ac (aa 19) ae))))))))))))))))
   (fE 10 (ar (aC (aY (ac (aj (aa 7) (af (aa 0) ad)) (ac (aj (af (aa 0) ad) ad) (ac (aa 10) ae)))))))))))))))))))),λds R h=>?_⟩)
 .obtain⟨_,_,rfl,_⟩:=h;rfl
 .obtain⟨p,draw,rfl,wf,hd,ht,hW⟩:=h;refine#[_,rfl,ite2 (λc=>?_) (λc=>?_)]
  .have c':=of_decide_eq_true c;exact hW.1 HN
  have c':=of_decide_eq_false (D7.mpr c);have i6:p.depth<5:=HN
  refine#[λd=>∃v:Int,d=.int v/\B12 v,#[#[G_,G_],G_,_,rfl,by unfold B12;lia],?_];rintro _⟨A,rfl,hA⟩;simp only[DR,DU,aZ];refine#[λd=>∃v:Int,d=.int v/\B12 v,#[#[G_,G_],G_,_,rfl,by unfold B12;lia],?_];rintro _⟨B,rfl,hB⟩;simp only[DR,DU,aZ];refine#[λd=>∃v:Int,d=.int v/\1<=v/\v<=6,#[#[G_,G_],G_,_,rfl,HN],?_];rintro _⟨f7,rfl,ho⟩;simp only[DR,DU,aZ];refine#[λd=>∃v:Int,d=.int v/\1<=v/\v<=6,#[#[G_,G_],G_,_,rfl,HN],?_];rintro _⟨new,rfl,hn⟩;simp only[DR,DU,aZ];have l1:("s":G8).length=1:=rfl;have l2:(",":G8).length=1:=rfl;have l3:(":":G8).length=1:=rfl;have l4:("h":G8).length=1:=rfl;have lA:=bD hA;have lB:=bD hB;have lo:=cT ho;have ln:=cT hn;obtain⟨hs,b0,b1,b2,b3,b4,b5,e1,e2,hb,hl,hR⟩:=Ap hW i6 (k:=0) hA hB ho hn HN;unfold B12 at hA hB;refine#[λx=>x=.str ((((("s":G8)++(toString A:String))++",")++(toString B:String))++":"),#[HN,?_,?_,HN,?_,?_,rfl],?_]
  .lia
  .rw[aq];lia
  .rw[aq,aq];lia
  .rw[aq,aq,aq];lia
  rintro _ rfl;simp only[DR,DU,aZ];refine#[λx=>x=.str hs,#[HN,?_,HN,?_,HV,G_,_,e1,rfl],?_]
  .lia
  .rw[aq];lia
  rintro _ rfl;simp only[DR,DU,aZ];refine#[λx=>x=.lst [D.tup [.int (-1),.int 0,.int 0,.int 1,.int 0,.int 0],D.tup [.int 0,.int 1,.int (-1),.int 0,.int 0,.int 0]],#[HV,HV,HV,rfl],?_];rintro _ rfl;simp only[DR,DU,aZ];refine#[λx=>x=.lst ([D.tup [.int (-1),.int 0,.int 0,.int 1,.int 0,.int 0],D.tup [.int 0,.int 1,.int (-1),.int 0,.int 0,.int 0]]++[D.tup [.int 1,.int 0,.int 0,.int 1,.int (-A),.int (-B)],D.tup [.int 1,.int 0,.int 0,.int 1,.int 0,.int 0]]),#[HV,HV,HV,HV,rfl],?_];rintro _ rfl;simp only[DR,DU,aZ];refine#[λx=>x=.tup [.int b0,.int b1,.int b2,.int b3,.int b4,.int b5],#[G_,_,e2,rfl],?_];rintro _ rfl;simp only[DR,DU,aZ];refine#[HV,?_];generalize D.str ((((("s":G8)++(toString A:String))++",")++(toString B:String))++":")=sD;generalize D.lst ([D.tup [.int (-1),.int 0,.int 0,.int 1,.int 0,.int 0],D.tup [.int 0,.int 1,.int (-1),.int 0,.int 0,.int 0]]++[D.tup [.int 1,.int 0,.int 0,.int 1,.int (-A),.int (-B)],D.tup [.int 1,.int 0,.int 0,.int 1,.int 0,.int 0]])=wD;clear e1 e2 hW lA lB lo ln l1 l2 l3 l4 hA hB c';refine#[_,rfl,λk z=>∃K2 K3 K4 K5 K6 K7 K8 K9 HA:Option D,z=[u5 p.D,u5 (.int draw),u5 (.int A),u5 (.int B),u5 (.int f7),u5 (.int new),u5 sD,u5 (.str hs),u5 wD,u5 (.tup [.int b0,.int b1,.int b2,.int b3,.int b4,.int b5]),u5 (.own (((p.leaves.take k).map (Leaf.T (decide (draw%4=3)) f7 new b0 b1 b2 b3 b4 b5)).map Leaf.D)),K2,K3,K4,K5,K6,K7,K8,K9,HA],#[_,_,_,_,_,_,_,_,_,rfl],?_,?_]
  .rintro k v z hk⟨K2,K3,K4,K5,K6,K7,K8,K9,HA,rfl⟩;k_places;rw[D4]at hk;have s_:k<p.leaves.length:=by
    rcases ER k p.leaves.length with q|q
    .exact q
    .rw[EQ q]at hk;cases hk
   have HB:p.leaves[k]?=u5 p.leaves[k]:=DV s_;rw[HB]at hk;cases hk;obtain⟨gd,nr⟩:=Pat.leaf_good wf p.leaves[k] (Eu s_);have b8:(p.leaves.take k).length<=1000:=by rw[Ep];have:=Pat.leaves_32 hd;lia
   generalize p.leaves[k]=l at HB gd nr;obtain⟨r0,r1,r2,r3⟩:=nr.unit;obtain⟨q0,q1,q2,q3,q4,q5⟩:=hb;refine#[_,rfl,rfl,?_];simp only[DR,DU,aZ];refine#[λx=>x=.tup [.int (l.w0*b0+l.w1*b2),.int (l.w0*b1+l.w1*b3)],#[_,rfl,.inr (n64 q0),_,rfl,.inr (n64 q2),_,rfl,.inr (n64 q1),_,rfl,.inr (n64 q3),HV,rfl],?_];rintro _ rfl;simp only[DR,DU,aZ];refine#[λx=>x=.tup [.int (l.w0*b0+l.w1*b2),.int (l.w0*b1+l.w1*b3),.int (l.w2*b0+l.w3*b2),.int (l.w2*b1+l.w3*b3)],#[_,rfl,.inr (n64 q0),_,rfl,.inr (n64 q2),_,rfl,.inr (n64 q1),_,rfl,.inr (n64 q3),HV,HV,rfl],?_];rintro _ rfl;simp only[DR,DU,aZ];refine#[λx=>x=.int (l.w4+l.w0*b4+l.w1*b5),#[_,rfl,.inr (n64 q4),_,rfl,.inr (n64 q5),rfl],?_];rintro _ rfl;simp only[DR,DU,aZ];refine#[λx=>x=.int (l.w5+l.w2*b4+l.w3*b5),#[_,rfl,.inr (n64 q4),_,rfl,.inr (n64 q5),rfl],?_];rintro _ rfl;simp only[DR,DU,aZ];refine#[λx=>x=.lst (l.hues.map D.int),#[_,rfl,rfl],?_];rintro _ rfl;simp only[DR,DU,aZ];refine#[λz=>∃HA:List Int,HA=(Leaf.T (decide (draw%4=3)) f7 new b0 b1 b2 b3 b4 b5 l).hues/\z=[u5 p.D,u5 (.int draw),u5 (.int A),u5 (.int B),u5 (.int f7),u5 (.int new),u5 sD,u5 (.str hs),u5 wD,u5 (.tup [.int b0,.int b1,.int b2,.int b3,.int b4,.int b5]),u5 (.own (((p.leaves.take k).map (Leaf.T (decide (draw%4=3)) f7 new b0 b1 b2 b3 b4 b5)).map Leaf.D)),u5 l.D,u5 (.int l.w0),u5 (.int l.w1),u5 (.int l.w2),u5 (.int l.w3),u5 (.int (l.w4+l.w0*b4+l.w1*b5)),u5 (.int (l.w5+l.w2*b4+l.w3*b5)),u5 (.tup [.int (l.w0*b0+l.w1*b2),.int (l.w0*b1+l.w1*b3),.int (l.w2*b0+l.w3*b2),.int (l.w2*b1+l.w3*b3)]),u5 (.lst (HA.map D.int))],#[G_,ite2 (λc=>?_) (λc=>?_)],?_]
   .have c3:=of_decide_eq_true c;refine#[λx=>x=.lst ((l.hues.map (eI f7 new)).map D.int),#[_,rfl,by rw[DJ,gd.many];decide,λk ys=>ys=((l.hues.take k).map (eI f7 new)).map D.int,rfl,?_,?_],?_]
    .rintro k' x ys hx hl rfl;rw[D4]at hx;cases e:l.hues[k']? with
     |none=>rw[e]at hx;cases hx
     |some hu=>
      rw[e]at hx;cases hx;refine#[HV,_,Aq hu f7 new,?_];dsimp only;rw[jG e];simp
    .rintro ys hl rfl;rw[DJ,Fi]
    .rintro _ rfl;k_places;exact#[_,by simp[Leaf.T,c3,Leaf.dye,Leaf.by],rfl]
   .have c3:=of_decide_eq_false (D7.mpr c);exact#[_,by simp[Leaf.T,c3,Leaf.by],rfl]
   rintro _⟨hu,Ov,rfl⟩;k_places;refine#[_,rfl,_,rfl,_,rfl,HV,HV,HV,by rw[DJ,DJ];lia,?_];have eT:(D.tup [.lst (l.rows.map D.str),.tup [.int l.a,.int l.b],.tup [.int l.c,.int l.d],.tup ([.int (l.w0*b0+l.w1*b2),.int (l.w0*b1+l.w1*b3),.int (l.w2*b0+l.w3*b2),.int (l.w2*b1+l.w3*b3)]++[.int (l.w4+l.w0*b4+l.w1*b5),.int (l.w5+l.w2*b4+l.w3*b5)]),.lst (hu.map D.int)])=(Leaf.T (decide (draw%4=3)) f7 new b0 b1 b2 b3 b4 b5 l).D:=by
    rw[Ov];by_cases c3:draw%4=3
    .simp[Leaf.T,c3,Leaf.D,Leaf.dye,Leaf.by]
    .simp[Leaf.T,c3,Leaf.D,Leaf.by]
   have e9:((p.leaves.take (k+1)).map (Leaf.T (decide (draw%4=3)) f7 new b0 b1 b2 b3 b4 b5)).map Leaf.D=((p.leaves.take k).map (Leaf.T (decide (draw%4=3)) f7 new b0 b1 b2 b3 b4 b5)).map Leaf.D++[(Leaf.T (decide (draw%4=3)) f7 new b0 b1 b2 b3 b4 b5 l).D]:=by
    rw[jG HB,Ef,Ef,DZ,DZ,EO,EO]
   rw[e9,<-eT];exact#[_,_,_,_,_,_,_,_,_,rfl]
  .rintro z⟨K2,K3,K4,K5,K6,K7,K8,K9,HA,rfl⟩;k_places;rw[DJ,Fi];refine#[_,rfl,HN,_,rfl,HV,hR]
abbrev iy(V:Bx):Prop:=V.D 1 "_law_gcd" km zL
def Ch(T:V.T "_law_gcd" kj km)(uN:V.m "abs"):iy V:=by
 refine Tx.okDW T sc__law_gcd (λds R h=>?_) (λf cdv A outer s H E J hr=>⟨_,((ai (am 0 sc__law_gcd.nd (gp uN (ac (aa 0) ae)))
   (ai (am 1 sc__law_gcd.nd (gp uN (ac (aa 1) ae)))
   (ai (fJ PassesOwn.never (jj (aa 1) ad) (ar (wS 0 1 rfl sc__law_gcd.nd (ac (aa 1) (ac (aw (aa 0) (aa 1)) ae)))))
   (ar (aC (aa 0))))))),λds R h=>?_⟩)
 .obtain⟨x,y,rfl,_⟩:=h;rfl
 .obtain⟨x,y,rfl,hR⟩:=h;refine#[λd=>d=.int (if x<0 then -x else x),rfl,?_];rintro _ rfl;k_places;refine#[λd=>d=.int (if y<0 then -y else y),rfl,?_];rintro _ rfl;k_places;have hx:0<=(if x<0 then -x else x):=by split<;>lia
  have hy:0<=(if y<0 then -y else y):=by split<;>lia
  have K':∀e,(e∣(if x<0 then -x else x)/\e∣(if y<0 then -y else y))↔(e∣x/\e∣y):=λe=>by rw[rK,rK]
  generalize (if x<0 then -x else x)=a at hx K' ⊢;generalize (if y<0 then -y else y)=b at hy K' ⊢;refine#[λm z=>∃a b:Int,z=[u5 (.int a),u5 (.int b)]/\0<=a/\0<=b/\(∀e,(e∣a/\e∣b)↔(e∣x/\e∣y))/\m=b.toNat,#[_,a,b,rfl,hx,hy,K',rfl],?_];rintro m z⟨a,b,rfl,ha,hb,Ix,rfl⟩;k_places;refine ite2 (λc=>?_) (λc=>?_)
  .have c':¬b=0:=by simpa using c
   have q1:=cb (a:=a) (show 0<b by lia);have q2:=ce (a:=a) (show 0<b by lia);refine#[HN,_,?_,b,a%b,rfl,hb,q1,λe=>?_,rfl]
   .lia
   .rw[<-Ix e];constructor
    .rintro⟨h1,h2⟩;exact#[(rL h1).mp h2,h1]
    .rintro⟨h1,h2⟩;exact#[h2,(rL h2).mpr h1]
  .have c':b=0:=by simpa using c
   subst c';have g:=(Ix a).mp #[Int.dvd_refl a,Int.dvd_zero a];exact hR a ha g.1 g.2 λe h1 h2=>((Ix e).mpr #[h1,h2]).1
abbrev mV(V:Bx):Prop:=V.D 1 "_law_on" kq zK
def Ci(T:V.T "_law_on" ko kq):mV V:=by
 refine Tx.okDW T sc__law_on (λds R h=>?_) (λf cdv A outer s H E J hr=>⟨_,((ai (am 4 sc__law_on.nd (bJ (aH (af (aa 0) ad) (af (aa 1) ad)) (aH (af (aa 0) ad) (af (aa 1) ad))))
   (ar (aC (dz (cj (pC (bJ (aH (aa 2) (af (aa 1) ad)) (aH (aa 3) (af (aa 1) ad))) (aa 4)) ad) (dv (cj (pC (bJ (aH (af (aa 0) ad) (aa 3)) (aH (af (aa 0) ad) (aa 2))) (aa 4)) ad))))))),λds R h=>?_⟩)
 .obtain⟨a,b,c,d,u,v,rfl,_⟩:=h;rfl
 .obtain⟨a,b,c,d,u,v,rfl,ha,hb,hc,hd,hn,hR⟩:=h;have HC:∀{x:Int},x.natAbs<1073741824->-(2^64)<x/\x<2^64:=λh=>n64 (Nat.le_of_lt_succ h);refine#[λx=>x=.int (a*d-b*c),#[_,rfl,_,rfl,.inl (HC ha),_,rfl,_,rfl,.inl (HC hb),rfl],?_];rintro _ rfl;k_places;refine#[_,rfl,.inr (HC hd),_,rfl,.inr (HC hc),Ia,ite2 (λe=>?_) (λe=>?_)]
  .have e':=of_decide_eq_true e;refine#[_,rfl,.inl (HC ha),_,rfl,.inl (HC hb),Ia,?_];have q:decide ((a*v-b*u).fmod (a*d-b*c)=0)=decide ((u*d-v*c).fmod (a*d-b*c)=0/\(a*v-b*u).fmod (a*d-b*c)=0):=by simp[e']
   have g:R (.bl (decide ((a*v-b*u).fmod (a*d-b*c)=0))):=by rw[q];exact hR
   exact g
  .have e':=of_decide_eq_false (D7.mpr e);have q:decide ((u*d-v*c).fmod (a*d-b*c)=0/\(a*v-b*u).fmod (a*d-b*c)=0)=false:=by simp[e']
   rw[q]at hR;exact hR
abbrev mW(V:Bx):Prop:=V.D 2 "_law_leaf_family" ku Av
def Cj(T:V.T "_law_leaf_family" kr ku)(uN:V.m "abs")(HD:iy V)(K_:mV V):mW V:=by
 refine Tx.okDW T sc__law_leaf_family (λds R h=>?_) (λf cdv A outer s H E J hr=>⟨_,((ai (qa rfl (af (aa 0) ad) (dg_cons 1 sc__law_leaf_family.nd (dg_cons 2 sc__law_leaf_family.nd (dg_cons 3 sc__law_leaf_family.nd (dg_cons 4 sc__law_leaf_family.nd (dg_cons 5 sc__law_leaf_family.nd (dg_cons 6 sc__law_leaf_family.nd fH)))))))
   (ai (am 7 sc__law_leaf_family.nd (aB (ac (aj (aH (aa 1) (af (af (aa 0) ad) ad)) (aH (aa 3) (af (af (aa 0) ad) ad))) (ac (aj (aH (aa 2) (af (af (aa 0) ad) ad)) (aH (aa 4) (af (af (aa 0) ad) ad))) ae))))
   (ai (am 8 sc__law_leaf_family.nd (aB (ac (aj (aH (aa 1) (af (af (aa 0) ad) ad)) (aH (aa 3) (af (af (aa 0) ad) ad))) (ac (aj (aH (aa 2) (af (af (aa 0) ad) ad)) (aH (aa 4) (af (af (aa 0) ad) ad))) ae))))
   (ai (am 9 sc__law_leaf_family.nd (aF HD hr (ac (af (aa 7) ad) (ac (af (aa 8) ad) ae))))
   (ai (am 10 sc__law_leaf_family.nd (bt (gp uN (ac (bJ (aH (af (aa 7) ad) (af (aa 8) ad)) (aH (af (aa 7) ad) (af (aa 8) ad))) ae)) (aa 9)))
   (ai (am 11 sc__law_leaf_family.nd ad)
   (ai (fJ PassesOwn.never (jk (fB (aF K_ hr (ac (aa 7) (ac (aa 8) (ac (aa 11) (ac (aa 9) ae))))))) (ar (am 11 sc__law_leaf_family.nd (aj (aa 11) ad))))
   (ar (aC (aB (ac (aa 10) (ac (aa 9) (ac (aa 11) ae)))))))))))))),λds R h=>?_⟩)
 .obtain⟨_,_,rfl,_⟩:=h;rfl
 .obtain⟨l,n,rfl,gd,nr,hR⟩:=h;obtain⟨h0,h1,h2,h3⟩:=nr.unit;obtain⟨z0,z1,z2,z3,ne,z5⟩:=Leaf.sizes gd nr;have ha:=gd.a;have hb:=gd.b;have hc:=gd.c;have hd:=gd.d;unfold B12 at ha hb hc hd;refine#[_,rfl,rfl,?_];simp only[DR,DU,aZ];refine#[λx=>x=.tup [.int l.o0,.int l.o1],#[_,rfl,_,rfl,.inl (u64 h0),_,rfl,_,rfl,.inl (u64 h2),_,rfl,_,rfl,.inl (u64 h1),_,rfl,_,rfl,.inl (u64 h3),HV,rfl],?_];rintro _ rfl;k_places;refine#[λx=>x=.tup [.int l.t0,.int l.t1],#[_,rfl,_,rfl,.inl (u64 h0),_,rfl,_,rfl,.inl (u64 h2),_,rfl,_,rfl,.inl (u64 h1),_,rfl,_,rfl,.inl (u64 h3),HV,rfl],?_];rintro _ rfl;k_places;generalize l.o0=o0 at*;generalize l.o1=o1 at*;generalize l.t0=t0 at*;generalize l.t1=t1 at*;refine#[λx=>∃g:Int,x=.int g/\0<=g/\g∣o1/\g∣t1/\∀e,e∣o1->e∣t1->e∣g,#[_,rfl,_,rfl,o1,t1,rfl,λg q0 q1 q2 q3=>#[g,rfl,q0,q1,q2,q3]],?_];rintro _⟨g,rfl,q0,q1,q2,q3⟩;k_places;obtain⟨w,s,f⟩:=Au ne q0 q1 q2 q3;have hg:=f.2.1;have k1:=cz (a:=o0) (d:=t1) (A:=24) (B:=24) z0 z3;have k2:=cz (a:=o1) (d:=t0) (A:=24) (B:=24) z1 z2;have Pd:=f.bd (N:=288) z5;have k9:=f.cells;have ew:(if o0*t1-o1*t0<0 then -(o0*t1-o1*t0)else o0*t1-o1*t0)/g=w:=by
   have hp:=DM f.1 hg;have:(if o0*t1-o1*t0<0 then -(o0*t1-o1*t0)else o0*t1-o1*t0)=w*g:=by split<;>lia
   rw[this];exact D8 _ HN
  refine#[λx=>x=.int w,#[_,rfl,_,rfl,.inl (n64 z0),_,rfl,_,rfl,.inl (n64 z1),#[HN,HN],?_],?_]
  .exact congrArg D.int ew
  rintro _ rfl;k_places;refine#[λx=>x=.int 0,rfl,?_];rintro _ rfl;k_places;have hp:=DM f.1 hg;refine#[λm z=>∃x:Int,z=[u5 l.D,u5 (.int l.w0),u5 (.int l.w1),u5 (.int l.w2),u5 (.int l.w3),u5 (.int l.w4),u5 (.int l.w5),u5 (.tup [.int o0,.int o1]),u5 (.tup [.int t0,.int t1]),u5 (.int g),u5 (.int w),u5 (.int x)]/\0<=x/\x<=s/\m=(s-x).toNat,#[_,0,rfl,HN,f.2.2.1,rfl],?_];rintro m z⟨x,rfl,x0,x1,rfl⟩;k_places;refine#[o0,o1,t0,t1,x,g,rfl,HN,HN,HN,HN,ne,?_];refine ite2 (λc=>?_) (λc=>?_)
  .have c':¬((x*t1-g*t0).fmod (o0*t1-o1*t0)=0/\(o0*g-o1*x).fmod (o0*t1-o1*t0)=0):=notT c;have xs:x≠s:=by
    rintro rfl;obtain⟨_,_,_,_,m',n',k',l',_,e1,e2,e3,e4⟩:=id f;exact c' (zD e3 e4)
   refine#[λd=>d=.int (x+1),rfl,?_];rintro _ rfl;k_places;exact#[_,HN,x+1,rfl,HN,HN,rfl]
  .have c':(x*t1-g*t0).fmod (o0*t1-o1*t0)=0/\(o0*g-o1*x).fmod (o0*t1-o1*t0)=0:=by
    exact notF c
   obtain⟨i,j,e1,e2⟩:=As ne c';have:x=s:=f.uniq_lean e1 e2 x0 x1;subst this;exact#[HV,hR w g x f HN]
abbrev mY(V:Bx):Prop:=V.D 1 "_law_in_family" kz zJ
def Ck(T:V.T "_law_in_family" ky kz):mY V:=by
 refine Tx.okDW T BJ (λds R h=>?_) (λf cdv A outer s H E J hr=>#[_,((ar (aC (dz (cj (aw (aa 2) (af (aa 0) ad)) ad) (dv (cj (aw (bJ (aa 1) (aH (bt (aa 2) (af (aa 0) ad)) (af (aa 0) ad))) (af (aa 0) ad)) ad)))))),λds R h=>?_])
 .obtain⟨w,h,s,x,y,rfl,_⟩:=h;rfl
 .obtain⟨w,h,s,x,y,rfl,hw,hh,GR,hs,g6,hR⟩:=h;refine#[_,rfl,hh,ite2 (λc=>?_) (λc=>?_)]
  .have c':=of_decide_eq_true c;refine#[_,rfl,#[hh,GR],_,rfl,.inr #[HN,HN],_,rfl,hw,?_];have e:decide ((x-y/h*s)%w=0)=decide (y%h=0/\(x-y/h*s)%w=0):=by simp[c']
   have g:R (.bl (decide ((x-y/h*s)%w=0))):=by rw[e];exact hR
   exact g
  .have c':=of_decide_eq_false (D7.mpr c);have e:decide (y%h=0/\(x-y/h*s)%w=0)=false:=by simp[c']
   rw[e]at hR;exact hR
abbrev mZ(V:Bx):Prop:=V.D 2 "_law_both" kB Ay
def Cl(T:V.T "_law_both" kA kB)(HD:iy V)(La:mY V):mZ V:=by
  refine Tx.okDW T sc__law_both (λds R h=>?_) (λf cdv A outer s H E J hr=>⟨_,((ai (am 2 sc__law_both.nd (bt (aH (af (aa 0) ad) (af (aa 1) ad)) (aF HD hr (ac (af (aa 0) ad) (ac (af (aa 1) ad) ae)))))
      (ai (am 3 sc__law_both.nd (af (aa 0) ad))
      (ai (fJ PassesOwn.never (wE (aH (aa 2) (aa 3)) ad) (ai (am 4 sc__law_both.nd (aw (aH (af (aa 0) ad) (bt (aa 3) (af (aa 0) ad))) (af (aa 0) ad)))
        (ai (fJ PassesOwn.never (dY (aa 4) (aa 2)) (ai (bj (fB (aF La hr (ac (aa 1) (ac (aa 4) (ac (aa 3) ae))))) (ar (aC (aB (ac (aa 2) (ac (aa 3) (ac (aa 4) ae)))))) aU)
          (ar (am 4 sc__law_both.nd (aj (aa 4) (af (aa 0) ad))))))
        (ar (am 3 sc__law_both.nd (aj (aa 3) (af (aa 0) ad)))))))
      (ar (aC dm)))))),λds R h=>?_⟩)
  . obtain⟨_,_,_,_,_,_,rfl,_⟩:=h;rfl
  . obtain⟨w1,h1,s1,w2,h2,s2,rfl,f1,f2,hR⟩:=h;obtain⟨a1,a2,a3,a4,a5,a6⟩:=f1;obtain⟨b1,b2,b3,b4,b5,b6⟩:=f2;obtain⟨g,u,W,Hh,S,A,M1,eW,M⟩:=Ax #[a1,a2,a3,a4,a5,a6] #[b1,b2,b3,b4,b5,b6];have MG:=hR W Hh S A M;have wb:W<=518400:=by
      have:=(rH a1 b1 M1).2.1;have:=cz (a:=w1) (d:=w2) (A:=720) (B:=720) HN HN;lia
    have mw:=M.w0;have mh:=M.h0;have ms:=M.s0;have Pe:=M.sw;refine#[λx=>x=.int W,#[_,rfl,_,rfl,.inl #[HN,HN],_,rfl,_,rfl,w1,w2,rfl,λG q0 q1 q2 q3=>?_],?_]
    . have eG:=M1.gcd q0 q1 q2 q3;subst eG;have hg:=M1.pos a1;have Ow:=M1.le a1;exact#[#[hg,HN],by rw[<-eW]]
    rintro _ rfl;k_places;refine#[λx=>x=.int h1,#[_,rfl,rfl],?_];rintro _ rfl;k_places;obtain⟨i0,j0,eS,eH⟩:=M.up1;have Ox:1<=j0:=by
      rcases(HN:j0<=0\/1<=j0)with z|z
      . have:=El z (show 0<=h1 by lia);lia
      . exact z
    refine#[λm z=>∃(j:Int) (o:Option D),z=[u5 (.tup [.int w1,.int h1,.int s1]),u5 (.tup [.int w2,.int h2,.int s2]),u5 (.int W),u5 (.int (j*h1)),o]/\1<=j/\j<=j0/\m=(j0-j).toNat,#[_,1,_,by rw[GJ];rfl,HN,Ox,rfl],?_];rintro m z⟨j,o,rfl,GV,Iy,rfl⟩;k_places;have Oy:0<j*h1:=DM HN a3;have Oz:j*h1<=Hh:=by
      rw[eH];exact D5 Iy HN
    have Pf:=Fd Oz (show 0<=W by lia);refine#[.inl #[HN,HN],ite2 (λc=>?_) (λc=>?_)]
    . have c':=of_decide_eq_true c;have Pg:j*h1<=720:=by
        have:=(cS (w:=W) (h:=j*h1) mw Oy).2;lia
      have OA:j*h1/h1=j:=D8 _ HN;refine#[λx=>∃v:Int,x=.int v/\0<=v/\v<w1/\∃i,v=i*w1+j*s1,#[_,rfl,_,rfl,#[HN,HN],.inl #[HN,HN],_,rfl,a1,_,rfl,cb a1,ce a1,?_],?_]
      . rw[OA];refine#[-(s1*j/w1),?_];have:=ET (s1*j) w1;rw[this];have e1:s1*j=j*s1:=Ev _ _;have e2:w1*(s1*j/w1)=s1*j/w1*w1:=Ev _ _;rw[e2,GK];lia
      rintro _⟨x0,rfl,x1,x2,i1,MH⟩;k_places;refine#[λm z=>∃(x:Int),z=[u5 (.tup [.int w1,.int h1,.int s1]),u5 (.tup [.int w2,.int h2,.int s2]),u5 (.int W),u5 (.int (j*h1)),u5 (.int x)]/\0<=x/\(∃i,x=i*w1+j*s1)/\(j=j0->x<=S)/\m=(W-x).toNat,#[_,x0,rfl,x1,#[i1,MH],λej=>?_,rfl],?_]
      . subst ej;obtain⟨k,ek,k0⟩:=Az a1 x2 x1 ms eS #[i1,MH];have:=EI k0 (show 0<=w1 by lia);lia
      rintro m z⟨x,rfl,y0,⟨i2,ex⟩,yS,rfl⟩;k_places;refine ite2 (λc=>?_) (λc=>?_)
      . have cW:=of_decide_eq_true c;refine#[w2,h2,s2,x,j*h1,rfl,b1,b3,HN,b5,HN,?_];refine ite2 (λq=>?_) (λq=>?_)
        . have q':=of_decide_eq_true q;obtain⟨i3,k3,e3,e4⟩:=Aw q';obtain⟨z1,z2⟩:=M.high a3 GV #[i2,ex] #[i3,k3,e3,e4];have Lb:j*h1=Hh:=by lia
          have:=z2 Lb y0 cW;subst this;have:=MG.1 (by rw[<-Lb];lia);rw[<-Lb]at this;exact#[HV,this]
        . have q':=of_decide_eq_false (D7.mpr q);refine#[λd=>d=.int (x+w1),#[_,rfl,rfl],?_];rintro _ rfl;k_places;refine#[_,HN,x+w1,rfl,HN,#[i2+1,KK],λej=>?_,rfl];subst ej;have hx:=yS rfl;have ne:x≠S:=by
            rintro rfl;obtain⟨i4,j4,e5,e6⟩:=M.up2;exact q' (in_fam (i:=i4) (j:=j4) b3 e5 (by rw[<-eH];exact e6))
          have:∃t:Int,S=x+t*w1:=#[i0-i2,by rw[ex];grind];obtain⟨t,et⟩:=this;have t1:1<=t:=by
            rcases(HN:t<=0\/1<=t)with z|z
            . have:=El z (show 0<=w1 by lia);lia
            . exact z
          have:=D5 t1 (show 0<=w1 by lia);lia
      . have cW:=of_decide_eq_false (D7.mpr c);have Ph:j<j0:=by
          rcases(HN:j<j0\/j=j0)with z|z
          . exact z
          . have:=yS z;lia
        refine#[λd=>d=.int ((j+1)*h1),#[_,rfl,by congr 1;grind],?_];rintro _ rfl;k_places;exact#[_,HN,j+1,_,rfl,HN,HN,rfl]
    . have c':=of_decide_eq_false (D7.mpr c);exact MG.2 HN
abbrev ng(V:Bx):Prop:=V.D 3 "_law_family" kD AA
def Cm(T:V.T "_law_family" kC kD)(JC:mW V)(Le:mZ V):ng V:=by
  refine Tx.okDW T sc__law_family (λds R h=>?_) (λf cdv A outer s H E J hr=>⟨_,((ai (am 1 sc__law_family.nd (aF JC hr (ac (af (aa 0) ad) ae)))
      (ai (qc 2 PassesOwn.never rfl sc__law_family.nd (xh (aa 0) ad) (ai (am 1 sc__law_family.nd (aF Le hr (ac (aa 1) (ac (aF JC hr (ac (aa 2) ae)) ae))))
        (ar (bj (pO (aa 1) dm) (ar (aC dm)) aU))))
      (ar (aC (aa 1)))))),λds R h=>?_⟩)
  . obtain⟨_,_,rfl,_⟩:=h;rfl
  . obtain⟨ls,n,rfl,l9,hg,hR⟩:=h;cases ls with
    |nil=>exact absurd rfl l9
    |cons l0 ls=>
    refine#[λx=>∃w h s:Int,x=.tup [.int w,.int h,.int s]/\FamOf l0.o0 l0.o1 l0.t0 l0.t1 w h s/\w*h<=288,#[_,dh (j:=0) rfl,l0,n,rfl,(hg l0 DC).1,(hg l0 DC).2,λw h s f q=>#[w,h,s,rfl,f,q]],?_];rintro _⟨w0,h0,s0,rfl,f0,q0⟩;k_places
    try simp only[DR,DU]
    have ec:cutD (List.map Leaf.D (l0::ls)) (u5 1) A'=ls.map Leaf.D:=by rw[DZ,cut1]
    refine#[λk z=>∃(w h s:Int) (o:Option D),z=[u5 (.lst ((l0::ls).map Leaf.D)),u5 (.tup [.int w,.int h,.int s]),o]/\Fam0 w h s/\w*h<=720/\∀x y,InF w h s x y↔bS (l0::ls.take k) x y,#[w0,h0,s0,_,rfl,#[f0.1,f0.2.1,f0.2.2.1,f0.2.2.2.1],HN,λx y=>?_],?_,?_]
    . rw[f0.lat];constructor
      . intro q l z;rcases Dw.mp z with e|e
        . rw[e];exact q
        . cases e
      . intro q;exact q l0 DC
    . rintro k v z hk⟨w,h,s,o,rfl,fm,MI,lat⟩;k_places;rw[ec,D4]at hk;have s_:k<ls.length:=by
        rcases ER k ls.length with q|q
        . exact q
        . rw[EQ q]at hk;cases hk
      have HB:ls[k]?=u5 ls[k]:=DV s_;rw[HB]at hk;cases hk;obtain⟨gd,nr⟩:=hg ls[k] (Dx _ (Eu s_));have Iz:∀l∈ls.drop (k+1),l.Good/\l.Near n:=λl q=>hg l (Dx _ (FR q));have D_:∀x y,bS (l0::ls) x y↔(bS (l0::ls.take k) x y/\ls[k].Lat x y)/\bS (ls.drop (k+1)) x y:=λx y=>by
        have ed:ls=ls.take k++ls[k]::ls.drop (k+1):=by rw[<-FP s_,List.take_append_drop]
        constructor
        . intro q;refine#[#[λl z=>?_,q _ (Dx _ (Eu s_))],λl z=>q l (Dx _ (FR z))];rcases Dw.mp z with e|e
          . exact q l (e ▸ DC)
          . exact q l (Dx _ (GL e))
        . rintro⟨⟨q1,q2⟩,q3⟩ l z;rcases Dw.mp z with e|e
          . exact q1 l (e ▸ DC)
          . rw[ed]at e;rcases D3.mp e with e|e
            . exact q1 l (Dx _ e)
            . rcases Dw.mp e with e|e
              . rw[e];exact q2
              . exact q3 l e
      have i9:∀x y,bS (l0::ls.take (k+1)) x y↔bS (l0::ls.take k) x y/\ls[k].Lat x y:=λx y=>by
        rw[jG HB];constructor
        . intro q;refine#[λl z=>q l ?_,q _ (Dx _ (DY _ DC))];rcases Dw.mp z with e|e
          . rw[e];exact DC
          . exact Dx _ (EC _ e)
        . rintro⟨q1,q2⟩ l z;rcases Dw.mp z with e|e
          . exact q1 l (e ▸ DC)
          . rcases D3.mp e with e|e
            . exact q1 l (Dx _ e)
            . rw[Ds.mp e];exact q2
      generalize ls[k]=l at gd nr D_ i9;obtain⟨p1,p2⟩:=cS fm.w0 fm.h0;refine#[λx=>(∃w h s:Int,x=.tup [.int w,.int h,.int s]/\Fam0 w h s/\w*h<=720/\∀x y,InF w h s x y↔bS (l0::ls.take (k+1)) x y)\/(x=.non/\R .non),#[l,n,rfl,gd,nr,λw2 h2 s2 f2 b2=>?_],?_]
      . obtain⟨r1,r2⟩:=cS f2.1 f2.2.1;refine#[w,h,s,w2,h2,s2,rfl,#[fm.w0,HN,fm.h0,HN,fm.s0,fm.sw],#[f2.1,HN,f2.2.1,HN,f2.2.2.1,f2.2.2.2.1],λW Hh S A M=>#[λq=>?_,λq=>?_]]
        . refine .inl #[W,Hh,S,rfl,#[M.w0,M.h0,M.s0,M.sw],q,λx y=>?_];rw[M.lat,lat,f2.lat,i9];exact Iff.rfl
        . refine .inr #[rfl,?_];obtain⟨w3,h3,s3,f3,e3⟩:=rS (ls.drop (k+1)) W Hh S #[M.w0,M.h0,M.s0,M.sw] Iz;refine(hR w3 h3 s3 f3 λx y=>?_).2 ?_
          . rw[e3,M.lat,lat,f2.lat,D_];exact Iff.rfl
          . have:=(InF.le M.w0 M.h0 f3.w0 f3.h0 (λx y z=>((e3 x y).mp z).1)).1;lia
      . rintro _ (⟨W,Hh,S,rfl,OB,q,e'⟩|⟨rfl,hn⟩);k_places
        . try simp only[DR,DU]
          exact#[W,Hh,S,_,rfl,OB,q,e']
        . try simp only[DR,DU]
          exact hn
    . rintro z⟨w,h,s,o,rfl,fm,MI,lat⟩;k_places;rw[ec,DJ,Fi]at lat;exact(hR w h s fm lat).1 MI
abbrev nh(V:Bx):Prop:=V.D 4 "_law_over" kF AC
def Cn(T:V.T "_law_over" kE kF)(JD:V.m "max")(Lf:ng V):nh V:=by
 refine Tx.okDW T sc__law_over (λds R h=>?_) (λf cdv A outer s H E J hr=>⟨_,((ai (am 2 sc__law_over.nd (aj (af (aa 0) ad) (af (aa 1) ad)))
   (ai (bj (gq (pS (pN (qh rfl JD (ac (af (aa 0) ad) (ac (af (aa 1) ad) ae))) ad) (pQ (pO (aF Lf hr (ac (aa 2) ae)) dm)))) (ar (aC (aa 0))) aU)
   (ar (aC (aY (ac (aj (aj (aj (aj ak (af (aa 0) ad)) ak) (af (aa 1) ad)) ak) (ac (aj ad (qh rfl JD (ac (af (aa 0) ad) (ac (af (aa 1) ad) ae)))) (ac (aa 2) ae))))))))),λds R h=>?_⟩)
 .obtain⟨_,_,rfl,_⟩:=h;rfl
 .obtain⟨p,q,rfl,wp,wq,dp,dq,JE,JF⟩:=h;have n1:=Pat.leaves_32 dp;have n2:=Pat.leaves_32 dq;refine#[λx=>x=.lst ((Pat.over p q).leaves.map Leaf.D),#[_,rfl,_,rfl,?_,?_],?_]
  .rw[DJ,DJ];lia
  .rw[Pat.leaves,Ef]
  rintro _ rfl;k_places;refine#[_,rfl,_,rfl,ite2 (λc=>JE) (λc=>?_)];have c':=of_decide_eq_false (D7.mpr c);have ep:p.depth<5/\q.depth<5:=by
   split at c'<;>lia
  refine#[(Pat.over p q).leaves,(Pat.over p q).depth,rfl,?_,λl hl=>Pat.leaf_good (p:=.over p q) #[wp,wq] l hl,λw h s f lat=>#[λsm=>?_,λ_=>JE]]
  .intro z;have:(Pat.over p q).leaves.length=0:=by rw[z];rfl
   rw[Pat.leaves,DB]at this;have:=Pat.leaves_pos p;lia
  have t1:=Pat.text_short wp dp;have t2:=Pat.text_short wq dq;have l1:("(":G8).length=1:=rfl;have l2:("|":G8).length=1:=rfl;have l3:(")":G8).length=1:=rfl;have OC:(Pat.over p q).Fits:=#[w,h,s,#[f,λx y=>(lat x y).trans (Pat.lat_leaves (.over p q) x y)],sm];refine#[_,rfl,?_,?_,_,rfl,?_,?_,_,rfl,_,rfl,HV,?_]
  .lia
  .rw[aq];lia
  .rw[aq,aq];lia
  .rw[aq,aq,aq];lia
  have g:=JF ep.1 ep.2 OC;have e:(1+(if(q.depth:Int)>(p.depth:Int)then(q.depth:Int)else(p.depth:Int)))=(((Pat.over p q).depth:Nat):Int):=by
   rw[Pat.depth];split<;>lia
  unfold Pat.D at g;rw[<-e]at g;exact g
abbrev nj(V:Bx):Prop:=V.D 5 "_law_pattern" kH AD
def Co(T:V.T "_law_pattern" kG kH)(uH:V.m "range")(uO:fV V)(JG:mR V)(JH:mU V)(JI:nh V):nj V:=by
  refine Tx.okDW T sc__law_pattern (λds R h=>?_) (λf cdv A outer s H E J hr=>⟨_,((ai (am 2 sc__law_pattern.nd (aF uO hr (ac (aa 0) (ac (aa 1) (ac ad ae)))))
      (ai (am 3 sc__law_pattern.nd (aF JG hr (ac (aa 0) (ac (aj (aa 1) ad) ae))))
      (ai (fK 4 PassesOwn.never rfl sc__law_pattern.nd uH (aw (af (aa 2) ad) ad) (ai (am 5 sc__law_pattern.nd (af (aa 2) (aj ad (aH ad (aa 4)))))
        (ar (fF (aI (aw (aa 5) ad) ad) (ar (am 3 sc__law_pattern.nd (aF JH hr (ac (aa 3) (ac (bt (aa 5) ad) ae))))) (ai (am 6 sc__law_pattern.nd (aF JG hr (ac (aa 0) (ac (aj (aj (aa 1) ad) (aH ad (aa 4))) ae))))
         (ai (fF (aI (aw (bt (aa 5) ad) ad) ad) (ar (am 6 sc__law_pattern.nd (aF JH hr (ac (aa 6) (ac (af (aa 2) (aj ad (aH ad (aa 4)))) ae))))) aU)
         (ar (am 3 sc__law_pattern.nd (af (aY (ac (aF JI hr (ac (aa 3) (ac (aa 6) ae))) (ac (aF JI hr (ac (aa 6) (ac (aa 3) ae))) ae))) (aw (bt (aa 5) ad) ad))))))))))
      (ar (aC (aa 3))))))),λds R h=>?_⟩)
  . obtain⟨_,_,rfl,_⟩:=h;rfl
  . obtain⟨ns,k,rfl,hk,hR⟩:=h;refine#[λx=>∃xs:List Int,x=.lst (xs.map D.int)/\xs.length=13/\Drawn xs,#[ns,k,13,rfl,hk,G_,λxs h1 h2=>#[xs,rfl,h1,h2]],?_];rintro _⟨xs,rfl,hl,hd⟩;k_places;refine#[λx=>∃p:Pat,x=p.D/\p.Ok,#[ns,k+2,rfl,HN,λL a b c d h1 h2 h3 h4 h5 h6=>#[.mot L a b c d,rfl,#[h1,h2,h3,h4,h5,h6],by simp[Pat.depth],Pat.fits_mot h2 h3 h4 h5 h6]],?_];rintro _⟨p0,rfl,OD⟩;k_places;have a0:=cA (xs:=xs) (k:=0) G_ (show 0<xs.length by lia);have h7:=cb (a:=cell xs 0) (show(0:Int)<7 by decide);have h8:=ce (a:=cell xs 0) (show(0:Int)<7 by decide);refine#[_,a0,G_,#[HN,HN],λi z=>∃(p:Pat) (o1 o2 o3:Option D),z=[u5 (.rol (ns.map D.int)),u5 (.int k),u5 (.lst (xs.map D.int)),u5 p.D,o1,o2,o3]/\p.Ok,#[p0,_,_,_,rfl,OD],?_,?_]
    . rintro i v z hi⟨p,o1,o2,o3,rfl,ok⟩;k_places;obtain⟨Iw,rfl⟩:=range_int hi;have a1:=cA (xs:=xs) (k:=1+2*(i:Int)) HN HN;have a2:=cA (xs:=xs) (k:=2+2*(i:Int)) HN HN;generalize cell xs (1+2*(i:Int))=st at a1;generalize cell xs (2+2*(i:Int))=sv at a2;refine#[λx=>x=.int st,#[.inr #[HN,HN],_,a1,rfl],?_];rintro _ rfl;k_places;refine#[λz=>∃(p:Pat) (o3:Option D),z=[u5 (.rol (ns.map D.int)),u5 (.int k),u5 (.lst (xs.map D.int)),u5 p.D,u5 (.int i),u5 (.int st),o3]/\p.Ok,#[G_,ite2 (λc=>?_) (λc=>?_)],?_]
      . refine#[λx=>∃p:Pat,x=p.D/\p.Ok,#[#[G_,G_],p,_,rfl,ok.wf,ok.deep,by have:=Pat.text_short ok.wf ok.deep;lia,Wraps.of ok λq hq=>#[q,rfl,hq]],?_];rintro _⟨q,rfl,j7⟩;k_places;exact#[q,_,rfl,j7]
      . refine#[λx=>∃p:Pat,x=p.D/\p.Ok,#[.inr #[HN,HN],ns,k+4+2*(i:Int),rfl,HN,λL a b c d h1 h2 h3 h4 h5 h6=>#[.mot L a b c d,rfl,#[h1,h2,h3,h4,h5,h6],by simp[Pat.depth],Pat.fits_mot h2 h3 h4 h5 h6]],?_];rintro _⟨q,rfl,j7⟩;k_places;refine#[λz=>∃(q:Pat),z=[u5 (.rol (ns.map D.int)),u5 (.int k),u5 (.lst (xs.map D.int)),u5 p.D,u5 (.int i),u5 (.int st),u5 q.D]/\q.Ok,#[#[G_,G_],G_,ite2 (λc=>?_) (λc=>?_)],?_]
        . refine#[λx=>∃p:Pat,x=p.D/\p.Ok,#[.inr #[HN,HN],_,a2,q,_,rfl,j7.wf,j7.deep,by have:=Pat.text_short j7.wf j7.deep;lia,Wraps.of j7 λq hq=>#[q,rfl,hq]],?_];rintro _⟨q,rfl,j7⟩;k_places;exact#[q,rfl,j7]
        . exact#[q,rfl,j7]
        rintro _⟨q,rfl,j7⟩;k_places;refine#[λx=>∃p:Pat,x=p.D/\p.Ok,?_,?_]
        . have c9:∀r r':Pat,r.Ok->r'.Ok->∃x,atI [r.D,r'.D] (st/4%2)=u5 x/\∃p:Pat,x=p.D/\p.Ok:=λr r' hr OE=>by
            rcases(HN:st/4%2=0\/st/4%2=1)with e|e<;>rw[e]
            . exact#[_,rfl,r,rfl,hr]
            . exact#[_,rfl,r',rfl,OE]
          have MJ:p.depth<5->q.depth<5->(Pat.over p q).Fits->(Pat.over p q).Ok:=λd1 d2 ft=>#[#[ok.wf,j7.wf],by simp only[Pat.depth];lia,ft];have MK:q.depth<5->p.depth<5->(Pat.over q p).Fits->(Pat.over q p).Ok:=λd1 d2 ft=>#[#[j7.wf,ok.wf],by simp only[Pat.depth];lia,ft];refine#[p,q,rfl,ok.wf,j7.wf,ok.deep,j7.deep,?_,λd1 d2 ft=>?_]<;>refine#[q,p,rfl,j7.wf,ok.wf,j7.deep,ok.deep,?_,λd3 d4 ML=>?_]<;>refine#[HV,#[G_,G_],G_,?_]
          . exact c9 _ _ ok j7
          . exact c9 _ _ ok (MK d3 d4 ML)
          . exact c9 _ _ (MJ d1 d2 ft) j7
          . exact c9 _ _ (MJ d1 d2 ft) (MK d3 d4 ML)
        rintro _⟨q',rfl,Lg⟩;k_places;exact#[q',_,rfl,Lg]
      rintro _⟨q,o3,rfl,j7⟩;k_places;exact#[q,_,_,_,rfl,j7]
    . rintro z⟨p,o1,o2,o3,rfl,ok⟩;k_places;exact hR p ok
def Cp:SpM:=λds M R _=>∃(a:KF) (c d:Nat) (r:List Wt),ds=[.ptr a,.str #[[c].toArray],.int d]/\M=[(a,.lst (wtL r))]/\r.length<=90000/\(∀st,aQ d c r=u5 st->R (.bl true) [(a,.lst (wtL st))])/\(aQ d c r=A'->∀xs,R (.bl false) [(a,.lst xs)])
abbrev nn(V:Bx):Prop:=V.MM 1 "_law_begins" kJ Cp
def Cq(T:V.T "_law_begins" kI kJ):nn V:=by
 refine Tx.okM T sc__law_begins (λds M R RX h=>?_) (λf cdv A outer s H E J hr hx=>⟨_,((au (aW 3 sc__law_begins.nd (ah (aY (ac (aB (ac ak ae)) (ac (aB (ac ak (ac ak ae))) (ac (aB (ac ak ae)) ae))))))
   (au (bb (aV (aI (aa 1) ak)) (au (bq (dE (ah (aa 0)) (ah (aB (ac ak (ac ak ae))))))
    (au (bq (gW (ah (aa 0)) (ah (aj (aj (aj (aa 3) (aY (ac (aB (ac ak (ac ak ae))) ae))) (aa 3)) (aY (ac (aB (ac ak (ac ad (ac ad (ac ad ae))))) ae))))))
    (av (aG (ah ci))))) aT)
   (au (bb (aV (aI (aa 2) ad)) (av (aG (ah ci))) aT)
   (au (aW 4 sc__law_begins.nd (ah (aB (ac ak (ac (aj (aa 2) ad) ae)))))
   (au (dD (aV (aI (aa 1) ak)) (av (bq (gW (ah (aa 0)) (ah (aY (ac (aB (ac ak (ac ak ae))) (ac (aa 4) (ac (aB (ac ak (ac ak ae))) (ac (aa 4) ae))))))))) (av (dD (aV (aI (aa 1) ak)) (av (bq (gW (ah (aa 0)) (ah (aj (aY (ac (aa 4) (ac (aB (ac ak (ac ak ae))) ae))) (aa 3)))))) (av (dD (aV (aI (aa 1) ak)) (av (bq (gW (ah (aa 0)) (ah (aY (ac (aa 4) (ac (aB (ac ak ae)) (ac (aB (ac ak ae)) ae)))))))) (av (bq (dE (ah (aa 0)) (ah (aa 4))))))))))
   (av (aG (ah (ju (aa 1) (aY (ac ak (ac ak (ac ak (ac ak (ac ak ae)))))))))))))))),λds M R RX c8 h=>?_⟩)
 .obtain⟨_,_,_,_,rfl,_⟩:=h;rfl
 .obtain⟨a,c,d,r,rfl,rfl,hl,hR,hN⟩:=h;refine#[λx M'=>M'=[(a,.lst (wtL r))]/\x=.lst [Wt.num.D,(Wt.sign 44).D,Wt.num.D],#[Hf,Hf,Hf,Hf,rfl,rfl],?_];rintro _ _⟨rfl,rfl⟩;k_places;refine ite2 (λq=>?_) (λq=>?_)
  .have hc:c=91:=cr q;subst hc;refine#[#[_,aR],Hf,_,aR,by rw[cq];lia,?_];rw[bX];refine#[#[_,aR],Hf,Hf,Hf,Hf,Hf,Hf,Hf,_,aR,?_,?_]
   .show(wtL r++[_]).length+8<=100000;rw[DB,cq,Fs];lia
   rw[bX];have:=hR (motW r) (by simp[aQ]);unfold motW at this
   repeat rw[bT]at this
   simp only[D0]at this;simp only[D0];exact this
  have Hq:c≠91:=cF q;refine ite2 (λq5=>?_) (λq5=>?_)
  .have:=of_decide_eq_true q5;have d5:d=5:=by lia
   exact hN (by unfold aQ;rw[if_neg Hq,if_pos d5]) _
  have d5:¬d=5:=λe=>q5 (decide_eq_true (by rw[e];rfl));refine#[λx M'=>M'=[(a,.lst (wtL r))]/\x=(Wt.pat (d+1)).D,#[Hf,rfl,rfl],?_];rintro _ _⟨rfl,rfl⟩;k_places;have c9:∀(k:Bool) (xs:List D),(k=true->R (.bl true) [(a,.lst xs)])->(k=false->R (.bl false) [(a,.lst xs)])->R (.bl k) [(a,.lst xs)]:=λk xs h1 h2=>by
   cases k
   .exact h2 rfl
   .exact h1 rfl
  refine#[λz M'=>∃xs,z=[u5 (.ptr a),u5 (.str #[[c].toArray]),u5 (.int d),u5 (.lst [Wt.num.D,(Wt.sign 44).D,Wt.num.D]),u5 (Wt.pat (d+1)).D]/\M'=[(a,.lst xs)]/\(∀st,aQ d c r=u5 st->xs=wtL st),?_,?_]
  .have put:∀(ws st:List Wt),aQ d c r=u5 (ws.reverse++r)->aQ d c r=u5 st->wtL r++ws.map Wt.D=wtL st:=λws st h1 h2=>by
    rw[h1]at h2;cases h2;unfold wtL;rw[List.reverse_append,Ef,List.reverse_reverse]
   refine ite2 (λq=>?_) (λq=>?_)
   .have hc:c=40:=cr q;refine#[#[_,aR],Hf,Hf,Hf,_,aR,by rw[cq];show _+4<=_;lia,?_];rw[bX];exact#[_,rfl,rfl,λst h=>put [.sign 41,.pat (d+1),.sign 124,.pat (d+1)] st (by unfold aQ;rw[if_neg Hq,if_neg d5,if_pos hc];rfl) h]
   have JJ:c≠40:=cF q;refine#[_,ite2 (λq=>?_) (λq=>?_),λ_ _ h=>h]
   .have hc:c=115:=cr q;refine#[#[_,aR],Hf,Hf,Hf,_,aR,by rw[cq];show _+5<=_;lia,?_];rw[bX];exact#[_,rfl,rfl,λst h=>put [.pat (d+1),.sign 58,.num,.sign 44,.num] st (by unfold aQ;rw[if_neg Hq,if_neg d5,if_neg JJ,if_pos hc];rfl) h]
   have Hr:c≠115:=cF q;refine#[_,ite2 (λq=>?_) (λq=>?_),λ_ _ h=>h]
   .have hc:c=104:=cr q;refine#[#[_,aR],Hf,Hf,Hf,_,aR,by rw[cq];show _+3<=_;lia,?_];rw[bX];exact#[_,rfl,rfl,λst h=>put [.pat (d+1),.hue,.hue] st (by unfold aQ;rw[if_neg Hq,if_neg d5,if_neg JJ,if_neg Hr,if_pos hc];rfl) h]
   have IA:c≠104:=cF q;refine#[#[_,aR],_,aR,by rw[cq];lia,?_];rw[bX];refine#[_,rfl,rfl,λst h=>?_];have h0:=h;unfold aQ at h0;rw[if_neg Hq,if_neg d5,if_neg JJ,if_neg Hr,if_neg IA]at h0;by_cases hc:c=109\/c=116
   .exact put [.pat (d+1)] st (by unfold aQ;rw[if_neg Hq,if_neg d5,if_neg JJ,if_neg Hr,if_neg IA,if_pos hc];rfl) h
   .rw[if_neg hc]at h0;cases h0
  rintro _ _⟨xs,rfl,rfl,hx⟩;k_places;refine#[Hf,#[Hf,Hf],?_];have e:([D.str "(",.str "s",.str "h",.str "m",.str "t"].any λy=>eqF y (.str #[[c].toArray]))=(aQ d c r).isSome:=by
   show(decide ((#[[40].toArray]:G8)=#[[c].toArray])||(decide ((#[[115].toArray]:G8)=#[[c].toArray])||(decide ((#[[104].toArray]:G8)=#[[c].toArray])||(decide ((#[[109].toArray]:G8)=#[[c].toArray])||(decide ((#[[116].toArray]:G8)=#[[c].toArray])||false)))))=_
   repeat rw[chr_eq]
   unfold aQ;rw[if_neg Hq,if_neg d5];by_cases h1:c=40
   .subst h1;rfl
   rw[if_neg h1];by_cases h2:c=115
   .subst h2;rfl
   rw[if_neg h2];by_cases h3:c=104
   .subst h3;rfl
   rw[if_neg h3];by_cases h4:c=109
   .subst h4;rfl
   by_cases h5:c=116
   .subst h5;rfl
   rw[if_neg (λz=>z.elim h4 h5),decide_eq_false (Ne.symm h1),decide_eq_false (Ne.symm h2),decide_eq_false (Ne.symm h3),decide_eq_false (Ne.symm h4),decide_eq_false (Ne.symm h5)];rfl
  show R (.bl (List.any _ _)) _;rw[e];cases hb:aQ d c r with
  |none=>exact hN hb xs
  |some st=>rw[hx st hb];exact hR st hb
def Cr:SpM:=λds M R _=>∃(a:KF) (c w h k:Nat) (r:List Wt),ds=[.ptr a,.str #[[c].toArray],.int w,.int h,.int k]/\M=[(a,.lst (wtL r))]/\r.length<=90000/\(∀st,goesOn w h k c r=u5 st->R (.bl true) [(a,.lst (wtL st))])/\(goesOn w h k c r=A'->∀xs,R (.bl false) [(a,.lst xs)])
abbrev nq(V:Bx):Prop:=V.MM 1 "_law_goes_on" kL Cr
def Cs(T:V.T "_law_goes_on" kK kL)(uI:V.m "list")(uC:V.m "int"):nq V:=by
 refine Tx.okM T BK (λds M R RX h=>?_) (λf cdv A outer s H E J hr hx=>⟨_,((au (bb (aV (xV (aa 1) (gP rfl uI (ac ak ae)))) (au (bq (dE (ah (aa 0)) (ah (aB (ac ak (ac (aa 2) (ac (aj (aa 3) ad) (ac (aa 4) ae))))))))
    (av (aG (ah (pD (aa 3) (af (aY (ac ad (ac (aa 2) ae))) (gx uC (ac (wx (aa 4) ad) ae)))))))) aT)
   (au (bb (aV (gq (pS (aI (aa 3) ad) (pQ (gq (pR (pM (aa 4) ad) (pP (dY (aa 3) (aa 2))))))))) (av (aG (ah ci))) aT)
   (au (bb (aV (aI (aa 1) ak)) (au (bq (dE (ah (aa 0)) (ah (aB (ac ak (ac (aa 3) (ac ad (ac (aj (aa 4) ad) ae))))))))
    (av (aG (ah (pD (aa 4) ad))))) aT)
   (av (aG (ah (cj (aa 1) ak)))))))),λds M R RX c8 h=>?_⟩)
 .obtain⟨_,_,_,_,_,_,rfl,_⟩:=h;rfl
 .obtain⟨a,c,w,h,k,r,rfl,rfl,hl,hR,hN⟩:=h;have sg:((bQ ".123456").any λy=>eqF y (.str #[[c].toArray]))=isSg c:=by
   show(decide ((#[[46].toArray]:G8)=#[[c].toArray])||(decide ((#[[49].toArray]:G8)=#[[c].toArray])||(decide ((#[[50].toArray]:G8)=#[[c].toArray])||(decide ((#[[51].toArray]:G8)=#[[c].toArray])||(decide ((#[[52].toArray]:G8)=#[[c].toArray])||(decide ((#[[53].toArray]:G8)=#[[c].toArray])||(decide ((#[[54].toArray]:G8)=#[[c].toArray])||false)))))))=_
   repeat rw[chr_eq]
   unfold isSg;rw[En];simp;lia
  have c9:∀(b:Bool) (xs:List D),(∀st,goesOn w h k c r=u5 st->b=true/\xs=wtL st)->(goesOn w h k c r=A'->b=false)->R (.bl b) [(a,.lst xs)]:=λb xs h1 h2=>by
   cases e:goesOn w h k c r with
   |none=>rw[h2 e];exact hN e xs
   |some st=>
    obtain⟨rfl,rfl⟩:=h1 st e;exact hR st e
  refine#[Hf,#[Hf,Hf],?_];rw[show(((bQ ".123456").any λy=>eqF y (.str #[[c].toArray])))=isSg c from sg];refine ite2 (λqs=>?_) (λqs=>?_)
  .have qs:isSg c=true:=qs;refine#[#[_,aR],Hf,_,aR,by rw[cq];lia,?_];rw[bX];have d_:atI [D.int 8,D.int w] (if decide ((0:Int)<(k:Int))=true then 1 else 0)=u5 (.int ((if 0<k then w else 8:Nat):Int)):=by
    by_cases hk:0<k
    .rw[decide_eq_true (HN:(0:Int)<(k:Int)),if_pos hk];rfl
    .rw[decide_eq_false (HN:¬(0:Int)<(k:Int)),if_neg hk];rfl
   refine#[Hf,_,d_,?_];refine c9 (decide ((h:Int)<((if 0<k then w else 8:Nat):Int))) _ (λst e=>?_) (λe=>?_)
   .unfold goesOn at e;rw[if_pos qs]at e;by_cases hh:h<(if 0<k then w else 8)
    .rw[if_pos hh]at e;cases e;exact#[decide_eq_true HN,by rw[bT];rfl]
    .rw[if_neg hh]at e;cases e
   .unfold goesOn at e;rw[if_pos qs]at e;by_cases hh:h<(if 0<k then w else 8)
    .rw[if_pos hh]at e;cases e
    .exact decide_eq_false HN
  have qs:¬isSg c=true:=qs;refine ite2 (λq=>?_) (λq=>ite2 (λq2=>ite2 (λq3=>?_) (λq3=>?_)) (λq2=>iteF ?_))
  .have q:=of_decide_eq_true q;exact iteT (hN (by unfold goesOn;rw[if_neg qs,if_pos (.inl HN)]) _)
  .have q2:=of_decide_eq_true q2;have q3:=of_decide_eq_true q3;exact hN (by unfold goesOn;rw[if_neg qs,if_pos (.inr #[HN,HN])]) _
  .have hc:¬(h=0\/(0<k/\h<w)):=by
    have:¬(h:Int)=0:=λe=>q (decide_eq_true e);have:¬(h:Int)<(w:Int):=λe=>q3 (decide_eq_true e);lia
   have n0:isSg c=true->False:=λz=>qs z;refine ite2 (λq4=>?_) (λq4=>?_)
   .have x9:c=47:=cr q4;refine#[#[_,aR],Hf,_,aR,by rw[cq];lia,?_];rw[bX];refine c9 (decide ((k:Int)<7)) _ (λst e=>?_) (λe=>?_)
    .unfold goesOn at e;rw[if_neg qs,if_neg hc,if_pos x9]at e;by_cases k7:k<7
     .rw[if_pos k7]at e;cases e;exact#[decide_eq_true HN,by rw[bT];rfl]
     .rw[if_neg k7]at e;cases e
    .unfold goesOn at e;rw[if_neg qs,if_neg hc,if_pos x9]at e;by_cases k7:k<7
     .rw[if_pos k7]at e;cases e
     .exact decide_eq_false HN
   have IB:c≠47:=cF q4;refine c9 (decide ((#[[c].toArray]:G8)=";")) _ (λst e=>?_) (λe=>?_)
   .unfold goesOn at e;rw[if_neg qs,if_neg hc,if_neg IB]at e;by_cases t8:c=59
    .rw[if_pos t8]at e;cases e;exact#[by subst t8;rfl,rfl]
    .rw[if_neg t8]at e;cases e
   .unfold goesOn at e;rw[if_neg qs,if_neg hc,if_neg IB]at e;by_cases t8:c=59
    .rw[if_pos t8]at e;cases e
    .exact chr_eq.trans (decide_eq_false t8)
  .have hc:¬(h=0\/(0<k/\h<w)):=by
    have:¬(h:Int)=0:=λe=>q (decide_eq_true e);have:¬(0:Int)<(k:Int):=λe=>q2 (decide_eq_true e);lia
   have n0:isSg c=true->False:=λz=>qs z;refine ite2 (λq4=>?_) (λq4=>?_)
   .have x9:c=47:=cr q4;refine#[#[_,aR],Hf,_,aR,by rw[cq];lia,?_];rw[bX];refine c9 (decide ((k:Int)<7)) _ (λst e=>?_) (λe=>?_)
    .unfold goesOn at e;rw[if_neg qs,if_neg hc,if_pos x9]at e;by_cases k7:k<7
     .rw[if_pos k7]at e;cases e;exact#[decide_eq_true HN,by rw[bT];rfl]
     .rw[if_neg k7]at e;cases e
    .unfold goesOn at e;rw[if_neg qs,if_neg hc,if_pos x9]at e;by_cases k7:k<7
     .rw[if_pos k7]at e;cases e
     .exact decide_eq_false HN
   have IB:c≠47:=cF q4;refine c9 (decide ((#[[c].toArray]:G8)=";")) _ (λst e=>?_) (λe=>?_)
   .unfold goesOn at e;rw[if_neg qs,if_neg hc,if_neg IB]at e;by_cases t8:c=59
    .rw[if_pos t8]at e;cases e;exact#[by subst t8;rfl,rfl]
    .rw[if_neg t8]at e;cases e
   .unfold goesOn at e;rw[if_neg qs,if_neg hc,if_neg IB]at e;by_cases t8:c=59
    .rw[if_pos t8]at e;cases e
    .exact chr_eq.trans (decide_eq_false t8)
def Ct:SpM:=λds M R _=>∃(a:KF) (c:Nat) (x:Wt) (r:List Wt),ds=[.ptr a,.str #[[c].toArray]]/\M=[(a,.lst (wtL (x::r)))]/\r.length<=90000/\(∀st,ay (x::r) c=u5 st->R (.bl true) [(a,.lst (wtL st))])/\(ay (x::r) c=A'->∀xs,R (.bl false) [(a,.lst xs)])
abbrev nt(V:Bx):Prop:=V.MM 2 "_law_takes" kN Ct
def Cu(T:V.T "_law_takes" kM kN)(uI:V.m "list")(Lh:nn V)(Li:nq V):nt V:=by
 refine Tx.okM T sc__law_takes (λds M R RX h=>?_) (λf cdv A outer s H E J hr hx=>⟨_,((au (aW 2 sc__law_takes.nd (sJ (ah (aa 0))))
   (au (bb (aV (aI (af (aa 2) ad) ak)) (av (aG (ah (cj (aa 1) (af (aa 2) ad))))) aT)
   (au (bb (aV (aI (af (aa 2) ad) ak)) (av (aG (aX Lh hx hr (aE (ac (aa 0) (ac (aa 1) (ac (af (aa 2) ad) ae))))))) aT)
   (au (bb (aV (aI (af (aa 2) ad) ak)) (av (aG (aX Li hx hr (aE (ac (aa 0) (ac (aa 1) (ac (af (aa 2) ad) (ac (af (aa 2) ad) (ac (af (aa 2) ad) ae))))))))) aT)
   (au (bb (aV (aI (af (aa 2) ad) ak)) (av (aG (ah (ju (aa 1) (gP rfl uI (ac ak ae)))))) aT)
   (au (bb (aV (aI (af (aa 2) ad) ak)) (av (aG (ah ci))) aT)
   (au (dD (aV (aI (aa 1) ak)) (av (bq (dE (ah (aa 0)) (ah (aB (ac ak ae)))))) aT)
   (au (bb (aV (gq (pR (aI (aa 1) ak) (pP (aI (af (aa 2) ad) ak))))) (au (bq (dE (ah (aa 0)) (ah (aB (ac ak ae)))))
    (av (aG (ah ci)))) aT)
   (av (aG (ah (wH (ju (aa 1) (gP rfl uI (ac ak ae))) (dv (dz (cj (aa 1) ak) (dv (cj (af (aa 2) ad) ak))))))))))))))))),λds M R RX c8 h=>?_⟩)
 .obtain⟨_,_,_,_,rfl,_⟩:=h;rfl
 .obtain⟨a,c,x,r,rfl,rfl,hl,hR,hN⟩:=h;have c9:∀(b:Bool) (xs:List D),(∀st,ay (x::r) c=u5 st->b=true/\xs=wtL st)->(ay (x::r) c=A'->b=false)->R (.bl b) [(a,.lst xs)]:=λb xs h1 h2=>by
   cases e:ay (x::r) c with
   |none=>rw[h2 e];exact hN e xs
   |some st=>
    obtain⟨rfl,rfl⟩:=h1 st e;exact hR st e
  refine#[λy M'=>M'=[(a,.lst (wtL r))]/\y=x.D,#[_,x.D,aR,?_,?_,rfl],?_]
  .rw[bT];simp
  .rw[bX,bT,GM]
  rintro _ _⟨rfl,rfl⟩;k_places;have MN:((bQ "123456").any λy=>eqF y (.str #[[c].toArray]))=decide (49<=c/\c<=54):=by
   show(decide ((#[[49].toArray]:G8)=#[[c].toArray])||(decide ((#[[50].toArray]:G8)=#[[c].toArray])||(decide ((#[[51].toArray]:G8)=#[[c].toArray])||(decide ((#[[52].toArray]:G8)=#[[c].toArray])||(decide ((#[[53].toArray]:G8)=#[[c].toArray])||(decide ((#[[54].toArray]:G8)=#[[c].toArray])||false))))))=_
   repeat rw[chr_eq]
   rw[En];simp;lia
  have HE:((bQ "123456789").any λy=>eqF y (.str #[[c].toArray]))=decide (49<=c/\c<=57):=by
   show(decide ((#[[49].toArray]:G8)=#[[c].toArray])||(decide ((#[[50].toArray]:G8)=#[[c].toArray])||(decide ((#[[51].toArray]:G8)=#[[c].toArray])||(decide ((#[[52].toArray]:G8)=#[[c].toArray])||(decide ((#[[53].toArray]:G8)=#[[c].toArray])||(decide ((#[[54].toArray]:G8)=#[[c].toArray])||(decide ((#[[55].toArray]:G8)=#[[c].toArray])||(decide ((#[[56].toArray]:G8)=#[[c].toArray])||(decide ((#[[57].toArray]:G8)=#[[c].toArray])||false)))))))))=_
   repeat rw[chr_eq]
   rw[En];simp;lia
  cases x with
  |sign s=>
   obtain⟨tg,ht⟩:∃tg:G8,tg="sign":=#[_,rfl];refine#[.str tg,Mg,?_];refine ite2 (λ_=>?_) (λq=>absurd q HX);refine#[_,rfl,c9 (decide ((#[[c].toArray]:G8)=#[[s].toArray])) _ (λst e=>?_) (λe=>?_)]
   .rw[ay]at e;by_cases h:c=s
    .rw[if_pos h]at e;cases e;exact#[chr_eq.trans (decide_eq_true h),rfl]
    .rw[if_neg h]at e;cases e
   .rw[ay]at e;by_cases h:c=s
    .rw[if_pos h]at e;cases e
    .exact chr_eq.trans (decide_eq_false h)
  |pat d=>
   obtain⟨tg,ht⟩:∃tg:G8,tg="pattern":=#[_,rfl];refine#[.str tg,Mg,?_];refine iteN HX ?_;refine#[.str tg,Mg,?_];refine ite2 (λ_=>?_) (λq=>absurd q HX);exact#[_,rfl,a,c,d,r,rfl,rfl,hl,hR,hN]
  |lin w h k=>
   obtain⟨tg,ht⟩:∃tg:G8,tg="lines":=#[_,rfl];refine#[.str tg,Mg,?_];refine iteN HX ?_;refine#[.str tg,Mg,?_];refine iteN HX ?_;refine#[.str tg,Mg,?_];refine ite2 (λ_=>?_) (λq=>absurd q HX);exact#[_,rfl,_,rfl,_,rfl,a,c,w,h,k,r,rfl,rfl,hl,hR,hN]
  |hue=>
   obtain⟨tg,ht⟩:∃tg:G8,tg="hue":=#[_,rfl];refine#[.str tg,Mg,?_];refine iteN HX ?_;refine#[.str tg,Mg,?_];refine iteN HX ?_;refine#[.str tg,Mg,?_];refine iteN HX ?_;refine#[.str tg,Mg,?_];refine ite2 (λ_=>?_) (λq=>absurd q HX);refine#[Hf,#[Hf,Hf],c9 _ _ (λst e=>?_) (λe=>?_)]
   .rw[ay]at e;by_cases h:49<=c/\c<=54
    .rw[if_pos h]at e;cases e;exact#[MN.trans (decide_eq_true h),rfl]
    .rw[if_neg h]at e;cases e
   .rw[ay]at e;by_cases h:49<=c/\c<=54
    .rw[if_pos h]at e;cases e
    .exact MN.trans (decide_eq_false h)
  |more=>
   obtain⟨tg,ht⟩:∃tg:G8,tg="more":=#[_,rfl];refine#[.str tg,Mg,?_];refine iteN HX ?_;refine#[.str tg,Mg,?_];refine iteN HX ?_;refine#[.str tg,Mg,?_];refine iteN HX ?_;refine#[.str tg,Mg,?_];refine iteN HX ?_;refine#[.str tg,Mg,?_];refine ite2 (λ_=>?_) (λq=>absurd q HX);exact hR r rfl
  |num=>
   obtain⟨tg,ht⟩:∃tg:G8,tg="number":=#[_,rfl];refine#[.str tg,Mg,?_];refine iteN HX ?_;refine#[.str tg,Mg,?_];refine iteN HX ?_;refine#[.str tg,Mg,?_];refine iteN HX ?_;refine#[.str tg,Mg,?_];refine iteN HX ?_;refine#[.str tg,Mg,?_];refine iteN HX ?_;refine#[λz M'=>z=[u5 (.ptr a),u5 (.str #[[c].toArray]),u5 Wt.num.D]/\M'=[(a,.lst (wtL (if c=49 then .more::r else r)))],ite2 (λq=>?_) (λq=>?_),?_]
   .have h:c=49:=cr q;refine#[#[_,aR],Hf,_,aR,by rw[cq];lia,rfl,?_];rw[bX,if_pos h,bT];rfl
   .have h:¬c=49:=cF q;exact#[rfl,by rw[if_neg h]]
   rintro _ _⟨rfl,rfl⟩;k_places;refine ite2 (λq=>?_) (λq=>iteF ?_)
   .have h:c=45:=cr q;have h1:¬c=49:=by lia
    refine#[.str tg,Mg,?_];refine ite2 (λ_=>?_) (λq=>absurd q HX);rw[if_neg h1];refine#[#[_,aR],Hf,_,aR,by rw[cq];lia,?_];rw[bX];have:=hR (.fig::r) (by rw[ay,if_neg h1,if_pos h]);rw[bT]at this;exact this
   have h:¬c=45:=cF q;have ge:∀b:Bool,b=decide (48<=c/\c<=57)->R (.bl b) [(a,.lst (wtL (if c=49 then .more::r else r)))]:=λb eb=>by
    refine c9 b _ (λst e=>?_) (λe=>?_)
    .rw[ay]at e;rw[if_neg h]at e;by_cases h9:c=49
     .rw[if_pos h9]at e ⊢;cases e;exact#[eb.trans (decide_eq_true HN),rfl]
     rw[if_neg h9]at e ⊢;by_cases h5:48<=c/\c<=57
     .rw[if_pos h5]at e;cases e;exact#[eb.trans (decide_eq_true h5),rfl]
     .rw[if_neg h5]at e;cases e
    .rw[ay]at e;rw[if_neg h]at e;by_cases h9:c=49
     .rw[if_pos h9]at e;cases e
     rw[if_neg h9]at e;by_cases h5:48<=c/\c<=57
     .rw[if_pos h5]at e;cases e
     .exact eb.trans (decide_eq_false h5)
   refine#[Hf,#[Hf,Hf],ite2 (λq=>?_) (λq=>ite2 (λq2=>?_) (λq2=>?_))]
   .have:=of_decide_eq_true (HE.symm.trans q);exact ge true (decide_eq_true HN).symm
   .have:c=48:=cr q2;exact#[_,rfl,ge _ ((Hd:decide (("number":G8)="number")=true).trans (decide_eq_true HN).symm)]
   .have h2:¬c=48:=cF q2;have h3:¬(49<=c/\c<=57):=λz=>q (HE.trans (decide_eq_true z));exact ge false (decide_eq_false HN).symm
  |fig=>
   obtain⟨tg,ht⟩:∃tg:G8,tg="figure":=#[_,rfl];refine#[.str tg,Mg,?_];refine iteN HX ?_;refine#[.str tg,Mg,?_];refine iteN HX ?_;refine#[.str tg,Mg,?_];refine iteN HX ?_;refine#[.str tg,Mg,?_];refine iteN HX ?_;refine#[.str tg,Mg,?_];refine iteN HX ?_;refine#[λz M'=>z=[u5 (.ptr a),u5 (.str #[[c].toArray]),u5 Wt.fig.D]/\M'=[(a,.lst (wtL (if c=49 then .more::r else r)))],ite2 (λq=>?_) (λq=>?_),?_]
   .have h:c=49:=cr q;refine#[#[_,aR],Hf,_,aR,by rw[cq];lia,rfl,?_];rw[bX,if_pos h,bT];rfl
   .have h:¬c=49:=cF q;exact#[rfl,by rw[if_neg h]]
   rintro _ _⟨rfl,rfl⟩;k_places;have ge:∀b:Bool,b=decide (49<=c/\c<=57)->R (.bl b) [(a,.lst (wtL (if c=49 then .more::r else r)))]:=λb eb=>by
    refine c9 b _ (λst e=>?_) (λe=>?_)
    .rw[ay]at e;by_cases h9:c=49
     .rw[if_pos h9]at e ⊢;cases e;exact#[eb.trans (decide_eq_true HN),rfl]
     rw[if_neg h9]at e ⊢;by_cases h5:50<=c/\c<=57
     .rw[if_pos h5]at e;cases e;exact#[eb.trans (decide_eq_true HN),rfl]
     .rw[if_neg h5]at e;cases e
    .rw[ay]at e;by_cases h9:c=49
     .rw[if_pos h9]at e;cases e
     rw[if_neg h9]at e;by_cases h5:50<=c/\c<=57
     .rw[if_pos h5]at e;cases e
     .exact eb.trans (decide_eq_false HN)
   have rest:∀{A:Prop},(A)->A:=id;refine ite2 (λq=>?_) (λq=>iteF ?_)
   .refine#[.str tg,Mg,?_];refine iteN HX ?_;refine#[Hf,#[Hf,Hf],ite2 (λq=>?_) (λq=>ite2 (λq2=>?_) (λq2=>?_))]
    .have:=of_decide_eq_true (HE.symm.trans q);exact ge true (decide_eq_true HN).symm
    .have:c=48:=cr q2;exact#[_,rfl,ge _ ((Hd:decide (("figure":G8)="number")=false).trans (decide_eq_false HN).symm)]
    .have h3:¬(49<=c/\c<=57):=λz=>q (HE.trans (decide_eq_true z));exact ge false (decide_eq_false HN).symm
   .refine#[Hf,#[Hf,Hf],ite2 (λq=>?_) (λq=>ite2 (λq2=>?_) (λq2=>?_))]
    .have:=of_decide_eq_true (HE.symm.trans q);exact ge true (decide_eq_true HN).symm
    .have:c=48:=cr q2;exact#[_,rfl,ge _ ((Hd:decide (("figure":G8)="number")=false).trans (decide_eq_false HN).symm)]
    .have h3:¬(49<=c/\c<=57):=λz=>q (HE.trans (decide_eq_true z));exact ge false (decide_eq_false HN).symm
def Cw:SpX:=λds R _=>∃t:G8,ds=[.str t]/\t.length<=9000/\(∀k:Nat,bK t=u5 k->R (.int k))/\(bK t=A'->R (.int (-1)))
abbrev nu(V:Bx):Prop:=V.X 3 "_law_wrong_place" kP Cw
def Cy(T:V.T "_law_wrong_place" kO kP)(uH:V.m "range")(uA:V.m "len")(uI:V.m "list")(Lj:nt V):nu V:=by
  refine CalMM.nilX (Tx.okM T sc__law_wrong_place (λds M R RX h=>?_) (λf cdv A outer s H E J hr hx=>⟨_,((au (aW 1 sc__law_wrong_place.nd (gL (aE (ac (aB (ac ak (ac ad ae))) ae))))
      (au (rb 2 PassesOwn.leaving rfl sc__law_wrong_place.nd uH (ah (cP uA (ac (aa 0) ae))) (au (dD (mt_w (jy (sK (fq hr) (ah (aa 1))) (jy (By (fq hr) (rg (ah (aa 1)) (ah (bZ ad))) (ah (aB (ac ak ae)))) (qR (aV (xW (af (aa 0) (aa 2)) (gP rfl uI (ac ak ae)))))))) (av (bq (sJ (ah (aa 1))))) aT)
        (av (bb (mt_w (qT (BD (fq hr) (ah (aa 1))) (qS (Bu (Bs (aX Lj hx hr (aE (ac (aa 1) (ac (af (aa 0) (aa 2)) ae))))))))) (av (aG (ah (aa 2)))) aT))))
      (au (bb (sK (fq hr) (ah (aa 1))) (av (aG (ah (cP uA (ac (aa 0) ae))))) aT)
      (av (aG (ah (bZ ad)))))))),λds M R RX c8 h=>?_⟩))
  . obtain⟨_,_,_,⟨_,rfl,_⟩,_⟩:=h;rfl
  . obtain⟨rfl,R0,G2,⟨t,rfl,ht,hR,hN⟩,hQ,hX⟩:=h;have wd:bK t=walk [.pat 0] (cs t) 0:=rfl;have b8:(cs t).length=t.length:=bG t;refine#[λx M'=>∃p,x=.ptr p/\M'=[(p,.lst (wtL [.pat 0]))],#[Hf,Hf,λp _=>#[p,rfl,rfl]],?_];rintro _ _⟨p,rfl,rfl⟩;k_places;refine#[HN,#[HN,HN],λk z M=>∃st o,z=[u5 (.str t),u5 (.ptr p),o]/\M=[(p,.lst (wtL st))]/\st.length<=1+9*k/\bK t=walk st ((cs t).drop k) k,#[[.pat 0],_,rfl,rfl,Hf,wd],?_,?_]
    . rintro k x z M hk⟨st,o,rfl,rfl,hl,hw⟩;k_places;obtain⟨s_,rfl⟩:=range_int hk;rw[EF]at s_;obtain⟨c,hc⟩:∃c,(cs t)[k]?=u5 c:=#[_,DV HN];have hd:(cs t).drop k=c::(cs t).drop (k+1):=by
        rw[FP (HN:k<(cs t).length)];rw[DV HN]at hc;injection hc with hc;rw[hc]
      rw[hd]at hw;have d_:atI t.cps.toList (k:Int)=u5 c:=dh hc;have sg:((bQ "012").any λy=>eqF y (.str #[[c].toArray]))=decide (48<=c/\c<=50):=by
        show(decide ((#[[48].toArray]:G8)=#[[c].toArray])||(decide ((#[[49].toArray]:G8)=#[[c].toArray])||(decide ((#[[50].toArray]:G8)=#[[c].toArray])||false)))=_
        repeat rw[chr_eq]
        rw[En];simp;lia
      refine#[λz' M'=>z'=[u5 (.str t),u5 (.ptr p),u5 (.int (k:Int))]/\M'=[(p,.lst (wtL (aD st c)))],?_,?_]
      . cases st with
        |nil=>exact#[_,aR,iteF (iteF #[rfl,rfl])]
        |cons x r=>
          refine#[_,aR,?_];have ne:(!(wtL (x::r)).isEmpty)=true:=by rw[bT];simp
          rw[ne];obtain⟨xs,e1,e2,e3⟩:=x.tup;refine iteT #[_,aR,x.D,by rw[bT];exact B7,?_];rw[e1];refine#[Hf,#[e2,Hf],?_];dsimp only;rw[e3];by_cases hm:x=.more
          . subst hm;refine iteT #[c,#[HN,d_],Hf,#[Hf,Hf],?_];rw[show((bQ "012").any λy=>eqF y (.str #[[c].toArray]))=_ from sg];by_cases h:48<=c/\c<=50
            . rw[decide_eq_true h];refine iteF #[rfl,?_];show _=[(p,MO.lst (wtL (if 48<=c/\c<=50 then Wt.more::r else r)))];rw[if_pos h]
            . rw[decide_eq_false h];refine iteT #[_,Wt.more.D,aR,?_,rfl,?_]
              . rw[bT];simp
              . rw[bX,bT,GM];show _=[(p,MO.lst (wtL (if 48<=c/\c<=50 then Wt.more::r else r)))];rw[if_neg h]
          . rw[decide_eq_false hm];refine iteF (iteF #[rfl,?_]);cases x with
            |more=>exact absurd rfl hm
            |_=>rfl
      rintro _ _⟨rfl,rfl⟩;k_places;have l0:(aD st c).length<=1+9*k:=by
        unfold aD;split
        . split
          . exact hl
          . rw[Du]at hl;lia
        . exact hl
      rw[walk,step]at hw;cases e:aD st c with
      |nil=>
        rw[e,ay]at hw;exact#[_,aR,iteT (iteT (hQ _ _ (hR _ hw)))]
      |cons x r=>
        rw[e,Du]at l0;rw[e]at hw;have ne:(wtL (x::r)).isEmpty=false:=by rw[bT];simp
        refine#[_,aR,?_];rw[ne];refine iteF #[c,#[HN,d_],p,c,x,r,rfl,rfl,HN,λst' e'=>?_,λe' xs=>?_]
        . rw[e']at hw;have:=B6 e';exact iteF #[st',_,rfl,rfl,HN,hw]
        . rw[e']at hw;exact iteT (hQ _ _ (hR _ hw))
    . rintro z M⟨st,o,rfl,rfl,hl,hw⟩;k_places;rw[DJ,List.length_range,EF]at hw;rw[List.drop_of_length_le HN,walk]at hw;refine#[_,aR,?_];cases st with
      |nil=>
        rw[if_pos rfl]at hw;exact iteF (hQ _ _ (hN hw))
      |cons x r=>
        have ne:(!(wtL (x::r)).isEmpty)=true:=by rw[bT];simp
        rw[ne];rw[if_neg HV]at hw;exact iteT #[HN,hQ _ _ (hR _ hw)]
abbrev iz(V:Bx):Prop:=V.E 1 "WrongSign" kR Bo
def Cz(T:V.Te "WrongSign" "WrongSign.__init__" kQ kR)(HF:V.b "MotifError")(uAB:V.ea "WrongSign")(Lk:V.xf "WrongSign" "place"):iz V:=by
 refine Txe.okE T BL (λds R h=>?_) (λf cdv A outer s H E J hr=>#[_,((qy HF uAB (ac (aa 1) ae) (qz uAB Lk (aa 1) qw))),λds R h=>?_])
 .obtain⟨i,rfl,_⟩:=h;rfl
 .obtain⟨i,rfl,hR⟩:=h;exact#[by show(1:Nat)<=1000;decide,rfl,hR]
abbrev df(V:Bx):Prop:=V.Q 1 "Reading" "may_take" kT AM
def CA(T:V.Tm "Reading" "may_take" "Reading.may_take" kS kT)(uA:V.m "len")(uT:V.a "Reading" "text")(uD:V.a "Reading" "place"):df V:=by
 refine Txm.okM T BM (λds M R RX h=>?_) (λf cdv A outer s H E J hr hx=>⟨_,((au (bb (mt_w (qT (jx (bn uD (ah (aa 0))) (qU uA (bf (bn uT (ah (aa 0))) bz))) (qS (yg (qO (bn uT (ah (aa 0))) (bn uD (ah (aa 0)))) (ah (aa 1)))))) (av (aG (ah ak))) aT)
   (au (gO uD (ah (aa 0)) (gK (bn uD (ah (aa 0))) (ah ad)))
   (av (aG (qO (bn uT (ah (aa 0))) (yf (bn uD (ah (aa 0))) (ah ad)))))))),λds M R RX c8 h=>?_⟩)
 .obtain⟨_,_,_,_,_,rfl,_⟩:=h;rfl
 .obtain⟨a,t,k,l,al,rfl,rfl,d_,hR⟩:=h;refine#[_,aN,_,cY,_,aN,_,jK,Dy d_.sz G_,?_];cases l with
  |nil=>
   refine ifdT (by rw[d_.nil]) (ifT rfl ?_);exact hR
  |cons c l=>
   have lt:=d_.lt;refine ifdF HN ?_;refine#[_,aN,_,jK,_,aN,_,cY,c,#[Dy d_.sz G_,dh d_.get],?_];refine ite2 (λe=>?_) (λe=>?_)
   .have e2:(!(!(Builtin.Str.occurrences al #[[c].toArray] 0 al.length 1).isEmpty))=true:=e;rw[si]at e2;have nc:c∉cs al:=by simpa using e2
    rw[cZ nc,db nc]at hR;exact hR
   .have e2:¬(!(!(Builtin.Str.occurrences al #[[c].toArray] 0 al.length 1).isEmpty))=true:=e;rw[si]at e2;have nc:c∈cs al:=by simpa using e2
    rw[dH nc,dI nc]at hR;refine#[_,aN,_,cY,_,aN,by show(2:Nat)<1000;decide,?_];rw[show mput (RdM a t k) a (.ins "Reading" (putD ("place":G8) (.int ((k:Int)+1)) (rdF t k)))=RdM a t (k+1)by rw[AK];exact eQ];refine#[_,aN,_,jK,_,aN,_,cY,c,#[Dy d_.sz G_,?_],hR];rw[show((k+1:Nat):Int)-1=(k:Int)by lia];exact dh d_.get
abbrev cG(V:Bx):Prop:=V.Q 3 "Reading" "take" kW AN
def CB(T:V.Tm "Reading" "take" "Reading.take" kU kW)(uD:V.a "Reading" "place")(uF:df V)(uL:iz V):cG V:=by
 refine Txm.okM T sc_Reading_take (λds M R RX h=>?_) (λf cdv A outer s H E J hr hx=>⟨_,((au (aW 2 sc_Reading_take.nd (bA (CalMth.one uF) hx hr (ah (aa 0)) (aE (ac (aa 1) ae))))
   (au (bb (aV (aI (aa 2) ak)) (av (jC uL hr hx rfl (bf (bn uD (ah (aa 0))) bz))) aT)
   (av (aG (ah (aa 2))))))),λds M R RX c8 h=>?_⟩)
 .obtain⟨_,_,_,_,_,rfl,_⟩:=h;rfl
 .obtain⟨a,t,k,l,al,rfl,rfl,d_,hR,hX⟩:=h;refine#[λd M'=>d=.str (mayS al l)/\M'=RdM a t (k+mayN al l),#[_,Ds.mpr rfl,_,aN,cL,a,t,k,l,al,rfl,rfl,d_,rfl,rfl],?_];rintro _ _⟨rfl,rfl⟩;k_places;have no:(∀c l',l=c::l'->c∉cs al)->mayS al l=""/\mayN al l=0:=λh=>by
   cases l with
   |nil=>exact#[rfl,rfl]
   |cons c l=>exact#[cZ (h c l rfl),db (h c l rfl)]
  by_cases h:∃c l',l=c::l'/\c∈cs al
  .obtain⟨c,l',rfl,hc⟩:=h;rw[dH hc,dI hc];exact hR c l' rfl hc
  .have h':∀c l',l=c::l'->c∉cs al:=λc l' e hc=>h #[c,l',e,hc];obtain⟨e1,e2⟩:=no h';rw[e1,e2];refine#[_,aN,_,cY,by show(1:Nat)<=1000;decide,(k:Int),rfl,?_];rw[c8];exact hX h' _
abbrev nv(V:Bx):Prop:=V.MM 4 "line_from" kY AV
def CC(T:V.T "line_from" kX kY)(uH:V.m "range")(uZ:V.gs "SIGNS" ".123456")(uB:cG V)(uF:df V):nv V:=by
 refine Tx.okM T sc_line_from (λds M R RX h=>?_) (λf cdv A outer s H E J hr hx=>⟨_,((au (aW 3 sc_line_from.nd (ah ak))
   (au (rb 4 PassesOwn.leaving rfl sc_line_from.nd uH (ah (aa 2)) (av (aW 3 sc_line_from.nd (gK (ah (aa 3)) (jz (aV (dY (aa 4) (aa 1))) (bA (CalMth.one uB) hx hr (ah (aa 0)) (aE (ac (jr uZ) ae))) (bA (CalMth.one uF) hx hr (ah (aa 0)) (aE (ac (jr uZ) ae))))))))
   (av (aG (ah (aa 3))))))),λds M R RX c8 h=>?_⟩)
 .obtain⟨_,_,_,_,_,_,rfl,_⟩:=h;rfl
 .obtain⟨a,t,k,l,n,m,rfl,rfl,d_,Pj,Pk,hR,hX⟩:=h;refine#[λd M'=>d=.str ""/\M'=RdM a t k,#[rfl,rfl],?_];rintro _ _⟨rfl,rfl⟩;k_places;refine#[#[HN,HN],λi z M'=>i<=m/\∃col,z=[u5 (.ptr a),u5 (.int n),u5 (.int m),u5 (.str #[(sgPre i l).toArray]),col]/\M'=RdM a t (k+(sgPre i l).length)/\min i n<=(sgPre i l).length,#[DO _,A',rfl,rfl,HV],?_,?_]
  .rintro i x z M' hi⟨Pl,col,rfl,rfl,Ll⟩;k_places;obtain⟨IC,rfl⟩:=range_int hi;have IC:i<m:=by lia
   have Pm:=gS i l;rcases sgPre_succ i l with⟨c,l',h1,h2,h3,h4⟩|⟨l',h1,h2,h3⟩
   .have e8:At t (k+(sgPre i l).length) (c::l'):=by have:=d_;rw[h1]at this;exact this.app
    refine#[λd M'=>d=.str #[(sgPre (i+1) l).toArray]/\M'=RdM a t (k+(sgPre i l).length+1),?_,?_]
    .refine ite2 (λ_=>?_) (λ_=>?_)
     .refine#[_,Ds.mpr rfl,_,aN,cf,a,t,_,_,".123456",rfl,rfl,e8,λc' l2 e hc=>?_,λf6=>absurd (signs_is.mpr h3) (f6 c l' rfl)];cases e;refine#[by rw[dM,show(#[[c].toArray]:G8).length=1 from rfl];lia,?_,rfl];rw[show(#[[c].toArray]:G8)=#[[c].toArray]from rfl,eU,h4]
     .refine#[_,Ds.mpr rfl,_,aN,cL,a,t,_,_,".123456",rfl,rfl,e8,?_];rw[dH (signs_is.mpr h3),dI (signs_is.mpr h3)];refine#[by rw[dM,show(#[[c].toArray]:G8).length=1 from rfl];lia,?_,rfl];rw[show(#[[c].toArray]:G8)=#[[c].toArray]from rfl,eU,h4]
    .rintro _ _⟨rfl,rfl⟩;k_places;refine#[IC,_,rfl,?_,?_]
     .rw[h4,DB];rfl
     .rw[h4,DB,h2];show _<=i+1;lia
   .have e8:At t (k+(sgPre i l).length) l':=by have:=d_;rw[h1]at this;exact this.app
    have f6:∀c l2,l'=c::l2->c∉cs ".123456":=λc l2 q z=>by
     have:=h2 c l2 q;rw[signs_is.mp z]at this;cases this
    have x':mayS ".123456" l'=""/\mayN ".123456" l'=0:=by
     cases l' with
     |nil=>exact#[rfl,rfl]
     |cons c l2=>exact#[cZ (f6 c l2 rfl),db (f6 c l2 rfl)]
    refine#[λd M'=>d=.str #[(sgPre (i+1) l).toArray]/\M'=RdM a t (k+(sgPre i l).length)/\¬i<n,?_,?_]
    .refine ite2 (λc=>?_) (λc=>?_)
     .have c':=of_decide_eq_true c;refine#[_,Ds.mpr rfl,_,aN,cf,a,t,_,_,".123456",rfl,rfl,e8,λc' l2 e hc=>absurd hc (f6 c' l2 e),λ_ M'=>?_];rw[c8];have:=hX (by rw[h3 m HN];lia) M';rw[h3 m HN]at this;exact this
     .have c':¬i<n:=λz=>c (decide_eq_true HN);refine#[_,Ds.mpr rfl,_,aN,cL,a,t,_,_,".123456",rfl,rfl,e8,?_];rw[x'.1,x'.2];refine#[by rw[dM,show("":G8).length=0 from rfl];lia,?_,rfl,c'];rw[show("":G8)=#[([]:List Nat).toArray]from rfl,eU,Ea,h3 (i+1) HN]
    .rintro _ _⟨rfl,rfl,JA⟩;k_places;refine#[IC,_,rfl,by rw[h3 (i+1) HN],?_];rw[h3 (i+1) HN];lia
  .intro z M' hz;rw[Aj,EF]at hz;obtain⟨_,col,rfl,rfl,Ll⟩:=hz;exact hR HN
abbrev nw(V:Bx):Prop:=V.MM 5 "lines_from" lf AY
def CD(T:V.T "lines_from" kZ lf)(uA:V.m "len")(JK:nv V)(JL:V.gi "LONGEST" 8)(uF:df V):nw V:=by
  refine Tx.okM T sc_lines_from (λds M R RX h=>?_) (λf cdv A outer s H E J hr hx=>⟨_,((au (aW 1 sc_lines_from.nd (gL (bf (aX (CalMM.frame JK) hx hr (aE (ac (aa 0) (ac ad (ac (gB JL) ae))))) bz)))
      (au (aW 2 sc_lines_from.nd (qU uA (bf (rg (ah (aa 1)) (ah ad)) bz)))
      (au (yD PassesOwn.leaving (mt_w (jy (qP (yQ uA (ah (aa 1))) (ah (gB JL))) (qR (jx (bA (CalMth.one (CalMth.frame uF)) hx hr (ah (aa 0)) (aE (ac ak ae))) (ah ak))))) (av (bq (dE (ah (aa 1)) (aX (CalMM.frame JK) hx hr (aE (ac (aa 0) (ac (aa 2) (ac (aa 2) ae)))))))))
      (rh 1 (av (aG (ah (aa 1))))))))),λds M R RX c8 h=>?_⟩)
  . obtain⟨_,_,_,_,rfl,_⟩:=h;rfl
  . obtain⟨a,t,k,l,rfl,rfl,d_,hR,hX⟩:=h;obtain⟨l1,ID,hg⟩:=sgPre_split 8 l;have MP:=sgPre_sign 8 l;have GW:=gS 8 l;refine#[λd M'=>∃p,p≠a/\1<=(sgPre 8 l).length/\d=.ptr p/\M'=(p,.lst [.str #[(sgPre 8 l).toArray]])::RdM a t (k+(sgPre 8 l).length),#[[],RdM a t k,rfl,a,t,k,l,1,8,rfl,rfl,d_,G_,G_,λh1=>#[by show 1<=1000;decide,λp hp=>?_],λh1 M'=>?_],?_]
    . exact#[p,λe=>hp (by rw[e];exact Ds.mpr rfl),h1,rfl,rfl]
    . rw[c8];refine hX _ (λr=>?_) _;have e0:sgPre 8 l=[]:=EA HN;rw[e0]at ID hg ⊢;rw[ID];have:=so (w:=1) (n:=0) (x:=[]) (l:=l1) (λc z=>nomatch z) G_ G_ (λ_=>rfl) (hg.resolve_left G_) r k;refine walk_bad (λz=>nomatch z) λc l' q=>?_;rw[cV];unfold goesOn;rw[hg.resolve_left G_ c l' q,if_neg DK];exact if_pos (.inl rfl)
    rintro _ _⟨p,OF,h1,rfl,rfl⟩;k_places;refine#[λd M'=>d=.int (sgPre 8 l).length/\M'=(p,.lst [.str #[(sgPre 8 l).toArray]])::RdM a t (k+(sgPre 8 l).length),#[_,cM,_,rfl,by rw[dM];lia,by rw[dM],rfl],?_];rintro _ _⟨rfl,rfl⟩;k_places;refine#[λm z M'=>∃(L:List (List Nat)) (w0:Nat) (l2:List Nat),RowsL L (sgPre 8 l).length/\l=rowsL L++l2/\LinAt w0 (sgPre 8 l).length L.length l2/\(∀r,walk (.lin 0 0 0::r) l k=walk (.lin w0 (sgPre 8 l).length (L.length-1)::r) l2 (k+(rowsL L).length))/\m=8-L.length/\z=[u5 (.ptr a),u5 (.ptr p),u5 (.int (sgPre 8 l).length)]/\M'=(p,.lst (lstD L))::RdM a t (k+(rowsL L).length),#[7,[sgPre 8 l],0,l1,#[HV,h1,GW,λx hx=>?_],ID,#[h1,HV,λ_=>hg,λz=>absurd z HV],λr=>?_,rfl,rfl,rfl],?_]
    . rw[Ds.mp hx];exact#[rfl,MP]
    . have:=eM (w:=0) (k:=0) (r:=r) (sgPre 8 l) 0 l1 k MP (by simp;lia);rw[<-ID,EY]at this;exact this
    rintro m z M'⟨L,w0,l2,hL,C_,Hs,hw,rfl,rfl,rfl⟩;k_places;have w_:=hL.many;have o6:At t (k+(rowsL L).length) l2:=by have:=d_;rw[C_]at this;exact this.app
    have IE:(lstD L).length=L.length:=by simp[lstD]
    have done:(L.length=8\/∀l',l2≠47::l')->R (.lst (lstD L)) (RdM a t (k+(rowsL L).length)):=λst=>hR L _ l2 hL C_ λr=>by rw[hw r,AX Hs HN st]
    refine#[_,cM,?_];rw[IE];refine ite2 (λc=>?_) (λc=>?_)
    . have c':L.length<8:=by have:=of_decide_eq_true c;lia
      refine#[_,Ds.mpr rfl,_,AW OF,cL,[(p,_)],RdM a t _,rfl,a,t,_,l2,"/",rfl,rfl,o6,?_];by_cases MQ:∃l',l2=47::l'
      . obtain⟨l3,rfl⟩:=MQ;have MU:(47:Nat)∈cs "/":=by decide
        rw[dH MU,dI MU];obtain⟨l4,Lm,OG⟩:=sgPre_split (sgPre 8 l).length l3;have Ln:=sgPre_sign (sgPre 8 l).length l3;have OH:=gS (sgPre 8 l).length l3;refine#[#[_,cM],[(p,_)],RdM a t _,rfl,a,t,_,l3,(sgPre 8 l).length,(sgPre 8 l).length,rfl,rfl,o6.next,Dt _,GW,λh2=>?_,λh2 M'=>?_]
        . have b8:(sgPre (sgPre 8 l).length l3).length=(sgPre 8 l).length:=by lia
          refine#[_,cM,by rw[IE];lia,?_];refine#[8-(L.length+1),HN,L++[sgPre (sgPre 8 l).length l3],(sgPre 8 l).length,l4,#[by rw[DB];simp;lia,h1,GW,λx hx=>?_],?_,#[h1,by rw[DB];simp,λz=>?_,λ_=>rfl],λr=>?_,by rw[DB];rfl,rfl,?_]
          . rcases D3.mp hx with q|q
            . exact hL.each x q
            . rw[Ds.mp q];exact#[b8,Ln]
          . rw[gT L _ (λq=>by rw[q]at w_;simp at w_),D0,Em,<-Lm];exact C_
          . rw[DB]at z;simp at z;rw[z]at w_;simp at w_
          . rw[hw r,sk Hs c' r];have:=eM (w:=(sgPre 8 l).length) (k:=L.length) (r:=r) (sgPre (sgPre 8 l).length l3) 0 l4 (k+(rowsL L).length+1) Ln (by rw[if_pos HN];lia);rw[<-Lm,EY,b8]at this;rw[this,gT L _ (λq=>by rw[q]at w_;simp at w_),DB,DB];show walk (.lin _ _ L.length::r) l4 _=walk (.lin _ _ (L.length+1-1)::r) l4 _;congr 1;rw[Du,b8];lia
          . show mput ((p,MO.lst (lstD L))::RdM a t _) p _=_;rw[sj,gT L _ (λq=>by rw[q]at w_;simp at w_)];show _::RdM a t _=_;congr 1
            . simp[lstD]
            . congr 1;simp;lia
        . rw[c8];refine hX _ (λr=>?_) _;rw[hw r,sk Hs c' r];have:=so (w:=(sgPre 8 l).length) (n:=L.length) Ln h2 GW (λq=>HN) (OG.resolve_left HN) r (k+(rowsL L).length+1);rw[<-Lm]at this;exact this
      . have f6:∀l',l2≠47::l':=λl' q=>MQ #[l',q];have x':mayS "/" l2=""/\mayN "/" l2=0:=by
          cases l2 with
          |nil=>exact#[rfl,rfl]
          |cons c l3=>
            have:c∉cs "/":=λq=>f6 l3 (by rw[show c=47 from Ds.mp q]);exact#[cZ this,db this]
        rw[x'.1,x'.2];refine#[_,cM,?_];rw[show mdel ([(p,MO.lst (lstD L))]++RdM a t (k+(rowsL L).length+0)) p=RdM a t (k+(rowsL L).length)from jM];exact done (.inr f6)
    . have c':L.length=8:=by
        have:¬((L.length:Int)<8):=λz=>c (decide_eq_true z);lia
      refine#[_,cM,?_];rw[jM];exact done (.inl c')
abbrev ny(V:Bx):Prop:=V.MM 4 "number_from" ll AT
def CF(T:V.T "number_from" lh ll)(uC:V.m "int")(uF:df V)(uB:cG V):ny V:=by
  refine Tx.okM T sc_number_from (λds M R RX h=>?_) (λf cdv A outer s H E J hr hx=>⟨_,((au (bb (jx (bA (CalMth.one uF) hx hr (ah (aa 0)) (aE (ac ak ae))) (ah ak)) (av (aG (ah ad))) aT)
      (au (aW 1 sc_number_from.nd (gK (bA (CalMth.one uF) hx hr (ah (aa 0)) (aE (ac ak ae))) (bA (CalMth.one uB) hx hr (ah (aa 0)) (aE (ac ak ae)))))
      (au (dD (aV (fB (yb (aa 1) (ac ak ae)))) (av (aW 1 sc_number_from.nd (gK (ah (aa 1)) (bA (CalMth.one uF) hx hr (ah (aa 0)) (aE (ac ak ae)))))) aT)
      (av (aG (ah (gx uC (ac (aa 1) ae))))))))),λds M R RX c8 h=>?_⟩)
  . obtain⟨_,_,_,_,rfl,_⟩:=h;rfl
  . obtain⟨a,t,k,l,rfl,rfl,d_,hR,hX⟩:=h;refine#[_,Ds.mpr rfl,_,aN,cL,a,t,k,l,"0",rfl,rfl,d_,?_];by_cases z0:∃l',l=48::l'
    . obtain⟨l',rfl⟩:=z0;have e0:(48:Nat)∈cs "0":=by decide
      rw[dH e0,dI e0];refine hR 0 l' (by unfold B12;lia) ?_ λe r=>?_
      . rw[show numL 0=[48]by decide+kernel];rfl
      . rw[show numL 0=[48]by decide+kernel,aJ (st':=.sign e::r) Kb];rfl
    have n0:mayS "0" l=""/\mayN "0" l=0:=by
      cases l with
      |nil=>exact#[rfl,rfl]
      |cons c l=>
        have:c∉cs "0":=λq=>z0 #[l,by rw[show c=48 from Ds.mp q]];exact#[cZ this,db this]
    rw[n0.1,n0.2];obtain⟨pre,l1,hp,rfl,hS,hN,h0⟩:∃pre l1,(pre=[]\/pre=[45])/\l=pre++l1/\mayS "-" l=⟨pre.toArray⟩/\mayN "-" l=pre.length/\(pre=[]->∀c l',l1=c::l'->c≠48/\c≠45):=by
      by_cases z1:∃l',l=45::l'
      . obtain⟨l',rfl⟩:=z1;exact#[[45],l',.inr rfl,rfl,rfl,rfl,λq=>nomatch q]
      . refine#[[],l,.inl rfl,rfl,?_];cases l with
        |nil=>exact#[rfl,rfl,λ_ c l' q=>nomatch q]
        |cons c l=>
          have:c∉cs "-":=λq=>z1 #[l,by rw[show c=45 from Ds.mp q]];refine#[cZ this,db this,λ_ c' l' q=>?_];cases q;exact#[λe=>z0 #[l,by rw[e]],λe=>z1 #[l,by rw[e]]]
    have e8:=d_.app;refine#[λd M'=>∃c l2,l1=c::l2/\(49<=c/\c<=57)/\d=.str #[(pre++[c]).toArray]/\M'=RdM a t (k+pre.length+1),?_,?_]
    . refine#[_,Ds.mpr rfl,_,aN,cL,a,t,k,_,"-",rfl,rfl,d_,?_];rw[hS,hN];refine#[_,Ds.mpr rfl,_,aN,cf,a,t,k+pre.length,l1,"123456789",rfl,rfl,e8,λc l2 e hc=>?_,λf6 M'=>?_]
      . refine#[?_,c,l2,e,digits19.mp hc,?_,rfl]
        . rcases hp with rfl|rfl<;>simp[Str.length]
        . rw[show(#[[c].toArray]:G8)=#[[c].toArray]from rfl,eU]
      . rw[c8];exact hX _ (AR hp rfl (λc l' q=>λz=>f6 c l' q (digits19.mpr z)) h0 k) M'
    . rintro _ _⟨c,l2,rfl,hc,rfl,rfl⟩;k_places;have o6:=e8.next;refine#[λz M'=>∃x l3,((c=49/\∃d,(48<=d/\d<=50)/\x=[d])\/(x=[]/\(c=49->∀d l',l3=d::l'->¬(48<=d/\d<=50))))/\l2=x++l3/\z=[u5 (.ptr a),u5 (.str #[(pre++c::x).toArray])]/\M'=RdM a t (k+pre.length+1+x.length),?_,?_]
      . show if Txt.endswith #[(pre++[c]).toArray] "1"=true then _ else _
        rw[AS];refine ite2 (λe=>?_) (λe=>?_)
        . have e':=of_decide_eq_true e;by_cases z2:∃d l3,l2=d::l3/\(48<=d/\d<=50)
          . obtain⟨d,l3,rfl,hd⟩:=z2;refine#[λv M'=>v=.str #[(pre++[c,d]).toArray]/\M'=RdM a t (k+pre.length+1+1),#[_,Ds.mpr rfl,_,aN,cL,a,t,_,_,"012",rfl,rfl,o6,?_],?_]
            . rw[dH (digits02.mpr hd),dI (digits02.mpr hd)];refine#[?_,?_,rfl]
              . rcases hp with rfl|rfl<;>simp[Str.length]
              . rw[show(#[[d].toArray]:G8)=#[[d].toArray]from rfl,eU];simp
            . rintro _ _⟨rfl,rfl⟩;k_places;exact#[[d],l3,.inl #[e',d,hd,rfl],rfl,rfl,rfl]
          . have f6:∀d l',l2=d::l'->¬(48<=d/\d<=50):=λd l' q z=>z2 #[d,l',q,z];have hm:mayS "012" l2=""/\mayN "012" l2=0:=by
              cases l2 with
              |nil=>exact#[rfl,rfl]
              |cons d l2=>exact#[cZ (λq=>f6 d l2 rfl (digits02.mp q)),db (λq=>f6 d l2 rfl (digits02.mp q))]
            refine#[λv M'=>v=.str #[(pre++[c]).toArray]/\M'=RdM a t (k+pre.length+1),#[_,Ds.mpr rfl,_,aN,cL,a,t,_,_,"012",rfl,rfl,o6,?_],?_]
            . rw[hm.1,hm.2];refine#[?_,?_,rfl]
              . rcases hp with rfl|rfl<;>simp[Str.length,show(Str.ofString "").cps.size=0 from rfl]
              . rw[show("":G8)=#[([]:List Nat).toArray]from rfl,eU];simp
            . rintro _ _⟨rfl,rfl⟩;k_places;exact#[[],l2,.inr #[rfl,λ_=>f6],rfl,rfl,rfl]
        . have e':¬c=49:=λz=>e (decide_eq_true z);exact#[[],l2,.inr #[rfl,λz=>absurd z e'],rfl,rfl,rfl]
      . rintro _ _⟨x,l3,hx,rfl,rfl,rfl⟩;k_places;have hn:isNumL (pre++c::x):=by
          rcases hx with⟨rfl,d,hd,rfl⟩|⟨rfl,_⟩
          . rcases hp with rfl|rfl
            . exact .inr (.inl #[d,hd,rfl])
            . exact .inr (.inr (.inr #[d,hd,rfl]))
          . rcases hp with rfl|rfl
            . exact .inl #[c,HN,rfl]
            . exact .inr (.inr (.inl #[c,hc,rfl]))
        obtain⟨v,hv,ev⟩:=dG hn;refine#[v,#[?_,?_],?_]
        . rw[<-ev];exact jL hv
        . rw[<-ev];have:=bD hv;rw[<-bG]at this ⊢;show(numL v).length<=640;exact Dy this G_
        . have:=hR v l3 hv (by rw[ev];simp) λe r=>by rw[ev];exact AQ hp hc hx k e r rfl
          rw[ev]at this;have e2:k+(pre++c::x).length=k+pre.length+1+x.length:=by simp;lia
          rw[e2]at this;exact this
abbrev fW(V:Bx):Prop:=V.MM 5 "shift_from" lp AU
def CG(T:V.T "shift_from" lm lp)(JM:ny V)(uB:cG V):fW V:=by
 refine Tx.okM T sc_shift_from (λds M R RX h=>?_) (λf cdv A outer s H E J hr hx=>⟨_,((au (aW 1 sc_shift_from.nd (aX JM hx hr (aE (ac (aa 0) ae))))
   (au (bq (bA (CalMth.one uB) hx hr (ah (aa 0)) (aE (ac ak ae))))
   (av (aG (yi (bf (ah (aa 1)) (bf (aX JM hx hr (aE (ac (aa 0) ae))) bz)))))))),λds M R RX c8 h=>?_⟩)
 .obtain⟨_,_,_,_,rfl,_⟩:=h;rfl
 .obtain⟨a,t,k,l,rfl,rfl,d_,hR,hX⟩:=h;refine#[λd M'=>∃x l1,B12 x/\l=numL x++l1/\(∀e r,walk (.num::.sign e::r) l k=walk (.sign e::r) l1 (k+(numL x).length))/\d=.int x/\M'=RdM a t (k+(numL x).length),#[a,t,k,l,rfl,rfl,d_,λx l' hx e hw=>#[x,l',hx,e,hw,rfl,rfl],λj hj M'=>?_],?_]
  .rw[c8];exact hX j (λr=>hj _) M'
  rintro _ _⟨x,l1,g8,rfl,p8,rfl,rfl⟩;k_places;have e8:=d_.app;refine#[_,Ds.mpr rfl,_,aN,cf,a,t,_,l1,",",rfl,rfl,e8,λc l2 e hc=>?_,λf6 M'=>?_]
  .have ec:c=44:=Ds.mp hc;subst ec;subst e;refine#[a,t,_,l2,rfl,rfl,e8.next,λy l' hy e hw=>?_,λj hj M'=>?_]
   .subst e;refine#[HV,hR x y l' g8 hy rfl λe r=>?_];rw[p8 44 _,dL,hw e r]
   .rw[c8];refine hX j (λr=>?_) M';rw[p8 44 _,dL,hj]
  .rw[c8];refine hX _ (λr=>?_) M';rw[p8 44 _,dJ λl' q=>f6 44 l' q G_]
abbrev iA(V:Bx):Prop:=V.D 1 "levelled" lr zN
def CH(T:V.T "levelled" lq lr):iA V:=by
 refine Tx.okDW T sc_levelled (λds R h=>?_) (λf cdv A outer s H E J hr=>⟨_,((ai (fJ PassesOwn.never (jj (af (aa 1) ad) ad) (ai (am 2 sc_levelled.nd (zz (af (aa 0) ad) (af (aa 1) ad)))
    (ai (am 3 sc_levelled.nd (aB (ac (bJ (af (aa 0) ad) (bV (aa 2) (af (aa 1) ad))) (ac (bJ (af (aa 0) ad) (bV (aa 2) (af (aa 1) ad))) ae))))
    (ai (am 0 sc_levelled.nd (aa 1))
    (ar (am 1 sc_levelled.nd (aa 3)))))))
   (ai (fF (dY (af (aa 0) ad) ad) (ar (am 0 sc_levelled.nd (aB (ac (bZ (af (aa 0) ad)) (ac (bZ (af (aa 0) ad)) ae))))) aU)
   (ar (aC (aB (ac (aa 0) (ac (aa 1) ae)))))))),λds R h=>?_⟩)
 .obtain⟨a,b,c,d,n,rfl,_⟩:=h;rfl
 .obtain⟨a,b,c,d,n,rfl,hn,hb,hR⟩:=h;refine#[λm z=>∃(f0 f1 s0 s1:Int) (t r:Option D),z=[u5 (.tup [.int f0,.int f1]),u5 (.tup [.int s0,.int s1]),t,r]/\Uni a b c d f0 f1 s0 s1/\((f1.natAbs<4611686018427387904/\s1.natAbs<4611686018427387904)\/Cof n f0 f1 s0 s1)/\(Cof n a b c d->Cof n f0 f1 s0 s1)/\m=s1.natAbs,#[_,a,b,c,d,A',A',rfl,Uni.refl _ _ _ _,hb,id,rfl],?_];rintro m z⟨f0,f1,s0,s1,t,r,rfl,hu,hf,hc,rfl⟩;k_places;refine#[_,rfl,ite2 (λcc=>?_) (λcc=>?_)]
  .have c':¬s1=0:=by simpa using cc
   obtain⟨g1,g2⟩:=fdm f1 s1 c';have k1:Bt 4000 s1:=hf.elim (λz=>fO z.2) λz=>z.b2.mono Ia;have k2:CMulB (f1.fdiv s1) s0:=hf.elim (λz=>.inl (.inl #[Ia,Ia])) λz=>.inr #[(z.b1.t c').mono Ia,z.s0.mono Ia];have k3:CMulB (f1.fdiv s1) s1:=hf.elim (λz=>.inl (.inl #[Ia,Ia])) λz=>.inr #[(z.b1.t c').mono Ia,k1];refine#[λd=>d=.int (f1.fdiv s1),#[_,rfl,_,rfl,#[c',k1],rfl],?_];rintro _ rfl;k_places;refine#[λd=>d=.tup [.int (f0-f1.fdiv s1*s0),.int (f1-f1.fdiv s1*s1)],#[_,rfl,_,rfl,k2,_,rfl,_,rfl,k3,HV,rfl],?_];rintro _ rfl;k_places;refine#[λd=>d=.tup [.int s0,.int s1],rfl,?_];rintro _ rfl;k_places;refine#[λd=>d=.tup [.int (f0-f1.fdiv s1*s0),.int (f1-f1.fdiv s1*s1)],rfl,?_];rintro _ rfl;k_places;exact#[_,g1,s0,s1,_,_,_,_,rfl,hu.step _,hf.imp (λz=>#[z.2,Ia]) λz=>z.step c',λz=>(hc z).step c',rfl]
  .have c':s1=0:=by simpa using cc
   subst c';refine#[λz=>∃p0 p1:Int,z=[u5 (.tup [.int p0,.int p1]),u5 (.tup [.int s0,.int 0]),t,r]/\Lev a b c d p0 p1 s0/\(Cof n a b c d->Bt n p0),#[_,rfl,ite2 (λe=>?_) (λe=>?_)],?_]
   .have e':=of_decide_eq_true e;refine#[λd=>d=.tup [.int (-f0),.int (-f1)],#[_,rfl,_,rfl,HV,rfl],?_];rintro _ rfl;k_places;exact#[_,_,rfl,#[Ia,hu.neg],λz=>(hc z).a.neg]
   .have e':=of_decide_eq_false (D7.mpr e);exact#[_,_,rfl,#[Ia,hu],λz=>(hc z).a]
   .rintro _⟨p0,p1,rfl,hL,hp⟩;k_places;exact#[HV,hR p0 p1 s0 hL hp]
abbrev iB(V:Bx):Prop:=V.D 2 "spread" lv zO
def CI(T:V.T "spread" lu lv)(uN:V.m "abs")(HG:iA V):iB V:=by
 refine Tx.okDW T sc_spread (λds R h=>?_) (λf cdv A outer s H E J hr=>⟨_,((ai (bj (aI (bV (af (aa 0) ad) (af (aa 1) ad)) (bV (af (aa 0) ad) (af (aa 1) ad))) (ar (aC dm)) aU)
   (ai (am 2 sc_spread.nd (aF HG hr (ac (aa 0) (ac (aa 1) ae))))
   (ai (am 3 sc_spread.nd (gp uN (ac (af (af (aa 2) ad) ad) ae)))
   (ar (aC (aB (ac (aa 3) (ac (af (af (aa 2) ad) ad) (ac (aw (af (af (aa 2) ad) ad) (aa 3)) ae)))))))))),λds R h=>?_⟩)
 .obtain⟨a,b,c,d,n,rfl,_⟩:=h;rfl
 .obtain⟨a,b,c,d,n,rfl,hn,hb,hN,hR⟩:=h;have k:Bt 4000 a/\Bt 4000 b/\Bt 4000 c/\Bt 4000 d:=hb.elim (λz=>#[fO z.1,fO z.2.1,fO z.2.2.1,fO z.2.2.2]) λz=>#[z.a.mono Ia,z.b1.mono Ia,z.s0.mono Ia,z.b2.mono Ia];refine#[_,rfl,_,rfl,.inr #[k.1,k.2.2.2],_,rfl,_,rfl,.inr #[k.2.1,k.2.2.1],ite2 (λe=>?_) (λe=>?_)]
  .exact hN (of_decide_eq_true e)
  .have e':=of_decide_eq_false (D7.mpr e);refine#[λx=>∃p0 p1 q0:Int,x=.tup [.tup [.int p0,.int p1],.tup [.int q0,.int 0]]/\Lev a b c d p0 p1 q0,#[a,b,c,d,n,rfl,hn,hb.imp (λz=>#[z.2.1,z.2.2.2]) id,λp0 p1 q0 hL _=>#[p0,p1,q0,rfl,hL]],?_];rintro _⟨p0,p1,q0,rfl,hL⟩;k_places;have hF:=fN e' hL;refine#[λx=>x=.int (if q0<0 then -q0 else q0),#[_,rfl,_,rfl,rfl],?_];rintro _ rfl;k_places;exact#[_,rfl,_,rfl,_,rfl,_,rfl,hF.1,HV,hR e' _ _ _ hF]
abbrev nz(V:Bx):Prop:=V.D 1 "home" ly zM
def CJ(T:V.T "home" lx ly):nz V:=by
 refine Tx.okDW T sc_home (λds R h=>?_) (λf cdv A outer s H E J hr=>⟨_,((ai (am 3 sc_home.nd (af (aa 0) ad))
   (ai (am 4 sc_home.nd (af (aa 0) ad))
   (ai (am 5 sc_home.nd (af (aa 0) ad))
   (ar (aC (aB (ac (aw (bJ (aa 1) (aH (bt (aa 2) (aa 4)) (aa 5))) (aa 3)) (ac (aw (aa 2) (aa 4)) ae))))))))),λds R h=>?_⟩)
 .obtain⟨w,h,s,x,y,rfl,_⟩:=h;rfl
 .obtain⟨w,h,s,x,y,rfl,hw,hh,GR,hs,g6,hR⟩:=h;refine#[λd=>d=.int w,#[_,rfl,rfl],?_];rintro _ rfl;k_places;refine#[λd=>d=.int h,#[_,rfl,rfl],?_];rintro _ rfl;k_places;refine#[λd=>d=.int s,#[_,rfl,rfl],?_];rintro _ rfl;k_places;exact#[#[hh,GR],.inr #[HN,HN],hw,hh,HV,hR]
abbrev nA(V:Bx):Prop:=V.MM 2 "hues_by_home" lC A4
def CK(T:V.T "hues_by_home" lz lC)(JN:V.m "enumerate")(Lo:nz V)(uZ:V.gs "SIGNS" ".123456"):nA V:=by
 refine Tx.okM T sc_hues_by_home (λds M R RX h=>?_) (λf cdv A outer s H E J hr hx=>⟨_,((au (aW 2 sc_hues_by_home.nd zi)
   (au (zb PassesOwn.leaving rfl JN (ah (aa 0)) (dg_cons 3 sc_hues_by_home.nd (dg_cons 4 sc_hues_by_home.nd fH)) (av (zc PassesOwn.leaving rfl JN (ah (aa 4)) (dg_cons 5 sc_hues_by_home.nd (dg_cons 6 sc_hues_by_home.nd fH)) (av (dD (aV (jj (aa 6) ak)) (av (bq (zj (fq hr) (ah (aa 2)) (aE (ac (aF Lo hr (ac (aa 1) (ac (aa 5) (ac (aa 3) ae)))) (ac (yd (jr uZ) (ac (aa 6) ae)) ae)))))) aT)))))
   (rh 2 (av (aG (ah (aa 2)))))))),λds M R RX c8 h=>?_⟩)
 .obtain⟨_,_,_,_,_,rfl,_⟩:=h;rfl
 .obtain⟨L,wd,w,h,s,rfl,hL,hw,hh,GR,hs,g6,hR⟩:=h;have Pn:=hL.w8;refine#[λd M'=>∃p,p∉az M/\d=.ptr p/\M'=(p,.dti [])::M,λp hp=>#[p,hp,rfl,rfl],?_];rintro _ _⟨p,hp,rfl,rfl⟩;k_places;refine#[λj z M'=>∃(kv:List ((Int×Int)×Int)) (x3 x4 x5 x6:Option D),hAll w h s j (L.drop j) kv=hAll w h s 0 L []/\kv.length<=8*j/\z=[u5 (.lst (lstD L)),u5 (.tup [.int w,.int h,.int s]),u5 (.ptr p),x3,x4,x5,x6]/\M'=(p,.dti kv)::M,#[[],A',A',A',A',rfl,HV,rfl,rfl],?_,?_]
  .rintro j d z M' hd⟨kv,x3,x4,x5,x6,e1,OI,rfl,rfl⟩;k_places;obtain⟨x,g8,rfl⟩:=A2 hd;have hj:j<L.length:=(DN.mp g8).1;have Po:=hL.many;obtain⟨xl,xs⟩:=hL.each x (EM g8);rw[sr g8]at e1;refine#[A1 xs,λi z M'=>∃(GX:List ((Int×Int)×Int)) (x5 x6:Option D),hRow w h s j i (x.drop i) GX=hRow w h s j 0 x kv/\GX.length<=8*j+i/\i<=x.length/\z=[u5 (.lst (lstD L)),u5 (.tup [.int w,.int h,.int s]),u5 (.ptr p),u5 (.int j),u5 (.str #[x.toArray]),x5,x6]/\M'=(p,.dti GX)::M,#[kv,x5,x6,rfl,HN,DO _,rfl,rfl],?_,?_]
   .rintro i d z M' Jd⟨GX,y5,y6,e2,Lp,hi,rfl,rfl⟩;k_places;obtain⟨c,hc,rfl⟩:=A3 Jd;have IC:i<x.length:=(DN.mp hc).1;have sc:=xs c (EM hc);rw[sr hc,hRow]at e2;refine#[λz M'=>∃IF:List ((Int×Int)×Int),hRow w h s j (i+1) (x.drop (i+1)) IF=hRow w h s j 0 x kv/\IF.length<=8*j+(i+1)/\z=[u5 (.lst (lstD L)),u5 (.tup [.int w,.int h,.int s]),u5 (.ptr p),u5 (.int j),u5 (.str #[x.toArray]),u5 (.int i),u5 (.str #[[c].toArray])]/\M'=(p,.dti IF)::M,?_,?_]
    .show if(!decide ((#[[c].toArray]:G8)="."))=true then _ else _;by_cases Lq:c=46
     .subst Lq;rw[if_pos rfl]at e2;exact#[GX,e2,HN,rfl,rfl]
     .rw[if_neg Lq]at e2;refine ifT (by simp[Ai,Lq]) ?_;have c6:49<=c/\c<=54:=by unfold aK at sc;lia
      obtain⟨ix,rest,ho,Kd⟩:=AZ c6;refine#[#[_,cM],w,h,s,i,j,rfl,hw,hh,GR,hs,g6,ix,rest,ho,_,cM,by have:=sq GX (hmX w h s i j) ((j:Int)%h) ((c:Int)-48);lia,λv=>?_];rw[sj,Kd];exact#[_,e2,by have:=sq GX (hmX w h s i j) ((j:Int)%h) ((c:Int)-48);lia,rfl,rfl]
    .rintro z M'⟨IF,e3,h3,rfl,rfl⟩;k_places;exact#[IF,_,_,e3,h3,IC,rfl,rfl]
   .rintro z M' hz;rw[jv,dM]at hz;obtain⟨GX,y5,y6,e2,Lp,hi,rfl,rfl⟩:=hz;rw[GN]at e2;refine#[GX,_,_,_,_,?_,HN,rfl,rfl];rw[<-e1,hAll,<-e2];rfl
  .rintro z M' hz;rw[show(lstD L).length=L.length by simp[lstD]]at hz;obtain⟨kv,x3,x4,x5,x6,e1,OI,rfl,rfl⟩:=hz;rw[GN]at e1;refine#[_,cM,?_];rw[jM];have e2:kv=hAll w h s 0 L []:=e1;rw[<-e2]at hR;exact hR
abbrev nB(V:Bx):Prop:=V.M 3 "Motif" lF A5
def CL(T:V.Ti "Motif" "Motif.__init__" lD lF)(HH:iB V)(Lr:nA V)(uS:V.a "Motif" "place")(uK:V.a "Motif" "shifts")(Ls:V.a "Motif" "hues"):nB V:=by
 refine Txi.okIM T BN (λds R h=>?_) (λf cdv A outer s H E J hr hx=>⟨_,((au (gO uS (ah (aa 0)) (ah (aa 1)))
   (au (gO uK (ah (aa 0)) (ah (aF HH hr (ac (aa 3) (ac (aa 4) ae)))))
   (av (gO Ls (ah (aa 0)) (jz (qQ (bn uK (ah (aa 0))) (ah dm)) zh (aX Lr hx hr (bf (ah (aa 2)) (bf (bn uK (ah (aa 0))) bz))))))))),λa ds R f6 h=>?_⟩)
 .obtain⟨_,_,_,_,_,_,_,rfl,_⟩:=h;rfl
 .obtain⟨k,L,wd,x,y,u,v,rfl,hL,g8,hy,hu,hv,h0,h1⟩:=h;unfold B12 at g8 hy hu hv;refine#[_,cD,by show(0:Nat)<1000;decide,?_];rw[eQ,A6];refine#[x,y,u,v,0,rfl,G_,.inl #[HN,HN,HN,HN],λe=>?_,λe w h s F=>?_]
  .refine#[_,cD,Ps,?_];rw[eQ,ss];refine#[_,cD,_,jN,?_];refine#[_,cD,by show(2:Nat)<1000;decide,?_];rw[eQ,su];exact#[_,rfl,h0 e]
  .refine#[_,cD,Ps,?_];rw[eQ,ss];refine#[_,cD,_,jN,?_];obtain⟨b1,b2,b3⟩:=F.bd (N:=288) (by
    have m1:=cz (a:=x) (d:=v) (A:=12) (B:=12) HN HN;have m2:=cz (a:=y) (d:=u) (A:=12) (B:=12) HN HN;lia)
   refine#[_,cD,_,jN,L,wd,w,h,s,rfl,hL,F.1,F.2.1,HN,F.2.2.1,HN,?_];refine#[_,cD,by show(2:Nat)<1000;decide,?_];rw[eQ,su];exact#[_,rfl,h1 e w h s F]
abbrev iC(V:Bx):Prop:=V.MM 6 "motif_from" lH Bd
def CM(T:V.T "motif_from" lG lH)(Lu:nw V)(uP:fW V)(uD:V.a "Reading" "place")(Lv:nB V)(uB:cG V):iC V:=by
  refine Tx.okM T sc_motif_from (λds M R RX h=>?_) (λf cdv A outer s H E J hr hx=>⟨_,((au (aW 1 sc_motif_from.nd (bn uD (ah (aa 0))))
      (au (bq (bA (CalMth.one uB) hx hr (ah (aa 0)) (aE (ac ak ae))))
      (au (aW 2 sc_motif_from.nd (aX Lu hx hr (aE (ac (aa 0) ae))))
      (au (bq (bA (CalMth.one uB) hx hr (ah (aa 0)) (aE (ac ak ae))))
      (au (aW 3 sc_motif_from.nd (aX uP hx hr (aE (ac (aa 0) ae))))
      (au (bq (bA (CalMth.one uB) hx hr (ah (aa 0)) (aE (ac ak ae))))
      (au (aW 4 sc_motif_from.nd (aX uP hx hr (aE (ac (aa 0) ae))))
      (au (bq (bA (CalMth.one uB) hx hr (ah (aa 0)) (aE (ac ak ae))))
      (av (aG (ah (js Lv hr (ac (aa 1) (ac (aa 2) (ac (aa 3) (ac (aa 4) ae))))))))))))))))),λds M R RX c8 h=>?_⟩)
  . obtain⟨_,_,_,_,rfl,_⟩:=h;rfl
  . obtain⟨a,t,k,l,rfl,rfl,d_,hR,hX⟩:=h;refine#[λd M'=>d=.int k/\M'=RdM a t k,#[_,aN,_,cY,rfl,rfl],?_];rintro _ _⟨rfl,rfl⟩;k_places;refine#[_,Ds.mpr rfl,_,aN,cf,a,t,_,l,"[",rfl,rfl,d_,λc l1 e hc=>?_,λf6 M'=>?_]
    . have ec:c=91:=Ds.mp hc;subst ec;subst e;have hb:∀r,walk (.pat 5::r) (91::l1) k=walk (motW r) l1 (k+1):=λr=>aJ (by rw[bL];rfl);refine#[λd M'=>∃(L:List (List Nat)) (w:Nat) (l2:List Nat),RowsL L w/\l1=rowsL L++l2/\(∀r,walk (.lin 0 0 0::r) l1 (k+1)=walk (.sign 59::r) l2 (k+1+(rowsL L).length))/\d=.lst (lstD L)/\M'=RdM a t (k+1+(rowsL L).length),#[a,t,_,l1,rfl,rfl,d_.next,λL w l' h1 h2 h3=>#[L,w,l',h1,h2,h3,rfl,rfl],λj hj M'=>?_],?_]
      . rw[c8];exact hX j (λr=>by rw[hb];exact hj _) M'
      rintro _ _⟨L,w,l2,hL,rfl,u7,rfl,rfl⟩;k_places;have o6:=d_.next.app;have Jv:∀r,walk (.pat 5::r) (91::(rowsL L++l2)) k=walk (.sign 59::.num::.sign 44::.num::.sign 59::.num::.sign 44::.num::.sign 93::r) l2 (k+1+(rowsL L).length):=λr=>by rw[hb];exact u7 _
      refine#[_,Ds.mpr rfl,_,aN,cf,a,t,_,l2,";",rfl,rfl,o6,λc l3 e hc=>?_,λf6 M'=>?_]
      . have ec:c=59:=Ds.mp hc;subst ec;subst e;have GY:=o6.next;have Lw:∀r,walk (.pat 5::r) (91::(rowsL L++59::l3)) k=walk (.num::.sign 44::.num::.sign 59::.num::.sign 44::.num::.sign 93::r) l3 (k+1+(rowsL L).length+1):=λr=>by rw[Jv,dL]
        refine#[λd M'=>∃x y l4,B12 x/\B12 y/\l3=numL x++44::(numL y++l4)/\(∀e r,walk (.num::.sign 44::.num::.sign e::r) l3 (k+1+(rowsL L).length+1)=walk (.sign e::r) l4 (k+1+(rowsL L).length+1+(numL x).length+1+(numL y).length))/\d=.tup [.int x,.int y]/\M'=RdM a t (k+1+(rowsL L).length+1+(numL x).length+1+(numL y).length),#[a,t,_,l3,rfl,rfl,GY,λx y l' h1 h2 h3 h4=>#[x,y,l',h1,h2,h3,h4,rfl,rfl],λj hj M'=>?_],?_]
        . rw[c8];exact hX j (λr=>by rw[Lw];exact hj _) M'
        rintro _ _⟨x,y,l4,g8,hy,rfl,MV,rfl,rfl⟩;k_places;have IG:At t (k+1+(rowsL L).length+1+(numL x).length+1+(numL y).length) l4:=GY.app.next.app;refine#[_,Ds.mpr rfl,_,aN,cf,a,t,_,l4,";",rfl,rfl,IG,λc l5 e hc=>?_,λf6 M'=>?_]
        . have ec:c=59:=Ds.mp hc;subst ec;subst e;have IH:=IG.next;have MX:∀r,walk (.pat 5::r) (91::(rowsL L++59::(numL x++44::(numL y++59::l5)))) k=walk (.num::.sign 44::.num::.sign 93::r) l5 (k+1+(rowsL L).length+1+(numL x).length+1+(numL y).length+1):=λr=>by rw[Lw,MV,dL]
          refine#[λd M'=>∃u v l6,B12 u/\B12 v/\l5=numL u++44::(numL v++l6)/\(∀e r,walk (.num::.sign 44::.num::.sign e::r) l5 (k+1+(rowsL L).length+1+(numL x).length+1+(numL y).length+1)=walk (.sign e::r) l6 (k+1+(rowsL L).length+1+(numL x).length+1+(numL y).length+1+(numL u).length+1+(numL v).length))/\d=.tup [.int u,.int v]/\M'=RdM a t (k+1+(rowsL L).length+1+(numL x).length+1+(numL y).length+1+(numL u).length+1+(numL v).length),#[a,t,_,l5,rfl,rfl,IH,λx y l' h1 h2 h3 h4=>#[x,y,l',h1,h2,h3,h4,rfl,rfl],λj hj M'=>?_],?_]
          . rw[c8];exact hX j (λr=>by rw[MX];exact hj _) M'
          rintro _ _⟨u,v,l6,hu,hv,rfl,OJ,rfl,rfl⟩;k_places;have Lx:At t (k+1+(rowsL L).length+1+(numL x).length+1+(numL y).length+1+(numL u).length+1+(numL v).length) l6:=IH.app.next.app;refine#[_,Ds.mpr rfl,_,aN,cf,a,t,_,l6,"]",rfl,rfl,Lx,λc l7 e hc=>?_,λf6 M'=>?_]
          . have ec:c=93:=Ds.mp hc;subst ec;subst e;obtain⟨JE,JF⟩:=Bc hL;have MY:(Pat.mot (L.map λx=>(#[x.toArray]:G8)) x y u v).tl=motL L x y u v:=by rw[Pat.tl,JF]
            have II:∀w,FormOf (Pat.mot (L.map λx=>(#[x.toArray]:G8)) x y u v) k w->R w (RdM a t (k+1+(rowsL L).length+1+(numL x).length+1+(numL y).length+1+(numL u).length+1+(numL v).length+1)):=λw hw=>by
              have:=hR (Pat.mot (L.map λx=>(#[x.toArray]:G8)) x y u v) l7 #[JE,g8,hy,hu,hv] rfl (by rw[MY];simp[motL]) w hw;rw[MY]at this;have e:k+(motL L x y u v).length=k+1+(rowsL L).length+1+(numL x).length+1+(numL y).length+1+(numL u).length+1+(numL v).length+1:=by
                simp[motL];lia
              rw[e]at this;exact this
            refine#[k,L,w,x,y,u,v,rfl,hL,g8,hy,hu,hv,λe=>?_,λe w h s F=>?_]
            . exact II _ #[.non,[],rfl,λ_=>rfl,λz=>absurd e z]
            . exact II _ #[_,_,rfl,λz=>absurd z e,λ_=>#[w,h,s,F,rfl,by rw[JF]]]
          . rw[c8];refine hX _ (λr=>?_) M';rw[MX,OJ,dJ λl' q=>f6 93 l' q G_]
        . rw[c8];refine hX _ (λr=>?_) M';rw[Lw,MV,dJ λl' q=>f6 59 l' q G_]
      . rw[c8];refine hX _ (λr=>?_) M';rw[Jv,dJ λl' q=>f6 59 l' q G_]
    . rw[c8];refine hX _ (λr=>?_) M';refine walk_bad (λz=>nomatch z) λc l' q=>?_;rw[bL];unfold aQ;have:¬c=91:=λz=>f6 c l' q (by rw[z];decide);rw[if_neg this,if_pos rfl]
abbrev iD(V:Bx):Prop:=V.M 1 "Mirror" lK A9
def CN(T:V.Ti "Mirror" "Mirror.__init__" lJ lK)(uV:V.a "Mirror" "form"):iD V:=by
 refine Txi.okI T BO (λds R h=>?_) (λf cdv A outer s H E J hr=>#[_,((bP uV (aa 1) dA)),λds R h=>?_])
 .obtain⟨_,_,rfl,_⟩:=h;rfl
 .obtain⟨x,fs,rfl,hR⟩:=h;exact#[G_,hR]
abbrev iE(V:Bx):Prop:=V.M 1 "Turn" lN Ba
def CO(T:V.Ti "Turn" "Turn.__init__" lM lN)(uY:V.a "Turn" "form"):iE V:=by
 refine Txi.okI T BP (λds R h=>?_) (λf cdv A outer s H E J hr=>#[_,((bP uY (aa 1) dA)),λds R h=>?_])
 .obtain⟨_,_,rfl,_⟩:=h;rfl
 .obtain⟨x,fs,rfl,hR⟩:=h;exact#[G_,hR]
abbrev iF(V:Bx):Prop:=V.M 1 "Over" lQ A7
def CP(T:V.Ti "Over" "Over.__init__" lP lQ)(uX:V.a "Over" "above")(uU:V.a "Over" "below"):iF V:=by
 refine Txi.okI T BQ (λds R h=>?_) (λf cdv A outer s H E J hr=>#[_,((bP uX (aa 1) (bP uU (aa 2) dA))),λds R h=>?_])
 .obtain⟨_,_,_,_,rfl,_⟩:=h;rfl
 .obtain⟨x,y,fs,gs,rfl,hR⟩:=h;refine#[G_,Ps,?_];show R (putD _ _ (putD _ _ []));rw[putD,putD,if_neg Hd];exact hR
abbrev iG(V:Bx):Prop:=V.M 1 "Shifted" lU A8
def CQ(T:V.Ti "Shifted" "Shifted.__init__" lR lU)(uW:V.a "Shifted" "form")(Ly:V.a "Shifted" "x")(Lz:V.a "Shifted" "y"):iG V:=by
 refine Txi.okI T BR (λds R h=>?_) (λf cdv A outer s H E J hr=>#[_,((bP uW (aa 1) (bP Ly (aa 2) (bP Lz (aa 3) dA)))),λds R h=>?_])
 .obtain⟨_,_,_,_,rfl,_⟩:=h;rfl
 .obtain⟨x,fs,a,b,rfl,hR⟩:=h;refine#[G_,Ps,by show(2:Nat)<1000;decide,?_];show R (putD _ _ (putD _ _ (putD _ _ [])));rw[show putD ("x":G8) (.int a) (putD ("form":G8) (.obj x fs) [])=([("form",.obj x fs),("x",.int a)]:List (G8×D))by rw[putD,putD,if_neg Hd];rfl,putD,if_neg Hd,putD,if_neg Hd];exact hR
abbrev iH(V:Bx):Prop:=V.M 1 "Rehue" lW Bb
def CS(T:V.Ti "Rehue" "Rehue.__init__" lV lW)(uR:V.a "Rehue" "form")(LA:V.a "Rehue" "old")(LB:V.a "Rehue" "new"):iH V:=by
 refine Txi.okI T BS (λds R h=>?_) (λf cdv A outer s H E J hr=>#[_,((bP uR (aa 1) (bP LA (aa 2) (bP LB (aa 3) dA)))),λds R h=>?_])
 .obtain⟨_,_,_,_,rfl,_⟩:=h;rfl
 .obtain⟨x,fs,a,b,rfl,hR⟩:=h;refine#[G_,Ps,by show(2:Nat)<1000;decide,?_];show R (putD _ _ (putD _ _ (putD _ _ [])));rw[show putD ("old":G8) (.int a) (putD ("form":G8) (.obj x fs) [])=([("form",.obj x fs),("old",.int a)]:List (G8×D))by rw[putD,putD,if_neg Hd];rfl,putD,if_neg Hd,putD,if_neg Hd];exact hR
variable{n j:Nat}
def CT(hL:6<=n)(T:V.T "over_from" gY fS)(uG:V.MM n "form_from" cE (de j))(IJ:iF V)(uB:cG V):V.MM (n+1) "over_from" fS (sA j):=by
 refine Tx.okM T sc_over_from (λds M R RX h=>?_) (λf cdv A outer s H E J hr hx=>⟨_,((au (aW 2 sc_over_from.nd (aX (hn:=Ia) uG hx hr (aE (ac (aa 0) (ac (aa 1) ae)))))
   (au (bq (bA (hn:=Ia) (CalMth.one uB) hx hr (ah (aa 0)) (aE (ac ak ae))))
   (au (aW 3 sc_over_from.nd (aX (hn:=Ia) uG hx hr (aE (ac (aa 0) (ac (aa 1) ae)))))
   (au (bq (bA (hn:=Ia) (CalMth.one uB) hx hr (ah (aa 0)) (aE (ac ak ae))))
   (av (aG (ah (js (hn:=Ia) IJ hr (ac (aa 2) (ac (aa 3) ae))))))))))),λds M R RX c8 h=>?_⟩)
 .obtain⟨_,_,_,_,_,rfl,_⟩:=h;rfl
 .obtain⟨a,t,k,l,d,rfl,rfl,d_,Ht,GV,hR,hX⟩:=h;refine#[λv M'=>∃p l1,p.Syn/\p.depth+d<=5/\l=p.tl++l1/\FormOf p k v/\M'=RdM a t (k+p.tl.length),#[a,t,k,l,d,rfl,rfl,d_,Ht,GV,λp l' h1 h2 h3 v h4=>#[p,l',h1,h2,h3,h4,rfl],λi hi M'=>?_],?_]
  .rw[c8];exact hX i (λr=>hi _) M'
  rintro v _⟨p,l1,hp,LC,rfl,hv,rfl⟩;k_places;obtain⟨fs,rfl⟩:=hv.obj;have e8:=d_.app;have p8:∀r,walk (.pat d::.sign 124::.pat d::.sign 41::r) (p.tl++l1) k=walk (.sign 124::.pat d::.sign 41::r) l1 (k+p.tl.length):=λr=>cC hp d _ l1 k LC;refine#[_,Ds.mpr rfl,_,aN,cf,a,t,_,l1,"|",rfl,rfl,e8,λc l2 e hc=>?_,λf6 M'=>?_]
  .have ec:c=124:=Ds.mp hc;subst ec;subst e;refine#[λv M'=>∃q l3,q.Syn/\q.depth+d<=5/\l2=q.tl++l3/\FormOf q (k+p.tl.length+1) v/\M'=RdM a t (k+p.tl.length+1+q.tl.length),#[a,t,_,l2,d,rfl,rfl,e8.next,Ht,GV,λp l' h1 h2 h3 v h4=>#[p,l',h1,h2,h3,h4,rfl],λi hi M'=>?_],?_]
   .rw[c8];exact hX i (λr=>by rw[p8,dL];exact hi _) M'
   rintro v _⟨q,l3,hq,MZ,rfl,M0,rfl⟩;k_places;obtain⟨gs,rfl⟩:=M0.obj;have GY:=e8.next.app;have OK:∀r,walk (.pat d::.sign 124::.pat d::.sign 41::r) (p.tl++124::(q.tl++l3)) k=walk (.sign 41::r) l3 (k+p.tl.length+1+q.tl.length):=λr=>by rw[p8,dL,cC hq d _ l3 _ MZ]
   refine#[_,Ds.mpr rfl,_,aN,cf,a,t,_,l3,")",rfl,rfl,GY,λc l4 e hc=>?_,λf6 M'=>?_]
   .have ec:c=41:=Ds.mp hc;subst ec;subst e;exact#[_,_,_,_,rfl,hR p q l4 hp hq LC MZ rfl _ _ hv M0]
   .rw[c8];refine hX _ (λr=>?_) M';rw[OK,dJ λl' q=>f6 41 l' q G_]
  .rw[c8];refine hX _ (λr=>?_) M';rw[p8,dJ λl' q=>f6 124 l' q G_]
def CU(hL:6<=n)(T:V.T "shifted_from" gZ fT)(uP:fW V)(uG:V.MM n "form_from" cE (de j))(IK:iG V)(uB:cG V):V.MM (n+1) "shifted_from" fT (sB j):=by
 refine Tx.okM T sc_shifted_from (λds M R RX h=>?_) (λf cdv A outer s H E J hr hx=>⟨_,((au (aW 2 sc_shifted_from.nd (aX (hn:=Ia) uP hx hr (aE (ac (aa 0) ae))))
   (au (bq (bA (hn:=Ia) (CalMth.one uB) hx hr (ah (aa 0)) (aE (ac ak ae))))
   (av (aG (gM (hn:=Ia) IK hr (bf (aX (hn:=Ia) uG hx hr (aE (ac (aa 0) (ac (aa 1) ae)))) (bf (ah (af (aa 2) ad)) (bf (ah (af (aa 2) ad)) bz))))))))),λds M R RX c8 h=>?_⟩)
 .obtain⟨_,_,_,_,_,rfl,_⟩:=h;rfl
 .obtain⟨a,t,k,l,d,rfl,rfl,d_,Ht,GV,hR,hX⟩:=h;refine#[λv M'=>∃x y l1,B12 x/\B12 y/\l=numL x++44::(numL y++l1)/\(∀e r,walk (.num::.sign 44::.num::.sign e::r) l k=walk (.sign e::r) l1 (k+(numL x).length+1+(numL y).length))/\v=.tup [.int x,.int y]/\M'=RdM a t (k+(numL x).length+1+(numL y).length),#[a,t,_,l,rfl,rfl,d_,λx y l' h1 h2 h3 h4=>#[x,y,l',h1,h2,h3,h4,rfl,rfl],λi hi M'=>?_],?_]
  .rw[c8];exact hX i (λr=>hi _) M'
  rintro _ _⟨x,y,l1,g8,hy,rfl,p8,rfl,rfl⟩;k_places;have e8:At t (k+(numL x).length+1+(numL y).length) l1:=d_.app.next.app;refine#[_,Ds.mpr rfl,_,aN,cf,a,t,_,l1,":",rfl,rfl,e8,λc l2 e hc=>?_,λf6 M'=>?_]
  .have ec:c=58:=Ds.mp hc;subst ec;subst e;refine#[a,t,_,l2,d,rfl,rfl,e8.next,Ht,GV,λp l' h1 h2 h3 v h4=>?_,λi hi M'=>?_]
   .obtain⟨fs,rfl⟩:=h4.obj;subst h3;exact#[_,rfl,_,rfl,_,_,_,_,rfl,hR x y p l' g8 hy h1 h2 rfl _ h4]
   .rw[c8];refine hX i (λr=>?_) M';rw[p8,dL];exact hi _
  .rw[c8];refine hX _ (λr=>?_) M';rw[p8,dJ λl' q=>f6 58 l' q G_]
def CV(hL:6<=n)(T:V.T "rehue_from" hU fU)(uC:V.m "int")(uG:V.MM n "form_from" cE (de j))(IL:iH V)(uB:cG V):V.MM (n+1) "rehue_from" fU (sC j):=by
 refine Tx.okM T sc_rehue_from (λds M R RX h=>?_) (λf cdv A outer s H E J hr hx=>⟨_,((au (aW 2 sc_rehue_from.nd (qV uC (bf (bA (hn:=Ia) (CalMth.one uB) hx hr (ah (aa 0)) (aE (ac ak ae))) bz)))
   (au (aW 3 sc_rehue_from.nd (qV uC (bf (bA (hn:=Ia) (CalMth.one uB) hx hr (ah (aa 0)) (aE (ac ak ae))) bz)))
   (av (aG (gM (hn:=Ia) IL hr (bf (aX (hn:=Ia) uG hx hr (aE (ac (aa 0) (ac (aa 1) ae)))) (bf (ah (aa 2)) (bf (ah (aa 3)) bz))))))))),λds M R RX c8 h=>?_⟩)
 .obtain⟨_,_,_,_,_,rfl,_⟩:=h;rfl
 .obtain⟨a,t,k,l,d,rfl,rfl,d_,Ht,GV,hR,hX⟩:=h;refine#[λv M'=>∃c l1,(49<=c/\c<=54)/\l=c::l1/\v=.int ((c:Int)-48)/\M'=RdM a t (k+1),#[_,Ds.mpr rfl,_,aN,cf,a,t,_,l,"123456",rfl,rfl,d_,λc l1 e hc=>?_,λf6 M'=>?_],?_]
  .exact#[_,#[digit_of (hue_dig.mp hc),by show(1:Nat)<=640;decide],c,l1,hue_dig.mp hc,e,rfl,rfl]
  .rw[c8];exact hX _ (λr=>sy f6) M'
  rintro _ _⟨c,l1,hc,rfl,rfl,rfl⟩;k_places;refine#[λv M'=>∃e l2,(49<=e/\e<=54)/\l1=e::l2/\v=.int ((e:Int)-48)/\M'=RdM a t (k+2),#[_,Ds.mpr rfl,_,aN,cf,a,t,_,l1,"123456",rfl,rfl,d_.next,λc l1 e hc=>?_,λf6 M'=>?_],?_]
  .exact#[_,#[digit_of (hue_dig.mp hc),by show(1:Nat)<=640;decide],c,l1,hue_dig.mp hc,e,rfl,rfl]
  .rw[c8];exact hX _ (λr=>by rw[jO hc,sy f6]) M'
  rintro _ _⟨e,l2,he,rfl,rfl,rfl⟩;k_places;refine#[a,t,_,l2,d,rfl,rfl,d_.next.next,Ht,GV,λp l' h1 h2 h3 v h4=>?_,λi hi M'=>?_]
  .obtain⟨fs,rfl⟩:=h4.obj;subst h3;exact#[_,_,_,_,rfl,hR c e p l' hc he h1 h2 rfl _ h4]
  .rw[c8];refine hX i (λr=>?_) M';rw[jO hc,jO he];exact hi _
def CW(hL:6<=n)(T:V.T "form_from" hV cE)(OL:V.MM n "over_from" fS (sA j))(OM:V.MM n "shifted_from" fT (sB j))(uG:V.MM n "form_from" cE (de j))(ON:V.MM n "rehue_from" fU (sC j))(IM:iC V)(IN:V.gi "DEEP" 5)(IP:iD V)(IQ:iE V)(uF:df V):V.MM (n+1) "form_from" cE (de (j+1)):=by
 refine Tx.okM T sc_form_from (λds M R RX h=>?_) (λf cdv A outer s H E J hr hx=>⟨_,((au (aW 2 sc_form_from.nd (jz (aV (dY (aa 1) (gB IN))) (bA (hn:=Ia) (CalMth.one uF) hx hr (ah (aa 0)) (aE (ac ak ae))) (ah ak)))
   (au (bb (aV (aI (aa 2) ak)) (av (aG (aX (hn:=Ia) OL hx hr (aE (ac (aa 0) (ac (aj (aa 1) ad) ae)))))) aT)
   (au (bb (aV (aI (aa 2) ak)) (av (aG (aX (hn:=Ia) OM hx hr (aE (ac (aa 0) (ac (aj (aa 1) ad) ae)))))) aT)
   (au (bb (aV (aI (aa 2) ak)) (av (aG (gM (hn:=Ia) IP hr (bf (aX (hn:=Ia) uG hx hr (aE (ac (aa 0) (ac (aj (aa 1) ad) ae)))) bz)))) aT)
   (au (bb (aV (aI (aa 2) ak)) (av (aG (gM (hn:=Ia) IQ hr (bf (aX (hn:=Ia) uG hx hr (aE (ac (aa 0) (ac (aj (aa 1) ad) ae)))) bz)))) aT)
   (au (bb (aV (aI (aa 2) ak)) (av (aG (aX (hn:=Ia) ON hx hr (aE (ac (aa 0) (ac (aj (aa 1) ad) ae)))))) aT)
   (av (aG (aX (hn:=Ia) IM hx hr (aE (ac (aa 0) ae)))))))))))),λds M R RX c8 h=>?_⟩)
 .obtain⟨_,_,_,_,_,rfl,_⟩:=h;rfl
 .obtain⟨a,t,k,l,d,rfl,rfl,d_,Ht,GV,hR,hX⟩:=h;have Pp:d<=5:=by lia
  refine#[λv M'=>(v=.str ""/\M'=RdM a t k/\(d=5\/∀c l',l=c::l'->c∉cs "(smth"))\/(∃c l',l=c::l'/\c∈cs "(smth"/\d<5/\v=.str #[[c].toArray]/\M'=RdM a t (k+1)),?_,?_]
  .show if decide ((d:Int)<5)=true then _ else _
   refine ite2 (λc=>?_) (λc=>?_)
   .have c':d<5:=by have:=of_decide_eq_true c;lia
    refine#[_,Ds.mpr rfl,_,aN,cL,a,t,_,l,"(smth",rfl,rfl,d_,?_];by_cases h:∃c l',l=c::l'/\c∈cs "(smth"
    .obtain⟨c,l',rfl,hc⟩:=h;rw[dH hc,dI hc];exact .inr #[c,l',rfl,hc,c',rfl,rfl]
    .have f6:∀c l',l=c::l'->c∉cs "(smth":=λc l' e hc=>h #[c,l',e,hc];have hm:mayS "(smth" l=""/\mayN "(smth" l=0:=by
      cases l with
      |nil=>exact#[rfl,rfl]
      |cons c l=>exact#[cZ (f6 c l rfl),db (f6 c l rfl)]
     rw[hm.1,hm.2];exact .inl #[rfl,rfl,.inr f6]
   .have c':d=5:=by
     have:¬((d:Int)<5):=λz=>c (decide_eq_true z);lia
    exact .inl #[rfl,rfl,.inl c']
  rintro _ _ (⟨rfl,rfl,f6⟩|⟨c,l1,rfl,hc,g9,rfl,rfl⟩);k_places
  .refine#[a,t,k,l,rfl,rfl,d_,λp l' h1 h2 h3 v h4=>hR p l' h1 HN h3 v h4,λi hi M'=>?_];rw[c8];exact hX i (λr=>by rw[Be f6];exact hi r) M'
  have e8:=d_.next;have hj:1<=j:=HN
  have OO:cs "(smth"=[40,115,109,116,104]:=rfl;rw[OO]at hc;simp only[Dw,EW,or_false]at hc;have nd:¬d=5:=HN
  rcases hc with rfl|rfl|rfl|rfl|rfl
  .have hw:∀r,walk (.pat d::r) (40::l1) k=walk (.pat (d+1)::.sign 124::.pat (d+1)::.sign 41::r) l1 (k+1):=λr=>aJ (by rw[bL];unfold aQ;rw[if_neg G_,if_neg nd,if_pos rfl]);refine#[a,t,k+1,l1,d+1,rfl,rfl,e8,HN,hj,λp q l' h1 h2 h3 h4 h5 u u' h6 h7=>?_,λi hi M'=>?_]
   .have:=hR (.over p q) l' #[h1,h2] O1 (by rw[h5,Pat.tl];simp) _ #[u,u',rfl,h6,h7];have e:k+(Pat.over p q).tl.length=k+1+p.tl.length+1+q.tl.length+1:=by rw[Pat.tl];simp;lia
    rw[e]at this;exact this
   .rw[c8];exact hX i (λr=>by rw[hw];exact hi r) M'
  .have hw:∀r,walk (.pat d::r) (115::l1) k=walk (.num::.sign 44::.num::.sign 58::.pat (d+1)::r) l1 (k+1):=λr=>aJ (by rw[bL];unfold aQ;rw[if_neg G_,if_neg nd,if_neg G_,if_pos rfl]);refine#[a,t,k+1,l1,d+1,rfl,rfl,e8,HN,hj,λx y p l' h1 h2 h3 h4 h5 u h6=>?_,λi hi M'=>?_]
   .have:=hR (.sh x y p) l' #[h1,h2,h3] O1 (by rw[h5,Pat.tl];simp) _ #[u,rfl,h6];have e:k+(Pat.sh x y p).tl.length=k+1+(numL x).length+1+(numL y).length+1+p.tl.length:=by rw[Pat.tl];simp;lia
    rw[e]at this;exact this
   .rw[c8];exact hX i (λr=>by rw[hw];exact hi r) M'
  .have hw:∀r,walk (.pat d::r) (109::l1) k=walk (.pat (d+1)::r) l1 (k+1):=λr=>aJ (by rw[bL];unfold aQ;rw[if_neg G_,if_neg nd,if_neg G_,if_neg G_,if_neg G_,if_pos (.inl rfl)]);refine#[a,t,k+1,l1,d+1,rfl,rfl,e8,HN,hj,λp l' h1 h2 h3 v h4=>?_,λi hi M'=>?_]
   .obtain⟨fs,rfl⟩:=h4.obj;have:=hR (.mir p) l' h1 O1 (by rw[h3,Pat.tl];simp) _ #[_,rfl,h4];have e:k+(Pat.mir p).tl.length=k+1+p.tl.length:=by rw[Pat.tl];simp;lia
    rw[e]at this;exact#[_,_,rfl,this]
   .rw[c8];exact hX i (λr=>by rw[hw];exact hi r) M'
  .have hw:∀r,walk (.pat d::r) (116::l1) k=walk (.pat (d+1)::r) l1 (k+1):=λr=>aJ (by rw[bL];unfold aQ;rw[if_neg G_,if_neg nd,if_neg G_,if_neg G_,if_neg G_,if_pos (.inr rfl)]);refine#[a,t,k+1,l1,d+1,rfl,rfl,e8,HN,hj,λp l' h1 h2 h3 v h4=>?_,λi hi M'=>?_]
   .obtain⟨fs,rfl⟩:=h4.obj;have:=hR (.tur p) l' h1 O1 (by rw[h3,Pat.tl];simp) _ #[_,rfl,h4];have e:k+(Pat.tur p).tl.length=k+1+p.tl.length:=by rw[Pat.tl];simp;lia
    rw[e]at this;exact#[_,_,rfl,this]
   .rw[c8];exact hX i (λr=>by rw[hw];exact hi r) M'
  .have hw:∀r,walk (.pat d::r) (104::l1) k=walk (.hue::.hue::.pat (d+1)::r) l1 (k+1):=λr=>aJ (by rw[bL];unfold aQ;rw[if_neg G_,if_neg nd,if_neg G_,if_neg G_,if_pos rfl]);refine#[a,t,k+1,l1,d+1,rfl,rfl,e8,HN,hj,λc e p l' h1 h2 h3 h4 h5 u h6=>?_,λi hi M'=>?_]
   .have:=hR (.hue ((c:Int)-48) ((e:Int)-48) p) l' #[HN,HN,h3] O1 (by rw[h5,Pat.tl,gU h1,gU h2];simp) _ #[u,rfl,h6];have e:k+(Pat.hue ((c:Int)-48) ((e:Int)-48) p).tl.length=k+1+2+p.tl.length:=by rw[Pat.tl,gU h1,gU h2];simp;lia
    rw[e]at this;exact this
   .rw[c8];exact hX i (λr=>by rw[hw];exact hi r) M'
def CY(OP:V.T "over_from" gY fS)(OQ:V.T "shifted_from" gZ fT)(OR:V.T "rehue_from" hU fU)(M4:V.T "form_from" hV cE)(IJ:iF V)(uB:cG V)(uP:fW V)(IK:iG V)(uC:V.m "int")(IL:iH V)(IM:iC V)(IN:V.gi "DEEP" 5)(IP:iD V)(IQ:iE V)(uF:df V):∀j,V.MM (6+2*j) "form_from" cE (de j):=by
 intro j;induction j with
 |zero=>exact CalMM.never M4 (λds M R RX=>Bf)
 |succ j ih=>
  have IR:=ih;have LD:=CT (n:=6+2*j) (j:=j) Ia OP IR IJ uB;have LF:=CU (n:=6+2*j) (j:=j) Ia OQ uP IR IK uB;have LG:=CV (n:=6+2*j) (j:=j) Ia OR uC IR IL uB;have IR:=Cal.mono ih (Ex _);exact CW (n:=6+2*j+1) (j:=j) Ia M4 LD LF IR LG IM IN IP IQ uF
abbrev nC(V:Bx):Prop:=V.M 1 "Reading" lZ AL
def CZ(T:V.Ti "Reading" "Reading.__init__" lY lZ)(uT:V.a "Reading" "text")(uD:V.a "Reading" "place"):nC V:=by
 refine Txi.okI T BT (λds R h=>?_) (λf cdv A outer s H E J hr=>#[_,((bP uT (aa 1) (bP uD ad dA))),λds R h=>?_])
 .obtain⟨_,rfl,_⟩:=h;rfl
 .obtain⟨t,rfl,hR⟩:=h;refine#[G_,Ps,?_];show R (putD _ _ (putD _ _ []));rw[putD,putD,if_neg Hd];exact hR
abbrev nD(V:Bx):Prop:=V.M 1 "Pattern" md Bn
def C0(T:V.Ti "Pattern" "Pattern.__init__" ma md)(LH:V.a "Pattern" "text")(LI:V.a "Pattern" "shifts")(LJ:V.a "Pattern" "form"):nD V:=by
 refine Txi.okI T BU (λds R h=>?_) (λf cdv A outer s H E J hr=>#[_,((bP LH (aa 1) (bP LI (aa 2) (bP LJ (aa 3) dA)))),λds R h=>?_])
 .obtain⟨_,_,_,_,_,_,rfl,_⟩:=h;rfl
 .obtain⟨t,w,h,s,x,fs,rfl,hR⟩:=h;refine#[G_,Ps,by show(2:Nat)<1000;decide,?_];show R (putD _ _ (putD _ _ (putD _ _ [])));rw[show putD ("shifts":G8) (.tup [.int w,.int h,.int s]) (putD ("text":G8) (.str t) [])=([("text",.str t),("shifts",.tup [.int w,.int h,.int s])]:List (G8×D))by rw[putD,putD,if_neg Hd];rfl,putD,if_neg Hd,putD,if_neg Hd];exact hR
abbrev iI(V:Bx):Prop:=V.E 1 "OneLine" mf Bp
def C1(T:V.Te "OneLine" "OneLine.__init__" me mf)(HF:V.b "MotifError")(uAA:V.ea "OneLine")(LK:V.xf "OneLine" "place"):iI V:=by
 refine Txe.okE T BV (λds R h=>?_) (λf cdv A outer s H E J hr=>#[_,((qy HF uAA (ac (aa 1) ae) (qz uAA LK (aa 1) qw))),λds R h=>?_])
 .obtain⟨i,rfl,_⟩:=h;rfl
 .obtain⟨i,rfl,hR⟩:=h;exact#[by show(1:Nat)<=1000;decide,rfl,hR]
abbrev nE(V:Bx):Prop:=V.D 2 "measure" mj zR
def C3(T:V.T "measure" mi mj)(HG:iA V):nE V:=by
 refine Tx.okDW T sc_measure (λds R h=>?_) (λf cdv A outer s H E J hr=>⟨_,((ai (am 2 sc_measure.nd (af (aF HG hr (ac (aB (ac ad (ac (aa 0) ae))) (ac (aB (ac ad (ac (aa 1) ae))) ae))) ad))
   (ar (aC (aB (ac (af (aa 2) ad) (ac (af (aa 2) ad) ae))))))),λds R h=>?_⟩)
 .obtain⟨x,y,n,rfl,_⟩:=h;rfl
 .obtain⟨x,y,n,rfl,hx,n0,hn,bx,M5,hR⟩:=h;have hc:Cof n 1 x 0 y:=#[bx,M5,Ia,Bt.one G_ n0,by rw[GJ,Fh,FJ];exact M5,.inl rfl];refine#[λd=>∃p0 p1:Int,d=.tup [.int p0,.int p1]/\Meas x y p1 p0/\Bt n p0,#[HV,HV,1,x,0,y,n,rfl,hn,.inr hc,λp0 p1 q0 hL hp=>#[_,rfl,p0,p1,rfl,rG #[hL.1,hL.2],hp hc]],?_];rintro _⟨p0,p1,rfl,hM,hp⟩;k_places;exact#[_,rfl,_,rfl,HV,hR p1 p0 hM hp]
abbrev iJ(V:Bx):Prop:=V.D 3 "met" mm zS
def C4(T:V.T "met" ml mm)(IS:nE V):iJ V:=by
 refine Tx.okDW T sc_met (λds R h=>?_) (λf cdv A outer s H E J hr=>⟨_,((ai (am 2 sc_met.nd (aF IS hr (ac (af (aa 0) ad) (ac (af (aa 1) ad) ae))))
   (ai (am 3 sc_met.nd (eE (bV (af (aa 0) ad) (af (aa 1) ad)) (af (aa 2) ad)))
   (ai (am 4 sc_met.nd (eE (bV (af (aa 0) ad) (af (aa 1) ad)) (af (aF IS hr (ac (af (aa 0) ad) (ac (af (aa 1) ad) ae))) ad)))
   (ai (am 5 sc_met.nd (bV (eE (aa 4) (af (aa 0) ad)) (af (aa 0) ad)))
   (ai (am 6 sc_met.nd (bJ (bV (eE (aa 4) (af (aa 1) ad)) (af (aa 1) ad)) (aa 5)))
   (ai (am 7 sc_met.nd (eE (af (aa 2) ad) (af (aF IS hr (ac (af (aa 2) ad) (ac (aa 6) ae))) ad)))
   (ai (am 8 sc_met.nd (bV (eE (bV (aa 7) (aa 6)) (af (aa 2) ad)) (af (aa 2) ad)))
   (ar (aC (aB (ac (aa 3) (ac (bV (aa 4) (aa 7)) (ac (aw (aj (bV (aa 7) (aa 5)) (bV (aa 8) (af (aa 0) ad))) (aa 3)) ae)))))))))))))),λds R h=>?_⟩)
 .obtain⟨_,_,_,_,_,_,rfl,_⟩:=h;rfl
 .obtain⟨w1,h1,s1,w2,h2,s2,rfl,⟨a1,a3,a5,a6,x1,y1⟩,⟨b1,b3,b5,b6,x2,y2⟩,hR⟩:=h;have z1:Bt 140 s1:=x1.le Ia;have z2:Bt 140 s2:=x2.le Ia;have up:∀{m:Nat} {x:Int},Bt m x->m<=4000->Bt 4000 x:=λh k=>h.mono k;refine#[λd=>∃g u:Int,d=.tup [.int g,.int u]/\Meas w1 w2 g u/\Bt 140 u,#[_,rfl,_,rfl,w1,w2,140,rfl,a1,G_,G_,x1,x2,λg u M hu=>#[g,u,rfl,M,hu]],?_];rintro _⟨g,u,rfl,M1,bu⟩;k_places;have hg:=M1.pos a1;have Ow:=M1.le a1;have bg:Bt 140 g:=x1.le Ia;refine#[λd=>d=.int (w1*w2/g),#[_,rfl,_,rfl,.inr #[up x1 G_,up x2 G_],_,rfl,#[hg,up bg G_],rfl],?_];rintro _ rfl;k_places;refine#[λd=>∃k u':Int,d=.int (h1*h2/k)/\Meas h1 h2 k u',#[_,rfl,_,rfl,.inr #[up y1 G_,up y2 G_],_,rfl,_,rfl,h1,h2,140,rfl,a3,G_,G_,y1,y2,λk u' M _=>#[_,rfl,#[M.pos a3,up (y1.le (by have:=M.le a3;have:=M.pos a3;omega)) G_],k,u',rfl,M]],?_];rintro _⟨k,u',rfl,M2⟩;k_places;have br:Bt 280 (h1*h2/k):=(y1.mul y2).div;have t1:Bt 420 (h1*h2/k/h1*s1):=br.div.mul z1;have t2:Bt 420 (h1*h2/k/h2*s2):=br.div.mul z2;refine#[λd=>d=.int (h1*h2/k/h1*s1),#[_,rfl,#[a3,up y1 G_],_,rfl,.inr #[up br.div G_,up z1 G_],rfl],?_];rintro _ rfl;k_places;refine#[λd=>d=.int (h1*h2/k/h2*s2-h1*h2/k/h1*s1),#[_,rfl,#[b3,up y2 G_],_,rfl,.inr #[up br.div G_,up z2 G_],rfl],?_];rintro _ rfl;k_places;have bp:Bt 421 (h1*h2/k/h2*s2-h1*h2/k/h1*s1):=t2.sub t1;refine#[λd=>∃gg t7:Int,d=.int (g/gg)/\Meas g (h1*h2/k/h2*s2-h1*h2/k/h1*s1) gg t7,#[_,rfl,_,rfl,g,_,421,rfl,hg,G_,G_,bg.mono G_,bp,λgg t7 M _=>#[_,rfl,#[M.pos hg,up (bg.le (by have:=M.le hg;have:=M.pos hg;omega)) G_],gg,t7,rfl,M]],?_];rintro _⟨gg,t7,rfl,M3⟩;k_places;have bc:Bt 140 (g/gg):=bg.div;have mr:=gQ a1 b1 a3 b3 M1 M2 M3;have be:Bt 561 (g/gg*(h1*h2/k/h2*s2-h1*h2/k/h1*s1)/g):=(bc.mul bp).div;refine#[λd=>d=.int (g/gg*(h1*h2/k/h2*s2-h1*h2/k/h1*s1)/g*u),#[.inr #[up bc G_,up bp G_],_,rfl,#[hg,up bg G_],_,rfl,.inr #[up be G_,up bu G_],rfl],?_];rintro _ rfl;k_places;obtain⟨w0,w3,_⟩:=rH a1 b1 M1;exact#[.inr #[up br G_,up bc G_],.inr #[up bc G_,up t1 G_],_,rfl,.inr #[up (be.mul bu) G_,up x1 G_],w0,HV,hR _ _ _ _ mr]
abbrev iK(V:Bx):Prop:=V.D 1 "mirrored" mo zP
def C5(T:V.T "mirrored" mn mo):iK V:=by
 refine Tx.okDW T BW (λds R h=>?_) (λf cdv A outer s H E J hr=>#[_,((ar (aC (aB (ac (af (aa 0) ad) (ac (af (aa 0) ad) (ac (aw (bZ (af (aa 0) ad)) (af (aa 0) ad)) ae))))))),λds R h=>?_])
 .obtain⟨w,h,s,rfl,_⟩:=h;rfl
 .obtain⟨w,h,s,rfl,hw,hR⟩:=h;exact#[_,rfl,_,rfl,_,rfl,_,rfl,hw,HV,hR]
abbrev iL(V:Bx):Prop:=V.D 3 "turned" mv zQ
def C6(T:V.T "turned" mq mv)(HH:iB V):iL V:=by
 refine Tx.okDW T BX (λds R h=>?_) (λf cdv A outer s H E J hr=>#[_,((ar (aC (aF HH hr (ac (aB (ac ad (ac (af (aa 0) ad) ae))) (ac (aB (ac (bZ (af (aa 0) ad)) (ac (af (aa 0) ad) ae))) ae)))))),λds R h=>?_])
 .obtain⟨w,h,s,rfl,_⟩:=h;rfl
 .obtain⟨w,h,s,rfl,hw,hh,hs,g6,bw,bh,hR⟩:=h;have hp:0<w*h:=DM hw hh;have hn:¬0*s=w* -h:=by rw[Fj];omega
  have hc:Cof 1200 0 w (-h) s:=⟨bw.mono G_,(bw.le Ia).mono G_,Ia,Bt.one G_ G_,by
   rw[Fh,GA,GK,Int.neg_neg];exact bh.mul bw,.inr #[.inl #[G_,Ia],.inl #[Ia,hs]]⟩
  exact#[_,rfl,HV,_,rfl,_,rfl,HV,0,w,-h,s,1200,rfl,G_,.inr hc,λe=>absurd e hn,λ_ w' h' s' f=>hR w' h' s' f]
def ok_Motif_family(hL:3<=n)(T:V.Tm "Motif" "family" "Motif.family" hZ cx)(uK:V.a "Motif" "shifts")(uS:V.a "Motif" "place")(uQ:iI V):V.Q (n+1) "Motif" "family" cx (ofX (bW (j+1) "Motif")):=by
 refine Txm.okM T BY (λds M R RX h=>?_) (λf cdv A outer s H E J hr hx=>⟨_,((au (bb (qQ (bn uK (ah (aa 0))) (ah dm)) (av (jC (hn:=Ia) uQ hr hx rfl (bf (bn uS (ah (aa 0))) bz))) aT)
   (av (aG (bn uK (ah (aa 0))))))),λds M R RX c8 h=>?_⟩)
 .obtain⟨_,_,_,rfl,_⟩:=h;rfl
 .obtain⟨p,k,v,rfl,hv,hs,hd,hc,h_,hX,hR⟩:=h;cases p with
  |over p q=>exact absurd (show("Over":G8)="Motif" from hc) Hd
  |sh a b p=>exact absurd (show("Shifted":G8)="Motif" from hc) Hd
  |mir p=>exact absurd (show("Mirror":G8)="Motif" from hc) Hd
  |tur p=>exact absurd (show("Turn":G8)="Motif" from hc) Hd
  |hue f g p=>exact absurd (show("Rehue":G8)="Motif" from hc) Hd
  |mot L a b c d=>
   obtain⟨sh,hu,rfl,h0,h1⟩:=hv;refine#[_,#[rfl,rfl],_,sE,?_];by_cases e:a*d=b*c
   .rw[h0 e];refine#[_,#[rfl,rfl],_,Bi,by show(1:Nat)<=1000;decide,(k:Int),rfl,?_];rw[c8];exact hX k (by rw[Pat.lineAt,if_pos e])
   .obtain⟨w,h,s,F,rfl,rfl⟩:=h1 e;exact#[_,#[rfl,rfl],_,sE,hR (by rw[Pat.lineAt,if_neg e]) w h s (Pat.Fam.mot F)]
def C7(hL:3<=n)(T:V.Tm "Over" "family" "Over.family" ia ib)(IT:iJ V)(uX:V.a "Over" "above")(uU:V.a "Over" "below")(uE:∀x,x∈(["Motif","Over","Shifted","Mirror","Turn","Rehue"]:List G8)->V.Q n x "family" cx (ofX (bW j x))):V.Q (n+1) "Over" "family" ib (ofX (bW (j+1) "Over")):=by
 refine Txm.okM T sc_Over_family (λds M R RX h=>?_) (λf cdv A outer s H E J hr hx=>⟨_,((au (aW 1 sc_Over_family.nd (dB (hn:=Ia) uE hx hr (bn uX (ah (aa 0)))))
   (av (aG (aX (hn:=Ia) (CalD.toM IT) hx hr (bf (ah (aa 1)) (bf (dB (hn:=Ia) uE hx hr (bn uU (ah (aa 0)))) bz))))))),λds M R RX c8 h=>?_⟩)
 .obtain⟨_,_,_,rfl,_⟩:=h;rfl
 .obtain⟨p,k,v,rfl,hv,hs,hd,hc,h_,hX,hR⟩:=h;cases p with
  |mot L a b c d=>exact absurd (show("Motif":G8)="Over" from hc) Hd
  |sh a b p=>exact absurd (show("Shifted":G8)="Over" from hc) Hd
  |mir p=>exact absurd (show("Mirror":G8)="Over" from hc) Hd
  |tur p=>exact absurd (show("Turn":G8)="Over" from hc) Hd
  |hue f g p=>exact absurd (show("Rehue":G8)="Over" from hc) Hd
  |over p q=>
   obtain⟨u,u',rfl,hu,M6⟩:=hv;obtain⟨fs,rfl,hf,_⟩:=hu.objm;obtain⟨gs,rfl,hg,_⟩:=M6.objm;rw[Pat.depth]at hd;refine#[λd M'=>(∃w h s,p.lineAt (k+1)=A'/\p.Fam w h s/\d=.tup [.int w,.int h,.int s])/\M'=M,#[_,#[rfl,rfl],_,rfl,p.cls,p.cls_mem,fs,#[rfl,rfl],hf,p,k+1,_,rfl,hu,hs.1,HN,rfl,h_.1,λi hi=>?_,λhn w h s F=>#[#[w,h,s,hn,F,rfl],rfl]],?_]
   .rw[c8];exact hX i (by rw[Pat.lineAt,hi])
   rintro _ _⟨⟨w1,h1,s1,LL,F1,rfl⟩,rfl⟩;k_places;refine#[_,#[rfl,rfl],_,jQ Hd,q.cls,q.cls_mem,gs,#[rfl,rfl],hg,q,k+1+p.tl.length+1,_,rfl,M6,hs.2,HN,rfl,h_.2.1,λi hi=>?_,λy' w2 h2 s2 F2=>?_]
   .rw[c8];exact hX i (by rw[Pat.lineAt,LL];exact hi)
   .obtain⟨f1,f2⟩:=h_.2.2 (Pat.line_wf _ hs.1 LL) (Pat.line_wf _ hs.2 y');obtain⟨a1,a2,a3,a4,a5,a6⟩:=f1.small F1;obtain⟨b1,b2,b3,b4,b5,b6⟩:=f2.small F2;exact#[w1,h1,s1,w2,h2,s2,rfl,#[a1,a3,a5,a6,eX a1 a2,eX a3 a4],#[b1,b3,b5,b6,eX b1 b2,eX b3 b4],λw h s A MR=>hR (by rw[Pat.lineAt,LL];exact y') w h s (Pat.Fam.over F1 F2 MR)]
def C8(hL:3<=n)(T:V.Tm "Shifted" "family" "Shifted.family" ic ie)(uW:V.a "Shifted" "form")(uE:∀x,x∈(["Motif","Over","Shifted","Mirror","Turn","Rehue"]:List G8)->V.Q n x "family" cx (ofX (bW j x))):V.Q (n+1) "Shifted" "family" ie (ofX (bW (j+1) "Shifted")):=by
 refine Txm.okM T BZ (λds M R RX h=>?_) (λf cdv A outer s H E J hr hx=>#[_,((av (aG (dB (hn:=Ia) uE hx hr (bn uW (ah (aa 0))))))),λds M R RX c8 h=>?_])
 .obtain⟨_,_,_,rfl,_⟩:=h;rfl
 .obtain⟨p,k,v,rfl,hv,hs,hd,hc,h_,hX,hR⟩:=h;cases p with
  |mot L a b c d=>exact absurd (show("Motif":G8)="Shifted" from hc) Hd
  |over p q=>exact absurd (show("Over":G8)="Shifted" from hc) Hd
  |mir p=>exact absurd (show("Mirror":G8)="Shifted" from hc) Hd
  |tur p=>exact absurd (show("Turn":G8)="Shifted" from hc) Hd
  |hue f g p=>exact absurd (show("Rehue":G8)="Shifted" from hc) Hd
  |sh a b p=>
   obtain⟨u,rfl,hu⟩:=hv;obtain⟨fs,rfl,hf,_⟩:=hu.objm;rw[Pat.depth]at hd;refine#[_,#[rfl,rfl],_,rfl,p.cls,p.cls_mem,fs,#[rfl,rfl],hf,p,_,_,rfl,hu,hs.2.2,HN,rfl,h_,λi hi=>?_,λhn w h s F=>?_]
   .rw[c8];exact hX i (by rw[Pat.lineAt];exact hi)
   .exact hR (by rw[Pat.lineAt];exact hn) w h s (F.sh a b)
def C9(hL:3<=n)(T:V.Tm "Mirror" "family" "Mirror.family" ig ii)(IU:iK V)(uV:V.a "Mirror" "form")(uE:∀x,x∈(["Motif","Over","Shifted","Mirror","Turn","Rehue"]:List G8)->V.Q n x "family" cx (ofX (bW j x))):V.Q (n+1) "Mirror" "family" ii (ofX (bW (j+1) "Mirror")):=by
 refine Txm.okM T B0 (λds M R RX h=>?_) (λf cdv A outer s H E J hr hx=>#[_,((av (aG (aX (hn:=Ia) (CalD.toM IU) hx hr (bf (dB (hn:=Ia) uE hx hr (bn uV (ah (aa 0)))) bz))))),λds M R RX c8 h=>?_])
 .obtain⟨_,_,_,rfl,_⟩:=h;rfl
 .obtain⟨p,k,v,rfl,hv,hs,hd,hc,h_,hX,hR⟩:=h;cases p with
  |mot L a b c d=>exact absurd (show("Motif":G8)="Mirror" from hc) Hd
  |over p q=>exact absurd (show("Over":G8)="Mirror" from hc) Hd
  |sh a b p=>exact absurd (show("Shifted":G8)="Mirror" from hc) Hd
  |tur p=>exact absurd (show("Turn":G8)="Mirror" from hc) Hd
  |hue f g p=>exact absurd (show("Rehue":G8)="Mirror" from hc) Hd
  |mir p=>
   obtain⟨u,rfl,hu⟩:=hv;obtain⟨fs,rfl,hf,_⟩:=hu.objm;rw[Pat.depth]at hd;refine#[_,#[rfl,rfl],_,rfl,p.cls,p.cls_mem,fs,#[rfl,rfl],hf,p,_,_,rfl,hu,hs,HN,rfl,h_,λi hi=>?_,λhn w h s F=>?_]
   .rw[c8];exact hX i (by rw[Pat.lineAt];exact hi)
   .exact#[w,h,s,rfl,F.f.w0,hR (by rw[Pat.lineAt];exact hn) w h _ F.mir]
def Da(hL:3<=n)(T:V.Tm "Turn" "family" "Turn.family" ij ik)(IV:iL V)(uY:V.a "Turn" "form")(uE:∀x,x∈(["Motif","Over","Shifted","Mirror","Turn","Rehue"]:List G8)->V.Q n x "family" cx (ofX (bW j x))):V.Q (n+1) "Turn" "family" ik (ofX (bW (j+1) "Turn")):=by
 refine Txm.okM T B1 (λds M R RX h=>?_) (λf cdv A outer s H E J hr hx=>#[_,((av (aG (aX (hn:=Ia) (CalD.toM IV) hx hr (bf (dB (hn:=Ia) uE hx hr (bn uY (ah (aa 0)))) bz))))),λds M R RX c8 h=>?_])
 .obtain⟨_,_,_,rfl,_⟩:=h;rfl
 .obtain⟨p,k,v,rfl,hv,hs,hd,hc,h_,hX,hR⟩:=h;cases p with
  |mot L a b c d=>exact absurd (show("Motif":G8)="Turn" from hc) Hd
  |over p q=>exact absurd (show("Over":G8)="Turn" from hc) Hd
  |sh a b p=>exact absurd (show("Shifted":G8)="Turn" from hc) Hd
  |mir p=>exact absurd (show("Mirror":G8)="Turn" from hc) Hd
  |hue f g p=>exact absurd (show("Rehue":G8)="Turn" from hc) Hd
  |tur p=>
   obtain⟨u,rfl,hu⟩:=hv;obtain⟨fs,rfl,hf,_⟩:=hu.objm;rw[Pat.depth]at hd;refine#[_,#[rfl,rfl],_,rfl,p.cls,p.cls_mem,fs,#[rfl,rfl],hf,p,_,_,rfl,hu,hs,HN,rfl,h_.1,λi hi=>?_,λhn w h s F=>?_]
   .rw[c8];exact hX i (by rw[Pat.lineAt];exact hi)
   .obtain⟨a1,a2,a3,a4,a5,a6⟩:=(h_.2 (Pat.line_wf _ hs hn)).small F;exact#[w,h,s,rfl,a1,a3,a5,a6,(eX a1 a2).mono G_,(eX a3 a4).mono G_,λw' h' s' F'=>hR (by rw[Pat.lineAt];exact hn) w' h' s' (F.tur F')]
def Db(hL:3<=n)(T:V.Tm "Rehue" "family" "Rehue.family" il im)(uR:V.a "Rehue" "form")(uE:∀x,x∈(["Motif","Over","Shifted","Mirror","Turn","Rehue"]:List G8)->V.Q n x "family" cx (ofX (bW j x))):V.Q (n+1) "Rehue" "family" im (ofX (bW (j+1) "Rehue")):=by
 refine Txm.okM T B2 (λds M R RX h=>?_) (λf cdv A outer s H E J hr hx=>#[_,((av (aG (dB (hn:=Ia) uE hx hr (bn uR (ah (aa 0))))))),λds M R RX c8 h=>?_])
 .obtain⟨_,_,_,rfl,_⟩:=h;rfl
 .obtain⟨p,k,v,rfl,hv,hs,hd,hc,h_,hX,hR⟩:=h;cases p with
  |mot L a b c d=>exact absurd (show("Motif":G8)="Rehue" from hc) Hd
  |over p q=>exact absurd (show("Over":G8)="Rehue" from hc) Hd
  |sh a b p=>exact absurd (show("Shifted":G8)="Rehue" from hc) Hd
  |mir p=>exact absurd (show("Mirror":G8)="Rehue" from hc) Hd
  |tur p=>exact absurd (show("Turn":G8)="Rehue" from hc) Hd
  |hue f g p=>
   obtain⟨u,rfl,hu⟩:=hv;obtain⟨fs,rfl,hf,_⟩:=hu.objm;rw[Pat.depth]at hd;refine#[_,#[rfl,rfl],_,rfl,p.cls,p.cls_mem,fs,#[rfl,rfl],hf,p,_,_,rfl,hu,hs.2.2,HN,rfl,h_,λi hi=>?_,λhn w h s F=>?_]
   .rw[c8];exact hX i (by rw[Pat.lineAt];exact hi)
   .exact hR (by rw[Pat.lineAt];exact hn) w h s (F.hue f g)
def Dc(M7:V.Tm "Motif" "family" "Motif.family" hZ cx)(M8:V.Tm "Over" "family" "Over.family" ia ib)(M9:V.Tm "Shifted" "family" "Shifted.family" ic ie)(M_:V.Tm "Mirror" "family" "Mirror.family" ig ii)(Na:V.Tm "Turn" "family" "Turn.family" ij ik)(Nb:V.Tm "Rehue" "family" "Rehue.family" il im)(uK:V.a "Motif" "shifts")(uS:V.a "Motif" "place")(uQ:iI V)(IT:iJ V)(uX:V.a "Over" "above")(uU:V.a "Over" "below")(uW:V.a "Shifted" "form")(IU:iK V)(uV:V.a "Mirror" "form")(IV:iL V)(uY:V.a "Turn" "form")(uR:V.a "Rehue" "form"):∀j x,x∈(["Motif","Over","Shifted","Mirror","Turn","Rehue"]:List G8)->V.Q (3+j) x "family" cx (ofX (bW j x)):=by
 intro j;induction j with
 |zero=>
  intro x hx;simp only[Dw,EW,or_false]at hx;rcases hx with rfl|rfl|rfl|rfl|rfl|rfl
  .exact CalMth.never M7 (λds M R RX=>eY)
  .exact CalMth.never M8 (λds M R RX=>eY)
  .exact CalMth.never M9 (λds M R RX=>eY)
  .exact CalMth.never M_ (λds M R RX=>eY)
  .exact CalMth.never Na (λds M R RX=>eY)
  .exact CalMth.never Nb (λds M R RX=>eY)
 |succ j IW=>
  intro x hx;simp only[Dw,EW,or_false]at hx;rcases hx with rfl|rfl|rfl|rfl|rfl|rfl
  .exact ok_Motif_family (n:=3+j) (j:=j) Ia M7 uK uS uQ
  .exact C7 (n:=3+j) (j:=j) Ia M8 IT uX uU IW
  .exact C8 (n:=3+j) (j:=j) Ia M9 uW IW
  .exact C9 (n:=3+j) (j:=j) Ia M_ IU uV IW
  .exact Da (n:=3+j) (j:=j) Ia Na IV uY IW
  .exact Db (n:=3+j) (j:=j) Ia Nb uR IW
abbrev sM(V:Bx):Prop:=V.MM 18 "form_from" cE (de 6)
abbrev sN(V:Bx):Prop:=∀x,x∈(["Motif","Over","Shifted","Mirror","Turn","Rehue"]:List G8)->V.Q 9 x "family" cx (ofX (bW 6 x))
abbrev nF(V:Bx):Prop:=V.X 19 "read" my jR
def Dd(T:V.T "read" mx my)(uA:V.m "len")(uG:sM V)(LM:V.gi "MOST" 720)(uD:V.a "Reading" "place")(LN:nC V)(LO:nD V)(uE:sN V)(uL:iz V)(LP:V.n "TooGreat"):nF V:=by
 refine CalMM.nilX (Tx.okM T sc_read (λds M R RX h=>?_) (λf cdv A outer s H E J hr hx=>⟨_,((au (aW 1 sc_read.nd (yp LN hr (aE (ac (aa 0) ae))))
   (au (aW 2 sc_read.nd (aX uG hx hr (aE (ac (aa 1) (ac ad ae)))))
   (au (bb (qP (bn uD (ah (aa 1))) (ah (cP uA (ac (aa 0) ae)))) (av (jC uL hr hx rfl (bf (bn uD (ah (aa 1))) bz))) aT)
   (au (aW 3 sc_read.nd (dB uE hx hr (ah (aa 2))))
   (au (bb (aV (pM (bV (af (aa 3) ad) (af (aa 3) ad)) (gB LM))) (av (yw LP hx rfl (aE (ac ak ae)))) aT)
   (av (aG (ah (js LO hr (ac (aa 0) (ac (aa 3) (ac (aa 2) ae))))))))))))),λds M R RX c8 h=>?_⟩))
 .obtain⟨_,R0,G2,h,_⟩:=h;rcases h with⟨_,_,rfl,_⟩|⟨_,rfl,_⟩<;>rfl
 .obtain⟨rfl,R0,G2,h,hR,hX⟩:=h;obtain⟨t,ht,OS,x_⟩:∃t:G8,ds=[.str t]/\t.length<=100000/\((∃k:Nat,bK t=u5 k/\G2 "WrongSign" [("place",.int k)])\/∃p:Pat,t=p.text/\p.Syn/\p.depth<=5/\(∀k:Nat,p.lineAt 0=u5 k->G2 "OneLine" [("place",.int k)])/\(p.lineAt 0=A'->¬p.Fits->G2 "TooGreat" [])/\(p.lineAt 0=A'->p.Fits->∀d,sF p d->R0 d)):=by
   rcases h with⟨t,k,e,h1,h2,h3⟩|⟨p,e,h1,h2,h3⟩
   .exact#[t,e,h1,.inl #[k,h2,h3]]
   .exact#[p.text,e,by have:=Pat.syn_short h1 h2;lia,.inr #[p,rfl,h1,h2,h3]]
  subst ht;have d_:At t 0 (cs t):=#[rfl,DO _,OS];refine#[λd M'=>∃a,d=.ptr a/\M'=RdM a t 0,#[t,rfl,λa _=>#[a,rfl,rfl]],?_];rintro _ _⟨a,rfl,rfl⟩;k_places;refine#[λv M'=>∃p l',p.Syn/\p.depth<=5/\cs t=p.tl++l'/\FormOf p 0 v/\M'=RdM a t p.tl.length,#[a,t,0,cs t,0,rfl,rfl,d_,rfl,G_,λp l' h1 h2 h3 v h4=>#[p,l',h1,HN,h3,h4,by rw[EY]],λi hi M'=>?_],?_]
  .rw[c8];have hw:bK t=u5 i:=hi [];rcases x_ with⟨k,h1,h2⟩|⟨p,rfl,h1,h2,_⟩
   .rw[hw]at h1;cases h1;exact hX _ _ _ h2
   .rw[se h1 h2]at hw;cases hw
  rintro v _⟨p,l',hp,LC,hl,hv,rfl⟩;k_places;have hw:bK t=walk [] l' p.tl.length:=by
   unfold bK;rw[hl,cC hp 0 [] l' 0 HN,EY]
  have b8:t.length=p.tl.length+l'.length:=by rw[<-bG,hl,DB]
  refine#[_,aN,_,cY,HN,ite2 (λc=>?_) (λc=>?_)]
  .have c':=of_decide_eq_true c;refine#[_,aN,_,cY,by show(1:Nat)<=1000;decide,(p.tl.length:Int),rfl,?_];rw[c8];have u7:bK t=u5 p.tl.length:=by
    rw[hw];cases l' with
    |nil=>simp at b8;lia
    |cons c l=>simp[walk,step,aD,ay]
   rcases x_ with⟨k,h1,h2⟩|⟨q,rfl,h1,h2,_⟩
   .rw[u7]at h1;cases h1;exact hX _ _ _ h2
   .rw[se h1 h2]at u7;cases u7
  have c':¬((p.tl.length:Int)<(t.length:Int)):=λz=>c (decide_eq_true z);have OT:l'=[]:=EA HN;subst OT;rcases x_ with⟨k,h1,h2⟩|⟨q,rfl,h1,h2,LQ,Hu,IY⟩
  .rw[hw]at h1;cases h1
  obtain⟨rfl,_⟩:=Bm (p:=q) (q:=p) (x:=[]) (y:=[]) h1 hp (by rw[<-cB,hl];simp);obtain⟨fs,rfl,hf,_⟩:=hv.objm;refine#[λd M'=>∃w h s,q.lineAt 0=A'/\q.Fam w h s/\d=.tup [.int w,.int h,.int s],#[q.cls,q.cls_mem,fs,#[rfl,rfl],hf,q,0,_,rfl,hv,hp,HN,rfl,Pat.cal_deep h2,λi hi=>?_,λhn w h s F=>#[w,h,s,hn,F,rfl]],?_]
  .rw[c8];exact hX _ _ _ (LQ i hi)
  rintro _ M'⟨w,h,s,hn,F,rfl⟩;k_places;have OU:=Pat.line_wf 0 hp hn;obtain⟨bw,bh⟩:=Bq OU h2 F;refine#[_,rfl,_,rfl,.inr #[bw,bh],ite2 (λc=>?_) (λc=>?_)]
  .have c2:=of_decide_eq_true c;refine#[by show(1:Nat)<=1000;decide,?_];rw[c8];refine hX _ _ _ (Hu hn λ⟨w',h',s',F',hb⟩=>?_);obtain⟨rfl,rfl,_⟩:=F.uniq F';lia
  .have c2:¬(720<w*h):=λz=>c (decide_eq_true z);refine⟨_,_,_,_,_,_,rfl,hR _ _ (IY hn #[w,h,s,F,HN] _ ⟨w,h,s,_,rfl,rfl,jQ Hd,⟨F,#[0,_,Bj Hd Hd,hv],by
    have:=FormOf.nl hv;unfold noL at this;simp[noLF,noL,noLs,this]⟩⟩)⟩
abbrev nG(V:Bx):Prop:=V.D 1 "_law_whole" mB zI
def De(T:V.T "_law_whole" mz mB)(JO:V.m "isinstance")(LR:V.m "bool")(uC:V.m "int"):nG V:=by
 refine Tx.okDW T B3 (λds R h=>?_) (λf cdv A outer s H E J hr=>#[_,((ar (aC (dz (pU JO uC (aa 0) PyProof.Rows.boot_int wL) (dv (pT (pU JO LR (aa 0) PyProof.Rows.boot_bool kit_bool))))))),λds R h=>?_])
 .obtain⟨i,rfl,_⟩:=h;rfl
 .obtain⟨i,rfl,hR⟩:=h;exact hR
def Df:SpD:=λds R=>∃t:G8,ds=[.str t]/\t.length<=9000/\R (.bl true)
abbrev sO(V:Bx):Prop:=V.Ek ["WrongSign","OneLine","TooGreat"]
abbrev nH(V:Bx):Prop:=V.D 20 "_law_fine" mD Df
def Dg(T:V.T "_law_fine" mC mD)(LS:nu V)(LU:nF V)(LV:nG V)(LW:V.x "place" ["WrongSign","OneLine"])(ek:sO V):nH V:=by
 refine Tx.okDW T sc__law_fine (λds R h=>?_) (λf cdv A outer s H E J hr=>⟨_,((ai (am 1 sc__law_fine.nd (aF (CalX.no LS) hr (ac (aa 0) ae)))
   (ai (am 2 sc__law_fine.nd (bZ ad))
   (ai (am 3 sc__law_fine.nd ci)
   (ai (ye (λpn xe J hp hx=>(ai (wQ (xz LU hx hr (ac (aa 0) ae)))
    (ar (am 3 sc__law_fine.nd ci)))) (xH 4 ek sc__law_fine.nd (λe=>(ar (am 2 sc__law_fine.nd (xK LW (aa 4))))) (qB ek (λe=>(ar (am 3 sc__law_fine.nd ci))) (qB ek (λe=>(ar (am 3 sc__law_fine.nd ci))) xG))))
   (ai (bj (aI (aa 1) (bZ ad)) (ar (aC (aa 3))) aU)
   (ar (aC (dz (pT (aa 3)) (dz (aF LV hr (ac (aa 2) ae)) (dv (cj (aa 2) (aa 1))))))))))))),λds R h=>?_⟩)
 .obtain⟨_,rfl,_⟩:=h;rfl
 .obtain⟨t,rfl,ht,hR⟩:=h;refine#[λx=>(∃k:Nat,bK t=u5 k/\x=.int (k:Int))\/(bK t=A'/\x=.int (-1)),#[t,rfl,ht,λk h=>.inl #[k,h,rfl],λh=>.inr #[h,rfl]],?_];rintro _ (⟨k,hw,rfl⟩|⟨hw,rfl⟩);k_places
  .refine#[λx=>x=.int (-1),rfl,?_];rintro _ rfl;k_places;refine#[λx=>x=.bl false,rfl,?_];rintro _ rfl;k_places;refine#[λz x fs=>z=[u5 (.str t),u5 (.int (k:Int)),u5 (.int (-1)),u5 (.bl false),A']/\x="WrongSign"/\fs=[(("place":G8),D.int (k:Int))],λJ' hJ=>?_,?_]
   .show jR [.str t] _ (J'.RX _);rw[hJ];exact .inl #[t,k,rfl,HN,hw,rfl,rfl,rfl]
   .rintro z x fs⟨rfl,rfl,rfl⟩;k_places;refine#[#[G_,G_],?_];rw[if_pos Hd];refine#[λx=>x=.int (k:Int),#[G_,_,rfl,rfl],?_];rintro _ rfl;k_places;refine#[k,rfl,?_];show R (.bl (decide (_=_)));rw[decide_eq_true rfl];exact hR
  .obtain⟨p,hp,hd,rfl⟩:=AJ hw;refine#[λx=>x=.int (-1),rfl,?_];rintro _ rfl;k_places;refine#[λx=>x=.bl false,rfl,?_];rintro _ rfl;k_places;refine#[λz x fs=>z=[u5 (.str p.text),u5 (.int (-1)),u5 (.int (-1)),u5 (.bl false),A']/\((∃k:Nat,x="OneLine"/\fs=[(("place":G8),D.int (k:Int))])\/(x="TooGreat"/\fs=[])),λJ' hJ=>?_,?_]
   .show jR [.str p.text] _ (J'.RX _);rw[hJ];refine .inr #[p,rfl,hp,hd,λk h=>#[rfl,.inl #[k,rfl,rfl]],λ_ _=>#[rfl,.inr #[rfl,rfl]],λ_ _ d _=>?_];refine#[λx=>x=.bl true,rfl,?_];rintro _ rfl;k_places;exact hR
   .rintro z x fs⟨rfl,⟨k,rfl,rfl⟩|⟨rfl,rfl⟩⟩;k_places
    .refine#[#[G_,G_],?_];rw[if_neg Hd];refine#[#[G_,G_],?_];rw[if_pos Hd];refine#[λx=>x=.bl true,rfl,?_];rintro _ rfl;k_places;exact hR
    .refine#[#[G_,G_],?_];rw[if_neg Hd];refine#[#[G_,G_],?_];rw[if_neg Hd];refine#[#[G_,G_],?_];rw[if_pos Hd];refine#[λx=>x=.bl true,rfl,?_];rintro _ rfl;k_places;exact hR
def allS:Str:=(" !\"#$&'()*+,-./0123456789:;<=>?@ABCDEFGHIJKLMNOPQRSTUVWXYZ":G8)++"[\\]^_`abcdefghijklmnopqrstuvwxyz{|}~"
def sP:allS.length=94:=Hd
def Dh:SpD:=λds R=>ds=[]/\R (.str allS)
abbrev iM(V:Bx):Prop:=V.D 1 "_law_all_signs" mG Dh
def Di(T:V.T "_law_all_signs" mF mG):iM V:=by
 refine Tx.okDW T sc__law_all_signs (λds R h=>?_) (λf cdv A outer s H E J hr=>⟨_,((ai (am 0 sc__law_all_signs.nd ak)
   (ar (aC (aj (aa 0) ak))))),λds R h=>?_⟩)
 .obtain⟨rfl,_⟩:=h;rfl
 .obtain⟨rfl,hR⟩:=h;refine⟨λx=>x=.str " !\"#$&'()*+,-./0123456789:;<=>?@ABCDEFGHIJKLMNOPQRSTUVWXYZ",rfl,?_⟩;rintro _ rfl;k_places;exact⟨Hd,hR⟩
def Dj:SpD:=λds R=>∃n:Int,ds=[.int n]/\∀c:Nat,R (.str #[[c].toArray])
abbrev nI(V:Bx):Prop:=V.D 2 "_law_sign" mI Dj
def Dk(T:V.T "_law_sign" mH mI)(HI:iM V):nI V:=by
 refine Tx.okDW T B4 (λds R h=>?_) (λf cdv A outer s H E J hr=>⟨_,((ai (bj (aI (aw (aa 0) ad) ad) (ar (aC (af (qJ HI hr) (aw (bt (aa 0) ad) ad)))) aU)
   (ar (aC (af ak (aw (bt (aa 0) ad) ad)))))),λds R h=>?_⟩)
 .obtain⟨_,rfl,_⟩:=h;rfl
 .obtain⟨n,rfl,hR⟩:=h;refine#[G_,ite2 (λ_=>?_) (λ_=>?_)]
  .obtain⟨c,hc⟩:=ir (l:=cs allS) (i:=n/4%94) HN (by rw[bG,sP];lia);exact#[rfl,#[G_,G_],G_,c,#[by rw[sP];decide,hc],hR c]
  .have OV:(cs "[](|);,:/smth.0123456789-").length=25:=by decide+kernel
   obtain⟨c,hc⟩:=ir (l:=cs "[](|);,:/smth.0123456789-") (i:=n/4%25) HN (by rw[OV];lia);exact#[#[G_,G_],G_,c,#[Hd,hc],hR c]
def Dl:SpD:=λds R=>∃(t:G8) (kind k8:Int) (xs:List Int),ds=[.str t,.int kind,.int k8,.lst (xs.map D.int)]/\1<=t.length/\t.length<=4000/\xs.length=24/\Drawn xs/\∀u:G8,u.length<=4100->R (.str u)
abbrev nJ(V:Bx):Prop:=V.D 3 "_law_spoiled" mJ Dl
def Dm(T:V.T "_law_spoiled" io mJ)(uA:V.m "len")(IZ:nI V):nJ V:=by
 refine Tx.okDW T sc__law_spoiled (λds R h=>?_) (λf cdv A outer s H E J hr=>⟨_,((ai (am 4 sc__law_spoiled.nd (aw (aa 2) (cP uA (ac (aa 0) ae))))
   (ai (am 5 sc__law_spoiled.nd (aF IZ hr (ac (af (aa 3) ad) ae)))
   (ai (bj (aI (aa 1) ad) (ar (aC (aj (aj (bC (aa 0) bF (bv (aa 4))) (aa 5)) (bC (aa 0) (bv (aj (aa 4) ad)) bF)))) aU)
   (ai (bj (aI (aa 1) ad) (ar (aC (aj (aj (bC (aa 0) bF (bv (aa 4))) (aa 5)) (bC (aa 0) (bv (aa 4)) bF)))) aU)
   (ai (bj (aI (aa 1) ad) (ar (aC (aj (bC (aa 0) bF (bv (aa 4))) (bC (aa 0) (bv (aj (aa 4) ad)) bF)))) aU)
   (ai (bj (aI (aa 1) ad) (ar (aC (bC (aa 0) bF (bv (aa 4))))) aU)
   (ai (bj (aI (aa 1) ad) (ar (aC (aj (aa 0) (aa 5)))) aU)
   (ai (bj (aI (aa 1) ad) (ar (aC (aj (aj (aj (bC (aa 0) bF (bv (aa 4))) (bC (aa 0) (bv (aj (aa 4) ad)) (bv (aj (aa 4) ad)))) (af (aa 0) (aa 4))) (bC (aa 0) (bv (aj (aa 4) ad)) bF)))) aU)
   (ai (bj (aI (aa 1) ad) (ai (am 6 sc__law_spoiled.nd (aw (af (aa 3) ad) (cP uA (ac (aa 0) ae))))
    (ai (am 0 sc__law_spoiled.nd (aj (aj (bC (aa 0) bF (bv (aa 4))) (aa 5)) (bC (aa 0) (bv (aj (aa 4) ad)) bF)))
    (ar (aC (aj (aj (bC (aa 0) bF (bv (aa 6))) (aF IZ hr (ac (af (aa 3) ad) ae))) (bC (aa 0) (bv (aj (aa 6) ad)) bF)))))) aU)
   (ai (bj (aI (aa 1) ad) (ar (aC (jn (xr rfl (compScope (by change gA _ (ag io) ["_law_text","_law_kind","_law_place","_law_draws_here","_law_k","_law_sign_here","_law_other","_law_line","_law_lines_here"] _=true;decide+kernel)) (bC (aa 3) bF (bv (aw (af (aa 3) ad) ad))) (λcl s0 H0 fp=>(aF IZ hr (ac (aa 9) ae))))))) aU)
   (ai (bj (aI (aa 1) ad) (ai (am 7 sc__law_spoiled.nd (xR (af ak (aw (af (aa 3) ad) ad)) (aj ad (aw (af (aa 3) ad) ad))))
    (ai (BG 8 sc__law_spoiled.nd (aY (ac (aa 7) ae)) (aj ad (aw (af (aa 3) ad) ad)))
    (ai (BH 8 (aw (af (aa 3) ad) (xc 8 uA)) (bC ak bF (bv (aw (af (aa 3) ad) ad))))
    (fE 8 (ar (aC (aj (aj ak (jn (aa 8))) ak))))))) aU)
   (ar (aC (aa 0))))))))))))))),λds R h=>?_⟩)
 .obtain⟨_,_,_,_,rfl,_⟩:=h;rfl
 .obtain⟨t,kind,k8,xs,rfl,ID,hl,x1,hD,hR⟩:=h;have ax:∀k:Int,0<=k->k<24->atI (xs.map D.int) k=u5 (.int (cell xs k)):=λk h0 h1=>cA h0 HN;have a0:=ax 0 G_ G_;obtain⟨k,hk,OW⟩:∃k:Nat,k8%(t.length:Int)=(k:Int)/\k<t.length:=by
   have m1:=cb (a:=k8) (show(0:Int)<(t.length:Int)by lia);have m2:=ce (a:=k8) (show(0:Int)<(t.length:Int)by lia);exact#[(k8%(t.length:Int)).toNat,HN,HN]
  refine#[λx=>x=.int (k:Int),#[HN,HN,congrArg D.int hk],?_];rintro _ rfl;k_places;refine#[λx=>∃c:Nat,x=.str #[[c].toArray],#[_,a0,_,rfl,λc=>#[c,rfl]],?_];rintro _⟨c,rfl⟩;k_places;have c1:(#[[c].toArray]:G8).length=1:=rfl;have s1:=mM (y:=t) (k:=k);have s2:(Txt.slice t (u5 ((k:Int)+1)) A').length<=t.length-(k+1):=iq (k:=k+1);have s3:=iq (y:=t) (k:=k);refine ite2 (λ_=>?_) (λ_=>ite2 (λ_=>?_) (λ_=>ite2 (λ_=>?_) (λ_=>ite2 (λ_=>?_) (λ_=>ite2 (λ_=>?_) (λ_=>ite2 (λ_=>?_) (λ_=>ite2 (λ_=>?_) (λ_=>ite2 (λ_=>?_) (λ_=>ite2 (λ_=>?_) (λ_=>hR t HN)))))))))
  .refine#[HN,?_,HN,?_,hR _ ?_]
   .rw[c1];lia
   .rw[aq,c1];lia
   .rw[aq,aq,c1];lia
  .refine#[HN,?_,HN,?_,hR _ ?_]
   .rw[c1];lia
   .rw[aq,c1];lia
   .rw[aq,aq,c1];lia
  .refine#[HN,HN,?_,hR _ ?_]
   .lia
   .rw[aq];lia
  .exact#[HN,hR _ HN]
  .refine#[?_,hR _ ?_]
   .rw[c1];lia
   .rw[aq,c1];lia
  .obtain⟨c',t_⟩:=ir (l:=cs t) (i:=(k:Int)) HN (by rw[bG];lia);have s4:(Txt.slice t (u5 ((k:Int)+1)) (u5 ((k:Int)+2))).length<=(k+2)-(k+1):=B8 (a:=k+1) (b:=k+2) HN;have s5:(Txt.slice t (u5 ((k:Int)+2)) A').length<=t.length-(k+2):=iq (k:=k+2);have c2:(#[[c'].toArray]:G8).length=1:=rfl;refine#[HN,HN,HN,c',#[HN,t_],?_,HN,?_,hR _ ?_]
   .rw[aq,c2];lia
   .rw[aq,aq,c2];lia
   .rw[aq,aq,aq,c2];lia
  .obtain⟨j,hj,Iy⟩:∃j:Nat,cell xs 1%(t.length:Int)=(j:Int)/\j<t.length:=by
    have m1:=cb (a:=cell xs 1) (show(0:Int)<(t.length:Int)by lia);have m2:=ce (a:=cell xs 1) (show(0:Int)<(t.length:Int)by lia);exact#[(cell xs 1%(t.length:Int)).toNat,HN,HN]
   refine#[λx=>x=.int (j:Int),#[_,ax 1 G_ G_,HN,HN,congrArg D.int hj],?_];rintro _ rfl;k_places;refine#[λx=>∃u:G8,x=.str u/\u.length<=t.length,#[HN,?_,HN,?_,_,rfl,?_],?_]
   .rw[c1];lia
   .rw[aq,c1];lia
   .rw[aq,aq,c1];lia
   rintro _⟨u,rfl,hu⟩;k_places;have u1:=mM (y:=u) (k:=j);have u2:(Txt.slice u (u5 ((j:Int)+1)) A').length<=u.length-(j+1):=iq (k:=j+1);refine#[HN,_,ax 2 G_ G_,_,rfl,λc'=>?_];have c2:(#[[c'].toArray]:G8).length=1:=rfl;refine#[?_,HN,?_,hR _ ?_]
   .rw[c2];lia
   .rw[aq,c2];lia
   .rw[aq,aq,c2];lia
  .have LX:∀(lo hi:Option Int) (d:D),d∈cutD (xs.map D.int) lo hi->∃n,d=.int n:=λlo hi d h=>by
    have:=FR (GL h);obtain⟨n,_,e⟩:=D1.mp this;exact#[n,e.symm]
   have cl:∀lo hi:Option Int,(cutD (xs.map D.int) lo hi).length<=24:=λlo hi=>by
    unfold cutD;rw[Ep,EN,DJ];lia
   refine#[_,ax 3 G_ G_,G_,Dy (cl _ _) G_,λk ys=>∃L:List G8,ys=L.map D.str/\L.length=k/\∀s∈L,s.length<=1,#[[],rfl,rfl,λ_ h=>nomatch h],?_,?_]
   .rintro k x ys hx _⟨L,rfl,hL,hs⟩;k_places;obtain⟨n,rfl⟩:=LX _ _ x (EM hx);refine#[n,rfl,λc'=>#[L++[#[[c'].toArray]],by rw[Ef];rfl,by rw[DB,hL];rfl,λs G1=>?_]];rcases D3.mp G1 with q|q
    .exact hs s q
    .rw[Ds.mp q];exact Dt 1
   .rintro ys hy⟨L,rfl,hL,hs⟩;k_places;have lL:=cl A' (u5 (cell xs 3%25));have j1:=iu hs;have j2:=sL (sep:="") hs;have e0:("":G8).length=0:=rfl;rw[e0]at j2;refine#[L,gR L,?_,hR _ ?_]
    .rw[e0];lia
    .lia
  .have d4:=hD.at 4;have d5:=hD.at 5;have d6:=hD.at 6;have d7:=hD.at 7;have d8:=hD.at 8;obtain⟨c',t_⟩:=ir (l:=cs ".123456") (i:=cell xs 4%7) HN (by rw[show(cs ".123456").length=7 from Hd];lia);refine#[λx=>∃u:G8,x=.str u/\u.length<=10,#[_,ax 4 G_ G_,G_,c',#[Hd,t_],_,ax 5 G_ G_,G_,#[HN,HN,?_],_,rfl,?_],?_]
   .show 1*_<=_;lia
   .rw[qE];show _*1<=_;lia
   rintro _⟨u,rfl,hu⟩;k_places;refine#[Hf,_,ax 6 G_ G_,G_,#[HN,HN,?_],?_]
   .show 1*_<=_;lia
   obtain⟨n,hn,n1,n2⟩:∃n:Nat,(1+cell xs 6%10).toNat=n/\1<=n/\n<=10:=#[_,rfl,HN,HN];have ef:(DG (1+cell xs 6%10).toNat [D.str u]).flatten=(DG n u).map D.str:=by
    rw[hn,List.flatten_replicate_singleton,List.map_replicate]
   rw[ef];obtain⟨L,eL,Pq,Nd⟩:∃L,DG n u=L/\L.length=n/\∀s∈L,s.length<=10:=#[_,rfl,FY,λs hs=>by rw[(List.mem_replicate.mp hs).2];exact hu];rw[eL];obtain⟨j,hj,Iy⟩:∃j:Nat,cell xs 7%((L.map D.str).length:Int)=(j:Int)/\j<L.length:=by
    rw[DJ];have m1:=cb (a:=cell xs 7) (show(0:Int)<(L.length:Int)by lia);have m2:=ce (a:=cell xs 7) (show(0:Int)<(L.length:Int)by lia);exact#[(cell xs 7%(L.length:Int)).toNat,HN,HN]
   have d_:(L.map D.str)[(cell xs 7%((L.map D.str).length:Int)).toNat]?=u5 (.str L[j]):=by
    rw[hj,EF,D4,DV Iy];rfl
   have Pr:=Nd _ (Eu Iy);have s6:(Txt.slice ".1" A' (u5 (cell xs 8%2))).length<=2:=Txt.slice_le ".1" _ _;refine#[_,ax 7 G_ G_,by rw[DJ];lia,L[j],by rw[hj];lia,d_,_,ax 8 G_ G_,G_,Hd,HN,?_];rw[hj,EF];generalize hw:L[j]++Txt.slice ".1" A' (u5 (cell xs 8%2))=w;have lw:w.length<=12:=by rw[<-hw,aq];lia
   have es:(L.map D.str).set j (.str w)=(L.set j w).map D.str:=List.map_set.symm;rw[es];have g6:∀s∈L.set j w,s.length<=12:=λs hs=>by
    rcases List.mem_or_eq_of_mem_set hs with q|q
    .have:=Nd s q;lia
    .rw[q];exact lw
   have C_:(L.set j w).length<=10:=by rw[Ej];lia
   have j1:=iu g6;have j2:=sL (sep:="/") g6;have e1:("/":G8).length=1:=rfl;have e2:("[":G8).length=1:=rfl;have e3:(";1,0;0,1]":G8).length=9:=rfl;rw[e1]at j2;refine#[_,gR _,?_,?_,?_,hR _ ?_]
   .rw[e1];lia
   .rw[e2];lia
   .rw[aq,e2,e3];lia
   .rw[aq,aq,e2,e3];lia
def Dn{fa:KF}{fd:PH}(F:Fun V.K "law" "law" ip fa fd)(uA:V.m "len")(LY:nj V)(uO:fV V)(uM:iw V)(JP:nH V)(LZ:nJ V)(HI:iM V):FnOk V.P V.w V.K V.mg V.base (Exc.CX1 V.P V.w) 21 fa fd mK (lSp V.K el):=by
 refine Fun.okDW F sc_law (λds R h=>?_) (λcdv A outer s H E J hr=>⟨_,((ai (am 1 sc_law.nd (af (aF LY hr (ac (aa 0) (ac ad ae))) ad))
   (ai (am 2 sc_law.nd (aF uO hr (ac (aa 0) (ac ad (ac ad ae)))))
   (ai (am 3 sc_law.nd (aF uM hr (ac (aa 0) (ac ad ae))))
   (ai (bj (jk (fB (aF JP hr (ac (aF LZ hr (ac (aa 1) (ac (aw (aF uM hr (ac (aa 0) (ac ad ae))) ad) (ac (aa 3) (ac (aa 2) ae))))) ae)))) (ar (aC ci)) aU)
   (ai (am 4 sc_law.nd (aw (aa 3) (aj (cP uA (ac (aa 1) ae)) ad)))
   (ai (ya 5 PassesOwn.never rfl sc_law.nd (qJ HI hr) (ar (bj (jk (fB (aF JP hr (ac (aj (aj (bC (aa 1) bF (bv (aa 4))) (aa 5)) (bC (aa 1) (bv (aj (aa 4) (aw (bt (aF uM hr (ac (aa 0) (ac ad ae))) ad) ad))) bF)) ae)))) (ar (aC ci)) aU)))
   (ar (aC ci))))))))),λds R h=>?_⟩)
 .obtain⟨ns,rfl,_⟩:=h;rfl
 .obtain⟨ns,rfl,hl,hR⟩:=h;refine#[λx=>∃p:Pat,x=.str p.text/\p.Ok,#[ns,3,rfl,G_,λp ok=>#[_,rfl,p,rfl,ok]],?_];rintro _⟨p,rfl,ok⟩;k_places;have pl:=Pat.text_short ok.wf ok.deep;have p1:1<=p.text.length:=by
   rw[AF];cases p<;>simp[Pat.tl,motL]
  refine#[λx=>∃xs:List Int,x=.lst (xs.map D.int)/\xs.length=24/\Drawn xs,#[ns,2,24,rfl,G_,G_,λxs h1 h2=>#[xs,rfl,h1,h2]],?_];rintro _⟨xs,rfl,hx,hD⟩;k_places;refine#[λx=>∃n:Int,x=.int n,#[ns,1,rfl,G_,_,rfl],?_];rintro _⟨n,rfl⟩;k_places;refine#[ns,0,rfl,G_,G_,p.text,_,n,xs,rfl,p1,HN,hx,hD,λu hu=>#[u,rfl,HN,iteF ?_]];obtain⟨k,hk,OW⟩:∃k:Nat,n%((p.text.length:Int)+1)=(k:Int)/\k<=p.text.length:=by
   have m1:=cb (a:=n) (show(0:Int)<(p.text.length:Int)+1 by lia);have m2:=ce (a:=n) (show(0:Int)<(p.text.length:Int)+1 by lia);exact#[(n%((p.text.length:Int)+1)).toNat,HN,HN]
  refine#[λx=>x=.int (k:Int),#[HN,HN,congrArg D.int hk],?_];rintro _ rfl;k_places;refine#[rfl,Hd,λ_ z=>∃o,z=[u5 (.rol (ns.map D.int)),u5 (.str p.text),u5 (.lst (xs.map D.int)),u5 (.int n),u5 (.int (k:Int)),o],#[_,rfl],?_,?_]
  .rintro i x z hi⟨o,rfl⟩;k_places;obtain⟨c,rfl⟩:∃c:Nat,x=.str ⟨[c].toArray⟩:=by
    obtain⟨c,_,e⟩:=D1.mp (EM hi);exact#[c,e.symm]
   have c1:(#[[c].toArray]:G8).length=1:=rfl;have s1:=mM (y:=p.text) (k:=k);have s2:=Txt.slice_le p.text (u5 ((k:Int)+cell ns 0/10%2)) A';refine#[HN,?_,ns,0,rfl,G_,#[G_,G_],G_,HN,?_,_,rfl,?_,iteF #[_,rfl]]
   .rw[c1];lia
   .rw[aq,c1];lia
   .rw[aq,aq,c1];lia
  .rintro z⟨o,rfl⟩;k_places;exact hR
end
local macro_rules | `(tactic| walk_at "b0") => `(tactic| exact B5 λ_ _ _ _ _ _ => rfl)
local macro_rules | `(tactic| walk_at "b1") => `(tactic| exact zk λ_ _ _ _ _ _ _ => rfl)
local macro_rules | `(tactic| walk_at "b2") => `(tactic| exact bind2 λ_ _ _ _ _ _ _ _ => rfl)
local macro_rules | `(tactic| walk_at "b3") => `(tactic| exact bind3 λ_ _ _ _ _ _ _ _ _ => rfl)
local macro_rules | `(tactic| walk_at "b4") => `(tactic| exact bind4 λ_ _ _ _ _ _ _ _ _ _ => rfl)
local macro_rules | `(tactic| walk_at "b5") => `(tactic| exact bind5 λ_ _ _ _ _ _ _ _ _ _ _ => rfl)
structure TopIn(K:Dr):Prop where
 uEC:FnIn K "_law_at" jS
 uFL:FnIn K "_law_draws" jU
 uDO:FnIn K "_law_lines" jW
 uFT:FnIn K "_law_shift_pair" jY
 uDP:FnIn K "_law_motif_text" kd
 uEM:FnIn K "_law_motif" kg
 uHD:FnIn K "_law_wrapped" gX
 uGH:FnIn K "_law_gcd" kj
 uGB:FnIn K "_law_on" ko
 uGS:FnIn K "_law_leaf_family" kr
 uFM:FnIn K "_law_in_family" ky
 uEZ:FnIn K "_law_both" kA
 uGK:FnIn K "_law_family" kC
 uFY:FnIn K "_law_over" kE
 uDI:FnIn K "_law_pattern" kG
 uEB:FnIn K "_law_begins" kI
 uFP:FnIn K "_law_goes_on" kK
 uDU:FnIn K "_law_takes" kM
 uEV:FnIn K "_law_wrong_place" kO
 uEH:FnIn K "line_from" kX
 uGZ:FnIn K "lines_from" kZ
 uEP:FnIn K "number_from" lh
 uGF:FnIn K "shift_from" lm
 uGM:FnIn K "levelled" lq
 uDQ:FnIn K "spread" lu
 uDZ:FnIn K "home" lx
 uET:FnIn K "hues_by_home" lz
 uDS:FnIn K "motif_from" lG
 uEI:FnIn K "over_from" gY
 uFZ:FnIn K "shifted_from" gZ
 uEJ:FnIn K "rehue_from" hU
 uDW:FnIn K "form_from" hV
 uGO:FnIn K "measure" mi
 uGW:FnIn K "met" ml
 uEA:FnIn K "mirrored" mn
 uGG:FnIn K "turned" mq
 uEO:FnIn K "read" mx
 uFJ:FnIn K "_law_whole" mz
 uGC:FnIn K "_law_fine" mC
 uGA:FnIn K "_law_all_signs" mF
 uES:FnIn K "_law_sign" mH
 uFN:FnIn K "_law_spoiled" io
 uFK:FnIn K "law" ip
 uFF:NnIn K "len"
 uEK:NnIn K "range"
 uDM:NnIn K "int"
 uFI:NnIn K "str"
 uFB:NnIn K "list"
 uHF:NnIn K "abs"
 uFU:NnIn K "max"
 uGE:NnIn K "enumerate"
 uEG:NnIn K "isinstance"
 uHJ:NnIn K "bool"
 uBA:ClIn K "Reading"
 uAX:ClIn K "Motif"
 uDE:ClIn K "Mirror"
 uCX:ClIn K "Turn"
 uCF:ClIn K "Over"
 uBD:ClIn K "Shifted"
 uBC:ClIn K "Rehue"
 uCC:ClIn K "Pattern"
 uEU:InIn K "Motif" "Motif.__init__" lD
 uFH:InIn K "Mirror" "Mirror.__init__" lJ
 uGU:InIn K "Turn" "Turn.__init__" lM
 uGJ:InIn K "Over" "Over.__init__" lP
 uDN:InIn K "Shifted" "Shifted.__init__" lR
 uHC:InIn K "Rehue" "Rehue.__init__" lV
 uDJ:InIn K "Reading" "Reading.__init__" lY
 uDT:InIn K "Pattern" "Pattern.__init__" ma
 uGI:MtIn K "Reading" "may_take" "Reading.may_take" kS
 uFX:MtIn K "Reading" "take" "Reading.take" kU
 uHI:MtIn K "Motif" "family" "Motif.family" hZ
 uDK:MtIn K "Over" "family" "Over.family" ia
 uDL:MtIn K "Shifted" "family" "Shifted.family" ic
 uGL:MtIn K "Mirror" "family" "Mirror.family" ig
 uGT:MtIn K "Turn" "family" "Turn.family" ij
 uFC:MtIn K "Rehue" "family" "Rehue.family" il
 uDR:NoIn K "Reading" "text"
 uEQ:NoIn K "Reading" "place"
 uGP:NoIn K "Motif" "place"
 uFD:NoIn K "Motif" "shifts"
 uFQ:NoIn K "Motif" "hues"
 uFV:NoIn K "Mirror" "form"
 uGX:NoIn K "Turn" "form"
 uGD:NoIn K "Over" "above"
 uEN:NoIn K "Over" "below"
 uEL:NoIn K "Shifted" "form"
 uEE:NoIn K "Shifted" "x"
 uER:NoIn K "Shifted" "y"
 uFR:NoIn K "Rehue" "form"
 uEX:NoIn K "Rehue" "old"
 uGV:NoIn K "Rehue" "new"
 uEF:NoIn K "Pattern" "text"
 uEW:NoIn K "Pattern" "shifts"
 uFA:NoIn K "Pattern" "form"
 uHA:CsIn K "SIGNS" ".123456"
 uHE:CiIn K "LONGEST" 8
 uFO:CiIn K "DEEP" 5
 uDV:CiIn K "MOST" 720
 eb:EbIn K
 uL:E1In K "WrongSign" "WrongSign.__init__" kQ
 uAB:EaIn K "WrongSign"
 uDG:NoIn K "WrongSign" "place"
 uFG:EgIn K "WrongSign"
 uQ:E1In K "OneLine" "OneLine.__init__" me
 uAA:EaIn K "OneLine"
 uDA:NoIn K "OneLine" "place"
 uGY:EgIn K "OneLine"
 uDC:E0In K "TooGreat"
 uDY:EiIn K "MotifError"
 uHG:EmIn K "WrongSign" "WrongSign"
 uHB:EmIn K "WrongSign" "OneLine"
 uGQ:EmIn K "WrongSign" "TooGreat"
 uFE:EmIn K "OneLine" "WrongSign"
 uFS:EmIn K "OneLine" "OneLine"
 uGN:EmIn K "OneLine" "TooGreat"
 uGR:EmIn K "TooGreat" "WrongSign"
 uFW:EmIn K "TooGreat" "OneLine"
 uEY:EmIn K "TooGreat" "TooGreat"
def Do{V:Bx}{h:Heap}(t:TopIn V.K)(X:V.K.In h)(G:h.Ns Os V.mg){fa:KF}{fd:PH}(F:Fun V.K "law" "law" ip fa fd):FnOk V.P V.w V.K V.mg V.base (Exc.CX1 V.P V.w) 21 fa fd mK (lSp V.K el):=by
 have uA:=mg_none_of X G t.uFF;have uH:=mg_none_of X G t.uEK;have uC:=mg_none_of X G t.uDM;have uJ:=mg_none_of X G t.uFI;have uI:=mg_none_of X G t.uFB;have uN:=mg_none_of X G t.uHF;have JD:=mg_none_of X G t.uFU;have JN:=mg_none_of X G t.uGE;have JO:=mg_none_of X G t.uEG;have LR:=mg_none_of X G t.uHJ;have uT:=t.uBA.a t.uDR;have uD:=t.uBA.a t.uEQ;have uS:=t.uAX.a t.uGP;have uK:=t.uAX.a t.uFD;have Ls:=t.uAX.a t.uFQ;have uV:=t.uDE.a t.uFV;have uY:=t.uCX.a t.uGX;have uX:=t.uCF.a t.uGD;have uU:=t.uCF.a t.uEN;have uW:=t.uBD.a t.uEL;have Ly:=t.uBD.a t.uEE;have Lz:=t.uBD.a t.uER;have uR:=t.uBC.a t.uFR;have LA:=t.uBC.a t.uEX;have LB:=t.uBC.a t.uGV;have LH:=t.uCC.a t.uEF;have LI:=t.uCC.a t.uEW;have LJ:=t.uCC.a t.uFA;have uZ:=t.uHA.g X G;have JL:=t.uHE.g X G;have IN:=t.uFO.g X G;have LM:=t.uDV.g X G;have uAB:=t.uL.a t.eb t.uAB X G;have Lk:=t.uDG.all;have uAA:=t.uQ.a t.eb t.uAA X G;have LK:=t.uDA.all;have LP:=t.uDC.k t.eb X G;have HF:=t.uDY.b X G;have LW:V.x "place" ["WrongSign","OneLine"]:=AllP.mem #[t.uFG.g uAB t.uDG,t.uGY.g uAA t.uDA,trivial];have ek:sO V:=zl #[(t.uL.c t.eb X G),(t.uQ.c t.eb X G),(let ⟨C,N,bm,k,_⟩:=t.uDC.k t.eb X G;#[C,N,bm,k]),trivial] #[#[t.uHG,t.uHB,t.uGQ,trivial],#[t.uFE,t.uFS,t.uGN,trivial],#[t.uGR,t.uFW,t.uEY,trivial],trivial];have uM:iw V:=B9 (t.uEC.tx X G L8) uA;have uO:fV V:=Ca (t.uFL.tx X G (by walk_at "b3")) uH uM;have KZ:mN V:=Cb (t.uDO.tx X G Mm) uH uA;have K0:mO V:=Cd (t.uFT.tx X G Mm) uC;have K1:mQ V:=Ce (t.uDP.tx X G (by walk_at "b3")) uJ;have JG:mR V:=Cf (t.uEM.tx X G L8) uO KZ K0 K1;have JH:mU V:=Cg (t.uHD.tx X G L8) uJ uI uC;have HD:iy V:=Ch (t.uGH.tx X G L8) uN;have K_:mV V:=Ci (t.uGB.tx X G (by walk_at "b4"));have JC:mW V:=Cj (t.uGS.tx X G Mm) uN HD K_;have La:mY V:=Ck (t.uFM.tx X G (by walk_at "b3"));have Le:mZ V:=Cl (t.uEZ.tx X G L8) HD La;have Lf:ng V:=Cm (t.uGK.tx X G Mm) JC Le;have JI:nh V:=Cn (t.uFY.tx X G L8) JD Lf;have LY:nj V:=Co (t.uDI.tx X G L8) uH uO JG JH JI;have Lh:nn V:=Cq (t.uEB.tx X G (by walk_at "b3"));have Li:nq V:=Cs (t.uFP.tx X G (by walk_at "b5")) uI uC;have Lj:nt V:=Cu (t.uDU.tx X G L8) uI Lh Li;have LS:nu V:=Cy (t.uEV.tx X G Mm) uH uA uI Lj;have uL:iz V:=Cz (t.uL.txe t.eb X G L8) HF uAB Lk;have uF:df V:=CA (t.uGI.txm t.uBA L8) uA uT uD;have uB:cG V:=CB (t.uFX.txm t.uBA L8) uD uF uL;have JK:nv V:=CC (t.uEH.tx X G (by walk_at "b3")) uH uZ uB uF;have Lu:nw V:=CD (t.uGZ.tx X G Mm) uA JK JL uF;have JM:ny V:=CF (t.uEP.tx X G Mm) uC uF uB;have uP:fW V:=CG (t.uGF.tx X G Mm) JM uB;have HG:iA V:=CH (t.uGM.tx X G L8);have HH:iB V:=CI (t.uDQ.tx X G L8) uN HG;have Lo:nz V:=CJ (t.uDZ.tx X G (by walk_at "b3"));have Lr:nA V:=CK (t.uET.tx X G L8) JN Lo uZ;have Lv:nB V:=CL (t.uEU.txi X G (by walk_at "b5")) HH Lr uS uK Ls;have IM:iC V:=CM (t.uDS.tx X G Mm) Lu uP uD Lv uB;have IP:iD V:=CN (t.uFH.txi X G L8) uV;have IQ:iE V:=CO (t.uGU.txi X G L8) uY;have IJ:iF V:=CP (t.uGJ.txi X G (by walk_at "b3")) uX uU;have IK:iG V:=CQ (t.uDN.txi X G (by walk_at "b4")) uW Ly Lz;have IL:iH V:=CS (t.uHC.txi X G (by walk_at "b4")) uR LA LB;have uG:sM V:=CY (t.uEI.tx X G L8) (t.uFZ.tx X G L8) (t.uEJ.tx X G L8) (t.uDW.tx X G L8) IJ uB uP IK uC IL IM IN IP IQ uF 6;have LN:nC V:=CZ (t.uDJ.txi X G L8) uT uD;have LO:nD V:=C0 (t.uDT.txi X G (by walk_at "b4")) LH LI LJ;have uQ:iI V:=C1 (t.uQ.txe t.eb X G L8) HF uAA LK;have IS:nE V:=C3 (t.uGO.tx X G L8) HG;have IT:iJ V:=C4 (t.uGW.tx X G L8) IS;have IU:iK V:=C5 (t.uEA.tx X G Mm);have IV:iL V:=C6 (t.uGG.tx X G Mm) HH;have uE:sN V:=Dc (t.uHI.txm t.uAX Mm) (t.uDK.txm t.uCF Mm) (t.uDL.txm t.uBD Mm) (t.uGL.txm t.uDE Mm) (t.uGT.txm t.uCX Mm) (t.uFC.txm t.uBC Mm) uK uS uQ IT uX uU uW IU uV IV uY uR 6;have LU:nF V:=Dd (t.uEO.tx X G Mm) uA uG LM uD LN LO uE uL LP;have LV:nG V:=De (t.uFJ.tx X G Mm) JO LR uC;have JP:nH V:=Dg (t.uGC.tx X G Mm) LS LU LV LW ek;have HI:iM V:=Di (t.uGA.tx X G (by walk_at "b0"));have IZ:nI V:=Dk (t.uES.tx X G Mm) HI;have LZ:nJ V:=Dm (t.uFN.tx X G (by walk_at "b4")) uA IZ;exact Dn F uA LY uO uM JP LZ HI
def all_mk{l:Fx}{w:Pz}{K:Dr}{h:Heap}{mg:G8->Option GT}{fa:KF}(X:K.In h)(G:h.Ns Os mg)(Ie:mg "law"=u5 (.ref fa))(t:TopIn K):
  ∃fd:PH,(∀(s:KB) (v:GT),QF s fd #[[v],[]] [("_law_script",v)])/\∀base:Heap,K.In base->base.Ns Os mg->FnOk l.prog w K mg base (Exc.CX1 l.prog w) 21 fa fd ["_law_script"] (lSp K el):=by
 obtain⟨fd,b,F⟩:=t.uFK.law X G Ie (λ_ _ _ _ _ _ _=>rfl);exact#[fd,b,λbase _ _=>Do (V:=#[l.prog,w,K,mg,base]) t X G F]
def law_walk{l:Fx}{q:Pw}{j_:List G8}{XP:(G8->Option GT)->Heap->Prop}{YP:Pz->Heap->Prop}{d:DefRec}{K:Params->Dr}(hn:l.most=u5 63)(HS:d.params.defaults=[])
  (hY:∀(w:Pz) (h:Heap),YP w h->(K w.params).In h)
  (F:∀(w:Pz) (mg:G8->Option GT) (fa:KF) (h:Heap),(K w.params).In h->h.Ns Os mg->mg d.name=u5 (.ref fa)->
   ∃fd:PH,(∀(s:KB) (u:GT),QF s fd #[[u],[]] [("_law_script",u)])/\∀base:Heap,(K w.params).In base->base.Ns Os mg->FnOk l.prog w (K w.params) mg base (Exc.CX1 l.prog w) 21 fa fd ["_law_script"] (lSp (K w.params) el)):
  F7 q j_ XP YP l.row.toRowW d [] (λf vs=>PySem.call f vs):=
 L2.walk_of (n:=63) (k:=21) (x:="_law_script") (CX:=λw=>Exc.CX1 l.prog w) (sp:=λw=>lSp (K w.params) el) hn G_ HS #[rfl,G_,G_] hY F (λ_ _ a ns hl _ hS=>wU hl hS) λ_ _ _ _ _ h=>by obtain⟨_,_,_,_,_,_,_,_,_,_,_,_,_,_,_,z⟩:=h;exact z
end My
open PySem PySem.W PyProof.Rows
set_option maxRecDepth 100000 in
set_option maxHeartbeats 0 in
theorem PySem.Challenge.cw_motiffield_k07_first_wrong_sign_holds : PySem.Challenge.rw_motiffield_k07_first_wrong_sign.Holds := by
  w_on;o_law;k_head;(case hw =>w_witness2)
  k_fill
  refine My.law_walk (l :=PySem.Challenge.rw_motiffield_k07_first_wrong_sign) rfl rfl (λw h Y =>kIn_of Y) ?F
  case F =>
    intro w mg fa h KX G n9;refine My.all_mk KX G n9 ?_;constructor
    all_goals first|((with_reducible refine' My.fnIn_mk ?a ?l ?c ?k);(case a =>k_is);(case l =>k_is);(case c =>k_is);(case k =>k_is))|((with_reducible refine' My.nnIn_mk ?a);(case a =>k_is))|((with_reducible refine' My.noIn_mk ?a ?b);(case a =>k_is);(case b =>k_is))|((with_reducible refine' My.mtIn_mk ?a ?b ?i ?l ?c ?k);(case a =>k_is);(case b =>k_is);(case i =>k_is);(case l =>k_is);(case c =>k_is);(case k =>k_is))|((with_reducible refine' My.inIn_mk ?a ?mk ?b ?i ?kp ?l ?c ?k);(case a =>k_is);(case mk =>k_is);(case b =>k_is);(case i =>k_is);(case kp =>k_is);(case l =>k_is);(case c =>k_is);(case k =>k_is))|((with_reducible refine' My.clIn_mk ?a ?pg ?hd ?po ?sa ?ha ?hn ?ht ?hm);(case a =>k_is);(case pg =>k_is);(case hd =>k_is);(case po =>k_is);(case sa =>k_is);(case ha =>k_is);(case hn =>k_is);(case ht =>k_is);(case hm =>k_is))|((with_reducible refine' My.ciIn_mk ?a);(case a =>k_is))|((with_reducible refine' My.csIn_mk ?a);(case a =>k_is))|((with_reducible refine' My.ebIn_mk ?a ?kp ?o ?nk ?al ?ni);(case a =>k_is);(case kp =>k_is);(case o =>k_is);(case nk =>k_is);(case al =>rfl);(case ni =>k_is))|((with_reducible refine' My.e0In_mk ?b ?a ?kp ?o ?nk ?al ?ni);(case b =>k_is);(case a =>k_is);(case kp =>k_is);(case o =>k_is);(case nk =>k_is);(case al =>rfl);(case ni =>k_is))|((with_reducible refine' My.e1In_mk ?b ?a ?kp ?o ?j ?i ?l ?c ?k);(case b =>k_is);(case a =>k_is);(case kp =>k_is);(case o =>k_is);(case j =>k_is);(case i =>k_is);(case l =>k_is);(case c =>k_is);(case k =>k_is))|((with_reducible refine' My.eaIn_mk ?a ?b);(case a =>k_is);(case b =>k_is))|((with_reducible refine' My.egIn_mk ?a ?b ?c);(case a =>k_is);(case b =>k_is);(case c =>k_is))|((with_reducible refine' My.eiIn_mk ?a ?b ?c ?d);(case a =>k_is);(case b =>k_is);(case c =>k_is);(case d =>k_is))|((with_reducible refine' My.emIn_mkT ?e ?a ?c ?d);(case e =>decide);(case a =>k_is);(case c =>k_is);(case d =>k_is))|((with_reducible refine' My.emIn_mkF ?e ?a ?c ?d);(case e =>decide);(case a =>k_is);(case c =>k_is);(case d =>k_is))
end
