import PyProof.Rows.All
import Wide.All
import OpenK.AllK
import Wide.FinOn
import Lean
import PyProof.EqAt
import PyProof.EqKinds
import PyProof.TupleCall
import PySem.Challenge.RW_motiffield_k16_too_far
set_option compiler.extract_closed false
set_option Elab.async false
set_option linter.all false
set_option maxRecDepth 100000
set_option maxHeartbeats 4000000
local macro_rules|`(command|def $x:declId $s:optDeclSig $v:declVal)=>`(command|noncomputable def $x:declId $s:optDeclSig $v:declVal)
local macro_rules|`(command|abbrev $x:declId $s:optDeclSig $v:declVal)=>`(command|noncomputable abbrev $x:declId $s:optDeclSig $v:declVal)
local macro_rules|`(#[$x,*])=>`(⟨$x,*⟩)
theorem Ig{p:Prop}(h:p:=by lia):p:=h
theorem Ik{p:Prop}(h:p:=by decide):p:=h
theorem Ip{p:Prop}(h:p:=by decide+kernel):p:=h
theorem Iq{p:Prop}(h:p:=by simp):p:=h
theorem Jo{p:Prop}(h:p:=by omega):p:=h
theorem Jv{p:Prop}(h:p:=by k_memK):p:=h
theorem Jw{p:Prop}(h:p:=by grind):p:=h
theorem JC{p:Prop}(h:p:=by rw[<-hY];rfl):p:=h
theorem JG{p:Prop}(h:p:=by cases d<;>first|exact#[_,rfl,h]|exact False.elim h):p:=h
theorem Ko{p:Prop}(h:p:=by walk_at "b2"):p:=h
theorem KK{p:Prop}(h:p:=by walk_at "b1"):p:=h
theorem K_{p:Prop}(h:p:=by show(1:Nat)<=1000;decide):p:=h
theorem LZ{p:Prop}(h:p:=by walk_at "b3"):p:=h
theorem MX{p:Prop}(h:p:=by rw[au (El (fI b hb))];exact(f1 b hb).1):p:=h
theorem M9{p:Prop}(h:p:=by show(3:Nat)<=1000;decide):p:=h
theorem Pl{p:Prop}(h:p:=by simp;lia):p:=h
open PySem renaming Str->E_
open Option renaming some->be,none->p7
open PySem renaming Value->KB,Shared->KF,Addr->KM,wpAny_bind->Os,mainGlobals->Pi,model->PU,Expr->PV,wpAny_pure->PX,wpAny->PY,Program->PZ,Stmt->P0,starEach->P1,World->P2,Around->P3,Heap->P4,assignEach->P5,attributeBase->P6,eval->P7,wpAny_mono->P8,FuncData->P9,compareOp->P',wpAny_newObj_type->P_,Pos->Qa,wpAny_Call_Name_kw->Qb,Obj->Qc,bootBuiltins->Qd,swapsWith->Qf,wpAny_truthy_bool->Qg,binaryOp->Qh,wpAny_holding->Qi,ExceptHandler->Qj,Scope->Qk,PassesOwn->Ql,wpAny_passesOwn->Qm,wpAny_standAt->Qn,behindInMarks->Qo,wpAny_field->Qp,sysModules->Qq,wpAny_getItem_str_slice->Qr,excClassObj->Qt,holding->Qu,noteFrame->Qv,assign->Qw,swapsWithSole->Qx,swappedStores->Qy,sliceBounds->Qz,bindArgs->QA,NameKind->QB,wpAny_execs_nil->QC,rawInt->QD,letOwnedTupleGo->QE,wpAny_setField->QF,wpAny_pyIter_enum->QG,wpAny_loadPart_at->QH,wpAny_assign_Name->QI,codeAny->QJ,wpAny_comprehension_free->QL,backTo->QM,Env->QN,tupleKind->QO,setFlight->QP,codeAny_mono->QQ,codeAny_compStart_list->QR,post_val_or_str->QS,wpAny_newFunctionEnv->QT,compEnvC->QU,standAt->QV,wpAny_isSubtype_exc->QW,cLine->QX,wpAny_call->QY,callerA->Q0,BindsTo->Q1,IsPart->Q2,ClassData->Q3,sizeLine_eq->Q4,keywordEach->Q5,atKey->Q6,valueAt->Q7,getItem->Q8,wpAny_letOwnedTupleGo_enum->Q9,handleBy->Q_,dictSetDefault->Ra,compPost->Rb,bindName->Rc,Operator->Re,assignInOrder->Rf,getMethod->Rg,bindL->Rh,bindC->Ri,Model->Rj,CmpOp->Rk,setItem->Rm,seqIndex_neg->Rn,leaving->Ro,call_meetsIn->Rp,Result->Rq,wpAny_of_eq->Rt,seqIndex_of->Ru,lookup_relabel_local->Rv,backToKw->Rw,Sem->Rx,wpAny_rule->Ry,wpAny_entryPlaceOf->Rz,wpAny_Name->RA,typeIs_str->RB,tupleKind_room_in1->RC,call_meets->RD,builtinsNs->RE,wpAny_frameOf_fun->RF,release->RG,relabel->RH,foldedSetIterable->RI,Keyword->RK
open PyProof.Rows renaming envOfC->Qe,AllBare->QK,assignInOrder_cons->QZ,subscriptTail_builtinR->Rl,IntsAre->Rr,assignInOrder_nil->RJ
open PySem.W renaming Frag->Ef,findIn->Ey,mroIn->ES,specialIn->FC,takesIn->FD,OpenLaw->Gi,WalkO->GM,clsIn->GT
open Nat renaming le_refl->Eg,ne_of_lt->El,le_trans->Eo,lt_of_lt_of_le->EF,zero_le->EI,ne_of_gt->E3,pow_succ->Fd,lt_irrefl->Ff,le_succ->Fn,lt_or_ge->Fq,mul_le_mul->Fv,pow_le_pow_right->Fy,lt_succ_of_lt->FI,min_eq_left->FP,le_of_lt->FR,le_of_eq->FV,le_of_not_lt->FY,add_le_add->F8,pow_pos->Gc,min_eq_right->Gd,add_comm->Gv,not_lt_zero->Gx,lt_succ_self->GI,lt_of_le_of_lt->GN,lt_trans->GO,log2_lt->GQ,succ_ne_self->GY,le_max_left->G8,le_max_right->G9,pow_add->Ha,add_sub_cancel->Hf,mod_eq_of_lt->Hm,zero_add->Hr,mul_succ->Hs
open List renaming mem_singleton->Eh,mem_cons->Ei,range->Ej,mem_cons_of_mem->Em,length_map->En,mem_cons_self->Ep,size_toArray->Er,mem_append_right->Es,getElem?_map->Et,getElem?_set_ne->Eu,getElem?_eq_some_iff->Ev,length_cons->Ex,lookup_cons->Ez,getElem?_eq_getElem->EA,set_cons_succ->EC,set_cons_zero->EE,length_append->EG,map_cons->EJ,mem_map->EN,mem_append->EO,getElem_mem->EQ,getElem?_set_self->EU,replicate->EV,getElem?_append_left->EW,all_cons->EY,getD->EZ,map_append->E1,mem_append_left->E2,append_nil->E4,getElem?_eq_none->E5,getElem?_range->E8,nodup_cons->E9,length_set->Fb,all_eq_true->Fc,append_assoc->Fe,lookup->Fg,getElem?_append_right->Fh,getElem?_set->Fi,drop_eq_getElem_cons->Fl,map_nil->Fo,find?_cons->Fp,map_map->Fx,length_take->FE,length_drop->FF,ext_getElem?->FH,map_congr_left->FJ,take_of_length_le->FK,nodup_append->FL,not_mem_nil->FM,length_range->FN,filterMap_cons->FS,mem_of_getElem?->FW,any_cons->FX,range_succ->F6,findIdx_cons->F7,take_length->Ga,countP_cons->Ge,of_mem_zip->Gf,length->Gg,getElem?_replicate->Gh,contains_cons->Gj,forIn_cons->Gk,drop->Gm,drop_of_length_le->GA,drop_eq_nil_of_le->GE,mem_filter->GF,mem_filterMap->GH,getElem?_take_of_lt->GJ,filterMap_map->GK,nodup_nil->GP,getElem_toArray->GS,take_succ->GV,dropLast_cons₂->GX,eq_nil_of_length_eq_zero->GZ,drop_zero->Hn,mem_of_mem_drop->Ht,take_append_drop->Hu,drop_length->Hv
open Bool renaming false_ne_true->Ew,and_eq_true->EH,eq_false_iff->EM,eq_iff_iff->FU,or_true->FZ
open Int renaming mul_pos->EB,mul_comm->EK,mul_le_mul_of_nonneg_right->EL,mul_ediv_cancel->ER,toNat_of_nonneg->ET,natAbs_mul->E6,le_trans->E7,emod_def->Fj,mul_nonpos_of_nonpos_of_nonneg->Fk,emod_nonneg->Ft,emod_lt_of_pos->Fu,eq_of_mul_eq_mul_right->Fw,emod_add_mul_ediv->Fz,toNat_natCast->FA,natCast_add->FO,add_zero->FQ,dvd_mul_of_dvd_right->F9,mul_neg->Gb,natAbs_add_le->Gn,mul_nonneg->Go,fmod_eq_zero_of_dvd->Gp,neg_mul->Gq,natAbs_neg->Gr,eq_of_mul_eq_mul_left->Gs,dvd_add->Gu,mul_eq_zero->Gw,sub_mul->Gy,add_mul->Gz,add_assoc->GB,ediv_nonneg->GC,ediv_le_self->GD,natAbs_eq_zero->GR,fmod_nonneg_of_pos->G0,fmod_lt_of_pos->G1,natAbs_sub_le->G2,mul_emod_left->G3,mul_le_mul_of_nonneg_left->G4,le_natAbs->G5,ofNat_le->G6,dvd_mul_of_dvd_left->G7,mul_fdiv_cancel_of_fmod_eq_zero->Hb,dvd_antisymm->Hc,zero_mul->Hd,add_mul_emod_self_right->Hi,add_mul_ediv_right->Hj,dvd_add_left->Hk,dvd_mul_right->Hl,natCast_emod->Ho,ediv_eq_zero_of_lt->Hq
open Option renaming bind_some->Fs,getD_none->GL
open Array renaming getElem?_eq_some_iff->FG,length_toList->FT,all_toList->GU,getElem?_eq_getElem->GW,toList_inj->Hg
open PySem.W (InitBack any_some bind_fn callWith_K callWith_K0 cellsFrom_some codeIn codeRec_of emptyDict eq_bytes findObj_own fnOf get_value handedIn hasDictIn hideAll hideAll_get hideAll_none hideAll_size instObj isFn isNs_of_in kIn_of keepIn ki_setAt ki_setBack kia_one kitCls kitOne kitx_bool kitx_dict kitx_float kitx_int kitx_list kitx_none kitx_own kitx_str kitx_tuple kun_itemsOf len_bytes lookIn looks_clsIn make_core makesIn makes_of methodCall_KW methodObj method_fn mg_none_of mg_of ne_bytes nsIn nsMap_none_of_in nsOkIn of_hideAll osa_open plainGet plainGet_of plainOver set_plain tailIn tail_of_in takerIn truthy_bytes typeIn)
def qZ0(_:0=0:=by rfl):=0
nonrec def zA0:=qZ0._auto_1
def qZ1(_:0=0:=by decide):=0
nonrec def zA1:=qZ1._auto_1
def qZ2(_:0=0:=by exact λ_=>rfl):=0
nonrec def zA2:=qZ2._auto_1
def qZ3(_:0=0:=by first|exact .inl rfl|exact .inr rfl|assumption):=0
nonrec def zA3:=qZ3._auto_1
def qZ4(_:0=0:=by first|exact Or.inl rfl|exact Or.inr rfl):=0
nonrec def zA4:=qZ4._auto_1
def qZ5(_:0=0:=by first|exact Or.inl rfl|exact Or.inr (Or.inl rfl)|exact Or.inr (Or.inr rfl)):=0
nonrec def zA5:=qZ5._auto_1
def qZ6(_:0=0:=by exact λ_ _=>rfl):=0
nonrec def zA6:=qZ6._auto_1
def qZ7(_:0=0:=by intros;rfl):=0
nonrec def zA7:=qZ7._auto_1
def qZ8(_:0=0:=by with_unfolding_all rfl):=0
nonrec def zA8:=qZ8._auto_1
namespace PySem.W.Fast
def tw13164919043890879447:=Nat
def tw600959958248118603:=Nat
def tw1211044463327095220:=Nat
def tw12547826173567881008:=Nat
def tw18176005299024827360:=Nat
def tw13052431789362077003:=Nat
def tw11286595413307895681:=Nat
def tw8379839834273258289:=Nat
def tw13473764044351258079:=Nat
def tw16166748045637319343:=Nat
def tw557694448930463021:=Nat
def tw3023963803764304537:=Nat
def tw9805039976526279746:=Nat
def tw12550442598020962491:=Nat
def tw17811226835214591302:=Nat
def tw2563537628670374708:=Nat
def tw14433087858462294063:=Nat
def tw10379616656190861128:=Nat
def tw11292499465072088191:=Nat
def tw17835211893555956858:=Nat
def tw10998021078138631072:=Nat
def tw3519775581120975649:=Nat
def tw8029806870382456073:=Nat
def tw838236495290133576:=Nat
def tw13155370217360706161:=Nat
def tw17969683542016268143:=Nat
def tw9022222286625365397:=Nat
def tw14679031280030962162:=Nat
def tw7541511500765290728:=Nat
def tw8264380280748757814:=Nat
def tw10946315563339221487:=Nat
def tw17952361733320301097:=Nat
def tw17757399087886880619:=Nat
def tw3786411547026405144:=Nat
def tw15849049013426791264:=Nat
def tw4788523999818241291:=Nat
def tw588769480448860626:=Nat
def tw10825602513882563153:=Nat
def tw5819896953212215880:=Nat
def tw14704064484948403007:=Nat
def tw8022732171892667457:=Nat
def tw2093935226203786124:=Nat
def tw358569680502120102:=Nat
def tw8024921120695673403:=Nat
def tw13027262300388665860:=Nat
def tw14253401589713911409:=Nat
def tw14036565094082599268:=Nat
def tw8542672750322789558:=Nat
def tw4059391142390235046:=Nat
def tw8613569553210100113:=Nat
def tw8611304271153951587:=Nat
def tw8298336898123984316:=Nat
def tw13313178763873650316:=Nat
def tw9260785239587752172:=Nat
def tw14493795322741228393:=Nat
def tw17421875313754680113:=Nat
def tw2669132415992043334:=Nat
def tw2664441237590605066:=Nat
def tw7920444820128003162:=Nat
def tw18424826691640587592:=Nat
def tw13909689258150041727:=Nat
def tw14073679685974390407:=Nat
def tw12231082688527035629:=Nat
def tw16705431001100425707:=Nat
def tw225125556981006239:=Nat
def tw9028324617372923954:=Nat
def tw15413491796687605263:=Nat
def tw13882844854180575237:=Nat
def tw1360617245636334052:=Nat
def tw5873229588388089974:=Nat
def tw10658981901418730405:=Nat
def tw4123171065410150005:=Nat
def tw14069312447552054814:=Nat
def tw4731449020884582069:=Nat
def tw619176347524052682:=Nat
def tw14378797180076174868:=Nat
def tw15934370760751717283:=Nat
def tw12901679844540972415:=Nat
def tw16710109935614948161:=Nat
def tw10800083312542683797:=Nat
def tw9425718959895376787:=Nat
def tw17261935560120743538:=Nat
def tw2164143837200054631:=Nat
def tw17554069059121096240:=Nat
def tw1512745699002135057:=Nat
def tw16749466966061726587:=Nat
def tw1395554031869693782:=Nat
def tw9105947497385766174:=Nat
def tw4020053390616324295:=Nat
def tw7458333582592078891:=Nat
def tw109086791171214481:=Nat
def tw10698280050971827758:=Nat
def tw9306851896872262912:=Nat
def tw3756758632675068350:=Nat
def tw8226050466459054773:=Nat
def tw9904934817240733610:=Nat
def tw8074505727559592240:=Nat
def tw470797878068671747:=Nat
def tw2041754319826985673:=Nat
def tw7400570517347811689:=Nat
def tw10346615683345826102:=Nat
def tw1498163052415091099:=Nat
def tw11550970342544648984:=Nat
def tw10219734779433439912:=Nat
def tw16533284043746289270:=Nat
def tw16338546377474398281:=Nat
def tw14830115202637459918:=Nat
def tw17963523761266246274:=Nat
def tw16305003055342139324:=Nat
def tw18059131054002529449:=Nat
def tw3760840465836283663:=Nat
def tw8152323035890156582:=Nat
def tw8383724779002604585:=Nat
def tw18120481397205835682:=Nat
def tw1513046241550655678:=Nat
def tw15717410783912947630:=Nat
def tw9912684169197449880:=Nat
def tw6171125117245272640:=Nat
def tw7760292214793830376:=Nat
def tw14728462824208525371:=Nat
def tw12449639750538565545:=Nat
def tw2174526674051484815:=Nat
def tw11704666865342212232:=Nat
def tw14919150309588342159:=Nat
def tw6577198060193609755:=Nat
def tw6791523962752581972:=Nat
def tw10044453018349270317:=Nat
def tw13566701189385632151:=Nat
def tw7401874615024635912:=Nat
def tw7321591266817116062:=Nat
def tw4113491303782769552:=Nat
def tw11748563484351643854:=Nat
def tw1734430562772312346:=Nat
def tw4782133314070537004:=Nat
def tw17567524612496279608:=Nat
def tw10500636746185577289:=Nat
def tw7522950140254328023:=Nat
def tw656743888549988247:=Nat
def tw11679890816134989673:=Nat
def tw819896696480958951:=Nat
def tw14263707836951775220:=Nat
def tw5845227130061934639:=Nat
def tw4779630204100984208:=Nat
def tw3292355569603542992:=Nat
def tw5449524839885811361:=Nat
def tw13922144562334839554:=Nat
def tw16915692102268368580:=Nat
def tw6861335434390438912:=Nat
def tw16386490613737558197:=Nat
def tw9745049845391862971:=Nat
def tw14020707073385204045:=Nat
def tw9315126841374422795:=Nat
def tw8411992083296600474:=Nat
def tw11081716894777801327:=Nat
def tw8063363702712529648:=Nat
def tw12998963405060921904:=Nat
def tw13546049792177750447:=Nat
def tw11039632102767696035:=Nat
def tw3389731583047960603:=Nat
def tw7274924315042305602:=Nat
def tw2594791785840635824:=Nat
def tw3507297128678709760:=Nat
def tw3609598329824918818:=Nat
def tw12664126282768978463:=Nat
def tw12143036079308919001:=Nat
def tw2777936278443157304:=Nat
def tw6068437027932273937:=Nat
def tw1816987585572416224:=Nat
def tw13404548940840130264:=Nat
def tw5421904585602977485:=Nat
def tw1173110991480490803:=Nat
def tw8935164801256568293:=Nat
def tw14543115582490539213:=Nat
def tw15281333596307738911:=Nat
def tw12784001176049839023:=Nat
def tw940654988599808908:=Nat
def tw13294805289155833511:=Nat
def tw16739053702140849775:=Nat
def tw7804290435703674996:=Nat
def tw5259085604322104422:=Nat
def tw10075618496201618379:=Nat
def tw9121488132703259841:=Nat
def tw8350029538460188809:=Nat
def tw17870280073061781678:=Nat
def tw6986588321067709962:=Nat
def tw2200317584654093449:=Nat
def tw15833652127835919809:=Nat
def tw9410594356090931156:=Nat
def tw11797937174202787665:=Nat
def tw7172787444066791129:=Nat
def tw4957530874360617654:=Nat
def tw12685198393176501385:=Nat
def tw1461542336956212284:=Nat
def tw309656549783298374:=Nat
def tw5945256582293284934:=Nat
def tw15979471885733233733:=Nat
def tw16860005969160507081:=Nat
def tw12119442421973292221:=Nat
def tw12431279248187202763:=Nat
def tw15039981908732288098:=Nat
def tw3457784405153824336:=Nat
def tw11662182389386471600:=Nat
def tw9422285093732629158:=Nat
def tw17837151803108775182:=Nat
def tw15661723045461317162:=Nat
def tw6862092486230290613:=Nat
def tw9466604737576197593:=Nat
def tw5583452263293172349:=Nat
def tw2067104103052336471:=Nat
def tw4510406013750005036:=Nat
def tw351975295606038058:=Nat
def tw3932056288980788159:=Nat
def tw13404144083775101433:=Nat
def tw13187269571641876920:=Nat
def tw3312254366441446259:=Nat
def tw5649554975138142375:=Nat
def tw14652868853103880750:=Nat
def tw3167786018195147876:=Nat
def tw15501164077773022542:=Nat
def tw6657727123836321705:=Nat
def tw2644238876081271192:=Nat
def tw10231444230436936561:=Nat
def tw10537280464124223131:=Nat
def tw11255242076671805908:=Nat
def tw6580323920746943876:=Nat
def tw16722024969686791094:=Nat
def tw551309491685605430:=Nat
def tw15562514684755296145:=Nat
def tw13272471336068856276:=Nat
def tw9621016071610015016:=Nat
def tw10377673896367934657:=Nat
def tw11998338062951844560:=Nat
def tw17061705395922718464:=Nat
def tw17758675096487473773:=Nat
def tw7334553882761430324:=Nat
def tw11709721323631150336:=Nat
def tw9775099924384460053:=Nat
def tw2562791362269402556:=Nat
def tw5881125472740209969:=Nat
def tw7764792350343442842:=Nat
def tw12466514966963610558:=Nat
def tw11540781593551196534:=Nat
def tw9796503419758566638:=Nat
def tw14985712035241284918:=Nat
def tw3413053649699707551:=Nat
def tw2526681658176672017:=Nat
def tw16608577245983660149:=Nat
def tw15614643244053935073:=Nat
def tw15146112413563313323:=Nat
def tw10186555688768389567:=Nat
def tw6130077260592649702:=Nat
def tw2805878108621830126:=Nat
def tw7540830964915203659:=Nat
def tw17441238855396534225:=Nat
def tw14013427086360940608:=Nat
def tw2504319132871043964:=Nat
def tw4352097743413403266:=Nat
def tw4808369767774226392:=Nat
def tw16087685854288841861:=Nat
def tw9263831242421039280:=Nat
def tw6015072046087105080:=Nat
def tw6586556560923066493:=Nat
def tw5351682321303047891:=Nat
def tw13773204512985149282:=Nat
def tw15156522199030313670:=Nat
def tw7940143168817263733:=Nat
def tw8522977217389118658:=Nat
def tw12516225852058572851:=Nat
def tw12714952408368281019:=Nat
def tw68500307326546585:=Nat
def tw1685639975666436715:=Nat
def tw16680666413173786478:=Nat
def tw5889538853094975366:=Nat
def tw10260521898870373502:=Nat
def tw1017832383666849502:=Nat
def tw7073288122272076297:=Nat
def tw1509048056386793367:=Nat
def tw1041421464023900325:=Nat
def tw14304935753720586589:=Nat
def tw17954722288618238801:=Nat
def tw12862497942580203675:=Nat
def tw17638290805273276195:=Nat
def tw436824329686724622:=Nat
def tw2378070498625809008:=Nat
def tw14040601005343755263:=Nat
def tw6684561806361055914:=Nat
def tw184357370406021158:=Nat
def tw3487419864061957371:=Nat
def tw15997438503214718609:=Nat
def tw12088003430116697125:=Nat
def tw11009300551664511638:=Nat
def tw6910360993582044108:=Nat
def tw14862255190819019140:=Nat
def tw5707497270809957789:=Nat
def tw17882838011981508352:=Nat
def tw10132482487586100895:=Nat
def tw14336750568211743029:=Nat
def tw4246737560069778650:=Nat
def tw7433270060222208514:=Nat
def tw17897650681004437911:=Nat
def tw983520084958468671:=Nat
def tw12246232713725001494:=Nat
def tw4002013068039219267:=Nat
def tw3004706996531321325:=Nat
def tw17396928130505194888:=Nat
def tw3797077295408021006:=Nat
def tw8704653824280197938:=Nat
def tw9089061082383531310:=Nat
def tw2609617391122354371:=Nat
def tw6978268424199116097:=Nat
def tw17311392980722214274:=Nat
def tw3978938078431370467:=Nat
def tw11649129508442174618:=Nat
def tw10821993422791444509:=Nat
def tw2964702413382248611:=Nat
def tw13989727873895436741:=Nat
def tw9789556695133861261:=Nat
def tw4408344944776859615:=Nat
def tw18299883071409391098:=Nat
def tw10197104519210284367:=Nat
def tw586534806042588845:=Nat
def tw8171298947683564505:=Nat
def tw13812653772245659652:=Nat
def tw12832307619060748631:=Nat
def tw5322079906265819788:=Nat
def tw12033503054928599601:=Nat
def tw18274185528284313815:=Nat
def tw14560346722977837421:=Nat
def tw10723851967124169698:=Nat
def tw13456363461209392281:=Nat
def tw9186762441059053924:=Nat
def tw5511279513206124176:=Nat
def tw2131572413895808890:=Nat
def tw1055476779369777032:=Nat
def tw1591255067660551635:=Nat
def tw15020022164902146028:=Nat
def tw15034396423338788932:=Nat
def tw10583205817311667010:=Nat
def tw9967894824790309526:=Nat
def tw16110554315934831675:=Nat
def tw1049294897888368065:=Nat
def tw1913478141877969183:=Nat
def tw17505364688097060216:=Nat
def tw7941896648302208030:=Nat
def tw13866682705487498990:=Nat
def tw4928169626564027699:=Nat
def tw13139918893260737210:=Nat
def tw5472802509199513737:=Nat
def tw17975772955175795388:=Nat
def tw13565466038165599728:=Nat
def tw7042084426870379307:=Nat
def tw739593579868794150:=Nat
def tw7832498821740213645:=Nat
def tw2779090256280097107:=Nat
def tw11450025868345578219:=Nat
def tw15273894111923732699:=Nat
def tw13071616216741771310:=Nat
def tw12382920426205636244:=Nat
def tw8895060059656055251:=Nat
def tw11665905021600072662:=Nat
def tw14403955669824892977:=Nat
def tw17577989828748241946:=Nat
def tw8768401412767150671:=Nat
def tw11256587123623215987:=Nat
def tw14050141118613004887:=Nat
def tw9581484225302416191:=Nat
def tw10273249049451975072:=Nat
def tw12298109218629580750:=Nat
def tw8567422527785290107:=Nat
def tw16780366301089326160:=Nat
def tw47535324871319559:=Nat
def tw7957304850522618055:=Nat
def tw10476004934566381975:=Nat
def tw13519727528568545666:=Nat
def tw6606583400528099664:=Nat
def tw7658424482104635039:=Nat
def tw4501825911719628749:=Nat
def tw8474829448246319404:=Nat
def tw9743587055083359065:=Nat
def tw10341005475546899572:=Nat
def tw10140392958300167451:=Nat
def tw16455109910611203325:=Nat
def tw7473176424784602447:=Nat
def tw8719401573405396503:=Nat
def tw7982190870345833082:=Nat
def tw14741510741268871523:=Nat
def tw16955678476016263851:=Nat
def tw13017965838652607752:=Nat
def tw6351627185266761635:=Nat
def tw9804878950478032713:=Nat
def tw3214787785165831394:=Nat
def tw5378799528372990591:=Nat
def tw15416328781127901175:=Nat
def tw17941798362603777414:=Nat
def tw12525386245989448499:=Nat
def tw15786180820669649331:=Nat
def tw4222364951397140540:=Nat
def tw11778685792884962841:=Nat
def tw5133261313163698262:=Nat
def tw8596501392920172841:=Nat
def tw2229873571631692356:=Nat
def tw5556283107641560190:=Nat
def tw6230872453442847923:=Nat
def tw4850181671197115061:=Nat
def tw2179452492861594187:=Nat
def tw13513681431961171089:=Nat
def tw11110137958516943764:=Nat
def tw12393650587132496081:=Nat
def tw3278595959745375066:=Nat
def tw11136158023484906583:=Nat
def tw5736817462483756307:=Nat
def tw17753149452106821222:=Nat
def tw10485707403686472849:=Nat
def tw1123354962748928898:=Nat
def tw10862610733534871272:=Nat
def tw15242063888373670382:=Nat
def tw4421135240674743718:=Nat
def tw5833341767588683480:=Nat
def tw5907414102302092698:=Nat
def tw6072009609611067110:=Nat
def tw991384713609016274:=Nat
def tw4169335718297771561:=Nat
def tw9575578004185844191:=Nat
def tw16789044388470716340:=Nat
def tw2566362398829644396:=Nat
def tw7695242713830013146:=Nat
def tw9489634112324264437:=Nat
def tw16221332445297898916:=Nat
def tw16394102954894621520:=Nat
def tw4230086978870256497:=Nat
def tw12308447933736221315:=Nat
def tw122017189315419831:=Nat
def tw15932180108227200568:=Nat
def tw4987528291675014523:=Nat
def tw10411990881222678385:=Nat
def tw1907456617440228439:=Nat
def tw3160712953203109725:=Nat
def tw16467952020810529889:=Nat
def tw12249091959165210245:=Nat
def tw9120579833771138724:=Nat
def tw10521136002447890704:=Nat
def tw7406592661745452069:=Nat
def tw10098682400382901868:=Nat
def tw12485065945331186793:=Nat
def tw11109834567172755580:=Nat
def tw16695823462765544706:=Nat
def tw5486713930709112293:=Nat
def tw10966687786588020626:=Nat
def tw10023194097627348217:=Nat
end PySem.W.Fast
section
namespace L2
open PySem PySem.Spec PyProof.Rows
abbrev Key:=Sum Int E_
def dM:Key->KB->Bool
 |.inl k,v=>Value.isInt k v
 |.inr x,v=>Value.isStrOf x v
def keyH(w:P2):Key->Int
 |.inl k=>hashInt k
 |.inr x=>hashStr w x
def keyIs_shape:∀{k:Key} {v:KB},dM k v=true->(∃i t,k=Sum.inl i/\v=Value.int i t)\/(∃x t,k=Sum.inr x/\v=Value.str x t)
 |.inl i,v,h=>by
  obtain⟨t,e⟩:=Value.isInt_shape (k:=i) (v:=v) h;exact .inl #[i,t,rfl,e]
 |.inr x,v,h=>by
  obtain⟨t,e⟩:=Value.isStrOf_shape (x:=x) (v:=v) h;exact .inr #[x,t,rfl,e]
def tf(i:Int)(t:Tok):dM (.inl i) (.int i t)=true:=by simp[dM,Value.isInt]
def tm(x:E_)(t:Tok):dM (.inr x) (.str x t)=true:=by simp[dM,Value.isStrOf]
def tw(a b:Int):decide ((Sum.inl a:Key)=Sum.inl b)=(a==b):=by
 by_cases e:a=b
 .subst e;simp
 .have h:¬(Sum.inl a:Key)=Sum.inl b:=λq=>e (Sum.inl.inj q);rw[decide_eq_false h];exact(beq_eq_false_iff_ne.mpr e).symm
def tz(a b:E_):decide ((Sum.inr a:Key)=Sum.inr b)=decide (a=b):=by
 by_cases e:a=b
 .subst e;simp
 .have h:¬(Sum.inr a:Key)=Sum.inr b:=λq=>e (Sum.inr.inj q);rw[decide_eq_false h,decide_eq_false e]
def tD(a:Int)(b:E_):decide ((Sum.inl a:Key)=Sum.inr b)=false:=decide_eq_false (λq=>nomatch q)
def tE(a:E_)(b:Int):decide ((Sum.inr a:Key)=Sum.inl b)=false:=decide_eq_false (λq=>nomatch q)
def bx(prog:PZ)(w:P2):PySem.KeyKind prog w Key where
 is:=dM
 hash:=keyH w
 inj:=λv a b ha hb=>by
  rcases keyIs_shape ha with⟨i,t,rfl,rfl⟩|⟨x,t,rfl,rfl⟩
  .rcases keyIs_shape hb with⟨j,u,rfl,e⟩|⟨y,u,rfl,e⟩
   .injection e with e1 _;rw[e1]
   .exact nomatch e
  .rcases keyIs_shape hb with⟨j,u,rfl,e⟩|⟨y,u,rfl,e⟩
   .exact nomatch e
   .injection e with e1 _;rw[e1]
 byValue:=λk v h=>by
  rcases keyIs_shape h with⟨i,t,rfl,rfl⟩|⟨x,t,rfl,rfl⟩<;>rfl
 pyHash:=λhv h=>by
  rcases keyIs_shape hv with⟨i,t,rfl,rfl⟩|⟨x,t,rfl,rfl⟩
  .exact wpAny_pyHash_int h
  .exact wpAny_pyHash_str h
 eqBool:=λhu hv h=>by
  rcases keyIs_shape hu with⟨i,t,rfl,rfl⟩|⟨x,t,rfl,rfl⟩
  .rcases keyIs_shape hv with⟨j,u,rfl,rfl⟩|⟨y,u,rfl,rfl⟩
   .rw[tw]at h;exact wpAny_eqBool_int h
   .rw[tD]at h;exact SeqAt.EqAt.int_str i t y u _ _ _ _ h
  .rcases keyIs_shape hv with⟨j,u,rfl,rfl⟩|⟨y,u,rfl,rfl⟩
   .rw[tE]at h;exact SeqAt.EqAt.str_int x t j u _ _ _ _ h
   .rw[tz]at h;exact wpAny_eqBool_str h
 «strs»:=λk x t v h=>by
  rcases keyIs_shape h with⟨i,u,rfl,e⟩|⟨y,u,rfl,e⟩
  .exact nomatch e
  .injection e with e1 _;subst e1;cases v<;>rfl
def mixKind_int(prog:PZ)(w:P2)(i:Int)(t:Tok):(bx prog w).is (.inl i) (.int i t)=true:=tf i t
def tF(prog:PZ)(w:P2)(x:E_)(t:Tok):(bx prog w).is (.inr x) (.str x t)=true:=tm x t
inductive V where
 |non|bl (b:Bool)|int (i:Int)|str (x:Str)|byt (b:Array UInt8)|flt (b:UInt64)|ref (a:KM)|ty (n:String)
 deriving DecidableEq
def RelV:V->KB->Prop
 |.non,u=>u=Value.none
 |.bl b,u=>u=Value.bool b
 |.int i,u=>∃t,u=Value.int i t
 |.str x,u=>∃t,u=Value.str x t
 |.byt b,u=>∃t,u=Value.bytes b t
 |.flt b,u=>∃t,u=Value.float b t
 |.ref a,u=>u=Value.ref a
 |.ty n,u=>u=Value.type n
abbrev Vals:List V->List KB->Prop:=Paired RelV
variable{xs:List V}{us:List KB}
def Vals.length(r:Vals xs us):xs.length=us.length:=Paired.length r
def Vals.get:∀{xs:List V} {us:List KB} {i:Nat} {x:V},Vals xs us->xs[i]?=be x->∃u,us[i]?=be u/\RelV x u
 |_,_,_,_,.nil,e=>by simp at e
 |_,_,0,_,.cons r _,e=>by simp at e;subst e;exact#[_,rfl,r]
 |_,_,i+1,x,.cons _ t,e=>by
  obtain⟨u,h1,h2⟩:=Vals.get (i:=i) (x:=x) t (by simpa using e);exact#[u,by simpa using h1,h2]
def Vals.set{x:V}{u:KB}(r:RelV x u):∀{xs:List V} {us:List KB} (i:Nat),Vals xs us->Vals (xs.set i x) (us.set i u)
 |_,_,_,.nil=>.nil
 |_,_,0,.cons _ t=>.cons r t
 |_,_,i+1,.cons q t=>.cons q (Vals.set r i t)
def Vals.append:∀{xs ys:List V} {us ws:List KB},Vals xs us->Vals ys ws->Vals (xs++ys) (us++ws):=by
 intro xs ys us ws h s;induction h with
 |nil=>exact s
 |cons r _ e=>exact .cons r e
def Vals.take:∀{xs:List V} {us:List KB} (n:Nat),Vals xs us->Vals (xs.take n) (us.take n)
 |_,_,0,_=>.nil
 |_,_,_+1,.nil=>.nil
 |_,_,n+1,.cons r t=>.cons r (Vals.take n t)
def Vals.drop:∀{xs:List V} {us:List KB} (n:Nat),Vals xs us->Vals (xs.drop n) (us.drop n)
 |_,_,0,r=>r
 |_,_,_+1,.nil=>.nil
 |_,_,n+1,.cons _ t=>Vals.drop n t
def RelO:Option V->Option KB->Prop
 |some v,be u=>RelV v u
 |none,p7=>True
 |_,_=>False
def KV{κ:Type}:List (κ×V)->List (κ×KB)->Prop:=Paired λ(p:κ×V) (q:κ×KB)=>p.1=q.1/\RelV p.2 q.2
def kV:Key->V
 |.inl i=>.int i
 |.inr x=>.str x
inductive HO where
  |lst (xs:List V)
  |tup (xs:List V)
  |dK (a9:List (Key×V))|dT (a9:List (List Key×V))
  |set (S:Int->Bool) (n:Nat)
  |ins (C dx:KM) (fs:List (E_×V))
  |own (x:KM)
  |xd (fs:List (E_×V))
  |met (f x:KM)
  |rng (lo hi:Int)
  |frz (o:Qc) (u:HO)
  |tbl (ps:Array KB)
  |ext (φ:P4->Prop)
abbrev Hp:=KM->Option HO
def upd(H:Hp)(a:KM)(o:HO):Hp:=λb=>if b=a then be o else H b
variable{H:Hp}{a:KM}{o:HO}
def aD:upd H a o a=be o:=by unfold upd;rw[if_pos rfl]
variable{b:KM}
def au(h:b≠a):upd H a o b=H b:=by unfold upd;rw[if_neg h]
def tG{u:HO}(h:H a=be o)(h':H b=be u)(d:o≠u):a≠b:=by
 intro e;subst e;rw[h]at h';exact d (Option.some.inj h')
def bL(h:H a=be o)(h':H b=p7):a≠b:=by
 intro e;subst e;rw[h]at h';cases h'
section
variable (P:PZ)(w:P2)
def ObjOk(H:Hp)(h:P4)(a:KM):HO->Prop
 |.lst xs=>xs.length<=sizeLine/\∃(its:List KB) (n:Nat),Vals xs its/\h.get? a=be {cls:=.type "list",data:=.seq its.toArray n}
 |.tup xs=>xs.length<=sizeLine/\∃its:List KB,Vals xs its/\IsTup h a its.toArray
 |.dK a9=>a9.length<=sizeLine/\(a==Qq)=false/\∃vs,KV a9 vs/\h.DictOf (bx P w) a vs
 | .dT a9=>a9.length<=sizeLine/\(a==Qq)=false/\∃xs:List (List Key×KM×KB),
   Paired (λ(p:List Key×V) (q:List Key×KM×KB)=>p.1=q.1/\H q.2.1=be (.tup (p.1.map kV))/\RelV p.2 q.2.2) a9 xs/\
   ∃o es ep,h.get? a=be o/\o.ExactDict/\o.data=.dict es ep/\es.toList=xs.map (entryOfKey (QO (bx P w)))/\(xs.map (·.1)).Nodup
 |.set S n=>h.SetOf (intKind P w) a S n
 | .ins C dx fs=>H dx=be (.own a)/\fs.length<=1000/\dx≠a/\h.get? a=be (instObj C dx)/\
   ∃mA,h.Ns1 dx mA/\(∀f,RelO (fs.lookup f) (mA f))/\PySem.Within mA (fs.map (·.1))
 |.own _=>∃o,h.get? a=be o
 |.xd fs=>∃mA,h.Ns1 a mA/\∀f,RelO (fs.lookup f) (mA f)
 |.rng lo hi=>∃t u v,h.get? a=be {cls:=.type "range",data:=.fields [.int lo t,.int hi u,.int 1 v].toArray}
 |.frz o u=>h.get? a=be o/\ObjOk H h a u
 |.tbl ps=>h.get? a=be {cls:=.none,data:=.fields ps}
 |.met f x=>h.get? a=be (methodObj (.ref f) (.ref x))
 |.ext φ=>φ h/\(∃o,h.get? a=be o)/\∀h1 h2:P4,φ h1->(∀o,h1.get? a=be o->h2.get? a=be o)->φ h2
def HOk(H:Hp)(h:P4):Prop:=∀a o,H a=be o->ObjOk P w H h a o
end
section
variable {P:PZ}{w:P2}{H H':Hp}{h h':P4}{a:KM}{o:HO}
def ObjOk.lt(x:ObjOk P w H h a o):a<h.objs.size:=by
 cases o with
 |lst xs=>obtain⟨_,_,_,_,e⟩:=x;exact Heap.lt_size e
 |tup xs=>obtain⟨_,_,_,p⟩:=x;exact p.lt
 |dK a9=>obtain⟨_,_,_,_,o,_,_,e,_⟩:=x;exact Heap.lt_size e
 |dT a9=>obtain⟨_,_,_,_,o,_,_,e,_⟩:=x;exact Heap.lt_size e
 |set S n=>obtain⟨o,_,_,_,e,_⟩:=x;exact Heap.lt_size e
 |ins C dx fs=>obtain⟨_,_,_,e,_⟩:=x;exact Heap.lt_size e
 |own y=>obtain⟨_,e⟩:=x;exact Heap.lt_size e
 |xd fs=>obtain⟨_,⟨_,_,_,e,_⟩,_⟩:=x;exact Heap.lt_size e
 |rng lo hi=>obtain⟨_,_,_,e⟩:=x;exact Heap.lt_size e
 |frz ob u=>obtain⟨e,_⟩:=x;exact Heap.lt_size e
 |tbl ps=>exact Heap.lt_size (show h.get? a=be _ from x)
 |met f y=>exact Heap.lt_size (show h.get? a=be _ from x)
 |ext φ=>obtain⟨_,⟨_,e⟩,_⟩:=x;exact Heap.lt_size e
def Paired.mapP{α β:Type}{F G:α->β->Prop}:∀{l₁:List α} {l₂:List β},Paired F l₁ l₂->(∀a b,F a b->G a b)->Paired G l₁ l₂:=by
 intro l₁ l₂ h f;induction h with
 |nil=>exact .nil
 |cons r _ e=>exact .cons (f _ _ r) e
def ObjOk.stay(x:ObjOk P w H h a o)(k:∀b u,(b=a\/H b=be (.own a))->h.get? b=be u->h'.get? b=be u)
  (ho:∀b,H b=be (.own a)->H' b=be (.own a)) (ht:∀b xs,H b=be (.tup xs)->H' b=be (.tup xs)):ObjOk P w H' h' a o:=by
 induction o with
 |lst xs=>obtain⟨z,its,n,r,e⟩:=x;exact#[z,its,n,r,k _ _ (.inl rfl) e]
 |tup xs=>obtain⟨z,its,r,ob,e,c⟩:=x;exact#[z,its,r,ob,k _ _ (.inl rfl) e,c]
 |dK a9=>obtain⟨z,y,vs,r,ob,es,ep,e,c⟩:=x;exact#[z,y,vs,r,ob,es,ep,k _ _ (.inl rfl) e,c]
 |dT a9=>
  obtain⟨z,y,xs,r,ob,es,ep,e,c⟩:=x;exact#[z,y,xs,Paired.mapP r λp q z=>#[z.1,ht _ _ z.2.1,z.2.2],ob,es,ep,k _ _ (.inl rfl) e,c]
 |set S n=>obtain⟨ob,es,ep,t,e,c⟩:=x;exact#[ob,es,ep,t,k _ _ (.inl rfl) e,c]
 |ins C dx fs=>
  obtain⟨d,z,ne,e,mA,⟨od,es,ep,e2,c⟩,r⟩:=x;exact#[ho _ d,z,ne,k _ _ (.inl rfl) e,mA,#[od,es,ep,k _ _ (.inr d) e2,c],r]
 |own y=>obtain⟨ob,e⟩:=x;exact#[ob,k _ _ (.inl rfl) e]
 |xd fs=>obtain⟨mA,⟨od,es,ep,e,c⟩,r⟩:=x;exact#[mA,#[od,es,ep,k _ _ (.inl rfl) e,c],r]
 |rng lo hi=>obtain⟨t,u,v,e⟩:=x;exact#[t,u,v,k _ _ (.inl rfl) e]
 |frz ob u ih=>obtain⟨e,q⟩:=x;exact#[k _ _ (.inl rfl) e,ih q]
 |tbl ps=>
  have e:h.get? a=be {cls:=.none,data:=.fields ps}:=x;show h'.get? a=be {cls:=.none,data:=.fields ps};exact k a _ (.inl rfl) e
 |met f y=>
  have e:h.get? a=be (methodObj (.ref f) (.ref y)):=x;show h'.get? a=be (methodObj (.ref f) (.ref y));exact k a _ (.inl rfl) e
 |ext φ=>obtain⟨p,⟨o,e⟩,st⟩:=x;exact#[st _ _ p λo q=>k _ _ (.inl rfl) q,#[o,k _ _ (.inl rfl) e],st]
def HOk.lt(x:HOk P w H h)(e:H a=be o):a<h.objs.size:=(x a o e).lt
def HOk.fresh(x:HOk P w H h)(e:h.objs.size<=a):H a=none:=by
 cases q:H a with
 |none=>rfl
 |some u=>exact absurd (EF (x.lt q) e) (Ff _)
def HOk.kept(x:HOk P w H h)(k:∀b u,h.get? b=be u->h'.get? b=be u):HOk P w H h':=λa o e=>
 (x a o e).stay (λb u _ q=>k b u q) (λ_ q=>q) λ_ _ q=>q
def HOk.laid(x:HOk P w H h)(k:∀b u,h.get? b=be u->h'.get? b=be u)(hp:h.objs.size<=a)(new:ObjOk P w (upd H a o) h' a o):HOk P w (upd H a o) h':=λb u e=>by
 have hn:=x.fresh hp;by_cases hb:b=a
 .subst hb;rw[aD]at e;cases e;exact new
 .rw[au hb]at e;exact(x b u e).stay (λc v _ q=>k c v q) (λc q=>by rw[au (bL q hn)];exact q) λc xs q=>by rw[au (bL q hn)];exact q
end
def Rd(H:Hp)(a:KM)(u:HO):Prop:=H a=be u\/∃o,H a=be (.frz o u)
variable{P:PZ}{w:P2}{h:P4}
def Rd.ok{u:HO}(r:Rd H a u)(x:HOk P w H h):ObjOk P w H h a u:=by
 rcases r with r|⟨o,r⟩
 .exact x a u r
 .obtain⟨_,q⟩:=x a _ r;exact q
def Mut:Option HO->Prop
 |some (.lst _)=>True
 |some (.dK _)=>True
 |some (.dT _)=>True
 |some (.set _ _)=>True
 |some (.ins _ _ _)=>True
 |some (.ext _)=>True
 |_=>False
section
variable {P:PZ}{w:P2}{H:Hp}{h h':P4}{x e:KM}{o':HO}
def HOk.write(ok:HOk P w H h)(mu:Mut (H x))(he:e=x\/H e=be (.own x))(k:∀b u,b≠e->h.get? b=be u->h'.get? b=be u)(y9:∃u,h'.get? e=be u)
  (new:ObjOk P w (upd H x o') h' x o'):HOk P w (upd H x o') h':=λb u q=>by
 have nown:∀c y,H c=be (.own y)->c≠x:=λc y r z=>by subst z;rw[r]at mu;exact mu
 have KQ:∀c xs,H c=be (.tup xs)->c≠x:=λc xs r z=>by subst z;rw[r]at mu;exact mu
 by_cases hb:b=x
 .subst hb;rw[aD]at q;cases q;exact new
 .rw[au hb]at q;by_cases Ib:b=e
  .have q':H b=be (.own x):=by
    rcases he with z|z
    .exact absurd (Ib.trans z) hb
    .rw[Ib];exact z
   rw[q]at q';cases q';obtain⟨v,hv⟩:=y9;exact#[v,by rw[Ib];exact hv]
  .refine(ok b u q).stay (λc v hc r=>k c v ?_ r) (λc r=>by rw[au (nown c b r)];exact r) λc xs r=>by rw[au (KQ c xs r)];exact r
   rcases hc with rfl|hc
   .exact Ib
   .rintro rfl;rcases he with z|z
    .exact nown c b hc z
    .rw[hc]at z;cases z;exact hb rfl
end
structure Un(fs ex:List KM)(H H':Hp)(h h':P4):Prop where
 keep:∀b o,h.get? b=be o->H b=p7->b∉fs->b∉ex->h'.get? b=be o
 slot:∀b o,h.get? b=be o->H b=p7->b∈fs->b∉ex->∃sl,h'.get? b=be {o with slots:=sl}
 free:∀b o,h.get? b=be o->H b=p7->b∉ex->H' b=p7
 there:∀b o,h.get? b=be o->b∉ex->∃o',h'.get? b=be o'
 tups:∀b xs,H b=be (.tup xs)->H' b=be (.tup xs)
 frzs:∀b o u,H b=be (.frz o u)->H' b=be (.frz o u)
 tbls:∀b ps,H b=be (.tbl ps)->∃more,H' b=be (.tbl (ps++more))
section
variable {fs k8 ex MN:List KM}{H H1 H2:Hp}{h h1 h2 h':P4}{a x e:KM}{o:HO}
def Un.any(u:Un fs ex H H1 h h1){b:KM}{ob:Qc}(q:h.get? b=be ob)(n:H b=p7)(hx:b∉ex):∃sl,h1.get? b=be {ob with slots:=sl}:=by
 by_cases hb:b∈fs
 .exact u.slot b ob q n hb hx
 .exact#[ob.slots,u.keep b ob q n hb hx]
def Un.kept(k:∀b u,h.get? b=be u->h'.get? b=be u):Un fs ex H H h h':=
 #[λb ob q _ _ _=>k b ob q,λb ob q _ _ _=>#[ob.slots,k b ob q],λ_ _ _ n _=>n,λb ob q _=>#[ob,k b ob q],λ_ _ q=>q,λ_ _ _ q=>q,λ_ ps q=>#[[].toArray,by rw[q];simp]]
def Un.refl:Un fs ex H H h h:=Un.kept λ_ _ q=>q
def Un.laid(k:∀b u,h.get? b=be u->h'.get? b=be u)(hp:h.objs.size<=a)(hn:H a=p7):Un fs ex H (upd H a o) h h' where
 keep:=λb u q _ _ _=>k b u q
 slot:=λb u q _ _ _=>#[u.slots,k b u q]
 free:=λb u q n _=>by rw[au (El (EF (Heap.lt_size q) hp))];exact n
 there:=λb u q _=>#[u,k b u q]
 tups:=λb xs q=>by rw[au (bL q hn)];exact q
 frzs:=λb u xs q=>by rw[au (bL q hn)];exact q
 tbls:=λb ps q=>#[[].toArray,by rw[au (bL q hn),q];simp]
def Un.write(mu:Mut (H x))(he:e=x\/H e=be (.own x))(k:∀b u,b≠e->h.get? b=be u->h'.get? b=be u)(y9:∃u,h'.get? e=be u):Un fs ex H (upd H x o) h h':=by
 have hx:∀b,H b=p7->b≠x:=λb n z=>by subst z;rw[n]at mu;exact mu
 have hb:∀b,H b=p7->b≠e:=λb n z=>by
  subst z;rcases he with r|r
  .exact hx b n r
  .rw[n]at r;cases r
 have hm:∀b u,H b=be u->¬Mut (be u)->b≠x:=λb u q nm z=>by subst z;rw[q]at mu;exact nm mu
 refine⟨λb u q n _ _=>k b u (hb b n) q,λb u q n _ _=>#[u.slots,k b u (hb b n) q],λb u q n _=>by rw[au (hx b n)];exact n,λb u q _=>?_,
  λb xs q=>by rw[au (hm b _ q λz=>z)];exact q,λb u xs q=>by rw[au (hm b _ q λz=>z)];exact q,λb ps q=>#[[].toArray,by rw[au (hm b _ q λz=>z),q];simp]⟩
 by_cases Ib:b=e
 .subst Ib;exact y9
 .exact#[u,k b u Ib q]
end
def trk(h:P4)(H:Hp):List KM:=(Ej h.objs.size).filter λa=>(H a).isSome
def hidT(h:P4)(H:Hp):P4:=hideAll h (trk h H)
def tH(h:P4)(H:Hp):(hidT h H).objs.size=h.objs.size:=hideAll_size _ _
def tI{o:Qc}(e:h.get? b=be o)(n:H b=p7):(hidT h H).get? b=be o:=
 hideAll_get _ e λhm=>by
  have q:(H b).isSome=true:=(GF.mp hm).2;rw[n]at q;simp at q
def tJ{o:Qc}(e:(hidT h H).get? b=be o):h.get? b=be o/\H b=none:=by
 have e':h.get? b=be o:=of_hideAll (trk h H) e;refine#[e',?_];cases q:H b with
 |none=>rfl
 |some x=>
  have hm:b∈trk h H:=GF.mpr #[List.mem_range.mpr (Heap.lt_size e'),by simp[q]];have z:(hidT h H).get? b=none:=hideAll_none (trk h H) hm;rw[z]at e;cases e
structure Mod(K:Ef)(mg:Str->Option KB)(base:P4):Prop where
 kin:K.In base
 glob:base.Ns Pi mg
 blt:∃mb,base.Ns RE mb/\∀x:E_,x≠"__name__"->mb x=Qd x
 nolimit:base.NoLimit
structure Cx where
 prog:PZ
 w:P2
 K:Ef
 mg:E_->Option KB
 base:P4
 A:P3
 N:List E_
 s₀:KF
 H₀:Hp
 env:QN
 outer:List QN
 stack:List QN
 ex:List KM
 fn:E_->Bool
 calm:Bool
 pn:List (KM×Qc)
 xe:KB->KF->Prop
abbrev zSE(X:Cx)(e:PV)(es:List PV):Prop:=P1 (e::es) X.env=(false,P7 e X.env)::P1 es X.env
abbrev zPL(X:Cx)(p:Qa)(es:List PV):Prop:=(QM p (P1 es X.env)).any (·.1)=false
abbrev zHF(X:Cx)(p:Qa)(es:List PV):Prop:=((QM p (P1 es X.env)).all (λx=>!x.1)&&(Rw p (Q5 [] X.env)).all (λx=>x.1.isSome)&&decide (es.length+([]:List RK).length+(if([]:List RK).isEmpty then 0 else 1)<30))=true
abbrev zFN(X:Cx)(x:E_):Prop:=X.fn x=true\/X.env.scope.names.lookup x=be .local
abbrev zND(x:E_):Prop:=(x==("__debug__":E_))=false
abbrev zNC(x:E_):Prop:=(x==("__classdict__":E_))=false
abbrev zFS(X:Cx)(e:PV)(y:KB):Prop:=RI e X.env y=pure y
def frs(l:List QN):List KM:=l.filterMap (·.frame)
abbrev Cx.fs(X:Cx):List KM:=frs X.outer
def Vis(sc:Qk)(x:E_):Prop:=sc.names.lookup x=be .local\/sc.names.lookup x=be .cell\/sc.names.lookup x=be .free
def Loc(sc:Qk)(x:E_):Prop:=sc.names.lookup x=be .local\/sc.names.lookup x=be .cell
def Look(env:QN)(h:P4)(m:E_->Option KB)(x:E_)(u:KB):Prop:=
 (env.kindOf x=be .local/\m x=be u)\/((env.kindOf x=be .cell\/env.kindOf x=be .free)/\∃c,env.cells.lookup x=be c/\h.IsCell c (be u))
structure Cx.Ok(X:Cx):Prop where
 mod:Mod X.K X.mg X.base
 kind:X.env.scope.kind=.function
 glob:X.env.globals=Pi
 blt:X.env.builtins=RE
 above:X.s₀.heap.objs.size<=X.env.locals
 inj:∀x y c,X.env.cells.lookup x=be c->X.env.cells.lookup y=be c->x=y
 has:∀x,(X.env.kindOf x=be .cell\/X.env.kindOf x=be .free)->∃c,X.env.cells.lookup x=be c
 cab:∀x c,X.fn x=true->X.env.cells.lookup x=be c->X.s₀.heap.objs.size<=c
 hd:X.calm=true->X.A.handled=p7
 frames:X.A.frames=be X.stack
 stk:X.stack=X.outer\/(X.stack=X.env::X.outer/\X.env.frame=be X.env.locals)
 exf:∀b∈X.ex,b≠X.env.locals/\∀x c,X.env.cells.lookup x=be c->c≠b
 bs:∀b o,X.base.get? b=be o->X.s₀.heap.get? b=be o/\X.H₀ b=p7
 bsz:X.base.objs.size<=X.s₀.heap.objs.size
 noex:∀b o,X.base.get? b=be o->b∉X.ex
 exfs:∀b∈X.ex,b∉X.fs
 funs:X.s₀.heap.FunFrames X.base X.outer
 frf:∀b∈X.fs,X.H₀ b=p7
structure Inv(X:Cx)(pins:List (KM×Qc))(σ:List (Option V))(H:Hp)(s:KF):Prop where
 ok:X.Ok
 os:s.os=X.s₀.os
 bare:QK s.gens
 base:Un X.fs X.ex X.H₀ H X.s₀.heap s.heap
 loc:∃m,s.heap.Ns X.env.locals m/\∀(i:Nat) (x:E_) (v:V),X.N[i]?=be x->σ[i]?=be (be v)->Vis X.env.scope x->∃u,RelV v u/\Look X.env s.heap m x u
 cell:∀x c,X.env.cells.lookup x=be c->∃v,s.heap.IsCell c v
 free:H X.env.locals=p7
 freeC:∀x c,X.env.cells.lookup x=be c->H c=p7
 pin:∀p∈X.pn++pins,s.heap.get? p.1=be p.2/\H p.1=p7/\p.1≠X.env.locals/\p.1∉X.fs/\∀v,p.2.data≠.cell v
 hok:HOk X.prog X.w H s.heap
 len:σ.length=X.N.length
section
variable {X:Cx}{pins:List (KM×Qc)}{σ:List (Option V)}{H H':Hp}{s:KF}{h':P4}
def Cx.Ok.nofr(ok:X.Ok){b:KM}{o:Qc}(e:X.base.get? b=be o):b∉X.fs:=λhb=>by
 have:=(ok.funs.mem hb).1;rw[e]at this;cases this
def Inv.bs(I:Inv X pins σ H s):∀b o,X.base.get? b=be o->s.heap.get? b=be o/\H b=none:=λb o e=>
 #[I.base.keep b o (I.ok.bs b o e).1 (I.ok.bs b o e).2 (I.ok.nofr e) (I.ok.noex b o e),I.base.free b o (I.ok.bs b o e).1 (I.ok.bs b o e).2 (I.ok.noex b o e)]
def Inv.bk(I:Inv X pins σ H s):∀b o,X.base.get? b=be o->s.heap.get? b=be o:=λb o e=>(I.bs b o e).1
def Inv.mod(I:Inv X pins σ H s):Mod X.K X.mg X.base:=I.ok.mod
def Inv.kIn(I:Inv X pins σ H s):X.K.In s.heap:=I.ok.mod.kin.keeps I.bk
def Inv.lt(I:Inv X pins σ H s):X.env.locals<s.heap.objs.size:=let ⟨_,hn,_⟩:=I.loc;hn.lt
def Inv.sz(I:Inv X pins σ H s):X.s₀.heap.objs.size<=s.heap.objs.size:=Eo I.ok.above (FR I.lt)
def Inv.nofs(I:Inv X pins σ H s){a:KM}(h:s.heap.objs.size<=a):a∉X.fs:=λhb=>by
 obtain⟨_,o,ho,_⟩:=I.ok.funs.mem hb;exact absurd (EF (Heap.lt_size ho) (Eo I.sz h)) (Ff _)
def Inv.cne(I:Inv X pins σ H s):∀x c,X.env.cells.lookup x=be c->c≠X.env.locals:=λx c e z=>by
 obtain⟨v,o,ho,hd⟩:=I.cell x c e;obtain⟨m,⟨o',es,ep,v4,gV,_⟩,_⟩:=I.loc;rw[z,v4]at ho;cases ho;rw[gV]at hd;cases hd
def Inv.funs(I:Inv X pins σ H s):s.heap.FunFrames X.base X.outer:=by
 have all:∀(l:List QN),(∀b∈frs l,b∈X.fs)->X.s₀.heap.FunFrames X.base l->s.heap.FunFrames X.base l:=by
  intro l;induction l with
  |nil=>intro _ _;trivial
  |cons env r ih=>
   intro hs hl;obtain⟨hk,⟨L,o,hf,hn,ho,hd⟩,hr⟩:=hl;have hL:L∈X.fs:=hs L (by unfold frs;rw[FS,hf];exact Ep);obtain⟨sl,e⟩:=I.base.slot L o ho (I.ok.frf L hL) hL λz=>I.ok.exfs L z hL;exact#[hk,#[L,_,hf,hn,e,hd],ih (λb hb=>hs b (by unfold frs;rw[FS,hf];exact Em _ hb)) hr]
 exact all X.outer (λ_ hb=>hb) I.ok.funs
def Inv.stack(I:Inv X pins σ H s):s.heap.FunFrames X.base X.stack:=by
 rcases I.ok.stk with e|⟨e,hf⟩
 .rw[e];exact I.funs
 .rw[e];obtain⟨m,hn,_⟩:=I.loc;refine .cons (by rw[I.ok.kind];decide) hf hn ?_ I.funs;exact Heap.get?_none_of_le (Eo I.ok.bsz I.ok.above)
def Inv.stkSub(I:Inv X pins σ H s):∀b∈frs X.stack,b∈X.env.locals::X.fs:=λb hb=>by
 rcases I.ok.stk with e|⟨e,hf⟩
 .rw[e]at hb;exact Em _ hb
 .rw[e]at hb;unfold frs at hb;rw[FS,hf]at hb;exact hb
def Inv.stkFree(I:Inv X pins σ H s):∀b∈frs X.stack,H b=none:=λb hb=>by
 rcases Ei.mp (I.stkSub b hb)with e|hb
 .rw[e];exact I.free
 .obtain⟨_,o,ho,_⟩:=I.ok.funs.mem hb;exact I.base.free b o ho (I.ok.frf b hb) λz=>I.ok.exfs b z hb
variable{g':Array GenState}{ch:List KM}
def Inv.step{t':Nat}{d':Drawn}(I:Inv X pins σ H s)
  (y':∀b∈ch,(b∈X.ex\/X.s₀.heap.objs.size<=b)/\b≠X.env.locals/\(∀x c,X.env.cells.lookup x=be c->c≠b)/\∀p∈X.pn++pins,p.1≠b)
  (keep:∀b o,b≠X.env.locals->b∉X.fs->b∉ch->s.heap.get? b=be o->H b=p7->h'.get? b=be o)
  (slot:∀b o,b≠X.env.locals->b∈X.fs->b∉ch->s.heap.get? b=be o->H b=p7->∃sl,h'.get? b=be {o with slots:=sl}) (free:∀b o,b∉ch->s.heap.get? b=be o->H b=p7->H' b=p7)
  (there:∀b o,b∉ch->s.heap.get? b=be o->∃o',h'.get? b=be o')
  (tups:∀b xs,H b=be (.tup xs)->H' b=be (.tup xs)) (frzs:∀b o u,H b=be (.frz o u)->H' b=be (.frz o u)) (tbls:∀b ps,H b=be (.tbl ps)->∃more,H' b=be (.tbl (ps++more)))
  (ns:∀m,s.heap.Ns X.env.locals m->h'.Ns X.env.locals m) (hok:HOk X.prog X.w H' h') (hg:QK g'):
  Inv X pins σ H' {s with heap:=h',gens:=g',drawn:=d',toks:=t'}:=by
 have MP:∀b o,X.s₀.heap.get? b=be o->b≠X.env.locals:=λb o e=>El (EF (Heap.lt_size e) I.ok.above);have Kk:∀b o,X.s₀.heap.get? b=be o->b∉X.ex->b∉ch:=λb o e hx hb=>by
  rcases(y' b hb).1 with z|z
  .exact hx z
  .exact absurd (EF (Heap.lt_size e) z) (Ff _)
 have l9:∀x c,X.env.cells.lookup x=be c->∀v,s.heap.IsCell c v->h'.IsCell c v:=λx c e v ⟨o,ho,hd⟩=>by
  have Jk:c∉ch:=λz=>(y' c z).2.2.1 x c e rfl;by_cases hc:c∈X.fs
  .obtain⟨sl,q⟩:=slot c o (I.cne x c e) hc Jk ho (I.freeC x c e);exact#[_,q,hd]
  .exact#[o,keep c o (I.cne x c e) hc Jk ho (I.freeC x c e),hd]
 refine#[I.ok,I.os,hg,#[λb o e n hb hx=>?_,λb o e n hb hx=>?_,λb o e n hx=>?_,λb o e hx=>?_,λb xs e=>tups b xs (I.base.tups b xs e),λb o xs e=>frzs b o xs (I.base.frzs b o xs e),λb ps e=>?_],?_,λx c e=>?_,?_,λx c e=>?_,λp hp=>?_,hok,I.len]
 .exact keep b o (MP b o e) hb (Kk b o e hx) (I.base.keep b o e n hb hx) (I.base.free b o e n hx)
 .obtain⟨sl,e1⟩:=I.base.slot b o e n hb hx;obtain⟨l_,e2⟩:=slot b _ (MP b o e) hb (Kk b o e hx) e1 (I.base.free b o e n hx);exact#[l_,e2]
 .obtain⟨o',e1⟩:=I.base.there b o e hx;exact free b o' (Kk b o e hx) e1 (I.base.free b o e n hx)
 .obtain⟨o',e1⟩:=I.base.there b o e hx;exact there b o' (Kk b o e hx) e1
 .obtain⟨m1,e1⟩:=I.base.tbls b ps e;obtain⟨m2,e2⟩:=tbls b _ e1;exact#[m1++m2,by rw[e2,Array.append_assoc]]
 .obtain⟨m,hn,hl⟩:=I.loc;refine#[m,ns m hn,λi x v e1 e2 e3=>?_];obtain⟨u,r,l⟩:=hl i x v e1 e2 e3;refine#[u,r,?_];rcases l with l|⟨k,c,e,z⟩
  .exact .inl l
  .exact .inr #[k,c,e,l9 x c e _ z]
 .obtain⟨v,z⟩:=I.cell x c e;exact#[v,l9 x c e v z]
 .obtain⟨m,⟨o,_,_,ho,_⟩,_⟩:=I.loc;exact free _ o (λz=>(y' _ z).2.1 rfl) ho I.free
 .obtain⟨v,o,ho,hd⟩:=I.cell x c e;exact free c o (λz=>(y' c z).2.2.1 x c e rfl) ho (I.freeC x c e)
 .obtain⟨e,n,ne,nf,d⟩:=I.pin p hp;have Jk:p.1∉ch:=λz=>(y' p.1 z).2.2.2 p hp rfl;exact#[keep p.1 p.2 ne nf Jk e n,free p.1 p.2 Jk e n,ne,nf,d]
def Inv.un{t':Nat}(I:Inv X pins σ H s)(u:Un X.fs [] H H' s.heap h')(hok:HOk X.prog X.w H' h'):Inv X pins σ H' {s with heap:=h',toks:=t'}:=by
 obtain⟨m,⟨o,es,ep,ho,r⟩,_⟩:=id I.loc;obtain⟨sl,hL⟩:=u.any ho I.free Iq;exact I.step (g':=s.gens) (d':=s.drawn) (ch:=[]) (λ_ z=>nomatch z) (λb o _ hb _ e n=>u.keep b o e n hb Iq) (λb o _ hb _ e n=>u.slot b o e n hb Iq) (λb o _ e n=>u.free b o e n Iq) (λb o _ e=>u.there b o e Iq) u.tups u.frzs u.tbls (λm' hm=>by
  obtain⟨o',KR,KS,v4,r'⟩:=hm;rw[ho]at v4;cases v4;exact#[_,KR,KS,hL,r']) hok I.bare
def Inv.call{t':Nat}{d':Drawn}(I:Inv X pins σ H s)(u:Un (frs X.stack) ch H H' s.heap h')(hok:HOk X.prog X.w H' h')(hg:QK g')
  (y':∀b∈ch,(b∈X.ex\/X.s₀.heap.objs.size<=b)/\b≠X.env.locals/\(∀x c,X.env.cells.lookup x=be c->c≠b)/\∀p∈X.pn++pins,p.1≠b):
  Inv X pins σ H' {s with heap:=h',gens:=g',drawn:=d',toks:=t'}:=by
 obtain⟨m,⟨o,es,ep,ho,r⟩,_⟩:=id I.loc;obtain⟨sl,hL⟩:=u.any ho I.free λz=>(y' _ z).2.1 rfl;exact I.step (ch:=ch) y' (λb o hL hb hc e n=>u.keep b o e n (λz=>(Ei.mp (I.stkSub b z)).elim hL hb) hc) (λb o _ _ hc e n=>u.any e n hc) (λb o hc e n=>u.free b o e n hc) (λb o hc e=>u.there b o e hc) u.tups u.frzs u.tbls (λm' hm=>by
  obtain⟨o',KR,KS,v4,r'⟩:=hm;rw[ho]at v4;cases v4;exact#[_,KR,KS,hL,r']) hok hg
def Inv.turned{t':Nat}{it:KM}(I:Inv X pins σ H s)(k:∀b o,b≠it->s.heap.get? b=be o->h'.get? b=be o)(hn:H it=p7)(hL:it≠X.env.locals)
  (h1:it∈X.ex\/X.s₀.heap.objs.size<=it) (h2:∀x c,X.env.cells.lookup x=be c->c≠it) (h3:∀p∈X.pn++pins,p.1≠it):Inv X pins σ H {s with heap:=h',toks:=t'}:=by
 have Ic:∀b u,H b=be u->b≠it:=λb u e z=>by rw[z,hn]at e;cases e
 refine I.step (g':=s.gens) (d':=s.drawn) (ch:=[it]) (λb hb=>?_) (λb o _ _ hc e _=>k b o (λz=>hc (by simp[z])) e) (λb o _ _ hc e _=>#[o.slots,k b o (λz=>hc (by simp[z])) e]) (λ_ _ _ _ n=>n)
  (λb o hc e=>#[o,k b o (λz=>hc (by simp[z])) e]) (λ_ _ e=>e) (λ_ _ _ e=>e) (λb ps e=>#[[].toArray,by rw[e];simp]) (λm hm=>?_) (λb u e=>?_) I.bare
 .have e:b=it:=by simpa using hb
  subst e;exact#[h1,hL,h2,h3]
 .obtain⟨o,es,ep,ho,r⟩:=hm;exact#[o,es,ep,k _ o (Ne.symm hL) ho,r]
 .refine(I.hok b u e).stay (λc v hc q=>k c v ?_ q) (λ_ q=>q) λ_ _ q=>q;rcases hc with z|z
  .rw[z];exact Ic b u e
  .exact Ic c _ z
def Inv.tok(I:Inv X pins σ H s)(t:Nat):Inv X pins σ H {s with toks:=t}:=I.un (h':=s.heap) (t':=t) Un.refl I.hok
def Inv.kept{t':Nat}(I:Inv X pins σ H s)(k:∀b u,s.heap.get? b=be u->h'.get? b=be u):Inv X pins σ H {s with heap:=h',toks:=t'}:=I.un (Un.kept k) (I.hok.kept k)
def Inv.laid{a:KM}{o:HO}{t':Nat}(I:Inv X pins σ H s)(k:∀b u,s.heap.get? b=be u->h'.get? b=be u)(hp:s.heap.objs.size<=a)(new:ObjOk X.prog X.w (upd H a o) h' a o):
  Inv X pins σ (upd H a o) {s with heap:=h',toks:=t'}:=I.un (Un.laid k hp (I.hok.fresh hp)) (I.hok.laid k hp new)
def Inv.write{x e:KM}{o:HO}{t':Nat}(I:Inv X pins σ H s)(mu:Mut (H x))(he:e=x\/H e=be (.own x))(k:∀b u,b≠e->s.heap.get? b=be u->h'.get? b=be u)(y9:∃u,h'.get? e=be u)
  (new:ObjOk X.prog X.w (upd H x o) h' x o):Inv X pins σ (upd H x o) {s with heap:=h',toks:=t'}:=I.un (Un.write mu he k y9) (I.hok.write mu he k y9 new)
def Inv.pins_of{HN:List (KM×Qc)}(I:Inv X pins σ H s)(h:∀p∈HN,s.heap.get? p.1=be p.2/\H p.1=p7/\p.1≠X.env.locals/\p.1∉X.fs/\∀v,p.2.data≠.cell v):Inv X HN σ H s:=
 #[I.ok,I.os,I.bare,I.base,I.loc,I.cell,I.free,I.freeC,λp hp=>(EO.mp hp).elim (λz=>I.pin p (E2 _ z)) (h p),I.hok,I.len]
variable{x:E_}{i:Nat}
def iN{N:List E_}(hN:N.Nodup){j:Nat}(a:N[i]?=be x)(b:N[j]?=be x):i=j:=by
 obtain⟨h1,e1⟩:=Ev.mp a;obtain⟨h2,e2⟩:=Ev.mp b;exact(List.getElem_inj hN).mp (e1.trans e2.symm)
variable{E:KB->KF->Prop}{Q:Unit->KF->Prop}
def ol{M:Rj}{A:P3}{v:V}{u:KB}(I:Inv X pins σ H s)(hN:X.N.Nodup)(hi:X.N[i]?=be x)(hx:Loc X.env.scope x)(r:RelV v u)
  (h:∀s',Inv X pins (σ.set i (be v)) H s'->(∃a,Heap.SameBut a s.heap s'.heap/\(a=X.env.locals\/X.env.cells.lookup x=be a))->Q () s') (hf:autoParam (zFN X x) zA3):PY M A (storeName X.env x u) Q E s:=by
 obtain⟨m,hn,hl⟩:=id I.loc;have v5:(X.env.scope.kind== .class||(X.env.scope.kind== .module&&X.env.locals !=X.env.globals))=false:=by rw[I.ok.kind];rfl
 have hiσ:i<σ.length:=by rw[I.len];exact(Ev.mp hi).1
 have cne:=I.cne;have f_:∀{a:KM} {h':P4},(∃o,s.heap.get? a=be o/\H a=p7)->Heap.SameBut a s.heap h'->HOk X.prog X.w H h':=λ{a h'} ha hs b ob e=>by
  obtain⟨_,_,j6⟩:=ha;refine(I.hok b ob e).stay (λc w' hc q=>(hs.2 c ?_).trans q) (λ_ q=>q) λ_ _ q=>q;rintro rfl;rcases hc with rfl|hc
  .rw[j6]at e;cases e
  .rw[j6]at hc;cases hc
 rcases hx with hk|hk
 .refine wpAny_storeName_local hk hn (λh' j7 hs=>?_) v5;obtain⟨oL,_,_,MQ,_⟩:=id hn;refine h _ #[I.ok,I.os,I.bare,#[λb o e n hb hx=>?_,λb o e n hb hx=>?_,I.base.free,λb o e hx=>?_,I.base.tups,I.base.frzs,I.base.tbls],#[_,j7,λj y v' e1 e2 e3=>?_],λy c e=>?_,I.free,I.freeC,λp hp=>?_,f_ #[oL,MQ,I.free] hs,by simpa using I.len] #[_,hs,.inl rfl]
  .exact(hs.2 b (El (EF (Heap.lt_size e) I.ok.above))).trans (I.base.keep b o e n hb hx)
  .obtain⟨sl,e1⟩:=I.base.slot b o e n hb hx;exact#[sl,(hs.2 b (El (EF (Heap.lt_size e) I.ok.above))).trans e1]
  .obtain⟨o',e1⟩:=I.base.there b o e hx;exact#[o',(hs.2 b (El (EF (Heap.lt_size e) I.ok.above))).trans e1]
  .by_cases hj:j=i
   .subst hj;rw[hi]at e1;cases e1;rw[EU hiσ]at e2;cases e2;exact#[u,r,.inl #[hk,Iq]]
   .rw[Eu (Ne.symm hj)]at e2;obtain⟨u',r',q⟩:=hl j y v' e1 e2 e3;refine#[u',r',?_];rcases q with⟨k,e⟩|⟨k,c,e,z⟩
    .refine .inl #[k,?_];have:y≠x:=λe=>hj (iN hN e1 (e ▸ hi));simp[this,e]
    .exact .inr #[k,c,e,z.sameBut hs (cne y c e)]
  .obtain⟨w',z⟩:=I.cell y c e;exact#[w',z.sameBut hs (cne y c e)]
  .obtain⟨e,n,ne,nf,d⟩:=I.pin p hp;exact#[(hs.2 p.1 ne).trans e,n,ne,nf,d]
 .have KU:X.fn x=true:=by
   rcases hf with z|z
   .exact z
   .rw[z]at hk;cases hk
  obtain⟨c,hc⟩:=I.ok.has x (.inl hk);obtain⟨w',z⟩:=I.cell x c hc;refine wpAny_storeName_cell I.ok.kind hk hc z (λh' y_ hs=>?_);obtain⟨oc,MU,KW⟩:=id z;refine h {s with heap:=h'} #[I.ok,I.os,I.bare,#[λb o e n hb hx=>?_,λb o e n hb hx=>?_,I.base.free,λb o e hx=>?_,I.base.tups,I.base.frzs,I.base.tbls],#[m,hn.sameBut hs (Ne.symm (cne x c hc)),λj y v' e1 e2 e3=>?_],λy c' e=>?_,I.free,I.freeC,λp hp=>?_,f_ #[oc,MU,I.freeC x c hc] hs,by simpa using I.len] #[c,hs,.inr hc]
  .exact(hs.2 b (El (EF (Heap.lt_size e) (I.ok.cab x c KU hc)))).trans (I.base.keep b o e n hb hx)
  .obtain⟨sl,e1⟩:=I.base.slot b o e n hb hx;exact#[sl,(hs.2 b (El (EF (Heap.lt_size e) (I.ok.cab x c KU hc)))).trans e1]
  .obtain⟨o',e1⟩:=I.base.there b o e hx;exact#[o',(hs.2 b (El (EF (Heap.lt_size e) (I.ok.cab x c KU hc)))).trans e1]
  .by_cases hj:j=i
   .subst hj;rw[hi]at e1;cases e1;rw[EU hiσ]at e2;cases e2;exact#[u,r,.inr #[.inl hk,c,hc,y_]]
   .rw[Eu (Ne.symm hj)]at e2;obtain⟨u',r',q⟩:=hl j y v' e1 e2 e3;refine#[u',r',?_];rcases q with q|⟨k,c',e,z'⟩
    .exact .inl q
    .refine .inr #[k,c',e,z'.sameBut hs ?_];rintro rfl;exact hj (iN hN e1 (I.ok.inj _ _ _ e hc ▸ hi))
  .by_cases MV:c'=c
   .subst MV;exact#[_,y_]
   .obtain⟨w2,z2⟩:=I.cell y c' e;exact#[w2,z2.sameBut hs MV]
  .obtain⟨e,n,ne,nf,d⟩:=I.pin p hp;refine#[(hs.2 p.1 ?_).trans e,n,ne,nf,d];intro q;rw[q,MU]at e;have q':oc=p.2:=Option.some.inj e;exact d w' (by rw[<-q'];exact KW)
def cZ{M:Rj}{A:P3}{v:V}{u:KB}(I:Inv X pins σ H s)(hN:X.N.Nodup)(hi:X.N[i]?=be x)(hx:Loc X.env.scope x)(r:RelV v u)
  (h:∀s',Inv X pins (σ.set i (be v)) H s'->Q () s') (hf:autoParam (zFN X x) zA3):PY M A (storeName X.env x u) Q E s:=
 ol I hN hi hx r (λs' I' _=>h s' I') hf
def Inv.call'{s':KF}(I:Inv X pins σ H s)(ho:s'.os=s.os)(u:Un (frs X.stack) ch H H' s.heap s'.heap)(hok:HOk X.prog X.w H' s'.heap)(hg:QK s'.gens)
  (y':∀b∈ch,(b∈X.ex\/X.s₀.heap.objs.size<=b)/\b≠X.env.locals/\(∀x c,X.env.cells.lookup x=be c->c≠b)/\∀p∈X.pn++pins,p.1≠b):Inv X pins σ H' s':=by
 obtain⟨h',g',d',t',o'⟩:=s';have e:o'=s.os:=ho;subst e;exact I.call (g':=g') (t':=t') (d':=d') u hok hg y'
end
abbrev XK:=KB->Option KM->Hp->Prop
abbrev St:=List (Option V)
abbrev VK:=V->Hp->Prop
abbrev TE:=St->Hp->VK->Prop
abbrev TT:=St->Hp->(Bool->Hp->Prop)->Prop
abbrev TA:=St->Hp->(List V->Hp->Prop)->Prop
structure Ends where
 nx:St->Hp->Prop
 rt:VK
 bk:St->Hp->Prop:=λ_ _=>False
 ct:St->Hp->Prop:=λ_ _=>False
abbrev TS:=Ends->St->Hp->Prop
def EP(X:Cx)(pins:List (KM×Qc))(σ:St)(Q:VK)(u:KB)(s':KF):Prop:=∃v H',Inv X pins σ H' s'/\RelV v u/\Q v H'
def TP(X:Cx)(pins:List (KM×Qc))(σ:St)(Q:Bool->Hp->Prop)(b:Bool)(s':KF):Prop:=∃H',Inv X pins σ H' s'/\Q b H'
def AP(X:Cx)(pins:List (KM×Qc))(σ:St)(Q:List V->Hp->Prop)(us:List KB)(s':KF):Prop:=∃vs H',Inv X pins σ H' s'/\Vals vs us/\Q vs H'
def SP(X:Cx)(pins:List (KM×Qc))(D:Ends)(f:Flow)(s':KF):Prop:=
 match f with
 |.next=>∃σ' H',Inv X pins σ' H' s'/\D.nx σ' H'
 |.brk=>∃σ' H',Inv X pins σ' H' s'/\D.bk σ' H'
 |.cont=>∃σ' H',Inv X pins σ' H' s'/\D.ct σ' H'
 |.ret u=>∃v σ' H',Inv X pins σ' H' s'/\RelV v u/\D.rt v H'
def PE(X:Cx)(e:PV)(t:TE):Prop:=
 ∀(pins:List (KM×Qc)) (s:KF) (σ:St) (H:Hp) (Q:VK),Inv X pins σ H s->t σ H Q->PY (PU X.prog X.w) X.A (P7 e X.env) (EP X pins σ Q) X.xe s
def PT(X:Cx)(e:PV)(t:TT):Prop:=
 ∀(pins:List (KM×Qc)) (s:KF) (σ:St) (H:Hp) (Q:Bool->Hp->Prop),Inv X pins σ H s->t σ H Q->PY (PU X.prog X.w) X.A (isTrue e X.env (P7 e X.env)) (TP X pins σ Q) X.xe s
def PW(X:Cx)(e:PV)(t:TT):Prop:=
 ∀(g9:Rx KB) (pins:List (KM×Qc)) (s:KF) (σ:St) (H:Hp) (Q:Bool->Hp->Prop),Inv X pins σ H s->t σ H Q->PY (PU X.prog X.w) X.A (isTrue e X.env g9) (TP X pins σ Q) X.xe s
variable{X:Cx}
def PW.pt{e:PV}{t:TT}(h:PW X e t):PT X e t:=h _
def PA(X:Cx)(es:List PV)(t:TA):Prop:=
 ∀(pos:Qa) (pins:List (KM×Qc)) (s:KF) (σ:St) (H:Hp) (Q:List V->Hp->Prop),Inv X pins σ H s->t σ H Q->PY (PU X.prog X.w) X.A (spliced (QM pos (P1 es X.env))) (AP X pins σ Q) X.xe s
def PS(X:Cx)(st:P0)(t:TS):Prop:=
 ∀(pins:List (KM×Qc)) (s:KF) (σ:St) (H:Hp) (D:Ends),Inv X pins σ H s->t D σ H->PY (PU X.prog X.w) X.A (exec st X.env) (SP X pins D) X.xe s
def PSs(X:Cx)(st:List P0)(t:TS):Prop:=
 ∀(pins:List (KM×Qc)) (s:KF) (σ:St) (H:Hp) (D:Ends),Inv X pins σ H s->t D σ H->PY (PU X.prog X.w) X.A (execs st X.env) (SP X pins D) X.xe s
variable{A:P3}{E:KB->KF->Prop}{s:KF}
def thn{α:Type}{t:Rx α}{Q Q':α->KF->Prop}{M:Rj}(h:PY M A t Q E s)(hQ:∀a s,Q a s->Q' a s):PY M A t Q' E s:=P8 h hQ λ_ _ x=>x
section
variable {X:Cx}
def tVar(i:Nat):TE:=λσ H Q=>∃v,σ[i]?=be (be v)/\Q v H
def tC(v:V):TE:=λ_ H Q=>Q v H
variable{x:E_}{pos:Qa}
def dN{i:Nat}(hN:X.N[i]?=be x)(hv:Vis X.env.scope x)(hd:autoParam (zND x) zA1)(i9:autoParam (zNC x) zA1):PE X (.Name x pos) (tVar i):=by
 intro pins s σ H Q I h;obtain⟨v,e,h⟩:=h;obtain⟨m,hn,hl⟩:=I.loc;obtain⟨u,r,l⟩:=hl i x v hN e hv;have e_:EP X pins σ Q u s:=#[v,H,I,r,h];rcases l with⟨hk,hm⟩|⟨hk,c,hc,m4⟩
 .exact RA (wpAny_loadName_local I.ok.kind hk hn hm e_) hd
 .rcases hk with hk|hk
  .exact RA (wpAny_loadName_cell I.ok.kind hk hc m4 e_) hd
  .exact RA (wpAny_loadName_free I.ok.kind hk hc m4 e_ i9) hd
def tK{i j pos}:PE X (.Constant (.int i) j pos) (tC (.int i)):=λ_ _ _ H _ I h=>wpAny_Constant_int #[.int i,H,I.tok _,#[_,rfl],h]
def tL{b j pos}:PE X (.Constant (.bool b) j pos) (tC (.bl b)):=λ_ _ _ H _ I h=>Constant_bool #[.bl b,H,I,rfl,h]
def tM{j pos}:PE X (.Constant .none j pos) (tC .non):=λ_ _ _ H _ I h=>Constant_none #[.non,H,I,rfl,h]
def om{x j pos}:PE X (.Constant (.str x) j pos) (tC (.str x)):=λ_ _ _ H _ I h=>Calls.Constant_str #[.str x,H,I.tok _,#[_,rfl],h]
def Gl(X:Cx)(x:E_):Prop:=X.env.kindOf x=be .globalImplicit
variable{E Q:KB->KF->Prop}{pins:List (KM×Qc)}{u:KB}
def cG{s:KF}{σ:St}{H:Hp}(I:Inv X pins σ H s)(hg:Gl X x)(hm:X.mg x=be u)(h:Q u s)
  (hd:autoParam (zND x) zA1):PY (PU X.prog X.w) X.A (P7 (.Name x pos) X.env) Q E s:=
 Calls.Name_function_global I.ok.kind hg (Calls.loadGlobal_global (by rw[I.ok.glob];exact I.mod.glob.keeps I.bk) hm h) hd
def db{s:KF}{σ:St}{H:Hp}(I:Inv X pins σ H s)(hg:Gl X x)(hm:X.mg x=p7)(hv:Qd x=be u)(h:Q u s)
  (hn:autoParam (x≠"__name__") zA1) (hd:autoParam (zND x) zA1):PY (PU X.prog X.w) X.A (P7 (.Name x pos) X.env) Q E s:=by
 obtain⟨mb,h1,h2⟩:=I.mod.blt;exact Calls.Name_function_global I.ok.kind hg (Calls.loadGlobal_builtin (by rw[I.ok.glob];exact I.mod.glob.keeps I.bk) hm (by rw[I.ok.blt];exact h1.keeps I.bk) ((h2 x hn).trans hv) h) hd
def oq{v:V}(hg:Gl X x)(hm:X.mg x=be u)(r:RelV v u)(hd:autoParam (zND x) zA1):PE X (.Name x pos) (tC v):=
 λ_ _ _ H _ I h=>cG I hg hm #[v,H,I,r,h] hd
def ot{v:V}(hg:Gl X x)(hm:X.mg x=p7)(hv:Qd x=be u)(r:RelV v u)(hn:autoParam (x≠"__name__") zA1)(hd:autoParam (zND x) zA1):PE X (.Name x pos) (tC v):=
 λ_ _ _ H _ I h=>db I hg hm hv #[v,H,I,r,h] hn hd
variable {a b:PV}{ta tb:TE}{pos:Qa}
variable {tA B_:TT}{b7:List PV}
def tAnd(t u:TT):TT:=λσ H Q=>t σ H λc H1=>if c=true then u σ H1 Q else Q false H1
def tOr(t u:TT):TT:=λσ H Q=>t σ H λc H1=>if c=true then Q true H1 else u σ H1 Q
def tNot(t:TT):TT:=λσ H Q=>t σ H λc H1=>Q (!c) H1
def ou(ha:PT X a tA):PW X (.BoolOp .And [a] pos) tA:=by
 intro wh pins s σ H Q I h;refine isTrue_and (thn (ha pins s σ H Q I h) λc s1 e=>?_);cases c with
 |true=>exact isTrue_and_nil e
 |false=>exact e
def ow(ha:PT X a tA):PW X (.BoolOp .Or [a] pos) tA:=by
 intro wh pins s σ H Q I h;refine isTrue_or (thn (ha pins s σ H Q I h) λc s1 e=>?_);cases c with
 |false=>exact isTrue_or_nil e
 |true=>exact e
def oy(ha:PT X a tA)(hb:PW X (.BoolOp .And (b::b7) pos) B_):PW X (.BoolOp .And (a::b::b7) pos) (tAnd tA B_):=by
 intro wh pins s σ H Q I h;refine isTrue_and (thn (ha pins s σ H _ I h) λc s1 b_=>?_);obtain⟨H1,I1,q1⟩:=b_;cases c with
 |true=>exact hb wh pins s1 σ H1 Q I1 q1
 |false=>exact#[H1,I1,q1]
def oz(ha:PT X a tA)(hb:PW X (.BoolOp .Or (b::b7) pos) B_):PW X (.BoolOp .Or (a::b::b7) pos) (tOr tA B_):=by
 intro wh pins s σ H Q I h;refine isTrue_or (thn (ha pins s σ H _ I h) λc s1 b_=>?_);obtain⟨H1,I1,q1⟩:=b_;cases c with
 |true=>exact#[H1,I1,q1]
 |false=>exact hb wh pins s1 σ H1 Q I1 q1
def tN(ha:PT X a tA):PT X (.UnaryOp .Not a pos) (tNot tA):=by
 intro pins s σ H Q I h;exact isTrue_not (ha pins s σ H (λc H1=>Q (!c) H1) I h)
def tO(ta tb:TE):TE:=λσ H Q=>ta σ H λx H1=>∃c,x=.bl c/\if c=true then tb σ H1 Q else Q (.bl false) H1
def tOrV(ta tb:TE):TE:=λσ H Q=>ta σ H λx H1=>∃c,x=.bl c/\if c=true then Q (.bl true) H1 else tb σ H1 Q
def tQ(ta:TE):TE:=λσ H Q=>ta σ H λx H1=>∃c,x=.bl c/\Q (.bl (!c)) H1
def tR{op}{t:TE}(h:PE X a t):PE X (.BoolOp op [a] pos) t:=λpins s σ H Q I hw=>BoolOp_one (h pins s σ H Q I hw)
def tS(ha:PE X a ta)(hb:PE X (.BoolOp .And (b::b7) pos) tb):PE X (.BoolOp .And (a::b::b7) pos) (tO ta tb):=by
 intro pins s σ H Q I h;refine BoolOp_and (thn (ha pins s σ H _ I h) λv s1 b_=>?_);obtain⟨x,H1,I1,r1,q1⟩:=b_;obtain⟨c,rfl,q1⟩:=q1;cases r1;refine Qg ?_;cases c with
 |true=>exact hb pins s1 σ H1 Q I1 q1
 |false=>exact#[.bl false,H1,I1,rfl,q1]
def tT(ha:PE X a ta)(hb:PE X (.BoolOp .Or (b::b7) pos) tb):PE X (.BoolOp .Or (a::b::b7) pos) (tOrV ta tb):=by
 intro pins s σ H Q I h;refine BoolOp_or (thn (ha pins s σ H _ I h) λv s1 b_=>?_);obtain⟨x,H1,I1,r1,q1⟩:=b_;obtain⟨c,rfl,q1⟩:=q1;cases r1;refine Qg ?_;cases c with
 |false=>exact hb pins s1 σ H1 Q I1 q1
 |true=>exact#[.bl true,H1,I1,rfl,q1]
def tU(ha:PE X a ta):PE X (.UnaryOp .Not a pos) (tQ ta):=by
 intro pins s σ H Q I h;refine UnaryOp_ (thn (ha pins s σ H _ I h) λv s1 b_=>?_);obtain⟨x,H1,I1,r1,q1⟩:=b_;obtain⟨c,rfl,q1⟩:=q1;cases r1;exact not_of (Qg #[.bl (!c),H1,I1,rfl,q1])
def tIf(t:TT)(ta tb:TE):TE:=λσ H Q=>t σ H λc H1=>if c=true then ta σ H1 Q else tb σ H1 Q
def oA{c:PV}(hc:PT X c tA)(ha:PE X a ta)(hb:PE X b tb):PE X (.IfExp c a b pos) (tIf tA ta tb):=by
 intro pins s σ H Q I h;refine wpAny_IfExp (thn (hc pins s σ H _ I h) λd s1 b_=>?_);obtain⟨H1,I1,q1⟩:=b_;cases d with
 |true=>exact ha pins s1 σ H1 Q I1 q1
 |false=>exact hb pins s1 σ H1 Q I1 q1
end
def SqL(K:Ef)(H:Hp)(a:KM)(xs:List V):Prop:=
 Rd H a (.lst xs)\/
  ∃(o:Qc) (its:Array KB) (n:Nat),K.lookup a=be o/\o.cls=.type "list"/\o.dict=p7/\o.data=.seq its n/\its.size<=sizeLine/\Vals xs its.toList
def SqT(K:Ef)(H:Hp)(a:KM)(xs:List V):Prop:=
 Rd H a (.tup xs)\/
  ∃(o:Qc) (its:Array KB) (n:Nat),K.lookup a=be o/\o.cls=.type "tuple"/\o.data=.seq its n/\its.size<=sizeLine/\Vals xs its.toList
def absV:KB->Option V
 |.none=>be .non
 |.bool b=>be (.bl b)
 |.int i _=>be (.int i)
 |.str x _=>be (.str x)
 |.bytes b _=>be (.byt b)
 |.float b _=>be (.flt b)
 |.ref a=>be (.ref a)
 |.type n=>be (.ty n)
 |_=>p7
variable{u:KB}
def RelV.abs{x:V}(r:RelV x u):absV u=be x:=by
 cases x with
 |non=>cases r;rfl
 |bl _=>cases r;rfl
 |int _=>obtain⟨t,rfl⟩:=r;rfl
 |str _=>obtain⟨t,rfl⟩:=r;rfl
 |byt _=>obtain⟨t,rfl⟩:=r;rfl
 |flt _=>obtain⟨t,rfl⟩:=r;rfl
 |ref _=>cases r;rfl
 |ty _=>cases r;rfl
def RelV.inj{x y:V}(r:RelV x u)(q:RelV y u):x=y:=Option.some.inj (r.abs.symm.trans q.abs)
def Vals.inj:∀{xs ys:List V} {us:List KB},Vals xs us->Vals ys us->xs=ys:=by
 intro xs ys us h;induction h generalizing ys with
 |nil=>intro g;cases g;rfl
 |cons r _ e=>
  intro g;cases g with
  |cons r' t'=>rw[r.inj r',e t']
section
variable {X:Cx}{pins:List (KM×Qc)}{σ:St}{H:Hp}{s:KF}{a:KM}{xs ys:List V}
def SqL.of{K:Ef}(h:H a=be (.lst xs)):SqL K H a xs:=.inl (.inl h)
def SqT.of{K:Ef}(h:H a=be (.tup xs)):SqT K H a xs:=.inl (.inl h)
def Inv.list(I:Inv X pins σ H s)(h:SqL X.K H a xs):∃its:List KB,Vals xs its/\PlainL s.heap a its.toArray/\xs.length<=sizeLine:=by
 rcases h with h|⟨o,its,n,hk,hc,hd,hs,hz,r⟩
 .obtain⟨z,its,n,r,e⟩:=h.ok I.hok;exact#[its,r,#[_,n,e,rfl,rfl,rfl],z]
 .refine#[its.toList,r,#[o,n,I.kIn a o hk,hc,hd,by simpa using hs],?_];have e:=r.length;simp only[FT]at e;lia
def Inv.tuple(I:Inv X pins σ H s)(h:SqT X.K H a xs):∃its:List KB,Vals xs its/\IsTup s.heap a its.toArray/\xs.length<=sizeLine:=by
 rcases h with h|⟨o,its,n,hk,hc,hs,hz,r⟩
 .obtain⟨z,its,r,p⟩:=h.ok I.hok;exact#[its,r,p,z]
 .refine#[its.toList,r,#[o,I.kIn a o hk,hc,n,by simpa using hs],?_];have e:=r.length;simp only[FT]at e;lia
def Inv.list_inj(I:Inv X pins σ H s)(h:SqL X.K H a xs)(h':SqL X.K H a ys):xs=ys:=by
 obtain⟨its,r,⟨o,n,e,_,_,d⟩,_⟩:=I.list h;obtain⟨its',r',⟨o',n',e',_,_,d'⟩,_⟩:=I.list h';rw[e]at e';cases e';rw[d]at d';injection d' with d1 _;have:its=its':=by simpa using congrArg Array.toList d1
 subst this;exact r.inj r'
end
abbrev Cx.wish(X:Cx)(E:KB->KF->Prop):Cx:={X with xe:=E}
abbrev Cx.nox(X:Cx):Cx:=X.wish λ_ _=>False
def Cx.Ok.wish(ok:X.Ok)(E:KB->KF->Prop):(X.wish E).Ok:=
 #[ok.mod,ok.kind,ok.glob,ok.blt,ok.above,ok.inj,ok.has,ok.cab,ok.hd,ok.frames,ok.stk,ok.exf,ok.bs,ok.bsz,ok.noex,ok.exfs,ok.funs,ok.frf]
def Cx.Ok.unwish(ok:(X.wish E).Ok):X.Ok:=
 #[ok.mod,ok.kind,ok.glob,ok.blt,ok.above,ok.inj,ok.has,ok.cab,ok.hd,ok.frames,ok.stk,ok.exf,ok.bs,ok.bsz,ok.noex,ok.exfs,ok.funs,ok.frf]
section
variable {X:Cx}{pins:List (KM×Qc)}{σ:St}{H:Hp}{s:KF}{E:KB->KF->Prop}
def Inv.wish(I:Inv X pins σ H s)(E:KB->KF->Prop):Inv (X.wish E) pins σ H s:=#[I.ok.wish E,I.os,I.bare,I.base,I.loc,I.cell,I.free,I.freeC,I.pin,I.hok,I.len]
def Inv.unwish(I:Inv (X.wish E) pins σ H s):Inv X pins σ H s:=#[I.ok.unwish,I.os,I.bare,I.base,I.loc,I.cell,I.free,I.freeC,I.pin,I.hok,I.len]
def SP.unwish{D:Ends}{f:Flow}{s':KF}(h:SP (X.wish E) pins D f s'):SP X pins D f s':=by
 cases f with
 |next=>obtain⟨σ',H',I,q⟩:=h;exact#[σ',H',I.unwish,q]
 |brk=>obtain⟨σ',H',I,q⟩:=h;exact#[σ',H',I.unwish,q]
 |cont=>obtain⟨σ',H',I,q⟩:=h;exact#[σ',H',I.unwish,q]
 |ret u=>obtain⟨v,σ',H',I,r,q⟩:=h;exact#[v,σ',H',I.unwish,r,q]
def PSs.nox{st:List P0}{t:TS}(h:PSs X.nox st t):PSs X st t:=λpins s σ H D I hw=>
 P8 (h pins s σ H D (I.wish _) hw) (λ_ _ q=>q.unwish) λ_ _ z=>False.elim z
end
section
variable {X:Cx}{st:P0}{b7:List P0}{t u:TS}{e:PV}{te:TE}{pos:Qa}
def tV:TS:=λD σ H=>D.nx σ H
def tSeq(t u:TS):TS:=λD σ H=>t {D with nx:=u D} σ H
def pss_nil:PSs X [] tV:=λ_ _ σ H _ I h=>QC #[σ,H,I,h]
def iO(h1:PS X st t)(h2:PSs X b7 u):PSs X (st::b7) (tSeq t u):=by
 intro pins s σ H D I h;refine wpAny_execs_cons (thn (h1 pins s σ H {D with nx:=u D} I h) λf s1 q=>?_);cases f with
 |next=>
  obtain⟨σ',H',I',q⟩:=q;exact h2 pins s1 σ' H' D I' q
 |ret v=>exact q
 |brk=>exact q
 |cont=>exact q
def oB(h1:PS X st t):PSs X [st] t:=by
 intro pins s σ H D I h;refine wpAny_execs_cons (thn (h1 pins s σ H D I h) λf s1 q=>?_);cases f with
 |next=>exact QC q
 |ret v=>exact q
 |brk=>exact q
 |cont=>exact q
def Inv.quiet{pins:List (KM×Qc)}{σ:St}{H:Hp}{s:KF}(I:Inv X pins σ H s):interactive X.env=false:=by simp[interactive,I.ok.kind]
def tW(te:TE):TS:=λD σ H=>te σ H λ_ H1=>D.nx σ H1
def iP(he:PE X e te)(hs:autoParam (Qf e p7 pos.line X.env=pure false) zA0):PS X (.Expr e pos) (tW te):=by
 intro pins s σ H D I h;exact wpAny_Expr_any (thn (he pins s σ H _ I h) λv s1 ⟨x,H1,I1,r1,q1⟩=>#[σ,H1,I1,q1]) I.quiet hs
def tRet(te:TE):TS:=λD σ H=>te σ H D.rt
def oC(he:PE X e te):PS X (.Return (be e) pos) (tRet te):=by
 intro pins s σ H D I h;exact wpAny_Return_some (thn (he pins s σ H _ I h) λv s1 ⟨x,H1,I1,r1,q1⟩=>#[x,σ,H1,I1,r1,q1])
def tIfS(c:TT)(t u:TS):TS:=λD σ H=>c σ H λb H1=>if b=true then t D σ H1 else u D σ H1
def oE{c:PV}{a b:List P0}{tc:TT}(hc:PT X c tc)(ha:PSs X a t)(hb:PSs X b u):PS X (.If c a b pos) (tIfS tc t u):=by
 intro pins s σ H D I h;refine wpAny_If (thn (hc pins s σ H _ I h) λd s1 b_=>?_);obtain⟨H1,I1,q1⟩:=b_;cases d with
 |true=>exact ha pins s1 σ H1 D I1 q1
 |false=>exact hb pins s1 σ H1 D I1 q1
def tX:TS:=λ_ _ _=>False
def ps_never:PS X st tX:=λ_ _ _ _ _ _ h=>h.elim
end
abbrev TG:=V->St->Hp->(St->Hp->Prop)->Prop
abbrev TGs:=List V->St->Hp->(St->Hp->Prop)->Prop
def PG(X:Cx)(d6:PV)(t:TG):Prop:=
 ∀(pins:List (KM×Qc)) (s:KF) (σ:St) (H:Hp) (v:V) (u:KB) (Q:St->Hp->Prop),Inv X pins σ H s->RelV v u->t v σ H Q->
  PY (PU X.prog X.w) X.A (Qw d6 X.env u) (λ_ s'=>∃σ' H',Inv X pins σ' H' s'/\Q σ' H') X.xe s
def PGs(X:Cx)(ts:List PV)(t:TGs):Prop:=
 ∀(pins:List (KM×Qc)) (s:KF) (σ:St) (H:Hp) (vs:List V) (us:List KB) (Q:St->Hp->Prop),Inv X pins σ H s->Vals vs us->t vs σ H Q->
  PY (PU X.prog X.w) X.A (Rf ((P5 ts X.env).map (·.2)) us) (λ_ s'=>∃σ' H',Inv X pins σ' H' s'/\Q σ' H') X.xe s
abbrev TSet:=V->V->V->Hp->(Hp->Prop)->Prop
def PSet(X:Cx)(t:TSet):Prop:=
 ∀(pins:List (KM×Qc)) (s:KF) (σ:St) (H:Hp) (o i v:V) (ov iv u:KB) (Q:Hp->Prop),Inv X pins σ H s->RelV o ov->RelV i iv->RelV v u->t o i v H Q->
  PY (PU X.prog X.w) X.A (Rm ov iv u) (λ_ s'=>∃H',Inv X pins σ H' s'/\Q H') X.xe s
abbrev TIp:=V->V->Hp->VK->Prop
def PIp(X:Cx)(op:Re)(t:TIp):Prop:=
 ∀(pins:List (KM×Qc)) (s:KF) (σ:St) (H:Hp) (x y:V) (v u:KB) (Q:VK),Inv X pins σ H s->RelV x v->RelV y u->t x y H Q->
  PY (PU X.prog X.w) X.A (inplaceOp op v u) (EP X pins σ Q) X.xe s
section
variable {X:Cx}{pos:Qa}
def eX(i:Nat):TG:=λv σ H Q=>Q (σ.set i (be v)) H
variable{i:Nat}{x:E_}
def eY(hN:X.N.Nodup)(hi:X.N[i]?=be x)(hx:Loc X.env.scope x)(hf:autoParam (zFN X x) zA3):PG X (.Name x pos) (eX i):=by
 intro pins s σ H v u Q I r h;exact QI (cZ I hN hi hx r (λs' I'=>#[_,H,I',h]) hf)
def gNil:TGs:=λvs σ H Q=>vs=[]/\Q σ H
def tY(t:TG)(u:TGs):TGs:=λvs σ H Q=>∃v r,vs=v::r/\t v σ H λσ' H'=>u r σ' H' Q
def tZ:PGs X [] gNil:=by
 intro pins s σ H vs us Q I r h;obtain⟨e,h⟩:=h;subst e;cases r;exact RJ #[σ,H,I,h]
variable{e:PV}{es:List PV}
def ub{t:TG}{u:TGs}(h1:PG X e t)(h2:PGs X es u)
  (hs:autoParam ((P5 (e::es) X.env).map (·.2)=Qw e X.env::(P5 es X.env).map (·.2)) zA0):PGs X (e::es) (tY t u):=by
 intro pins s σ H vs us Q I r h;obtain⟨v,vr,e1,h⟩:=h;subst e1;cases r with
 |cons r rr=>
  rw[hs];refine QZ (thn (h1 pins s σ H _ _ _ I r h) λ_ s1 b_=>?_);obtain⟨σ1,H1,I1,q1⟩:=b_;exact h2 pins s1 σ1 H1 _ _ Q I1 rr q1
def gTup(K:Ef)(n:Nat)(t:TGs):TG:=λv σ H Q=>∃a xs,v=.ref a/\SqT K H a xs/\xs.length=n/\t xs σ H Q
def fM{k:Nat}{t:TGs}{n:Nat}(hc:X.calm=true)(h:PGs X es t)
  (hn:autoParam ((P5 es X.env).length=n) zA0) (m5:autoParam ((P5 es X.env).findIdx? (·.1)=none) zA0):PG X (.Tuple es k pos) (gTup X.K n t):=by
 intro pins s σ H v u Q I r hw;obtain⟨a,xs,e1,hq,hl,hw⟩:=hw;subst e1;cases r;obtain⟨its,rv,ht,hz⟩:=I.tuple hq;refine assign_Tuple_tuple (I.ok.hd hc) ht (by simp[hn,<-hl,rv.length]) m5 λh' hx=>?_;have I1:Inv X pins σ H {s with heap:=h'}:=I.kept (t':=s.toks) λb o e=>hx b o (El (Heap.lt_size e)) e;exact h pins _ σ H xs _ Q I1 (by simpa using rv) hw
def gSub(to ti:TE)(t:TSet):TG:=λv σ H Q=>to σ H λo H1=>ti σ H1 λi H2=>t o i v H2 λH3=>Q σ H3
def uc{o i:PV}{to ti:TE}{t:TSet}(ho:PE X o to)(hi:PE X i ti)(hs:PSet X t)
  (ha:∀v,Qw (.Subscript o i pos) X.env v=(do
   let ov <-Qu [v] (P7 o X.env)
   let iv <-Qu [v,ov] (P7 i X.env)
   QV pos
   Qu [v,ov,iv] (Rm ov iv v)
   RG [v,ov,iv] []):=by intro _;rfl):PG X (.Subscript o i pos) (gSub to ti t):=by
 intro pins s σ H v u Q I r h;rw[ha];refine Os (Qi (thn (ho pins s σ H _ I h) λov s1 b_=>?_));obtain⟨x,H1,I1,r1,q1⟩:=b_;refine Os (Qi (thn (hi pins s1 σ H1 _ I1 q1) λiv s2 b_=>?_));obtain⟨y,H2,I2,r2,q2⟩:=b_;refine Os (Qn (Os (Qi (thn (hs pins s2 σ H2 x y v ov iv u _ I2 r1 r2 r q2) λ_ s3 b_=>?_))));obtain⟨H3,I3,q3⟩:=b_;exact wpAny_release #[σ,H3,I3,q3]
def tAsg(te:TE)(g:TG):TS:=λD σ H=>te σ H λx H1=>g x σ H1 D.nx
variable{te:TE}
def iQ{tg:PV}{g:TG}(he:PE X e te)(hg:PG X tg g)(hs:autoParam (Qx [tg] e pos.line X.env=pure false) zA0)(hw:autoParam (Qy [tg] e X.env=pure none) zA0)
  (h1:autoParam ((P5 [tg] X.env).map (·.2)=[Qw tg X.env]) zA0):PS X (.Assign [tg] e pos) (tAsg te g):=by
 intro pins s σ H D I h;refine wpAny_Assign_stores (thn (he pins s σ H _ I h) λv s1 hh=>?_) hs hw;obtain⟨x,H1,I1,r1,q1⟩:=hh;rw[h1];exact thn (hg pins s1 σ H1 x v _ I1 r1 q1) λ_ s2 q=>q
def iR{d9:Qa}(hN:X.N.Nodup)(hi:X.N[i]?=be x)(hx:Loc X.env.scope x)(he:PE X e te)(hs:autoParam (Qf e (be (.Name x d9)) pos.line X.env=pure false) zA0)(hf:autoParam (zFN X x) zA3):
  PS X (.Assign [.Name x d9] e pos) (tAsg te (eX i)):=by
 intro pins s σ H D I h;refine wpAny_Assign_Name (thn (he pins s σ H _ I h) λv s1 hh=>?_) hs;obtain⟨y,H1,I1,r1,q1⟩:=hh;exact cZ I1 hN hi hx r1 (λs2 I2=>#[_,H1,I2,q1]) hf
def tPar(i j:Nat)(ta:TA):TS:=λD σ H=>ta σ H λvs H1=>∃v w,vs=[v,w]/\D.nx ((σ.set i (be v)).set j (be w)) H1
def ud{j:Nat}{y:E_}{a b:PV}{ta:TA}{px py pt:Qa}{kt k2 Ie}(hc:X.calm=true)(hN:X.N.Nodup)(hi:X.N[i]?=be x)(hj:X.N[j]?=be y)(KY:i≠j)
  (hx:X.env.scope.names.lookup x=be .local) (hy:X.env.scope.names.lookup y=be .local) (ha:PA X [a,b] ta)
  (hw:Qy [.Tuple [.Name x px,.Name y py] kt pt] (.Tuple [a,b] k2 Ie) X.env=pure (be [x,y]))
  (hs:autoParam (Qx [.Tuple [.Name x px,.Name y py] kt pt] (.Tuple [a,b] k2 Ie) pos.line X.env=pure false) zA0):
  PS X (.Assign [.Tuple [.Name x px,.Name y py] kt pt] (.Tuple [a,b] k2 Ie) pos) (tPar i j ta):=by
 intro pins s σ H D I h;rw[exec_Assign_arm];refine Os (Qn ?_);rw[hs];refine Os (PX ?_);rw[if_neg Ik];refine Os (Tuple_ (thn (ha _ pins s σ H _ I h) λus s1 b_=>?_));obtain⟨vs,H1,I1,r1,q1⟩:=b_;obtain⟨v,w,e1,q1⟩:=q1;subst e1;obtain⟨u1,u2,rfl,rv,g6⟩:∃u1 u2,us=[u1,u2]/\RelV v u1/\RelV w u2:=by
  cases r1 with
  |cons p q=>
   cases q with
   |cons p' q'=>
    cases q';exact#[_,_,rfl,p,p']
 refine P_ ?_ (by show 2<=sizeLine;decide);have I2:Inv X pins σ H1 {s1 with heap:=s1.heap.push {cls:=.type "tuple",data:=.seq [u1,u2].toArray} }:=I1.kept (t':=s1.toks) λb o e=>Heap.get?_push_of_some _ e;rw[hw];refine Os (PX ?_);show PY (PU X.prog X.w) X.A (do rule "assign.swapped-stores";let items <-unpackItems (.ref s1.heap.objs.size) 2 p7;Rf [λv=>Rc X.env y v,λv=>Rc X.env x v] items.reverse;pure Flow.next) _ _ _;refine Os (Ry (Os (unpackItems_tuple (items:=[u1,u2].toArray) (I.ok.hd hc) (IsTup.new s1.heap _) λh' ge=>?_)));have I3:=I2.kept (h':=h') (t':=s1.toks) λb o e=>ge b o (El (Heap.lt_size e)) e;show PY _ _ (Rf [λv=>Rc X.env y v,λv=>Rc X.env x v] [u2,u1]>>=λ_=>pure Flow.next) _ _ _;refine Os (QZ (wpAny_bindName (cZ I3 hN hj (.inl hy) g6 (λs2 I4=>?_) (.inr hy))));refine QZ (wpAny_bindName (cZ I4 hN hi (.inl hx) rv (λs3 I5=>RJ (PX ?_)) (.inr hx)));rw[List.set_comm _ _ (Ne.symm KY)]at I5;exact#[_,H1,I5,q1]
def ue(to ti te:TE)(C_:V->V->Hp->VK->Prop)(Kl:TIp)(D_:TSet):TS:=λD σ H=>to σ H λo H1=>ti σ H1 λi H2=>C_ o i H2 λx H3=>te σ H3 λy H4=>Kl x y H4 λz H5=>D_ o i z H5 λH6=>D.nx σ H6
def PGet(X:Cx)(t:V->V->Hp->VK->Prop):Prop:=
 ∀(pins:List (KM×Qc)) (s:KF) (σ:St) (H:Hp) (o i:V) (ov iv:KB) (Q:VK),Inv X pins σ H s->RelV o ov->RelV i iv->t o i H Q->
  PY (PU X.prog X.w) X.A (Q8 ov iv) (EP X pins σ Q) X.xe s
def uf{o i:PV}{to ti:TE}{C_:V->V->Hp->VK->Prop}{Kl:TIp}{D_:TSet}{op:Re}{Jl:Qa}(ho:PE X o to)(hi:PE X i ti)(hg:PGet X C_)(he:PE X e te)(hp:PIp X op Kl)(hs:PSet X D_)
  (ha:autoParam (∀ov iv new,augStore i ov iv new=(do Qu [new,ov,iv] (Rm ov iv new);RG [new,ov,iv] [];pure .next)) zA7):PS X (.AugAssign (.Subscript o i Jl) op e pos) (ue to ti te C_ Kl D_):=by
 intro pins s σ H D I h;refine wpAny_AugAssign_SubscriptAny (thn (ho pins s σ H _ I h) λov s1 hh=>?_) ha;obtain⟨x1,H1,I1,r1,q1⟩:=hh;refine thn (hi pins s1 σ H1 _ I1 q1) λiv s2 b_=>?_;obtain⟨x2,H2,I2,r2,q2⟩:=b_;refine thn (hg pins s2 σ H2 x1 x2 ov iv _ I2 r1 r2 q2) λd8 s3 b_=>?_;obtain⟨x3,H3,I3,r3,q3⟩:=b_;refine thn (he pins s3 σ H3 _ I3 q3) λv s4 b_=>?_;obtain⟨x4,H4,I4,r4,q4⟩:=b_;refine thn (hp pins s4 σ H4 x3 x4 d8 v _ I4 r3 r4 q4) λnew s5 b_=>?_;obtain⟨x5,H5,I5,r5,q5⟩:=b_;exact thn (hs pins s5 σ H5 x1 x2 x5 ov iv new _ I5 r1 r2 r5 q5) λ_ s6 ⟨H6,I6,q6⟩=>#[σ,H6,I6,q6]
def ipI(f:Int->Int->Int):TIp:=λx y H Q=>∃i j,x=.int i/\y=.int j/\Q (.int (f i j)) H
def uh:PIp X .Add (ipI λi j=>i+j):=by
 intro pins s σ H x y v u Q I r1 r2 h;obtain⟨i,j,e1,e2,q⟩:=h;subst e1;subst e2;obtain⟨t,rfl⟩:=r1;obtain⟨t',rfl⟩:=r2;exact iadd_int #[.int _,H,I.tok _,#[_,rfl],q]
def ui(c:TT)(tb:TS):TS:=λD σ H=>∃W:Nat->St->Hp->Prop,(∃m,W m σ H)/\∀m σ H,W m σ H->
 c σ H λb H1=>if b=true then ∃N:St->Hp->Prop,(∀σ' H',N σ' H'->∃m',m'<m/\W m' σ' H')/\tb {D with nx:=N,ct:=N,bk:=D.nx} σ H1 else D.nx σ H1
def oF{c:PV}{body:List P0}{tc:TT}{tb:TS}(hp:Ql (PU X.prog X.w) X.A X.env X.xe)(hc:PT X c tc)(hb:PSs X body tb):PS X (.While c body [] pos) (ui tc tb):=by
 intro pins s σ H D I h;obtain⟨W,⟨m0,w0⟩,c9⟩:=h;refine wpAny_While (codeAny_whileLoop (λn s'=>∃σ' H',Inv X pins σ' H' s'/\W n σ' H') ?_ m0 #[σ,H,I,w0]);rintro n s1⟨σ1,H1,I1,w1⟩;refine Qm hp (thn (hc pins s1 σ1 H1 _ I1 (c9 n σ1 H1 w1)) λb s2 b_=>?_);obtain⟨H2,I2,q2⟩:=b_;cases b with
 |true=>
  obtain⟨N,hN,q2⟩:=q2;rw[if_pos rfl];refine Qm hp (thn (hb pins s2 σ1 H2 _ I2 q2) λf s3 q3=>?_);cases f with
  |next=>
   obtain⟨σ3,H3,I3,n3⟩:=q3;obtain⟨m',hm,w3⟩:=hN σ3 H3 n3;exact#[m',hm,σ3,H3,I3,w3]
  |cont=>
   obtain⟨σ3,H3,I3,n3⟩:=q3;obtain⟨m',hm,w3⟩:=hN σ3 H3 n3;exact#[m',hm,σ3,H3,I3,w3]
  |brk=>exact q3
  |ret v=>exact q3
 |false=>
  rw[if_neg Ew];exact QC #[σ1,H2,I2,q2]
end
structure It where
 go:Nat->Hp->Prop
 yld:Nat->Hp->V->Hp->Prop
 stop:Nat->Hp->Prop
def FpOk(X:Cx)(pins:List (KM×Qc))(H:Hp)(b:KM):Prop:=
 H b=p7/\b≠X.env.locals/\b∉X.fs/\(b∈X.ex\/X.s₀.heap.objs.size<=b)/\(∀x c,X.env.cells.lookup x=be c->c≠b)/\∀p∈X.pn++pins,p.1≠b
variable{σ:St}
def Inv.fpOk{pins:List (KM×Qc)}{H':Hp}(I:Inv X pins σ H s)(hb:s.heap.objs.size<=b)(hn:H' b=p7):FpOk X pins H' b:=by
 refine#[hn,E3 (EF I.lt hb),I.nofs hb,.inr (Eo I.sz hb),λx c e z=>?_,λp hp z=>?_]
 .obtain⟨v,q⟩:=I.cell x c e;exact absurd (EF q.lt (by rw[z];exact hb)) (Ff _)
 .exact absurd (EF (Heap.lt_size (I.pin p hp).1) (by rw[z];exact hb)) (Ff _)
structure Turn(P:PZ)(w:P2)(K:Ef)(tg:PV)(J:It)(fp:List KM)(it:KM)(tn:Nat->P4->Prop):Prop where
 mem:it∈fp
 obj:∀i h,tn i h->∀b∈fp,∃o,h.get? b=be o/\∀v,o.data≠.cell v
 keep:∀i h h',tn i h->(∀b∈fp,∀o,h.get? b=be o->h'.get? b=be o)->tn i h'
 item:∀(X:Cx),X.prog=P->X.w=w->X.K=K->X.calm=true->∀(i:Nat) (pins:List (KM×Qc)) (s:KF) (σ:St) (H:Hp) (E:KB->KF->Prop),Inv X pins σ H s->(∀b∈fp,FpOk X pins H b)->tn i s.heap->J.go i H->
  PY (PU P w) X.A (pyNext (.ref it)) (λr s1=>∃u,r=be u/\
   PY (PU P w) X.A (QE tg (.ref it) u) (λ_ s2=>∃x H',Inv X pins σ H' s2/\RelV x u/\J.yld i H x H'/\tn (i+1) s2.heap/\∀b∈fp,H' b=p7) E s1) E s
 done:∀(X:Cx),X.prog=P->X.w=w->X.K=K->X.calm=true->∀(i:Nat) (pins:List (KM×Qc)) (s:KF) (σ:St) (H:Hp) (E:KB->KF->Prop),Inv X pins σ H s->(∀b∈fp,FpOk X pins H b)->tn i s.heap->J.stop i H->
  PY (PU P w) X.A (pyNext (.ref it)) (λr s1=>r=p7/\Inv X pins σ H s1) E s
 self:∀(A:P3) (i:Nat) (s:KF) (Q:KB->KF->Prop) (E:KB->KF->Prop),tn i s.heap->Q (.ref it) s->PY (PU P w) A (pyIter (.ref it)) Q E s
abbrev TI:=St->Hp->(It->Hp->Prop)->Prop
def PIE(X:Cx)(pins:List (KM×Qc))(σ:St)(tg:PV)(R:It->Hp->Prop)(Jn:KB)(s2:KF):Prop:=
 ∃(it:KM) (fp:List KM) (tn:Nat->P4->Prop) (J:It) (H':Hp),Jn=.ref it/\Inv X pins σ H' s2/\Turn X.prog X.w X.K tg J fp it tn/\tn 0 s2.heap/\(∀b∈fp,FpOk X pins H' b)/\R J H'
def PI(X:Cx)(tg iter:PV)(wi:TI):Prop:=
 ∀(pins:List (KM×Qc)) (s:KF) (σ:St) (H:Hp) (R:It->Hp->Prop),Inv X pins σ H s->wi σ H R->
  PY (PU X.prog X.w) X.A (P7 iter X.env) (λv s1=>PY (PU X.prog X.w) X.A (pyIter v) (PIE X pins σ tg R) X.xe s1) X.xe s
variable{tg:PV}
def iS{M:Rj}{it:KM}{o:Qc}{n:String}{vs:Array KB}{Q:Unit->KF->Prop}(ho:s.heap.get? it=be o)(hc:o.cls=.type n)(hd:o.data=.fields vs)
    (hn:["enumerate","zip","dict_itemiterator","dict_reverseitemiterator","odict_iterator","itertools.zip_longest","itertools.pairwise"].contains n=false) (hQ:Q () s):PY M A (QE tg (.ref it) u) Q E s:=by
  unfold QE;cases tg<;>first
    |exact PX hQ
    |(cases u<;>first
        |exact PX hQ
        |( refine Os (wpAny_load ho ?_)
           rw[hc,hd];show PY M A (if(["enumerate","zip","dict_itemiterator","dict_reverseitemiterator","odict_iterator","itertools.zip_longest","itertools.pairwise"].contains n&&vs[0]?==be (QD _))=true then _ else _) Q E s;rw[if_neg (by intro h;rw[hn,Bool.false_and]at h;cases h)];exact PX hQ))
def Itl(K:Ef)(a:KM):It:=
 #[λi H=>∃xs x,SqL K H a xs/\xs[i]?=be x,λi H x H'=>H'=H/\∀xs,SqL K H a xs->xs[i]?=be x,λi H=>∃xs,SqL K H a xs/\xs.length<=i]
def Itr(lo:Int)(n:Nat):It:=#[λi _=>i<n,λi H x H'=>H'=H/\x=.int (lo+i),λi _=>n<=i]
variable{K:Ef}
def uj(a it:KM):Turn P w K tg (Itl K a) [it] it (λi h=>h.IsListIter it a i) where
 mem:=Iq
 obj:=λi h st b hb=>by
  have e:b=it:=by simpa using hb
  subst e;obtain⟨o,e,c,d⟩:=st;exact#[o,e,λv z=>by rw[d]at z;cases z]
 keep:=λi h h' st k=>st.at λo e=>k it Iq o e
 item:=by
  intro X hP hw hK hc i pins s σ H E I hf st hg;subst hP hw hK;obtain⟨xs,x,hq,hx⟩:=hg;obtain⟨its,rv,p,hz⟩:=I.list hq;obtain⟨u,hu,ru⟩:=rv.get hx;obtain⟨f0,f1,f2,f3,f4,f5⟩:=hf it Iq;refine wpAny_pyNext_list_item st p.isList (x:=u) (by simpa using hu) λh' z6 sb=>?_;have I1:Inv X pins σ H {s with heap:=h'}:=I.turned (t':=s.toks) (λb o hb e=>(sb.2 b hb).trans e) f0 f1 f3 f4 f5;obtain⟨o,e,c,d⟩:=id z6;exact#[u,rfl,iS (s:={s with heap:=h'}) e c d Ik #[x,H,I1,ru,#[rfl,λys hy=>by rw[I.list_inj hy hq];exact hx],z6,λb hb=>(hf b hb).1]]
 done:=by
  intro X hP hw hK hc i pins s σ H E I hf st hg;subst hP hw hK;obtain⟨xs,hq,hx⟩:=hg;obtain⟨its,rv,p,hz⟩:=I.list hq;obtain⟨f0,f1,f2,f3,f4,f5⟩:=hf it Iq;have hl:=rv.length;exact wpAny_pyNext_list_end (I.ok.hd hc) st p.isList Pl λh' eb=>#[rfl,I.turned (t':=s.toks) (λb o hb e=>eb b o hb e) f0 f1 f3 f4 f5]
 self:=λ_ _ _ _ _ st h=>wpAny_pyIter_listiter st h
def uk(it:KM)(lo:Int)(n:Nat):Turn P w K tg (Itr lo n) [it] it (λi h=>IsRangeIter h it (lo+(i:Nat)*1) ((n:Int)-(i:Nat)) 1) where
 mem:=Iq
 obj:=λi h st b hb=>by
  have e:b=it:=by simpa using hb
  subst e;exact⟨_,st,λv z=>by
   have z':Data.fields _=Data.cell v:=z;cases z'⟩
 keep:=λi h h' st k=>k it Iq _ st
 item:=by
  intro X hP hw hK hc i pins s σ H E I hf st hg;subst hP hw hK;obtain⟨f0,f1,f2,f3,f4,f5⟩:=hf it Iq;have W:=Walks.range (prog:=X.prog) (w:=X.w) (I.ok.hd hc) it lo 1 n;refine W.item i s _ _ hg st λv h' tk hv z6 kk=>?_;obtain⟨t,rfl⟩:=hv;have I1:Inv X pins σ H {s with heap:=h',toks:=tk}:=I.turned (λb o hb e=>kk b o (by simpa using hb) e) f0 f1 f3 f4 f5;refine#[_,rfl,iS (s:={s with heap:=h',toks:=tk}) (n:="range_iterator") z6 rfl rfl Ik #[.int (lo+i),H,I1,#[t,?_],#[rfl,rfl],z6,λb hb=>(hf b hb).1]];rw[Int.mul_one]
 done:=by
  intro X hP hw hK hc i pins s σ H E I hf st hg;subst hP hw hK;obtain⟨f0,f1,f2,f3,f4,f5⟩:=hf it Iq;exact wpAny_pyNext_range_end (I.ok.hd hc) st (by have:n<=i:=hg;lia) λh' eb=>#[rfl,I.turned (t':=s.toks) (λb o hb e=>eb b o hb e) f0 f1 f3 f4 f5]
 self:=λ_ _ _ _ _ st h=>wpAny_pyIter_rangeiter st h
section
variable {X:Cx}{tg:PV}
def oG(K:Ef)(tl:TE):TI:=λσ H R=>tl σ H λx H1=>∃a,x=.ref a/\(∃xs,SqL K H1 a xs)/\R (Itl K a) H1
def oH{l:PV}{tl:TE}(hl:PE X l tl):PI X tg l (oG X.K tl):=by
 intro pins s σ H R I h;refine thn (hl pins s σ H _ I h) λv s1 b_=>?_;obtain⟨x,H1,I1,r1,q1⟩:=b_;obtain⟨a,e,⟨xs,hq⟩,q⟩:=q1;subst e;cases r1;obtain⟨its,rv,p,hz⟩:=I1.list hq;refine wpAny_pyIter_list p.isList ?_;refine#[s1.heap.objs.size,[s1.heap.objs.size],_,_,H1,rfl,I1.kept (t':=s1.toks) λb o e=>Heap.get?_push_of_some _ e,uj a _,#[_,Heap.get?_push_size _ rfl,rfl,rfl],λb hb=>?_,q];have e:b=s1.heap.objs.size:=by simpa using hb
 subst e;exact I1.fpOk (Eg _) (I1.hok.fresh (Eg _))
variable{pins:List (KM×Qc)}{σ:St}{H:Hp}{s:KF}
def oI{R:It->Hp->Prop}{E:KB->KF->Prop}{lo hi:Int}{t u v:Tok}{tk:Nat}(I:Inv X pins σ H s)(h1:-(2^62)<=lo)(h2:lo<2^62)(h3:-(2^62)<=hi)(h4:hi<2^62)
  (q:R (Itr lo (hi-lo).toNat) H):PY (PU X.prog X.w) X.A (pyIter (.ref s.heap.objs.size)) (PIE X pins σ tg R) E {s with heap:=s.heap.push {cls:=.type "range",data:=.fields [.int lo t,.int hi u,.int 1 v].toArray},toks:=tk}:=by
 refine wpAny_pyIter_range (IsRange.new ..) (small_one h1 h2 h3 h4) ?_;have I1:Inv X pins σ H {s with heap:=s.heap.push {cls:=.type "range",data:=.fields [.int lo t,.int hi u,.int 1 v].toArray},toks:=tk}:=I.kept λb o e=>Heap.get?_push_of_some _ e;refine⟨(s.heap.push {cls:=.type "range",data:=.fields [.int lo t,.int hi u,.int 1 v].toArray}).objs.size,[(s.heap.push {cls:=.type "range",data:=.fields [.int lo t,.int hi u,.int 1 v].toArray}).objs.size],_,_,H,rfl,
  I1.kept (t':=tk) λb o e=>Heap.get?_push_of_some _ e,uk _ lo (hi-lo).toNat,?_,λb hb=>?_,q⟩
 .have e1:lo+((0:Nat):Int)*1=lo:=by simp
  have e2:(((hi-lo).toNat:Nat):Int)-((0:Nat):Int)=Builtin.Range.rangeSize lo hi 1:=by rw[rangeSize_one];split<;>lia
  show IsRangeIter _ _ (lo+((0:Nat):Int)*1) ((((hi-lo).toNat:Nat):Int)-((0:Nat):Int)) 1;rw[e1,e2];exact Heap.get?_push_size _ rfl
 .have e:b=(s.heap.push {cls:=.type "range",data:=.fields [.int lo t,.int hi u,.int 1 v].toArray}).objs.size:=by simpa using hb
  subst e;exact I1.fpOk (Eg _) (I1.hok.fresh (Eg _))
def oJ(ta:TA):TI:=λσ H R=>ta σ H λvs H1=>∃j:Int,vs=[.int j]/\-(2^62)<=j/\j<2^62/\R (Itr 0 j.toNat) H1
def ul(ta:TA):TI:=λσ H R=>ta σ H λvs H1=>∃i j:Int,vs=[.int i,.int j]/\(-(2^62)<=i/\i<2^62/\-(2^62)<=j/\j<2^62)/\R (Itr i (j-i).toNat) H1
variable{pos:Qa}
def fN{a:PV}{ta:TA}{p:Qa}(hg:Gl X "range")(hm:X.mg "range"=p7)(ha:PA X [a] ta)(hs:autoParam (P1 [a] X.env=[(false,P7 a X.env)]) zA0):PI X tg (.Call (.Name "range" p) [a] [] pos) (oJ ta):=by
 intro pins s σ H R I h;refine Call_ (db I hg hm boot_range (PyProof.Rows.callWith_type1 (thn (ha pos pins s σ H _ I h) λus s1 hh=>?_) hs rfl));obtain⟨vs,H1,I1,r1,q1⟩:=hh;obtain⟨j,e,q1,q2,q⟩:=q1;subst e;cases r1 with
 |cons r rr=>
  cases rr;obtain⟨t,rfl⟩:=r;exact call_range_1 (oI I1 Ig Ig q1 q2 (by simpa using q))
def um{a b:PV}{ta:TA}{p:Qa}(hg:Gl X "range")(hm:X.mg "range"=p7)(ha:PA X [a,b] ta)(hs:autoParam (P1 [a,b] X.env=[(false,P7 a X.env),(false,P7 b X.env)]) zA0)(i_:autoParam (P1 [b] X.env=[(false,P7 b X.env)]) zA0):
  PI X tg (.Call (.Name "range" p) [a,b] [] pos) (ul ta):=by
 intro pins s σ H R I h;refine Call_ (db I hg hm boot_range (PyProof.Rows.callWith_type1 (thn (ha pos pins s σ H _ I h) λus s1 hh=>?_) (by rw[hs,i_]) (by rw[i_];rfl)));obtain⟨vs,H1,I1,r1,q1⟩:=hh;obtain⟨i,j,e,⟨q1,q2,q3,q4⟩,q⟩:=q1;subst e;cases r1 with
 |cons r rr=>
  cases rr with
  |cons r' rr=>
   cases rr;obtain⟨t,rfl⟩:=r;obtain⟨t',rfl⟩:=r';exact call_range_2 (oI I1 q1 q2 q3 q4 q)
def tFor(wi:TI)(g:TG)(tb:TS):TS:=λD σ H=>wi σ H λJ H1=>∃W:Nat->Nat->St->Hp->Prop,(∃m,W 0 m σ H1)/\∀i m σ H,W i m σ H->
 (J.stop i H/\D.nx σ H)\/(J.go i H/\∃N:St->Hp->Prop,(∀σ' H',N σ' H'->∃m',m'<m/\W (i+1) m' σ' H')/\∀x H',J.yld i H x H'->g x σ H' λσ2 H2=>tb {D with nx:=N,ct:=N,bk:=D.nx} σ2 H2)
def eZ(fp:List KM)(h:P4):List (KM×Qc):=fp.filterMap λb=>(h.get? b).map λo=>(b,o)
variable{fp:List KM}
def bX{h:P4}{b:KM}{o:Qc}(hb:b∈fp)(e:h.get? b=be o):(b,o)∈eZ fp h:=GH.mpr #[b,hb,by rw[e];rfl]
def uo{h:P4}{p:KM×Qc}(hp:p∈eZ fp h):p.1∈fp/\h.get? p.1=be p.2:=by
 obtain⟨b,hb,e⟩:=GH.mp hp;cases q:h.get? b with
 |none=>rw[q]at e;cases e
 |some o=>
  rw[q]at e;have e':(b,o)=p:=Option.some.inj e;subst e';exact#[hb,q]
def Inv.pinned(I:Inv X pins σ H s)(hf:∀b∈fp,FpOk X pins H b)(ho:∀b∈fp,∃o,s.heap.get? b=be o/\∀v,o.data≠.cell v):Inv X (pins++eZ fp s.heap) σ H s:=
 I.pins_of λp hp=>(EO.mp hp).elim (λz=>I.pin p (Es _ z)) λz=>by
  obtain⟨hb,e⟩:=uo z;obtain⟨f0,f1,f2,_⟩:=hf p.1 hb;obtain⟨o,e',d⟩:=ho p.1 hb;rw[e]at e';cases e';exact#[e,f0,f1,f2,d]
def Inv.unpinned{pl:List (KM×Qc)}(I:Inv X (pins++pl) σ H s):Inv X pins σ H s:=I.pins_of λp hp=>I.pin p (Es _ (E2 _ hp))
def de{iter:PV}{body:List P0}{wi:TI}{g:TG}{tb:TS}(hp:Ql (PU X.prog X.w) X.A X.env X.xe)(hc:X.calm=true)(hi:PI X tg iter wi)(hg:PG X tg g)(hb:PSs X body tb)
  (hs:∀x,RI iter X.env x=pure x:=by intro _;rfl):PS X (.For tg iter body [] pos) (tFor wi g tb):=by
 intro pins s σ H D I h;refine wpAny_For (thn (hi pins s σ H _ I h) λv s1 h1=>thn h1 λJn s2 h2=>?_) hs;obtain⟨it,fp,tn,J,H2,e,I2,T,j8,f2,W,⟨m0,w0⟩,c9⟩:=h2;subst e;have g_:∀{H':Hp},(∀b∈fp,H' b=p7)->∀b∈fp,FpOk X pins H' b:=λhn b hb=>#[hn b hb,(f2 b hb).2];refine codeAny_forLoop_any (λn s'=>∃i σ' H',Inv X pins σ' H' s'/\tn i s'.heap/\(∀b∈fp,H' b=p7)/\W i n σ' H') ?_ m0 #[0,σ,H2,I2,j8,λb hb=>(f2 b hb).1,w0];rintro n s3⟨i,σ3,H3,I3,t6,MY,w3⟩;rcases c9 i n σ3 H3 w3 with⟨stop,qn⟩|⟨go,N,hN,step⟩
 .refine Qm hp (thn (T.done X rfl rfl rfl hc i pins s3 σ3 H3 X.xe I3 (g_ MY) t6 stop) λr s4 b_=>?_);obtain⟨hr,I4⟩:=b_;subst hr;exact QC #[σ3,H3,I4,qn]
 .refine Qm hp (thn (T.item X rfl rfl rfl hc i pins s3 σ3 H3 X.xe I3 (g_ MY) t6 go) λr s4 b_=>?_);obtain⟨u,hr,h4⟩:=b_;subst hr;refine Qm hp (thn h4 λ_ s5 b_=>?_);obtain⟨x,H5,I5,r5,y5,m8,Jp⟩:=b_;have N0:=I5.pinned (g_ Jp) (T.obj _ _ m8);refine Qm hp (thn (hg _ s5 σ3 H5 x u _ N0 r5 (step x H5 y5)) λ_ s6 b_=>?_);obtain⟨σ6,H6,I6,q6⟩:=b_;refine Qm hp (thn (hb _ s6 σ6 H6 _ I6 q6) λf s7 q7=>?_);have again:∀{σ7:St} {H7:Hp},Inv X (pins++eZ fp s5.heap) σ7 H7 s7->N σ7 H7->∃m,m<n/\∃i σ' H',Inv X pins σ' H' s7/\tn i s7.heap/\(∀b∈fp,H' b=p7)/\W i m σ' H':=λ{σ7 H7} I7 n7=>by
   obtain⟨m',hm,w7⟩:=hN σ7 H7 n7;refine#[m',hm,i+1,σ7,H7,I7.unpinned,T.keep _ _ _ m8 λb hb o e=>(I7.pin (b,o) (Es _ (Es _ (bX hb e)))).1,λb hb=>?_,w7];obtain⟨o,e,d⟩:=T.obj _ _ m8 b hb;exact(I7.pin (b,o) (Es _ (Es _ (bX hb e)))).2.1
  cases f with
  |next=>obtain⟨σ7,H7,I7,n7⟩:=q7;exact again I7 n7
  |cont=>obtain⟨σ7,H7,I7,n7⟩:=q7;exact again I7 n7
  |brk=>obtain⟨σ7,H7,I7,q7⟩:=q7;exact#[σ7,H7,I7.unpinned,q7]
  |ret v=>obtain⟨x7,σ7,H7,I7,r7,q7⟩:=q7;exact#[x7,σ7,H7,I7.unpinned,r7,q7]
end
def oK{g:TG}{tb:TS}{D:Ends}(Pv:Nat->St->Hp->Prop)(h0:Pv 0 σ H)(hl:∀i σ H,i<=xs.length->Pv i σ H->SqL K H a xs)
  (hs:∀i x σ H,xs[i]?=be x->Pv i σ H->g x σ H λσ2 H2=>tb {D with nx:=Pv (i+1),ct:=Pv (i+1),bk:=D.nx} σ2 H2) (hd:∀σ H,Pv xs.length σ H->D.nx σ H):
  ∃W:Nat->Nat->St->Hp->Prop,(∃m,W 0 m σ H)/\∀i m σ H,W i m σ H->
   ((Itl K a).stop i H/\D.nx σ H)\/((Itl K a).go i H/\∃N:St->Hp->Prop,(∀σ' H',N σ' H'->∃m',m'<m/\W (i+1) m' σ' H')/\∀x H',(Itl K a).yld i H x H'->g x σ H' λσ2 H2=>tb {D with nx:=N,ct:=N,bk:=D.nx} σ2 H2):=by
 refine#[λi m σ H=>m=xs.length-i/\i<=xs.length/\Pv i σ H,#[xs.length,Iq,EI _,h0],?_];rintro i m σ H ⟨rfl,hi,p⟩;have q:=hl i σ H hi p;by_cases fI:i<xs.length
 .refine .inr #[#[xs,xs[i],q,by simp[fI]],Pv (i+1),λσ' H' p'=>#[xs.length-(i+1),Ig,rfl,fI,p'],λx H' y=>?_];obtain⟨e,y⟩:=y;subst e;exact hs i x σ _ (y xs q) p
 .have e:i=xs.length:=by lia
  subst e;exact .inl #[#[xs,q,Eg _],hd σ H p]
def iT{lo:Int}{n:Nat}{g:TG}{tb:TS}{D:Ends}(Pv:Nat->St->Hp->Prop)(h0:Pv 0 σ H)
  (hs:∀i σ H,i<n->Pv i σ H->g (.int (lo+i)) σ H λσ2 H2=>tb {D with nx:=Pv (i+1),ct:=Pv (i+1),bk:=D.nx} σ2 H2) (hd:∀σ H,Pv n σ H->D.nx σ H):
  ∃W:Nat->Nat->St->Hp->Prop,(∃m,W 0 m σ H)/\∀i m σ H,W i m σ H->
   ((Itr lo n).stop i H/\D.nx σ H)\/((Itr lo n).go i H/\∃N:St->Hp->Prop,(∀σ' H',N σ' H'->∃m',m'<m/\W (i+1) m' σ' H')/\∀x H',(Itr lo n).yld i H x H'->g x σ H' λσ2 H2=>tb {D with nx:=N,ct:=N,bk:=D.nx} σ2 H2):=by
 refine#[λi m σ H=>m=n-i/\i<=n/\Pv i σ H,#[n,Iq,EI _,h0],?_];rintro i m σ H ⟨rfl,hi,p⟩;by_cases fI:i<n
 .refine .inr #[fI,Pv (i+1),λσ' H' p'=>#[n-(i+1),Ig,rfl,fI,p'],λx H' y=>?_];obtain⟨e,y⟩:=y;subst e y;exact hs i σ _ fI p
 .have e:i=n:=by lia
  subst e;exact .inl #[Eg _,hd σ H p]
abbrev R2:=V->V->Hp->VK->Prop
def OpR(X:Cx)(f:KB->KB->Rx KB)(r:R2):Prop:=
 ∀(pins:List (KM×Qc)) (s:KF) (σ:St) (H:Hp) (x y:V) (v u:KB) (Q:VK),Inv X pins σ H s->RelV x v->RelV y u->r x y H Q->
  PY (PU X.prog X.w) X.A (f v u) (EP X pins σ Q) X.xe s
def UnR(X:Cx)(f:KB->Rx KB)(r:V->Hp->VK->Prop):Prop:=
 ∀(pins:List (KM×Qc)) (s:KF) (σ:St) (H:Hp) (x:V) (v:KB) (Q:VK),Inv X pins σ H s->RelV x v->r x H Q->
  PY (PU X.prog X.w) X.A (f v) (EP X pins σ Q) X.xe s
def bu(X:Cx)(f:KB)(r:List V->Hp->VK->Prop):Prop:=
 ∀(pins:List (KM×Qc)) (s:KF) (σ:St) (H:Hp) (xs:List V) (us:List KB) (Q:VK),Inv X pins σ H s->Vals xs us->r xs H Q->
  PY (PU X.prog X.w) X.A (call f us) (EP X pins σ Q) X.xe s
def TruR(X:Cx)(r:V->Hp->(Bool->Hp->Prop)->Prop):Prop:=
 ∀(pins:List (KM×Qc)) (s:KF) (σ:St) (H:Hp) (x:V) (v:KB) (Q:Bool->Hp->Prop),Inv X pins σ H s->RelV x v->r x H Q->
  PY (PU X.prog X.w) X.A (truthy v) (TP X pins σ Q) X.xe s
def tOp(r:R2)(ta tb:TE):TE:=λσ H Q=>ta σ H λx H1=>tb σ H1 λy H2=>r x y H2 Q
def tUn(r:V->Hp->VK->Prop)(ta:TE):TE:=λσ H Q=>ta σ H λx H1=>r x H1 Q
def rI(C:Int->Int->Prop)(g:Int->Int->V):R2:=λx y H Q=>∃i j,x=.int i/\y=.int j/\C i j/\Q (g i j) H
def rI0(g:Int->Int->V):R2:=λx y H Q=>∃i j,x=.int i/\y=.int j/\Q (g i j) H
def rU(g:Int->V):V->Hp->VK->Prop:=λx H Q=>∃i,x=.int i/\Q (g i) H
section
variable {X:Cx}{a b c:PV}{ta tb tc:TE}{pos:Qa}
variable{f:KB->KB->Rx KB}
def binT(ha:PE X a ta)(hb:PE X b tb){pins:List (KM×Qc)}{s:KF}{σ:St}{H:Hp}{R:V->V->Hp->Prop}(I:Inv X pins σ H s)
  (h:ta σ H λx H1=>tb σ H1 λy H2=>R x y H2) {Q:KB->KF->Prop} 
  (hf:∀v u s2 x y H2,Inv X pins σ H2 s2->RelV x v->RelV y u->R x y H2->PY (PU X.prog X.w) X.A (f v u) Q X.xe s2):
  PY (PU X.prog X.w) X.A (P7 a X.env) (λv s₁=>PY (PU X.prog X.w) X.A (P7 b X.env) (λu s₂=>PY (PU X.prog X.w) X.A (f v u) Q X.xe s₂) X.xe s₁) X.xe s:=by
 refine thn (ha pins s σ H _ I h) λv s1 b_=>?_;obtain⟨x,H1,I1,r1,q1⟩:=b_;refine thn (hb pins s1 σ H1 _ I1 q1) λu s2 b_=>?_;obtain⟨y,H2,I2,r2,q2⟩:=b_;exact hf v u s2 x y H2 I2 r1 r2 q2
def oM{op:Re}{r:R2}(ho:OpR X (Qh op) r)(ha:PE X a ta)(hb:PE X b tb):PE X (.BinOp a op b pos) (tOp r ta tb):=by
 intro pins s σ H Q I h;exact wpAny_BinOp (binT ha hb I h λv u s2 x y H2 I2 rx ry q=>ho pins s2 σ H2 x y v u Q I2 rx ry q)
def uq{op:UnaryOp}{r:V->Hp->VK->Prop}(ho:UnR X (unaryOp op) r)(ha:PE X a ta):PE X (.UnaryOp op a pos) (tUn r ta):=by
 intro pins s σ H Q I h;exact UnaryOp_ (thn (ha pins s σ H _ I h) λv s1 ⟨x,H1,I1,r1,q1⟩=>ho pins s1 σ H1 x v Q I1 r1 q1)
variable{g:Int->Int->Int}
def opI{C:Int->Int->Prop}
  (rule:∀(i j:Int) (t u:Tok) (s:KF) (Q:KB->KF->Prop) (E:KB->KF->Prop),C i j->Q (.int (g i j) s.toks) {s with toks:=s.toks+1}->PY (PU X.prog X.w) X.A (f (.int i t) (.int j u)) Q E s):
  OpR X f (rI C λi j=>.int (g i j)):=by
 intro pins s σ H x y v u Q I rx ry h;obtain⟨i,j,rfl,rfl,hc,q⟩:=h;obtain⟨t,rfl⟩:=rx;obtain⟨t',rfl⟩:=ry;exact rule i j t t' s _ _ hc #[.int (g i j),H,I.tok _,#[_,rfl],q]
def opI0
  (rule:∀(i j:Int) (t u:Tok) (s:KF) (Q:KB->KF->Prop) (E:KB->KF->Prop),Q (.int (g i j) s.toks) {s with toks:=s.toks+1}->PY (PU X.prog X.w) X.A (f (.int i t) (.int j u)) Q E s):
  OpR X f (rI0 λi j=>.int (g i j)):=by
 intro pins s σ H x y v u Q I rx ry h;obtain⟨i,j,rfl,rfl,q⟩:=h;obtain⟨t,rfl⟩:=rx;obtain⟨t',rfl⟩:=ry;exact rule i j t t' s _ _ #[.int (g i j),H,I.tok _,#[_,rfl],q]
def opB0{g:Int->Int->Bool}
  (rule:∀(i j:Int) (t u:Tok) (s:KF) (Q:KB->KF->Prop) (E:KB->KF->Prop),Q (.bool (g i j)) s->PY (PU X.prog X.w) X.A (f (.int i t) (.int j u)) Q E s):
  OpR X f (rI0 λi j=>.bl (g i j)):=by
 intro pins s σ H x y v u Q I rx ry h;obtain⟨i,j,rfl,rfl,q⟩:=h;obtain⟨t,rfl⟩:=rx;obtain⟨t',rfl⟩:=ry;exact rule i j t t' s _ _ #[.bl (g i j),H,I,rfl,q]
def CDiv(i j:Int):Prop:=0<j/\j<1073741824
def CPow(i j:Int):Prop:=0<=j/\j<=1000000/\i.natAbs<2^64
def CMul(i j:Int):Prop:=(-(2^64)<i/\i<2^64)\/(-(2^64)<j/\j<2^64)
def CMul.ok{i j:Int}(h:CMul i j):IntMulOk i j:=by
 rcases h with⟨h1,h2⟩|⟨h1,h2⟩
 .exact .of_left (intBits_le_64 h1 h2)
 .exact .of_right (intBits_le_64 h1 h2)
def ut:OpR X (Qh .Add) (rI0 λi j=>.int (i+j)):=opI0 λ_ _ _ _ _ _ _ q=>add_int q
def oN:OpR X (Qh .Sub) (rI0 λi j=>.int (i-j)):=opI0 λ_ _ _ _ _ _ _ q=>sub_int q
def uu:OpR X (Qh .Mult) (rI CMul λi j=>.int (i*j)):=opI λ_ _ _ _ _ _ _ hc q=>mul_int q hc.ok
def uv:OpR X (Qh .FloorDiv) (rI CDiv λi j=>.int (i/j)):=opI λi j _ _ _ _ _ hc q=>by
 have h1:(0:Int)<j:=hc.1;have h2:j<1073741824:=hc.2;exact floordiv_int Ig (by rw[Int.fdiv_eq_ediv_of_nonneg i Ig];exact q) (.inl (PyProof.noPylong_small Ig))
def uw:OpR X (Qh .Mod) (rI (λ_ j=>0<j) λi j=>.int (i%j)):=opI λi j _ _ _ _ _ hc q=>by
 have h1:(0:Int)<j:=hc;exact mod_int' Ig (by rw[Int.fmod_eq_emod_of_nonneg i Ig];exact q)
def ux:OpR X (Qh .Mod) (rI (λ_ j=>j≠0) λi j=>.int (i.fmod j)):=opI λ_ _ _ _ _ _ _ hc q=>mod_int' hc q
def uy:OpR X (Qh .Pow) (rI CPow λi j=>.int (i^j.toNat)):=opI λ_ _ _ _ _ _ _ hc q=>pow_int_small hc.1 hc.2.1 hc.2.2 q
def unI{f:KB->Rx KB}{g:Int->Int}
  (rule:∀(i:Int) (t:Tok) (s:KF) (Q:KB->KF->Prop) (E:KB->KF->Prop),Q (.int (g i) s.toks) {s with toks:=s.toks+1}->PY (PU X.prog X.w) X.A (f (.int i t)) Q E s):
  UnR X f (rU λi=>.int (g i)):=by
 intro pins s σ H x v Q I rx h;obtain⟨i,rfl,q⟩:=h;obtain⟨t,rfl⟩:=rx;exact rule i t s _ _ #[.int (g i),H,I.tok _,#[_,rfl],q]
def uz:UnR X (unaryOp .USub) (rU λi=>.int (-i)):=unI λ_ _ _ _ _ q=>neg_int q
end
def scal:V->V->Bool
 |.non,.non=>true|.non,.int _=>true|.int _,.non=>true|.non,.bl _=>true|.bl _,.non=>true|.non,.str _=>true|.str _,.non=>true
 |.int _,.int _=>true|.bl _,.bl _=>true|.str _,.str _=>true|.byt _,.byt _=>true
 |.int _,.str _=>true|.str _,.int _=>true|.bl _,.str _=>true|.str _,.bl _=>true
 |_,_=>false
def rEq:R2:=λx y H Q=>scal x y=true/\Q (.bl (decide (x=y))) H
def rNe:R2:=λx y H Q=>scal x y=true/\Q (.bl (!decide (x=y))) H
def oO{i j:Int}:decide (V.int i=V.int j)=(i==j):=by
 rw[FU];simp
def oP{i j:Bool}:decide (V.bl i=V.bl j)=(i==j):=by
 rw[FU];simp
def oQ{i j:E_}:decide (V.str i=V.str j)=(i==j):=by
 rw[FU];simp
def oR{i j:Array UInt8}:decide (V.byt i=V.byt j)=(i.toList==j.toList):=by
 rw[FU];cases i;cases j;simp
section
variable {X:Cx}{a b c:PV}{ta tb tc:TE}{pos:Qa}
def aI{pins:List (KM×Qc)}{σ:St}{H:Hp}{s:KF}{Q:VK}{k k':Bool}(I:Inv X pins σ H s)(q:Q (.bl k) H)(e:k=k'):EP X pins σ Q (.bool k') s:=by
 subst e;exact#[.bl k,H,I,rfl,q]
def iU:OpR X (P' .Eq) rEq:=by
 intro pins s σ H x y v u Q I rx ry h;obtain⟨hs,q⟩:=h;cases x with
 |non=>
  cases rx;cases y with
  |non=>cases ry;exact PySem.EqNone.eq_none_none (aI I q Iq)
  |bl j=>cases ry;exact PySem.EqNone.eq_none_bool (aI I q Iq)
  |int j=>obtain⟨t',rfl⟩:=ry;exact PySem.EqNone.eq_none_int (aI I q Iq)
  |str j=>obtain⟨t',rfl⟩:=ry;exact PySem.EqNone.eq_none_str (aI I q Iq)
  |_=>exact absurd (show false=true from hs) Ew
 |bl i=>
  cases rx;cases y with
  |non=>cases ry;exact PySem.EqNone.eq_bool_none (aI I q Iq)
  |bl j=>cases ry;exact eq_bool (aI I q oP)
  |str j=>obtain⟨t',rfl⟩:=ry;exact PySem.EqMixed.eq_bool_str (aI I q Iq)
  |_=>exact absurd (show false=true from hs) Ew
 |int i=>
  obtain⟨t,rfl⟩:=rx;cases y with
  |non=>cases ry;exact PySem.EqNone.eq_int_none (aI I q Iq)
  |int j=>obtain⟨t',rfl⟩:=ry;exact eq_int (aI I q oO)
  |str j=>obtain⟨t',rfl⟩:=ry;exact PySem.EqMixed.eq_int_str (aI I q Iq)
  |_=>exact absurd (show false=true from hs) Ew
 |str i=>
  obtain⟨t,rfl⟩:=rx;cases y with
  |non=>cases ry;exact PySem.EqNone.eq_str_none (aI I q Iq)
  |bl j=>cases ry;exact PySem.EqMixed.eq_str_bool (aI I q Iq)
  |int j=>obtain⟨t',rfl⟩:=ry;exact PySem.EqMixed.eq_str_int (aI I q Iq)
  |str j=>obtain⟨t',rfl⟩:=ry;exact eq_str (aI I q oQ)
  |_=>exact absurd (show false=true from hs) Ew
 |byt i=>
  obtain⟨t,rfl⟩:=rx;cases y with
  |byt j=>obtain⟨t',rfl⟩:=ry;exact eq_bytes (aI I q oR)
  |_=>exact absurd (show false=true from hs) Ew
 |_=>cases y<;>exact absurd (show false=true from hs) Ew
def va:OpR X (P' .NotEq) rNe:=by
 intro pins s σ H x y v u Q I rx ry h;obtain⟨hs,q⟩:=h;cases x with
 |non=>
  cases rx;cases y with
  |non=>cases ry;exact PySem.EqNone.ne_none_none (aI I q Iq)
  |bl j=>cases ry;exact PySem.EqNone.ne_none_bool (aI I q Iq)
  |int j=>obtain⟨t',rfl⟩:=ry;exact PySem.EqNone.ne_none_int (aI I q Iq)
  |str j=>obtain⟨t',rfl⟩:=ry;exact PySem.EqNone.ne_none_str (aI I q Iq)
  |_=>exact absurd (show false=true from hs) Ew
 |bl i=>
  cases rx;cases y with
  |non=>cases ry;exact PySem.EqNone.ne_bool_none (aI I q Iq)
  |bl j=>cases ry;exact ne_bool (aI I q (congrArg not oP))
  |str j=>obtain⟨t',rfl⟩:=ry;exact PySem.EqMixed.ne_bool_str (aI I q Iq)
  |_=>exact absurd (show false=true from hs) Ew
 |int i=>
  obtain⟨t,rfl⟩:=rx;cases y with
  |non=>cases ry;exact PySem.EqNone.ne_int_none (aI I q Iq)
  |int j=>obtain⟨t',rfl⟩:=ry;exact ne_int (aI I q (congrArg not oO))
  |str j=>obtain⟨t',rfl⟩:=ry;exact PySem.EqMixed.ne_int_str (aI I q Iq)
  |_=>exact absurd (show false=true from hs) Ew
 |str i=>
  obtain⟨t,rfl⟩:=rx;cases y with
  |non=>cases ry;exact PySem.EqNone.ne_str_none (aI I q Iq)
  |bl j=>cases ry;exact PySem.EqMixed.ne_str_bool (aI I q Iq)
  |int j=>obtain⟨t',rfl⟩:=ry;exact PySem.EqMixed.ne_str_int (aI I q Iq)
  |str j=>obtain⟨t',rfl⟩:=ry;exact ne_str (aI I q (congrArg not oQ))
  |_=>exact absurd (show false=true from hs) Ew
 |byt i=>
  obtain⟨t,rfl⟩:=rx;cases y with
  |byt j=>obtain⟨t',rfl⟩:=ry;exact ne_bytes (aI I q (congrArg not oR))
  |_=>exact absurd (show false=true from hs) Ew
 |_=>cases y<;>exact absurd (show false=true from hs) Ew
def fO:OpR X (P' .Lt) (rI0 λi j=>.bl (decide (i<j))):=opB0 λ_ _ _ _ _ _ _ q=>lt_int q
def oS:OpR X (P' .LtE) (rI0 λi j=>.bl (decide (i<=j))):=opB0 λ_ _ _ _ _ _ _ q=>le_int q
def oU:OpR X (P' .Gt) (rI0 λi j=>.bl (decide (j<i))):=opB0 λ_ _ _ _ _ _ _ q=>gt_int q
def vb:OpR X (P' .GtE) (rI0 λi j=>.bl (decide (j<=i))):=opB0 λ_ _ _ _ _ _ _ q=>ge_int q
def oV:OpR X (P' .Is) (λx y H Q=>y=.non/\Q (.bl (decide (x=.non))) H):=by
 intro pins s σ H x y v u Q I rx ry h;obtain⟨rfl,q⟩:=h;cases ry;refine is_none_gen (aI I q ?_);cases x<;>first
  |(cases rx;rfl)
  |(obtain⟨t,rfl⟩:=rx;rfl)
variable{r:R2}
def OpR.or{f:KB->KB->Rx KB}{r':R2}(h:OpR X f r)(h':OpR X f r'):OpR X f (λx y H Q=>r x y H Q\/r' x y H Q):=by
 intro pins s σ H x y v u Q I rx ry q;rcases q with q|q
 .exact h pins s σ H x y v u Q I rx ry q
 .exact h' pins s σ H x y v u Q I rx ry q
variable{op:Rk}
def nomark(b:PV)(h:autoParam (op≠.In) zA1)(h2:autoParam (op≠.NotIn) zA1):Qo op b=false:=by
 have e1:(op==CmpOp.In)=false:=by cases op<;>first|rfl|exact absurd rfl h
 have e2:(op==CmpOp.NotIn)=false:=by cases op<;>first|rfl|exact absurd rfl h2
 cases b<;>simp[Qo,e1,e2]
def vc(ho:OpR X (P' op) r)(ha:PE X a ta)(hb:PE X b tb)(hm:Qo op b=false):PE X (.Compare a [op] [b] pos) (tOp r ta tb):=by
 intro pins s σ H Q I h;exact wpAny_Compare1 (binT ha hb I h λv u s2 x y H2 I2 rx ry q=>ho pins s2 σ H2 x y v u Q I2 rx ry q) hm
def oW(t:TE):TT:=λσ H Q=>t σ H λx H'=>∃k,x=.bl k/\Q k H'
def oX(ho:OpR X (P' op) r)(ha:PE X a ta)(hb:PE X b tb)(hm:Qo op b=false):PT X (.Compare a [op] [b] pos) (oW (tOp r ta tb)):=by
 intro pins s σ H Q I h;refine wpAny_isTrue_Compare1 (thn (ha pins s σ H _ I h) λv s1 ⟨x,H1,I1,r1,q1⟩=>thn (hb pins s1 σ H1 _ I1 q1) λu s2 ⟨y,H2,I2,r2,q2⟩=>
  thn (ho pins s2 σ H2 x y v u _ I2 r1 r2 q2) λc s3 hh=>?_) hm
 obtain⟨z,H3,I3,r3,k,e,q3⟩:=hh;subst e;cases r3;exact Qg #[H3,I3,q3]
def vd(r r':R2)(ta tb tc:TE):TE:=λσ H Q=>ta σ H λx H1=>tb σ H1 λy H2=>r x y H2 λz H3=>∃k,z=.bl k/\
 (if k=true then tc σ H3 λw' H4=>r' y w' H4 Q else Q (.bl false) H3)
def ve{Ih:Rk}{r':R2}(ho:OpR X (P' op) r)(v4:OpR X (P' Ih) r')(ha:PE X a ta)(hb:PE X b tb)(hc:PE X c tc)
  (hm:autoParam (lastMarks [op,Ih] [b,c]=false) zA8):PT X (.Compare a [op,Ih] [b,c] pos) (oW (vd r r' ta tb tc)):=by
 intro pins s σ H Q I h;refine isTrue_chain (thn (ha pins s σ H _ I h) λv s1 ⟨x,H1,I1,r1,q1⟩=>test_link (thn (hb pins s1 σ H1 _ I1 q1) λu s2 ⟨y,H2,I2,r2,q2⟩=>
  thn (ho pins s2 σ H2 x y v u _ I2 r1 r2 q2) λd s3 hh=>?_)) hm
 obtain⟨z,H3,I3,r3,k,e,q3⟩:=hh;subst e;cases r3;refine Qg ?_;cases k with
 |false=>
  obtain⟨k',e',q'⟩:=q3;cases e';exact ite_ff #[H3,I3,q']
 |true=>
  refine ite_tt (test_last (thn (hc pins s3 σ H3 _ I3 q3) λw' s4 ⟨z',H4,I4,r4,q4⟩=>thn (v4 pins s4 σ H4 y z' u w' _ I4 r2 r4 q4) λd' s5 b_=>?_));obtain⟨z2,H5,I5,r5,k2,e2,q5⟩:=b_;subst e2;cases r5;exact Qg #[H5,I5,q5]
def TruV(K:Ef)(x:V)(H:Hp)(k:Bool):Prop:=
 match x with
 |.non=>k=false
 |.bl b=>k=b
 |.int i=>k=(i !=0)
 |.str y=>y.length<=sizeLine/\k=((y.length:Int) !=0)
 |.byt y=>y.size<=sizeLine/\k=((y.size:Int) !=0)
 |.ref p=>(∃xs,SqL K H p xs/\k=!xs.isEmpty)\/(∃xs,SqT K H p xs/\k=!xs.isEmpty)\/∃a9,H p=be (.dK a9)/\k=!a9.isEmpty
 |_=>False
def vf{κ:Type}{a9:List (κ×V)}{vs:List (κ×KB)}(r:KV a9 vs):(!vs.isEmpty)=!a9.isEmpty:=by
 cases r<;>rfl
def isEmpty_of{xs:List V}{its:List KB}(r:Vals xs its):(!its.toArray.isEmpty)=!xs.isEmpty:=by
 cases r<;>simp
def line63:(sizeLine:Nat)<2^63:=by rw[Q4];decide
def vg:TruR X (λx H Q=>∃k,TruV X.K x H k/\Q k H):=by
 intro pins s σ H x v Q I rx h;obtain⟨k,e,q⟩:=h;have hl:=line63;have hs:sizeLine=16777216:=Q4;cases x with
 |non=>
  cases rx;have e':k=false:=e;subst e';exact truthy_none #[H,I,q]
 |bl b=>
  cases rx;have e':k=b:=e;subst e';exact Qg #[H,I,q]
 |int i=>
  obtain⟨t,rfl⟩:=rx;have e':k=(i !=0):=e;subst e';exact PySem.P.truthy_int #[H,I,q]
 |str y=>
  obtain⟨t,rfl⟩:=rx;obtain⟨hy,e'⟩:y.length<=sizeLine/\k=((y.length:Int) !=0):=e;subst e';exact PySem.P.truthy_str Ig #[H,I.tok _,q]
 |byt y=>
  obtain⟨t,rfl⟩:=rx;obtain⟨hy,e'⟩:y.size<=sizeLine/\k=((y.size:Int) !=0):=e;subst e';exact truthy_bytes Ig #[H,I.tok _,q]
 |ref p=>
  cases rx;have e':(∃xs,SqL X.K H p xs/\k=!xs.isEmpty)\/(∃xs,SqT X.K H p xs/\k=!xs.isEmpty)\/∃a9,H p=be (.dK a9)/\k=!a9.isEmpty:=e;rcases e' with⟨xs,hx,e'⟩|⟨xs,hx,e'⟩|⟨a9,hx,e'⟩
  .subst e';obtain⟨its,r,pl,hz⟩:=I.list hx;have c5:=r.length;exact wpAny_truthy_list pl.isList (by simp only[Er];lia) #[H,I.tok _,by rw[isEmpty_of r];exact q]
  .subst e';obtain⟨its,r,pl,hz⟩:=I.tuple hx;have c5:=r.length;exact truthy_tuple pl (by simp only[Er];lia) #[H,I.tok _,by rw[isEmpty_of r];exact q]
  .subst e';obtain⟨hz,hS,vs,r,m⟩:a9.length<=sizeLine/\(p==Qq)=false/\∃vs,KV a9 vs/\s.heap.DictOf (bx X.prog X.w) p vs:=I.hok p _ hx;have c5:a9.length=vs.length:=Paired.length r;exact wpAny_truthy_dict hS m Ig #[H,I.tok _,by rw[vf r];exact q]
 |_=>exact(show False from e).elim
def vh(ha:PE X a ta)(he:∀g9,isTrue a X.env g9=(do let v <-g9;QV a.pos;Qu [v] (truthy v))):
  PT X a (λσ H Q=>ta σ H λx H'=>∃k,TruV X.K x H' k/\Q k H'):=by
 intro pins s σ H Q I h;exact isTrue_plain (thn (ha pins s σ H _ I h) λv s1 ⟨x,H1,I1,r1,q1⟩=>vg pins s1 σ H1 x v Q I1 r1 q1) (he _)
def vi:OpR X (Qh .Add) (λx y H Q=>∃i j,x=.str i/\y=.str j/\i.length+j.length<=sizeLine/\Q (.str (i++j)) H):=by
 intro pins s σ H x y v u Q I rx ry h;obtain⟨i,j,rfl,rfl,hz,q⟩:=h;obtain⟨t,rfl⟩:=rx;obtain⟨t',rfl⟩:=ry;exact add_str (λt' tk=>#[.str (i++j),H,I.tok _,#[_,rfl],q]) hz
variable{us:List KB}
def bM{x:V}(r:Vals [x] us):∃u,us=[u]/\RelV x u:=by
 cases r with
 |cons r1 r2=>cases r2;exact#[_,rfl,r1]
def dO{x y:V}(r:Vals [x,y] us):∃u w',us=[u,w']/\RelV x u/\RelV y w':=by
 cases r with
 |cons r1 r2=>
  cases r2 with
  |cons r3 r4=>cases r4;exact#[_,_,rfl,r1,r3]
def vj:bu X (.builtin "abs") (λxs H Q=>∃i,xs=[.int i]/\Q (.int (if i<0 then -i else i)) H):=by
 intro pins s σ H xs us Q I r h;obtain⟨i,rfl,q⟩:=h;obtain⟨u,rfl,t,rfl⟩:=bM r;exact call_abs_int λu tk=>#[.int (if i<0 then -i else i),H,I.tok _,#[_,rfl],q]
def vk(hc:X.calm=true):bu X (.builtin "max") (λxs H Q=>∃i j,xs=[.int i,.int j]/\Q (.int (if j>i then j else i)) H):=by
 intro pins s σ H xs us Q I r h;obtain⟨i,j,rfl,q⟩:=h;obtain⟨u,w',rfl,⟨t,rfl⟩,⟨t',rfl⟩⟩:=dO r;refine max_two_ints (I.ok.hd hc) λh' tk k=>#[_,H,I.kept k,?_,q];by_cases hj:j>i
 .rw[if_pos hj,if_pos hj];exact#[_,rfl]
 .rw[if_neg hj,if_neg hj];exact#[_,rfl]
def vm(hc:X.calm=true):bu X (.builtin "min") (λxs H Q=>∃i j,xs=[.int i,.int j]/\Q (.int (if j<i then j else i)) H):=by
 intro pins s σ H xs us Q I r h;obtain⟨i,j,rfl,q⟩:=h;obtain⟨u,w',rfl,⟨t,rfl⟩,⟨t',rfl⟩⟩:=dO r;refine min_two_ints (I.ok.hd hc) λh' tk k=>#[_,H,I.kept k,?_,q];by_cases hj:j<i
 .rw[if_pos hj,if_pos hj];exact#[_,rfl]
 .rw[if_neg hj,if_neg hj];exact#[_,rfl]
def vn:bu X (.type "int") (λxs H Q=>(∃i,xs=[.int i]/\Q (.int i) H)\/∃k,xs=[.bl k]/\Q (.int (if k then 1 else 0)) H):=by
 intro pins s σ H xs us Q I r h;rcases h with⟨i,rfl,q⟩|⟨k,rfl,q⟩
 .obtain⟨u,rfl,t,rfl⟩:=bM r;exact call_int_int #[.int i,H,I,#[_,rfl],q]
 .obtain⟨u,rfl,r1⟩:=bM r;cases r1;exact call_int_bool #[.int (if k then 1 else 0),H,I.tok _,#[_,rfl],q]
def vo:bu X (.type "str") (λxs H Q=>∃i,xs=[.int i]/\i.natAbs.log2<1920/\Q (.str (toString i)) H):=by
 intro pins s σ H xs us Q I r h;obtain⟨i,rfl,hz,q⟩:=h;obtain⟨u,rfl,t,rfl⟩:=bM r;exact PySem.P.str_of_int hz #[.str _,H,I.tok _,#[_,rfl],q]
def LenV(K:Ef)(x:V)(H:Hp)(n:Nat):Prop:=
 match x with
 |.str y=>y.length<=sizeLine/\n=y.length
 |.byt y=>y.size<=sizeLine/\n=y.size
 |.ref p=>(∃xs,SqL K H p xs/\n=xs.length)\/∃xs,SqT K H p xs/\n=xs.length
 |_=>False
def iV:bu X (.builtin "len") (λxs H Q=>∃x n,xs=[x]/\LenV X.K x H n/\Q (.int n) H):=by
 intro pins s σ H xs us Q I r h;obtain⟨x,n,rfl,e,q⟩:=h;obtain⟨u,rfl,rx⟩:=bM r;have hl:=line63;have hs:sizeLine=16777216:=Q4;cases x with
 |str y=>
  obtain⟨t,rfl⟩:=rx;obtain⟨hy,e'⟩:y.length<=sizeLine/\n=y.length:=e;subst e';exact len_str Ig #[.int _,H,I.tok _,#[_,rfl],q]
 |byt y=>
  obtain⟨t,rfl⟩:=rx;obtain⟨hy,e'⟩:y.size<=sizeLine/\n=y.size:=e;subst e';exact len_bytes Ig #[.int _,H,I.tok _,#[_,rfl],q]
 |ref p=>
  cases rx;have e':(∃xs,SqL X.K H p xs/\n=xs.length)\/∃xs,SqT X.K H p xs/\n=xs.length:=e;rcases e' with⟨xs,hx,e'⟩|⟨xs,hx,e'⟩
  .subst e';obtain⟨its,r',pl,hz⟩:=I.list hx;have c5:=r'.length;exact Calls.call_len_list pl.isList (by simp only[Er];lia) #[.int xs.length,H,I.tok _,#[_,by simp only[Er];rw[c5]],q]
  .subst e';obtain⟨its,r',pl,hz⟩:=I.tuple hx;have c5:=r'.length;exact len_tuple pl (by simp only[Er];lia) #[.int xs.length,H,I.tok _,#[_,by simp only[Er];rw[c5]],q]
 |_=>exact(show False from e).elim
end
structure ObjM(h:P4)(x dx C:KM)(mA:Str->Option KB):Prop where
 obj:h.get? x=be (instObj C dx)
 ns:h.Ns1 dx mA
 ne:dx≠x
variable{mA:E_->Option KB}
def oY{dx:KM}(n:h.Ns1 dx mA):∃od,h.get? dx=be od/\∀name,lookIn name od=be (mA name):=by
 obtain⟨o,es,ep,ho,hd,hk,_,hm⟩:=n;refine#[o,ho,λname=>?_];have e:=hm name;unfold nsFind findBy at e;rw[<-Array.find?_toList]at e;unfold lookIn;rw[hd];dsimp only;split
 .rename_i y q;rw[q]at e;exact congrArg be e
 .rename_i q;rw[q]at e;have a:es.toList.any (·.refKey)=false:=by
   rw[List.any_eq_false];intro y hy;obtain⟨z,t,n0⟩:=hk y (Array.mem_toList_iff.mp hy);simp[DictEntry.refKey,n0]
  have a':¬es.toList.any (·.refKey)=true:=by rw[a];exact Ew
  rw[if_neg a'];exact congrArg be e
variable{C:KM}
def ObjM.look{x dx:KM}(I:ObjM h x dx C mA):∃od,PySem.W.InstAt h x (instObj C dx) C (be od)/\∀name,lookIn name od=be (mA name):=
 let ⟨od,ho,hl⟩:=oY I.ns
 #[od,#[I.obj,rfl,rfl,ho],hl]
section
variable {prog:PZ}{w:P2}{A:P3}{E:KB->KF->Prop}{s:KF}{K:Ef}{x dx C f:KM}{mA:E_->Option KB}{name:E_}{v:KB}
def vp{KZ:Bool}{Q:KB->KF->Prop}(X:K.In s.heap)(I:ObjM s.heap x dx C mA)(hg:plainGet K C name=true)(hh:hasDictIn K C=true)
  (ha:Ey K (.ref C) name=be p7) (hv:mA name=be v) (N1:handedIn v=true) (h:Q v {s with toks:=s.toks+1}):
  PY (PU prog w) A (getAttr (.ref x) name KZ) Q E s:=by
 obtain⟨od,J,hl⟩:=I.look;exact get_value X J (plainGet_of hg).1 (findObj_own hh ha rfl (by rw[hl,hv])) N1 h
def vq{pl:Rx Bool}{Q:KB×List KB->KF->Prop}(X:K.In s.heap)(I:ObjM s.heap x dx C mA)(hg:plainGet K C name=true)
  (hf:Ey K (.ref C) name=be (be (.ref f))) (ht:isFn K (.ref f)=true) (hv:mA name=p7) (h:Q (.ref f,[.ref x]) s):
  PY (PU prog w) A (Rg (.ref x) name pl) Q E s:=by
 obtain⟨od,J,hl⟩:=I.look;exact method_fn X J (plainGet_of hg).1 (plainGet_of hg).2 hf (beq_iff_eq.mp ht) (by show(lookIn name od).map (·.isSome)=be false;rw[hl,hv];rfl) h
def vt{ns:List E_}{Q:Unit->KF->Prop}(X:K.In s.heap)(I:ObjM s.heap x dx C mA)
  (hs:Ey K (.ref C) "__setattr__"=be (be (.builtin "object.__setattr__"))) (hp:plainOver K C=true) (ht:takerIn K C name=be p7) (hh:hasDictIn K C=true)
  (hw:PySem.Within mA ns) (g8:ns.length<=sizeLine)
  (h:∀h',ObjM h' x dx C (λy=>if y=name then be v else mA y)->Heap.SameBut dx s.heap h'->Q () {s with heap:=h',toks:=s.toks+2}):
  PY (PU prog w) A (setAttr (.ref x) name v) Q E s:=by
 obtain⟨od,J,hl⟩:=I.look;refine set_plain X J hs (osa_open (s:={s with toks:=s.toks+1}) (r:=p7) X J hp ht λb=>?_);obtain⟨cd,hc,gV⟩:=any_some hh;have hx:s.heap.get? x=be #[.ref C,be dx,.plain,[].toArray]:=I.obj;refine Os (PX (Os (Os (wpAny_loadPart hx (Os (PySem.W.Looks.here (s:={s with toks:=s.toks+1}) (looks_clsIn X hc) ?_))))));rw[gV];refine PX (a:=be dx) (Os (PX (Os ?_)));refine wpAny_nsSet1 (s:={s with toks:=s.toks+1}) I.ns λh' z7 i_=>?_;obtain⟨oD,Pg,Ph,N2,N3,N4⟩:=z7.count (PySem.Within.cons name v hw);refine Os (wpAny_lookBehind N2 (by rw[N3];exact pastItsLine_dict (Eo N4 (by rw[Ex];lia))) ?_);exact PX (h _ #[(i_.2 _ (Ne.symm I.ne)).trans I.obj,z7,I.ne] i_)
def vw{R:Rq->KF->Prop}{vs:List KB}{kw:List (E_×KB)}(X:K.In s.heap)(hm:makesIn K C=true)
  (hi:Ey K (.ref C) "__init__"=be (be (.ref f))) (hf:typeIn K (.ref f)=be (.type "function"))
  (h:QJ (PU prog w) (A.under (.builtin "type.__call__" #[.ref C::vs,kw])) (.call (.ref f) #[.ref (s.heap.objs.size+1)::vs,kw]) (InitBack (s.heap.objs.size+1) R)
   {s with heap:=(s.heap.push emptyDict).push (instObj C s.heap.objs.size)}):
  QJ (PU prog w) A (.call (.ref C) #[vs,kw]) R s:=by
 obtain⟨hh,g,d,t,os⟩:=s;exact make_core (makes_of X hm) (PySem.W.looks_findIn X hi) (λself=>bind_fn X self hf) (.inl rfl) h
end
def putF(f:E_)(v:V):List (E_×V)->List (E_×V)
 |[]=>[(f,v)]
 |(g,x)::r=>if g=f then(g,v)::r else(g,x)::putF f v r
def oZ(f g:E_)(v:V):∀fs:List (E_×V),(putF f v fs).lookup g=if g=f then be v else fs.lookup g
 |[]=>by
  show Fg g [(f,v)]=_;by_cases h:g=f
  .have hb:(g==f)=true:=beq_iff_eq.mpr h;simp only[Fg,hb,if_pos h]
  .have hb:(g==f)=false:=beq_eq_false_iff_ne.mpr h;simp only[Fg,hb,if_neg h]
 |(k,x)::r=>by
  have ih:=oZ f g v r;rw[show putF f v ((k,x)::r)=(if k=f then(k,v)::r else(k,x)::putF f v r)from rfl];by_cases hk:k=f
  .rw[if_pos hk];by_cases h:g=k
   .have hb:(g==k)=true:=beq_iff_eq.mpr h;simp only[Fg,hb,if_pos (h.trans hk)]
   .have hb:(g==k)=false:=beq_eq_false_iff_ne.mpr h;simp only[Fg,hb,if_neg (λe:g=f=>h (e.trans hk.symm))]
  .rw[if_neg hk];by_cases h:g=k
   .have hb:(g==k)=true:=beq_iff_eq.mpr h;simp only[Fg,hb,if_neg (λe:g=f=>hk (h.symm.trans e))]
   .have hb:(g==k)=false:=beq_eq_false_iff_ne.mpr h;simp only[Fg,hb];exact ih
def iW(f:E_)(v:V):∀fs:List (E_×V),f∈(putF f v fs).map (·.1)/\∀g,g∈fs.map (·.1)->g∈(putF f v fs).map (·.1)
 |[]=>#[by simp[putF],λg h=>by simp at h]
 |(k,x)::r=>by
  obtain⟨i1,i2⟩:=iW f v r;rw[show putF f v ((k,x)::r)=(if k=f then(k,v)::r else(k,x)::putF f v r)from rfl];by_cases hk:k=f
  .rw[if_pos hk];subst hk;exact#[Iq,λg h=>by simpa using h]
  .rw[if_neg hk];refine#[?_,λg h=>?_]
   .rw[EJ];exact Em _ i1
   .rw[EJ]at h ⊢;rcases Ei.mp h with e|e
    .exact Ei.mpr (.inl e)
    .exact Em _ (i2 g e)
def pd(f:E_)(v:V):∀fs:List (E_×V),(putF f v fs).length<=fs.length+1
 |[]=>by simp[putF]
 |(k,x)::r=>by
  have ih:=pd f v r;rw[show putF f v ((k,x)::r)=(if k=f then(k,v)::r else(k,x)::putF f v r)from rfl];by_cases hk:k=f
  .rw[if_pos hk,Ex,Ex];lia
  .rw[if_neg hk,Ex,Ex];lia
def RelO.some_of{v:V}{o:Option KB}(r:RelO (be v) o):∃u,o=be u/\RelV v u:=by
 cases o with
 |none=>exact(show False from r).elim
 |some u=>exact#[u,rfl,r]
def RelO.none_of{o:Option KB}(r:RelO p7 o):o=none:=by
 cases o with
 |none=>rfl
 |some u=>exact(show False from r).elim
def vx{v:V}(r:RelV v u):handedIn u=true:=by
 cases v with
 |non=>cases(show u=Value.none from r);rfl
 |bl b=>cases(show u=Value.bool b from r);rfl
 |int i=>obtain⟨t,e⟩:=(show ∃t,u=Value.int i t from r);cases e;rfl
 |str x=>obtain⟨t,e⟩:=(show ∃t,u=Value.str x t from r);cases e;rfl
 |byt b=>obtain⟨t,e⟩:=(show ∃t,u=Value.bytes b t from r);cases e;rfl
 |flt b=>obtain⟨t,e⟩:=(show ∃t,u=Value.float b t from r);cases e;rfl
 |ref a=>cases(show u=Value.ref a from r);rfl
 |ty n=>cases(show u=Value.type n from r);rfl
section
variable {P:PZ}{w:P2}{H H':Hp}{h h':P4}{a C dx:KM}{fs k8:List (E_×V)}
def fP(hok:HOk P w H h)(e:H a=be (.ins C dx fs)):∃mA,ObjM h a dx C mA/\(∀f,RelO (fs.lookup f) (mA f))/\PySem.Within mA (fs.map (·.1))/\fs.length<=1000/\H dx=be (.own a):=by
 obtain⟨d,z,ne,ob,mA,n,r,q⟩:=(show ObjOk P w H h a (.ins C dx fs)from hok a _ e);exact#[mA,#[ob,n,ne],r,q,z,d]
end
structure Cls(K:Ef)(C:KM):Prop where
 pg:plainGet K C Str.empty=true
 hd:hasDictIn K C=true
 po:plainOver K C=true
 sa:Ey K (.ref C) "__setattr__"=be (be (.builtin "object.__setattr__"))
def Cls.get(c:Cls K C)(f:E_):plainGet K C f=true:=c.pg
def NoAttr(K:Ef)(C:KM)(f:E_):Prop:=Ey K (.ref C) f=be p7
def NoAttr.taker{f:E_}(n:NoAttr K C f):takerIn K C f=be none:=by
 unfold takerIn;rw[show Ey K (.ref C) f=be p7 from n];rfl
structure Meth(K:Ef)(C:KM)(m:Str)(f:KM):Prop where
 at_:Ey K (.ref C) m=be (be (.ref f))
 fn:isFn K (.ref f)=true
 kp:keepIn K (.ref f)=true
section
variable {X:Cx}{pins:List (KM×Qc)}{σ:St}{H:Hp}{s:KF}{a C dx:KM}{fs:List (E_×V)}{f:E_}{v:V}{A:P3}{E:KB->KF->Prop}
variable{Q:KB->KF->Prop}
def vy{b:Bool}(I:Inv X pins σ H s)(e:H a=be (.ins C dx fs))(c:Cls X.K C)(n:NoAttr X.K C f)(l:fs.lookup f=be v)
  (h:∀u s',Inv X pins σ H s'->RelV v u->Q u s'):PY (PU X.prog X.w) A (getAttr (.ref a) f b) Q E s:=by
 obtain⟨mA,O,r,_,_,_⟩:=fP I.hok e;obtain⟨u,hu,ru⟩:=RelO.some_of (v:=v) (o:=mA f) (by rw[<-l];exact r f);exact vp I.kIn O (c.get f) c.hd n hu (vx ru) (h u _ (I.tok _) ru)
def pe{m:E_}{g:KM}{pl:Rx Bool}{Q:KB×List KB->KF->Prop}(I:Inv X pins σ H s)(e:H a=be (.ins C dx fs))(c:Cls X.K C)(k:Meth X.K C m g)(l:fs.lookup m=p7)
  (h:Q (.ref g,[.ref a]) s):PY (PU X.prog X.w) A (Rg (.ref a) m pl) Q E s:=by
 obtain⟨mA,O,r,_,_,_⟩:=fP I.hok e;have hn:mA m=none:=RelO.none_of (by rw[<-l];exact r m);exact vq I.kIn O (c.get m) k.at_ k.fn hn h
def vz{y:V}{u:KB}{Q:Unit->KF->Prop}(I:Inv X pins σ H s)(e:H a=be (.ins C dx fs))(c:Cls X.K C)(n:NoAttr X.K C f)(hl:fs.length<1000)(ry:RelV y u)
  (h:∀s',Inv X pins σ (upd H a (.ins C dx (putF f y fs))) s'->Q () s'):PY (PU X.prog X.w) A (setAttr (.ref a) f u) Q E s:=by
 obtain⟨mA,O,r,wi,_,ho⟩:=fP I.hok e;have hz:(fs.map (·.1)).length<=sizeLine:=by rw[En,Q4];lia
 refine vt I.kIn O c.sa c.po n.taker c.hd wi hz λh' O' sb=>h _ ?_;have hd:∃o,h'.get? dx=be o:=let ⟨o,_,_,e',_⟩:=O'.ns;#[o,e']
 refine I.write (x:=a) (e:=dx) (by rw[e];exact True.intro) (.inr ho) (λb q hb z=>(sb.2 b hb).trans z) hd ?_;refine#[by rw[au O.ne];exact ho,?_,O.ne,O'.obj,_,O'.ns,λg=>?_,λg hg=>?_]
 .have:=pd f y fs;lia
 .show RelO ((putF f y fs).lookup g) (if g=f then be u else mA g);rw[oZ];by_cases q:g=f
  .rw[if_pos q,if_pos q];exact ry
  .rw[if_neg q,if_neg q];exact r g
 .by_cases q:g=f
  .rw[q];exact(iW f y fs).1
  .refine(iW f y fs).2 g (wi g λz=>hg ?_);show(if g=f then be u else mA g)=p7;rw[if_neg q];exact z
def Inv.made(I:Inv X pins σ H s):Inv X pins σ (upd (upd H s.heap.objs.size (.own (s.heap.objs.size+1))) (s.heap.objs.size+1) (.ins C s.heap.objs.size []))
  {s with heap:=(s.heap.push emptyDict).push (instObj C s.heap.objs.size)}:=by
 have e1:(s.heap.push emptyDict).get? s.heap.objs.size=be emptyDict:=Heap.get?_push_size s.heap rfl;have e2:((s.heap.push emptyDict).push (instObj C s.heap.objs.size)).get? (s.heap.objs.size+1)=be (instObj C s.heap.objs.size):=by
  have:=Heap.get?_push_size (s.heap.push emptyDict) (o:=instObj C s.heap.objs.size) rfl;rwa [Heap.size_push]at this
 have e3:(s.heap.push emptyDict).Ns s.heap.objs.size (λ_=>p7):=#[emptyDict,[].toArray,_,e1,rfl,(λe he=>absurd he Iq),λ_=>rfl];have I1:=I.laid (a:=s.heap.objs.size) (o:=.own (s.heap.objs.size+1)) (h':=s.heap.push emptyDict) (t':=s.toks) (λb u q=>Heap.get?_push_of_some _ q) (Eg _) #[_,e1];refine I1.laid (a:=s.heap.objs.size+1) (o:=.ins C s.heap.objs.size []) (t':=s.toks) (λb u q=>Heap.get?_push_of_some _ q) (FV (Heap.size_push _ _)) ?_;have ne:s.heap.objs.size≠s.heap.objs.size+1:=El (GI _);refine#[by rw[au ne,aD],EI _,ne,e2,λ_=>p7,(Heap.Ns1.of_empty e3).at λo q=>Heap.get?_push_of_some _ q,λ_=>True.intro,λy hy=>absurd rfl hy]
def attr_of{prog:PZ}{w:P2}{env:QN}{e:PV}{f:E_}{pos:Qa}{s:KF}(hb:P6 e f env (P7 e env)=P7 e env)
  (h:PY (PU prog w) A (P7 e env) (λo s₁=>PY (PU prog w) A (getAttr o f true) Q E s₁) E s):PY (PU prog w) A (P7 (.Attribute e f pos) env) Q E s:=
 Attribute_any_ h (by rw[arm_eval_Attribute,hb])
end
def tFld(K:Ef)(ta:TE)(f:E_):TE:=λσ H Q=>ta σ H λx H1=>∃a C dx fs v,x=.ref a/\H1 a=be (.ins C dx fs)/\Cls K C/\NoAttr K C f/\fs.lookup f=be v/\Q v H1
def sFld(K:Ef)(ta tv:TE)(f:E_):TS:=λD σ H=>tv σ H λy H1=>ta σ H1 λx H2=>∃a C dx fs,x=.ref a/\H2 a=be (.ins C dx fs)/\Cls K C/\NoAttr K C f/\fs.length<1000/\
 D.nx σ (upd H2 a (.ins C dx (putF f y fs)))
section
variable {X:Cx}{o e value:PV}{f:E_}{pos d9 Jl:Qa}{ta tv:TE}
def pf(he:PE X e ta)(hb:P6 e f X.env (P7 e X.env)=P7 e X.env):PE X (.Attribute e f pos) (tFld X.K ta f):=by
 intro pins s σ H Q I h;refine attr_of hb (thn (he pins s σ H _ I h) λu s1 b_=>?_);obtain⟨x,H1,I1,rx,a,C,dx,fs,v,ex,ea,c,n,l,q⟩:=b_;subst ex;obtain rfl:u=Value.ref a:=rx;exact vy I1 ea c n l λu' s2 I2 ru=>#[v,H1,I2,ru,q]
def ph(ha:PE X o ta)(hv:PE X value tv)(hs:Qf value (be (.Attribute o f d9)) pos.line X.env=pure false):PS X (.Assign [.Attribute o f d9] value pos) (sFld X.K ta tv f):=by
 intro pins s σ H D I h;refine plainObj_wpAny_Assign_Attribute (thn (hv pins s σ H _ I h) λu s1 ⟨y,H1,I1,ry,q⟩=>thn (ha pins s1 σ H1 _ I1 q) λov s2 hh=>?_) hs;obtain⟨x,H2,I2,rx,a,C,dx,fs,ex,ea,c,n,l,q2⟩:=hh;subst ex;obtain rfl:ov=Value.ref a:=rx;exact vz I2 ea c n l ry λs3 I3=>#[σ,_,I3,q2]
end
section
variable {X:Cx}{pins:List (KM×Qc)}{σ:St}{H:Hp}{s:KF}{A:P3}{E:KB->KF->Prop}{Q:KB->KF->Prop}{c:KB}{b:Bool}
inductive TyOf(K:Ef)(H:Hp):V->KB->Prop where
 |non:TyOf K H .non (.type "NoneType")
 |bl (x:Bool):TyOf K H (.bl x) (.type "bool")
 |int (i:Int):TyOf K H (.int i) (.type "int")
 |str (x:Str):TyOf K H (.str x) (.type "str")
 |flt (x:UInt64):TyOf K H (.flt x) (.type "float")
 |lst {a:KM} {xs:List V} (e:H a=some (.lst xs)):TyOf K H (.ref a) (.type "list")
 |frz {a:KM} {o:Qc} {xs:List V} (e:H a=some (.frz o (.lst xs))):TyOf K H (.ref a) (.type "list")
 |tup {a:KM} {xs:List V} (e:H a=some (.tup xs)):TyOf K H (.ref a) (.type "tuple")
 |dK {a:KM} {a9:List (Key×V)} (e:H a=some (.dK a9)):TyOf K H (.ref a) (.type "dict")
 |dT {a:KM} {a9:List (List Key×V)} (e:H a=some (.dT a9)):TyOf K H (.ref a) (.type "dict")
 |ins {a C dx:KM} {fs:List (Str×V)} (e:H a=some (.ins C dx fs)) (cl:Cls K C) (ha:Ey K (.ref C) "__class__"=some (some (.builtin "object.__class__")))
   (hn:FC K (.builtin "object.__class__") "__get__"=be (be (.builtin "getset_descriptor.__get__"))) (MZ:FD K (.builtin "object.__class__")=be true)
   (hm:ES K C (.type "object")=be true):TyOf K H (.ref a) (.ref C)
def vA{x:V}{u t:KB}(I:Inv X pins σ H s)(rx:RelV x u)(ty:TyOf X.K H x t)(e:kitOne X.K t c=be b)(h:∀tk,Q (.bool b) {s with toks:=tk}):
  PY (PU X.prog X.w) A (call (.builtin "isinstance") [u,c]) Q E s:=by
 cases ty with
 |non=>cases(show u=Value.none from rx);exact kia_one kitx_none I.kIn True.intro e (λz=>nomatch z) h
 |bl y=>cases(show u=Value.bool y from rx);exact kia_one kitx_bool I.kIn True.intro e (λz=>nomatch z) h
 |int i=>obtain⟨t,q⟩:=(show ∃t,u=Value.int i t from rx);cases q;exact kia_one kitx_int I.kIn True.intro e (λz=>nomatch z) h
 |str y=>obtain⟨t,q⟩:=(show ∃t,u=Value.str y t from rx);cases q;exact kia_one kitx_str I.kIn True.intro e (λz=>nomatch z) h
 |flt y=>obtain⟨t,q⟩:=(show ∃t,u=Value.float y t from rx);cases q;exact kia_one kitx_float I.kIn True.intro e (λz=>nomatch z) h
 |@lst a xs ea=>
  cases(show u=Value.ref a from rx);obtain⟨_,_,n,_,h1⟩:=(show ObjOk X.prog X.w H s.heap a (.lst xs)from I.hok a _ ea);exact kia_one kitx_list I.kIn #[_,h1,rfl] e (λz=>nomatch z) h
 |@frz a ob xs ea=>
  cases(show u=Value.ref a from rx);obtain⟨_,_,_,n,_,h1⟩:=(show ObjOk X.prog X.w H s.heap a (.frz ob (.lst xs))from I.hok a _ ea);exact kia_one kitx_list I.kIn #[_,h1,rfl] e (λz=>nomatch z) h
 |@tup a xs ea=>
  cases(show u=Value.ref a from rx);obtain⟨_,_,_,p⟩:=(show ObjOk X.prog X.w H s.heap a (.tup xs)from I.hok a _ ea);obtain⟨o,h1,h2,_⟩:=p;exact kia_one kitx_tuple I.kIn #[o,h1,h2] e (λz=>nomatch z) h
 |@dK a a9 ea=>
  cases(show u=Value.ref a from rx);obtain⟨_,_,vs,_,p⟩:=(show ObjOk X.prog X.w H s.heap a (.dK a9)from I.hok a _ ea);obtain⟨o,es,ep,h1,h2,_⟩:=p;exact kia_one kitx_dict I.kIn #[o,h1,h2.1] e (λz=>nomatch z) h
 |@dT a a9 ea=>
  cases(show u=Value.ref a from rx);obtain⟨_,_,xs,_,o,es,ep,h1,h2,_⟩:=(show ObjOk X.prog X.w H s.heap a (.dT a9)from I.hok a _ ea);exact kia_one kitx_dict I.kIn #[o,h1,h2.1] e (λz=>nomatch z) h
 |@ins a C dx fs ea cl ha hn MZ hm=>
  cases(show u=Value.ref a from rx);obtain⟨mA,O,_⟩:=fP I.hok ea;obtain⟨od,J,_⟩:=O.look;exact kia_one (kitx_own (cl.get _) cl.hd ha hn MZ hm) I.kIn J e (λz=>nomatch z) h
end
structure Room(k:Nat)(A:P3):Prop where
 hd:A.handled=p7
 dp:A.depth+3*k+5<recursionLimit
 un:A.units+16*k+200<QX
variable{k:Nat}
def Room.mono{j:Nat}(r:Room k A)(h:j<=k):Room j A:=#[r.hd,by have:=r.dp;lia,by have:=r.un;lia]
def Room.deeper(r:Room (k+1) A)(env:QN):Room k (A.deeper env):=
 #[r.hd,by have:=r.dp;show A.depth+1+3*k+5<_;lia,by have:=r.un;show A.units+3+16*k+200<_;lia]
variable{kw:List (E_×KB)}
def vB:(A.under (.builtin "type.__call__" #[.ref C::us,kw])).depth=A.depth+1:=by
 first|rfl|simp[Around.under,Code.weight,Code.isCreation,Code.isGuard,Code.isCaller,Code.frames,Code.isFrame,guardIds]
def vC:(A.under (.builtin "type.__call__" #[.ref C::us,kw])).units=A.units+1:=by
 first|rfl|simp[Around.under,Code.cUnits,Code.frames,Code.isFrame]
def Room.make(r:Room (k+1) A)(C:KM)(us:List KB)(kw:List (E_×KB)):Room k (A.under (.builtin "type.__call__" #[.ref C::us,kw])):=
 #[r.hd,by have:=r.dp;rw[vB];lia,by have:=r.un;rw[vC];lia]
def Room.depth(r:Room k A):A.depth<recursionLimit:=by have:=r.dp;lia
def Room.units(r:Room k A):A.units+64<QX:=by have:=r.un;lia
def tNil:TA:=λ_ H Q=>Q [] H
def pi(ta:TE)(tr:TA):TA:=λσ H Q=>ta σ H λx H1=>tr σ H1 λxs H2=>Q (x::xs) H2
section
variable {X:Cx}{e:PV}{es:List PV}{te:TE}{t:TA}{pos:Qa}
def pa_nil:PA X [] tNil:=λ_ _ _ _ H Q I h=>Calls.spliced_nil #[[],H,I,.nil,h]
def bj(ha:PE X e te)(hr:PA X es t)(hs:autoParam (zSE X e es) zA0):PA X (e::es) (pi te t):=by
 intro pos pins s σ H Q I h;rw[hs];show PY _ _ (spliced ((false,P7 e X.env)::QM pos (P1 es X.env))) _ _ s;refine Calls.spliced_cons (thn (ha pins s σ H _ I h) λu s1 b_=>?_);obtain⟨x,H1,I1,r1,q1⟩:=b_;exact thn (hr pos pins s1 σ H1 _ I1 q1) λus s2 ⟨xs,H2,I2,r2,q2⟩=>#[x::xs,H2,I2,.cons r1 r2,q2]
def tTup(t:TA):TE:=λσ H Q=>t σ H λxs H1=>xs.length<=sizeLine/\∀p,H1 p=p7->Q (.ref p) (upd H1 p (.tup xs))
def tLst(t:TA):TE:=λσ H Q=>t σ H λxs H1=>xs.length<=sizeLine/\∀p,H1 p=p7->Q (.ref p) (upd H1 p (.lst xs))
def pj{x1}(h:PA X es t):PE X (.Tuple es x1 pos) (tTup t):=by
 intro pins s σ H Q I hq;refine wpAny_Tuple_spliced (thn (h pos pins s σ H _ I hq) λus s1 ⟨xs,H1,I1,r,z,q⟩=>#[by rw[<-r.length];exact z,?_]);have hf:H1 s1.heap.objs.size=none:=I1.hok.fresh (Eg _);refine#[.ref s1.heap.objs.size,upd H1 s1.heap.objs.size (.tup xs),I1.laid (t':=s1.toks) (λb u e=>Heap.get?_push_of_some _ e) (Eg _) ?_,rfl,q _ hf];exact#[z,us,r,#[_,Heap.get?_push_size _ rfl,rfl,_,rfl]]
def iX(h:PA X es t):PE X (.List es pos) (tLst t):=by
 intro pins s σ H Q I hq;refine wpAny_List_spliced (thn (h pos pins s σ H _ I hq) λus s1 ⟨xs,H1,I1,r,z,q⟩=>#[by rw[<-r.length];exact z,?_]);have hf:H1 s1.heap.objs.size=none:=I1.hok.fresh (Eg _);refine#[.ref s1.heap.objs.size,upd H1 s1.heap.objs.size (.lst xs),I1.laid (t':=s1.toks) (λb u e=>Heap.get?_push_of_some _ e) (Eg _) ?_,rfl,q _ hf];exact#[z,us,0,r,Heap.get?_push_size _ rfl]
end
abbrev Sp:=List V->Hp->VK->XK->Prop
abbrev CXT:=List QN->Hp->KF->XK->KB->KF->Prop
structure Env0(P:PZ)(w:P2)(K:Ef)(mg:Str->Option KB)(base:P4)(A:P3)(outer:List QN)(s:KF)(H:Hp):Prop where
 frames:A.frames=be outer
 mod:Mod K mg base
 bs:∀b o,base.get? b=be o->s.heap.get? b=be o/\H b=p7
 bsz:base.objs.size<=s.heap.objs.size
 funs:s.heap.FunFrames base outer
 frf:∀b∈frs outer,H b=p7
 hok:HOk P w H s.heap
 bare:QK s.gens
def CE(outer:List QN)(P:PZ)(w:P2)(H:Hp)(s:KF)(Q:VK)(u:KB)(s':KF):Prop:=
 ∃v H',s'.os=s.os/\QK s'.gens/\Un (frs outer) [] H H' s.heap s'.heap/\HOk P w H' s'.heap/\RelV v u/\Q v H'
def CR(CX:CXT)(outer:List QN)(P:PZ)(w:P2)(H:Hp)(s:KF)(Q:VK)(E:XK)(r:Rq)(s':KF):Prop:=
 match r with
 |.ok (.ret u)=>CE outer P w H s Q u s'
 |.ok _=>False
 |.error e=>CX outer H s E e s'
structure FnOk(P:PZ)(w:P2)(K:Ef)(mg:Str->Option KB)(base:P4)(CX:CXT)(k:Nat)(f:KM)(fd:P9)(ps:List Str)(sp:Sp):Prop where
 len:∀vs H Q E,sp vs H Q E->vs.length=ps.length
 run:∀(A:P3) (outer:List QN) (s:KF) (H:Hp) (args:Args) (us:List KB) (vs:List V) (Q:VK) (E:XK),Room k A->Env0 P w K mg base A outer s H->Q1 s fd args (ps.zip us)->Vals vs us->sp vs H Q E->
  QJ (PU P w) A (.call (.ref f) args) (CR CX outer P w H s Q E) s
variable{f:KM}{mg:E_->Option KB}{base:P4}{CX:CXT}{fd:P9}{ps:List E_}{sp:Sp}
def FnOk.mono{j:Nat}(F:FnOk P w K mg base CX j f fd ps sp)(h:j<=k):
  FnOk P w K mg base CX k f fd ps sp:=#[F.len,λA outer s H args us vs Q E hr=>F.run A outer s H args us vs Q E (hr.mono h)]
def FnOk.imp{HP:Sp}(F:FnOk P w K mg base CX k f fd ps sp)
  (h:∀vs H Q E,HP vs H Q E->sp vs H Q E):FnOk P w K mg base CX k f fd ps HP:=
 #[λvs H Q E q=>F.len vs H Q E (h _ _ _ _ q),λA outer s H args us vs Q E hr he hb hv hs=>F.run A outer s H args us vs Q E hr he hb hv (h _ _ _ _ hs)]
variable{outer:List QN}
def Env0.make(e:Env0 P w K mg base A outer s H)(C:KM)(us:List KB)(kw:List (E_×KB)):
  Env0 P w K mg base (A.under (.builtin "type.__call__" #[.ref C::us,kw])) outer s H:=#[by first|exact e.frames|(simpa[Around.under,Code.envs,Code.isFrame,pushEnvs]using e.frames),e.mod,e.bs,e.bsz,e.funs,e.frf,e.hok,e.bare]
section
variable {X:Cx}{pins:List (KM×Qc)}{σ:St}{H:Hp}{s s':KF}
def Inv.env0(I:Inv X pins σ H s):Env0 X.prog X.w X.K X.mg X.base X.A X.stack s H:=
 #[I.ok.frames,I.ok.mod,I.bs,Eo I.ok.bsz I.sz,I.stack,I.stkFree,I.hok,I.bare]
def Inv.after{Q:VK}{u:KB}(I:Inv X pins σ H s)(h:CE X.stack X.prog X.w H s Q u s'):EP X pins σ Q u s':=by
 obtain⟨v,H',os,bare,un,hok,r,q⟩:=h;obtain⟨hh,g,d,t,N5⟩:=s';obtain rfl:N5=s.os:=os;exact#[v,H',I.call (h':=hh) (g':=g) (d':=d) (t':=t) (ch:=[]) un hok bare (λb z=>absurd z Iq),r,q]
end
def pk(sp:Sp)(n5:List V)(E:XK)(t:TA):TE:=λσ H Q=>t σ H λvs H1=>sp (vs++n5) H1 Q E
def vD(C:KM)(sp:Sp)(n5:List V)(E:XK)(t:TA):TE:=λσ H Q=>t σ H λvs H1=>∀x dx,H1 x=p7->H1 dx=p7->dx≠x->
 sp (.ref x::(vs++n5)) (upd (upd H1 dx (.own x)) x (.ins C dx [])) (λv H2=>v=.non/\Q (.ref x) H2) E
def Binds(K:Ef)(fd:P9)(ps:List E_)(ds:List KB):Prop:=
 ∀(s:KF) (us:List KB),K.In s.heap->(us++ds).length=ps.length->Q1 s fd #[us,[]] (ps.zip (us++ds))
def Binds.all(h:∀us:List KB,us.length=ps.length->QA fd #[us,[]]=pure (ps.zip us)):Binds K fd ps []:=λs us _ hl=>by
 rw[E4]at hl ⊢;exact .of_eq (h us hl)
def fb(CX:CXT)(X:Cx)(E:XK):Prop:=∀(pins:List (KM×Qc)) (σ:St) (H:Hp) (s:KF) (e:KB) (s':KF),Inv X pins σ H s->CX X.stack H s E e s'->X.xe e s'
section
variable {X:Cx}{CX:CXT}{k:Nat}{f C:KM}{fd:P9}{ps:List E_}{sp:Sp}{n5:List V}{ds:List KB}{E:XK}{x m:E_}{p pos c7:Qa}{e o:PV}{es:List PV}{ta:TE}{t:TA}
variable{pins:List (KM×Qc)}{us:List KB}{vs:List V}
def vE{σ:St}{H:Hp}{s:KF}{Q:VK}(F:FnOk X.prog X.w X.K X.mg X.base CX k f fd ps sp)(hr:Room k X.A)(hb:Binds X.K fd ps ds)(hd:Vals n5 ds)(hx:fb CX X E)
  (I:Inv X pins σ H s) (r:Vals vs us) (h:sp (vs++n5) H Q E):PY (PU X.prog X.w) X.A (call (.ref f) us) (EP X pins σ Q) X.xe s:=by
 have r2:Vals (vs++n5) (us++ds):=r.append hd;have hl:(us++ds).length=ps.length:=by rw[<-r2.length];exact F.len _ _ _ _ h
 refine QY (QQ (F.run X.A X.stack s H #[us,[]] (us++ds) (vs++n5) Q E hr I.env0 (hb s us I.kIn hl) r2 h) λr s' hq=>?_);cases r with
 |error e=>exact hx pins σ H s e s' I hq
 |ok fl=>
  cases fl with
  |ret u=>exact I.after hq
  |next=>exact False.elim hq
  |brk=>exact False.elim hq
  |cont=>exact False.elim hq
def vF(F:FnOk X.prog X.w X.K X.mg X.base CX k f fd ps sp)(hr:Room k X.A)(hg:Gl X x)(hm:X.mg x=be (.ref f))(hk:keepIn X.K (.ref f)=true)(hb:Binds X.K fd ps ds)(hd:Vals n5 ds)(hx:fb CX X E)
  (ha:PA X (e::es) t) (e8:autoParam (zND x) zA1) (he:autoParam (zSE X e es) zA0) (c_:autoParam (zPL X pos es) zA0):
  PE X (.Call (.Name x p) (e::es) [] pos) (pk sp n5 E t):=by
 intro pins s σ H Q I h;refine Qb (cG I hg hm ?_ e8);refine callWith_K (h₀:=X.base) I.ok.mod.kin hk (thn (ha pos pins s σ H _ I h) λus s1 ⟨vs,H1,I1,r,q⟩=>#[I1.kIn,?_]) he c_;exact vE F hr hb hd hx I1 r q
structure Mk(K:Ef)(C f:KM):Prop where
 makes:makesIn K C=true
 init:Ey K (.ref C) "__init__"=be (be (.ref f))
 fn:isFn K (.ref f)=true
 kp:keepIn K (.ref C)=true
def vG{σ:St}{H:Hp}{s:KF}{Q:VK}(M:Mk X.K C f)(F:FnOk X.prog X.w X.K X.mg X.base CX k f fd ps sp)(hr:Room (k+1) X.A)(hb:Binds X.K fd ps ds)(hd:Vals n5 ds)
  (hx:fb CX X E) (I:Inv X pins σ H s) (r:Vals vs us)
  (h:∀x dx,H x=p7->H dx=p7->dx≠x->sp (.ref x::(vs++n5)) (upd (upd H dx (.own x)) x (.ins C dx [])) (λv H2=>v=.non/\Q (.ref x) H2) E):
  PY (PU X.prog X.w) X.A (call (.ref C) us) (EP X pins σ Q) X.xe s:=by
 have hq:=h (s.heap.objs.size+1) s.heap.objs.size (I.hok.fresh (Fn _)) (I.hok.fresh (Eg _)) (El (GI _));have I2:=Inv.made (C:=C) I;have r2:Vals (V.ref (s.heap.objs.size+1)::(vs++n5)) (Value.ref (s.heap.objs.size+1)::(us++ds)):=.cons rfl (r.append hd);have hl:(Value.ref (s.heap.objs.size+1)::us++ds).length=ps.length:=by
  have e:=r2.length;rw[F.len _ _ _ _ hq]at e;exact e.symm
 refine QY (vw (f:=f) I.kIn M.makes M.init (beq_iff_eq.mp M.fn) (QQ (F.run _ X.stack _ _ #[Value.ref (s.heap.objs.size+1)::us,[]] (Value.ref (s.heap.objs.size+1)::(us++ds)) _ _ E (hr.make C us [])
  (I2.env0.make C us []) (hb _ (Value.ref (s.heap.objs.size+1)::us) I2.kIn hl) r2 hq) λr s' p_=>?_))
 cases r with
 |error e=>exact hx pins σ _ _ e s' I2 p_
 |ok fl=>
  cases fl with
  |ret u=>
   obtain⟨v,H',I3,rv,ev,q3⟩:=I2.after p_;subst ev;exact#[rv,#[V.ref (s.heap.objs.size+1),H',I3,rfl,q3]]
  |next=>exact False.elim p_
  |brk=>exact False.elim p_
  |cont=>exact False.elim p_
def iY(M:Mk X.K C f)(F:FnOk X.prog X.w X.K X.mg X.base CX k f fd ps sp)(hr:Room (k+1) X.A)(hg:Gl X x)(hm:X.mg x=be (.ref C))(hb:Binds X.K fd ps ds)(hd:Vals n5 ds)(hx:fb CX X E)
  (ha:PA X (e::es) t) (e8:autoParam (zND x) zA1) (he:autoParam (zSE X e es) zA0) (c_:autoParam (zPL X pos es) zA0):
  PE X (.Call (.Name x p) (e::es) [] pos) (vD C sp n5 E t):=by
 intro pins s σ H Q I h;refine Qb (cG I hg hm ?_ e8);refine callWith_K (h₀:=X.base) I.ok.mod.kin M.kp (thn (ha pos pins s σ H _ I h) λus s1 ⟨vs,H1,I1,r,q⟩=>#[I1.kIn,?_]) he c_;exact vG M F hr hb hd hx I1 r q
end
structure FnScope(N P:List Str)(sc:Qk):Prop where
 kind:sc.kind=.function
 co:sc.isCoroutine=false
 gen:sc.isGenerator=false
 nd:N.Nodup
 pre:N.take P.length=P
 par:∀x∈P,sc.names.lookup x=be .local\/sc.names.lookup x=be .cell
 nofree:∀y∈sc.names,y.2≠.free
def pp{kindOf:E_->Option QB}{x:E_}:∀{binds:List (E_×KB)} {m:E_->Option KB},(∀v,(x,v)∉binds)->Rh kindOf binds m x=m x
 |[],_,_=>rfl
 |(n,v)::r,m,h=>by
  unfold Rh;rw[pp λw hw=>h w (Em _ hw)];split
  .have:x≠n:=by rintro rfl;exact h v Ep
   simp[this]
  .rfl
def bindC_out{kindOf:E_->Option QB}{x:E_}:∀{binds:List (E_×KB)} {m:E_->Option KB},(∀v,(x,v)∉binds)->Ri kindOf binds m x=m x
 |[],_,_=>rfl
 |(n,v)::r,m,h=>by
  unfold Ri;rw[bindC_out λw hw=>h w (Em _ hw)];split
  .rfl
  .have:x≠n:=by rintro rfl;exact h v Ep
   simp[this]
def bindL_get{kindOf:E_->Option QB}{x:E_}{v:KB}:∀{P:List E_} {vs:List KB} {i:Nat} {m:E_->Option KB},P.Nodup->P[i]?=be x->vs[i]?=be v->kindOf x=be .local->
  Rh kindOf (P.zip vs) m x=be v
 |[],_,_,_,_,h,_,_=>by simp at h
 |_::_,[],_,_,_,_,h,_=>by simp at h
 |p::P,w::vs,0,m,nd,h1,h2,hk=>by
  simp at h1 h2;subst h1;subst h2;show Rh kindOf ((p,w)::P.zip vs) m p=_;unfold Rh;rw[pp λv hv=>(E9.mp nd).1 (Gf hv).1,if_pos hk];simp
 |p::P,w::vs,i+1,m,nd,h1,h2,hk=>by
  show Rh kindOf ((p,w)::P.zip vs) m x=_;unfold Rh;exact bindL_get (i:=i) (E9.mp nd).2 (by simpa using h1) (by simpa using h2) hk
def pq{kindOf:E_->Option QB}{x:E_}{v:KB}:∀{P:List E_} {vs:List KB} {i:Nat} {m:E_->Option KB},P.Nodup->P[i]?=be x->vs[i]?=be v->kindOf x≠be .local->
  Ri kindOf (P.zip vs) m x=be v
 |[],_,_,_,_,h,_,_=>by simp at h
 |_::_,[],_,_,_,_,h,_=>by simp at h
 |p::P,w::vs,0,m,nd,h1,h2,hk=>by
  simp at h1 h2;subst h1;subst h2;show Ri kindOf ((p,w)::P.zip vs) m p=_;unfold Ri;rw[bindC_out λv hv=>(E9.mp nd).1 (Gf hv).1,if_neg hk];simp
 |p::P,w::vs,i+1,m,nd,h1,h2,hk=>by
  show Ri kindOf ((p,w)::P.zip vs) m x=_;unfold Ri;exact pq (i:=i) (E9.mp nd).2 (by simpa using h1) (by simpa using h2) hk
def start(N:List E_)(vs:List V):St:=vs.map be++EV (N.length-vs.length) p7
def cxOf(CX:CXT)(P:PZ)(w:P2)(K:Ef)(mg:E_->Option KB)(base:P4)(N:List E_)(qual:E_)(scope:Qk)(f:KM)(cd:KB)(A:P3)(outer:List QN)(s:KF)(H:Hp)(E:XK):Cx where
 prog:=P
 w:=w
 K:=K
 mg:=mg
 base:=base
 A:=A.deeper (Qe qual scope s.heap.objs.size f cd)
 N:=N
 s₀:=s
 H₀:=H
 env:=Qe qual scope s.heap.objs.size f cd
 outer:=outer
 stack:=Qe qual scope s.heap.objs.size f cd::outer
 ex:=[]
 calm:=true
 fn:=λ_=>true
 pn:=[]
 xe:=λe s'=>PY (PU P w) (A.deeper (Qe qual scope s.heap.objs.size f cd)) (Ro (Qe qual scope s.heap.objs.size f cd) e) (λ_ K0=>CX outer H s E e K0) (λe' K0=>CX outer H s E e' K0) s'
def cell_has{sc:Qk}{n:Nat}{x:E_}(h:sc.names.lookup x=be .cell):∃c,(cellsFrom n sc.names []).lookup x=be c:=by
 have q:=cellsFrom_some sc.names n [] (.inl h);exact Option.isSome_iff_exists.mp q
variable{N:List E_}{scope:Qk}
def vH{qual:E_}{cd:KB}{s1:KF}{E:XK}{vs:List V}
  (S:FnScope N ps scope) (hd:A.handled=p7) (e0:Env0 P w K mg base A outer s H) (hl:vs.length=ps.length) (r:Vals vs us)
  (x:InCallC s s.heap.objs.size (Rh (Qe qual scope s.heap.objs.size f cd).kindOf (ps.zip us) λ_=>p7) (cellsFrom (s.heap.objs.size+1) scope.names []) (Ri (Qe qual scope s.heap.objs.size f cd).kindOf (ps.zip us) λ_=>p7) s1):
  Inv (cxOf CX P w K mg base N qual scope f cd A outer s H E) [] (start N vs) H s1:=by
 have c_:ps.length<=N.length:=by have:=congrArg Gg S.pre;rw[FE]at this;lia
 obtain⟨h1,tk,rfl,hk⟩:=x.done;have Jq:∀b:KM,b∉(cxOf CX P w K mg base N qual scope f cd A outer s H E).ex:=λb z=>absurd (show b∈([]:List KM)from z) Iq;refine⟨#[e0.mod,S.kind,rfl,rfl,Eg _,λy z c h1 h2=>?_,λy hy=>?_,λy c _ h=>?_,λ_=>hd,Around.frames_deeper e0.frames,.inr #[rfl,rfl],λb z=>absurd z (Jq b),e0.bs,e0.bsz,λb _ _=>Jq b,λb z=>absurd z (Jq b),e0.funs,e0.frf],
  rfl,e0.bare,Un.kept hk,#[_,x.toInCall.ns,λi y v h1 h2 h3=>?_],λy c h=>#[_,x.cell y c h],e0.hok.fresh (Eg _),λy c h=>?_,λp hp=>absurd (show p∈([]:List (KM×Qc))from hp) Iq,e0.hok.kept hk,?_⟩
 .exact name_of_addr x.apart (PySem.mem_of_lookup h1) (PySem.mem_of_lookup h2)
 .have hy:scope.names.lookup y=be .cell\/scope.names.lookup y=be .free:=hy;rcases hy with hy|hy
  .exact cell_has hy
  .exact absurd rfl (S.nofree _ (PySem.mem_of_lookup hy))
 .exact FR (x.above y c (PySem.mem_of_lookup h))
 .have hi:i<vs.length:=by
   unfold start at h2;by_cases hi:i<vs.length
   .exact hi
   .rw[Fh (by simpa using hi)]at h2;rw[Gh]at h2;split at h2<;>cases h2
  have ha:vs[i]?=be v:=by
   unfold start at h2;rw[EW (by simpa using hi),Et]at h2;cases e:vs[i]? with
   |none=>rw[e]at h2;cases h2
   |some a=>rw[e]at h2;cases h2;rfl
  obtain⟨u,hu,rv⟩:=r.get ha;have hp:ps[i]?=be y:=by
   rw[<-S.pre,GJ Ig];exact h1
  have M0:ps.Nodup:=by rw[<-S.pre];exact S.nd.sublist (List.take_sublist _ _)
  refine#[u,rv,?_];rcases S.par y (FW hp)with k|k
  .exact .inl #[k,bindL_get M0 hp hu k]
  .obtain⟨c,e⟩:=cell_has (n:=s.heap.objs.size+1) k;refine .inr #[.inl k,c,e,?_];have q:=x.cell y c e;rw[pq M0 hp hu (by show scope.names.lookup y≠_;rw[k];decide)]at q;exact q
 .exact e0.hok.fresh (FR (x.above y c (PySem.mem_of_lookup h)))
 .unfold start;show _=N.length;rw[EG,En,List.length_replicate];lia
def vI{name qual:E_}{params:Arguments}{body:List P0}{dV kV doc pm cdv ct oc:KB}{an od:Option KM}
  {osl:Array (Option KB)}   (lk:K.lookup f=be #[oc,od,.func (fnOf name qual params body scope dV kV doc pm an cdv ct),osl]) (i9:codeIn K cdv qual=true) (S:FnScope N ps scope)
  (len:∀vs H Q E,sp vs H Q E->vs.length=ps.length)
  (b8:∀(A:P3) (outer:List QN) (s:KF) (H:Hp) (vs:List V) (Q:VK) (E:XK),Room k (A.deeper (Qe qual scope s.heap.objs.size f cdv))->sp vs H Q E->
   ∃t,PSs (cxOf CX P w K mg base N qual scope f cdv A outer s H E) body t/\t {nx:=λ_ H'=>Q .non H',rt:=Q} (start N vs) H):
  FnOk P w K mg base CX (k+1) f (fnOf name qual params body scope dV kV doc pm an cdv ct) ps sp:=by
 refine#[len,λA outer s H args us vs Q E hr e0 hb r HQ=>?_];have hl:=len _ _ _ _ HQ;have KX:K.In s.heap:=e0.mod.kin.keeps λb o e=>(e0.bs b o e).1;have N6:s.heap.NoLimit:=e0.mod.nolimit.keeps λb o e=>(e0.bs b o e).1;have Jr:∀y∈ps.zip us,scope.names.lookup y.1=be .local\/(scope.names.lookup y.1=be .cell/\((cellsFrom (s.heap.objs.size+1) scope.names []).lookup y.1).isSome=true):=λ⟨n,v⟩ hy=>by
  rcases S.par n (Gf hy).1 with q|q
  .exact .inl q
  .exact .inr #[q,cellsFrom_some _ _ _ (.inl q)]
 refine codeAny_call_function hr.depth (KX _ _ lk) rfl S.co S.gen rfl (codeRec_of KX i9) (hb _ _ _ _ ?_);refine wpAny_newFunctionEnv_cells S.kind Jr λenv he s1 x=>?_;subst he;refine#[N6.keeps x.toInCall.keep,codeAny_func ?_];obtain⟨t,ht,hq⟩:=b8 A outer s H vs Q E (hr.deeper _) HQ;have I:Inv (cxOf CX P w K mg base N qual scope f cdv A outer s H E) [] (start N vs) H s1:=vH S hr.hd e0 hl r x;refine P8 (ht [] s1 (start N vs) H _ I hq) (λfl s' hs=>?_) λe s' hs=>hs;have e_:∀{σ':St} {H':Hp} {v:V} {u:KB},Inv (cxOf CX P w K mg base N qual scope f cdv A outer s H E) [] σ' H' s'->RelV v u->Q v H'->CE outer P w H s Q u s':=
  λ{σ' H' v u} J rv q=>#[v,H',J.os,J.bare,J.base,J.hok,rv,q]
 cases fl with
 |ret u=>
  obtain⟨v,σ',H',J,rv,q⟩:=hs;exact e_ J rv q
 |next=>
  obtain⟨σ',H',J,q⟩:=hs;exact e_ (v:=V.non) (u:=Value.none) J rfl q
 |brk=>
  obtain⟨_,_,_,q⟩:=hs;exact False.elim q
 |cont=>
  obtain⟨_,_,_,q⟩:=hs;exact False.elim q
section
variable {X:Cx}{x:E_}{p pos:Qa}{e:PV}{es:List PV}{t:TA}{id T:String}{r:List V->Hp->VK->Prop}
def tCB(r:List V->Hp->VK->Prop)(t:TA):TE:=λσ H Q=>t σ H λvs H1=>r vs H1 Q
def fc(hc:bu X (.builtin id) r)(hg:Gl X x)(hm:X.mg x=p7)(hv:Qd x=be (.builtin id))(ha:PA X (e::es) t)(hn:autoParam (x≠"__name__") zA1)(e8:autoParam (zND x) zA1)
  (he:autoParam (zSE X e es) zA0) (c_:autoParam (zPL X pos es) zA0):PE X (.Call (.Name x p) (e::es) [] pos) (tCB r t):=by
 intro pins s σ H Q I h;refine Qb (db I hg hm hv ?_ hn e8);exact PyProof.Rows.callWith_builtin1 (thn (ha pos pins s σ H _ I h) λus s1 ⟨vs,H1,I1,r1,q1⟩=>hc pins s1 σ H1 vs us Q I1 r1 q1) he c_
def pr(hc:bu X (.type T) r)(hg:Gl X x)(hm:X.mg x=p7)(hv:Qd x=be (.type T))(ha:PA X (e::es) t)(hn:autoParam (x≠"__name__") zA1)(e8:autoParam (zND x) zA1)
  (he:autoParam (zSE X e es) zA0) (c_:autoParam (zPL X pos es) zA0):PE X (.Call (.Name x p) (e::es) [] pos) (tCB r t):=by
 intro pins s σ H Q I h;refine Qb (db I hg hm hv ?_ hn e8);exact PyProof.Rows.callWith_type1 (thn (ha pos pins s σ H _ I h) λus s1 ⟨vs,H1,I1,r1,q1⟩=>hc pins s1 σ H1 vs us Q I1 r1 q1) he c_
end
end L2
namespace HT
open PySem PyProof.Rows
section
variable {prog:PZ}{w:P2}{A:P3}{E:KB->KF->Prop}{s:KF}
variable{Q:KB->KF->Prop}
def cat_tup{t b:KM}{vs ws:List KB}(ht:IsTup s.heap t vs.toArray)(hb:IsTup s.heap b ws.toArray)(hv:vs≠[])
  (h1:ws=[]->Q (.ref t) s) (h2:ws≠[]->Q (.ref s.heap.objs.size) {s with heap:=s.heap.push {cls:=.type "tuple",data:=.seq (vs++ws).toArray} })
  (g8:vs.length+ws.length<=sizeLine):PY (PU prog w) A (Qh .Add (.ref t) (.ref b)) Q E s:=by
 obtain⟨⟨cls,dd,data,sl⟩,ho,hc,n,hd⟩:=id ht;obtain⟨⟨N7,M4,data2,M5⟩,Km,M6,n2,II⟩:=id hb;simp only at hc hd M6 II;subst hc hd M6 II;have e:vs.toArray++ws.toArray=(vs++ws).toArray:=Iq
 by_cases hw:ws=[]
 .exact concat_meets #[_,ho,rfl] #[_,Km,rfl] noFill_tuple_add seq_tuple_add PySem.F.slot_tuple_add PySem.F.entry_tuple_add (PySem.F.args_tuple_add_2 _ _)
   (tuple_addW1 t b vs.toArray ws.toArray n n2 dd M4 sl M5 (by simpa using hv) (by simp[hw])) #[ho,Km,h1 hw]
 .refine concat_meets #[_,ho,rfl] #[_,Km,rfl] noFill_tuple_add seq_tuple_add PySem.F.slot_tuple_add PySem.F.entry_tuple_add (PySem.F.args_tuple_add_2 _ _)
   (tuple_addW2 t b vs.toArray ws.toArray n n2 dd M4 sl M5 (by simpa using hv) (by simpa using hw) (by rw[Er,Er];exact g8)) #[ho,Km,?_]
  rw[e];exact h2 hw
def sIx(n d:Nat):Option Int->Nat
 |none=>d
 |some v=>if v<0 then(v+(n:Int)).toNat else min v.toNat n
def sIx_le(n d:Nat)(hd:d<=n)(o:Option Int):sIx n d o<=n:=by
 cases o with
 |none=>exact hd
 |some v=>
  show(if v<0 then(v+(n:Int)).toNat else min v.toNat n)<=n;by_cases hv:v<0
  .rw[if_pos hv];lia
  .rw[if_neg hv];exact Nat.min_le_right _ _
def pv(v:Int)(n d:Nat):(if v<0 then max (v+(n:Int)) 0 else min v (n:Int))=((sIx n d (be v):Nat):Int):=by
 show(if v<0 then max (v+(n:Int)) 0 else min v (n:Int))=(((if v<0 then(v+(n:Int)).toNat else min v.toNat n):Nat):Int);by_cases hv:v<0
 .simp only[if_pos hv];lia
 .simp only[if_neg hv];lia
def vJ(lo hi:Option Int)(n:Nat):Builtin.Slice.sliceAdjust lo hi 1 (n:Int)=(((sIx n 0 lo:Nat):Int),((sIx n n hi:Nat):Int)):=by
 have h1:¬((1:Int)<0):=Ig
 unfold Builtin.Slice.sliceAdjust;simp only[h1,if_false];refine Prod.ext ?_ ?_
 .cases lo with
  |none=>rfl
  |some v=>exact pv v n 0
 .cases hi with
  |none=>rfl
  |some v=>exact pv v n n
def vK(i j:Nat):Builtin.Slice.slicePlaces (i:Int) (j:Int) 1=j-i:=by
 unfold Builtin.Slice.slicePlaces;have h1:(1:Int)>0:=Ig
 simp only[h1,if_true,Int.ediv_one];split<;>lia
def pw{v:KB}{o:Option Int}{Q:Option Int->KF->Prop}(p:Q2 v o)(h:Q o s):PY (PU prog w) A (Builtin.Slice.slicePartIndex v) Q E s:=by
 cases p with
 |none=>exact slicePart_none h
 |int i t=>exact slicePart_int h
variable{lo hi:Option Int}
def vL{sl:KM}{vl vu:KB}{n:Nat}{Q:Int×Int×Nat->KF->Prop}(hs:s.heap.IsSliceOf sl vl vu .none)(pl:Q2 vl lo)(pu:Q2 vu hi)
  (h:Q (((sIx n 0 lo:Nat):Int),1,sIx n n hi-sIx n 0 lo) s):PY (PU prog w) A (Builtin.Slice.sliceApplied (.ref sl) (pure (n:Int))) Q E s:=by
 obtain⟨os,v7,M7,Kn⟩:=id hs;unfold Builtin.Slice.sliceApplied Builtin.Slice.sliceFields;refine Os (Os (Qp v7 Kn (x:=vl) rfl (Os (Qp v7 Kn (x:=vu) rfl (Os (Qp v7 Kn (x:=.none) rfl (PX ?_)))))));refine Os (slicePart_none ?_);show PY _ _ (if((1:Int)==0)=true then _ else _) _ _ s;rw[if_neg Ik];refine Os (pw pl (Os (pw pu (Os (PX ?_)))));show PY _ _ (match Builtin.Slice.sliceAdjust lo hi 1 (n:Int)with|(lo,hi)=>pure (lo,(1:Int),Builtin.Slice.slicePlaces lo hi 1)) _ _ s;rw[vJ lo hi n];show PY _ _ (pure (((sIx n 0 lo:Nat):Int),(1:Int),Builtin.Slice.slicePlaces ((sIx n 0 lo:Nat):Int) ((sIx n n hi:Nat):Int) 1)) _ _ s;rw[vK];exact PX h
def vM(xs:Array KB)(i k:Nat):((Ej k).filterMap λ(m:Nat)=>xs[((i:Int)+(m:Int)*1).toNat]?).toArray=((xs.toList.drop i).take k).toArray:=by
 have e:(λ(m:Nat)=>xs[((i:Int)+(m:Int)*1).toNat]?)=λm=>xs[i+m]?:=by
  funext m;have:((i:Int)+(m:Int)*1).toNat=i+m:=Ig
  rw[this]
 rw[e];have:=pick_run xs i k;rw[GK]at this;have e2:((λx=>xs[x]?) ∘ λx=>i+x)=λm=>xs[i+m]?:=rfl;rw[e2]at this;rw[this]
def getItem_tuple_cut{t sl:KM}{items:Array KB}{vl vu:KB}(ht:IsTup s.heap t items)(hs:s.heap.IsSliceOf sl vl vu .none)(pl:Q2 vl lo)(pu:Q2 vu hi)
  (hw:¬(sIx items.size 0 lo=0/\sIx items.size items.size hi=items.size))
  (h:Q (.ref s.heap.objs.size) {s with heap:=s.heap.push {cls:=.type "tuple",data:=.seq ((items.toList.drop (sIx items.size 0 lo)).take (sIx items.size items.size hi-sIx items.size 0 lo)).toArray} })
  (g8:items.size<=sizeLine):PY (PU prog w) A (Q8 (.ref t) (.ref sl)) Q E s:=by
 have h_:sizeOk (.seq ((items.toList.drop (sIx items.size 0 lo)).take (sIx items.size items.size hi-sIx items.size 0 lo)).toArray):=by
  show((items.toList.drop (sIx items.size 0 lo)).take (sIx items.size items.size hi-sIx items.size 0 lo)).toArray.size<=sizeLine;rw[Er,FE,FF,FT];lia
 have hj:sIx items.size items.size hi<=items.size:=sIx_le _ _ (Eg _) hi;obtain⟨os,v7,M7,Kn⟩:=id hs;have N8:s.TypeIs (.ref sl) "slice":=#[os,v7,M7];unfold Q8
 try with_reducible refine Qi ?_
 first|refine Os (PX ?_)|skip
 refine Os (wpAny_sequenceKey ht.typeIs Ik ?_);refine Os (wpAny_callSpecial?_slot (name:=Str.ofString "__getitem__") ht.typeIs PyProof.Rows.slot_tuple_getitem
  (wpAny_call_entry PyProof.Rows.slot_tuple_getitem ht.typeIs entry_tuple_getitem ?_ (args_tuple_getitem _ _)))
 show PY _ _ (Builtin.Tuple.tupleItemsOf (.ref t)>>=_) _ _ s;refine Os (tupleItemsOf_ ht ?_);refine Os (wpAny_typeOf N8 ?_);rw[if_pos Ik];refine Os (vL hs pl pu ?_);have Js:¬((((sIx items.size 0 lo:Nat):Int)==0&&(1:Int)==1&&(sIx items.size items.size hi-sIx items.size 0 lo)==items.size)=true):=by
  intro q;rw[EH,EH]at q;have q1:((sIx items.size 0 lo:Nat):Int)=0:=eq_of_beq q.1.1;have q2:sIx items.size items.size hi-sIx items.size 0 lo=items.size:=eq_of_beq q.2;exact hw #[Ig,Ig]
 show PY _ _ (if(((sIx items.size 0 lo:Nat):Int)==0&&(1:Int)==1&&(sIx items.size items.size hi-sIx items.size 0 lo)==items.size)=true then _ else _) _ _ s;rw[if_neg Js,vM]
 first
  |exact Os (m:=Builtin.Tuple.tupleExact _) (P_ (PX ⟨_,rfl,PX h⟩) h_)
  |exact Os (m:=Builtin.Tuple.tupleExact _) (P_ (Os (PX (PX ⟨_,rfl,PX h⟩))) h_)
  |exact Os (Os (m:=Builtin.Tuple.tupleExact _) (P_ (PX (PX ⟨_,rfl,PX h⟩)) h_))
  |exact Os (Os (m:=Builtin.Tuple.tupleExact _) (P_ (PX ⟨_,rfl,PX h⟩) h_))
end
end HT
namespace L2
open PySem PySem.Spec PyProof.Rows
abbrev TO:=St->Hp->(Option Int->Hp->Prop)->Prop
def PO(X:Cx)(e:Option PV)(t:TO):Prop:=
 ∀(pins:List (KM×Qc)) (s:KF) (σ:St) (H:Hp) (Q:Option Int->Hp->Prop),Inv X pins σ H s->t σ H Q->
  PY (PU X.prog X.w) X.A (evalPart e X.env) (λu s'=>∃o H',Inv X pins σ H' s'/\Q2 u o/\Q o H') X.xe s
def vN:TO:=λ_ H Q=>Q p7 H
def vO(t:TE):TO:=λσ H Q=>t σ H λx H1=>∃i,x=.int i/\Q (be i) H1
section
variable {X:Cx}{e:PV}{te:TE}{lo hi:Option PV}{tl th:TO}{pos p2:Qa}
def pz:PO X p7 vN:=by
 intro pins s σ H Q I h;rw[evalPart_none];exact PX #[p7,H,I,.none,h]
def pA(h:PE X e te):PO X (be e) (vO te):=by
 intro pins s σ H Q I hw;rw[evalPart_some];refine thn (h pins s σ H _ I hw) λu s1 b_=>?_;obtain⟨x,H1,I1,r1,q1⟩:=b_;obtain⟨i,rfl,q⟩:=q1;obtain⟨t,rfl⟩:=r1;exact#[be i,H1,I1,.int i t,q]
def SlR(X:Cx)(r:V->Option Int->Option Int->Hp->VK->Prop):Prop:=
 ∀(pins:List (KM×Qc)) (s:KF) (σ:St) (H:Hp) (x:V) (v vl vu:KB) (lo hi:Option Int) (sl:KM) (Q:VK),Inv X pins σ H s->RelV x v->s.heap.IsSliceOf sl vl vu .none->Q2 vl lo->Q2 vu hi->r x lo hi H Q->
  ∃T id,typeLookup (.type T) "__getitem__"=pure (be (.builtin id))/\s.TypeIs v T/\PY (PU X.prog X.w) X.A (Q8 v (.ref sl)) (EP X pins σ Q) X.xe s
variable{r:V->Option Int->Option Int->Hp->VK->Prop}
def SlR.or{r':V->Option Int->Option Int->Hp->VK->Prop}(h:SlR X r)(h':SlR X r'):SlR X (λx lo hi H Q=>r x lo hi H Q\/r' x lo hi H Q):=by
 intro pins s σ H x v vl vu lo hi sl Q I rx hs pl pu q;rcases q with q|q
 .exact h pins s σ H x v vl vu lo hi sl Q I rx hs pl pu q
 .exact h' pins s σ H x v vl vu lo hi sl Q I rx hs pl pu q
def tSl(r:V->Option Int->Option Int->Hp->VK->Prop)(te:TE)(tl th:TO):TE:=λσ H Q=>te σ H λx H1=>tl σ H1 λl H2=>th σ H2 λu H3=>r x l u H3 Q
def pB(hr:SlR X r)(he:PE X e te)(hl:PO X lo tl)(hu:PO X hi th):PE X (.Subscript e (.Slice lo hi p7 p2) pos) (tSl r te tl th):=by
 intro pins s σ H Q I h;refine Subscript_ (thn (he pins s σ H _ I h) λv s1 b_=>?_);obtain⟨x,H1,I1,r1,q1⟩:=b_;refine wpAny_Slice (thn (hl pins s1 σ H1 _ I1 q1) λvl s2 ⟨l,H2,I2,pl,q2⟩=>thn (hu pins s2 σ H2 _ I2 q2) λvu s3 b_=>?_);obtain⟨u,H3,I3,pu,q3⟩:=b_;rw[evalPart_none];refine PX ?_;have I4:Inv X pins σ H3 {s3 with heap:=s3.heap.push {cls:=.type "slice",data:=.fields [vl,vu,.none].toArray} }:=I3.kept (t':=s3.toks) λb ob q=>Heap.get?_push_of_some _ q;obtain⟨T,id,hT,ht,hg⟩:=hr pins {s3 with heap:=s3.heap.push {cls:=.type "slice",data:=.fields [vl,vu,.none].toArray} } σ H3 x v vl vu l u s3.heap.objs.size Q I4 r1 (Heap.IsSliceOf.new ..) pl pu q3;show PY (PU X.prog X.w) X.A (subscriptTail e (.Slice lo hi p7 p2) v (.ref s3.heap.objs.size)) (EP X pins σ Q) X.xe {s3 with heap:=s3.heap.push {cls:=.type "slice",data:=.fields [vl,vu,.none].toArray} };exact tail_any (ops:=[.ref s3.heap.objs.size,v]) ht hT hg (by with_unfolding_all rfl)
def cutV(xs:List V)(lo hi:Option Int):List V:=(xs.drop (HT.sIx xs.length 0 lo)).take (HT.sIx xs.length xs.length hi-HT.sIx xs.length 0 lo)
def pC(xs:List V)(lo hi:Option Int):(cutV xs lo hi).length<=xs.length:=by
 unfold cutV;rw[FE,FF];lia
def rSlT(K:Ef):V->Option Int->Option Int->Hp->VK->Prop:=λx lo hi H Q=>∃a xs,x=.ref a/\SqT K H a xs/\
 ¬(HT.sIx xs.length 0 lo=0/\HT.sIx xs.length xs.length hi=xs.length)/\∀p,H p=p7->Q (.ref p) (upd H p (.tup (cutV xs lo hi)))
def vP:SlR X (rSlT X.K):=by
 intro pins s σ H x v vl vu lo hi sl Q I rx hs pl pu h;obtain⟨a,xs,rfl,hx,hw,q⟩:=h;cases rx;obtain⟨its,r,ht,hz⟩:=I.tuple hx;have c5:its.toArray.size=xs.length:=by rw[Er];exact r.length.symm
 refine#["tuple",_,PyProof.Rows.slot_tuple_getitem.lookup,ht.typeIs,?_];refine HT.getItem_tuple_cut ht hs pl pu (by rw[c5];exact hw) ?_ (by rw[c5];exact hz);rw[c5];refine#[.ref s.heap.objs.size,_,I.laid (t':=s.toks) (o:=.tup (cutV xs lo hi)) (λb ob q=>Heap.get?_push_of_some _ q) (Eg _) ?_,rfl,q _ (I.hok.fresh (Eg _))];exact#[Eo (pC xs lo hi) hz,_,(r.drop (HT.sIx xs.length 0 lo)).take (HT.sIx xs.length xs.length hi-HT.sIx xs.length 0 lo),IsTup.new _ _]
def pD(K:Ef):R2:=λx y H Q=>∃a b xs ys,x=.ref a/\y=.ref b/\SqT K H a xs/\SqT K H b ys/\xs≠[]/\xs.length+ys.length<=sizeLine/\
 (ys=[]->Q (.ref a) H)/\(ys≠[]->∀p,H p=p7->Q (.ref p) (upd H p (.tup (xs++ys))))
def Vals.nil_iff{xs:List V}{us:List KB}(r:Vals xs us):us=[]↔xs=[]:=by
 cases r with
 |nil=>simp
 |cons _ _=>simp
def vQ:OpR X (Qh .Add) (pD X.K):=by
 intro pins s σ H x y v u Q I rx ry h;obtain⟨a,b,xs,ys,rfl,rfl,ha,hb,hx,hz,q1,q2⟩:=h;cases rx;cases ry;obtain⟨its,r1,p1,_⟩:=I.tuple ha;obtain⟨v8,r2,p2,_⟩:=I.tuple hb;refine HT.cat_tup p1 p2 (λz=>hx (r1.nil_iff.mp z)) (λz=>#[.ref a,H,I,rfl,q1 (r2.nil_iff.mp z)]) (λz=>?_) (by rw[<-r1.length,<-r2.length];exact hz);refine#[.ref s.heap.objs.size,_,I.laid (t':=s.toks) (o:=.tup (xs++ys)) (λb ob q=>Heap.get?_push_of_some _ q) (Eg _) ?_,rfl,q2 (λw=>z (r2.nil_iff.mpr w)) _ (I.hok.fresh (Eg _))];exact#[by rw[EG];exact hz,_,r1.append r2,IsTup.new _ _]
end
def ixN(n:Nat)(i:Int):Option Nat:=if 0<=i then(if i<n then be i.toNat else p7)else if -(n:Int)<=i then be (i+n).toNat else p7
def atI{α:Type}(xs:List α)(i:Int):Option α:=(ixN xs.length i).bind λj=>xs[j]?
def pE{n:Nat}{i:Int}{j:Nat}(h:ixN n i=be j):seqIndex? i n=be j/\j<n/\-(n:Int)<=i/\i<n:=by
 unfold ixN at h;by_cases h0:0<=i
 .rw[if_pos h0]at h;by_cases h1:i<n
  .rw[if_pos h1]at h;have e:i.toNat=j:=Option.some.inj h;exact#[by rw[Ru h0 h1,e],Ig,Ig,h1]
  .rw[if_neg h1]at h;cases h
 .rw[if_neg h0]at h;by_cases h1:-(n:Int)<=i
  .rw[if_pos h1]at h;have e:(i+n).toNat=j:=Option.some.inj h;exact#[by rw[Rn Ig h1,e],Ig,h1,Ig]
  .rw[if_neg h1]at h;cases h
def atI_get{α:Type}{xs:List α}{i:Int}{v:α}(h:atI xs i=be v):∃j,seqIndex? i xs.length=be j/\xs[j]?=be v/\j<xs.length/\-(xs.length:Int)<=i/\i<xs.length:=by
 unfold atI at h;cases e:ixN xs.length i with
 |none=>rw[e]at h;cases h
 |some j=>
  rw[e]at h;obtain⟨h1,h2,h3,h4⟩:=pE e;exact#[j,h1,h,h2,h3,h4]
def bN{α:Type}{xs:List α}{j:Nat}{v:α}(h:xs[j]?=be v):atI xs (j:Int)=be v:=by
 have hj:j<xs.length:=(Ev.mp h).1;have e:ixN xs.length (j:Int)=be j:=by
  unfold ixN;rw[if_pos Ig,if_pos Ig];simp
 unfold atI;rw[e];exact h
def dP(b:PV):Prop:=∀o i,subscripted b false o i=operate [o,i] (Q8 o i)
def IxR(X:Cx)(r:R2):Prop:=
 ∀(value slice:PV) (pins:List (KM×Qc)) (s:KF) (σ:St) (H:Hp) (x y:V) (v u:KB) (Q:VK),Inv X pins σ H s->RelV x v->RelV y u->r x y H Q->
  subscripted slice false v u=operate [v,u] (Q8 v u)->PY (PU X.prog X.w) X.A (subscriptTail value slice v u) (EP X pins σ Q) X.xe s
def MtR(X:Cx)(id:String)(r:V->List V->Hp->VK->Prop):Prop:=
 ∀(pins:List (KM×Qc)) (s:KF) (σ:St) (H:Hp) (x:V) (xs:List V) (v:KB) (us:List KB) (Q:VK),Inv X pins σ H s->RelV x v->Vals xs us->r x xs H Q->
  PY (PU X.prog X.w) X.A (call (.builtin id) (v::us)) (EP X pins σ Q) X.xe s
section
variable {X:Cx}{a b:PV}{ta tb:TE}{pos:Qa}
def IxR.or{r r':R2}(h:IxR X r)(h':IxR X r'):IxR X (λx y H Q=>r x y H Q\/r' x y H Q):=by
 intro value slice pins s σ H x y v u Q I rx ry q hs;rcases q with q|q
 .exact h value slice pins s σ H x y v u Q I rx ry q hs
 .exact h' value slice pins s σ H x y v u Q I rx ry q hs
def pe_ix{r:R2}(hr:IxR X r)(ha:PE X a ta)(hb:PE X b tb)(hs:dP b):PE X (.Subscript a b pos) (tOp r ta tb):=by
 intro pins s σ H Q I h;exact Subscript_ (binT ha hb I h λv u s2 x y H2 I2 rx ry q=>hr a b pins s2 σ H2 x y v u Q I2 rx ry q (hs _ _))
def rIxL(K:Ef):R2:=λx y H Q=>∃p xs i v,x=.ref p/\y=.int i/\SqL K H p xs/\atI xs i=be v/\Q v H
def rIxT(K:Ef):R2:=λx y H Q=>∃p xs i v,x=.ref p/\y=.int i/\SqT K H p xs/\atI xs i=be v/\Q v H
def rIxS:R2:=λx y H Q=>∃z i c,x=.str z/\y=.int i/\z.length<=sizeLine/\atI z.cps.toList i=be c/\Q (.str #[[c].toArray]) H
def ix_list:IxR X (rIxL X.K):=by
 intro value slice pins s σ H x y v u Q I rx ry h hs;obtain⟨p,xs,i,z,rfl,rfl,hq,he,q⟩:=h;cases rx;obtain⟨t,rfl⟩:=ry;obtain⟨its,r,pl,hz⟩:=I.list hq;obtain⟨j,h1,h2,h3,h4,h5⟩:=atI_get he;obtain⟨w,ew,g6⟩:=r.get h2;have hl:=r.length;have hn:=line63;have e_:EP X pins σ Q w s:=#[z,H,I,g6,q];by_cases h0:0<=i
 .have hj:i.toNat=j:=by
   rw[Ru h0 h5]at h1;exact Option.some.inj h1
  exact item_listR pl.isList h0 Ig (by rw[hj];simpa using ew) e_ hs
 .have hj:(i+(its.toArray.size:Int)).toNat=j:=by
   rw[Rn Ig h4]at h1;rw[Er,<-hl];exact Option.some.inj h1
  exact Rl (x:=w) pl.isList.typeIs slot_list_getitem.lookup
   (wpAny_getItem_list_neg (Q:=λr s'=>r=w/\EP X pins σ Q r s') pl.isList Ig (by rw[Er]<;>lia) Ig (by rw[hj];simpa using ew) #[rfl,e_]) hs
def ix_tup:IxR X (rIxT X.K):=by
 intro value slice pins s σ H x y v u Q I rx ry h hs;obtain⟨p,xs,i,z,rfl,rfl,hq,he,q⟩:=h;cases rx;obtain⟨t,rfl⟩:=ry;obtain⟨its,r,pl,hz⟩:=I.tuple hq;obtain⟨j,h1,h2,h3,h4,h5⟩:=atI_get he;obtain⟨w,ew,g6⟩:=r.get h2;have hl:=r.length;have hn:=line63;have e_:EP X pins σ Q w s:=#[z,H,I,g6,q];exact Rl (x:=w) pl.typeIs slot_tuple_getitem.lookup
  (getItem_tuple (j:=j) (Q:=λr s'=>r=w/\EP X pins σ Q r s') pl Ig Ig (by rw[Er,<-hl];exact h1) (by simpa using ew) #[rfl,e_]) hs
def vR:IxR X rIxS:=by
 intro value slice pins s σ H x y v u Q I rx ry h hs;obtain⟨z,i,c,rfl,rfl,hz,he,q⟩:=h;obtain⟨t,rfl⟩:=rx;obtain⟨t',rfl⟩:=ry;obtain⟨j,h1,h2,h3,h4,h5⟩:=atI_get he;have hl:z.cps.toList.length=z.length:=by simp[Str.length]
 rw[hl]at h1 h4 h5;have hn:=line63;exact tail_any (RB s z t) slot_str_getitem.lookup (getItem_str (c:=c) (by
  have e1:decide (i< -(2^63:Int))=false:=decide_eq_false Ig;have e2:decide (i>=2^63)=false:=decide_eq_false Ig;rw[e1,e2,Bool.or_false]) (by rw[h1];simpa using h2) #[.str #[[c].toArray],H,I.tok _,#[_,rfl],q]) hs
def rIx(K:Ef):R2:=λx y H Q=>rIxL K x y H Q\/rIxT K x y H Q\/rIxS x y H Q
def pF:IxR X (rIx X.K):=ix_list.or (ix_tup.or vR)
def vS(its:List KB)(n j:Nat)(u:KB):Obj.mapSeq (·.setIfInBounds j u) {cls:=.type "list",data:=.seq its.toArray n}={cls:=.type "list",data:=.seq (its.set j u).toArray n}:=by
 simp[Obj.mapSeq]
def Inv.lst{pins:List (KM×Qc)}{σ:St}{H:Hp}{s:KF}{p:KM}{xs:List V}(I:Inv X pins σ H s)(h:H p=be (.lst xs)):
  ∃(its:List KB) (n:Nat),Vals xs its/\s.heap.get? p=be {cls:=.type "list",data:=.seq its.toArray n}/\xs.length<=sizeLine:=by
 obtain⟨z,its,n,r,e⟩:=I.hok p _ h;exact#[its,n,r,e,z]
variable{pins:List (KM×Qc)}{s:KF}
def Inv.lstUpd{σ:St}{H:Hp}{p:KM}{xs ys:List V}{its its':List KB}{n n':Nat}{f:Qc->Qc}(I:Inv X pins σ H s)(h:H p=be (.lst xs))
  (ho:s.heap.get? p=be {cls:=.type "list",data:=.seq its.toArray n}) (hf:f {cls:=.type "list",data:=.seq its.toArray n}={cls:=.type "list",data:=.seq its'.toArray n'}) (r:Vals ys its') (hz:ys.length<=sizeLine) (t:Nat):
  Inv X pins σ (upd H p (.lst ys)) {s with heap:=s.heap.update p f,toks:=t}:=by
 have e:(s.heap.update p f).get? p=be {cls:=.type "list",data:=.seq its'.toArray n'}:=by
  rw[Heap.get?_update_self f ho (by rw[hf]<;>rfl),hf]
 refine I.write (x:=p) (e:=p) (by rw[h];trivial) (.inl rfl) (λb u hb q=>(Heap.get?_update_other _ _ (Ne.symm hb)).trans q) #[_,e] ?_;exact#[hz,its',n',r,e]
def vT:V->V->V->Hp->(Hp->Prop)->Prop:=λo i v H Q=>∃p xs k j,o=.ref p/\i=.int k/\H p=be (.lst xs)/\ixN xs.length k=be j/\Q (upd H p (.lst (xs.set j v)))
def pG:PSet X vT:=by
 intro pins s σ H o i v ov iv u Q I ro ri rv h;obtain⟨p,xs,k,j,rfl,rfl,hp,hj,q⟩:=h;cases ro;obtain⟨t,rfl⟩:=ri;obtain⟨its,n,r,ho,hz⟩:=I.lst hp;obtain⟨h1,h2,h3,h4⟩:=pE hj;have hl:=r.length;have hn:=line63;have I':Inv X pins σ (upd H p (.lst (xs.set j v))) {s with heap:=s.heap.update p (Obj.mapSeq (·.setIfInBounds j u))}:=
  I.lstUpd hp ho (vS its n j u) (r.set rv j) (by rw[Fb];exact hz) s.toks
 by_cases h0:0<=k
 .have hk:k.toNat=j:=by
   rw[Ru h0 h4]at h1;exact Option.some.inj h1
  exact ki_setAt ho h0 Ig (by rw[Er,<-hl];exact h4) (by rw[hk];exact#[_,I',q])
 .have hk:(k+(its.toArray.size:Int)).toNat=j:=by
   rw[Rn Ig h3]at h1;rw[Er,<-hl];exact Option.some.inj h1
  exact ki_setBack ho Ig (by rw[Er,<-hl];exact h3) Ig (by rw[hk];exact#[_,I',q])
def vU(lo hi:Option Int)(n:Nat):(Qz lo hi p7 n).1=((HT.sIx n 0 lo:Nat):Int)/\(Qz lo hi p7 n).2.1=((HT.sIx n n hi:Nat):Int)/\(Qz lo hi p7 n).2.2=1:=by
 refine#[?_,?_,rfl]
 .cases lo with
  |none=>simp[Qz,HT.sIx]
  |some i=>
   simp only[Qz,HT.sIx,GL,show(1:Int)>0 by decide,if_true];by_cases h:i<0
   .simp only[h,if_true]<;>lia
   .simp only[h,if_false]<;>lia
 .cases hi with
  |none=>simp[Qz,HT.sIx]
  |some i=>
   simp only[Qz,HT.sIx,GL,show(1:Int)>0 by decide,if_true];by_cases h:i<0
   .simp only[h,if_true]<;>lia
   .simp only[h,if_false]<;>lia
def vV(its:List KB)(lo hi:Option Int):slicePick its.toArray lo hi p7=((its.drop (HT.sIx its.length 0 lo)).take (HT.sIx its.length its.length hi-HT.sIx its.length 0 lo)).toArray:=by
 obtain⟨h1,h2,h3⟩:=vU lo hi its.toArray.size;unfold slicePick;rw[h1,h2,h3];simp only[sliceRange_one,pick_run,Er]<;>rfl
def rSlL(K:Ef):V->Option Int->Option Int->Hp->VK->Prop:=λx lo hi H Q=>∃a xs,x=.ref a/\SqL K H a xs/\∀p,H p=p7->Q (.ref p) (upd H p (.lst (cutV xs lo hi)))
def pH:SlR X (rSlL X.K):=by
 intro pins s σ H x v vl vu lo hi sl Q I rx hs pl pu h;obtain⟨a,xs,rfl,hx,q⟩:=h;cases rx;obtain⟨its,r,ht,hz⟩:=I.list hx;have c5:=r.length;refine#["list",_,slot_list_getitem.lookup,ht.isList.typeIs,?_];refine wpAny_getItem_list_slice ht.isList hs pl pu .none Iq ?_ (by rw[Er]<;>lia);rw[vV,<-c5];refine#[.ref s.heap.objs.size,_,I.laid (t':=s.toks) (o:=.lst (cutV xs lo hi)) (λb ob q=>Heap.get?_push_of_some _ q) (Eg _) ?_,rfl,q _ (I.hok.fresh (Eg _))];exact#[Eo (pC xs lo hi) hz,_,0,(r.drop (HT.sIx xs.length 0 lo)).take (HT.sIx xs.length xs.length hi-HT.sIx xs.length 0 lo),Heap.get?_push_size _ rfl]
def bc:V->Bool
 |.non=>true
 |.bl _=>true
 |.int _=>true
 |.str _=>true
 |_=>false
def eqV:V->V->Bool
 |.non,.non=>true
 |.bl a,.bl b=>a==b
 |.bl a,.int b=>(if a then 1 else 0)==b
 |.int a,.bl b=>a==(if b then 1 else 0)
 |.int a,.int b=>a==b
 |.str a,.str b=>a==b
 |_,_=>false
variable{x:V}
def eqAt_V{A:P3}{y:V}{u v:KB}(ry:RelV y u)(rx:RelV x v)(fy:bc y=true)(fx:bc x=true):SeqAt.EqAt A s u v (eqV y x):=by
 cases y with
 |non=>
  cases ry;cases x with
  |non=>cases rx;exact SeqAt.EqAt.same _
  |bl b=>cases rx;exact SeqAt.EqAt.none_bool b
  |int b=>obtain⟨t,rfl⟩:=rx;exact SeqAt.EqAt.none_int b t
  |str b=>obtain⟨t,rfl⟩:=rx;exact SeqAt.EqAt.none_str b t
  |_=>exact absurd (show false=true from fx) Ew
 |bl a=>
  cases ry;cases x with
  |non=>cases rx;exact SeqAt.EqAt.bool_none a
  |bl b=>cases rx;exact SeqAt.EqAt.bool_bool a b
  |int b=>obtain⟨t,rfl⟩:=rx;exact SeqAt.EqAt.bool_int a b t
  |str b=>obtain⟨t,rfl⟩:=rx;exact SeqAt.EqAt.bool_str a b t
  |_=>exact absurd (show false=true from fx) Ew
 |int a=>
  obtain⟨t',rfl⟩:=ry;cases x with
  |non=>cases rx;exact SeqAt.EqAt.int_none a t'
  |bl b=>cases rx;exact SeqAt.EqAt.int_bool a t' b
  |int b=>obtain⟨t,rfl⟩:=rx;exact SeqAt.EqAt.int_int a t' b t
  |str b=>obtain⟨t,rfl⟩:=rx;exact SeqAt.EqAt.int_str a t' b t
  |_=>exact absurd (show false=true from fx) Ew
 |str a=>
  obtain⟨t',rfl⟩:=ry;cases x with
  |non=>cases rx;exact SeqAt.EqAt.str_none a t'
  |bl b=>cases rx;exact SeqAt.EqAt.str_bool a t' b
  |int b=>obtain⟨t,rfl⟩:=rx;exact SeqAt.EqAt.str_int a t' b t
  |str b=>obtain⟨t,rfl⟩:=rx;exact SeqAt.EqAt.str_str a t' b t
  |_=>exact absurd (show false=true from fx) Ew
 |_=>exact absurd (show false=true from fy) Ew
def eqU(x:V)(u:KB):Bool:=match u with
 |.none=>eqV .non x
 |.bool b=>eqV (.bl b) x
 |.int i _=>eqV (.int i) x
 |.str z _=>eqV (.str z) x
 |_=>false
def fQ{y:V}{u:KB}(r:RelV y u)(f:bc y=true):eqU x u=eqV y x:=by
 cases y with
 |non=>cases r;rfl
 |bl b=>cases r;rfl
 |int i=>obtain⟨t,rfl⟩:=r;rfl
 |str z=>obtain⟨t,rfl⟩:=r;rfl
 |_=>exact absurd (show false=true from f) Ew
def iZ{x:V}:∀{xs:List V} {us:List KB},Vals xs us->xs.all bc=true->us.any (eqU x)=xs.any λy=>eqV y x
 |_,_,.nil,_=>rfl
 |y::xs,u::us,.cons r t,f=>by
  rw[EY,EH]at f;rw[FX,FX,fQ r f.1,iZ t f.2]
def mem_eqAt{A:P3}{s:KF}{x:V}{v:KB}(rx:RelV x v)(fx:bc x=true):∀{xs:List V} {us:List KB},Vals xs us->xs.all bc=true->∀u∈us,SeqAt.EqAt A s u v (eqU x u)
 |_,_,.nil,_=>λu hu=>by cases hu
 |y::xs,u::us,.cons r t,f=>λu' hu=>by
  rw[EY,EH]at f;rcases Ei.mp hu with rfl|hu
  .rw[fQ r f.1];exact eqAt_V r rx f.1 fx
  .exact mem_eqAt rx fx t f.2 u' hu
def inV(x:V)(xs:List V):Bool:=xs.any λy=>eqV y x
def rIn(K:Ef)(neg:Bool):R2:=λx y H Q=>∃p xs,y=.ref p/\(SqL K H p xs\/SqT K H p xs)/\bc x=true/\xs.all bc=true/\Q (.bl (if neg then !inV x xs else inV x xs)) H
def vW:OpR X (P' .NotIn) (rIn X.K true):=by
 intro pins s σ H x y v u Q I rx ry h;obtain⟨p,xs,rfl,hq,fx,fs,q⟩:=h;cases ry;rcases hq with hq|hq
 .obtain⟨its,r,pl,hz⟩:=I.list hq;refine SeqAt.notIn_listAt (eqU x) pl.isList (λw hw=>mem_eqAt rx fx r fs w (by simpa using hw)) #[.bl _,H,I,rfl,?_];rw[show its.toArray.any (eqU x)=its.any (eqU x)by simp,iZ r fs];exact q
 .obtain⟨its,r,pl,hz⟩:=I.tuple hq;refine SeqAt.notIn_tupleAt (eqU x) pl (λw hw=>mem_eqAt rx fx r fs w (by simpa using hw)) #[.bl _,H,I,rfl,?_];rw[show its.toArray.any (eqU x)=its.any (eqU x)by simp,iZ r fs];exact q
def vX:OpR X (P' .NotIn) (λx y H Q=>∃i j,x=.str i/\y=.str j/\Q (.bl (!(!(Builtin.Str.occurrences j i 0 j.length 1).isEmpty))) H):=by
 intro pins s σ H x y v u Q I rx ry h;obtain⟨i,j,rfl,rfl,q⟩:=h;obtain⟨t,rfl⟩:=rx;obtain⟨t',rfl⟩:=ry;exact notIn_str #[.bl _,H,I,rfl,q]
def vY:bu X (.type "list") (λxs H Q=>∃p ys,xs=[.ref p]/\(SqL X.K H p ys\/SqT X.K H p ys)/\∀l,H l=p7->Q (.ref l) (upd H l (.lst ys))):=by
 intro pins s σ H xs us Q I r h;obtain⟨p,ys,rfl,hq,q⟩:=h;obtain⟨u,rfl,rx⟩:=bM r;cases rx;have e_:∀(its:List KB),Vals ys its->ys.length<=sizeLine->∀(h':P4) (c':Nat),(∀b o',s.heap.get? b=be o'->h'.get? b=be o')->
   h'.get? s.heap.objs.size=be {cls:=.type "list",dict:=p7,data:=.seq its.toArray c',slots:=[].toArray}->EP X pins σ Q (.ref s.heap.objs.size) {s with heap:=h'}:=λits r' hz h' c' kp e=>
  #[.ref s.heap.objs.size,_,I.laid (t':=s.toks) kp (Eg _) (show ObjOk X.prog X.w _ h' _ (.lst ys)from#[hz,its,c',r',e]),rfl,q _ (I.hok.fresh (Eg _))]
 rcases hq with hq|hq
 .obtain⟨its,r',pl,hz⟩:=I.list hq;have c5:=r'.length;obtain⟨o,ho,hc,n,hd⟩:=pl.isList;exact call_list_seq p (.inl rfl) ho hc hd (λh' c' kp e=>e_ its r' hz h' c' kp e) (by simp only[Er]<;>lia)
 .obtain⟨its,r',pl,hz⟩:=I.tuple hq;have c5:=r'.length;obtain⟨o,ho,hc,n,hd⟩:=pl;exact call_list_seq p (.inr rfl) ho hc hd (λh' c' kp e=>e_ its r' hz h' c' kp e) (by simp only[Er]<;>lia)
def tyV(K:Ef)(T:String)(x:V)(H:Hp):Prop:=match x with
 |.str _=>T="str"
 |.int _=>T="int"
 | .ref p=>(T="list"/\∃xs,SqL K H p xs)\/(T="tuple"/\∃o,K.lookup p=be o/\o.cls=.type "tuple"/\o.dict=p7)\/
   (T="dict"/\((∃a9,H p=be (.dK a9))\/∃a9,H p=be (.dT a9)))\/(T="set"/\∃S n,H p=be (.set S n))
 |_=>False
def vZ{σ:St}{H:Hp}{T:String}{v:KB}(I:Inv X pins σ H s)(r:RelV x v)(ty:tyV X.K T x H):
  s.TypeIs v T/\∀a,v=.ref a->∃ob,s.heap.get? a=be ob/\ob.dict=none:=by
 cases x with
 |str z=>
  obtain⟨t,rfl⟩:=r;cases(show T="str" from ty);exact#[RB s z t,λ_ e=>nomatch e]
 |int i=>
  obtain⟨t,rfl⟩:=r;cases(show T="int" from ty);exact#[typeIs_int s i t,λ_ e=>nomatch e]
 |ref p=>
  cases r;rcases ty with⟨rfl,xs,hq⟩|⟨rfl,o,hk,hc,hd⟩|⟨rfl,hk⟩|⟨rfl,S,n,hk⟩
  .obtain⟨its,_,pl,_⟩:=I.list hq;refine#[pl.isList.typeIs,λa e=>?_];cases e;obtain⟨o,n,e,c,hd,_⟩:=pl;exact#[o,e,hd]
  .refine#[#[o,I.kIn p o hk,hc],λa e=>?_];cases e;exact#[o,I.kIn _ o hk,hd]
  .have z:∃o,s.heap.get? p=be o/\o.ExactDict:=by
    rcases hk with⟨a9,hk⟩|⟨a9,hk⟩
    .obtain⟨_,_,_,_,o,_,_,e,ex,_⟩:=I.hok p _ hk;exact#[o,e,ex]
    .obtain⟨_,_,_,_,o,_,_,e,ex,_⟩:=I.hok p _ hk;exact#[o,e,ex]
   obtain⟨o,e,ex⟩:=z;refine#[#[o,e,ex.1],λa e2=>?_];cases e2;exact#[o,e,ex.2.1]
  .obtain⟨o,_,_,_,e,ex,_⟩:=I.hok p _ hk;refine#[#[o,e,ex.1],λa e2=>?_];cases e2;exact#[o,e,ex.2.1]
 |_=>exact False.elim ty
def tBM(K:Ef)(T:String)(r:V->List V->Hp->VK->Prop)(to:TE)(t:TA):TE:=λσ H Q=>to σ H λx H1=>tyV K T x H1/\t σ H1 λxs H2=>r x xs H2 Q
variable {o e:PV}{es:List PV}{to:TE}{t:TA}{name:E_}{c7 a_:Qa}{T id:String}{r:V->List V->Hp->VK->Prop}
def cH(pa:PlainAttrs T)(slot:Slot T name id)(K1:typeOf (.builtin id)=pure (.type "method_descriptor"))(hm:MtR X id r)(ho:PE X o to)(ha:PA X (e::es) t)
  (b9:autoParam (P6 o name X.env (P7 o X.env)=P7 o X.env) zA0)
  (d7:((QM a_ (P1 (e::es) X.env)).all (λx=>!x.1)&&(Rw a_ (Q5 [] X.env)).all (λx=>x.1.isSome)
   && decide ((e::es).length+([]:List RK).length+(if([]:List RK).isEmpty then 0 else 1)<30))=true:=by rfl)
  (c8:autoParam ((c7.endLine==a_.line)=true) zA0) (hs:autoParam (zSE X e es) zA0) (n6:autoParam (zPL X a_ es) zA0):
  PE X (.Call (.Attribute o name c7) (e::es) [] a_) (tBM X.K T r to t):=by
 intro pins s σ H Q I h;refine wpAny_Call_method_late b9 d7 c8 rfl (thn (ho pins s σ H _ I h) λv s1 b_=>?_);obtain⟨x,H1,I1,r1,ty,q1⟩:=b_;obtain⟨h1,h2⟩:=vZ I1 r1 ty;refine#[T,id,pa,slot,K1,h1,h2,?_];have hA:=ha a_ pins s1 σ H1 _ I1 q1;rw[hs]at hA ⊢;refine Calls.callWith_builtin (by show(false||(QM a_ (P1 es X.env)).any (·.1))=false;rw[n6]<;>rfl) (Calls.evalArgs_plain ?_);exact thn hA λus s2 ⟨vs,H2,I2,r2,q2⟩=>hm pins s2 σ H2 x vs v us Q I2 r1 r2 q2
end
def MtM(X:Cx)(id:String)(r:V->List V->Hp->VK->Prop):Prop:=
 ∀(pins:List (KM×Qc)) (s:KF) (σ:St) (H:Hp) (x:V) (xs:List V) (v:KB) (us:List KB) (Q:VK),Inv X pins σ H s->RelV x v->Vals xs us->r x xs H Q->
  PY (PU X.prog X.w) X.A (call (.builtin id) (v::us)) (EP X pins σ Q) X.xe s
def Vals.one:∀{x:V} {us:List KB},Vals [x] us->∃u,us=[u]/\RelV x u:=by
 intro x us h;cases h with
 |cons r h=>cases h;exact#[_,rfl,r]
def Vals.zero:∀{us:List KB},Vals [] us->us=[]
 |_,.nil=>rfl
def Vals.dropLast{xs:List V}{us:List KB}(h:Vals xs us):Vals xs.dropLast us.dropLast:=by
 induction h with
 |nil=>exact .nil
 |cons r t ih=>
  cases t with
  |nil=>exact .nil
  |cons q t'=>exact .cons r ih
section
variable {X:Cx}{pins:List (KM×Qc)}{σ:St}{H:Hp}{s:KF}{l b:KM}{xs ys zs:List V}
variable{its:List KB}
def Inv.lset{its':List KB}{n:Nat}{f:Array KB->Array KB}{t':Nat}(I:Inv X pins σ H s)(hH:H l=be (.lst xs))
  (e:s.heap.get? l=be {cls:=.type "list",data:=.seq its.toArray n}) (hf:f its.toArray=its'.toArray) (hv:Vals ys its') (hz:ys.length<=sizeLine):
  Inv X pins σ (upd H l (.lst ys)) {s with heap:=s.heap.update l (Obj.mapSeq f),toks:=t'}:=by
 have q:=PySem.IsL.update e f;rw[hf]at q;refine I.write (x:=l) (e:=l) (by rw[hH];exact trivial) (.inl rfl) (λb' u hb hu=>(Heap.get?_update_other s.heap (Obj.mapSeq f) (Ne.symm hb)).trans hu) #[_,q] ?_;exact#[hz,its',_,hv,q]
def Inv.lnew{t':Nat}(I:Inv X pins σ H s)(hv:Vals ys its)(hz:ys.length<=sizeLine):
  Inv X pins σ (upd H s.heap.objs.size (.lst ys)) {s with heap:=s.heap.push {cls:=.type "list",data:=.seq its.toArray},toks:=t'}:=
 I.laid (λ_ _ q=>Heap.get?_push_of_some _ q) (Eg _) #[hz,its,0,hv,Heap.get?_push_size _ rfl]
def Inv.fresh(I:Inv X pins σ H s):H s.heap.objs.size=none:=I.hok.fresh (Eg _)
def Inv.lstM(I:Inv X pins σ H s)(hH:H l=be (.lst xs)):xs.length<=sizeLine/\∃(its:List KB) (n:Nat),Vals xs its/\xs.length=its.length/\s.heap.get? l=be {cls:=.type "list",data:=.seq its.toArray n}:=by
 obtain⟨z,its,n,r,e⟩:=I.hok l _ hH;exact#[z,its,n,r,r.length,e]
end
section
variable {X:Cx}
def wa:V->List V->Hp->VK->Prop:=λx vs H Q=>∃l xs y,x=.ref l/\vs=[y]/\H l=be (.lst xs)/\xs.length<sizeLine/\Q .non (upd H l (.lst (xs++[y])))
def fR:MtM X "list.append" wa:=by
 intro pins s σ H x vs v us Q I rx rv h;obtain⟨l,xs,y,rfl,rfl,hH,hz,q⟩:=h;cases rx;obtain⟨u,rfl,ru⟩:=rv.one;obtain⟨z,its,n,r,hl,e⟩:=I.lstM hH;refine RD F.slot_list_append #[_,e,rfl] F.entry_list_append (F.args_list_append_2 _ _) (PySem.list_append l its.toArray n u (by rw[Er];lia)) #[e,?_];refine#[.non,_,I.lset (its':=its++[u]) hH e Iq (r.append (.cons ru .nil)) ?_,rfl,q];rw[EG,List.length_singleton];lia
def rCat:R2:=λx y H Q=>∃l b xs zs,x=.ref l/\y=.ref b/\H l=be (.lst xs)/\H b=be (.lst zs)/\xs.length+zs.length<=sizeLine/\∀p,H p=p7->Q (.ref p) (upd H p (.lst (xs++zs)))
def wc:OpR X (Qh .Add) rCat:=by
 intro pins s σ H x y v u Q I rx ry h;obtain⟨l,b,xs,zs,rfl,rfl,hH,hB,hz,q⟩:=h;cases rx;cases ry;obtain⟨z,its,n,r,hl,e⟩:=I.lstM hH;obtain⟨z2,v8,n2,r2,K2,e2⟩:=I.lstM hB;refine PySem.P.add_list e e2 ?_ (by rw[Er,Er];lia);have ea:its.toArray++v8.toArray=(its++v8).toArray:=Iq
 rw[ea];exact#[.ref _,_,I.lnew (t':=s.toks) (r.append r2) (by rw[EG];lia),rfl,q _ I.fresh]
end
end L2
namespace M8
open PySem PySem.W PySem.Calls PyProof.Rows
variable{P:Params}
def we{h:P4}:∀(ns:List Int) (vs:List KB),WellAll P h vs (ns.map WData.int)->Rr vs ns:=by
 intro ns;induction ns with
 |nil=>
  intro vs w;rw[Fo]at w;cases w;exact .nil
 |cons n ns ih=>
  intro vs w;rw[EJ]at w;cases w with
  |cons a b=>
   cases a;exact .cons _ _ (ih _ b)
variable{l:OpenLaw}
def wg{n:Nat}(hn:l.most=be n){h:P4}{args:List WData}{Ii:List KB}
  (F_:l.row.toRowW.claim.pre args=true) (K3:WellAll P h Ii args):
  ∃a vs ns,Ii=[Value.ref a]/\args=[WData.list (ns.map WData.int)]/\h.get? a=be {cls:=.type "list",data:=.seq vs.toArray}/\Rr vs ns/\ns.length<=n:=by
 have N9:WShape.hasAll [] args [.list .int]=true:=(pre_splitW F_).1;have hc:l.pre.holds [] {args:=args}=true:=(pre_splitW F_).2;obtain⟨d,r,rfl,h1,h2⟩:=hasAllW_cons N9;obtain rfl:=hasAllW_nil h2;obtain⟨xs,rfl,h3⟩:=hasW_list h1;obtain⟨ns,rfl⟩:=items_int h3;have c5:ns.length<=n:=by
  unfold OpenLaw.pre at hc;have h4:(WTm.not (.lt (.lit (.int (n:Int))) (.len (.arg 0)))).holds [] {args:=[.list (ns.map .int)]}=true:=by
   have h4:=(holds_andW hc).1;rw[hn]at h4;exact h4
  have h5:=condW_of h4 (w_not (w_lt w_lit (w_len_list (w_arg rfl))));rw[En]at h5;refine FY λq=>?_;have q':(n:Int)<((ns.length:Nat):Int):=Ig
  first
   |(rw[decide_eq_true q']at h5;exact absurd h5 Ik)
   |(simp at h5;lia)
 cases K3 with
 |cons w1 w2=>
  cases w2;cases w1 with
  |list ho G'=>exact#[_,_,ns,rfl,rfl,ho,we ns _ G',c5]
def wj(l:OpenLaw)(args:List WData):l.row.toRowW.claim.post args (.bool true) args=true:=
 postW_of (r:=l.row.toRowW) (X:=(true==true))
  (show WShape.has [] (.bool true) .bool=true by first|rfl|decide|simp[WShape.has,WShape.arms,WShape.armsAll])
  (show(WTm.eq .res (.lit (.bool true))).value [] {args:=args,res:=be (.bool true),after:=args}=be (.bool (true==true))from w_eq_bool (w_res rfl) w_lit) rfl
def attach_call{n:Nat}{q:PZ}{j9:List E_}{XP:(E_->Option KB)->P4->Prop}{YP:P2->P4->Prop}{d:DefRec}
  (hn:l.most=be n) (Jt:d.params.defaults=[])
  (call:∀(w:P2) (s₀ s₁:KF) (mg mb:E_->Option KB) (fa:KM) (o:Qc) (pm cd doc:KB) (a:KM) (vs:List KB) (ns:List Int),
   Ground q j9 [] XP w s₀ mg mb s₁.heap->YP w s₁.heap->
   s₁.heap.get? fa=be o->o.data=.func (docDef d.name d.params d.body d.scope pm cd doc)->s₁.heap.CodeRec cd d.name->mg d.name=be (.ref fa)->
   s₁.heap.get? a=be {cls:=.type "list",data:=.seq vs.toArray}->Rr vs ns->ns.length<=n->s₁.gens=[].toArray->
   QJ (PU l.prog w) Q0 (.call (.ref fa) #[[.ref a],[]]) (λr s'=>r=.ok (.ret (.bool true))/\OldK s₁.heap s'.heap/\s'.os=s₁.os/\QK s'.gens) s₁):
  WalkO q j9 XP YP l.row.toRowW d [] (λf vs=>PySem.call f vs):=by
 intro w s₀ s₁ mg mb G Y fa o pm cd doc dV kV ho hd i9 hD m6 hg args Ii as F_ N_ Pj K3 Pk;obtain rfl:dV=.none:=Dflts.none hD Jt;obtain rfl:kV=.none:=Dflts.noKw hD;obtain⟨a,vs,ns,rfl,rfl,Ij,v9,c5⟩:=wg hn F_ K3;refine enter_call (QQ (call w s₀ s₁ mg mb fa o pm cd doc a vs ns G Y ho (fd_plain hd) i9 m6 Ij v9 c5 hg) λr s' hq=>?_);obtain⟨rfl,h2,h3,h4⟩:=hq;exact#[.inl #[.bool true,.bool true,[],rfl,λ_=>rfl,.bool true,wj l _,λ_=>#[List.Pairwise.nil,λ_ hm=>(nomatch hm)]],h2,h3,h4]
end M8
namespace L2
open PySem PySem.Spec PyProof.Rows
def pI:∀{vs:List KB} {ns:List Int},Rr vs ns->Vals (ns.map V.int) vs
 |_,_,.nil=>.nil
 |_,_,.cons n t h=>.cons #[t,rfl] (pI h)
def Only(H:Hp):Prop:=∀b,H b=p7\/∃o xs,H b=be (.frz o (.lst xs))
variable{P:PZ}{w:P2}{k:Nat}{a:KM}
def wk{K:Ef}{mg mb:E_->Option KB}{CX:CXT}{fa:KM}{fd:P9}{x:E_}{sp:Sp}{s₁:KF}{vs:List KB}{ns:List Int}
  (KX:K.In s₁.heap) (hns:s₁.heap.Ns Pi mg) (hb:s₁.heap.Ns RE mb) (Oa:∀x:E_,x≠"__name__"->mb x=Qd x) (K4:s₁.heap.NoLimit) (hg:s₁.gens=[].toArray)
  (ha:s₁.heap.get? a=be {cls:=.type "list",data:=.seq vs.toArray}) (hi:Rr vs ns) (hl:ns.length<=sizeLine) (hr:Room k Q0)
  (F:∀base:P4,K.In base->base.Ns Pi mg->FnOk P w K mg base CX k fa fd [x] sp) (Ju:∀(s:KF) (u:KB),Q1 s fd #[[u],[]] [(x,u)])
  (HQ:∀H:Hp,Only H->SqL K H a (ns.map V.int)->sp [.ref a] H (λv _=>v=.bl true) λ_ _ _=>False)
  (K5:∀H e s',CX [] H s₁ (λ_ _ _=>False) e s'->False):
  QJ (PU P w) Q0 (.call (.ref fa) #[[.ref a],[]]) (λr s'=>r=.ok (.ret (.bool true))/\OldK s₁.heap s'.heap/\s'.os=s₁.os/\QK s'.gens) s₁:=by
 have rv:=pI hi;have K6:=hi.length;have G_:∀H:Hp,Only H->SqL K H a (ns.map V.int)->HOk P w H s₁.heap->(∀b,H b≠p7->b=a)->(H a≠p7->K.lookup a=p7)->
   QJ (PU P w) Q0 (.call (.ref fa) #[[.ref a],[]]) (λr s'=>r=.ok (.ret (.bool true))/\OldK s₁.heap s'.heap/\s'.os=s₁.os/\QK s'.gens) s₁:=by
  intro H hO hS hok hA hK;have p8:∀{b:KM} {o:Qc},s₁.heap.get? b=be o->H b=p7->(hidT s₁.heap H).get? b=be o:=λe n=>tI e n;have Jq:∀{b:KM} {o:Qc} {es:Array DictEntry} {ep:Nat},s₁.heap.get? b=be o->o.data=.dict es ep->H b=none:=λ{b o es ep} e d=>by
   cases q:H b with
   |none=>rfl
   |some u=>
    have e':b=a:=hA b (by rw[q];simp);subst e';rw[ha]at e;cases e;have d':Data.seq vs.toArray _=Data.dict es ep:=d;cases d'
  have Kp:∀{b:KM} {m:E_->Option KB},s₁.heap.Ns b m->(hidT s₁.heap H).Ns b m:=λ{b m} ⟨o,es,ep,e,d,r⟩=>#[o,es,ep,p8 e (Jq e d),d,r];have M_:K.In (hidT s₁.heap H):=λb o e=>p8 (KX b o e) (by
   cases q:H b with
   |none=>rfl
   |some u=>
    have e':b=a:=hA b (by rw[q];simp);subst e';rw[hK (by rw[q];simp)]at e;cases e)
  have hM:Mod K mg (hidT s₁.heap H):=#[M_,Kp hns,#[mb,Kp hb,Oa],let ⟨mc,h1,h2⟩:=K4;#[mc,Kp h1,h2]];have e0:Env0 P w K mg (hidT s₁.heap H) Q0 [] s₁ H:=#[rfl,hM,λb o e=>tJ e,FV (tH _ _),trivial,λb hb=>absurd (show b∈([]:List KM)from hb) Iq,hok,.of_eq hg];refine QQ ((F _ M_ (Kp hns)).run Q0 [] s₁ H #[[.ref a],[]] [.ref a] [.ref a] _ _ hr e0 (Ju s₁ (.ref a)) (.cons rfl .nil) (HQ H hO hS)) λr s' h=>?_;cases r with
  |error e=>exact(K5 H e s' h).elim
  |ok fl=>
   cases fl with
   |next=>exact False.elim h
   |brk=>exact False.elim h
   |cont=>exact False.elim h
   |ret u=>
    obtain⟨v,H',os,bare,un,K7,r',q⟩:=h;have q':v=.bl true:=q;subst q';obtain rfl:u=Value.bool true:=r';refine#[rfl,OldK.of_keep λb o e=>?_,os,bare];cases q:H b with
    |none=>exact un.keep b o e q (by intro z;exact absurd (show b∈([]:List KM)from z) Iq) Iq
    |some u=>
     rcases hO b with z|⟨ob,xs,z⟩
     .rw[q]at z;cases z
     .have z2:=un.frzs b ob _ z;obtain⟨e1,_⟩:=hok b _ z;obtain⟨e2,_⟩:=K7 b _ z2;rw[e]at e1;cases e1;exact e2
 cases hk:K.lookup a with
 |some o=>
  have e:=KX a o hk;rw[ha]at e;cases e;refine G_ (λ_=>p7) (λ_=>.inl rfl) (.inr #[_,vs.toArray,_,hk,rfl,rfl,rfl,by rw[Er,K6];exact hl,by simpa using rv]) (λb u z=>by have z':(p7:Option HO)=be u:=z;cases z') (λb z=>absurd rfl z) λz=>absurd rfl z
 |none=>
  refine G_ (λb=>if b=a then be (.frz {cls:=.type "list",data:=.seq vs.toArray} (.lst (ns.map V.int)))else p7) (λb=>?_) (.inl (.inr #[{cls:=.type "list",data:=.seq vs.toArray},if_pos rfl])) (λb u z=>?_) (λb z=>?_) λ_=>hk
  .by_cases hb:b=a
   .exact .inr #[_,_,if_pos hb]
   .exact .inl (if_neg hb)
  .by_cases hb:b=a
   .have z':=(if_pos hb).symm.trans z;cases z';subst hb;exact#[ha,by rw[En];exact hl,vs,_,rv,ha]
   .have z':=(if_neg hb).symm.trans z;cases z'
  .by_cases hb:b=a
   .exact hb
   .exact absurd (if_neg hb) z
def walk_of{l:Gi}{n:Nat}{q:PZ}{j9:List E_}{XP:(E_->Option KB)->P4->Prop}{YP:P2->P4->Prop}{d:DefRec}{K:Params->Ef}{CX:P2->CXT}{sp:P2->Sp}{x:E_}
  (hn:l.most=be n) (z7:n<=sizeLine) (Jt:d.params.defaults=[]) (hr:Room k Q0)
  (hY:∀(w:P2) (h:P4),YP w h->(K w.params).In h)
  (F:∀(w:P2) (mg:E_->Option KB) (fa:KM) (h:P4),(K w.params).In h->h.Ns Pi mg->mg d.name=be (.ref fa)->
   ∃fd:P9,(∀(s:KF) (u:KB),Q1 s fd #[[u],[]] [(x,u)])/\
    ∀base:P4,(K w.params).In base->base.Ns Pi mg->FnOk l.prog w (K w.params) mg base (CX w) k fa fd [x] (sp w))
  (HQ:∀(w:P2) (H:Hp) (a:KM) (ns:List Int),ns.length<=n->Only H->SqL (K w.params) H a (ns.map V.int)->sp w [.ref a] H (λv _=>v=.bl true) λ_ _ _=>False)
  (K5:∀(w:P2) (H:Hp) (s:KF) (e:KB) (s':KF),CX w [] H s (λ_ _ _=>False) e s'->False):
  GM q j9 XP YP l.row.toRowW d [] (λf vs=>PySem.call f vs):=by
 refine M8.attach_call hn Jt λw s₀ s₁ mg mb fa o pm cd doc a vs ns G Y ho hd i9 m6 Ij v9 c5 hg=>?_;have KX:=hY w _ Y;obtain⟨fd,hb,hF⟩:=F w mg fa _ KX G.T.g m6;exact wk KX G.T.g G.T.b G.T.builtins G.T.nolimit hg Ij v9 (Eo c5 z7) hr hF hb (λH hO hS=>HQ w H a ns c5 hO hS) λH e s'=>K5 w H s₁ e s'
def bf(s:P0)(j:Nat):P0:=match s with
 |.ClassDef _ _ _ body _ _ _ _ _ _ _=>body.getD j (.Pass #[0,0,0,0])
 |_=>.Pass #[0,0,0,0]
def bz(s:P0):Arguments:=match s with
 |.FunctionDef _ a _ _ _ _ _ _ _ _=>a
 |_=>{posonlyargs:=[],args:=[],vararg:=p7,kwonlyargs:=[],kw_defaults:=[],kwarg:=p7,defaults:=[]}
def aJ(s:P0):List P0:=match s with
 |.FunctionDef _ _ b _ _ _ _ _ _ _=>b
 |_=>[]
def ag(s:P0):Qk:=match s with
 |.FunctionDef _ _ _ _ _ _ sc _ _ _=>sc
 |_=>{kind:=.function,names:=[],isGenerator:=false,isCoroutine:=false}
abbrev E0:XK:=λ_ _ _=>False
structure FunG(K:Ef)(dV:KB)(x qual:Str)(st:P0)(f:KM)(fd:P9):Prop where
 ex:∃(oc:KB) (od:Option KM) (kV doc pm:KB) (an:Option KM) (cdv ct:KB) (osl:Array (Option KB)),
  fd=fnOf x qual (bz st) (aJ st) (ag st) dV kV doc pm an cdv ct/\K.lookup f=be #[oc,od,.func fd,osl]/\codeIn K cdv qual=true
 kp:keepIn K (.ref f)=true
abbrev Fun(K:Ef):E_->E_->P0->KM->P9->Prop:=FunG K .none
section
variable {P:PZ}{w:P2}{K:Ef}{mg:E_->Option KB}{base:P4}
def Fun.binds{x qual:E_}{st:P0}{f:KM}{fd:P9}{ps:List E_}(F:Fun K x qual st f fd)
  (h:∀(kV doc pm:KB) (an:Option KM) (cdv ct:KB) (us:List KB),us.length=ps.length->QA (fnOf x qual (bz st) (aJ st) (ag st) .none kV doc pm an cdv ct) #[us,[]]=pure (ps.zip us)):Binds K fd ps []:=by
 obtain⟨oc,od,kV,doc,pm,an,cdv,ct,osl,rfl,lk,i9⟩:=F.ex;exact .all (h kV doc pm an cdv ct)
def ja{x qual:E_}{st:P0}{f:KM}{oc:KB}{od an:Option KM}{osl:Array (Option KB)}{kV doc pm cdv ct:KB}(l:K.lookup f=be #[oc,od,.func (fnOf x qual (bz st) (aJ st) (ag st) .none kV doc pm an cdv ct),osl])
  (c:codeIn K cdv qual=true) (k:keepIn K (.ref f)=true):Fun K x qual st f (fnOf x qual (bz st) (aJ st) (ag st) .none kV doc pm an cdv ct):=#[#[oc,od,kV,doc,pm,an,cdv,ct,osl,rfl,l,c],k]
end
def dQ{A:P3}(hr:Room k A):A.units+1<QX:=GN (Nat.add_le_add_left (Ik:1<=64) _) hr.units
def wm{n:Nat}(h:n<=1000):n<sizeLine:=GN h Ik
def ite2{c A B:Prop}[Decidable c](h1:c->A)(h2:¬c->B):if c then A else B:=by
 by_cases h:c
 .rw[if_pos h];exact h1 h
 .rw[if_neg h];exact h2 h
def Same(H H':Hp):Prop:=∀b o,H b=be o->H' b=be o
def Same.refl(H:Hp):Same H H:=λ_ _ h=>h
variable{H:Hp}
def Same.trans{H1 H2:Hp}(a:Same H H1)(b:Same H1 H2):Same H H2:=λc o h=>b c o (a c o h)
variable{H':Hp}
def Same.free(e:Same H H'){l:KM}(h:H' l=Option.none):H l=Option.none:=by
 cases q:H l with
 |none=>rfl
 |some o=>
  rw[e l o q]at h;cases h
def Same.seq{K:Ef}{xs:List V}(e:Same H H')(h:SqL K H a xs):SqL K H' a xs:=by
 rcases h with(h|⟨o,h⟩)|h
 .exact .inl (.inl (e _ _ h))
 .exact .inl (.inr #[o,e _ _ h])
 .exact .inr h
section
variable {κ:Type}[DecidableEq κ]
def valV(a9:List (κ×V))(k:κ):Option V:=(a9.find? λkv=>decide (kv.1=k)).map (·.2)
def jb{p:κ×V}{r:List (κ×V)}{k:κ}(e:p.1=k):valV (p::r) k=be p.2:=by simp[valV,Fp,e]
def jc{p:κ×V}{r:List (κ×V)}{k:κ}(e:¬p.1=k):valV (p::r) k=valV r k:=by simp[valV,Fp,e]
def RelO.getD{o:Option V}{u:Option KB}{d:V}{d':KB}(r:RelO o u)(rd:RelV d d'):RelV (o.getD d) (u.getD d'):=by
 cases o with
 |none=>cases u with
  |none=>exact rd
  |some _=>exact(show False from r).elim
 |some _=>cases u with
  |none=>exact(show False from r).elim
  |some _=>exact r
def KV.val{a9:List (κ×V)}{vs:List (κ×KB)}(r:KV a9 vs)(k:κ):RelO (valV a9 k) (Q7 vs k):=by
 unfold KV at r;induction r with
 |nil=>exact True.intro
 |@cons p q ps qs h t ih=>
  obtain⟨h1,h2⟩:=h;by_cases e:p.1=k
  .have e':q.1=k:=h1.symm.trans e;have b:Q7 (q::qs) k=be q.2:=by simp[Q7,Fp,e']
   rw[jb e,b];exact h2
  .have e':¬q.1=k:=λz=>e (h1.trans z);have b:Q7 (q::qs) k=Q7 qs k:=by simp[Q7,Fp,e']
   rw[jc e,b];exact ih
end
def pJ{k:Key}{u:KB}(r:RelV (kV k) u):(bx P w).is k u=true:=by
 cases k with
 |inl i=>obtain⟨t,e⟩:=(show ∃t,u=Value.int i t from r);subst e;exact mixKind_int P w i t
 |inr x=>obtain⟨t,e⟩:=(show ∃t,u=Value.str x t from r);subst e;exact tF P w x t
def pK{P:PZ}{w:P2}:∀{ks:List Key} {us:List KB},Vals (ks.map kV) us->ItemsAre (bx P w) ks us
 |[],_,r=>by rw[Fo]at r;cases r;exact .nil
 |k::ks,_,r=>by
  rw[EJ]at r;cases r with
  |cons h t=>exact .cons (pJ h) (pK t)
abbrev KT(H:Hp):List (List Key×V)->List (List Key×KM×KB)->Prop:=Paired λp q=>p.1=q.1/\H q.2.1=be (.tup (p.1.map kV))/\RelV p.2 q.2.2
variable{xs:List (List Key×KM×KB)}{a9:List (List Key×V)}
def KT.val(r:KT H a9 xs)(k:List Key):RelO (valV a9 k) ((Q6 xs k).map (·.2)):=by
 induction r with
 |nil=>exact True.intro
 |@cons p q ps qs h t ih=>
  obtain⟨h1,_,h2⟩:=h;by_cases e:p.1=k
  .have e':q.1=k:=h1.symm.trans e;have b:Q6 (q::qs) k=be q.2:=by simp[Q6,Fp,e']
   rw[jb e,b];exact h2
  .have e':¬q.1=k:=λz=>e (h1.trans z);have b:Q6 (q::qs) k=Q6 qs k:=by simp[Q6,Fp,e']
   rw[jc e,b];exact ih
def KT.keeps(r:KT H a9 xs)(ht:∀b ys,H b=be (.tup ys)->H' b=be (.tup ys)):KT H' a9 xs:=
 Paired.mapP r λ_ _ z=>#[z.1,ht _ _ z.2.1,z.2.2]
section
variable {P:PZ}{w:P2}{H:Hp}{h:P4}{a:KM}
def pL{u:HO}(ok:HOk P w H h)(e:Rd H a u):ObjOk P w H h a u:=e.ok ok
def wn{a9:List (Key×V)}(ok:HOk P w H h)(e:Rd H a (.dK a9)):a9.length<=sizeLine/\(a==Qq)=false/\∃vs,KV a9 vs/\h.DictOf (bx P w) a vs:=
 show ObjOk P w H h a (.dK a9)from pL ok e
def key_of{ks:List Key}(ok:HOk P w H h)(e:H a=be (.tup (ks.map kV))):(QO (bx P w)).is h ks a:=by
 obtain⟨_,its,r,o,h1,h2,n,h3⟩:=(show ObjOk P w H h a (.tup (ks.map kV))from ok a _ e);exact#[o,its.toArray,n,h1,h2,h3,by simpa using pK r]
variable{a9:List (List Key×V)}
def pM(ok:HOk P w H h)(e:Rd H a (.dT a9)):a9.length<=sizeLine/\(a==Qq)=false/\
  ∃xs,KT H a9 xs/\h.DictOfH (QO (bx P w)) a xs:=by
 obtain⟨z,y,xs,r,o,es,ep,h1,h2,h3,h4,h5⟩:=(show ObjOk P w H h a (.dT a9)from pL ok e);refine#[z,y,xs,r,o,es,ep,h1,h2,h3,h4,λx hx=>?_,h5];have all:∀{l:List (List Key×V)} {m:List (List Key×KM×KB)},KT H l m->∀x∈m,(QO (bx P w)).is h x.1 x.2.1:=by
  intro l m q;induction q with
  |nil=>intro x hx;exact nomatch hx
  |@cons p q ps qs hq t ih=>
   intro x hx;rcases Ei.mp hx with e|hx
   .subst e;exact key_of ok (by rw[<-hq.1];exact hq.2.1)
   .exact ih x hx
 exact all r x hx
def wo(ok:HOk P w H h)(e:H a=be (.dT a9)):a9.length<=sizeLine/\(a==Qq)=false/\
  ∃xs,KT H a9 xs/\h.DictOfH (QO (bx P w)) a xs:=pM ok (.inl e)
end
def DGet(H:Hp)(a:KM)(y:V)(r:Option V):Prop:=
 (∃a9 k,Rd H a (.dK a9)/\y=kV k/\r=valV a9 k)\/∃a9 k b,Rd H a (.dT a9)/\y=.ref b/\H b=be (.tup (k.map kV))/\r=valV a9 k
def DGet.t{b:KM}{k:List Key}(e:H a=be (.dT a9))(eb:H b=be (.tup (k.map kV))):DGet H a (.ref b) (valV a9 k):=.inr #[a9,k,b,.inl e,rfl,eb,rfl]
section
variable {X:Cx}{pins:List (KM×Qc)}{σ:St}{H:Hp}{s:KF}{a:KM}{y v:V}{u r:KB}{o:Option V}{A:P3}{E:KB->KF->Prop}
def Inv.big(I:Inv X pins σ H s):Qq<s.heap.objs.size:=by
 have h:Pi<s.heap.objs.size:=(I.mod.glob.keeps I.bk).lt;exact GO Ik h
def wr{h':P4}{t':Nat}{ob:HO}(I:Inv X pins σ H s)(mu:Mut (H a))(hs:Heap.SameBut a s.heap h')(he:∃q,h'.get? a=be q)(new:ObjOk X.prog X.w (upd H a ob) h' a ob):
  Inv X pins σ (upd H a ob) {s with heap:=h',toks:=t'}:=
 I.write (x:=a) (e:=a) mu (.inl rfl) (λb q hb z=>(hs.2 b hb).trans z) he new
end
def wt(h:P4)(hb:Qq<h.objs.size):ObjOk P w H (h.push {cls:=.type "dict",data:=.dict [].toArray}) h.objs.size (.dT []):=
 #[EI _,beq_eq_false_iff_ne.mpr (Ne.symm (El hb)),[],.nil,_,[].toArray,0,Heap.get?_push_size _ rfl,#[rfl,rfl,rfl],rfl,rfl,GP]
def wv:TE:=λ_ H Q=>∀p,H p=p7->Q (.ref p) (upd H p (.dT []))
section
variable {X:Cx}{pos:Qa}
def pe_dnewT:PE X (.Dict [] [] pos) wv:=λpins s σ H Q I h=>
 wpAny_Dict_empty #[.ref s.heap.objs.size,_,I.laid (a:=s.heap.objs.size) (o:=.dT []) (t':=s.toks) (λ_ _ q=>Heap.get?_push_of_some _ q) (Eg _) (wt s.heap I.big),rfl,h _ (I.hok.fresh (Eg _))]
end
section
variable {X:Cx}{pins:List (KM×Qc)}{σ:St}{H:Hp}{s:KF}{a:KM}{y d:V}{u r:KB}{o:Option V}{A:P3}{E:KB->KF->Prop}
def ww{Q:KB->KF->Prop}(hu:A.units+1<QX)(I:Inv X pins σ H s)(g:DGet H a y o)(ry:RelV y u)(rd:RelV d r)(h:∀w' s',Inv X pins σ H s'->RelV (o.getD d) w'->Q w' s'):
  PY (PU X.prog X.w) A (call (.builtin "dict.get") [.ref a,u,r]) Q E s:=by
 rcases g with⟨a9,k,e,ey,l⟩|⟨a9,k,b,e,ey,eb,l⟩
 .subst ey;obtain⟨z,hd,vs,HR,dd⟩:=wn I.hok e;refine Rp PySem.F.slot_dict_get dd.typeIs PySem.F.entry_dict_get (PySem.F.args_dict_get_3 _ _ _) (meets_dict_get_default (bx X.prog X.w) a (pJ ry) hd r) #[_,dd.mapOf,h _ _ (I.tok _) ?_];rw[l];exact(HR.val k).getD rd
 .subst ey;cases(show u=Value.ref b from ry);obtain⟨z,hd,xs,HR,dd⟩:=pM I.hok e;refine Rp PySem.F.slot_dict_get dd.typeIs PySem.F.entry_dict_get (PySem.F.args_dict_get_3 _ _ _) (meetsH_dict_get_default (QO (bx X.prog X.w)) a b hd r) #[RC hu,k,xs,key_of I.hok eb,dd,h _ _ (I.tok _) ?_];rw[l];exact(HR.val k).getD rd
end
end L2
end
section
open PySem PySem.Spec PyProof.Rows L2
namespace Exc
open PySem PySem.Spec PyProof.Rows PySem.W L2
def excMro:List KB->Bool
 |.ref _::r=>excMro r
 |l=>l==[.type "ValueError",.type "Exception",.type "BaseException",.type "object"]
def wx(self:KB):∀{l:List KB},excMro l=true->refuseLoop self "__setattr__" l=pure ()
 |.ref c::r,e=>by rw[refuseLoop_ref];exact wx self (by unfold excMro at e;exact e)
 |[],e=>by simp[excMro]at e
 |.type n::r,e=>by
  have e':(Value.type n::r)=[.type "ValueError",.type "Exception",.type "BaseException",.type "object"]:=by simpa[excMro]using e
  rw[e'];exact PySem.F.store_ValueError.passes self
 |.none::r,e=>by simp[excMro]at e
 |.bool _::r,e=>by simp[excMro]at e
 |.int _ _::r,e=>by simp[excMro]at e
 |.float _ _::r,e=>by simp[excMro]at e
 |.str _ _::r,e=>by simp[excMro]at e
 |.bytes _ _::r,e=>by simp[excMro]at e
 |.builtin _::r,e=>by simp[excMro]at e
def exc_has{T:String}(hT:[Value.type "ValueError",.type "Exception",.type "BaseException",.type "object"].contains (.type T)=true):∀{l:List KB},excMro l=true->l.contains (.type T)=true
 |.ref c::r,e=>by rw[Gj,exc_has hT (l:=r) (by unfold excMro at e;exact e),FZ]
 |[],e=>by simp[excMro]at e
 |.type n::r,e=>by
  have e':(Value.type n::r)=[.type "ValueError",.type "Exception",.type "BaseException",.type "object"]:=by simpa[excMro]using e
  rw[e'];exact hT
 |.none::r,e=>by simp[excMro]at e
 |.bool _::r,e=>by simp[excMro]at e
 |.int _ _::r,e=>by simp[excMro]at e
 |.float _ _::r,e=>by simp[excMro]at e
 |.str _ _::r,e=>by simp[excMro]at e
 |.bytes _ _::r,e=>by simp[excMro]at e
 |.builtin _::r,e=>by simp[excMro]at e
abbrev veLine:List KB:=[.type "ValueError",.type "Exception",.type "BaseException",.type "object"]
section
variable {prog:PZ}{w:P2}{A:P3}{E:KB->KF->Prop}{s:KF}{env:QN}
variable {nm q:E_}{C N:KM}{bs bm:List KB}{hdct:Bool}{sn:List E_}{sub:List KB}{ab:Bool}{col:Option Bool}{dd:Option KM}{k0 k1 k2 k3 k5:Option KB}{newId:String}
variable{Q:Flow->KF->Prop}
def wy{x:Rx KB}(b9:bm.contains (.type "BaseException")=true)(hh:A.handled=p7)
  (h:PY (PU prog w) A x (λv s₁=>∃e t od sl,v=.ref e/\s₁.heap.get? C=be (Qt nm q C N bs bm hdct sn sub ab col dd k0 k1 k2 k3 k5 newId)/\
   s₁.heap.get? e=be #[.ref C,od,.fields [.ref t,.none,.none,.none,.bool false,.none].toArray,sl]/\E (.ref e) s₁) E s):
  PY (PU prog w) A (raiseStmt env (be x) p7) Q E s:=by
 have K8:(Value.ref C::bm).contains (.type "BaseException")=true:=by rw[Gj,b9,FZ]
 unfold raiseStmt;refine Os (P8 h (λv s₁ h₁=>?_) λ_ _ x=>x);obtain⟨e,t,od,sl,rfl,hC,he,hE⟩:=h₁;obtain⟨hp,g,d,tk,os⟩:=s₁
 repeat(first|(with_reducible refine QH he ?_)|(with_reducible refine QH hC ?_)|(with_reducible refine QW hC ?_;rw[K8])|wp_step)
 exact wpAny_raiseNew_none hh hE
def wz{x:PV}{pos:Qa}(b9:bm.contains (.type "BaseException")=true)(hh:A.handled=p7)
  (h:PY (PU prog w) A (P7 x env) (λv s₁=>∃e t od sl,v=.ref e/\s₁.heap.get? C=be (Qt nm q C N bs bm hdct sn sub ab col dd k0 k1 k2 k3 k5 newId)/\
   s₁.heap.get? e=be #[.ref C,od,.fields [.ref t,.none,.none,.none,.bool false,.none].toArray,sl]/\E (.ref e) s₁) E s):
  PY (PU prog w) A (exec (.Raise (be x) p7 pos) env) Q E s:=by
 rw[arm_exec_Raise];show PY (PU prog w) A (do QV pos;raiseStmt env (be (do let v <-P7 x env;QV pos;pure v)) p7) Q E s;exact Os (Qn (wy b9 hh (Os (P8 h (λv s₁ h₁=>Os (Qn (PX h₁))) λ_ _ x=>x))))
end
def ExAt(h:P4)(e C:KM)(od:Option KM)(T:KM)(fl:KB):Prop:=
 ∃sl vs oT ts,h.get? e=be #[.ref C,od,.fields vs,sl]/\vs[1]?=be (.ref T)/\T≠e/\h.get? T=be oT/\oT.data=.fields ts/\ts[3]?=be fl
structure Stay(fs ex:List KM)(h h':P4):Prop where
 keep:∀b o,h.get? b=be o->b∉ex->b∉fs->h'.get? b=be o
 slot:∀b o,h.get? b=be o->b∉ex->∃sl,h'.get? b=be {o with slots:=sl}
 there:∀b o,h.get? b=be o->∃o',h'.get? b=be o'
variable{fs ex:List KM}{h:P4}
def Stay.refl:Stay fs ex h h:=#[λ_ _ e _ _=>e,λ_ o e _=>#[o.slots,e],λ_ o e=>#[o,e]]
section
variable {M:Rj}{A:P3}{E:KB->KF->Prop}{s:KF}{env:QN}{outer:List QN}{base:P4}{L e C T:KM}{od:Option KM}
variable{Q:Unit->KF->Prop}
def jd{sl:Array (Option KB)}{vs:Array KB}(hfr:A.frames=be (env::outer))(hl:s.heap.FunFrames base (env::outer))(hf:env.frame=be L)
  (he:s.heap.get? e=be #[.ref C,od,.fields vs,sl]) (h1:vs[1]?=be .none)
  (h:∀h' T,ExAt h' e C od T (QD L)->s.heap.objs.size<=T->Stay (frs (env::outer)) [e] s.heap h'->Q () {s with heap:=h'}):PY M A (Qv (.ref e) env) Q E s:=by
 have g8:1<vs.size:=(FG.mp h1).1;have Il:e∉(env::outer).filterMap (·.frame):=λhm=>by
  obtain⟨_,o,ho,hnf⟩:=hl.mem hm;rw[he]at ho;injection ho with ho;subst ho;exact hnf vs rfl
 unfold Qv;simp only[hf];refine Os (Qp he rfl h1 ?_);rw[if_neg Ik];refine Os (RF hfr hl hf λh₁ hs₁=>Os (Rz λpl c_=>?_));unfold EntryCells.newEntry newFields;refine Os (P_ ?_ (c_.sizeOk5 _ _ _ _ _));have he₁:h₁.get? e=be #[.ref C,od,.fields vs,sl]:=(hs₁.2.1 e Il).trans he;have fresh:h₁.get? h₁.objs.size=none:=Heap.get?_none_of_le (Eg _);generalize Jy:({cls:=.type "traceback",dict:=p7,data:=.fields ([Value.none,.ref L,.none,QD L,.none]++(if pl.isEmpty then EV 6 Value.none else pl)).toArray}:Qc)=oT;have he₂:=Heap.get?_push_of_some (h:=h₁) oT he₁;have m9:h₁.objs.size≠e:=E3 (Heap.lt_size he₁);refine QF he₂ rfl g8 (h _ h₁.objs.size ?_ ?_ ?_)
 .refine#[sl,vs.setIfInBounds 1 (.ref h₁.objs.size),oT,([Value.none,.ref L,.none,QD L,.none]++(if pl.isEmpty then EV 6 Value.none else pl)).toArray,?_,by simp[g8],m9,?_,by rw[<-Jy],Iq]
  .rw[Heap.get?_update_self _ he₂ rfl];rfl
  .rw[Heap.get?_update_other _ _ (Ne.symm m9)];exact Heap.get?_push_size h₁ (by rw[<-Jy];rfl)
 .exact FV hs₁.1.symm
 .have kp:∀b o,b≠e->h₁.get? b=be o->((h₁.push oT).update e (Obj.mapFields (·.setIfInBounds 1 (Value.ref h₁.objs.size)))).get? b=be o:=λb o hb z=>by
   rw[Heap.get?_update_other _ _ (Ne.symm hb)];exact Heap.get?_push_of_some _ z
  refine#[λb o q n m=>kp b o (λz=>n (by simp[z])) ((hs₁.2.1 b m).trans q),λb o q n=>?_,λb o q=>?_]
  .obtain⟨l_,z⟩:=hs₁.2.2 b o q;exact#[l_,kp b _ (λz=>n (by simp[z])) z]
  .by_cases hb:b=e
   .subst hb;exact#[_,Heap.get?_update_self _ he₂ rfl]
   .obtain⟨l_,z⟩:=hs₁.2.2 b o q;exact#[_,kp b _ hb z]
def note_next{fl:KB}(hfr:A.frames=be (env::outer))(hl:s.heap.FunFrames base (env::outer))(hf:env.frame=be L)(hx:ExAt s.heap e C od T fl)
  (h:∀h' T',ExAt h' e C od T' (QD L)->T'=T\/s.heap.objs.size<=T'->Stay (frs (env::outer)) [T,e] s.heap h'->Q () {s with heap:=h'}):PY M A (Qv (.ref e) env) Q E s:=by
 obtain⟨sl,vs,oT,ts,he,h1,m9,hT,gt,h3⟩:=hx;have g8:1<vs.size:=(FG.mp h1).1;have Im:3<ts.size:=(FG.mp h3).1;have Il:e∉(env::outer).filterMap (·.frame):=λhm=>by
  obtain⟨_,o,ho,hnf⟩:=hl.mem hm;rw[he]at ho;injection ho with ho;subst ho;exact hnf vs rfl
 unfold Qv;simp only[hf];refine Os (Qp he rfl h1 ?_);rw[if_pos (show(Value.ref T !=Value.none)=true from Iq)];refine Os (Qp hT gt h3 ?_);by_cases hq:(fl==QD L)=true
 .rw[if_pos hq];exact PX (h s.heap T #[sl,vs,oT,ts,he,h1,m9,hT,gt,by rw[<-eq_of_beq hq];exact h3] (.inl rfl) Stay.refl)
 rw[if_neg hq];refine Os (QF hT gt Im ?_);have other:∀b,b≠T->(s.heap.update T (Obj.mapFields (·.setIfInBounds 3 Value.none))).get? b=s.heap.get? b:=λb hb=>Heap.get?_update_other _ _ (Ne.symm hb);have nT:∀b o,s.heap.get? b=be o->(∀vs,o.data≠.fields vs)->b≠T:=λb o hb hnf q=>by
  rw[q,hT]at hb;injection hb with hb;subst hb;exact hnf ts gt
 have Na:(s.heap.update T (Obj.mapFields (·.setIfInBounds 3 Value.none))).FunFrames base (env::outer):=hl.of_keeps λb o hb hnf=>#[o,(other b (nT b o hb hnf)).trans hb,rfl];have Ob:∃o',(s.heap.update T (Obj.mapFields (·.setIfInBounds 3 Value.none))).get? T=be o':=#[_,Heap.get?_update_self _ hT (Obj.isFreed_of_fields (Obj.data_mapFields gt _))];refine Os (RF hfr Na hf λh₁ hs₁=>Os (Rz λpl c_=>?_));unfold EntryCells.newEntry newFields;refine Os (P_ ?_ (c_.sizeOk5 _ _ _ _ _));have he₁:h₁.get? e=be #[.ref C,od,.fields vs,sl]:=(hs₁.2.1 e Il).trans ((other e (Ne.symm m9)).trans he);have fresh:h₁.get? h₁.objs.size=none:=Heap.get?_none_of_le (Eg _);generalize Jy:({cls:=.type "traceback",dict:=p7,data:=.fields ([Value.ref T,.ref L,.none,QD L,.none]++(if pl.isEmpty then EV 6 Value.none else pl)).toArray}:Qc)=K9;have he₂:=Heap.get?_push_of_some (h:=h₁) K9 he₁;have Jz:h₁.objs.size≠e:=E3 (Heap.lt_size he₁);refine QF he₂ rfl g8 (h _ h₁.objs.size ?_ (.inr ?_) ?_)
 .refine#[sl,vs.setIfInBounds 1 (.ref h₁.objs.size),K9,([Value.ref T,.ref L,.none,QD L,.none]++(if pl.isEmpty then EV 6 Value.none else pl)).toArray,?_,by simp[g8],Jz,?_,by rw[<-Jy],Iq]
  .rw[Heap.get?_update_self _ he₂ rfl];rfl
  .rw[Heap.get?_update_other _ _ (Ne.symm Jz)];exact Heap.get?_push_size h₁ (by rw[<-Jy];rfl)
 .exact FV (hs₁.1.trans (Heap.size_after_update _ _ _)).symm
 .have kp:∀b o,b≠e->h₁.get? b=be o->((h₁.push K9).update e (Obj.mapFields (·.setIfInBounds 1 (Value.ref h₁.objs.size)))).get? b=be o:=λb o hb z=>by
   rw[Heap.get?_update_other _ _ (Ne.symm hb)];exact Heap.get?_push_of_some _ z
  refine#[λb o q n m=>kp b o (λz=>n (by simp[z])) ((hs₁.2.1 b m).trans ((other b (λz=>n (by simp[z]))).trans q)),λb o q n=>?_,λb o q=>?_]
  .obtain⟨l_,z⟩:=hs₁.2.2 b o ((other b (λz=>n (by simp[z]))).trans q);exact#[l_,kp b _ (λz=>n (by simp[z])) z]
  .by_cases hb:b=e
   .subst hb;exact#[_,Heap.get?_update_self _ he₂ rfl]
   .have:∃o',(s.heap.update T (Obj.mapFields (·.setIfInBounds 3 Value.none))).get? b=be o':=by
     by_cases hb:b=T
     .rw[hb];exact Ob
     .exact#[o,(other _ hb).trans q]
    obtain⟨o',q'⟩:=this;obtain⟨l_,z⟩:=hs₁.2.2 b o' q';exact#[_,kp b _ hb z]
def fS{fl:KB}(hx:ExAt s.heap e C od T fl)(h:∀h',ExAt h' e C od T .none->Stay [] [T] s.heap h'->Q () {s with heap:=h'}):PY M A (QP (.ref e) p7) Q E s:=by
 obtain⟨sl,vs,oT,ts,he,h1,m9,hT,gt,h3⟩:=hx;have Im:3<ts.size:=(FG.mp h3).1;unfold QP;refine Os (Qp he rfl h1 ?_);rw[if_pos (show(Value.ref T !=Value.none)=true from Iq)];refine QF hT gt Im (h _ ?_ ?_)
 .exact#[sl,vs,_,_,(Heap.get?_update_other _ _ m9).trans he,h1,m9,Heap.get?_update_self _ hT (Obj.isFreed_of_fields (Obj.data_mapFields gt _)),Obj.data_mapFields gt _,by simp[Im]]
 .have other:∀b o,b∉[T]->s.heap.get? b=be o->(s.heap.update T (Obj.mapFields (·.setIfInBounds 3 ((p7:Option KM).elim Value.none λf=>QD f)))).get? b=be o:=λb o hb q=>(Heap.get?_update_other _ _ (λz=>hb (by simp[z]))).trans q;refine#[λb o q n _=>other b o n q,λb o q n=>#[o.slots,other b o n q],λb o q=>?_];by_cases hb:b=T
  .subst hb;exact#[_,Heap.get?_update_self _ hT (Obj.isFreed_of_fields (Obj.data_mapFields gt _))]
  .exact#[o,other b o (by simp[hb]) q]
end
def CX1(P:PZ)(w:P2):CXT:=λouter H s E ev s'=>∃e C od T H',ev=.ref e/\s'.os=s.os/\QK s'.gens/\Un (frs outer) [] H H' s.heap s'.heap/\HOk P w H' s'.heap/\ExAt s'.heap e C od T .none/\s.heap.get? e=p7/\s.heap.get? T=p7/\H' e=p7/\H' T=p7/\E (.ref C) od H'
def fg{P:PZ}{w:P2}{H:Hp}{h':P4}(x:HOk P w H h)(st:Stay fs ex h h')(hf:∀b∈fs,H b=p7)(he:∀b∈ex,H b=p7):HOk P w H h':=λa o q=>
 (x a o q).stay (λb u hb r=>by
  have hn:H b≠none:=by
   rcases hb with rfl|hb
   .rw[q];exact λz=>nomatch z
   .rw[hb];exact λz=>nomatch z
  exact st.keep b u r (λz=>hn (he b z)) (λz=>hn (hf b z))) (λ_ q=>q) λ_ _ q=>q
def fT{k8:List KM}{H H':Hp}{h1 h2:P4}(u:Un fs [] H H' h h1)(st:Stay k8 ex h1 h2)(hex:∀b∈ex,h.get? b=p7)(Kq:∀b∈k8,b∈fs\/h.get? b=p7):Un fs [] H H' h h2 where
 keep:=λb o q n hb hx=>st.keep b o (u.keep b o q n hb hx) (λz=>by rw[hex b z]at q;cases q) (λz=>(Kq b z).elim hb λy=>by rw[y]at q;cases q)
 slot:=λb o q n hb hx=>by
  obtain⟨sl,e1⟩:=u.slot b o q n hb hx;obtain⟨l_,e2⟩:=st.slot b _ e1 (λz=>by rw[hex b z]at q;cases q);exact#[l_,e2]
 free:=u.free
 there:=λb o q hx=>by
  obtain⟨o1,e1⟩:=u.there b o q hx;exact st.there b o1 e1
 tups:=u.tups
 frzs:=u.frzs
 tbls:=u.tbls
section
variable {P:PZ}{w:P2}{K:Ef}{mg:E_->Option KB}{base:P4}{N:List E_}{qual:E_}{scope:Qk}{f:KM}{cd:KB}{A:P3}{outer:List QN}{s:KF}{H:Hp}{E E':XK}
def pN{b:KM}(hb:b∈frs (Qe qual scope s.heap.objs.size f cd::outer)):b∈frs outer\/s.heap.get? b=none:=by
 unfold frs at hb;rw[FS]at hb;rcases Ei.mp (show b∈s.heap.objs.size::outer.filterMap (·.frame)from hb)with e|e
 .rw[e];exact .inr (Heap.get?_none_of_le (Eg _))
 .exact .inl e
def pO{pins:List (KM×Qc)}{σ:L2.St}{H1:Hp}{s1:KF}{e C:KM}{od:Option KM}{sl:Array (Option KB)}{vs:Array KB}(I:Inv (cxOf (CX1 P w) P w K mg base N qual scope f cd A outer s H E') pins σ H1 s1)
  (he:s1.heap.get? e=be #[.ref C,od,.fields vs,sl]) (h1:vs[1]?=be .none) (He:H1 e=p7) (ne:s.heap.get? e=p7) (hE:E' (.ref C) od H1):(cxOf (CX1 P w) P w K mg base N qual scope f cd A outer s H E').xe (.ref e) s1:=by
 show PY _ _ (Ro _ _) _ _ _;unfold Ro;refine Os (jd I.ok.frames I.stack rfl he h1 λh2 T2 j_ m_ j8=>fS (s:={s1 with heap:=h2}) j_ λh3 Io t6=>?_);have z8:s1.heap.get? T2=none:=Heap.get?_none_of_le m_;have f1:∀b,s1.heap.get? b=p7->s.heap.get? b=none:=λb q=>by
  cases z:s.heap.get? b with
  |none=>rfl
  |some o=>
   obtain⟨o',z'⟩:=I.base.there b o z (by exact λy=>absurd (show b∈([]:List KM)from y) Iq);rw[q]at z';cases z'
 have hok:HOk P w H1 s1.heap:=I.hok;have HS:H1 T2=none:=hok.fresh m_;have u2:Un (frs outer) [] H H1 s.heap h2:=fT (show Un (frs outer) [] H H1 s.heap s1.heap from I.base) j8 (λb hb=>by rw[Eh.mp hb];exact ne) λb hb=>pN hb;have u3:Un (frs outer) [] H H1 s.heap h3:=fT u2 t6 (λb hb=>by rw[Eh.mp hb];exact f1 T2 z8) λb hb=>by cases hb
 have k2:=fg hok j8 (λb hb=>I.stkFree b hb) (λb hb=>by rw[Eh.mp hb];exact He);have k3:=fg k2 t6 (λb hb=>by cases hb) (λb hb=>by rw[Eh.mp hb];exact HS);exact#[e,C,od,T2,H1,rfl,I.os,I.bare,u3,k3,Io,ne,f1 T2 z8,He,HS,hE]
end
end Exc
namespace L2
def Same.tup{K:Ef}{H H':Hp}{a:KM}{xs:List V}(e:Same H H')(h:SqT K H a xs):SqT K H' a xs:=by
 rcases h with(h|⟨o,h⟩)|h
 .exact .inl (.inl (e _ _ h))
 .exact .inl (.inr #[o,e _ _ h])
 .exact .inr h
end L2
namespace My
def fU{X:Cx}:fb (Exc.CX1 X.prog X.w) X E0:=λ_ _ _ _ _ _ _ h=>by
 obtain⟨e,C,od,T,H',_,_,_,_,_,_,_,_,_,_,h⟩:=h;exact h.elim
def Fun.okC{P:PZ}{w:P2}{K:Ef}{mg:E_->Option KB}{base:P4}{CX:CXT}{x qual:E_}{st:P0}{f:KM}{fd:P9}{N ps:List E_}{k:Nat}{sp:Sp}{dV:KB}(F:FunG K dV x qual st f fd)(S:FnScope N ps (ag st))(len:∀vs H Q E,sp vs H Q E->vs.length=ps.length)
  (b8:∀(cdv:KB) (A:P3) (outer:List QN) (s:KF) (H:Hp) (vs:List V) (Q:VK) (E:XK),Room k (A.deeper (Qe qual (ag st) s.heap.objs.size f cdv))->sp vs H Q E->
   ∃t,PSs (cxOf CX P w K mg base N qual (ag st) f cdv A outer s H E) (aJ st) t/\t {nx:=λ_ H'=>Q .non H',rt:=Q} (start N vs) H):FnOk P w K mg base CX (k+1) f fd ps sp:=by
 obtain⟨oc,od,kV,doc,pm,an,cdv,ct,osl,rfl,lk,i9⟩:=F.ex;refine vI lk i9 S len λA outer s H vs Q E hr HQ=>?_;exact b8 cdv A outer s H vs Q E hr HQ
def Cal(P:PZ)(w:P2)(K:Ef)(mg:E_->Option KB)(base:P4)(n:Nat)(x:E_)(ps:List E_)(sp:Sp):Prop:=
 ∃f fd,FnOk P w K mg base (Exc.CX1 P w) n f fd ps sp/\Binds K fd ps []/\keepIn K (.ref f)=true/\mg x=be (.ref f)
def Tx(K:Ef)(mg:E_->Option KB)(x:E_)(st:P0)(ps:List E_):Prop:=
 ∃f fd,Fun K x x st f fd/\Binds K fd ps []/\mg x=be (.ref f)
section
variable {X:Cx}{n m:Nat}{ps:List E_}{sp:Sp}{x:E_}{p pos:Qa}{e:PV}{es:List PV}{t:TA}
def wA(C:Cal X.prog X.w X.K X.mg X.base n x ps sp)(hr:Room m X.A)(ha:PA X (e::es) t)(hg:autoParam (Gl X x) zA0)(hn:autoParam (n<=m) zA1)(e8:autoParam (zND x) zA1)
  (he:autoParam (zSE X e es) zA0) (c_:autoParam (zPL X pos es) zA0):
  PE X (.Call (.Name x p) (e::es) [] pos) (pk sp [] E0 t):=by
 obtain⟨f,fd,F,hb,hk,hm⟩:=C;exact vF F (hr.mono hn) hg hm hk hb .nil fU ha e8 he c_
end
def aO{H:Hp}{p:KM}(h:H p=p7)(o:HO):Same H (upd H p o):=λb u q=>by rw[au (bL q h)];exact q
def sz{n:Nat}(h:n<=1000):n<=sizeLine:=FR (wm h)
end My
namespace L2
section
variable {X:Cx}
variable{e:PV}
def PE.anti{t t':TE}(h:PE X e t)(a:∀s H Q,t' s H Q->t s H Q):PE X e t':=λpins s σ H Q I q=>h pins s σ H Q I (a _ _ _ q)
def PT.anti{t t':TT}(h:PT X e t)(a:∀s H Q,t' s H Q->t s H Q):PT X e t':=λpins s σ H Q I q=>h pins s σ H Q I (a _ _ _ q)
def PW.anti{t t':TT}(h:PW X e t)(a:∀s H Q,t' s H Q->t s H Q):PW X e t':=λwh pins s σ H Q I q=>h wh pins s σ H Q I (a _ _ _ q)
def PA.anti{e:List PV}{t t':TA}(h:PA X e t)(a:∀s H Q,t' s H Q->t s H Q):PA X e t':=λp pins s σ H Q I q=>h p pins s σ H Q I (a _ _ _ q)
def PS.anti{e:P0}{t t':TS}(h:PS X e t)(a:∀E s H,t' E s H->t E s H):PS X e t':=λpins s σ H Q I q=>h pins s σ H Q I (a _ _ _ q)
def PSs.anti{e:List P0}{t t':TS}(h:PSs X e t)(a:∀E s H,t' E s H->t E s H):PSs X e t':=λpins s σ H Q I q=>h pins s σ H Q I (a _ _ _ q)
end
end L2
namespace My
inductive D where
 |non|bl (b:Bool)|int (i:Int)|str (x:Str)|tup (xs:List D)|lst (xs:List D)
  |rol (xs:List D)
  |obj (x:E_) (fs:List (E_×D))
  |exc (x:E_) (fs:List (E_×D))
  |own (xs:List D)
  |ptr (a:KM)
  |dti (a9:List ((Int×Int)×Int))
def dtiV(a9:List ((Int×Int)×Int)):List (List Key×V):=a9.map λe=>([.inl e.1.1,.inl e.1.2],.int e.2)
def XO(e C:KM)(od:Option KM):HO:=.ext λh=>∃vs sl,h.get? e=be #[.ref C,od,.fields vs,sl]
mutual
def Rep(K:Ef)(H:Hp):D->V->Prop
 |.non,v=>v=.non
 |.bl b,v=>v=.bl b
 |.int i,v=>v=.int i
 |.str x,v=>v=.str x
 |.tup ds,v=>∃a vs,v=.ref a/\H a=be (.tup vs)/\Reps K H ds vs
 |.lst ds,v=>∃a vs,v=.ref a/\H a=be (.lst vs)/\Reps K H ds vs
 |.rol ds,v=>∃a vs,v=.ref a/\SqL K H a vs/\Reps K H ds vs
 |.obj x fs,v=>∃a C dx vs,v=.ref a/\nsIn K Pi x=be (be (.ref C))/\H a=be (.ins C dx vs)/\RepF K H fs vs
 |.exc x fs,v=>∃a C od vs,v=.ref a/\nsIn K Pi x=be (be (.ref C))/\H a=be (XO a C od)/\RepF K H fs vs/\((od=p7/\vs=[])\/∃b,od=be b/\H b=be (.xd vs))
 |.own _,_=>False
 |.ptr a,v=>v=.ref a
 |.dti a9,v=>∃a,v=.ref a/\H a=be (.dT (dtiV a9))
def RepF(K:Ef)(H:Hp):List (E_×D)->List (E_×V)->Prop
 |[],vs=>vs=[]
 |(f,d)::ds,vs=>∃v r,vs=(f,v)::r/\Rep K H d v/\RepF K H ds r
def Reps(K:Ef)(H:Hp):List D->List V->Prop
 |[],vs=>vs=[]
 |d::ds,vs=>∃v r,vs=v::r/\Rep K H d v/\Reps K H ds r
end
mutual
def Rep.mono{K:Ef}{H H':Hp}(g:Same H H'):∀(d:D) (v:V),Rep K H d v->Rep K H' d v
 |.non,v,h=>by unfold Rep at h ⊢;exact h
 |.bl b,v,h=>by unfold Rep at h ⊢;exact h
 |.int b,v,h=>by unfold Rep at h ⊢;exact h
 |.str b,v,h=>by unfold Rep at h ⊢;exact h
 |.tup ds,v,h=>by
  unfold Rep at h ⊢;obtain⟨a,vs,e,q,r⟩:=h;exact#[a,vs,e,g _ _ q,Reps.mono g ds vs r]
 |.lst ds,v,h=>by
  unfold Rep at h ⊢;obtain⟨a,vs,e,q,r⟩:=h;exact#[a,vs,e,g _ _ q,Reps.mono g ds vs r]
 |.rol ds,v,h=>by
  unfold Rep at h ⊢;obtain⟨a,vs,e,q,r⟩:=h;exact#[a,vs,e,g.seq q,Reps.mono g ds vs r]
 |.obj C fs,v,h=>by
  unfold Rep at h ⊢;obtain⟨a,C,dx,vs,e,n,q,r⟩:=h;exact#[a,C,dx,vs,e,n,g _ _ q,RepF.mono g fs vs r]
 |.exc C fs,v,h=>by
  unfold Rep at h ⊢;obtain⟨a,C,od,vs,e,n,q,r,d⟩:=h;exact#[a,C,od,vs,e,n,g _ _ q,RepF.mono g fs vs r,d.imp id λ⟨b,h1,h2⟩=>#[b,h1,g _ _ h2]]
 |.own ds,v,h=>by
  unfold Rep at h ⊢;exact h
 |.ptr a,v,h=>by unfold Rep at h ⊢;exact h
 |.dti a9,v,h=>by
  unfold Rep at h ⊢;obtain⟨a,e,q⟩:=h;exact#[a,e,g _ _ q]
def RepF.mono{K:Ef}{H H':Hp}(g:Same H H'):∀(ds:List (E_×D)) (vs:List (E_×V)),RepF K H ds vs->RepF K H' ds vs
 |[],vs,h=>by unfold RepF at h ⊢;exact h
 |(f,d)::ds,vs,h=>by
  unfold RepF at h ⊢;obtain⟨v,r,e,q1,q2⟩:=h;exact#[v,r,e,Rep.mono g d v q1,RepF.mono g ds r q2]
def Reps.mono{K:Ef}{H H':Hp}(g:Same H H'):∀(ds:List D) (vs:List V),Reps K H ds vs->Reps K H' ds vs
 |[],vs,h=>by unfold Reps at h ⊢;exact h
 |d::ds,vs,h=>by
  unfold Reps at h ⊢;obtain⟨v,r,e,q1,q2⟩:=h;exact#[v,r,e,Rep.mono g d v q1,Reps.mono g ds r q2]
end
section
variable {K:Ef}{H:Hp}
variable{v:V}
def rep_non:Rep K H .non v↔v=.non:=by unfold Rep;exact Iff.rfl
def rep_bl{b:Bool}:Rep K H (.bl b) v↔v=.bl b:=by unfold Rep;exact Iff.rfl
def rep_int{i:Int}:Rep K H (.int i) v↔v=.int i:=by unfold Rep;exact Iff.rfl
variable{x:E_}
def rep_str:Rep K H (.str x) v↔v=.str x:=by unfold Rep;exact Iff.rfl
variable{ds:List My.D}
def rep_tupS:Rep K H (.tup ds) v↔∃a vs,v=.ref a/\H a=be (.tup vs)/\Reps K H ds vs:=by
 constructor
 .intro h;unfold Rep at h;exact h
 .intro h;unfold Rep;exact h
def rep_tup_mp(h:Rep K H (.tup ds) v):∃a vs,v=.ref a/\SqT K H a vs/\Reps K H ds vs:=by
 obtain⟨a,vs,e,q,r⟩:=rep_tupS.mp h;exact#[a,vs,e,SqT.of q,r]
def rep_ptr{a:KM}:Rep K H (.ptr a) v↔v=.ref a:=by unfold Rep;exact Iff.rfl
def rep_dti{a9:List ((Int×Int)×Int)}:Rep K H (.dti a9) v↔∃a,v=.ref a/\H a=be (.dT (dtiV a9)):=by
 constructor
 .intro h;unfold Rep at h;exact h
 .intro h;unfold Rep;exact h
def rep_lst:Rep K H (.lst ds) v↔∃a vs,v=.ref a/\H a=be (.lst vs)/\Reps K H ds vs:=by
 constructor
 .intro h;unfold Rep at h;exact h
 .intro h;unfold Rep;exact h
def rep_rol:Rep K H (.rol ds) v↔∃a vs,v=.ref a/\SqL K H a vs/\Reps K H ds vs:=by
 constructor
 .intro h;unfold Rep at h;exact h
 .intro h;unfold Rep;exact h
variable{fs:List (E_×My.D)}
def rep_obj:Rep K H (.obj x fs) v↔∃a C dx vs,v=.ref a/\nsIn K Pi x=be (be (.ref C))/\H a=be (.ins C dx vs)/\RepF K H fs vs:=by
 constructor
 .intro h;unfold Rep at h;exact h
 .intro h;unfold Rep;exact h
def rep_exc:Rep K H (.exc x fs) v↔∃a C od vs,v=.ref a/\nsIn K Pi x=be (be (.ref C))/\H a=be (XO a C od)/\RepF K H fs vs/\((od=p7/\vs=[])\/∃b,od=be b/\H b=be (.xd vs)):=by
 constructor
 .intro h;unfold Rep at h;exact h
 .intro h;unfold Rep;exact h
def rep_own:¬Rep K H (.own ds) v:=by intro h;unfold Rep at h;exact h
variable{vs:List (E_×V)}
def repf_nil:RepF K H [] vs↔vs=[]:=by unfold RepF;exact Iff.rfl
def repf_cons{f:E_}{d:D}{ds:List (E_×D)}:RepF K H ((f,d)::ds) vs↔∃v r,vs=(f,v)::r/\Rep K H d v/\RepF K H ds r:=by
 constructor
 .intro h;unfold RepF at h;exact h
 .intro h;unfold RepF;exact h
def RepF.look{f:E_}{d:D}:∀{fs:List (E_×D)} {vs:List (E_×V)},RepF K H fs vs->fs.lookup f=be d->∃v,vs.lookup f=be v/\Rep K H d v
 |[],_,_,e=>by cases e
 |(g,x)::fs,vs,h,e=>by
  obtain⟨v,r,rfl,h1,h2⟩:=repf_cons.mp h;rw[Ez]at e ⊢;split at e
  .cases e;exact#[v,rfl,h1]
  .exact RepF.look h2 e
def RepF.none{f:E_}:∀{fs:List (E_×D)} {vs:List (E_×V)},RepF K H fs vs->fs.lookup f=Option.none->vs.lookup f=Option.none
 |[],vs,h,_=>by rw[repf_nil.mp h];rfl
 |(g,x)::fs,vs,h,e=>by
  obtain⟨v,r,rfl,h1,h2⟩:=repf_cons.mp h;rw[Ez]at e ⊢;split at e
  .cases e
  .exact RepF.none h2 e
def reps_nil{vs:List V}:Reps K H [] vs↔vs=[]:=by unfold Reps;exact Iff.rfl
def reps_cons{d:D}{vs:List V}:Reps K H (d::ds) vs↔∃v r,vs=v::r/\Rep K H d v/\Reps K H ds r:=by
 constructor
 .intro h;unfold Reps at h;exact h
 .intro h;unfold Reps;exact h
def Reps.length:∀{ds:List D} {vs:List V},Reps K H ds vs->vs.length=ds.length
 |[],vs,h=>by rw[reps_nil.mp h];rfl
 |d::ds,vs,h=>by
  obtain⟨v,r,rfl,_,h2⟩:=reps_cons.mp h;rw[Ex,Ex,Reps.length h2]
def Reps.get:∀{ds:List D} {vs:List V} {i:Nat} {d:D},Reps K H ds vs->ds[i]?=be d->∃v,vs[i]?=be v/\Rep K H d v
 |[],_,_,_,_,e=>by simp at e
 |x::ds,vs,0,d,h,e=>by
  obtain⟨v,r,rfl,h1,_⟩:=reps_cons.mp h;simp at e;subst e;exact#[v,rfl,h1]
 |x::ds,vs,i+1,d,h,e=>by
  obtain⟨v,r,rfl,_,h2⟩:=reps_cons.mp h;obtain⟨u,q1,q2⟩:=Reps.get (i:=i) h2 (by simpa using e);exact#[u,by simpa using q1,q2]
def Reps.ints:∀{ns:List Int} {vs:List V},Reps K H (ns.map D.int) vs↔vs=ns.map V.int
 |[],vs=>reps_nil
 |n::ns,vs=>by
  rw[EJ,reps_cons,EJ];constructor
  .rintro⟨v,r,rfl,h1,h2⟩;rw[rep_int.mp h1,Reps.ints.mp h2]
  .rintro rfl;exact#[_,_,rfl,rep_int.mpr rfl,Reps.ints.mpr rfl]
end
abbrev SD:=List (Option D)
def fV:D->Bool|.own _=>true|_=>false
structure RepS(K:Ef)(B F H:Hp)(t:SD)(s:L2.St):Prop where
 len:s.length=t.length
 val:∀(i:Nat) d,t[i]?=be (be d)->fV d=false->∃v,s[i]?=be (be v)/\Rep K F d v
 own:∀(i:Nat) ds,t[i]?=be (be (.own ds))->∃a vs,s[i]?=be (be (.ref a))/\H a=be (.lst vs)/\B a=p7/\F a=p7/\Reps K F ds vs
 apart:∀(i j:Nat) di dj a,t[i]?=be (be (.own di))->t[j]?=be (be (.own dj))->s[i]?=be (be (.ref a))->s[j]?=be (be (.ref a))->i=j
structure Grow(F H F' H':Hp):Prop where
 ff:Same F F'
 fh:Same F' H'
 hh:Same H H'
 out:∀b,F b=p7->H b≠p7->F' b=p7
variable{F H:Hp}
def Grow.refl(h:Same F H):Grow F H F H:=#[Same.refl F,h,Same.refl H,λ_ h _=>h]
def Grow.trans{F1 H1 F2 H2:Hp}(g:Grow F H F1 H1)(k:Grow F1 H1 F2 H2):Grow F H F2 H2:=
 ⟨g.ff.trans k.ff,k.fh,g.hh.trans k.hh,λb h1 h2=>k.out b (g.out b h1 h2) (by
  cases e:H b with
  |none=>exact absurd e h2
  |some o=>rw[g.hh b o e];exact λz=>nomatch z)⟩
def Grow.new{p:KM}(h:Same F H)(hp:H p=p7)(o:HO):Grow F H (upd F p o) (upd H p o):=by
 have fp:F p=none:=h.free hp;refine#[aO fp o,λb u e=>?_,aO hp o,λb h1 h2=>?_]
 .by_cases hb:b=p
  .subst hb;rw[aD]at e ⊢;exact e
  .rw[au hb]at e ⊢;exact h b u e
 .by_cases hb:b=p
  .subst hb;exact absurd hp h2
  .rw[au hb];exact h1
class Jx where
 B:Hp
 F0:Hp
 RX:SD->E_->List (E_×D)->Prop
structure Kept[J:Jx](B F0 F H:Hp):Prop where
 bh:Same B H
 fh:Same F H
 f0:Same F0 F
 out:∀b,F0 b=p7->B b≠p7->F b=p7
 eb:B=J.B
 jf:Same J.F0 F0
 jo:∀b,J.F0 b=p7->B b≠p7->F0 b=p7
variable{B:Hp}
def Kept.kf[J:Jx]{F0:Hp}(k:Kept B F0 F H):Kept B J.F0 F H:=#[k.bh,k.fh,k.jf.trans k.f0,λb h1 h2=>k.out b (k.jo b h1 h2) h2,k.eb,Same.refl _,λ_ h _=>h]
def Kept.grow[Jx]{F0 F' H':Hp}(k:Kept B F0 F H)(g:Grow F H F' H'):Kept B F0 F' H':=
 ⟨k.bh.trans g.hh,g.fh,k.f0.trans g.ff,λb h1 h2=>g.out b (k.out b h1 h2) (by
  cases e:B b with
  |none=>exact absurd e h2
  |some o=>rw[k.bh b o e];exact λz=>nomatch z),k.eb,k.jf,k.jo⟩
section
variable {K:Ef}{B F H F' H':Hp}{t:SD}{s:L2.St}
def RepS.grow(g:Grow F H F' H')(h:RepS K B F H t s):RepS K B F' H' t s where
 len:=h.len
 val:=λi d e no=>let ⟨v,q1,q2⟩:=h.val i d e no;#[v,q1,q2.mono g.ff]
 own:=λi ds e=>by
  obtain⟨a,vs,q1,q2,q3,q4,q5⟩:=h.own i ds e;exact#[a,vs,q1,g.hh a _ q2,q3,g.out a q4 (by rw[q2];exact λz=>nomatch z),q5.mono g.ff]
 apart:=h.apart
variable{i:Nat}
def RepS.set{d:D}{v:V}(h:RepS K B F H t s)(r:Rep K F d v):RepS K B F H (t.set i (be d)) (s.set i (be v)):=by
 have no:fV d=false:=by
  cases d with
  |own ds=>exact absurd r rep_own
  |_=>rfl
 have get:∀{j:Nat} {x:D},(t.set i (be d))[j]?=be (be x)->(j=i/\x=d/\i<t.length)\/(j≠i/\t[j]?=be (be x)):=λ{j x} e=>by
  by_cases hj:i=j
  .subst hj;rw[Fi]at e;simp at e;exact .inl #[rfl,e.2.symm,e.1]
  .rw[Eu hj]at e;exact .inr #[λz=>hj z.symm,e]
 refine#[by rw[Fb,Fb];exact h.len,λj x e nx=>?_,λj ds e=>?_,λj k dj dk a e1 e2 e3 e4=>?_]
 .rcases get e with⟨rfl,rfl,hl⟩|⟨hj,e⟩
  .exact#[v,by rw[EU (by rw[h.len];exact hl)],r]
  .obtain⟨u,q1,q2⟩:=h.val j x e nx;exact#[u,by rw[Eu (λz=>hj z.symm)];exact q1,q2]
 .rcases get e with⟨rfl,rfl,hl⟩|⟨hj,e⟩
  .cases no
  .obtain⟨a,vs,q1,q⟩:=h.own j ds e;exact#[a,vs,by rw[Eu (λz=>hj z.symm)];exact q1,q]
 .rcases get e1 with⟨rfl,rfl,hl⟩|⟨hj,e1⟩
  .cases no
  .rcases get e2 with⟨rfl,rfl,hl⟩|⟨hk,e2⟩
   .cases no
   .rw[Eu (λz=>hj z.symm)]at e3;rw[Eu (λz=>hk z.symm)]at e4;exact h.apart j k dj dk a e1 e2 e3 e4
variable{ds:List My.D}
def RepS.setOwn{a:KM}{vs:List V}(h:RepS K B F H t s)(hB:B a=p7)(hF:F a=p7)(r:Reps K F ds vs)
  (free:∀(j:Nat) dj,j≠i->t[j]?=be (be (.own dj))->s[j]?≠be (be (.ref a))):RepS K B F (upd H a (.lst vs)) (t.set i (be (.own ds))) (s.set i (be (.ref a))):=by
 have get:∀{j:Nat} {x:D},(t.set i (be (.own ds)))[j]?=be (be x)->(j=i/\x=.own ds/\i<t.length)\/(j≠i/\t[j]?=be (be x)):=λ{j x} e=>by
  by_cases hj:i=j
  .subst hj;rw[Fi]at e;simp at e;exact .inl #[rfl,e.2.symm,e.1]
  .rw[Eu hj]at e;exact .inr #[λz=>hj z.symm,e]
 refine#[by rw[Fb,Fb];exact h.len,λj x e nx=>?_,λj dj e=>?_,λj k dj dk b e1 e2 e3 e4=>?_]
 .rcases get e with⟨rfl,rfl,hl⟩|⟨hj,e⟩
  .cases nx
  .obtain⟨u,q1,q2⟩:=h.val j x e nx;exact#[u,by rw[Eu (λz=>hj z.symm)];exact q1,q2]
 .rcases get e with⟨rfl,e,hl⟩|⟨hj,e⟩
  .cases e;exact#[a,vs,by rw[EU (by rw[h.len];exact hl)],aD,hB,hF,r]
  .obtain⟨b,us,q1,q2,q⟩:=h.own j dj e;have ne:b≠a:=λz=>free j dj hj e (z ▸ q1);exact#[b,us,by rw[Eu (λz=>hj z.symm)];exact q1,by rw[au ne];exact q2,q]
 .rcases get e1 with⟨hj,c1,hl⟩|⟨hj,f1⟩
  .rcases get e2 with⟨hk,c2,K2⟩|⟨hk,f2⟩
   .rw[hj,hk]
   .rw[hj,EU (by rw[h.len];exact hl)]at e3;rw[Eu (λz=>hk z.symm)]at e4;cases e3;exact absurd e4 (free k dk hk f2)
  .rcases get e2 with⟨hk,c2,K2⟩|⟨hk,f2⟩
   .rw[hk,EU (by rw[h.len];exact K2)]at e4;rw[Eu (λz=>hj z.symm)]at e3;cases e4;exact absurd e3 (free j dj hj f1)
   .rw[Eu (λz=>hj z.symm)]at e3;rw[Eu (λz=>hk z.symm)]at e4;exact h.apart j k dj dk b f1 f2 e3 e4
def RepS.freeze[Jx]{F0:Hp}(h:RepS K B F H t s)(k:Kept B F0 F H)(e:t[i]?=be (be (.own ds))):∃F',Kept B F0 F' H/\RepS K B F' H (t.set i (be (.lst ds))) s:=by
 obtain⟨a,vs,q1,q2,q3,q4,q5⟩:=h.own i ds e;have hl:i<t.length:=(Ev.mp e).1;have g:Same F (upd F a (.lst vs)):=aO q4 _;have get:∀{j:Nat} {x:D},(t.set i (be (.lst ds)))[j]?=be (be x)->(j=i/\x=.lst ds)\/(j≠i/\t[j]?=be (be x)):=λ{j x} e=>by
  by_cases hj:i=j
  .subst hj;rw[Fi]at e;simp at e;exact .inl #[rfl,e.2.symm]
  .rw[Eu hj]at e;exact .inr #[λz=>hj z.symm,e]
 refine#[upd F a (.lst vs),#[k.bh,λb o z=>?_,k.f0.trans g,λb h1 h2=>?_,k.eb,k.jf,k.jo],#[by rw[Fb];exact h.len,λj x e' nx=>?_,λj dj e'=>?_,λj l dj dl b e1 e2 e3 e4=>?_]]
 .by_cases hb:b=a
  .subst hb;rw[aD]at z;cases z;exact q2
  .rw[au hb]at z;exact k.fh b o z
 .by_cases hb:b=a
  .subst hb;exact absurd q3 h2
  .rw[au hb];exact k.out b h1 h2
 .rcases get e' with⟨rfl,rfl⟩|⟨hj,e'⟩
  .exact#[.ref a,q1,rep_lst.mpr #[a,vs,rfl,aD,q5.mono g]]
  .obtain⟨u,p1,p2⟩:=h.val j x e' nx;exact#[u,p1,p2.mono g]
 .rcases get e' with⟨rfl,c⟩|⟨hj,e'⟩
  .cases c
  .obtain⟨b,us,p1,p2,p3,p4,p5⟩:=h.own j dj e';have ne:b≠a:=λz=>hj (h.apart j i dj ds a e' e (z ▸ p1) q1);exact#[b,us,p1,p2,p3,by rw[au ne];exact p4,p5.mono g]
 .rcases get e1 with⟨rfl,c⟩|⟨hj,e1⟩
  .cases c
  .rcases get e2 with⟨rfl,c⟩|⟨hk,e2⟩
   .cases c
   .exact h.apart j l dj dl b e1 e2 e3 e4
end
def startD(N:List E_)(ds:List D):SD:=ds.map be++EV (N.length-ds.length) p7
variable{K:Ef}
def Rep.noown{d:D}{v:V}(r:Rep K F d v):fV d=false:=by
 cases d with
 |own ds=>exact absurd r rep_own
 |_=>rfl
def fj{N:List E_}{ds:List D}{vs:List V}(h:Reps K F ds vs):RepS K B F H (startD N ds) (L2.start N vs):=by
 have hl:=h.length;have get:∀(i:Nat) d,(startD N ds)[i]?=be (be d)->∃v,(L2.start N vs)[i]?=be (be v)/\Rep K F d v:=λi d e=>by
  unfold startD at e;unfold L2.start;by_cases hi:i<ds.length
  .rw[EW (by simpa using hi),Et]at e;cases q:ds[i]? with
   |none=>rw[q]at e;cases e
   |some x=>
    rw[q]at e;cases e;obtain⟨v,q1,q2⟩:=h.get q;exact#[v,by rw[EW (by simpa[hl]using hi),Et,q1];rfl,q2]
  .rw[Fh (by simpa using hi),Gh]at e;split at e<;>cases e
 refine#[by unfold startD L2.start;simp[hl],λi d e _=>get i d e,λi d e=>?_,λi j di dj a e=>?_]
 .obtain⟨v,_,r⟩:=get i _ e;exact absurd r rep_own
 .obtain⟨v,_,r⟩:=get i _ e;exact absurd r rep_own
abbrev TD:=SD->(D->Prop)->Prop
abbrev TDT:=SD->(Bool->Prop)->Prop
abbrev TDA:=SD->(List D->Prop)->Prop
structure EndsD where
 nx:SD->Prop
 rt:D->Prop
 bk:SD->Prop:=λ_=>False
 ct:SD->Prop:=λ_=>False
abbrev TSD:=EndsD->SD->Prop
def lE(K:Ef)[J:Jx](t:TD):TE:=λs H Q=>∃B F z,Kept B J.F0 F H/\RepS K B F H z s/\∃R:D->Prop,t z R/\∀d v F' H',Grow F H F' H'->R d->Rep K F' d v->Q v H'
def lT(K:Ef)[J:Jx](t:TDT):TT:=λs H Q=>∃B F z,Kept B J.F0 F H/\RepS K B F H z s/\∃R:Bool->Prop,t z R/\∀b F' H',Grow F H F' H'->R b->Q b H'
def lA(K:Ef)[J:Jx](t:TDA):TA:=λs H Q=>∃B F z,Kept B J.F0 F H/\RepS K B F H z s/\∃R:List D->Prop,t z R/\∀ds vs F' H',Grow F H F' H'->R ds->Reps K F' ds vs->Q vs H'
structure EndsOk[Jx](K:Ef)(B F0:Hp)(ED:EndsD)(E:Ends):Prop where
 nx:∀z' s' F' H',Kept B F0 F' H'->ED.nx z'->RepS K B F' H' z' s'->E.nx s' H'
 rt:∀d v F' H',Kept B F0 F' H'->ED.rt d->Rep K F' d v->E.rt v H'
 bk:∀z' s' F' H',Kept B F0 F' H'->ED.bk z'->RepS K B F' H' z' s'->E.bk s' H'
 ct:∀z' s' F' H',Kept B F0 F' H'->ED.ct z'->RepS K B F' H' z' s'->E.ct s' H'
def lS(K:Ef)[Jx](t:TSD):TS:=λE s H=>∃B F0 F z,Kept B F0 F H/\RepS K B F H z s/\∃ED:EndsD,t ED z/\EndsOk K B F0 ED E
abbrev DE(X:Cx)[Jx](e:PV)(t:TD):Prop:=PE X e (lE X.K t)
abbrev DT(X:Cx)[Jx](e:PV)(t:TDT):Prop:=PT X e (lT X.K t)
abbrev DW(X:Cx)[Jx](e:PV)(t:TDT):Prop:=PW X e (lT X.K t)
abbrev DA(X:Cx)[Jx](es:List PV)(t:TDA):Prop:=PA X es (lA X.K t)
abbrev DS(X:Cx)[Jx](st:P0)(t:TSD):Prop:=PS X st (lS X.K t)
abbrev DSs(X:Cx)[Jx](st:List P0)(t:TSD):Prop:=PSs X st (lS X.K t)
structure WDE(X:Cx)[Jx](e:PV)(t:TD):Prop where
 out:DE X e t
structure WDT(X:Cx)[Jx](e:PV)(t:TDT):Prop where
 out:DT X e t
structure WDW(X:Cx)[Jx](e:PV)(t:TDT):Prop where
 out:DW X e t
structure WDA(X:Cx)[Jx](es:List PV)(t:TDA):Prop where
 out:DA X es t
structure WDS(X:Cx)[Jx](st:P0)(t:TSD):Prop where
 out:DS X st t
structure WDSs(X:Cx)[Jx](st:List P0)(t:TSD):Prop where
 out:DSs X st t
section
variable {X:Cx}
def okR(R:D->Prop):D->Prop|.own _=>False|d=>R d
def dVar(i:Nat):TD:=λz R=>match z[i]? with|some (be d)=>okR R d|_=>False
def dC(d:D):TD:=λ_ R=>R d
variable{x:E_}
def aa[Jx](i:Nat){pos:Qa}(hN:autoParam (X.N[i]?=be x) zA0)(hv:autoParam (Vis X.env.scope x) zA5)(hd:autoParam (zND x) zA1)
  (i9:autoParam (zNC x) zA1):WDE X (.Name x pos) (dVar i):=⟨(dN hN hv hd i9).anti λs H Q h=>by
 obtain⟨B,F,z,kf,r,R,h1,h2⟩:=h;have fh:=kf.fh;unfold dVar at h1;split at h1
 .rename_i d e;have no:fV d=false:=by
   cases d with
   |own ds=>exact False.elim h1
   |_=>rfl
  have Oc:R d:=by
   cases d with
   |own ds=>exact False.elim h1
   |_=>exact h1
  obtain⟨v,q1,q2⟩:=r.val i d e no;exact#[v,q1,h2 d v F H (Grow.refl fh) Oc q2]
 .exact h1.elim⟩
variable{e:PV}{d:My.D}
def de_c[Jx]{v:V}(h:PE X e (tC v))(r:∀H,Rep X.K H d v):DE X e (dC d):=h.anti λs H Q q=>by
 obtain⟨B,F,z,kf,_,R,h1,h2⟩:=q;have fh:=kf.fh;exact h2 d v F H (Grow.refl fh) h1 (r F)
def ad[Jx]{i j pos}:WDE X (.Constant (.int i) j pos) (dC (.int i)):=#[de_c tK λ_=>rep_int.mpr rfl]
def ck[Jx]{b j pos}:WDE X (.Constant (.bool b) j pos) (dC (.bl b)):=#[de_c tL λ_=>rep_bl.mpr rfl]
def cI[Jx]{j pos}:WDE X (.Constant .none j pos) (dC .non):=#[de_c tM λ_=>rep_non.mpr rfl]
def av[Jx]{x j pos}:WDE X (.Constant (.str x) j pos) (dC (.str x)):=#[de_c om λ_=>rep_str.mpr rfl]
abbrev RD2:=D->D->(D->Prop)->Prop
def dOp(r:RD2)(ta tb:TD):TD:=λz R=>ta z λx=>tb z λy=>r x y R
def aK(K:Ef)(r:R2)(rd:RD2):Prop:=∀x y u v F H R Q,Same F H->rd x y R->Rep K F x u->Rep K F y v->(∀d w F' H',Grow F H F' H'->R d->Rep K F' d w->Q w H')->r u v H Q
variable{r:R2}{rd:RD2}
def je[Jx]{ta tb:TD}(L:aK X.K r rd)(h:PE X e (tOp r (lE X.K ta) (lE X.K tb))):DE X e (dOp rd ta tb):=h.anti λs H Q q=>by
 obtain⟨B,F,z,kf,rs,R,h1,h2⟩:=q;have fh:=kf.fh;refine#[B,F,z,kf,rs,_,h1,λx u F1 H1 g1 hx rx=>?_];refine#[B,F1,z,kf.grow g1,rs.grow g1,_,hx,λy v F2 H2 g2 hy ry=>?_];exact L x y u v F2 H2 R Q g2.fh hy (rx.mono g2.ff) ry λd w F' H' g3=>h2 d w F' H' (g1.trans (g2.trans g3))
variable {a b c:PV}{ta tb tc:TD}{pos:Qa}
def cJ[Jx]{op:Re}(ho:OpR X (Qh op) r)(L:aK X.K r rd)(ha:DE X a ta)(hb:DE X b tb):DE X (.BinOp a op b pos) (dOp rd ta tb):=je L (oM ho ha hb)
def fW[Jx]{op:Rk}(ho:OpR X (P' op) r)(L:aK X.K r rd)(ha:DE X a ta)(hb:DE X b tb)(hm:Qo op b=false):DE X (.Compare a [op] [b] pos) (dOp rd ta tb):=je L (vc ho ha hb hm)
def wB[Jx](hr:IxR X r)(L:aK X.K r rd)(ha:DE X a ta)(hb:DE X b tb)(hs:autoParam (dP b) zA6):DE X (.Subscript a b pos) (dOp rd ta tb):=je L (pe_ix hr ha hb hs)
def kdI(d:D)(k:Int->Prop):Prop:=match d with|.int i=>k i|_=>False
def kdB(d:D)(k:Bool->Prop):Prop:=match d with|.bl i=>k i|_=>False
def kdS(d:D)(k:E_->Prop):Prop:=match d with|.str i=>k i|_=>False
def kdL(d:D)(k:List D->Prop):Prop:=match d with|.lst i=>k i|_=>False
def kdT(d:D)(k:List D->Prop):Prop:=match d with|.tup i=>k i|_=>False
def kdN(d:D)(p:Prop):Prop:=match d with|.non=>p|_=>False
def kd1(ds:List D)(k:D->Prop):Prop:=match ds with|[x]=>k x|_=>False
def kd2(ds:List D)(k:D->D->Prop):Prop:=match ds with|[x,y]=>k x y|_=>False
def kdI.of{k:Int->Prop}(h:kdI d k):∃i,d=.int i/\k i:=JG
def kdB.of{k:Bool->Prop}(h:kdB d k):∃i,d=.bl i/\k i:=JG
def kdS.of{k:E_->Prop}(h:kdS d k):∃i,d=.str i/\k i:=JG
variable{k:List My.D->Prop}
def kdL.of(h:kdL d k):∃i,d=.lst i/\k i:=JG
def kdT.of(h:kdT d k):∃i,d=.tup i/\k i:=JG
def kdP(d:D)(k:KM->Prop):Prop:=match d with|.ptr i=>k i|_=>False
def kdP.of{k:KM->Prop}(h:kdP d k):∃i,d=.ptr i/\k i:=JG
def kdN.of{p:Prop}(h:kdN d p):d=.non/\p:=by cases d<;>first|exact#[rfl,h]|exact False.elim h
variable{ds:List My.D}
def kd1.of{k:D->Prop}(h:kd1 ds k):∃x,ds=[x]/\k x:=by
 cases ds with
 |nil=>exact False.elim h
 |cons x r=>cases r with
  |nil=>exact#[x,rfl,h]
  |cons=>exact False.elim h
def kd2.of{k:D->D->Prop}(h:kd2 ds k):∃x y,ds=[x,y]/\k x y:=by
 cases ds with
 |nil=>exact False.elim h
 |cons x r=>cases r with
  |nil=>exact False.elim h
  |cons y r=>cases r with
   |nil=>exact#[x,y,rfl,h]
   |cons=>exact False.elim h
def rdI0(f:Int->Int->D):RD2:=λx y R=>kdI x λi=>kdI y λj=>R (f i j)
def rdI1(C:Int->Int->Prop)(f:Int->Int->D):RD2:=λx y R=>kdI x λi=>kdI y λj=>C i j/\R (f i j)
variable{K:Ef}{f:Int->Int->My.D}{g:Int->Int->V}
def fk(k:∀F i j,Rep K F (f i j) (g i j)):aK K (rI0 g) (rdI0 f):=by
 intro x y u v F H R Q fh h rx ry q;replace h:=kdI.of h;obtain⟨i,rfl,h⟩:=h;replace h:=kdI.of h;obtain⟨j,rfl,h⟩:=h;exact#[i,j,rep_int.mp rx,rep_int.mp ry,q _ _ F H (Grow.refl fh) h (k F i j)]
def dR{C:Int->Int->Prop}(k:∀F i j,Rep K F (f i j) (g i j)):aK K (rI C g) (rdI1 C f):=by
 intro x y u v F H R Q fh h rx ry q;replace h:=kdI.of h;obtain⟨i,rfl,h⟩:=h;replace h:=kdI.of h;obtain⟨j,rfl,h⟩:=h;exact#[i,j,rep_int.mp rx,rep_int.mp ry,h.1,q _ _ F H (Grow.refl fh) h.2 (k F i j)]
def jg:RD2:=λx y R=>match x with
 |.int i=>kdI y λj=>R (.int (i+j))
 |.str i=>kdS y λj=>i.length+j.length<=1000000/\R (.str (i++j))
 |.lst xs=>kdL y λys=>xs.length+ys.length<=1000000/\R (.lst (xs++ys))
 |.tup xs=>kdT y λys=>(xs≠[]/\ys≠[]/\xs.length+ys.length<=1000000)/\R (.tup (xs++ys))
 |_=>False
def pP(K:Ef):R2:=λx y H Q=>rI0 (λi j=>.int (i+j)) x y H Q\/((λx y H Q=>∃i j,x=.str i/\y=.str j/\i.length+j.length<=sizeLine/\Q (.str (i++j)) H) x y H Q\/(rCat x y H Q\/pD K x y H Q))
def pQ:OpR X (Qh .Add) (pP X.K):=OpR.or ut (OpR.or vi (OpR.or wc vQ))
def Reps.append{K:Ef}{F:Hp}:∀{xs ys:List D} {us vs:List V},Reps K F xs us->Reps K F ys vs->Reps K F (xs++ys) (us++vs)
 |[],ys,us,vs,r1,r2=>by rw[reps_nil.mp r1];exact r2
 |x::xs,ys,us,vs,r1,r2=>by
  obtain⟨u,ur,rfl,a1,a2⟩:=reps_cons.mp r1;exact reps_cons.mpr #[u,ur++vs,rfl,a1,Reps.append a2 r2]
def Reps.ne_nil{F:Hp}{xs:List D}{us:List V}(r:Reps K F xs us)(h:xs≠[]):us≠[]:=by
 cases xs with
 |nil=>exact absurd rfl h
 |cons x xs=>obtain⟨u,ur,rfl,_⟩:=reps_cons.mp r;exact λz=>nomatch z
def pR:aK K (pP K) jg:=by
 intro x y u v F H R Q fh h rx ry q;cases x with
 |int i=>
  replace h:=kdI.of h;obtain⟨j,rfl,h⟩:=h;exact .inl #[_,_,rep_int.mp rx,rep_int.mp ry,q _ _ F H (Grow.refl fh) h (rep_int.mpr rfl)]
 |str i=>
  replace h:=kdS.of h;obtain⟨j,rfl,h⟩:=h;exact .inr (.inl #[_,_,rep_str.mp rx,rep_str.mp ry,Eo h.1 Ik,q _ _ F H (Grow.refl fh) h.2 (rep_str.mpr rfl)])
 |lst xs=>
  replace h:=kdL.of h;obtain⟨ys,rfl,h⟩:=h;obtain⟨a,us,rfl,hq,rr⟩:=rep_lst.mp rx;obtain⟨b,vs,rfl,p_,t7⟩:=rep_lst.mp ry;refine .inr (.inr (.inl #[a,b,us,vs,rfl,rfl,fh _ _ hq,fh _ _ p_,by rw[rr.length,t7.length];exact Eo h.1 Ik,λp hp=>?_]));exact q _ _ _ _ (Grow.new fh hp _) h.2 (rep_lst.mpr #[p,_,rfl,aD,(rr.append t7).mono (aO (fh.free hp) _)])
 |tup xs=>
  replace h:=kdT.of h;obtain⟨ys,rfl,h⟩:=h;obtain⟨a,us,rfl,hq,rr⟩:=rep_tup_mp rx;obtain⟨b,vs,rfl,p_,t7⟩:=rep_tup_mp ry;obtain⟨⟨n1,n2,hz⟩,h⟩:=h;refine .inr (.inr (.inr #[a,b,us,vs,rfl,rfl,fh.tup hq,fh.tup p_,rr.ne_nil n1,by rw[rr.length,t7.length];exact Eo hz Ik,λz=>absurd z (t7.ne_nil n2),λ_ p hp=>?_]));exact q _ _ _ _ (Grow.new fh hp _) h (rep_tupS.mpr #[p,_,rfl,aD,(rr.append t7).mono (aO (fh.free hp) _)])
 |_=>exact False.elim h
def ao[Jx](ha:WDE X a ta)(hb:WDE X b tb):WDE X (.BinOp a .Add b pos) (dOp jg ta tb):=#[have ha:=ha.out;have hb:=hb.out;cJ pQ pR ha hb]
def jh:RD2:=rdI0 λi j=>.int (i-j)
def pS:aK K (rI0 λi j=>.int (i-j)) jh:=fk λ_ _ _=>rep_int.mpr rfl
def aP[Jx](ha:WDE X a ta)(hb:WDE X b tb):WDE X (.BinOp a .Sub b pos) (dOp jh ta tb):=#[have ha:=ha.out;have hb:=hb.out;cJ oN pS ha hb]
def pT:RD2:=λx y R=>kdI x λi=>kdI y λj=>CMul i j/\R (.int (i*j))
def wC:aK K (rI CMul λi j=>.int (i*j)) pT:=dR λ_ _ _=>rep_int.mpr rfl
def aw[Jx](ha:WDE X a ta)(hb:WDE X b tb):WDE X (.BinOp a .Mult b pos) (dOp pT ta tb):=#[have ha:=ha.out;have hb:=hb.out;cJ uu wC ha hb]
def pU:RD2:=λx y R=>kdI x λi=>kdI y λj=>(0<j/\j<1073741824)/\R (.int (i/j))
def wE:aK K (rI CDiv λi j=>.int (i/j)) pU:=dR λ_ _ _=>rep_int.mpr rfl
def aM[Jx](ha:WDE X a ta)(hb:WDE X b tb):WDE X (.BinOp a .FloorDiv b pos) (dOp pU ta tb):=#[have ha:=ha.out;have hb:=hb.out;cJ uv wE ha hb]
def pV(i j:Int):Prop:=j≠0/\j.natAbs<4611686018427387904
def wF:OpR X (Qh .FloorDiv) (rI pV λi j=>.int (i.fdiv j)):=opI λ_ j _ _ _ _ _ hc q=>floordiv_int hc.1 q (.inl (PyProof.noPylong_of_log2 (GO ((GQ (λz=>hc.1 (GR.mp z))).mpr (show j.natAbs<2^62 from hc.2)) Ik)))
def pW:RD2:=λx y R=>kdI x λi=>kdI y λj=>(j≠0/\j.natAbs<4611686018427387904)/\R (.int (i.fdiv j))
def wG:aK K (rI pV λi j=>.int (i.fdiv j)) pW:=dR λ_ _ _=>rep_int.mpr rfl
def wH[Jx](ha:WDE X a ta)(hb:WDE X b tb):WDE X (.BinOp a .FloorDiv b pos) (dOp pW ta tb):=#[have ha:=ha.out;have hb:=hb.out;cJ wF wG ha hb]
def pX:RD2:=λx y R=>kdI x λi=>kdI y λj=>0<j/\R (.int (i%j))
def wI:aK K (rI (λ_ j=>0<j) λi j=>.int (i%j)) pX:=dR λ_ _ _=>rep_int.mpr rfl
def ay[Jx](ha:WDE X a ta)(hb:WDE X b tb):WDE X (.BinOp a .Mod b pos) (dOp pX ta tb):=#[have ha:=ha.out;have hb:=hb.out;cJ uw wI ha hb]
def pY:RD2:=λx y R=>kdI x λi=>kdI y λj=>j≠0/\R (.int (i.fmod j))
def wJ:aK K (rI (λ_ j=>j≠0) λi j=>.int (i.fmod j)) pY:=dR λ_ _ _=>rep_int.mpr rfl
def pZ[Jx](ha:WDE X a ta)(hb:WDE X b tb):WDE X (.BinOp a .Mod b pos) (dOp pY ta tb):=#[have ha:=ha.out;have hb:=hb.out;cJ ux wJ ha hb]
def qa:RD2:=λx y R=>kdI x λi=>kdI y λj=>(0<=j/\j<=1000000/\i.natAbs<2^64)/\R (.int (i^j.toNat))
def wK:aK K (rI CPow λi j=>.int (i^j.toNat)) qa:=dR λ_ _ _=>rep_int.mpr rfl
def df[Jx](ha:WDE X a ta)(hb:WDE X b tb):WDE X (.BinOp a .Pow b pos) (dOp qa ta tb):=#[have ha:=ha.out;have hb:=hb.out;cJ uy wK ha hb]
def rdLt:RD2:=rdI0 λi j=>.bl (decide (i<j))
def fX:aK K (rI0 λi j=>.bl (decide (i<j))) rdLt:=fk λ_ _ _=>rep_bl.mpr rfl
def wL[Jx](ha:WDE X a ta)(hb:WDE X b tb):WDE X (.Compare a [.Lt] [b] pos) (dOp rdLt ta tb):=#[have ha:=ha.out;have hb:=hb.out;fW fO fX ha hb (nomark _)]
def rdLe:RD2:=rdI0 λi j=>.bl (decide (i<=j))
def qc:aK K (rI0 λi j=>.bl (decide (i<=j))) rdLe:=fk λ_ _ _=>rep_bl.mpr rfl
def rdGt:RD2:=rdI0 λi j=>.bl (decide (j<i))
def qd:aK K (rI0 λi j=>.bl (decide (j<i))) rdGt:=fk λ_ _ _=>rep_bl.mpr rfl
def wM[Jx](ha:WDE X a ta)(hb:WDE X b tb):WDE X (.Compare a [.Gt] [b] pos) (dOp rdGt ta tb):=#[have ha:=ha.out;have hb:=hb.out;fW oU qd ha hb (nomark _)]
def rdGe:RD2:=rdI0 λi j=>.bl (decide (j<=i))
def wO:aK K (rI0 λi j=>.bl (decide (j<=i))) rdGe:=fk λ_ _ _=>rep_bl.mpr rfl
def rdEq:RD2:=λx y R=>match x with
 |.int i=>kdI y λj=>R (.bl (decide (i=j)))
 |.bl i=>kdB y λj=>R (.bl (decide (i=j)))
 |.str i=>kdS y λj=>R (.bl (decide (i=j)))
 |.non=>kdN y (R (.bl true))
 |_=>False
def rdNe:RD2:=λx y R=>match x with
 |.int i=>kdI y λj=>R (.bl (!decide (i=j)))
 |.bl i=>kdB y λj=>R (.bl (!decide (i=j)))
 |.str i=>kdS y λj=>R (.bl (!decide (i=j)))
 |.non=>kdN y (R (.bl false))
 |_=>False
def ji:aK K rEq rdEq:=by
 intro x y u v F H R Q fh h rx ry q;cases x with
 |int i=>
  replace h:=kdI.of h;obtain⟨j,rfl,h⟩:=h;rw[rep_int.mp rx,rep_int.mp ry];exact#[rfl,q _ _ F H (Grow.refl fh) h (rep_bl.mpr Iq)]
 |bl i=>
  replace h:=kdB.of h;obtain⟨j,rfl,h⟩:=h;rw[rep_bl.mp rx,rep_bl.mp ry];exact#[rfl,q _ _ F H (Grow.refl fh) h (rep_bl.mpr Iq)]
 |str i=>
  replace h:=kdS.of h;obtain⟨j,rfl,h⟩:=h;rw[rep_str.mp rx,rep_str.mp ry];exact#[rfl,q _ _ F H (Grow.refl fh) h (rep_bl.mpr Iq)]
 |non=>
  replace h:=kdN.of h;obtain⟨rfl,h⟩:=h;rw[rep_non.mp rx,rep_non.mp ry];exact#[rfl,q _ _ F H (Grow.refl fh) h (rep_bl.mpr Iq)]
 |_=>exact False.elim h
def wP:aK K rNe rdNe:=by
 intro x y u v F H R Q fh h rx ry q;cases x with
 |int i=>
  replace h:=kdI.of h;obtain⟨j,rfl,h⟩:=h;rw[rep_int.mp rx,rep_int.mp ry];exact#[rfl,q _ _ F H (Grow.refl fh) h (rep_bl.mpr Iq)]
 |bl i=>
  replace h:=kdB.of h;obtain⟨j,rfl,h⟩:=h;rw[rep_bl.mp rx,rep_bl.mp ry];exact#[rfl,q _ _ F H (Grow.refl fh) h (rep_bl.mpr Iq)]
 |str i=>
  replace h:=kdS.of h;obtain⟨j,rfl,h⟩:=h;rw[rep_str.mp rx,rep_str.mp ry];exact#[rfl,q _ _ F H (Grow.refl fh) h (rep_bl.mpr Iq)]
 |non=>
  replace h:=kdN.of h;obtain⟨rfl,h⟩:=h;rw[rep_non.mp rx,rep_non.mp ry];exact#[rfl,q _ _ F H (Grow.refl fh) h (rep_bl.mpr Iq)]
 |_=>exact False.elim h
def cK[Jx](ha:WDE X a ta)(hb:WDE X b tb):WDE X (.Compare a [.Eq] [b] pos) (dOp rdEq ta tb):=#[have ha:=ha.out;have hb:=hb.out;fW iU ji ha hb (nomark _)]
def qe:D->Bool|.non=>true|_=>false
def rdIs(f:Bool->Bool):RD2:=λx y R=>kdN y (R (.bl (f (qe x))))
def wQ{H:Hp}{x:D}{u:V}(r:Rep K H x u):decide (u=.non)=qe x:=by
 cases x with
 |non=>rw[rep_non.mp r];rfl
 |bl b=>rw[rep_bl.mp r];rfl
 |int b=>rw[rep_int.mp r];rfl
 |str b=>rw[rep_str.mp r];rfl
 |tup b=>obtain⟨a,vs,rfl,_⟩:=rep_tup_mp r;rfl
 |lst b=>obtain⟨a,vs,rfl,_⟩:=rep_lst.mp r;rfl
 |rol b=>obtain⟨a,vs,rfl,_⟩:=rep_rol.mp r;rfl
 |obj C b=>obtain⟨a,C,dx,vs,rfl,_⟩:=rep_obj.mp r;rfl
 |exc C b=>obtain⟨a,C,od,vs,rfl,_⟩:=rep_exc.mp r;rfl
 |own b=>exact absurd r rep_own
 |ptr b=>rw[rep_ptr.mp r];rfl
 |dti b=>obtain⟨a,rfl,_⟩:=rep_dti.mp r;rfl
def qf:aK K (λx y H Q=>y=.non/\Q (.bl (decide (x=.non))) H) (rdIs id):=by
 intro x y u v F H R Q fh h rx ry q;replace h:=kdN.of h;obtain⟨rfl,h⟩:=h;exact#[rep_non.mp ry,q _ _ F H (Grow.refl fh) h (rep_bl.mpr (by rw[wQ rx];rfl))]
def rdIx:RD2:=λx y R=>kdI y λi=>match x with
 |.tup ds=>∃d,atI ds i=be d/\R d
 |.lst ds=>∃d,atI ds i=be d/\R d
 |.rol ds=>∃d,atI ds i=be d/\R d
 |.str x=>∃c,(x.length<=1000000/\atI x.cps.toList i=be c)/\R (.str #[[c].toArray])
 |_=>False
def Reps.at{H:Hp}{vs:List V}{i:Int}(r:Reps K H ds vs)(e:atI ds i=be d):∃v,atI vs i=be v/\Rep K H d v:=by
 unfold atI at e ⊢;rw[r.length];cases q:ixN ds.length i with
 |none=>rw[q]at e;cases e
 |some j=>
  rw[q]at e;exact r.get e
def qg:aK K (rIx K) rdIx:=by
 intro x y u v F H R Q fh h rx ry q;replace h:=kdI.of h;obtain⟨i,rfl,h⟩:=h;cases x with
 |tup ds=>
  obtain⟨d,e,h⟩:=h;obtain⟨a,vs,e1,hq,rs⟩:=rep_tup_mp rx;obtain⟨w,e2,g6⟩:=rs.at e;exact .inr (.inl #[a,vs,_,w,e1,rep_int.mp ry,fh.tup hq,e2,q d w F H (Grow.refl fh) h g6])
 |lst ds=>
  obtain⟨d,e,h⟩:=h;obtain⟨a,vs,e1,hq,rs⟩:=rep_lst.mp rx;obtain⟨w,e2,g6⟩:=rs.at e;exact .inl #[a,vs,_,w,e1,rep_int.mp ry,fh.seq (SqL.of hq),e2,q d w F H (Grow.refl fh) h g6]
 |rol ds=>
  obtain⟨d,e,h⟩:=h;obtain⟨a,vs,e1,hq,rs⟩:=rep_rol.mp rx;obtain⟨w,e2,g6⟩:=rs.at e;exact .inl #[a,vs,_,w,e1,rep_int.mp ry,fh.seq hq,e2,q d w F H (Grow.refl fh) h g6]
 |str x=>
  obtain⟨c,⟨hz,e⟩,h⟩:=h;exact .inr (.inr #[_,_,c,rep_str.mp rx,rep_int.mp ry,Eo hz Ik,e,q _ _ F H (Grow.refl fh) h (rep_str.mpr rfl)])
 |_=>exact False.elim h
def af[Jx](ha:WDE X a ta)(hb:WDE X b tb)(hs:autoParam (dP b) zA6):WDE X (.Subscript a b pos) (dOp rdIx ta tb):=#[have ha:=ha.out;have hb:=hb.out;wB pF qg ha hb hs]
def dUn(r:D->(D->Prop)->Prop)(ta:TD):TD:=λz R=>ta z λx=>r x R
def qh:D->(D->Prop)->Prop:=λx R=>match x with|.int i=>R (.int (-i))|_=>False
def bS[Jx](ha:WDE X a ta):WDE X (.UnaryOp .USub a pos) (dUn qh ta):=⟨have ha:=ha.out;(uq uz ha).anti λs H Q h=>by
 obtain⟨B,F,z,kf,rs,R,h1,h2⟩:=h;have fh:=kf.fh;refine#[B,F,z,kf,rs,_,h1,λx u F1 H1 g1 hx rx=>?_];unfold qh at hx;split at hx
 .exact#[_,rep_int.mp rx,h2 _ _ F1 H1 g1 hx (rep_int.mpr rfl)]
 .exact hx.elim⟩
def dNil:TDA:=λ_ R=>R []
def wR(ta:TD)(tr:TDA):TDA:=λz R=>ta z λx=>tr z λxs=>R (x::xs)
def ae[Jx]:WDA X [] dNil:=⟨pa_nil.anti λs H Q h=>by
 obtain⟨B,F,z,kf,rs,R,h1,h2⟩:=h;have fh:=kf.fh;exact h2 [] [] F H (Grow.refl fh) h1 (reps_nil.mpr rfl)⟩
variable{es:List PV}{t:TDA}
def ac[Jx]{te:TD}(ha:WDE X e te)(hr:WDA X es t)(hs:autoParam (zSE X e es) zA0):WDA X (e::es) (wR te t):=⟨have ha:=ha.out;have hr:=hr.out;(bj ha hr hs).anti λs H Q h=>by
 obtain⟨B,F,z,kf,rs,R,h1,h2⟩:=h;have fh:=kf.fh;refine#[B,F,z,kf,rs,_,h1,λx u F1 H1 g1 hx rx=>?_];refine#[B,F1,z,kf.grow g1,rs.grow g1,_,hx,λxs us F2 H2 g2 hy ry=>?_];exact h2 _ _ F2 H2 (g1.trans g2) hy (reps_cons.mpr #[_,_,rfl,rx.mono g2.ff,ry])⟩
def dTup(t:TDA):TD:=λz R=>t z λxs=>xs.length<=1000/\R (.tup xs)
def dLst(t:TDA):TD:=λz R=>t z λxs=>xs.length<=1000/\R (.lst xs)
def aF[Jx]{x1}(h:WDA X es t):WDE X (.Tuple es x1 pos) (dTup t):=⟨have h:=h.out;(pj h).anti λs H Q q=>by
 obtain⟨B,F,z,kf,rs,R,h1,h2⟩:=q;have fh:=kf.fh;refine#[B,F,z,kf,rs,_,h1,λds vs F1 H1 g1 hx rx=>?_];have hl:=rx.length;refine#[sz (by rw[hl];exact hx.1),λp hp=>?_];exact h2 _ _ _ _ (g1.trans (Grow.new g1.fh hp _)) hx.2 (rep_tupS.mpr #[p,vs,rfl,aD,rx.mono (aO (g1.fh.free hp) _)])⟩
def aN[Jx](h:WDA X es t):WDE X (.List es pos) (dLst t):=⟨have h:=h.out;(iX h).anti λs H Q q=>by
 obtain⟨B,F,z,kf,rs,R,h1,h2⟩:=q;have fh:=kf.fh;refine#[B,F,z,kf,rs,_,h1,λds vs F1 H1 g1 hx rx=>?_];have hl:=rx.length;refine#[sz (by rw[hl];exact hx.1),λp hp=>?_];exact h2 _ _ _ _ (g1.trans (Grow.new g1.fh hp _)) hx.2 (rep_lst.mpr #[p,vs,rfl,aD,rx.mono (aO (g1.fh.free hp) _)])⟩
abbrev SpD:=List D->(D->Prop)->Prop
def lSp(K:Ef)(S:SpD):Sp:=λvs H Q _=>∃F ds,Same F H/\Reps K F ds vs/\∃R:D->Prop,S ds R/\∀d v F' H',Grow F H F' H'->R d->Rep K F' d v->Q v H'
def wS(S:SpD)(t:TDA):TD:=λz R=>t z λds=>S ds R
abbrev CalD(P:PZ)(w:P2)(K:Ef)(mg:E_->Option KB)(base:P4)(n:Nat)(x:E_)(ps:List E_)(S:SpD):Prop:=Cal P w K mg base n x ps (lSp K S)
variable{p:Qa}
def ar[Jx]{n m:Nat}{ps:List E_}{S:SpD}(C:CalD X.prog X.w X.K X.mg X.base n x ps S)(hr:Room m X.A)(ha:WDA X (e::es) t)(hg:autoParam (Gl X x) zA0)(hn:autoParam (n<=m) zA1)(e8:autoParam (zND x) zA1)
  (he:autoParam (zSE X e es) zA0) (c_:autoParam (zPL X pos es) zA0):WDE X (.Call (.Name x p) (e::es) [] pos) (wS S t):=⟨have ha:=ha.out;(wA C hr ha hg hn e8 he c_).anti λs H Q h=>by
 obtain⟨B,F,z,kf,rs,R,h1,h2⟩:=h;have fh:=kf.fh;refine#[B,F,z,kf,rs,_,h1,λds vs F1 H1 g1 hx rx=>?_];exact#[F1,ds,g1.fh,by rw[E4];exact rx,R,hx,λd v F' H' g=>h2 d v F' H' (g1.trans g)]⟩
abbrev RDn:=List D->(D->Prop)->Prop
def bY(K:Ef)(r:List V->Hp->VK->Prop)(rd:RDn):Prop:=∀ds vs F H R Q,Same F H->rd ds R->Reps K F ds vs->(∀d w F' H',Grow F H F' H'->R d->Rep K F' d w->Q w H')->r vs H Q
def dCB(r:RDn)(t:TDA):TD:=λz R=>t z λds=>r ds R
def fY[Jx]{id:String}{r:List V->Hp->VK->Prop}{rd:RDn}(hc:bu X (.builtin id) r)(L:bY X.K r rd)(hm:X.mg x=p7)(hv:Qd x=be (.builtin id))(ha:DA X (e::es) t)(hg:autoParam (Gl X x) zA0)(hn:autoParam (x≠"__name__") zA1)(e8:autoParam (zND x) zA1)
  (he:autoParam (zSE X e es) zA0) (c_:autoParam (zPL X pos es) zA0):DE X (.Call (.Name x p) (e::es) [] pos) (dCB rd t):=(fc hc hg hm hv ha hn e8 he c_).anti λs H Q h=>by
 obtain⟨B,F,z,kf,rs,R,h1,h2⟩:=h;have fh:=kf.fh;refine#[B,F,z,kf,rs,_,h1,λds vs F1 H1 g1 hx rx=>?_];exact L ds vs F1 H1 R Q g1.fh hx rx λd w F' H' g=>h2 d w F' H' (g1.trans g)
def jj:RDn:=λds R=>kd1 ds λx=>match x with
 |.tup xs=>R (.int xs.length)
 |.lst xs=>R (.int xs.length)
 |.rol xs=>R (.int xs.length)
 |.str x=>x.length<=1000000/\R (.int x.length)
 |_=>False
def qi:bY K (λxs H Q=>∃x n,xs=[x]/\LenV K x H n/\Q (.int n) H) jj:=by
 intro ds vs F H R Q fh h rx q;replace h:=kd1.of h;obtain⟨x,rfl,h⟩:=h;obtain⟨v,r,rfl,h1,h2⟩:=reps_cons.mp rx;rw[reps_nil.mp h2];cases x with
 |tup xs=>
  obtain⟨a,us,rfl,hq,rs⟩:=rep_tup_mp h1;exact#[.ref a,us.length,rfl,.inr #[us,fh.tup hq,rfl],q _ _ F H (Grow.refl fh) h (rep_int.mpr (by rw[rs.length]))]
 |lst xs=>
  obtain⟨a,us,rfl,hq,rs⟩:=rep_lst.mp h1;exact#[.ref a,us.length,rfl,.inl #[us,fh.seq (SqL.of hq),rfl],q _ _ F H (Grow.refl fh) h (rep_int.mpr (by rw[rs.length]))]
 |rol xs=>
  obtain⟨a,us,rfl,hq,rs⟩:=rep_rol.mp h1;exact#[.ref a,us.length,rfl,.inl #[us,fh.seq hq,rfl],q _ _ F H (Grow.refl fh) h (rep_int.mpr (by rw[rs.length]))]
 |str x=>
  rw[rep_str.mp h1];exact#[.str _,_,rfl,#[Eo h.1 Ik,rfl],q _ _ F H (Grow.refl fh) h.2 (rep_int.mpr rfl)]
 |_=>exact False.elim h
def cy[Jx](hm:X.mg "len"=p7)(ha:WDA X [e] t)(hg:autoParam (Gl X "len") zA0)(he:autoParam (zSE X e []) zA0):WDE X (.Call (.Name "len" p) [e] [] pos) (dCB jj t):=#[have ha:=ha.out;fY iV qi hm PySem.boot_len ha hg Ik Ik he]
def qj:RDn:=λds R=>kd1 ds λx=>kdI x λi=>R (.int (if i<0 then -i else i))
def wT:bY K (λxs H Q=>∃i,xs=[.int i]/\Q (.int (if i<0 then -i else i)) H) qj:=by
 intro ds vs F H R Q fh h rx q;replace h:=kd1.of h;obtain⟨x,rfl,h⟩:=h;replace h:=kdI.of h;obtain⟨i,rfl,h⟩:=h;obtain⟨v,r,rfl,h1,h2⟩:=reps_cons.mp rx;rw[reps_nil.mp h2,rep_int.mp h1];exact#[_,rfl,q _ _ F H (Grow.refl fh) h (rep_int.mpr rfl)]
def dS[Jx](hm:X.mg "abs"=p7)(ha:WDA X [e] t)(hg:autoParam (Gl X "abs") zA0)(he:autoParam (zSE X e []) zA0):WDE X (.Call (.Name "abs" p) [e] [] pos) (dCB qj t):=#[have ha:=ha.out;fY vj wT hm PyProof.Rows.boot_abs ha hg Ik Ik he]
end
section
variable {X:Cx}{a b c e:PV}{ta tb tc te:TD}{pos:Qa}
def dTst(t:TD):TDT:=λz R=>t z λx=>match x with|.bl k=>R k|_=>False
def cL[Jx]{op:Rk}{r:R2}{rd:RD2}(ho:OpR X (P' op) r)(L:aK X.K r rd)(ha:DE X a ta)(hb:DE X b tb)(hm:Qo op b=false):DT X (.Compare a [op] [b] pos) (dTst (dOp rd ta tb)):=(oX ho ha hb hm).anti λs H Q q=>by
 obtain⟨B,F,z,kf,rs,R,h1,h2⟩:=q;have fh:=kf.fh;refine#[B,F,z,kf,rs,_,h1,λx u F1 H1 g1 hx rx=>?_];refine#[B,F1,z,kf.grow g1,rs.grow g1,_,hx,λy v F2 H2 g2 hy ry=>?_];refine L x y u v F2 H2 _ _ g2.fh hy (rx.mono g2.ff) ry λd w F' H' g3 hd rd=>?_;split at hd
 .exact#[_,rep_bl.mp rd,h2 _ F' H' (g1.trans (g2.trans g3)) hd]
 .exact hd.elim
def dU[Jx](ha:WDE X a ta)(hb:WDE X b tb):WDT X (.Compare a [.Lt] [b] pos) (dTst (dOp rdLt ta tb)):=#[have ha:=ha.out;have hb:=hb.out;cL fO fX ha hb (nomark _)]
def wU[Jx](ha:WDE X a ta)(hb:WDE X b tb):WDT X (.Compare a [.LtE] [b] pos) (dTst (dOp rdLe ta tb)):=#[have ha:=ha.out;have hb:=hb.out;cL oS qc ha hb (nomark _)]
def qk[Jx](ha:WDE X a ta)(hb:WDE X b tb):WDT X (.Compare a [.Gt] [b] pos) (dTst (dOp rdGt ta tb)):=#[have ha:=ha.out;have hb:=hb.out;cL oU qd ha hb (nomark _)]
def ql[Jx](ha:WDE X a ta)(hb:WDE X b tb):WDT X (.Compare a [.GtE] [b] pos) (dTst (dOp rdGe ta tb)):=#[have ha:=ha.out;have hb:=hb.out;cL vb wO ha hb (nomark _)]
def bn[Jx](ha:WDE X a ta)(hb:WDE X b tb):WDT X (.Compare a [.Eq] [b] pos) (dTst (dOp rdEq ta tb)):=#[have ha:=ha.out;have hb:=hb.out;cL iU ji ha hb (nomark _)]
def bZ[Jx](ha:WDE X a ta)(hb:WDE X b tb):WDT X (.Compare a [.NotEq] [b] pos) (dTst (dOp rdNe ta tb)):=#[have ha:=ha.out;have hb:=hb.out;cL va wP ha hb (nomark _)]
def qm[Jx](ha:WDE X a ta)(hb:WDE X b tb):WDT X (.Compare a [.Is] [b] pos) (dTst (dOp (rdIs id) ta tb)):=#[have ha:=ha.out;have hb:=hb.out;cL oV qf ha hb (nomark _)]
def dTru(t:TD):TDT:=λz R=>t z λx=>match x with
 |.non=>R false
 |.bl k=>R k
 |.int i=>R (i !=0)
 |.str y=>y.length<=1000/\R ((y.length:Int) !=0)
 |.tup xs=>R (!xs.isEmpty)
 |.lst xs=>R (!xs.isEmpty)
 |.rol xs=>R (!xs.isEmpty)
 |_=>False
variable{K:Ef}
def Reps.isEmpty{H:Hp}{ds:List D}{vs:List V}(r:Reps K H ds vs):vs.isEmpty=ds.isEmpty:=by
 cases ds with
 |nil=>rw[reps_nil.mp r];rfl
 |cons d ds=>obtain⟨v,r',rfl,_⟩:=reps_cons.mp r;rfl
def br[Jx](ha:WDE X a ta)(he:autoParam (∀g9,isTrue a X.env g9=(do let v <-g9;QV a.pos;Qu [v] (truthy v))) zA2):WDT X a (dTru ta):=⟨have ha:=ha.out;(vh ha he).anti λs H Q q=>by
 obtain⟨B,F,z,kf,rs,R,h1,h2⟩:=q;have fh:=kf.fh;refine#[B,F,z,kf,rs,_,h1,λx u F1 H1 g1 hx rx=>?_];split at hx
 .rw[rep_non.mp rx];exact#[false,rfl,h2 _ F1 H1 g1 hx]
 .rw[rep_bl.mp rx];exact#[_,rfl,h2 _ F1 H1 g1 hx]
 .rw[rep_int.mp rx];exact#[_,rfl,h2 _ F1 H1 g1 hx]
 .rw[rep_str.mp rx];exact#[_,#[sz hx.1,rfl],h2 _ F1 H1 g1 hx.2]
 .obtain⟨p,vs,rfl,hq,rr⟩:=rep_tup_mp rx;exact#[_,.inr (.inl #[vs,g1.fh.tup hq,by rw[rr.isEmpty]]),h2 _ F1 H1 g1 hx]
 .obtain⟨p,vs,rfl,hq,rr⟩:=rep_lst.mp rx;exact#[_,.inl #[vs,g1.fh.seq (SqL.of hq),by rw[rr.isEmpty]],h2 _ F1 H1 g1 hx]
 .obtain⟨p,vs,rfl,hq,rr⟩:=rep_rol.mp rx;exact#[_,.inl #[vs,g1.fh.seq hq,by rw[rr.isEmpty]],h2 _ F1 H1 g1 hx]
 .exact hx.elim⟩
variable {tA B_:TDT}{b7:List PV}
def dAnd(t u:TDT):TDT:=λz R=>t z λc=>if c=true then u z R else R false
def dOr(t u:TDT):TDT:=λz R=>t z λc=>if c=true then R true else u z R
def dNot(t:TDT):TDT:=λz R=>t z λc=>R (!c)
def wV[Jx](ha:WDT X a tA):WDW X (.BoolOp .And [a] pos) tA:=#[have ha:=ha.out;ou ha]
def cz[Jx](ha:WDT X a tA):WDW X (.BoolOp .Or [a] pos) tA:=#[have ha:=ha.out;ow ha]
def wW[Jx](ha:WDT X a tA)(hb:WDW X (.BoolOp .And (b::b7) pos) B_):WDW X (.BoolOp .And (a::b::b7) pos) (dAnd tA B_):=⟨have ha:=ha.out;have hb:=hb.out;(oy ha hb).anti λs H Q q=>by
 obtain⟨B,F,z,kf,rs,R,h1,h2⟩:=q;have fh:=kf.fh;refine#[B,F,z,kf,rs,_,h1,λk F1 H1 g1 hx=>?_];cases k with
 |true=>exact#[B,F1,z,kf.grow g1,rs.grow g1,R,hx,λb F' H' g=>h2 b F' H' (g1.trans g)]
 |false=>exact h2 _ F1 H1 g1 hx⟩
def bT[Jx](ha:WDT X a tA)(hb:WDW X (.BoolOp .Or (b::b7) pos) B_):WDW X (.BoolOp .Or (a::b::b7) pos) (dOr tA B_):=⟨have ha:=ha.out;have hb:=hb.out;(oz ha hb).anti λs H Q q=>by
 obtain⟨B,F,z,kf,rs,R,h1,h2⟩:=q;have fh:=kf.fh;refine#[B,F,z,kf,rs,_,h1,λk F1 H1 g1 hx=>?_];cases k with
 |false=>exact#[B,F1,z,kf.grow g1,rs.grow g1,R,hx,λb F' H' g=>h2 b F' H' (g1.trans g)]
 |true=>exact h2 _ F1 H1 g1 hx⟩
def cn[Jx](h:WDW X a tA):WDT X a tA:=#[have h:=h.out;PW.pt h]
def dW[Jx](ha:WDT X a tA):WDT X (.UnaryOp .Not a pos) (dNot tA):=⟨have ha:=ha.out;(tN ha).anti λs H Q q=>by
 obtain⟨B,F,z,kf,rs,R,h1,h2⟩:=q;have fh:=kf.fh;exact#[B,F,z,kf,rs,_,h1,λk F1 H1 g1 hx=>h2 _ F1 H1 g1 hx]⟩
def wX(ta tb:TD):TD:=λz R=>ta z λx=>match x with|.bl k=>if k=true then tb z R else R (.bl false)|_=>False
def dOrV(ta tb:TD):TD:=λz R=>ta z λx=>match x with|.bl k=>if k=true then R (.bl true)else tb z R|_=>False
def wY(ta:TD):TD:=λz R=>ta z λx=>match x with|.bl k=>R (.bl (!k))|_=>False
def dg[Jx]{op}(h:WDE X a ta):WDE X (.BoolOp op [a] pos) ta:=#[have h:=h.out;tR h]
def dh[Jx](ha:WDE X a ta)(hb:WDE X (.BoolOp .And (b::b7) pos) tb):WDE X (.BoolOp .And (a::b::b7) pos) (wX ta tb):=⟨have ha:=ha.out;have hb:=hb.out;(tS ha hb).anti λs H Q q=>by
 obtain⟨B,F,z,kf,rs,R,h1,h2⟩:=q;have fh:=kf.fh;refine#[B,F,z,kf,rs,_,h1,λx u F1 H1 g1 hx rx=>?_];split at hx
 .rename_i k;refine#[k,rep_bl.mp rx,?_];cases k with
  |true=>exact#[B,F1,z,kf.grow g1,rs.grow g1,R,hx,λd v F' H' g=>h2 d v F' H' (g1.trans g)]
  |false=>exact h2 _ _ F1 H1 g1 hx (rep_bl.mpr rfl)
 .exact hx.elim⟩
def wZ[Jx](ha:WDE X a ta)(hb:WDE X (.BoolOp .Or (b::b7) pos) tb):WDE X (.BoolOp .Or (a::b::b7) pos) (dOrV ta tb):=⟨have ha:=ha.out;have hb:=hb.out;(tT ha hb).anti λs H Q q=>by
 obtain⟨B,F,z,kf,rs,R,h1,h2⟩:=q;have fh:=kf.fh;refine#[B,F,z,kf,rs,_,h1,λx u F1 H1 g1 hx rx=>?_];split at hx
 .rename_i k;refine#[k,rep_bl.mp rx,?_];cases k with
  |false=>exact#[B,F1,z,kf.grow g1,rs.grow g1,R,hx,λd v F' H' g=>h2 d v F' H' (g1.trans g)]
  |true=>exact h2 _ _ F1 H1 g1 hx (rep_bl.mpr rfl)
 .exact hx.elim⟩
def qo[Jx](ha:WDE X a ta):WDE X (.UnaryOp .Not a pos) (wY ta):=⟨have ha:=ha.out;(tU ha).anti λs H Q q=>by
 obtain⟨B,F,z,kf,rs,R,h1,h2⟩:=q;have fh:=kf.fh;refine#[B,F,z,kf,rs,_,h1,λx u F1 H1 g1 hx rx=>?_];split at hx
 .exact#[_,rep_bl.mp rx,h2 _ _ F1 H1 g1 hx (rep_bl.mpr rfl)]
 .exact hx.elim⟩
def dIf(t:TDT)(ta tb:TD):TD:=λz R=>t z λc=>if c=true then ta z R else tb z R
def xa[Jx](hc:WDT X c tA)(ha:WDE X a ta)(hb:WDE X b tb):WDE X (.IfExp c a b pos) (dIf tA ta tb):=⟨have hc:=hc.out;have ha:=ha.out;have hb:=hb.out;(oA hc ha hb).anti λs H Q q=>by
 obtain⟨B,F,z,kf,rs,R,h1,h2⟩:=q;have fh:=kf.fh;refine#[B,F,z,kf,rs,_,h1,λk F1 H1 g1 hx=>?_];cases k with
 |false=>exact#[B,F1,z,kf.grow g1,rs.grow g1,R,hx,λd v F' H' g=>h2 d v F' H' (g1.trans g)]
 |true=>exact#[B,F1,z,kf.grow g1,rs.grow g1,R,hx,λd v F' H' g=>h2 d v F' H' (g1.trans g)]⟩
def tyD:D->String
 |.non=>"NoneType"|.bl _=>"bool"|.int _=>"int"|.str _=>"str"|.tup _=>"tuple"|.lst _=>"list"|.rol _=>"list"|.obj _ _=>"object"|.exc _ _=>"object"|.own _=>"list"|.ptr _=>"object"|.dti _=>"dict"
def dm(t:String)(x:D):Bool:=tyD x==t||(tyD x=="bool" && t=="int")
def TyQ(K:Ef)(H:Hp)(x:V)(t:String):Prop:=TyOf K H x (.type t)\/(t="tuple"/\∃a xs,x=.ref a/\SqT K H a xs)\/(t="list"/\∃a xs,x=.ref a/\SqL K H a xs)
def xb:bu X (.builtin "isinstance") (λxs H Q=>∃x t c k,xs=[x,.ty c]/\TyQ X.K H x t/\kitOne X.K (.type t) (.type c)=be k/\Q (.bl k) H):=by
 intro pins s σ H xs us Q I r h;obtain⟨x,t,c,k,rfl,ty,e,q⟩:=h;obtain⟨u,u',rfl,rx,rc⟩:=dO r;cases(show u'=Value.type c from rc);rcases ty with ty|⟨rfl,a,ys,rfl,hq⟩|⟨rfl,a,ys,rfl,hq⟩
 .exact vA I rx ty e λtk=>#[.bl k,H,I.tok _,rfl,q]
 .cases(show u=Value.ref a from rx);obtain⟨its,_,⟨o,h1,h2,_⟩,_⟩:=I.tuple hq;exact kia_one kitx_tuple I.kIn #[o,h1,h2] e (λz=>nomatch z) λtk=>#[.bl k,H,I.tok _,rfl,q]
 .cases(show u=Value.ref a from rx);obtain⟨its,_,pl,_⟩:=I.list hq;obtain⟨o,n,h1,h2,_⟩:=pl;exact kia_one kitx_list I.kIn #[o,h1,h2] e (λz=>nomatch z) λtk=>#[.bl k,H,I.tok _,rfl,q]
def du:D->Bool|.obj _ _=>false|.exc _ _=>false|.ptr _=>false|.dti _=>false|_=>true
def xc{F H:Hp}{x:D}{u:V}(fh:Same F H)(r:Rep K F x u)(no:du x=true):TyQ K H u (tyD x):=by
 cases x with
 |non=>rw[rep_non.mp r];exact .inl .non
 |bl b=>rw[rep_bl.mp r];exact .inl (.bl b)
 |int b=>rw[rep_int.mp r];exact .inl (.int b)
 |str b=>rw[rep_str.mp r];exact .inl (.str b)
 |tup b=>obtain⟨a,vs,rfl,hq,_⟩:=rep_tup_mp r;exact .inr (.inl #[rfl,a,vs,rfl,fh.tup hq])
 |lst b=>obtain⟨a,vs,rfl,hq,_⟩:=rep_lst.mp r;exact .inr (.inr #[rfl,a,vs,rfl,fh.seq (SqL.of hq)])
 |rol b=>obtain⟨a,vs,rfl,hq,_⟩:=rep_rol.mp r;exact .inr (.inr #[rfl,a,vs,rfl,fh.seq hq])
 |obj C b=>cases no
 |exc C b=>cases no
 |ptr b=>cases no
 |dti b=>cases no
 |own b=>exact absurd r rep_own
def xf(t:String):D->(D->Prop)->Prop:=λx R=>match x with|.obj _ _=>False|.exc _ _=>False|.ptr _=>False|.dti _=>False|x=>R (.bl (dm t x))
def fo[Jx]{p p2:Qa}{y:E_}{t:String}(hm:X.mg "isinstance"=p7)(K':X.mg y=p7)(ha:WDE X a ta)(hv:Qd y=be (.type t))
  (hk:∀x:D,du x=true->kitOne X.K (.type (tyD x)) (.type t)=be (dm t x)) (hg:autoParam (Gl X "isinstance") zA0) (JA:autoParam (Gl X y) zA0) (hn:autoParam (y≠"__name__") zA1) (e8:autoParam (zND y) zA1)
  (j3:autoParam (P1 [a,.Name y p2] X.env=(false,P7 a X.env)::P1 [.Name y p2] X.env) zA0) (i_:autoParam (P1 [.Name y p2] X.env=(false,P7 (.Name y p2) X.env)::P1 [] X.env) zA0) (c_:autoParam ((QM pos (P1 [.Name y p2] X.env)).any (·.1)=false) zA0):WDE X (.Call (.Name "isinstance" p) [a,.Name y p2] [] pos) (dUn (xf t) ta):=⟨have ha:=ha.out;(fc xb hg hm PyProof.Rows.boot_isinstance (bj ha (bj (ot (v:=.ty t) JA K' hv rfl hn e8) pa_nil i_) j3) Ik Ik j3 c_).anti λs H Q q=>by
 obtain⟨B,F,z,kf,rs,R,h1,h2⟩:=q;have fh:=kf.fh;refine#[B,F,z,kf,rs,_,h1,λx u F1 H1 g1 hx rx=>?_];have no:du x=true:=by
  cases x with
  |obj C b=>exact False.elim hx
  |exc C b=>exact False.elim hx
  |ptr b=>exact False.elim hx
  |dti b=>exact False.elim hx
  |_=>rfl
 have ge:R (.bl (dm t x)):=by
  cases x with
  |obj C b=>exact False.elim hx
  |exc C b=>exact False.elim hx
  |ptr b=>exact False.elim hx
  |dti b=>exact False.elim hx
  |_=>exact hx
 exact#[u,tyD x,t,_,rfl,xc g1.fh rx no,hk x no,h2 _ _ F1 H1 g1 ge (rep_bl.mpr rfl)]⟩
def qp:∀x:D,du x=true->kitOne K (.type (tyD x)) (.type "int")=be (dm "int" x):=by intro x no;cases x<;>first|rfl|cases no
def kit_bool:∀x:D,du x=true->kitOne K (.type (tyD x)) (.type "bool")=be (dm "bool" x):=by intro x no;cases x<;>first|rfl|cases no
def kit_list:∀x:D,du x=true->kitOne K (.type (tyD x)) (.type "list")=be (dm "list" x):=by intro x no;cases x<;>first|rfl|cases no
def kit_str:∀x:D,du x=true->kitOne K (.type (tyD x)) (.type "str")=be (dm "str" x):=by intro x no;cases x<;>first|rfl|cases no
def toV:D->Option V
 |.non=>be .non|.bl b=>be (.bl b)|.int i=>be (.int i)|.str x=>be (.str x)|_=>p7
def aV(d:D):Bool:=(toV d).isSome
def eqF:D->D->Bool
 |.non,.non=>true
 |.bl a,.bl b=>a==b
 |.bl a,.int b=>(if a then 1 else 0)==b
 |.int a,.bl b=>a==(if b then 1 else 0)
 |.int a,.int b=>a==b
 |.str a,.str b=>a==b
 |_,_=>false
def eqFs:List D->List D->Bool
 |[],[]=>true
 |x::xs,y::ys=>eqF x y&&eqFs xs ys
 |_,_=>false
end
section
variable {X:Cx}{a b:PV}{ta tb:TD}{pos:Qa}
def eqVs:List V->List V->Bool
 |[],[]=>true
 |x::xs,y::ys=>eqV x y&&eqVs xs ys
 |_,_=>false
def jk:∀(xs ys:List V),((Ej (min xs.length ys.length)).all (λj=>eqV (xs.getD j .non) (ys.getD j .non))&&xs.length==ys.length)=eqVs xs ys
 |[],[]=>rfl
 |[],_::_=>by simp[eqVs]
 |_::_,[]=>by simp[eqVs]
 |x::xs,y::ys=>by
  have ih:=jk xs ys;rw[eqVs,<-ih];have e:min (x::xs).length (y::ys).length=min xs.length ys.length+1:=by simp only[Ex];lia
  rw[e,List.range_succ_eq_map,EY,List.all_map];have e2:((x::xs).length==(y::ys).length)=(xs.length==ys.length):=Iq
  rw[e2,Bool.and_assoc];rfl
variable{xs:List V}
def Vals.getD{us:List KB}{j:Nat}(r:Vals xs us)(h:j<us.length):RelV (xs.getD j .non) us[j]:=by
 have hl:=L2.Vals.length r;obtain⟨u,q1,q2⟩:=L2.Vals.get (i:=j) (x:=xs.getD j .non) r (by rw[EA Ig];simp[EZ,EA (show j<xs.length by lia)]);rw[EA h]at q1;cases q1;exact q2
def flat_getD{j:Nat}(h:xs.all bc=true):bc (xs.getD j .non)=true:=by
 by_cases hj:j<xs.length
 .have q:=Fc.mp h xs[j] (EQ hj);simpa[EZ,EA hj]using q
 .simp[EZ,E5 (FY hj),bc]
def rEqT(K:Ef):R2:=λx y H Q=>∃a b xs ys,x=.ref a/\y=.ref b/\SqT K H a xs/\SqT K H b ys/\xs.all bc=true/\ys.all bc=true/\Q (.bl (eqVs xs ys)) H
def xg(hu:X.A.units+1<QX):OpR X (P' .Eq) (rEqT X.K):=by
 intro pins s σ H x y v u Q I rx ry h;obtain⟨a,b,xs,ys,rfl,rfl,ha,hb,fx,fy,q⟩:=h;cases rx;cases ry;obtain⟨its,r1,p1,_⟩:=I.tuple ha;obtain⟨v8,r2,p2,_⟩:=I.tuple hb;refine SeqAt.eq_tupleAt (e:=λj=>eqV (xs.getD j .non) (ys.getD j .non)) p1 p2 Ig (λj h1 h2=>?_) #[.bl (eqVs xs ys),H,I,?_,q]
 .rw[Er]at h1 h2;simp only[GS];exact eqAt_V (Vals.getD r1 h1) (Vals.getD r2 h2) (flat_getD fx) (flat_getD fy)
 .rw[<-jk,Er,Er,<-L2.Vals.length r1,<-L2.Vals.length r2];rfl
variable{K:Ef}
def fZ{H:Hp}{x y:D}{u v:V}(rx:Rep K H x u)(ry:Rep K H y v)(fx:aV x=true)(fy:aV y=true):eqV u v=eqF x y:=by
 cases x with
 |tup _=>cases fx
 |lst _=>cases fx
 |rol _=>cases fx
 |obj _ _=>cases fx
 |exc _ _=>cases fx
 |ptr _=>cases fx
 |dti _=>cases fx
 |own _=>cases fx
 |non=>rw[rep_non.mp rx];cases y with
  |tup _=>cases fy
  |lst _=>cases fy
  |rol _=>cases fy
  |obj _ _=>cases fy
  |exc _ _=>cases fy
  |ptr _=>cases fy
  |dti _=>cases fy
  |own _=>cases fy
  |non=>rw[rep_non.mp ry];rfl
  |bl _=>rw[rep_bl.mp ry];rfl
  |int _=>rw[rep_int.mp ry];rfl
  |str _=>rw[rep_str.mp ry];rfl
 |bl _=>rw[rep_bl.mp rx];cases y with
  |tup _=>cases fy
  |lst _=>cases fy
  |rol _=>cases fy
  |obj _ _=>cases fy
  |exc _ _=>cases fy
  |ptr _=>cases fy
  |dti _=>cases fy
  |own _=>cases fy
  |non=>rw[rep_non.mp ry];rfl
  |bl _=>rw[rep_bl.mp ry];rfl
  |int _=>rw[rep_int.mp ry];rfl
  |str _=>rw[rep_str.mp ry];rfl
 |int _=>rw[rep_int.mp rx];cases y with
  |tup _=>cases fy
  |lst _=>cases fy
  |rol _=>cases fy
  |obj _ _=>cases fy
  |exc _ _=>cases fy
  |ptr _=>cases fy
  |dti _=>cases fy
  |own _=>cases fy
  |non=>rw[rep_non.mp ry];rfl
  |bl _=>rw[rep_bl.mp ry];rfl
  |int _=>rw[rep_int.mp ry];rfl
  |str _=>rw[rep_str.mp ry];rfl
 |str _=>rw[rep_str.mp rx];cases y with
  |tup _=>cases fy
  |lst _=>cases fy
  |rol _=>cases fy
  |obj _ _=>cases fy
  |exc _ _=>cases fy
  |ptr _=>cases fy
  |dti _=>cases fy
  |own _=>cases fy
  |non=>rw[rep_non.mp ry];rfl
  |bl _=>rw[rep_bl.mp ry];rfl
  |int _=>rw[rep_int.mp ry];rfl
  |str _=>rw[rep_str.mp ry];rfl
def dX{H:Hp}{x:D}{u:V}(rx:Rep K H x u)(fx:aV x=true):bc u=true:=by
 cases x with
 |tup _=>cases fx
 |lst _=>cases fx
 |rol _=>cases fx
 |obj _ _=>cases fx
 |exc _ _=>cases fx
 |ptr _=>cases fx
 |dti _=>cases fx
 |own _=>cases fx
 |non=>rw[rep_non.mp rx];rfl
 |bl _=>rw[rep_bl.mp rx];rfl
 |int _=>rw[rep_int.mp rx];rfl
 |str _=>rw[rep_str.mp rx];rfl
def cq{K:Ef}{H:Hp}:∀{xs:List D} {us:List V},Reps K H xs us->xs.all aV=true->us.all bc=true
 |[],us,r,_=>by rw[reps_nil.mp r];rfl
 |x::xs,us,r,f=>by
  obtain⟨v,vr,rfl,r1,r2⟩:=reps_cons.mp r;rw[EY,EH]at f ⊢;exact#[dX r1 f.1,cq r2 f.2]
def jl{K:Ef}{H:Hp}:∀{xs ys:List D} {us vs:List V},Reps K H xs us->Reps K H ys vs->xs.all aV=true->ys.all aV=true->eqVs us vs=eqFs xs ys
 |[],[],us,vs,r1,r2,_,_=>by rw[reps_nil.mp r1,reps_nil.mp r2];rfl
 |[],y::ys,us,vs,r1,r2,_,_=>by
  obtain⟨v,vr,rfl,_,_⟩:=reps_cons.mp r2;rw[reps_nil.mp r1];rfl
 |x::xs,[],us,vs,r1,r2,_,_=>by
  obtain⟨v,vr,rfl,_,_⟩:=reps_cons.mp r1;rw[reps_nil.mp r2];rfl
 |x::xs,y::ys,us,vs,r1,r2,f1,f2=>by
  obtain⟨u,ur,rfl,a1,a2⟩:=reps_cons.mp r1;obtain⟨v,vr,rfl,b1,b2⟩:=reps_cons.mp r2;rw[EY,EH]at f1 f2;rw[eqVs,eqFs,fZ a1 b1 f1.1 f2.1,jl a2 b2 f1.2 f2.2]
def qq:RD2:=λx y R=>kdT x λxs=>kdT y λys=>(xs.all aV=true/\ys.all aV=true)/\R (.bl (eqFs xs ys))
def xh:aK K (rEqT K) qq:=by
 intro x y u v F H R Q fh h rx ry q;obtain⟨xs,rfl,h2⟩:=kdT.of h;obtain⟨ys,rfl,⟨f1,f2⟩,h3⟩:=kdT.of h2;obtain⟨a,us,rfl,hq,rr⟩:=rep_tup_mp rx;obtain⟨b,vs,rfl,p_,t7⟩:=rep_tup_mp ry;exact#[a,b,us,vs,rfl,rfl,fh.tup hq,fh.tup p_,cq rr f1,cq t7 f2,q _ _ F H (Grow.refl fh) h3 (rep_bl.mpr (by rw[jl rr t7 f1 f2]))]
def qr[Jx](hu:X.A.units+1<QX)(ha:WDE X a ta)(hb:WDE X b tb):WDE X (.Compare a [.Eq] [b] pos) (dOp qq ta tb):=#[have ha:=ha.out;have hb:=hb.out;fW (xg hu) xh ha hb (nomark _)]
end
section
variable {X:Cx}{a b c e:PV}{ta tb tc te:TD}{pos:Qa}{st:P0}{b7:List P0}{t u:TSD}
def xi:TSD:=λE z=>E.nx z
def dSeq(t u:TSD):TSD:=λE z=>t {E with nx:=u E} z
def aQ[Jx]:WDSs X [] xi:=⟨pss_nil.anti λE s H q=>by
 obtain⟨B,F0,F,z,k,rs,ED,h,e⟩:=q;exact e.nx z s F H k h rs⟩
def ah[Jx](h1:WDS X st t)(h2:WDSs X b7 u):WDSs X (st::b7) (dSeq t u):=⟨have h1:=h1.out;have h2:=h2.out;(iO h1 h2).anti λE s H q=>by
 obtain⟨B,F0,F,z,k,rs,ED,h,e⟩:=q;exact#[B,F0,F,z,k,rs,{ED with nx:=u ED},h,#[λz' s' F' H' k' hz r'=>#[B,F0,F',z',k',r',ED,hz,e],e.rt,e.bk,e.ct]]⟩
def am[Jx](h1:WDS X st t):WDSs X [st] t:=#[have h1:=h1.out;oB h1]
def dFrz(i:Nat)(t:TSD):TSD:=λE z=>match z[i]? with|some (be (.own ds))=>t E (z.set i (be (.lst ds)))|_=>False
def dY[Jx](i:Nat){JB:List P0}(h:WDSs X JB t):WDSs X JB (dFrz i t):=⟨have h:=h.out;PSs.anti h λE s H q=>by
 obtain⟨B,F0,F,z,k,rs,ED,h,e⟩:=q;unfold dFrz at h;split at h
 .rename_i ds ez;obtain⟨F',k',r'⟩:=rs.freeze k ez;exact#[B,F0,F',_,k',r',ED,h,e]
 .exact h.elim⟩
def dRet(te:TD):TSD:=λE z=>te z E.rt
def ax[Jx](he:WDE X e te):WDS X (.Return (be e) pos) (dRet te):=⟨have he:=he.out;(oC he).anti λE s H q=>by
 obtain⟨B,F0,F,z,k,rs,ED,h,e⟩:=q;exact#[B,F,z,k.kf,rs,_,h,λd v F' H' g hd rd=>e.rt d v F' H' (k.grow g) hd rd]⟩
def xj(te:TD):TSD:=λE z=>te z λ_=>E.nx z
def qt[Jx](he:WDE X e te)(hs:autoParam (Qf e p7 pos.line X.env=pure false) zA0):WDS X (.Expr e pos) (xj te):=⟨have he:=he.out;(iP he hs).anti λE s H q=>by
 obtain⟨B,F0,F,z,k,rs,ED,h,e⟩:=q;exact#[B,F,z,k.kf,rs,_,h,λd v F' H' g hd rd=>e.nx z s F' H' (k.grow g) hd (rs.grow g)]⟩
def dIfS(c:TDT)(t u:TSD):TSD:=λE z=>c z λb=>if b=true then t E z else u E z
variable{l r:List P0}
def qu[Jx]{c:PV}{tc:TDT}(hc:DT X c tc)(ha:DSs X l t)(hb:DSs X r u):DS X (.If c l r pos) (dIfS tc t u):=(oE hc ha hb).anti λE s H q=>by
 obtain⟨B,F0,F,z,k,rs,ED,h,e⟩:=q;refine#[B,F,z,k.kf,rs,_,h,λb F1 H1 g hk=>?_];cases b with
 |true=>exact#[B,F0,F1,z,k.grow g,rs.grow g,ED,hk,e]
 |false=>exact#[B,F0,F1,z,k.grow g,rs.grow g,ED,hk,e]
def dIfJ(c:TDT)(t u:TSD):TSD:=λE z=>∃J:SD->Prop,(c z λb=>if b=true then t {E with nx:=J} z else u {E with nx:=J} z)/\∀z',J z'->E.nx z'
def cr[Jx]{c:PV}{tc:TDT}(hc:WDT X c tc)(ha:WDSs X l t)(hb:WDSs X r u):WDS X (.If c l r pos) (dIfJ tc t u):=⟨have hc:=hc.out;have ha:=ha.out;have hb:=hb.out;(qu hc ha hb).anti λE s H q=>by
 obtain⟨B,F0,F,z,k,rs,ED,⟨J,h,j⟩,e⟩:=q;exact#[B,F0,F,z,k,rs,{ED with nx:=J},h,#[λz' s' F' H' k' hz r'=>e.nx z' s' F' H' k' (j z' hz) r',e.rt,e.bk,e.ct]]⟩
def dSet(i:Nat)(te:TD):TSD:=λE z=>∃P:D->Prop,te z P/\∀d,P d->E.nx (z.set i (be d))
variable{x:E_}
def ai[Jx](i:Nat){d9:Qa}(hN:X.N.Nodup)(he:WDE X e te)(hi:autoParam (X.N[i]?=be x) zA0)(hx:autoParam (Loc X.env.scope x) zA4)(hs:autoParam (Qf e (be (.Name x d9)) pos.line X.env=pure false) zA0)
  (hf:autoParam (zFN X x) zA3):WDS X (.Assign [.Name x d9] e pos) (dSet i te):=⟨have he:=he.out;(iR hN hi hx he hs hf).anti λE s H q=>by
 obtain⟨B,F0,F,z,k,rs,ED,⟨P,h,j⟩,e⟩:=q;exact#[B,F,z,k.kf,rs,P,h,λd v F' H' g hd rd=>e.nx _ _ F' H' (k.grow g) (j d hd) ((rs.grow g).set rd)]⟩
def dNew(i:Nat)(ta:TDA):TSD:=λE z=>ta z λds=>ds.length<=1000/\E.nx (z.set i (be (.own ds)))
variable{es:List PV}
def gc[Jx](i:Nat){d9 p2:Qa}{ta:TDA}(hN:X.N.Nodup)(he:WDA X es ta)(hi:autoParam (X.N[i]?=be x) zA0)(hx:autoParam (Loc X.env.scope x) zA4)(hs:autoParam (Qf (.List es p2) (be (.Name x d9)) pos.line X.env=pure false) zA0)
  (hf:autoParam (zFN X x) zA3):WDS X (.Assign [.Name x d9] (.List es p2) pos) (dNew i ta):=⟨have he:=he.out;(iR hN hi hx (iX he) hs hf).anti λE s H q=>by
 obtain⟨B,F0,F,z,k,rs,ED,h,e⟩:=q;refine#[B,F,z,k.kf,rs,_,h,λds vs F1 H1 g hd rd=>?_];have hl:=rd.length;refine#[sz (by rw[hl];exact hd.1),λp hp=>?_];have k1:=k.grow g;have r1:=rs.grow g;have hB:B p=none:=k1.bh.free hp;have hF:F1 p=none:=k1.fh.free hp;refine e.nx _ _ F1 _ #[k1.bh.trans (aO hp _),k1.fh.trans (aO hp _),k1.f0,k1.out,k1.eb,k1.jf,k1.jo] hd.2 (r1.setOwn hB hF rd λj dj hj e1 e2=>?_);obtain⟨a,us,q1,q2,_⟩:=r1.own j dj e1;rw[e2]at q1;cases q1;rw[hp]at q2;cases q2⟩
def dApp(i:Nat)(te:TD):TSD:=λE z=>match z[i]? with|some (be (.own ds))=>(te z λd=>ds.length<=100000/\E.nx (z.set i (be (.own (ds++[d])))))|_=>False
def dZ{K:Ef}{F:Hp}{d:D}{v:V}(r:Rep K F d v):Reps K F [d] [v]:=reps_cons.mpr #[v,[],rfl,r,reps_nil.mpr rfl]
def gf[Jx](i:Nat){p1 c7 a_:Qa}(he:WDE X e te)(hN:autoParam (X.N[i]?=be x) zA0)(hv:autoParam (Vis X.env.scope x) zA5)(hd:autoParam (zND x) zA1)
  (i9:autoParam (zNC x) zA1) (j3:autoParam (zSE X e []) zA0)
  (b9:autoParam (P6 (.Name x p1) "append" X.env (P7 (.Name x p1) X.env)=P7 (.Name x p1) X.env) zA0)
  (d7:autoParam (zHF X a_ [e]) zA0)
  (c8:autoParam ((c7.endLine==a_.line)=true) zA0) (Hw:autoParam (Qf (.Call (.Attribute (.Name x p1) "append" c7) [e] [] a_) p7 pos.line X.env=pure false) zA0):WDS X (.Expr (.Call (.Attribute (.Name x p1) "append" c7) [e] [] a_) pos) (dApp i te):=⟨have he:=he.out;(iP (cH PySem.F.plainAttrs_list PySem.F.slot_list_append PySem.F.type_list_append fR (dN hN hv hd i9) (bj he pa_nil j3) b9 d7 c8 j3) Hw).anti λE s H q=>by
 obtain⟨B,F0,F,z,k,rs,ED,h,e⟩:=q;unfold dApp at h;split at h
 .rename_i ds ez;obtain⟨a,vs,q1,q2,q3,q4,q5⟩:=rs.own i ds ez;refine#[.ref a,q1,.inl #[rfl,vs,SqL.of q2],?_];refine#[B,F,z,k.kf,rs,_,h,λd v F1 H1 g hd rd=>?_];have k1:=k.grow g;have r1:=rs.grow g;have a1:H1 a=be (.lst vs):=g.hh a _ q2;have f1:F1 a=none:=g.out a q4 (by rw[q2];exact λz=>nomatch z);have hl:vs.length=ds.length:=q5.length;have hz:vs.length<sizeLine:=by
   have h1:ds.length<=100000:=hd.1;have h2:(100000:Nat)<sizeLine:=Ik
   lia
  refine#[a,vs,v,rfl,rfl,a1,hz,?_];have same:∀{G:Hp},G a=p7->Same G H1->Same G (upd H1 a (.lst (vs++[v]))):=λ{G} ga gs b o eb=>by
   have ne:b≠a:=λz=>by rw[z,ga]at eb;cases eb
   rw[au ne];exact gs b o eb
  have r2:=r1.setOwn (i:=i) (a:=a) (vs:=vs++[v]) (ds:=ds++[d]) q3 f1 ((q5.mono g.ff).append (dZ rd)) (λj dj hj e1 e2=>hj (rs.apart j i dj ds a e1 ez e2 q1));have es:s.set i (be (.ref a))=s:=by
   apply FH;intro n;by_cases hn:i=n
   .subst hn;rw[EU (Ev.mp q1).1,q1]
   .rw[Eu hn]
  rw[es]at r2;exact e.nx _ s F1 _ #[same q3 k1.bh,same f1 k1.fh,k1.f0,k1.out,k1.eb,k1.jf,k1.jo] hd.2 r2
 .exact h.elim⟩
def aT:List Nat->List D->SD->SD
 |i::is,d::ds,z=>aT is ds (z.set i (be d))
 |_,_,z=>z
def DGs(X:Cx)(ts:List PV)(is:List Nat):Prop:=∃u:TGs,PGs X ts u/\∀(ds:List D) (vs:List V) (z:SD) (s:L2.St) (B F H:Hp) (Q:L2.St->Hp->Prop),ds.length=is.length->Reps X.K F ds vs->RepS X.K B F H z s->(∀s',RepS X.K B F H (aT is ds z) s'->Q s' H)->u vs s H Q
def dv[Jx]:DGs X [] []:=⟨_,tZ,λds vs z s B F H Q hl r rs q=>by
 cases ds with
 |nil=>exact#[reps_nil.mp r,q s rs]
 |cons _ _=>cases hl⟩
variable{p:Qa}{is:List Nat}
def dg_cons[Jx](i:Nat)(hN:X.N.Nodup)(h2:DGs X es is)(hi:autoParam (X.N[i]?=be x) zA0)(hx:autoParam (Loc X.env.scope x) zA4)(hf:autoParam (zFN X x) zA3)
  (hs:autoParam ((P5 (.Name x p::es) X.env).map (·.2)=Qw (.Name x p) X.env::(P5 es X.env).map (·.2)) zA0):DGs X (.Name x p::es) (i::is):=by
 obtain⟨u,hu,k⟩:=h2;refine#[_,ub (eY hN hi hx hf) hu hs,λds vs z s B F H Q hl r rs q=>?_];cases ds with
 |nil=>cases hl
 |cons d ds=>
  obtain⟨v,vr,rfl,r1,r2⟩:=reps_cons.mp r;exact#[v,vr,rfl,k ds vr _ _ B F H Q (Nat.succ.inj hl) r2 (rs.set r1) q]
def xk(is:List Nat)(te:TD):TSD:=λE z=>te z λx=>match x with|.tup ds=>ds.length=is.length/\E.nx (aT is ds z)|_=>False
def qv[Jx]{k:Nat}(hc:X.calm=true)(he:WDE X e te)(hg:DGs X es is)(hn:autoParam ((P5 es X.env).length=is.length) zA0)(m5:autoParam ((P5 es X.env).findIdx? (·.1)=none) zA0)
  (hs:autoParam (Qx [.Tuple es k p] e pos.line X.env=pure false) zA0) (hw:autoParam (Qy [.Tuple es k p] e X.env=pure none) zA0) (h1:autoParam ((P5 [.Tuple es k p] X.env).map (·.2)=[Qw (.Tuple es k p) X.env]) zA0):WDS X (.Assign [.Tuple es k p] e pos) (xk is te):=⟨by
 have he:=he.out;obtain⟨u,hu,kk⟩:=hg;refine(iQ he (fM hc hu hn m5) hs hw h1).anti λE s H q=>?_;obtain⟨B,F0,F,z,k,rs,ED,h,e⟩:=q;refine#[B,F,z,k.kf,rs,_,h,λd v F' H' g hd rd=>?_];split at hd
 .obtain⟨p,vs,rfl,hq,rr⟩:=rep_tup_mp rd;exact#[p,vs,rfl,g.fh.tup hq,by rw[rr.length];exact hd.1,kk _ vs z s B F' H' _ hd.1 rr (rs.grow g) λs' r'=>e.nx _ _ F' H' (k.grow g) hd.2 r']
 .exact hd.elim⟩
def dPar(i j:Nat)(ta:TDA):TSD:=λE z=>ta z λds=>match ds with|[x,y]=>E.nx ((z.set i (be x)).set j (be y))|_=>False
def xm[Jx](i j:Nat){y:E_}{t:TDA}{px py pt:Qa}{kt k2 Ie}(hc:X.calm=true)(hN:X.N.Nodup)(ha:WDA X [a,b] t)(hi:autoParam (X.N[i]?=be x) zA0)(hj:autoParam (X.N[j]?=be y) zA0)(KY:autoParam (i≠j) zA1)
  (hx:autoParam (X.env.scope.names.lookup x=be .local) zA0) (hy:autoParam (X.env.scope.names.lookup y=be .local) zA0)
  (hw:autoParam (Qy [.Tuple [.Name x px,.Name y py] kt pt] (.Tuple [a,b] k2 Ie) X.env=pure (be [x,y])) zA0)
  (hs:autoParam (Qx [.Tuple [.Name x px,.Name y py] kt pt] (.Tuple [a,b] k2 Ie) pos.line X.env=pure false) zA0):WDS X (.Assign [.Tuple [.Name x px,.Name y py] kt pt] (.Tuple [a,b] k2 Ie) pos) (dPar i j t):=⟨have ha:=ha.out;(ud hc hN hi hj KY hx hy ha hw hs).anti λE s H q=>by
 obtain⟨B,F0,F,z,k,rs,ED,h,e⟩:=q;refine#[B,F,z,k.kf,rs,_,h,λds vs F' H' g hd rd=>?_];split at hd
 .obtain⟨v,r,rfl,r1,r2⟩:=reps_cons.mp rd;obtain⟨w,r,rfl,r3,r4⟩:=reps_cons.mp r2;rw[reps_nil.mp r4];exact#[v,w,rfl,e.nx _ _ F' H' (k.grow g) hd (((rs.grow g).set r1).set r3)]
 .exact hd.elim⟩
def xn(c:TDT)(tb:TSD):TSD:=λE z=>∃W:Nat->SD->Prop,(∃m,W m z)/\∀m z,W m z->
 c z λb=>if b=true then tb {E with nx:=λz'=>∃m',m'<m/\W m' z',ct:=λz'=>∃m',m'<m/\W m' z',bk:=E.nx} z else E.nx z
variable{body:List P0}
def fq[Jx]{c:PV}{tc:TDT}{tb:TSD}(hp:Ql (PU X.prog X.w) X.A X.env X.xe)(hc:WDT X c tc)(hb:WDSs X body tb):WDS X (.While c body [] pos) (xn tc tb):=⟨have hc:=hc.out;have hb:=hb.out;(oF hp hc hb).anti λE s H q=>by
 obtain⟨B,F0,F,z,k,rs,ED,⟨W,⟨m0,w0⟩,c9⟩,e⟩:=q;refine#[λm s' H'=>∃F' z',Kept B F0 F' H'/\RepS X.K B F' H' z' s'/\W m z',#[m0,F,z,k,rs,w0],?_];rintro m s1 H1⟨F1,z1,k1,r1,w1⟩;refine#[B,F1,z1,k1.kf,r1,_,c9 m z1 w1,λb F2 H2 g2 hk=>?_];cases b with
 |true=>
  refine#[λs3 H3=>∃F3 z3,Kept B F0 F3 H3/\RepS X.K B F3 H3 z3 s3/\∃m',m'<m/\W m' z3,λs3 H3 ⟨F3,z3,k3,r3,m',l,w3⟩=>#[m',l,F3,z3,k3,r3,w3],?_];exact#[B,F0,F2,z1,k1.grow g2,r1.grow g2,_,hk,#[λz3 s3 F3 H3 k3 h3 r3=>#[F3,z3,k3,r3,h3],e.rt,e.nx,λz3 s3 F3 H3 k3 h3 r3=>#[F3,z3,k3,r3,h3]]]
 |false=>exact e.nx z1 s1 F2 H2 (k1.grow g2) hk (r1.grow g2)⟩
abbrev TDI:=SD->(List D->Prop)->Prop
def dItL(t:TD):TDI:=λz R=>t z λx=>match x with|.lst ds=>R ds|.rol ds=>R ds|_=>False
def dItR(t:TD):TDI:=λz R=>t z λx=>match x with|.int n=>(0<=n/\n<2^62)/\R ((Ej n.toNat).map λk=>D.int ((k:Nat):Int))|_=>False
def dFor(i:Nat)(ti:TDI)(tb:TSD):TSD:=λE z=>ti z λds=>∃W:Nat->SD->Prop,W 0 z/\(∀k x z,ds[k]?=be x->W k z->tb {E with nx:=W (k+1),ct:=W (k+1),bk:=E.nx} (z.set i (be x)))/\∀z,W ds.length z->E.nx z
def Reps.get'{K:Ef}{H:Hp}{ds:List D}{vs:List V}{k:Nat}{v:V}(r:Reps K H ds vs)(e:vs[k]?=be v):∃d,ds[k]?=be d/\Rep K H d v:=by
 have hk:k<ds.length:=by rw[<-r.length];exact(Ev.mp e).1
 obtain⟨u,q1,q2⟩:=r.get (EA hk);rw[e]at q1;cases q1;exact#[_,EA hk,q2]
def jm[Jx](i:Nat){tb:TSD}(hp:Ql (PU X.prog X.w) X.A X.env X.xe)(hc:X.calm=true)(hN:X.N.Nodup)(he:WDE X e te)(hb:WDSs X body tb)(hi:autoParam (X.N[i]?=be x) zA0)(hx:autoParam (Loc X.env.scope x) zA4)
  (hf:autoParam (zFN X x) zA3) (hs:autoParam (∀y,zFS X e y) zA2):WDS X (.For (.Name x p) e body [] pos) (dFor i (dItL te) tb):=⟨have he:=he.out;have hb:=hb.out;(de hp hc (oH he) (eY hN hi hx hf) hb hs).anti λE s H q=>by
 obtain⟨B,F0,F,z,kp,rs,ED,h,e⟩:=q;refine#[B,F,z,kp.kf,rs,_,h,λd v F1 H1 g1 hd rd=>?_];split at hd
 .obtain⟨p,vs,rfl,hq,rr⟩:=rep_lst.mp rd;obtain⟨W,w0,c9,out⟩:=hd;refine#[p,rfl,#[vs,g1.fh.seq (SqL.of hq)],oK (K:=X.K) (a:=p) (xs:=vs) (λk s' H'=>∃F' z',Kept B F0 F' H'/\Same F1 F'/\RepS X.K B F' H' z' s'/\W k z') #[F1,z,kp.grow g1,Same.refl F1,rs.grow g1,w0] (λk s' H' _ ⟨F',z',k',g',r',w'⟩=>k'.fh.seq (g'.seq (SqL.of hq))) ?_ ?_]
  .rintro k y s' H' hk⟨F',z',k',g',r',w'⟩;obtain⟨d,hd,ry⟩:=rr.get' hk;refine#[B,F',F',_,#[k'.bh,k'.fh,Same.refl F',λb h1 _=>h1,k'.eb,k'.jf.trans k'.f0,λb h1 h2=>k'.out b (k'.jo b h1 h2) h2],r'.set (ry.mono g'),_,c9 k d z' hd w',?_];have up:∀{F2 H2:Hp},Kept B F' F2 H2->Kept B F0 F2 H2:=λk2=>#[k2.bh,k2.fh,k'.f0.trans k2.f0,λb h1 h2=>k2.out b (k'.out b h1 h2) h2,k'.eb,k'.jf,k'.jo];exact#[λz3 s3 F3 H3 k3 h3 r3=>#[F3,z3,up k3,g'.trans k3.f0,r3,h3],λd v F3 H3 k3=>e.rt d v F3 H3 (up k3),λz3 s3 F3 H3 k3=>e.nx z3 s3 F3 H3 (up k3),λz3 s3 F3 H3 k3 h3 r3=>#[F3,z3,up k3,g'.trans k3.f0,r3,h3]]
  .rintro s' H'⟨F',z',k',g',r',w'⟩;exact e.nx z' s' F' H' k' (out z' (by rw[<-rr.length];exact w')) r'
 .obtain⟨p,vs,rfl,hq,rr⟩:=rep_rol.mp rd;obtain⟨W,w0,c9,out⟩:=hd;refine#[p,rfl,#[vs,g1.fh.seq hq],oK (K:=X.K) (a:=p) (xs:=vs) (λk s' H'=>∃F' z',Kept B F0 F' H'/\Same F1 F'/\RepS X.K B F' H' z' s'/\W k z') #[F1,z,kp.grow g1,Same.refl F1,rs.grow g1,w0] (λk s' H' _ ⟨F',z',k',g',r',w'⟩=>k'.fh.seq (g'.seq hq)) ?_ ?_]
  .rintro k y s' H' hk⟨F',z',k',g',r',w'⟩;obtain⟨d,hd,ry⟩:=rr.get' hk;refine#[B,F',F',_,#[k'.bh,k'.fh,Same.refl F',λb h1 _=>h1,k'.eb,k'.jf.trans k'.f0,λb h1 h2=>k'.out b (k'.jo b h1 h2) h2],r'.set (ry.mono g'),_,c9 k d z' hd w',?_];have up:∀{F2 H2:Hp},Kept B F' F2 H2->Kept B F0 F2 H2:=λk2=>#[k2.bh,k2.fh,k'.f0.trans k2.f0,λb h1 h2=>k2.out b (k'.out b h1 h2) h2,k'.eb,k'.jf,k'.jo];exact#[λz3 s3 F3 H3 k3 h3 r3=>#[F3,z3,up k3,g'.trans k3.f0,r3,h3],λd v F3 H3 k3=>e.rt d v F3 H3 (up k3),λz3 s3 F3 H3 k3=>e.nx z3 s3 F3 H3 (up k3),λz3 s3 F3 H3 k3 h3 r3=>#[F3,z3,up k3,g'.trans k3.f0,r3,h3]]
  .rintro s' H'⟨F',z',k',g',r',w'⟩;exact e.nx z' s' F' H' k' (out z' (by rw[<-rr.length];exact w')) r'
 .exact hd.elim⟩
def cM[Jx](i:Nat){p1 p2:Qa}{tb:TSD}(hp:Ql (PU X.prog X.w) X.A X.env X.xe)(hc:X.calm=true)(hN:X.N.Nodup)(hm:X.mg "range"=p7)(he:WDE X e te)(hb:WDSs X body tb)(hg:autoParam (Gl X "range") zA0)(hi:autoParam (X.N[i]?=be x) zA0)(hx:autoParam (Loc X.env.scope x) zA4)
  (hf:autoParam (zFN X x) zA3) (hs:autoParam (∀y,zFS X (.Call (.Name "range" p1) [e] [] p2) y) zA2) (n8:autoParam (zSE X e []) zA0) (f9:autoParam (P1 [e] X.env=[(false,P7 e X.env)]) zA0):WDS X (.For (.Name x p) (.Call (.Name "range" p1) [e] [] p2) body [] pos) (dFor i (dItR te) tb):=⟨have he:=he.out;have hb:=hb.out;(de hp hc (fN hg hm (bj he pa_nil n8) f9) (eY hN hi hx hf) hb hs).anti λE s H q=>by
 obtain⟨B,F0,F,z,kp,rs,ED,h,e⟩:=q;refine#[B,F,z,kp.kf,rs,_,h,λd v F1 H1 g1 hd rd=>?_];split at hd
 .rename_i n;obtain⟨⟨b1,b2⟩,W,w0,c9,out⟩:=hd;have hl:((Ej n.toNat).map λk=>D.int ((k:Nat):Int)).length=n.toNat:=by simp
  refine#[n,by rw[rep_int.mp rd],Ig,b2,iT (lo:=0) (n:=n.toNat) (λk s' H'=>∃F' z',Kept B F0 F' H'/\RepS X.K B F' H' z' s'/\W k z') #[F1,z,kp.grow g1,rs.grow g1,w0] ?_ ?_]
  .rintro k s' H' hk⟨F',z',k',r',w'⟩;have e1:(0:Int)+(k:Int)=(k:Int):=by lia
   exact#[B,F0,F',_,k',r'.set (d:=.int (k:Int)) (rep_int.mpr (by rw[e1])),_,c9 k (.int (k:Int)) z' (by simp[hk]) w',#[λz3 s3 F3 H3 k3 h3 r3=>#[F3,z3,k3,r3,h3],e.rt,e.nx,λz3 s3 F3 H3 k3 h3 r3=>#[F3,z3,k3,r3,h3]]]
  .rintro s' H'⟨F',z',k',r',w'⟩;exact e.nx z' s' F' H' k' (out z' (by rw[hl];exact w')) r'
 .exact hd.elim⟩
end
section
variable {P:PZ}{w:P2}{K:Ef}{mg:E_->Option KB}{base:P4}
variable{N ps:List E_}
def _root_.L2.Fun.okD{x qual:E_}{st:P0}{f:KM}{fd:P9}{k:Nat}{S:SpD}(T:Fun K x qual st f fd)(F:FnScope N ps (ag st))(len:∀ds R,S ds R->ds.length=ps.length)
  (b8:∀(cdv:KB) (A:P3) (outer:List QN) (s:KF) (H:Hp) (E:XK) (J:Jx),Room k (A.deeper (Qe qual (ag st) s.heap.objs.size f cdv))->
   ∃t,DSs (cxOf (Exc.CX1 P w) P w K mg base N qual (ag st) f cdv A outer s H E).nox (aJ st) t/\∀ds R,S ds R->t {nx:=λ_=>R .non,rt:=R} (startD N ds)):FnOk P w K mg base (Exc.CX1 P w) (k+1) f fd ps (lSp K S):=by
 refine Fun.okC T F (λvs H Q E h=>?_) (λcdv A outer s H vs Q E hr h=>?_)
 .obtain⟨F,ds,fh,rs,R,h,_⟩:=h;rw[rs.length];exact len ds R h
 .obtain⟨F,ds,fh,rs,R,h,q⟩:=h
  letI:Jx:=#[H,F,λ_ _ _=>False]
  obtain⟨t,ht,hq⟩:=b8 cdv A outer s H E inferInstance hr;refine#[_,ht.nox,H,F,F,startD N ds,#[Same.refl H,fh,Same.refl F,λ_ h _=>h,rfl,Same.refl F,λ_ h _=>h],fj rs,_,hq ds R h,#[λz' s' F' H' k hn _=>q _ _ F' H' #[k.f0,k.fh,k.bh,k.out] hn (rep_non.mpr rfl),λd v F' H' k hd rd=>q d v F' H' #[k.f0,k.fh,k.bh,k.out] hd rd,λ_ _ _ _ _ h _=>h.elim,λ_ _ _ _ _ h _=>h.elim]]
def Tx.okD{x:E_}{st:P0}{k:Nat}{S:SpD}(T:Tx K mg x st ps)(F:FnScope N ps (ag st))(len:∀ds R,S ds R->ds.length=ps.length)
  (b8:∀(f:KM) (cdv:KB) (A:P3) (outer:List QN) (s:KF) (H:Hp) (E:XK) (J:Jx),Room k (A.deeper (Qe x (ag st) s.heap.objs.size f cdv))->
   ∃t,DSs (cxOf (Exc.CX1 P w) P w K mg base N x (ag st) f cdv A outer s H E).nox (aJ st) t/\∀ds R,S ds R->t {nx:=λ_=>R .non,rt:=R} (startD N ds)):CalD P w K mg base (k+1) x ps S:=by
 obtain⟨f,fd,T,hb,hm⟩:=T;exact#[f,fd,T.okD F len λcdv A outer s H E J hr=>b8 f cdv A outer s H E J hr,hb,T.kp,hm]
end
def eg:SpD:=λds R=>∃ns:List Int,ds=[.rol (ns.map D.int)]/\ns.length<=63/\R (.bl true)
def xo{a:KM}{ns:List Int}(hl:ns.length<=63)(hS:SqL K H a (ns.map V.int)){E:XK}:lSp K eg [.ref a] H (λv _=>v=.bl true) E:=
 #[H,[.rol (ns.map D.int)],Same.refl H,reps_cons.mpr #[_,_,rfl,rep_rol.mpr #[a,_,rfl,hS,Reps.ints.mpr rfl],reps_nil.mpr rfl],λd=>d=.bl true,#[ns,rfl,hl,rfl],λd v F' H' _ hd rd=>by subst hd;exact rep_bl.mp rd]
section
variable {X:Cx}{a b c e:PV}{ta tb tc te:TD}{pos:Qa}
variable{p:Qa}{es:List PV}{t:TDA}
def jn[Jx]{x:E_}{T:String}{r:List V->Hp->VK->Prop}{rd:RDn}(hc:bu X (.type T) r)(L:bY X.K r rd)(hm:X.mg x=p7)(hv:Qd x=be (.type T))(ha:DA X (e::es) t)(hg:autoParam (Gl X x) zA0)(hn:autoParam (x≠"__name__") zA1)(e8:autoParam (zND x) zA1)
  (he:autoParam (zSE X e es) zA0) (c_:autoParam (zPL X pos es) zA0):DE X (.Call (.Name x p) (e::es) [] pos) (dCB rd t):=(pr hc hg hm hv ha hn e8 he c_).anti λs H Q h=>by
 obtain⟨B,F,z,kf,rs,R,h1,h2⟩:=h;have fh:=kf.fh;refine#[B,F,z,kf,rs,_,h1,λds vs F1 H1 g1 hx rx=>?_];exact L ds vs F1 H1 R Q g1.fh hx rx λd w F' H' g=>h2 d w F' H' (g1.trans g)
def rdStr:RDn:=λds R=>match ds with|[.int i]=>i.natAbs<18446744073709551616/\R (.str (toString i))|_=>False
variable{K:Ef}
def xp:bY K (λxs H Q=>∃i,xs=[.int i]/\i.natAbs.log2<1920/\Q (.str (toString i)) H) rdStr:=by
 intro ds vs F H R Q fh h rx q;unfold rdStr at h;split at h
 .obtain⟨v,r,rfl,h1,h2⟩:=reps_cons.mp rx;rw[reps_nil.mp h2,rep_int.mp h1];refine#[_,rfl,?_,q _ _ F H (Grow.refl fh) h.2 (rep_str.mpr rfl)];rename_i i;by_cases h0:i.natAbs=0
  .rw[h0];decide
  .have:=(GQ h0).mpr (show i.natAbs<2^64 from h.1);lia
 .exact h.elim
def cN[Jx](hm:X.mg "str"=p7)(ha:WDA X [e] t)(hg:autoParam (Gl X "str") zA0)(he:autoParam (zSE X e []) zA0):WDE X (.Call (.Name "str" p) [e] [] pos) (dCB rdStr t):=#[have ha:=ha.out;jn vo xp hm PyProof.Rows.boot_str ha hg Ik Ik he]
def jp:RDn:=λds R=>kd1 ds λx=>match x with
 |.int i=>R (.int i)
 |.bl k=>R (.int (if k then 1 else 0))
 |.str x=>∃n,(PySem.intText? x=be n/\x.length<=640)/\R (.int n)
 |_=>False
def qw:bu X (.type "int") (λxs H Q=>((∃i,xs=[.int i]/\Q (.int i) H)\/∃k,xs=[.bl k]/\Q (.int (if k then 1 else 0)) H)\/∃x n,xs=[.str x]/\PySem.intText? x=be n/\x.length<=640/\Q (.int n) H):=by
 intro pins s σ H xs us Q I r h;rcases h with h|⟨x,n,rfl,h1,h2,q⟩
 .exact vn pins s σ H xs us Q I r h
 .obtain⟨u,rfl,t,rfl⟩:=bM r;exact PySem.W.KIN.call_text h1 h2 #[.int n,H,I.tok _,#[_,rfl],q]
def qy:bY K (λxs H Q=>((∃i,xs=[.int i]/\Q (.int i) H)\/∃k,xs=[.bl k]/\Q (.int (if k then 1 else 0)) H)\/∃x n,xs=[.str x]/\PySem.intText? x=be n/\x.length<=640/\Q (.int n) H) jp:=by
 intro ds vs F H R Q fh h rx q;replace h:=kd1.of h;obtain⟨x,rfl,h⟩:=h;obtain⟨v,r,rfl,h1,h2⟩:=reps_cons.mp rx;rw[reps_nil.mp h2];cases x with
 |int i=>
  rw[rep_int.mp h1];exact .inl (.inl #[_,rfl,q _ _ F H (Grow.refl fh) h (rep_int.mpr rfl)])
 |bl k=>
  rw[rep_bl.mp h1];exact .inl (.inr #[_,rfl,q _ _ F H (Grow.refl fh) h (rep_int.mpr rfl)])
 |str x=>
  rw[rep_str.mp h1];obtain⟨n,⟨e1,e2⟩,h⟩:=h;exact .inr #[_,n,rfl,e1,e2,q _ _ F H (Grow.refl fh) h (rep_int.mpr rfl)]
 |_=>exact False.elim h
def gh[Jx](hm:X.mg "int"=p7)(ha:WDA X [e] t)(hg:autoParam (Gl X "int") zA0)(he:autoParam (zSE X e []) zA0):WDE X (.Call (.Name "int" p) [e] [] pos) (dCB jp t):=#[have ha:=ha.out;jn qw qy hm PyProof.Rows.boot_int ha hg Ik Ik he]
def qz:RDn:=λds R=>kd1 ds λx=>match x with|.lst xs=>R (.lst xs)|.tup xs=>R (.lst xs)|.rol xs=>R (.lst xs)|_=>False
def xq:bY K (λxs H Q=>∃p ys,xs=[.ref p]/\(SqL K H p ys\/SqT K H p ys)/\∀l,H l=p7->Q (.ref l) (upd H l (.lst ys))) qz:=by
 intro ds vs F H R Q fh h rx q;replace h:=kd1.of h;obtain⟨x,rfl,h⟩:=h;obtain⟨v,r,rfl,h1,h2⟩:=reps_cons.mp rx;rw[reps_nil.mp h2];cases x with
 |lst xs=>
  obtain⟨a,us,rfl,hq,rs⟩:=rep_lst.mp h1;exact#[a,us,rfl,.inl (fh.seq (SqL.of hq)),λl hl=>q _ _ _ _ (Grow.new fh hl _) h (rep_lst.mpr #[l,us,rfl,aD,rs.mono (aO (fh.free hl) _)])]
 |tup xs=>
  obtain⟨a,us,rfl,hq,rs⟩:=rep_tup_mp h1;exact#[a,us,rfl,.inr (fh.tup hq),λl hl=>q _ _ _ _ (Grow.new fh hl _) h (rep_lst.mpr #[l,us,rfl,aD,rs.mono (aO (fh.free hl) _)])]
 |rol xs=>
  obtain⟨a,us,rfl,hq,rs⟩:=rep_rol.mp h1;exact#[a,us,rfl,.inl (fh.seq hq),λl hl=>q _ _ _ _ (Grow.new fh hl _) h (rep_lst.mpr #[l,us,rfl,aD,rs.mono (aO (fh.free hl) _)])]
 |_=>exact False.elim h
def xr[Jx](hm:X.mg "list"=p7)(ha:WDA X [e] t)(hg:autoParam (Gl X "list") zA0)(he:autoParam (zSE X e []) zA0):WDE X (.Call (.Name "list" p) [e] [] pos) (dCB qz t):=#[have ha:=ha.out;jn vY xq hm PyProof.Rows.boot_list ha hg Ik Ik he]
def qA:RDn:=λds R=>kd2 ds λx y=>kdI x λi=>kdI y λj=>R (.int (if j>i then j else i))
def qB:RDn:=λds R=>kd2 ds λx y=>kdI x λi=>kdI y λj=>R (.int (if j<i then j else i))
def xt:bY K (λxs H Q=>∃i j,xs=[.int i,.int j]/\Q (.int (if j>i then j else i)) H) qA:=by
 intro ds vs F H R Q fh h rx q;replace h:=kd2.of h;obtain⟨x,y,rfl,h⟩:=h;replace h:=kdI.of h;obtain⟨i,rfl,h⟩:=h;replace h:=kdI.of h;obtain⟨j,rfl,h⟩:=h;obtain⟨v,r,rfl,h1,h2⟩:=reps_cons.mp rx;obtain⟨v',r',rfl,h3,h4⟩:=reps_cons.mp h2;rw[reps_nil.mp h4,rep_int.mp h1,rep_int.mp h3];exact#[_,_,rfl,q _ _ F H (Grow.refl fh) h (rep_int.mpr rfl)]
def xu:bY K (λxs H Q=>∃i j,xs=[.int i,.int j]/\Q (.int (if j<i then j else i)) H) qB:=by
 intro ds vs F H R Q fh h rx q;replace h:=kd2.of h;obtain⟨x,y,rfl,h⟩:=h;replace h:=kdI.of h;obtain⟨i,rfl,h⟩:=h;replace h:=kdI.of h;obtain⟨j,rfl,h⟩:=h;obtain⟨v,r,rfl,h1,h2⟩:=reps_cons.mp rx;obtain⟨v',r',rfl,h3,h4⟩:=reps_cons.mp h2;rw[reps_nil.mp h4,rep_int.mp h1,rep_int.mp h3];exact#[_,_,rfl,q _ _ F H (Grow.refl fh) h (rep_int.mpr rfl)]
def gj[Jx](hc:X.calm=true)(hm:X.mg "max"=p7)(ha:WDA X [e,a] t)(hg:autoParam (Gl X "max") zA0)(he:autoParam (zSE X e [a]) zA0)(c_:autoParam (zPL X pos [a]) zA0):WDE X (.Call (.Name "max" p) [e,a] [] pos) (dCB qA t):=#[have ha:=ha.out;fY (vk hc) xt hm PyProof.Rows.boot_max ha hg Ik Ik he c_]
def xw[Jx](hc:X.calm=true)(hm:X.mg "min"=p7)(ha:WDA X [e,a] t)(hg:autoParam (Gl X "min") zA0)(he:autoParam (zSE X e [a]) zA0)(c_:autoParam (zPL X pos [a]) zA0):WDE X (.Call (.Name "min" p) [e,a] [] pos) (dCB qB t):=#[have ha:=ha.out;fY (vm hc) xu hm PyProof.Rows.boot_min ha hg Ik Ik he c_]
def cA:List D->Option (List E_)
 |[]=>be []
 |.str x::r=>(cA r).map (x::·)
 |_=>p7
def qC{K:Ef}{F:Hp}:∀{ds:List D} {xs:List E_} {vs:List V} {us:List KB},cA ds=be xs->Reps K F ds vs->Vals vs us->StrsAre us xs
 |[],xs,vs,us,e,r,q=>by
  cases e;rw[reps_nil.mp r]at q;cases q;exact .nil
 | .str x::ds,xs,vs,us,e,r,q=>by
  obtain⟨v,r',rfl,h1,h2⟩:=reps_cons.mp r;rw[rep_str.mp h1]at q;cases q with
  |cons q1 q2=>
   obtain⟨t,rfl⟩:=q1;cases e2:cA ds with
   |none=>simp[cA,e2]at e
   |some ys=>
    simp[cA,e2]at e;subst e;exact .cons x t (qC e2 h2 q2)
def xx:V->List V->Hp->VK->Prop:=λx vs H Q=>∃p9 l xs ys,x=.str p9/\vs=[.ref l]/\H l=be (.lst xs)/\(∀us,Vals xs us->StrsAre us ys)/\(ys.map (·.length)).sum+ys.length*p9.length<=16777216/\Q (.str (Txt.join p9 ys)) H
def xy:MtR X "str.join" xx:=by
 intro pins s σ H x vs v us Q I rx rv h;obtain⟨p9,l,xs,ys,rfl,rfl,hl,hs,hz,q⟩:=h;obtain⟨t,rfl⟩:=rx;obtain⟨u,rfl,ru⟩:=bM rv;cases ru;obtain⟨its,r,pl,_⟩:=I.list (SqL.of hl);exact PyProof.Rows.join_list pl.isList (by simpa using hs its r) hz λt' k=>#[.str _,H,I.tok _,#[_,rfl],q]
def xz(p9:E_)(te:TD):TD:=λz R=>te z λx=>match x with
 |.lst ds=>∃ys,cA ds=be ys/\(ys.map (·.length)).sum+ys.length*p9.length<=1000000/\R (.str (Txt.join p9 ys))
 |_=>False
variable{k:Nat}
def jq[Jx]{p9:E_}{p1 c7 a_:Qa}(he:WDE X e te)(j3:autoParam (zSE X e []) zA0)
  (b9:autoParam (P6 (.Constant (.str p9) k p1) "join" X.env (P7 (.Constant (.str p9) k p1) X.env)=P7 (.Constant (.str p9) k p1) X.env) zA0)
  (d7:autoParam (zHF X a_ [e]) zA0)
  (c8:autoParam ((c7.endLine==a_.line)=true) zA0):WDE X (.Call (.Attribute (.Constant (.str p9) k p1) "join" c7) [e] [] a_) (xz p9 te):=⟨have he:=he.out;(cH PySem.F.plainAttrs_str PySem.F.slot_str_join PySem.F.type_str_join xy om (bj he pa_nil j3) b9 d7 c8 j3).anti λs H Q q=>by
 obtain⟨B,F,z,kf,rs,R,h1,h2⟩:=q;have fh:=kf.fh;refine#[rfl,?_];refine#[B,F,z,kf,rs,_,h1,λx u F1 H1 g1 hx rx=>?_];split at hx
 .obtain⟨ys,e1,e2,hx⟩:=hx;obtain⟨l,vs,rfl,hq,rr⟩:=rep_lst.mp rx;exact#[p9,l,vs,ys,rfl,rfl,g1.fh _ _ hq,λus q=>qC e1 rr q,Eo e2 Ik,h2 _ _ F1 H1 g1 hx (rep_str.mpr rfl)]
 .exact hx.elim⟩
def dOix(i:Nat)(tb:TD):TD:=λz R=>match z[i]? with
 |some (be (.own ds))=>tb z λy=>match y with|.int k=>∃d,atI ds k=be d/\R d|_=>False
 |_=>False
def xA[Jx](i:Nat){x:E_}(hb:WDE X b tb)(hN:autoParam (X.N[i]?=be x) zA0)(hv:autoParam (Vis X.env.scope x) zA5)(hd:autoParam (zND x) zA1)
  (i9:autoParam (zNC x) zA1) (hs:autoParam (dP b) zA6):WDE X (.Subscript (.Name x p) b pos) (dOix i tb):=⟨have hb:=hb.out;(pe_ix ix_list (dN hN hv hd i9) hb hs).anti λs H Q q=>by
 obtain⟨B,F,z,kf,rs,R,h1,h2⟩:=q;have fh:=kf.fh;unfold dOix at h1;split at h1
 .rename_i ds ez;obtain⟨a,vs,q1,q2,q3,q4,q5⟩:=rs.own i ds ez;refine#[.ref a,q1,B,F,z,kf,rs,_,h1,λy v F1 H1 g1 hy ry=>?_];split at hy
  .obtain⟨d,e1,hR⟩:=hy;obtain⟨w,e2,g6⟩:=(q5.mono g1.ff).at e1;exact#[a,vs,_,w,rfl,rep_int.mp ry,SqL.of (g1.hh _ _ q2),e2,h2 d w F1 H1 g1 hR g6]
  .exact hy.elim
 .exact h1.elim⟩
def cutD(xs:List D)(lo hi:Option Int):List D:=(xs.drop (HT.sIx xs.length 0 lo)).take (HT.sIx xs.length xs.length hi-HT.sIx xs.length 0 lo)
def Reps.drop{K:Ef}{F:Hp}:∀(n:Nat) {xs:List D} {us:List V},Reps K F xs us->Reps K F (xs.drop n) (us.drop n)
 |0,_,_,r=>r
 |n+1,[],us,r=>by rw[reps_nil.mp r];exact reps_nil.mpr rfl
 |n+1,x::xs,us,r=>by
  obtain⟨u,ur,rfl,_,a2⟩:=reps_cons.mp r;exact Reps.drop n a2
def Reps.take{K:Ef}{F:Hp}:∀(n:Nat) {xs:List D} {us:List V},Reps K F xs us->Reps K F (xs.take n) (us.take n)
 |0,_,_,_=>reps_nil.mpr rfl
 |n+1,[],us,r=>by rw[reps_nil.mp r];exact reps_nil.mpr rfl
 |n+1,x::xs,us,r=>by
  obtain⟨u,ur,rfl,a1,a2⟩:=reps_cons.mp r;exact reps_cons.mpr #[u,_,rfl,a1,Reps.take n a2]
def Reps.cut{F:Hp}{xs:List D}{us:List V}(r:Reps K F xs us)(lo hi:Option Int):Reps K F (cutD xs lo hi) (cutV us lo hi):=by
 unfold cutD cutV;rw[r.length];exact(r.drop _).take _
def xB(ta tb:TD):TD:=λz R=>ta z λx=>tb z λy=>match x,y with|.lst xs,.int i=>R (.lst (cutD xs (be i) p7))|_,_=>False
def xC[Jx]{p2:Qa}(ha:WDE X a ta)(hb:WDE X b tb):WDE X (.Subscript a (.Slice (be b) p7 p7 p2) pos) (xB ta tb):=⟨have ha:=ha.out;have hb:=hb.out;(pB pH ha (pA hb) pz).anti λs H Q q=>by
 obtain⟨B,F,z,kf,rs,R,h1,h2⟩:=q;have fh:=kf.fh;refine#[B,F,z,kf,rs,_,h1,λx u F1 H1 g1 hx rx=>?_];refine#[B,F1,z,kf.grow g1,rs.grow g1,_,hx,λy v F2 H2 g2 hy ry=>?_];split at hy
 .refine#[_,rep_int.mp ry,?_];obtain⟨l,vs,rfl,hq,rr⟩:=rep_lst.mp (rx.mono g2.ff);refine#[l,vs,rfl,SqL.of (g2.fh _ _ hq),λp hp=>?_];exact h2 _ _ _ _ (g1.trans (g2.trans (Grow.new g2.fh hp _))) hy (rep_lst.mpr #[p,_,rfl,aD,(rr.cut _ _).mono (aO (g2.fh.free hp) _)])
 .exact hy.elim⟩
def xD{t:TGs}{n:Nat}(hc:X.calm=true)(h:PGs X es t)(hn:autoParam ((P5 es X.env).length=n) zA0)(m5:autoParam ((P5 es X.env).findIdx? (·.1)=none) zA0):
  PG X (.Tuple es k pos) (λv σ H Q=>∃a xs,v=.ref a/\SqL X.K H a xs/\xs.length=n/\t xs σ H Q):=by
 intro pins s σ H v u Q I r hw;obtain⟨a,xs,e1,hq,hl,hw⟩:=hw;subst e1;cases r;obtain⟨its,rv,pl,hz⟩:=I.list hq;have e2:(P5 es X.env).length=its.toArray.size:=by simp[hn,<-hl,rv.length]
 rw[PyProof.Rows.assign_Tuple];refine Os (Qn ?_);unfold unpack;rw[e2,m5];refine Os (Qi (kun_itemsOf (I.ok.hd hc) pl.isList λh' hx=>?_));have I1:Inv X pins σ H {s with heap:=h'}:=I.kept (t':=s.toks) λb o e=>hx b o (El (Heap.lt_size e)) e;exact h pins _ σ H xs _ Q I1 (by simpa using rv) hw
def xE(is:List Nat)(te:TD):TSD:=λE z=>te z λx=>match x with|.lst ds=>ds.length=is.length/\E.nx (aT is ds z)|_=>False
def qD[Jx]{is:List Nat}(hc:X.calm=true)(he:WDE X e te)(hg:DGs X es is)(hn:autoParam ((P5 es X.env).length=is.length) zA0)(m5:autoParam ((P5 es X.env).findIdx? (·.1)=none) zA0)
  (hs:autoParam (Qx [.Tuple es k p] e pos.line X.env=pure false) zA0) (hw:autoParam (Qy [.Tuple es k p] e X.env=pure none) zA0) (h1:autoParam ((P5 [.Tuple es k p] X.env).map (·.2)=[Qw (.Tuple es k p) X.env]) zA0):WDS X (.Assign [.Tuple es k p] e pos) (xE is te):=⟨by
 have he:=he.out;obtain⟨u,hu,kk⟩:=hg;refine(iQ he (xD hc hu hn m5) hs hw h1).anti λE s H q=>?_;obtain⟨B,F0,F,z,k,rs,ED,h,e⟩:=q;refine#[B,F,z,k.kf,rs,_,h,λd v F' H' g hd rd=>?_];split at hd
 .obtain⟨p,vs,rfl,hq,rr⟩:=rep_lst.mp rd;exact#[p,vs,rfl,SqL.of (g.fh _ _ hq),by rw[rr.length];exact hd.1,kk _ vs z s B F' H' _ hd.1 rr (rs.grow g) λs' r'=>e.nx _ _ F' H' (k.grow g) hd.2 r']
 .exact hd.elim⟩
end
end My
namespace L2
def jr{env:QN}:∀(names:List (E_×QB)) (k_:List (E_×KM)),(∀n,(n,NameKind.free)∈names->∃c,env.cells.lookup n=be c)->
  ∃cl,(forIn (m:=Rx) names k_ λx r=>match x with
     |(name,kind)=>if(kind==NameKind.free)=true then(do let a <-cellOf env name;pure (ForInStep.yield ((name,a)::r)))else pure (ForInStep.yield r))=(pure cl:Rx (List (E_×KM)))/\
   (∀n c,cl.lookup n=be c->env.cells.lookup n=be c\/k_.lookup n=be c)/\(∀n,(n,NameKind.free)∈names->∃c,cl.lookup n=be c)/\∀n c,k_.lookup n=be c->∃c',cl.lookup n=be c'
 |[],k_,_=>#[k_,rfl,(λ_ _ h=>.inr h),(λ_ h=>by cases h),(λ_ c h=>#[c,h])]
 |(name,kind)::r,k_,h=>by
  by_cases hk:(kind==NameKind.free)=true
  .have ek:kind=.free:=by simpa using hk
   subst ek;obtain⟨c,hc⟩:=h name Ep;obtain⟨cl,e,p1,p2,p3⟩:=jr r ((name,c)::k_) λn q=>h n (Em _ q);refine#[cl,?_,λn c' q=>?_,λn q=>?_,λn c' q=>?_]
   .rw[Gk];have ec:cellOf env name=pure c:=by unfold cellOf;rw[hc]
    simp only[hk,if_true,ec];exact e
   .rcases p1 n c' q with z|z
    .exact .inl z
    .rw[Ez]at z;split at z
     .rename_i q2;have en:n=name:=by simpa using q2
      cases z;exact .inl (en ▸ hc)
     .exact .inr z
   .rcases Ei.mp q with z|z
    .cases z;exact p3 _ c (by rw[Ez];simp)
    .exact p2 n z
   .by_cases hn:n=name
    .subst hn;exact p3 n c (by rw[Ez];simp)
    .exact p3 n c' (by rw[Ez,beq_eq_false_iff_ne.mpr hn];exact q)
  .obtain⟨cl,e,p1,p2,p3⟩:=jr r k_ λn q=>h n (Em _ q);refine#[cl,?_,p1,λn q=>?_,p3]
   .rw[Gk];simp only[hk];exact e
   .rcases Ei.mp q with z|z
    .cases z;exact absurd rfl hk
    .exact p2 n z
def closure_is{env:QN}{scope:Qk}(h:∀n,(n,NameKind.free)∈scope.names->∃c,env.cells.lookup n=be c):
  ∃cl,closureFor scope env=pure cl/\(∀n c,cl.lookup n=be c->env.cells.lookup n=be c)/\∀n,(n,NameKind.free)∈scope.names->∃c,cl.lookup n=be c:=by
 obtain⟨cl,e,p1,p2,_⟩:=jr scope.names [] h;refine#[cl,?_,λn c q=>(p1 n c q).elim id (λz=>nomatch z),p2];unfold closureFor;show(forIn (m:=Rx) scope.names [] _>>=λs=>pure s)=pure cl;rw[e];rfl
def gk{env:QN}:∀{names:List (E_×QB)} {n:E_} {k:QB},(∀y∈names,y.2≠.cell)->k=.cell\/k=.free->
  (names.map λ(n,k)=>if(k==NameKind.free&&env.scope.kind== .function&&env.kindOf n==be .cell)then(n,NameKind.cell)else(n,k)).lookup n=be k->(n,NameKind.free)∈names
 |[],_,_,_,_,h=>by simp at h
 |(a,b)::r,n,k,hc,hk,h=>by
  rw[EJ]at h;by_cases hb:(b==NameKind.free&&env.scope.kind== .function&&env.kindOf a==be .cell)=true
  .have eb:b=.free:=by
    have:=(EH _ _ ▸ ((EH _ _ ▸ hb).1)).1;simpa using this
   simp only[hb,if_true]at h;rw[Ez]at h;split at h
   .rename_i q;have en:n=a:=by simpa using q
    subst en eb;exact Ep
   .exact Em _ (gk (λy q=>hc y (Em _ q)) hk h)
  .simp only[hb]at h;rw[if_neg Iq,Ez]at h;split at h
   .rename_i q;have en:n=a:=by simpa using q
    cases h;subst en;rcases hk with z|z
    .exact absurd z (hc _ Ep)
    .rw[z];exact Ep
   .exact Em _ (gk (λy q=>hc y (Em _ q)) hk h)
section
variable {prog:PZ}{w:P2}{A:P3}{R:Rq->KF->Prop}{s:KF}
abbrev js(ifs:List PV)(env:QN):Rx Bool:=forIn ifs true λc r=>if r=true then do let ok <-isTrue c env (P7 c env);pure (ForInStep.yield ok)else pure (ForInStep.yield r)
def xF{d_ d6 iter:PV}{ifs:List PV}{scope:Qk}{pos:Qa}{it k_:KB}{env:QN}(I:Nat->KF->Prop)
  (c9:∀n s,I n s->PY (PU prog w) A (pyNext it) (λr s₁=>match r with
   |none=>R (.ok .next) s₁
   |some v=>PY (PU prog w) A (QE d6 it v) (λ_ s₁'=>PY (PU prog w) A (Qw d6 env v) (λ_ s₂=>PY (PU prog w) A (js ifs env) (λok s₂'=>if ok=true then PY (PU prog w) A (P7 d_ env) (λx s₃=>
     PY (PU prog w) A (call (.builtin "list.append") [k_,x]) (λ_ s₄=>∃m,m<n/\I m s₄) (λ_ _=>False) s₃)
     (λ_ _=>False) s₂' else ∃m,m<n/\I m s₂') (λ_ _=>False) s₂) (λ_ _=>False) s₁') (λ_ _=>False) s₁) (λ_ _=>False) s)
  (n:Nat) (h:I n s):
  QJ (PU prog w) A (.compLoop (.ListComp d_ [#[d6,iter,ifs,0]] scope pos) 0 it k_ env) R s:=by
 refine codeAny_loop rfl I (λn s hI=>?_) n h;show PY _ _ ((compTurn (.ListComp d_ [#[d6,iter,ifs,0]] scope pos) 0 it k_ env).onRaise (λx=>do Qv x env;theTreesLotGoes x)) _ _ s;refine wpAny_noted ?_;rw[compTurn_list];refine Os (Qn (Os (P8 (c9 n s hI) (λr s₁ h₁=>?_) λ_ _ h'=>h'.elim)));cases r with
 |none=>exact PX h₁
 |some v=>
  refine Os (P8 h₁ (λ_ s₁' h₁'=>Os (P8 h₁' (λ_ s₂ h₂=>Os (P8 h₂ (λok s₃ h₃=>?_) λ_ _ h'=>h'.elim)) λ_ _ h'=>h'.elim)) λ_ _ h'=>h'.elim);cases ok with
  |false=>exact PX #[rfl,h₃]
  |true=>
   exact Os (Os (P8 h₃ (λx s₄ h₄=>Os (P8 h₄ (λ_ s₅ h₅=>PX (PX #[rfl,h₅])) λ_ _ h'=>h'.elim)) λ_ _ h'=>h'.elim))
end
def bg(X:Cx)(scope:Qk)(cl:List (E_×KM))(x:E_)(s₀:KF)(H₀:Hp)(fp:List KM):Cx where
 prog:=X.prog
 w:=X.w
 K:=X.K
 mg:=X.mg
 base:=X.base
 A:=X.A
 N:=X.N.map (λn=>if n=x then("":E_)else n)++[x]
 s₀:=s₀
 H₀:=H₀
 env:=QU scope cl s₀.heap.objs.size X.env
 outer:=X.stack
 stack:=X.stack
 ex:=fp
 fn:=λ_=>false
 calm:=X.calm
 pn:=[]
 xe:=λ_ _=>False
structure CompScope(X:Cx)(scope:Qk)(x:Str):Prop where
 kind:scope.kind=.function
 nocell:∀y∈scope.names,y.2≠.cell
 names:∀y∈scope.names,y.2=.local->scope.names.lookup y.1=be .local
 own:scope.names.lookup x=be .local
 free:∀n,(n,NameKind.free)∈scope.names->X.env.kindOf n=be .cell
 vis:∀n∈X.N,n≠x->Vis (RH scope X.env) n->(n,NameKind.free)∈scope.names
 empty:¬Vis (RH scope X.env) ("":E_)
 cells:∀n,(n,NameKind.free)∈scope.names->(RH scope X.env).names.lookup n=be .cell
 nd:(X.N.map (λn=>if n=x then("":E_)else n)++[x]).Nodup
section
variable {X:Cx}{pins:List (KM×Qc)}{σ:St}{H:Hp}{s:KF}{scope:Qk}{cl:List (E_×KM)}{x:E_}{fp:List KM}
def jt(I:Inv X pins σ H s)(S:CompScope X scope x)(c1:∀n c,cl.lookup n=be c->X.env.cells.lookup n=be c)(c2:∀n,(n,NameKind.free)∈scope.names->∃c,cl.lookup n=be c)
  (hf:∀b∈fp,FpOk X pins H b) (hl:∀b∈fp,b<s.heap.objs.size):(bg X scope cl x s H fp).Ok where
 mod:=I.ok.mod
 kind:=S.kind
 glob:=I.ok.glob
 blt:=I.ok.blt
 above:=Eg _
 inj:=λy z c h1 h2=>I.ok.inj y z c (c1 y c h1) (c1 z c h2)
 has:=λn hn=>by
  rcases hn with hn|hn
  .exact c2 n (gk S.nocell (.inl rfl) hn)
  .exact c2 n (gk S.nocell (.inr rfl) hn)
 cab:=λ_ _ h=>nomatch h
 hd:=I.ok.hd
 frames:=I.ok.frames
 stk:=.inl rfl
 exf:=λb hb=>#[El (hl b hb),λy c h=>(hf b hb).2.2.2.2.1 y c (c1 y c h)]
 bs:=I.bs
 bsz:=Eo I.ok.bsz I.sz
 noex:=λb o e hb=>by
  have h1:=I.ok.noex b o e;rcases(hf b hb).2.2.2.1 with z|z
  .exact h1 z
  .exact absurd (EF (Heap.lt_size e) (Eo I.ok.bsz z)) (Ff _)
 exfs:=λb hb hs=>by
  rcases Ei.mp (I.stkSub b hs)with z|z
  .exact(hf b hb).2.1 z
  .exact(hf b hb).2.2.1 z
 funs:=I.stack
 frf:=I.stkFree
def ju{h':P4}{t':Nat}(I:Inv X pins σ H s)(S:CompScope X scope x)(c1:∀n c,cl.lookup n=be c->X.env.cells.lookup n=be c)(c2:∀n,(n,NameKind.free)∈scope.names->∃c,cl.lookup n=be c)
  (hf:∀b∈fp,FpOk X pins H b) (hl:∀b∈fp,b<s.heap.objs.size) {m:E_->Option KB} (hn:h'.Ns s.heap.objs.size m) (k:∀b o,s.heap.get? b=be o->h'.get? b=be o):
  Inv (bg X scope cl x s H fp) [] (σ++[p7]) H {s with heap:=h',toks:=t'}:=by
 refine#[jt I S c1 c2 hf hl,rfl,I.bare,Un.kept k,#[m,hn,λi n v e1 e2 e3=>?_],λn c e=>?_,I.hok.fresh (Eg _),λn c e=>I.freeC n c (c1 n c e),λp hp=>absurd (show p∈([]:List (KM×Qc))from hp) Iq,I.hok.kept k,?_]
 .have hi:i<σ.length:=by
   rcases Fq i σ.length with q|q
   .exact q
   .rw[Fh q]at e2;cases hz:i-σ.length with
    |zero=>rw[hz]at e2;simp at e2
    |succ z=>rw[hz]at e2;simp at e2
  rw[EW hi]at e2;have Kr:i<X.N.length:=by rw[<-I.len];exact hi
  have IJ:(X.N.map (λn=>if n=x then("":E_)else n)++[x])[i]?=be n:=e1;rw[EW (by simpa using Kr),Et,EA Kr]at IJ;simp only[Option.map_some,Option.some.injEq]at IJ;by_cases hx:X.N[i]=x
  .rw[if_pos hx]at IJ;subst IJ;exact absurd e3 S.empty
  .rw[if_neg hx]at IJ;subst IJ;have j6:=S.vis _ (EQ Kr) hx e3;have m4:=S.free _ j6;obtain⟨c,hc⟩:=c2 _ j6;obtain⟨mX,Pn,Od⟩:=I.loc;obtain⟨u,ru,lk⟩:=Od i X.N[i] v (EA Kr) e2 (.inr (.inl m4));refine#[u,ru,.inr #[?_,c,hc,?_]]
   .exact .inl (S.cells _ j6)
   .rcases lk with⟨kl,_⟩|⟨_,c',y_,q8⟩
    .rw[m4]at kl;cases kl
    .have:c=c':=by
      have:=c1 _ c hc;rw[y_]at this;exact(Option.some.inj this).symm
     subst this;obtain⟨o,ho,hd⟩:=q8;exact#[o,k _ _ ho,hd]
 .obtain⟨v,o,ho,hd⟩:=I.cell n c (c1 n c e);exact#[v,o,k _ _ ho,hd]
 .show(σ++[p7]).length=(X.N.map _++[x]).length;rw[EG,EG,En,I.len];rfl
end
def fu(wi:TI)(tt:TT)(telt:TE):TE:=λσ H Q=>wi σ H λJ H1=>∀D,H1 D=p7->∃W:Nat->Nat->Hp->Prop,(∃m,W 0 m (upd H1 D (.lst [])))/\∀i m H,W i m H->
 (J.stop i H/\Q (.ref D) H)\/(J.go i H/\∀x H',J.yld i H x H'->tt (σ++[be x]) H' λb H1=>if b=true then telt (σ++[be x]) H1 λy H''=>∃vs,H'' D=be (.lst vs)/\vs.length<sizeLine/\∃m',m'<m/\W (i+1) m' (upd H'' D (.lst (vs++[y])))else ∃m',m'<m/\W (i+1) m' H1)
def PIf(X:Cx)(ifs:List PV)(t:TT):Prop:=
 ∀(pins:List (KM×Qc)) (s:KF) (σ:St) (H:Hp) (Q:Bool->Hp->Prop),Inv X pins σ H s->t σ H Q->PY (PU X.prog X.w) X.A (js ifs X.env) (TP X pins σ Q) X.xe s
def pif_nil{X:Cx}:PIf X [] (λ_ H Q=>Q true H):=λpins s σ H Q I q=>wpAny_tests_nil #[H,I,q]
def PIf.anti{X:Cx}{e:List PV}{t t':TT}(h:PIf X e t)(a:∀s H Q,t' s H Q->t s H Q):PIf X e t':=λpins s σ H Q I q=>h pins s σ H Q I (a _ _ _ q)
section
variable {X:Cx}
variable{d_ iter:PV}{ifs:List PV}{x:E_}{px pos:Qa}{scope:Qk}{tt:TT}{telt:TE}
def qE{pins:List (KM×Qc)}{s2:KF}{σ:St}{H1:Hp}{cl:List (E_×KM)}{it:KM}{fp:List KM}{tn:Nat->P4->Prop}{J:It}{Qs:Hp->Prop}{R:Rq->KF->Prop}{W:Nat->Nat->Hp->Prop}{m0:Nat}{h₁:P4}(hc:X.calm=true)(S:CompScope X scope x)
  (hq:∀cl s₀ H₀ fp,PIf (bg X scope cl x s₀ H₀ fp) ifs tt) (he:∀cl s₀ H₀ fp,PE (bg X scope cl x s₀ H₀ fp) d_ telt) (c1:∀n c,cl.lookup n=be c->X.env.cells.lookup n=be c) (c2:∀n,(n,NameKind.free)∈scope.names->∃c,cl.lookup n=be c)
  (I1:Inv X pins σ H1 s2) (T:Turn X.prog X.w X.K (.Name x px) J fp it tn) (st:tn 0 s2.heap) (f1:∀b∈fp,FpOk X pins H1 b) (w0:W 0 m0 (upd H1 s2.heap.objs.size (.lst [])))
  (step:∀i m H,W i m H->(J.stop i H/\Qs H)\/(J.go i H/\∀x H',J.yld i H x H'->tt (σ++[be x]) H' λb H1=>if b=true then telt (σ++[be x]) H1 λy H''=>∃vs,H'' s2.heap.objs.size=be (.lst vs)/\vs.length<sizeLine/\∃m',m'<m/\W (i+1) m' (upd H'' s2.heap.objs.size (.lst (vs++[y])))else ∃m',m'<m/\W (i+1) m' H1))
  (I4:Inv (bg X scope cl x {s2 with heap:=s2.heap.push {cls:=.type "list",data:=.seq ([]:List KB).toArray},toks:=s2.toks} (upd H1 s2.heap.objs.size (.lst [])) fp) [] (σ++[p7]) (upd H1 s2.heap.objs.size (.lst [])) {s2 with heap:=h₁,toks:=s2.toks+([]:List (E_×KB)).length}) (t0:tn 0 h₁)
  (Ir:∀H' s4 m,Inv X pins σ H' s4->s4.heap.Ns (s2.heap.push {cls:=.type "list",data:=.seq ([]:List KB).toArray}).objs.size m->H' (s2.heap.push {cls:=.type "list",data:=.seq ([]:List KB).toArray}).objs.size=p7->Qs H'->R (.ok .next) s4):
  QJ (PU X.prog X.w) X.A (.compLoop (.ListComp d_ [#[.Name x px,iter,ifs,0]] scope pos) 0 (.ref it) (.ref s2.heap.objs.size) (QU scope cl (s2.heap.push {cls:=.type "list",data:=.seq ([]:List KB).toArray}).objs.size X.env)) R {s2 with heap:=h₁,toks:=s2.toks+([]:List (E_×KB)).length}:=by
 have fI:∀b∈fp,b<s2.heap.objs.size:=λb hb=>by
  obtain⟨o,ho,_⟩:=T.obj _ _ st b hb;exact Heap.lt_size ho
 have I3:Inv X pins σ (upd H1 s2.heap.objs.size (.lst [])) {s2 with heap:=s2.heap.push {cls:=.type "list",data:=.seq ([]:List KB).toArray},toks:=s2.toks}:=I1.lnew (its:=[]) (ys:=[]) .nil (EI _);have g8:∀b∈fp,b<(s2.heap.push {cls:=.type "list",data:=.seq ([]:List KB).toArray}).objs.size:=λb hb=>by
  rw[Heap.size_push];exact FI (fI b hb)
 have k6:∀b∈fp,FpOk X pins (upd H1 s2.heap.objs.size (.lst [])) b:=λb hb=>#[MX,(f1 b hb).2];have z9:=jt (x:=x) (fp:=fp) I3 S c1 c2 k6 g8;generalize hY:bg X scope cl x {s2 with heap:=s2.heap.push {cls:=.type "list",data:=.seq ([]:List KB).toArray},toks:=s2.toks} (upd H1 s2.heap.objs.size (.lst [])) fp=Y at I4 z9;have yP:Y.prog=X.prog:=JC
 have yW:Y.w=X.w:=JC
 have yK:Y.K=X.K:=JC
 have yA:Y.A=X.A:=JC
 have yN:Y.N=X.N.map (λn=>if n=x then("":E_)else n)++[x]:=JC
 have yE:Y.env=QU scope cl (s2.heap.push {cls:=.type "list",data:=.seq ([]:List KB).toArray}).objs.size X.env:=JC
 have yX:Y.xe=λ_ _=>False:=JC
 have yC:Y.calm=true:=by rw[<-hY];exact hc
 have JD:Y.ex=fp:=JC
 have La:Y.pn=[]:=JC
 have Lb:Y.fs=frs X.stack:=JC
 have Lc:Y.H₀=upd H1 s2.heap.objs.size (.lst []):=JC
 have JE:Y.s₀={s2 with heap:=s2.heap.push {cls:=.type "list",data:=.seq ([]:List KB).toArray},toks:=s2.toks}:=JC
 have Oe:PE Y d_ telt:=by rw[<-hY];exact he _ _ _ _
 have Ld:PIf Y ifs tt:=by rw[<-hY];exact hq _ _ _ _
 have g_:∀{H':Hp},(∀b∈fp,H' b=p7)->∀b∈fp,FpOk Y [] H' b:=λ{H'} hn b hb=>by
  have i6:b∈Y.ex:=by rw[JD];exact hb
  exact#[hn b hb,(z9.exf b i6).1,z9.exfs b i6,.inl i6,λn c e=>(z9.exf b i6).2 n c e,by rw[La];simp]
 have v_:Y.env.scope.names.lookup x=be .local:=by rw[yE];exact Rv S.own
 have JF:Y.N[X.N.length]?=be x:=by rw[yN];simp
 have Le:Y.N.Nodup:=by rw[yN];exact S.nd
 have Iu:Y.env.locals=(s2.heap.push {cls:=.type "list",data:=.seq ([]:List KB).toArray}).objs.size:=by rw[yE];rfl
 have e_:∀(o:Option V) (H':Hp) (s':KF),Inv Y [] (σ++[o]) H' s'->Inv X pins σ H' s':=λo H' s' I'=>by
  have bs:=I'.base;rw[Lb,JD,Lc,JE]at bs;refine I3.call' (ch:=fp) ?_ bs ?_ I'.bare ?_
  .have:=I'.os;rw[JE]at this;exact this
  .have:=I'.hok;rw[yP,yW]at this;exact this
  .exact λb hb=>#[(k6 b hb).2.2.2.1,(k6 b hb).2.1,(k6 b hb).2.2.2.2.1,(k6 b hb).2.2.2.2.2]
 refine xF (λn s'=>∃i o H',Inv Y [] (σ++[o]) H' s'/\tn i s'.heap/\(∀b∈fp,H' b=p7)/\W i n H') ?_ m0 #[0,p7,_,I4,t0,λb hb=>(k6 b hb).1,w0];rintro n s3⟨i,o,H3,I5,t3,f3,w3⟩;rcases step i n H3 w3 with⟨stop,q⟩|⟨go,q⟩
 .have dn:=T.done Y yP yW yK yC i [] s3 _ H3 (λ_ _=>False) I5 (g_ f3) t3 stop;rw[yA]at dn;refine thn dn λr s4 b_=>?_;obtain⟨hr,I6⟩:=b_;subst hr;obtain⟨m,hn,_⟩:=I6.loc;have hfr:=I6.free;rw[Iu]at hn hfr;exact Ir H3 s4 m (e_ o H3 s4 I6) hn hfr q
 .have JH:=T.item Y yP yW yK yC i [] s3 _ H3 (λ_ _=>False) I5 (g_ f3) t3 go;rw[yA]at JH;refine thn JH λr s4 b_=>?_;obtain⟨u,hr,h4⟩:=b_;subst hr;refine thn h4 λ_ s5 b_=>?_;obtain⟨xv,H5,I6,r5,y5,m8,Jp⟩:=b_;have Lf:=I6.pinned (g_ Jp) (T.obj _ _ m8);rw[<-yE];refine QI (cZ Lf Le JF (.inl v_) r5 (λs6 I7=>?_) (.inr v_));have Iv:(σ++[o]).set X.N.length (be xv)=σ++[be xv]:=by
   rw[<-I1.len];simp
  rw[Iv]at I7;have tv:=Ld _ s6 _ H5 _ I7 (q xv H5 y5);rw[yP,yW,yA,yX]at tv;refine thn tv λb Ks b_=>?_;obtain⟨Lg,Hx,qb⟩:=b_;cases b with
  |false=>
   obtain⟨m',hm,w7⟩:=qb;refine#[m',hm,i+1,be xv,_,Hx.unpinned,T.keep _ _ _ m8 λb hb ob e=>(Hx.pin (b,ob) (Es _ (Es _ (bX hb e)))).1,λb hb=>?_,w7];obtain⟨ob,e,d⟩:=T.obj _ _ m8 b hb;exact(Hx.pin (b,ob) (Es _ (Es _ (bX hb e)))).2.1
  |true=>
  have ev:=Oe _ Ks _ Lg _ Hx qb;rw[yP,yW,yA,yX]at ev;refine thn ev λyv s7 b_=>?_;obtain⟨y,H6,I8,ry,vs,Lh,c5,m',hm,w7⟩:=b_;have ap:=fR (X:=Y) _ s7 _ H6 (.ref s2.heap.objs.size) [y] (.ref s2.heap.objs.size) [yv] (λ_ H7=>H7=upd H6 s2.heap.objs.size (.lst (vs++[y]))) I8 rfl (.cons ry .nil) #[_,vs,y,rfl,rfl,Lh,c5,rfl];rw[yP,yW,yA,yX]at ap;refine thn ap λ_ s8 b_=>?_;obtain⟨_,H7,I9,_,e7⟩:=b_;subst e7;refine#[m',hm,i+1,be xv,_,I9.unpinned,T.keep _ _ _ m8 λb hb ob e=>(I9.pin (b,ob) (Es _ (Es _ (bX hb e)))).1,λb hb=>?_,w7];obtain⟨ob,e,d⟩:=T.obj _ _ m8 b hb;exact(I9.pin (b,ob) (Es _ (Es _ (bX hb e)))).2.1
def xG{wi:TI}(hc:X.calm=true)(S:CompScope X scope x)(hi:PI X (.Name x px) iter wi)
  (hq:∀cl s₀ H₀ fp,PIf (bg X scope cl x s₀ H₀ fp) ifs tt) (he:∀cl s₀ H₀ fp,PE (bg X scope cl x s₀ H₀ fp) d_ telt) (hs:autoParam (∀y,zFS X iter y) zA2):
  PE X (.ListComp d_ [#[.Name x px,iter,ifs,0]] scope pos) (fu wi tt telt):=by
 intro pins s σ H Q I h;obtain⟨cl,q8,c1,c2⟩:=closure_is (env:=X.env) (scope:=scope) (λn q=>I.ok.has n (.inl (S.free n q)));rw[eval_ListComp];refine QL (use:=p7) rfl hs q8 S.kind S.names (thn (hi pins s σ H _ I h) λv s1 h1=>thn h1 λJn s2 h2=>?_);obtain⟨it,fp,tn,J,H1,e,I1,T,st,f1,hr⟩:=h2;subst e;have fI:∀b∈fp,b<s2.heap.objs.size:=λb hb=>by
  obtain⟨o,ho,_⟩:=T.obj _ _ st b hb;exact Heap.lt_size ho
 have hD:H1 s2.heap.objs.size=none:=I1.hok.fresh (Eg _);obtain⟨W,⟨m0,w0⟩,step⟩:=hr _ hD;refine P_ (QT S.nocell (by intro y hy;simp at hy) (λh₁ hns₁ hsb₁=>?_) S.kind);have I3:Inv X pins σ (upd H1 s2.heap.objs.size (.lst [])) {s2 with heap:=s2.heap.push {cls:=.type "list",data:=.seq ([]:List KB).toArray},toks:=s2.toks}:=I1.lnew (its:=[]) (ys:=[]) .nil (EI _);have g8:∀b∈fp,b<(s2.heap.push {cls:=.type "list",data:=.seq ([]:List KB).toArray}).objs.size:=λb hb=>by
  rw[Heap.size_push];exact FI (fI b hb)
 have k6:∀b∈fp,FpOk X pins (upd H1 s2.heap.objs.size (.lst [])) b:=λb hb=>#[MX,(f1 b hb).2];have kp:∀b o,(s2.heap.push {cls:=.type "list",data:=.seq ([]:List KB).toArray}).get? b=be o->h₁.get? b=be o:=λb o e=>
  (hsb₁.2 b (El (Heap.lt_size e))).trans (Heap.get?_push_of_some _ e)
 have I4:=ju (x:=x) (fp:=fp) (t':=s2.toks+([]:List (E_×KB)).length) I3 S c1 c2 k6 g8 hns₁ kp;have q9:(s2.heap.push {cls:=.type "list",data:=.seq ([]:List KB).toArray}).objs.size≠X.env.locals:=E3 I3.lt;have q_:∀z c,X.env.cells.lookup z=be c->c≠(s2.heap.push {cls:=.type "list",data:=.seq ([]:List KB).toArray}).objs.size:=λz c e=>by
  obtain⟨vv,oo,ho,_⟩:=I3.cell z c e;exact El (Heap.lt_size ho)
 have w6:∀p∈X.pn++pins,p.1≠(s2.heap.push {cls:=.type "list",data:=.seq ([]:List KB).toArray}).objs.size:=λp hp=>El (Heap.lt_size (I3.pin p hp).1);have k9:=qE (pos:=pos) (iter:=iter) (R:=Rb (PU X.prog X.w) X.A X.xe p7 (EP X pins σ Q) (.ref s2.heap.objs.size) (s2.heap.push {cls:=.type "list",data:=.seq ([]:List KB).toArray}).objs.size) hc S hq he c1 c2 I1 T st f1 w0 step I4 (T.keep _ _ _ st (λb hb ob e=>kp b ob (Heap.get?_push_of_some _ e))) λH' s4 m IX hn hfr q=>
  #[m,hn,λh' hsb=>#[.ref s2.heap.objs.size,H',IX.turned (t':=s4.toks) (it:=(s2.heap.push {cls:=.type "list",data:=.seq ([]:List KB).toArray}).objs.size) (λb ob hb e=>(hsb.2 b hb).trans e) hfr q9 (.inr I3.sz) q_ w6,rfl,q]]
 exact QR k9 (T.self _ _ _ _ _ (T.keep _ _ _ st (λb hb ob e=>kp b ob (Heap.get?_push_of_some _ e))) k9)
def qF{y:E_}{py m7:Qa}{wi:TI}{ix:Nat}(hc:X.calm=true)(S:CompScope X scope x)(hi:PI X (.Name x px) iter wi)
  (hq:∀cl s₀ H₀ fp,PIf (bg X scope cl x s₀ H₀ fp) ifs tt) (he:∀cl s₀ H₀ fp,PE (bg X scope cl x s₀ H₀ fp) d_ telt) (hN:X.N.Nodup) (JI:X.N[ix]?=be y) (hy:Loc X.env.scope y) (hf:zFN X y)
  (Hw:Qf (.ListComp d_ [#[.Name x px,iter,ifs,0]] scope pos) (be (.Name y py)) m7.line X.env=pure true) (hs:autoParam (∀y,zFS X iter y) zA2):
  PS X (.Assign [.Name y py] (.ListComp d_ [#[.Name x px,iter,ifs,0]] scope pos) m7) (tAsg (fu wi tt telt) (eX ix)):=by
 intro pins s σ H DE I h;have h:wi σ H λJ H1=>∀D,H1 D=p7->∃W:Nat->Nat->Hp->Prop,(∃m,W 0 m (upd H1 D (.lst [])))/\∀i m H,W i m H->
  (J.stop i H/\DE.nx (σ.set ix (be (.ref D))) H)\/(J.go i H/\∀x H',J.yld i H x H'->tt (σ++[be x]) H' λb H1=>if b=true then telt (σ++[be x]) H1 λy H''=>∃vs,H'' D=be (.lst vs)/\vs.length<sizeLine/\∃m',m'<m/\W (i+1) m' (upd H'' D (.lst (vs++[y])))else ∃m',m'<m/\W (i+1) m' H1):=h
 obtain⟨cl,q8,c1,c2⟩:=closure_is (env:=X.env) (scope:=scope) (λn q=>I.ok.has n (.inl (S.free n q)));rw[exec_Assign_Name_used _ _ _ _ Hw];refine Os (Qn (Os ?_));show PY _ X.A (do let _ <-comprehension (.ListComp d_ [#[.Name x px,iter,ifs,0]] scope pos) scope X.env _ (newList []) false (P7 iter X.env) (be (Qw (.Name y py) X.env))) _ _ s;refine Os (P8 (QL (use:=be (Qw (.Name y py) X.env)) (Q:=λ_ s'=>SP X pins DE .next s') rfl hs q8 S.kind S.names
  (thn (hi pins s σ H _ I h) λv s1 h1=>thn h1 λJn s2 h2=>?_)) (λ_ s' hq=>PX (PX hq)) λ_ _ e=>e)
 obtain⟨it,fp,tn,J,H1,e,I1,T,st,f1,hr⟩:=h2;subst e;have fI:∀b∈fp,b<s2.heap.objs.size:=λb hb=>by
  obtain⟨o,ho,_⟩:=T.obj _ _ st b hb;exact Heap.lt_size ho
 have hD:H1 s2.heap.objs.size=none:=I1.hok.fresh (Eg _);obtain⟨W,⟨m0,w0⟩,step⟩:=hr _ hD;refine P_ (QT S.nocell (by intro y hy;simp at hy) (λh₁ hns₁ hsb₁=>?_) S.kind);have I3:Inv X pins σ (upd H1 s2.heap.objs.size (.lst [])) {s2 with heap:=s2.heap.push {cls:=.type "list",data:=.seq ([]:List KB).toArray},toks:=s2.toks}:=I1.lnew (its:=[]) (ys:=[]) .nil (EI _);have g8:∀b∈fp,b<(s2.heap.push {cls:=.type "list",data:=.seq ([]:List KB).toArray}).objs.size:=λb hb=>by
  rw[Heap.size_push];exact FI (fI b hb)
 have k6:∀b∈fp,FpOk X pins (upd H1 s2.heap.objs.size (.lst [])) b:=λb hb=>#[MX,(f1 b hb).2];have kp:∀b o,(s2.heap.push {cls:=.type "list",data:=.seq ([]:List KB).toArray}).get? b=be o->h₁.get? b=be o:=λb o e=>
  (hsb₁.2 b (El (Heap.lt_size e))).trans (Heap.get?_push_of_some _ e)
 have I4:=ju (x:=x) (fp:=fp) (t':=s2.toks+([]:List (E_×KB)).length) I3 S c1 c2 k6 g8 hns₁ kp;have q9:(s2.heap.push {cls:=.type "list",data:=.seq ([]:List KB).toArray}).objs.size≠X.env.locals:=E3 I3.lt;have q_:∀z c,X.env.cells.lookup z=be c->c≠(s2.heap.push {cls:=.type "list",data:=.seq ([]:List KB).toArray}).objs.size:=λz c e=>by
  obtain⟨vv,oo,ho,_⟩:=I3.cell z c e;exact El (Heap.lt_size ho)
 have w6:∀p∈X.pn++pins,p.1≠(s2.heap.push {cls:=.type "list",data:=.seq ([]:List KB).toArray}).objs.size:=λp hp=>El (Heap.lt_size (I3.pin p hp).1);have k9:=qE (pos:=pos) (iter:=iter) (R:=Rb (PU X.prog X.w) X.A X.xe (be (Qw (.Name y py) X.env)) (λ_ s'=>SP X pins DE .next s') (.ref s2.heap.objs.size) (s2.heap.push {cls:=.type "list",data:=.seq ([]:List KB).toArray}).objs.size) hc S hq he c1 c2 I1 T st f1 w0 step I4 (T.keep _ _ _ st (λb hb ob e=>kp b ob (Heap.get?_push_of_some _ e))) λH' s4 m IX hn hfr q=>by
  show PY _ X.A (Qw (.Name y py) X.env (.ref s2.heap.objs.size)) _ _ s4;refine QI (ol IX hN JI hy (v:=.ref s2.heap.objs.size) rfl (λs5 I7 ⟨a,hsb,ha⟩=>?_) hf);have Li:(s2.heap.push {cls:=.type "list",data:=.seq ([]:List KB).toArray}).objs.size≠a:=by
   rcases ha with e|e
   .rw[e];exact q9
   .exact λz=>q_ y a e z.symm
  exact#[m,hn.sameBut hsb Li,λh' Kt=>#[_,H',I7.turned (t':=s5.toks) (it:=(s2.heap.push {cls:=.type "list",data:=.seq ([]:List KB).toArray}).objs.size) (λb ob hb e=>(Kt.2 b hb).trans e) hfr q9 (.inr I3.sz) q_ w6,q]]
 exact QR k9 (T.self _ _ _ _ _ (T.keep _ _ _ st (λb hb ob e=>kp b ob (Heap.get?_push_of_some _ e))) k9)
end
end L2
namespace My
def RepS.snoc{K:Ef}{B F H:Hp}{z:SD}{s:L2.St}{d:D}{v:V}(h:RepS K B F H z s)(r:Rep K F d v):RepS K B F H (z++[be d]) (s++[be v]):=by
 have no:=r.noown;have get:∀{j:Nat} {x:D},(z++[be d])[j]?=be (be x)->(j<z.length/\z[j]?=be (be x))\/(j=z.length/\x=d):=λ{j x} e=>by
  rcases Fq j z.length with q|q
  .rw[EW q]at e;exact .inl #[q,e]
  .rw[Fh q]at e;cases hz:j-z.length with
   |zero=>rw[hz]at e;simp at e;exact .inr #[Ig,e.symm]
   |succ n=>rw[hz]at e;simp at e
 have lt:∀{j:Nat},j<z.length->(s++[be v])[j]?=s[j]?:=λ{j} q=>EW (by rw[h.len];exact q);refine#[by rw[EG,EG,h.len];rfl,λj x e nx=>?_,λj ds e=>?_,λj k dj dk a e1 e2 e3 e4=>?_]
 .rcases get e with⟨q,e⟩|⟨q,rfl⟩
  .rw[lt q];exact h.val j x e nx
  .exact#[v,by rw[q,Fh (by rw[h.len];exact Eg _),h.len];simp,r]
 .rcases get e with⟨q,e⟩|⟨q,e⟩
  .rw[lt q];exact h.own j ds e
  .rw[<-e]at no;cases no
 .rcases get e1 with⟨q,e1⟩|⟨q,e1⟩
  .rcases get e2 with⟨q2,e2⟩|⟨q2,e2⟩
   .rw[lt q]at e3;rw[lt q2]at e4;exact h.apart j k dj dk a e1 e2 e3 e4
   .rw[<-e2]at no;cases no
  .rw[<-e1]at no;cases no
def okB:Bool->Bool->Prop->Prop->Prop
 |_,true,A,_=>A
 |false,false,_,B=>B
 |true,false,_,_=>False
def cmpG(nf:Bool)(tt:TDT)(te:TD)(z:SD)(R:D->Prop)(items:List D):Prop:=items.length<=100000/\∃W:Nat->List D->Prop,W 0 []/\(∀k x ys,items[k]?=be x->(nf=true->ys.length=k)->W k ys->tt (z++[be x]) λb=>okB nf b (te (z++[be x]) λy=>W (k+1) (ys++[y])) (W (k+1) ys))/\∀ys,(nf=true->ys.length=items.length)->W items.length ys->R (.lst ys)
def cmpP(te:TD)(z:SD)(R:D->Prop)(items:List D):Prop:=items.length<=100000/\∃W:Nat->List D->Prop,W 0 []/\(∀k x ys,items[k]?=be x->ys.length=k->W k ys->te (z++[be x]) λy=>W (k+1) (ys++[y]))/\∀ys,ys.length=items.length->W items.length ys->R (.lst ys)
def jw(ti:TDI)(te:TD):TD:=λz R=>ti z (cmpP te z R)
def dT1:TDT:=λ_ R=>R true
abbrev DIf(X:Cx)[Jx](ifs:List PV)(t:TDT):Prop:=PIf X ifs (lT X.K t)
variable{X:Cx}
def jx[Jx]:DIf X [] dT1:=pif_nil.anti λs H Q q=>by
 obtain⟨B,F,z,kf,rs,R,h1,h2⟩:=q;exact h2 true F H (Grow.refl kf.fh) h1
structure ItIs(K:Ef)(J:It)(F1 H1:Hp)(items:List D):Prop where
 go:∀k F' H',Grow F1 H1 F' H'->k<items.length->J.go k H'
 yld:∀k F' H' x H'',Grow F1 H1 F' H'->k<items.length->J.yld k H' x H''->H''=H'/\∃d,items[k]?=be d/\Rep K F' d x
 stop:∀F' H',Grow F1 H1 F' H'->J.stop items.length H'
def ItOk[Jx](K:Ef)(wi:TI)(ti:TDI):Prop:=∀{s:L2.St} {H B F:Hp} {z:SD} {P:List D->Prop} {Q:It->Hp->Prop},Kept B Jx.F0 F H->RepS K B F H z s->ti z P->(∀items J F1 H1,Grow F H F1 H1->P items->ItIs K J F1 H1 items->Q J H1)->wi s H Q
section
variable {X:Cx}
def jy[Jx]{K:Ef}{B F H F1 H1:Hp}{z:SD}{s:L2.St}{Q:VK}{R:D->Prop}{nf:Bool}{tt:TDT}{te:TD}{J:It}{items:List D}(kf:Kept B Jx.F0 F H)(g1:Grow F H F1 H1)(rs:RepS K B F H z s)(h2:∀D ys us F' H',H D=p7->F' D=p7->Grow F H F' H'->H' D=be (.lst us)->Reps K F' ys us->R (.lst ys)->Q (.ref D) H')
    (it:ItIs K J F1 H1 items) (hd:cmpG nf tt te z R items):
    ∀D,H1 D=p7->∃W:Nat->Nat->Hp->Prop,(∃m,W 0 m (upd H1 D (.lst [])))/\∀i m H,W i m H->
      (J.stop i H/\Q (.ref D) H)\/(J.go i H/\∀x H',J.yld i H x H'->lT K tt (s++[be x]) H' λb H1=>if b=true then lE K te (s++[be x]) H1 λy H''=>∃vs,H'' D=be (.lst vs)/\vs.length<sizeLine/\∃m',m'<m/\W (i+1) m' (upd H'' D (.lst (vs++[y])))else ∃m',m'<m/\W (i+1) m' H1):=by
  intro D hD;obtain⟨hz,W,w0,c9,out⟩:=hd;have Of:F1 D=none:=g1.fh.free hD;have hH:H D=none:=g1.hh.free hD;refine⟨λk m H'=>m=items.length-k/\k<=items.length/\∃F' ys us,Grow F1 H1 F' H'/\H' D=be (.lst us)/\F' D=p7/\Reps K F' ys us/\(ys.length<=k/\(nf=true->ys.length=k))/\W k ys,
    #[items.length,Iq,EI _,F1,[],[],#[Same.refl F1,g1.fh.trans (aO hD _),aO hD _,λb h _=>h],aD,Of,reps_nil.mpr rfl,#[Eg _,λ_=>rfl],w0],?_⟩
  rintro k m H'⟨rfl,hk,F',ys,us,G,hu,hF,ry,hl,w⟩;by_cases fI:k<items.length
  . refine .inr #[it.go k F' H' G fI,λx H'' hy=>?_];obtain⟨e,d,hd,rd⟩:=it.yld k F' H' x H'' G fI hy;subst e;refine#[B,F',z++[be d],kf.grow (g1.trans G),(rs.grow (g1.trans G)).snoc rd,_,c9 k d ys hd hl.2 w,λb F3 H3 g3 hb=>?_];have Lj:H3 D=be (.lst us):=g3.hh D _ hu;have Ku:F3 D=none:=g3.out D hF (by rw[hu];exact λq=>nomatch q);cases b with
    |false=>
      cases nf with
      |true=>exact hb.elim
      |false=>exact#[items.length-(k+1),Ig,rfl,Ig,F3,ys,us,G.trans g3,Lj,Ku,ry.mono g3.ff,#[Ig,λz=>nomatch z],hb]
    |true=>
    refine#[B,F3,z++[be d],(kf.grow (g1.trans G)).grow g3,((rs.grow (g1.trans G)).snoc rd).grow g3,_,(show te _ _ from by cases nf<;>exact hb),λy yv F2 H2 g2 hw rv=>?_];have Og:H2 D=be (.lst us):=g2.hh D _ Lj;have Hy:F2 D=none:=g2.out D Ku (by rw[Lj];exact λq=>nomatch q);have Po:us.length<=k:=by rw[ry.length];exact hl.1
    refine⟨us,Og,by     have:(100000:Nat)<sizeLine:=by decide
                        lia,items.length-(k+1),Ig,rfl,Ig,F2,ys++[y],us++[yv],?_,aD,Hy,((ry.mono g3.ff).mono g2.ff).append (dZ rv),#[Pl,λz=>by simp[hl.2 z]],hw⟩
    have GG:=(G.trans g3).trans g2;refine#[GG.ff,λb o e=>?_,λb o e=>?_,GG.out]
    . have ne:b≠D:=λq=>by rw[q,Hy]at e;cases e
      rw[au ne];exact GG.fh b o e
    . have ne:b≠D:=λq=>by rw[q,hD]at e;cases e
      rw[au ne];exact GG.hh b o e
  . have ek:k=items.length:=by lia
    subst ek;exact .inl #[it.stop F' H' G,h2 D ys us F' H' hH hF (g1.trans G) hu ry (out ys hl.2 w)]
variable{H:Hp}
def qG{F F' H':Hp}{D:KM}{us:List V}(GG:Grow F H F' H')(hu:H' D=be (.lst us))(hF:F' D=p7)(hH:H D=p7):Grow F H (upd F' D (.lst us)) H':=by
 refine#[GG.ff.trans (aO hF _),λb o e=>?_,GG.hh,λb h1 h3=>?_]
 .by_cases hb:b=D
  .subst hb;rw[aD]at e;cases e;exact hu
  .rw[au hb]at e;exact GG.fh b o e
 .have ne:b≠D:=λq=>h3 (q ▸ hH);rw[au ne];exact GG.out b h1 h3
variable {d_ iter:PV}{ifs:List PV}{x:E_}{px pos:Qa}{scope:Qk}{ti te:TD}{tt:TDT}{wi:TI}{Hz:TDI}
variable{K:Ef}
def qH[Jx]{nf:Bool}{G:SD->(D->Prop)->List D->Prop}(hG:∀z R items,G z R items->cmpG nf tt te z R items)(hI:ItOk K wi Hz){s:L2.St}{Q:VK}(q:lE K (λz R=>Hz z (G z R)) s H Q):fu wi (lT K tt) (lE K te) s H Q:=by
 obtain⟨B,F,z,kf,rs,R,h1,h2⟩:=q;exact hI kf rs h1 λitems J F1 H1 g1 hg it=>jy kf g1 rs (λD ys us F' H' hH hF GG hu ry hR=>h2 (.lst ys) (.ref D) _ H' (qG GG hu hF hH) hR (rep_lst.mpr #[D,us,rfl,aD,ry.mono (aO hF _)])) it (hG _ _ _ hg)
def cmpP.g{z:SD}{R:D->Prop}{items:List D}(h:cmpP te z R items):cmpG true dT1 te z R items:=
 let ⟨hz,W,w0,c9,out⟩:=h
 #[hz,W,w0,λk x ys e l w=>c9 k x ys e (l rfl) w,λys l w=>out ys (l rfl) w]
def itL[Jx]:ItOk K (oG K (lE K ti)) (dItL ti):=λ{s H B F z P Q} kf rs h1 h2=>by
 refine#[B,F,z,kf,rs,_,h1,λd v F1 H1 g1 hd rd=>?_];have key:∀(items:List D) (p:KM) (vs:List V),SqL K F1 p vs->Reps K F1 items vs->P items->∃a,V.ref p=.ref a/\(∃xs,SqL K H1 a xs)/\Q (Itl K a) H1:=λitems p vs hq rr hd=>by
  refine#[p,rfl,#[vs,g1.fh.seq hq],h2 items _ F1 H1 g1 hd #[λk F' H' G hk=>?_,λk F' H' x H'' G hk hy=>?_,λF' H' G=>?_]]
  .have n9:k<vs.length:=by rw[rr.length];exact hk
   exact#[vs,vs[k],G.hh.seq (g1.fh.seq hq),by simp[n9]]
  .obtain⟨e,hy⟩:=hy;obtain⟨d,e2,r2⟩:=rr.get' (hy vs (G.hh.seq (g1.fh.seq hq)));exact#[e,d,e2,r2.mono G.ff]
  .exact#[vs,G.hh.seq (g1.fh.seq hq),by rw[rr.length];exact Eg _]
 split at hd
 .obtain⟨p,vs,rfl,hq,rr⟩:=rep_lst.mp rd;exact key _ p vs (SqL.of hq) rr hd
 .obtain⟨p,vs,rfl,hq,rr⟩:=rep_rol.mp rd;exact key _ p vs hq rr hd
 .exact hd.elim
def itR[Jx]:ItOk K (oJ (pi (lE K ti) tNil)) (dItR ti):=λ{s H B F z P Q} kf rs h1 h2=>by
 refine#[B,F,z,kf,rs,_,h1,λd v F1 H1 g1 hd rd=>?_];split at hd
 .rename_i n;obtain⟨⟨b1,b2⟩,hd⟩:=hd;have hl:((Ej n.toNat).map λk=>D.int ((k:Nat):Int)).length=n.toNat:=by simp
  refine#[n,by rw[rep_int.mp rd],Ig,b2,h2 _ _ F1 H1 g1 hd #[λk F' H' G hk=>by rw[hl]at hk;exact hk,λk F' H' x H'' G hk hy=>?_,λF' H' G=>by show n.toNat<=_;rw[hl];exact Eg _]];rw[hl]at hk;obtain⟨e,rfl⟩:=hy;exact#[e,.int (k:Int),by simp[hk],rep_int.mpr (by congr 1;lia)]
 .exact hd.elim
def qI[Jx]{p1 p2:Qa}(hc:X.calm=true)(S:CompScope X scope x)(hm:X.mg "range"=p7)(hi:WDE X iter ti)(he:∀cl s₀ H₀ fp,WDE (bg X scope cl x s₀ H₀ fp) d_ te)(hg:autoParam (Gl X "range") zA0)
  (hs:autoParam (∀y,zFS X (.Call (.Name "range" p1) [iter] [] p2) y) zA2) (n8:autoParam (zSE X iter []) zA0) (f9:autoParam (P1 [iter] X.env=[(false,P7 iter X.env)]) zA0):WDE X (.ListComp d_ [#[.Name x px,.Call (.Name "range" p1) [iter] [] p2,[],0]] scope pos) (jw (dItR ti) te):=#[have hi:=hi.out;have he:=λcl s₀ H₀ fp=>(he cl s₀ H₀ fp).out;(xG hc S (fN hg hm (bj hi pa_nil n8) f9) (λ_ _ _ _=>jx) he hs).anti λs H Q q=>qH (λ_ _ _=>cmpP.g) itR q]
def xH[Jx]{E:Ends}{s:L2.St}{ix:Nat}(hI:ItOk K wi Hz)(q:lS K (dSet ix (jw Hz te)) E s H):tAsg (fu wi (lT K dT1) (lE K te)) (eX ix) E s H:=by
 obtain⟨B,F0,F,z,k,rs,ED,⟨P,h,j⟩,e⟩:=q;exact qH (λ_ _ _=>cmpP.g) hI #[B,F,z,k.kf,rs,P,h,λd v F' H' g hd rd=>e.nx _ _ F' H' (k.grow g) (j d hd) ((rs.grow g).set rd)]
def xI[Jx](ix:Nat){y:E_}{py m7:Qa}(hc:X.calm=true)(S:CompScope X scope x)(hN:X.N.Nodup)(hi:WDE X iter ti)(he:∀cl s₀ H₀ fp,WDE (bg X scope cl x s₀ H₀ fp) d_ te)(JI:autoParam (X.N[ix]?=be y) zA0)(hy:autoParam (Loc X.env.scope y) zA4)
  (hf:autoParam (zFN X y) zA3) (Hw:autoParam (Qf (.ListComp d_ [#[.Name x px,iter,[],0]] scope pos) (be (.Name y py)) m7.line X.env=pure true) zA0) (hs:autoParam (∀y,zFS X iter y) zA2):WDS X (.Assign [.Name y py] (.ListComp d_ [#[.Name x px,iter,[],0]] scope pos) m7) (dSet ix (jw (dItL ti) te)):=#[have hi:=hi.out;have he:=λcl s₀ H₀ fp=>(he cl s₀ H₀ fp).out;(qF hc S (oH hi) (λ_ _ _ _=>jx) he hN JI hy hf Hw hs).anti λE s H q=>xH itL q]
end
def el(scope fsc:Qk):List (E_×QB):=scope.names.map λ(n,k)=>if(k==NameKind.free&&fsc.kind== .function&&fsc.names.lookup n==be .cell)then(n,NameKind.cell)else(n,k)
def visB(l:List (E_×QB))(n:E_):Bool:=l.lookup n==be .local||l.lookup n==be .cell||l.lookup n==be .free
def dz(scope fsc:Qk)(N:List E_)(x:E_):Bool:=
 scope.kind== .function&&scope.names.all (λy=>!(y.2== .cell))&&scope.names.all (λy=>!(y.2== .local)||scope.names.lookup y.1==be .local)&&scope.names.lookup x==be .local &&
 scope.names.all (λy=>!(y.2== .free)||fsc.names.lookup y.1==be .cell)&&N.all (λn=>decide (n=x)||!visB (el scope fsc) n||scope.names.any (λy=>decide (y=(n,NameKind.free))))&&!visB (el scope fsc) "" &&
 scope.names.all (λy=>!(y.2== .free)||(el scope fsc).lookup y.1==be .cell)&&decide (N.map (λn=>if n=x then("":E_)else n)++[x]).Nodup
def qJ{l:List (E_×QB)}{n:E_}(h:l.lookup n=be .local\/l.lookup n=be .cell\/l.lookup n=be .free):visB l n=true:=by
 unfold visB;rcases h with h|h|h<;>rw[h]<;>rfl
def compScope{scope:Qk}{x:E_}(h:dz scope X.env.scope X.N x=true):CompScope X scope x:=by
 unfold dz at h;simp only[EH]at h;obtain⟨⟨⟨⟨⟨⟨⟨⟨h1,h2⟩,h3⟩,h4⟩,h5⟩,h6⟩,h7⟩,h8⟩,h9⟩:=h;have er:(RH scope X.env).names=el scope X.env.scope:=rfl;refine#[by simpa using h1,λy hy=>?_,λy hy e=>?_,by simpa using h4,λn hn=>?_,λn hn ne v=>?_,λv=>?_,λn hn=>?_,of_decide_eq_true h9]
 .have:=Fc.mp h2 y hy;simpa using this
 .have:=Fc.mp h3 y hy;rw[e]at this;simpa using this
 .have:=Fc.mp h5 _ hn;show X.env.scope.names.lookup n=be .cell;simpa using this
 .have:=Fc.mp h6 n hn;have v':visB (el scope X.env.scope) n=true:=qJ v;rw[v']at this;simp[ne]at this;exact this
 .have v':visB (el scope X.env.scope) ""=true:=qJ v;rw[v']at h7;cases h7
 .have:=Fc.mp h8 _ hn;rw[er];simpa using this
def putD(f:E_)(v:D):List (E_×D)->List (E_×D)
 |[]=>[(f,v)]
 |(g,x)::r=>if g=f then(g,v)::r else(g,x)::putD f v r
def RepF.put{K:Ef}{F:Hp}{f:E_}{d:D}{v:V}(r:Rep K F d v):∀{fs:List (E_×D)} {ws:List (E_×V)},RepF K F fs ws->RepF K F (putD f d fs) (putF f v ws)
 |[],ws,h=>by
  rw[repf_nil.mp h];exact repf_cons.mpr #[v,[],rfl,r,repf_nil.mpr rfl]
 |(g,x)::fs,ws,h=>by
  obtain⟨w,Iw,rfl,h1,h2⟩:=repf_cons.mp h;unfold putD putF;by_cases e:g=f
  .rw[if_pos e,if_pos e];exact repf_cons.mpr #[v,Iw,rfl,r,h2]
  .rw[if_neg e,if_neg e];exact repf_cons.mpr #[w,_,rfl,h1,RepF.put r h2]
def RepF.length{K:Ef}{F:Hp}:∀{fs:List (E_×D)} {ws:List (E_×V)},RepF K F fs ws->ws.length=fs.length
 |[],ws,h=>by rw[repf_nil.mp h];rfl
 |(g,x)::fs,ws,h=>by
  obtain⟨w,Iw,rfl,h1,h2⟩:=repf_cons.mp h;rw[Ex,Ex,RepF.length h2]
def ClsA(K:Ef)(x f:E_):Prop:=∃C,nsIn K Pi x=be (be (.ref C))/\Cls K C/\NoAttr K C f
section
variable {X:Cx}{a b c e:PV}{ta tb tc te:TD}{pos:Qa}
def dFld(x f:E_)(te:TD):TD:=λz R=>te z λd=>match d with|.obj y fs=>y=x/\∃d,fs.lookup f=be d/\R d|_=>False
variable{x:E_}
def jz[Jx]{f:E_}(h:ClsA X.K x f)(he:WDE X e te)(hb:autoParam (P6 e f X.env (P7 e X.env)=P7 e X.env) zA0):WDE X (.Attribute e f pos) (dFld x f te):=⟨have he:=he.out;(pf he hb).anti λs H Q q=>by
 obtain⟨C,hn,hc,hf⟩:=h;obtain⟨B,F,z,kf,rs,R,h1,h2⟩:=q;have fh:=kf.fh;refine#[B,F,z,kf,rs,_,h1,λd u F1 H1 g1 hx rx=>?_];split at hx
 .obtain⟨rfl,d,hl,hR⟩:=hx;obtain⟨a,C',dx,vs,rfl,j7,q,r⟩:=rep_obj.mp rx;rw[hn]at j7;cases j7;obtain⟨v,l,rv⟩:=r.look hl;exact#[a,C,dx,vs,v,rfl,g1.fh _ _ q,hc,hf,l,h2 d v F1 H1 g1 hR rv]
 .exact hx.elim⟩
def qK[Jx]{d:D}{v:V}{u:KB}(hm:X.mg x=be u)(r:RelV v u)(rd:∀H,Rep X.K H d v)(hg:autoParam (Gl X x) zA0)(hd:autoParam (zND x) zA1):DE X (.Name x pos) (dC d):=de_c (oq hg hm r hd) rd
def dA[Jx]{i:Int}(h:∃t,X.mg x=be (.int i t))(hg:autoParam (Gl X x) zA0)(hd:autoParam (zND x) zA1):WDE X (.Name x pos) (dC (.int i)):=⟨by
 obtain⟨t,h⟩:=h;exact qK (v:=.int i) h #[t,rfl] (λ_=>rep_int.mpr rfl) hg hd⟩
def eo[Jx]{y:E_}(h:∃t,X.mg x=be (.str y t))(hg:autoParam (Gl X x) zA0)(hd:autoParam (zND x) zA1):WDE X (.Name x pos) (dC (.str y)):=⟨by
 obtain⟨t,h⟩:=h;exact qK (v:=.str y) h #[t,rfl] (λ_=>rep_str.mpr rfl) hg hd⟩
end
abbrev SiD:=List D->(List (E_×D)->Prop)->Prop
def lSi(K:Ef)(C:KM)(S:SiD):Sp:=λvs H Q _=>∃a dx us H1 F ds,vs=.ref a::us/\H=upd (upd H1 dx (.own a)) a (.ins C dx [])/\H1 a=p7/\H1 dx=p7/\dx≠a/\Same F H1/\Reps K F ds us/\
 ∃R:List (E_×D)->Prop,S ds R/\∀fs ws HA F' H',Grow F H1 F' H'->R fs->H' a=be (.ins C HA ws)->F' a=p7->RepF K F' fs ws->Q .non H'
def CalM(P:PZ)(w:P2)(K:Ef)(mg:E_->Option KB)(base:P4)(n:Nat)(x:E_)(ps:List E_)(S:SiD):Prop:=
 ∃C f fd,nsIn K Pi x=be (be (.ref C))/\mg x=be (.ref C)/\Mk K C f/\FnOk P w K mg base (Exc.CX1 P w) n f fd ps (lSi K C S)/\Binds K fd ps []
def xJ(x:E_)(S:SiD)(t:TDA):TD:=λz R=>t z λds=>S ds λfs=>R (.obj x fs)
def jA[Jx]{pos:Qa}{n m:Nat}{ps:List E_}{S:SiD}{x:E_}{p:Qa}{e:PV}{es:List PV}{t:TDA}(M:CalM X.prog X.w X.K X.mg X.base n x ps S)(hr:Room m X.A)(ha:WDA X (e::es) t)(hg:autoParam (Gl X x) zA0)(hn:autoParam (n+1<=m) zA1)(e8:autoParam (zND x) zA1)
  (he:autoParam (zSE X e es) zA0) (c_:autoParam (zPL X pos es) zA0):WDE X (.Call (.Name x p) (e::es) [] pos) (xJ x S t):=⟨by
 have ha:=ha.out;obtain⟨C,f,fd,hns,m6,mk,F,hb⟩:=M;refine(iY mk F (hr.mono hn) hg m6 hb .nil fU ha e8 he c_).anti λs H Q q=>?_;obtain⟨B,F,z,kf,rs,R,h1,h2⟩:=q;have fh:=kf.fh;refine#[B,F,z,kf,rs,_,h1,λds vs F1 H1 g1 hx rx=>?_];intro a dx ha w9 t8;refine#[a,dx,vs,H1,F1,ds,by rw[E4],rfl,ha,w9,t8,g1.fh,rx,_,hx,λfs ws HA F' H' g hR l8 r_ rf=>#[rfl,?_]];have s1:Same F' (upd F' a (.ins C HA ws)):=aO r_ _;refine h2 (.obj x fs) (.ref a) (upd F' a (.ins C HA ws)) H' #[(g1.ff.trans g.ff).trans s1,λb o q=>?_,g1.hh.trans g.hh,λb q1 q2=>?_] hR (rep_obj.mpr #[a,C,HA,ws,rfl,hns,aD,RepF.mono s1 fs ws rf])
 .by_cases hb:b=a
  .subst hb;rw[aD]at q;cases q;exact l8
  .rw[au hb]at q;exact g.fh b o q
 .by_cases hb:b=a
  .subst hb;exact absurd (g1.hh.free ha) q2
  .rw[au hb];exact(g1.trans g).out b q1 q2⟩
abbrev TID:=SD->List (E_×D)->(List (E_×D)->Prop)->Prop
def lI(K:Ef)[J:Jx](x:E_)(t:TID):TS:=λE σ H=>∃C a dx ws F z fs,nsIn K Pi x=be (be (.ref C))/\σ[0]?=be (be (.ref a))/\H a=be (.ins C dx ws)/\J.B a=p7/\F a=p7/\Kept J.B J.F0 F H/\RepS K J.B F H z σ/\RepF K F fs ws/\
 ∃R:List (E_×D)->Prop,t z fs R/\∀k8 Iw F' H',Kept J.B J.F0 F' H'->R k8->H' a=be (.ins C dx Iw)->F' a=p7->RepF K F' k8 Iw->E.nx σ H'
abbrev DI(X:Cx)[Jx](x:E_)(st:List P0)(t:TID):Prop:=PSs X st (lI X.K x t)
structure WDI(X:Cx)[Jx](x:Str)(st:List P0)(t:TID):Prop where
 out:DI X x st t
section
variable {X:Cx}{x f:E_}{e:PV}{te:TD}{pos d9 p:Qa}{b7:List P0}{tr:TID}
def xK:TID:=λ_ fs R=>R fs
def xL(f:E_)(te:TD)(tr:TID):TID:=λz fs R=>te z λd=>fs.length<1000/\tr z (putD f d fs) R
def dB[Jx]:WDI X x [] xK:=⟨pss_nil.anti λE s H q=>by
 obtain⟨C,a,dx,ws,F,z,fs,hn,h0,l8,HB,r_,g,rs,rf,R,hR,k⟩:=q;exact k fs ws F H g hR l8 r_ rf⟩
def RepS.other{K:Ef}{B F H:Hp}{z:SD}{σ:L2.St}{a:KM}{o o':HO}(rs:RepS K B F H z σ)(h:H a=be o)(hl:∀vs,o≠.lst vs):RepS K B F (upd H a o') z σ:=
 ⟨rs.len,rs.val,λi ds e=>by
  obtain⟨b,vs,q1,q2,q⟩:=rs.own i ds e;have ne:b≠a:=by
   rintro rfl;rw[h]at q2;cases q2;exact hl vs rfl
  exact#[b,vs,q1,by rw[au ne];exact q2,q],rs.apart⟩
def bA[J:Jx]{ps:Qa}{sx:E_}(hA:ClsA X.K x f)(he:WDE X e te)(hr:WDI X x b7 tr)(hN:autoParam (X.N[0]?=be sx) zA0)(hv:autoParam (Vis X.env.scope sx) zA5)(hd:autoParam (zND sx) zA1)
  (i9:autoParam (zNC sx) zA1) (hs:autoParam (Qf e (be (.Attribute (.Name sx ps) f d9)) pos.line X.env=pure false) zA0):WDI X x (.Assign [.Attribute (.Name sx ps) f d9] e pos::b7) (xL f te tr):=⟨have he:=he.out;have hr:=hr.out;(iO (ph (dN (i:=0) hN hv hd i9) he hs) hr).anti λE s H q=>by
 obtain⟨C,a,dx,ws,F,z,fs,hn,h0,l8,HB,r_,g,rs,rf,R,hR,k⟩:=q;obtain⟨C',j7,hc,hf⟩:=hA;rw[hn]at j7;cases j7;refine#[_,F,z,g,rs,_,hR,λd v F2 H2 g2 hx rv=>?_];have k2:=g.grow g2;have Nb:=g2.hh a _ l8;have Hy:F2 a=none:=g2.out a r_ (by rw[l8];exact λz=>nomatch z);refine#[.ref a,h0,a,C,dx,ws,rfl,Nb,hc,hf,by rw[rf.length];exact hx.1,?_];have Oh:Same F2 (upd H2 a (.ins C dx (putF f v ws))):=λb o q=>by
  have ne:b≠a:=by rintro rfl;rw[Hy]at q;cases q
  rw[au ne];exact g2.fh b o q
 have z_:Same J.B (upd H2 a (.ins C dx (putF f v ws))):=λb o q=>by
  have ne:b≠a:=by rintro rfl;rw[HB]at q;cases q
  rw[au ne];exact k2.bh b o q
 exact#[C,a,dx,putF f v ws,F2,z,putD f d fs,hn,h0,aD,HB,Hy,#[z_,Oh,k2.f0,k2.out,k2.eb,k2.jf,k2.jo],(rs.grow g2).other Nb (λ_ z=>nomatch z),RepF.put rv (RepF.mono g2.ff fs ws rf),R,hx.2,k]⟩
end
section
variable {P:PZ}{w:P2}{K:Ef}{mg:E_->Option KB}{base:P4}
def xM{K:Ef}{B F H:Hp}{z:SD}{σ:L2.St}{v:V}(rs:RepS K B F H z σ):RepS K B F H (p7::z) (be v::σ):=
  ⟨by rw[Ex,Ex,rs.len],λi d e no=>by
    cases i with
    |zero=>cases e
    |succ i=>exact rs.val i d e no,λi ds e=>by
    cases i with
    |zero=>cases e
    |succ i=>exact rs.own i ds e,λi j di dj a e1 e2 e3 e4=>by
    cases i with
    |zero=>cases e1
    |succ i=>
      cases j with
      |zero=>cases e2
      |succ j=>rw[rs.apart i j di dj a e1 e2 e3 e4]⟩
def Cls.okI{x qual:E_}{st:P0}{f C:KM}{fd:P9}{N:List E_}{p0:E_}{ps:List E_}{k:Nat}{S:SiD}(T:Fun K "__init__" qual st f fd)(hb:Binds K fd (p0::ps) [])(F:FnScope (p0::N) (p0::ps) (ag st))(len:∀ds R,S ds R->ds.length=ps.length)
  (hns:nsIn K Pi x=be (be (.ref C))) (m6:mg x=be (.ref C)) (mk:Mk K C f)
  (b8:∀(cdv:KB) (A:P3) (outer:List QN) (s:KF) (H:Hp) (E:XK) (J:Jx),Room k (A.deeper (Qe qual (ag st) s.heap.objs.size f cdv))->
   ∃t,DI (cxOf (Exc.CX1 P w) P w K mg base (p0::N) qual (ag st) f cdv A outer s H E).nox x (aJ st) t/\∀ds R,S ds R->t (p7::startD N ds) [] R):CalM P w K mg base (k+1) x (p0::ps) S:=by
 refine#[C,f,fd,hns,m6,mk,Fun.okC T F (λvs H Q E h=>?_) (λcdv A outer s H vs Q E hr h=>?_),hb]
 .obtain⟨a,dx,us,H1,F,ds,rfl,_,_,_,_,_,rs,R,h,_⟩:=h;rw[Ex,Ex,rs.length,len ds R h]
 .obtain⟨a,dx,us,H1,F1,ds,rfl,rfl,ha,w9,t8,fh,rs,R,h,q⟩:=h
  letI:Jx:=#[H1,F1,λ_ _ _=>False]
  obtain⟨t,ht,hq⟩:=b8 cdv A outer s _ E inferInstance hr;have Fa:F1 a=none:=fh.free ha;have hl:L2.start (p0::N) (.ref a::us)=be (.ref a)::L2.start N us:=by
   unfold L2.start;rw[EJ,Ex,Ex,Nat.add_sub_add_right];rfl
  have s1:Same H1 (upd (upd H1 dx (.own a)) a (.ins C dx [])):=(aO w9 _).trans (aO (by rw[au (Ne.symm t8)];exact ha) _);refine#[_,ht.nox,C,a,dx,[],F1,p7::startD N ds,[],hns,by rw[hl];rfl,aD,ha,Fa,#[s1,fh.trans s1,Same.refl F1,λ_ h _=>h,rfl,Same.refl F1,λ_ h _=>h],?_,repf_nil.mpr rfl,R,hq ds R h,λk8 Iw F' H' g hR l8 r_ rf=>q k8 Iw dx F' H' #[g.f0,g.fh,g.bh,g.out] hR l8 r_ rf];rw[hl];exact xM (fj rs)
end
section
variable {X:Cx}{a b c e:PV}{ta tb tc te:TD}{pos:Qa}
def xN(t u:TD):TDI:=λz R=>t z λx=>u z λy=>match x,y with|.int i,.int j=>(-(2^62)<=i/\i<2^62/\-(2^62)<=j/\j<2^62)/\R ((Ej (j-i).toNat).map λk=>D.int (i+((k:Nat):Int)))|_,_=>False
def jB[Jx](i:Nat){x:E_}{p p1 p2:Qa}{body:List P0}{Nd:TSD}(hp:Ql (PU X.prog X.w) X.A X.env X.xe)(hc:X.calm=true)(hN:X.N.Nodup)(hm:X.mg "range"=p7)(ha:WDE X a ta)(i6:WDE X b tb)(hb:WDSs X body Nd)(hg:autoParam (Gl X "range") zA0)(hi:autoParam (X.N[i]?=be x) zA0)(hx:autoParam (Loc X.env.scope x) zA4)
  (hf:autoParam (zFN X x) zA3) (hs:autoParam (∀y,zFS X (.Call (.Name "range" p1) [a,b] [] p2) y) zA2) (n8:autoParam (zSE X a [b]) zA0) (Lk:autoParam (zSE X b []) zA0) (f9:autoParam (P1 [a,b] X.env=[(false,P7 a X.env),(false,P7 b X.env)]) zA0) (Ll:autoParam (P1 [b] X.env=[(false,P7 b X.env)]) zA0):WDS X (.For (.Name x p) (.Call (.Name "range" p1) [a,b] [] p2) body [] pos) (dFor i (xN ta tb) Nd):=⟨have ha:=ha.out;have i6:=i6.out;have hb:=hb.out;(de hp hc (um hg hm (bj ha (bj i6 pa_nil Lk) n8) f9 Ll) (eY hN hi hx hf) hb hs).anti λE s H q=>by
 obtain⟨B,F0,F,z,kp,rs,ED,h,e⟩:=q;refine#[B,F,z,kp.kf,rs,_,h,λd1 v1 F1 H1 g1 h1 r1=>?_];refine#[B,F1,z,kp.kf.grow g1,rs.grow g1,_,h1,λd2 v2 F2 H2 g2 h2 r2=>?_];split at h2
 .rename_i lo w_;obtain⟨bd,W,w0,c9,out⟩:=h2;have hl:((Ej (w_-lo).toNat).map λk=>D.int (lo+((k:Nat):Int))).length=(w_-lo).toNat:=by simp
  refine#[lo,w_,by rw[rep_int.mp r1,rep_int.mp r2],bd,iT (lo:=lo) (n:=(w_-lo).toNat) (λk s' H'=>∃F' z',Kept B F0 F' H'/\RepS X.K B F' H' z' s'/\W k z') #[F2,z,(kp.grow g1).grow g2,(rs.grow g1).grow g2,w0] ?_ ?_]
  .rintro k s' H' hk⟨F',z',k',r',w'⟩;exact#[B,F0,F',_,k',r'.set (d:=.int (lo+(k:Int))) (rep_int.mpr rfl),_,c9 k (.int (lo+(k:Int))) z' (by simp[hk]) w',#[λz3 s3 F3 H3 k3 h3 r3=>#[F3,z3,k3,r3,h3],e.rt,e.nx,λz3 s3 F3 H3 k3 h3 r3=>#[F3,z3,k3,r3,h3]]]
  .rintro s' H'⟨F',z',k',r',w'⟩;exact e.nx z' s' F' H' k' (out z' (by rw[hl];exact w')) r'
 .exact h2.elim⟩
def RepS.change[Jx]{K:Ef}{B F0 F H:Hp}{z:SD}{s:L2.St}{i:Nat}{ds Lm:List D}{a:KM}{n_:List V}(rs:RepS K B F H z s)(k:Kept B F0 F H)(ez:z[i]?=be (be (.own ds)))(q1:s[i]?=be (be (.ref a)))(hB:B a=p7)(hF:F a=p7)(r:Reps K F Lm n_):
  Kept B F0 F (upd H a (.lst n_))/\RepS K B F (upd H a (.lst n_)) (z.set i (be (.own Lm))) s:=by
 have same:∀{G:Hp},G a=p7->Same G H->Same G (upd H a (.lst n_)):=λ{G} ga gs b o eb=>by
  have ne:b≠a:=λz=>by rw[z,ga]at eb;cases eb
  rw[au ne];exact gs b o eb
 have r2:=rs.setOwn (i:=i) (a:=a) (vs:=n_) (ds:=Lm) hB hF r (λj dj hj e1 e2=>hj (rs.apart j i dj ds a e1 ez e2 q1));have es:s.set i (be (.ref a))=s:=by
  apply FH;intro n;by_cases hn:i=n
  .subst hn;rw[EU (Ev.mp q1).1,q1]
  .rw[Eu hn]
 rw[es]at r2;exact#[#[same hB k.bh,same hF k.fh,k.f0,k.out,k.eb,k.jf,k.jo],r2]
def Reps.put{K:Ef}{F:Hp}{d:D}{v:V}(r:Rep K F d v):∀{ds:List D} {vs:List V} (j:Nat),Reps K F ds vs->Reps K F (ds.set j d) (vs.set j v)
 |[],vs,j,h=>by rw[reps_nil.mp h];exact reps_nil.mpr rfl
 |x::ds,vs,0,h=>by
  obtain⟨u,us,rfl,h1,h2⟩:=reps_cons.mp h;exact reps_cons.mpr #[v,us,rfl,r,h2]
 |x::ds,vs,j+1,h=>by
  obtain⟨u,us,rfl,h1,h2⟩:=reps_cons.mp h;exact reps_cons.mpr #[u,_,rfl,h1,Reps.put r j h2]
def qL(i:Nat)(te ti:TD):TSD:=λE z=>match z[i]? with
 |some (be (.own ds))=>te z λd=>ti z λy=>match y with|.int k=>∃j,ixN ds.length k=be j/\E.nx (z.set i (be (.own (ds.set j d))))|_=>False
 |_=>False
def xO[Jx](i:Nat){x:E_}{p1 p2:Qa}(he:WDE X e te)(hb:WDE X b tb)(hN:autoParam (X.N[i]?=be x) zA0)(hv:autoParam (Vis X.env.scope x) zA5)(hd:autoParam (zND x) zA1)
  (i9:autoParam (zNC x) zA1)
  (ha:∀v,Qw (.Subscript (.Name x p1) b p2) X.env v=(do
   let ov <-Qu [v] (P7 (.Name x p1) X.env)
   let iv <-Qu [v,ov] (P7 b X.env)
   QV p2
   Qu [v,ov,iv] (Rm ov iv v)
   RG [v,ov,iv] []):=by intro _;rfl)
  (hs:autoParam (Qx [.Subscript (.Name x p1) b p2] e pos.line X.env=pure false) zA0) (hw:autoParam (Qy [.Subscript (.Name x p1) b p2] e X.env=pure none) zA0)
  (h1:autoParam ((P5 [.Subscript (.Name x p1) b p2] X.env).map (·.2)=[Qw (.Subscript (.Name x p1) b p2) X.env]) zA0):WDS X (.Assign [.Subscript (.Name x p1) b p2] e pos) (qL i te tb):=⟨have he:=he.out;have hb:=hb.out;(iQ he (uc (dN hN hv hd i9) hb pG ha) hs hw h1).anti λE s H q=>by
 obtain⟨B,F0,F,z,k,rs,ED,h,e⟩:=q;unfold qL at h;split at h
 .rename_i ds ez;refine#[B,F,z,k.kf,rs,_,h,λd v F1 H1 g1 hx rv=>?_];obtain⟨a,vs,q1,q2,q3,q4,q5⟩:=(rs.grow g1).own i ds ez;refine#[.ref a,q1,B,F1,z,k.kf.grow g1,rs.grow g1,_,hx,λy w F2 H2 g2 hy ry=>?_];split at hy
  .obtain⟨j,ej,hn⟩:=hy;have r2:=(rs.grow g1).grow g2;have k2:=(k.grow g1).grow g2;have Hy:F2 a=none:=g2.out a q4 (by rw[q2];exact λz=>nomatch z);refine#[a,vs,_,j,rfl,rep_int.mp ry,g2.hh _ _ q2,by rw[q5.length];exact ej,?_];obtain⟨k3,r3⟩:=r2.change k2 ez q1 q3 Hy (Reps.put (rv.mono g2.ff) j (q5.mono g2.ff));exact e.nx _ s F2 _ k3 hn r3
  .exact hy.elim
 .exact h.elim⟩
end
end My
namespace My
open Exc
abbrev XD:=E_->List (E_×D)->Prop
def ErrD(K:Ef)(F:Hp)(x:E_)(fs:List (E_×D))(C:KM)(od:Option KM):Prop:=
 nsIn K Pi x=be (be (.ref C))/\∃vs,RepF K F fs vs/\((od=p7/\vs=[])\/∃b,od=be b/\F b=be (.xd vs))
abbrev SpX:=List D->(D->Prop)->XD->Prop
def lSpX(K:Ef)(S:SpX):Sp:=λvs H Q E=>∃F ds,Same F H/\Reps K F ds vs/\∃(R:D->Prop) (RX:XD),S ds R RX/\(∀d v F' H',Grow F H F' H'->R d->Rep K F' d v->Q v H')/\
 ∀x fs C od F' H',Grow F H F' H'->RX x fs->ErrD K F' x fs C od->E (.ref C) od H'
def Exd(X:Cx)(H:Hp)(s:KF)(e C:KM)(od:Option KM):Prop:=
  H e=p7/\X.s₀.heap.get? e=p7/\(∀p∈X.pn,p.1≠e)/\
  ((∃sl vs,s.heap.get? e=be #[.ref C,od,.fields vs,sl]/\vs[1]?=be .none)\/
    ∃T fl,ExAt s.heap e C od T fl/\X.s₀.heap.get? T=p7/\H T=p7/\∀p∈X.pn,p.1≠T)
def XOk(X:Cx)[J:Jx]:Prop:=∀(σ:L2.St) (z:SD) (F H:Hp) (s:KF) (e C:KM) (od:Option KM) (x:E_) (fs:List (E_×D)),Inv X [] σ H s->Kept J.B J.F0 F H->RepS X.K J.B F H z σ->J.RX z x fs->ErrD X.K F x fs C od->Exd X H s e C od->X.xe (.ref e) s
variable{X:Cx}{pins:List (KM×Qc)}{σ:L2.St}{H:Hp}{s:KF}
def Inv.nopins(I:Inv X pins σ H s):Inv X [] σ H s:=I.pins_of λp hp=>by cases hp
section
variable {X:Cx}{k:Nat}{f:KM}{fd:P9}{ps:List E_}{sp:Sp}{E:XK}
def fv{pins:List (KM×Qc)}{σ:L2.St}{H:Hp}{s:KF}{Q:VK}{us:List KB}{vs:List V}(F:FnOk X.prog X.w X.K X.mg X.base (CX1 X.prog X.w) k f fd ps sp)(hr:Room k X.A)(hb:Binds X.K fd ps [])
  (hx:∀e s',CX1 X.prog X.w X.stack H s E e s'->X.xe e s') (I:Inv X pins σ H s) (r:Vals vs us) (h:sp vs H Q E):PY (PU X.prog X.w) X.A (call (.ref f) us) (EP X pins σ Q) X.xe s:=by
 have hl:us.length=ps.length:=by rw[<-L2.Vals.length r];exact F.len _ _ _ _ h
 have i6:=hb s us I.kIn (by rw[E4];exact hl);rw[E4]at i6;refine QY (QQ (F.run X.A X.stack s H #[us,[]] us vs Q E hr I.env0 i6 r h) λr s' hq=>?_);cases r with
 |error e=>exact hx e s' hq
 |ok fl=>
  cases fl with
  |ret u=>exact I.after hq
  |next=>exact False.elim hq
  |brk=>exact False.elim hq
  |cont=>exact False.elim hq
end
def bO{b:KM}(I:Inv X pins σ H s)(hex:X.ex=[])(q:s.heap.get? b=p7):X.s₀.heap.get? b=none:=by
 cases z:X.s₀.heap.get? b with
 |none=>rfl
 |some o=>
  obtain⟨o',z'⟩:=I.base.there b o z (by rw[hex];simp);rw[q]at z';cases z'
def pn_free{b:KM}(I:Inv X pins σ H s)(q:s.heap.get? b=p7):∀p∈X.pn,p.1≠b:=λp hp z=>by
 have:=(I.pin p (E2 _ hp)).1;rw[z,q]at this;cases this
def XOk.out[J:Jx](hx:XOk X)(hex:X.ex=[]){z:SD}{s':KF}{ev:KB}(I:Inv X pins σ H s)
  (h:CX1 X.prog X.w X.stack H s (λCv od H'=>∃x fs C F',Cv=.ref C/\Kept J.B J.F0 F' H'/\RepS X.K J.B F' H' z σ/\J.RX z x fs/\ErrD X.K F' x fs C od) ev s'):X.xe ev s':=by
 obtain⟨e,C,od,T,H',rfl,v7,hb,un,hok,JJ,ne,nT,He,HT,x,fs,C',F',hC,kk,rr,hR,er⟩:=h;cases hC;have I':Inv X pins σ H' s':=I.call' v7 un hok hb (λb z=>absurd z Iq);exact hx σ z F' H' s' e C od x fs (Inv.nopins I') kk rr hR er #[He,bO I hex ne,pn_free I ne,.inr #[T,.none,JJ,bO I hex nT,HT,pn_free I nT]]
abbrev CalX(P:PZ)(w:P2)(K:Ef)(mg:E_->Option KB)(base:P4)(n:Nat)(x:E_)(ps:List E_)(S:SpX):Prop:=Cal P w K mg base n x ps (lSpX K S)
def qM[J:Jx](S:SpX)(t:TDA):TD:=λz R=>t z λds=>S ds R (J.RX z)
variable{ps:List E_}{x:E_}
def dD[J:Jx]{pos:Qa}{n m:Nat}{S:SpX}{p:Qa}{e:PV}{es:List PV}{t:TDA}(C:CalX X.prog X.w X.K X.mg X.base n x ps S)(hx:XOk X)(hr:Room m X.A)(ha:WDA X (e::es) t)(hex:autoParam (X.ex=[]) zA0)(hg:autoParam (Gl X x) zA0)(hn:autoParam (n<=m) zA1)(e8:autoParam (zND x) zA1)
  (he:autoParam (zSE X e es) zA0) (c_:autoParam (zPL X pos es) zA0):WDE X (.Call (.Name x p) (e::es) [] pos) (qM S t):=⟨by
 have ha:=ha.out;obtain⟨f,fd,F,hb,hk,hm⟩:=C;intro pins s σ H Q I h;obtain⟨B,Fr,z,kf,rs,R,h1,h2⟩:=h;obtain rfl:B=J.B:=kf.eb;refine Qb (cG I hg hm ?_ e8);refine callWith_K (h₀:=X.base) I.ok.mod.kin hk (thn (ha pos pins s σ H (λvs H1=>lSpX X.K S vs H1 Q (λCv od H'=>∃x fs C F',Cv=.ref C/\Kept J.B J.F0 F' H'/\RepS X.K J.B F' H' z σ/\J.RX z x fs/\ErrD X.K F' x fs C od)) I #[_,Fr,z,kf,rs,_,h1,λds vs F1 H1 g1 hx rx=>?_]) λus s1 ⟨vs,H1,I1,r,q⟩=>#[I1.kIn,?_]) he c_
 .exact#[F1,ds,g1.fh,rx,R,J.RX z,hx,λd v F' H' g=>h2 d v F' H' (g1.trans g),λx fs C od F' H' g hR er=>#[x,fs,C,F',rfl,(kf.grow g1).grow g,(rs.grow g1).grow g,hR,er]]
 .exact fv F (hr.mono hn) hb (λe s' hq=>hx.out hex I1 hq) I1 r q⟩
section
variable {P:PZ}{w:P2}{K:Ef}{mg:E_->Option KB}{base:P4}
variable{N:List E_}
def qN{qual:E_}{scope:Qk}{f:KM}{cd:KB}{A:P3}{outer:List QN}{s:KF}{H:Hp}{E':XK}{pins:List (KM×Qc)}{σ:L2.St}{H':Hp}{s':KF}{e C T:KM}{od:Option KM}{fl:KB}
  (I':Inv (cxOf (CX1 P w) P w K mg base N qual scope f cd A outer s H E') pins σ H' s') (hx:ExAt s'.heap e C od T fl) (ne:s.heap.get? e=p7) (nT:s.heap.get? T=p7) (He:H' e=p7) (HT:H' T=p7) (hE:E' (.ref C) od H'):
  (cxOf (CX1 P w) P w K mg base N qual scope f cd A outer s H E').xe (.ref e) s':=by
 show PY _ _ (Ro _ _) _ _ _;unfold Ro;refine Os (note_next I'.ok.frames I'.stack rfl hx λh2 T2 j_ m_ j8=>fS (s:={s' with heap:=h2}) j_ λh3 Io t6=>?_);have f1:∀b,s'.heap.get? b=p7->s.heap.get? b=none:=λb q=>bO I' rfl q;have hok:HOk P w H' s'.heap:=I'.hok;have q2:s.heap.get? T2=p7/\H' T2=none:=m_.elim (λz=>by rw[z];exact#[nT,HT]) λz=>#[f1 _ (Heap.get?_none_of_le z),hok.fresh z];have Oi:∀b∈[T,e],s.heap.get? b=none:=λb hb=>by
  rcases Ei.mp hb with z|z
  .rw[z];exact nT
  .rw[Eh.mp z];exact ne
 have u2:Un (frs outer) [] H H' s.heap h2:=fT (show Un (frs outer) [] H H' s.heap s'.heap from I'.base) j8 Oi λb hb=>pN hb;have u3:Un (frs outer) [] H H' s.heap h3:=fT u2 t6 (λb hb=>by rw[Eh.mp hb];exact q2.1) λb hb=>by cases hb
 have k2:=fg hok j8 (λb hb=>I'.stkFree b hb) (λb hb=>by
  rcases Ei.mp hb with z|z
  .rw[z];exact HT
  .rw[Eh.mp z];exact He)
 have k3:=fg k2 t6 (λb hb=>by cases hb) (λb hb=>by rw[Eh.mp hb];exact q2.2);exact#[e,C,od,T2,H',rfl,I'.os,I'.bare,u3,k3,Io,ne,q2.1,He,q2.2,hE]
variable{ps:List E_}
def _root_.L2.Fun.okX{x:E_}{st:P0}{f:KM}{fd:P9}{k:Nat}{S:SpX}(T:Fun K x x st f fd)(F:FnScope N ps (ag st))(len:∀ds R RX,S ds R RX->ds.length=ps.length)
  (b8:∀(cdv:KB) (A:P3) (outer:List QN) (s:KF) (H:Hp) (E:XK) (J:Jx),Room k (A.deeper (Qe x (ag st) s.heap.objs.size f cdv))->XOk (cxOf (CX1 P w) P w K mg base N x (ag st) f cdv A outer s H E)->
   ∃t,DSs (cxOf (CX1 P w) P w K mg base N x (ag st) f cdv A outer s H E) (aJ st) t/\∀ds R RX,(∀z,J.RX z=RX)->S ds R RX->t {nx:=λ_=>R .non,rt:=R} (startD N ds)):FnOk P w K mg base (CX1 P w) (k+1) f fd ps (lSpX K S):=by
 refine Fun.okC T F (λvs H Q E h=>?_) (λcdv A outer s H vs Q E hr h=>?_)
 .obtain⟨F,ds,fh,rs,R,RX,h,_⟩:=h;rw[rs.length];exact len ds R RX h
 .obtain⟨F,ds,fh,rs,R,RX,h,q,qx⟩:=h
  letI:Jx:=#[H,F,λ_=>RX]
  have hx:XOk (cxOf (CX1 P w) P w K mg base N x (ag st) f cdv A outer s H E):=by
   intro σ z F' H' s' e C od y fs I kk rr hR er ⟨He,ne,_,hx⟩;have hE:E (.ref C) od H':=qx y fs C od F' H' #[kk.f0,kk.fh,kk.bh,kk.out] hR er;rcases hx with⟨sl,vs,h1,h2⟩|⟨T,fl,h1,h2,h3,_⟩
   .exact pO I h1 h2 He ne hE
   .exact qN I h1 ne h2 He h3 hE
  obtain⟨t,ht,hq⟩:=b8 cdv A outer s H E inferInstance hr hx;refine#[_,ht,H,F,F,startD N ds,#[Same.refl H,fh,Same.refl F,λ_ h _=>h,rfl,Same.refl F,λ_ h _=>h],fj rs,_,hq ds R RX (λ_=>rfl) h,#[λz' s' F' H' k hn _=>q _ _ F' H' #[k.f0,k.fh,k.bh,k.out] hn (rep_non.mpr rfl),λd v F' H' k hd rd=>q d v F' H' #[k.f0,k.fh,k.bh,k.out] hd rd,λ_ _ _ _ _ h _=>h.elim,λ_ _ _ _ _ h _=>h.elim]]
def Tx.okX{x:E_}{st:P0}{k:Nat}{S:SpX}(T:Tx K mg x st ps)(F:FnScope N ps (ag st))(len:∀ds R RX,S ds R RX->ds.length=ps.length)
  (b8:∀(f:KM) (cdv:KB) (A:P3) (outer:List QN) (s:KF) (H:Hp) (E:XK) (J:Jx),Room k (A.deeper (Qe x (ag st) s.heap.objs.size f cdv))->XOk (cxOf (CX1 P w) P w K mg base N x (ag st) f cdv A outer s H E)->
   ∃t,DSs (cxOf (CX1 P w) P w K mg base N x (ag st) f cdv A outer s H E) (aJ st) t/\∀ds R RX,(∀z,J.RX z=RX)->S ds R RX->t {nx:=λ_=>R .non,rt:=R} (startD N ds)):CalX P w K mg base (k+1) x ps S:=by
 obtain⟨f,fd,T,hb,hm⟩:=T;exact#[f,fd,T.okX F len λcdv A outer s H E J hr hx=>b8 f cdv A outer s H E J hr hx,hb,T.kp,hm]
end
variable{P:PZ}{w:P2}{a:KM}
def ObjOk.there{h:P4}{o:HO}(x:ObjOk P w H h a o):∃u,h.get? a=be u:=by
 cases o with
 |lst xs=>obtain⟨_,_,_,_,e⟩:=x;exact#[_,e]
 |tup xs=>obtain⟨_,_,_,o,e,_⟩:=x;exact#[_,e]
 |dK a9=>obtain⟨_,_,_,_,o,_,_,e,_⟩:=x;exact#[_,e]
 |dT a9=>obtain⟨_,_,_,_,o,_,_,e,_⟩:=x;exact#[_,e]
 |set S n=>obtain⟨o,_,_,_,e,_⟩:=x;exact#[_,e]
 |ins C dx fs=>obtain⟨_,_,_,e,_⟩:=x;exact#[_,e]
 |own y=>exact x
 |xd fs=>obtain⟨_,⟨_,_,_,e,_⟩,_⟩:=x;exact#[_,e]
 |rng lo hi=>obtain⟨_,_,_,e⟩:=x;exact#[_,e]
 |frz ob u=>obtain⟨e,_⟩:=x;exact#[_,e]
 |tbl ps=>exact#[_,(show h.get? a=be _ from x)]
 |met f y=>exact#[_,(show h.get? a=be _ from x)]
 |ext φ=>obtain⟨_,e,_⟩:=x;exact e
def jC{h:P4}(x:HOk P w H h)(e:h.get? a=p7):H a=none:=by
 cases q:H a with
 |none=>rfl
 |some o=>
  obtain⟨u,hu⟩:=ObjOk.there (x a o q);rw[e]at hu;cases hu
section
variable {X:Cx}{pins:List (KM×Qc)}{σ:L2.St}{H:Hp}{s:KF}{e:KM}
def Inv.adopt{φ:P4->Prop}(I:Inv X pins σ H s)(He:H e=p7)(ok:ObjOk X.prog X.w H s.heap e (.ext φ))(ne:X.s₀.heap.get? e=p7)(hl:e≠X.env.locals)(hc:∀x c,X.env.cells.lookup x=be c->c≠e)(hp:∀p∈X.pn++pins,p.1≠e):Inv X pins σ (upd H e (.ext φ)) s:=by
 refine#[I.ok,I.os,I.bare,#[I.base.keep,I.base.slot,λb o q n hx=>?_,I.base.there,λb xs q=>?_,λb o u q=>?_,λb ps q=>?_],I.loc,I.cell,?_,λx c q=>?_,λp IK=>?_,λa o q=>?_,I.len]
 .have:b≠e:=λz=>by rw[z,ne]at q;cases q
  rw[au this];exact I.base.free b o q n hx
 .have:=I.base.tups b xs q;rw[au (bL this He)];exact this
 .have:=I.base.frzs b o u q;rw[au (bL this He)];exact this
 .obtain⟨m,this⟩:=I.base.tbls b ps q;exact#[m,by rw[au (bL this He)];exact this]
 .rw[au (Ne.symm hl)];exact I.free
 .rw[au (hc x c q)];exact I.freeC x c q
 .obtain⟨h1,h2,h3⟩:=I.pin p IK;refine#[h1,?_,h3];rw[au (hp p IK)];exact h2
 .by_cases z:a=e
  .rw[z,aD]at q;cases q;rw[z];exact ok
  .rw[au z]at q;exact(I.hok a o q).stay (λb u _ r=>r) (λb r=>by rw[au (bL r He)];exact r) λb xs r=>by rw[au (bL r He)];exact r
end
structure ErrK(K:Ef)(mg:Str->Option KB)(x:Str)(C N:KM)(bm:List KB):Prop where
 ns:nsIn K Pi x=be (be (.ref C))
 mg:mg x=be (.ref C)
 kp:keepIn K (.ref C)=true
 obj:∃nm q bs sn sub ab col dd k0 k1 k2 k3 k5,K.lookup C=be (Qt nm q C N bs bm true sn sub ab col dd k0 k1 k2 k3 k5 "ValueError.__new__")
 tail:tailIn K veLine bm=true
structure ErrN(K:Ef)(N:KM):Prop where
 ok:nsOkIn K N=true
 no:nsIn K N "__init__"=be p7
def jD{K:Ef}:∀{l:List KB},tailIn K veLine l=true->excMro l=true
 |[],e=>by simp[tailIn,veLine]at e
 |v::r,e=>by
  unfold tailIn at e;rcases Bool.or_eq_true_iff.mp e with q|q
  .rw[beq_iff_eq.mp q];decide+kernel
  .split at q
   .split at q
    .simp only[EH,beq_iff_eq]at q;unfold excMro;exact jD q.2
    .cases q
   .cases q
variable{K:Ef}{mg:E_->Option KB}{C N:KM}{bm:List KB}
def ErrK.base(k:ErrK K mg x C N bm):bm.contains (.type "BaseException")=true:=exc_has Ip (jD k.tail)
section
variable {X:Cx}[J:Jx]{x:E_}{C N:KM}{bm:List KB}{e:PV}{es:List PV}{t:TDA}{p a_ pos:Qa}
def xP(x:E_)(t:TDA):TSD:=λ_ z=>t z λds=>ds.length<=1000/\J.RX z x []
def xQ(h:∃C N bm,ErrK X.K X.mg x C N bm/\ErrN X.K N)(hx:XOk X)(hc:X.calm=true)(ha:WDA X (e::es) t)(hex:autoParam (X.ex=[]) zA0)(hg:autoParam (Gl X x) zA0)(e8:autoParam (zND x) zA1)
  (he:autoParam (zSE X e es) zA0) (c_:autoParam (zPL X a_ es) zA0):WDS X (.Raise (be (.Call (.Name x p) (e::es) [] a_)) p7 pos) (xP x t):=⟨by
 have ha:=ha.out;obtain⟨C,N,bm,k,kn⟩:=h;intro pins s σ H D I h;obtain⟨B,F0,F,z,kf,rs,ED,h,ee⟩:=h;obtain rfl:B=J.B:=kf.eb;obtain⟨nm,q,bs,sn,sub,ab,col,dd,k0,k1,k2,k3,k5,lk⟩:=k.obj;refine wz (nm:=nm) (q:=q) (C:=C) (N:=N) (bs:=bs) (bm:=bm) (hdct:=true) (sn:=sn) (sub:=sub) (ab:=ab) (col:=col) (dd:=dd) (k0:=k0) (k1:=k1) (k2:=k2) (k3:=k3) (k5:=k5) (newId:="ValueError.__new__") k.base (I.ok.hd hc) ?_;refine Qb (cG I hg k.mg ?_ e8);refine callWith_K (h₀:=X.base) I.ok.mod.kin k.kp (thn (ha a_ pins s σ H (λvs H1=>∃F1,vs.length<=1000/\Grow F H F1 H1/\J.RX z x []) I #[_,F,z,kf.kf,rs,_,h,λds vs F1 H1 g1 hx rx=>#[F1,by rw[rx.length];exact hx.1,g1,hx.2]]) λus s1 hh=>#[hh.elim λ_ h=>h.elim λ_ h=>h.1.kIn,?_]) he c_;obtain⟨vs,H1,I1,r,F1,hl,g1,hR⟩:=hh;have hC:=I1.kIn _ _ lk;obtain⟨hp,gg,dr,tk,os⟩:=s1;refine wpAny_call_exc_subT PySem.F.excBase_ValueError (tail_of_in I1.kIn k.tail) hC (.of_isNs (isNs_of_in I1.kIn kn.ok)) (nsMap_none_of_in I1.kIn kn.ok kn.no) (λh' ea hm=>?_) (by show us.length<=_;rw[<-L2.Vals.length r];exact sz hl);obtain⟨ta,h1,h2,h3⟩:=hm.there;have I2:Inv X pins σ H1 #[h',gg,dr,tk,os]:=I1.kept (t':=tk) hm.keeps;refine#[ea,ta,p7,[].toArray,rfl,hm.keeps _ _ hC,h1,?_];exact hx σ z F1 H1 _ ea C p7 x [] (Inv.nopins I2) (kf.kf.grow g1) (rs.grow g1) hR #[k.ns,[],repf_nil.mpr rfl,.inl #[rfl,rfl]] #[jC I1.hok hm.new,bO I1 hex hm.new,pn_free I1 hm.new,.inl #[[].toArray,_,h1,rfl]]⟩
end
def xR{o:HO}(h:H a=be o):upd H a o=H:=by
 funext b;unfold upd;by_cases q:b=a
 .rw[if_pos q,q,h]
 .rw[if_neg q]
section
variable {M:Rj}{A:P3}{E:KB->KF->Prop}{h:P4}{g:Array GenState}{d:Drawn}{t:Nat}{os:OsState}
variable {nm q:E_}{C N:KM}{bs bm:List KB}{hdct:Bool}{sn:List E_}{sub:List KB}{ab:Bool}{col:Option Bool}{dd:Option KM}{k0 k1 k2 k3 k5:Option KB}{newId:String}
variable {Nf q':E_}{C' N':KM}{Ng JK:List KB}{JL:Bool}{Nh:List E_}{JM:List KB}{Ni:Bool}{JN:Option Bool}{Kv:Option KM}{Nj Nk Nl Nm Nn:Option KB}{Ix:String}
def xS{e:KM}{oe:Qc}{b:Bool}{Q:Bool->KF->Prop}(hC:h.get? C=be (Qt nm q C N bs bm hdct sn sub ab col dd k0 k1 k2 k3 k5 newId))(hD:h.get? C'=be (Qt Nf q' C' N' Ng JK JL Nh JM Ni JN Kv Nj Nk Nl Nm Nn Ix))
  (he:h.get? e=be oe) (v5:oe.cls=.ref C) (b9:JK.contains (.type "BaseException")=true) (hb:(Value.ref C::bm).contains (.ref C')=b) (hq:Q b #[h,g,d,t,os]):PY M A (excMatches (.ref e) (.ref C')) Q E #[h,g,d,t,os]:=by
 have K8:(Value.ref C'::JK).contains (.type "BaseException")=true:=by rw[Gj,b9,FZ]
 have f:=tc_notTuple;unfold excMatches
 repeat(first|(with_reducible refine QH he ?_;rw[v5])|with_reducible refine QH hD ?_|(with_reducible refine QW hD ?_;rw[K8])|(with_reducible refine QW hC ?_;rw[hb])|wp_step)
 cases b with
 |true=>wp_walk;exact hq
 |false=>wp_walk;exact hq
end
abbrev _root_.L2.Cx.held(X:Cx)(e:KM):Cx:={X with A:=X.A.mark (be (.ref e)),calm:=false,xe:=λ_ _=>False}
section
variable {X:Cx}{pins:List (KM×Qc)}{σ:L2.St}{H:Hp}{s:KF}{e:KM}
def Cx.Ok.held(ok:X.Ok):(X.held e).Ok:=
 #[ok.mod,ok.kind,ok.glob,ok.blt,ok.above,ok.inj,ok.has,ok.cab,(λz=>nomatch z),ok.frames,ok.stk,ok.exf,ok.bs,ok.bsz,ok.noex,ok.exfs,ok.funs,ok.frf]
def Inv.held(I:Inv X pins σ H s):Inv (X.held e) pins σ H s:=#[Cx.Ok.held I.ok,I.os,I.bare,I.base,I.loc,I.cell,I.free,I.freeC,I.pin,I.hok,I.len]
def Inv.unheld(ok:X.Ok)(I:Inv (X.held e) pins σ H s):Inv X pins σ H s:=#[ok,I.os,I.bare,I.base,I.loc,I.cell,I.free,I.freeC,I.pin,I.hok,I.len]
def SP.unheld{D:Ends}{f:Flow}{s':KF}(ok:X.Ok)(h:SP (X.held e) pins D f s'):SP X pins D f s':=by
 cases f with
 |next=>obtain⟨σ',H',I,q⟩:=h;exact#[σ',H',Inv.unheld ok I,q]
 |brk=>obtain⟨σ',H',I,q⟩:=h;exact#[σ',H',Inv.unheld ok I,q]
 |cont=>obtain⟨σ',H',I,q⟩:=h;exact#[σ',H',Inv.unheld ok I,q]
 |ret u=>obtain⟨v,σ',H',I,r,q⟩:=h;exact#[v,σ',H',Inv.unheld ok I,r,q]
def gl{M:Rj}{A:P3}{E:KB->KF->Prop}{i:Nat}{x:E_}{pos:Qa}{Q:Unit->KF->Prop}(I:Inv X pins σ H s)(hN:X.N.Nodup)(hi:X.N[i]?=be x)(hk:X.env.scope.names.lookup x=be .local)
  (h:∀s',Inv X pins (σ.set i p7) H s'->Q () s'):PY M A (do Rc X.env x .none;unbindBehindTheSuite X.env x pos) Q E s:=by
 obtain⟨m,hn,hl⟩:=id I.loc;have v5:(X.env.scope.kind== .class||(X.env.scope.kind== .module&&X.env.locals !=X.env.globals))=false:=by rw[I.ok.kind];rfl
 have hiσ:i<σ.length:=by rw[I.len];exact(Ev.mp hi).1
 have cne:=I.cne;refine wpAny_nameGoes_keeps hk hn v5 λh' v j7 hs=>?_;obtain⟨oL,_,_,MQ,_⟩:=id hn;have f_:HOk X.prog X.w H h':=λb ob e=>by
  refine(I.hok b ob e).stay (λc w' hc q=>(hs.2 c ?_).trans q) (λ_ q=>q) λ_ _ q=>q;rintro rfl;rcases hc with rfl|hc
  .rw[I.free]at e;cases e
  .rw[I.free]at hc;cases hc
 refine h _ #[I.ok,I.os,I.bare,#[λb o e n hb hx=>?_,λb o e n hb hx=>?_,I.base.free,λb o e hx=>?_,I.base.tups,I.base.frzs,I.base.tbls],#[_,j7,λj y v' e1 e2 e3=>?_],λy c e=>?_,I.free,I.freeC,λp hp=>?_,f_,by simpa using I.len]
 .exact(hs.2 b (El (EF (Heap.lt_size e) I.ok.above))).trans (I.base.keep b o e n hb hx)
 .obtain⟨sl,e1⟩:=I.base.slot b o e n hb hx;exact#[sl,(hs.2 b (El (EF (Heap.lt_size e) I.ok.above))).trans e1]
 .obtain⟨o',e1⟩:=I.base.there b o e hx;exact#[o',(hs.2 b (El (EF (Heap.lt_size e) I.ok.above))).trans e1]
 .by_cases hj:j=i
  .subst hj;rw[EU hiσ]at e2;cases e2
  .rw[Eu (Ne.symm hj)]at e2;obtain⟨u',r',q⟩:=hl j y v' e1 e2 e3;refine#[u',r',?_];rcases q with⟨k,e⟩|⟨k,c,e,z⟩
   .refine .inl #[k,?_];have:y≠x:=λe=>hj (iN hN e1 (e ▸ hi));simp[this,e]
   .exact .inr #[k,c,e,z.sameBut hs (cne y c e)]
 .obtain⟨w',z⟩:=I.cell y c e;exact#[w',z.sameBut hs (cne y c e)]
 .obtain⟨e,n,ne,nf,d⟩:=I.pin p hp;exact#[(hs.2 p.1 ne).trans e,n,ne,nf,d]
def Inv.stay{h':P4}{k8 ex:List KM}(I:Inv X pins σ H s)(st:Stay k8 ex s.heap h')(Kq:∀b∈k8,b∈frs X.stack)(hH:∀b∈ex,H b=p7)(h0:∀b∈ex,X.s₀.heap.get? b=p7)(hL:∀b∈ex,b≠X.env.locals)(hc:∀b∈ex,∀x c,X.env.cells.lookup x=be c->c≠b)
  (hp:∀b∈ex,∀p∈X.pn++pins,p.1≠b):Inv X pins σ H {s with heap:=h'}:=by
 have hok:HOk X.prog X.w H h':=fg I.hok st (λb hb=>I.stkFree b (Kq b hb)) hH;have sub:∀b∈k8,b=X.env.locals\/b∈X.fs:=λb hb=>Ei.mp (I.stkSub b (Kq b hb));have nL:∀b o,X.s₀.heap.get? b=be o->b≠X.env.locals:=λb o q=>El (EF (Heap.lt_size q) I.ok.above);have No:∀b o,X.s₀.heap.get? b=be o->b∉ex:=λb o q z=>by rw[h0 b z]at q;cases q
 have l9:∀x c v,X.env.cells.lookup x=be c->s.heap.IsCell c v->h'.IsCell c v:=λx c v e ⟨o,ho,hd⟩=>by
  obtain⟨sl,z⟩:=st.slot c o ho (λz=>hc c z x c e rfl);exact#[_,z,hd]
 refine#[I.ok,I.os,I.bare,#[λb o e n hb hx=>?_,λb o e n hb hx=>?_,I.base.free,λb o e hx=>?_,I.base.tups,I.base.frzs,I.base.tbls],?_,λy c e=>?_,I.free,I.freeC,λp IK=>?_,hok,I.len]
 .exact st.keep b o (I.base.keep b o e n hb hx) (No b o e) (λz=>(sub b z).elim (nL b o e) hb)
 .obtain⟨sl,e1⟩:=I.base.slot b o e n hb hx;obtain⟨l_,e2⟩:=st.slot b _ e1 (No b o e);exact#[l_,e2]
 .obtain⟨o',e1⟩:=I.base.there b o e hx;exact st.there b o' e1
 .obtain⟨m,⟨o,es,ep,ho,r⟩,hl⟩:=I.loc;obtain⟨sl,z⟩:=st.slot _ o ho (λz=>hL _ z rfl);refine#[m,#[_,es,ep,z,r],λj y v' e1 e2 e3=>?_];obtain⟨u',r',q⟩:=hl j y v' e1 e2 e3;refine#[u',r',?_];rcases q with q|⟨k,c,e,z⟩
  .exact .inl q
  .exact .inr #[k,c,e,l9 y c _ e z]
 .obtain⟨w',z⟩:=I.cell y c e;exact#[w',l9 y c _ e z]
 .obtain⟨e,n,ne,nf,d⟩:=I.pin p IK;exact#[st.keep _ _ e (λz=>hp _ z p IK rfl) (λz=>(sub _ z).elim ne nf),n,ne,nf,d]
end
def subE(x c:E_):Bool:=x==c||c=="MotifError"
structure ErrsK(K:Ef)(mg:Str->Option KB)(es:List Str):Prop where
 cls:∀x∈es,∃C N bm,ErrK K mg x C N bm
 sub:∀x∈es,∀y∈es,∀C C',nsIn K Pi x=be (be (.ref C))->nsIn K Pi y=be (be (.ref C'))->ES K C (.ref C')=be (subE x y)
def ErrsK.has{es:List E_}(k:ErrsK K mg es){y:E_}{C' N':KM}{JK:List KB}(hx:x∈es)(hy:y∈es)(a:ErrK K mg x C N bm)(b:ErrK K mg y C' N' JK):(Value.ref C::bm).contains (.ref C')=subE x y:=by
 have h:=k.sub x hx y hy C C' a.ns b.ns;obtain⟨nm,q,bs,sn,sub,ab,col,dd,k0,k1,k2,k3,k5,lk⟩:=a.obj;unfold ES GT at h;rw[lk]at h;simp only[Fs,List.isEmpty_cons,Bool.false_eq_true,if_false,Option.some.injEq]at h;exact h
structure Held(X:Cx)(pins:List (KM×Qc))(H:Hp)(s:KF)(e C:KM)(od:Option KM)(T:KM):Prop where
 ex:ExAt s.heap e C od T .none
 He:H e=p7
 HT:H T=p7
 e0:X.s₀.heap.get? e=p7
 T0:X.s₀.heap.get? T=p7
 eP:∀p∈X.pn++pins,p.1≠e
 TP:∀p∈X.pn++pins,p.1≠T
section
variable {X:Cx}{pins:List (KM×Qc)}{σ:L2.St}{H:Hp}{s:KF}
variable{vs:Array KB}
def eA{b:KM}{o:Qc}(I:Inv X pins σ H s)(h:s.heap.get? b=be o)(hd:o.data=.fields vs):b≠X.env.locals:=λz=>by
 obtain⟨m,⟨o',es,ep,ho,gV,_⟩,_⟩:=I.loc;rw[<-z,h]at ho;cases ho;rw[hd]at gV;cases gV
def fld_cell{b:KM}{o:Qc}(I:Inv X pins σ H s)(h:s.heap.get? b=be o)(hd:o.data=.fields vs):∀x c,X.env.cells.lookup x=be c->c≠b:=λx c q z=>by
 obtain⟨v,o',ho,gV⟩:=I.cell x c q;rw[z,h]at ho;cases ho;rw[hd]at gV;cases gV
variable{od:Option KM}
def Held.flight{e C T:KM}{h':P4}(I:Inv X pins σ H s)(k:Held X pins H s e C od T)(hx:ExAt h' e C od T .none)(st:Stay [] [T] s.heap h'):Inv X pins σ H {s with heap:=h'}/\Held X pins H {s with heap:=h'} e C od T:=by
 obtain⟨sl,vs,oT,ts,he,h1,m9,hT,gt,h3⟩:=k.ex;refine#[Inv.stay I st (λb hb=>by cases hb) (λb hb=>?_) (λb hb=>?_) (λb hb=>?_) (λb hb=>?_) (λb hb=>?_),#[hx,k.He,k.HT,k.e0,k.T0,k.eP,k.TP]]<;>rw[Eh.mp hb]
 .exact k.HT
 .exact k.T0
 .exact eA I hT gt
 .exact fld_cell I hT gt
 .exact k.TP
def XO.ok{P:PZ}{w:P2}{h:P4}{e C:KM}{sl:Array (Option KB)}(q:h.get? e=be #[.ref C,od,.fields vs,sl]):ObjOk P w H h e (XO e C od):=
 #[#[vs,sl,q],#[_,q],λh1 h2 ⟨vs,sl,q⟩ k=>#[vs,sl,k _ q]]
end
variable{B F:Hp}
def RepS.unset{z:SD}{s:L2.St}{i:Nat}(h:RepS K B F H z s):RepS K B F H (z.set i p7) (s.set i p7):=by
 have get:∀{j:Nat} {x:D},(z.set i p7)[j]?=be (be x)->j≠i/\z[j]?=be (be x):=λ{j x} e=>by
  by_cases hj:i=j
  .subst hj;rw[Fi]at e;simp at e
  .rw[Eu hj]at e;exact#[λz=>hj z.symm,e]
 refine#[by rw[Fb,Fb];exact h.len,λj x e nx=>?_,λj ds e=>?_,λj k dj dk a e1 e2 e3 e4=>?_]
 .obtain⟨hj,e⟩:=get e;rw[Eu (λz=>hj z.symm)];exact h.val j x e nx
 .obtain⟨hj,e⟩:=get e;rw[Eu (λz=>hj z.symm)];exact h.own j ds e
 .obtain⟨hj,e1⟩:=get e1;obtain⟨hk,e2⟩:=get e2;rw[Eu (λz=>hj z.symm)]at e3;rw[Eu (λz=>hk z.symm)]at e4;exact h.apart j k dj dk a e1 e2 e3 e4
abbrev TH:=E_->List (E_×D)->TSD
def DH(X:Cx)[J:Jx](hs:List Qj)(th:TH):Prop:=
 ∀(pins:List (KM×Qc)) (s:KF) (σ:L2.St) (H:Hp) (D:Ends) (e C:KM) (od:Option KM) (T:KM) (x:E_) (fs:List (E_×My.D)) (B F0 F:Hp) (z:SD) (ED:EndsD),Inv X pins σ H s->Held X pins H s e C od T->Kept B F0 F H->RepS X.K B F H z σ->ErrD X.K F x fs C od->
  th x fs ED z->EndsOk X.K B F0 ED D->PY (PU X.prog X.w) X.A (Q_ (.ref e) X.env hs) (SP X pins D) X.xe s
structure WDH(X:Cx)[Jx](hs:List Qj)(th:TH):Prop where
 out:DH X hs th
section
variable {X:Cx}[J:Jx]{es:List E_}{c:E_}{b₀:P0}{HU:List P0}{pos pc:Qa}{b7:List Qj}{t:TSD}{r:TH}
def xT:TH:=λ_ _ _ _=>False
def dHas(es:List E_)(c:E_)(i:Nat)(t:TSD)(r:TH):TH:=λx fs E z=>(x∈es/\c∈es)/\if subE x c=true then t {nx:=λz'=>E.nx (z'.set i p7),rt:=E.rt,bk:=λz'=>E.bk (z'.set i p7),ct:=λz'=>E.ct (z'.set i p7)} (z.set i (be (.exc x fs)))else r x fs E z
def xU:WDH X [] xT:=#[λ_ _ _ _ _ _ _ _ _ _ _ _ _ _ _ _ _ _ _ _ _ h _=>h.elim]
def xV(i:Nat){n:E_}(hE:ErrsK X.K X.mg es)(hN:X.N.Nodup)(hs:∀e,WDSs (X.held e) (b₀::HU) t)(hr:WDH X b7 r)(hg:autoParam (Gl X c) zA0)(hi:autoParam (X.N[i]?=be n) zA0)(hk:autoParam (X.env.scope.names.lookup n=be .local) zA0)(e8:autoParam (zND c) zA1):WDH X (.ExceptHandler (be (.Name c pc)) (be n) (b₀::HU) pos::b7) (dHas es c i t r):=⟨by
 have hs:=λe=>(hs e).out;have hr:=hr.out;intro pins s σ H D e C od T x fs B F0 F z ED I hd k rs er ht ee;obtain⟨⟨Kw,Np⟩,ht⟩:=ht;obtain⟨Cc,Nc,Pp,kc⟩:=hE.cls c Np;obtain⟨IL,Nx,Pq,kx⟩:=hE.cls x Kw;obtain rfl:IL=C:=by have h1:=kx.ns;rw[er.1]at h1;cases h1;rfl
 have hb:=hE.has Kw Np kx kc;obtain⟨nm,q,bs,sn,sub,ab,col,dd,k0,k1,k2,k3,k5,lk⟩:=kx.obj;obtain⟨Nf,q',Ng,Nh,JM,Ni,JN,Kv,Nj,Nk,Nl,Nm,Nn,Oj⟩:=kc.obj;refine wpAny_handleBy_cons (codeAny_handlers_test (cG (X:=X.held e) (Inv.held I) hg kc.mg ?_ e8)) (by intro q;cases q);obtain⟨sl,vs,oT,ts,he,h1,m9,hT,gt,h3⟩:=id hd.ex;refine xS (g:=s.gens) (d:=s.drawn) (t:=s.toks) (os:=s.os) (I.kIn _ _ lk) (I.kIn _ _ Oj) he rfl kc.base hb ?_;cases JO:subE x c with
 |true=>
  rw[JO,if_pos rfl]at ht;refine codeAny_handlers_suite_as (fS hd.ex λh' ge z6=>?_);obtain⟨I',gV⟩:=Held.flight I hd ge z6;obtain⟨l_,n_,_,_,Ln,_⟩:=id ge;have I2:Inv X pins σ (upd H e (XO e IL od)) {s with heap:=h'}:=Inv.adopt I' hd.He (XO.ok Ln) hd.e0 (eA I' Ln rfl) (fld_cell I' Ln rfl) hd.eP;refine cZ (X:=X.held e) (v:=.ref e) (Inv.held I2) hN hi (.inl hk) rfl (λs2 I3=>?_) (.inr hk);have g:=Grow.new k.fh hd.He (XO e IL od);obtain⟨ns,ws,rf,Lo⟩:=er;have Ol:Rep X.K (upd F e (XO e IL od)) (.exc x fs) (.ref e):=rep_exc.mpr #[e,IL,od,ws,rfl,ns,aD,RepF.mono g.ff fs ws rf,Lo.imp id λ⟨b,q1,q2⟩=>#[b,q1,g.ff _ _ q2]];have Om:EndsOk X.K B F0 {nx:=λz'=>ED.nx (z'.set i p7),rt:=ED.rt,bk:=λz'=>ED.bk (z'.set i p7),ct:=λz'=>ED.ct (z'.set i p7)} {nx:=λσ' H'=>D.nx (σ'.set i p7) H',rt:=D.rt,bk:=λσ' H'=>D.bk (σ'.set i p7) H',ct:=λσ' H'=>D.ct (σ'.set i p7) H'}:=
   #[λz' s' F' H' k hz r=>ee.nx _ _ F' H' k hz (RepS.unset r),ee.rt,λz' s' F' H' k hz r=>ee.bk _ _ F' H' k hz (RepS.unset r),λz' s' F' H' k hz r=>ee.ct _ _ F' H' k hz (RepS.unset r)]
  refine P8 (hs e pins s2 _ _ _ I3 #[B,F0,_,_,k.grow g,(rs.grow g).set Ol,_,ht,Om]) (λf s3 q=>?_) λ_ _ z=>False.elim z;have q':=SP.unheld I.ok q;cases f with
  |next=>obtain⟨σ',H',I4,q4⟩:=q';exact gl I4 hN hi hk λs5 I5=>#[_,H',I5,q4]
  |brk=>obtain⟨σ',H',I4,q4⟩:=q';exact gl I4 hN hi hk λs5 I5=>#[_,H',I5,q4]
  |cont=>obtain⟨σ',H',I4,q4⟩:=q';exact gl I4 hN hi hk λs5 I5=>#[_,H',I5,q4]
  |ret u=>obtain⟨v,σ',H',I4,rv,q4⟩:=q';exact gl I4 hN hi hk λs5 I5=>#[v,_,H',I5,rv,q4]
 |false=>
  rw[JO,if_neg Ew]at ht;exact hr pins s σ H D e IL od T x fs B F0 F z ED I hd k rs er ht ee⟩
end
abbrev _root_.L2.Cx.tried(X:Cx)(pn:List (KM×Qc))(xe:KB->KF->Prop):Cx:={X with pn:=pn,xe:=xe}
section
variable {X:Cx}{pn pins:List (KM×Qc)}{xe:KB->KF->Prop}{σ:L2.St}{H:Hp}{s:KF}
def Cx.Ok.tried(ok:X.Ok):(X.tried pn xe).Ok:=#[ok.mod,ok.kind,ok.glob,ok.blt,ok.above,ok.inj,ok.has,ok.cab,ok.hd,ok.frames,ok.stk,ok.exf,ok.bs,ok.bsz,ok.noex,ok.exfs,ok.funs,ok.frf]
def Inv.tried(I:Inv X pins σ H s):Inv (X.tried (X.pn++pins) xe) [] σ H s:=#[Cx.Ok.tried I.ok,I.os,I.bare,I.base,I.loc,I.cell,I.free,I.freeC,λp hp=>I.pin p (by simpa using hp),I.hok,I.len]
def Inv.untried(ok:X.Ok)(I:Inv (X.tried (X.pn++pins) xe) [] σ H s):Inv X pins σ H s:=#[ok,I.os,I.bare,I.base,I.loc,I.cell,I.free,I.freeC,λp hp=>I.pin p (by simpa using hp),I.hok,I.len]
def SP.untried{D:Ends}{f:Flow}{s':KF}(ok:X.Ok)(h:SP (X.tried (X.pn++pins) xe) [] D f s'):SP X pins D f s':=by
 cases f with
 |next=>obtain⟨σ',H',I,q⟩:=h;exact#[σ',H',Inv.untried ok I,q]
 |brk=>obtain⟨σ',H',I,q⟩:=h;exact#[σ',H',Inv.untried ok I,q]
 |cont=>obtain⟨σ',H',I,q⟩:=h;exact#[σ',H',Inv.untried ok I,q]
 |ret u=>obtain⟨v,σ',H',I,r,q⟩:=h;exact#[v,σ',H',Inv.untried ok I,r,q]
end
variable{RX:SD->XD}
def Kept.re{J:Jx}{F0:Hp}(k:@Kept J B F0 F H):@Kept #[B,F0,RX] B F0 F H:=@Kept.mk #[B,F0,RX] B F0 F H k.bh k.fh k.f0 k.out rfl (Same.refl F0) (λ_ h _=>h)
def Kept.un{J:Jx}{F0 F' H':Hp}(k:@Kept J B F0 F H)(k':@Kept #[B,F0,RX] B F0 F' H'):@Kept J B F0 F' H':=by
 obtain⟨a,b,c,d,_,_,_⟩:=k';exact @Kept.mk J B F0 F' H' a b c d k.eb k.jf k.jo
variable{hs:List Qj}
def try_core{h₀:Qj}{σ':L2.St}{H':Hp}{s':KF}{D:Ends}{e:KM}{od:Option KM}{xe:KB->KF->Prop}(I2:Inv X pins σ' H' s')
  (hd:Exd (X.tried (X.pn++pins) xe) H' s' e C od) (hex:X.ex=[]) (hstk:X.stack=X.env::X.outer) (hfr:X.env.frame=be X.env.locals)
  (hh:∀s4 T2,Inv X pins σ' H' s4->Held X pins H' s4 e C od T2->PY (PU X.prog X.w) X.A (Q_ (.ref e) X.env (h₀::hs)) (SP X pins D) X.xe s4):
  PY (PU X.prog X.w) X.A (Qv (.ref e) X.env) (λ_ s₂=>PY (PU X.prog X.w) X.A (QP (.ref e) p7) (λ_ s₃=>PY (PU X.prog X.w) X.A (Q_ (.ref e) X.env (h₀::hs)) (SP X pins D) X.xe s₃) X.xe s₂) X.xe s':=by
 obtain⟨He,e0,eP,hd⟩:=hd;have stk:s'.heap.FunFrames X.base (X.env::X.outer):=by rw[<-hstk];exact I2.stack
 have JP:X.A.frames=be (X.env::X.outer):=by rw[<-hstk];exact I2.ok.frames
 have e_:∀(x8:P4) (T2:KM) (ex:List KM),(∀b∈ex,H' b=p7/\X.s₀.heap.get? b=p7/\(∃o vs,s'.heap.get? b=be o/\o.data=.fields vs)/\∀p∈X.pn++pins,p.1≠b)->ExAt x8 e C od T2 (QD X.env.locals)->(H' T2=p7/\X.s₀.heap.get? T2=p7/\∀p∈X.pn++pins,p.1≠T2)->Stay (frs (X.env::X.outer)) ex s'.heap x8->
   PY (PU X.prog X.w) X.A (QP (.ref e) p7) (λ_ s₃=>PY (PU X.prog X.w) X.A (Q_ (.ref e) X.env (h₀::hs)) (SP X pins D) X.xe s₃) X.xe {s' with heap:=x8}:=by
  intro x8 T2 ex g7 j_ m_ j8;obtain⟨HS,T0,TP⟩:=m_;have I3:Inv X pins σ' H' {s' with heap:=x8}:=Inv.stay I2 j8 (λb hb=>by rw[hstk];exact hb) (λb hb=>(g7 b hb).1) (λb hb=>(g7 b hb).2.1) (λb hb=>let ⟨_,_,q1,q2⟩:=(g7 b hb).2.2.1;eA I2 q1 q2) (λb hb=>let ⟨_,_,q1,q2⟩:=(g7 b hb).2.2.1;fld_cell I2 q1 q2) (λb hb=>(g7 b hb).2.2.2);obtain⟨sl,vs,oT,ts,he,g1,m9,hT,gt,g3⟩:=id j_;refine fS (s:={s' with heap:=x8}) j_ λh3 Io t6=>?_;have I4:Inv X pins σ' H' {s' with heap:=h3}:=Inv.stay (s:={s' with heap:=x8}) I3 t6 (λb hb=>by cases hb) (λb hb=>by rw[Eh.mp hb];exact HS) (λb hb=>by rw[Eh.mp hb];exact T0) (λb hb=>by rw[Eh.mp hb];exact eA I3 hT gt) (λb hb=>by rw[Eh.mp hb];exact fld_cell I3 hT gt) (λb hb=>by rw[Eh.mp hb];exact TP);exact hh _ T2 I4 #[Io,He,HS,e0,T0,eP,TP]
 have new:∀T2,s'.heap.objs.size<=T2->H' T2=p7/\X.s₀.heap.get? T2=p7/\∀p∈X.pn++pins,p.1≠T2:=λT2 z=>
  have z8:s'.heap.get? T2=none:=Heap.get?_none_of_le z
  ⟨jC I2.hok z8,bO I2 hex z8,λp hp z=>by
   have:=(I2.pin p hp).1;rw[z,z8]at this;cases this⟩
 rcases hd with⟨sl,vs,he,hv⟩|⟨T,fl,HC,T0,HT,TP⟩
 .refine jd JP stk hfr he hv λx8 T2 j_ m_ j8=>e_ x8 T2 [e] (λb hb=>?_) j_ (new T2 m_) j8;rw[Eh.mp hb];exact#[He,e0,#[_,_,he,rfl],eP]
 .obtain⟨sl,vs,oT,ts,he,g1,m9,hT,gt,g3⟩:=id HC;refine note_next JP stk hfr HC λx8 T2 j_ m_ j8=>e_ x8 T2 [T,e] (λb hb=>?_) j_ (m_.elim (λz=>by rw[z];exact#[HT,T0,TP]) (new T2)) j8;rcases Ei.mp hb with z|z
  .rw[z];exact#[HT,T0,#[_,_,hT,gt],TP]
  .rw[Eh.mp z];exact#[He,e0,#[_,_,he,rfl],eP]
def dTry(tb:Jx->TSD)(th:TH):TSD:=λE z=>∃RX:SD->XD,(∀J:Jx,J.RX=RX->tb J E z)/\∀z' x fs,RX z' x fs->th x fs E z'
def xW[J:Jx]{body:List P0}{h₀:Qj}{pos:Qa}{tb:Jx->TSD}{th:TH}
  (hb:∀(pn:List (KM×Qc)) (xe:KB->KF->Prop) (J':Jx),Ql (PU X.prog X.w) X.A X.env xe->@XOk (X.tried pn xe) J'->@DSs (X.tried pn xe) J' body (tb J'))
  (hh:DH X (h₀::hs) th) (hex:autoParam (X.ex=[]) zA0) (hstk:autoParam (X.stack=X.env::X.outer) zA0) (hfr:autoParam (X.env.frame=be X.env.locals) zA0):DS X (.Try body (h₀::hs) [] [] pos) (dTry tb th):=by
 intro pins s σ H D I h;obtain⟨B,F0,F,z,k,rs,ED,⟨RX,h1,h2⟩,ee⟩:=h;have ok:=I.ok;have hx:@XOk (X.tried (X.pn++pins) (λe s₁=>PY (PU X.prog X.w) X.A (Qv e X.env) (λ_ s₂=>PY (PU X.prog X.w) X.A (QP e p7) (λ_ s₃=>PY (PU X.prog X.w) X.A (Q_ e X.env (h₀::hs)) (SP X pins D) X.xe s₃) X.xe s₂) X.xe s₁)) #[B,F0,RX]:=by
  intro σ' z' F' H' s' e C od x fs I1 kk rr hR er hd;exact try_core (Inv.untried ok I1) hd hex hstk hfr λs4 T2 I4 hl=>hh pins _ σ' H' D e C od T2 x fs B F0 F' z' ED I4 hl (Kept.un k kk) rr er (h2 z' x fs hR) ee
 refine wpAny_Try_except (P8 (hb (X.pn++pins) _ #[B,F0,RX] PassesOwn.looking hx [] s σ H D (Inv.tried I) ?_) (λf s1 q=>?_) λe s1 q=>q)
 .refine#[B,F0,F,z,Kept.re k,rs,ED,h1 #[B,F0,RX] rfl,@EndsOk.mk #[B,F0,RX] _ _ _ _ _ (λz' s' F' H' k'=>ee.nx z' s' F' H' (Kept.un k k')) (λd v F' H' k'=>ee.rt d v F' H' (Kept.un k k')) (λz' s' F' H' k'=>ee.bk z' s' F' H' (Kept.un k k')) (λz' s' F' H' k'=>ee.ct z' s' F' H' (Kept.un k k'))]
 .have q:=SP.untried ok q;cases f with
  |next=>exact QC q
  |ret v=>exact q
  |brk=>exact q
  |cont=>exact q
def qO:tailIn K veLine veLine=true:=by
 unfold tailIn;rfl
variable{sl:Array (Option KB)}
def qP{c:KB}{d:Option KM}{es:Array DictEntry}{ep:Nat}(l:K.lookup N=be #[c,d,.dict es ep,sl])(h:es.toList.all (λe=>match e.key with|.str _ _=>true|_=>false)=true):nsOkIn K N=true:=by
 unfold nsOkIn;rw[l];dsimp only;rw[<-GU];exact h
def xX{M:KM}{c0:KB}{dd:Option KM}{cd:Q3}(l:K.lookup M=be #[c0,dd,.cls cd,sl])(hn:cd.ns=N)(h1:nsOkIn K N=true)(h2:nsIn K N "__init__"=be p7):tailIn K veLine (.ref M::veLine)=true:=by
 unfold tailIn;subst hn;dsimp only;rw[l];dsimp only;rw[h1,h2,qO];simp
def qQ(S:SpX):SpD:=λds R=>S ds R λ_ _=>False
def CalX.no{base:P4}{n:Nat}{S:SpX}(C:CalX P w K mg base n x ps S):CalD P w K mg base n x ps (qQ S):=by
 obtain⟨f,fd,F,hb,hk,hm⟩:=C;refine#[f,fd,F.imp λvs H Q E h=>?_,hb,hk,hm];obtain⟨F,ds,fh,rs,R,h,q⟩:=h;exact#[F,ds,fh,rs,R,_,h,q,λ_ _ _ _ _ _ _ z=>z.elim]
end My
namespace My
def repS(x:E_)(n:Nat):Str:=#[(EV n x.cps.toList).flatten.toArray]
def qR{α:Type}(l:List α):∀m:Nat,(Ej m).filterMap (λk=>l[k]?)=l.take m
 |0=>by simp
 |m+1=>by
  rw[F6,List.filterMap_append,qR l m,GV];cases h:l[m]?<;>simp[h]
def xY(lo hi:Option Int)(n:Nat):Builtin.Str.strSliceIndices lo hi 1 n=(Ej (HT.sIx n n hi-HT.sIx n 0 lo)).map λk=>HT.sIx n 0 lo+k:=by
 have HD:∀(i:Int) (d:Nat),max 0 (min (if i<0 then i+(n:Int)else i) (n:Int))=((HT.sIx n d (be i):Nat):Int):=by
  intro i d;show max 0 (min (if i<0 then i+(n:Int)else i) (n:Int))=(((if i<0 then(i+(n:Int)).toNat else min i.toNat n):Nat):Int);by_cases h:i<0
  .rw[if_pos h,if_pos h];lia
  .rw[if_neg h,if_neg h];lia
 have h1:Builtin.Str.strSliceIndices lo hi 1 n=sliceRange ((HT.sIx n 0 lo:Nat):Int) ((HT.sIx n n hi:Nat):Int) 1:=by
  unfold Builtin.Str.strSliceIndices;simp only[show(1:Int)>0 by decide,if_true];cases lo with
  |none=>cases hi with
   |none=>rfl
   |some j=>rw[<-HD j n];rfl
  |some i=>cases hi with
   |none=>rw[<-HD i 0];rfl
   |some j=>rw[<-HD i 0,<-HD j n]
 rw[h1];unfold sliceRange;simp only[show(1:Int)>0 by decide,if_true];have e3:(if((HT.sIx n 0 lo:Nat):Int)<((HT.sIx n n hi:Nat):Int)then(((HT.sIx n n hi:Nat):Int)-((HT.sIx n 0 lo:Nat):Int)+1-1)/1 else 0).toNat=HT.sIx n n hi-HT.sIx n 0 lo:=by
  split<;>lia
 rw[e3];apply FJ;intro k _;lia
def slice_cps(y:E_)(lo hi:Option Int):Txt.slice y lo hi=#[((y.cps.toList.drop (HT.sIx y.length 0 lo)).take (HT.sIx y.length y.length hi-HT.sIx y.length 0 lo)).toArray]:=by
 have la:HT.sIx y.length 0 lo<=y.length:=HT.sIx_le _ _ (EI _) lo;have lb:HT.sIx y.length y.length hi<=y.length:=HT.sIx_le _ _ (Eg _) hi;unfold Txt.slice;rw[xY];split
 .rename_i h;have hl:HT.sIx y.length y.length hi-HT.sIx y.length 0 lo=y.length:=by simpa using h
  have ha:HT.sIx y.length 0 lo=0\/y.length=0:=Ig
  rw[hl];obtain⟨cp⟩:=y;have e:(Gm (HT.sIx (Str.mk cp).length 0 lo) cp.toList)=cp.toList:=by
   rcases ha with ha|ha
   .rw[ha];rfl
   .have:cp=[].toArray:=Array.eq_empty_of_size_eq_zero ha;subst this;simp
  show(#[cp]:E_)=#[((Gm (HT.sIx (Str.mk cp).length 0 lo) cp.toList).take cp.size).toArray];rw[e,FK Iq]
 .congr 2;rw[GK];have:=qR (y.cps.toList.drop (HT.sIx y.length 0 lo)) (HT.sIx y.length y.length hi-HT.sIx y.length 0 lo);rw[<-this];congr 1;funext k;simp
section
variable {X:Cx}[J:Jx]{a b c e:PV}{ta tb tc te:TD}{pos:Qa}
def Ec:RD2:=λx y R=>match x,y with
 |.int i,.int j=>CMul i j/\R (.int (i*j))
 |.str i,.int n=>(-(2^62)<=n/\n<=1000000/\i.length*n.toNat<=1000000)/\R (.str (repS i n.toNat))
 |.lst xs,.int n=>(-(2^62)<=n/\n<=1000000/\xs.length*n.toNat<=1000000)/\R (.lst (EV n.toNat xs).flatten)
 |_,_=>False
def xZ:SlR X (λx lo hi H Q=>∃y,x=.str y/\y.length<=sizeLine/\Q (.str (Txt.slice y lo hi)) H):=by
 intro pins s σ H x v vl vu lo hi sl Q I rx hs pl pu h;obtain⟨y,rfl,hz,q⟩:=h;obtain⟨t,rfl⟩:=rx;have e_:∀t' k,EP X pins σ Q (.str (Txt.slice y lo hi) t') {s with toks:=k}:=λt' k=>#[.str _,H,I.tok k,#[_,rfl],q];have le:=Eo (Txt.slice_le y lo hi) hz;refine#["str",_,PySem.F.slot_str_getitem.lookup,RB _ _ _,?_];cases pl with
 |none=>cases pu with
  |none=>exact Qr (l:=p7) (u:=p7) (st:=p7) hs rfl (QS #[le,e_])
  |int j tj=>exact Qr (l:=p7) (u:=be (j,tj)) (st:=p7) hs rfl (QS #[le,e_])
 |int i ti=>cases pu with
  |none=>exact Qr (l:=be (i,ti)) (u:=p7) (st:=p7) hs rfl (QS #[le,e_])
  |int j tj=>exact Qr (l:=be (i,ti)) (u:=be (j,tj)) (st:=p7) hs rfl (QS #[le,e_])
abbrev TDO:=SD->(Option Int->Prop)->Prop
def ya:TDO:=λ_ R=>R p7
def yb(te:TD):TDO:=λz R=>te z λx=>match x with|.int i=>R (be i)|_=>False
def lO(K:Ef)[J:Jx](t:TDO):TO:=λs H Q=>∃B F z,Kept B J.F0 F H/\RepS K B F H z s/\∃R:Option Int->Prop,t z R/\∀o F' H',Grow F H F' H'->R o->Q o H'
abbrev DPO(X:Cx)[Jx](e:Option PV)(t:TDO):Prop:=PO X e (lO X.K t)
structure WDPO(X:Cx)[Jx](e:Option PV)(t:TDO):Prop where
 out:DPO X e t
def PO.anti{X:Cx}{e:Option PV}{t t':TO}(h:PO X e t)(a:∀s H Q,t' s H Q->t s H Q):PO X e t':=λpins s σ H Q I q=>h pins s σ H Q I (a _ _ _ q)
def jE:WDPO X p7 ya:=⟨PO.anti pz λs H Q q=>by
 obtain⟨B,F,z,kf,rs,R,h1,h2⟩:=q;exact h2 p7 F H (Grow.refl kf.fh) h1⟩
def jF(he:WDE X e te):WDPO X (be e) (yb te):=⟨have he:=he.out;PO.anti (pA he) λs H Q q=>by
 obtain⟨B,F,z,kf,rs,R,h1,h2⟩:=q;refine#[B,F,z,kf,rs,_,h1,λx u F1 H1 g1 hx rx=>?_];split at hx
 .exact#[_,rep_int.mp rx,h2 _ F1 H1 g1 hx]
 .exact hx.elim⟩
def rdSl:D->Option Int->Option Int->(D->Prop)->Prop:=λx lo hi R=>match x with
 |.str y=>y.length<=1000000/\R (.str (Txt.slice y lo hi))
 |.lst xs=>R (.lst (cutD xs lo hi))
 |.rol xs=>R (.lst (cutD xs lo hi))
 |.tup xs=>¬(HT.sIx xs.length 0 lo=0/\HT.sIx xs.length xs.length hi=xs.length)/\R (.tup (cutD xs lo hi))
 |_=>False
def dSl(ta:TD)(tl th:TDO):TD:=λz R=>ta z λx=>tl z λlo=>th z λhi=>rdSl x lo hi R
def jG{lo hi:Option PV}{tl th:TDO}{p2:Qa}(ha:WDE X a ta)(hl:WDPO X lo tl)(hu:WDPO X hi th):WDE X (.Subscript a (.Slice lo hi p7 p2) pos) (dSl ta tl th):=⟨have ha:=ha.out;have hl:=hl.out;have hu:=hu.out;(pB (SlR.or xZ (SlR.or pH vP)) ha hl hu).anti λs H Q q=>by
 obtain⟨B,F,z,kf,rs,R,h1,h2⟩:=q;refine#[B,F,z,kf,rs,_,h1,λx u F1 H1 g1 hx rx=>?_];refine#[B,F1,z,kf.grow g1,rs.grow g1,_,hx,λlo F2 H2 g2 hy=>?_];refine#[B,F2,z,(kf.grow g1).grow g2,(rs.grow g1).grow g2,_,hy,λhi F3 H3 g3 hw=>?_];have g:=g1.trans (g2.trans g3);have Kx:=(rx.mono g2.ff).mono g3.ff;unfold rdSl at hw;split at hw
 .exact .inl #[_,rep_str.mp Kx,Eo hw.1 Ik,h2 _ _ F3 H3 g hw.2 (rep_str.mpr rfl)]
 .obtain⟨l,vs,rfl,hq,rr⟩:=rep_lst.mp Kx;refine .inr (.inl #[l,vs,rfl,SqL.of (g3.fh _ _ hq),λp hp=>?_]);exact h2 _ _ _ _ (g.trans (Grow.new g3.fh hp _)) hw (rep_lst.mpr #[p,_,rfl,aD,(rr.cut _ _).mono (aO (g3.fh.free hp) _)])
 .obtain⟨l,vs,rfl,hq,rr⟩:=rep_rol.mp Kx;refine .inr (.inl #[l,vs,rfl,g3.fh.seq hq,λp hp=>?_]);exact h2 _ _ _ _ (g.trans (Grow.new g3.fh hp _)) hw (rep_lst.mpr #[p,_,rfl,aD,(rr.cut _ _).mono (aO (g3.fh.free hp) _)])
 .obtain⟨l,vs,rfl,hq,rr⟩:=rep_tup_mp Kx;refine .inr (.inr #[l,vs,rfl,g3.fh.tup hq,by rw[rr.length];exact hw.1,λp hp=>?_]);exact h2 _ _ _ _ (g.trans (Grow.new g3.fh hp _)) hw.2 (rep_tupS.mpr #[p,_,rfl,aD,(rr.cut _ _).mono (aO (g3.fh.free hp) _)])
 .exact hw.elim⟩
def rdIn(neg:Bool):RD2:=λx y R=>match y with
 |.str j=>kdS x λi=>R (.bl (if neg then !(!(Builtin.Str.occurrences j i 0 j.length 1).isEmpty)else !(Builtin.Str.occurrences j i 0 j.length 1).isEmpty))
 |.lst ys=>(aV x=true/\ys.all aV=true)/\R (.bl (if neg then !(ys.any λy=>eqF y x)else ys.any λy=>eqF y x))
 |.rol ys=>(aV x=true/\ys.all aV=true)/\R (.bl (if neg then !(ys.any λy=>eqF y x)else ys.any λy=>eqF y x))
 |.tup ys=>(aV x=true/\ys.all aV=true)/\R (.bl (if neg then !(ys.any λy=>eqF y x)else ys.any λy=>eqF y x))
 |_=>False
def gm{K:Ef}{H:Hp}{x:D}{u:V}(rx:Rep K H x u)(fx:aV x=true):∀{ys:List D} {vs:List V},Reps K H ys vs->ys.all aV=true->inV u vs=ys.any λy=>eqF y x
 |[],vs,r,_=>by rw[reps_nil.mp r];rfl
 |y::ys,vs,r,f=>by
  obtain⟨v,vr,rfl,r1,r2⟩:=reps_cons.mp r;rw[EY,EH]at f;have ih:=gm rx fx r2 f.2;unfold inV at ih ⊢;rw[FX,FX,ih,fZ r1 rx f.1 fx]
def rInV(K:Ef)(neg:Bool):R2:=λx y H Q=>(∃i j,x=.str i/\y=.str j/\Q (.bl (if neg then !(!(Builtin.Str.occurrences j i 0 j.length 1).isEmpty)else !(Builtin.Str.occurrences j i 0 j.length 1).isEmpty)) H)\/rIn K neg x y H Q
def yc{K:Ef}{neg:Bool}:aK K (rInV K neg) (rdIn neg):=by
 intro x y u v F H R Q fh h rx ry q;cases y with
 |str j=>
  replace h:=kdS.of h;obtain⟨i,rfl,h⟩:=h;exact .inl #[_,_,rep_str.mp rx,rep_str.mp ry,q _ _ F H (Grow.refl fh) h (rep_bl.mpr rfl)]
 |lst ys=>
  obtain⟨⟨f1,f2⟩,h⟩:=h;obtain⟨l,vs,rfl,hq,rr⟩:=rep_lst.mp ry;exact .inr #[l,vs,rfl,.inl (fh.seq (SqL.of hq)),dX rx f1,cq rr f2,q _ _ F H (Grow.refl fh) h (rep_bl.mpr (by rw[gm rx f1 rr f2]))]
 |rol ys=>
  obtain⟨⟨f1,f2⟩,h⟩:=h;obtain⟨l,vs,rfl,hq,rr⟩:=rep_rol.mp ry;exact .inr #[l,vs,rfl,.inl (fh.seq hq),dX rx f1,cq rr f2,q _ _ F H (Grow.refl fh) h (rep_bl.mpr (by rw[gm rx f1 rr f2]))]
 |tup ys=>
  obtain⟨⟨f1,f2⟩,h⟩:=h;obtain⟨l,vs,rfl,hq,rr⟩:=rep_tup_mp ry;exact .inr #[l,vs,rfl,.inr (fh.tup hq),dX rx f1,cq rr f2,q _ _ F H (Grow.refl fh) h (rep_bl.mpr (by rw[gm rx f1 rr f2]))]
 |_=>exact False.elim h
def yd:OpR X (P' .NotIn) (rInV X.K true):=OpR.or vX vW
end
end My
namespace L2
def Its(x:E_):It:=#[λi _=>i<x.length,λi H v H'=>H'=H/\∃c,x.cps[i]?=be c/\v=.str #[[c].toArray],λi _=>x.length<=i]
def ye{P:PZ}{w:P2}{K:Ef}{tg:PV}(x:E_)(t:Tok)(it:KM):Turn P w K tg (Its x) [it] it (λi h=>h.IsStrIter it "str_ascii_iterator" x t i) where
 mem:=Iq
 obj:=λi h st b hb=>by
  have e:b=it:=by simpa using hb
  subst e;obtain⟨o,e,c,d⟩:=st;exact#[o,e,λv z=>by rw[d]at z;cases z]
 keep:=λi h h' st k=>by
  obtain⟨o,e,r⟩:=st;exact#[o,k it Iq o e,r]
 item:=by
  intro X hP hw hK hc i pins s σ H E I hf st hg;subst hP hw hK;have hi:i<x.cps.size:=hg;obtain⟨f0,f1,f2,f3,f4,f5⟩:=hf it Iq;refine wpAny_pyNext_ascii_item st (c:=x.cps[i]) (GW hi) λh' z6 sb=>?_;have I1:Inv X pins σ H {s with heap:=h',toks:=s.toks+1}:=I.turned (t':=s.toks+1) (λb o hb e=>(sb.2 b hb).trans e) f0 f1 f3 f4 f5;obtain⟨o,e,c,d⟩:=id z6;exact#[_,rfl,iS (s:={s with heap:=h',toks:=s.toks+1}) e c d Ik #[.str #[[x.cps[i]].toArray],H,I1,#[_,rfl],#[rfl,_,GW hi,rfl],z6,λb hb=>(hf b hb).1]]
 done:=by
  intro X hP hw hK hc i pins s σ H E I hf st hg;subst hP hw hK;have hi:x.cps.size<=i:=hg;obtain⟨f0,f1,f2,f3,f4,f5⟩:=hf it Iq;exact wpAny_pyNext_ascii_end (I.ok.hd hc) st (Array.getElem?_eq_none hi) λh' eb=>#[rfl,I.turned (t':=s.toks) (λb o hb e=>eb b o hb e) f0 f1 f3 f4 f5]
 self:=λA i s Q E st hQ=>wpAny_pyIter_striter_ascii st hQ
def iStr(tl:TE):TI:=λσ H R=>tl σ H λv H1=>∃x,v=.str x/\x.cps.all (·<128)=true/\R (Its x) H1
def yf{X:Cx}{tg l:PV}{tl:TE}(hl:PE X l tl):PI X tg l (iStr tl):=by
 intro pins s σ H R I h;refine thn (hl pins s σ H _ I h) λv s1 b_=>?_;obtain⟨v1,H1,I1,r1,q1⟩:=b_;obtain⟨x,rfl,ha,q⟩:=q1;obtain⟨t,rfl⟩:=r1;refine wpAny_pyIter_ascii ha ?_;refine#[s1.heap.objs.size,[s1.heap.objs.size],_,_,H1,rfl,I1.kept (t':=s1.toks) λb o e=>Heap.get?_push_of_some _ e,ye x t _,#[_,Heap.get?_push_size _ rfl,rfl,rfl],λb hb=>?_,q];have e:b=s1.heap.objs.size:=by simpa using hb
 subst e;exact I1.fpOk (Eg _) (I1.hok.fresh (Eg _))
end L2
namespace My
section
variable {X:Cx}[J:Jx]{a b c e:PV}{ta tb tc te:TD}{pos:Qa}
def bP(x:E_):List D:=x.cps.toList.map λc=>D.str #[[c].toArray]
def dItS(t:TD):TDI:=λz R=>t z λy=>match y with|.str x=>x.cps.all (·<128)=true/\R (bP x)|_=>False
def jH{x:E_}{k c:Nat}(h:x.cps[k]?=be c):(bP x)[k]?=be (.str #[[c].toArray]):=by
 unfold bP;rw[Et,Array.getElem?_toList,h];rfl
def gp(x:E_):(bP x).length=x.length:=by unfold bP;rw[En];simp[Str.length]
variable {d_ iter:PV}{x:E_}{px:Qa}{scope:Qk}{ti:TD}
def itS{K:Ef}:ItOk K (iStr (lE K ti)) (dItS ti):=λ{s H B F z P Q} kf rs h1 h2=>by
 refine#[B,F,z,kf,rs,_,h1,λd v F1 H1 g1 hd rd=>?_];split at hd
 .rename_i y;obtain⟨ha,hd⟩:=hd;have hl:=gp y;refine#[y,rep_str.mp rd,ha,h2 _ _ F1 H1 g1 hd #[λk F' H' G hk=>by rw[hl]at hk;exact hk,λk F' H' v H'' G hk hy=>?_,λF' H' G=>by show y.length<=_;rw[hl];exact Eg _]];obtain⟨e,c,hc,rfl⟩:=hy;exact#[e,.str #[[c].toArray],jH hc,rep_str.mpr rfl]
 .exact hd.elim
end
section
variable {X:Cx}[J:Jx]{a b c e o:PV}{es:List PV}{ta tb tc te to:TD}{t:TDA}{pos:Qa}
abbrev RTx:=E_->List D->(D->Prop)->Prop
def dTx(r:RTx)(to:TD)(t:TDA):TD:=λz R=>to z λx=>match x with|.str y=>t z λds=>r y ds R|_=>False
def MtS(X:Cx)(id:String)(r:RTx):Prop:=∃rv:V->List V->Hp->VK->Prop,MtR X id rv/\∀(y:E_) (ds:List D) (vs:List V) (F H:Hp) (R:D->Prop) (Q:VK),Reps X.K F ds vs->r y ds R->(∀d v,(∀G,Rep X.K G d v)->R d->Q v H)->rv (.str y) vs H Q
variable{c7 a_:Qa}
def jI{name:E_}{id:String}{r:RTx}(slot:Slot "str" name id)(K1:typeOf (.builtin id)=pure (.type "method_descriptor"))(hm:MtS X id r)(ho:DE X o to)(ha:DA X (e::es) t)
  (b9:autoParam (P6 o name X.env (P7 o X.env)=P7 o X.env) zA0)
  (d7:autoParam (zHF X a_ (e::es)) zA0)
  (c8:autoParam ((c7.endLine==a_.line)=true) zA0) (hs:autoParam (zSE X e es) zA0) (n6:autoParam (zPL X a_ es) zA0):
  DE X (.Call (.Attribute o name c7) (e::es) [] a_) (dTx r to t):=by
 obtain⟨rv,hm,L⟩:=hm;refine(cH PySem.F.plainAttrs_str slot K1 hm ho ha b9 d7 c8 hs n6).anti λs H Q q=>?_;obtain⟨B,F,z,kf,rs,R,h1,h2⟩:=q;refine#[B,F,z,kf,rs,_,h1,λx u F1 H1 g1 hx rx=>?_];split at hx
 .rename_i y;rw[rep_str.mp rx];refine#[rfl,B,F1,z,kf.grow g1,rs.grow g1,_,hx,λds vs F2 H2 g2 hy ry=>?_];exact L y ds vs F2 H2 R Q ry hy λd v rd hR=>h2 d v F2 H2 (g1.trans g2) hR (rd F2)
 .exact hx.elim
def Ed:RTx:=λy ds R=>match ds with|[.str p]=>R (.bl (Txt.startswith y p))|_=>False
def rEnds:RTx:=λy ds R=>match ds with|[.str p]=>R (.bl (Txt.endswith y p))|_=>False
def ms_ends:MtS X "str.endswith" rEnds:=by
 refine#[λx vs H Q=>∃y p,x=.str y/\vs=[.str p]/\Q (.bl (Txt.endswith y p)) H,?_,?_]
 .intro pins s σ H x vs v us Q I rx rv h;obtain⟨y,p,rfl,rfl,q⟩:=h;obtain⟨t,rfl⟩:=rx;obtain⟨u,rfl,t',rfl⟩:=bM rv;exact SC.endswith #[.bl _,H,I,rfl,q]
 .intro y ds vs F H R Q r h q;unfold rEnds at h;split at h
  .obtain⟨v,vr,rfl,h1,h2⟩:=reps_cons.mp r;rw[reps_nil.mp h2,rep_str.mp h1];exact#[_,_,rfl,rfl,q _ _ (λ_=>rep_bl.mpr rfl) h]
  .exact h.elim
def yg(ho:WDE X o to)(ha:WDA X [e] t)(b9:autoParam (P6 o "endswith" X.env (P7 o X.env)=P7 o X.env) zA0)
  (d7:autoParam (zHF X a_ [e]) zA0)
  (c8:autoParam ((c7.endLine==a_.line)=true) zA0) (hs:autoParam (zSE X e []) zA0):WDE X (.Call (.Attribute o "endswith" c7) [e] [] a_) (dTx rEnds to t):=#[have ho:=ho.out;have ha:=ha.out;jI PySem.F.slot_str_endswith PySem.F.type_str_endswith ms_ends ho ha b9 d7 c8 hs]
def rSIndex:RTx:=λy ds R=>match ds with|[.str p]=>∃i b7,Builtin.Str.occurrences y p 0 y.length 1=i::b7/\R (.int (i:Nat))|_=>False
def yh:MtS X "str.index" rSIndex:=by
 refine#[λx vs H Q=>∃y p i b7,x=.str y/\vs=[.str p]/\Builtin.Str.occurrences y p 0 y.length 1=i::b7/\Q (.int (i:Nat)) H,?_,?_]
 .intro pins s σ H x vs v us Q I rx rv h;obtain⟨y,p,i,b7,rfl,rfl,ho,q⟩:=h;obtain⟨t,rfl⟩:=rx;obtain⟨u,rfl,t',rfl⟩:=bM rv;exact SC.index ho #[.int _,H,I.tok _,#[_,rfl],q]
 .intro y ds vs F H R Q r h q;unfold rSIndex at h;split at h
  .obtain⟨i,b7,ho,h⟩:=h;obtain⟨v,vr,rfl,h1,h2⟩:=reps_cons.mp r;rw[reps_nil.mp h2,rep_str.mp h1];exact#[_,_,i,b7,rfl,rfl,ho,q _ _ (λ_=>rep_int.mpr rfl) h]
  .exact h.elim
def yi(ho:WDE X o to)(ha:WDA X [e] t)(b9:autoParam (P6 o "index" X.env (P7 o X.env)=P7 o X.env) zA0)
  (d7:autoParam (zHF X a_ [e]) zA0)
  (c8:autoParam ((c7.endLine==a_.line)=true) zA0) (hs:autoParam (zSE X e []) zA0):WDE X (.Call (.Attribute o "index" c7) [e] [] a_) (dTx rSIndex to t):=#[have ho:=ho.out;have ha:=ha.out;jI PySem.F.slot_str_index PySem.F.type_str_index yh ho ha b9 d7 c8 hs]
def Reps.init{K:Ef}{F:Hp}:∀{ds:List D} {vs:List V},Reps K F ds vs->Reps K F ds.dropLast vs.dropLast
 |[],vs,r=>by rw[reps_nil.mp r];exact reps_nil.mpr rfl
 |[d],vs,r=>by
  obtain⟨v,vr,rfl,_,h2⟩:=reps_cons.mp r;rw[reps_nil.mp h2];exact reps_nil.mpr rfl
 |d::d2::ds,vs,r=>by
  obtain⟨v,vr,rfl,h1,h2⟩:=reps_cons.mp r;obtain⟨v2,Pr,rfl,h3,h4⟩:=reps_cons.mp h2;rw[GX,GX];exact reps_cons.mpr #[v,_,rfl,h1,Reps.init h2]
end
end My
namespace My
open Exc
section
variable {X:Cx}{a b c e:PV}{ta tb tc te:TD}{pos:Qa}{st:P0}{b7:List P0}{t u:TSD}
def aX[Jx]{c:PV}{l r:List P0}{tc:TDT}(hc:WDT X c tc)(ha:WDSs X l t)(hb:WDSs X r u):WDS X (.If c l r pos) (dIfS tc t u):=#[qu (c:=c) (l:=l) (r:=r) (tc:=tc) (hc:=hc.out) (ha:=ha.out) (hb:=hb.out)]
end
def yj{X:Cx}[J:Jx]{body:List P0}{h₀:Qj}{hs:List Qj}{pos:Qa}{tb:Jx->TSD}{th:TH}(hb:∀(pn:List (KM×Qc)) (xe:KB->KF->Prop) (J':Jx),Ql (PU X.prog X.w) X.A X.env xe->@XOk (X.tried pn xe) J'->@WDSs (X.tried pn xe) J' body (tb J'))(hh:WDH X (h₀::hs) th)(hex:autoParam (X.ex=[]) zA0)(hstk:autoParam (X.stack=X.env::X.outer) zA0)(hfr:autoParam (X.env.frame=be X.env.locals) zA0):WDS X (.Try body (h₀::hs) [] [] pos) (dTry tb th):=#[xW (X:=X) (body:=body) (h₀:=h₀) (hs:=hs) (pos:=pos) (tb:=tb) (th:=th) (hb:=λa b c d e=>(hb a b c d e).out) (hh:=hh.out) (hex:=hex) (hstk:=hstk) (hfr:=hfr)]
section
variable {P:PZ}{w:P2}{K:Ef}{mg:E_->Option KB}{base:P4}
variable{x:E_}{st:P0}{N ps:List E_}{k:Nat}
def _root_.L2.Fun.okDW{qual:E_}{f:KM}{fd:P9}{S:SpD}(T:Fun K x qual st f fd)(F:FnScope N ps (ag st))(len:∀ds R,S ds R->ds.length=ps.length)
  (b8:∀(cdv:KB) (A:P3) (outer:List QN) (s:KF) (H:Hp) (E:XK) (J:Jx),Room k (A.deeper (Qe qual (ag st) s.heap.objs.size f cdv))->
   ∃t,WDSs (cxOf (Exc.CX1 P w) P w K mg base N qual (ag st) f cdv A outer s H E).nox (aJ st) t/\∀ds R,S ds R->t {nx:=λ_=>R .non,rt:=R} (startD N ds)):FnOk P w K mg base (Exc.CX1 P w) (k+1) f fd ps (lSp K S):=
 T.okD F len λcdv A outer s H E J hr=>let ⟨t,h,q⟩:=b8 cdv A outer s H E J hr;#[t,h.out,q]
def Tx.okDW{S:SpD}(T:Tx K mg x st ps)(F:FnScope N ps (ag st))(len:∀ds R,S ds R->ds.length=ps.length)
  (b8:∀(f:KM) (cdv:KB) (A:P3) (outer:List QN) (s:KF) (H:Hp) (E:XK) (J:Jx),Room k (A.deeper (Qe x (ag st) s.heap.objs.size f cdv))->
   ∃t,WDSs (cxOf (Exc.CX1 P w) P w K mg base N x (ag st) f cdv A outer s H E).nox (aJ st) t/\∀ds R,S ds R->t {nx:=λ_=>R .non,rt:=R} (startD N ds)):CalD P w K mg base (k+1) x ps S:=
 Tx.okD T F len λf cdv A outer s H E J hr=>let ⟨t,h,q⟩:=b8 f cdv A outer s H E J hr;#[t,h.out,q]
def Tx.okXW{S:SpX}(T:Tx K mg x st ps)(F:FnScope N ps (ag st))(len:∀ds R RX,S ds R RX->ds.length=ps.length)
  (b8:∀(f:KM) (cdv:KB) (A:P3) (outer:List QN) (s:KF) (H:Hp) (E:XK) (J:Jx),Room k (A.deeper (Qe x (ag st) s.heap.objs.size f cdv))->XOk (cxOf (CX1 P w) P w K mg base N x (ag st) f cdv A outer s H E)->
   ∃t,WDSs (cxOf (CX1 P w) P w K mg base N x (ag st) f cdv A outer s H E) (aJ st) t/\∀ds R RX,(∀z,J.RX z=RX)->S ds R RX->t {nx:=λ_=>R .non,rt:=R} (startD N ds)):CalX P w K mg base (k+1) x ps S:=
 Tx.okX T F len λf cdv A outer s H E J hr hx=>let ⟨t,h,q⟩:=b8 f cdv A outer s H E J hr hx;#[t,h.out,q]
def Cls.okIW{qual:E_}{f C:KM}{fd:P9}{p0:E_}{S:SiD}(T:Fun K "__init__" qual st f fd)(hb:Binds K fd (p0::ps) [])(F:FnScope (p0::N) (p0::ps) (ag st))(len:∀ds R,S ds R->ds.length=ps.length)
  (hns:nsIn K Pi x=be (be (.ref C))) (m6:mg x=be (.ref C)) (mk:Mk K C f)
  (b8:∀(cdv:KB) (A:P3) (outer:List QN) (s:KF) (H:Hp) (E:XK) (J:Jx),Room k (A.deeper (Qe qual (ag st) s.heap.objs.size f cdv))->
   ∃t,WDI (cxOf (Exc.CX1 P w) P w K mg base (p0::N) qual (ag st) f cdv A outer s H E).nox x (aJ st) t/\∀ds R,S ds R->t (p7::startD N ds) [] R):CalM P w K mg base (k+1) x (p0::ps) S:=
 Cls.okI T hb F len hns m6 mk λcdv A outer s H E J hr=>let ⟨t,h,q⟩:=b8 cdv A outer s H E J hr;#[t,h.out,q]
end
inductive MO where
 |ins (x:Str) (fs:List (Str×D))|lst (ds:List D)|dti (a9:List ((Int×Int)×Int))
abbrev MS:=List (KM×MO)
def MRep(K:Ef)(F H:Hp)(a:KM):MO->Prop
 |.ins x fs=>∃C dx ws,nsIn K Pi x=be (be (.ref C))/\H a=be (.ins C dx ws)/\RepF K F fs ws
 |.lst ds=>∃vs,H a=be (.lst vs)/\Reps K F ds vs
 |.dti a9=>H a=be (.dT (dtiV a9))
def az(M:MS):List KM:=M.map (·.1)
def mget:MS->KM->Option MO
 |[],_=>p7
 |(b,o)::r,a=>if b=a then be o else mget r a
def mput:MS->KM->MO->MS
 |[],_,_=>[]
 |(b,p)::r,a,o=>if b=a then(b,o)::r else(b,p)::mput r a o
def mdel:MS->KM->MS
 |[],_=>[]
 |(b,p)::r,a=>if b=a then r else(b,p)::mdel r a
def bI:∀{M:MS} {a:KM} {o:MO},mget M a=be o->(a,o)∈M
 |[],_,_,h=>by cases h
 |(b,p)::r,a,o,h=>by
  unfold mget at h;split at h
  .rename_i e;subst e;cases h;exact Ep
  .exact Em _ (bI h)
variable{M:MS}{a:KM}{o:MO}
def ca(h:(a,o)∈M):a∈az M:=EN.mpr #[_,h,rfl]
def gq:∀(M:MS) (a:KM) (o:MO),az (mput M a o)=az M
 |[],_,_=>rfl
 |(b,p)::r,a,o=>by
  unfold mput;split
  .rfl
  .show b::az (mput r a o)=b::az r;rw[gq r a o]
def mem_put:∀{M:MS} {a b:KM} {o q:MO},(az M).Nodup->(b,q)∈mput M a o->(b=a/\q=o/\a∈az M)\/(b≠a/\(b,q)∈M)
 |[],_,_,_,_,_,h=>by cases h
 |(c,p)::r,a,b,o,q,nd,h=>by
  have JQ:c∉az r/\(az r).Nodup:=E9.mp nd;unfold mput at h;split at h
  .rename_i e;subst e;rcases Ei.mp h with z|z
   .cases z;exact .inl #[rfl,rfl,Ep]
   .have:b∈az r:=ca z;exact .inr #[λe=>JQ.1 (e ▸ this),Em _ z]
  .rename_i ne;rcases Ei.mp h with z|z
   .cases z;exact .inr #[ne,Ep]
   .rcases mem_put JQ.2 z with⟨e1,e2,e3⟩|⟨e1,e2⟩
    .exact .inl #[e1,e2,Em _ e3]
    .exact .inr #[e1,Em _ e2]
def jJ:∀{M:MS} {a b:KM} {q:MO},(az M).Nodup->(b,q)∈mdel M a->b≠a/\(b,q)∈M
 |[],_,_,_,_,h=>by cases h
 |(c,p)::r,a,b,q,nd,h=>by
  have JQ:c∉az r/\(az r).Nodup:=E9.mp nd;unfold mdel at h;split at h
  .rename_i e;subst e;exact#[λe=>JQ.1 (e ▸ ca h),Em _ h]
  .rename_i ne;rcases Ei.mp h with z|z
   .cases z;exact#[ne,Ep]
   .obtain⟨e1,e2⟩:=jJ JQ.2 z;exact#[e1,Em _ e2]
def del_sub:∀{M:MS} {a:KM},(az (mdel M a)).Sublist (az M)
 |[],_=>.slnil
 |(c,p)::r,a=>by
  unfold mdel;split
  .exact List.sublist_cons_self _ _
  .exact List.Sublist.cons_cons _ del_sub
variable{K:Ef}{F H F' H':Hp}
def MRep.mono(ff:Same F F')(hh:∀o,H a=be o->H' a=be o):∀{o:MO},MRep K F H a o->MRep K F' H' a o
 |.ins x fs,⟨C,dx,ws,n,h,r⟩=>#[C,dx,ws,n,hh _ h,RepF.mono ff fs ws r]
 |.lst ds,⟨vs,h,r⟩=>#[vs,hh _ h,Reps.mono ff ds vs r]
 |.dti a9,h=>hh _ h
def MRep.there:∀{o:MO},MRep K F H a o->H a≠p7
 |.ins x fs,⟨C,dx,ws,n,h,r⟩=>by rw[h];exact λz=>nomatch z
 |.lst ds,⟨vs,h,r⟩=>by rw[h];exact λz=>nomatch z
 |.dti a9,h=>by rw[show H a=_ from h];exact λz=>nomatch z
structure RepM(K:Ef)(F H:Hp)(M:MS):Prop where
 nd:(az M).Nodup
 ok:∀a o,(a,o)∈M->MRep K F H a o
 fr:∀a,a∈az M->F a=p7
def RepM.nil:RepM K F H []:=#[GP,(λ_ _ h=>nomatch h),(λ_ h=>nomatch h)]
def RepM.here(r:RepM K F H M)(h:a∈az M):H a≠none:=by
 obtain⟨⟨b,o⟩,h1,rfl⟩:=EN.mp h;exact(r.ok _ _ h1).there
structure GrowM(M M':MS)(F H F' H':Hp):Prop where
 ff:Same F F'
 fh:Same F' H'
 hh:∀b o,b∉az M->H b=be o->H' b=be o
 out:∀b,b∉az M->F b=p7->H b≠p7->F' b=p7
 ks:∀b,b∈az M'->b∈az M\/H b=p7
def Grow.toM(g:Grow F H F' H'):GrowM M M F H F' H':=#[g.ff,g.fh,λb o _ h=>g.hh b o h,λb _ h1 h2=>g.out b h1 h2,λb h=>.inl h]
def GrowM.refl(h:Same F H):GrowM M M F H F H:=(Grow.refl h).toM
def GrowM.trans{M1 M2:MS}{F1 H1 F2 H2:Hp}(g:GrowM M M1 F H F1 H1)(k:GrowM M1 M2 F1 H1 F2 H2):GrowM M M2 F H F2 H2 where
  ff:=g.ff.trans k.ff
  fh:=k.fh
  hh:=λb o nb h=>k.hh b o (λz=>by rcases g.ks b z with q|q;exact nb q;rw[q]at h;cases h) (g.hh b o nb h)
  out:=λb nb h1 h2=>k.out b (λz=>by rcases g.ks b z with q|q;exact nb q;exact h2 q) (g.out b nb h1 h2) (by
    cases e:H b with
    |none=>exact absurd e h2
    |some o=>rw[g.hh b o nb e];exact λz=>nomatch z)
  ks :=λb h=>by
    rcases k.ks b h with q|q
    . exact g.ks b q
    . by_cases nb:b∈az M
      . exact .inl nb
      . right;cases e:H b with
        |none=>rfl
        |some o=>rw[g.hh b o nb e]at q;cases q
def RepM.grow(r:RepM K F H M)(g:Grow F H F' H'):RepM K F' H' M:=
 #[r.nd,λa o h=>(r.ok a o h).mono g.ff λo e=>g.hh a o e,λa h=>g.out a (r.fr a h) (r.here h)]
variable{ho:HO}
def RepM.put{o':MO}(r:RepM K F H M)(e:mget M a=be o)(h:MRep K F (upd H a ho) a o'):RepM K F (upd H a ho) (mput M a o'):=
 ⟨by rw[gq];exact r.nd,λb q hb=>by
  rcases mem_put r.nd hb with⟨rfl,rfl,_⟩|⟨ne,hb⟩
  .exact h
  .exact(r.ok b q hb).mono (Same.refl F) λu z=>by rw[au ne];exact z,λb hb=>r.fr b (by rw[gq]at hb;exact hb)⟩
def GrowM.put{o':MO}(fh:Same F H)(fa:F a=p7)(e:mget M a=be o):GrowM M (mput M a o') F H F (upd H a ho) where
 ff:=Same.refl F
 fh:=λb u z=>by
  have ne:b≠a:=by rintro rfl;rw[fa]at z;cases z
  rw[au ne];exact fh b u z
 hh:=λb u nb z=>by
  have ne:b≠a:=by rintro rfl;exact nb (ca (bI e))
  rw[au ne];exact z
 out:=λb _ h _=>h
 ks:=λb h=>.inl (by rw[gq]at h;exact h)
def RepM.new{p:KM}(r:RepM K F H M)(fh:Same F H)(hp:H p=p7)(h:MRep K F (upd H p ho) p o):RepM K F (upd H p ho) ((p,o)::M):=by
 have np:p∉az M:=λz=>r.here z hp;refine#[E9.mpr #[np,r.nd],λb q hb=>?_,λb hb=>?_]
 .rcases Ei.mp hb with z|z
  .cases z;exact h
  .exact(r.ok b q z).mono (Same.refl F) λu z'=>by rw[au (λe:b=p=>np (e ▸ ca z))];exact z'
 .rcases Ei.mp hb with z|z
  .rw[z];exact fh.free hp
  .exact r.fr b z
def GrowM.new{p:KM}(fh:Same F H)(hp:H p=p7):GrowM M ((p,o)::M) F H F (upd H p ho) where
 ff:=Same.refl F
 fh:=fh.trans (aO hp _)
 hh:=λb u _ z=>aO hp _ b u z
 out:=λb _ h _=>h
 ks:=λb h=>by
  rcases Ei.mp h with z|z
  .exact .inr (by rw[z];exact hp)
  .exact .inl z
structure RepZ(K:Ef)(B F H:Hp)(z:SD)(s:L2.St)(M:MS):Prop where
 rs:RepS K B F H z s
 no:∀(i:Nat) ds,z[i]?≠be (be (.own ds))
 rm:RepM K F H M
 mb:∀a,a∈az M->B a=p7
variable{B:Hp}{M':MS}
def Kept.growM[Jx]{F0:Hp}(k:Kept B F0 F H)(mb:∀a,a∈az M->B a=p7)(g:GrowM M M' F H F' H'):Kept B F0 F' H' where
 bh:=λb o e=>g.hh b o (λz=>by rw[mb b z]at e;cases e) (k.bh b o e)
 fh:=g.fh
 f0:=k.f0.trans g.ff
 out:=λb h1 h2=>g.out b (λz=>h2 (mb b z)) (k.out b h1 h2) (by
  cases e:B b with
  |none=>exact absurd e h2
  |some o=>rw[k.bh b o e];exact λz=>nomatch z)
 eb:=k.eb
 jf:=k.jf
 jo:=k.jo
variable{z:SD}{s:L2.St}
def RepS.growM(r:RepS K B F H z s)(no:∀(i:Nat) ds,z[i]?≠be (be (.own ds)))(g:GrowM M M' F H F' H'):RepS K B F' H' z s where
 len:=r.len
 val:=λi d e n=>let ⟨v,q1,q2⟩:=r.val i d e n;#[v,q1,q2.mono g.ff]
 own:=λi ds e=>absurd e (no i ds)
 apart:=r.apart
def RepZ.growM(r:RepZ K B F H z s M)(bh:Same B H)(g:GrowM M M' F H F' H')(rm:RepM K F' H' M'):RepZ K B F' H' z s M':=
 ⟨r.rs.growM r.no g,r.no,rm,λa h=>by
  rcases g.ks a h with q|q
  .exact r.mb a q
  .exact bh.free q⟩
def RepZ.set{i:Nat}{d:D}{v:V}(r:RepZ K B F H z s M)(rd:Rep K F d v):RepZ K B F H (z.set i (be d)) (s.set i (be v)) M:=
 ⟨r.rs.set rd,λj ds e=>by
  by_cases hj:i=j
  .subst hj;rw[Fi]at e;simp at e;have:=rd.noown;rw[e.2]at this;cases this
  .rw[Eu hj]at e;exact r.no j ds e,r.rm,r.mb⟩
class Jm extends Jx where
 RM:SD->MS->XD
abbrev TME:=SD->MS->(D->MS->Prop)->Prop
abbrev TMT:=SD->MS->(Bool->MS->Prop)->Prop
abbrev TMA:=SD->MS->(List D->MS->Prop)->Prop
structure EndsM where
 nx:SD->MS->Prop
 rt:D->MS->Prop
 bk:SD->MS->Prop:=λ_ _=>False
 ct:SD->MS->Prop:=λ_ _=>False
abbrev TMS:=EndsM->SD->MS->Prop
def mE(K:Ef)[J:Jm](t:TME):TE:=λs H Q=>∃F z M,Kept J.B J.F0 F H/\RepZ K J.B F H z s M/\∃R:D->MS->Prop,t z M R/\∀d v M' F' H',GrowM M M' F H F' H'->R d M'->Rep K F' d v->RepM K F' H' M'->Q v H'
def mT(K:Ef)[J:Jm](t:TMT):TT:=λs H Q=>∃F z M,Kept J.B J.F0 F H/\RepZ K J.B F H z s M/\∃R:Bool->MS->Prop,t z M R/\∀b M' F' H',GrowM M M' F H F' H'->R b M'->RepM K F' H' M'->Q b H'
def mA(K:Ef)[J:Jm](t:TMA):TA:=λs H Q=>∃F z M,Kept J.B J.F0 F H/\RepZ K J.B F H z s M/\∃R:List D->MS->Prop,t z M R/\∀ds vs M' F' H',GrowM M M' F H F' H'->R ds M'->Reps K F' ds vs->RepM K F' H' M'->Q vs H'
structure EndsOkM[J:Jm](K:Ef)(F0:Hp)(ED:EndsM)(E:Ends):Prop where
 nx:∀z' s' M' F' H',Kept J.B F0 F' H'->ED.nx z' M'->RepZ K J.B F' H' z' s' M'->E.nx s' H'
 rt:∀d v M' F' H',Kept J.B F0 F' H'->ED.rt d M'->Rep K F' d v->RepM K F' H' M'->(∀a,a∈az M'->J.B a=p7)->E.rt v H'
 bk:∀z' s' M' F' H',Kept J.B F0 F' H'->ED.bk z' M'->RepZ K J.B F' H' z' s' M'->E.bk s' H'
 ct:∀z' s' M' F' H',Kept J.B F0 F' H'->ED.ct z' M'->RepZ K J.B F' H' z' s' M'->E.ct s' H'
def mS(K:Ef)[J:Jm](t:TMS):TS:=λE s H=>∃F0 F z M,Kept J.B F0 F H/\RepZ K J.B F H z s M/\∃ED:EndsM,t ED z M/\EndsOkM K F0 ED E
structure ME(X:Cx)[Jm](e:PV)(t:TME):Prop where
 out:PE X e (mE X.K t)
structure MT(X:Cx)[Jm](e:PV)(t:TMT):Prop where
 out:PT X e (mT X.K t)
structure MW(X:Cx)[Jm](e:PV)(t:TMT):Prop where
 out:PW X e (mT X.K t)
structure MA(X:Cx)[Jm](es:List PV)(t:TMA):Prop where
 out:PA X es (mA X.K t)
structure MSt(X:Cx)[Jm](st:P0)(t:TMS):Prop where
 out:PS X st (mS X.K t)
structure MSs(X:Cx)[Jm](st:List P0)(t:TMS):Prop where
 out:PSs X st (mS X.K t)
section
variable {X:Cx}{a b c e:PV}{ta tb:TME}{pos:Qa}
def mP(t:TD):TME:=λz M R=>t z λd=>R d M
def mPT(t:TDT):TMT:=λz M R=>t z λd=>R d M
def mPA(t:TDA):TMA:=λz M R=>t z λd=>R d M
def aj[J:Jm]{t:TD}(h:WDE X e t):ME X e (mP t):=⟨PE.anti h.out λs H Q q=>by
 obtain⟨F,z,M,k,r,R,h1,h2⟩:=q;exact#[J.B,F,z,k,r.rs,_,h1,λd v F' H' g hd rd=>h2 d v M F' H' g.toM hd rd (r.rm.grow g)]⟩
def bU[J:Jm]{t:TDT}(h:WDT X e t):MT X e (mPT t):=⟨PT.anti h.out λs H Q q=>by
 obtain⟨F,z,M,k,r,R,h1,h2⟩:=q;exact#[J.B,F,z,k,r.rs,_,h1,λd F' H' g hd=>h2 d M F' H' g.toM hd (r.rm.grow g)]⟩
variable{es:List PV}
def aB[J:Jm]{t:TDA}(h:WDA X es t):MA X es (mPA t):=⟨PA.anti h.out λs H Q q=>by
 obtain⟨F,z,M,k,r,R,h1,h2⟩:=q;exact#[J.B,F,z,k,r.rs,_,h1,λd v F' H' g hd rd=>h2 d v M F' H' g.toM hd rd (r.rm.grow g)]⟩
def mOp(r:RD2)(ta tb:TME):TME:=λz M R=>ta z M λx M1=>tb z M1 λy M2=>r x y λd=>R d M2
variable{r:R2}{rd:RD2}
def qS[J:Jm]{e:PV}{ta tb:TME}(L:aK X.K r rd)(h:PE X e (tOp r (mE X.K ta) (mE X.K tb))):ME X e (mOp rd ta tb):=⟨h.anti λs H Q q=>by
 obtain⟨F,z,M,k,rs,R,h1,h2⟩:=q;refine#[F,z,M,k,rs,_,h1,λx u M1 F1 H1 g1 hx rx m1=>?_];refine#[F1,z,M1,k.growM rs.mb g1,rs.growM k.bh g1 m1,_,hx,λy v M2 F2 H2 g2 hy ry m2=>?_];exact L x y u v F2 H2 _ Q g2.fh hy (rx.mono g2.ff) ry λd w F3 H3 g3 hd rd=>h2 d w M2 F3 H3 ((g1.trans g2).trans g3.toM) hd rd (m2.grow g3)⟩
def qT[J:Jm]{op:Re}(ho:OpR X (Qh op) r)(L:aK X.K r rd)(ha:ME X a ta)(hb:ME X b tb):ME X (.BinOp a op b pos) (mOp rd ta tb):=qS L (oM ho ha.out hb.out)
def qU[J:Jm](ha:ME X a ta)(hb:ME X b tb)(hs:autoParam (dP b) zA6):ME X (.Subscript a b pos) (mOp rdIx ta tb):=qS qg (pe_ix pF ha.out hb.out hs)
def gu[Jm](ha:ME X a ta)(hb:ME X b tb):ME X (.BinOp a .Add b pos) (mOp jg ta tb):=qT pQ pR ha hb
def jK[Jm](ha:ME X a ta)(hb:ME X b tb):ME X (.BinOp a .Sub b pos) (mOp jh ta tb):=qT oN pS ha hb
def mTst(t:TME):TMT:=λz M R=>t z M λx M1=>match x with|.bl k=>R k M1|_=>False
def gv[J:Jm]{op:Rk}(ho:OpR X (P' op) r)(L:aK X.K r rd)(ha:ME X a ta)(hb:ME X b tb)(hm:Qo op b=false):MT X (.Compare a [op] [b] pos) (mTst (mOp rd ta tb)):=⟨(oX ho ha.out hb.out hm).anti λs H Q q=>by
 obtain⟨F,z,M,k,rs,R,h1,h2⟩:=q;refine#[F,z,M,k,rs,_,h1,λx u M1 F1 H1 g1 hx rx m1=>?_];refine#[F1,z,M1,k.growM rs.mb g1,rs.growM k.bh g1 m1,_,hx,λy v M2 F2 H2 g2 hy ry m2=>?_];refine L x y u v F2 H2 _ _ g2.fh hy (rx.mono g2.ff) ry λd w F3 H3 g3 hd rd=>?_;dsimp only at hd;split at hd
 .exact#[_,rep_bl.mp rd,h2 _ M2 F3 H3 ((g1.trans g2).trans g3.toM) hd (m2.grow g3)]
 .exact hd.elim⟩
def qV[Jm](ha:ME X a ta)(hb:ME X b tb):MT X (.Compare a [.Lt] [b] pos) (mTst (mOp rdLt ta tb)):=gv fO fX ha hb (nomark _)
def gw[Jm](ha:ME X a ta)(hb:ME X b tb):MT X (.Compare a [.Eq] [b] pos) (mTst (mOp rdEq ta tb)):=gv iU ji ha hb (nomark _)
def qW[Jm](ha:ME X a ta)(hb:ME X b tb):MT X (.Compare a [.Is] [b] pos) (mTst (mOp (rdIs id) ta tb)):=gv oV qf ha hb (nomark _)
def yk[Jm](ha:ME X a ta)(hb:ME X b tb)(hm:autoParam (Qo .NotIn b=false) zA0):MT X (.Compare a [.NotIn] [b] pos) (mTst (mOp (rdIn true) ta tb)):=gv yd yc ha hb hm
variable {tA tB:TMT}{b7:List PV}
def mt_w[Jm](h:MW X a tA):MT X a tA:=#[PW.pt h.out]
def yl[Jm](ha:MT X a tA):MW X (.BoolOp .And [a] pos) tA:=#[ou ha.out]
def ym[Jm](ha:MT X a tA):MW X (.BoolOp .Or [a] pos) tA:=#[ow ha.out]
def mAnd(tA tB:TMT):TMT:=λz M R=>tA z M λk M1=>if k=true then tB z M1 R else R false M1
def mOr(tA tB:TMT):TMT:=λz M R=>tA z M λk M1=>if k=true then R true M1 else tB z M1 R
def yn[J:Jm](ha:MT X a tA)(hb:MW X (.BoolOp .And (b::b7) pos) tB):MW X (.BoolOp .And (a::b::b7) pos) (mAnd tA tB):=⟨(oy ha.out hb.out).anti λs H Q q=>by
 obtain⟨F,z,M,k,rs,R,h1,h2⟩:=q;refine#[F,z,M,k,rs,_,h1,λx M1 F1 H1 g1 hx m1=>?_];cases x with
 |true=>exact#[F1,z,M1,k.growM rs.mb g1,rs.growM k.bh g1 m1,R,hx,λy M2 F2 H2 g2 hy m2=>h2 y M2 F2 H2 (g1.trans g2) hy m2]
 |false=>exact h2 _ M1 F1 H1 g1 hx m1⟩
def yo[J:Jm](ha:MT X a tA)(hb:MW X (.BoolOp .Or (b::b7) pos) tB):MW X (.BoolOp .Or (a::b::b7) pos) (mOr tA tB):=⟨(oz ha.out hb.out).anti λs H Q q=>by
 obtain⟨F,z,M,k,rs,R,h1,h2⟩:=q;refine#[F,z,M,k,rs,_,h1,λx M1 F1 H1 g1 hx m1=>?_];cases x with
 |false=>exact#[F1,z,M1,k.growM rs.mb g1,rs.growM k.bh g1 m1,R,hx,λy M2 F2 H2 g2 hy m2=>h2 y M2 F2 H2 (g1.trans g2) hy m2]
 |true=>exact h2 _ M1 F1 H1 g1 hx m1⟩
def mIf(tc:TMT)(ta tb:TME):TME:=λz M R=>tc z M λk M1=>if k=true then ta z M1 R else tb z M1 R
def fw[J:Jm]{tc:TMT}(hc:MT X c tc)(ha:ME X a ta)(hb:ME X b tb):ME X (.IfExp c a b pos) (mIf tc ta tb):=⟨(oA hc.out ha.out hb.out).anti λs H Q q=>by
 obtain⟨F,z,M,k,rs,R,h1,h2⟩:=q;refine#[F,z,M,k,rs,_,h1,λx M1 F1 H1 g1 hx m1=>?_];cases x with
 |true=>exact#[F1,z,M1,k.growM rs.mb g1,rs.growM k.bh g1 m1,R,hx,λd v M2 F2 H2 g2 hy rd m2=>h2 d v M2 F2 H2 (g1.trans g2) hy rd m2]
 |false=>exact#[F1,z,M1,k.growM rs.mb g1,rs.growM k.bh g1 m1,R,hx,λd v M2 F2 H2 g2 hy rd m2=>h2 d v M2 F2 H2 (g1.trans g2) hy rd m2]⟩
def mNil:TMA:=λ_ M R=>R [] M
def yp(ta:TME)(tr:TMA):TMA:=λz M R=>ta z M λx M1=>tr z M1 λxs M2=>R (x::xs) M2
def bt[J:Jm]:MA X [] mNil:=⟨pa_nil.anti λs H Q q=>by
 obtain⟨F,z,M,k,rs,R,h1,h2⟩:=q;exact h2 [] [] M F H (GrowM.refl k.fh) h1 (reps_nil.mpr rfl) rs.rm⟩
variable{t:TMA}
def aU[J:Jm]{e:PV}{te:TME}(ha:ME X e te)(hr:MA X es t)(hs:autoParam (zSE X e es) zA0):MA X (e::es) (yp te t):=⟨(bj ha.out hr.out hs).anti λs H Q q=>by
 obtain⟨F,z,M,k,rs,R,h1,h2⟩:=q;refine#[F,z,M,k,rs,_,h1,λx u M1 F1 H1 g1 hx rx m1=>?_];refine#[F1,z,M1,k.growM rs.mb g1,rs.growM k.bh g1 m1,_,hx,λxs us M2 F2 H2 g2 hy ry m2=>?_];exact h2 _ _ M2 F2 H2 (g1.trans g2) hy (reps_cons.mpr #[_,_,rfl,rx.mono g2.ff,ry]) m2⟩
def mTup(t:TMA):TME:=λz M R=>t z M λxs M1=>xs.length<=1000/\R (.tup xs) M1
def yq[J:Jm]{x1}(h:MA X es t):ME X (.Tuple es x1 pos) (mTup t):=⟨(pj h.out).anti λs H Q q=>by
 obtain⟨F,z,M,k,rs,R,h1,h2⟩:=q;refine#[F,z,M,k,rs,_,h1,λds vs M1 F1 H1 g1 hx rx m1=>?_];have hl:=rx.length;refine#[sz (by rw[hl];exact hx.1),λp hp=>?_];have gn:=Grow.new g1.fh hp (.tup vs);exact h2 _ _ M1 _ _ (g1.trans gn.toM) hx.2 (rep_tupS.mpr #[p,vs,rfl,aD,rx.mono (aO (g1.fh.free hp) _)]) (m1.grow gn)⟩
def mLst(t:TMA):TME:=λz M R=>t z M λxs M1=>xs.length<=1000/\∀p,p∉az M1->R (.ptr p) ((p,.lst xs)::M1)
def yr[J:Jm](h:MA X es t):ME X (.List es pos) (mLst t):=⟨(iX h.out).anti λs H Q q=>by
 obtain⟨F,z,M,k,rs,R,h1,h2⟩:=q;refine#[F,z,M,k,rs,_,h1,λds vs M1 F1 H1 g1 hx rx m1=>?_];have hl:=rx.length;refine#[sz (by rw[hl];exact hx.1),λp hp=>?_];exact h2 _ _ _ F1 _ (g1.trans (GrowM.new g1.fh hp)) (hx.2 p λz=>m1.here z hp) (rep_ptr.mpr rfl) (m1.new g1.fh hp #[vs,aD,rx])⟩
def mCB(r:RDn)(t:TMA):TME:=λz M R=>t z M λds M1=>r ds λd=>R d M1
variable{x:E_}{p:Qa}
def yt[J:Jm]{e:PV}{id:String}{r:List V->Hp->VK->Prop}{rd:RDn}(hc:bu X (.builtin id) r)(L:bY X.K r rd)(hm:X.mg x=p7)(hv:Qd x=be (.builtin id))(ha:MA X (e::es) t)(hg:autoParam (Gl X x) zA0)(hn:autoParam (x≠"__name__") zA1)(e8:autoParam (zND x) zA1)
  (he:autoParam (zSE X e es) zA0) (c_:autoParam (zPL X pos es) zA0):ME X (.Call (.Name x p) (e::es) [] pos) (mCB rd t):=⟨(fc hc hg hm hv ha.out hn e8 he c_).anti λs H Q h=>by
 obtain⟨F,z,M,k,rs,R,h1,h2⟩:=h;refine#[F,z,M,k,rs,_,h1,λds vs M1 F1 H1 g1 hx rx m1=>?_];exact L ds vs F1 H1 _ Q g1.fh hx rx λd w F' H' g hd rd=>h2 d w M1 F' H' (g1.trans g.toM) hd rd (m1.grow g)⟩
def qX[Jm]{e:PV}(hm:X.mg "len"=p7)(ha:MA X [e] t)(hg:autoParam (Gl X "len") zA0)(he:autoParam (zSE X e []) zA0):ME X (.Call (.Name "len" p) [e] [] pos) (mCB jj t):=yt iV qi hm PySem.boot_len ha hg Ik Ik he
def yu[J:Jm]{e:PV}{T:String}{r:List V->Hp->VK->Prop}{rd:RDn}(hc:bu X (.type T) r)(L:bY X.K r rd)(hm:X.mg x=p7)(hv:Qd x=be (.type T))(ha:MA X (e::es) t)(hg:autoParam (Gl X x) zA0)(hn:autoParam (x≠"__name__") zA1)(e8:autoParam (zND x) zA1)
  (he:autoParam (zSE X e es) zA0) (c_:autoParam (zPL X pos es) zA0):ME X (.Call (.Name x p) (e::es) [] pos) (mCB rd t):=⟨(pr hc hg hm hv ha.out hn e8 he c_).anti λs H Q h=>by
 obtain⟨F,z,M,k,rs,R,h1,h2⟩:=h;refine#[F,z,M,k,rs,_,h1,λds vs M1 F1 H1 g1 hx rx m1=>?_];exact L ds vs F1 H1 _ Q g1.fh hx rx λd w F' H' g hd rd=>h2 d w M1 F' H' (g1.trans g.toM) hd rd (m1.grow g)⟩
def qY[Jm](hm:X.mg "int"=p7)(ha:MA X [e] t)(hg:autoParam (Gl X "int") zA0)(he:autoParam (zSE X e []) zA0):ME X (.Call (.Name "int" p) [e] [] pos) (mCB jp t):=yu qw qy hm PyProof.Rows.boot_int ha hg Ik Ik he
def eB(M:MS)(d:D)(x:E_)(fs:List (E_×D)):Prop:=match d with|.ptr a=>mget M a=be (.ins x fs)|.obj y gs=>y=x/\gs=fs|_=>False
def mFld(x f:E_)(te:TME):TME:=λz M R=>te z M λd M1=>∃fs,eB M1 d x fs/\∃d',fs.lookup f=be d'/\R d' M1
def jL{K:Ef}{F H:Hp}{M:MS}{d:D}{v:V}{fs:List (E_×D)}(fh:Same F H)(rm:RepM K F H M)(rd:Rep K F d v)(h:eB M d x fs):∃a C dx ws,v=.ref a/\nsIn K Pi x=be (be (.ref C))/\H a=be (.ins C dx ws)/\RepF K F fs ws:=by
 unfold eB at h;split at h
 .rename_i a;obtain⟨C,dx,ws,n,h1,h2⟩:=rm.ok _ _ (bI h);exact#[a,C,dx,ws,rep_ptr.mp rd,n,h1,h2]
 .obtain⟨rfl,rfl⟩:=h;obtain⟨a,C,dx,ws,e,n,h1,h2⟩:=rep_obj.mp rd;exact#[a,C,dx,ws,e,n,fh _ _ h1,h2]
 .exact h.elim
def aH[J:Jm]{f:E_}(hA:ClsA X.K x f)(he:ME X e ta)(hb:autoParam (P6 e f X.env (P7 e X.env)=P7 e X.env) zA0):ME X (.Attribute e f pos) (mFld x f ta):=⟨(pf he.out hb).anti λs H Q q=>by
 obtain⟨C,hn,hc,hf⟩:=hA;obtain⟨F,z,M,k,rs,R,h1,h2⟩:=q;refine#[F,z,M,k,rs,_,h1,λd u M1 F1 H1 g1 hx rx m1=>?_];obtain⟨fs,hi,d',hl,hR⟩:=hx;obtain⟨a,C',dx,ws,rfl,j7,hH,rf⟩:=jL g1.fh m1 rx hi;rw[hn]at j7;cases j7;obtain⟨v,l,rv⟩:=rf.look hl;exact#[a,C,dx,ws,v,rfl,hH,hc,hf,l,h2 d' v M1 F1 H1 g1 hR rv m1]⟩
end
abbrev XDM:=E_->List (E_×D)->MS->Prop
abbrev SpM:=List D->MS->(D->MS->Prop)->XDM->Prop
def lSpM(K:Ef)(S:SpM):Sp:=λvs H Q E=>∃F ds M,Same F H/\Reps K F ds vs/\RepM K F H M/\∃(R:D->MS->Prop) (RX:XDM),S ds M R RX/\(∀d v M' F' H',GrowM M M' F H F' H'->R d M'->Rep K F' d v->RepM K F' H' M'->Q v H')/\
 ∀x fs C od M' F' H',GrowM M M' F H F' H'->RX x fs M'->ErrD K F' x fs C od->RepM K F' H' M'->E (.ref C) od H'
abbrev CalMM(P:PZ)(w:P2)(K:Ef)(mg:E_->Option KB)(base:P4)(n:Nat)(x:E_)(ps:List E_)(S:SpM):Prop:=Cal P w K mg base n x ps (lSpM K S)
def ofX(S:SpX):SpM:=λds M R RX=>S ds (λd=>R d M) λx fs=>RX x fs M
def ofD(S:SpD):SpM:=λds M R _=>S ds λd=>R d M
variable{vs:List V}
def yw{S:SpX}{Q:VK}{E:XK}(h:lSpM K (ofX S) vs H Q E):lSpX K S vs H Q E:=by
 obtain⟨F,ds,M,fh,rs,rm,R,RX,hS,q,qx⟩:=h;exact#[F,ds,fh,rs,_,_,hS,λd v F' H' g hd rd=>q d v M F' H' g.toM hd rd (rm.grow g),λx fs C od F' H' g hR er=>qx x fs C od M F' H' g.toM hR er (rm.grow g)]
def yx{S:SpD}{Q:VK}{E:XK}(h:lSpM K (ofD S) vs H Q E):lSp K S vs H Q E:=by
 obtain⟨F,ds,M,fh,rs,rm,R,RX,hS,q,qx⟩:=h;exact#[F,ds,fh,rs,_,hS,λd v F' H' g hd rd=>q d v M F' H' g.toM hd rd (rm.grow g)]
section
variable {P:PZ}{w:P2}{K:Ef}{mg:E_->Option KB}{base:P4}{n:Nat}{x:E_}{ps:List E_}
def CalX.toM{S:SpX}(C:CalX P w K mg base n x ps S):CalMM P w K mg base n x ps (ofX S):=by
 obtain⟨f,fd,F,hb,hk,hm⟩:=C;exact#[f,fd,F.imp λvs H Q E h=>yw h,hb,hk,hm]
def CalD.toM{S:SpD}(C:CalD P w K mg base n x ps S):CalMM P w K mg base n x ps (ofD S):=by
 obtain⟨f,fd,F,hb,hk,hm⟩:=C;exact#[f,fd,F.imp λvs H Q E h=>yx h,hb,hk,hm]
def CalMth(P:PZ)(w:P2)(K:Ef)(mg:E_->Option KB)(base:P4)(n:Nat)(x m:E_)(ps:List E_)(sp:Sp):Prop:=
 ∃C f fd,nsIn K Pi x=be (be (.ref C))/\Cls K C/\Meth K C m f/\FnOk P w K mg base (CX1 P w) n f fd ps sp/\Binds K fd ps []
variable{sp:Sp}
def Cal.mono{n':Nat}(h:Cal P w K mg base n x ps sp)(hn:n<=n'):Cal P w K mg base n' x ps sp:=by
 obtain⟨f,fd,F,h⟩:=h;exact#[f,fd,F.mono hn,h]
def Cal.imp{HP:Sp}(h:Cal P w K mg base n x ps sp)(i:∀vs H Q E,HP vs H Q E->sp vs H Q E):Cal P w K mg base n x ps HP:=by
 obtain⟨f,fd,F,h⟩:=h;exact#[f,fd,F.imp i,h]
def CalMth.imp{m:E_}{HP:Sp}(h:CalMth P w K mg base n x m ps sp)(i:∀vs H Q E,HP vs H Q E->sp vs H Q E):CalMth P w K mg base n x m ps HP:=by
 obtain⟨C,f,fd,h1,h2,h3,h4,h5⟩:=h;exact#[C,f,fd,h1,h2,h3,h4.imp i,h5]
end
def XOkM(X:Cx)[J:Jm]:Prop:=∀(σ:L2.St) (z:SD) (M:MS) (F H:Hp) (s:KF) (e C:KM) (od:Option KM) (x:E_) (fs:List (E_×D)),Inv X [] σ H s->Kept J.B J.F0 F H->RepZ X.K J.B F H z σ M->J.RM z M x fs->ErrD X.K F x fs C od->Exd X H s e C od->X.xe (.ref e) s
def EX(X:Cx)[J:Jm](z:SD)(σ:L2.St):XK:=λCv od H'=>∃x fs C M' F',Cv=.ref C/\Kept J.B J.F0 F' H'/\RepZ X.K J.B F' H' z σ M'/\J.RM z M' x fs/\ErrD X.K F' x fs C od
def XOkM.out{X:Cx}[J:Jm](hx:XOkM X)(hex:X.ex=[]){pins:List (KM×Qc)}{σ:L2.St}{s s':KF}{ev:KB}(I:Inv X pins σ H s)
  (h:CX1 X.prog X.w X.stack H s (EX X z σ) ev s'):X.xe ev s':=by
 obtain⟨e,C,od,T,H',rfl,v7,hb,un,hok,JJ,ne,nT,He,HT,x,fs,C',M',F',hC,kk,rr,hR,er⟩:=h;cases hC;have I':Inv X pins σ H' s':=I.call' v7 un hok hb (λb z=>absurd z Iq);exact hx σ z M' F' H' s' e C od x fs (Inv.nopins I') kk rr hR er #[He,bO I hex ne,pn_free I ne,.inr #[T,.none,JJ,bO I hex nT,HT,pn_free I nT]]
section
variable {X:Cx}[J:Jm]{a b c e o:PV}{ta tb te:TME}{pos p c7 a_:Qa}{n m:Nat}{ps:List E_}{S:SpM}{x:E_}{es:List PV}{t:TMA}
def yy(S:SpM)(t:TMA):TME:=λz M R=>t z M λds M1=>S ds M1 R λx fs M'=>J.RM z M' x fs
variable{ds:List My.D}{vs:List V}
def jM{σ:L2.St}{z:SD}{M M1:MS}{F H F1 H1:Hp}{Q:VK}{R:D->MS->Prop}(k:Kept J.B J.F0 F H)(rs:RepZ X.K J.B F H z σ M)(g1:GrowM M M1 F H F1 H1)(m1:RepM X.K F1 H1 M1)(rx:Reps X.K F1 ds vs)
  (hS:S ds M1 R λx fs M'=>J.RM z M' x fs) (h2:∀d v M' F' H',GrowM M M' F H F' H'->R d M'->Rep X.K F' d v->RepM X.K F' H' M'->Q v H'):lSpM X.K S vs H1 Q (EX X z σ):=
 #[F1,ds,M1,g1.fh,rx,m1,R,_,hS,λd v M' F' H' g hd rd m'=>h2 d v M' F' H' (g1.trans g) hd rd m',λy fs C od M' F' H' g hR er m'=>#[y,fs,C,M',F',rfl,(k.growM rs.mb g1).growM (rs.growM k.bh g1 m1).mb g,(rs.growM k.bh g1 m1).growM (k.growM rs.mb g1).bh g m',hR,er]]
def aY(C:CalMM X.prog X.w X.K X.mg X.base n x ps S)(hx:XOkM X)(hr:Room m X.A)(ha:MA X (e::es) t)(hex:autoParam (X.ex=[]) zA0)(hg:autoParam (Gl X x) zA0)(hn:autoParam (n<=m) zA1)(e8:autoParam (zND x) zA1)
  (he:autoParam (zSE X e es) zA0) (c_:autoParam (zPL X pos es) zA0):
  ME X (.Call (.Name x p) (e::es) [] pos) (yy S t):=by
 obtain⟨f,fd,F,hb,hk,hm⟩:=C;refine#[λpins s σ H Q I h=>?_];obtain⟨Fr,z,M,k,rs,R,h1,h2⟩:=h;refine Qb (cG I hg hm ?_ e8);refine callWith_K (h₀:=X.base) I.ok.mod.kin hk (thn (ha.out pos pins s σ H (λvs H1=>lSpM X.K S vs H1 Q (EX X z σ)) I #[Fr,z,M,k,rs,_,h1,λds vs M1 F1 H1 g1 hx rx m1=>jM k rs g1 m1 rx hx h2]) λus s1 hh=>#[hh.elim λ_ h=>h.elim λ_ h=>h.1.kIn,?_]) he c_;obtain⟨vs,H1,I1,r,q⟩:=hh;exact fv F (hr.mono hn) hb (λe s' hq=>hx.out hex I1 hq) I1 r q
def qZ(cs:List E_)(m:E_)(S:E_->SpM)(to:TME)(t:TMA):TME:=λz M R=>to z M λd M1=>∃x,x∈cs/\∃fs,eB M1 d x fs/\fs.lookup m=p7/\t z M1 λds M2=>S x (d::ds) M2 R λx fs M'=>J.RM z M' x fs
variable{cs:List E_}{pl:Rx Bool}
def aW{nm:E_}{S:E_->SpM}(C:∀x,x∈cs->CalMth X.prog X.w X.K X.mg X.base n x nm ps (lSpM X.K (S x)))(hx:XOkM X)(hr:Room m X.A)(ho:ME X o te)(ha:MA X (e::es) t)(hex:autoParam (X.ex=[]) zA0)(hn:autoParam (n<=m) zA1)
  (m5:autoParam (zSE X e es) zA0) (c_:autoParam (zPL X pos es) zA0)
  (ht:P7 (.Call (.Attribute o nm c7) (e::es) [] pos) X.env=(do
   let ov <-P7 o X.env
   QV c7.atName
   let (f,first) <-Qu [ov] (Rg ov nm pl)
   callWith pos f first (QM pos (P1 (e::es) X.env)) (Rw pos (Q5 [] X.env))):=by rfl):
  ME X (.Call (.Attribute o nm c7) (e::es) [] pos) (qZ cs nm S te t):=by
 refine#[λpins s σ H Q I h=>?_];obtain⟨Fr,z,M,k,rs,R,h1,h2⟩:=h;refine methodCall_KW (pl:=pl) (thn (ho.out pins s σ H (λv H1=>∃d M1 F1,GrowM M M1 Fr H F1 H1/\Rep X.K F1 d v/\RepM X.K F1 H1 M1/\∃x,x∈cs/\∃fs,eB M1 d x fs/\fs.lookup nm=p7/\t z M1 λds M2=>S x (d::ds) M2 R λx fs M'=>J.RM z M' x fs) I #[Fr,z,M,k,rs,_,h1,λd v M1 F1 H1 g1 hd rd m1=>#[d,M1,F1,g1,rd,m1,hd]]) λu s1 hh=>?_) ht;obtain⟨v,H1,I1,rv,d,M1,F1,g1,rd,m1,x,Lp,fs,hi,hl,hq⟩:=hh;obtain⟨C',f,fd,hns,q8,JR,F,hb⟩:=C x Lp;obtain⟨a,C2,dx,ws,rfl,x9,hH,rf⟩:=jL g1.fh m1 rd hi;rw[hns]at x9;cases x9;obtain rfl:u=Value.ref a:=rv;refine pe I1 hH q8 JR (rf.none hl) ?_;refine callWith_K (first:=[.ref a]) (h₀:=X.base) I.ok.mod.kin JR.kp (thn (ha.out pos pins s1 σ H1 (λvs H2=>lSpM X.K (S x) (.ref a::vs) H2 Q (EX X z σ)) I1 #[F1,z,M1,k.growM rs.mb g1,rs.growM k.bh g1 m1,_,hq,λds vs M2 F2 H2 g2 hx rx m2=>jM k rs (g1.trans g2) m2 (reps_cons.mpr #[_,_,rfl,rd.mono g2.ff,rx]) hx h2]) λus s2 hh=>#[hh.elim λ_ h=>h.elim λ_ h=>h.1.kIn,?_]) m5 c_;obtain⟨vs,H2,I2,r,q2⟩:=hh;exact fv (us:=.ref a::us) (vs:=.ref a::vs) F (hr.mono hn) hb (λe s' hq=>hx.out hex I2 hq) I2 (.cons rfl r) q2
def dE{nm:E_}{S:E_->SpM}(C:∀x,x∈cs->CalMth X.prog X.w X.K X.mg X.base n x nm ps (lSpM X.K (S x)))(hx:XOkM X)(hr:Room m X.A)(ho:ME X o te)(hex:autoParam (X.ex=[]) zA0)(hn:autoParam (n<=m) zA1)
  (ht:P7 (.Call (.Attribute o nm c7) [] [] pos) X.env=(do
   let ov <-P7 o X.env
   QV c7.atName
   let (f,first) <-Qu [ov] (Rg ov nm pl)
   callWith pos f first (QM pos (P1 [] X.env)) (Rw pos (Q5 [] X.env))):=by rfl):
  ME X (.Call (.Attribute o nm c7) [] [] pos) (qZ cs nm S te mNil):=by
 refine#[λpins s σ H Q I h=>?_];obtain⟨Fr,z,M,k,rs,R,h1,h2⟩:=h;refine methodCall_KW (pl:=pl) (thn (ho.out pins s σ H (λv H1=>∃d M1 F1,GrowM M M1 Fr H F1 H1/\Rep X.K F1 d v/\RepM X.K F1 H1 M1/\∃x,x∈cs/\∃fs,eB M1 d x fs/\fs.lookup nm=p7/\S x [d] M1 R λx fs M'=>J.RM z M' x fs) I #[Fr,z,M,k,rs,_,h1,λd v M1 F1 H1 g1 hd rd m1=>#[d,M1,F1,g1,rd,m1,hd]]) λu s1 hh=>?_) ht;obtain⟨v,H1,I1,rv,d,M1,F1,g1,rd,m1,x,Lp,fs,hi,hl,hq⟩:=hh;obtain⟨C',f,fd,hns,q8,JR,F,hb⟩:=C x Lp;obtain⟨a,C2,dx,ws,rfl,x9,hH,rf⟩:=jL g1.fh m1 rd hi;rw[hns]at x9;cases x9;obtain rfl:u=Value.ref a:=rv;refine pe I1 hH q8 JR (rf.none hl) ?_;refine callWith_K0 (first:=[.ref a]) I1.kIn JR.kp (fv (E:=EX X z σ) (us:=[.ref a]) (vs:=[.ref a]) F (hr.mono hn) hb (λe s' hq=>hx.out hex I1 hq) I1 (.cons rfl .nil) ?_);exact jM k rs g1 m1 (dZ rd) hq h2
def make_of{C:KM}{S:SiD}{x:E_}{σ:L2.St}{z:SD}{M M1:MS}{F H F1 H1:Hp}{a dx:KM}{Q:VK}{E:XK}{T:List (E_×D)->Prop}(g1:GrowM M M1 F H F1 H1)(m1:RepM X.K F1 H1 M1)(rx:Reps X.K F1 ds vs)(hS:S ds T)
  (ha:H1 a=p7) (w9:H1 dx=p7) (t8:dx≠a) (q:∀fs ws dx F' H',Grow F1 H1 F' H'->T fs->H' a=be (.ins C dx ws)->F' a=p7->RepF X.K F' fs ws->Q (.ref a) H'):
  lSi X.K C S (.ref a::(vs++[])) (upd (upd H1 dx (.own a)) a (.ins C dx [])) (λv H2=>v=.non/\Q (.ref a) H2) E:=
 #[a,dx,vs,H1,F1,ds,by rw[E4],rfl,ha,w9,t8,g1.fh,rx,_,hS,λfs ws HA F' H' g hR l8 r_ rf=>#[rfl,q fs ws HA F' H' g hR l8 r_ rf]]
def yz(x:E_)(S:SiD)(t:TMA):TME:=λz M R=>t z M λds M1=>S ds λfs=>R (.obj x fs) M1
def gx{S:SiD}(M:CalM X.prog X.w X.K X.mg X.base n x ps S)(hr:Room m X.A)(ha:MA X (e::es) t)(hg:autoParam (Gl X x) zA0)(hn:autoParam (n+1<=m) zA1)(e8:autoParam (zND x) zA1)
  (he:autoParam (zSE X e es) zA0) (c_:autoParam (zPL X pos es) zA0):
  ME X (.Call (.Name x p) (e::es) [] pos) (yz x S t):=by
 obtain⟨C,f,fd,hns,m6,mk,F,hb⟩:=M;refine#[(iY mk F (hr.mono hn) hg m6 hb .nil fU ha.out e8 he c_).anti λs H Q q=>?_];obtain⟨F,z,M,k,rs,R,h1,h2⟩:=q;refine#[F,z,M,k,rs,_,h1,λds vs M1 F1 H1 g1 hx rx m1=>?_];intro a dx ha w9 t8;refine make_of (σ:=s) (z:=z) (x:=x) g1 m1 rx hx ha w9 t8 λfs ws dx F' H' g hR l8 r_ rf=>?_;have s1:Same F' (upd F' a (.ins C dx ws)):=aO r_ _;have g2:Grow F1 H1 (upd F' a (.ins C dx ws)) H':=⟨g.ff.trans s1,λb o q=>by
  by_cases hb:b=a
  .subst hb;rw[aD]at q;cases q;exact l8
  .rw[au hb]at q;exact g.fh b o q,g.hh,λb q1 q2=>by
  by_cases hb:b=a
  .subst hb;exact absurd ha q2
  .rw[au hb];exact g.out b q1 q2⟩
 exact h2 (.obj x fs) (.ref a) M1 (upd F' a (.ins C dx ws)) H' (g1.trans g2.toM) hR (rep_obj.mpr #[a,C,dx,ws,rfl,hns,aD,RepF.mono s1 fs ws rf]) (m1.grow g2)
def yB(x:E_)(S:SiD)(t:TMA):TME:=λz M R=>t z M λds M1=>S ds λfs=>∀a,a∉az M1->R (.ptr a) ((a,.ins x fs)::M1)
def yD{S:SiD}(M:CalM X.prog X.w X.K X.mg X.base n x ps S)(hr:Room m X.A)(ha:MA X (e::es) t)(hg:autoParam (Gl X x) zA0)(hn:autoParam (n+1<=m) zA1)(e8:autoParam (zND x) zA1)
  (he:autoParam (zSE X e es) zA0) (c_:autoParam (zPL X pos es) zA0):
  ME X (.Call (.Name x p) (e::es) [] pos) (yB x S t):=by
 obtain⟨C,f,fd,hns,m6,mk,F,hb⟩:=M;refine#[(iY mk F (hr.mono hn) hg m6 hb .nil fU ha.out e8 he c_).anti λs H Q q=>?_];obtain⟨F,z,M,k,rs,R,h1,h2⟩:=q;refine#[F,z,M,k,rs,_,h1,λds vs M1 F1 H1 g1 hx rx m1=>?_];intro a dx ha w9 t8;refine make_of (σ:=s) (z:=z) (x:=x) g1 m1 rx hx ha w9 t8 λfs ws dx F' H' g hR l8 r_ rf=>?_;have na:a∉az M1:=λz=>m1.here z ha;have m2:=m1.grow g;refine h2 (.ptr a) (.ref a) _ F' H' (g1.trans #[g.ff,g.fh,λb o _ q=>g.hh b o q,λb _ q1 q2=>g.out b q1 q2,λb q=>?_]) (hR a na) (rep_ptr.mpr rfl) #[E9.mpr #[na,m2.nd],λb o q=>?_,λb q=>?_]
 .rcases Ei.mp q with q|q
  .exact .inr (by rw[q];exact ha)
  .exact .inl q
 .rcases Ei.mp q with q|q
  .cases q;exact#[C,dx,ws,hns,l8,rf]
  .exact m2.ok b o q
 .rcases Ei.mp q with q|q
  .rw[q];exact r_
  .exact m2.fr b q
end
section
variable {X:Cx}[J:Jm]{a b c e:PV}{ta tb tc te:TME}{pos:Qa}{st:P0}{b7:List P0}{t u:TMS}
def yF:TMS:=λE z M=>E.nx z M
def mSeq(t u:TMS):TMS:=λE z M=>t {E with nx:=u E} z M
def bQ:MSs X [] yF:=⟨pss_nil.anti λE s H q=>by
 obtain⟨F0,F,z,M,k,rs,ED,h,e⟩:=q;exact e.nx z s M F H k h rs⟩
def aA(h1:MSt X st t)(h2:MSs X b7 u):MSs X (st::b7) (mSeq t u):=⟨(iO h1.out h2.out).anti λE s H q=>by
 obtain⟨F0,F,z,M,k,rs,ED,h,e⟩:=q;exact#[F0,F,z,M,k,rs,{ED with nx:=u ED},h,#[λz' s' M' F' H' k' hz r'=>#[F0,F',z',M',k',r',ED,hz,e],e.rt,e.bk,e.ct]]⟩
def aE(h1:MSt X st t):MSs X [st] t:=#[oB h1.out]
def mRet(te:TME):TMS:=λE z M=>te z M E.rt
def aG(he:ME X e te):MSt X (.Return (be e) pos) (mRet te):=⟨(oC he.out).anti λE s H q=>by
 obtain⟨F0,F,z,M,k,rs,ED,h,e⟩:=q;exact#[F,z,M,k.kf,rs,_,h,λd v M' F' H' g hd rd m'=>e.rt d v M' F' H' (k.growM rs.mb g) hd rd m' (rs.growM k.bh g m').mb]⟩
def yG(te:TME):TMS:=λE z M=>te z M λ_ M1=>E.nx z M1
def cb(he:ME X e te)(hs:autoParam (Qf e p7 pos.line X.env=pure false) zA0):MSt X (.Expr e pos) (yG te):=⟨(iP he.out hs).anti λE s H q=>by
 obtain⟨F0,F,z,M,k,rs,ED,h,e⟩:=q;exact#[F,z,M,k.kf,rs,_,h,λd v M' F' H' g hd rd m'=>e.nx z s M' F' H' (k.growM rs.mb g) hd (rs.growM k.bh g m')]⟩
def mIfS(c:TMT)(t u:TMS):TMS:=λE z M=>c z M λb M1=>if b=true then t E z M1 else u E z M1
variable{l r:List P0}
def bV{c:PV}{tc:TMT}(hc:MT X c tc)(ha:MSs X l t)(hb:MSs X r u):MSt X (.If c l r pos) (mIfS tc t u):=⟨(oE hc.out ha.out hb.out).anti λE s H q=>by
 obtain⟨F0,F,z,M,k,rs,ED,h,e⟩:=q;refine#[F,z,M,k.kf,rs,_,h,λb M1 F1 H1 g hk m1=>?_];cases b with
 |true=>exact#[F0,F1,z,M1,k.growM rs.mb g,rs.growM k.bh g m1,ED,hk,e]
 |false=>exact#[F0,F1,z,M1,k.growM rs.mb g,rs.growM k.bh g m1,ED,hk,e]⟩
def mIfJ(c:TMT)(t u:TMS):TMS:=λE z M=>∃J:SD->MS->Prop,(c z M λb M1=>if b=true then t {E with nx:=J} z M1 else u {E with nx:=J} z M1)/\∀z' M',J z' M'->E.nx z' M'
def ra{c:PV}{tc:TMT}(hc:MT X c tc)(ha:MSs X l t)(hb:MSs X r u):MSt X (.If c l r pos) (mIfJ tc t u):=⟨(bV hc ha hb).out.anti λE s H q=>by
 obtain⟨F0,F,z,M,k,rs,ED,⟨J,h,j⟩,e⟩:=q;exact#[F0,F,z,M,k,rs,{ED with nx:=J},h,#[λz' s' M' F' H' k' hz r'=>e.nx z' s' M' F' H' k' (j z' M' hz) r',e.rt,e.bk,e.ct]]⟩
def mSet(i:Nat)(te:TME):TMS:=λE z M=>∃P:D->MS->Prop,te z M P/\∀d M',P d M'->E.nx (z.set i (be d)) M'
def aZ(i:Nat){x:E_}{d9:Qa}(hN:X.N.Nodup)(he:ME X e te)(hi:autoParam (X.N[i]?=be x) zA0)(hx:autoParam (Loc X.env.scope x) zA4)(hs:autoParam (Qf e (be (.Name x d9)) pos.line X.env=pure false) zA0)
  (hf:autoParam (zFN X x) zA3):MSt X (.Assign [.Name x d9] e pos) (mSet i te):=⟨(iR hN hi hx he.out hs hf).anti λE s H q=>by
 obtain⟨F0,F,z,M,k,rs,ED,⟨P,h,j⟩,e⟩:=q;exact#[F,z,M,k.kf,rs,P,h,λd v M' F' H' g hd rd m'=>e.nx _ _ M' F' H' (k.growM rs.mb g) (j d M' hd) ((rs.growM k.bh g m').set rd)]⟩
def yH(x f:E_)(to te:TME):TMS:=λE z M=>te z M λd M1=>to z M1 λo M2=>match o with|.ptr a=>∃fs,mget M2 a=be (.ins x fs)/\fs.length<1000/\E.nx z (mput M2 a (.ins x (putD f d fs)))|_=>False
def gy{x f:E_}{o:PV}{to:TME}{d9:Qa}(hA:ClsA X.K x f)(ho:ME X o to)(he:ME X e te)(hs:autoParam (Qf e (be (.Attribute o f d9)) pos.line X.env=pure false) zA0):
  MSt X (.Assign [.Attribute o f d9] e pos) (yH x f to te):=⟨(ph ho.out he.out hs).anti λE s H q=>by
 obtain⟨C,hn,hc,hf⟩:=hA;obtain⟨F0,F,z,M,k,rs,ED,h,ee⟩:=q;refine#[F,z,M,k.kf,rs,_,h,λd v M1 F1 H1 g1 hx rd m1=>?_];have k1:=k.growM rs.mb g1;have Iy:=rs.growM k.bh g1 m1;refine#[F1,z,M1,k1.kf,Iy,_,hx,λo' v' M2 F2 H2 g2 hy ro m2=>?_];have k2:=k1.growM Iy.mb g2;have IM:=Iy.growM k1.bh g2 m2;split at hy
 .rename_i a;obtain⟨fs,hm,hl,On⟩:=hy;obtain⟨C',dx,ws,j7,hH,rf⟩:=m2.ok _ _ (bI hm);rw[hn]at j7;cases j7;have fa:=m2.fr a (ca (bI hm));refine#[a,C,dx,ws,rep_ptr.mp ro,hH,hc,hf,by rw[rf.length];exact hl,?_];have m3:RepM X.K F2 (upd H2 a (.ins C dx (putF f v ws))) (mput M2 a (.ins x (putD f d fs))):=m2.put hm #[C,dx,_,hn,aD,RepF.put (rd.mono g2.ff) rf];have g3:GrowM M2 (mput M2 a (.ins x (putD f d fs))) F2 H2 F2 (upd H2 a (.ins C dx (putF f v ws))):=GrowM.put k2.fh fa hm;exact ee.nx z s _ F2 _ (k2.growM IM.mb g3) On (IM.growM k2.bh g3 m3)
 .exact hy.elim⟩
def yI(c:TMT)(tb:TMS):TMS:=λE z M=>∃W:Nat->SD->MS->Prop,(∃m,W m z M)/\∀m z M,W m z M->
 c z M λb M1=>if b=true then tb {E with nx:=λz' M'=>∃m',m'<m/\W m' z' M',ct:=λz' M'=>∃m',m'<m/\W m' z' M',bk:=E.nx} z M1 else E.nx z M1
def yJ{c:PV}{body:List P0}{tc:TMT}{tb:TMS}(hp:Ql (PU X.prog X.w) X.A X.env X.xe)(hc:MT X c tc)(hb:MSs X body tb):MSt X (.While c body [] pos) (yI tc tb):=⟨(oF hp hc.out hb.out).anti λE s H q=>by
 obtain⟨F0,F,z,M,k,rs,ED,⟨W,⟨m0,w0⟩,c9⟩,e⟩:=q;refine#[λm s' H'=>∃F' z' M',Kept J.B F0 F' H'/\RepZ X.K J.B F' H' z' s' M'/\W m z' M',#[m0,F,z,M,k,rs,w0],?_];rintro m s1 H1⟨F1,z1,M1,k1,r1,w1⟩;refine#[F1,z1,M1,k1.kf,r1,_,c9 m z1 M1 w1,λb M2 F2 H2 g2 hk m2=>?_];cases b with
 |true=>
  refine#[λs3 H3=>∃F3 z3 M3,Kept J.B F0 F3 H3/\RepZ X.K J.B F3 H3 z3 s3 M3/\∃m',m'<m/\W m' z3 M3,λs3 H3 ⟨F3,z3,M3,k3,r3,m',l,w3⟩=>#[m',l,F3,z3,M3,k3,r3,w3],?_];exact#[F0,F2,z1,M2,k1.growM r1.mb g2,r1.growM k1.bh g2 m2,_,hk,#[λz3 s3 M3 F3 H3 k3 h3 r3=>#[F3,z3,M3,k3,r3,h3],e.rt,e.nx,λz3 s3 M3 F3 H3 k3 h3 r3=>#[F3,z3,M3,k3,r3,h3]]]
 |false=>exact e.nx z1 s1 M2 F2 H2 (k1.growM r1.mb g2) hk (r1.growM k1.bh g2 m2)⟩
end
section
variable {X:Cx}[J:Jm]{a b c e o:PV}{ta tb tc te to:TME}{pos:Qa}{st:P0}{b7:List P0}{t u:TMS}
abbrev TMI:=SD->MS->(List D->MS->Prop)->Prop
def mItR(t:TME):TMI:=λz M R=>t z M λx M1=>match x with|.int n=>(0<=n/\n<2^62)/\R ((Ej n.toNat).map λk=>D.int ((k:Nat):Int)) M1|_=>False
def mFor(i:Nat)(ti:TMI)(tb:TMS):TMS:=λE z M=>ti z M λds M1=>∃W:Nat->SD->MS->Prop,W 0 z M1/\(∀k x z M,ds[k]?=be x->W k z M->tb {E with nx:=W (k+1),ct:=W (k+1),bk:=E.nx} (z.set i (be x)) M)/\∀z M,W ds.length z M->E.nx z M
def yL(i:Nat){x:E_}{p p1 p2:Qa}{body:List P0}{tb:TMS}(hp:Ql (PU X.prog X.w) X.A X.env X.xe)(hc:X.calm=true)(hN:X.N.Nodup)(hm:X.mg "range"=p7)(he:ME X e te)(hb:MSs X body tb)(hg:autoParam (Gl X "range") zA0)(hi:autoParam (X.N[i]?=be x) zA0)(hx:autoParam (Loc X.env.scope x) zA4)
  (hf:autoParam (zFN X x) zA3) (hs:autoParam (∀y,zFS X (.Call (.Name "range" p1) [e] [] p2) y) zA2) (n8:autoParam (zSE X e []) zA0) (f9:autoParam (P1 [e] X.env=[(false,P7 e X.env)]) zA0):
  MSt X (.For (.Name x p) (.Call (.Name "range" p1) [e] [] p2) body [] pos) (mFor i (mItR te) tb):=⟨(de hp hc (fN hg hm (bj he.out pa_nil n8) f9) (eY hN hi hx hf) hb.out hs).anti λE s H q=>by
 obtain⟨F0,F,z,M,kp,rs,ED,h,e⟩:=q;refine#[F,z,M,kp.kf,rs,_,h,λd v M1 F1 H1 g1 hd rd m1=>?_];split at hd
 .rename_i n;obtain⟨⟨b1,b2⟩,W,w0,c9,out⟩:=hd;have hl:((Ej n.toNat).map λk=>D.int ((k:Nat):Int)).length=n.toNat:=by simp
  refine#[n,by rw[rep_int.mp rd],Ig,b2,iT (lo:=0) (n:=n.toNat) (λk s' H'=>∃F' z' M',Kept J.B F0 F' H'/\RepZ X.K J.B F' H' z' s' M'/\W k z' M') #[F1,z,M1,kp.growM rs.mb g1,rs.growM kp.bh g1 m1,w0] ?_ ?_]
  .rintro k s' H' hk⟨F',z',M',k',r',w'⟩;have e1:(0:Int)+(k:Int)=(k:Int):=by lia
   exact#[F0,F',_,M',k',r'.set (d:=.int (k:Int)) (rep_int.mpr (by rw[e1])),_,c9 k (.int (k:Int)) z' M' (by simp[hk]) w',#[λz3 s3 M3 F3 H3 k3 h3 r3=>#[F3,z3,M3,k3,r3,h3],e.rt,e.nx,λz3 s3 M3 F3 H3 k3 h3 r3=>#[F3,z3,M3,k3,r3,h3]]]
  .rintro s' H'⟨F',z',M',k',r',w'⟩;exact e.nx z' s' M' F' H' k' (out z' M' (by rw[hl];exact w')) r'
 .exact hd.elim⟩
def yM(te:TME):TME:=λz M R=>te z M λd M1=>match d with|.ptr a=>∃ds,mget M1 a=be (.lst ds)/\R (.int ds.length) M1|_=>False
def yO{p:Qa}(hm:X.mg "len"=p7)(ha:ME X e te)(hg:autoParam (Gl X "len") zA0)(he:autoParam (zSE X e []) zA0):ME X (.Call (.Name "len" p) [e] [] pos) (yM te):=⟨(fc iV hg hm PySem.boot_len (bj ha.out pa_nil he) Ik Ik he).anti λs H Q h=>by
 obtain⟨F,z,M,k,rs,R,h1,h2⟩:=h;refine#[F,z,M,k,rs,_,h1,λd v M1 F1 H1 g1 hx rx m1=>?_];split at hx
 .rename_i a;obtain⟨ds,hm,hR⟩:=hx;obtain⟨vs,hH,rr⟩:=m1.ok _ _ (bI hm);exact#[.ref a,vs.length,by rw[rep_ptr.mp rx],.inl #[vs,SqL.of hH,rfl],h2 _ _ M1 F1 H1 g1 hR (rep_int.mpr (by rw[rr.length])) m1]
 .exact hx.elim⟩
def mIxP(ta tb:TME):TME:=λz M R=>ta z M λx M1=>tb z M1 λy M2=>kdP x λa=>kdI y λi=>∃ds,mget M2 a=be (.lst ds)/\∃d,atI ds i=be d/\R d M2
def yQ(ha:ME X a ta)(hb:ME X b tb)(hs:autoParam (dP b) zA6):ME X (.Subscript a b pos) (mIxP ta tb):=⟨(pe_ix ix_list ha.out hb.out hs).anti λs H Q h=>by
 obtain⟨F,z,M,k,rs,R,h1,h2⟩:=h;refine#[F,z,M,k,rs,_,h1,λx u M1 F1 H1 g1 hx rx m1=>?_];refine#[F1,z,M1,k.growM rs.mb g1,rs.growM k.bh g1 m1,_,hx,λy v M2 F2 H2 g2 hy ry m2=>?_];obtain⟨p,rfl,Lq⟩:=kdP.of hy;obtain⟨i,rfl,ds,hm,d,hd,hR⟩:=kdI.of Lq;obtain⟨vs,hH,rr⟩:=m2.ok _ _ (bI hm);obtain⟨w,e2,g6⟩:=rr.at hd;exact#[p,vs,_,w,rep_ptr.mp rx,rep_int.mp ry,SqL.of hH,e2,h2 d w M2 F2 H2 (g1.trans g2) hR g6 m2]⟩
def yR(to te:TME):TME:=λz M R=>to z M λo M1=>match o with|.ptr a=>(∃ds,mget M1 a=be (.lst ds))/\te z M1 λd M2=>∃ds,mget M2 a=be (.lst ds)/\ds.length<=100000/\R .non (mput M2 a (.lst (ds++[d])))|_=>False
def yT{c7 a_:Qa}(ho:ME X o to)(he:ME X e te)(j3:autoParam (zSE X e []) zA0)
  (b9:autoParam (P6 o "append" X.env (P7 o X.env)=P7 o X.env) zA0)
  (d7:autoParam (zHF X a_ [e]) zA0)
  (c8:autoParam ((c7.endLine==a_.line)=true) zA0):
  ME X (.Call (.Attribute o "append" c7) [e] [] a_) (yR to te):=⟨(cH PySem.F.plainAttrs_list PySem.F.slot_list_append PySem.F.type_list_append fR ho.out (bj he.out pa_nil j3) b9 d7 c8 j3).anti λs H Q h=>by
 obtain⟨F,z,M,k,rs,R,h1,h2⟩:=h;refine#[F,z,M,k,rs,_,h1,λx u M1 F1 H1 g1 hx rx m1=>?_];split at hx
 .rename_i a;obtain⟨⟨Ps,Lr⟩,hx⟩:=hx;obtain⟨Oo,Op,Pt⟩:=m1.ok _ _ (bI Lr);rw[rep_ptr.mp rx];refine#[.inl #[rfl,Oo,SqL.of Op],?_];refine#[F1,z,M1,k.growM rs.mb g1,rs.growM k.bh g1 m1,_,hx,λd v M2 F2 H2 g2 hd rd m2=>?_];obtain⟨ds,hm,hl,hR⟩:=hd;obtain⟨vs,hH,rr⟩:=m2.ok _ _ (bI hm);have hz:vs.length<sizeLine:=by
   rw[rr.length];have h2:(100000:Nat)<sizeLine:=Ik
   lia
  refine#[a,vs,v,rfl,rfl,hH,hz,?_];exact h2 _ _ _ F2 _ (g1.trans (g2.trans (GrowM.put g2.fh (m2.fr a (ca (bI hm))) hm))) hR (rep_non.mpr rfl) (m2.put hm #[_,aD,rr.append (dZ rd)])
 .exact hx.elim⟩
def frzD:MO->D|.ins x fs=>.obj x fs|.lst ds=>.lst ds|.dti a9=>.dti a9
def mFrz(i:Nat)(t:TMS):TMS:=λE z M=>match z[i]? with|some (be (.ptr a))=>∃o,mget M a=be o/\t E (z.set i (be (frzD o))) (mdel M a)|_=>False
def rb(i:Nat){JB:List P0}(h:MSs X JB t):MSs X JB (mFrz i t):=⟨PSs.anti h.out λE s H q=>by
 obtain⟨F0,F,z,M,k,rs,ED,h,e⟩:=q;unfold mFrz at h;split at h
 .rename_i a ez;obtain⟨o,hm,h⟩:=h;have mem:=bI hm;have fa:=rs.rm.fr a (ca mem);have ba:=rs.mb a (ca mem);obtain⟨v,hv,rv⟩:=rs.rs.val i _ ez rfl;have Oq:=rep_ptr.mp rv;subst Oq;have hok:=rs.rm.ok a o mem;obtain⟨ho,l8,Ls⟩:∃ho,H a=be ho/\∀F',Same F F'->F' a=be ho->Rep X.K F' (frzD o) (.ref a):=by
   cases o with
   |ins x fs=>obtain⟨C,dx,ws,n,h1,h2⟩:=hok;exact#[_,h1,λF' s' hF=>rep_obj.mpr #[a,C,dx,ws,rfl,n,hF,RepF.mono s' fs ws h2]]
   |lst ds=>obtain⟨vs,h1,h2⟩:=hok;exact#[_,h1,λF' s' hF=>rep_lst.mpr #[a,vs,rfl,hF,h2.mono s']]
   |dti a9=>exact#[_,hok,λF' s' hF=>rep_dti.mpr #[a,rfl,hF]]
  have s1:Same F (upd F a ho):=aO fa _;have hs:s.set i (be (.ref a))=s:=by
   apply FH;intro n;by_cases hn:i=n
   .subst hn;rw[EU (Ev.mp hv).1,hv]
   .rw[Eu hn]
  have k1:Kept J.B F0 (upd F a ho) H:=⟨k.bh,λb u q=>by
   by_cases hb:b=a
   .subst hb;rw[aD]at q;cases q;exact l8
   .rw[au hb]at q;exact k.fh b u q,k.f0.trans s1,λb h1 h2=>by
   by_cases hb:b=a
   .subst hb;exact absurd ba h2
   .rw[au hb];exact k.out b h1 h2,k.eb,k.jf,k.jo⟩
  have r0:RepS X.K J.B (upd F a ho) H z s:=#[rs.rs.len,λi d e n=>let ⟨v,q1,q2⟩:=rs.rs.val i d e n;#[v,q1,q2.mono s1],λi ds e=>absurd e (rs.no i ds),rs.rs.apart];have Ot:RepM X.K (upd F a ho) H (mdel M a):=⟨rs.rm.nd.sublist del_sub,λb q hb=>by
   obtain⟨ne,hb⟩:=jJ rs.rm.nd hb;exact(rs.rm.ok b q hb).mono s1 λ_ z=>z,λb hb=>by
   obtain⟨⟨b',q⟩,i6,rfl⟩:=EN.mp hb;obtain⟨ne,Nq⟩:=jJ rs.rm.nd i6;rw[au ne];exact rs.rm.fr _ (ca Nq)⟩
  have z0:RepZ X.K J.B (upd F a ho) H z s (mdel M a):=#[r0,rs.no,Ot,λb hb=>rs.mb b (del_sub.subset hb)];have z1:=z0.set (i:=i) (Ls _ s1 aD);rw[hs]at z1;exact#[F0,_,_,_,k1,z1,ED,h,e]
 .exact h.elim⟩
end
def rg{N:List E_}{ds:List D}(rs:Reps K F ds vs):∀(i:Nat) d,(startD N ds)[i]?≠be (be (.own d)):=by
 intro i d e;unfold startD at e;by_cases hi:i<ds.length
 .rw[EW (by simpa using hi),Et]at e;cases q:ds[i]? with
  |none=>rw[q]at e;cases e
  |some x=>
   rw[q]at e;cases e;obtain⟨v,_,q2⟩:=rs.get q;exact rep_own q2
 .rw[Fh (by simpa using hi),Gh]at e;split at e
  .cases e
  .cases e
def growM_nil(g:GrowM [] M' F H F' H'):Grow F H F' H':=#[g.ff,g.fh,λb o h=>g.hh b o (λz=>nomatch z) h,λb h1 h2=>g.out b (λz=>nomatch z) h1 h2]
section
variable {P:PZ}{w:P2}{K:Ef}{mg:E_->Option KB}{base:P4}
variable{x:E_}{ps:List E_}{S:SpM}
def CalMM.toX{n:Nat}{S0:SpX}(C:CalMM P w K mg base n x ps S)(h:∀ds R RX,S0 ds R RX->S ds [] (λd _=>R d) λx fs _=>RX x fs):CalX P w K mg base n x ps S0:=by
 obtain⟨f,fd,F,hb,hk,hm⟩:=C;refine#[f,fd,F.imp λvs H Q E q=>?_,hb,hk,hm];obtain⟨F,ds,fh,rs,R,RX,hS,q1,q2⟩:=q;exact#[F,ds,[],fh,rs,RepM.nil,_,_,h ds R RX hS,λd v M' F' H' g hd rd _=>q1 d v F' H' (growM_nil g) hd rd,λy fs C od M' F' H' g hR er _=>q2 y fs C od F' H' (growM_nil g) hR er]
open Classical in
def Fun.okM{x qual:E_}{st:P0}{f:KM}{fd:P9}{N ps:List E_}{k:Nat}{S:SpM}{dV:KB}(T:FunG K dV x qual st f fd)(F:FnScope N ps (ag st))(len:∀ds M R RX,S ds M R RX->ds.length=ps.length)
  (b8:∀(cdv:KB) (A:P3) (outer:List QN) (s:KF) (H:Hp) (E:XK) (J:Jm),Room k (A.deeper (Qe qual (ag st) s.heap.objs.size f cdv))->XOkM (cxOf (CX1 P w) P w K mg base N qual (ag st) f cdv A outer s H E)->
   ∃t,MSs (cxOf (CX1 P w) P w K mg base N qual (ag st) f cdv A outer s H E) (aJ st) t/\∀ds M R RX,(∀z,J.RM z=λM' x fs=>RX x fs M')->S ds M R RX->t {nx:=λ_ M'=>R .non M',rt:=R} (startD N ds) M):FnOk P w K mg base (CX1 P w) (k+1) f fd ps (lSpM K S):=by
 refine Fun.okC T F (λvs H Q E h=>?_) (λcdv A outer s H vs Q E hr h=>?_)
 .obtain⟨F,ds,M,fh,rs,rm,R,RX,h,_⟩:=h;rw[rs.length];exact len ds M R RX h
 .obtain⟨F,ds,M,fh,rs,rm,R,RX,h,q,qx⟩:=h
  let B:Hp:=λb=>if b∈az M then p7 else H b
  have Nr:∀{b:KM},b∈az M->B b=none:=λ{b} h=>if_pos h;have Ky:∀{b:KM},b∉az M->B b=H b:=λ{b} h=>if_neg h
  letI:Jm:={B:=B,F0:=F,RX:=λ_ _ _=>False,RM:=λ_ M' x fs=>RX x fs M'}
  have gr:∀{M':MS} {F' H':Hp},Kept B F F' H'->(∀a,a∈az M'->B a=p7)->GrowM M M' F H F' H':=λ{M' F' H'} k mb=>⟨k.f0,k.fh,λb o nb e=>k.bh b o (by rw[Ky nb];exact e),λb nb h1 h2=>k.out b h1 (by rw[Ky nb];exact h2),λb hb=>by
   by_cases nb:b∈az M
   .exact .inl nb
   .right;rw[<-Ky nb];exact mb b hb⟩
  have hx:XOkM (cxOf (CX1 P w) P w K mg base N qual (ag st) f cdv A outer s H E):=by
   intro σ z M' F' H' s' e C od y fs I kk rr hR er ⟨He,ne,_,hx⟩;have hE:E (.ref C) od H':=qx y fs C od M' F' H' (gr kk rr.mb) hR er rr.rm;rcases hx with⟨sl,vs,h1,h2⟩|⟨T,fl,h1,h2,h3,_⟩
   .exact pO I h1 h2 He ne hE
   .exact qN I h1 ne h2 He h3 hE
  obtain⟨t,ht,hq⟩:=b8 cdv A outer s H E inferInstance hr hx;have k0:Kept B F F H:=⟨λb o e=>by
   by_cases nb:b∈az M
   .rw[Nr nb]at e;cases e
   .rw[Ky nb]at e;exact e,fh,Same.refl F,λ_ h _=>h,rfl,Same.refl F,λ_ h _=>h⟩
  have r0:RepZ K B F H (startD N ds) (L2.start N vs) M:=#[fj rs,rg rs,rm,λa h=>Nr h];exact#[_,ht.out,F,F,startD N ds,M,k0,r0,_,hq ds M R RX (λ_=>rfl) h,#[λz' s' M' F' H' k hn r=>q _ _ M' F' H' (gr k r.mb) hn (rep_non.mpr rfl) r.rm,λd v M' F' H' k hd rd Nt mb=>q d v M' F' H' (gr k mb) hd rd Nt,λ_ _ _ _ _ _ h _=>h.elim,λ_ _ _ _ _ _ h _=>h.elim]]
variable{N:List E_}
def Tx.okM{st:P0}{k:Nat}(T:Tx K mg x st ps)(F:FnScope N ps (ag st))(len:∀ds M R RX,S ds M R RX->ds.length=ps.length)
  (b8:∀(f:KM) (cdv:KB) (A:P3) (outer:List QN) (s:KF) (H:Hp) (E:XK) (J:Jm),Room k (A.deeper (Qe x (ag st) s.heap.objs.size f cdv))->XOkM (cxOf (CX1 P w) P w K mg base N x (ag st) f cdv A outer s H E)->
   ∃t,MSs (cxOf (CX1 P w) P w K mg base N x (ag st) f cdv A outer s H E) (aJ st) t/\∀ds M R RX,(∀z,J.RM z=λM' x fs=>RX x fs M')->S ds M R RX->t {nx:=λ_ M'=>R .non M',rt:=R} (startD N ds) M):CalMM P w K mg base (k+1) x ps S:=by
 obtain⟨f,fd,T,hb,hm⟩:=T;exact#[f,fd,Fun.okM T F len λcdv A outer s H E J hr hx=>b8 f cdv A outer s H E J hr hx,hb,T.kp,hm]
def Txm(K:Ef)(x m:E_)(qual:E_)(st:P0)(ps:List E_):Prop:=
 ∃C f fd,nsIn K Pi x=be (be (.ref C))/\Cls K C/\Meth K C m f/\Fun K m qual st f fd/\Binds K fd ps []
def Txm.okM{m qual:E_}{st:P0}{k:Nat}(T:Txm K x m qual st ps)(F:FnScope N ps (ag st))(len:∀ds M R RX,S ds M R RX->ds.length=ps.length)
  (b8:∀(f:KM) (cdv:KB) (A:P3) (outer:List QN) (s:KF) (H:Hp) (E:XK) (J:Jm),Room k (A.deeper (Qe qual (ag st) s.heap.objs.size f cdv))->XOkM (cxOf (CX1 P w) P w K mg base N qual (ag st) f cdv A outer s H E)->
   ∃t,MSs (cxOf (CX1 P w) P w K mg base N qual (ag st) f cdv A outer s H E) (aJ st) t/\∀ds M R RX,(∀z,J.RM z=λM' x fs=>RX x fs M')->S ds M R RX->t {nx:=λ_ M'=>R .non M',rt:=R} (startD N ds) M):CalMth P w K mg base (k+1) x m ps (lSpM K S):=by
 obtain⟨C,f,fd,h1,h2,h3,T,hb⟩:=T;exact#[C,f,fd,h1,h2,h3,Fun.okM T F len λcdv A outer s H E J hr hx=>b8 f cdv A outer s H E J hr hx,hb]
end
end My
namespace L2
section
variable {X:Cx}{pins:List (KM×Qc)}{σ:St}{H:Hp}{s:KF}{h':P4}
def Inv.turned2{t':Nat}{e it:KM}(I:Inv X pins σ H s)(k:∀b o,b≠e->b≠it->s.heap.get? b=be o->h'.get? b=be o)(he:FpOk X pins H e)(hi:FpOk X pins H it):Inv X pins σ H {s with heap:=h',toks:=t'}:=by
 obtain⟨e0,e1,e2,e3,e4,e5⟩:=he;obtain⟨i0,i1,i2,i3,i4,i5⟩:=hi;have Ic:∀b u,H b=be u->b≠e/\b≠it:=λb u q=>#[(λz=>by rw[z,e0]at q;cases q),(λz=>by rw[z,i0]at q;cases q)];have nc:∀{b:KM},b∉[e,it]->b≠e/\b≠it:=λ{b} h=>#[λz=>h (by simp[z]),λz=>h (by simp[z])];refine I.step (g':=s.gens) (d':=s.drawn) (ch:=[e,it]) (λb hb=>?_) (λb o _ _ hc q _=>k b o (nc hc).1 (nc hc).2 q) (λb o _ _ hc q _=>#[o.slots,k b o (nc hc).1 (nc hc).2 q]) (λ_ _ _ _ n=>n)
  (λb o hc q=>#[o,k b o (nc hc).1 (nc hc).2 q]) (λ_ _ q=>q) (λ_ _ _ q=>q) (λb ps q=>#[[].toArray,by rw[q];simp]) (λm hm=>?_) (λb u q=>?_) I.bare
 .rcases Ei.mp hb with z|z
  .rw[z];exact#[e3,e1,e4,e5]
  .rw[Eh.mp z];exact#[i3,i1,i4,i5]
 .obtain⟨o,es,ep,ho,r⟩:=hm;exact#[o,es,ep,k _ o (Ne.symm e1) (Ne.symm i1) ho,r]
 .refine(I.hok b u q).stay (λc v hc q'=>k c v ?_ ?_ q') (λ_ q=>q) λ_ _ q=>q
  .rcases hc with z|z
   .rw[z];exact(Ic b u q).1
   .exact(Ic c _ z).1
  .rcases hc with z|z
   .rw[z];exact(Ic b u q).2
   .exact(Ic c _ z).2
end
def Itel(K:Ef)(a:KM):It:=
 #[λi H=>∃xs x,SqL K H a xs/\xs[i]?=be x,λi H x H'=>∃T v,H T=p7/\x=.ref T/\H'=upd H T (.tup [.int i,v])/\∀xs,SqL K H a xs->xs[i]?=be v,λi H=>∃xs,SqL K H a xs/\xs.length<=i]
def Ites(x:E_):It:=#[λi _=>i<x.length,λi H v H'=>∃T c,H T=p7/\v=.ref T/\H'=upd H T (.tup [.int i,.str #[[c].toArray]])/\x.cps[i]?=be c,λi _=>i=x.length]
variable{P:PZ}{w:P2}
def yU{H:Hp}{h:P4}{T:KM}{i:Int}{t:Tok}{v:V}{u:KB}(r:RelV v u)(q:h.get? T=be {cls:=.type "tuple",data:=.seq [.int i t,u].toArray}):ObjOk P w H h T (.tup [.int i,v]):=
 #[by show 2<=sizeLine;decide,[.int i t,u],.cons #[t,rfl] (.cons r .nil),#[_,q,rfl,_,rfl]]
def rh{X:Cx}{pins:List (KM×Qc)}{σ:St}{H:Hp}{s:KF}{h':P4}{t':Nat}{e it:KM}{i:Int}{t:Tok}{v:V}{u:KB}(I:Inv X pins σ H s)(he:FpOk X pins H e)(hi:FpOk X pins H it)(le:e<s.heap.objs.size)(li:it<s.heap.objs.size)(r:RelV v u)
  (hT:h'.get? s.heap.objs.size=be {cls:=.type "tuple",data:=.seq [.int i t,u].toArray}) (hk:∀b o,b≠e->b≠it->s.heap.get? b=be o->h'.get? b=be o):Inv X pins σ (upd H s.heap.objs.size (.tup [.int i,v])) {s with heap:=h',toks:=t'}:=by
 have I1:Inv X pins σ (upd H s.heap.objs.size (.tup [.int i,v])) {s with heap:=s.heap.push {cls:=.type "tuple",data:=.seq [.int i t,u].toArray},toks:=t'}:=
  I.laid (λb o q=>Heap.get?_push_of_some _ q) (Eg _) (yU r (Heap.get?_push_size _ rfl))
 have fp:∀{b:KM},FpOk X pins H b->b<s.heap.objs.size->FpOk X pins (upd H s.heap.objs.size (.tup [.int i,v])) b:=λ{b} h l=>#[by rw[au (El l)];exact h.1,h.2];refine I1.turned2 (h':=h') (t':=t') (λb o h1 h2 q=>?_) (fp he le) (fp hi li);rcases Heap.get?_push_cases (show(s.heap.push {cls:=.type "tuple",data:=.seq [.int i t,u].toArray}).get? b=be o from q)with⟨rfl,rfl⟩|q2
 .exact hT
 .exact hk b o h1 h2 q2
variable{s9:List PV}
def yV{K:Ef}{x1:Nat}{tp:Qa}(a e it:KM)(IN:e≠it):Turn P w K (.Tuple s9 x1 tp) (Itel K a) [e,it] e (λi h=>(∃d8,IsEnum h e it i d8)/\h.IsListIter it a i) where
 mem:=Iq
 obj:=λi h st b hb=>by
  obtain⟨⟨d8,he⟩,hit⟩:=st;rcases Ei.mp hb with z|z
  .rw[z];exact#[_,he,λv z=>by cases z]
  .rw[Eh.mp z];obtain⟨o,ho,c,d⟩:=hit;exact#[o,ho,λv z=>by rw[d]at z;cases z]
 keep:=λi h h' st k=>#[let ⟨d8,he⟩:=st.1;#[d8,k e Iq _ he],st.2.at λo q=>k it Iq o q]
 item:=by
  intro X hP hw hK hc i pins s σ H E I hf st hg;subst hP hw hK;obtain⟨xs,x,hq,hx⟩:=hg;obtain⟨its,rv,p,hz⟩:=I.list hq;obtain⟨u,hu,ru⟩:=rv.get hx;obtain⟨⟨d8,he⟩,hit⟩:=st;have fe:=hf e Iq;have fi:=hf it Iq;have le:e<s.heap.objs.size:=Heap.lt_size he;have li:it<s.heap.objs.size:=by obtain⟨o,ho,_⟩:=hit;exact Heap.lt_size ho
  refine wpAny_pyNext_enum_item he hit p.isList (x:=u) (by simpa using hu) IN λh' y9 Iz hT g8 hk=>?_;refine#[_,rfl,Q9 y9 λh2 Lu i_=>?_];have o9:Heap.SameBut e h' h2:=i_;have nT:s.heap.objs.size≠e:=E3 le;have I1:Inv X pins σ (upd H s.heap.objs.size (.tup [.int i,x])) {s with heap:=h2,toks:=s.toks+1}:=rh I fe fi le li ru ((o9.2 _ nT).trans hT) λb o h1 h3 q=>(o9.2 b h1).trans (hk b o h1 h3 q);refine#[.ref s.heap.objs.size,_,I1,rfl,#[_,x,I.hok.fresh (Eg _),rfl,rfl,λys hy=>by rw[I.list_inj hy hq];exact hx],#[#[u,by simpa using Lu],Iz.at λo q=>(o9.2 it (Ne.symm IN)).trans q],λb hb=>?_];rcases Ei.mp hb with z|z
  .rw[z,au (El le)];exact fe.1
  .rw[Eh.mp z,au (El li)];exact fi.1
 done:=by
  intro X hP hw hK hc i pins s σ H E I hf st hg;subst hP hw hK;obtain⟨xs,hq,hx⟩:=hg;obtain⟨its,rv,p,hz⟩:=I.list hq;obtain⟨⟨d8,he⟩,hit⟩:=st;have hl:=rv.length;obtain⟨f0,f1,f2,f3,f4,f5⟩:=hf it Iq;exact wpAny_pyNext_enum_end (I.ok.hd hc) he hit p.isList Pl λh' eb=>#[rfl,I.turned (t':=s.toks) (λb o hb q=>eb b o hb q) f0 f1 f3 f4 f5]
 self:=λ_ _ _ _ _ st h=>let ⟨⟨d8,he⟩,_⟩:=st;QG he h
def yY{K:Ef}{x1:Nat}{tp:Qa}(x:E_)(t:Tok)(e it:KM)(IN:e≠it):Turn P w K (.Tuple s9 x1 tp) (Ites x) [e,it] e (λi h=>(∃d8,IsEnum h e it i d8)/\h.IsStrIter it "str_ascii_iterator" x t i) where
 mem:=Iq
 obj:=λi h st b hb=>by
  obtain⟨⟨d8,he⟩,hit⟩:=st;rcases Ei.mp hb with z|z
  .rw[z];exact#[_,he,λv z=>by cases z]
  .rw[Eh.mp z];obtain⟨o,ho,c,d⟩:=hit;exact#[o,ho,λv z=>by rw[d]at z;cases z]
 keep:=λi h h' st k=>#[let ⟨d8,he⟩:=st.1;#[d8,k e Iq _ he],let ⟨o,ho,r⟩:=st.2;#[o,k it Iq o ho,r]]
 item:=by
  intro X hP hw hK hc i pins s σ H E I hf st hg;subst hP hw hK;have hi:i<x.cps.size:=hg;obtain⟨⟨d8,he⟩,hit⟩:=st;have fe:=hf e Iq;have fi:=hf it Iq;have le:e<s.heap.objs.size:=Heap.lt_size he;have li:it<s.heap.objs.size:=by obtain⟨o,ho,_⟩:=hit;exact Heap.lt_size ho
  refine wpAny_pyNext_enum_itemD (Draws.strAscii (A:=X.A.in1) (by exact I.ok.hd hc) it x t) he hit hi IN (by simp[IN]) λu h' tk hP y9 Iz hT g8 hk=>?_;obtain⟨c,tu,y_,rfl⟩:=hP;refine#[_,rfl,Q9 y9 λh2 Lu i_=>?_];have o9:Heap.SameBut e h' h2:=i_;have nT:s.heap.objs.size≠e:=E3 le;have I1:Inv X pins σ (upd H s.heap.objs.size (.tup [.int i,.str #[[c].toArray]])) {s with heap:=h2,toks:=tk+1}:=rh I fe fi le li #[tu,rfl] ((o9.2 _ nT).trans hT) λb o h1 h3 q=>(o9.2 b h1).trans (hk b o h1 h3 q);refine#[.ref s.heap.objs.size,_,I1,rfl,#[_,c,I.hok.fresh (Eg _),rfl,rfl,y_],#[#[_,by simpa using Lu],let ⟨o,ho,r⟩:=Iz;#[o,(o9.2 it (Ne.symm IN)).trans ho,r]],λb hb=>?_];rcases Ei.mp hb with z|z
  .rw[z,au (El le)];exact fe.1
  .rw[Eh.mp z,au (El li)];exact fi.1
 done:=by
  intro X hP hw hK hc i pins s σ H E I hf st hg;subst hP hw hK;have hi:i=x.cps.size:=hg;subst hi;obtain⟨⟨d8,he⟩,hit⟩:=st;obtain⟨f0,f1,f2,f3,f4,f5⟩:=hf it Iq;exact wpAny_pyNext_enum_endD (Draws.strAscii (A:=X.A.in1) (by exact I.ok.hd hc) it x t) he hit λh' eb=>#[rfl,I.turned (t':=s.toks) (λb o hb q=>eb b o hb q) f0 f1 f3 f4 f5]
 self:=λ_ _ _ _ _ st h=>let ⟨⟨d8,he⟩,_⟩:=st;QG he h
def iEnL(K:Ef)(ta:TA):TI:=λσ H R=>ta σ H λvs H1=>∃a,vs=[.ref a]/\(∃xs,SqL K H1 a xs)/\R (Itel K a) H1
def iEnS(ta:TA):TI:=λσ H R=>ta σ H λvs H1=>∃x,vs=[.str x]/\x.cps.all (·<128)=true/\R (Ites x) H1
section
variable {X:Cx}{s9:List PV}{x1:Nat}{tp p pos:Qa}{l:PV}{ta:TA}
def yZ(hg:Gl X "enumerate")(hm:X.mg "enumerate"=p7)(ha:PA X [l] ta)(hs:autoParam (P1 [l] X.env=[(false,P7 l X.env)]) zA0):PI X (.Tuple s9 x1 tp) (.Call (.Name "enumerate" p) [l] [] pos) (iEnL X.K ta):=by
 intro pins s σ H R I h;refine Call_ (db I hg hm PyProof.Rows.boot_enumerate (PyProof.Rows.callWith_type1 (thn (ha pos pins s σ H _ I h) λus s1 ⟨vs,H1,I1,r1,q1⟩=>?_) hs rfl));obtain⟨a,rfl,⟨xs,hq⟩,q⟩:=q1;obtain⟨u,rfl,ru⟩:=bM r1;cases ru;obtain⟨its,rv,pl,hz⟩:=I1.list hq;refine call_enumerate_list pl.isList λh' he hit g8 hk=>?_;have I2:Inv X pins σ H1 {s1 with heap:=h'}:=I1.kept (t':=s1.toks) hk;refine QG he ?_;have ne:s1.heap.objs.size+1≠s1.heap.objs.size:=GY _;refine#[s1.heap.objs.size+1,[s1.heap.objs.size+1,s1.heap.objs.size],_,_,H1,rfl,I2,yV a _ _ ne,#[#[_,he],hit],λb hb=>?_,q];rcases Ei.mp hb with z|z
 .rw[z];exact I1.fpOk (Fn _) (I1.hok.fresh (Fn _))
 .rw[Eh.mp z];exact I1.fpOk (Eg _) (I1.hok.fresh (Eg _))
def rj(hg:Gl X "enumerate")(hm:X.mg "enumerate"=p7)(ha:PA X [l] ta)(hs:autoParam (P1 [l] X.env=[(false,P7 l X.env)]) zA0):PI X (.Tuple s9 x1 tp) (.Call (.Name "enumerate" p) [l] [] pos) (iEnS ta):=by
 intro pins s σ H R I h;refine Call_ (db I hg hm PyProof.Rows.boot_enumerate (PyProof.Rows.callWith_type1 (thn (ha pos pins s σ H _ I h) λus s1 ⟨vs,H1,I1,r1,q1⟩=>?_) hs rfl));obtain⟨x,rfl,Lv,q⟩:=q1;obtain⟨u,rfl,t,rfl⟩:=bM r1;refine call_enumerate_str λh' he hit g8 hk=>?_;have I2:Inv X pins σ H1 {s1 with heap:=h'}:=I1.kept (t':=s1.toks) hk;refine QG he ?_;have ne:s1.heap.objs.size+1≠s1.heap.objs.size:=GY _;have Ou:strIterType x="str_ascii_iterator":=by unfold strIterType;rw[Lv];rfl
 rw[Ou]at hit;refine#[s1.heap.objs.size+1,[s1.heap.objs.size+1,s1.heap.objs.size],_,_,H1,rfl,I2,yY x t _ _ ne,#[#[_,he],hit],λb hb=>?_,q];rcases Ei.mp hb with z|z
 .rw[z];exact I1.fpOk (Fn _) (I1.hok.fresh (Fn _))
 .rw[Eh.mp z];exact I1.fpOk (Eg _) (I1.hok.fresh (Eg _))
end
end L2
namespace My
open Exc
section
variable {X:Cx}[J:Jm]{a b c e o:PV}{ta tb tc te to:TME}{pos:Qa}{st:P0}{b7:List P0}{t u:TMS}
def rk{K:Ef}{F:Hp}:∀(is:List Nat) (ds:List D) (vs:List V) (z:SD),Reps K F ds vs->(∀(i:Nat) d,z[i]?≠be (be (.own d)))->∀(i:Nat) d,(aT is ds z)[i]?≠be (be (.own d))
 |[],_,_,z,_,h=>h
 |_::_,[],_,z,_,h=>h
 |i::is,d::ds,vs,z,r,h=>by
  obtain⟨v,vr,rfl,r1,r2⟩:=reps_cons.mp r;refine rk is ds vr _ r2 λj q e=>?_;by_cases hj:i=j
  .subst hj;rw[Fi]at e;simp at e;have:=r1.noown;rw[e.2]at this;cases this
  .rw[Eu hj]at e;exact h j q e
def mItE(t:TME):TMI:=λz M R=>t z M λx M1=>match x with|.lst ds=>R ds M1|_=>False
def za(t:TME):TMI:=λz M R=>t z M λx M1=>match x with|.str x=>x.cps.all (·<128)=true/\R (bP x) M1|_=>False
def rl(is:List Nat)(ti:TMI)(tb:TMS):TMS:=λE z M=>ti z M λds M1=>∃W:Nat->SD->MS->Prop,W 0 z M1/\(∀(k:Nat) x z M,ds[k]?=be x->W k z M->tb {E with nx:=W (k+1),ct:=W (k+1),bk:=E.nx} (aT is [.int k,x] z) M)/\∀z M,W ds.length z M->E.nx z M
variable{is:List Nat}
def rn{K:Ef}{F0 F1 H1:Hp}{z:SD}{s:L2.St}{M1:MS}{E:Ends}{ED:EndsM}{It':It}{g:TG}{tb:TMS}{JS:TS}{ds:List D}(hK:K=X.K)(k1:Kept J.B F0 F1 H1)(Iy:RepZ K J.B F1 H1 z s M1)(e:EndsOkM K F0 ED E)(c5:is.length=2)
  (go:∀k F' H',Same F1 F'->Same F' H'->k<ds.length->It'.go k H') (stop:∀F' H',Same F1 F'->Same F' H'->It'.stop ds.length H')
  (yld:∀k F' H' x H'',Same F1 F'->Same F' H'->k<ds.length->It'.yld k H' x H''->∃T d v,H' T=p7/\x=.ref T/\H''=upd H' T (.tup [.int k,v])/\ds[k]?=be d/\Rep K F' d v)
  (hg:∀(dd:List D) (vs:List V) (T:KM) (z:SD) (s:L2.St) (F H:Hp) (Q:L2.St->Hp->Prop),dd.length=2->H T=be (.tup vs)->Reps K F dd vs->RepS K J.B F H z s->(∀s',RepS K J.B F H (aT is dd z) s'->Q s' H)->g (.ref T) s H Q)
  (Lw:∀E s H,mS K tb E s H->JS E s H)
  (hd:∃W:Nat->SD->MS->Prop,W 0 z M1/\(∀(k:Nat) x z M,ds[k]?=be x->W k z M->tb {ED with nx:=W (k+1),ct:=W (k+1),bk:=ED.nx} (aT is [.int k,x] z) M)/\∀z M,W ds.length z M->ED.nx z M):
  ∃W:Nat->Nat->L2.St->Hp->Prop,(∃m,W 0 m s H1)/\∀i m σ H,W i m σ H->
   (It'.stop i H/\E.nx σ H)\/(It'.go i H/\∃N:L2.St->Hp->Prop,(∀σ' H',N σ' H'->∃m',m'<m/\W (i+1) m' σ' H')/\∀x H',It'.yld i H x H'->g x σ H' λσ2 H2=>JS {E with nx:=N,ct:=N,bk:=E.nx} σ2 H2):=by
 obtain⟨W,w0,c9,out⟩:=hd;refine#[λk m s' H'=>m=ds.length-k/\k<=ds.length/\∃F' z' M',Kept J.B F0 F' H'/\Same F1 F'/\RepZ K J.B F' H' z' s' M'/\W k z' M',#[ds.length,Iq,EI _,F1,z,M1,k1,Same.refl F1,Iy,w0],?_];rintro k m s' H'⟨rfl,hk,F',z',M',k',g',r',w'⟩;by_cases fI:k<ds.length
 .refine .inr #[go k F' H' g' k'.fh fI,λs3 H3=>∃F3 z3 M3,Kept J.B F0 F3 H3/\Same F1 F3/\RepZ K J.B F3 H3 z3 s3 M3/\W (k+1) z3 M3,λs3 H3 h3=>#[ds.length-(k+1),Ig,rfl,fI,h3],λx H'' hy=>?_];obtain⟨T,d,v,hT,rfl,rfl,hd,rd⟩:=yld k F' H' x H'' g' k'.fh fI hy;have gn:=Grow.new k'.fh hT (.tup [.int k,v]);have k2:=k'.grow gn;have r2:=r'.growM k'.bh gn.toM (r'.rm.grow gn);have rp:Reps K (upd F' T (.tup [.int k,v])) [.int k,d] [.int k,v]:=reps_cons.mpr #[_,_,rfl,rep_int.mpr rfl,dZ (rd.mono gn.ff)];refine hg [.int k,d] _ T z' s' _ _ _ rfl aD rp r2.rs λs2 IM=>Lw _ _ _ ?_;have gF:Same F1 (upd F' T (.tup [.int k,v])):=g'.trans gn.ff;refine#[upd F' T (.tup [.int k,v]),upd F' T (.tup [.int k,v]),_,M',#[k2.bh,k2.fh,Same.refl _,λb h1 _=>h1,k2.eb,k2.jf.trans k2.f0,λb h1 h2=>k2.out b (k2.jo b h1 h2) h2],#[IM,rk is _ _ z' rp r2.no,r2.rm,r2.mb],_,c9 k d z' M' hd w',?_];have up:∀{F3 H3:Hp},Kept J.B (upd F' T (.tup [.int k,v])) F3 H3->Kept J.B F0 F3 H3:=λk3=>#[k3.bh,k3.fh,k2.f0.trans k3.f0,λb h1 h2=>k3.out b (k2.out b h1 h2) h2,k2.eb,k2.jf,k2.jo];exact#[λz3 s3 M3 F3 H3 k3 h3 r3=>#[F3,z3,M3,up k3,gF.trans k3.f0,r3,h3],λd v M3 F3 H3 k3=>e.rt d v M3 F3 H3 (up k3),λz3 s3 M3 F3 H3 k3=>e.nx z3 s3 M3 F3 H3 (up k3),λz3 s3 M3 F3 H3 k3 h3 r3=>#[F3,z3,M3,up k3,gF.trans k3.f0,r3,h3]]
 .have ek:k=ds.length:=by lia
  subst ek;exact .inl #[stop F' H' g' k'.fh,e.nx z' s' M' F' H' k' (out z' M' w') r']
variable{es:List PV}{body:List P0}
def zb{x1:Nat}{tp p1 p2:Qa}{tb:TMS}(hp:Ql (PU X.prog X.w) X.A X.env X.xe)(hc:X.calm=true)(hm:X.mg "enumerate"=p7)(he:ME X e te)(hG:DGs X es is)(hb:MSs X body tb)(c5:autoParam (is.length=2) zA0)(hg:autoParam (Gl X "enumerate") zA0)
  (hn:autoParam ((P5 es X.env).length=2) zA0) (m5:autoParam ((P5 es X.env).findIdx? (·.1)=none) zA0)
  (hs:autoParam (∀y,zFS X (.Call (.Name "enumerate" p1) [e] [] p2) y) zA2) (n8:autoParam (zSE X e []) zA0) (f9:autoParam (P1 [e] X.env=[(false,P7 e X.env)]) zA0):
  MSt X (.For (.Tuple es x1 tp) (.Call (.Name "enumerate" p1) [e] [] p2) body [] pos) (rl is (mItE te) tb):=by
 obtain⟨ug,JT,kk⟩:=hG;refine#[(de hp hc (yZ hg hm (bj he.out pa_nil n8) f9) (fM hc JT hn m5) hb.out hs).anti λE s H q=>?_];obtain⟨F0,F,z,M,kp,rs,ED,h,e⟩:=q;refine#[F,z,M,kp.kf,rs,_,h,λd v M1 F1 H1 g1 hd rd m1=>?_];split at hd
 .rename_i ds;obtain⟨p,vs,rfl,hq,rr⟩:=rep_lst.mp rd;refine#[p,rfl,#[vs,SqL.of (g1.fh _ _ hq)],rn (It':=Itel X.K p) rfl (kp.growM rs.mb g1) (rs.growM kp.bh g1 m1) e c5 (λk F' H' s1 s2 hk=>?_) (λF' H' s1 s2=>?_) (λk F' H' x H'' s1 s2 hk hy=>?_) (λdd n_ T z s F H Q hl hT rp HV hQ=>?_) (λ_ _ _ h=>h) hd]
  .have n9:k<vs.length:=by rw[rr.length];exact hk
   exact#[vs,vs[k],SqL.of (s2 _ _ (s1 _ _ hq)),by simp[n9]]
  .exact#[vs,SqL.of (s2 _ _ (s1 _ _ hq)),by rw[rr.length];exact Eg _]
  .obtain⟨T,v,hT,e1,e2,hv⟩:=hy;obtain⟨d,hd,rd⟩:=rr.get' (hv vs (SqL.of (s2 _ _ (s1 _ _ hq))));exact#[T,d,v,hT,e1,e2,hd,rd.mono s1]
  .exact#[T,n_,rfl,SqT.of hT,by rw[rp.length];exact hl,kk dd n_ z s J.B F H Q (by rw[hl,c5]) rp HV hQ]
 .exact hd.elim
def zc{x1:Nat}{tp p1 p2:Qa}{tb:TMS}(hp:Ql (PU X.prog X.w) X.A X.env X.xe)(hc:X.calm=true)(hm:X.mg "enumerate"=p7)(he:ME X e te)(hG:DGs X es is)(hb:MSs X body tb)(c5:autoParam (is.length=2) zA0)(hg:autoParam (Gl X "enumerate") zA0)
  (hn:autoParam ((P5 es X.env).length=2) zA0) (m5:autoParam ((P5 es X.env).findIdx? (·.1)=none) zA0)
  (hs:autoParam (∀y,zFS X (.Call (.Name "enumerate" p1) [e] [] p2) y) zA2) (n8:autoParam (zSE X e []) zA0) (f9:autoParam (P1 [e] X.env=[(false,P7 e X.env)]) zA0):
  MSt X (.For (.Tuple es x1 tp) (.Call (.Name "enumerate" p1) [e] [] p2) body [] pos) (rl is (za te) tb):=by
 obtain⟨ug,JT,kk⟩:=hG;refine#[(de hp hc (rj hg hm (bj he.out pa_nil n8) f9) (fM hc JT hn m5) hb.out hs).anti λE s H q=>?_];obtain⟨F0,F,z,M,kp,rs,ED,h,e⟩:=q;refine#[F,z,M,kp.kf,rs,_,h,λd v M1 F1 H1 g1 hd rd m1=>?_];split at hd
 .rename_i x;obtain⟨ha,hd⟩:=hd;have hl:=gp x;refine#[x,by rw[rep_str.mp rd],ha,rn (It':=Ites x) rfl (kp.growM rs.mb g1) (rs.growM kp.bh g1 m1) e c5 (λk F' H' s1 s2 hk=>?_) (λF' H' s1 s2=>?_) (λk F' H' x H'' s1 s2 hk hy=>?_) (λdd n_ T z s F H Q hl hT rp HV hQ=>?_) (λ_ _ _ h=>h) hd]
  .rw[hl]at hk;exact hk
  .exact hl
  .obtain⟨T,c,hT,e1,e2,hc⟩:=hy;exact#[T,.str #[[c].toArray],.str #[[c].toArray],hT,e1,e2,jH hc,rep_str.mpr rfl]
  .exact#[T,n_,rfl,SqT.of hT,by rw[rp.length];exact hl,kk dd n_ z s J.B F H Q (by rw[hl,c5]) rp HV hQ]
 .exact hd.elim
end
end My
namespace L2
section
variable {prog:PZ}{w:P2}{K:Type}[DecidableEq K]{l5:HeapKind prog w K}{A:P3}{E:KB->KF->Prop}{s:KF}{d a:KM}{k:K}{xs:List (K×KM×KB)}
def zd{v:KB}{Q:KB->KF->Prop}(hu:l5.room A)(n0:l5.is s.heap k a)(hm:s.heap.DictOfH l5 d xs)
  (h1:∀p,Q6 xs k=be p->Q p.2 {s with toks:=s.toks+l5.draws k})
  (h2:Q6 xs k=p7->∀h',h'.DictOfH l5 d (xs++[(k,a,v)])->Heap.SameBut d s.heap h'->Q v {s with heap:=h',toks:=s.toks+l5.draws k})
  (g8:xs.length<=sizeLine):PY (PU prog w) A (Ra d (.ref a) v) Q E s:=by
 obtain⟨o,es,ep,ho,hc,hd,he,Nu,hn⟩:=hm;unfold Ra
 try with_reducible refine Qi ?_
 refine Os (l5.pyHash hu n0 ?_);refine Os (wpAny_dictFind_heap (s:={s with toks:=s.toks+l5.draws k}) hu n0 ho hd he Nu hn ?_ ?_)
 .intro Js;have Lx:k∉xs.map (·.1):=not_mem_keys_of_get Js;refine Os (Ry (Os (wpAny_updateDictKeys (hz:=by have e:=size_of_entries he;lia) (s:={s with toks:=s.toks+l5.draws k}) ho hd (PX (h2 (atKey_none_of_get Js) _ ⟨_,_,ep+1,Heap.get?_update_self _ ho (Obj.isFreed_of_dict (Obj.data_mapDictKeys hd _)),
   hc.mapDictKeys _,Obj.data_mapDictKeys hd _,?_,?_,?_⟩ (Heap.SameBut.update ..))))))
  .simp[he,entryOfKey]
  .intro x hx;rcases EO.mp hx with hx|hx
   .exact l5.keeps (Nu x hx) ho hd (Heap.SameBut.update ..)
   .simp only[Eh]at hx;subst hx;exact l5.keeps n0 ho hd (Heap.SameBut.update ..)
  .rw[E1,FL];refine#[hn,Iq,?_];intro x hx y hy;simp only[EJ,Fo,Eh]at hy;subst hy;exact λe=>Lx (e ▸ hx)
 .intro j p hj;refine Os (wpAny_dictEntries (s:={s with toks:=s.toks+l5.draws k}) ho hd ?_);rw[entry_at he j,hj];exact Os (Ry (PX (h1 p (atKey_of_get hn hj))))
def ze(l5:HeapKind prog w K)(d a:KM)(hd:(d==Qq)=false)(v:KB):
  MeetsIn prog w (Builtin.«dict.setdefault» #[[.ref d,.ref a,v],[]]) (λA R s=>l5.room A.in1/\∃k xs,l5.is s.heap k a/\s.heap.DictOfH l5 d xs/\xs.length<=sizeLine/\
   (∀p,Q6 xs k=be p->R (.ok (.ret p.2)) {s with toks:=s.toks+l5.draws k})/\
   (Q6 xs k=p7->∀h',h'.DictOfH l5 d (xs++[(k,a,v)])->Heap.SameBut d s.heap h'->R (.ok (.ret v)) {s with heap:=h',toks:=s.toks+l5.draws k})):=
 .of_wp λA R s hh=>by
  obtain⟨hu,k,xs,n0,hm,hz,h1,h2⟩:=hh;unfold Builtin.«dict.setdefault»;refine Os ?_;unfold Builtin.Dict.keyAndDefault;refine Os (wpAny_notOrdered_dict hm.typeIs ?_);show PY _ _ (pure (d,Value.ref a,be v)) _ _ s;refine PX ?_;show PY _ _ (if(d==Qq)=true then _ else(Ra d (.ref a) v>>=_)) _ _ s;rw[if_neg (by rw[hd];exact Ew)];exact Os (zd hu n0 hm (λp hp=>PX #[p.2,rfl,h1 p hp]) (λhn h' Ov Kt=>PX #[v,rfl,h2 hn h' Ov Kt]) hz)
end
end L2
namespace My
open Exc
def lookD:List ((Int×Int)×Int)->Int->Int->Option Int
 |[],_,_=>p7
 |((a,b),h)::r,x,y=>if a=x/\b=y then be h else lookD r x y
def jN(x y:Int):∀a9:List ((Int×Int)×Int),valV (dtiV a9) [.inl x,.inl y]=(lookD a9 x y).map V.int
 |[]=>rfl
 |((a,b),h)::r=>by
  show valV (([.inl a,.inl b],V.int h)::dtiV r) _=_;unfold lookD;by_cases e:a=x/\b=y
  .rw[if_pos e,jb (by rw[e.1,e.2])];rfl
  .rw[if_neg e,jc (λz=>e (by
    have z':([Sum.inl a,Sum.inl b]:List Key)=[.inl x,.inl y]:=z;injection z' with z1 z2;injection z2 with z2 _;exact#[Sum.inl.inj z1,Sum.inl.inj z2])),jN x y r]
def sdD(a9:List ((Int×Int)×Int))(x y v:Int):List ((Int×Int)×Int):=if(lookD a9 x y).isSome then a9 else a9++[((x,y),v)]
def zf:V->List V->Hp->VK->Prop:=λx vs H Q=>∃a b i j d a9,x=.ref a/\vs=[.ref b,.int d]/\H a=be (.dT (dtiV a9))/\H b=be (.tup [.int i,.int j])/\Q (.int ((lookD a9 i j).getD d)) H
def zg{X:Cx}(hu:X.A.units+1<QX):MtR X "dict.get" zf:=by
 intro pins s σ H x vs v us Q I rx rv h;obtain⟨a,b,i,j,d,a9,rfl,rfl,ha,hb,q⟩:=h;obtain⟨u,u',rfl,ru,rd⟩:=dO rv;cases(show v=Value.ref a from rx);refine ww hu I (DGet.t (k:=[.inl i,.inl j]) ha hb) ru rd λw' s' I' g6=>#[.int ((lookD a9 i j).getD d),H,I',?_,q];rw[jN]at g6;cases e:lookD a9 i j with
 |none=>rw[e]at g6;exact g6
 |some z=>rw[e]at g6;exact g6
def rSdT:V->List V->Hp->VK->Prop:=λx vs H Q=>∃a b i j d a9,x=.ref a/\vs=[.ref b,.int d]/\H a=be (.dT (dtiV a9))/\H b=be (.tup [.int i,.int j])/\a9.length<100000/\∀w,Q (.int w) (upd H a (.dT (dtiV (sdD a9 i j d))))
def zh{H:Hp}{a:KM}{o:HO}(h:H a=be o):upd H a o=H:=by
 funext b;by_cases e:b=a
 .subst e;rw[aD,h]
 .rw[au e]
def zi{X:Cx}(hu:X.A.units+1<QX):MtR X "dict.setdefault" rSdT:=by
 intro pins s σ H x vs v us Q I rx rv h;obtain⟨a,b,i,j,d,a9,rfl,rfl,ha,hb,hl,q⟩:=h;obtain⟨u,u',rfl,ru,t,rfl⟩:=dO rv;cases(show v=Value.ref a from rx);cases(show u=Value.ref b from ru);obtain⟨z,hd,xs,HR,dd⟩:=wo I.hok ha;have c5:xs.length=a9.length:=by rw[<-Paired.length HR];simp[dtiV]
 have big:(100000:Nat)<sizeLine:=Ik
 have i6:H b=be (.tup (([.inl i,.inl j]:List Key).map kV)):=hb;have l6:=HR.val [.inl i,.inl j];rw[jN]at l6;refine Rp PySem.F.slot_dict_setdefault dd.typeIs PySem.F.entry_dict_setdefault (PySem.F.args_dict_setdefault_3 _ _ _) (ze (QO (bx X.prog X.w)) a b hd (.int d t)) #[RC hu,[.inl i,.inl j],xs,key_of I.hok i6,dd,Ig,λp hp=>?_,λhn h' Kv hs=>?_]
 .rw[hp]at l6;cases e:lookD a9 i j with
  |none=>rw[e]at l6;exact l6.elim
  |some w=>
   rw[e]at l6;have:=q w;unfold sdD at this;rw[e]at this;have e2:(if(be w:Option Int).isSome then a9 else a9++[((i,j),d)])=a9:=rfl;rw[e2,zh ha]at this;exact#[.int w,H,I.tok _,l6,this]
 .rw[hn]at l6;cases e:lookD a9 i j with
  |some w=>rw[e]at l6;exact l6.elim
  |none=>
   have e2:sdD a9 i j d=a9++[((i,j),d)]:=by unfold sdD;rw[e];rfl
   have e3:dtiV (sdD a9 i j d)=dtiV a9++[([.inl i,.inl j],.int d)]:=by rw[e2];simp[dtiV]
   obtain⟨o,es,ep,ho,hx,h3,h4,_,h5⟩:=Kv;have new:ObjOk X.prog X.w (upd H a (.dT (dtiV (sdD a9 i j d)))) h' a (.dT (dtiV (sdD a9 i j d))):=by
    refine#[by rw[e3,EG];simp[dtiV];lia,hd,_,?_,o,es,ep,ho,hx,h3,h4,h5];rw[e3];refine KT.keeps (H:=H) (Paired.snoc (a:=(([.inl i,.inl j]:List Key),V.int d)) (b:=(([.inl i,.inl j]:List Key),b,Value.int d t)) HR #[rfl,i6,#[t,rfl]]) λc ys ec=>?_;rw[au (tG ec ha (λz=>nomatch z))];exact ec
   exact#[.int d,_,wr I (by rw[ha];exact True.intro) hs #[o,ho] new,#[t,rfl],q d]
section
variable {X:Cx}[J:Jm]{a b c e o f:PV}{ta tb tc te to:TME}{pos c7 a_:Qa}{t:TMA}
def mD0:TME:=λ_ M R=>R (.dti []) M
def zj:ME X (.Dict [] [] pos) mD0:=⟨pe_dnewT.anti λs H Q q=>by
 obtain⟨F,z,M,k,rs,R,h1,h2⟩:=q;intro p hp;have gn:=Grow.new k.fh hp (.dT []);exact h2 _ _ M _ _ gn.toM h1 (rep_dti.mpr #[p,rfl,aD]) (rs.rm.grow gn)⟩
def mDN:TME:=λ_ M R=>∀p,p∉az M->R (.ptr p) ((p,.dti [])::M)
def zk:ME X (.Dict [] [] pos) mDN:=⟨pe_dnewT.anti λs H Q q=>by
 obtain⟨F,z,M,k,rs,R,h1,h2⟩:=q;intro p hp;exact h2 _ _ _ F _ (GrowM.new k.fh hp) (h1 p λz=>rs.rm.here z hp) (rep_ptr.mpr rfl) (rs.rm.new k.fh hp aD)⟩
def kdK(ds:List D)(k:Int->Int->Int->Prop):Prop:=kd2 ds λa b=>kdT a λl=>kd2 l λx y=>kdI x λi=>kdI y λj=>kdI b (k i j)
def kdK.of{ds:List D}{k:Int->Int->Int->Prop}(h:kdK ds k):∃i j x,ds=[.tup [.int i,.int j],.int x]/\k i j x:=by
 obtain⟨a,b,rfl,h2⟩:=kd2.of h;obtain⟨l,rfl,h3⟩:=kdT.of h2;obtain⟨x,y,rfl,h4⟩:=kd2.of h3;obtain⟨i,rfl,h5⟩:=kdI.of h4;obtain⟨j,rfl,h6⟩:=kdI.of h5;obtain⟨v,rfl,h7⟩:=kdI.of h6;exact#[i,j,v,rfl,h7]
def zl(to:TME)(t:TMA):TME:=λz M R=>to z M λd M1=>match d with|.dti a9=>(t z M1 λds M2=>kdK ds λi j x=>R (.int ((lookD a9 i j).getD x)) M2)|_=>False
def zm(hu:X.A.units+1<QX)(ho:ME X o to)(ha:MA X [e,f] t)(b9:autoParam (P6 o "get" X.env (P7 o X.env)=P7 o X.env) zA0)
  (d7:autoParam (zHF X a_ [e,f]) zA0)
  (c8:autoParam ((c7.endLine==a_.line)=true) zA0) (j3:autoParam (zSE X e [f]) zA0) (c_:autoParam (zPL X a_ [f]) zA0):
  ME X (.Call (.Attribute o "get" c7) [e,f] [] a_) (zl to t):=⟨(cH PySem.F.plainAttrs_dict PySem.F.slot_dict_get PySem.F.type_dict_get (zg hu) ho.out ha.out b9 d7 c8 j3 c_).anti λs H Q h=>by
 obtain⟨F,z,M,k,rs,R,h1,h2⟩:=h;refine#[F,z,M,k,rs,_,h1,λx u M1 F1 H1 g1 hx rx m1=>?_];split at hx
 .rename_i a9;obtain⟨p,rfl,hp⟩:=rep_dti.mp rx;refine#[.inr (.inr (.inl #[rfl,.inr #[_,g1.fh _ _ hp]])),?_];refine#[F1,z,M1,k.growM rs.mb g1,rs.growM k.bh g1 m1,_,hx,λds vs M2 F2 H2 g2 hd rd m2=>?_];obtain⟨i,j,x,rfl,hd⟩:=kdK.of hd
  focus
   obtain⟨v1,r1,rfl,q1,q2⟩:=reps_cons.mp rd;obtain⟨v2,r2,rfl,q3,q4⟩:=reps_cons.mp q2;rw[reps_nil.mp q4,rep_int.mp q3];obtain⟨b,us,rfl,hb,ru⟩:=rep_tupS.mp q1;have Ly:us=[.int i,.int j]:=(Reps.ints (ns:=[i,j])).mp ru;subst Ly;exact#[p,b,i,j,x,a9,rfl,rfl,g2.fh _ _ (g2.ff _ _ hp),g2.fh _ _ hb,h2 _ _ M2 F2 H2 (g1.trans g2) hd (rep_int.mpr rfl) m2]
 .exact hx.elim⟩
def mDsd(to:TME)(t:TMA):TME:=λz M R=>to z M λd M1=>match d with|.ptr a=>(∃a9,mget M1 a=be (.dti a9))/\(t z M1 λds M2=>kdK ds λi j x=>∃a9,mget M2 a=be (.dti a9)/\a9.length<100000/\∀w,R (.int w) (mput M2 a (.dti (sdD a9 i j x))))|_=>False
def zn(hu:X.A.units+1<QX)(ho:ME X o to)(ha:MA X [e,f] t)(b9:autoParam (P6 o "setdefault" X.env (P7 o X.env)=P7 o X.env) zA0)
  (d7:autoParam (zHF X a_ [e,f]) zA0)
  (c8:autoParam ((c7.endLine==a_.line)=true) zA0) (j3:autoParam (zSE X e [f]) zA0) (c_:autoParam (zPL X a_ [f]) zA0):
  ME X (.Call (.Attribute o "setdefault" c7) [e,f] [] a_) (mDsd to t):=⟨(cH PySem.F.plainAttrs_dict PySem.F.slot_dict_setdefault PySem.F.type_dict_setdefault (zi hu) ho.out ha.out b9 d7 c8 j3 c_).anti λs H Q h=>by
 obtain⟨F,z,M,k,rs,R,h1,h2⟩:=h;refine#[F,z,M,k,rs,_,h1,λx u M1 F1 H1 g1 hx rx m1=>?_];split at hx
 .rename_i a;obtain⟨⟨Pu,Lr⟩,hx⟩:=hx;rw[rep_ptr.mp rx];refine#[.inr (.inr (.inl #[rfl,.inr #[_,m1.ok _ _ (bI Lr)]])),?_];refine#[F1,z,M1,k.growM rs.mb g1,rs.growM k.bh g1 m1,_,hx,λds vs M2 F2 H2 g2 hd rd m2=>?_];obtain⟨i,j,x,rfl,a9,hm,hl,hR⟩:=kdK.of hd
  focus
   obtain⟨v1,r1,rfl,q1,q2⟩:=reps_cons.mp rd;obtain⟨v2,r2,rfl,q3,q4⟩:=reps_cons.mp q2;rw[reps_nil.mp q4,rep_int.mp q3];obtain⟨b,us,rfl,hb,ru⟩:=rep_tupS.mp q1;have Ly:us=[.int i,.int j]:=(Reps.ints (ns:=[i,j])).mp ru;subst Ly;refine#[a,b,i,j,x,a9,rfl,rfl,m2.ok _ _ (bI hm),g2.fh _ _ hb,hl,λw=>?_];exact h2 _ _ _ F2 _ (g1.trans (g2.trans (GrowM.put g2.fh (m2.fr a (ca (bI hm))) hm))) (hR w) (rep_int.mpr rfl) (m2.put hm aD)
 .exact hx.elim⟩
end
section
variable {P:PZ}{w:P2}{K:Ef}{mg:E_->Option KB}{base:P4}
open Classical in
def Cls.okIM{x qual:E_}{st:P0}{f C:KM}{fd:P9}{N:List E_}{p0:E_}{ps:List E_}{k:Nat}{S:SiD}(T:Fun K "__init__" qual st f fd)(hb:Binds K fd (p0::ps) [])(F:FnScope N (p0::ps) (ag st))(len:∀ds R,S ds R->ds.length=ps.length)
  (hns:nsIn K Pi x=be (be (.ref C))) (m6:mg x=be (.ref C)) (mk:Mk K C f)
  (b8:∀(cdv:KB) (A:P3) (outer:List QN) (s:KF) (H:Hp) (E:XK) (J:Jm),Room k (A.deeper (Qe qual (ag st) s.heap.objs.size f cdv))->XOkM (cxOf (CX1 P w) P w K mg base N qual (ag st) f cdv A outer s H E).nox->
   ∃t,MSs (cxOf (CX1 P w) P w K mg base N qual (ag st) f cdv A outer s H E).nox (aJ st) t/\∀a ds R,(∀z M x fs,¬J.RM z M x fs)->S ds R->t {nx:=λ_ M'=>∃fs,M'=[(a,.ins x fs)]/\R fs,rt:=λ_ _=>False} (startD N (.ptr a::ds)) [(a,.ins x [])]):CalM P w K mg base (k+1) x (p0::ps) S:=by
 refine#[C,f,fd,hns,m6,mk,Fun.okC T F (λvs H Q E h=>?_) (λcdv A outer s H vs Q E hr h=>?_),hb]
 .obtain⟨a,dx,us,H1,F,ds,rfl,_,_,_,_,_,rs,R,h,_⟩:=h;rw[Ex,Ex,rs.length,len ds R h]
 .obtain⟨a,dx,us,H1,F1,ds,rfl,rfl,ha,w9,t8,fh,rs,R,h,q⟩:=h
  let H:Hp:=upd (upd H1 dx (.own a)) a (.ins C dx [])
  let B:Hp:=λb=>if b=a then p7 else H b
  have Nv:B a=none:=if_pos rfl;have hB:∀{b:KM},b≠a->B b=H b:=λ{b} h=>if_neg h;have HB:∀{b:KM} {o:HO},H1 b=be o->b≠a/\H b=be o:=λ{b o} e=>by
   have n1:b≠a:=bL e ha;exact#[n1,by show upd _ _ _ b=_;rw[au n1,au (bL e w9)];exact e]
  letI:Jm:={B:=B,F0:=F1,RX:=λ_ _ _=>False,RM:=λ_ _ _ _=>False}
  have hx:XOkM (cxOf (CX1 P w) P w K mg base N qual (ag st) f cdv A outer s H E).nox:=λσ z M' F' H' s' e C od y fs I kk rr hR er _=>hR.elim;obtain⟨t,ht,hq⟩:=b8 cdv A outer s H E inferInstance hr hx;have Fa:F1 a=none:=fh.free ha;have k0:Kept B F1 F1 H:=⟨λb o e=>by
   by_cases n:b=a
   .rw[n,Nv]at e;cases e
   .rw[hB n]at e;exact e,λb o e=>(HB (fh b o e)).2,Same.refl F1,λ_ h _=>h,rfl,Same.refl F1,λ_ h _=>h⟩
  have HV:Reps K F1 (.ptr a::ds) (.ref a::us):=reps_cons.mpr #[_,_,rfl,rep_ptr.mpr rfl,rs];have Ow:RepM K F1 H [(a,.ins x [])]:=⟨by simp[az],λb o hb=>by
   have e:=Eh.mp hb;cases e;exact#[C,dx,[],hns,aD,repf_nil.mpr rfl],λb hb=>by
   have e:b=a:=by simpa[az]using hb
   rw[e];exact Fa⟩
  have r0:RepZ K B F1 H (startD N (.ptr a::ds)) (L2.start N (.ref a::us)) [(a,.ins x [])]:=⟨fj HV,rg HV,Ow,λb hb=>by
   have e:b=a:=by simpa[az]using hb
   rw[e];exact Nv⟩
  refine#[_,ht.out.nox,F1,F1,_,_,k0,r0,_,hq a ds R (λ_ _ _ _ z=>z) h,#[λz' s' M' F' H' kk hn r=>?_,λd v M' F' H' kk hd rd Nt mb=>hd.elim,λ_ _ _ _ _ _ h _=>h.elim,λ_ _ _ _ _ _ h _=>h.elim]];obtain⟨fs,rfl,hR⟩:=hn;obtain⟨C',HA,ws,j7,l8,rf⟩:=r.rm.ok a _ (Eh.mpr rfl);have z7:nsIn K Pi x=be (be (.ref C')):=j7;rw[hns]at z7;cases z7;exact q fs ws HA F' H' ⟨kk.f0,kk.fh,λb o e=>kk.bh b o (by show B b=be o;rw[hB (HB e).1];exact(HB e).2),λb h1 h2=>kk.out b h1 (by
   show B b≠p7;cases e:H1 b with
   |none=>exact absurd e h2
   |some o=>rw[hB (HB e).1,(HB e).2];exact λz=>nomatch z)⟩ hR l8 (r.rm.fr a (by simp[az])) rf
end
section
variable {P:PZ}{w:P2}{K:Ef}{mg:E_->Option KB}{base:P4}{n:Nat}{x m:E_}{ps:List E_}
variable{S:SpM}
def CalMth.one(h:CalMth P w K mg base n x m ps (lSpM K S)):∀y,y∈[x]->CalMth P w K mg base n y m ps (lSpM K ((λ_=>S) y)):=λy hy=>by
 rw[Eh.mp hy];exact h
def rq{f:KM}{fd:P9}{sp:Sp}(h:∀vs H Q E,¬sp vs H Q E):FnOk P w K mg base (CX1 P w) n f fd ps sp:=#[λvs H Q E q=>(h _ _ _ _ q).elim,λA outer s H args us vs Q E _ _ _ _ q=>(h _ _ _ _ q).elim]
def rz(h:∀ds M R RX,¬S ds M R RX):∀vs H Q E,¬lSpM K S vs H Q E:=by
 rintro vs H Q E⟨F,ds,M,_,_,_,R,RX,q,_⟩;exact h ds M R RX q
def CalMth.never{qual:E_}{st:P0}(T:Txm K x m qual st ps)(h:∀ds M R RX,¬S ds M R RX):CalMth P w K mg base n x m ps (lSpM K S):=by
 obtain⟨C,f,fd,h1,h2,h3,T,hb⟩:=T;exact#[C,f,fd,h1,h2,h3,rq (rz h),hb]
def CalMM.never{st:P0}(T:Tx K mg x st ps)(h:∀ds M R RX,¬S ds M R RX):CalMM P w K mg base n x ps S:=by
 obtain⟨f,fd,T,hb,hm⟩:=T;exact#[f,fd,rq (rz h),hb,T.kp,hm]
end
def jO(S:SpM):SpM:=λds M R RX=>∃M1 M2,M=M1++M2/\S ds M2 (λd M'=>R d (M1++M')) λx fs M'=>RX x fs (M1++M')
def keys_app{M1 M2:MS}{a:KM}:a∈az (M1++M2)↔a∈az M1\/a∈az M2:=by unfold az;rw[E1,EO]
def rA{K:Ef}{S:SpM}{vs:List V}{H:Hp}{Q:VK}{E:XK}(h:lSpM K (jO S) vs H Q E):lSpM K S vs H Q E:=by
 obtain⟨F,ds,M,fh,rs,rm,R,RX,⟨M1,M2,rfl,hS⟩,q,qx⟩:=h;have nd:(az M1++az M2).Nodup:=by have:=rm.nd;unfold az at this ⊢;rw[E1]at this;exact this
 have Lz:∀{a:KM},a∈az M1->a∉az M2:=λ{a} h1 h2=>(FL.mp nd).2.2 a h1 a h2 rfl;have Ox:RepM K F H M2:=#[(FL.mp nd).2.1,λa o h=>rm.ok a o (Es _ h),λa h=>rm.fr a (keys_app.mpr (.inr h))];have up:∀{M':MS} {F' H':Hp},GrowM M2 M' F H F' H'->RepM K F' H' M'->GrowM (M1++M2) (M1++M') F H F' H'/\RepM K F' H' (M1++M'):=λ{M' F' H'} g r=>by
  have Nw:∀{a:KM},a∈az M1->H a≠none:=λ{a} h=>rm.here (keys_app.mpr (.inl h));have LA:∀{a:KM},a∈az M1->a∉az M':=λ{a} h1 h2=>by
   rcases g.ks a h2 with z|z
   .exact Lz h1 z
   .exact Nw h1 z
  refine#[#[g.ff,g.fh,λb o nb e=>g.hh b o (λz=>nb (keys_app.mpr (.inr z))) e,λb nb h1 h2=>g.out b (λz=>nb (keys_app.mpr (.inr z))) h1 h2,λb hb=>?_],#[?_,λa o h=>?_,λa h=>?_]]
  .rcases keys_app.mp hb with z|z
   .exact .inl (keys_app.mpr (.inl z))
   .exact(g.ks b z).imp (λz=>keys_app.mpr (.inr z)) id
  .unfold az;rw[E1];exact FL.mpr #[(FL.mp nd).1,r.nd,λa h1 b h2 e=>LA h1 (e ▸ h2)]
  .rcases EO.mp h with z|z
   .have ka:a∈az M1:=ca z;exact(rm.ok a o (E2 _ z)).mono g.ff λo e=>g.hh a o (Lz ka) e
   .exact r.ok a o z
  .rcases keys_app.mp h with z|z
   .exact g.out a (Lz z) (rm.fr a (keys_app.mpr (.inl z))) (Nw z)
   .exact r.fr a z
 exact#[F,ds,M2,fh,rs,Ox,_,_,hS,λd v M' F' H' g hd rd m'=>q d v _ F' H' (up g m').1 hd rd (up g m').2,λx fs C od M' F' H' g hR er m'=>qx x fs C od _ F' H' (up g m').1 hR er (up g m').2]
section
variable {P:PZ}{w:P2}{K:Ef}{mg:E_->Option KB}{base:P4}{n:Nat}{x m:E_}{ps:List E_}{S:SpM}
def CalMM.frame(C:CalMM P w K mg base n x ps S):CalMM P w K mg base n x ps (jO S):=C.imp λ_ _ _ _ h=>rA h
def CalMth.frame(C:CalMth P w K mg base n x m ps (lSpM K S)):CalMth P w K mg base n x m ps (lSpM K (jO S)):=C.imp λ_ _ _ _ h=>rA h
end
def nilX(S:SpX):SpM:=λds M R RX=>M=[]/\∃(R0:D->Prop) (IP:XD),S ds R0 IP/\(∀d M',R0 d->R d M')/\∀x fs M',IP x fs->RX x fs M'
def CalMM.nilX{P:PZ}{w:P2}{K:Ef}{mg:E_->Option KB}{base:P4}{n:Nat}{x:E_}{ps:List E_}{S:SpX}(C:CalMM P w K mg base n x ps (nilX S)):CalX P w K mg base n x ps S:=C.toX λ_ R RX h=>#[rfl,R,RX,h,λ_ _ h=>h,λ_ _ _ h=>h]
def NoOwn(z:SD):Prop:=∀(i:Nat) ds,z[i]?≠be (be (.own ds))
end My
namespace My
section
variable {K:Ef}{h:P4}{mg:E_->Option KB}{x y m q f:E_}{st:P0}{ps:List E_}
abbrev NsC(K:Ef)(x:E_)(C:KM):Prop:=nsIn K Pi x=be (be (.ref C))
variable{C:KM}
def NsC.uniq{D:KM}(a:NsC K x C)(b:NsC K x D):C=D:=by
 have e:=a.symm.trans b;cases e;rfl
abbrev BindA(x q:E_)(st:P0)(ps:List E_):Prop:=∀(kV doc pm:KB) (an:Option KM) (cdv ct:KB) (us:List KB),us.length=ps.length->QA (fnOf x q (bz st) (aJ st) (ag st) .none kV doc pm an cdv ct) #[us,[]]=pure (ps.zip us)
def FnIn(K:Ef)(x:E_)(st:P0):Prop:=∃f fd,NsC K x f/\Fun K x x st f fd
variable{oc kV dc pm cd ct:KB}{od an:Option KM}{sl:Array (Option KB)}
def fnIn_mk{f:KM}(a:nsIn K Pi x=be (be (.ref f)))(l:K.lookup f=be #[oc,od,.func (fnOf x x (bz st) (aJ st) (ag st) .none kV dc pm an cd ct),sl])(c:codeIn K cd x=true)(k:keepIn K (.ref f)=true):FnIn K x st:=#[f,_,a,ja l c k]
def FnIn.tx(T:FnIn K x st)(X:K.In h)(G:h.Ns Pi mg)(b:BindA x x st ps):Tx K mg x st ps:=by
 obtain⟨f,fd,a,F⟩:=T;exact#[f,fd,F,F.binds b,mg_of X G a]
def FnIn.law{p:E_}(T:FnIn K x st)(X:K.In h)(G:h.Ns Pi mg){fa:KM}(LB:mg x=be (.ref fa))(b:∀(kV doc pm:KB) (an:Option KM) (cdv ct v:KB),QA (fnOf x x (bz st) (aJ st) (ag st) .none kV doc pm an cdv ct) #[[v],[]]=pure [(p,v)]):∃fd,(∀(s:KF) (v:KB),Q1 s fd #[[v],[]] [(p,v)])/\Fun K x x st fa fd:=by
 obtain⟨f,fd,a,F⟩:=T;have e:=LB.symm.trans (mg_of X G a);cases e;refine#[fd,λs v=>?_,F];obtain⟨oc,od,kV,doc,pm,an,cdv,ct,osl,rfl,lk,i9⟩:=F.ex;exact .of_eq (b _ _ _ _ _ _ v)
variable{us:List KB}
def bo{x:E_}{xs:List E_}(h:us.length=(x::xs).length):∃u t,us=u::t/\t.length=xs.length:=by
 cases us with
 |nil=>cases h
 |cons u t=>exact#[u,t,rfl,Nat.succ.inj h]
def len_0(h:us.length=([]:List E_).length):us=[]:=GZ h
variable{x0:E_}
def zo(b:∀(kV doc pm:KB) (an:Option KM) (cdv ct u0:KB),QA (fnOf x q (bz st) (aJ st) (ag st) .none kV doc pm an cdv ct) #[[u0],[]]=pure [(x0,u0)]):BindA x q st [x0]:=λkV doc pm an cdv ct us hl=>by
 obtain⟨u0,t0,rfl,h0⟩:=bo hl;cases len_0 h0;exact b kV doc pm an cdv ct u0
variable{x1:E_}
def bind2(b:∀(kV doc pm:KB) (an:Option KM) (cdv ct u0 u1:KB),QA (fnOf x q (bz st) (aJ st) (ag st) .none kV doc pm an cdv ct) #[[u0,u1],[]]=pure [(x0,u0),(x1,u1)]):BindA x q st [x0,x1]:=λkV doc pm an cdv ct us hl=>by
 obtain⟨u0,t0,rfl,h0⟩:=bo hl;obtain⟨u1,t1,rfl,h1⟩:=bo h0;cases len_0 h1;exact b kV doc pm an cdv ct u0 u1
variable{x2:E_}
def bind3(b:∀(kV doc pm:KB) (an:Option KM) (cdv ct u0 u1 u2:KB),QA (fnOf x q (bz st) (aJ st) (ag st) .none kV doc pm an cdv ct) #[[u0,u1,u2],[]]=pure [(x0,u0),(x1,u1),(x2,u2)]):BindA x q st [x0,x1,x2]:=λkV doc pm an cdv ct us hl=>by
 obtain⟨u0,t0,rfl,h0⟩:=bo hl;obtain⟨u1,t1,rfl,h1⟩:=bo h0;obtain⟨u2,t2,rfl,h2⟩:=bo h1;cases len_0 h2;exact b kV doc pm an cdv ct u0 u1 u2
variable{x3:E_}
def bind4(b:∀(kV doc pm:KB) (an:Option KM) (cdv ct u0 u1 u2 u3:KB),QA (fnOf x q (bz st) (aJ st) (ag st) .none kV doc pm an cdv ct) #[[u0,u1,u2,u3],[]]=pure [(x0,u0),(x1,u1),(x2,u2),(x3,u3)]):BindA x q st [x0,x1,x2,x3]:=λkV doc pm an cdv ct us hl=>by
 obtain⟨u0,t0,rfl,h0⟩:=bo hl;obtain⟨u1,t1,rfl,h1⟩:=bo h0;obtain⟨u2,t2,rfl,h2⟩:=bo h1;obtain⟨u3,t3,rfl,h3⟩:=bo h2;cases len_0 h3;exact b kV doc pm an cdv ct u0 u1 u2 u3
def bind5{x4:E_}(b:∀(kV doc pm:KB) (an:Option KM) (cdv ct u0 u1 u2 u3 u4:KB),QA (fnOf x q (bz st) (aJ st) (ag st) .none kV doc pm an cdv ct) #[[u0,u1,u2,u3,u4],[]]=pure [(x0,u0),(x1,u1),(x2,u2),(x3,u3),(x4,u4)]):BindA x q st [x0,x1,x2,x3,x4]:=λkV doc pm an cdv ct us hl=>by
 obtain⟨u0,t0,rfl,h0⟩:=bo hl;obtain⟨u1,t1,rfl,h1⟩:=bo h0;obtain⟨u2,t2,rfl,h2⟩:=bo h1;obtain⟨u3,t3,rfl,h3⟩:=bo h2;obtain⟨u4,t4,rfl,h4⟩:=bo h3;cases len_0 h4;exact b kV doc pm an cdv ct u0 u1 u2 u3 u4
def bind6{x4 x5:E_}(b:∀(kV doc pm:KB) (an:Option KM) (cdv ct u0 u1 u2 u3 u4 u5:KB),QA (fnOf x q (bz st) (aJ st) (ag st) .none kV doc pm an cdv ct) #[[u0,u1,u2,u3,u4,u5],[]]=pure [(x0,u0),(x1,u1),(x2,u2),(x3,u3),(x4,u4),(x5,u5)]):BindA x q st [x0,x1,x2,x3,x4,x5]:=λkV doc pm an cdv ct us hl=>by
 obtain⟨u0,t0,rfl,h0⟩:=bo hl;obtain⟨u1,t1,rfl,h1⟩:=bo h0;obtain⟨u2,t2,rfl,h2⟩:=bo h1;obtain⟨u3,t3,rfl,h3⟩:=bo h2;obtain⟨u4,t4,rfl,h4⟩:=bo h3;obtain⟨u5,t5,rfl,h5⟩:=bo h4;cases len_0 h5;exact b kV doc pm an cdv ct u0 u1 u2 u3 u4 u5
structure ClF(K:Ef)(x:Str)(C:KM):Prop where
 ns:NsC K x C
 cl:Cls K C
 ha:Ey K (.ref C) "__class__"=be (be (.builtin "object.__class__"))
 hn:FC K (.builtin "object.__class__") "__get__"=be (be (.builtin "getset_descriptor.__get__"))
 ht:FD K (.builtin "object.__class__")=be true
 hm:ES K C (.type "object")=be true
def ClIn(K:Ef)(x:E_):Prop:=∃C,ClF K x C
def clIn_mk(a:nsIn K Pi x=be (be (.ref C)))(pg:plainGet K C Str.empty=true)(hd:hasDictIn K C=true)(po:plainOver K C=true)(sa:Ey K (.ref C) "__setattr__"=be (be (.builtin "object.__setattr__")))
  (ha:Ey K (.ref C) "__class__"=be (be (.builtin "object.__class__"))) (hn:FC K (.builtin "object.__class__") "__get__"=be (be (.builtin "getset_descriptor.__get__"))) (ht:FD K (.builtin "object.__class__")=be true) (hm:ES K C (.type "object")=be true):ClIn K x:=#[C,a,#[pg,hd,po,sa],ha,hn,ht,hm]
def NoIn(K:Ef)(x f:E_):Prop:=∃C,NsC K x C/\Ey K (.ref C) f=be p7
def noIn_mk(a:nsIn K Pi x=be (be (.ref C)))(b:Ey K (.ref C) f=be p7):NoIn K x f:=#[C,a,b]
def ClIn.a(c:ClIn K x)(n:NoIn K x f):ClsA K x f:=by
 obtain⟨C,k⟩:=c;obtain⟨D,a,b⟩:=n;cases NsC.uniq k.ns a;exact#[C,a,k.cl,b]
def MtIn(K:Ef)(x m q:E_)(st:P0):Prop:=∃C f fd,NsC K x C/\Meth K C m f/\Fun K m q st f fd
def mtIn_mk{f:KM}(a:nsIn K Pi x=be (be (.ref C)))(b:Ey K (.ref C) m=be (be (.ref f)))(i:isFn K (.ref f)=true)(l:K.lookup f=be #[oc,od,.func (fnOf m q (bz st) (aJ st) (ag st) .none kV dc pm an cd ct),sl])(c:codeIn K cd q=true)(k:keepIn K (.ref f)=true):MtIn K x m q st:=#[C,f,_,a,#[b,i,k],ja l c k]
def MtIn.txm(T:MtIn K x m q st)(c:ClIn K x)(b:BindA m q st ps):Txm K x m q st ps:=by
 obtain⟨C,k⟩:=c;obtain⟨D,f,fd,a,mt,F⟩:=T;cases NsC.uniq k.ns a;exact#[C,f,fd,a,k.cl,mt,F,F.binds b]
def InIn(K:Ef)(x q:E_)(st:P0):Prop:=∃C f fd,NsC K x C/\Mk K C f/\Fun K "__init__" q st f fd
def inIn_mk{f:KM}(a:nsIn K Pi x=be (be (.ref C)))(mk:makesIn K C=true)(b:Ey K (.ref C) "__init__"=be (be (.ref f)))(i:isFn K (.ref f)=true)(kp:keepIn K (.ref C)=true)(l:K.lookup f=be #[oc,od,.func (fnOf "__init__" q (bz st) (aJ st) (ag st) .none kV dc pm an cd ct),sl])(c:codeIn K cd q=true)(k:keepIn K (.ref f)=true):InIn K x q st:=#[C,f,_,a,#[mk,b,i,kp],ja l c k]
def Txi(K:Ef)(mg:E_->Option KB)(x q:E_)(st:P0)(ps:List E_):Prop:=∃C f fd,NsC K x C/\mg x=be (.ref C)/\Mk K C f/\Fun K "__init__" q st f fd/\Binds K fd ps []
def InIn.txi(T:InIn K x q st)(X:K.In h)(G:h.Ns Pi mg)(b:BindA "__init__" q st ps):Txi K mg x q st ps:=by
 obtain⟨C,f,fd,a,mk,F⟩:=T;exact#[C,f,fd,a,mg_of X G a,mk,F,F.binds b]
def CiIn(K:Ef)(x:E_)(i:Int):Prop:=∃t,nsIn K Pi x=be (be (.int i t))
def CsIn(K:Ef)(x y:E_):Prop:=∃t,nsIn K Pi x=be (be (.str y t))
def ciIn_mk{i:Int}{t:Tok}(a:nsIn K Pi x=be (be (.int i t))):CiIn K x i:=#[t,a]
def csIn_mk{t:Tok}(a:nsIn K Pi x=be (be (.str y t))):CsIn K x y:=#[t,a]
def CiIn.g{i:Int}(c:CiIn K x i)(X:K.In h)(G:h.Ns Pi mg):∃t,mg x=be (.int i t):=let ⟨t,a⟩:=c;#[t,mg_of X G a]
def CsIn.g(c:CsIn K x y)(X:K.In h)(G:h.Ns Pi mg):∃t,mg x=be (.str y t):=let ⟨t,a⟩:=c;#[t,mg_of X G a]
def NnIn(K:Ef)(x:E_):Prop:=nsIn K Pi x=be p7
def nnIn_mk(a:nsIn K Pi x=be p7):NnIn K x:=a
structure ErF(K:Ef)(x:Str)(bm:List KB)(C N:KM):Prop where
 ns:NsC K x C
 kp:keepIn K (.ref C)=true
 ob:∃nm q bs sn sub ab col dd k0 k1 k2 k3 k5,K.lookup C=be (Qt nm q C N bs bm true sn sub ab col dd k0 k1 k2 k3 k5 "ValueError.__new__")
structure ErN(K:Ef)(N:KM):Prop where
 ok:nsOkIn K N=true
 no:nsIn K N "__init__"=be p7
def EbIn(K:Ef):Prop:=∃C N,ErF K "MotifError" Exc.veLine C N/\ErN K N
def EdIn(K:Ef)(x:E_)(C N:KM):Prop:=∃B,NsC K "MotifError" B/\ErF K x (.ref B::Exc.veLine) C N
def E0In(K:Ef)(x:E_):Prop:=∃C N,EdIn K x C N/\ErN K N
def EmIn(K:Ef)(x y:E_):Prop:=∃C D,NsC K x C/\NsC K y D/\ES K C (.ref D)=be (subE x y)
section
variable {B C D N:KM}{nm qn:E_}{bs:List KB}{sn:List E_}{sub:List KB}{ab:Bool}{col:Option Bool}{dd:Option KM}{k0 k1 k2 k3 k5:Option KB}{nc:KB}{nd:Option KM}{ne:Array DictEntry}{np:Nat}{nl:Array (Option KB)}
def ebIn_mk(a:nsIn K Pi "MotifError"=be (be (.ref C)))(kp:keepIn K (.ref C)=true)(o:K.lookup C=be (Qt nm qn C N bs Exc.veLine true sn sub ab col dd k0 k1 k2 k3 k5 "ValueError.__new__"))(nk:K.lookup N=be #[nc,nd,.dict ne np,nl])(al:ne.toList.all (λe=>match e.key with|.str _ _=>true|_=>false)=true)(ni:nsIn K N "__init__"=be p7):EbIn K:=#[C,N,#[a,kp,_,_,_,_,_,_,_,_,_,_,_,_,_,o],qP nk al,ni]
def e0In_mk(b:nsIn K Pi "MotifError"=be (be (.ref B)))(a:nsIn K Pi x=be (be (.ref C)))(kp:keepIn K (.ref C)=true)(o:K.lookup C=be (Qt nm qn C N bs (.ref B::Exc.veLine) true sn sub ab col dd k0 k1 k2 k3 k5 "ValueError.__new__"))(nk:K.lookup N=be #[nc,nd,.dict ne np,nl])(al:ne.toList.all (λe=>match e.key with|.str _ _=>true|_=>false)=true)(ni:nsIn K N "__init__"=be p7):E0In K x:=#[C,N,#[B,b,a,kp,_,_,_,_,_,_,_,_,_,_,_,_,_,o],qP nk al,ni]
def emIn_mkT(e:subE x y=true)(a:nsIn K Pi x=be (be (.ref C)))(c:nsIn K Pi y=be (be (.ref D)))(d:ES K C (.ref D)=be true):EmIn K x y:=#[C,D,a,c,e ▸ d]
def emIn_mkF(e:subE x y=false)(a:nsIn K Pi x=be (be (.ref C)))(c:nsIn K Pi y=be (be (.ref D)))(d:ES K C (.ref D)=be false):EmIn K x y:=#[C,D,a,c,e ▸ d]
end
def EbIn.k(e:EbIn K)(X:K.In h)(G:h.Ns Pi mg):∃C N bm,ErrK K mg "MotifError" C N bm/\ErrN K N:=by
 obtain⟨C,N,k,n⟩:=e;exact#[C,N,_,#[k.ns,mg_of X G k.ns,k.kp,k.ob,qO],n.ok,n.no]
def EdIn.k{N:KM}(e:EdIn K x C N)(b:EbIn K)(X:K.In h)(G:h.Ns Pi mg):∃bm,ErrK K mg x C N bm:=by
 obtain⟨B,hB,k⟩:=e;obtain⟨B',N',kb,n⟩:=b;cases NsC.uniq kb.ns hB;obtain⟨_,_,_,_,_,_,_,_,_,_,_,_,_,o⟩:=kb.ob;exact#[_,k.ns,mg_of X G k.ns,k.kp,k.ob,xX o rfl n.ok n.no]
def E0In.k(e:E0In K x)(b:EbIn K)(X:K.In h)(G:h.Ns Pi mg):∃C N bm,ErrK K mg x C N bm/\ErrN K N:=by
 obtain⟨C,N,k,n⟩:=e;obtain⟨bm,z⟩:=k.k b X G;exact#[C,N,bm,z,n.ok,n.no]
def AllP(p:E_->Prop):List E_->Prop
 |[]=>True
 |a::l=>p a/\AllP p l
def AllP.mem{p:E_->Prop}:∀{l:List E_},AllP p l->∀x∈l,p x
 |_::_,h,_,.head _=>h.1
 |_::_,h,_,.tail _ m=>AllP.mem h.2 _ m
def zp{es:List E_}(c:AllP (λx=>∃C N bm,ErrK K mg x C N bm) es)(s:AllP (λx=>AllP (λy=>EmIn K x y) es) es):ErrsK K mg es:=by
 refine#[c.mem,λx hx y hy C C' h1 h2=>?_];obtain⟨A,B,a,b,m⟩:=(s.mem x hx).mem y hy;cases NsC.uniq a h1;cases NsC.uniq b h2;exact m
end
structure Bx where
 P:PZ
 w:P2
 K:Ef
 mg:E_->Option KB
 base:P4
abbrev Bx.T(V:Bx)(x:E_)(st:P0)(ps:List E_):Prop:=Tx V.K V.mg x st ps
abbrev Bx.Tm(V:Bx)(x m q:E_)(st:P0)(ps:List E_):Prop:=Txm V.K x m q st ps
abbrev Bx.Ti(V:Bx)(x q:E_)(st:P0)(ps:List E_):Prop:=Txi V.K V.mg x q st ps
abbrev Bx.Ek(V:Bx)(es:List E_):Prop:=ErrsK V.K V.mg es
abbrev Bx.m(V:Bx)(x:E_):Prop:=V.mg x=p7
abbrev Bx.gi(V:Bx)(x:E_)(i:Int):Prop:=∃t,V.mg x=be (.int i t)
abbrev Bx.gs(V:Bx)(x y:E_):Prop:=∃t,V.mg x=be (.str y t)
abbrev Bx.a(V:Bx)(x f:E_):Prop:=ClsA V.K x f
abbrev Bx.D(V:Bx)(n:Nat)(x:E_)(ps:List E_)(S:SpD):Prop:=CalD V.P V.w V.K V.mg V.base n x ps S
abbrev Bx.X(V:Bx)(n:Nat)(x:E_)(ps:List E_)(S:SpX):Prop:=CalX V.P V.w V.K V.mg V.base n x ps S
abbrev Bx.MM(V:Bx)(n:Nat)(x:E_)(ps:List E_)(S:SpM):Prop:=CalMM V.P V.w V.K V.mg V.base n x ps S
abbrev Bx.M(V:Bx)(n:Nat)(x:E_)(ps:List E_)(S:SiD):Prop:=CalM V.P V.w V.K V.mg V.base n x ps S
abbrev Bx.Q(V:Bx)(n:Nat)(x m:E_)(ps:List E_)(S:SpM):Prop:=CalMth V.P V.w V.K V.mg V.base n x m ps (lSpM V.K S)
abbrev Bx.n(V:Bx)(x:E_):Prop:=∃C N bm,ErrK V.K V.mg x C N bm/\ErrN V.K N
section
variable {P:PZ}{w:P2}{K:Ef}{mg:E_->Option KB}{base:P4}
variable{N ps:List E_}
def Txi.okI{x qual:E_}{st:P0}{p0:E_}{k:Nat}{S:SiD}(T:Txi K mg x qual st (p0::ps))(F:FnScope (p0::N) (p0::ps) (ag st))(len:∀ds R,S ds R->ds.length=ps.length)
  (b8:∀(f:KM) (cdv:KB) (A:P3) (outer:List QN) (s:KF) (H:Hp) (E:XK) (J:Jx),Room k (A.deeper (Qe qual (ag st) s.heap.objs.size f cdv))->
   ∃t,WDI (cxOf (Exc.CX1 P w) P w K mg base (p0::N) qual (ag st) f cdv A outer s H E).nox x (aJ st) t/\∀ds R,S ds R->t (p7::startD N ds) [] R):CalM P w K mg base (k+1) x (p0::ps) S:=by
 obtain⟨C,f,fd,a,b,c,d,e⟩:=T;exact Cls.okIW d e F len a b c (b8 f)
def Txi.okIM{x qual:E_}{st:P0}{p0:E_}{k:Nat}{S:SiD}(T:Txi K mg x qual st (p0::ps))(F:FnScope N (p0::ps) (ag st))(len:∀ds R,S ds R->ds.length=ps.length)
  (b8:∀(f:KM) (cdv:KB) (A:P3) (outer:List QN) (s:KF) (H:Hp) (E:XK) (J:Jm),Room k (A.deeper (Qe qual (ag st) s.heap.objs.size f cdv))->XOkM (cxOf (Exc.CX1 P w) P w K mg base N qual (ag st) f cdv A outer s H E).nox->
   ∃t,MSs (cxOf (Exc.CX1 P w) P w K mg base N qual (ag st) f cdv A outer s H E).nox (aJ st) t/\∀a ds R,(∀z M x fs,¬J.RM z M x fs)->S ds R->t {nx:=λ_ M'=>∃fs,M'=[(a,.ins x fs)]/\R fs,rt:=λ_ _=>False} (startD N (.ptr a::ds)) [(a,.ins x [])]):CalM P w K mg base (k+1) x (p0::ps) S:=by
 obtain⟨C,f,fd,a,b,c,d,e⟩:=T;exact Cls.okIM d e F len a b c (b8 f)
end
section
variable {X:Cx}[J:Jx]{a b c e o d_ iter:PV}{es:List PV}{ta tb tc te to ti tj:TD}{tt:TDT}{t:TDA}{pos px:Qa}{x:E_}{scope:Qk}
def rB(ix:Nat)(Hz:TDI)(te:TD):TSD:=λE z=>Hz z (cmpP te z λd=>match d with|.lst ys=>E.nx (z.set ix (be (.own ys)))|_=>False)
def zq{K:Ef}{E:Ends}{s:L2.St}{H:Hp}{ix:Nat}{wi:TI}{Hz:TDI}(hI:ItOk K wi Hz)(q:lS K (rB ix Hz te) E s H):tAsg (fu wi (lT K dT1) (lE K te)) (eX ix) E s H:=by
 obtain⟨B,F0,F,z,k,rs,ED,h,e⟩:=q;refine hI k.kf rs h λitems J F1 H1 g1 hg it=>jy (Q:=λv H=>E.nx (s.set ix (be v)) H) k.kf g1 rs (λD ys us F' H' hH hF GG hu ry hR=>?_) it (cmpP.g hg);have r2:=(rs.grow GG).setOwn (i:=ix) (a:=D) (k.bh.free hH) hF ry λj dj _ q1 q2=>by
  obtain⟨a,vs,p1,p2,_⟩:=rs.own j dj q1;rw[p1]at q2;cases q2;rw[hH]at p2;cases p2
 rw[xR hu]at r2;exact e.nx _ _ F' H' (k.grow GG) hR r2
def zr(ix:Nat){y:E_}{py m7:Qa}(hc:X.calm=true)(S:CompScope X scope x)(hN:X.N.Nodup)(hi:WDE X iter ti)(he:∀cl s₀ H₀ fp,WDE (bg X scope cl x s₀ H₀ fp) d_ te)(JI:autoParam (X.N[ix]?=be y) zA0)(hy:autoParam (Loc X.env.scope y) zA4)
  (hf:autoParam (zFN X y) zA3) (Hw:autoParam (Qf (.ListComp d_ [#[.Name x px,iter,[],0]] scope pos) (be (.Name y py)) m7.line X.env=pure true) zA0) (hs:autoParam (∀y,zFS X iter y) zA2):
  WDS X (.Assign [.Name y py] (.ListComp d_ [#[.Name x px,iter,[],0]] scope pos) m7) (rB ix (dItS ti) te):=#[(qF hc S (yf hi.out) (λ_ _ _ _=>jx) (λa b c d=>(he a b c d).out) hN JI hy hf Hw hs).anti λE s H q=>zq itS q]
def Ee:RDn:=λds R=>match ds with|[.lst xs]=>∃ns:List Int,xs=ns.map D.int/\0<ns.length/\∀m,m∈ns->(∀a∈ns,m<=a)->R (.int m)|_=>False
def rSCount:RTx:=λy ds R=>match ds with|[.str p]=>R (.int (Builtin.Str.occurrences y p 0 y.length (y.length+1)).length)|_=>False
def zt:MtS X "str.count" rSCount:=by
 refine#[λx vs H Q=>∃y p,x=.str y/\vs=[.str p]/\Q (.int (Builtin.Str.occurrences y p 0 y.length (y.length+1)).length) H,?_,?_]
 .intro pins s σ H x vs v us Q I rx rv h;obtain⟨y,p,rfl,rfl,q⟩:=h;obtain⟨t,rfl⟩:=rx;obtain⟨u,rfl,t',rfl⟩:=bM rv;exact SC.count #[.int _,H,I.tok _,#[_,rfl],q]
 .intro y ds vs F H R Q r h q;unfold rSCount at h;split at h
  .obtain⟨v,vr,rfl,h1,h2⟩:=reps_cons.mp r;rw[reps_nil.mp h2,rep_str.mp h1];exact#[_,_,rfl,rfl,q _ _ (λ_=>rep_int.mpr rfl) h]
  .exact h.elim
def rC{c7 a_:Qa}(ho:WDE X o to)(ha:WDA X [e] t)(b9:autoParam (P6 o "count" X.env (P7 o X.env)=P7 o X.env) zA0)
  (d7:autoParam (zHF X a_ [e]) zA0)
  (c8:autoParam ((c7.endLine==a_.line)=true) zA0) (hs:autoParam (zSE X e []) zA0):WDE X (.Call (.Attribute o "count" c7) [e] [] a_) (dTx rSCount to t):=#[jI PySem.F.slot_str_count PySem.F.type_str_count zt ho.out ha.out b9 d7 c8 hs]
def zu(is:List Nat)(ti:TDI)(tb:TSD):TSD:=λE z=>ti z λds=>∃W:Nat->SD->Prop,W 0 z/\(∀(k:Nat) x z,ds[k]?=be x->W k z->tb {E with nx:=W (k+1),ct:=W (k+1),bk:=E.nx} (aT is [.int k,x] z))/\∀z,W ds.length z->E.nx z
variable{is:List Nat}
def zv{K:Ef}{B F0 F1 H1:Hp}{z:SD}{s:L2.St}{E:Ends}{ED:EndsD}{It':It}{g:TG}{tb:TSD}{JS:TS}{ds:List D}(k1:Kept B F0 F1 H1)(Iy:RepS K B F1 H1 z s)(e:EndsOk K B F0 ED E)
  (go:∀k F' H',Same F1 F'->Same F' H'->k<ds.length->It'.go k H') (stop:∀F' H',Same F1 F'->Same F' H'->It'.stop ds.length H')
  (yld:∀k F' H' x H'',Same F1 F'->Same F' H'->k<ds.length->It'.yld k H' x H''->∃T d v,H' T=p7/\x=.ref T/\H''=upd H' T (.tup [.int k,v])/\ds[k]?=be d/\Rep K F' d v)
  (hg:∀(dd:List D) (vs:List V) (T:KM) (z:SD) (s:L2.St) (F H:Hp) (Q:L2.St->Hp->Prop),dd.length=2->H T=be (.tup vs)->Reps K F dd vs->RepS K B F H z s->(∀s',RepS K B F H (aT is dd z) s'->Q s' H)->g (.ref T) s H Q)
  (Lw:∀E s H,lS K tb E s H->JS E s H)
  (hd:∃W:Nat->SD->Prop,W 0 z/\(∀(k:Nat) x z,ds[k]?=be x->W k z->tb {ED with nx:=W (k+1),ct:=W (k+1),bk:=ED.nx} (aT is [.int k,x] z))/\∀z,W ds.length z->ED.nx z):
  ∃W:Nat->Nat->L2.St->Hp->Prop,(∃m,W 0 m s H1)/\∀i m σ H,W i m σ H->
   (It'.stop i H/\E.nx σ H)\/(It'.go i H/\∃N:L2.St->Hp->Prop,(∀σ' H',N σ' H'->∃m',m'<m/\W (i+1) m' σ' H')/\∀x H',It'.yld i H x H'->g x σ H' λσ2 H2=>JS {E with nx:=N,ct:=N,bk:=E.nx} σ2 H2):=by
 obtain⟨W,w0,c9,out⟩:=hd;refine#[λk m s' H'=>m=ds.length-k/\k<=ds.length/\∃F' z',Kept B F0 F' H'/\Same F1 F'/\RepS K B F' H' z' s'/\W k z',#[ds.length,Iq,EI _,F1,z,k1,Same.refl F1,Iy,w0],?_];rintro k m s' H'⟨rfl,hk,F',z',k',g',r',w'⟩;by_cases fI:k<ds.length
 .refine .inr #[go k F' H' g' k'.fh fI,λs3 H3=>∃F3 z3,Kept B F0 F3 H3/\Same F1 F3/\RepS K B F3 H3 z3 s3/\W (k+1) z3,λs3 H3 h3=>#[ds.length-(k+1),Ig,rfl,fI,h3],λx H'' hy=>?_];obtain⟨T,d,v,hT,rfl,rfl,hd,rd⟩:=yld k F' H' x H'' g' k'.fh fI hy;have gn:=Grow.new k'.fh hT (.tup [.int k,v]);have k2:=k'.grow gn;have rp:Reps K (upd F' T (.tup [.int k,v])) [.int k,d] [.int k,v]:=reps_cons.mpr #[_,_,rfl,rep_int.mpr rfl,dZ (rd.mono gn.ff)];refine hg [.int k,d] _ T z' s' _ _ _ rfl aD rp (r'.grow gn) λs2 IM=>Lw _ _ _ ?_;have gF:Same F1 (upd F' T (.tup [.int k,v])):=g'.trans gn.ff;refine#[B,upd F' T (.tup [.int k,v]),upd F' T (.tup [.int k,v]),_,#[k2.bh,k2.fh,Same.refl _,λb h1 _=>h1,k2.eb,k2.jf.trans k2.f0,λb h1 h2=>k2.out b (k2.jo b h1 h2) h2],IM,_,c9 k d z' hd w',?_];have up:∀{F3 H3:Hp},Kept B (upd F' T (.tup [.int k,v])) F3 H3->Kept B F0 F3 H3:=λk3=>#[k3.bh,k3.fh,k2.f0.trans k3.f0,λb h1 h2=>k3.out b (k2.out b h1 h2) h2,k2.eb,k2.jf,k2.jo];exact#[λz3 s3 F3 H3 k3 h3 r3=>#[F3,z3,up k3,gF.trans k3.f0,r3,h3],λd v F3 H3 k3=>e.rt d v F3 H3 (up k3),λz3 s3 F3 H3 k3=>e.nx z3 s3 F3 H3 (up k3),λz3 s3 F3 H3 k3 h3 r3=>#[F3,z3,up k3,gF.trans k3.f0,r3,h3]]
 .have ek:k=ds.length:=by lia
  subst ek;exact .inl #[stop F' H' g' k'.fh,e.nx z' s' F' H' k' (out z' w') r']
def zw{es:List PV}{x1:Nat}{tp p1 p2:Qa}{body:List P0}{tb:TSD}(hp:Ql (PU X.prog X.w) X.A X.env X.xe)(hc:X.calm=true)(hm:X.mg "enumerate"=p7)(he:WDE X e te)(hG:DGs X es is)(hb:WDSs X body tb)(c5:autoParam (is.length=2) zA0)(hg:autoParam (Gl X "enumerate") zA0)
  (hn:autoParam ((P5 es X.env).length=2) zA0) (m5:autoParam ((P5 es X.env).findIdx? (·.1)=none) zA0)
  (hs:autoParam (∀y,zFS X (.Call (.Name "enumerate" p1) [e] [] p2) y) zA2) (n8:autoParam (zSE X e []) zA0) (f9:autoParam (P1 [e] X.env=[(false,P7 e X.env)]) zA0):
  WDS X (.For (.Tuple es x1 tp) (.Call (.Name "enumerate" p1) [e] [] p2) body [] pos) (zu is (dItS te) tb):=by
 obtain⟨ug,JT,kk⟩:=hG;refine#[(de hp hc (rj hg hm (bj he.out pa_nil n8) f9) (fM hc JT hn m5) hb.out hs).anti λE s H q=>?_];obtain⟨B,F0,F,z,kp,rs,ED,h,e⟩:=q;refine#[B,F,z,kp.kf,rs,_,h,λd v F1 H1 g1 hd rd=>?_];split at hd
 .rename_i x;obtain⟨ha,hd⟩:=hd;have hl:=gp x;refine#[x,by rw[rep_str.mp rd],ha,zv (It':=Ites x) (kp.grow g1) (rs.grow g1) e (λk F' H' s1 s2 hk=>?_) (λF' H' s1 s2=>?_) (λk F' H' x H'' s1 s2 hk hy=>?_) (λdd n_ T z s F H Q hl hT rp HV hQ=>?_) (λ_ _ _ h=>h) hd]
  .rw[hl]at hk;exact hk
  .exact hl
  .obtain⟨T,c,hT,e1,e2,hc⟩:=hy;exact#[T,.str #[[c].toArray],.str #[[c].toArray],hT,e1,e2,jH hc,rep_str.mpr rfl]
  .exact#[T,n_,rfl,SqT.of hT,by rw[rp.length];exact hl,kk dd n_ z s B F H Q (by rw[hl,c5]) rp HV hQ]
 .exact hd.elim
def zx(r r':RD2)(ta tb tc:TD):TD:=λz R=>ta z λx=>tb z λy=>r x y λd=>∃k,d=.bl k/\(k=true->tc z λw=>r' y w R)/\(k=false->R (.bl false))
def zy{op Ih:Rk}{r r':R2}{rd Kz:RD2}(ho:OpR X (P' op) r)(v4:OpR X (P' Ih) r')(L:aK X.K r rd)(L':aK X.K r' Kz)(ha:WDE X a ta)(hb:WDE X b tb)(hc:WDE X c tc)(hm:autoParam (lastMarks [op,Ih] [b,c]=false) zA8):WDT X (.Compare a [op,Ih] [b,c] pos) (dTst (zx rd Kz ta tb tc)):=by
 refine#[(ve ho v4 ha.out hb.out hc.out hm).anti λs H Q q=>?_];obtain⟨B,F,z,kf,rs,R,h1,h2⟩:=q;refine#[B,F,z,kf,rs,_,h1,λx u F1 H1 g1 hx rx=>?_];refine#[B,F1,z,kf.grow g1,rs.grow g1,_,hx,λy v F2 H2 g2 hy ry=>?_];refine L x y u v F2 H2 _ _ g2.fh hy (rx.mono g2.ff) ry λd w F3 H3 g3 hd rd=>?_;obtain⟨k,rfl,hT,hF⟩:=hd;cases k with
 |true=>
  refine#[true,rep_bl.mp rd,ite_tt ?_];refine#[B,F3,z,((kf.grow g1).grow g2).grow g3,((rs.grow g1).grow g2).grow g3,_,hT rfl,λw' v' F4 H4 g4 hw g6=>?_];refine L' y w' v v' F4 H4 _ _ g4.fh hw ((ry.mono g3.ff).mono g4.ff) g6 λd' w2 F5 H5 g5 gV Kz=>?_;split at gV
  .exact#[_,rep_bl.mp Kz,h2 _ F5 H5 (g1.trans (g2.trans (g3.trans (g4.trans g5)))) gV]
  .exact gV.elim
 |false=>exact#[false,rep_bl.mp rd,ite_ff #[false,rfl,h2 _ F3 H3 (g1.trans (g2.trans g3)) (hF rfl)]]
def zz(K:Ef):R2:=λx y H Q=>∃p xs i z,x=.ref p/\y=.int i/\0<=i/\SqL K H p xs/\xs[i.toNat]?=be z/\Q z H
def zA:PGet X (zz X.K):=by
 intro pins s σ H x y v u Q I rx ry h;obtain⟨p,xs,i,z,rfl,rfl,h0,hq,he,q⟩:=h;cases rx;obtain⟨t,rfl⟩:=ry;obtain⟨its,r,pl,hz⟩:=I.list hq;obtain⟨w,ew,g6⟩:=r.get he;have hl:=r.length;have hn:=line63;have hi:=(Ev.mp he).1;exact wpAny_getItem_list pl.isList h0 Ig (by simpa using ew) #[z,H,I,g6,q]
def rD(i:Nat)(ti te:TD):TSD:=λE z=>match z[i]? with
 |some (be (.own ds))=>ti z λy=>(match y with|.int k=>∃n,0<=k/\ds[k.toNat]?=be (.int n)/\te z λd=>(match d with|.int m=>E.nx (z.set i (be (.own (ds.set k.toNat (.int (n+m))))))|_=>False)|_=>False)
 |_=>False
def zB(i:Nat){x:E_}{p1 p2:Qa}(hb:WDE X b tb)(he:WDE X e te)(hN:autoParam (X.N[i]?=be x) zA0)(hv:autoParam (Vis X.env.scope x) zA5)(hd:autoParam (zND x) zA1)
  (i9:autoParam (zNC x) zA1)
  (ha:autoParam (∀ov iv new,augStore b ov iv new=(do Qu [new,ov,iv] (Rm ov iv new);RG [new,ov,iv] [];pure .next)) zA7):
  WDS X (.AugAssign (.Subscript (.Name x p1) b p2) .Add e pos) (rD i tb te):=⟨(uf (dN hN hv hd i9) hb.out zA he.out uh pG ha).anti λE s H q=>by
 obtain⟨B,F0,F,z,k,rs,ED,h,e⟩:=q;unfold rD at h;split at h
 .rename_i ds ez;obtain⟨a,vs,q1,q2,q3,q4,q5⟩:=rs.own i ds ez;refine#[.ref a,q1,B,F,z,k.kf,rs,_,h,λy w F2 H2 g2 hy ry=>?_];split at hy
  .rename_i k';obtain⟨n,k0,en,hn⟩:=hy;have Hy:F2 a=none:=g2.out a q4 (by rw[q2];exact λz=>nomatch z);obtain⟨v,ev,rv⟩:=q5.get en;refine#[a,vs,_,v,rfl,rep_int.mp ry,k0,SqL.of (g2.hh _ _ q2),ev,B,F2,z,k.kf.grow g2,rs.grow g2,_,hn,λd u F3 H3 g3 hd rd=>?_];split at hd
   .have r2:=(rs.grow g2).grow g3;have k2:=(k.grow g2).grow g3;have Ku:F3 a=none:=g3.out a Hy (by rw[g2.hh _ _ q2];exact λz=>nomatch z);rw[rep_int.mp rv,rep_int.mp rd];have fI:=(Ev.mp en).1;refine#[_,_,rfl,rfl,a,vs,_,k'.toNat,rfl,rep_int.mp ry,g3.hh _ _ (g2.hh _ _ q2),by unfold ixN;rw[q5.length,if_pos k0,if_pos Ig],?_];obtain⟨k3,r3⟩:=r2.change k2 ez q1 q3 Ku (Reps.put (d:=.int _) (v:=.int _) (rep_int.mpr rfl) k'.toNat ((q5.mono g2.ff).mono g3.ff));exact e.nx _ s F3 _ k3 hd r3
   .exact hd.elim
  .exact hy.elim
 .exact h.elim⟩
end
section
variable {X:Cx}[J:Jx]{a b c e o:PV}{es:List PV}{ta tb tc te to:TD}{t:TDA}{pos:Qa}
def rLIx(K:Ef):V->List V->Hp->VK->Prop:=λx vs H Q=>∃l xs y,x=.ref l/\vs=[y]/\SqL K H l xs/\bc y=true/\xs.all bc=true/\xs.findIdx (λw=>eqV w y)<xs.length/\Q (.int (xs.findIdx (λw=>eqV w y):Nat)) H
def zC{x:V}{xs:List V}{us:List KB}(h:Vals xs us)(f:xs.all bc=true):us.findIdx (eqU x)=xs.findIdx λy=>eqV y x:=by
 induction h with
 |nil=>rfl
 |cons r _ ih=>
  rw[EY,EH]at f;rw[F7,F7,fQ r f.1,ih f.2]
def zD:MtR X "list.index" (rLIx X.K):=by
 intro pins s σ H x vs v us Q I rx rv h;obtain⟨l,xs,y,rfl,rfl,hq,fy,fs,hj,q⟩:=h;cases rx;obtain⟨u,rfl,ry⟩:=Vals.one rv;obtain⟨its,r,pl,hz⟩:=I.list hq;obtain⟨⟨cls,dd,data,sl⟩,ho,hc,n,hd⟩:=pl.isList;simp only at hc hd;subst hc hd;have e:=zC (x:=y) r fs;have hl:=r.length;rw[<-e]at hj q;have HE:its.findIdx (eqU y)<its.length:=Ig
 have Pw:sizeLine<2^63-1:=Ik
 refine RD PySem.F.slot_list_index #[_,ho,rfl] PySem.F.entry_list_index (PySem.F.args_list_index_2 _ _)
  (SeqAt.list_indexAt l its.toArray n dd sl u (eqU y) (its.findIdx (eqU y)) (by simpa using HE) Ig ?_ ?_) #[ho,λw hw=>mem_eqAt ry fy r fs w (by simpa using hw),#[.int _,H,I.tok _,#[_,rfl],q]]
 .simpa using List.findIdx_getElem (w:=HE)
 .intro m hm fI;simpa using List.not_of_lt_findIdx fI
def dLIx(to te:TD):TD:=λz R=>to z λx=>match x with|.lst ys=>te z λy=>(aV y=true/\ys.all aV=true)/\ys.findIdx (λw=>eqF w y)<ys.length/\R (.int (ys.findIdx (λw=>eqF w y):Nat))|_=>False
def zE{K:Ef}{H:Hp}{x:D}{u:V}(rx:Rep K H x u)(fx:aV x=true){ys:List D}:∀{vs:List V},Reps K H ys vs->ys.all aV=true->vs.findIdx (λw=>eqV w u)=ys.findIdx λy=>eqF y x:=by
 induction ys with
 |nil=>intro vs r _;rw[reps_nil.mp r];rfl
 |cons y ys ih=>
  intro vs r f;obtain⟨v,vr,rfl,r1,r2⟩:=reps_cons.mp r;rw[EY,EH]at f;rw[F7,F7,ih r2 f.2,fZ r1 rx f.1 fx]
def zF{c7 a_:Qa}(ho:WDE X o to)(he:WDE X e te)(b9:autoParam (P6 o "index" X.env (P7 o X.env)=P7 o X.env) zA0)
  (d7:autoParam (zHF X a_ [e]) zA0)
  (c8:autoParam ((c7.endLine==a_.line)=true) zA0) (hs:autoParam (zSE X e []) zA0):WDE X (.Call (.Attribute o "index" c7) [e] [] a_) (dLIx to te):=⟨(cH PySem.F.plainAttrs_list PySem.F.slot_list_index PySem.F.type_list_index zD ho.out (bj he.out pa_nil hs) b9 d7 c8 hs).anti λs H Q q=>by
 obtain⟨B,F,z,kf,rs,R,h1,h2⟩:=q;refine#[B,F,z,kf,rs,_,h1,λx u F1 H1 g1 hx rx=>?_];split at hx
 .obtain⟨l,vs,rfl,hq,rr⟩:=rep_lst.mp rx;refine#[.inl #[rfl,vs,g1.fh.seq (SqL.of hq)],B,F1,z,kf.grow g1,rs.grow g1,_,hx,λd v F2 H2 g2 hd rd=>?_];obtain⟨⟨f1,f2⟩,hj,hR⟩:=hd;have IQ:=rr.mono g2.ff;have e:=zE rd f1 IQ f2;have hl:=IQ.length;refine#[l,vs,v,rfl,rfl,g2.fh.seq (g2.ff.seq (SqL.of hq)),dX rd f1,cq IQ f2,by rw[e];lia,?_];rw[e];exact h2 _ _ F2 H2 (g1.trans g2) hR (rep_int.mpr rfl)
 .exact hx.elim⟩
end
mutual
def noL:D->Bool
 |.non=>true|.bl _=>true|.int _=>true|.str _=>true|.ptr _=>true|.dti _=>true
 |.tup ds=>noLs ds
 |.obj _ fs=>noLF fs
 |_=>false
def noLs:List D->Bool
 |[]=>true
 |d::ds=>noL d&&noLs ds
def noLF:List (E_×D)->Bool
 |[]=>true
 |(_,d)::ds=>noL d&&noLF ds
end
def nlF(F:Hp):Hp:=λb=>match F b with|some (.lst _)=>p7|o=>o
def jP{F:Hp}{b:KM}{o:HO}(e:F b=be o)(h:∀vs,o≠.lst vs):nlF F b=be o:=by
 unfold nlF;rw[e];cases o with
 |lst vs=>exact absurd rfl (h vs)
 |_=>rfl
mutual
def Rep.nl{K:Ef}{F:Hp}:∀(d:D) (v:V),noL d=true->Rep K F d v->Rep K (nlF F) d v
 |.non,v,_,h=>by unfold Rep at h ⊢;exact h
 |.bl b,v,_,h=>by unfold Rep at h ⊢;exact h
 |.int b,v,_,h=>by unfold Rep at h ⊢;exact h
 |.str b,v,_,h=>by unfold Rep at h ⊢;exact h
 |.ptr b,v,_,h=>by unfold Rep at h ⊢;exact h
 |.dti a9,v,_,h=>by
  unfold Rep at h ⊢;obtain⟨a,e,q⟩:=h;exact#[a,e,jP q λ_ z=>nomatch z]
 |.tup ds,v,n,h=>by
  unfold Rep at h ⊢;obtain⟨a,vs,e,q,r⟩:=h;exact#[a,vs,e,jP q (λ_ z=>nomatch z),Reps.nl ds vs (by unfold noL at n;exact n) r]
 |.obj x fs,v,n,h=>by
  unfold Rep at h ⊢;obtain⟨a,C,dx,vs,e,n1,q,r⟩:=h;exact#[a,C,dx,vs,e,n1,jP q (λ_ z=>nomatch z),RepF.nl fs vs (by unfold noL at n;exact n) r]
 |.lst _,_,n,_=>by unfold noL at n;cases n
 |.rol _,_,n,_=>by unfold noL at n;cases n
 |.exc _ _,_,n,_=>by unfold noL at n;cases n
 |.own _,_,n,_=>by unfold noL at n;cases n
def RepF.nl{K:Ef}{F:Hp}:∀(ds:List (E_×D)) (vs:List (E_×V)),noLF ds=true->RepF K F ds vs->RepF K (nlF F) ds vs
 |[],vs,_,h=>by unfold RepF at h ⊢;exact h
 |(f,d)::ds,vs,n,h=>by
  unfold noLF at n;rw[EH]at n;unfold RepF at h ⊢;obtain⟨v,r,e,q1,q2⟩:=h;exact#[v,r,e,Rep.nl d v n.1 q1,RepF.nl ds r n.2 q2]
def Reps.nl{K:Ef}{F:Hp}:∀(ds:List D) (vs:List V),noLs ds=true->Reps K F ds vs->Reps K (nlF F) ds vs
 |[],vs,_,h=>by unfold Reps at h ⊢;exact h
 |d::ds,vs,n,h=>by
  unfold noLs at n;rw[EH]at n;unfold Reps at h ⊢;obtain⟨v,r,e,q1,q2⟩:=h;exact#[v,r,e,Rep.nl d v n.1 q1,Reps.nl ds r n.2 q2]
end
end My
end
section
namespace My
open PySem PySem.Spec PyProof.Rows L2
variable{w:Int}
def b64B(h:0<w)(h':w<=33554432):-(2^64)<w/\w<2^64:=Ig
variable{s:Int}
def s64B(h:0<=s)(h':s<w)(Px:w<=33554432):-(2^64)<s/\s<2^64:=Ig
def d30B(h:0<w)(h':w<=33554432):0<w/\w<1073741824:=Ig
variable{x y:Int}
def ab24(h:x.natAbs<=12)(h':y.natAbs<=12):(x+y).natAbs<=24:=Eo (Gn x y) (F8 h h')
def sq0(a:Int):0<=a*a:=(Int.le_total 0 a).elim (λq=>Go q q) (λq=>Int.mul_nonneg_of_nonpos_of_nonpos q q)
def u64(h:w=1\/w=-1\/w=0):-(2^64)<w/\w<2^64:=Ig
def n64{k:Nat}(h:w.natAbs<=k)(hk:autoParam (k<=1073741823) zA1):-(2^64)<w/\w<2^64:=Ig
variable{a b:Int}
def i64(h:a<=w)(h':w<=b)(ha:autoParam ( -1000000000001<=a) zA1)(hb:autoParam (b<=1000000000001) zA1):-(2^64)<w/\w<2^64:=Ig
def zG{X Y Z A B r:Nat}(h1:X<=Y)(h2:X=Z+2*B)(h3:1*A<=Z)(h5:Y<=A+r)(h6:r<B):False:=Jo
def fdm(a b:Int)(hb:b≠0):(a-a.fdiv b*b).natAbs<b.natAbs/\(a.fdiv b).natAbs<=a.natAbs+1:=by
 have e:=Int.fmod_def a b;have e2:a-a.fdiv b*b=a.fmod b:=by rw[e,EK]
 rw[e2];have r:(a.fmod b).natAbs<b.natAbs:=by
  rcases(Ig:0<b\/b<0)with h|h
  .have h1:=G0 a h;have h2:=G1 a h;lia
  .have h1:=G0 (-a) (show 0< -b by lia);have h2:=G1 (-a) (show 0< -b by lia);rw[Int.neg_fmod_neg]at h1 h2;lia
 refine#[r,?_];have e3:(b*a.fdiv b).natAbs=b.natAbs*(a.fdiv b).natAbs:=E6 _ _;have e4:=Int.mul_fdiv_self a b;rcases Fq (a.natAbs+1) (a.fdiv b).natAbs with c|c
 .have h1:b.natAbs*(a.natAbs+2)<=b.natAbs*(a.fdiv b).natAbs:=Nat.mul_le_mul_left _ c;have h2:b.natAbs*(a.natAbs+2)=b.natAbs*a.natAbs+2*b.natAbs:=by rw[Nat.mul_add,Nat.mul_comm _ 2]
  have h3:1*a.natAbs<=b.natAbs*a.natAbs:=Nat.mul_le_mul_right _ Ig;have h5:(b*a.fdiv b).natAbs<=a.natAbs+(a.fmod b).natAbs:=by rw[e4];exact G2 a _
  rw[e3]at h5;exact(zG h1 h2 h3 h5 r).elim
 .exact c
def Uni(a b c d p0 p1 q0 q1:Int):Prop:=∃m n k l:Int,(m*l-n*k=1\/m*l-n*k=-1)/\p0=m*a+n*c/\p1=m*b+n*d/\q0=k*a+l*c/\q1=k*b+l*d
def Uni.refl(a b c d:Int):Uni a b c d a b c d:=#[1,0,0,1,.inl Ik,Ig,Ig,Ig,Ig]
variable{c d p0 p1 q0 q1:Int}
def Uni.step(t:Int)(h:Uni a b c d p0 p1 q0 q1):Uni a b c d q0 q1 (p0-t*q0) (p1-t*q1):=by
 obtain⟨m,n,k,l,hd,rfl,rfl,rfl,rfl⟩:=h;refine#[k,l,m-t*k,n-t*l,?_,rfl,rfl,Jw,Jw];rcases hd with h|h
 .right;grind
 .left;grind
def Uni.neg(h:Uni a b c d p0 p1 q0 q1):Uni a b c d (-p0) (-p1) q0 q1:=by
 obtain⟨m,n,k,l,hd,rfl,rfl,rfl,rfl⟩:=h;refine#[-m,-n,k,l,?_,Jw,Jw,rfl,rfl];rcases hd with h|h
 .right;grind
 .left;grind
def Uni.inv(h:Uni a b c d p0 p1 q0 q1):Uni p0 p1 q0 q1 a b c d:=by
 obtain⟨m,n,k,l,hd,rfl,rfl,rfl,rfl⟩:=h;rcases hd with h|h
 .exact#[l,-n,-k,m,.inl Jw,Jw,Jw,Jw,Jw]
 .exact#[-l,n,k,-m,.inr Jw,Jw,Jw,Jw,Jw]
def Uni.det(h:Uni a b c d p0 p1 q0 q1):p0*q1-p1*q0=a*d-b*c\/p0*q1-p1*q0=-(a*d-b*c):=by
 obtain⟨m,n,k,l,hd,rfl,rfl,rfl,rfl⟩:=h;rcases hd with h|h
 .left;grind
 .right;grind
def Lev(a b c d p0 p1 q0:Int):Prop:=0<=p1/\Uni a b c d p0 p1 q0 0
def FamOf(a b c d w h s:Int):Prop:=0<w/\0<h/\0<=s/\s<w/\Uni a b c d w 0 s h
def zH(x:Int):(if x<0 then -x else x)=x\/(if x<0 then -x else x)=-x:=by
 split<;>simp
def zI(h:x≠0):0<(if x<0 then -x else x):=by split<;>lia
def fz(hn:¬a*d=b*c)(h:Lev a b c d p0 p1 q0):FamOf a b c d (if q0<0 then -q0 else q0) p1 (p0%(if q0<0 then -q0 else q0)):=by
 obtain⟨hp,hu⟩:=h;have dt:=hu.det;have Oy:q0≠0:=by
  rintro rfl;simp at dt;lia
 have Py:p1≠0:=by
  rintro rfl;simp at dt;lia
 have hw:=zI Oy;have hs:=zH q0;generalize (if q0<0 then -q0 else q0)=w at hw hs;refine#[hw,Ig,Ft _ Ig,Fu _ hw,?_];have em:=Fj p0 w;generalize p0%w=s at em;generalize p0/w=t at em;obtain⟨m,n,k,l,hd,e1,e2,e3,e4⟩:=hu;rcases hs with e|e
 .refine#[k,l,m-t*k,n-t*l,?_,Jw,Jw,Jw,Jw];rcases hd with h|h
  .right;grind
  .left;grind
 .refine#[-k,-l,m+t*k,n+t*l,?_,Jw,Jw,Jw,Jw];rcases hd with h|h
  .left;grind
  .right;grind
variable{h i j:Int}
def in_fam(hh:0<h)(ex:x=i*w+j*s)(ey:y=j*h):y%h=0/\(x-y/h*s)%w=0:=by
 subst ex ey;rw[ER _ Ig];refine#[G3 _ _,?_];have e:i*w+j*s-j*s=i*w:=Ig
 rw[e];exact G3 _ _
variable{u v:Int}
def rE(eu:u=i*a+j*c)(ev:v=i*b+j*d):(u*d-v*c).fmod (a*d-b*c)=0/\(a*v-b*u).fmod (a*d-b*c)=0:=by
 subst eu ev;refine#[Gp #[i,Jw],Gp #[j,Jw]]
def FamOf.cells(f:FamOf a b c d w h s):w*h=a*d-b*c\/w*h=-(a*d-b*c):=by
 have:=f.2.2.2.2.det;simpa using this
def bB{A B:Nat}(h1:a.natAbs<=A)(h2:d.natAbs<=B):(a*d).natAbs<=A*B:=by
 rw[E6];exact Fv h1 h2
variable{g:Int}
def zJ{gap:Int}{N:Nat}(hg:0<g)(c0:0<=c)(cg:c<=g)(h:gap.natAbs<=N):(c*gap/g).natAbs<=N:=by
 have h1:(c*gap).natAbs<=g.natAbs*N:=by rw[E6];exact Fv Jo h
 have e:((g.natAbs*N:Nat):Int)=N*g:=by rw[Int.natCast_mul,Int.natAbs_of_nonneg Jo,EK]
 have l1:=Int.le_ediv_of_mul_le (a:=-(N:Int)) (b:=c*gap) hg (by rw[Gq];omega);have l2:=Int.ediv_le_of_le_mul (a:=c*gap) (b:=(N:Int)) hg Jo;omega
def cO(hw:0<w)(hh:0<h):w<=w*h/\h<=w*h:=by
 have h1:=G4 (show 1<=h by lia) (show 0<=w by lia);have h2:=EL (show 1<=w by lia) (show 0<=h by lia);lia
def FamOf.bd(f:FamOf a b c d w h s){N:Nat}(hN:(a*d-b*c).natAbs<=N):w<=N/\h<=N/\s<N:=by
 obtain⟨h1,h2⟩:=cO f.1 f.2.1;have h3:w*h<=N:=by
  rcases f.cells with e|e<;>rw[e]
  .exact E7 G5 (G6.mpr hN)
  .exact E7 G5 (G6.mpr (by rw[Gr];exact hN))
 exact#[E7 h1 h3,E7 h2 h3,Int.lt_of_lt_of_le f.2.2.2.1 (E7 h1 h3)]
def Meas(x y g u:Int):Prop:=0<=g/\(∃i,x=i*g)/\(∃j,y=j*g)/\∃n,g=u*x+n*y
variable{q:Int}
def rF(h:0<=g/\∃m n k l:Int,(m*l-n*k=1\/m*l-n*k=-1)/\u=m*1+n*0/\g=m*x+n*y/\q=k*1+l*0/\0=k*x+l*y):Meas x y g u:=by
 obtain⟨h0,m,n,k,l,hd,e1,e2,e3,e4⟩:=h;refine#[h0,?_,?_,n,Jw]
 .rcases hd with h|h
  .exact#[l,Jw]
  .exact#[-l,Jw]
 .rcases hd with h|h
  .exact#[-k,Jw]
  .exact#[k,Jw]
def Meas.pos(h:Meas x y g u)(hx:0<x):0<g:=by
 obtain⟨h0,⟨i,hi⟩,_⟩:=h;rcases(Ig:g=0\/0<g)with e|e
 .subst e;simp at hi;lia
 .exact e
def Meas.le(h:Meas x y g u)(hx:0<x):g<=x:=by
 have hg:=h.pos hx;obtain⟨h0,⟨i,hi⟩,_⟩:=h;have Pz:0<i:=by
  rcases(Ig:i<=0\/0<i)with e|e
  .have:=Fk e h0;lia
  .exact e
 have:=EL (show 1<=i by lia) h0;lia
structure MetR(w1 h1 s1 w2 h2 s2 w h s A:Int):Prop where
 w0:0<w
 h0:0<h
 s0:0<=s
 sw:s<w
 in1:∃i,w=i*w1
 in2:∃i,w=i*w2
 up1:∃i j,s=i*w1+j*s1/\h=j*h1
 up2:∃i j,s=i*w2+j*s2/\h=j*h2
 A0:0<A
 cells:w*h*A=w1*h1*w2*h2
 d11:A∣w1*h1
 d12:A∣w1*h2
 d21:A∣w2*h1
 d22:A∣w2*h2
 ds:A∣s1*h2-h1*s2
 all:∀x y:Int,(∃i j,x=i*w1+j*s1/\y=j*h1)->(∃i j,x=i*w2+j*s2/\y=j*h2)->∃i j,x=i*w+j*s/\y=j*h
 comb:∀G:Int,G∣w1*h1->G∣w1*h2->G∣w2*h1->G∣w2*h2->G∣s1*h2-h1*s2->G∣A
def dF(h:0<x*y)(hy:0<y):0<x:=by
 rcases(Ig:x<=0\/0<x)with e|e
 .have:=Fk e (show 0<=y by lia);lia
 .exact e
def jQ(ha:0<a)(h:a*b=a*c):b=c:=Gs Ig h
def r1(k j c:Int):k*(j*c)=j*(c*k):=Jw
def r2(j u c n d:Int):j*(u*c+n*d)=u*(j*c)+n*d*j:=Jw
def r3(u j d n j1:Int):u*(j*d)+n*d*j1=d*(u*j+n*j1):=Jw
def r4(j u c n d:Int):j*(u*c+n*d)=u*c*j+n*(j*d):=Jw
def r5(u c j n j1:Int):u*c*j+n*(j1*c)=c*(u*j+n*j1):=Jw
def r6(g e i1 a i2 b d T s1 c s2:Int)(q:i1*(a*(e*g))+d*T*s1=i2*(b*(e*g))+c*T*s2):g*(e*(i1*a-i2*b))=T*(c*s2-d*s1):=Jw
def r7(g T f:Int):g*(T*f)=T*(f*g):=Jw
def r8(T v e q f:Int):T*(v*e+q*f)=v*T*e+q*(T*f):=Jw
def r9(v T e q m:Int):v*T*e+q*(e*m)=e*(v*T+q*m):=Jw
def r10(e r f:Int):e*r*f=e*(r*f):=Jw
def r11(i u a n b:Int):i*(u*a+n*b)=u*(i*a)+n*b*i:=Jw
def r12(u r f i2 b n i1:Int):u*(r*f+i2*b)+n*b*i1=u*(r*f)+b*(u*i2+n*i1):=Jw
def r13(u r f b M a e g d s1 t:Int):(u*(r*f)+b*M)*(a*(e*g))+d*(e*r)*s1=(M+r*t)*(a*b*(e*g))+r*(e*(d*s1)+f*u*(a*(e*g))-a*b*(e*g)*t):=Jw
def r14(d e r c k:Int):d*(e*r)*(c*k)=r*(c*d*k*e):=Jw
variable{k e f gg u' s1 s2:Int}
def zK{n n' t i1 j1 i2 j2:Int}(hk:0<k)(HF:0<gg)(he:0<e)
  (s_:u*a+n*b=1) (o_:u'*c+n'*d=1) (gap:c*s2-d*s1=f*gg) (td:v*e+q*f=1)
  (hs:s=e*(d*s1)+f*u*(a*(e*gg))-a*b*(e*gg)*t) (x1:x=i1*(a*(e*gg))+j1*s1) (y1:y=j1*(c*k)) (x2:x=i2*(b*(e*gg))+j2*s2) (y2:y=j2*(d*k)):
  ∃i j,x=i*(a*b*(e*gg))+j*s/\y=j*(c*d*k*e):=by
 have h1:j1*c=j2*d:=jQ hk (by rw[r1 k j1 c,r1 k j2 d,<-y1,<-y2]);have KA:j1=d*(u'*j2+n'*j1):=by
  have p:=r2 j1 u' c n' d;rw[o_,h1,r3]at p;lia
 have Ny:j2=c*(u'*j2+n'*j1):=by
  have p:=r4 j2 u' c n' d;rw[o_,<-h1,r5]at p;lia
 generalize u'*j2+n'*j1=T at KA Ny;have q1:i1*(a*(e*gg))+d*T*s1=i2*(b*(e*gg))+c*T*s2:=by rw[<-KA,<-Ny,<-x1,<-x2]
 have h2:e*(i1*a-i2*b)=T*f:=jQ HF (by rw[r6 gg e i1 a i2 b d T s1 c s2 q1,r7,gap]);have eT:T=e*(v*T+q*(i1*a-i2*b)):=by
  have p:=r8 T v e q f;rw[td,<-h2,r9]at p;lia
 generalize hr:v*T+q*(i1*a-i2*b)=r at eT;have h3:i1*a-i2*b=r*f:=jQ he (by rw[h2,eT,r10]);have h4:i1=u*(r*f)+b*(u*i2+n*i1):=by
  have p:=r11 i1 u a n b;have q3:i1*a=r*f+i2*b:=Ig
  rw[s_,q3,r12]at p;lia
 generalize u*i2+n*i1=M at h4;refine#[M+r*t,r,?_,?_]
 .rw[hs,x1,KA,eT,<-r13,<-h4]
 .rw[y1,KA,eT,r14]
def zL{n n' t:Int}(ha:0<a)(hb:0<b)(hc:0<c)(hd:0<d)(he:0<e)(hk:0<k)(HF:0<gg)
  (s_:u*a+n*b=1) (o_:u'*c+n'*d=1) (gap:c*s2-d*s1=f*gg) (td:v*e+q*f=1)
  (hs:s=e*(d*s1)+f*u*(a*(e*gg))-a*b*(e*gg)*t) (m1:0<=s) (m2:s<a*b*(e*gg)):
  MetR (a*(e*gg)) (c*k) s1 (b*(e*gg)) (d*k) s2 (a*b*(e*gg)) (c*d*k*e) s (k*gg):=by
 have hg:0<e*gg:=EB he HF;have hW:0<a*b*(e*gg):=EB (EB ha hb) hg;have LC:d*s1=c*s2-f*gg:=Ig
 have ua:u*a=1-n*b:=Ig
 refine#[hW,EB (EB (EB hc hd) hk) he,m1,m2,#[b,?_],#[a,?_],#[f*u-t*b,d*e,?_,?_],#[-(f*n)-t*a,c*e,?_,?_],EB hk HF,?_,#[a*e*c,?_],#[a*e*d,?_],#[b*e*c,?_],#[b*e*d,?_],#[-f,?_],?_,?_]
 .grind
 .grind
 .grind
 .grind
 .rw[hs,LC];have x2:f*u*(a*(e*gg))=f*(u*a)*(e*gg):=by grind
  rw[x2,ua];grind
 .grind
 .grind
 .grind
 .grind
 .grind
 .grind
 .have:s1*(d*k)-c*k*s2=-(k*(c*s2-d*s1)):=by grind
  rw[this,gap];grind
 .rintro x y⟨i1,j1,x1,z1⟩ ⟨i2,j2,x2,z2⟩;exact zK hk HF he s_ o_ gap td hs x1 z1 x2 z2
 .rintro G⟨y1,z1⟩ ⟨y2,z2⟩ ⟨y3,z3⟩ ⟨y4,z4⟩ ⟨y5,z5⟩;refine#[v*(u'*u*y1+n'*u*y2+u'*n*y3+n'*n*y4)-q*y5,?_];have k1:k*(e*gg)=G*(u'*u*y1+n'*u*y2+u'*n*y3+n'*n*y4):=by
   have p1:k*(e*gg)=(u'*c+n'*d)*(u*a+n*b)*(k*(e*gg)):=by rw[s_,o_];grind
   have p2:(u'*c+n'*d)*(u*a+n*b)*(k*(e*gg))=u'*u*(a*(e*gg)*(c*k))+n'*u*(a*(e*gg)*(d*k))+u'*n*(b*(e*gg)*(c*k))+n'*n*(b*(e*gg)*(d*k)):=Jw
   rw[p1,p2,z1,z2,z3,z4];grind
  have k2:k*(f*gg)=-(G*y5):=by
   rw[<-z5,<-gap];grind
  have k3:k*gg=(v*e+q*f)*(k*gg):=by rw[td];grind
  have k4:(v*e+q*f)*(k*gg)=v*(k*(e*gg))+q*(k*(f*gg)):=Jw
  rw[k3,k4,k1,k2];grind
variable{w1 h1 w2 h2:Int}
def jR{t9:Int}(KC:0<w1)(JU:0<w2)(Nz:0<h1)(z_:0<h2)
  (M1:Meas w1 w2 g u) (M2:Meas h1 h2 k u')
  (M3:Meas g (h1*h2/k/h2*s2-h1*h2/k/h1*s1) gg t9):
  MetR w1 h1 s1 w2 h2 s2 (w1*w2/g) (h1*h2/k*(g/gg)) ((g/gg*(h1*h2/k/h1*s1)+g/gg*(h1*h2/k/h2*s2-h1*h2/k/h1*s1)/g*u*w1)%(w1*w2/g)) (k*gg):=by
 have hg:=M1.pos KC;have hk:=M2.pos Nz;have HF:=M3.pos hg;obtain⟨_,⟨a,ea⟩,⟨b,eb⟩,n,en⟩:=M1;obtain⟨_,⟨c,ec⟩,⟨d,ed⟩,n',PB⟩:=M2;have ha:0<a:=dF (ea ▸ KC) hg;have hb:0<b:=dF (eb ▸ JU) hg;have hc:0<c:=dF (ec ▸ Nz) hk;have hd:0<d:=dF (ed ▸ z_) hk;have s_:u*a+n*b=1:=by
  have p:(u*a+n*b)*g=1*g:=by
   have:(u*a+n*b)*g=u*(a*g)+n*(b*g):=by grind
   rw[this,<-ea,<-eb];lia
  exact Fw Ig p
 have o_:u'*c+n'*d=1:=by
  have p:(u'*c+n'*d)*k=1*k:=by
   have:(u'*c+n'*d)*k=u'*(c*k)+n'*(d*k):=by grind
   rw[this,<-ec,<-ed];lia
  exact Fw Ig p
 have eW:w1*w2/g=a*b*g:=by
  have:w1*w2=(a*b*g)*g:=by rw[ea,eb];grind
  rw[this];exact ER _ Ig
 have eR:h1*h2/k=c*d*k:=by
  have:h1*h2=(c*d*k)*k:=by rw[ec,ed];grind
  rw[this];exact ER _ Ig
 have Oz:h1*h2/k/h1=d:=by
  rw[eR];have:c*d*k=d*h1:=by rw[ec];grind
  rw[this];exact ER _ Ig
 have OA:h1*h2/k/h2=c:=by
  rw[eR];have:c*d*k=c*h2:=by rw[ed];grind
  rw[this];exact ER _ Ig
 rw[Oz,OA]at M3 ⊢;obtain⟨_,⟨e,ee⟩,⟨f,ef⟩,q,eq⟩:=M3;have he:0<e:=dF (ee ▸ hg) HF;have td:t9*e+q*f=1:=by
  have p:(t9*e+q*f)*gg=1*gg:=by
   have:(t9*e+q*f)*gg=t9*(e*gg)+q*(f*gg):=by grind
   rw[this,<-ee,<-ef];lia
  exact Fw Ig p
 have eC:g/gg=e:=by rw[ee];exact ER _ Ig
 have eS:e*(c*s2-d*s1)/g=f:=by
  have:e*(c*s2-d*s1)=f*g:=by rw[ef,ee];grind
  rw[this];exact ER _ Ig
 rw[eC,eS,eW,eR];have hW:0<a*b*g:=EB (EB ha hb) hg;have em:=Fj (e*(d*s1)+f*u*w1) (a*b*g);have m1:=Ft (e*(d*s1)+f*u*w1) (show a*b*g≠0 by lia);have m2:=Fu (e*(d*s1)+f*u*w1) hW;generalize (e*(d*s1)+f*u*w1)%(a*b*g)=s at em m1 m2 ⊢;generalize (e*(d*s1)+f*u*w1)/(a*b*g)=t at em;subst ea eb ec ed;subst ee;exact zL ha hb hc hd he hk HF s_ o_ ef td em m1 m2
def jS(hx:0<x)(hy:0<y)(M:Meas x y g u):0<x*y/g/\x*y/g<=x*y/\x*y/g/x*1<=y/\0<=x*y/g/x/\x*y/g/y<=x/\0<=x*y/g/y:=by
 have hg:=M.pos hx;obtain⟨_,⟨a,ea⟩,⟨b,eb⟩,_⟩:=M;have ha:0<a:=dF (ea ▸ hx) hg;have hb:0<b:=dF (eb ▸ hy) hg;have e1:x*y/g=a*b*g:=by
  have:x*y=(a*b*g)*g:=by rw[ea,eb];grind
  rw[this];exact ER _ Ig
 have e2:a*b*g/x=b:=by
  have:a*b*g=b*x:=by rw[ea];grind
  rw[this];exact ER _ Ig
 have e3:a*b*g/y=a:=by
  have:a*b*g=a*y:=by rw[eb];grind
  rw[this];exact ER _ Ig
 have p1:0<a*b*g:=EB (EB ha hb) hg;have q1:=(cO (w:=b) (h:=g) hb hg).1;have q2:=(cO (w:=a) (h:=g) ha hg).1;have q3:x*y=a*b*g*g:=by rw[ea,eb];grind
 have q4:=(cO (w:=a*b*g) (h:=g) p1 hg).1;rw[e1,e2,e3];lia
def cell(ns:List Int)(k:Int):Int:=ns.getD k.toNat 0
variable{ns:List Int}
def rG(h0:0<=k)(h1:k<(ns.length:Int)):atI (ns.map D.int) k=be (.int (cell ns k)):=by
 obtain⟨j,rfl⟩:∃j:Nat,k=(j:Int):=#[k.toNat,Ig];have hk:j<ns.length:=Ig
 refine bN ?_;rw[Et,EA hk];simp[cell,EZ,EA hk]
def zM(h1:(ns.length:Int)<=k):cell ns k=0:=by
 have hk:ns.length<=k.toNat:=Ig
 simp[cell,EZ,E5 hk]
def cB(h:0<b):0<=a%b:=Ft a Ig
def cC(h:0<b):a%b<b:=Fu a h
def zN:SpD:=λds R=>∃(ns:List Int) (k:Int),ds=[.rol (ns.map D.int),.int k]/\0<=k/\R (.int (cell ns k))
def zO:SpD:=λds R=>∃i:Int,ds=[.int i]/\R (.bl true)
def zP:SpD:=λds R=>∃w h s x y:Int,ds=[.tup [.int w,.int h,.int s],.int x,.int y]/\0<w/\0<h/\h<1073741824/\0<=s/\s<1073741824/\
 R (.bl (decide (y%h=0/\(x-y/h*s)%w=0)))
def zQ:SpD:=λds R=>∃a b c d u v:Int,ds=[.tup [.int a,.int b],.tup [.int c,.int d],.int u,.int v]/\a.natAbs<1073741824/\b.natAbs<1073741824/\c.natAbs<1073741824/\d.natAbs<1073741824/\
 ¬a*d=b*c/\R (.bl (decide ((u*d-v*c).fmod (a*d-b*c)=0/\(a*v-b*u).fmod (a*d-b*c)=0)))
def zR:SpD:=λds R=>∃x y:Int,ds=[.int x,.int y]/\∀g:Int,0<=g->g∣x->g∣y->(∀e,e∣x->e∣y->e∣g)->R (.int g)
def rH:e∣(if x<0 then -x else x)↔e∣x:=by
 split
 .exact Int.dvd_neg
 .exact Iff.rfl
def rJ(hb:e∣b):e∣a%b↔e∣a:=by
 have e1:=Fj a b;rw[e1];constructor
 .intro h;have:=Gu h (G7 (c:=a/b) hb);simpa using this
 .intro h;exact Int.dvd_sub h (G7 hb)
def zS:SpD:=λds R=>∃w h s x y:Int,ds=[.tup [.int w,.int h,.int s],.int x,.int y]/\0<w/\0<h/\h<1073741824/\0<=s/\s<1073741824/\
 R (.tup [.int ((x-y/h*s)%w),.int (y%h)])
def zT:SpD:=λds R=>∃a b c d:Int,ds=[.tup [.int a,.int b],.tup [.int c,.int d]]/\b.natAbs<4611686018427387904/\d.natAbs<4611686018427387904/\
 ∀p0 p1 q0,Lev a b c d p0 p1 q0->R (.tup [.tup [.int p0,.int p1],.tup [.int q0,.int 0]])
def zU:SpD:=λds R=>∃a b c d:Int,ds=[.tup [.int a,.int b],.tup [.int c,.int d]]/\a.natAbs<4611686018427387904/\b.natAbs<4611686018427387904/\c.natAbs<4611686018427387904/\d.natAbs<4611686018427387904/\
 (a*d=b*c->R .non)/\(¬a*d=b*c->∀w h s,FamOf a b c d w h s->R (.tup [.int w,.int h,.int s]))
def zV:SpD:=λds R=>∃w h s:Int,ds=[.tup [.int w,.int h,.int s]]/\0<w/\R (.tup [.int w,.int h,.int (-s%w)])
def zW:SpD:=λds R=>∃w h s:Int,ds=[.tup [.int w,.int h,.int s]]/\0<w/\0<h/\w<4611686018427387904/\h<4611686018427387904/\0<=s/\s<4611686018427387904/\
 ∀w' h' s',FamOf 0 w (-h) s w' h' s'->R (.tup [.int w',.int h',.int s'])
def zX:SpD:=λds R=>∃x y:Int,ds=[.int x,.int y]/\x.natAbs<4611686018427387904/\y.natAbs<4611686018427387904/\∀g u,Meas x y g u->R (.tup [.int g,.int u])
def zY:SpD:=λds R=>∃w1 h1 s1 w2 h2 s2:Int,ds=[.tup [.int w1,.int h1,.int s1],.tup [.int w2,.int h2,.int s2]]/\0<w1/\w1<=33554432/\0<h1/\h1<=33554432/\0<=s1/\s1<w1/\0<w2/\w2<=33554432/\0<h2/\h2<=33554432/\0<=s2/\s2<w2/\
 ∀w h s A,MetR w1 h1 s1 w2 h2 s2 w h s A->R (.tup [.int w,.int h,.int s])
def Drawn(xs:List Int):Prop:=∀x∈xs,0<=x/\x<5040
variable{xs:List Int}
def Drawn.at(h:Drawn xs)(k:Int):0<=cell xs k/\cell xs k<5040:=by
 by_cases hk:k.toNat<xs.length
 .have:cell xs k=xs[k.toNat]:=by simp[cell,EZ,EA hk]
  rw[this];exact h _ (EQ hk)
 .have:cell xs k=0:=by simp[cell,EZ,E5 (FY hk)]
  lia
def cu(h0:0<=k)(h:k.toNat<xs.length):atI (xs.map D.int) k=be (.int (cell xs k)):=rG h0 Ig
def rK:xs.map D.int++[D.int v]=(xs++[v]).map D.int:=Iq
def rL(h:Drawn xs)(h1:0<=v)(h2:v<5040):Drawn (xs++[v]):=by
 intro x hx;rcases EO.mp hx with q|q
 .exact h x q
 .rw[Eh.mp q];exact#[h1,h2]
def zZ:SpD:=λds R=>∃(ns:List Int) (k:Int) (n:Nat),ds=[.rol (ns.map D.int),.int k,.int n]/\0<=k/\n<=100/\∀xs:List Int,xs.length=n->Drawn xs->R (.lst (xs.map D.int))
def Aa:SpD:=λds R=>∃xs:List Int,ds=[.lst (xs.map D.int)]/\8<=xs.length/\Drawn xs/\
 ∀a b c d:Int,(-12<=a/\a<=12)->(-12<=b/\b<=12)->(-12<=c/\c<=12)->(-12<=d/\d<=12)->¬a*d=b*c->R (.lst [.tup [.int a,.int b],.tup [.int c,.int d]])
abbrev cs(x:E_):List Nat:=x.cps.toList
def bq(x:E_):(cs x).length=x.length:=by simp[Str.length]
def rM:cs ""=[]:=rfl
def bC(x y:E_):cs (x++y)=cs x++cs y:=by
 show((x++y:E_)).cps.toList=_;rw[show(x++y:E_).cps=x.cps++y.cps from rfl,Array.toList_append]
def aC(x y:E_):(x++y).length=x.length+y.length:=by rw[<-bq,bC,EG,bq,bq]
def bb(c:Nat):Prop:=c=46\/(49<=c/\c<=54)
def jT:∀(L:List E_),cA (L.map D.str)=be L
 |[]=>rfl
 |x::L=>by simp[cA,jT L]
def eE(x:E_):Prop:=0<x.length/\x.length<=7/\∀c∈cs x,bb c
def Ab{x:E_}(h:eE x)(v:Int):∃c,(x.length<=1000000/\atI (cs x) (v%(x.length:Int))=be c)/\bb c:=by
 have h1:=cB (a:=v) (show 0<(x.length:Int)by have:=h.1;lia);have h2:=cC (a:=v) (show 0<(x.length:Int)by have:=h.1;lia);obtain⟨j,ej⟩:∃j:Nat,v%(x.length:Int)=(j:Int):=#[(v%(x.length:Int)).toNat,Ig];have hj:j<(cs x).length:=by rw[bq];lia
 refine#[(cs x)[j],#[by have:=h.2.1;lia,?_],h.2.2 _ (EQ hj)];rw[ej];exact bN (EA hj)
def Ac:eE "1.23456":=#[Ip,Ip,by unfold bb;decide+kernel]
def Ad:eE "12":=#[Ip,Ip,by unfold bb;decide+kernel]
def Ae:eE "1.":=#[Ip,Ip,by unfold bb;decide+kernel]
def Af:eE "...2":=#[Ip,Ip,by unfold bb;decide+kernel]
def Ag(k:Int):∃x,atI [D.str "1.23456",D.str "12",D.str "1.",D.str "...2"] (k%4)=be (.str x)/\eE x:=by
 rcases(Ig:k%4=0\/k%4=1\/k%4=2\/k%4=3)with e|e|e|e<;>rw[e]
 .exact#[_,rfl,Ac]
 .exact#[_,rfl,Ad]
 .exact#[_,rfl,Ae]
 .exact#[_,rfl,Af]
def Ah(k:Int):∃m,atI [D.int 1,D.int 70] (k%2)=be (.int m)/\(m=1\/m=70):=by
 rcases(Ig:k%2=0\/k%2=1)with e|e<;>rw[e]
 .exact#[1,rfl,.inl rfl]
 .exact#[70,rfl,.inr rfl]
structure Rows(L:List Str):Prop where
 many:1<=L.length/\L.length<=8
 wide:∃w,(1<=w/\w<=8)/\∀l∈L,l.length=w/\∀c∈cs l,bb c
variable{L:List E_}
def Rows.of{w t:Nat}(h1:1<=t)(h2:t<=8)(hl:L.length=t)(w1:1<=w)(w2:w<=8)(h:∀l∈L,l.length=w/\∀c∈cs l,bb c):Rows L:=#[Ig,w,#[w1,w2],h]
def Ai{x:E_}{c:Nat}{i:Nat}(h1:x.length=i)(h2:∀c∈cs x,bb c)(hc:bb c):(x++#[[c].toArray]:E_).length=i+1/\∀c'∈cs (x++#[[c].toArray]),bb c':=by
 refine#[by rw[aC,h1];rfl,λc' q=>?_];rw[bC]at q;rcases EO.mp q with q|q
 .exact h2 _ q
 .have:c'=c:=by simpa[cs]using q
  rw[this];exact hc
def Aj{x:E_}:L.map D.str++[D.str x]=(L++[x]).map D.str:=Iq
def cP(L:List E_)(a b c d:Int):Str:=("["++Txt.join "/" L)++((((((((";":E_)++(toString a:String))++",")++(toString b:String))++";")++(toString c:String))++",")++(toString d:String))++"]"
def bv(h:-12<=a/\a<=12):((toString a:String):E_).length<=3:=by
 have key:∀k:Fin 25,((toString (((k.val:Nat):Int)-12):String):E_).length<=3:=Ip
 have:=key #[(a+12).toNat,Ig];have e:(((a+12).toNat:Nat):Int)-12=a:=Ig
 rw[e]at this;exact this
def B12(a:Int):Prop:=-12<=a/\a<=12
def B12.lt(h:B12 a):a.natAbs<1073741824:=by unfold B12 at h;lia
def rN{w:Nat}(h:∀l∈L,l.length=w):(L.map (·.length)).sum=L.length*w:=by
 induction L with
 |nil=>simp
 |cons x L ih=>
  rw[EJ,List.sum_cons,ih (λl hl=>h l (Em _ hl)),h x Ep,Ex,Nat.succ_mul,Gv]
def rO(h:Rows L):(L.map (·.length)).sum+L.length*("/":E_).length<=72:=by
 obtain⟨h1,w,hw,h2⟩:=h;rw[rN (λl hl=>(h2 l hl).1)];have e:("/":E_).length=1:=rfl;rw[e];have:=Fv h1.2 hw.2;lia
def Ak:SpD:=λds R=>∃xs:List Int,ds=[.lst (xs.map D.int)]/\40<=xs.length/\Drawn xs/\∀L:List E_,Rows L->R (.lst (L.map D.str))
def Al:SpD:=λds R=>∃(L:List E_) (a b c d:Int),ds=[.lst (L.map D.str),.tup [.int a,.int b],.tup [.int c,.int d]]/\Rows L/\B12 a/\B12 b/\B12 c/\B12 d/\R (.str (cP L a b c d))
structure Leaf where
 rows:List E_
 a:Int
 b:Int
 c:Int
 d:Int
 w0:Int
 w1:Int
 w2:Int
 w3:Int
 w4:Int
 w5:Int
 hues:List Int
def Leaf.D(l:Leaf):My.D:=.tup [.lst (l.rows.map D.str),.tup [.int l.a,.int l.b],.tup [.int l.c,.int l.d],.tup [.int l.w0,.int l.w1,.int l.w2,.int l.w3,.int l.w4,.int l.w5],.lst (l.hues.map D.int)]
structure Leaf.Ok(l:Leaf):Prop where
 rows:Rows l.rows
 a:B12 l.a
 b:B12 l.b
 c:B12 l.c
 d:B12 l.d
 ne:¬l.a*l.d=l.b*l.c
 w0:l.w0.natAbs<=1
 w1:l.w1.natAbs<=1
 w2:l.w2.natAbs<=1
 w3:l.w3.natAbs<=1
 w4:l.w4.natAbs<=1000
 w5:l.w5.natAbs<=1000
 many:l.hues.length=7
 hue:∀h∈l.hues,0<=h/\h<=6
def onB(a b c d u v:Int):Bool:=decide ((u*d-v*c).fmod (a*d-b*c)=0/\(a*v-b*u).fmod (a*d-b*c)=0)
def scanRow(f:Int->Bool):Nat->List Nat->Option Nat
 |_,[]=>p7
 |i,c::r=>if c≠46/\f i=true then be c else scanRow f (i+1) r
def bD(f:Int->Int->Bool):Nat->List E_->Option Nat
 |_,[]=>p7
 |j,l::r=>match scanRow (λi=>f i j) 0 (cs l)with|some c=>be c|none=>bD f (j+1) r
def Leaf.hit(l:Leaf)(x y:Int):Option Nat:=bD (λi j=>onB l.a l.b l.c l.d (l.w0*x+l.w1*y+l.w4-i) (l.w2*x+l.w3*y+l.w5-j)) 0 l.rows
def Leaf.shows(l:Leaf)(x y:Int):Int:=match l.hit x y with|some c=>cell l.hues ((c:Int)-48)|none=>0
def one_sign{c:Nat}:(#[[c].toArray]:E_)="."↔c=46:=by
 constructor
 .intro h;have:([c].toArray:Array Nat)=(".":E_).cps:=congrArg Str.cps h;have e:([c].toArray:Array Nat).toList=(".":E_).cps.toList:=by rw[this]
  have e2:(".":E_).cps.toList=[46]:=rfl;rw[e2]at e;simpa using e
 .rintro rfl;rfl
def digit_of{c:Nat}(h:49<=c/\c<=54):PySem.intText? (#[[c].toArray]:E_)=be ((c:Int)-48):=by
 rcases(Ig:c=49\/c=50\/c=51\/c=52\/c=53\/c=54)with e|e|e|e|e|e<;>subst e<;>decide+kernel
def at_str{j:Nat}{x:E_}(h:L[j]?=be x):atI (L.map D.str) (j:Int)=be (.str x):=bN (by rw[Et,h];rfl)
def cQ{n:Int}{k:Nat}{x:D}(h:((Ej n.toNat).map λk=>D.int ((k:Nat):Int))[k]?=be x):k<n.toNat/\x=.int (k:Int):=by
 have hk:k<n.toNat:=by simpa using(Ev.mp h).1
 refine#[hk,?_];simp[hk]at h;exact h.symm
def cD{n:Int}:((Ej n.toNat).map λk=>D.int ((k:Nat):Int)).length=n.toNat:=Iq
def aR:List Leaf->Int->Int->Int
 |[],_,_=>0
 |l::r,x,y=>if l.shows x y≠0 then l.shows x y else aR r x y
variable{hs:List Int}
def Am(h:∀h∈hs,0<=h/\h<=6)(k:Int):0<=cell hs k/\cell hs k<=6:=by
 by_cases hk:k.toNat<hs.length
 .have:cell hs k=hs[k.toNat]:=by simp[cell,EZ,EA hk]
  rw[this];exact h _ (EQ hk)
 .have:cell hs k=0:=by simp[cell,EZ,E5 (FY hk)]
  lia
variable{l:Leaf}
def Leaf.shows_le(h:l.Ok)(x y:Int):0<=l.shows x y/\l.shows x y<=6:=by
 unfold Leaf.shows;split
 .exact Am h.hue _
 .lia
def rP:∀{ls:List Leaf} (x y:Int),(∀l∈ls,l.Ok)->0<=aR ls x y/\aR ls x y<=6
 |[],_,_,_=>by simp[aR]
 |l::r,x,y,h=>by
  unfold aR;split
  .exact Leaf.shows_le (h l Ep) x y
  .exact rP x y λl' q=>h l' (Em _ q)
def bp(L:List E_)(a b c d:Int):Leaf:=#[L,a,b,c,d,1,0,0,1,0,0,[0,1,2,3,4,5,6]]
def An:SpD:=λds R=>∃(ns:List Int) (k:Int),ds=[.rol (ns.map D.int),.int k]/\0<=k/\
 ∀(L:List E_) (a b c d:Int),Rows L->B12 a->B12 b->B12 c->B12 d->¬a*d=b*c->R (.lst [.str (cP L a b c d),.int 0,.lst [(bp L a b c d).D]])
def Ao:SpD:=λds R=>∃(l:Leaf) (x y:Int),ds=[l.D,.int x,.int y]/\l.Ok/\R (.int (l.shows x y))
def Ap:SpD:=λds R=>∃(ls:List Leaf) (x y:Int),ds=[.lst (ls.map Leaf.D),.int x,.int y]/\(∀l∈ls,l.Ok)/\R (.int (aR ls x y))
inductive Pat where
 |mot (L:List Str) (a b c d:Int)
 |over (p q:Pat)
 |sh (a b:Int) (p:Pat)
 |mir (p:Pat)
 |tur (p:Pat)
 |hue (f g:Int) (p:Pat)
def Pat.text:Pat->E_
 |.mot L a b c d=>cP L a b c d
 |.over p q=>(((("(":E_)++p.text)++"|")++q.text)++")"
 |.sh a b p=>((((("s":E_)++(toString a:String))++",")++(toString b:String))++":")++p.text
 |.mir p=>("m":E_)++p.text
 |.tur p=>("t":E_)++p.text
 |.hue f g p=>((("h":E_)++(toString f:String))++(toString g:String))++p.text
def Pat.depth:Pat->Nat
 |.mot ..=>0
 |.over p q=>1+max p.depth q.depth
 |.sh _ _ p=>p.depth+1
 |.mir p=>p.depth+1
 |.tur p=>p.depth+1
 |.hue _ _ p=>p.depth+1
def Leaf.by(l:Leaf)(b0 b1 b2 b3 b4 b5:Int):Leaf:=
 {l with w0:=l.w0*b0+l.w1*b2,w1:=l.w0*b1+l.w1*b3,w2:=l.w2*b0+l.w3*b2,w3:=l.w2*b1+l.w3*b3,w4:=l.w4+l.w0*b4+l.w1*b5,w5:=l.w5+l.w2*b4+l.w3*b5}
def bw(f g h:Int):Int:=if h=f then g else h
def Leaf.dye(l:Leaf)(f g:Int):Leaf:={l with hues:=l.hues.map (bw f g)}
def Pat.leaves:Pat->List Leaf
 |.mot L a b c d=>[bp L a b c d]
 |.over p q=>p.leaves++q.leaves
 |.sh a b p=>p.leaves.map (λl=>l.by 1 0 0 1 (-a) (-b))
 |.mir p=>p.leaves.map (λl=>l.by (-1) 0 0 1 0 0)
 |.tur p=>p.leaves.map (λl=>l.by 0 1 (-1) 0 0 0)
 |.hue f g p=>p.leaves.map (λl=>(l.by 1 0 0 1 0 0).dye f g)
def Pat.show:Pat->Int->Int->Int
 |.mot L a b c d,x,y=>(bp L a b c d).shows x y
 |.over p q,x,y=>if p.show x y≠0 then p.show x y else q.show x y
 |.sh a b p,x,y=>p.show (x-a) (y-b)
 |.mir p,x,y=>p.show (-x) y
 |.tur p,x,y=>p.show y (-x)
 |.hue f g p,x,y=>bw f g (p.show x y)
def Pat.Wf:Pat->Prop
 |.mot L a b c d=>Rows L/\B12 a/\B12 b/\B12 c/\B12 d/\¬a*d=b*c
 |.over p q=>p.Wf/\q.Wf
 |.sh a b p=>B12 a/\B12 b/\p.Wf
 |.mir p=>p.Wf
 |.tur p=>p.Wf
 |.hue f g p=>(1<=f/\f<=6)/\(1<=g/\g<=6)/\p.Wf
def Leaf.by_shows(l:Leaf)(b0 b1 b2 b3 b4 b5 x y:Int):(l.by b0 b1 b2 b3 b4 b5).shows x y=l.shows (b0*x+b1*y+b4) (b2*x+b3*y+b5):=by
 have e1:(l.w0*b0+l.w1*b2)*x+(l.w0*b1+l.w1*b3)*y+(l.w4+l.w0*b4+l.w1*b5)=l.w0*(b0*x+b1*y+b4)+l.w1*(b2*x+b3*y+b5)+l.w4:=Jw
 have e2:(l.w2*b0+l.w3*b2)*x+(l.w2*b1+l.w3*b3)*y+(l.w5+l.w2*b4+l.w3*b5)=l.w2*(b0*x+b1*y+b4)+l.w3*(b2*x+b3*y+b5)+l.w5:=Jw
 simp only[Leaf.shows,Leaf.hit,Leaf.by,e1,e2]
def fA(b0 b1 b2 b3 b4 b5 x y:Int):∀ls:List Leaf,aR (ls.map (λl=>l.by b0 b1 b2 b3 b4 b5)) x y=aR ls (b0*x+b1*y+b4) (b2*x+b3*y+b5)
 |[]=>rfl
 |l::r=>by
  rw[EJ,aR,aR,Leaf.by_shows,fA b0 b1 b2 b3 b4 b5 x y r]
def scanRow_sign{f:Int->Bool}:∀{cs:List Nat} {i c:Nat},(∀c∈cs,bb c)->scanRow f i cs=be c->49<=c/\c<=54
 |[],_,_,_,h=>by cases h
 |a::r,i,c,hs,h=>by
  rw[scanRow]at h;split at h
  .rename_i q;cases h;have:=hs a Ep;unfold bb at this;have:=q.1;lia
  .exact scanRow_sign (λc q=>hs c (Em _ q)) h
def jU{f:Int->Int->Bool}:∀{L:List E_} {j c:Nat},(∀l∈L,∀c∈cs l,bb c)->bD f j L=be c->49<=c/\c<=54
 |[],_,_,_,h=>by cases h
 |a::r,j,c,hs,h=>by
  rw[bD]at h;split at h
  .rename_i q;cases h;exact scanRow_sign (hs a Ep) q
  .exact jU (λl q=>hs l (Em _ q)) h
def Aq(h:k.toNat<hs.length):cell (hs.map (bw f g)) k=bw f g (cell hs k):=by
 simp[cell,EZ,Et,EA h]
def Leaf.dye_shows(ok:l.Ok)(hf:1<=f)(x y:Int):(l.dye f g).shows x y=bw f g (l.shows x y):=by
 have e:(l.dye f g).hit x y=l.hit x y:=rfl;unfold Leaf.shows;rw[e];cases h:l.hit x y with
 |none=>simp[bw];lia
 |some c=>
  have hc:49<=c/\c<=54:=jU (λl' q=>let ⟨_,_,_,h⟩:=ok.rows;(h l' q).2) h;exact Aq (by rw[ok.many];lia)
def rQ(hf:1<=f)(hg:1<=g):bw f g h=0↔h=0:=by
 unfold bw;split<;>lia
def rR{f g:Int}(hf:1<=f)(hg:1<=g)(x y:Int):∀ls:List Leaf,(∀l∈ls,l.Ok)->aR (ls.map (λl=>l.dye f g)) x y=bw f g (aR ls x y)
 |[],_=>by simp[aR,bw];lia
 |l::r,h=>by
  rw[EJ,aR,aR,Leaf.dye_shows (h l Ep) hf,rR hf hg x y r λl q=>h l (Em _ q)];by_cases z:l.shows x y=0
  .rw[if_neg (λq=>q ((rQ hf hg).mpr z)),if_neg (λq=>q z)]
  .rw[if_pos (λq=>z ((rQ hf hg).mp q)),if_pos z]
def rS(x y:Int):∀(a b:List Leaf),aR (a++b) x y=if aR a x y≠0 then aR a x y else aR b x y
 |[],b=>by simp[aR]
 |l::r,b=>by
  rw[List.cons_append,aR,aR];by_cases z:l.shows x y≠0
  .rw[if_pos z,if_pos z,if_pos z]
  .rw[if_neg z,if_neg z,rS x y r b]
structure Leaf.Near(l:Leaf)(n:Nat):Prop where
 u0:(l.w0.natAbs=1/\l.w1=0/\l.w2=0/\l.w3.natAbs=1)\/(l.w0=0/\l.w1.natAbs=1/\l.w2.natAbs=1/\l.w3=0)
 w4:l.w4.natAbs<=24*n
 w5:l.w5.natAbs<=24*n
variable{n:Nat}
def Leaf.Near.mono{m:Nat}(h:l.Near n)(k:n<=m):l.Near m:=#[h.u0,by have:=h.w4;lia,by have:=h.w5;lia]
def Leaf.Near.unit(h:l.Near n):(l.w0=1\/l.w0=-1\/l.w0=0)/\(l.w1=1\/l.w1=-1\/l.w1=0)/\(l.w2=1\/l.w2=-1\/l.w2=0)/\(l.w3=1\/l.w3=-1\/l.w3=0):=by
 have k:∀{w:Int},w.natAbs=1->w=1\/w=-1\/w=0:=λ{w} e=>(Int.natAbs_eq w).imp (λz=>by rw[z,e];rfl) λz=>.inl (by rw[z,e];rfl);rcases h.u0 with⟨p,q,r,t⟩|⟨p,q,r,t⟩
 .exact#[k p,.inr (.inr q),.inr (.inr r),k t]
 .exact#[.inr (.inr p),k q,k r,.inr (.inr t)]
def rT(h:w=1\/w=-1\/w=0):w.natAbs<=1:=by rcases h with rfl|rfl|rfl<;>decide
def near_add(h:e.natAbs<=24*n)(hw:w=1\/w=-1\/w=0)(hv:v=1\/v=-1\/v=0)(ha:B12 a)(hb:B12 b):(e+w* -a+v* -b).natAbs<=24*(n+1):=by
 have m:∀{w a:Int},(w=1\/w=-1\/w=0)->B12 a->(w* -a).natAbs<=12:=λ{w a} hw ha=>by
  rw[E6,Gr];exact Fv (rT hw) (show a.natAbs<=12 by unfold B12 at ha;clear hw;lia)
 rw[show 24*(n+1)=24*n+12+12 from rfl];exact Eo (Gn _ _) (F8 (Eo (Gn _ _) (F8 h (m hw ha))) (m hv hb))
def Ar(h:l.Near n)(ha:B12 a)(hb:B12 b):(l.by 1 0 0 1 (-a) (-b)).Near (n+1):=by
 obtain⟨h0,h1,h2,h3⟩:=h.unit;exact#[by simpa[Leaf.by]using h.u0,near_add h.w4 h0 h1 ha hb,near_add h.w5 h2 h3 ha hb]
def As(h:l.Near n):(l.by (-1) 0 0 1 0 0).Near (n+1):=by
 have p:=h.w4;have q:=h.w5;exact#[by simpa[Leaf.by]using h.u0,by simp[Leaf.by];lia,by simp[Leaf.by];lia]
def Au(h:l.Near n):(l.by 0 1 (-1) 0 0 0).Near (n+1):=by
 have p:=h.w4;have q:=h.w5;refine#[?_,by simp[Leaf.by];lia,by simp[Leaf.by];lia];rcases h.u0 with⟨a,b,c,d⟩|⟨a,b,c,d⟩
 .exact .inr (by simp[Leaf.by,a,b,c,d])
 .exact .inl (by simp[Leaf.by,a,b,c,d])
def rV(h:l.Near n):((l.by 1 0 0 1 0 0).dye f g).Near (n+1):=by
 have p:=h.w4;have q:=h.w5;exact#[by simpa[Leaf.by,Leaf.dye]using h.u0,by simp[Leaf.by,Leaf.dye];lia,by simp[Leaf.by,Leaf.dye];lia]
structure Leaf.Good(l:Leaf):Prop where
 rows:Rows l.rows
 a:B12 l.a
 b:B12 l.b
 c:B12 l.c
 d:B12 l.d
 ne:¬l.a*l.d=l.b*l.c
 many:l.hues.length=7
 hue:∀h∈l.hues,0<=h/\h<=6
def Leaf.ok_of(g:l.Good)(h:l.Near n)(hn:n<=40):l.Ok:=by
 have:=h.u0;have:=h.w4;have:=h.w5;exact#[g.rows,g.a,g.b,g.c,g.d,g.ne,Ig,Ig,Ig,Ig,Ig,Ig,g.many,g.hue]
def Pat.leaf_good:∀{p:Pat},p.Wf->∀l∈p.leaves,l.Good/\l.Near p.depth
 |.mot L a b c d,h,l,q=>by
  have:l=bp L a b c d:=by simpa[Pat.leaves]using q
  subst this;obtain⟨h1,h2,h3,h4,h5,h6⟩:=h;exact#[#[h1,h2,h3,h4,h5,h6,rfl,by intro h q;simp[bp]at q;lia],#[by simp[bp],by simp[bp],by simp[bp]]]
 |.over p r,h,l,q=>by
  rcases EO.mp q with q|q
  .obtain⟨g,n⟩:=Pat.leaf_good h.1 l q;exact#[g,n.mono (by simp only[Pat.depth];lia)]
  .obtain⟨g,n⟩:=Pat.leaf_good h.2 l q;exact#[g,n.mono (by simp only[Pat.depth];lia)]
 |.sh a b p,h,l,q=>by
  obtain⟨l',q',rfl⟩:=EN.mp q;obtain⟨g,n⟩:=Pat.leaf_good h.2.2 l' q';exact#[#[g.rows,g.a,g.b,g.c,g.d,g.ne,g.many,g.hue],Ar n h.1 h.2.1]
 |.mir p,h,l,q=>by
  obtain⟨l',q',rfl⟩:=EN.mp q;obtain⟨g,n⟩:=Pat.leaf_good (p:=p) h l' q';exact#[#[g.rows,g.a,g.b,g.c,g.d,g.ne,g.many,g.hue],As n]
 |.tur p,h,l,q=>by
  obtain⟨l',q',rfl⟩:=EN.mp q;obtain⟨g,n⟩:=Pat.leaf_good (p:=p) h l' q';exact#[#[g.rows,g.a,g.b,g.c,g.d,g.ne,g.many,g.hue],Au n]
 |.hue f k p,h,l,q=>by
  obtain⟨l',q',rfl⟩:=EN.mp q;obtain⟨g,n⟩:=Pat.leaf_good (p:=p) h.2.2 l' q';refine#[#[g.rows,g.a,g.b,g.c,g.d,g.ne,?_,λv hv=>?_],rV n]
  .show(l'.hues.map _).length=7;rw[En];exact g.many
  .obtain⟨u,hu,rfl⟩:=EN.mp hv;have:=g.hue u hu;have:=h.2.1;unfold bw;split<;>lia
variable{p:Pat}
def Pat.leaf_ok(h:p.Wf)(hd:p.depth<=40):∀l∈p.leaves,l.Ok:=λl q=>Leaf.ok_of (Pat.leaf_good h l q).1 (Pat.leaf_good h l q).2 hd
def Pat.show_leaves:∀{p:Pat},p.Wf->p.depth<=40->∀x y,aR p.leaves x y=p.show x y
 |.mot L a b c d,_,_,x,y=>by
  simp only[Pat.leaves,Pat.show,aR];split
  .rfl
  .lia
 |.over p q,h,hd,x,y=>by
  simp only[Pat.depth]at hd;rw[Pat.leaves,rS,Pat.show_leaves h.1 Ig,Pat.show_leaves h.2 Ig,Pat.show]
 |.sh a b p,h,hd,x,y=>by
  simp only[Pat.depth]at hd;rw[Pat.leaves,fA,Pat.show_leaves h.2.2 Ig,Pat.show];congr 1<;>lia
 |.mir p,h,hd,x,y=>by
  simp only[Pat.depth]at hd;rw[Pat.leaves,fA,Pat.show_leaves (p:=p) h Ig,Pat.show];congr 1<;>lia
 |.tur p,h,hd,x,y=>by
  simp only[Pat.depth]at hd;rw[Pat.leaves,fA,Pat.show_leaves (p:=p) h Ig,Pat.show];congr 1<;>lia
 |.hue f g p,h,hd,x,y=>by
  simp only[Pat.depth]at hd;have e:p.leaves.map (λl=>(l.by 1 0 0 1 0 0).dye f g)=(p.leaves.map (λl=>l.by 1 0 0 1 0 0)).map (λl=>l.dye f g):=by rw[Fx];rfl
  rw[Pat.leaves,e,rR h.1.1 h.2.1.1,fA,Pat.show_leaves h.2.2 Ig,Pat.show]
  .congr 2<;>lia
  .intro l q;obtain⟨l',q',rfl⟩:=EN.mp q;obtain⟨g',n⟩:=Pat.leaf_good h.2.2 l' q';have n':=rV (f:=f) (g:=g) n;have:(l'.by 1 0 0 1 0 0).Near (p.depth+1):=#[n'.u0,n'.w4,n'.w5];exact Leaf.ok_of #[g'.rows,g'.a,g'.b,g'.c,g'.d,g'.ne,g'.many,g'.hue] this Ig
def Pat.D(p:Pat):My.D:=.lst [.str p.text,.int p.depth,.lst (p.leaves.map Leaf.D)]
def Leaf.T(dy:Bool)(d8 new b0 b1 b2 b3 b4 b5:Int)(l:Leaf):Leaf:=if dy then(l.by b0 b1 b2 b3 b4 b5).dye d8 new else l.by b0 b1 b2 b3 b4 b5
def eF(h:1<=a/\a<=6):((toString a:String):E_).length<=3:=bv Ig
def Wraps(p:Pat)(H:Prop)(R:My.D->Prop):Prop:=(5<=p.depth->R p.D)/\(p.depth<5->R (Pat.mir p).D/\R (Pat.tur p).D/\(∀a b,B12 a->B12 b->R (Pat.sh a b p).D)/\(H->∀f g:Int,(1<=f/\f<=6)->(1<=g/\g<=6)->R (Pat.hue f g p).D))
variable{A:Int}{R:My.D->Prop}
def Av(h:Wraps p (j=3) R)(hd:p.depth<5){k B d8 new:Int}(hA:B12 A)(hB:B12 B)(ho:1<=d8/\d8<=6)(hn:1<=new/\new<=6)(hj:0<=j/\j<4):
  ∃(hs:E_) (b0 b1 b2 b3 b4 b5:Int),atI [D.str "m",D.str "t",D.str ((((("s":E_)++(toString A:String))++",")++(toString B:String))++":"),D.str ((("h":E_)++(toString d8:String))++(toString new:String))] j=be (.str hs)/\
   atI ([D.tup [.int (-1),.int 0,.int 0,.int 1,.int 0,.int 0],D.tup [.int 0,.int 1,.int (-1),.int 0,.int 0,.int 0]]++[D.tup [.int 1,.int 0,.int 0,.int 1,.int (-A),.int (-B)],D.tup [.int 1,.int 0,.int 0,.int 1,.int 0,.int 0]]) j=be (.tup [.int b0,.int b1,.int b2,.int b3,.int b4,.int b5])/\
   (b0.natAbs<=1/\b1.natAbs<=1/\b2.natAbs<=1/\b3.natAbs<=1/\b4.natAbs<=12/\b5.natAbs<=12)/\hs.length<=20/\
   R (.lst [.str (hs++p.text),.int (p.depth+1),.lst ((p.leaves.map (Leaf.T (decide (j=3)) d8 new b0 b1 b2 b3 b4 b5)).map Leaf.D)]):=by
 obtain⟨h1,h2,h3,h4⟩:=h.2 hd;have l1:("s":E_).length=1:=rfl;have l2:(",":E_).length=1:=rfl;have l3:(":":E_).length=1:=rfl;have l4:("h":E_).length=1:=rfl;have lA:=bv hA;have lB:=bv hB;have lo:=eF ho;have ln:=eF hn;have eD:∀n:Nat,D.int ((n+1:Nat):Int)=D.int ((n:Int)+1):=λn=>by congr 1
 unfold B12 at hA hB;rcases(Ig:j=0\/j=1\/j=2\/j=3)with rfl|rfl|rfl|rfl
 .exact#[_,_,_,_,_,_,_,rfl,rfl,Ig,Ik,h1]
 .exact#[_,_,_,_,_,_,_,rfl,rfl,Ig,Ik,h2]
 .refine#[_,_,_,_,_,_,_,rfl,rfl,Ig,?_,h3 A B hA hB]
  repeat rw[aC]
  lia
 .refine#[_,_,_,_,_,_,_,rfl,rfl,Ig,?_,h4 rfl d8 new ho hn]
  repeat rw[aC]
  lia
def Aw(h d8 new:Int):atI [D.int h,D.int new] (if decide (h=d8)=true then(1:Int)else 0)=be (.int (bw d8 new h)):=by
 unfold bw;by_cases e:h=d8
 .rw[if_pos e,if_pos (by simpa using e)];rfl
 .rw[if_neg e,if_neg (by simpa using e)];rfl
def jV{α:Type}{xs:List α}{k:Nat}{x:α}(h:xs[k]?=be x):xs.take (k+1)=xs.take k++[x]:=by
 have hk:k<xs.length:=(Ev.mp h).1;rw[GV,h];rfl
def Pat.leaves_len:∀(p:Pat),p.leaves.length<=2^p.depth
 |.mot ..=>Eg _
 |.over p q=>by
  have h1:=p.leaves_len;have h2:=q.leaves_len;have m1:2^p.depth<=2^(max p.depth q.depth):=Fy Ik (G8 _ _);have m2:2^q.depth<=2^(max p.depth q.depth):=Fy Ik (G9 _ _);rw[Pat.leaves,EG,Pat.depth,Ha];lia
 |.sh a b p=>by rw[Pat.leaves,En,Pat.depth,Fd];have:=p.leaves_len;lia
 |.mir p=>by rw[Pat.leaves,En,Pat.depth,Fd];have:=p.leaves_len;lia
 |.tur p=>by rw[Pat.leaves,En,Pat.depth,Fd];have:=p.leaves_len;lia
 |.hue f g p=>by rw[Pat.leaves,En,Pat.depth,Fd];have:=p.leaves_len;lia
def Pat.leaves_32(h:p.depth<=5):p.leaves.length<=32:=Eo p.leaves_len (Fy Ik h)
def Ax:SpD:=λds R=>∃(p:Pat) (draw:Int),ds=[p.D,.int draw]/\p.Wf/\p.depth<=5/\p.text.length<=100000/\Wraps p (draw%4=3) R
def rW(hn:¬a*d=b*c)(h:(u*d-v*c).fmod (a*d-b*c)=0/\(a*v-b*u).fmod (a*d-b*c)=0):∃i j,u=i*a+j*c/\v=i*b+j*d:=by
 have hz:a*d-b*c≠0:=Jo
 obtain⟨i,ei⟩:(a*d-b*c)∣(u*d-v*c):=#[_,(Hb h.1).symm];obtain⟨j,ej⟩:(a*d-b*c)∣(a*v-b*u):=#[_,(Hb h.2).symm];refine#[i,j,?_,?_]
 .have:(a*d-b*c)*u=(a*d-b*c)*(i*a+j*c):=by
   have q1:(a*d-b*c)*u=a*(u*d-v*c)+c*(a*v-b*u):=Jw
   rw[q1,ei,ej];grind
  exact Gs hz this
 .have:(a*d-b*c)*v=(a*d-b*c)*(i*b+j*d):=by
   have q1:(a*d-b*c)*v=b*(u*d-v*c)+d*(a*v-b*u):=Jw
   rw[q1,ei,ej];grind
  exact Gs hz this
def Uni.trans{x0 x1 y0 y1:Int}(h:Uni a b c d p0 p1 q0 q1)(k:Uni p0 p1 q0 q1 x0 x1 y0 y1):Uni a b c d x0 x1 y0 y1:=by
 obtain⟨m,n,k1,l,hd,rfl,rfl,rfl,rfl⟩:=h;obtain⟨m',n',k',l',gV,rfl,rfl,rfl,rfl⟩:=k;have dt:(m'*m+n'*k1)*(k'*n+l'*l)-(m'*n+n'*l)*(k'*m+l'*k1)=(m'*l'-n'*k')*(m*l-n*k1):=Jw
 refine#[m'*m+n'*k1,m'*n+n'*l,k'*m+l'*k1,k'*n+l'*l,?_,Jw,Jw,Jw,Jw];rw[dt];rcases hd with e|e<;>rcases gV with e'|e'<;>rw[e,e']<;>decide
def eI:∀(n:Nat) (a b c d:Int),d.natAbs<=n->∃p0 p1 q0,Lev a b c d p0 p1 q0
 |n,a,b,c,d,hn=>by
  by_cases hd:d=0
  .subst hd;by_cases hb:0<=b
   .exact#[a,b,c,hb,Uni.refl a b c 0]
   .exact#[-a,-b,c,Ig,(Uni.refl a b c 0).neg]
  .match n,hn with
   |0,hn=>exact absurd (Ig:d=0) hd
   |n+1,hn=>
    have lt:=(fdm b d hd).1;obtain⟨p0,p1,q0,h0,hu⟩:=eI n c d (a-b.fdiv d*c) (b-b.fdiv d*d) Ig;exact#[p0,p1,q0,h0,((Uni.refl a b c d).step (b.fdiv d)).trans hu]
def Ay(hn:¬a*d=b*c)(g0:0<=g)(g1:g∣b)(g2:g∣d)(g3:∀e,e∣b->e∣d->e∣g):
  ∃w s,FamOf a b c d w g s:=by
 obtain⟨p0,p1,q0,hL⟩:=eI d.natAbs a b c d (Eg _);have hF:=fz hn hL;have hp:=hF.2.1;obtain⟨m,n,k,l,_,e1,e2,e3,e4⟩:=hL.2;obtain⟨m',n',k',l',_,f1,f2,f3,f4⟩:=hL.2.inv;have d1:p1∣g:=g3 p1 #[m',by rw[f2];grind] #[k',by rw[f4];grind];have d2:g∣p1:=by
  rw[e2];exact Gu (F9 g1) (F9 g2)
 have:p1=g:=Hc Ig g0 d1 d2;subst this;exact#[_,_,hF]
def FamOf.uniq_lean(f:FamOf a b c d w h s)(e1:x=i*a+j*c)(e2:h=i*b+j*d)(h0:0<=x)(h1:x<=s):x=s:=by
 obtain⟨hw,hh,hs,Hw,hu⟩:=f;obtain⟨m,n,k,l,_,f1,f2,f3,f4⟩:=hu.inv;have ex:x=(i*m+j*k)*w+(i*n+j*l)*s:=by rw[e1,f1,f3];grind
 have eh:h=(i*n+j*l)*h:=by
  have:i*b+j*d=(i*n+j*l)*h:=by rw[f2,f4];grind
  rw[<-this];exact e2
 have one:i*n+j*l=1:=by
  have:(i*n+j*l)*h=1*h:=by lia
  exact Fw Ig this
 rw[one]at ex;generalize i*m+j*k=t at ex;have:t*w=x-s:=Ig
 rcases(Ig:t<=-1\/t=0\/1<=t)with z|z|z
 .have:=EL z (show 0<=w by lia);lia
 .subst z;lia
 .have:=EL z (show 0<=w by lia);lia
def notT{c:Prop}[Decidable c](h:(!decide c)=true):¬c:=by
 intro q;rw[decide_eq_true q]at h;cases h
def notF{c:Prop}[Decidable c](h:¬(!decide c)=true):c:=by
 rcases Classical.em c with q|q
 .exact q
 .rw[decide_eq_false q]at h;exact absurd rfl h
def Leaf.o0(l:Leaf):Int:=l.w0*l.a+l.w2*l.b
def Leaf.o1(l:Leaf):Int:=l.w1*l.a+l.w3*l.b
def Leaf.t0(l:Leaf):Int:=l.w0*l.c+l.w2*l.d
def Leaf.t1(l:Leaf):Int:=l.w1*l.c+l.w3*l.d
def cR(h:w=1\/w=-1\/w=0)(ha:B12 a):(w*a).natAbs<=12:=by
 rw[E6];exact Fv (rT h) (show a.natAbs<=12 by unfold B12 at ha;clear h;lia)
def rX(ha:B12 a)(hb:B12 b):(a*b).natAbs<=144:=by
 unfold B12 at ha hb;rw[E6];exact Eo (Fv (show a.natAbs<=12 by lia) (show b.natAbs<=12 by lia)) Ik
def Leaf.sizes(g:l.Good)(h:l.Near n):l.o0.natAbs<=24/\l.o1.natAbs<=24/\l.t0.natAbs<=24/\l.t1.natAbs<=24/\¬l.o0*l.t1=l.o1*l.t0/\(l.o0*l.t1-l.o1*l.t0).natAbs<=288:=by
 obtain⟨h0,h1,h2,h3⟩:=h.unit;have a0:=cR h0 g.a;have a1:=cR h1 g.a;have b2:=cR h2 g.b;have b3:=cR h3 g.b;have c0:=cR h0 g.c;have c1:=cR h1 g.c;have d2:=cR h2 g.d;have d3:=cR h3 g.d;have dt:l.o0*l.t1-l.o1*l.t0=(l.w0*l.w3-l.w1*l.w2)*(l.a*l.d-l.b*l.c):=by unfold Leaf.o0 Leaf.o1 Leaf.t0 Leaf.t1;grind
 have dw:(l.w0*l.w3-l.w1*l.w2).natAbs=1:=by
  rcases h.u0 with⟨p,q,r,t⟩|⟨p,q,r,t⟩
  .rw[q,Hd,Int.sub_zero,E6,p,t]
  .rw[p,Hd,Int.zero_sub,Gr,E6,q,r]
 have da:(l.o0*l.t1-l.o1*l.t0).natAbs=(l.a*l.d-l.b*l.c).natAbs:=by rw[dt,E6,dw,Nat.one_mul]
 refine#[ab24 a0 b2,ab24 a1 b3,ab24 c0 d2,ab24 c1 d3,λz=>g.ne ?_,?_]
 .rw[z,Int.sub_self]at da;exact Int.sub_eq_zero.mp (GR.mp da.symm)
 .rw[da];exact Eo (G2 _ _) (F8 (rX g.a g.d) (rX g.b g.c))
def Az:SpD:=λds R=>∃(l:Leaf) (n:Nat),ds=[l.D]/\l.Good/\l.Near n/\∀w h s:Int,FamOf l.o0 l.o1 l.t0 l.t1 w h s->w*h<=288->R (.tup [.int w,.int h,.int s])
def AA(h1:y%h=0/\(x-y/h*s)%w=0):∃i j,x=i*w+j*s/\y=j*h:=by
 refine#[(x-y/h*s)/w,y/h,?_,?_]
 .have:=Fz (x-y/h*s) w;rw[h1.2]at this;rw[EK w]at this;lia
 .have:=Fz y h;rw[h1.1,EK h]at this;lia
def eJ(x y:Int):∃g u,Meas x y g u:=by
 obtain⟨p0,p1,q0,hL⟩:=eI y.natAbs 1 x 0 y (Eg _);exact#[p1,p0,rF #[hL.1,hL.2]]
def Meas.gcd{G:Int}(h:Meas x y g u)(g0:0<=G)(g1:G∣x)(g2:G∣y)(g3:∀e,e∣x->e∣y->e∣G):G=g:=by
 obtain⟨h0,⟨i,ei⟩,⟨j,ej⟩,n,en⟩:=h;refine Hc g0 h0 ?_ (g3 g #[i,by rw[ei,EK]] #[j,by rw[ej,EK]]);rw[en];exact Gu (F9 g1) (F9 g2)
structure Fm(w h s:Int):Prop where
 w0:0<w
 w1:w<=720
 h0:0<h
 h1:h<=720
 s0:0<=s
 sw:s<w
def AB(f:Fm w1 h1 s1)(k:Fm w2 h2 s2):∃g u w h s A,Meas w1 w2 g u/\w=w1*w2/g/\MetR w1 h1 s1 w2 h2 s2 w h s A:=by
 obtain⟨g,u,M1⟩:=eJ w1 w2;obtain⟨k',u',M2⟩:=eJ h1 h2;obtain⟨gg,t9,M3⟩:=eJ g (h1*h2/k'/h2*s2-h1*h2/k'/h1*s1);exact#[g,u,_,_,_,_,M1,rfl,jR f.w0 k.w0 f.h0 k.h0 M1 M2 M3]
def MetR.high(M:MetR w1 h1 s1 w2 h2 s2 w h s A)(hh:0<h1)(hj:1<=j)(e1:∃i,x=i*w1+j*s1)(e2:∃i k,x=i*w2+k*s2/\j*h1=k*h2):h<=j*h1/\(j*h1=h->0<=x->x<w->x=s):=by
 obtain⟨i,e1⟩:=e1;obtain⟨i',k,e3,e4⟩:=e2;obtain⟨a,b,e5,e6⟩:=M.all x (j*h1) #[i,j,e1,rfl] #[i',k,e3,e4];have hp:0<j*h1:=EB Ig hh;have hb:1<=b:=by
  rcases(Ig:b<=0\/1<=b)with z|z
  .have:=Fk z (show 0<=h by have:=M.h0;lia);lia
  .exact z
 refine#[?_,λe x0 x1=>?_]
 .have:=EL hb (show 0<=h by have:=M.h0;lia);lia
 .have ob:b=1:=by
   have:b*h=1*h:=by lia
   exact Fw (by have:=M.h0;lia) this
  rw[ob]at e5;have s0:=M.s0;have sw:=M.sw;have:a*w=x-s:=Ig
  rcases(Ig:a<=-1\/a=0\/1<=a)with z|z|z
  .have:=EL z (show 0<=w by lia);lia
  .subst z;lia
  .have:=EL z (show 0<=w by lia);lia
def AC:SpD:=λds R=>∃w1 h1 s1 w2 h2 s2:Int,ds=[.tup [.int w1,.int h1,.int s1],.tup [.int w2,.int h2,.int s2]]/\Fm w1 h1 s1/\Fm w2 h2 s2/\
 ∀w h s A,MetR w1 h1 s1 w2 h2 s2 w h s A->(w*h<=720->R (.tup [.int w,.int h,.int s]))/\(720<w*h->R .non)
def AD{S:Int}(hw:0<w1)(hx:x<w1)(x0:0<=x)(hS:0<=S)(e:S=i*w1+s)(e2:∃i',x=i'*w1+s):∃k,S=x+k*w1/\0<=k:=by
 obtain⟨i',e2⟩:=e2;refine#[i-i',Jw,?_];rcases(Ig:i-i'<=-1\/0<=i-i')with z|z
 .have:=EL z (show 0<=w1 by lia);have:(i-i')*w1=S-x:=by grind
  lia
 .exact z
def InF(w h s x y:Int):Prop:=∃i j,x=i*w+j*s/\y=j*h
def Leaf.Lat(l:Leaf)(x y:Int):Prop:=∃i j,x=i*l.o0+j*l.t0/\y=i*l.o1+j*l.t1
def FamOf.lat(f:FamOf a b c d w h s)(x y:Int):InF w h s x y↔∃i j,x=i*a+j*c/\y=i*b+j*d:=by
 obtain⟨_,_,_,_,hu⟩:=f;obtain⟨m,n,k,l,_,e1,e2,e3,e4⟩:=id hu;obtain⟨m',n',k',l',_,f1,f2,f3,f4⟩:=hu.inv;constructor
 .rintro⟨i,j,rfl,rfl⟩;refine#[i*m+j*k,i*n+j*l,by rw[e1,e3];grind,?_];have z:i*0+j*h=(i*m+j*k)*b+(i*n+j*l)*d:=by rw[e2,e4];grind
  lia
 .rintro⟨i,j,rfl,rfl⟩;refine#[i*m'+j*k',i*n'+j*l',by rw[f1,f3];grind,by rw[f2,f4];grind]
def MetR.lat(M:MetR w1 h1 s1 w2 h2 s2 w h s A)(x y:Int):InF w h s x y↔InF w1 h1 s1 x y/\InF w2 h2 s2 x y:=by
 constructor
 .rintro⟨i,j,rfl,rfl⟩;obtain⟨a1,e1⟩:=M.in1;obtain⟨a2,e2⟩:=M.in2;obtain⟨b1,c1,e3,e4⟩:=M.up1;obtain⟨b2,c2,e5,e6⟩:=M.up2;refine#[#[i*a1+j*b1,j*c1,?_,?_],#[i*a2+j*b2,j*c2,?_,?_]]
  .rw[e1,e3];grind
  .rw[e4];grind
  .rw[e2,e5];grind
  .rw[e6];grind
 .rintro⟨h1,h2⟩;exact M.all x y h1 h2
variable{w' h' s':Int}
def InF.le(hw:0<w)(hh:0<h)(LD:0<w')(LF:0<h')(sub:∀x y,InF w' h' s' x y->InF w h s x y):w*h<=w'*h'/\w<=w'/\h<=h':=by
 obtain⟨i,j,e1,e2⟩:=sub w' 0 #[1,0,Ig,Ig];have j0:j=0:=by
  rcases Gw.mp e2.symm with z|z
  .exact z
  .lia
 subst j0;have i1:1<=i:=by
  rcases(Ig:i<=0\/1<=i)with z|z
  .have:=Fk z (show 0<=w by lia);lia
  .exact z
 obtain⟨i',j',e3,e4⟩:=sub s' h' #[0,1,Ig,Ig];have j1:1<=j':=by
  rcases(Ig:j'<=0\/1<=j')with z|z
  .have:=Fk z (show 0<=h by lia);lia
  .exact z
 have a1:=EL i1 (show 0<=w by lia);have a2:=EL j1 (show 0<=h by lia);have b1:w<=w':=Ig
 have b2:h<=h':=Ig
 exact#[Int.mul_le_mul b1 b2 Ig Ig,b1,b2]
def InF.uniq(hw:0<w)(hh:0<h)(hs:0<=s)(Hw:s<w)(LD:0<w')(LF:0<h')(Kt:0<=s')(OB:s'<w')(e:∀x y,InF w h s x y↔InF w' h' s' x y):w=w'/\h=h'/\s=s':=by
 obtain⟨_,a1,a2⟩:=InF.le hw hh LD LF (λx y q=>(e x y).mpr q);obtain⟨_,b1,b2⟩:=InF.le LD LF hw hh (λx y q=>(e x y).mp q);have ew:w=w':=Ig
 have eh:h=h':=Ig
 subst ew eh;refine#[rfl,rfl,?_];obtain⟨i,j,e1,e2⟩:=(e s h).mp #[0,1,Ig,Ig];have j1:j=1:=by
  have:j*h=1*h:=by lia
  exact Fw Ig this
 subst j1;have:i*w=s-s':=Ig
 rcases(Ig:i<=-1\/i=0\/1<=i)with z|z|z
 .have:=EL z (show 0<=w by lia);lia
 .subst z;lia
 .have:=EL z (show 0<=w by lia);lia
structure Fam0(w h s:Int):Prop where
 w0:0<w
 h0:0<h
 s0:0<=s
 sw:s<w
def rY(f:Fam0 w1 h1 s1)(k:Fam0 w2 h2 s2):∃w h s,Fam0 w h s/\∀x y,InF w h s x y↔InF w1 h1 s1 x y/\InF w2 h2 s2 x y:=by
 obtain⟨g,u,M1⟩:=eJ w1 w2;obtain⟨k',u',M2⟩:=eJ h1 h2;obtain⟨gg,t9,M3⟩:=eJ g (h1*h2/k'/h2*s2-h1*h2/k'/h1*s1);have M:=jR f.w0 k.w0 f.h0 k.h0 M1 M2 M3;exact#[_,_,_,#[M.w0,M.h0,M.s0,M.sw],M.lat]
def Leaf.fam_ex(g:l.Good)(h:l.Near n):∃w k s,Fam0 w k s/\∀x y,InF w k s x y↔l.Lat x y:=by
 obtain⟨_,_,_,_,ne,_⟩:=Leaf.sizes g h;obtain⟨p0,p1,q0,hL⟩:=eI l.t1.natAbs l.o0 l.o1 l.t0 l.t1 (Eg _);have f:=fz ne hL;exact#[_,_,_,#[f.1,f.2.1,f.2.2.1,f.2.2.2.1],f.lat]
def bE(ls:List Leaf)(x y:Int):Prop:=∀l∈ls,l.Lat x y
def rZ{n:Nat}:∀(ls:List Leaf) (w h s:Int),Fam0 w h s->(∀l∈ls,l.Good/\l.Near n)->∃w' h' s',Fam0 w' h' s'/\∀x y,InF w' h' s' x y↔InF w h s x y/\bE ls x y
 |[],w,h,s,f,_=>#[w,h,s,f,λx y=>#[λq=>#[q,λl z=>by cases z],λq=>q.1]]
 |l::r,w,h,s,f,g=>by
  obtain⟨w1,h1,s1,f1,e1⟩:=Leaf.fam_ex (g l Ep).1 (g l Ep).2;obtain⟨w2,h2,s2,f2,e2⟩:=rY f f1;obtain⟨w3,h3,s3,f3,e3⟩:=rZ r w2 h2 s2 f2 λl' q=>g l' (Em _ q);refine#[w3,h3,s3,f3,λx y=>?_];rw[e3,e2,e1];constructor
  .rintro⟨⟨a,b⟩,c⟩;exact#[a,λl' q=>(Ei.mp q).elim (λz=>z ▸ b) (c l')]
  .rintro⟨a,b⟩;exact#[#[a,b l Ep],λl' q=>b l' (Em _ q)]
def cut1(d:D)(ds:List D):cutD (d::ds) (be 1) p7=ds:=by
 unfold cutD;have e1:HT.sIx (d::ds).length 0 (be 1)=1:=by simp[HT.sIx]
 have e2:HT.sIx (d::ds).length (d::ds).length p7=(d::ds).length:=by simp[HT.sIx]
 rw[e1,e2,List.drop_one,List.tail_cons,Ex,Hf,Ga]
def AE:SpD:=λds R=>∃(ls:List Leaf) (n:Nat),ds=[.lst (ls.map Leaf.D)]/\ls≠[]/\(∀l∈ls,l.Good/\l.Near n)/\
 ∀w h s:Int,Fam0 w h s->(∀x y,InF w h s x y↔bE ls x y)->(w*h<=720->R (.tup [.int w,.int h,.int s]))/\(720<w*h->R .non)
def Pat.Lat:Pat->Int->Int->Prop
 |.mot _ a b c d,x,y=>∃i j,x=i*a+j*c/\y=i*b+j*d
 |.over p q,x,y=>p.Lat x y/\q.Lat x y
 |.sh _ _ p,x,y=>p.Lat x y
 |.mir p,x,y=>p.Lat (-x) y
 |.tur p,x,y=>p.Lat y (-x)
 |.hue _ _ p,x,y=>p.Lat x y
def Leaf.by_lat(l:Leaf)(b0 b1 b2 b3 b4 b5 x y:Int):(l.by b0 b1 b2 b3 b4 b5).Lat x y↔∃u v,l.Lat u v/\x=b0*u+b2*v/\y=b1*u+b3*v:=by
 have e0:(l.by b0 b1 b2 b3 b4 b5).o0=b0*l.o0+b2*l.o1:=by simp only[Leaf.o0,Leaf.o1,Leaf.by];grind
 have e1:(l.by b0 b1 b2 b3 b4 b5).o1=b1*l.o0+b3*l.o1:=by simp only[Leaf.o0,Leaf.o1,Leaf.by];grind
 have e2:(l.by b0 b1 b2 b3 b4 b5).t0=b0*l.t0+b2*l.t1:=by simp only[Leaf.t0,Leaf.t1,Leaf.by];grind
 have e3:(l.by b0 b1 b2 b3 b4 b5).t1=b1*l.t0+b3*l.t1:=by simp only[Leaf.t0,Leaf.t1,Leaf.by];grind
 unfold Leaf.Lat;rw[e0,e1,e2,e3];generalize l.o0=o0;generalize l.o1=o1;generalize l.t0=t0;generalize l.t1=t1;constructor
 .rintro⟨i,j,rfl,rfl⟩;exact#[_,_,#[i,j,rfl,rfl],Jw,Jw]
 .rintro⟨_,_,⟨i,j,rfl,rfl⟩,rfl,rfl⟩;exact#[i,j,Jw,Jw]
def Leaf.dye_lat(l:Leaf)(f g x y:Int):(l.dye f g).Lat x y↔l.Lat x y:=Iff.rfl
def AF(a b:List Leaf)(x y:Int):bE (a++b) x y↔bE a x y/\bE b x y:=by
 constructor
 .intro h;exact#[λl q=>h l (E2 _ q),λl q=>h l (Es _ q)]
 .rintro⟨h1,h2⟩ l q;rcases EO.mp q with q|q
  .exact h1 l q
  .exact h2 l q
def latAll_map{f:Leaf->Leaf}(hf:∀l:Leaf,(f l).Lat x y↔l.Lat u v)(ls:List Leaf):bE (ls.map f) x y↔bE ls u v:=by
 constructor
 .intro h l q;exact(hf l).mp (h _ (EN.mpr #[l,q,rfl]))
 .intro h l q;obtain⟨l',q',rfl⟩:=EN.mp q;exact(hf l').mpr (h l' q')
def se(l:Leaf)(e f x y:Int):(l.by 1 0 0 1 e f).Lat x y↔l.Lat x y:=by
 rw[Leaf.by_lat];constructor
 .rintro⟨u,v,h,e1,e2⟩;have e1:x=u:=by lia
  have e2:y=v:=Ig
  rw[e1,e2];exact h
 .intro h;exact#[x,y,h,Ig,Ig]
def Pat.lat_leaves:∀(p:Pat) (x y:Int),bE p.leaves x y↔p.Lat x y
 | .mot L a b c d,x,y=>by
  have e0:(bp L a b c d).o0=a:=by simp[Leaf.o0,bp]
  have e1:(bp L a b c d).o1=b:=by simp[Leaf.o1,bp]
  have e2:(bp L a b c d).t0=c:=by simp[Leaf.t0,bp]
  have e3:(bp L a b c d).t1=d:=by simp[Leaf.t1,bp]
  have e:(bp L a b c d).Lat x y↔(Pat.mot L a b c d).Lat x y:=by
   unfold Leaf.Lat;rw[e0,e1,e2,e3];exact Iff.rfl
  rw[<-e];constructor
  .intro h;exact h _ Ep
  .intro h l q;rw[Eh.mp q];exact h
 |.over p q,x,y=>by rw[Pat.leaves,AF,Pat.lat_leaves p,Pat.lat_leaves q,Pat.Lat]
 |.sh a b p,x,y=>by rw[Pat.leaves,latAll_map (λl=>se l _ _ x y),Pat.lat_leaves p,Pat.Lat]
 | .mir p,x,y=>by
  have e:∀l:Leaf,(l.by (-1) 0 0 1 0 0).Lat x y↔l.Lat (-x) y:=λl=>by
   rw[Leaf.by_lat];constructor
   .rintro⟨u,v,h,e1,e2⟩;have e1:-x=u:=by lia
    have e2:y=v:=Ig
    rw[e1,e2];exact h
   .intro h;exact#[-x,y,h,Ig,Ig]
  rw[Pat.leaves,latAll_map e,Pat.lat_leaves p,Pat.Lat]
 | .tur p,x,y=>by
  have e:∀l:Leaf,(l.by 0 1 (-1) 0 0 0).Lat x y↔l.Lat y (-x):=λl=>by
   rw[Leaf.by_lat];constructor
   .rintro⟨u,v,h,e1,e2⟩;have e1:-x=v:=by lia
    have e2:y=u:=Ig
    rw[e1,e2];exact h
   .intro h;exact#[y,-x,h,Ig,Ig]
  rw[Pat.leaves,latAll_map e,Pat.lat_leaves p,Pat.Lat]
 |.hue f g p,x,y=>by
  rw[Pat.leaves,latAll_map (λl=>(Leaf.dye_lat _ f g x y).trans (se l _ _ x y)),Pat.lat_leaves p,Pat.Lat]
structure Pat.Fam(p:Pat)(w h s:Int):Prop where
 f:Fam0 w h s
 lat:∀x y,InF w h s x y↔p.Lat x y
def Pat.Fam.uniq(a:p.Fam w h s)(b:p.Fam w' h' s'):w=w'/\h=h'/\s=s':=
 InF.uniq a.f.w0 a.f.h0 a.f.s0 a.f.sw b.f.w0 b.f.h0 b.f.s0 b.f.sw λx y=>(a.lat x y).trans (b.lat x y).symm
def Pat.Fam.mot(k:FamOf a b c d w h s):(Pat.mot L a b c d).Fam w h s:=#[#[k.1,k.2.1,k.2.2.1,k.2.2.2.1],k.lat]
def Pat.Fam.sh(a b:Int)(k:p.Fam w h s):(Pat.sh a b p).Fam w h s:=#[k.f,k.lat]
def Pat.Fam.hue(a b:Int)(k:p.Fam w h s):(Pat.hue a b p).Fam w h s:=#[k.f,k.lat]
def Pat.Fam.mir(k:p.Fam w h s):(Pat.mir p).Fam w h (-s%w):=by
 refine#[#[k.f.w0,k.f.h0,cB k.f.w0,cC k.f.w0],λx y=>?_];show _↔p.Lat (-x) y;rw[<-k.lat];have e:=Fj (-s) w;generalize -s%w=r at e;generalize -s/w=t at e;constructor
 .rintro⟨i,j,rfl,rfl⟩;exact#[j*t-i,j,by rw[e];grind,rfl]
 .rintro⟨i,j,ex,rfl⟩;exact#[j*t-i,j,by rw[e];grind,rfl]
def Pat.Fam.tur(k:p.Fam w h s)(f:FamOf 0 w (-h) s w' h' s'):(Pat.tur p).Fam w' h' s':=by
 refine#[#[f.1,f.2.1,f.2.2.1,f.2.2.2.1],λx y=>?_];show _↔p.Lat y (-x);rw[<-k.lat,f.lat];constructor
 .rintro⟨i,j,rfl,rfl⟩;exact#[i,j,Jw,Jw]
 .rintro⟨i,j,ex,ey⟩;exact#[i,j,Jw,Jw]
def Pat.Fam.over{q:Pat}(k1:p.Fam w1 h1 s1)(k2:q.Fam w2 h2 s2)(M:MetR w1 h1 s1 w2 h2 s2 w h s A):(Pat.over p q).Fam w h s:=by
 refine#[#[M.w0,M.h0,M.s0,M.sw],λx y=>?_];rw[M.lat,k1.lat,k2.lat];exact Iff.rfl
def jW(hw:0<w)(hh:0<h):∃w' h' s',FamOf 0 w (-h) s w' h' s'/\w'*h'=w*h:=by
 have hp:0<w*h:=EB hw hh;have hn:¬0*s=w* -h:=by rw[Gb];lia
 obtain⟨p0,p1,q0,hL⟩:=eI s.natAbs 0 w (-h) s (Eg _);have f:=fz hn hL;refine#[_,_,_,f,?_];have IK:=EB f.1 f.2.1;have c:=f.cells;rw[Gb]at c;lia
def sf(hn:¬a*d=b*c):∃w h s,FamOf a b c d w h s/\(Pat.mot L a b c d).Fam w h s:=by
 obtain⟨p0,p1,q0,hL⟩:=eI d.natAbs a b c d (Eg _);have f:=fz hn hL;exact#[_,_,_,f,.mot f]
def Pat.fam_ex:∀{p:Pat},p.Wf->∃w h s,p.Fam w h s
 |.mot L a b c d,h=>by
  obtain⟨w,k,s,_,f⟩:=sf (L:=L) h.2.2.2.2.2;exact#[w,k,s,f]
 |.over p q,h=>by
  obtain⟨w1,h1,s1,f1⟩:=Pat.fam_ex h.1;obtain⟨w2,h2,s2,f2⟩:=Pat.fam_ex h.2;obtain⟨w,k,s,f,e⟩:=rY f1.f f2.f;refine#[w,k,s,f,λx y=>?_];rw[e,f1.lat,f2.lat];exact Iff.rfl
 |.sh a b p,h=>by
  obtain⟨w,k,s,f⟩:=Pat.fam_ex h.2.2;exact#[w,k,s,f.sh a b]
 |.mir p,h=>by
  obtain⟨w,k,s,f⟩:=Pat.fam_ex (p:=p) h;exact#[w,k,_,f.mir]
 |.tur p,h=>by
  obtain⟨w,k,s,f⟩:=Pat.fam_ex (p:=p) h;obtain⟨w',k',s',f',_⟩:=jW (s:=s) f.f.w0 f.f.h0;exact#[w',k',s',f.tur f']
 |.hue a b p,h=>by
  obtain⟨w,k,s,f⟩:=Pat.fam_ex h.2.2;exact#[w,k,s,f.hue a b]
def Pat.Fits(p:Pat):Prop:=∃w h s,p.Fam w h s/\w*h<=720
def Pat.fits_mot(ha:B12 a)(hb:B12 b)(hc:B12 c)(hd:B12 d)(hn:¬a*d=b*c):(Pat.mot L a b c d).Fits:=by
 obtain⟨w,h,s,k,f⟩:=sf (L:=L) hn;refine#[w,h,s,f,?_];have kc:=k.cells;unfold B12 at*;have m1:=bB (a:=a) (d:=d) (A:=12) (B:=12) Ig Ig;have m2:=bB (a:=b) (d:=c) (A:=12) (B:=12) Ig Ig;lia
def Pat.Fits.sh(a b:Int)(k:p.Fits):(Pat.sh a b p).Fits:=by
 obtain⟨w,h,s,f,q⟩:=k;exact#[w,h,s,f.sh a b,q]
def Pat.Fits.hue(a b:Int)(k:p.Fits):(Pat.hue a b p).Fits:=by
 obtain⟨w,h,s,f,q⟩:=k;exact#[w,h,s,f.hue a b,q]
def Pat.Fits.mir(k:p.Fits):(Pat.mir p).Fits:=by
 obtain⟨w,h,s,f,q⟩:=k;exact#[w,h,_,f.mir,q]
def Pat.Fits.tur(k:p.Fits):(Pat.tur p).Fits:=by
 obtain⟨w,h,s,f,q⟩:=k;obtain⟨w',k',s',f',e⟩:=jW (s:=s) f.f.w0 f.f.h0;exact#[w',k',s',f.tur f',Ig]
def AG(hL:Rows L)(ha:B12 a)(hb:B12 b)(hc:B12 c)(hd:B12 d):(cP L a b c d).length<=100:=by
 have la:=bv ha;have lb:=bv hb;have lc:=bv hc;have ld:=bv hd;have l1:(";":E_).length=1:=rfl;have l2:(",":E_).length=1:=rfl;have l3:("[":E_).length=1:=rfl;have l4:("]":E_).length=1:=rfl;have ls:=rO hL;have lj:=StrLaws.join_length_le "/" L;have lg:(Txt.join "/" L).length<=72:=by
  have e:Txt.join "/" L=Str.join "/" L:=StrLaws.glued_eq_join _ _;rw[e];exact Eo lj ls
 unfold cP
 repeat rw[aC]
 lia
def Pat.text_len:∀{p:Pat},p.Wf->p.text.length+10<=110*2^p.depth
 |.mot L a b c d,h=>by
  have:=AG h.1 h.2.1 h.2.2.1 h.2.2.2.1 h.2.2.2.2.1;show(cP L a b c d).length+10<=110*2^0;lia
 |.over p q,h=>by
  have h1:=Pat.text_len h.1;have h2:=Pat.text_len h.2;have m1:2^p.depth<=2^(max p.depth q.depth):=Fy Ik (G8 _ _);have m2:2^q.depth<=2^(max p.depth q.depth):=Fy Ik (G9 _ _);have l1:("(":E_).length=1:=rfl;have l2:("|":E_).length=1:=rfl;have l3:(")":E_).length=1:=rfl;rw[Pat.text,Pat.depth,Ha]
  repeat rw[aC]
  lia
 |.sh a b p,h=>by
  have h1:=Pat.text_len h.2.2;have la:=bv h.1;have lb:=bv h.2.1;have l1:("s":E_).length=1:=rfl;have l2:(",":E_).length=1:=rfl;have l3:(":":E_).length=1:=rfl;have:0<2^p.depth:=Gc Ik;rw[Pat.text,Pat.depth,Fd]
  repeat rw[aC]
  lia
 |.mir p,h=>by
  have h1:=Pat.text_len (p:=p) h;have l1:("m":E_).length=1:=rfl;have:0<2^p.depth:=Gc Ik;rw[Pat.text,Pat.depth,Fd,aC];lia
 |.tur p,h=>by
  have h1:=Pat.text_len (p:=p) h;have l1:("t":E_).length=1:=rfl;have:0<2^p.depth:=Gc Ik;rw[Pat.text,Pat.depth,Fd,aC];lia
 |.hue f g p,h=>by
  have h1:=Pat.text_len h.2.2;have la:=eF h.1;have lb:=eF h.2.1;have l1:("h":E_).length=1:=rfl;have:0<2^p.depth:=Gc Ik;rw[Pat.text,Pat.depth,Fd]
  repeat rw[aC]
  lia
def Pat.leaves_pos:∀p:Pat,0<p.leaves.length
 |.mot ..=>Nat.zero_lt_one
 |.over p q=>by rw[Pat.leaves,EG];have:=p.leaves_pos;lia
 |.sh _ _ p=>by rw[Pat.leaves,En];exact p.leaves_pos
 |.mir p=>by rw[Pat.leaves,En];exact p.leaves_pos
 |.tur p=>by rw[Pat.leaves,En];exact p.leaves_pos
 |.hue _ _ p=>by rw[Pat.leaves,En];exact p.leaves_pos
def Pat.text_short(h:p.Wf)(hd:p.depth<=5):p.text.length<=3510:=by
 have h1:=Pat.text_len h;have h2:2^p.depth<=2^5:=Fy Ik hd;lia
structure Pat.Ok(p:Pat):Prop where
 wf:p.Wf
 deep:p.depth<=5
 fits:p.Fits
def Wraps.of{H:Prop}(h:p.Ok)(hR:∀q:Pat,q.Ok->R q.D):Wraps p H R:=by
 refine#[λ_=>hR p h,λhd=>#[hR _ #[h.wf,?_,h.fits.mir],hR _ #[h.wf,?_,h.fits.tur],λa b ha hb=>hR _ #[#[ha,hb,h.wf],?_,h.fits.sh a b],λ_ f g hf hg=>hR _ #[#[hf,hg,h.wf],?_,h.fits.hue f g]]]<;>(simp only[Pat.depth];lia)
def AH:SpD:=λds R=>∃p q:Pat,ds=[p.D,q.D]/\p.Wf/\q.Wf/\p.depth<=5/\q.depth<=5/\R p.D/\(p.depth<5->q.depth<5->(Pat.over p q).Fits->R (Pat.over p q).D)
def AI:SpD:=λds R=>∃(ns:List Int) (k:Int),ds=[.rol (ns.map D.int),.int k]/\0<=k/\∀p:Pat,p.Ok->R p.D
end My
end
section
open PySem PySem.Spec PyProof.Rows L2
namespace My
def AJ:TMS:=λ_ _ _=>False
def gz{X:Cx}[Jm]{st:P0}:MSt X st AJ:=⟨ps_never.anti λE s H q=>by
 obtain⟨F0,F,z,M,k,rs,ED,h,e⟩:=q;exact h.elim⟩
end My
end
section
namespace My
open PySem PySem.Spec PyProof.Rows L2
abbrev isSg(c:Nat):Bool:=c==46||(49<=c&&c<=54)
def numL(a:Int):List Nat:=cs (toString a:String)
variable{a:Int}
def si(h:B12 a){P:Int->Prop}(hP:∀k:Fin 25,P (((k.val:Nat):Int)-12)):P a:=by
 unfold B12 at h;have:=hP #[(a+12).toNat,Ig];have e:(((a+12).toNat:Nat):Int)-12=a:=Ig
 rw[e]at this;exact this
def isNumL(l:List Nat):Prop:=(∃c,(48<=c/\c<=57)/\l=[c])\/(∃c,(48<=c/\c<=50)/\l=[49,c])\/(∃c,(49<=c/\c<=57)/\l=[45,c])\/∃c,(48<=c/\c<=50)/\l=[45,49,c]
def numL_is(h:B12 a):isNumL (numL a):=by
 have key:∀k:Fin 25,(numL (((k.val:Nat):Int)-12))∈([[45,49,50],[45,49,49],[45,49,48],[45,57],[45,56],[45,55],[45,54],[45,53],[45,52],[45,51],[45,50],[45,49],[48],[49],[50],[51],[52],[53],[54],[55],[56],[57],[49,48],[49,49],[49,50]]:List (List Nat)):=Ip
 have h1:=si (P:=λa=>numL a∈([[45,49,50],[45,49,49],[45,49,48],[45,57],[45,56],[45,55],[45,54],[45,53],[45,52],[45,51],[45,50],[45,49],[48],[49],[50],[51],[52],[53],[54],[55],[56],[57],[49,48],[49,49],[49,50]]:List (List Nat))) h key;revert h1;generalize numL a=l;intro h1;unfold isNumL;simp only[Ei,FM,or_false]at h1;rcases h1 with e|e|e|e|e|e|e|e|e|e|e|e|e|e|e|e|e|e|e|e|e|e|e|e|e<;>subst e
 all_goals first
  |exact .inl ⟨_,Ik,rfl⟩
  |exact .inr (.inl ⟨_,Ik,rfl⟩)
  |exact .inr (.inr (.inl ⟨_,Ik,rfl⟩))
  |exact .inr (.inr (.inr ⟨_,Ik,rfl⟩))
def endS(c:Nat):Prop:=c=44\/c=59\/c=58\/c=93
def rowsL:List (List Nat)->List Nat
 |[]=>[]
 |[x]=>x
 |x::y::r=>x++47::rowsL (y::r)
variable{c:Nat}
def AK(h:bb c):isSg c=true:=by
 unfold bb at h;unfold isSg;rcases h with h|h
 .subst h;rfl
 .have:(decide (49<=c)&&decide (c<=54))=true:=by simp[h]
  rw[this,FZ]
def motL(L:List (List Nat))(a b c d:Int):List Nat:=91::(rowsL L++59::(numL a++44::(numL b++59::(numL c++44::(numL d++[93])))))
def Pat.tl:Pat->List Nat
 |.mot L a b c d=>motL (L.map cs) a b c d
 |.over p q=>40::(p.tl++124::(q.tl++[41]))
 |.sh a b p=>115::(numL a++44::(numL b++58::p.tl))
 |.mir p=>109::p.tl
 |.tur p=>116::p.tl
 |.hue f g p=>104::(numL f++(numL g++p.tl))
def sj:∀L:List E_,cs (Str.join "/" L)=rowsL (L.map cs)
 |[]=>rfl
 |[x]=>rfl
 |x::y::L=>by
  show cs (x++"/"++Str.join "/" (y::L))=cs x++47::rowsL ((y::L).map cs);rw[bC,bC,sj (y::L),Fe];rfl
def cS:∀p:Pat,cs p.text=p.tl
 |.mot L a b c d=>by
  show cs (cP L a b c d)=motL (L.map cs) a b c d;unfold cP motL;have e:Txt.join "/" L=Str.join "/" L:=StrLaws.glued_eq_join _ _;rw[e]
  repeat rw[bC]
  rw[sj];simp only[Fe];rfl
 |.over p q=>by
  rw[Pat.text,Pat.tl]
  repeat rw[bC]
  rw[cS p,cS q];simp only[Fe];rfl
 |.sh a b p=>by
  rw[Pat.text,Pat.tl]
  repeat rw[bC]
  rw[cS p];simp only[Fe];rfl
 |.mir p=>by
  rw[Pat.text,Pat.tl,bC,cS p];rfl
 |.tur p=>by
  rw[Pat.text,Pat.tl,bC,cS p];rfl
 |.hue f g p=>by
  rw[Pat.text,Pat.tl]
  repeat rw[bC]
  rw[cS p];simp only[Fe];rfl
def hueL{f:Int}(h:1<=f/\f<=6):numL f=[(48+f).toNat]:=by
 have key:∀k:Fin 6,numL (((k.val:Nat):Int)+1)=[49+k.val]:=Ip
 have:=key #[(f-1).toNat,Ig];have e:(((f-1).toNat:Nat):Int)+1=f:=Ig
 rw[e]at this;rw[this];congr 1;show 49+(f-1).toNat=(48+f).toNat;lia
def rowsT(L:List (List Nat)):List Nat:=L.flatMap λy=>47::y
def sk:∀(x:List Nat) (L:List (List Nat)),rowsL (x::L)=x++rowsT L
 |x,[]=>by simp[rowsL,rowsT]
 |x,y::L=>by
  rw[rowsL,sk y L];simp[rowsT]
def gA{x y:E_}(h:cs x=cs y):x=y:=by
 obtain⟨a⟩:=x;obtain⟨b⟩:=y;have:a=b:=Hg.mp h;rw[this]
variable{x:Int}
def numS(h:B12 x):numL x=[48]\/∃pre c y,(pre=[]\/pre=[45])/\(49<=c/\c<=57)/\numL x=pre++c::y/\(y=[]\/(c=49/\∃d,(48<=d/\d<=50)/\y=[d])):=by
 rcases numL_is h with⟨c,hc,e⟩|⟨c,hc,e⟩|⟨c,hc,e⟩|⟨c,hc,e⟩
 .by_cases z:c=48
  .exact .inl (by rw[e,z])
  .exact .inr #[[],c,[],.inl rfl,Ig,e,.inl rfl]
 .exact .inr #[[],49,[c],.inl rfl,Ik,e,.inr #[rfl,c,hc,rfl]]
 .exact .inr #[[45],c,[],.inr rfl,hc,e,.inl rfl]
 .exact .inr #[[45],49,[c],.inr rfl,Ik,e,.inr #[rfl,c,hc,rfl]]
variable{A B:Prop}
def ifT{c:Prop}[Decidable c](h:c)(a:A):if c then A else B:=by rw[if_pos h];exact a
def ifdT{p:Prop}[Decidable p](h:p)(a:A):if decide p=true then A else B:=by rw[if_pos (decide_eq_true h)];exact a
def ifdF{p:Prop}[Decidable p](h:¬p)(b:B):if decide p=true then A else B:=by rw[if_neg (by simpa using h)];exact b
def rdF(t:E_)(k:Nat):List (E_×D):=[("text",.str t),("place",.int k)]
def RdM(a:KM)(t:E_)(k:Nat):MS:=[(a,.ins "Reading" (rdF t k))]
variable{o:MO}
def dG{a:KM}:mget [(a,o)] a=be o:=by unfold mget;rw[if_pos rfl]
def gB{a:KM}{o':MO}:mput [(a,o)] a o'=[(a,o')]:=by unfold mput;rw[if_pos rfl]
variable{t:E_}{k:Nat}
def aS{a:KM}:mget (RdM a t k) a=be (.ins "Reading" (rdF t k)):=dG
def jX:(rdF t k).lookup ("text":E_)=be (.str t):=rfl
def eK:(rdF t k).lookup ("place":E_)=be (.int k):=by
 unfold rdF;rw[Ez,show(("place":E_)==("text":E_))=false by decide+kernel];rfl
def AL:putD ("place":E_) (.int ((k:Int)+1)) (rdF t k)=rdF t (k+1):=by
 unfold rdF putD;rw[if_neg Ip];unfold putD;rw[if_pos rfl];rfl
def cT:(rdF t k).lookup ("may_take":E_)=none:=by
 unfold rdF;rw[Ez,show(("may_take":E_)==("text":E_))=false by decide+kernel,Ez,show(("may_take":E_)==("place":E_))=false by decide+kernel];rfl
def bW:(rdF t k).lookup ("take":E_)=none:=by
 unfold rdF;rw[Ez,show(("take":E_)==("text":E_))=false by decide+kernel,Ez,show(("take":E_)==("place":E_))=false by decide+kernel];rfl
structure At(t:Str)(k:Nat)(l:List Nat):Prop where
 eq:(cs t).drop k=l
 le:k<=t.length
 sz:t.length<=100000
def At.nil(h:At t k []):k=t.length:=by
 have h1:=congrArg Gg h.eq;rw[FF,bq]at h1;have:=h.le;simp at h1;lia
variable{l:List Nat}
def At.lt(h:At t k (c::l)):k<t.length:=by
 have h1:=congrArg Gg h.eq;rw[FF,bq]at h1;simp at h1;lia
def At.get(h:At t k (c::l)):(cs t)[k]?=be c:=by
 have h1:=congrArg (·[0]?) h.eq;simpa using h1
def At.next(h:At t k (c::l)):At t (k+1) l:=by
 refine#[?_,h.lt,h.sz];have h1:=congrArg (Gm 1) h.eq;rw[List.drop_drop]at h1;simpa using h1
def At.app{t:E_}:∀{x l:List Nat} {k:Nat},At t k (x++l)->At t (k+x.length) l
 |[],_,_,h=>h
 |c::x,l,k,h=>by
  have h1:At t (k+1+x.length) l:=At.app (At.next h);have e:k+1+x.length=k+(c::x).length:=by rw[Ex];lia
  rw[e]at h1;exact h1
variable{al:E_}
def so:(!(!(Builtin.Str.occurrences al #[[c].toArray] 0 al.length 1).isEmpty))=!decide (c∈cs al):=by
 rw[StrLaws.found_one]
def mayS(al:E_):List Nat->E_|c::_=>if c∈cs al then#[[c].toArray]else ""|[]=>""
def mayN(al:E_):List Nat->Nat|c::_=>if c∈cs al then 1 else 0|[]=>0
def eL(h:c∈cs al):mayS al (c::l)=#[[c].toArray]:=if_pos h
def eM(h:c∈cs al):mayN al (c::l)=1:=if_pos h
def dH(h:c∉cs al):mayS al (c::l)="":=if_neg h
def dI(h:c∉cs al):mayN al (c::l)=0:=if_neg h
def AM:SiD:=λds R=>∃t:E_,ds=[.str t]/\R (rdF t 0)
def AN:SpM:=λds M R RX=>∃(a:KM) (t:E_) (k:Nat) (l:List Nat) (al:E_),ds=[.ptr a,.str al]/\M=RdM a t k/\At t k l/\R (.str (mayS al l)) (RdM a t (k+mayN al l))
def AO:SpM:=λds M R _=>∃(a:KM) (t:E_) (k c:Nat) (l:List Nat) (al:E_),ds=[.ptr a,.str al]/\M=RdM a t k/\At t k (c::l)/\c∈cs al/\R (.str #[[c].toArray]) (RdM a t (k+1))
def AQ(h:B12 x):PySem.intText? #[(numL x).toArray]=be x:=
 si (P:=λx=>PySem.intText? #[(numL x).toArray]=be x) h Ip
def fB(x y:List Nat):((#[x.toArray]:E_)++#[y.toArray]:E_)=#[(x++y).toArray]:=by
 apply gA;rw[bC]
def digits19:c∈cs "123456789"↔49<=c/\c<=57:=by
 refine#[λh=>?_,λ⟨h1,h2⟩=>?_]
 .exact(show ∀c∈cs "123456789",49<=c/\c<=57 by decide+kernel) c h
 .obtain⟨k,rfl⟩:=Nat.le.dest h1;exact(show ∀k,k<9->49+k∈cs "123456789" by decide+kernel) k Ig
def digits02:c∈cs "012"↔48<=c/\c<=50:=by
 have e:cs "012"=[48,49,50]:=rfl;rw[e];simp;lia
def AR(w:List Nat)(c:Nat):Txt.endswith #[(w++[c]).toArray] "1"=decide (c=49):=by
 unfold Txt.endswith;have e1:("1":E_).length=1:=rfl;have e2:(#[(w++[c]).toArray]:E_).length=w.length+1:=by simp[Str.length]
 rw[e1,e2];have e3:decide (0+1<=w.length+1)=true:=Iq
 rw[e3,Bool.true_and,Hf];unfold Builtin.Str.subAt;have e4:(#[(w++[c]).toArray]:E_).cps.extract w.length (w.length+("1":E_).length)=[c].toArray:=by
  apply Hg.mp;simp[Array.toList_extract,e1]
 rw[e4];have e5:("1":E_).cps=[49].toArray:=rfl;rw[e5];by_cases h:c=49
 .subst h;rfl
 .simp[h]
def AS:SpM:=λds M R _=>∃(a:KM) (t:E_) (k:Nat) (x:Int) (e:Nat) (l:List Nat),ds=[.ptr a]/\M=RdM a t k/\B12 x/\endS e/\At t k (numL x++e::l)/\R (.int x) (RdM a t (k+(numL x).length))
def AT:SpM:=λds M R _=>∃(a:KM) (t:E_) (k:Nat) (x y:Int) (e:Nat) (l:List Nat),ds=[.ptr a]/\M=RdM a t k/\B12 x/\B12 y/\endS e/\At t k (numL x++44::(numL y++e::l))/\R (.tup [.int x,.int y]) (RdM a t (k+(numL x).length+1+(numL y).length))
def signs_is:c∈cs ".123456"↔isSg c=true:=by
 have e:cs ".123456"=[46,49,50,51,52,53,54]:=rfl;rw[e];simp;lia
def eN(x:List Nat):(#[x.toArray]:E_).length=x.length:=by simp[Str.length]
def sq(h:isSg c=false):c∉cs ".123456":=λz=>by rw[signs_is.mp z]at h;cases h
def S_line_from:SpM:=λds M R _=>∃(a:KM) (t:E_) (k n m:Nat) (x l:List Nat),ds=[.ptr a,.int n,.int m]/\M=RdM a t k/\At t k (x++l)/\(∀c∈x,bb c)/\n<=x.length/\x.length<=m/\m<=8/\(x.length=m\/∃c l',l=c::l'/\isSg c=false)/\R (.str #[x.toArray]) (RdM a t (k+x.length))
def AU{p a:KM}(h:p≠a):mget ((p,o)::RdM a t k) a=be (.ins "Reading" (rdF t k)):=by
 unfold mget;rw[if_neg h];exact dG
variable{M:MS}
def cE{p:KM}:mget ((p,o)::M) p=be o:=by unfold mget;rw[if_pos rfl]
def sr{p:KM}{o':MO}:mput ((p,o)::M) p o'=(p,o')::M:=by unfold mput;rw[if_pos rfl]
def jY{p:KM}:mdel ((p,o)::M) p=M:=by unfold mdel;rw[if_pos rfl]
structure RowsL(L:List (List Nat))(w:Nat):Prop where
 many:1<=L.length/\L.length<=8
 w1:1<=w
 w8:w<=8
 each:∀x∈L,x.length=w/\∀c∈x,bb c
def lstD(L:List (List Nat)):List D:=L.map λx=>D.str #[x.toArray]
def AV:SpM:=λds M R _=>∃(a:KM) (t:E_) (k:Nat) (L:List (List Nat)) (w:Nat) (l:List Nat),ds=[.ptr a]/\M=RdM a t k/\RowsL L w/\At t k (rowsL L++59::l)/\R (.lst (lstD L)) (RdM a t (k+(rowsL L).length))
def hmX(w h s:Int)(i j:Int):Int:=(i-j/h*s)%w
def hRow(w h s:Int)(j:Nat):Nat->List Nat->List ((Int×Int)×Int)->List ((Int×Int)×Int)
 |_,[],kv=>kv
 |i,c::r,kv=>hRow w h s j (i+1) r (if c=46 then kv else sdD kv (hmX w h s i j) ((j:Int)%h) ((c:Int)-48))
def hAll(w h s:Int):Nat->List (List Nat)->List ((Int×Int)×Int)->List ((Int×Int)×Int)
 |_,[],kv=>kv
 |j,x::r,kv=>hAll w h s (j+1) r (hRow w h s j 0 x kv)
def ss(kv:List ((Int×Int)×Int))(x y v:Int):(sdD kv x y v).length<=kv.length+1:=by
 unfold sdD;split
 .lia
 .rw[EG];simp
def AW(h:49<=c/\c<=54):∃i b7,Builtin.Str.occurrences ".123456" #[[c].toArray] 0 (".123456":E_).length 1=i::b7/\((i:Nat):Int)=(c:Int)-48:=by
 rcases(Ig:c=49\/c=50\/c=51\/c=52\/c=53\/c=54)with e|e|e|e|e|e<;>subst e
 .exact#[1,[],Ip,Ik]
 .exact#[2,[],Ip,Ik]
 .exact#[3,[],Ip,Ik]
 .exact#[4,[],Ip,Ik]
 .exact#[5,[],Ip,Ik]
 .exact#[6,[],Ip,Ik]
def AX{x:List Nat}(h:∀c∈x,bb c):(#[x.toArray]:E_).cps.all (·<128)=true:=by
 rw[<-GU,Fc];intro c hc;have:=h c hc;unfold bb at this;simp;lia
def AY{L:List (List Nat)}{j:Nat}{d:D}(h:(lstD L)[j]?=be d):∃x,L[j]?=be x/\d=.str #[x.toArray]:=by
 unfold lstD at h;rw[Et]at h;cases e:L[j]? with
 |none=>rw[e]at h;cases h
 |some x=>rw[e]at h;cases h;exact#[x,rfl,rfl]
variable{i:Nat}
def AZ{x:List Nat}{d:D}(h:(bP #[x.toArray])[i]?=be d):∃c,x[i]?=be c/\d=.str #[[c].toArray]:=by
 unfold bP at h;rw[Et]at h;cases e:x[i]? with
 |none=>simp[e]at h
 |some c=>simp[e]at h;exact#[c,rfl,h.symm]
def su{α:Type}{l:List α}{x:α}(h:l[i]?=be x):l.drop i=x::l.drop (i+1):=by
 have hi:i<l.length:=(Ev.mp h).1;rw[Fl hi];congr 1;rw[EA hi]at h;exact Option.some.inj h
def A1:SpM:=λds M R RX=>∃(L:List (List Nat)) (wd:Nat) (w h s:Int),ds=[.lst (lstD L),.tup [.int w,.int h,.int s]]/\RowsL L wd/\0<w/\0<h/\h<1073741824/\0<=s/\s<1073741824/\R (.dti (hAll w h s 0 L [])) M
def moF(k:Nat)(sh:D)(hu:List ((Int×Int)×Int)):List (E_×D):=[("place",.int k),("shifts",sh),("hues",.dti hu)]
def A2:SiD:=λds R=>∃(k:Nat) (L:List (List Nat)) (wd:Nat) (a b c d:Int),ds=[.int k,.lst (lstD L),.tup [.int a,.int b],.tup [.int c,.int d]]/\RowsL L wd/\B12 a/\B12 b/\B12 c/\B12 d/\¬a*d=b*c/\
 ∀w h s,FamOf a b c d w h s->R (moF k (.tup [.int w,.int h,.int s]) (hAll w h s 0 L []))
variable{v:My.D}
def A3:putD ("place":E_) v []=([("place",v)]:List (E_×D)):=rfl
variable{u:My.D}
def A4:putD ("shifts":E_) v [("place",u)]=([("place",u),("shifts",v)]:List (E_×D)):=by
 unfold putD;rw[if_neg Ip];rfl
def A5{t:D}:putD ("hues":E_) v [("place",t),("shifts",u)]=([("place",t),("shifts",u),("hues",v)]:List (E_×D)):=by
 unfold putD;rw[if_neg Ip];unfold putD;rw[if_neg Ip];rfl
def sy:([("place",u),("shifts",v)]:List (E_×D)).lookup ("shifts":E_)=be v:=by
 rw[Ez,show(("shifts":E_)==("place":E_))=false by decide+kernel];rfl
def A6:SiD:=λds R=>∃(x y:E_) (fs gs:List (E_×D)),ds=[.obj x fs,.obj y gs]/\R [("above",.obj x fs),("below",.obj y gs)]
def A7:SiD:=λds R=>∃(x:E_) (fs:List (E_×D)) (a b:Int),ds=[.obj x fs,.int a,.int b]/\R [("form",.obj x fs),("x",.int a),("y",.int b)]
def A8:SiD:=λds R=>∃(x:E_) (fs:List (E_×D)),ds=[.obj x fs]/\R [("form",.obj x fs)]
def A9:SiD:=λds R=>∃(x:E_) (fs:List (E_×D)),ds=[.obj x fs]/\R [("form",.obj x fs)]
def Ba:SiD:=λds R=>∃(x:E_) (fs:List (E_×D)) (a b:Int),ds=[.obj x fs,.int a,.int b]/\R [("form",.obj x fs),("old",.int a),("new",.int b)]
def FormOf:Pat->D->Prop
 |.mot L a b c d,v=>∃(k:Nat) (w h s:Int),v=.obj "Motif" (moF k (.tup [.int w,.int h,.int s]) (hAll w h s 0 (L.map cs) []))/\FamOf a b c d w h s
 |.over p q,v=>∃u u',v=.obj "Over" [("above",u),("below",u')]/\FormOf p u/\FormOf q u'
 |.sh a b p,v=>∃u,v=.obj "Shifted" [("form",u),("x",.int a),("y",.int b)]/\FormOf p u
 |.mir p,v=>∃u,v=.obj "Mirror" [("form",u)]/\FormOf p u
 |.tur p,v=>∃u,v=.obj "Turn" [("form",u)]/\FormOf p u
 |.hue f g p,v=>∃u,v=.obj "Rehue" [("form",u),("old",.int f),("new",.int g)]/\FormOf p u
def Pat.cls:Pat->E_
 |.mot ..=>"Motif"|.over ..=>"Over"|.sh ..=>"Shifted"|.mir ..=>"Mirror"|.tur ..=>"Turn"|.hue ..=>"Rehue"
variable{f g:E_}{r:List (E_×My.D)}
def bF(h:(f==g)=false)(hr:r.lookup f=p7):(((g,v)::r:List (E_×D))).lookup f=none:=by
 rw[Ez,h];exact hr
structure ObjM(p:Pat)(fs:List (Str×D)):Prop where
 nl:noLF fs=true
 fam:fs.lookup ("family":E_)=p7
 shw:fs.lookup ("shows":E_)=p7
variable{p:Pat}
def FormOf.objm:∀{v:D},FormOf p v->∃fs,v=.obj p.cls fs/\ObjM p fs:=by
 have n1 {g:E_} {u:D} {f:E_} (h:(f==g)=false):([(g,u)]:List (E_×D)).lookup f=none:=bF h rfl;have nn {fs:List (E_×D)} {x:E_} (h:noLF fs=true):noL (.obj x fs)=true:=by simp[noL,h]
 induction p with
 |mot L a b c d=>
  rintro _⟨k,w,h,s,rfl,_⟩;exact#[_,rfl,by simp[noL,noLF,noLs,moF],bF Ip (bF Ip (n1 Ip)),bF Ip (bF Ip (n1 Ip))]
 |over p q i j=>
  rintro _⟨u,u',rfl,h1,h2⟩;obtain⟨fs,rfl,o1⟩:=i h1;obtain⟨gs,rfl,o2⟩:=j h2;exact#[_,rfl,by simp[noLF,nn o1.nl,nn o2.nl],bF Ip (n1 Ip),bF Ip (n1 Ip)]
 |sh a b p i=>
  rintro _⟨u,rfl,h1⟩;obtain⟨fs,rfl,o1⟩:=i h1;exact#[_,rfl,by simp[noL,noLF,o1.nl],bF Ip (bF Ip (n1 Ip)),bF Ip (bF Ip (n1 Ip))]
 |mir p i=>
  rintro _⟨u,rfl,h1⟩;obtain⟨fs,rfl,o1⟩:=i h1;exact#[_,rfl,by simp[noLF,nn o1.nl],n1 Ip,n1 Ip]
 |tur p i=>
  rintro _⟨u,rfl,h1⟩;obtain⟨fs,rfl,o1⟩:=i h1;exact#[_,rfl,by simp[noLF,nn o1.nl],n1 Ip,n1 Ip]
 |hue f g p i=>
  rintro _⟨u,rfl,h1⟩;obtain⟨fs,rfl,o1⟩:=i h1;exact#[_,rfl,by simp[noL,noLF,o1.nl],bF Ip (bF Ip (n1 Ip)),bF Ip (bF Ip (n1 Ip))]
variable{L:List E_}
def Bb(h:Rows L):∃w,RowsL (L.map cs) w:=by
 obtain⟨h1,w,h2,h3⟩:=h;refine#[w,by rw[En];exact h1,h2.1,h2.2,λx hx=>?_];obtain⟨l,hl,rfl⟩:=EN.mp hx;rw[bq];exact h3 l hl
def sA{f:Int}(h:1<=f/\f<=6):(48+f).toNat∈cs "123456":=by
 have e:cs "123456"=[49,50,51,52,53,54]:=rfl;rw[e];simp;lia
def Bc:SpM:=λds M R _=>∃(g:KM) (t:E_) (k:Nat) (L:List E_) (a b c d:Int) (l:List Nat),ds=[.ptr g]/\M=RdM g t k/\At t k (motL (L.map cs) a b c d++l)/\(Pat.mot L a b c d).Wf/\∀v,FormOf (.mot L a b c d) v->R v (RdM g t (k+(motL (L.map cs) a b c d).length))
def cU(j:Nat):SpM:=λds M R _=>∃(a:KM) (t:E_) (k:Nat) (p:Pat) (l:List Nat) (d:Nat),ds=[.ptr a,.int d]/\M=RdM a t k/\At t k (p.tl++l)/\d+j=6/\1<=j/\p.Wf/\p.depth+d<=5/\∀v,FormOf p v->R v (RdM a t (k+p.tl.length))
variable{ds:List My.D}{R:My.D->MS->Prop}{RX:XDM}
def Bd:¬cU 0 ds M R RX:=by
 rintro⟨_,_,_,_,_,_,_,_,_,_,h,_⟩;exact absurd h Ik
def sB(j:Nat):SpM:=λds M R _=>∃(a:KM) (t:E_) (k:Nat) (p q:Pat) (l:List Nat) (d:Nat),ds=[.ptr a,.int d]/\M=RdM a t k/\At t k (p.tl++124::(q.tl++41::l))/\d+j=6/\1<=j/\p.Wf/\q.Wf/\p.depth+d<=5/\q.depth+d<=5/\∀u u',FormOf p u->FormOf q u'->R (.obj "Over" [("above",u),("below",u')]) (RdM a t (k+p.tl.length+1+q.tl.length+1))
def sC(j:Nat):SpM:=λds M R _=>∃(a:KM) (t:E_) (k:Nat) (x y:Int) (p:Pat) (l:List Nat) (d:Nat),ds=[.ptr a,.int d]/\M=RdM a t k/\At t k (numL x++44::(numL y++58::(p.tl++l)))/\d+j=6/\1<=j/\B12 x/\B12 y/\p.Wf/\p.depth+d<=5/\∀u,FormOf p u->R (.obj "Shifted" [("form",u),("x",.int x),("y",.int y)]) (RdM a t (k+(numL x).length+1+(numL y).length+1+p.tl.length))
def sE(j:Nat):SpM:=λds M R _=>∃(a:KM) (t:E_) (k:Nat) (f g:Int) (p:Pat) (l:List Nat) (d:Nat),ds=[.ptr a,.int d]/\M=RdM a t k/\At t k ((48+f).toNat::(48+g).toNat::(p.tl++l))/\d+j=6/\1<=j/\(1<=f/\f<=6)/\(1<=g/\g<=6)/\p.Wf/\p.depth+d<=5/\∀u,FormOf p u->R (.obj "Rehue" [("form",u),("old",.int f),("new",.int g)]) (RdM a t (k+2+p.tl.length))
def Pat.cls_mem(p:Pat):p.cls∈(["Motif","Over","Shifted","Mirror","Turn","Rehue"]:List E_):=by
 cases p<;>simp[Pat.cls]
variable{hu:List ((Int×Int)×Int)}
def mo_shifts{sh:D}:(moF k sh hu).lookup ("shifts":E_)=be sh:=by
 unfold moF;rw[Ez,show(("shifts":E_)==("place":E_))=false by decide+kernel];rfl
def Be{sh:D}:(moF k sh hu).lookup ("hues":E_)=be (.dti hu):=by
 unfold moF;rw[Ez,show(("hues":E_)==("place":E_))=false by decide+kernel,Ez,show(("hues":E_)==("shifts":E_))=false by decide+kernel];rfl
def eO(h:(g==f)=false):(((f,u)::(g,v)::r:List (E_×D))).lookup g=be v:=by
 rw[Ez,h,Ez,beq_self_eq_true]
def jZ{e:E_}{t:D}(h1:(g==e)=false)(h2:(g==f)=false):(((e,t)::(f,u)::(g,v)::r:List (E_×D))).lookup g=be v:=by
 rw[Ez,h1];exact eO h2
variable{w s:Int}
def Pat.Fits.small(h:p.Fits){k:Int}(f:p.Fam w k s):0<w/\w<=720/\0<k/\k<=720/\0<=s/\s<w:=by
 obtain⟨w',k',s',f',hb⟩:=h;obtain⟨rfl,rfl,rfl⟩:=f.uniq f';obtain⟨h1,h2⟩:=cO f.f.w0 f.f.h0;exact#[f.f.w0,Ig,f.f.h0,Ig,f.f.s0,f.f.sw]
def Pat.Fits.over_parts{q:Pat}(hp:p.Wf)(hq:q.Wf)(h:(Pat.over p q).Fits):p.Fits/\q.Fits:=by
 obtain⟨w,k,s,f,hb⟩:=h;obtain⟨w1,k1,s1,f1⟩:=Pat.fam_ex hp;obtain⟨w2,k2,s2,f2⟩:=Pat.fam_ex hq;have l1:=(InF.le f1.f.w0 f1.f.h0 f.f.w0 f.f.h0 (λx y z=>(f1.lat x y).mpr ((f.lat x y).mp z).1)).1;have l2:=(InF.le f2.f.w0 f2.f.h0 f.f.w0 f.f.h0 (λx y z=>(f2.lat x y).mpr ((f.lat x y).mp z).2)).1;exact#[#[w1,k1,s1,f1,Ig],#[w2,k2,s2,f2,Ig]]
variable{b:Int}
def Pat.Fits.of_sh(h:(Pat.sh a b p).Fits):p.Fits:=by
 obtain⟨w,k,s,f,hb⟩:=h;exact#[w,k,s,#[f.f,f.lat],hb]
def Pat.Fits.of_hue(h:(Pat.hue a b p).Fits):p.Fits:=by
 obtain⟨w,k,s,f,hb⟩:=h;exact#[w,k,s,#[f.f,f.lat],hb]
def Pat.Fits.of_mir(hp:p.Wf)(h:(Pat.mir p).Fits):p.Fits:=by
 obtain⟨w,k,s,f,hb⟩:=h;obtain⟨w1,k1,s1,f1⟩:=Pat.fam_ex hp;obtain⟨rfl,rfl,_⟩:=f.uniq f1.mir;exact#[_,_,_,f1,hb]
def Pat.Fits.of_tur(hp:p.Wf)(h:(Pat.tur p).Fits):p.Fits:=by
 obtain⟨w,k,s,f,hb⟩:=h;obtain⟨w1,k1,s1,f1⟩:=Pat.fam_ex hp;obtain⟨w',k',s',f',e⟩:=jW (s:=s1) f1.f.w0 f1.f.h0;obtain⟨rfl,rfl,_⟩:=f.uniq (f1.tur f');exact#[_,_,_,f1,Ig]
def bJ(j:Nat)(x:E_):SpX:=λds R _=>∃(p:Pat) (v:D),ds=[v]/\FormOf p v/\p.Wf/\p.depth<j/\p.cls=x/\p.Fits/\∀w h s,p.Fam w h s->R (.tup [.int w,.int h,.int s])
def eQ{x:E_}:¬ofX (bJ 0 x) ds M R RX:=by
 rintro⟨_,_,_,_,_,h,_⟩;exact absurd h (Gx _)
def lookD_app(x y v X Y:Int):∀kv:List ((Int×Int)×Int),lookD (kv++[((x,y),v)]) X Y=match lookD kv X Y with|some u=>be u|none=>if x=X/\y=Y then be v else p7
 |[]=>rfl
 |((a,b),h)::r=>by
  show lookD (((a,b),h)::(r++[((x,y),v)])) X Y=_;unfold lookD;by_cases e:a=X/\b=Y
  .rw[if_pos e,if_pos e]
  .rw[if_neg e,if_neg e];exact lookD_app x y v X Y r
def Bf(kv:List ((Int×Int)×Int))(x y v X Y:Int):lookD (sdD kv x y v) X Y=match lookD kv X Y with|some u=>be u|none=>if x=X/\y=Y then be v else none:=by
 unfold sdD;split
 .rename_i hs;cases e:lookD kv X Y with
  |some u=>rfl
  |none=>
   show p7=_;rw[if_neg];rintro⟨rfl,rfl⟩;rw[e]at hs;cases hs
 .exact lookD_app x y v X Y kv
def look_row(w h s:Int)(j:Nat)(X Y:Int):∀(x:List Nat) (i:Nat) (kv:List ((Int×Int)×Int)),lookD (hRow w h s j i x kv) X Y=match lookD kv X Y with|some u=>be u|none=>(scanRow (λi=>decide (hmX w h s i j=X/\(j:Int)%h=Y)) i x).map λc=>(c:Int)-48
 |[],i,kv=>by
  rw[hRow,scanRow];cases lookD kv X Y<;>rfl
 |c::r,i,kv=>by
  rw[hRow,look_row w h s j X Y r (i+1),scanRow];by_cases t_:c=46
  .rw[if_pos t_,if_neg (c:=c≠46/\_) (λz=>z.1 t_)]
  .rw[if_neg t_,Bf];cases lookD kv X Y with
   |some u=>rfl
   |none=>
    by_cases e:hmX w h s i j=X/\(j:Int)%h=Y
    .rw[if_pos (c:=c≠46/\_) #[t_,decide_eq_true e]];show(match (if hmX w h s i j=X/\(j:Int)%h=Y then be ((c:Int)-48)else p7)with|some u=>be u|none=>_)=_;rw[if_pos e];rfl
    .rw[if_neg (c:=c≠46/\_) (λz=>e (of_decide_eq_true z.2))];show(match (if hmX w h s i j=X/\(j:Int)%h=Y then be ((c:Int)-48)else p7)with|some u=>be u|none=>_)=_;rw[if_neg e]
def sF(w h s X Y:Int):∀(L:List E_) (j:Nat) (kv:List ((Int×Int)×Int)),lookD (hAll w h s j (L.map cs) kv) X Y=match lookD kv X Y with|some u=>be u|none=>(bD (λi j=>decide (hmX w h s i j=X/\j%h=Y)) j L).map λc=>(c:Int)-48
 |[],j,kv=>by
  rw[Fo,hAll,bD];cases lookD kv X Y<;>rfl
 |x::r,j,kv=>by
  rw[EJ,hAll,sF w h s X Y r (j+1),look_row,bD];cases lookD kv X Y with
  |some u=>rfl
  |none=>
   show(match (scanRow (λi=>decide (hmX w h s i j=X/\(j:Int)%h=Y)) 0 (cs x)).map (λc=>(c:Int)-48)with|some u=>be u|none=>_)=_;cases scanRow (λi=>decide (hmX w h s i j=X/\(j:Int)%h=Y)) 0 (cs x)<;>rfl
variable{h:Int}
def Bg{c d:Int}(F:FamOf a b c d w h s)(hn:¬a*d=b*c)(x y i j:Int):decide (hmX w h s i j=hmX w h s x y/\j%h=y%h)=onB a b c d (x-i) (y-j):=by
 have hw:=F.1;have hh:=F.2.1;have key:(hmX w h s i j=hmX w h s x y/\j%h=y%h)↔InF w h s (x-i) (y-j):=by
  unfold hmX;constructor
  .rintro⟨e1,e2⟩;have dy:=Fz y h;have dj:=Fz j h;have m1:=Fz (x-y/h*s) w;have m2:=Fz (i-j/h*s) w;refine#[(x-y/h*s)/w-(i-j/h*s)/w,y/h-j/h,?_,?_]
   .rw[Gy,Gy,EK ((x-y/h*s)/w) w,EK ((i-j/h*s)/w) w];lia
   .rw[Gy,EK (y/h) h,EK (j/h) h];lia
  .rintro⟨m,q,ex,ey⟩;have OC:y=j+q*h:=by lia
   have MN:x=i+(m*w+q*s):=Ig
   subst MN OC;rw[Hi,Hj _ _ Ig];refine#[?_,rfl];have e:i+(m*w+q*s)-(j/h+q)*s=i-j/h*s+m*w:=by rw[Gz];lia
   rw[e,Hi]
 unfold onB;congr 1;apply propext;rw[key,F.lat];constructor
 .rintro⟨m,q,eu,ev⟩;exact rE eu ev
 .exact λz=>rW hn z
def Bh(h:49<=c/\c<=54):cell [0,1,2,3,4,5,6] ((c:Int)-48)=(c:Int)-48:=by
 rcases(Ig:c=49\/c=50\/c=51\/c=52\/c=53\/c=54)with e|e|e|e|e|e<;>subst e<;>rfl
def motif_shows{c d:Int}(hL:Rows L)(F:FamOf a b c d w h s)(hn:¬a*d=b*c)(x y:Int):(lookD (hAll w h s 0 (L.map cs) []) (hmX w h s x y) (y%h)).getD 0=(bp L a b c d).shows x y:=by
 rw[sF];show((bD (λi j=>decide (hmX w h s i j=hmX w h s x y/\j%h=y%h)) 0 L).map λc=>(c:Int)-48).getD 0=_;have e:(λi j=>decide (hmX w h s i j=hmX w h s x y/\j%h=y%h))=λi j=>onB a b c d (1*x+0*y+0-i) (0*x+1*y+0-j):=by
  funext i j;rw[Bg F hn];congr 1<;>lia
 rw[e];show _=match bD (λi j=>onB a b c d (1*x+0*y+0-i) (0*x+1*y+0-j)) 0 L with|some c=>cell [0,1,2,3,4,5,6] ((c:Int)-48)|none=>0
 cases q:bD (λi j=>onB a b c d (1*x+0*y+0-i) (0*x+1*y+0-j)) 0 L with
 |none=>rfl
 |some c=>
  have hc:49<=c/\c<=54:=jU (λl' q=>let ⟨_,_,_,h⟩:=hL;(h l' q).2) q;exact(Bh hc).symm
def bK(j:Nat)(x:E_):SpX:=λds R _=>∃(p:Pat) (v:D) (X Y:Int),ds=[v,.int X,.int Y]/\FormOf p v/\p.Wf/\p.depth<j/\p.cls=x/\R (.int (p.show X Y))
def eU{x:E_}:¬ofX (bK 0 x) ds M R RX:=by
 rintro⟨_,_,_,_,_,_,_,h,_⟩;exact absurd h (Gx _)
structure PatOf(p:Pat)(w h s:Int)(fs:List (Str×D)):Prop extends Pat.Fam p w h s where
 form:∃v,fs.lookup ("form":E_)=be v/\FormOf p v
 nl:noLF fs=true
def ce(p:Pat)(d:D):Prop:=∃w h s fs,d=.obj "Pattern" fs/\fs.lookup ("text":E_)=be (.str p.text)/\fs.lookup ("shifts":E_)=be (.tup [.int w,.int h,.int s])/\PatOf p w h s fs
def aq(x:Int):Prop:=-1000000000000<=x/\x<=1000000000000
def Pat.show_le(h:p.Wf)(hd:p.depth<=40)(x y:Int):0<=p.show x y/\p.show x y<=6:=by
 rw[<-Pat.show_leaves h hd];exact rP x y (Pat.leaf_ok h hd)
def bi(h:Int):Nat:=if h=0 then 46 else(48+h).toNat
def aL(p:Pat)(x y:Int)(n:Nat):Str:=#[((Ej n).map λ(k:Nat)=>bi (p.show (x+(k:Int)) y)).toArray]
def kd(p:Pat)(x y:Int)(n:Nat):(aL p x y n).length=n:=by simp[aL,Str.length]
def sG(h0:0<=h)(h6:h<=6):atI (cs ".123456") h=be (bi h):=by
 rcases(Ig:h=0\/h=1\/h=2\/h=3\/h=4\/h=5\/h=6)with e|e|e|e|e|e|e<;>subst e<;>decide+kernel
def range2_int{i j:Int}{x:D}(h:((Ej (j-i).toNat).map λk=>D.int (i+((k:Nat):Int)))[k]?=be x):k<(j-i).toNat/\x=.int (i+(k:Int)):=by
 have hk:k<(j-i).toNat:=by simpa using(Ev.mp h).1
 refine#[hk,?_];simp[hk]at h;exact h.symm
def sH:∀L:List E_,cs (Str.join "" L)=L.flatMap cs
 |[]=>rfl
 |[x]=>by simp[Str.join]
 |x::y::r=>by
  show cs (x++""++Str.join "" (y::r))=_;rw[bC,bC,sH (y::r),rM];simp
def Bi(f:Nat->Nat)(n:Nat):Str.join "" ((Ej n).map λi=>(#[[f i].toArray]:E_))=#[((Ej n).map f).toArray]:=by
 apply gA;rw[sH,List.flatMap_map];show(Ej n).flatMap (λi=>[f i])=(Ej n).map f;rw[List.map_eq_flatMap]
def Bj:SiD:=λds R=>∃(t:E_) (w h s:Int) (x:E_) (fs:List (E_×D)),ds=[.str t,.tup [.int w,.int h,.int s],.obj x fs]/\R [("text",.str t),("shifts",.tup [.int w,.int h,.int s]),("form",.obj x fs)]
def sI:SpX:=λds R _=>∃p:Pat,ds=[.str p.text]/\p.Ok/\∀d,ce p d->R d
def Bk{R:D->Prop}(ok:p.Ok)(h:∀d,ce p d->R d):qQ sI [.str p.text] R:=#[p,rfl,ok,h]
def Bl:SpX:=λds R RX=>∃x y:Int,ds=[.int x,.int y]/\(aq x/\aq y->R .non)/\(¬(aq x/\aq y)->RX "TooFar" [])
def Bm:SpX:=λds R RX=>∃(p:Pat) (d:D) (x y:Int),ds=[d,.int x,.int y]/\ce p d/\p.Ok/\(aq x/\aq y->R (.int (p.show x y)))/\(¬(aq x/\aq y)->RX "TooFar" [])
def rowD(p:Pat)(x y:Int)(n:Nat):List D:=(Ej n).map λ(i:Nat)=>D.str #[[bi (p.show (x+(i:Int)) y)].toArray]
def sJ(p:Pat)(x y:Int)(k:Nat):rowD p x y k++[D.str #[[bi (p.show (x+(k:Int)) y)].toArray]]=rowD p x y (k+1):=by
 unfold rowD;rw[F6,E1];rfl
variable{n:Nat}
def sK(p:Pat)(x y:Int)(hn:n<=1000):∃ys,cA (rowD p x y n)=be ys/\(ys.map (·.length)).sum+ys.length*("":E_).length<=1000000/\Txt.join "" ys=aL p x y n:=by
 have e1:rowD p x y n=((Ej n).map λ(i:Nat)=>(#[[bi (p.show (x+(i:Int)) y)].toArray]:E_)).map D.str:=by unfold rowD;rw[Fx];rfl
 rw[e1];refine#[_,jT _,?_,(StrLaws.glued_eq_join _ _).trans (Bi (λi=>bi (p.show (x+(i:Int)) y)) n)];rw[rN (w:=1) (λl hl=>by obtain⟨i,_,rfl⟩:=EN.mp hl;rfl),En,FN,show("":E_).length=0 from rfl];lia
def Bn{n:Int}:x.fmod n=0↔n∣x:=#[Int.dvd_of_fmod_eq_zero,Gp]
def Bo(a b c d u v i j:Int):onB a b c d (u+(i*a+j*c)) (v+(i*b+j*d))=onB a b c d u v:=by
 unfold onB;have e1:(u+(i*a+j*c))*d-(v+(i*b+j*d))*c=(u*d-v*c)+(a*d-b*c)*i:=Jw
 have e2:a*(v+(i*b+j*d))-b*(u+(i*a+j*c))=(a*v-b*u)+(a*d-b*c)*j:=Jw
 rw[e1,e2];simp only[Bn];have h1:(a*d-b*c∣u*d-v*c+(a*d-b*c)*i)↔a*d-b*c∣u*d-v*c:=Hk (Hl _ _);have h2:(a*d-b*c∣a*v-b*u+(a*d-b*c)*j)↔a*d-b*c∣a*v-b*u:=Hk (Hl _ _);simp only[h1,h2]
def Pat.Keeps(p:Pat)(X Y:Int):Prop:=∀x y,p.show (x+X) (y+Y)=p.show x y
def Pat.lat_keeps:∀{p:Pat} {X Y:Int},p.Lat X Y->p.Keeps X Y
 | .mot L a b c d,_,_,⟨i,j,rfl,rfl⟩,x,y=>by
  have e:∀u v:Int,onB a b c d (1*(x+(i*a+j*c))+0*(y+(i*b+j*d))+0-u) (0*(x+(i*a+j*c))+1*(y+(i*b+j*d))+0-v)=onB a b c d (1*x+0*y+0-u) (0*x+1*y+0-v):=λu v=>by
   rw[<-Bo a b c d (1*x+0*y+0-u) (0*x+1*y+0-v) i j];congr 1<;>lia
  show Leaf.shows _ _ _=Leaf.shows _ _ _;unfold Leaf.shows Leaf.hit;simp only[bp,e]
 |.over p q,X,Y,h,x,y=>by
  simp only[Pat.show];rw[Pat.lat_keeps h.1 x y,Pat.lat_keeps h.2 x y]
 |.sh a b p,X,Y,h,x,y=>by
  have:=Pat.lat_keeps (p:=p) h (x-a) (y-b);simp only[Pat.show];rw[<-this];congr 1<;>lia
 |.mir p,X,Y,h,x,y=>by
  have:=Pat.lat_keeps (p:=p) h (-x) y;simp only[Pat.show];rw[<-this];congr 1;lia
 |.tur p,X,Y,h,x,y=>by
  have:=Pat.lat_keeps (p:=p) h y (-x);simp only[Pat.show];rw[<-this];congr 1;lia
 |.hue f g p,X,Y,h,x,y=>by
  simp only[Pat.show];rw[Pat.lat_keeps (p:=p) h x y]
def InF.one(w h s:Int):InF w h s w 0:=#[1,0,Ig,Ig]
def Pat.Fam.keeps{y:Int}(f:p.Fam w h s)(q:InF w h s x y):p.Keeps x y:=Pat.lat_keeps ((f.lat x y).mp q)
def Bp(hw:0<w)(hh:0<h)(x y:Int):InF w h s (x-hmX w h s x y) (y-y%h):=by
 have e1:=Fj y h;have e2:=Fj (x-y/h*s) w;refine#[(x-y/h*s)/w,y/h,?_,by rw[e1,EK];lia];unfold hmX;rw[e2,EK w];lia
def Pat.show_home(hw:0<w)(hh:0<h)(k:∀x y,InF w h s x y->p.Keeps x y)(x y:Int):p.show (hmX w h s x y) (y%h)=p.show x y:=by
 have:=k _ _ (Bp (s:=s) hw hh x y) (hmX w h s x y) (y%h);rw[<-this];congr 1<;>lia
def Bq(f:Nat->Nat){w:Nat}(h:c<w):((Ej w).map f).drop c++((Ej w).map f).take c=(Ej w).map λk=>f ((c+k)%w):=by
 apply FH;intro i;by_cases h1:i<w-c
 .rw[EW (by simp;exact h1),List.getElem?_drop,Et,Et,E8 Ig,E8 Ig];simp[Hm (show c+i<w by lia)]
 .rw[Fh Pl];simp only[FF,En,FN];by_cases h2:i<w
  .rw[GJ Ig,Et,Et,E8 Ig,E8 Ig];have e:(c+i)%w=i-(w-c):=by
    rw[show c+i=(i-(w-c))+w by lia,Nat.add_mod_right,Hm Ig]
   simp[e]
  .rw[E5 Pl,E5 Pl]
def fC(l:List Nat):cs (#[l.toArray]:E_)=l:=Iq
def Br{c:Int}(ht:cs t=l)(c0:0<=c)(cl:c<l.length):Txt.slice t (be c) p7++Txt.slice t p7 (be c)=(#[(l.drop c.toNat++l.take c.toNat).toArray]:E_):=by
 have hl:t.length=l.length:=by rw[<-ht,bq]
 apply gA;rw[bC,slice_cps,slice_cps,fC,fC,fC,show t.cps.toList=l from ht,hl];have e1:HT.sIx l.length 0 (be c)=c.toNat:=by show(if c<0 then _ else min c.toNat l.length)=_;rw[if_neg Ig];lia
 have e2:HT.sIx l.length l.length p7=l.length:=rfl;have e3:HT.sIx l.length 0 p7=0:=rfl;have e4:HT.sIx l.length l.length (be c)=c.toNat:=by show(if c<0 then _ else min c.toNat l.length)=_;rw[if_neg Ig];lia
 rw[e1,e2,e3,e4,Hn,FK Iq];rfl
def fD(p:Pat)(x y:Int)(n:Nat):cs (aL p x y n)=(Ej n).map λ(k:Nat)=>bi (p.show (x+(k:Int)) y):=fC _
def Bs(hw:0<w)(hh:0<h)(k:∀x y,InF w h s x y->p.Keeps x y)(x y:Int):
  Txt.slice (aL p 0 (y%h) w.toNat) (be (hmX w h s x y)) p7++Txt.slice (aL p 0 (y%h) w.toNat) p7 (be (hmX w h s x y))=aL p x y w.toNat:=by
 have c0:0<=hmX w h s x y:=Ft _ Ig;have c1:hmX w h s x y<w:=Fu _ hw;rw[Br (fD p 0 (y%h) w.toNat) c0 Pl,Bq _ Ig];unfold aL;congr 2;apply FJ;intro i _;have e:=Pat.show_home hw hh k (x+(i:Int)) y;rw[<-e];congr 2;have q:hmX w h s (x+(i:Int)) y=(hmX w h s x y+i)%w:=by
  unfold hmX;rw[Int.emod_add_emod];congr 1;lia
 rw[q,Int.zero_add,Ho,FO,ET c0,ET Ig]
def fE(p:Pat)(w h:Int):D:=.lst ((Ej h.toNat).map λ(y:Nat)=>D.str (aL p 0 (y:Int) w.toNat))
def Bt:SpD:=λds R=>∃(p:Pat) (d:D),ds=[d]/\ce p d/\p.Ok/\∀w h s,p.Fam w h s->w*h<=720->w<=720->h<=720->R (fE p w h)
def Bu:SpD:=λds R=>∃(p:Pat) (w h s x y:Int),ds=[.tup [.int w,.int h,.int s],fE p w h,.int x,.int y]/\p.Fam w h s/\w<=720/\h<=720/\R (.str (aL p x y w.toNat))
def Bv(a0:0<=a)(a6:a<=6)(b0:0<=b)(b6:b<=6)(e:bi a=bi b):a=b:=by
 unfold bi at e;split at e<;>split at e<;>lia
def sumN(g:Nat->Int):Nat->Int
 |0=>0
 |n+1=>sumN g n+g n
def dJ{g f:Nat->Int}:∀{n:Nat},(∀k,k<n->g k=f k)->sumN g n=sumN f n
 |0,_=>rfl
 |n+1,h=>by rw[sumN,sumN,dJ λk hk=>h k Ig,h n Ig]
def gC(g:Nat->Int)(n:Nat):∀m:Nat,sumN g (n+m)=sumN g n+sumN (λk=>g (n+k)) m
 |0=>by simp[sumN]
 |m+1=>by rw[<-Nat.add_assoc,sumN,sumN,gC g n m];lia
def sL(g f:Nat->Int):∀n:Nat,sumN (λk=>g k+f k) n=sumN g n+sumN f n
 |0=>rfl
 |n+1=>by simp only[sumN,sL g f n];lia
variable{N:Nat}
def Bw{g:Nat->Int}(hN:0<N)(IR:∀k,g (k+N)=g k)(n:Nat):sumN (λj=>(((n:Int)-1-j)/N+1)*g j) (min n N)=sumN g n:=by
 induction n using Nat.strongRecOn with
 |ind n ih=>
  by_cases h:n<=N
  .rw[FP h];refine dJ λk hk=>?_;rw[Hq Ig Ig];simp
  .have e1:n=N+(n-N):=by lia
   have i:=ih (n-N) Ig;have LG:sumN (λk=>g (N+k)) (n-N)=sumN g (n-N):=dJ λk _=>by rw[Gv];exact IR k
   rw[Gd Ig];have e2:sumN g n=sumN g N+sumN g (n-N):=by
    conv=>lhs;rw[e1]
    rw[gC,LG]
   rw[e2,<-i];have e3:min (n-N) N+(N-min (n-N) N)=N:=Ig
   have split:∀f:Nat->Int,sumN f N=sumN f (min (n-N) N)+sumN (λk=>f (min (n-N) N+k)) (N-min (n-N) N):=λf=>by
    conv=>lhs;rw[<-e3]
    exact gC _ _ _
   rw[split,split g];have a:sumN (λj=>(((n:Int)-1-j)/N+1)*g j) (min (n-N) N)=sumN g (min (n-N) N)+sumN (λj=>((((n-N:Nat):Int)-1-j)/N+1)*g j) (min (n-N) N):=by
    rw[<-sL];refine dJ λk hk=>?_;have q:((n:Int)-1-k)/N=(((n-N:Nat):Int)-1-k)/N+1:=by
     rw[show((n:Int)-1-k)=(((n-N:Nat):Int)-1-k)+1*N by lia,Hj _ _ Ig]
    rw[q,Gz];lia
   have b:sumN (λk=>(((n:Int)-1-((min (n-N) N+k:Nat):Int))/N+1)*g (min (n-N) N+k)) (N-min (n-N) N)=sumN (λk=>g (min (n-N) N+k)) (N-min (n-N) N):=by
    refine dJ λk hk=>?_;rw[Hq Ig Ig];simp
   rw[a,b];lia
def cntN(f:Nat->Int)(v:Int)(n:Nat):Int:=sumN (λk=>if f k=v then 1 else 0) n
def sM(f:Nat->Int)(v:Int):∀n,0<=cntN f v n/\cntN f v n<=n
 |0=>by simp[cntN,sumN]
 |n+1=>by
  have:=sM f v n;unfold cntN at this ⊢;rw[sumN];split<;>lia
def By{f:Nat->Int}{w:Nat}(hw:0<w)(IR:∀k,f (k+w)=f k)(v:Int)(m:Nat):((m/w:Nat):Int)*cntN f v w+cntN f v (m%w)=cntN f v m:=by
 have key:∀q r:Nat,cntN f v (w*q+r)=(q:Int)*cntN f v w+cntN f v r:=λq=>by
  have sh:∀q k,f (w*q+k)=f k:=λq=>by
   induction q with
   |zero=>intro k;rw[Nat.mul_zero,Hr]
   |succ q ih=>intro k;rw[Hs,show w*q+w+k=w*q+k+w by lia,IR];exact ih k
  induction q with
  |zero=>intro r;simp
  |succ q ih=>
   intro r;rw[Hs,show w*q+w+r=w*q+(w+r)by lia,ih,FO,Gz];have e:cntN f v (w+r)=cntN f v w+cntN f v r:=by
    unfold cntN;rw[gC];congr 1;refine dJ λk _=>?_;rw[Gv w k,IR]
   rw[e];simp;lia
 have:=key (m/w) (m%w);rw[Nat.div_add_mod]at this;exact this.symm
def gD(y:E_)(c:Nat):∀(m a:Nat) (st:Array Nat×Nat),a+m=y.length+1->st.2<=a->st.1.size<=a->(forIn (List.range' a m) st (StrLaws.occBody y #[[c].toArray] y.length (y.length+1))).run.fst.size=st.1.size+(((cs y).drop a).filter (·==c)).length
 |0,a,st,h,_,_=>by
  rw[GA (by rw[bq];lia)];rfl
 |m+1,a,st,h,h1,h2=>by
  have l1:(#[[c].toArray]:E_).length=1:=rfl;have q:=StrLaws.subAt_eq y #[[c].toArray] a;rw[List.range'_succ,Gk];by_cases ha:a<y.length
  .have hd:(cs y).drop a=(cs y)[a]'(by rw[bq];exact ha)::(cs y).drop (a+1):=Fl (by rw[bq];exact ha);rw[show y.cps.toList.drop a=_ from hd,l1]at q;rw[hd,List.filter_cons];by_cases e:(cs y)[a]'(by rw[bq];exact ha)=c
   .have eb:StrLaws.occBody y #[[c].toArray] y.length (y.length+1) a st=pure (.yield (st.1.push a,a+1)):=by
     unfold StrLaws.occBody;rw[if_pos #[#[#[Ig,h1],by rw[l1];lia],by rw[q];simp[e]],l1]
    rw[eb];have:=gD y c m (a+1) (st.1.push a,a+1) Ig (Eg _) Pl;simp only[e,beq_self_eq_true,if_true,Ex];refine Eq.trans this ?_;simp only[Array.size_push];lia
   .have eb:StrLaws.occBody y #[[c].toArray] y.length (y.length+1) a st=pure (.yield (st.1,st.2)):=by
     unfold StrLaws.occBody;rw[if_neg];rintro⟨_,z⟩;rw[q]at z;simp at z;exact e z
    rw[eb];have:=gD y c m (a+1) st Ig Ig Ig;rw[if_neg (by simpa using e)];exact this
  .have eb:StrLaws.occBody y #[[c].toArray] y.length (y.length+1) a st=pure (.yield (st.1,st.2)):=by
    unfold StrLaws.occBody;rw[if_neg];rintro⟨⟨_,z⟩,_⟩;rw[l1]at z;lia
   rw[eb];have:=gD y c m (a+1) st Ig Ig Ig;rw[GA (by rw[bq];lia)];rw[GA (by rw[bq];lia)]at this;exact this
def Bz(y:E_)(c:Nat):(Builtin.Str.occurrences y #[[c].toArray] 0 y.length (y.length+1)).length=((cs y).filter (·==c)).length:=by
 rw[StrLaws.occ_eq,FT,gD y c _ 0 _ Ig (Eg _) (Eg _)];simp
def sN(f:Nat->Int)(b:∀k,0<=f k/\f k<=6){v:Int}(v0:0<=v)(v6:v<=6):∀n:Nat,(((((Ej n).map λk=>bi (f k)).filter (·==bi v)).length:Nat):Int)=cntN f v n
 |0=>rfl
 |n+1=>by
  rw[F6,E1,List.filter_append,EG,FO,sN f b v0 v6 n];show _=cntN f v n+_;congr 1;by_cases e:f n=v
  .simp[e]
  .have:¬bi (f n)=bi v:=λz=>e (Bv (b n).1 (b n).2 v0 v6 z);simp[this,e]
def BA(ok:p.Ok)(x y:Int){v:Int}(v0:0<=v)(v6:v<=6)(n:Nat):(((cs (aL p x y n)).filter (·==bi v)).length:Int)=cntN (λk=>p.show (x+k) y) v n:=by
 rw[fD];exact sN _ (λk=>Pat.show_le ok.wf (by have:=ok.deep;lia) _ _) v0 v6 n
def BB(p:Pat)(x y:Int){r:Nat}(h:r<=n):Txt.slice (aL p x y n) p7 (be (r:Int))=aL p x y r:=by
 apply gA;rw[slice_cps,fC,fD,show(aL p x y n).cps.toList=_ from fD p x y n,kd];have e1:HT.sIx n 0 p7=0:=rfl;have e2:HT.sIx n n (be (r:Int))=r:=by show(if(r:Int)<0 then((r:Int)+n).toNat else min (r:Int).toNat n)=r;rw[if_neg Ig];lia
 rw[e1,e2,Hn,Nat.sub_zero,<-List.map_take,List.take_range,FP h]
def occC(t:E_)(c:Nat):Int:=((Builtin.Str.occurrences t #[[c].toArray] 0 t.length (t.length+1)).length:Nat)
def sO(ok:p.Ok)(x y:Int){v:Int}(v0:0<=v)(v6:v<=6)(n:Nat):occC (aL p x y n) (bi v)=cntN (λk=>p.show (x+k) y) v n:=by
 unfold occC;rw[Bz,BA ok x y v0 v6]
def bG(p:Pat)(v left top:Int)(m n:Nat):Int:=sumN (λj=>cntN (λk=>p.show (left+k) (top+j)) v m) n
def bH(p:Pat)(left top:Int)(m n:Nat):List Int:=(Ej 7).map λ(v:Nat)=>bG p v left top m n
def BC:SpD:=λds R=>∃(p:Pat) (x y v m:Int) (w:Nat),ds=[.str (aL p x y w),.str #[[bi v].toArray],.int m]/\p.Ok/\0<=v/\v<=6/\0<w/\w<=720/\0<=m/\m<2^63/\p.Keeps w 0/\R (.int (cntN (λk=>p.show (x+k) y) v m.toNat))
def Pat.Fam.across(F:p.Fam w h s):p.Keeps w 0:=F.keeps (InF.one w h s)
def Pat.Fam.down(F:p.Fam w h s):p.Keeps 0 (w*h):=F.keeps #[-s,w,by rw[Gq,EK w s];lia,rfl]
def BD(hN:0<N)(k:p.Keeps 0 N)(v left top:Int)(m n:Nat):sumN (λj=>(((n:Int)-1-j)/N+1)*cntN (λk=>p.show (left+k) (top+j)) v m) (min n N)=bG p v left top m n:=by
 refine Bw (g:=λj=>cntN (λk=>p.show (left+k) (top+j)) v m) hN (λj=>?_) n;unfold cntN;refine dJ λi _=>?_;have e:p.show (left+i) (top+((j+N:Nat):Int))=p.show (left+i) (top+j):=by
  have:=k (left+i) (top+j);rw[FQ]at this;rw[<-this,FO,GB]
 simp only[e]
def sP{α:Type}(f g:Nat->α)(h:∀v,v<n->v≠i->g v=f v):((Ej n).map f).set i (g i)=(Ej n).map g:=by
 apply FH;intro k;rw[Fi];by_cases hk:i=k
 .subst hk;simp only[if_true,En,FN];by_cases hi:i<n
  .simp[hi]
  .simp[hi]
 .rw[if_neg hk];by_cases hi:k<n
  .simp[hi,h k hi (Ne.symm hk)]
  .simp[hi]
def BE:bP ".123456"=(Ej 7).map λ(v:Nat)=>D.str #[[bi (v:Int)].toArray]:=by
 unfold bP;rw[show(".123456":E_).cps.toList=[46,49,50,51,52,53,54]by decide+kernel];rfl
def bR(p:Pat)(left top:Int)(m n N k:Nat)(v:Int):Int:=sumN (λj=>(((n:Int)-1-j)/N+1)*cntN (λi=>p.show (left+i) (top+j)) v m) k
variable{top a8:Int}
def BF{W:Int}(hn:(a8-top+1).toNat=n)(wN:W=(N:Int)):((if top+W<a8+1 then top+W else a8+1)-top).toNat=min n N:=by split<;>lia
def BG{W:Int}(a:-1000000000000<=top/\top<=1000000000000)(c:-1000000000000<=a8/\a8<=1000000000000)(w0:0<W)(w1:W<=720):-(2^62)<=top/\top<2^62/\-(2^62)<=(if top+W<a8+1 then top+W else a8+1)/\(if top+W<a8+1 then top+W else a8+1)<2^62:=by split<;>lia
def BH(hn:(a8-top+1).toNat=n)(hk:k<min n N):a8-(top+k)=(n:Int)-1-k:=Ig
def sQ{l r:Int}{m:Nat}(a:-1000000000000<=l/\l<=1000000000000)(b:-1000000000000<=r/\r<=1000000000000)(h:(r-l+1).toNat=m):m<=2000000000001:=Ig
def BI(x:Int):(if 0>x then 0 else x)=(x.toNat:Int):=by split<;>lia
def BJ:SpX:=λds R RX=>∃(p:Pat) (d:D) (left top right a8:Int),ds=[d,.int left,.int top,.int right,.int a8]/\ce p d/\p.Ok/\(aq left/\aq top/\aq right/\aq a8->R (.lst ((bH p left top (right-left+1).toNat (a8-top+1).toNat).map D.int)))/\(¬(aq left/\aq top/\aq right/\aq a8)->RX "TooFar" [])
def BK:SpX:=λds R RX=>∃(p:Pat) (d:D) (hue left top right a8:Int),ds=[d,.int hue,.int left,.int top,.int right,.int a8]/\ce p d/\p.Ok/\0<=hue/\hue<=6/\(aq left/\aq top/\aq right/\aq a8->R (.int (bG p hue left top (right-left+1).toNat (a8-top+1).toNat)))/\(¬(aq left/\aq top/\aq right/\aq a8)->RX "TooFar" [])
end My
end
section
open PySem PySem.Spec PyProof.Rows L2
namespace My
section
variable {X:Cx}
def rNeT(K:Ef):R2:=λx y H Q=>∃a b xs ys,x=.ref a/\y=.ref b/\SqT K H a xs/\SqT K H b ys/\xs.all bc=true/\ys.all bc=true/\Q (.bl (!eqVs xs ys)) H
def BL(hu:X.A.units+1<QX):OpR X (P' .NotEq) (rNeT X.K):=by
 intro pins s σ H x y v u Q I rx ry h;obtain⟨a,b,xs,ys,rfl,rfl,ha,hb,fx,fy,q⟩:=h;cases rx;cases ry;obtain⟨its,r1,p1,_⟩:=I.tuple ha;obtain⟨v8,r2,p2,_⟩:=I.tuple hb;refine SeqAt.RcNeAt.tuples (e:=λj=>eqV (xs.getD j .non) (ys.getD j .non)) p1 p2 Ig (λj h1 h2=>?_) _ _ _ _ #[.bl (!eqVs xs ys),H,I,?_,q]
 .rw[Er]at h1 h2;simp only[GS];exact eqAt_V (Vals.getD r1 h1) (Vals.getD r2 h2) (flat_getD fx) (flat_getD fy)
 .rw[<-jk,Er,Er,<-L2.Vals.length r1,<-L2.Vals.length r2];rfl
def sR:RD2:=λx y R=>kdT x λxs=>kdT y λys=>(xs.all aV=true/\ys.all aV=true)/\R (.bl (!eqFs xs ys))
def BM{K:Ef}:aK K (rNeT K) sR:=by
 intro x y u v F H R Q fh h rx ry q;obtain⟨xs,rfl,h2⟩:=kdT.of h;obtain⟨ys,rfl,⟨f1,f2⟩,h3⟩:=kdT.of h2;obtain⟨a,us,rfl,hq,rr⟩:=rep_tup_mp rx;obtain⟨b,vs,rfl,p_,t7⟩:=rep_tup_mp ry;exact#[a,b,us,vs,rfl,rfl,fh.tup hq,fh.tup p_,cq rr f1,cq t7 f2,q _ _ F H (Grow.refl fh) h3 (rep_bl.mpr (by rw[jl rr t7 f1 f2]))]
variable {a b c e:PV}{ta tb:TD}{pos:Qa}
def sS[Jx](hu:X.A.units+1<QX)(ha:WDE X a ta)(hb:WDE X b tb):WDT X (.Compare a [.NotEq] [b] pos) (dTst (dOp sR ta tb)):=#[have ha:=ha.out;have hb:=hb.out;cL (BL hu) BM ha hb (nomark _)]
end
section
variable {X:Cx}{a b o e:PV}{ta to te:TD}{pos p2:Qa}
def BN{x:V}{xs:List V}{us:List KB}(h:Vals xs us)(f:xs.all bc=true):us.countP (eqU x)=xs.countP λy=>eqV y x:=by
 induction h with
 |nil=>rfl
 |cons r _ ih=>
  rw[EY,EH]at f;rw[Ge,Ge,fQ r f.1,ih f.2]
def rLCt(K:Ef):V->List V->Hp->VK->Prop:=λx vs H Q=>∃l xs y,x=.ref l/\vs=[y]/\SqL K H l xs/\bc y=true/\xs.all bc=true/\Q (.int (xs.countP (λw=>eqV w y):Nat)) H
def BO:MtR X "list.count" (rLCt X.K):=by
 intro pins s σ H x vs v us Q I rx rv h;obtain⟨l,xs,y,rfl,rfl,hq,fy,fs,q⟩:=h;cases rx;obtain⟨u,rfl,ry⟩:=Vals.one rv;obtain⟨its,r,pl,hz⟩:=I.list hq;obtain⟨⟨cls,dd,data,sl⟩,ho,hc,n,hd⟩:=pl.isList;simp only at hc hd;subst hc hd;refine RD PySem.F.slot_list_count #[_,ho,rfl] PySem.F.entry_list_count (PySem.F.args_list_count_2 _ _)
  (SeqAt.list_countAt l its.toArray n dd sl u (eqU y)) #[ho,λw hw=>mem_eqAt ry fy r fs w (by simpa using hw),#[.int _,H,I.tok _,#[_,rfl],?_]]
 rw[show its.toArray.toList=its from rfl,BN r fs];exact q
def dLCt(to te:TD):TD:=λz R=>to z λx=>match x with|.lst ys=>te z λy=>(aV y=true/\ys.all aV=true)/\R (.int (ys.countP (λw=>eqF w y):Nat))|_=>False
def BP{K:Ef}{H:Hp}{x:D}{u:V}(rx:Rep K H x u)(fx:aV x=true){ys:List D}:∀{vs:List V},Reps K H ys vs->ys.all aV=true->vs.countP (λw=>eqV w u)=ys.countP λy=>eqF y x:=by
 induction ys with
 |nil=>intro vs r _;rw[reps_nil.mp r];rfl
 |cons y ys ih=>
  intro vs r f;obtain⟨v,vr,rfl,r1,r2⟩:=reps_cons.mp r;rw[EY,EH]at f;rw[Ge,Ge,ih r2 f.2,fZ r1 rx f.1 fx]
def BQ[Jx]{c7 a_:Qa}(ho:WDE X o to)(he:WDE X e te)(b9:autoParam (P6 o "count" X.env (P7 o X.env)=P7 o X.env) zA0)
  (d7:autoParam (zHF X a_ [e]) zA0)
  (c8:autoParam ((c7.endLine==a_.line)=true) zA0) (hs:autoParam (zSE X e []) zA0):WDE X (.Call (.Attribute o "count" c7) [e] [] a_) (dLCt to te):=⟨(cH PySem.F.plainAttrs_list PySem.F.slot_list_count PySem.F.type_list_count BO ho.out (bj he.out pa_nil hs) b9 d7 c8 hs).anti λs H Q q=>by
 obtain⟨B,F,z,kf,rs,R,h1,h2⟩:=q;refine#[B,F,z,kf,rs,_,h1,λx u F1 H1 g1 hx rx=>?_];split at hx
 .obtain⟨l,vs,rfl,hq,rr⟩:=rep_lst.mp rx;refine#[.inl #[rfl,vs,g1.fh.seq (SqL.of hq)],B,F1,z,kf.grow g1,rs.grow g1,_,hx,λd v F2 H2 g2 hd rd=>?_];obtain⟨⟨f1,f2⟩,hR⟩:=hd;have IQ:=rr.mono g2.ff;refine#[l,vs,v,rfl,rfl,g2.fh.seq (g2.ff.seq (SqL.of hq)),dX rd f1,cq IQ f2,?_];rw[BP rd f1 IQ f2];exact h2 _ _ F2 H2 (g1.trans g2) hR (rep_int.mpr rfl)
 .exact hx.elim⟩
end
end My
namespace Exc
open PySem PySem.Spec PyProof.Rows PySem.W L2
section
variable {prog:PZ}{w:P2}{A:P3}{E:KB->KF->Prop}{s:KF}{K:Ef}{x C:KM}{ox:Qc}{cd:Q3}
def exc_class{Q:Option KB->KF->Prop}{HG:Option Qc}(X:K.In s.heap)(I:InstAt s.heap x ox C HG)(hc:clsIn K C=be cd)(hm:excMro cd.mro=true)
  (OD:findIn K (.ref C) "__getattribute__"=be (be (.builtin "BaseException.__getattribute__"))) (OE:findIn K (.ref C) "__getattr__"=be p7)
  (hf:findObj K C HG "__class__"=be (.bind (.builtin "getset_descriptor.__get__") (.builtin "object.__class__"))) (h:Q (be (.ref C)) {s with toks:=s.toks+1}):PY (PU prog w) A (getAttr? (.ref x) "__class__") Q E s:=by
 have FB:=PySem.F.attr_ValueError;have X0:=X;have I0:=I;obtain⟨hp,g,d,t,os⟩:=s;have L0:=I.type (M:=PU prog w);have L1:=looks_findIn (M:=PU prog w) X OD;have L2:=looks_findIn (M:=PU prog w) X OE;have L3:=looks_find (M:=PU prog w) X I hf;have f3:=FB.ga.bind (.ref x);have ne:cd.mro.isEmpty=false:=by cases q:cd.mro with|nil=>rw[q]at hm;simp[excMro]at hm|cons _ _=>rfl
 have mro:∀{T:String},[Value.type "ValueError",.type "Exception",.type "BaseException",.type "object"].contains (.type T)=true->mroIn K C (.type T)=be true:=λhT=>by unfold mroIn;rw[hc,Fs,if_neg (by rw[ne];decide),exc_has hT hm]
 have sub:Looks (PU prog w) hp (isInstance (.ref x) (.type "BaseException")) true:=I.type.andThen (looks_mroIn X (mro Ip));unfold getAttr? getAttrBy? getAttrBy;refine Os (wpAny_mkText (Os (wpAny_attempt (Qi (Os (L0.at (Os (L1.at ?_))))))));dsimp only;have HC:(onTheHeap (Value.ref C)&&Value.builtin "BaseException.__getattribute__"==Value.builtin "object.__getattribute__")=false:=by
  have j_:(Value.builtin "BaseException.__getattribute__"==Value.builtin "object.__getattribute__")=false:=Ip
  rw[j_];rfl
 rw[HC,if_neg Ew];unfold getAttrByItsOwn hookBefore;rw[show onTheHeap (Value.ref C)=true from rfl,if_pos rfl];refine Os (L2.at ?_);unfold callGetattribute;rw[show(false&&onTheHeap (Value.builtin "BaseException.__getattribute__"))=false from rfl,if_neg Ew];unfold boundAndCalled;refine Os (wpAny_attempt (Qi (Os (Rt f3 ?_))));refine QY (codeAny_call_builtin FB.ga.plain PySem.F.entry_bexc_ga (@check_slot (PU prog w) _ _ _ "BaseException.__getattribute__" "BaseException" "__getattribute__" (.ref x) [.str "__class__" t] [] _ Ip Ip sub (PySem.F.args_bexc_ga _ _) ?_));unfold Builtin.«object.__getattribute__»;refine Os (Rt (a:=(Value.ref x,[Value.str "__class__" t])) rfl ?_);refine Os (Rt (a:=("__class__":E_)) rfl ?_);refine Os (L0.at (Os (L3.at ?_)));show PY _ _ (Qu [Value.builtin "object.__class__"] (call (.builtin "getset_descriptor.__get__") [.builtin "object.__class__",.ref x,.ref C])>>=PySem.ret) _ _ _;refine Os (Qi (QY (class_get (s:=#[hp,g,d,t+1,os]) X I (mro Ip) ?_)));refine PX ?_;exact handed_on rfl (PX h)
end
end Exc
namespace My
section
open Exc PySem.W
structure IsE(K:Ef)(C:KM)(cd:Q3):Prop where
 cl:clsIn K C=be cd
 mro:excMro cd.mro=true
 ga:findIn K (.ref C) "__getattribute__"=be (be (.builtin "BaseException.__getattribute__"))
 gb:findIn K (.ref C) "__getattr__"=be p7
 ha:findIn K (.ref C) "__class__"=be (be (.builtin "object.__class__"))
 hn:specialIn K (.builtin "object.__class__") "__get__"=be (be (.builtin "getset_descriptor.__get__"))
 ht:takesIn K (.builtin "object.__class__")=be true
def IsE.kit{K:Ef}{C x:KM}{cd:Q3}{ox:Qc}{HG:Option Qc}(k:IsE K C cd):KitX K (.ref x) (.ref C) (λh=>InstAt h x ox C HG):=by
 have at_:∃c' d' l_,K.lookup C=be #[c',d',.cls cd,l_]:=by
  have hc:=k.cl;unfold clsIn at hc;split at hc
  .rename_i c' d' OF l_ ho;cases hc;exact#[c',d',l_,ho]
  .cases hc
 obtain⟨c',d',l_,ho⟩:=at_;refine#[λ_ _ _ I=>I.type,λ_ _ X _=>?_,λh tp dd its n sl X OG=>?_,λX I h=>?_]
 .intro A' Q' E' s' k q;unfold isType loadHead;exact Os (wpAny_loadPart (k _ _ (X _ _ ho)) (PX q))
 .refine EM.mpr λq=>?_;have e:C=tp:=Value.ref.inj (beq_iff_eq.mp q);subst e;have z:=(X _ _ ho).symm.trans OG;cases z
 .refine exc_class X I k.cl k.mro k.ga k.gb ?_ h;unfold findObj;rw[k.cl,Fs,k.ha,Fs];simp[k.hn,k.ht]
end
section
variable {X:Cx}{C:KM}{cd:Q3}{x y:E_}{a:PV}{ta:TD}{pos p p2:Qa}
section
open Exc PySem.W
def BR{c:KB}{cv:V}(LH:∀u,RelV cv u->u=c):bu X (.builtin "isinstance") (λxs H Q=>∃b C cd od k,xs=[.ref b,cv]/\H b=be (XO b C od)/\IsE X.K C cd/\(∀d,od=be d->∃ws,H d=be (.xd ws))/\kitOne X.K (.ref C) c=be k/\Q (.bl k) H):=by
 intro pins s σ H xs us Q I r h;obtain⟨b,C,cd,od,k,rfl,e,hE,hd,hk,q⟩:=h;obtain⟨u,u',rfl,rx,rc⟩:=dO r;cases(show u=Value.ref b from rx);cases LH u' rc;obtain⟨vs,sl,JV⟩:=(I.hok b _ e).1;have inst:∃HG,InstAt s.heap b #[.ref C,od,.fields vs,sl] C HG:=by
  cases od with
  |none=>exact#[p7,JV,rfl,rfl,trivial]
  |some d=>
   obtain⟨ws,hw⟩:=hd d rfl;obtain⟨mA,hns,HR⟩:=(show ObjOk X.prog X.w H s.heap d (.xd ws)from I.hok d _ hw);obtain⟨HG,ho,look⟩:=oY hns;exact#[be HG,JV,rfl,rfl,ho]
 obtain⟨HG,J⟩:=inst;exact kia_one hE.kit I.kIn J hk (λz=>nomatch z) λtk=>#[.bl k,H,I.tok _,rfl,q]
end
def dIsE(al:List (E_×Bool))(ta:TD):TD:=λz R=>ta z λd=>∃x fs k,d=.exc x fs/\(x,k)∈al/\R (.bl k)
def IsF(K:Ef)(al:List (E_×Bool))(c:KB):Prop:=∀x k,(x,k)∈al->∃C cd,nsIn K Pi x=be (be (.ref C))/\IsE K C cd/\kitOne K (.ref C) c=be k
variable{f:List (E_×Bool)}
def sT[Jx]{c:KB}{cv:V}(hf:IsF X.K f c)(LH:∀u,RelV cv u->u=c)(hb:PE X (.Name y p2) (tC cv))(hm:X.mg "isinstance"=p7)(ha:WDE X a ta)(hg:Gl X "isinstance")
  (j3:P1 [a,.Name y p2] X.env=(false,P7 a X.env)::P1 [.Name y p2] X.env) (i_:P1 [.Name y p2] X.env=(false,P7 (.Name y p2) X.env)::P1 [] X.env) (c_:(QM pos (P1 [.Name y p2] X.env)).any (·.1)=false):WDE X (.Call (.Name "isinstance" p) [a,.Name y p2] [] pos) (dIsE f ta):=⟨by
 refine(fc (BR LH) hg hm PyProof.Rows.boot_isinstance (bj ha.out (bj hb pa_nil i_) j3) Ik Ik j3 c_).anti λs H Q q=>?_;obtain⟨B,F,z,kf,rs,R,h1,h2⟩:=q;refine#[B,F,z,kf,rs,_,h1,λd u F1 H1 g1 hx rx=>?_];obtain⟨x,fs,k,rfl,hk,hR⟩:=hx;obtain⟨b,C,od,vs,rfl,hn,OH,rf,Lo⟩:=rep_exc.mp rx;obtain⟨C',cd,j7,hE,LI⟩:=hf x k hk;rw[hn]at j7;cases j7;refine#[b,C,cd,od,k,rfl,g1.fh _ _ OH,hE,λd e=>?_,LI,h2 _ _ F1 H1 g1 hR (rep_bl.mpr rfl)];rcases Lo with⟨e2,_⟩|⟨b',e2,i6⟩
 .rw[e2]at e;cases e
 .rw[e2]at e;cases e;exact#[_,g1.fh _ _ i6]⟩
def dL[Jx](h:∃D,X.mg y=be (.ref D)/\IsF X.K f (.ref D))(hm:X.mg "isinstance"=p7)(ha:WDE X a ta)(hg:autoParam (Gl X "isinstance") zA0)(JA:autoParam (Gl X y) zA0)(e8:autoParam (zND y) zA1)
  (j3:autoParam (P1 [a,.Name y p2] X.env=(false,P7 a X.env)::P1 [.Name y p2] X.env) zA0) (i_:autoParam (P1 [.Name y p2] X.env=(false,P7 (.Name y p2) X.env)::P1 [] X.env) zA0) (c_:autoParam ((QM pos (P1 [.Name y p2] X.env)).any (·.1)=false) zA0):WDE X (.Call (.Name "isinstance" p) [a,.Name y p2] [] pos) (dIsE f ta):=
 let ⟨D,hD,hf⟩:=h
 sT (cv:=.ref D) hf (λ_ r=>r) (oq JA hD rfl e8) hm ha hg j3 i_ c_
def BS[Jx](hf:IsF X.K f (.type "ValueError"))(hm:X.mg "isinstance"=p7)(K':X.mg "ValueError"=p7)(ha:WDE X a ta)(hg:autoParam (Gl X "isinstance") zA0)(JA:autoParam (Gl X "ValueError") zA0)
  (j3:autoParam (P1 [a,.Name "ValueError" p2] X.env=(false,P7 a X.env)::P1 [.Name "ValueError" p2] X.env) zA0) (i_:autoParam (P1 [.Name "ValueError" p2] X.env=(false,P7 (.Name "ValueError" p2) X.env)::P1 [] X.env) zA0) (c_:autoParam ((QM pos (P1 [.Name "ValueError" p2] X.env)).any (·.1)=false) zA0):WDE X (.Call (.Name "isinstance" p) [a,.Name "ValueError" p2] [] pos) (dIsE f ta):=
 sT (cv:=.ty "ValueError") hf (λ_ r=>r) (ot JA K' rfl rfl) hm ha hg j3 i_ c_
end
section
variable {K:Ef}{mg:E_->Option KB}{x y:E_}{h:P4}{C D:KM}{b:Bool}{al:List (E_×Bool)}{c:KB}
def cV:IsF K [] c:=λ_ _ e=>nomatch e
def cX(h:∃C cd,nsIn K Pi x=be (be (.ref C))/\IsE K C cd/\kitOne K (.ref C) c=be b)(r:IsF K al c):IsF K ((x,b)::al) c:=λx' k e=>by
 cases e with
 |head=>exact h
 |tail _ e=>exact r x' k e
def ExIn(K:Ef)(x:E_):Prop:=∃C,NsC K x C/\Ey K (.ref C) "__getattribute__"=be (be (.builtin "BaseException.__getattribute__"))/\Ey K (.ref C) "__getattr__"=be p7/\
 Ey K (.ref C) "__class__"=be (be (.builtin "object.__class__"))/\FC K (.builtin "object.__class__") "__get__"=be (be (.builtin "getset_descriptor.__get__"))/\FD K (.builtin "object.__class__")=be true
def exIn_mk(a:nsIn K Pi x=be (be (.ref C)))(b:Ey K (.ref C) "__getattribute__"=be (be (.builtin "BaseException.__getattribute__")))(c:Ey K (.ref C) "__getattr__"=be p7)
  (d:Ey K (.ref C) "__class__"=be (be (.builtin "object.__class__"))) (e:FC K (.builtin "object.__class__") "__get__"=be (be (.builtin "getset_descriptor.__get__"))) (f:FD K (.builtin "object.__class__")=be true):ExIn K x:=#[C,a,b,c,d,e,f]
def YeIn(K:Ef)(y:E_):Prop:=∃D,NsC K y D/\hasDictIn K D=true/\typeIn K (.ref D)=be (.type "type")
def yeIn_mk(a:nsIn K Pi y=be (be (.ref D)))(b:hasDictIn K D=true)(c:typeIn K (.ref D)=be (.type "type")):YeIn K y:=#[D,a,b,c]
def ErrK.isE{N:KM}{bm:List KB}(k:ErrK K mg x C N bm)(e:ExIn K x):∃cd,IsE K C cd/\cd.mro=.ref C::bm:=by
 obtain⟨C',h1,h2,h3,h4,h5,h6⟩:=e;cases NsC.uniq k.ns h1;obtain⟨nm,q,bs,sn,sub,ab,col,dd,k0,k1,k2,k3,k5,lk⟩:=k.obj;exact#[_,#[by unfold GT;rw[lk],by show Exc.excMro (.ref C::bm)=true;unfold Exc.excMro;exact jD k.tail,h2,h3,h4,h5,h6],rfl]
def isY(e:∃C N bm,ErrK K mg x C N bm)(ex:ExIn K x)(nD:NsC K y D)(hD:hasDictIn K D=true)(ty:typeIn K (.ref D)=be (.type "type"))(m:EmIn K x y)(hb:subE x y=b):∃C cd,nsIn K Pi x=be (be (.ref C))/\IsE K C cd/\kitOne K (.ref C) (.ref D)=be b:=by
 obtain⟨C,N,bm,k⟩:=e;obtain⟨cd,hE,hm⟩:=k.isE ex;obtain⟨C',D',h1,h2,h3⟩:=m;cases NsC.uniq k.ns h1;cases NsC.uniq nD h2;refine#[C,cd,k.ns,hE,?_];rw[hb]at h3;unfold kitOne;split
 .rename_i q;have e:C=D:=Value.ref.inj (beq_iff_eq.mp q);subst e;unfold ES at h3;rw[hE.cl,Fs,hm]at h3;simpa using h3
 .unfold kitCls;obtain⟨OF,y_,_⟩:=any_some hD;dsimp only;rw[y_,ty,if_pos Iq];exact h3
def isVE(e:∃C N bm,ErrK K mg x C N bm)(ex:ExIn K x):∃C cd,nsIn K Pi x=be (be (.ref C))/\IsE K C cd/\kitOne K (.ref C) (.type "ValueError")=be true:=by
 obtain⟨C,N,bm,k⟩:=e;obtain⟨cd,hE,hm⟩:=k.isE ex;refine#[C,cd,k.ns,hE,?_];unfold kitOne;rw[if_neg (by intro q;cases beq_iff_eq.mp q)];unfold kitCls;dsimp only;rw[if_pos Ip];show ES K C _=_;unfold ES;rw[hE.cl,Fs,if_neg (by rw[hm];simp),Exc.exc_has Ip hE.mro]
end
abbrev Bx.j(V:Bx)(y:E_)(al:List (E_×Bool)):Prop:=∃D,V.mg y=be (.ref D)/\IsF V.K al (.ref D)
abbrev Bx.jv(V:Bx)(al:List (E_×Bool)):Prop:=IsF V.K al (.type "ValueError")
end My
namespace L2
open My Exc
section
variable {prog:PZ}{w:P2}{A:P3}{R:Rq->KF->Prop}{s:KF}
def BT{d_ d6 iter:PV}{ifs:List PV}{scope:Qk}{pos:Qa}{it k_:KB}{env:QN}(I:Nat->KF->Prop)
  (c9:∀n s,I n s->PY (PU prog w) A (pyNext it) (λr s₁=>match r with
   |none=>R (.ok .next) s₁
   |some v=>PY (PU prog w) A (QE d6 it v) (λ_ s₁'=>PY (PU prog w) A (Qw d6 env v) (λ_ s₂=>PY (PU prog w) A (js ifs env) (λok s₂'=>if ok=true then PY (PU prog w) A (P7 d_ env) (λx s₃=>
     PY (PU prog w) A (call (.builtin "list.append") [k_,x]) (λ_ s₄=>∃m,m<n/\I m s₄) (λ_ _=>False) s₃)
     (notedBy (PU prog w) A env λe s'=>R (.error e) s') s₂' else ∃m,m<n/\I m s₂') (λ_ _=>False) s₂) (λ_ _=>False) s₁') (λ_ _=>False) s₁) (λ_ _=>False) s)
  (n:Nat) (h:I n s):
  QJ (PU prog w) A (.compLoop (.ListComp d_ [#[d6,iter,ifs,0]] scope pos) 0 it k_ env) R s:=by
 refine codeAny_loop rfl I (λn s hI=>?_) n h;show PY _ _ ((compTurn (.ListComp d_ [#[d6,iter,ifs,0]] scope pos) 0 it k_ env).onRaise (λx=>do Qv x env;theTreesLotGoes x)) _ _ s;refine wpAny_noted ?_;rw[compTurn_list];refine Os (Qn (Os (P8 (c9 n s hI) (λr s₁ h₁=>?_) λ_ _ h'=>h'.elim)));cases r with
 |none=>exact PX h₁
 |some v=>
  refine Os (P8 h₁ (λ_ s₁' h₁'=>Os (P8 h₁' (λ_ s₂ h₂=>Os (P8 h₂ (λok s₃ h₃=>?_) λ_ _ h'=>h'.elim)) λ_ _ h'=>h'.elim)) λ_ _ h'=>h'.elim);cases ok with
  |false=>exact PX #[rfl,h₃]
  |true=>
   exact Os (Os (P8 h₃ (λx s₄ h₄=>Os (P8 h₄ (λ_ s₅ h₅=>PX (PX #[rfl,h₅])) λ_ _ h'=>h'.elim)) λ_ _ h'=>h'))
end
section
variable {X:Cx}
variable{x:E_}{scope:Qk}{pins:List (KM×Qc)}{cl:List (E_×KM)}{fp:List KM}
def BU{d_ iter:PV}{ifs:List PV}{px:Qa}{pos:Qa}{tt:TT}{telt:TE}{s2:KF}{σ:St}{H1:Hp}{it:KM}{tn:Nat->P4->Prop}{J:It}{Qs:Hp->Prop}{R:Rq->KF->Prop}{W:Nat->Nat->Hp->Prop}{m0:Nat}{h₁:P4}{xe:KB->KF->Prop}(hc:X.calm=true)(S:CompScope X scope x)
  (hq:∀cl s₀ H₀ fp,PIf (bg X scope cl x s₀ H₀ fp) ifs tt) (he:∀pn,(∀b∈fp,∃o,(b,o)∈pn)->PE ((bg X scope cl x {s2 with heap:=s2.heap.push {cls:=.type "list",data:=.seq ([]:List KB).toArray},toks:=s2.toks} (upd H1 s2.heap.objs.size (.lst [])) fp).tried pn xe) d_ telt) (Kw:∀e s',xe e s'->notedBy (PU X.prog X.w) X.A (QU scope cl (s2.heap.push {cls:=.type "list",data:=.seq ([]:List KB).toArray}).objs.size X.env) (λe s'=>R (.error e) s') e s') (c1:∀n c,cl.lookup n=be c->X.env.cells.lookup n=be c) (c2:∀n,(n,NameKind.free)∈scope.names->∃c,cl.lookup n=be c)
  (I1:Inv X pins σ H1 s2) (T:Turn X.prog X.w X.K (.Name x px) J fp it tn) (st:tn 0 s2.heap) (f1:∀b∈fp,FpOk X pins H1 b) (w0:W 0 m0 (upd H1 s2.heap.objs.size (.lst [])))
  (step:∀i m H,W i m H->(J.stop i H/\Qs H)\/(J.go i H/\∀x H',J.yld i H x H'->tt (σ++[be x]) H' λb H1=>if b=true then telt (σ++[be x]) H1 λy H''=>∃vs,H'' s2.heap.objs.size=be (.lst vs)/\vs.length<sizeLine/\∃m',m'<m/\W (i+1) m' (upd H'' s2.heap.objs.size (.lst (vs++[y])))else ∃m',m'<m/\W (i+1) m' H1))
  (I4:Inv (bg X scope cl x {s2 with heap:=s2.heap.push {cls:=.type "list",data:=.seq ([]:List KB).toArray},toks:=s2.toks} (upd H1 s2.heap.objs.size (.lst [])) fp) [] (σ++[p7]) (upd H1 s2.heap.objs.size (.lst [])) {s2 with heap:=h₁,toks:=s2.toks+([]:List (E_×KB)).length}) (t0:tn 0 h₁)
  (Ir:∀H' s4 m,Inv X pins σ H' s4->s4.heap.Ns (s2.heap.push {cls:=.type "list",data:=.seq ([]:List KB).toArray}).objs.size m->H' (s2.heap.push {cls:=.type "list",data:=.seq ([]:List KB).toArray}).objs.size=p7->Qs H'->R (.ok .next) s4):
  QJ (PU X.prog X.w) X.A (.compLoop (.ListComp d_ [#[.Name x px,iter,ifs,0]] scope pos) 0 (.ref it) (.ref s2.heap.objs.size) (QU scope cl (s2.heap.push {cls:=.type "list",data:=.seq ([]:List KB).toArray}).objs.size X.env)) R {s2 with heap:=h₁,toks:=s2.toks+([]:List (E_×KB)).length}:=by
 have fI:∀b∈fp,b<s2.heap.objs.size:=λb hb=>by
  obtain⟨o,ho,_⟩:=T.obj _ _ st b hb;exact Heap.lt_size ho
 have I3:Inv X pins σ (upd H1 s2.heap.objs.size (.lst [])) {s2 with heap:=s2.heap.push {cls:=.type "list",data:=.seq ([]:List KB).toArray},toks:=s2.toks}:=I1.lnew (its:=[]) (ys:=[]) .nil (EI _);have g8:∀b∈fp,b<(s2.heap.push {cls:=.type "list",data:=.seq ([]:List KB).toArray}).objs.size:=λb hb=>by
  rw[Heap.size_push];exact FI (fI b hb)
 have k6:∀b∈fp,FpOk X pins (upd H1 s2.heap.objs.size (.lst [])) b:=λb hb=>#[MX,(f1 b hb).2];have z9:=jt (x:=x) (fp:=fp) I3 S c1 c2 k6 g8;generalize hY:bg X scope cl x {s2 with heap:=s2.heap.push {cls:=.type "list",data:=.seq ([]:List KB).toArray},toks:=s2.toks} (upd H1 s2.heap.objs.size (.lst [])) fp=Y at I4 z9 he;have yP:Y.prog=X.prog:=JC
 have yW:Y.w=X.w:=JC
 have yK:Y.K=X.K:=JC
 have yA:Y.A=X.A:=JC
 have yN:Y.N=X.N.map (λn=>if n=x then("":E_)else n)++[x]:=JC
 have yE:Y.env=QU scope cl (s2.heap.push {cls:=.type "list",data:=.seq ([]:List KB).toArray}).objs.size X.env:=JC
 have yX:Y.xe=λ_ _=>False:=JC
 have yC:Y.calm=true:=by rw[<-hY];exact hc
 have JD:Y.ex=fp:=JC
 have La:Y.pn=[]:=JC
 have Lb:Y.fs=frs X.stack:=JC
 have Lc:Y.H₀=upd H1 s2.heap.objs.size (.lst []):=JC
 have JE:Y.s₀={s2 with heap:=s2.heap.push {cls:=.type "list",data:=.seq ([]:List KB).toArray},toks:=s2.toks}:=JC
 have Ld:PIf Y ifs tt:=by rw[<-hY];exact hq _ _ _ _
 have g_:∀{H':Hp},(∀b∈fp,H' b=p7)->∀b∈fp,FpOk Y [] H' b:=λ{H'} hn b hb=>by
  have i6:b∈Y.ex:=by rw[JD];exact hb
  exact#[hn b hb,(z9.exf b i6).1,z9.exfs b i6,.inl i6,λn c e=>(z9.exf b i6).2 n c e,by rw[La];simp]
 have v_:Y.env.scope.names.lookup x=be .local:=by rw[yE];exact Rv S.own
 have JF:Y.N[X.N.length]?=be x:=by rw[yN];simp
 have Le:Y.N.Nodup:=by rw[yN];exact S.nd
 have Iu:Y.env.locals=(s2.heap.push {cls:=.type "list",data:=.seq ([]:List KB).toArray}).objs.size:=by rw[yE];rfl
 have e_:∀(o:Option V) (H':Hp) (s':KF),Inv Y [] (σ++[o]) H' s'->Inv X pins σ H' s':=λo H' s' I'=>by
  have bs:=I'.base;rw[Lb,JD,Lc,JE]at bs;refine I3.call' (ch:=fp) ?_ bs ?_ I'.bare ?_
  .have:=I'.os;rw[JE]at this;exact this
  .have:=I'.hok;rw[yP,yW]at this;exact this
  .exact λb hb=>#[(k6 b hb).2.2.2.1,(k6 b hb).2.1,(k6 b hb).2.2.2.2.1,(k6 b hb).2.2.2.2.2]
 refine BT (λn s'=>∃i o H',Inv Y [] (σ++[o]) H' s'/\tn i s'.heap/\(∀b∈fp,H' b=p7)/\W i n H') ?_ m0 #[0,p7,_,I4,t0,λb hb=>(k6 b hb).1,w0];rintro n s3⟨i,o,H3,I5,t3,f3,w3⟩;rcases step i n H3 w3 with⟨stop,q⟩|⟨go,q⟩
 .have dn:=T.done Y yP yW yK yC i [] s3 _ H3 (λ_ _=>False) I5 (g_ f3) t3 stop;rw[yA]at dn;refine thn dn λr s4 b_=>?_;obtain⟨hr,I6⟩:=b_;subst hr;obtain⟨m,hn,_⟩:=I6.loc;have hfr:=I6.free;rw[Iu]at hn hfr;exact Ir H3 s4 m (e_ o H3 s4 I6) hn hfr q
 .have JH:=T.item Y yP yW yK yC i [] s3 _ H3 (λ_ _=>False) I5 (g_ f3) t3 go;rw[yA]at JH;refine thn JH λr s4 b_=>?_;obtain⟨u,hr,h4⟩:=b_;subst hr;refine thn h4 λ_ s5 b_=>?_;obtain⟨xv,H5,I6,r5,y5,m8,Jp⟩:=b_;have Lf:=I6.pinned (g_ Jp) (T.obj _ _ m8);rw[<-yE];refine QI (cZ Lf Le JF (.inl v_) r5 (λs6 I7=>?_) (.inr v_));have Iv:(σ++[o]).set X.N.length (be xv)=σ++[be xv]:=by
   rw[<-I1.len];simp
  rw[Iv]at I7;have tv:=Ld _ s6 _ H5 _ I7 (q xv H5 y5);rw[yP,yW,yA,yX]at tv;refine thn tv λb Ks b_=>?_;obtain⟨Lg,Hx,qb⟩:=b_;cases b with
  |false=>
   obtain⟨m',hm,w7⟩:=qb;refine#[m',hm,i+1,be xv,_,Hx.unpinned,T.keep _ _ _ m8 λb hb ob e=>(Hx.pin (b,ob) (Es _ (Es _ (bX hb e)))).1,λb hb=>?_,w7];obtain⟨ob,e,d⟩:=T.obj _ _ m8 b hb;exact(Hx.pin (b,ob) (Es _ (Es _ (bX hb e)))).2.1
  |true=>
  have ev:PY (PU Y.prog Y.w) Y.A (P7 d_ Y.env) (EP (Y.tried (Y.pn++([]++eZ fp s5.heap)) xe) [] _ _) xe Ks:=he _ (λb hb=>let ⟨o,e,_⟩:=T.obj _ _ m8 b hb;#[o,Es _ (Es _ (bX hb e))]) [] Ks _ Lg _ (Inv.tried Hx) qb;rw[yP,yW,yA]at ev;refine P8 ev (λyv s7 b_=>?_) (λe s7 q=>?_)
  rotate_left
  .rw[yE];exact Kw e s7 q
  obtain⟨y,H6,OI,ry,vs,Lh,c5,m',hm,w7⟩:=b_;have I8:=Inv.untried z9 OI;have ap:=fR (X:=Y) _ s7 _ H6 (.ref s2.heap.objs.size) [y] (.ref s2.heap.objs.size) [yv] (λ_ H7=>H7=upd H6 s2.heap.objs.size (.lst (vs++[y]))) I8 rfl (.cons ry .nil) #[_,vs,y,rfl,rfl,Lh,c5,rfl];rw[yP,yW,yA,yX]at ap;refine thn ap λ_ s8 b_=>?_;obtain⟨_,H7,I9,_,e7⟩:=b_;subst e7;refine#[m',hm,i+1,be xv,_,I9.unpinned,T.keep _ _ _ m8 λb hb ob e=>(I9.pin (b,ob) (Es _ (Es _ (bX hb e)))).1,λb hb=>?_,w7];obtain⟨ob,e,d⟩:=T.obj _ _ m8 b hb;exact(I9.pin (b,ob) (Es _ (Es _ (bX hb e)))).2.1
def sU(X:Cx)(Jj:Jx)(σ:St):Prop:=∀(z:SD) (F' H':Hp) (s':KF) (e C:KM) (od:Option KM) (y:E_) (fs:List (E_×D)),@Kept Jj Jj.B Jj.F0 F' H'->Jj.RX z y fs->ErrD X.K F' y fs C od->Inv X [] σ H' s'->Exd X H' s' e C od->X.xe (.ref e) s'
def BV(X:Cx)(wi:TI)(telt:Jx->TE):TE:=λσ H Q=>wi σ H λJ H1=>∃Jj:Jx,sU X Jj σ/\∀D,H1 D=p7->∃W:Nat->Nat->Hp->Prop,(∃m,W 0 m (upd H1 D (.lst [])))/\∀i m H,W i m H->
 (J.stop i H/\Q (.ref D) H)\/(J.go i H/\∀x H',J.yld i H x H'->telt Jj (σ++[be x]) H' λy H''=>∃vs,H'' D=be (.lst vs)/\vs.length<sizeLine/\∃m',m'<m/\W (i+1) m' (upd H'' D (.lst (vs++[y]))))
def BW{M:Rj}{A:P3}{E:KB->KF->Prop}{s:KF}{e C T:KM}{od f:Option KM}{fl:KB}{Q:Unit->KF->Prop}(hx:ExAt s.heap e C od T fl)(h:∀h',ExAt h' e C od T (f.elim .none λf=>QD f)->Stay [] [T] s.heap h'->Q () {s with heap:=h'}):PY M A (QP (.ref e) f) Q E s:=by
 obtain⟨sl,vs,oT,ts,he,h1,m9,hT,gt,h3⟩:=hx;have Im:3<ts.size:=(FG.mp h3).1;unfold QP;refine Os (Qp he rfl h1 ?_);rw[if_pos (show(Value.ref T !=Value.none)=true from Iq)];refine QF hT gt Im (h _ ?_ ?_)
 .exact#[sl,vs,_,_,(Heap.get?_update_other _ _ m9).trans he,h1,m9,Heap.get?_update_self _ hT (Obj.isFreed_of_fields (Obj.data_mapFields gt _)),Obj.data_mapFields gt _,by simp[Im]]
 .have other:∀b o,b∉[T]->s.heap.get? b=be o->(s.heap.update T (Obj.mapFields (·.setIfInBounds 3 (f.elim Value.none λf=>QD f)))).get? b=be o:=λb o hb q=>(Heap.get?_update_other _ _ (λz=>hb (by simp[z]))).trans q;refine#[λb o q n _=>other b o n q,λb o q n=>#[o.slots,other b o n q],λb o q=>?_];by_cases hb:b=T
  .subst hb;exact#[_,Heap.get?_update_self _ hT (Obj.isFreed_of_fields (Obj.data_mapFields gt _))]
  .exact#[o,other b o (by simp[hb]) q]
def BX{pn:List (KM×Qc)}{σ:St}{s2:KF}{H1:Hp}{Jj:Jx}{Q:VK}{k_:KB}(hf:sU X Jj σ)(hex:X.ex=[])(hstk:X.stack=X.env::X.outer)(hfr:X.env.frame=be X.env.locals)
  (I3:Inv X pins σ H1 s2) (KD:∀b∈fp,FpOk X pins H1 b) (hD:H1 s2.heap.objs.size=p7):
  @XOk ((bg X scope cl x s2 H1 fp).tried pn (notedBy (PU X.prog X.w) X.A (QU scope cl s2.heap.objs.size X.env) λe s'=>Rb (PU X.prog X.w) X.A X.xe p7 (EP X pins σ Q) k_ s2.heap.objs.size (.error e) s')) Jj:=by
 intro σ' z F' H' s' e C od y fs I kk rr hR er ⟨He,e0,eP,hd⟩;have I0:Inv X pins σ H' s':=I3.call' (ch:=fp) I.os I.base I.hok I.bare λb hb=>#[(KD b hb).2.2.2.1,(KD b hb).2.1,(KD b hb).2.2.2.2.1,(KD b hb).2.2.2.2.2];have stk:s'.heap.FunFrames X.base (X.env::X.outer):=by rw[<-hstk];exact I0.stack
 have JP:X.A.frames=be (X.env::X.outer):=by rw[<-hstk];exact I0.ok.frames
 obtain⟨m,hn,_⟩:=I.loc;have hn:s'.heap.Ns s2.heap.objs.size m:=hn;have hL:H' s2.heap.objs.size=none:=I.free;have nS:∀b o,s2.heap.get? b=be o->b≠s2.heap.objs.size:=λb o q=>El (Heap.lt_size q);have e0:s2.heap.get? e=none:=e0;have eP:∀p∈X.pn++pins,p.1≠e:=λp hp z=>by
  have:=(I3.pin p hp).1;rw[z,e0]at this;cases this
 have OJ:s2.heap.objs.size∉frs (X.env::X.outer):=λhm=>by
  have f3:s2.heap.FunFrames X.base (X.env::X.outer):=by rw[<-hstk];exact I3.stack
  obtain⟨_,o,ho,_⟩:=f3.mem hm;exact nS _ _ ho rfl
 have post:∀(h2:P4) (T2:KM) (ex:List KM),(∀b∈ex,H' b=p7/\X.s₀.heap.get? b=p7/\(∃o vs,s'.heap.get? b=be o/\o.data=.fields vs)/\∀p∈X.pn++pins,p.1≠b)->ExAt h2 e C od T2 (QD X.env.locals)->(H' T2=p7/\X.s₀.heap.get? T2=p7/\∀p∈X.pn++pins,p.1≠T2)->Stay (frs (X.env::X.outer)) ex s'.heap h2->
   Rb (PU X.prog X.w) X.A X.xe p7 (EP X pins σ Q) k_ s2.heap.objs.size (.error (.ref e)) {s' with heap:=h2}:=by
  intro h2 T2 ex g7 j_ m_ j8;obtain⟨HS,T0,TP⟩:=m_;have I2:Inv X pins σ H' {s' with heap:=h2}:=Inv.stay I0 j8 (λb hb=>by rw[hstk];exact hb) (λb hb=>(g7 b hb).1) (λb hb=>(g7 b hb).2.1) (λb hb=>let ⟨_,_,q1,q2⟩:=(g7 b hb).2.2.1;eA I0 q1 q2) (λb hb=>let ⟨_,_,q1,q2⟩:=(g7 b hb).2.2.1;fld_cell I0 q1 q2) (λb hb=>(g7 b hb).2.2.2);have z7:h2.Ns s2.heap.objs.size m:=hn.at λo ho=>j8.keep _ o ho (λhb=>by
   obtain⟨o',vs,q1,q2⟩:=(g7 _ hb).2.2.1;obtain⟨o2,es,ep,q3,q4,_⟩:=hn;rw[q1]at q3;cases q3;rw[q2]at q4;cases q4) OJ
  refine#[m,z7,λh' hsb OK _=>?_];have LJ:Inv X pins σ H' {s' with heap:=h'}:=Inv.turned (s:={s' with heap:=h2}) (h':=h') (t':=s'.toks) (it:=s2.heap.objs.size) I2 (λb ob hb q=>(hsb.2 b hb).trans q) hL (E3 I3.lt) (.inr I3.sz) (λz c q=>by
   obtain⟨vv,oo,ho,_⟩:=I3.cell z c q;exact nS _ _ ho) λp hp=>nS _ _ (I3.pin p hp).1
  obtain⟨sl,vs,oT,ts,q1,q2,q3,q4,q5,q6⟩:=j_;have ns:∀{b:KM} {o:Qc} {ws:Array KB},h2.get? b=be o->o.data=.fields ws->b≠s2.heap.objs.size:=λ{b o ws} r1 r2 r3=>by
   obtain⟨o2,es,ep,r4,r5,_⟩:=z7;rw[<-r3,r1]at r4;cases r4;rw[r2]at r5;cases r5
  have ge:ExAt h' e C od T2 (QD X.env.locals):=#[sl,vs,oT,ts,(hsb.2 _ (ns q1 rfl)).trans q1,q2,q3,(hsb.2 _ (ns q4 q5)).trans q4,q5,q6];show PY _ _ (PySem.passOn _ _ _) _ _ _;unfold PySem.passOn;refine Os (Qp (s:={s' with heap:=h'}) ge.choose_spec.choose_spec.choose_spec.choose_spec.1 rfl ge.choose_spec.choose_spec.choose_spec.choose_spec.2.1 ?_);rw[if_neg (show¬((Value.ref T2==Value.none)=true)from Iq)];refine Os (BW (s:={s' with heap:=h'}) ge λh3 Io t6=>wpAny_throw ?_);have I4:Inv X pins σ H' {s' with heap:=h3}:=Inv.stay (s:={s' with heap:=h'}) LJ t6 (λb hb=>by cases hb) (λb hb=>by rw[Eh.mp hb];exact HS) (λb hb=>by rw[Eh.mp hb];exact T0) (λb hb=>by rw[Eh.mp hb];exact eA LJ ((hsb.2 _ (ns q4 q5)).trans q4) q5) (λb hb=>by rw[Eh.mp hb];exact fld_cell LJ ((hsb.2 _ (ns q4 q5)).trans q4) q5) (λb hb=>by rw[Eh.mp hb];exact TP);exact hf z F' H' _ e C od y fs kk hR er (Inv.nopins I4) #[He,bO I3 hex e0,λp hp=>eP p (E2 _ hp),.inr #[T2,_,Io,T0,HS,λp hp=>TP p (E2 _ hp)]]
 have new:∀T2,s'.heap.objs.size<=T2->H' T2=p7/\X.s₀.heap.get? T2=p7/\∀p∈X.pn++pins,p.1≠T2:=λT2 z=>
  have z8:s'.heap.get? T2=none:=Heap.get?_none_of_le z
  ⟨jC I0.hok z8,bO I0 hex z8,λp hp z=>by
   have:=(I0.pin p hp).1;rw[z,z8]at this;cases this⟩
 show PY _ _ (Qv (.ref e) X.env) _ _ _;rcases hd with⟨sl,vs,he,hv⟩|⟨T,fl,HC,T0,HT,TP⟩
 .refine jd JP stk hfr he hv λh2 T2 j_ m_ j8=>post h2 T2 [e] (λb hb=>?_) j_ (new T2 m_) j8;rw[Eh.mp hb];exact#[He,bO I3 hex e0,#[_,_,he,rfl],eP]
 .obtain⟨sl,vs,oT,ts,he,g1,m9,hT,gt,g3⟩:=id HC;have T0:s2.heap.get? T=none:=T0;have tP:∀p∈X.pn++pins,p.1≠T:=λp hp z=>by
   have:=(I3.pin p hp).1;rw[z,T0]at this;cases this
  refine note_next JP stk hfr HC λh2 T2 j_ m_ j8=>post h2 T2 [T,e] (λb hb=>?_) j_ (m_.elim (λz=>by rw[z];exact#[HT,bO I3 hex T0,tP]) (new T2)) j8;rcases Ei.mp hb with z|z
  .rw[z];exact#[HT,bO I3 hex T0,#[_,_,hT,gt],tP]
  .rw[Eh.mp z];exact#[He,bO I3 hex e0,#[_,_,he,rfl],eP]
def BY{d_ iter:PV}{px:Qa}{pos:Qa}{wi:TI}{telt:Jx->TE}(hc:X.calm=true)(S:CompScope X scope x)(hi:PI X (.Name x px) iter wi)
  (he:∀cl s₀ H₀ fp pn xe (Jj:Jx),(∀b∈fp,∃o,(b,o)∈pn)->@XOk ((bg X scope cl x s₀ H₀ fp).tried pn xe) Jj->PE ((bg X scope cl x s₀ H₀ fp).tried pn xe) d_ (telt Jj)) (hs:autoParam (∀y,zFS X iter y) zA2) (hex:autoParam (X.ex=[]) zA0) (hstk:autoParam (X.stack=X.env::X.outer) zA0) (hfr:autoParam (X.env.frame=be X.env.locals) zA0):
  PE X (.ListComp d_ [#[.Name x px,iter,[],0]] scope pos) (BV X wi telt):=by
 intro pins s σ H Q I h;obtain⟨cl,q8,c1,c2⟩:=closure_is (env:=X.env) (scope:=scope) (λn q=>I.ok.has n (.inl (S.free n q)));rw[eval_ListComp];refine QL (use:=p7) rfl hs q8 S.kind S.names (thn (hi pins s σ H _ I h) λv s1 h1=>thn h1 λJn s2 h2=>?_);obtain⟨it,fp,tn,J,H1,e,I1,T,st,f1,Jj,hf,hr⟩:=h2;subst e;have fI:∀b∈fp,b<s2.heap.objs.size:=λb hb=>by
  obtain⟨o,ho,_⟩:=T.obj _ _ st b hb;exact Heap.lt_size ho
 have hD:H1 s2.heap.objs.size=none:=I1.hok.fresh (Eg _);obtain⟨W,⟨m0,w0⟩,step⟩:=hr _ hD;refine P_ (QT S.nocell (by intro y hy;simp at hy) (λh₁ hns₁ hsb₁=>?_) S.kind);have I3:Inv X pins σ (upd H1 s2.heap.objs.size (.lst [])) {s2 with heap:=s2.heap.push {cls:=.type "list",data:=.seq ([]:List KB).toArray},toks:=s2.toks}:=I1.lnew (its:=[]) (ys:=[]) .nil (EI _);have g8:∀b∈fp,b<(s2.heap.push {cls:=.type "list",data:=.seq ([]:List KB).toArray}).objs.size:=λb hb=>by
  rw[Heap.size_push];exact FI (fI b hb)
 have k6:∀b∈fp,FpOk X pins (upd H1 s2.heap.objs.size (.lst [])) b:=λb hb=>#[MX,(f1 b hb).2];have kp:∀b o,(s2.heap.push {cls:=.type "list",data:=.seq ([]:List KB).toArray}).get? b=be o->h₁.get? b=be o:=λb o e=>
  (hsb₁.2 b (El (Heap.lt_size e))).trans (Heap.get?_push_of_some _ e)
 have I4:=ju (x:=x) (fp:=fp) (t':=s2.toks+([]:List (E_×KB)).length) I3 S c1 c2 k6 g8 hns₁ kp;have q9:(s2.heap.push {cls:=.type "list",data:=.seq ([]:List KB).toArray}).objs.size≠X.env.locals:=E3 I3.lt;have q_:∀z c,X.env.cells.lookup z=be c->c≠(s2.heap.push {cls:=.type "list",data:=.seq ([]:List KB).toArray}).objs.size:=λz c e=>by
  obtain⟨vv,oo,ho,_⟩:=I3.cell z c e;exact El (Heap.lt_size ho)
 have w6:∀p∈X.pn++pins,p.1≠(s2.heap.push {cls:=.type "list",data:=.seq ([]:List KB).toArray}).objs.size:=λp hp=>El (Heap.lt_size (I3.pin p hp).1);have k9:=BU (ifs:=[]) (pos:=pos) (iter:=iter) (tt:=λ_ H Q=>Q true H) (telt:=telt Jj) (R:=Rb (PU X.prog X.w) X.A X.xe p7 (EP X pins σ Q) (.ref s2.heap.objs.size) (s2.heap.push {cls:=.type "list",data:=.seq ([]:List KB).toArray}).objs.size) hc S (λ_ _ _ _=>pif_nil) (λpn hp=>he _ _ _ _ pn _ Jj hp (BX hf hex hstk hfr I3 k6 (I3.hok.fresh (Eg _)))) (λ_ _ q=>q) c1 c2 I1 T st f1 w0 (λi m H w=>(step i m H w).imp id λ⟨a,b⟩=>#[a,λx H' y=>b x H' y]) I4 (T.keep _ _ _ st (λb hb ob e=>kp b ob (Heap.get?_push_of_some _ e))) λH' s4 m IX hn hfr q=>
  #[m,hn,λh' hsb=>#[.ref s2.heap.objs.size,H',IX.turned (t':=s4.toks) (it:=(s2.heap.push {cls:=.type "list",data:=.seq ([]:List KB).toArray}).objs.size) (λb ob hb e=>(hsb.2 b hb).trans e) hfr q9 (.inr I3.sz) q_ w6,rfl,q]]
 exact QR k9 (T.self _ _ _ _ _ (T.keep _ _ _ st (λb hb ob e=>kp b ob (Heap.get?_push_of_some _ e))) k9)
end
end L2
namespace My
open Exc
def sV{X:Cx}{pins:List (KM×Qc)}{σ:L2.St}{H:Hp}{s:KF}{b:KM}(I:Inv X pins σ H s)(hex:∀b∈X.ex,∃o,(b,o)∈X.pn)(q:s.heap.get? b=p7):X.s₀.heap.get? b=none:=by
 cases z:X.s₀.heap.get? b with
 |none=>rfl
 |some o=>
  by_cases hb:b∈X.ex
  .obtain⟨o',m⟩:=hex b hb;have:=(I.pin _ (E2 _ m)).1;rw[q]at this;cases this
  .obtain⟨o',z'⟩:=I.base.there b o z hb;rw[q]at z';cases z'
section
variable {X:Cx}[J:Jx]{pos:Qa}
def XOk.outC(hx:XOk X)(hex:∀b∈X.ex,∃o,(b,o)∈X.pn){pins:List (KM×Qc)}{σ:L2.St}{z:SD}{H:Hp}{s s':KF}{ev:KB}(I:Inv X pins σ H s)
  (h:CX1 X.prog X.w X.stack H s (λCv od H'=>∃x fs C F',Cv=.ref C/\Kept J.B J.F0 F' H'/\RepS X.K J.B F' H' z σ/\J.RX z x fs/\ErrD X.K F' x fs C od) ev s'):X.xe ev s':=by
 obtain⟨e,C,od,T,H',rfl,v7,hb,un,hok,JJ,ne,nT,He,HT,x,fs,C',F',hC,kk,rr,hR,er⟩:=h;cases hC;have I':Inv X pins σ H' s':=I.call' v7 un hok hb (λb z=>absurd z Iq);exact hx σ z F' H' s' e C od x fs (Inv.nopins I') kk rr hR er #[He,sV I hex ne,pn_free I ne,.inr #[T,.none,JJ,sV I hex nT,HT,pn_free I nT]]
def BZ{n m:Nat}{ps:List E_}{S:SpX}{x:E_}{p:Qa}{e:PV}{es:List PV}{t:TDA}(C:CalX X.prog X.w X.K X.mg X.base n x ps S)(hex:∀b∈X.ex,∃o,(b,o)∈X.pn)(hx:XOk X)(hr:Room m X.A)(ha:WDA X (e::es) t)(hg:autoParam (Gl X x) zA0)(hn:autoParam (n<=m) zA1)(e8:autoParam (zND x) zA1)
  (he:autoParam (zSE X e es) zA0) (c_:autoParam (zPL X pos es) zA0):WDE X (.Call (.Name x p) (e::es) [] pos) (qM S t):=⟨by
 have ha:=ha.out;obtain⟨f,fd,F,hb,hk,hm⟩:=C;intro pins s σ H Q I h;obtain⟨B,Fr,z,kf,rs,R,h1,h2⟩:=h;obtain rfl:B=J.B:=kf.eb;refine Qb (cG I hg hm ?_ e8);refine callWith_K (h₀:=X.base) I.ok.mod.kin hk (thn (ha pos pins s σ H (λvs H1=>lSpX X.K S vs H1 Q (λCv od H'=>∃x fs C F',Cv=.ref C/\Kept J.B J.F0 F' H'/\RepS X.K J.B F' H' z σ/\J.RX z x fs/\ErrD X.K F' x fs C od)) I #[_,Fr,z,kf,rs,_,h1,λds vs F1 H1 g1 hx rx=>?_]) λus s1 ⟨vs,H1,I1,r,q⟩=>#[I1.kIn,?_]) he c_
 .exact#[F1,ds,g1.fh,rx,R,J.RX z,hx,λd v F' H' g=>h2 d v F' H' (g1.trans g),λx fs C od F' H' g hR er=>#[x,fs,C,F',rfl,(kf.grow g1).grow g,(rs.grow g1).grow g,hR,er]]
 .exact fv F (hr.mono hn) hb (λe s' hq=>hx.outC hex I1 hq) I1 r q⟩
variable {d_ iter:PV}{x:E_}{px:Qa}{scope:Qk}{ti:TD}{te:Jx->TD}
def B0[J:Jx](ti:TDI)(te:Jx->TD):TD:=λz R=>NoOwn z/\ti z λitems=>∀J':Jx,(∀z',J'.RX z'=J.RX z)->cmpP (te J') z R items
def B1{p1 p2:Qa}(hc:X.calm=true)(S:CompScope X scope x)(hm:X.mg "range"=p7)(hi:WDE X iter ti)
  (he:∀cl s₀ H₀ fp pn xe (J':Jx),(∀b∈fp,∃o,(b,o)∈pn)->@XOk ((bg X scope cl x s₀ H₀ fp).tried pn xe) J'->@WDE ((bg X scope cl x s₀ H₀ fp).tried pn xe) J' d_ (te J')) (hx:XOk X) (hg:autoParam (Gl X "range") zA0)
  (hs:autoParam (∀y,zFS X (.Call (.Name "range" p1) [iter] [] p2) y) zA2) (n8:autoParam (zSE X iter []) zA0) (f9:autoParam (P1 [iter] X.env=[(false,P7 iter X.env)]) zA0)
  (hex:autoParam (X.ex=[]) zA0) (hstk:autoParam (X.stack=X.env::X.outer) zA0) (hfr:autoParam (X.env.frame=be X.env.locals) zA0):WDE X (.ListComp d_ [#[.Name x px,.Call (.Name "range" p1) [iter] [] p2,[],0]] scope pos) (B0 (dItR ti) te):=
 ⟨(BY (telt:=λJ'=>@lE X.K J' (te J')) hc S (fN hg hm (bj hi.out pa_nil n8) f9) (λcl s₀ H₀ fp pn xe J' hp hx=>(he cl s₀ H₀ fp pn xe J' hp hx).out) hs hex hstk hfr).anti λs H Q q=>by
 obtain⟨B,F,z,kf,rs,R,⟨no,h1⟩,h2⟩:=q;obtain rfl:B=J.B:=kf.eb;refine itR kf rs h1 λitems Ji F1 H1 g1 hg it=>#[#[H1,F1,λ_=>J.RX z],λz' F' H' s' e C od y fs kk hR er I hd=>?_,?_]
 .obtain⟨kb,OL,k0,ko,_,_,_⟩:=kk;have g:=g1.trans #[k0,OL,kb,ko];exact hx s z F' H' s' e C od y fs I (kf.grow g) (rs.grow g) hR er hd
 .have OM:@Kept #[H1,F1,λ_=>J.RX z] H1 F1 F1 H1:=@Kept.mk #[H1,F1,λ_=>J.RX z] _ _ _ _ (Same.refl H1) g1.fh (Same.refl F1) (λ_ h _=>h) rfl (Same.refl F1) (λ_ h _=>h);have G_:=@jy #[H1,F1,λ_=>J.RX z] X.K H1 F1 H1 F1 H1 z s Q R true dT1 (te #[H1,F1,λ_=>J.RX z]) Ji items OM (Grow.refl g1.fh) (let r:=rs.grow g1;#[r.len,r.val,λi ds e=>absurd e (no i ds),r.apart]) (λD ys us F' H' hH hF GG hu ry hR=>h2 (.lst ys) (.ref D) _ H' (g1.trans (qG GG hu hF hH)) hR (rep_lst.mpr #[D,us,rfl,aD,ry.mono (aO hF _)])) it (cmpP.g (hg #[H1,F1,λ_=>J.RX z] λ_=>rfl));intro D hD;obtain⟨W,w0,st⟩:=G_ D hD;refine#[W,w0,λi m H' w=>(st i m H' w).imp id λ⟨a,b⟩=>#[a,λx H'' y=>?_]];obtain⟨B2,F2,z2,⟨_,f2,_⟩,r2,P,p1,p2⟩:=b x H'' y;exact p2 true F2 H'' (Grow.refl f2) p1⟩
end
end My
end
section
namespace My
local macro_rules | `(tactic| k_memK) => `(tactic| exact⟨rfl, rfl, rfl, by decide +kernel, rfl, by decide +kernel, by decide +kernel⟩)
local macro_rules | `(tactic| k_places) => `(tactic| try simp only[EC, EE, My.aT])
open PySem PySem.Spec PyProof.Rows L2
def top(i:Nat):Stmt:=PySem.Challenge.pw_motiffield_k16_too_far.main.body.getD i (.Pass #[0,0,0,0])
abbrev ke:P0:=top 54
abbrev kg:List Str:=["_law_script","_law_k"]
def B3:FnScope ["_law_script","_law_k"] kg (ag ke):=Jv
abbrev kh:P0:=top 56
abbrev ki:List Str:=["_law_script","_law_k","_law_many"]
def sc__law_draws:FnScope ["_law_script","_law_k","_law_many","_law_left","_law_drawn","_law_turn","_law_seed"] ki (ag kh):=Jv
abbrev kj:P0:=top 59
abbrev km:List Str:=["_law_draws_here"]
def sc__law_lines:FnScope ["_law_draws_here","_law_wide","_law_tall","_law_signs","_law_lines_here","_law_j","_law_line","_law_i","_law_place","_law_value"] km (ag kj):=Jv
abbrev kq:P0:=top 57
abbrev kr:List Str:=["_law_draws_here"]
def sc__law_shift_pair:FnScope ["_law_draws_here","_law_a","_law_b","_law_c","_law_d"] kr (ag kq):=Jv
abbrev ku:P0:=top 58
abbrev ky:List Str:=["_law_lines_here","_law_one","_law_two"]
def sc__law_motif_text:FnScope ["_law_lines_here","_law_one","_law_two","_law_tail"] ky (ag ku):=Jv
abbrev kz:P0:=top 60
abbrev kA:List Str:=["_law_script","_law_k"]
def sc__law_motif:FnScope ["_law_script","_law_k","_law_draws_here","_law_lines_here","_law_one","_law_two","_law_leaf"] kA (ag kz):=Jv
abbrev gE:P0:=top 61
abbrev kB:List Str:=["_law_part","_law_draw"]
def sc__law_wrapped:FnScope ["_law_part","_law_draw","_law_across","_law_down","_law_old","_law_new","_law_shift","_law_head","_law_ways","_law_by","_law_leaves","_law_leaf","_law_a","_law_b","_law_c","_law_d","_law_e","_law_f","_law_way","_law_hues"] kB (ag gE):=Jv
abbrev kC:P0:=top 65
abbrev kD:List Str:=["_law_a","_law_b"]
def sc__law_gcd:FnScope ["_law_a","_law_b"] kD (ag kC):=Jv
abbrev kE:P0:=top 62
abbrev kF:List Str:=["_law_one","_law_two","_law_u","_law_v"]
def sc__law_on:FnScope ["_law_one","_law_two","_law_u","_law_v","_law_size"] kF (ag kE):=Jv
abbrev kG:P0:=top 67
abbrev kH:List Str:=["_law_leaf"]
def sc__law_leaf_family:FnScope ["_law_leaf","_law_a","_law_b","_law_c","_law_d","_law_e","_law_f","_law_one","_law_two","_law_high","_law_wide","_law_lean"] kH (ag kG):=Jv
abbrev kI:P0:=top 66
abbrev kJ:List Str:=["_law_three","_law_x","_law_y"]
def B4:FnScope ["_law_three","_law_x","_law_y"] kJ (ag kI):=Jv
abbrev kK:P0:=top 68
abbrev kL:List Str:=["_law_one","_law_two"]
def sc__law_both:FnScope ["_law_one","_law_two","_law_wide","_law_high","_law_x"] kL (ag kK):=Jv
abbrev kM:P0:=top 69
abbrev kN:List Str:=["_law_leaves"]
def sc__law_family:FnScope ["_law_leaves","_law_both_here","_law_leaf"] kN (ag kM):=Jv
abbrev kO:P0:=top 70
abbrev kP:List Str:=["_law_upper","_law_lower"]
def sc__law_over:FnScope ["_law_upper","_law_lower","_law_leaves"] kP (ag kO):=Jv
abbrev kQ:P0:=top 71
abbrev kR:List Str:=["_law_script","_law_k"]
def sc__law_pattern:FnScope ["_law_script","_law_k","_law_plan","_law_part","_law_turn","_law_step","_law_other"] kR (ag kQ):=Jv
abbrev kS:P0:=bf (top 42) 1
abbrev kT:List Str:=["self","allowed"]
def B5:FnScope ["self","allowed"] kT (ag kS):=Jv
abbrev kU:P0:=bf (top 42) 2
abbrev kW:List Str:=["self","allowed"]
def sc_Reading_take:FnScope ["self","allowed","sign"] kW (ag kU):=Jv
abbrev kX:P0:=top 45
abbrev kY:List Str:=["reading","least","most"]
def sc_line_from:FnScope ["reading","least","most","line","column"] kY (ag kX):=Jv
abbrev kZ:P0:=top 46
abbrev lf:List Str:=["reading"]
def sc_lines_from:FnScope ["reading","lines","width"] lf (ag kZ):=Jv
abbrev lh:P0:=top 43
abbrev ll:List Str:=["reading"]
def sc_number_from:FnScope ["reading","written"] ll (ag lh):=Jv
abbrev lm:P0:=top 44
abbrev lp:List Str:=["reading"]
def sc_shift_from:FnScope ["reading","x"] lp (ag lm):=Jv
abbrev lq:P0:=top 10
abbrev lr:List Str:=["first","second"]
def sc_levelled:FnScope ["first","second","times","rest"] lr (ag lq):=Jv
abbrev lu:P0:=top 12
abbrev lv:List Str:=["first","second"]
def sc_spread:FnScope ["first","second","pair","width"] lv (ag lu):=Jv
abbrev lw:P0:=top 13
abbrev lx:List Str:=["family","x","y"]
def sc_home:FnScope ["family","x","y","width","height","slant"] lx (ag lw):=Jv
abbrev ly:P0:=top 19
abbrev lz:List Str:=["lines","family"]
def sc_hues_by_home:FnScope ["lines","family","hues","row","line","column","sign"] lz (ag ly):=Jv
abbrev lC:P0:=bf (top 20) 0
abbrev lD:List Str:=["self","place","lines","first","second"]
def B6:FnScope ["self","place","lines","first","second"] lD (ag lC):=Jv
abbrev lF:P0:=top 47
abbrev lG:List Str:=["reading"]
def sc_motif_from:FnScope ["reading","place","lines","first","second"] lG (ag lF):=Jv
abbrev lH:P0:=bf (top 23) 0
abbrev lJ:List Str:=["self","form"]
def B7:FnScope ["self","form"] lJ (ag lH):=Jv
abbrev lK:P0:=bf (top 24) 0
abbrev lL:List Str:=["self","form"]
def B8:FnScope ["self","form"] lL (ag lK):=Jv
abbrev lM:P0:=bf (top 21) 0
abbrev lN:List Str:=["self","above","below"]
def B9:FnScope ["self","above","below"] lN (ag lM):=Jv
abbrev lP:P0:=bf (top 22) 0
abbrev lQ:List Str:=["self","form","x","y"]
def Ca:FnScope ["self","form","x","y"] lQ (ag lP):=Jv
abbrev lR:P0:=bf (top 25) 0
abbrev lU:List Str:=["self","form","old","new"]
def Cb:FnScope ["self","form","old","new"] lU (ag lR):=Jv
abbrev gG:P0:=top 48
abbrev fF:List Str:=["reading","around"]
def sc_over_from:FnScope ["reading","around","above","below"] fF (ag gG):=Jv
abbrev gH:P0:=top 49
abbrev fG:List Str:=["reading","around"]
def sc_shifted_from:FnScope ["reading","around","shift"] fG (ag gH):=Jv
abbrev gI:P0:=top 50
abbrev fH:List Str:=["reading","around"]
def sc_rehue_from:FnScope ["reading","around","old","new"] fH (ag gI):=Jv
abbrev gJ:P0:=top 51
abbrev cw:List Str:=["reading","around"]
def sc_form_from:FnScope ["reading","around","sign"] cw (ag gJ):=Jv
abbrev lV:P0:=bf (top 42) 0
abbrev lW:List Str:=["self","text"]
def Cd:FnScope ["self","text"] lW (ag lV):=Jv
abbrev lX:P0:=bf (top 41) 0
abbrev lY:List Str:=["self","text","shifts","form"]
def Ce:FnScope ["self","text","shifts","form"] lY (ag lX):=Jv
abbrev lZ:P0:=top 11
abbrev ma:List Str:=["one","two"]
def sc_measure:FnScope ["one","two","last"] ma (ag lZ):=Jv
abbrev md:P0:=top 14
abbrev me:List Str:=["one","two"]
def sc_met:FnScope ["one","two","common","width","rise","start","gap","climbs","steps"] me (ag md):=Jv
abbrev mf:P0:=top 15
abbrev mi:List Str:=["family"]
def Cf:FnScope ["family"] mi (ag mf):=Jv
abbrev mj:P0:=top 16
abbrev ml:List Str:=["family"]
def Cg:FnScope ["family"] ml (ag mj):=Jv
abbrev gK:P0:=bf (top 20) 1
abbrev cf:List Str:=["self"]
def Ch:FnScope ["self"] cf (ag gK):=Jv
abbrev gL:P0:=bf (top 21) 1
abbrev gM:List Str:=["self"]
def sc_Over_family:FnScope ["self","first"] gM (ag gL):=Jv
abbrev gN:P0:=bf (top 22) 1
abbrev gO:List Str:=["self"]
def Ci:FnScope ["self"] gO (ag gN):=Jv
abbrev gP:P0:=bf (top 23) 1
abbrev gQ:List Str:=["self"]
def Cj:FnScope ["self"] gQ (ag gP):=Jv
abbrev gR:P0:=bf (top 24) 1
abbrev gS:List Str:=["self"]
def Ck:FnScope ["self"] gS (ag gR):=Jv
abbrev gT:P0:=bf (top 25) 1
abbrev gU:List Str:=["self"]
def Cl:FnScope ["self"] gU (ag gT):=Jv
abbrev mm:P0:=top 52
abbrev mn:List Str:=["text"]
def sc_read:FnScope ["text","reading","form","family"] mn (ag mm):=Jv
abbrev mo:P0:=top 74
abbrev mq:List Str:=["_law_value"]
def sc__law_reach:FnScope ["_law_value","_law_side"] mq (ag mo):=Jv
abbrev mv:P0:=top 30
abbrev mx:List Str:=["x","y"]
def Cm:FnScope ["x","y"] mx (ag mv):=Jv
abbrev gW:P0:=bf (top 20) 2
abbrev cj:List Str:=["self","x","y"]
def Cn:FnScope ["self","x","y"] cj (ag gW):=Jv
abbrev gX:P0:=bf (top 21) 2
abbrev gY:List Str:=["self","x","y"]
def sc_Over_shows:FnScope ["self","x","y","hue"] gY (ag gX):=Jv
abbrev gZ:P0:=bf (top 22) 2
abbrev hU:List Str:=["self","x","y"]
def Co:FnScope ["self","x","y"] hU (ag gZ):=Jv
abbrev hV:P0:=bf (top 23) 2
abbrev hZ:List Str:=["self","x","y"]
def Cp:FnScope ["self","x","y"] hZ (ag hV):=Jv
abbrev ia:P0:=bf (top 24) 2
abbrev ib:List Str:=["self","x","y"]
def Cq:FnScope ["self","x","y"] ib (ag ia):=Jv
abbrev ic:P0:=bf (top 25) 2
abbrev ie:List Str:=["self","x","y"]
def sc_Rehue_shows:FnScope ["self","x","y","hue"] ie (ag ic):=Jv
abbrev my:P0:=top 31
abbrev mz:List Str:=["pattern","x","y"]
def Cr:FnScope ["pattern","x","y"] mz (ag my):=Jv
abbrev ig:P0:=top 32
abbrev mB:List Str:=["pattern","x","y","many"]
def Cs:FnScope ["pattern","x","y","many"] mB (ag ig):=Jv
abbrev ii:P0:=top 33
abbrev mC:List Str:=["pattern"]
def Ct:FnScope ["pattern"] mC (ag ii):=Jv
abbrev mD:P0:=top 34
abbrev mF:List Str:=["family","rows","x","y"]
def sc_round_row:FnScope ["family","rows","x","y","cell","row"] mF (ag mD):=Jv
abbrev mG:P0:=top 36
abbrev mH:List Str:=["row","sign","many"]
def Cu:FnScope ["row","sign","many"] mH (ag mG):=Jv
abbrev ij:P0:=top 37
abbrev mI:List Str:=["pattern","left","top","right","bottom"]
def sc_count_all:FnScope ["pattern","left","top","right","bottom","family","rows","many","again","counts","y","times","row","hue","sign"] mI (ag ij):=Jv
abbrev mJ:P0:=top 38
abbrev mK:List Str:=["pattern","hue","left","top","right","bottom"]
def sc_count_hue:FnScope ["pattern","hue","left","top","right","bottom","counts"] mK (ag mJ):=Jv
abbrev mL:P0:=top 73
abbrev mM:List Str:=["_law_marks"]
def Cw:FnScope ["_law_marks"] mM (ag mL):=Jv
abbrev mN:P0:=top 76
abbrev mO:List Str:=["_law_made","_law_door","_law_x","_law_y","_law_more"]
def sc__law_asked:FnScope ["_law_made","_law_door","_law_x","_law_y","_law_more","_law_marks","_law_told","_law_e"] mO (ag mN):=Jv
abbrev mQ:P0:=top 75
abbrev mR:List Str:=["_law_number"]
def Cy:FnScope ["_law_number"] mR (ag mQ):=Jv
abbrev mU:P0:=top 63
abbrev mV:List Str:=["_law_leaf","_law_x","_law_y"]
def sc__law_leaf_shows:FnScope ["_law_leaf","_law_x","_law_y","_law_way","_law_u","_law_v","_law_j","_law_i"] mV (ag mU):=Jv
abbrev mW:P0:=top 64
abbrev mY:List Str:=["_law_leaves","_law_x","_law_y"]
def sc__law_shows:FnScope ["_law_leaves","_law_x","_law_y","_law_leaf","_law_hue"] mY (ag mW):=Jv
abbrev mZ:P0:=top 55
abbrev ng:List Str:=["_law_found"]
def Cz:FnScope ["_law_found"] ng (ag mZ):=Jv
abbrev nh:P0:=top 77
abbrev nj:List Str:=["_law_leaves","_law_left","_law_top","_law_right","_law_bottom"]
def sc__law_counted:FnScope ["_law_leaves","_law_left","_law_top","_law_right","_law_bottom","_law_due","_law_y","_law_x"] nj (ag nh):=Jv
abbrev nq:P0:=top 72
abbrev nt:List Str:=["_law_found","_law_due"]
def sc__law_seven:FnScope ["_law_found","_law_due","_law_k"] nt (ag nq):=Jv
abbrev nu:P0:=top 78
abbrev nv:List Str:=["_law_made","_law_leaves","_law_sides","_law_hue"]
def sc__law_rectangle:FnScope ["_law_made","_law_leaves","_law_sides","_law_hue","_law_left","_law_top","_law_right","_law_bottom","_law_one","_law_all_told","_law_due"] nv (ag nu):=Jv
abbrev fJ:P0:=top 79
abbrev nw:List Str:=["_law_script"]
def sc_law:FnScope ["_law_script","_law_part","_law_made","_law_x","_law_y","_law_found","_law_many","_law_begin","_law_due","_law_wide","_law_high","_law_sides"] nw (ag fJ):=Jv
def cF(i:Nat):List D:=(Ej 8).map λj=>.bl (j==i)
def ik:List Str:=["wrong","line","great","far","row","parted","nothing"]
def CA:∀i,i<7->((cF i).countP (λw=>eqF w (.bl true))=1/\(cF i).all aV=true)/\(cF i).findIdx (λw=>eqF w (.bl true))=i:=Ip
def CB{i:Nat}{w:E_}(h:ik[i]?=be w):i<7/\(ik++[("":E_)])[i]?=be w:=#[(Ev.mp h).1,by rw[EW (Ev.mp h).1];exact h]
def due7(p:Pat)(left top:Int)(m:Nat)(n k:Nat):List Int:=(Ej 7).map λ(v:Nat)=>bG p v left top m n+cntN (λi=>p.show (left+i) (top+n)) v k
def CC{p:Pat}(ok:p.Ok)(left top:Int)(m n k:Nat):∃u:Nat,u<7/\p.show (left+k) (top+n)=(u:Int)/\(due7 p left top m n k)[u]?=be (bG p u left top m n+cntN (λi=>p.show (left+i) (top+n)) u k)/\((due7 p left top m n k).map D.int).set u (D.int (bG p u left top m n+cntN (λi=>p.show (left+i) (top+n)) u k+1))=(due7 p left top m n (k+1)).map D.int:=by
 have b:=Pat.show_le ok.wf (by have:=ok.deep;lia) (left+k) (top+n);obtain⟨u,hu⟩:∃u:Nat,p.show (left+k) (top+n)=(u:Int):=#[(p.show (left+k) (top+n)).toNat,Ig];have u7:u<7:=Ig
 have cs:∀v:Int,cntN (λi=>p.show (left+i) (top+n)) v (k+1)=cntN (λi=>p.show (left+i) (top+n)) v k+if p.show (left+k) (top+n)=v then 1 else 0:=λv=>rfl
 refine#[u,u7,hu,by unfold due7;simp[u7],?_];unfold due7;rw[Fx,Fx];have:=sP (n:=7) (i:=u) (λ(v:Nat)=>D.int (bG p v left top m n+cntN (λi=>p.show (left+i) (top+n)) v k)) (λ(v:Nat)=>D.int (bG p v left top m n+cntN (λi=>p.show (left+i) (top+n)) v (k+1))) (λv hv ne=>by
  show D.int _=D.int _;rw[cs,hu,if_neg Ig,FQ])
 refine Eq.trans ?_ this;show List.set _ u _=List.set _ u _;rw[cs,hu,if_pos rfl,GB];rfl
def CD(p:Pat)(left top:Int)(m n:Nat):due7 p left top m n m=due7 p left top m (n+1) 0:=by
 unfold due7;apply FJ;intro v _;show _=(bG p v left top m n+_)+0;rw[FQ]
def CF(p:Pat)(left top:Int)(m n:Nat):due7 p left top m n 0=bH p left top m n:=by
 unfold due7 bH;apply FJ;intro v _;show _+0=_;rw[FQ]
def nown(z:SD):Bool:=z.all λo=>match o with|some (.own _)=>false|_=>true
def NoOwn.of{z:SD}(h:nown z=true):NoOwn z:=λi ds e=>by
 have:=Fc.mp h _ (FW e);cases this
section
variable {V:Bx}
abbrev il(V:Bx):Prop:=V.D 1 "_law_at" kg zN
def CG(T:V.T "_law_at" ke kg)(uB:V.m "len"):il V:=by
 refine Tx.okDW T B3 (λds R h=>?_) (λf cdv A outer s H E J hr=>⟨_,((ah (aX (dU (aa 1) (cy uB (ac (aa 0) ae))) (am (ax (af (aa 0) (aa 1)))) aQ)
   (am (ax ad)))),λds R h=>?_⟩)
 .obtain⟨ns,k,rfl,_⟩:=h;rfl
 .obtain⟨ns,k,rfl,hk,hR⟩:=h;refine ite2 (λc=>?_) (λc=>?_)
  .have c':=of_decide_eq_true c;rw[En]at c';exact#[_,rG hk c',hR]
  .have c':=of_decide_eq_false (EM.mpr c);rw[En]at c';rw[zM Ig]at hR;exact hR
abbrev im(V:Bx):Prop:=V.D 2 "_law_draws" ki zZ
def CH(T:V.T "_law_draws" kh ki)(uA:V.m "range")(uL:il V):im V:=by
 refine Tx.okDW T sc__law_draws (λds R h=>?_) (λf cdv A outer s H E J hr=>⟨_,((ah (ai 3 sc__law_draws.nd (ar uL hr (ac (aa 0) (ac (aa 1) ae))))
   (ah (gc 4 sc__law_draws.nd ae)
   (ah (aX (bn (ay (ar uL hr (ac (aa 0) (ac (ao (aa 1) ad) ae))) ad) ad) (ah (cM 5 PassesOwn.never rfl sc__law_draws.nd uA (aa 2) (ah (gf 4 (ay (aa 3) ad))
     (am (ai 3 sc__law_draws.nd (aM (aa 3) ad)))))
    (dY 4 (am (ax (aa 4))))) aQ)
   (ah (ai 6 sc__law_draws.nd (ay (ao (aa 3) ad) ad))
   (ah (cM 5 PassesOwn.never rfl sc__law_draws.nd uA (aa 2) (ah (ai 6 sc__law_draws.nd (ay (ao (ao (aw (aa 6) ad) (ar uL hr (ac (aa 0) (ac (ao (ao (aa 1) ad) (ay (aa 5) ad)) ae)))) (aa 5)) ad))
    (am (gf 4 (ay (ay (aw (aa 6) ad) ad) ad)))))
   (dY 4 (am (ax (aa 4)))))))))),λds R h=>?_⟩)
 .obtain⟨_,_,_,rfl,_⟩:=h;rfl
 .obtain⟨ns,k,n,rfl,hk,hn,hR⟩:=h;refine#[λd=>∃v:Int,d=.int v,#[ns,k,rfl,hk,_,rfl],?_];rintro _⟨left,rfl⟩;k_places;refine#[Iq,?_];refine#[ns,k+1,rfl,Ig,Ik,ite2 (λ_=>?_) (λ_=>?_)]
  .refine#[#[Ig,Ig],λi z=>∃(xs:List Int) (l:Int) (o p:Option D),z=[be (.rol (ns.map D.int)),be (.int k),be (.int n),be (.int l),be (.own (xs.map D.int)),o,p]/\xs.length=i/\Drawn xs,#[[],left,_,_,rfl,rfl,(λx hx=>by cases hx)],?_,?_]
   .rintro i x z hi⟨xs,l,o,p,rfl,hl,hd⟩;k_places;have w_:i<n:=by simpa using(Ev.mp hi).1
    refine#[Ik,Pl,?_];refine#[λd=>∃v:Int,d=.int v,#[#[Ik,Ik],_,rfl],?_];rintro _⟨l',rfl⟩;k_places;rw[rK];exact#[_,l',_,_,rfl,by simp[hl],rL hd (cB Ik) (cC Ik)]
   .rintro z⟨xs,l,o,p,rfl,hl,hd⟩;k_places;exact hR xs (by simpa using hl) hd
  .refine#[λd=>∃v:Int,d=.int v/\0<=v/\v<2147483647,#[Ik,_,rfl,cB Ik,cC Ik],?_];rintro _⟨LK,rfl,s1,s2⟩;k_places;refine#[#[Ig,Ig],λi z=>∃(xs:List Int) (sd:Int) (o:Option D),z=[be (.rol (ns.map D.int)),be (.int k),be (.int n),be (.int left),be (.own (xs.map D.int)),o,be (.int sd)]/\xs.length=i/\Drawn xs/\0<=sd/\sd<2147483647,#[[],LK,_,rfl,rfl,(λx hx=>by cases hx),s1,s2],?_,?_]
   .rintro i x z hi⟨xs,sd,o,rfl,hl,hd,s1,s2⟩;k_places;have w_:i<n:=by simpa using(Ev.mp hi).1
    have ex:x=.int (i:Int):=by simp[w_]at hi;exact hi.symm
    subst ex;refine#[λd=>∃v:Int,d=.int v/\0<=v/\v<2147483647,#[.inr #[Ik,Ik],Ik,ns,_,rfl,Ig,Ik,_,rfl,cB Ik,cC Ik],?_];rintro _⟨ON,rfl,t1,t2⟩;k_places;refine#[.inr #[Ik,Ik],Ik,Ik,Pl,?_];rw[rK];exact#[_,ON,_,rfl,by simp[hl],rL hd (cB Ik) (cC Ik),t1,t2]
   .rintro z⟨xs,sd,o,rfl,hl,hd,_⟩;k_places;exact hR xs (by simpa using hl) hd
abbrev ny(V:Bx):Prop:=V.D 1 "_law_lines" km Ak
def CI(T:V.T "_law_lines" kj km)(uA:V.m "range")(uB:V.m "len"):ny V:=by
 refine Tx.okDW T sc__law_lines (λds R h=>?_) (λf cdv A outer s H E J hr=>⟨_,((ah (ai 1 sc__law_lines.nd (ao ad (ay (af (aa 0) ad) ad)))
   (ah (ai 2 sc__law_lines.nd (ao ad (ay (af (aa 0) ad) ad)))
   (ah (cr (bn (ay (af (aa 0) ad) ad) ad) (ah (ai 1 sc__law_lines.nd (ao ad (ay (af (aa 0) ad) ad)))
    (am (ai 2 sc__law_lines.nd (ao ad (ay (af (aa 0) ad) ad))))) aQ)
   (ah (ai 3 sc__law_lines.nd (af (aN (ac av (ac av (ac av (ac av ae))))) (ay (af (aa 0) ad) ad)))
   (ah (gc 4 sc__law_lines.nd ae)
   (ah (cM 5 PassesOwn.never rfl sc__law_lines.nd uA (aa 2) (ah (ai 6 sc__law_lines.nd av)
    (ah (cM 7 PassesOwn.never rfl sc__law_lines.nd uA (aa 1) (ah (ai 8 sc__law_lines.nd (ao (aw (aa 5) (aa 1)) (aa 7)))
     (ah (ai 9 sc__law_lines.nd (ay (aM (af (aa 0) (ao ad (aM (aa 8) ad))) (af (aN (ac ad (ac ad ae))) (ay (aa 8) ad))) ad))
     (am (ai 6 sc__law_lines.nd (ao (aa 6) (af (aa 3) (ay (aa 9) (cy uB (ac (aa 3) ae))))))))))
    (am (gf 4 (aa 6))))))
   (dY 4 (am (ax (aa 4))))))))))),λds R h=>?_⟩)
 .obtain⟨_,rfl,_⟩:=h;rfl
 .obtain⟨xs,rfl,hl,hd,hR⟩:=h;have x_:∀k:Nat,k<40->atI (xs.map D.int) (k:Int)=be (.int (cell xs k)):=λk hk=>cu Ig (by simpa using(Ig:k<xs.length));have a0:atI (xs.map D.int) 0=be (.int (cell xs 0)):=x_ 0 Ik;have a1:atI (xs.map D.int) 1=be (.int (cell xs 1)):=x_ 1 Ik;have a2:atI (xs.map D.int) 2=be (.int (cell xs 2)):=x_ 2 Ik;have a3:atI (xs.map D.int) 3=be (.int (cell xs 3)):=x_ 3 Ik;clear hl;refine#[λd=>∃v:Int,d=.int v/\1<=v/\v<=8,#[_,a0,Ik,_,rfl,Ig],?_];rintro _⟨w0,rfl,PC⟩;k_places;refine#[λd=>∃v:Int,d=.int v/\1<=v/\v<=8,#[_,a1,Ik,_,rfl,Ig],?_];rintro _⟨t0,rfl,PD⟩;k_places;refine#[λz=>∃w t:Nat,z=[be (.lst (xs.map D.int)),be (.int w),be (.int t),p7,p7,p7,p7,p7,p7,p7]/\(1<=w/\w<=8)/\(1<=t/\t<=8),#[_,a2,Ik,ite2 (λ_=>?_) (λ_=>?_)],?_]
  .refine#[λd=>∃v:Nat,d=.int v/\1<=v/\v<=8,#[_,a0,Ik,(1+cell xs 0%8).toNat,by rw[ET Ig],Ig],?_];rintro _⟨w,rfl,hw⟩;k_places;refine#[λd=>∃v:Nat,d=.int v/\1<=v/\v<=8,#[_,a1,Ik,(1+cell xs 1%8).toNat,by rw[ET Ig],Ig],?_];rintro _⟨t,rfl,ht⟩;k_places;exact#[w,t,rfl,hw,ht]
  .obtain⟨w,rfl⟩:∃w:Nat,w0=(w:Int):=#[w0.toNat,Ig];obtain⟨t,rfl⟩:∃t:Nat,t0=(t:Int):=#[t0.toNat,Ig];exact#[w,t,rfl,Ig,Ig]
  rintro _⟨w,t,rfl,hw,ht⟩;k_places;obtain⟨sg,es,hs⟩:=Ag (cell xs 3);refine#[λd=>d=.str sg,#[Iq,_,a3,Ik,_,es,rfl],?_];rintro _ rfl;k_places;refine#[Iq,?_];refine#[#[Ig,Ig],λk z=>∃(L:List E_) (o1 o2 o3 o4 o5:Option D),z=[be (.lst (xs.map D.int)),be (.int w),be (.int t),be (.str sg),be (.own (L.map D.str)),o1,o2,o3,o4,o5]/\L.length=k/\∀l∈L,l.length=w/\∀c∈cs l,bb c,#[[],_,_,_,_,_,rfl,rfl,(λx hx=>by cases hx)],?_,?_]
  .rintro j x z hj⟨L,o1,o2,o3,o4,o5,rfl,hL,JW⟩;k_places;have HE:j<t:=by simpa using(Ev.mp hj).1
   have ex:x=.int (j:Int):=by simp[HE]at hj;exact hj.symm
   subst ex;refine#[λd=>d=.str "",rfl,?_];rintro _ rfl;k_places;refine#[#[Ig,Ig],λi z=>∃(ln:E_) (o3 o4 o5:Option D),z=[be (.lst (xs.map D.int)),be (.int w),be (.int t),be (.str sg),be (.own (L.map D.str)),be (.int j),be (.str ln),o3,o4,o5]/\ln.length=i/\∀c∈cs ln,bb c,#[_,_,_,_,rfl,rfl,(λc hc=>by rw[rM]at hc;cases hc)],?_,?_]
   .rintro i y z hi⟨ln,o3,o4,o5,rfl,KE,LL⟩;k_places;have w_:i<w:=by simpa using(Ev.mp hi).1
    have ey:y=.int (i:Int):=by simp[w_]at hi;exact hi.symm
    subst ey;have pb:=bB (a:=(j:Int)) (d:=(w:Int)) (A:=7) (B:=8) Ig Ig;have pn:0<=(j:Int)*(w:Int):=Go Ig Ig;refine#[λd=>∃p:Nat,d=.int p/\p<=63,#[.inl #[Ig,Ig],((j:Int)*w+i).toNat,by rw[ET Ig],Ig],?_];rintro _⟨p,rfl,hp⟩;k_places;obtain⟨m,em,hm⟩:=Ah (p:Int);have ap:=x_ (8+p/2) Ig;have ec:((8+p/2:Nat):Int)=8+(p:Int)/2:=Ig
    rw[ec]at ap;refine#[λd=>∃v:Int,d=.int v,#[#[Ik,Ik],_,ap,Iq,Ik,_,em,#[Ig,Ig],Ik,_,rfl],?_];rintro _⟨v,rfl⟩;k_places;obtain⟨c,⟨h1,h2⟩,h3⟩:=Ab hs v;refine#[λd=>∃x:E_,d=.str x/\x.length=i+1/\∀c∈cs x,bb c,#[h1,by have:=hs.1;lia,c,#[h1,h2],?_,_,rfl,Ai KE LL h3],?_]
    .rw[KE];show i+1<=1000000;lia
    rintro _⟨x,rfl,g1,g2⟩;k_places;exact#[x,_,_,_,rfl,g1,g2]
   .rintro z⟨ln,o3,o4,o5,rfl,KE,LL⟩;k_places;have LM:ln.length=w:=by simpa using KE
    refine#[by simp[hL];lia,?_];rw[Aj];refine#[_,_,_,_,_,_,rfl,by simp[hL],λl hl=>?_];rcases EO.mp hl with q|q
    .exact JW l q
    .rw[Eh.mp q];exact#[LM,LL]
  .rintro z⟨L,o1,o2,o3,o4,o5,rfl,hL,JW⟩;k_places;exact hR L (Rows.of ht.1 ht.2 (by simpa using hL) hw.1 hw.2 JW)
abbrev nz(V:Bx):Prop:=V.D 1 "_law_shift_pair" kr Aa
def CJ(T:V.T "_law_shift_pair" kq kr)(uD:V.m "int"):nz V:=by
 refine Tx.okDW T sc__law_shift_pair (λds R h=>?_) (λf cdv A outer s H E J hr=>⟨_,((ah (aX (bn (ay (aM (af (aa 0) ad) ad) ad) ad) (am (ax (aN (ac (aF (ac (ao ad (ay (af (aa 0) ad) ad)) (ac ad ae))) (ac (aF (ac ad (ac (ao ad (ay (af (aa 0) ad) ad)) ae))) ae))))) aQ)
   (ah (aX (bn (ay (aM (af (aa 0) ad) ad) ad) ad) (am (ax (aN (ac (aF (ac (ao ad (ay (af (aa 0) ad) ad)) (ac ad ae))) (ac (aF (ac (aP (ay (af (aa 0) ad) ad) ad) (ac (ao ad (ay (af (aa 0) ad) ad)) ae))) ae))))) aQ)
   (ah (ai 1 sc__law_shift_pair.nd (aP (ay (af (aa 0) ad) ad) ad))
   (ah (ai 2 sc__law_shift_pair.nd (aP (ay (af (aa 0) ad) ad) ad))
   (ah (ai 3 sc__law_shift_pair.nd (aP (ay (af (aa 0) ad) ad) ad))
   (ah (ai 4 sc__law_shift_pair.nd (aP (ay (af (aa 0) ad) ad) ad))
   (ah (ai 1 sc__law_shift_pair.nd (ao (aa 1) (gh uD (ac (dh (cK (aa 1) ad) (dg (cK (aa 2) ad))) ae))))
   (ah (aX (bn (aw (aa 1) (aa 4)) (aw (aa 2) (aa 3))) (am (ax (aN (ac (aF (ac (aa 1) (ac (aa 2) ae))) (ac (aF (ac (bS (aa 2)) (ac (aa 1) ae))) ae))))) aQ)
   (am (ax (aN (ac (aF (ac (aa 1) (ac (aa 2) ae))) (ac (aF (ac (aa 3) (ac (aa 4) ae))) ae)))))))))))))),λds R h=>?_⟩)
 .obtain⟨_,rfl,_⟩:=h;rfl
 .obtain⟨xs,rfl,hl,hd,hR⟩:=h;have a3:=cu (xs:=xs) (k:=3) Ik (show 3<xs.length by lia);have a4:=cu (xs:=xs) (k:=4) Ik (show 4<xs.length by lia);have a5:=cu (xs:=xs) (k:=5) Ik (show 5<xs.length by lia);have a6:=cu (xs:=xs) (k:=6) Ik (show 6<xs.length by lia);have a7:=cu (xs:=xs) (k:=7) Ik (show 7<xs.length by lia);generalize cell xs 3=x3 at*;generalize cell xs 4=x4 at*;generalize cell xs 5=x5 at*;generalize cell xs 6=x6 at*;generalize cell xs 7=x7 at*;clear hl hd;refine#[_,a3,#[Ik,Ik],Ik,ite2 (λ_=>?_) (λ_=>?_)]
  .refine#[_,a4,Ik,Iq,_,a5,Ik,Iq,Iq,hR _ _ _ _ Ig Ig Ig Ig ?_];have p:0<(1+x4%6)*(1+x5%6):=EB Ig Ig;lia
  refine#[_,a3,#[Ik,Ik],Ik,ite2 (λ_=>?_) (λ_=>?_)]
  .refine#[_,a4,Ik,Iq,_,a6,Ik,_,a5,Ik,Iq,Iq,hR _ _ _ _ Ig Ig Ig Ig ?_];have p:0<(1+x4%6)*(1+x5%4):=EB Ig Ig;lia
  refine#[λd=>∃v:Int,d=.int v/\-12<=v/\v<=12,#[_,a4,Ik,_,rfl,Ig],?_];rintro _⟨a,rfl,ha⟩;k_places;refine#[λd=>∃v:Int,d=.int v/\-12<=v/\v<=12,#[_,a5,Ik,_,rfl,Ig],?_];rintro _⟨b,rfl,hb⟩;k_places;refine#[λd=>∃v:Int,d=.int v/\-12<=v/\v<=12,#[_,a6,Ik,_,rfl,Ig],?_];rintro _⟨c,rfl,hc⟩;k_places;refine#[λd=>∃v:Int,d=.int v/\-12<=v/\v<=12,#[_,a7,Ik,_,rfl,Ig],?_];rintro _⟨d,rfl,gV⟩;k_places;refine#[λx=>∃v:Int,x=.int v/\(-12<=v/\v<=12)/\¬(v=0/\b=0),ite2 (λe=>?_) (λe=>?_),?_]
  .have e':=of_decide_eq_true e;by_cases NA:b=0
   .refine#[_,rfl,?_];subst e' NA;simp
   .refine#[_,rfl,?_];subst e';simp[NA]
  .have e':=of_decide_eq_false (EM.mpr e);refine#[_,rfl,?_];simp;lia
  rintro _⟨a,rfl,ha,JX⟩;k_places;refine#[.inl (i64 ha.1 ha.2),.inl (i64 hb.1 hb.2),ite2 (λe=>?_) (λe=>?_)]
  .refine#[Iq,Iq,Iq,hR a b (-b) a ha hb Ig ha ?_];rw[Gb];intro z;have s1:0<=a*a:=sq0 a;have s2:0<=b*b:=sq0 b;have z1:a*a=0:=by omega
   have z2:b*b=0:=Jo
   exact JX #[(Gw.mp z1).elim id id,(Gw.mp z2).elim id id]
  .have e':=of_decide_eq_false (EM.mpr e);exact#[Iq,Iq,Iq,hR a b c d ha hb hc gV e']
abbrev nA(V:Bx):Prop:=V.D 1 "_law_motif_text" ky Al
def CK(T:V.T "_law_motif_text" ku ky)(uM:V.m "str"):nA V:=by
 refine Tx.okDW T sc__law_motif_text (λds R h=>?_) (λf cdv A outer s H E J hr=>⟨_,((ah (ai 3 sc__law_motif_text.nd (ao (ao (ao (ao (ao (ao (ao av (cN uM (ac (af (aa 1) ad) ae))) av) (cN uM (ac (af (aa 1) ad) ae))) av) (cN uM (ac (af (aa 2) ad) ae))) av) (cN uM (ac (af (aa 2) ad) ae))))
   (am (ax (ao (ao (ao av (jq (aa 0))) (aa 3)) av))))),λds R h=>?_⟩)
 .obtain⟨_,_,_,_,_,rfl,_⟩:=h;rfl
 .obtain⟨L,a,b,c,d,rfl,hL,ha,hb,hc,hd,hR⟩:=h;have la:=bv ha;have lb:=bv hb;have lc:=bv hc;have ld:=bv hd;have l1:(";":E_).length=1:=rfl;have l2:(",":E_).length=1:=rfl;have l3:("[":E_).length=1:=rfl;have l4:("]":E_).length=1:=rfl;have ls:=rO hL;have lj:=StrLaws.join_length_le "/" L;unfold B12 at ha hb hc hd;refine#[λx=>x=.str ((((((((";":E_)++(toString a:String))++",")++(toString b:String))++";")++(toString c:String))++",")++(toString d:String)),#[_,rfl,Ig,?_,?_,_,rfl,Ig,?_,?_,_,rfl,Ig,?_,?_,_,rfl,Ig,?_,rfl],?_]
  .lia
  .rw[aC];lia
  .rw[aC,aC];lia
  .rw[aC,aC,aC];lia
  .rw[aC,aC,aC,aC];lia
  .rw[aC,aC,aC,aC,aC];lia
  .rw[aC,aC,aC,aC,aC,aC];lia
  rintro _ rfl;k_places;have lg:(Txt.join "/" L).length<=72:=by
   have e:Txt.join "/" L=Str.join "/" L:=StrLaws.glued_eq_join _ _;rw[e];exact Eo lj ls
  refine#[L,jT L,Ig,?_,?_,?_,hR]
  .lia
  .repeat rw[aC]
   lia
  .repeat rw[aC]
   lia
abbrev nB(V:Bx):Prop:=V.D 3 "_law_motif" kA An
def CL(T:V.T "_law_motif" kz kA)(IS:im V)(LN:ny V)(LO:nz V)(LP:nA V):nB V:=by
 refine Tx.okDW T sc__law_motif (λds R h=>?_) (λf cdv A outer s H E J hr=>⟨_,((ah (ai 2 sc__law_motif.nd (ar IS hr (ac (aa 0) (ac (aa 1) (ac ad ae)))))
   (ah (ai 3 sc__law_motif.nd (ar LN hr (ac (aa 2) ae)))
   (ah (qD rfl (ar LO hr (ac (aa 2) ae)) (dg_cons 4 sc__law_motif.nd (dg_cons 5 sc__law_motif.nd dv)))
   (ah (ai 6 sc__law_motif.nd (aF (ac (aa 3) (ac (aa 4) (ac (aa 5) (ac (aF (ac ad (ac ad (ac ad (ac ad (ac ad (ac ad ae))))))) (ac (aN (ac ad (ac ad (ac ad (ac ad (ac ad (ac ad (ac ad ae)))))))) ae)))))))
   (am (ax (aN (ac (ar LP hr (ac (aa 3) (ac (aa 4) (ac (aa 5) ae)))) (ac ad (ac (aN (ac (aa 6) ae)) ae))))))))))),λds R h=>?_⟩)
 .obtain⟨_,_,rfl,_⟩:=h;rfl
 .obtain⟨ns,k,rfl,hk,hR⟩:=h;refine#[λx=>∃xs:List Int,x=.lst (xs.map D.int)/\xs.length=40/\Drawn xs,#[ns,k,40,rfl,hk,Ik,λxs h1 h2=>#[xs,rfl,h1,h2]],?_];rintro _⟨xs,rfl,hl,hd⟩;k_places;refine#[λx=>∃L:List E_,x=.lst (L.map D.str)/\Rows L,#[xs,rfl,Ig,hd,λL h=>#[L,rfl,h]],?_];rintro _⟨L,rfl,hL⟩;k_places;refine#[xs,rfl,Ig,hd,λa b c d ha hb hc gV hn=>#[rfl,?_]];refine#[λx=>x=(bp L a b c d).D,#[Iq,Iq,Iq,rfl],?_];rintro _ rfl;k_places;exact#[L,a,b,c,d,rfl,hL,ha,hb,hc,gV,Iq,Iq,hR L a b c d hL ha hb hc gV hn]
abbrev nC(V:Bx):Prop:=V.D 1 "_law_wrapped" kB Ax
def CM(T:V.T "_law_wrapped" gE kB)(uM:V.m "str")(IT:V.m "list")(uD:V.m "int"):nC V:=by
 refine Tx.okDW T sc__law_wrapped (λds R h=>?_) (λf cdv A outer s H E J hr=>⟨_,((ah (aX (ql (af (aa 0) ad) ad) (am (ax (aa 0))) aQ)
   (ah (ai 2 sc__law_wrapped.nd (aP (ay (aM (aa 1) ad) ad) ad))
   (ah (ai 3 sc__law_wrapped.nd (aP (ay (aM (aa 1) ad) ad) ad))
   (ah (ai 4 sc__law_wrapped.nd (ao ad (ay (aM (aa 1) ad) ad)))
   (ah (ai 5 sc__law_wrapped.nd (ao ad (ay (aM (aa 1) ad) ad)))
   (ah (ai 6 sc__law_wrapped.nd (ao (ao (ao (ao av (cN uM (ac (aa 2) ae))) av) (cN uM (ac (aa 3) ae))) av))
   (ah (ai 7 sc__law_wrapped.nd (af (aN (ac av (ac av (ac (aa 6) (ac (ao (ao av (cN uM (ac (aa 4) ae))) (cN uM (ac (aa 5) ae))) ae))))) (ay (aa 1) ad)))
   (ah (ai 8 sc__law_wrapped.nd (aN (ac (aF (ac (bS ad) (ac ad (ac ad (ac ad (ac ad (ac ad ae))))))) (ac (aF (ac ad (ac ad (ac (bS ad) (ac ad (ac ad (ac ad ae))))))) ae))))
   (ah (ai 8 sc__law_wrapped.nd (ao (aa 8) (aN (ac (aF (ac ad (ac ad (ac ad (ac ad (ac (bS (aa 2)) (ac (bS (aa 3)) ae))))))) (ac (aF (ac ad (ac ad (ac ad (ac ad (ac ad (ac ad ae))))))) ae)))))
   (ah (ai 9 sc__law_wrapped.nd (af (aa 8) (ay (aa 1) ad)))
   (ah (gc 10 sc__law_wrapped.nd ae)
   (ah (jm 11 PassesOwn.never rfl sc__law_wrapped.nd (af (aa 0) ad) (ah (qv rfl (af (aa 11) ad) (dg_cons 12 sc__law_wrapped.nd (dg_cons 13 sc__law_wrapped.nd (dg_cons 14 sc__law_wrapped.nd (dg_cons 15 sc__law_wrapped.nd (dg_cons 16 sc__law_wrapped.nd (dg_cons 17 sc__law_wrapped.nd dv)))))))
    (ah (ai 18 sc__law_wrapped.nd (aF (ac (ao (aw (aa 12) (af (aa 9) ad)) (aw (aa 13) (af (aa 9) ad))) (ac (ao (aw (aa 12) (af (aa 9) ad)) (aw (aa 13) (af (aa 9) ad))) ae))))
    (ah (ai 18 sc__law_wrapped.nd (ao (aa 18) (aF (ac (ao (aw (aa 14) (af (aa 9) ad)) (aw (aa 15) (af (aa 9) ad))) (ac (ao (aw (aa 14) (af (aa 9) ad)) (aw (aa 15) (af (aa 9) ad))) ae)))))
    (ah (ai 16 sc__law_wrapped.nd (ao (ao (aa 16) (aw (aa 12) (af (aa 9) ad))) (aw (aa 13) (af (aa 9) ad))))
    (ah (ai 17 sc__law_wrapped.nd (ao (ao (aa 17) (aw (aa 14) (af (aa 9) ad))) (aw (aa 15) (af (aa 9) ad))))
    (ah (ai 19 sc__law_wrapped.nd (xr IT (ac (af (aa 11) ad) ae)))
    (ah (cr (bn (ay (aa 1) ad) ad) (am (xI 19 rfl (compScope (by change dz _ (ag gE) ["_law_part","_law_draw","_law_across","_law_down","_law_old","_law_new","_law_shift","_law_head","_law_ways","_law_by","_law_leaves","_law_leaf","_law_a","_law_b","_law_c","_law_d","_law_e","_law_f","_law_way","_law_hues"] _=true;decide+kernel)) sc__law_wrapped.nd (af (aa 11) ad) (λcl s0 H0 fp=>(af (aN (ac (aa 20) (ac (aa 5) ae))) (gh uD (ac (cK (aa 20) (aa 4)) ae)))))) aQ)
    (am (gf 10 (aF (ac (af (aa 11) ad) (ac (af (aa 11) ad) (ac (af (aa 11) ad) (ac (ao (aa 18) (aF (ac (aa 16) (ac (aa 17) ae)))) (ac (aa 19) ae))))))))))))))))
   (dY 10 (am (ax (aN (ac (ao (aa 7) (af (aa 0) ad)) (ac (ao (af (aa 0) ad) ad) (ac (aa 10) ae)))))))))))))))))))),λds R h=>?_⟩)
 .obtain⟨_,_,rfl,_⟩:=h;rfl
 .obtain⟨p,draw,rfl,wf,hd,ht,hW⟩:=h;refine#[_,rfl,ite2 (λc=>?_) (λc=>?_)]
  .have c':=of_decide_eq_true c;exact hW.1 Ig
  have c':=of_decide_eq_false (EM.mpr c);have gV:p.depth<5:=Ig
  refine#[λd=>∃v:Int,d=.int v/\B12 v,#[#[Ik,Ik],Ik,_,rfl,by unfold B12;lia],?_];rintro _⟨A,rfl,hA⟩;simp only[EC,EE,aT];refine#[λd=>∃v:Int,d=.int v/\B12 v,#[#[Ik,Ik],Ik,_,rfl,by unfold B12;lia],?_];rintro _⟨B,rfl,hB⟩;simp only[EC,EE,aT];refine#[λd=>∃v:Int,d=.int v/\1<=v/\v<=6,#[#[Ik,Ik],Ik,_,rfl,Ig],?_];rintro _⟨d8,rfl,ho⟩;simp only[EC,EE,aT];refine#[λd=>∃v:Int,d=.int v/\1<=v/\v<=6,#[#[Ik,Ik],Ik,_,rfl,Ig],?_];rintro _⟨new,rfl,hn⟩;simp only[EC,EE,aT];have l1:("s":E_).length=1:=rfl;have l2:(",":E_).length=1:=rfl;have l3:(":":E_).length=1:=rfl;have l4:("h":E_).length=1:=rfl;have lA:=bv hA;have lB:=bv hB;have lo:=eF ho;have ln:=eF hn;obtain⟨hs,b0,b1,b2,b3,b4,b5,e1,e2,hb,hl,hR⟩:=Av hW gV (k:=0) hA hB ho hn Ig;unfold B12 at hA hB;refine#[λx=>x=.str ((((("s":E_)++(toString A:String))++",")++(toString B:String))++":"),#[Ig,?_,?_,Ig,?_,?_,rfl],?_]
  .lia
  .rw[aC];lia
  .rw[aC,aC];lia
  .rw[aC,aC,aC];lia
  rintro _ rfl;simp only[EC,EE,aT];refine#[λx=>x=.str hs,#[Ig,?_,Ig,?_,Iq,Ik,_,e1,rfl],?_]
  .lia
  .rw[aC];lia
  rintro _ rfl;simp only[EC,EE,aT];refine#[λx=>x=.lst [D.tup [.int (-1),.int 0,.int 0,.int 1,.int 0,.int 0],D.tup [.int 0,.int 1,.int (-1),.int 0,.int 0,.int 0]],#[Iq,Iq,Iq,rfl],?_];rintro _ rfl;simp only[EC,EE,aT];refine#[λx=>x=.lst ([D.tup [.int (-1),.int 0,.int 0,.int 1,.int 0,.int 0],D.tup [.int 0,.int 1,.int (-1),.int 0,.int 0,.int 0]]++[D.tup [.int 1,.int 0,.int 0,.int 1,.int (-A),.int (-B)],D.tup [.int 1,.int 0,.int 0,.int 1,.int 0,.int 0]]),#[Iq,Iq,Iq,Iq,rfl],?_];rintro _ rfl;simp only[EC,EE,aT];refine#[λx=>x=.tup [.int b0,.int b1,.int b2,.int b3,.int b4,.int b5],#[Ik,_,e2,rfl],?_];rintro _ rfl;simp only[EC,EE,aT];refine#[Iq,?_];generalize D.str ((((("s":E_)++(toString A:String))++",")++(toString B:String))++":")=sD;generalize D.lst ([D.tup [.int (-1),.int 0,.int 0,.int 1,.int 0,.int 0],D.tup [.int 0,.int 1,.int (-1),.int 0,.int 0,.int 0]]++[D.tup [.int 1,.int 0,.int 0,.int 1,.int (-A),.int (-B)],D.tup [.int 1,.int 0,.int 0,.int 1,.int 0,.int 0]])=wD;clear e1 e2 hW lA lB lo ln l1 l2 l3 l4 hA hB c';refine#[_,rfl,λk z=>∃IA IB u8 u9 LQ LR LS LU IU:Option D,z=[be p.D,be (.int draw),be (.int A),be (.int B),be (.int d8),be (.int new),be sD,be (.str hs),be wD,be (.tup [.int b0,.int b1,.int b2,.int b3,.int b4,.int b5]),be (.own (((p.leaves.take k).map (Leaf.T (decide (draw%4=3)) d8 new b0 b1 b2 b3 b4 b5)).map Leaf.D)),IA,IB,u8,u9,LQ,LR,LS,LU,IU],#[_,_,_,_,_,_,_,_,_,rfl],?_,?_]
  .rintro k v z hk⟨IA,IB,u8,u9,LQ,LR,LS,LU,IU,rfl⟩;k_places;rw[Et]at hk;have n9:k<p.leaves.length:=by
    rcases Fq k p.leaves.length with q|q
    .exact q
    .rw[E5 q]at hk;cases hk
   have IV:p.leaves[k]?=be p.leaves[k]:=EA n9;rw[IV]at hk;cases hk;obtain⟨gd,nr⟩:=Pat.leaf_good wf p.leaves[k] (EQ n9);have c5:(p.leaves.take k).length<=1000:=by rw[FE];have:=Pat.leaves_32 hd;lia
   generalize p.leaves[k]=l at IV gd nr;obtain⟨r0,r1,r2,r3⟩:=nr.unit;obtain⟨q0,q1,q2,q3,q4,q5⟩:=hb;refine#[_,rfl,rfl,?_];simp only[EC,EE,aT];refine#[λx=>x=.tup [.int (l.w0*b0+l.w1*b2),.int (l.w0*b1+l.w1*b3)],#[_,rfl,.inr (n64 q0),_,rfl,.inr (n64 q2),_,rfl,.inr (n64 q1),_,rfl,.inr (n64 q3),Iq,rfl],?_];rintro _ rfl;simp only[EC,EE,aT];refine#[λx=>x=.tup [.int (l.w0*b0+l.w1*b2),.int (l.w0*b1+l.w1*b3),.int (l.w2*b0+l.w3*b2),.int (l.w2*b1+l.w3*b3)],#[_,rfl,.inr (n64 q0),_,rfl,.inr (n64 q2),_,rfl,.inr (n64 q1),_,rfl,.inr (n64 q3),Iq,Iq,rfl],?_];rintro _ rfl;simp only[EC,EE,aT];refine#[λx=>x=.int (l.w4+l.w0*b4+l.w1*b5),#[_,rfl,.inr (n64 q4),_,rfl,.inr (n64 q5),rfl],?_];rintro _ rfl;simp only[EC,EE,aT];refine#[λx=>x=.int (l.w5+l.w2*b4+l.w3*b5),#[_,rfl,.inr (n64 q4),_,rfl,.inr (n64 q5),rfl],?_];rintro _ rfl;simp only[EC,EE,aT];refine#[λx=>x=.lst (l.hues.map D.int),#[_,rfl,rfl],?_];rintro _ rfl;simp only[EC,EE,aT];refine#[λz=>∃IU:List Int,IU=(Leaf.T (decide (draw%4=3)) d8 new b0 b1 b2 b3 b4 b5 l).hues/\z=[be p.D,be (.int draw),be (.int A),be (.int B),be (.int d8),be (.int new),be sD,be (.str hs),be wD,be (.tup [.int b0,.int b1,.int b2,.int b3,.int b4,.int b5]),be (.own (((p.leaves.take k).map (Leaf.T (decide (draw%4=3)) d8 new b0 b1 b2 b3 b4 b5)).map Leaf.D)),be l.D,be (.int l.w0),be (.int l.w1),be (.int l.w2),be (.int l.w3),be (.int (l.w4+l.w0*b4+l.w1*b5)),be (.int (l.w5+l.w2*b4+l.w3*b5)),be (.tup [.int (l.w0*b0+l.w1*b2),.int (l.w0*b1+l.w1*b3),.int (l.w2*b0+l.w3*b2),.int (l.w2*b1+l.w3*b3)]),be (.lst (IU.map D.int))],#[Ik,ite2 (λc=>?_) (λc=>?_)],?_]
   .have c3:=of_decide_eq_true c;refine#[λx=>x=.lst ((l.hues.map (bw d8 new)).map D.int),#[_,rfl,by rw[En,gd.many];decide,λk ys=>ys=((l.hues.take k).map (bw d8 new)).map D.int,rfl,?_,?_],?_]
    .rintro k' x ys hx hl rfl;rw[Et]at hx;cases e:l.hues[k']? with
     |none=>rw[e]at hx;cases hx
     |some hu=>
      rw[e]at hx;cases hx;refine#[Iq,_,Aw hu d8 new,?_];dsimp only;rw[jV e];simp
    .rintro ys hl rfl;rw[En,Ga]
    .rintro _ rfl;k_places;exact#[_,by simp[Leaf.T,c3,Leaf.dye,Leaf.by],rfl]
   .have c3:=of_decide_eq_false (EM.mpr c);exact#[_,by simp[Leaf.T,c3,Leaf.by],rfl]
   rintro _⟨hu,OO,rfl⟩;k_places;refine#[_,rfl,_,rfl,_,rfl,Iq,Iq,Iq,by rw[En,En];lia,?_];have eT:(D.tup [.lst (l.rows.map D.str),.tup [.int l.a,.int l.b],.tup [.int l.c,.int l.d],.tup ([.int (l.w0*b0+l.w1*b2),.int (l.w0*b1+l.w1*b3),.int (l.w2*b0+l.w3*b2),.int (l.w2*b1+l.w3*b3)]++[.int (l.w4+l.w0*b4+l.w1*b5),.int (l.w5+l.w2*b4+l.w3*b5)]),.lst (hu.map D.int)])=(Leaf.T (decide (draw%4=3)) d8 new b0 b1 b2 b3 b4 b5 l).D:=by
    rw[OO];by_cases c3:draw%4=3
    .simp[Leaf.T,c3,Leaf.D,Leaf.dye,Leaf.by]
    .simp[Leaf.T,c3,Leaf.D,Leaf.by]
   have e9:((p.leaves.take (k+1)).map (Leaf.T (decide (draw%4=3)) d8 new b0 b1 b2 b3 b4 b5)).map Leaf.D=((p.leaves.take k).map (Leaf.T (decide (draw%4=3)) d8 new b0 b1 b2 b3 b4 b5)).map Leaf.D++[(Leaf.T (decide (draw%4=3)) d8 new b0 b1 b2 b3 b4 b5 l).D]:=by
    rw[jV IV,E1,E1,EJ,EJ,Fo,Fo]
   rw[e9,<-eT];exact#[_,_,_,_,_,_,_,_,_,rfl]
  .rintro z⟨IA,IB,u8,u9,LQ,LR,LS,LU,IU,rfl⟩;k_places;rw[En,Ga];refine#[_,rfl,Ig,_,rfl,Iq,hR]
abbrev io(V:Bx):Prop:=V.D 1 "_law_gcd" kD zR
def CN(T:V.T "_law_gcd" kC kD)(uO:V.m "abs"):io V:=by
 refine Tx.okDW T sc__law_gcd (λds R h=>?_) (λf cdv A outer s H E J hr=>⟨_,((ah (ai 0 sc__law_gcd.nd (dS uO (ac (aa 0) ae)))
   (ah (ai 1 sc__law_gcd.nd (dS uO (ac (aa 1) ae)))
   (ah (fq PassesOwn.never (bZ (aa 1) ad) (am (xm 0 1 rfl sc__law_gcd.nd (ac (aa 1) (ac (ay (aa 0) (aa 1)) ae)))))
   (am (ax (aa 0))))))),λds R h=>?_⟩)
 .obtain⟨x,y,rfl,_⟩:=h;rfl
 .obtain⟨x,y,rfl,hR⟩:=h;refine#[λd=>d=.int (if x<0 then -x else x),rfl,?_];rintro _ rfl;k_places;refine#[λd=>d=.int (if y<0 then -y else y),rfl,?_];rintro _ rfl;k_places;have hx:0<=(if x<0 then -x else x):=by split<;>lia
  have hy:0<=(if y<0 then -y else y):=by split<;>lia
  have LV:∀e,(e∣(if x<0 then -x else x)/\e∣(if y<0 then -y else y))↔(e∣x/\e∣y):=λe=>by rw[rH,rH]
  generalize (if x<0 then -x else x)=a at hx LV ⊢;generalize (if y<0 then -y else y)=b at hy LV ⊢;refine#[λm z=>∃a b:Int,z=[be (.int a),be (.int b)]/\0<=a/\0<=b/\(∀e,(e∣a/\e∣b)↔(e∣x/\e∣y))/\m=b.toNat,#[_,a,b,rfl,hx,hy,LV,rfl],?_];rintro m z⟨a,b,rfl,ha,hb,JX,rfl⟩;k_places;refine ite2 (λc=>?_) (λc=>?_)
  .have c':¬b=0:=by simpa using c
   have q1:=cB (a:=a) (show 0<b by lia);have q2:=cC (a:=a) (show 0<b by lia);refine#[Ig,_,?_,b,a%b,rfl,hb,q1,λe=>?_,rfl]
   .lia
   .rw[<-JX e];constructor
    .rintro⟨h1,h2⟩;exact#[(rJ h1).mp h2,h1]
    .rintro⟨h1,h2⟩;exact#[h2,(rJ h2).mpr h1]
  .have c':b=0:=by simpa using c
   subst c';have g:=(JX a).mp #[Int.dvd_refl a,Int.dvd_zero a];exact hR a ha g.1 g.2 λe h1 h2=>((JX e).mpr #[h1,h2]).1
abbrev iq(V:Bx):Prop:=V.D 1 "_law_on" kF zQ
def CO(T:V.T "_law_on" kE kF):iq V:=by
 refine Tx.okDW T sc__law_on (λds R h=>?_) (λf cdv A outer s H E J hr=>⟨_,((ah (ai 4 sc__law_on.nd (aP (aw (af (aa 0) ad) (af (aa 1) ad)) (aw (af (aa 0) ad) (af (aa 1) ad))))
   (am (ax (dh (cK (pZ (aP (aw (aa 2) (af (aa 1) ad)) (aw (aa 3) (af (aa 1) ad))) (aa 4)) ad) (dg (cK (pZ (aP (aw (af (aa 0) ad) (aa 3)) (aw (af (aa 0) ad) (aa 2))) (aa 4)) ad))))))),λds R h=>?_⟩)
 .obtain⟨a,b,c,d,u,v,rfl,_⟩:=h;rfl
 .obtain⟨a,b,c,d,u,v,rfl,ha,hb,hc,hd,hn,hR⟩:=h;have IW:∀{x:Int},x.natAbs<1073741824->-(2^64)<x/\x<2^64:=λh=>n64 (Nat.le_of_lt_succ h);refine#[λx=>x=.int (a*d-b*c),#[_,rfl,_,rfl,.inl (IW ha),_,rfl,_,rfl,.inl (IW hb),rfl],?_];rintro _ rfl;k_places;refine#[_,rfl,.inr (IW hd),_,rfl,.inr (IW hc),Jo,ite2 (λe=>?_) (λe=>?_)]
  .have e':=of_decide_eq_true e;refine#[_,rfl,.inl (IW ha),_,rfl,.inl (IW hb),Jo,?_];have q:decide ((a*v-b*u).fmod (a*d-b*c)=0)=decide ((u*d-v*c).fmod (a*d-b*c)=0/\(a*v-b*u).fmod (a*d-b*c)=0):=by simp[e']
   have g:R (.bl (decide ((a*v-b*u).fmod (a*d-b*c)=0))):=by rw[q];exact hR
   exact g
  .have e':=of_decide_eq_false (EM.mpr e);have q:decide ((u*d-v*c).fmod (a*d-b*c)=0/\(a*v-b*u).fmod (a*d-b*c)=0)=false:=by simp[e']
   rw[q]at hR;exact hR
abbrev nE(V:Bx):Prop:=V.D 2 "_law_leaf_family" kH Az
def CP(T:V.T "_law_leaf_family" kG kH)(uO:V.m "abs")(IY:io V)(IZ:iq V):nE V:=by
 refine Tx.okDW T sc__law_leaf_family (λds R h=>?_) (λf cdv A outer s H E J hr=>⟨_,((ah (qv rfl (af (aa 0) ad) (dg_cons 1 sc__law_leaf_family.nd (dg_cons 2 sc__law_leaf_family.nd (dg_cons 3 sc__law_leaf_family.nd (dg_cons 4 sc__law_leaf_family.nd (dg_cons 5 sc__law_leaf_family.nd (dg_cons 6 sc__law_leaf_family.nd dv)))))))
   (ah (ai 7 sc__law_leaf_family.nd (aF (ac (ao (aw (aa 1) (af (af (aa 0) ad) ad)) (aw (aa 3) (af (af (aa 0) ad) ad))) (ac (ao (aw (aa 2) (af (af (aa 0) ad) ad)) (aw (aa 4) (af (af (aa 0) ad) ad))) ae))))
   (ah (ai 8 sc__law_leaf_family.nd (aF (ac (ao (aw (aa 1) (af (af (aa 0) ad) ad)) (aw (aa 3) (af (af (aa 0) ad) ad))) (ac (ao (aw (aa 2) (af (af (aa 0) ad) ad)) (aw (aa 4) (af (af (aa 0) ad) ad))) ae))))
   (ah (ai 9 sc__law_leaf_family.nd (ar IY hr (ac (af (aa 7) ad) (ac (af (aa 8) ad) ae))))
   (ah (ai 10 sc__law_leaf_family.nd (aM (dS uO (ac (aP (aw (af (aa 7) ad) (af (aa 8) ad)) (aw (af (aa 7) ad) (af (aa 8) ad))) ae)) (aa 9)))
   (ah (ai 11 sc__law_leaf_family.nd ad)
   (ah (fq PassesOwn.never (dW (br (ar IZ hr (ac (aa 7) (ac (aa 8) (ac (aa 11) (ac (aa 9) ae))))))) (am (ai 11 sc__law_leaf_family.nd (ao (aa 11) ad))))
   (am (ax (aF (ac (aa 10) (ac (aa 9) (ac (aa 11) ae)))))))))))))),λds R h=>?_⟩)
 .obtain⟨_,_,rfl,_⟩:=h;rfl
 .obtain⟨l,n,rfl,gd,nr,hR⟩:=h;obtain⟨h0,h1,h2,h3⟩:=nr.unit;obtain⟨z0,z1,z2,z3,ne,z5⟩:=Leaf.sizes gd nr;have ha:=gd.a;have hb:=gd.b;have hc:=gd.c;have hd:=gd.d;unfold B12 at ha hb hc hd;refine#[_,rfl,rfl,?_];simp only[EC,EE,aT];refine#[λx=>x=.tup [.int l.o0,.int l.o1],#[_,rfl,_,rfl,.inl (u64 h0),_,rfl,_,rfl,.inl (u64 h2),_,rfl,_,rfl,.inl (u64 h1),_,rfl,_,rfl,.inl (u64 h3),Iq,rfl],?_];rintro _ rfl;k_places;refine#[λx=>x=.tup [.int l.t0,.int l.t1],#[_,rfl,_,rfl,.inl (u64 h0),_,rfl,_,rfl,.inl (u64 h2),_,rfl,_,rfl,.inl (u64 h1),_,rfl,_,rfl,.inl (u64 h3),Iq,rfl],?_];rintro _ rfl;k_places;generalize l.o0=o0 at*;generalize l.o1=o1 at*;generalize l.t0=t0 at*;generalize l.t1=t1 at*;refine#[λx=>∃g:Int,x=.int g/\0<=g/\g∣o1/\g∣t1/\∀e,e∣o1->e∣t1->e∣g,#[_,rfl,_,rfl,o1,t1,rfl,λg q0 q1 q2 q3=>#[g,rfl,q0,q1,q2,q3]],?_];rintro _⟨g,rfl,q0,q1,q2,q3⟩;k_places;obtain⟨w,s,f⟩:=Ay ne q0 q1 q2 q3;have hg:=f.2.1;have k1:=bB (a:=o0) (d:=t1) (A:=24) (B:=24) z0 z3;have k2:=bB (a:=o1) (d:=t0) (A:=24) (B:=24) z1 z2;have PF:=f.bd (N:=288) z5;have q8:=f.cells;have ew:(if o0*t1-o1*t0<0 then -(o0*t1-o1*t0)else o0*t1-o1*t0)/g=w:=by
   have hp:=EB f.1 hg;have:(if o0*t1-o1*t0<0 then -(o0*t1-o1*t0)else o0*t1-o1*t0)=w*g:=by split<;>lia
   rw[this];exact ER _ Ig
  refine#[λx=>x=.int w,#[_,rfl,_,rfl,.inl (n64 z0),_,rfl,_,rfl,.inl (n64 z1),#[Ig,Ig],?_],?_]
  .exact congrArg D.int ew
  rintro _ rfl;k_places;refine#[λx=>x=.int 0,rfl,?_];rintro _ rfl;k_places;have hp:=EB f.1 hg;refine#[λm z=>∃x:Int,z=[be l.D,be (.int l.w0),be (.int l.w1),be (.int l.w2),be (.int l.w3),be (.int l.w4),be (.int l.w5),be (.tup [.int o0,.int o1]),be (.tup [.int t0,.int t1]),be (.int g),be (.int w),be (.int x)]/\0<=x/\x<=s/\m=(s-x).toNat,#[_,0,rfl,Ig,f.2.2.1,rfl],?_];rintro m z⟨x,rfl,x0,x1,rfl⟩;k_places;refine#[o0,o1,t0,t1,x,g,rfl,Ig,Ig,Ig,Ig,ne,?_];refine ite2 (λc=>?_) (λc=>?_)
  .have c':¬((x*t1-g*t0).fmod (o0*t1-o1*t0)=0/\(o0*g-o1*x).fmod (o0*t1-o1*t0)=0):=notT c;have xs:x≠s:=by
    rintro rfl;obtain⟨_,_,_,_,m',n',k',l',_,e1,e2,e3,e4⟩:=id f;exact c' (rE e3 e4)
   refine#[λd=>d=.int (x+1),rfl,?_];rintro _ rfl;k_places;exact#[_,Ig,x+1,rfl,Ig,Ig,rfl]
  .have c':(x*t1-g*t0).fmod (o0*t1-o1*t0)=0/\(o0*g-o1*x).fmod (o0*t1-o1*t0)=0:=by
    exact notF c
   obtain⟨i,j,e1,e2⟩:=rW ne c';have:x=s:=f.uniq_lean e1 e2 x0 x1;subst this;exact#[Iq,hR w g x f Ig]
abbrev nF(V:Bx):Prop:=V.D 1 "_law_in_family" kJ zP
def CQ(T:V.T "_law_in_family" kI kJ):nF V:=by
 refine Tx.okDW T B4 (λds R h=>?_) (λf cdv A outer s H E J hr=>#[_,((am (ax (dh (cK (ay (aa 2) (af (aa 0) ad)) ad) (dg (cK (ay (aP (aa 1) (aw (aM (aa 2) (af (aa 0) ad)) (af (aa 0) ad))) (af (aa 0) ad)) ad)))))),λds R h=>?_])
 .obtain⟨w,h,s,x,y,rfl,_⟩:=h;rfl
 .obtain⟨w,h,s,x,y,rfl,hw,hh,z_,hs,i_,hR⟩:=h;refine#[_,rfl,hh,ite2 (λc=>?_) (λc=>?_)]
  .have c':=of_decide_eq_true c;refine#[_,rfl,#[hh,z_],_,rfl,.inr #[Ig,Ig],_,rfl,hw,?_];have e:decide ((x-y/h*s)%w=0)=decide (y%h=0/\(x-y/h*s)%w=0):=by simp[c']
   have g:R (.bl (decide ((x-y/h*s)%w=0))):=by rw[e];exact hR
   exact g
  .have c':=of_decide_eq_false (EM.mpr c);have e:decide (y%h=0/\(x-y/h*s)%w=0)=false:=by simp[c']
   rw[e]at hR;exact hR
abbrev nG(V:Bx):Prop:=V.D 2 "_law_both" kL AC
def CS(T:V.T "_law_both" kK kL)(IY:io V)(LW:nF V):nG V:=by
  refine Tx.okDW T sc__law_both (λds R h=>?_) (λf cdv A outer s H E J hr=>⟨_,((ah (ai 2 sc__law_both.nd (aM (aw (af (aa 0) ad) (af (aa 1) ad)) (ar IY hr (ac (af (aa 0) ad) (ac (af (aa 1) ad) ae)))))
      (ah (ai 3 sc__law_both.nd (af (aa 0) ad))
      (ah (fq PassesOwn.never (wU (aw (aa 2) (aa 3)) ad) (ah (ai 4 sc__law_both.nd (ay (aw (af (aa 0) ad) (aM (aa 3) (af (aa 0) ad))) (af (aa 0) ad)))
        (ah (fq PassesOwn.never (dU (aa 4) (aa 2)) (ah (aX (br (ar LW hr (ac (aa 1) (ac (aa 4) (ac (aa 3) ae))))) (am (ax (aF (ac (aa 2) (ac (aa 3) (ac (aa 4) ae)))))) aQ)
          (am (ai 4 sc__law_both.nd (ao (aa 4) (af (aa 0) ad))))))
        (am (ai 3 sc__law_both.nd (ao (aa 3) (af (aa 0) ad)))))))
      (am (ax cI)))))),λds R h=>?_⟩)
  . obtain⟨_,_,_,_,_,_,rfl,_⟩:=h;rfl
  . obtain⟨w1,h1,s1,w2,h2,s2,rfl,f1,f2,hR⟩:=h;obtain⟨a1,a2,a3,a4,a5,a6⟩:=f1;obtain⟨b1,b2,b3,b4,b5,b6⟩:=f2;obtain⟨g,u,W,Hh,S,A,M1,eW,M⟩:=AB #[a1,a2,a3,a4,a5,a6] #[b1,b2,b3,b4,b5,b6];have NB:=hR W Hh S A M;have wb:W<=518400:=by
      have:=(jS a1 b1 M1).2.1;have:=bB (a:=w1) (d:=w2) (A:=720) (B:=720) Ig Ig;lia
    have mw:=M.w0;have mh:=M.h0;have ms:=M.s0;have PH:=M.sw;refine#[λx=>x=.int W,#[_,rfl,_,rfl,.inl #[Ig,Ig],_,rfl,_,rfl,w1,w2,rfl,λG q0 q1 q2 q3=>?_],?_]
    . have eG:=M1.gcd q0 q1 q2 q3;subst eG;have hg:=M1.pos a1;have LX:=M1.le a1;exact#[#[hg,Ig],by rw[<-eW]]
    rintro _ rfl;k_places;refine#[λx=>x=.int h1,#[_,rfl,rfl],?_];rintro _ rfl;k_places;obtain⟨i0,j0,eS,eH⟩:=M.up1;have OP:1<=j0:=by
      rcases(Ig:j0<=0\/1<=j0)with z|z
      . have:=Fk z (show 0<=h1 by lia);lia
      . exact z
    refine#[λm z=>∃(j:Int) (o:Option D),z=[be (.tup [.int w1,.int h1,.int s1]),be (.tup [.int w2,.int h2,.int s2]),be (.int W),be (.int (j*h1)),o]/\1<=j/\j<=j0/\m=(j0-j).toNat,#[_,1,_,by rw[Int.one_mul];rfl,Ig,OP,rfl],?_];rintro m z⟨j,o,rfl,HH,NC,rfl⟩;k_places;have OQ:0<j*h1:=EB Ig a3;have OR:j*h1<=Hh:=by
      rw[eH];exact EL NC Ig
    have PJ:=G4 OR (show 0<=W by lia);refine#[.inl #[Ig,Ig],ite2 (λc=>?_) (λc=>?_)]
    . have c':=of_decide_eq_true c;have PK:j*h1<=720:=by
        have:=(cO (w:=W) (h:=j*h1) mw OQ).2;lia
      have OS:j*h1/h1=j:=ER _ Ig;refine#[λx=>∃v:Int,x=.int v/\0<=v/\v<w1/\∃i,v=i*w1+j*s1,#[_,rfl,_,rfl,#[Ig,Ig],.inl #[Ig,Ig],_,rfl,a1,_,rfl,cB a1,cC a1,?_],?_]
      . rw[OS];refine#[-(s1*j/w1),?_];have:=Fj (s1*j) w1;rw[this];have e1:s1*j=j*s1:=EK _ _;have e2:w1*(s1*j/w1)=s1*j/w1*w1:=EK _ _;rw[e2,Gq];lia
      rintro _⟨x0,rfl,x1,x2,i1,ND⟩;k_places;refine#[λm z=>∃(x:Int),z=[be (.tup [.int w1,.int h1,.int s1]),be (.tup [.int w2,.int h2,.int s2]),be (.int W),be (.int (j*h1)),be (.int x)]/\0<=x/\(∃i,x=i*w1+j*s1)/\(j=j0->x<=S)/\m=(W-x).toNat,#[_,x0,rfl,x1,#[i1,ND],λej=>?_,rfl],?_]
      . subst ej;obtain⟨k,ek,k0⟩:=AD a1 x2 x1 ms eS #[i1,ND];have:=Go k0 (show 0<=w1 by lia);lia
      rintro m z⟨x,rfl,y0,⟨i2,ex⟩,yS,rfl⟩;k_places;refine ite2 (λc=>?_) (λc=>?_)
      . have cW:=of_decide_eq_true c;refine#[w2,h2,s2,x,j*h1,rfl,b1,b3,Ig,b5,Ig,?_];refine ite2 (λq=>?_) (λq=>?_)
        . have q':=of_decide_eq_true q;obtain⟨i3,k3,e3,e4⟩:=AA q';obtain⟨z1,z2⟩:=M.high a3 HH #[i2,ex] #[i3,k3,e3,e4];have LY:j*h1=Hh:=by lia
          have:=z2 LY y0 cW;subst this;have:=NB.1 (by rw[<-LY];lia);rw[<-LY]at this;exact#[Iq,this]
        . have q':=of_decide_eq_false (EM.mpr q);refine#[λd=>d=.int (x+w1),#[_,rfl,rfl],?_];rintro _ rfl;k_places;refine#[_,Ig,x+w1,rfl,Ig,#[i2+1,Jw],λej=>?_,rfl];subst ej;have hx:=yS rfl;have ne:x≠S:=by
            rintro rfl;obtain⟨i4,j4,e5,e6⟩:=M.up2;exact q' (in_fam (i:=i4) (j:=j4) b3 e5 (by rw[<-eH];exact e6))
          have:∃t:Int,S=x+t*w1:=#[i0-i2,by rw[ex];grind];obtain⟨t,et⟩:=this;have t1:1<=t:=by
            rcases(Ig:t<=0\/1<=t)with z|z
            . have:=Fk z (show 0<=w1 by lia);lia
            . exact z
          have:=EL t1 (show 0<=w1 by lia);lia
      . have cW:=of_decide_eq_false (EM.mpr c);have PL:j<j0:=by
          rcases(Ig:j<j0\/j=j0)with z|z
          . exact z
          . have:=yS z;lia
        refine#[λd=>d=.int ((j+1)*h1),#[_,rfl,by congr 1;grind],?_];rintro _ rfl;k_places;exact#[_,Ig,j+1,_,rfl,Ig,Ig,rfl]
    . have c':=of_decide_eq_false (EM.mpr c);exact NB.2 Ig
abbrev nH(V:Bx):Prop:=V.D 3 "_law_family" kN AE
def CT(T:V.T "_law_family" kM kN)(KG:nE V)(L4:nG V):nH V:=by
  refine Tx.okDW T sc__law_family (λds R h=>?_) (λf cdv A outer s H E J hr=>⟨_,((ah (ai 1 sc__law_family.nd (ar KG hr (ac (af (aa 0) ad) ae)))
      (ah (jm 2 PassesOwn.never rfl sc__law_family.nd (xC (aa 0) ad) (ah (ai 1 sc__law_family.nd (ar L4 hr (ac (aa 1) (ac (ar KG hr (ac (aa 2) ae)) ae))))
        (am (aX (qm (aa 1) cI) (am (ax cI)) aQ))))
      (am (ax (aa 1)))))),λds R h=>?_⟩)
  . obtain⟨_,_,rfl,_⟩:=h;rfl
  . obtain⟨ls,n,rfl,t8,hg,hR⟩:=h;cases ls with
    |nil=>exact absurd rfl t8
    |cons l0 ls=>
    refine#[λx=>∃w h s:Int,x=.tup [.int w,.int h,.int s]/\FamOf l0.o0 l0.o1 l0.t0 l0.t1 w h s/\w*h<=288,#[_,bN (j:=0) rfl,l0,n,rfl,(hg l0 Ep).1,(hg l0 Ep).2,λw h s f q=>#[w,h,s,rfl,f,q]],?_];rintro _⟨w0,h0,s0,rfl,f0,q0⟩;k_places
    try simp only[EC,EE]
    have ec:cutD (List.map Leaf.D (l0::ls)) (be 1) p7=ls.map Leaf.D:=by rw[EJ,cut1]
    refine#[λk z=>∃(w h s:Int) (o:Option D),z=[be (.lst ((l0::ls).map Leaf.D)),be (.tup [.int w,.int h,.int s]),o]/\Fam0 w h s/\w*h<=720/\∀x y,InF w h s x y↔bE (l0::ls.take k) x y,#[w0,h0,s0,_,rfl,#[f0.1,f0.2.1,f0.2.2.1,f0.2.2.2.1],Ig,λx y=>?_],?_,?_]
    . rw[f0.lat];constructor
      . intro q l z;rcases Ei.mp z with e|e
        . rw[e];exact q
        . cases e
      . intro q;exact q l0 Ep
    . rintro k v z hk⟨w,h,s,o,rfl,fm,NE,lat⟩;k_places;rw[ec,Et]at hk;have n9:k<ls.length:=by
        rcases Fq k ls.length with q|q
        . exact q
        . rw[E5 q]at hk;cases hk
      have IV:ls[k]?=be ls[k]:=EA n9;rw[IV]at hk;cases hk;obtain⟨gd,nr⟩:=hg ls[k] (Em _ (EQ n9));have JY:∀l∈ls.drop (k+1),l.Good/\l.Near n:=λl q=>hg l (Em _ (Ht q));have G':∀x y,bE (l0::ls) x y↔(bE (l0::ls.take k) x y/\ls[k].Lat x y)/\bE (ls.drop (k+1)) x y:=λx y=>by
        have ed:ls=ls.take k++ls[k]::ls.drop (k+1):=by rw[<-Fl n9,Hu]
        constructor
        . intro q;refine#[#[λl z=>?_,q _ (Em _ (EQ n9))],λl z=>q l (Em _ (Ht z))];rcases Ei.mp z with e|e
          . exact q l (e ▸ Ep)
          . exact q l (Em _ (List.mem_of_mem_take e))
        . rintro⟨⟨q1,q2⟩,q3⟩ l z;rcases Ei.mp z with e|e
          . exact q1 l (e ▸ Ep)
          . rw[ed]at e;rcases EO.mp e with e|e
            . exact q1 l (Em _ e)
            . rcases Ei.mp e with e|e
              . rw[e];exact q2
              . exact q3 l e
      have h_:∀x y,bE (l0::ls.take (k+1)) x y↔bE (l0::ls.take k) x y/\ls[k].Lat x y:=λx y=>by
        rw[jV IV];constructor
        . intro q;refine#[λl z=>q l ?_,q _ (Em _ (Es _ Ep))];rcases Ei.mp z with e|e
          . rw[e];exact Ep
          . exact Em _ (E2 _ e)
        . rintro⟨q1,q2⟩ l z;rcases Ei.mp z with e|e
          . exact q1 l (e ▸ Ep)
          . rcases EO.mp e with e|e
            . exact q1 l (Em _ e)
            . rw[Eh.mp e];exact q2
      generalize ls[k]=l at gd nr G' h_;obtain⟨p1,p2⟩:=cO fm.w0 fm.h0;refine#[λx=>(∃w h s:Int,x=.tup [.int w,.int h,.int s]/\Fam0 w h s/\w*h<=720/\∀x y,InF w h s x y↔bE (l0::ls.take (k+1)) x y)\/(x=.non/\R .non),#[l,n,rfl,gd,nr,λw2 h2 s2 f2 b2=>?_],?_]
      . obtain⟨r1,r2⟩:=cO f2.1 f2.2.1;refine#[w,h,s,w2,h2,s2,rfl,#[fm.w0,Ig,fm.h0,Ig,fm.s0,fm.sw],#[f2.1,Ig,f2.2.1,Ig,f2.2.2.1,f2.2.2.2.1],λW Hh S A M=>#[λq=>?_,λq=>?_]]
        . refine .inl #[W,Hh,S,rfl,#[M.w0,M.h0,M.s0,M.sw],q,λx y=>?_];rw[M.lat,lat,f2.lat,h_];exact Iff.rfl
        . refine .inr #[rfl,?_];obtain⟨w3,h3,s3,f3,e3⟩:=rZ (ls.drop (k+1)) W Hh S #[M.w0,M.h0,M.s0,M.sw] JY;refine(hR w3 h3 s3 f3 λx y=>?_).2 ?_
          . rw[e3,M.lat,lat,f2.lat,G'];exact Iff.rfl
          . have:=(InF.le M.w0 M.h0 f3.w0 f3.h0 (λx y z=>((e3 x y).mp z).1)).1;lia
      . rintro _ (⟨W,Hh,S,rfl,OT,q,e'⟩|⟨rfl,hn⟩);k_places
        . try simp only[EC,EE]
          exact#[W,Hh,S,_,rfl,OT,q,e']
        . try simp only[EC,EE]
          exact hn
    . rintro z⟨w,h,s,o,rfl,fm,NE,lat⟩;k_places;rw[ec,En,Ga]at lat;exact(hR w h s fm lat).1 NE
abbrev nI(V:Bx):Prop:=V.D 4 "_law_over" kP AH
def CU(T:V.T "_law_over" kO kP)(uZ:V.m "max")(L5:nH V):nI V:=by
 refine Tx.okDW T sc__law_over (λds R h=>?_) (λf cdv A outer s H E J hr=>⟨_,((ah (ai 2 sc__law_over.nd (ao (af (aa 0) ad) (af (aa 1) ad)))
   (ah (aX (cn (bT (ql (gj rfl uZ (ac (af (aa 0) ad) (ac (af (aa 1) ad) ae))) ad) (cz (qm (ar L5 hr (ac (aa 2) ae)) cI)))) (am (ax (aa 0))) aQ)
   (am (ax (aN (ac (ao (ao (ao (ao av (af (aa 0) ad)) av) (af (aa 1) ad)) av) (ac (ao ad (gj rfl uZ (ac (af (aa 0) ad) (ac (af (aa 1) ad) ae)))) (ac (aa 2) ae))))))))),λds R h=>?_⟩)
 .obtain⟨_,_,rfl,_⟩:=h;rfl
 .obtain⟨p,q,rfl,wp,wq,dp,dq,NF,OU⟩:=h;have n1:=Pat.leaves_32 dp;have n2:=Pat.leaves_32 dq;refine#[λx=>x=.lst ((Pat.over p q).leaves.map Leaf.D),#[_,rfl,_,rfl,?_,?_],?_]
  .rw[En,En];lia
  .rw[Pat.leaves,E1]
  rintro _ rfl;k_places;refine#[_,rfl,_,rfl,ite2 (λc=>NF) (λc=>?_)];have c':=of_decide_eq_false (EM.mpr c);have ep:p.depth<5/\q.depth<5:=by
   split at c'<;>lia
  refine#[(Pat.over p q).leaves,(Pat.over p q).depth,rfl,?_,λl hl=>Pat.leaf_good (p:=.over p q) #[wp,wq] l hl,λw h s f lat=>#[λsm=>?_,λ_=>NF]]
  .intro z;have:(Pat.over p q).leaves.length=0:=by rw[z];rfl
   rw[Pat.leaves,EG]at this;have:=Pat.leaves_pos p;lia
  have t1:=Pat.text_short wp dp;have t2:=Pat.text_short wq dq;have l1:("(":E_).length=1:=rfl;have l2:("|":E_).length=1:=rfl;have l3:(")":E_).length=1:=rfl;have OV:(Pat.over p q).Fits:=#[w,h,s,#[f,λx y=>(lat x y).trans (Pat.lat_leaves (.over p q) x y)],sm];refine#[_,rfl,?_,?_,_,rfl,?_,?_,_,rfl,_,rfl,Iq,?_]
  .lia
  .rw[aC];lia
  .rw[aC,aC];lia
  .rw[aC,aC,aC];lia
  have g:=OU ep.1 ep.2 OV;have e:(1+(if(q.depth:Int)>(p.depth:Int)then(q.depth:Int)else(p.depth:Int)))=(((Pat.over p q).depth:Nat):Int):=by
   rw[Pat.depth];split<;>lia
  unfold Pat.D at g;rw[<-e]at g;exact g
abbrev nJ(V:Bx):Prop:=V.D 5 "_law_pattern" kR AI
def CV(T:V.T "_law_pattern" kQ kR)(uA:V.m "range")(IS:im V)(KH:nB V)(KI:nC V)(KJ:nI V):nJ V:=by
  refine Tx.okDW T sc__law_pattern (λds R h=>?_) (λf cdv A outer s H E J hr=>⟨_,((ah (ai 2 sc__law_pattern.nd (ar IS hr (ac (aa 0) (ac (aa 1) (ac ad ae)))))
      (ah (ai 3 sc__law_pattern.nd (ar KH hr (ac (aa 0) (ac (ao (aa 1) ad) ae))))
      (ah (cM 4 PassesOwn.never rfl sc__law_pattern.nd uA (ay (af (aa 2) ad) ad) (ah (ai 5 sc__law_pattern.nd (af (aa 2) (ao ad (aw ad (aa 4)))))
        (am (cr (bn (ay (aa 5) ad) ad) (am (ai 3 sc__law_pattern.nd (ar KI hr (ac (aa 3) (ac (aM (aa 5) ad) ae))))) (ah (ai 6 sc__law_pattern.nd (ar KH hr (ac (aa 0) (ac (ao (ao (aa 1) ad) (aw ad (aa 4))) ae))))
         (ah (cr (bn (ay (aM (aa 5) ad) ad) ad) (am (ai 6 sc__law_pattern.nd (ar KI hr (ac (aa 6) (ac (af (aa 2) (ao ad (aw ad (aa 4)))) ae))))) aQ)
         (am (ai 3 sc__law_pattern.nd (af (aN (ac (ar KJ hr (ac (aa 3) (ac (aa 6) ae))) (ac (ar KJ hr (ac (aa 6) (ac (aa 3) ae))) ae))) (ay (aM (aa 5) ad) ad))))))))))
      (am (ax (aa 3))))))),λds R h=>?_⟩)
  . obtain⟨_,_,rfl,_⟩:=h;rfl
  . obtain⟨ns,k,rfl,hk,hR⟩:=h;refine#[λx=>∃xs:List Int,x=.lst (xs.map D.int)/\xs.length=13/\Drawn xs,#[ns,k,13,rfl,hk,Ik,λxs h1 h2=>#[xs,rfl,h1,h2]],?_];rintro _⟨xs,rfl,hl,hd⟩;k_places;refine#[λx=>∃p:Pat,x=p.D/\p.Ok,#[ns,k+2,rfl,Ig,λL a b c d h1 h2 h3 h4 h5 h6=>#[.mot L a b c d,rfl,#[h1,h2,h3,h4,h5,h6],by simp[Pat.depth],Pat.fits_mot h2 h3 h4 h5 h6]],?_];rintro _⟨p0,rfl,OW⟩;k_places;have a0:=cu (xs:=xs) (k:=0) Ik (show 0<xs.length by lia);have h7:=cB (a:=cell xs 0) (show(0:Int)<7 by decide);have h8:=cC (a:=cell xs 0) (show(0:Int)<7 by decide);refine#[_,a0,Ik,#[Ig,Ig],λi z=>∃(p:Pat) (o1 o2 o3:Option D),z=[be (.rol (ns.map D.int)),be (.int k),be (.lst (xs.map D.int)),be p.D,o1,o2,o3]/\p.Ok,#[p0,_,_,_,rfl,OW],?_,?_]
    . rintro i v z hi⟨p,o1,o2,o3,rfl,ok⟩;k_places;obtain⟨w_,rfl⟩:=cQ hi;have a1:=cu (xs:=xs) (k:=1+2*(i:Int)) Ig Ig;have a2:=cu (xs:=xs) (k:=2+2*(i:Int)) Ig Ig;generalize cell xs (1+2*(i:Int))=st at a1;generalize cell xs (2+2*(i:Int))=sv at a2;refine#[λx=>x=.int st,#[.inr #[Ig,Ig],_,a1,rfl],?_];rintro _ rfl;k_places;refine#[λz=>∃(p:Pat) (o3:Option D),z=[be (.rol (ns.map D.int)),be (.int k),be (.lst (xs.map D.int)),be p.D,be (.int i),be (.int st),o3]/\p.Ok,#[Ik,ite2 (λc=>?_) (λc=>?_)],?_]
      . refine#[λx=>∃p:Pat,x=p.D/\p.Ok,#[#[Ik,Ik],p,_,rfl,ok.wf,ok.deep,by have:=Pat.text_short ok.wf ok.deep;lia,Wraps.of ok λq hq=>#[q,rfl,hq]],?_];rintro _⟨q,rfl,j5⟩;k_places;exact#[q,_,rfl,j5]
      . refine#[λx=>∃p:Pat,x=p.D/\p.Ok,#[.inr #[Ig,Ig],ns,k+4+2*(i:Int),rfl,Ig,λL a b c d h1 h2 h3 h4 h5 h6=>#[.mot L a b c d,rfl,#[h1,h2,h3,h4,h5,h6],by simp[Pat.depth],Pat.fits_mot h2 h3 h4 h5 h6]],?_];rintro _⟨q,rfl,j5⟩;k_places;refine#[λz=>∃(q:Pat),z=[be (.rol (ns.map D.int)),be (.int k),be (.lst (xs.map D.int)),be p.D,be (.int i),be (.int st),be q.D]/\q.Ok,#[#[Ik,Ik],Ik,ite2 (λc=>?_) (λc=>?_)],?_]
        . refine#[λx=>∃p:Pat,x=p.D/\p.Ok,#[.inr #[Ig,Ig],_,a2,q,_,rfl,j5.wf,j5.deep,by have:=Pat.text_short j5.wf j5.deep;lia,Wraps.of j5 λq hq=>#[q,rfl,hq]],?_];rintro _⟨q,rfl,j5⟩;k_places;exact#[q,rfl,j5]
        . exact#[q,rfl,j5]
        rintro _⟨q,rfl,j5⟩;k_places;refine#[λx=>∃p:Pat,x=p.D/\p.Ok,?_,?_]
        . have e_:∀r r':Pat,r.Ok->r'.Ok->∃x,atI [r.D,r'.D] (st/4%2)=be x/\∃p:Pat,x=p.D/\p.Ok:=λr r' hr OX=>by
            rcases(Ig:st/4%2=0\/st/4%2=1)with e|e<;>rw[e]
            . exact#[_,rfl,r,rfl,hr]
            . exact#[_,rfl,r',rfl,OX]
          have NG:p.depth<5->q.depth<5->(Pat.over p q).Fits->(Pat.over p q).Ok:=λd1 d2 ft=>#[#[ok.wf,j5.wf],by simp only[Pat.depth];lia,ft];have NH:q.depth<5->p.depth<5->(Pat.over q p).Fits->(Pat.over q p).Ok:=λd1 d2 ft=>#[#[j5.wf,ok.wf],by simp only[Pat.depth];lia,ft];refine#[p,q,rfl,ok.wf,j5.wf,ok.deep,j5.deep,?_,λd1 d2 ft=>?_]<;>refine#[q,p,rfl,j5.wf,ok.wf,j5.deep,ok.deep,?_,λd3 d4 NI=>?_]<;>refine#[Iq,#[Ik,Ik],Ik,?_]
          . exact e_ _ _ ok j5
          . exact e_ _ _ ok (NH d3 d4 NI)
          . exact e_ _ _ (NG d1 d2 ft) j5
          . exact e_ _ _ (NG d1 d2 ft) (NH d3 d4 NI)
        rintro _⟨q',rfl,L6⟩;k_places;exact#[q',_,rfl,L6]
      rintro _⟨q,o3,rfl,j5⟩;k_places;exact#[q,_,_,_,rfl,j5]
    . rintro z⟨p,o1,o2,o3,rfl,ok⟩;k_places;exact hR p ok
abbrev cY(V:Bx):Prop:=V.Q 1 "Reading" "may_take" kT AN
def CW(T:V.Tm "Reading" "may_take" "Reading.may_take" kS kT)(uB:V.m "len")(HW:V.a "Reading" "text")(uJ:V.a "Reading" "place"):cY V:=by
 refine Txm.okM T B5 (λds M R RX h=>?_) (λf cdv A outer s H E J hr hx=>⟨_,((aA (bV (mt_w (yo (gw (aH uJ (aj (aa 0))) (qX uB (aU (aH HW (aj (aa 0))) bt))) (ym (yk (qU (aH HW (aj (aa 0))) (aH uJ (aj (aa 0)))) (aj (aa 1)))))) (aE (aG (aj av))) bQ)
   (aA (gy uJ (aj (aa 0)) (gu (aH uJ (aj (aa 0))) (aj ad)))
   (aE (aG (qU (aH HW (aj (aa 0))) (jK (aH uJ (aj (aa 0))) (aj ad)))))))),λds M R RX f6 h=>?_⟩)
 .obtain⟨_,_,_,_,_,rfl,_⟩:=h;rfl
 .obtain⟨a,t,k,l,al,rfl,rfl,d0,hR⟩:=h;refine#[_,aS,_,eK,_,aS,_,jX,Eo d0.sz Ik,?_];cases l with
  |nil=>
   refine ifdT (by rw[d0.nil]) (ifT rfl ?_);exact hR
  |cons c l=>
   have lt:=d0.lt;refine ifdF Ig ?_;refine#[_,aS,_,jX,_,aS,_,eK,c,#[Eo d0.sz Ik,bN d0.get],?_];refine ite2 (λe=>?_) (λe=>?_)
   .have e2:(!(!(Builtin.Str.occurrences al #[[c].toArray] 0 al.length 1).isEmpty))=true:=e;rw[so]at e2;have nc:c∉cs al:=by simpa using e2
    rw[dH nc,dI nc]at hR;exact hR
   .have e2:¬(!(!(Builtin.Str.occurrences al #[[c].toArray] 0 al.length 1).isEmpty))=true:=e;rw[so]at e2;have nc:c∈cs al:=by simpa using e2
    rw[eL nc,eM nc]at hR;refine#[_,aS,_,eK,_,aS,by show(2:Nat)<1000;decide,?_];rw[show mput (RdM a t k) a (.ins "Reading" (putD ("place":E_) (.int ((k:Int)+1)) (rdF t k)))=RdM a t (k+1)by rw[AL];exact gB];refine#[_,aS,_,jX,_,aS,_,eK,c,#[Eo d0.sz Ik,?_],hR];rw[show((k+1:Nat):Int)-1=(k:Int)by lia];exact bN d0.get
abbrev cx(V:Bx):Prop:=V.Q 2 "Reading" "take" kW AO
def CY(T:V.Tm "Reading" "take" "Reading.take" kU kW)(uH:cY V):cx V:=by
 refine Txm.okM T sc_Reading_take (λds M R RX h=>?_) (λf cdv A outer s H E J hr hx=>⟨_,((aA (aZ 2 sc_Reading_take.nd (aW (CalMth.one uH) hx hr (aj (aa 0)) (aB (ac (aa 1) ae))))
   (aA (bV (bU (bn (aa 2) av)) (aE gz) bQ)
   (aE (aG (aj (aa 2))))))),λds M R RX f6 h=>?_⟩)
 .obtain⟨_,_,_,_,_,_,rfl,_⟩:=h;rfl
 .obtain⟨a,t,k,c,l,al,rfl,rfl,d0,hc,hR⟩:=h;refine#[λd M'=>d=.str #[[c].toArray]/\M'=RdM a t (k+1),#[_,Eh.mpr rfl,_,aS,cT,a,t,k,_,al,rfl,rfl,d0,by rw[eL hc,eM hc];exact#[rfl,rfl]],?_];rintro _ _⟨rfl,rfl⟩;k_places;exact hR
abbrev nK(V:Bx):Prop:=V.MM 3 "line_from" kY S_line_from
def CZ(T:V.T "line_from" kX kY)(uA:V.m "range")(uN:V.gs "SIGNS" ".123456")(uC:cx V)(uH:cY V):nK V:=by
 refine Tx.okM T sc_line_from (λds M R RX h=>?_) (λf cdv A outer s H E J hr hx=>⟨_,((aA (aZ 3 sc_line_from.nd (aj av))
   (aA (yL 4 PassesOwn.leaving rfl sc_line_from.nd uA (aj (aa 2)) (aE (aZ 3 sc_line_from.nd (gu (aj (aa 3)) (fw (bU (dU (aa 4) (aa 1))) (aW (CalMth.one uC) hx hr (aj (aa 0)) (aB (ac (eo uN) ae))) (aW (CalMth.one uH) hx hr (aj (aa 0)) (aB (ac (eo uN) ae))))))))
   (aE (aG (aj (aa 3))))))),λds M R RX f6 h=>?_⟩)
 .obtain⟨_,_,_,_,_,_,_,rfl,_⟩:=h;rfl
 .obtain⟨a,t,k,n,m,x,l,rfl,rfl,d0,hs,hn,hm,PM,m5,hR⟩:=h;refine#[λd M'=>d=.str ""/\M'=RdM a t k,#[rfl,rfl],?_];rintro _ _⟨rfl,rfl⟩;k_places;refine#[#[Ig,Ig],λi z M'=>i<=m/\∃col,z=[be (.ptr a),be (.int n),be (.int m),be (.str #[(x.take i).toArray]),col]/\M'=RdM a t (k+min i x.length),#[EI _,p7,rfl,by rw[Nat.zero_min];rfl],?_,?_]
  .rintro i d z M' hi⟨PN,col,rfl,rfl⟩;k_places;obtain⟨HI,rfl⟩:=cQ hi;have HI:i<m:=by lia
   have c5:=List.length_take_le i x;refine#[λd M'=>d=.str #[(x.take (i+1)).toArray]/\M'=RdM a t (k+min (i+1) x.length),?_,?_]
   .by_cases ge:i<x.length
    .have e1:x.take (i+1)=x.take i++[x[i]]:=List.take_succ_eq_append_getElem ge;have d5:At t (k+i) (x[i]::(x.drop (i+1)++l)):=by
      have:=d0;rw[<-Hu i x,Fe,Fl ge]at this;have:=this.app;rw[FE,FP Ig]at this;exact this
     have hc:=signs_is.mpr (AK (hs x[i] (EQ ge)));have e2:(#[(x.take i).toArray]:E_)++#[[x[i]].toArray]=#[(x.take (i+1)).toArray]:=by rw[show(#[[x[i]].toArray]:E_)=#[[x[i]].toArray]from rfl,fB,e1]
     rw[FP Ig,FP Ig];refine ite2 (λ_=>?_) (λ_=>?_)
     .exact#[_,Eh.mpr rfl,_,aS,bW,a,t,_,_,_,".123456",rfl,rfl,d5,hc,by rw[eN,show(#[[x[i]].toArray]:E_).length=1 from rfl];lia,congrArg D.str e2,rfl]
     .refine#[_,Eh.mpr rfl,_,aS,cT,a,t,_,_,".123456",rfl,rfl,d5,?_];rw[eL hc,eM hc];exact#[by rw[eN,show(#[[x[i]].toArray]:E_).length=1 from rfl];lia,congrArg D.str e2,rfl]
    .obtain⟨c,l',rfl,hc⟩:=m5.resolve_left Ig;have d5:=d0.app;rw[Gd Ig,Gd Ig,FK Ig,FK Ig];refine ite2 (λc=>absurd (of_decide_eq_true c) Ig) (λ_=>?_);refine#[_,Eh.mpr rfl,_,aS,cT,a,t,_,_,".123456",rfl,rfl,d5,?_];rw[dH (sq hc),dI (sq hc)];refine#[by rw[eN,show("":E_).length=0 from rfl];lia,?_,rfl];rw[show("":E_)=#[([]:List Nat).toArray]from rfl,fB,E4]
   .rintro _ _⟨rfl,rfl⟩;k_places;exact#[HI,_,rfl,trivial]
  .intro z M' hz;rw[cD,FA]at hz;obtain⟨_,col,rfl,rfl⟩:=hz;rw[FK hm,Gd hm];exact hR
abbrev nM(V:Bx):Prop:=V.MM 4 "lines_from" lf AV
def C0(T:V.T "lines_from" kZ lf)(uB:V.m "len")(KL:nK V)(KN:V.gi "LONGEST" 8)(uH:cY V):nM V:=by
 refine Tx.okM T sc_lines_from (λds M R RX h=>?_) (λf cdv A outer s H E J hr hx=>⟨_,((aA (aZ 1 sc_lines_from.nd (yr (aU (aY (CalMM.frame KL) hx hr (aB (ac (aa 0) (ac ad (ac (dA KN) ae))))) bt)))
   (aA (aZ 2 sc_lines_from.nd (qX uB (aU (yQ (aj (aa 1)) (aj ad)) bt)))
   (aA (yJ PassesOwn.leaving (mt_w (yn (qV (yO uB (aj (aa 1))) (aj (dA KN))) (yl (gw (aW (CalMth.one (CalMth.frame uH)) hx hr (aj (aa 0)) (aB (ac av ae))) (aj av))))) (aE (cb (yT (aj (aa 1)) (aY (CalMM.frame KL) hx hr (aB (ac (aa 0) (ac (aa 2) (ac (aa 2) ae)))))))))
   (rb 1 (aE (aG (aj (aa 1))))))))),λds M R RX f6 h=>?_⟩)
 .obtain⟨_,_,_,_,_,_,rfl,_⟩:=h;rfl
 .obtain⟨a,t,k,L,w,l,rfl,rfl,hL,d0,hR⟩:=h;have hw:=hL.w1;have OY:=hL.w8;have y7:=hL.many;cases L with
  |nil=>exact absurd y7.1 Ik
  |cons x L=>
   obtain⟨HC,j_⟩:=hL.each x Ep;rw[sk]at d0 hR;rw[Fe]at d0;rw[Ex]at y7;have stop:∀N:List (List Nat),∃c l',rowsT N++59::l=c::l'/\isSg c=false:=λN=>by
    cases N with
    |nil=>exact#[59,l,rfl,rfl]
    |cons y N=>exact#[47,_,rfl,rfl]
   refine#[λd M'=>∃p,p≠a/\d=.ptr p/\M'=(p,.lst [.str #[x.toArray]])::RdM a t (k+x.length),#[[],RdM a t k,rfl,a,t,k,1,8,x,_,rfl,rfl,d0,j_,Ig,Ig,Ik,.inr (stop L),by show 1<=1000;decide,λp hp=>#[p,λe=>hp (by rw[e];exact Eh.mpr rfl),rfl,rfl]],?_];rintro _ _⟨p,OZ,rfl,rfl⟩;k_places;refine#[λd M'=>d=.int w/\M'=(p,.lst [.str #[x.toArray]])::RdM a t (k+x.length),#[_,cE,_,rfl,by rw[eN];lia,by rw[eN,HC],rfl],?_];rintro _ _⟨rfl,rfl⟩;k_places;refine#[λm z M'=>∃L1 L2 k',L=L1++L2/\m=L2.length/\At t k' (rowsT L2++59::l)/\k'+(rowsT L2).length=k+(x++rowsT L).length/\z=[be (.ptr a),be (.ptr p),be (.int w)]/\M'=(p,.lst (lstD (x::L1)))::RdM a t k',#[_,[],L,_,rfl,rfl,d0.app,by rw[EG];lia,rfl,rfl],?_];rintro m z M'⟨L1,L2,k',rfl,rfl,i8,hk,rfl,rfl⟩;k_places;rw[EG]at y7;have JZ:(lstD (x::L1)).length=L1.length+1:=by simp[lstD]
   have done:L2=[]->R (.lst (lstD (x::L1))) (RdM a t k'):=λe=>by
    subst e;rw[show k'=k+(x++rowsT (L1++[])).length from hk,show lstD (x::L1)=lstD (x::(L1++[]))by rw[E4]];exact hR
   refine#[_,cE,?_];rw[JZ];refine ite2 (λc=>?_) (λc=>?_)
   .refine#[_,Eh.mpr rfl,_,AU OZ,cT,[(p,_)],RdM a t _,rfl,a,t,_,_,"/",rfl,rfl,i8,?_];cases L2 with
    |nil=>
     rw[show rowsT []++59::l=59::l from rfl,dH Ik,dI Ik];refine#[_,cE,?_];rw[show mdel ([(p,MO.lst (lstD (x::L1)))]++RdM a t (k'+0)) p=RdM a t k' from jY];exact done rfl
    |cons y N=>
     have e1:rowsT (y::N)++59::l=47::(y++(rowsT N++59::l)):=by simp[rowsT]
     have NJ:(47:Nat)∈cs "/":=Ik
     rw[e1]at i8 ⊢;rw[eL NJ,eM NJ];obtain⟨O0,Lq⟩:=hL.each y (Em _ (Es _ Ep));have p6:=i8.next;refine#[#[_,cE],[(p,_)],RdM a t _,rfl,a,t,_,w,w,y,_,rfl,rfl,p6,Lq,Ig,Ig,OY,.inl O0,?_];refine#[_,cE,by rw[JZ];lia,N.length,by rw[Ex];lia,L1++[y],N,_,Iq,rfl,p6.app,?_,rfl,?_]
     .rw[<-hk];simp[rowsT];lia
     .show mput ((p,MO.lst (lstD (x::L1)))::RdM a t _) p _=_;rw[sr];simp[lstD]
   .have c':L1.length+1=8:=by
     have:¬((L1.length+1:Nat):Int)<8:=λz=>c (decide_eq_true z);lia
    refine#[_,cE,?_];rw[jY];exact done (GZ Ig)
abbrev nN(V:Bx):Prop:=V.MM 3 "number_from" ll AS
def C1(T:V.T "number_from" lh ll)(uD:V.m "int")(uH:cY V)(uC:cx V):nN V:=by
  refine Tx.okM T sc_number_from (λds M R RX h=>?_) (λf cdv A outer s H E J hr hx=>⟨_,((aA (bV (gw (aW (CalMth.one uH) hx hr (aj (aa 0)) (aB (ac av ae))) (aj av)) (aE (aG (aj ad))) bQ)
      (aA (aZ 1 sc_number_from.nd (gu (aW (CalMth.one uH) hx hr (aj (aa 0)) (aB (ac av ae))) (aW (CalMth.one uC) hx hr (aj (aa 0)) (aB (ac av ae)))))
      (aA (ra (bU (br (yg (aa 1) (ac av ae)))) (aE (aZ 1 sc_number_from.nd (gu (aj (aa 1)) (aW (CalMth.one uH) hx hr (aj (aa 0)) (aB (ac av ae)))))) bQ)
      (aE (aG (aj (gh uD (ac (aa 1) ae))))))))),λds M R RX f6 h=>?_⟩)
  . obtain⟨_,_,_,_,_,_,rfl,_⟩:=h;rfl
  . obtain⟨a,t,k,x,e,l,rfl,rfl,ge,he,d0,hR⟩:=h;have hi:=AQ ge;have hl:=bv ge;rw[<-bq]at hl;change (numL x).length<=3 at hl;refine#[_,Eh.mpr rfl,_,aS,cT,a,t,k,_,"0",rfl,rfl,d0,?_];rcases numS ge with e0|⟨pre,c,y,hp,hc,ev,hy⟩
    . rw[e0]at hR hi ⊢;have e1:x=0:=Option.some.inj (hi.symm.trans Ip);subst e1;have e2:(48:Nat)∈cs "0":=by decide
      rw[show([48]++e::l:List Nat)=48::e::l from rfl,eL e2,eM e2];exact hR
    rw[ev]at d0 hR hi hl ⊢;have h0:mayS "0" (pre++c::y++e::l)=""/\mayN "0" (pre++c::y++e::l)=0:=by
      have n:c∉cs "0":=λq=>by have:=Eh.mp q;lia
      rcases hp with rfl|rfl
      . exact#[dH n,dI n]
      . exact#[dH Ik,dI Ik]
    have hm:mayS "-" (pre++c::y++e::l)=#[pre.toArray]/\mayN "-" (pre++c::y++e::l)=pre.length:=by
      have n:c∉cs "-":=λq=>by have:=Eh.mp q;lia
      rcases hp with rfl|rfl
      . exact#[dH n,dI n]
      . exact#[rfl,rfl]
    rw[h0.1,h0.2];have d5:At t (k+pre.length) (c::(y++e::l)):=by rw[Fe]at d0;exact d0.app
    have i8:=d5.next;refine#[λd M'=>d=.str #[(pre++[c]).toArray]/\M'=RdM a t (k+pre.length+1),?_,?_]
    . refine#[_,Eh.mpr rfl,_,aS,cT,a,t,k,_,"-",rfl,rfl,d0,?_];rw[hm.1,hm.2];refine#[_,Eh.mpr rfl,_,aS,bW,a,t,k+pre.length,c,_,"123456789",rfl,rfl,d5,digits19.mpr hc,?_,?_,rfl]
      . rcases hp with rfl|rfl<;>simp[Str.length]
      . rw[show(#[[c].toArray]:E_)=#[[c].toArray]from rfl,fB]
    . rintro _ _⟨rfl,rfl⟩;k_places;refine#[λz M'=>z=[be (.ptr a),be (.str #[(pre++c::y).toArray])]/\M'=RdM a t (k+(pre++c::y).length),?_,?_]
      . show if Txt.endswith #[(pre++[c]).toArray] "1"=true then _ else _
        rw[AR];refine ite2 (λz=>?_) (λz=>?_)
        . obtain⟨e1,e2,e3⟩:(⟨(pre++[c]).toArray⟩:E_)++mayS "012" (y++e::l)=⟨(pre++c::y).toArray⟩/\mayN "012" (y++e::l)=y.length/\(mayS "012" (y++e::l)).length<=1:=by
            rcases hy with rfl|⟨_,d,hd,rfl⟩
            . have n:e∉cs "012":=λq=>by have:=digits02.mp q;unfold endS at he;lia
              rw[List.nil_append,dH n,dI n];refine#[?_,rfl,Ik];rw[show("":E_)=#[([]:List Nat).toArray]from rfl,fB];simp
            . rw[show([d]++e::l:List Nat)=d::e::l from rfl,eL (digits02.mpr hd),eM (digits02.mpr hd)];refine#[?_,rfl,Eg 1];rw[show(#[[d].toArray]:E_)=#[[d].toArray]from rfl,fB];simp
          refine#[λv M'=>v=.str #[(pre++c::y).toArray]/\M'=RdM a t (k+(pre++c::y).length),#[_,Eh.mpr rfl,_,aS,cT,a,t,_,_,"012",rfl,rfl,i8,?_],?_]
          . refine#[?_,congrArg D.str e1,?_]
            . rcases hp with rfl|rfl<;>simp[Str.length]at e3 ⊢<;>lia
            . rw[e2];congr 1;simp;lia
          . rintro _ _⟨rfl,rfl⟩;k_places;exact#[rfl,trivial]
        . have O1:y=[]:=hy.resolve_right λq=>z (decide_eq_true q.1);subst O1;exact#[rfl,by rw[EG];rfl]
      . rintro _ _⟨rfl,rfl⟩;k_places;exact#[x,#[hi,by show(pre++c::y).length<=640;lia],hR]
abbrev fK(V:Bx):Prop:=V.MM 4 "shift_from" lp AT
def C3(T:V.T "shift_from" lm lp)(KO:nN V)(uC:cx V):fK V:=by
 refine Tx.okM T sc_shift_from (λds M R RX h=>?_) (λf cdv A outer s H E J hr hx=>⟨_,((aA (aZ 1 sc_shift_from.nd (aY KO hx hr (aB (ac (aa 0) ae))))
   (aA (cb (aW (CalMth.one uC) hx hr (aj (aa 0)) (aB (ac av ae))))
   (aE (aG (yq (aU (aj (aa 1)) (aU (aY KO hx hr (aB (ac (aa 0) ae))) bt)))))))),λds M R RX f6 h=>?_⟩)
 .obtain⟨_,_,_,_,_,_,_,rfl,_⟩:=h;rfl
 .obtain⟨a,t,k,x,y,e,l,rfl,rfl,ge,hy,he,d0,hR⟩:=h;refine#[λd M'=>d=.int x/\M'=RdM a t (k+(numL x).length),#[a,t,k,x,44,_,rfl,rfl,ge,.inl rfl,d0,rfl,rfl],?_];rintro _ _⟨rfl,rfl⟩;k_places;have d5:=d0.app;exact#[_,Eh.mpr rfl,_,aS,bW,a,t,_,44,_,",",rfl,rfl,d5,Ik,a,t,_,y,e,l,rfl,rfl,hy,he,d5.next,Iq,hR]
abbrev ir(V:Bx):Prop:=V.D 1 "levelled" lr zT
def C4(T:V.T "levelled" lq lr):ir V:=by
 refine Tx.okDW T sc_levelled (λds R h=>?_) (λf cdv A outer s H E J hr=>⟨_,((ah (fq PassesOwn.never (bZ (af (aa 1) ad) ad) (ah (ai 2 sc_levelled.nd (wH (af (aa 0) ad) (af (aa 1) ad)))
    (ah (ai 3 sc_levelled.nd (aF (ac (aP (af (aa 0) ad) (aw (aa 2) (af (aa 1) ad))) (ac (aP (af (aa 0) ad) (aw (aa 2) (af (aa 1) ad))) ae))))
    (ah (ai 0 sc_levelled.nd (aa 1))
    (am (ai 1 sc_levelled.nd (aa 3)))))))
   (ah (cr (dU (af (aa 0) ad) ad) (am (ai 0 sc_levelled.nd (aF (ac (bS (af (aa 0) ad)) (ac (bS (af (aa 0) ad)) ae))))) aQ)
   (am (ax (aF (ac (aa 0) (ac (aa 1) ae)))))))),λds R h=>?_⟩)
 .obtain⟨a,b,c,d,rfl,_⟩:=h;rfl
 .obtain⟨a,b,c,d,rfl,hb,hd,hR⟩:=h;refine#[λm z=>∃(f0 f1 s0 s1:Int) (t r:Option D),z=[be (.tup [.int f0,.int f1]),be (.tup [.int s0,.int s1]),t,r]/\Uni a b c d f0 f1 s0 s1/\f1.natAbs<4611686018427387904/\s1.natAbs<4611686018427387904/\m=s1.natAbs,#[_,a,b,c,d,p7,p7,rfl,Uni.refl a b c d,hb,hd,rfl],?_];rintro m z⟨f0,f1,s0,s1,t,r,rfl,hu,hf,hs,rfl⟩;k_places;refine#[_,rfl,ite2 (λcc=>?_) (λcc=>?_)]
  .have c':¬s1=0:=by simpa using cc
   obtain⟨g1,g2⟩:=fdm f1 s1 c';refine#[λd=>d=.int (f1.fdiv s1),#[_,rfl,_,rfl,#[c',hs],rfl],?_];rintro _ rfl;k_places;refine#[λd=>d=.tup [.int (f0-f1.fdiv s1*s0),.int (f1-f1.fdiv s1*s1)],#[_,rfl,_,rfl,.inl #[Ig,Ig],_,rfl,_,rfl,.inl #[Ig,Ig],Iq,rfl],?_];rintro _ rfl;k_places;refine#[λd=>d=.tup [.int s0,.int s1],rfl,?_];rintro _ rfl;k_places;refine#[λd=>d=.tup [.int (f0-f1.fdiv s1*s0),.int (f1-f1.fdiv s1*s1)],rfl,?_];rintro _ rfl;k_places;exact#[_,g1,s0,s1,_,_,_,_,rfl,hu.step _,hs,Ig,rfl]
  .have c':s1=0:=by simpa using cc
   subst c';refine#[λz=>∃p0 p1:Int,z=[be (.tup [.int p0,.int p1]),be (.tup [.int s0,.int 0]),t,r]/\Lev a b c d p0 p1 s0,#[_,rfl,ite2 (λe=>?_) (λe=>?_)],?_]
   .have e':=of_decide_eq_true e;refine#[λd=>d=.tup [.int (-f0),.int (-f1)],#[_,rfl,_,rfl,Iq,rfl],?_];rintro _ rfl;k_places;exact#[_,_,rfl,Ig,hu.neg]
   .have e':=of_decide_eq_false (EM.mpr e);exact#[_,_,rfl,Ig,hu]
   .rintro _⟨p0,p1,rfl,hL⟩;k_places;exact#[Iq,hR p0 p1 s0 hL]
abbrev iu(V:Bx):Prop:=V.D 2 "spread" lv zU
def C5(T:V.T "spread" lu lv)(uO:V.m "abs")(I_:ir V):iu V:=by
 refine Tx.okDW T sc_spread (λds R h=>?_) (λf cdv A outer s H E J hr=>⟨_,((ah (aX (bn (aw (af (aa 0) ad) (af (aa 1) ad)) (aw (af (aa 0) ad) (af (aa 1) ad))) (am (ax cI)) aQ)
   (ah (ai 2 sc_spread.nd (ar I_ hr (ac (aa 0) (ac (aa 1) ae))))
   (ah (ai 3 sc_spread.nd (dS uO (ac (af (af (aa 2) ad) ad) ae)))
   (am (ax (aF (ac (aa 3) (ac (af (af (aa 2) ad) ad) (ac (ay (af (af (aa 2) ad) ad) (aa 3)) ae)))))))))),λds R h=>?_⟩)
 .obtain⟨a,b,c,d,rfl,_⟩:=h;rfl
 .obtain⟨a,b,c,d,rfl,ha,hb,hc,hd,hN,hR⟩:=h;refine#[_,rfl,_,rfl,.inl #[Ig,Ig],_,rfl,_,rfl,.inl #[Ig,Ig],ite2 (λe=>?_) (λe=>?_)]
  .exact hN (of_decide_eq_true e)
  .have e':=of_decide_eq_false (EM.mpr e);refine#[λx=>∃p0 p1 q0:Int,x=.tup [.tup [.int p0,.int p1],.tup [.int q0,.int 0]]/\Lev a b c d p0 p1 q0,#[a,b,c,d,rfl,hb,hd,λp0 p1 q0 hL=>#[p0,p1,q0,rfl,hL]],?_];rintro _⟨p0,p1,q0,rfl,hL⟩;k_places;have hF:=fz e' hL;refine#[λx=>x=.int (if q0<0 then -q0 else q0),#[_,rfl,_,rfl,rfl],?_];rintro _ rfl;k_places;exact#[_,rfl,_,rfl,_,rfl,_,rfl,hF.1,Iq,hR e' _ _ _ hF]
abbrev eV(V:Bx):Prop:=V.D 1 "home" lx zS
def C6(T:V.T "home" lw lx):eV V:=by
 refine Tx.okDW T sc_home (λds R h=>?_) (λf cdv A outer s H E J hr=>⟨_,((ah (ai 3 sc_home.nd (af (aa 0) ad))
   (ah (ai 4 sc_home.nd (af (aa 0) ad))
   (ah (ai 5 sc_home.nd (af (aa 0) ad))
   (am (ax (aF (ac (ay (aP (aa 1) (aw (aM (aa 2) (aa 4)) (aa 5))) (aa 3)) (ac (ay (aa 2) (aa 4)) ae))))))))),λds R h=>?_⟩)
 .obtain⟨w,h,s,x,y,rfl,_⟩:=h;rfl
 .obtain⟨w,h,s,x,y,rfl,hw,hh,z_,hs,i_,hR⟩:=h;refine#[λd=>d=.int w,#[_,rfl,rfl],?_];rintro _ rfl;k_places;refine#[λd=>d=.int h,#[_,rfl,rfl],?_];rintro _ rfl;k_places;refine#[λd=>d=.int s,#[_,rfl,rfl],?_];rintro _ rfl;k_places;exact#[#[hh,z_],.inr #[Ig,Ig],hw,hh,Iq,hR]
abbrev nO(V:Bx):Prop:=V.MM 2 "hues_by_home" lz A1
def C7(T:V.T "hues_by_home" ly lz)(IC:V.m "enumerate")(uW:eV V)(uN:V.gs "SIGNS" ".123456"):nO V:=by
 refine Tx.okM T sc_hues_by_home (λds M R RX h=>?_) (λf cdv A outer s H E J hr hx=>⟨_,((aA (aZ 2 sc_hues_by_home.nd zk)
   (aA (zb PassesOwn.leaving rfl IC (aj (aa 0)) (dg_cons 3 sc_hues_by_home.nd (dg_cons 4 sc_hues_by_home.nd dv)) (aE (zc PassesOwn.leaving rfl IC (aj (aa 4)) (dg_cons 5 sc_hues_by_home.nd (dg_cons 6 sc_hues_by_home.nd dv)) (aE (ra (bU (bZ (aa 6) av)) (aE (cb (zn (dQ hr) (aj (aa 2)) (aB (ac (ar uW hr (ac (aa 1) (ac (aa 5) (ac (aa 3) ae)))) (ac (yi (eo uN) (ac (aa 6) ae)) ae)))))) bQ)))))
   (rb 2 (aE (aG (aj (aa 2)))))))),λds M R RX f6 h=>?_⟩)
 .obtain⟨_,_,_,_,_,rfl,_⟩:=h;rfl
 .obtain⟨L,wd,w,h,s,rfl,hL,hw,hh,z_,hs,i_,hR⟩:=h;have O2:=hL.w8;refine#[λd M'=>∃p,p∉az M/\d=.ptr p/\M'=(p,.dti [])::M,λp hp=>#[p,hp,rfl,rfl],?_];rintro _ _⟨p,hp,rfl,rfl⟩;k_places;refine#[λj z M'=>∃(kv:List ((Int×Int)×Int)) (x3 x4 x5 x6:Option D),hAll w h s j (L.drop j) kv=hAll w h s 0 L []/\kv.length<=8*j/\z=[be (.lst (lstD L)),be (.tup [.int w,.int h,.int s]),be (.ptr p),x3,x4,x5,x6]/\M'=(p,.dti kv)::M,#[[],p7,p7,p7,p7,rfl,Iq,rfl,rfl],?_,?_]
  .rintro j d z M' hd⟨kv,x3,x4,x5,x6,e1,O3,rfl,rfl⟩;k_places;obtain⟨x,ge,rfl⟩:=AY hd;have hj:j<L.length:=(Ev.mp ge).1;have PP:=hL.many;obtain⟨xl,xs⟩:=hL.each x (FW ge);rw[su ge]at e1;refine#[AX xs,λi z M'=>∃(HJ:List ((Int×Int)×Int)) (x5 x6:Option D),hRow w h s j i (x.drop i) HJ=hRow w h s j 0 x kv/\HJ.length<=8*j+i/\i<=x.length/\z=[be (.lst (lstD L)),be (.tup [.int w,.int h,.int s]),be (.ptr p),be (.int j),be (.str #[x.toArray]),x5,x6]/\M'=(p,.dti HJ)::M,#[kv,x5,x6,rfl,Ig,EI _,rfl,rfl],?_,?_]
   .rintro i d z M' II⟨HJ,y5,y6,e2,L7,hi,rfl,rfl⟩;k_places;obtain⟨c,hc,rfl⟩:=AZ II;have HI:i<x.length:=(Ev.mp hc).1;have sc:=xs c (FW hc);rw[su hc,hRow]at e2;refine#[λz M'=>∃J0:List ((Int×Int)×Int),hRow w h s j (i+1) (x.drop (i+1)) J0=hRow w h s j 0 x kv/\J0.length<=8*j+(i+1)/\z=[be (.lst (lstD L)),be (.tup [.int w,.int h,.int s]),be (.ptr p),be (.int j),be (.str #[x.toArray]),be (.int i),be (.str #[[c].toArray])]/\M'=(p,.dti J0)::M,?_,?_]
    .show if(!decide ((#[[c].toArray]:E_)="."))=true then _ else _;by_cases t_:c=46
     .subst t_;rw[if_pos rfl]at e2;exact#[HJ,e2,Ig,rfl,rfl]
     .rw[if_neg t_]at e2;refine ifT (by simp[one_sign,t_]) ?_;have c6:49<=c/\c<=54:=by unfold bb at sc;lia
      obtain⟨ix,b7,ho,JF⟩:=AW c6;refine#[#[_,cE],w,h,s,i,j,rfl,hw,hh,z_,hs,i_,ix,b7,ho,_,cE,by have:=ss HJ (hmX w h s i j) ((j:Int)%h) ((c:Int)-48);lia,λv=>?_];rw[sr,JF];exact#[_,e2,by have:=ss HJ (hmX w h s i j) ((j:Int)%h) ((c:Int)-48);lia,rfl,rfl]
    .rintro z M'⟨J0,e3,h3,rfl,rfl⟩;k_places;exact#[J0,_,_,e3,h3,HI,rfl,rfl]
   .rintro z M' hz;rw[gp,eN]at hz;obtain⟨HJ,y5,y6,e2,L7,hi,rfl,rfl⟩:=hz;rw[Hv]at e2;refine#[HJ,_,_,_,_,?_,Ig,rfl,rfl];rw[<-e1,hAll,<-e2];rfl
  .rintro z M' hz;rw[show(lstD L).length=L.length by simp[lstD]]at hz;obtain⟨kv,x3,x4,x5,x6,e1,O3,rfl,rfl⟩:=hz;rw[Hv]at e1;refine#[_,cE,?_];rw[jY];have e2:kv=hAll w h s 0 L []:=e1;rw[<-e2]at hR;exact hR
abbrev nP(V:Bx):Prop:=V.M 3 "Motif" lD A2
def C8(T:V.Ti "Motif" "Motif.__init__" lC lD)(Ja:iu V)(L8:nO V)(L9:V.a "Motif" "place")(uK:V.a "Motif" "shifts")(HX:V.a "Motif" "hues"):nP V:=by
 refine Txi.okIM T B6 (λds R h=>?_) (λf cdv A outer s H E J hr hx=>⟨_,((aA (gy L9 (aj (aa 0)) (aj (aa 1)))
   (aA (gy uK (aj (aa 0)) (aj (ar Ja hr (ac (aa 3) (ac (aa 4) ae)))))
   (aE (gy HX (aj (aa 0)) (fw (qW (aH uK (aj (aa 0))) (aj cI)) zj (aY L8 hx hr (aU (aj (aa 2)) (aU (aH uK (aj (aa 0))) bt))))))))),λa ds R Js h=>?_⟩)
 .obtain⟨_,_,_,_,_,_,_,rfl,_⟩:=h;rfl
 .obtain⟨k,L,wd,x,y,u,v,rfl,hL,ge,hy,hu,hv,hn,h1⟩:=h;unfold B12 at ge hy hu hv;refine#[_,dG,by show(0:Nat)<1000;decide,?_];rw[gB,A3];refine#[x,y,u,v,rfl,Ig,Ig,Ig,Ig,λe=>absurd e hn,λe w h s F=>?_];refine#[_,dG,by show(1:Nat)<1000;decide,?_];rw[gB,A4];refine#[_,dG,_,sy,?_];obtain⟨b1,b2,b3⟩:=F.bd (N:=288) (by
   have m1:=bB (a:=x) (d:=v) (A:=12) (B:=12) Ig Ig;have m2:=bB (a:=y) (d:=u) (A:=12) (B:=12) Ig Ig;lia)
  refine#[_,dG,_,sy,L,wd,w,h,s,rfl,hL,F.1,F.2.1,Ig,F.2.2.1,Ig,?_];refine#[_,dG,by show(2:Nat)<1000;decide,?_];rw[gB,A5];exact#[_,rfl,h1 w h s F]
abbrev iw(V:Bx):Prop:=V.MM 5 "motif_from" lG Bc
def C9(T:V.T "motif_from" lF lG)(L_:nM V)(HK:fK V)(uJ:V.a "Reading" "place")(Ma:nP V)(uC:cx V):iw V:=by
 refine Tx.okM T sc_motif_from (λds M R RX h=>?_) (λf cdv A outer s H E J hr hx=>⟨_,((aA (aZ 1 sc_motif_from.nd (aH uJ (aj (aa 0))))
   (aA (cb (aW (CalMth.one uC) hx hr (aj (aa 0)) (aB (ac av ae))))
   (aA (aZ 2 sc_motif_from.nd (aY L_ hx hr (aB (ac (aa 0) ae))))
   (aA (cb (aW (CalMth.one uC) hx hr (aj (aa 0)) (aB (ac av ae))))
   (aA (aZ 3 sc_motif_from.nd (aY HK hx hr (aB (ac (aa 0) ae))))
   (aA (cb (aW (CalMth.one uC) hx hr (aj (aa 0)) (aB (ac av ae))))
   (aA (aZ 4 sc_motif_from.nd (aY HK hx hr (aB (ac (aa 0) ae))))
   (aA (cb (aW (CalMth.one uC) hx hr (aj (aa 0)) (aB (ac av ae))))
   (aE (aG (aj (jA Ma hr (ac (aa 1) (ac (aa 2) (ac (aa 3) (ac (aa 4) ae))))))))))))))))),λds M R RX f6 h=>?_⟩)
 .obtain⟨_,_,_,_,_,_,_,_,_,rfl,_⟩:=h;rfl
 .obtain⟨g,t,k,L,a,b,c,d,l,rfl,rfl,d0,⟨J1,ha,hb,hc,hd,hn⟩,hR⟩:=h;obtain⟨w,hL⟩:=Bb J1;have d0:At t k (91::(rowsL (L.map cs)++59::(numL a++44::(numL b++59::(numL c++44::(numL d++93::l)))))):=by simpa[motL]using d0
  have c5:k+(motL (L.map cs) a b c d).length=k+1+(rowsL (L.map cs)).length+1+(numL a).length+1+(numL b).length+1+(numL c).length+1+(numL d).length+1:=by simp[motL];lia
  rw[c5]at hR;have d5:=d0.next;have i8:=d5.app;have p6:=i8.next;have J2:At t (k+1+(rowsL (L.map cs)).length+1+(numL a).length+1+(numL b).length) _:=p6.app.next.app;have J3:=J2.next;have Mb:At t (k+1+(rowsL (L.map cs)).length+1+(numL a).length+1+(numL b).length+1+(numL c).length+1+(numL d).length) _:=J3.app.next.app;refine#[λv M'=>v=.int k/\M'=RdM g t k,#[_,aS,_,eK,rfl,rfl],?_];rintro _ _⟨rfl,rfl⟩;k_places;refine#[_,Eh.mpr rfl,_,aS,bW,g,t,_,91,_,"[",rfl,rfl,d0,Ik,?_];refine#[λv M'=>v=.lst (lstD (L.map cs))/\M'=RdM g t (k+1+(rowsL (L.map cs)).length),#[g,t,_,_,w,_,rfl,rfl,hL,d5,rfl,rfl],?_];rintro _ _⟨rfl,rfl⟩;k_places;refine#[_,Eh.mpr rfl,_,aS,bW,g,t,_,59,_,";",rfl,rfl,i8,Ik,?_];refine#[λv M'=>v=.tup [.int a,.int b]/\M'=RdM g t (k+1+(rowsL (L.map cs)).length+1+(numL a).length+1+(numL b).length),#[g,t,_,a,b,59,_,rfl,rfl,ha,hb,.inr (.inl rfl),p6,rfl,rfl],?_];rintro _ _⟨rfl,rfl⟩;k_places;refine#[_,Eh.mpr rfl,_,aS,bW,g,t,_,59,_,";",rfl,rfl,J2,Ik,?_];refine#[λv M'=>v=.tup [.int c,.int d]/\M'=RdM g t (k+1+(rowsL (L.map cs)).length+1+(numL a).length+1+(numL b).length+1+(numL c).length+1+(numL d).length),#[g,t,_,c,d,93,_,rfl,rfl,hc,hd,.inr (.inr (.inr rfl)),J3,rfl,rfl],?_];rintro _ _⟨rfl,rfl⟩;k_places;exact#[_,Eh.mpr rfl,_,aS,bW,g,t,_,93,_,"]",rfl,rfl,Mb,Ik,k,_,w,a,b,c,d,rfl,hL,ha,hb,hc,hd,hn,λw h s F=>hR _ #[k,w,h,s,rfl,F]]
abbrev iy(V:Bx):Prop:=V.M 1 "Mirror" lJ A8
def Da(T:V.Ti "Mirror" "Mirror.__init__" lH lJ)(uT:V.a "Mirror" "form"):iy V:=by
 refine Txi.okI T B7 (λds R h=>?_) (λf cdv A outer s H E J hr=>#[_,((bA uT (aa 1) dB)),λds R h=>?_])
 .obtain⟨_,_,rfl,_⟩:=h;rfl
 .obtain⟨x,fs,rfl,hR⟩:=h;exact#[Ik,hR]
abbrev iz(V:Bx):Prop:=V.M 1 "Turn" lL A9
def Db(T:V.Ti "Turn" "Turn.__init__" lK lL)(uV:V.a "Turn" "form"):iz V:=by
 refine Txi.okI T B8 (λds R h=>?_) (λf cdv A outer s H E J hr=>#[_,((bA uV (aa 1) dB)),λds R h=>?_])
 .obtain⟨_,_,rfl,_⟩:=h;rfl
 .obtain⟨x,fs,rfl,hR⟩:=h;exact#[Ik,hR]
abbrev iA(V:Bx):Prop:=V.M 1 "Over" lN A6
def Dc(T:V.Ti "Over" "Over.__init__" lM lN)(uQ:V.a "Over" "above")(uR:V.a "Over" "below"):iA V:=by
 refine Txi.okI T B9 (λds R h=>?_) (λf cdv A outer s H E J hr=>#[_,((bA uQ (aa 1) (bA uR (aa 2) dB))),λds R h=>?_])
 .obtain⟨_,_,_,_,rfl,_⟩:=h;rfl
 .obtain⟨x,y,fs,gs,rfl,hR⟩:=h;refine#[Ik,by show(1:Nat)<1000;decide,?_];show R (putD _ _ (putD _ _ []));rw[putD,putD,if_neg Ip];exact hR
abbrev iB(V:Bx):Prop:=V.M 1 "Shifted" lQ A7
def Dd(T:V.Ti "Shifted" "Shifted.__init__" lP lQ)(uP:V.a "Shifted" "form")(HY:V.a "Shifted" "x")(HZ:V.a "Shifted" "y"):iB V:=by
 refine Txi.okI T Ca (λds R h=>?_) (λf cdv A outer s H E J hr=>#[_,((bA uP (aa 1) (bA HY (aa 2) (bA HZ (aa 3) dB)))),λds R h=>?_])
 .obtain⟨_,_,_,_,rfl,_⟩:=h;rfl
 .obtain⟨x,fs,a,b,rfl,hR⟩:=h;refine#[Ik,by show(1:Nat)<1000;decide,by show(2:Nat)<1000;decide,?_];show R (putD _ _ (putD _ _ (putD _ _ [])));rw[show putD ("x":E_) (.int a) (putD ("form":E_) (.obj x fs) [])=([("form",.obj x fs),("x",.int a)]:List (E_×D))by rw[putD,putD,if_neg Ip];rfl,putD,if_neg Ip,putD,if_neg Ip];exact hR
abbrev iC(V:Bx):Prop:=V.M 1 "Rehue" lU Ba
def De(T:V.Ti "Rehue" "Rehue.__init__" lR lU)(uU:V.a "Rehue" "form")(H8:V.a "Rehue" "old")(H9:V.a "Rehue" "new"):iC V:=by
 refine Txi.okI T Cb (λds R h=>?_) (λf cdv A outer s H E J hr=>#[_,((bA uU (aa 1) (bA H8 (aa 2) (bA H9 (aa 3) dB)))),λds R h=>?_])
 .obtain⟨_,_,_,_,rfl,_⟩:=h;rfl
 .obtain⟨x,fs,a,b,rfl,hR⟩:=h;refine#[Ik,by show(1:Nat)<1000;decide,by show(2:Nat)<1000;decide,?_];show R (putD _ _ (putD _ _ (putD _ _ [])));rw[show putD ("old":E_) (.int a) (putD ("form":E_) (.obj x fs) [])=([("form",.obj x fs),("old",.int a)]:List (E_×D))by rw[putD,putD,if_neg Ip];rfl,putD,if_neg Ip,putD,if_neg Ip];exact hR
variable{n j:Nat}
def Df(hL:5<=n)(T:V.T "over_from" gG fF)(uI:V.MM n "form_from" cw (cU j))(J4:iA V)(uC:cx V):V.MM (n+1) "over_from" fF (sB j):=by
 refine Tx.okM T sc_over_from (λds M R RX h=>?_) (λf cdv A outer s H E J hr hx=>⟨_,((aA (aZ 2 sc_over_from.nd (aY (hn:=Jo) uI hx hr (aB (ac (aa 0) (ac (aa 1) ae)))))
   (aA (cb (aW (hn:=Jo) (CalMth.one uC) hx hr (aj (aa 0)) (aB (ac av ae))))
   (aA (aZ 3 sc_over_from.nd (aY (hn:=Jo) uI hx hr (aB (ac (aa 0) (ac (aa 1) ae)))))
   (aA (cb (aW (hn:=Jo) (CalMth.one uC) hx hr (aj (aa 0)) (aB (ac av ae))))
   (aE (aG (aj (jA (hn:=Jo) J4 hr (ac (aa 2) (ac (aa 3) ae))))))))))),λds M R RX f6 h=>?_⟩)
 .obtain⟨_,_,_,_,_,_,_,rfl,_⟩:=h;rfl
 .obtain⟨a,t,k,p,q,l,d,rfl,rfl,d0,ID,HH,hp,hq,u_,O4,hR⟩:=h;have d5:=d0.app;have i8:=d5.next;have p6:=i8.app;refine#[λv M'=>FormOf p v/\M'=RdM a t (k+p.tl.length),#[a,t,k,p,_,d,rfl,rfl,d0,ID,HH,hp,u_,λv h=>#[h,rfl]],?_];rintro v _⟨hv,rfl⟩;k_places;obtain⟨fs,rfl,_⟩:=hv.objm;refine#[_,Eh.mpr rfl,_,aS,bW,a,t,_,124,_,"|",rfl,rfl,d5,Ik,?_];refine#[λv M'=>FormOf q v/\M'=RdM a t (k+p.tl.length+1+q.tl.length),#[a,t,_,q,_,d,rfl,rfl,i8,ID,HH,hq,O4,λv h=>#[h,rfl]],?_];rintro v _⟨NK,rfl⟩;k_places;obtain⟨gs,rfl,_⟩:=NK.objm;exact#[_,Eh.mpr rfl,_,aS,bW,a,t,_,41,_,")",rfl,rfl,p6,Ik,_,_,_,_,rfl,hR _ _ hv NK]
def Dg(hL:5<=n)(T:V.T "shifted_from" gH fG)(HK:fK V)(uI:V.MM n "form_from" cw (cU j))(J5:iB V)(uC:cx V):V.MM (n+1) "shifted_from" fG (sC j):=by
 refine Tx.okM T sc_shifted_from (λds M R RX h=>?_) (λf cdv A outer s H E J hr hx=>⟨_,((aA (aZ 2 sc_shifted_from.nd (aY (hn:=Jo) HK hx hr (aB (ac (aa 0) ae))))
   (aA (cb (aW (hn:=Jo) (CalMth.one uC) hx hr (aj (aa 0)) (aB (ac av ae))))
   (aE (aG (gx (hn:=Jo) J5 hr (aU (aY (hn:=Jo) uI hx hr (aB (ac (aa 0) (ac (aa 1) ae)))) (aU (aj (af (aa 2) ad)) (aU (aj (af (aa 2) ad)) bt))))))))),λds M R RX f6 h=>?_⟩)
 .obtain⟨_,_,_,_,_,_,_,_,rfl,_⟩:=h;rfl
 .obtain⟨a,t,k,x,y,p,l,d,rfl,rfl,d0,ID,HH,ge,hy,hp,u_,hR⟩:=h;have d5:At t (k+(numL x).length+1+(numL y).length) _:=d0.app.next.app;refine#[λv M'=>v=.tup [.int x,.int y]/\M'=RdM a t (k+(numL x).length+1+(numL y).length),#[a,t,_,x,y,58,_,rfl,rfl,ge,hy,.inr (.inr (.inl rfl)),d0,rfl,rfl],?_];rintro _ _⟨rfl,rfl⟩;k_places;refine#[_,Eh.mpr rfl,_,aS,bW,a,t,_,58,_,":",rfl,rfl,d5,Ik,?_];refine#[a,t,_,p,l,d,rfl,rfl,d5.next,ID,HH,hp,u_,λv h=>?_];obtain⟨fs,rfl,_⟩:=h.objm;exact#[_,rfl,_,rfl,_,_,_,_,rfl,hR _ h]
def Dh(hL:5<=n)(T:V.T "rehue_from" gI fH)(uD:V.m "int")(uI:V.MM n "form_from" cw (cU j))(J6:iC V)(uC:cx V):V.MM (n+1) "rehue_from" fH (sE j):=by
 refine Tx.okM T sc_rehue_from (λds M R RX h=>?_) (λf cdv A outer s H E J hr hx=>⟨_,((aA (aZ 2 sc_rehue_from.nd (qY uD (aU (aW (hn:=Jo) (CalMth.one uC) hx hr (aj (aa 0)) (aB (ac av ae))) bt)))
   (aA (aZ 3 sc_rehue_from.nd (qY uD (aU (aW (hn:=Jo) (CalMth.one uC) hx hr (aj (aa 0)) (aB (ac av ae))) bt)))
   (aE (aG (gx (hn:=Jo) J6 hr (aU (aY (hn:=Jo) uI hx hr (aB (ac (aa 0) (ac (aa 1) ae)))) (aU (aj (aa 2)) (aU (aj (aa 3)) bt))))))))),λds M R RX f6 h=>?_⟩)
 .obtain⟨_,_,_,_,_,_,_,_,rfl,_⟩:=h;rfl
 .obtain⟨a,t,k,f,g,p,l,d,rfl,rfl,d0,ID,HH,hf,hg,hp,u_,hR⟩:=h;have NL:∀{f:Int},1<=f/\f<=6->PySem.intText? (#[[(48+f).toNat].toArray]:E_)=be f:=λ{f} h=>by
   have:=digit_of (c:=(48+f).toNat) Ig;rw[show(((48+f).toNat:Nat):Int)-48=f by lia]at this;exact this
  refine#[λv M'=>v=.int f/\M'=RdM a t (k+1),#[_,Eh.mpr rfl,_,aS,bW,a,t,_,_,_,"123456",rfl,rfl,d0,sA hf,_,#[NL hf,by show(1:Nat)<=640;decide],rfl,rfl],?_];rintro _ _⟨rfl,rfl⟩;k_places;refine#[λv M'=>v=.int g/\M'=RdM a t (k+2),#[_,Eh.mpr rfl,_,aS,bW,a,t,_,_,_,"123456",rfl,rfl,d0.next,sA hg,_,#[NL hg,by show(1:Nat)<=640;decide],rfl,rfl],?_];rintro _ _⟨rfl,rfl⟩;k_places;refine#[a,t,_,p,l,d,rfl,rfl,d0.next.next,ID,HH,hp,u_,λv h=>?_];obtain⟨fs,rfl,_⟩:=h.objm;exact#[_,_,_,_,rfl,hR _ h]
def Di(hL:5<=n)(T:V.T "form_from" gJ cw)(O5:V.MM n "over_from" fF (sB j))(O6:V.MM n "shifted_from" fG (sC j))(uI:V.MM n "form_from" cw (cU j))(O7:V.MM n "rehue_from" fH (sE j))(J7:iw V)(J8:V.gi "DEEP" 5)(J9:iy V)(J_:iz V)(uH:cY V):V.MM (n+1) "form_from" cw (cU (j+1)):=by
 refine Tx.okM T sc_form_from (λds M R RX h=>?_) (λf cdv A outer s H E J hr hx=>⟨_,((aA (aZ 2 sc_form_from.nd (fw (bU (dU (aa 1) (dA J8))) (aW (hn:=Jo) (CalMth.one uH) hx hr (aj (aa 0)) (aB (ac av ae))) (aj av)))
   (aA (bV (bU (bn (aa 2) av)) (aE (aG (aY (hn:=Jo) O5 hx hr (aB (ac (aa 0) (ac (ao (aa 1) ad) ae)))))) bQ)
   (aA (bV (bU (bn (aa 2) av)) (aE (aG (aY (hn:=Jo) O6 hx hr (aB (ac (aa 0) (ac (ao (aa 1) ad) ae)))))) bQ)
   (aA (bV (bU (bn (aa 2) av)) (aE (aG (gx (hn:=Jo) J9 hr (aU (aY (hn:=Jo) uI hx hr (aB (ac (aa 0) (ac (ao (aa 1) ad) ae)))) bt)))) bQ)
   (aA (bV (bU (bn (aa 2) av)) (aE (aG (gx (hn:=Jo) J_ hr (aU (aY (hn:=Jo) uI hx hr (aB (ac (aa 0) (ac (ao (aa 1) ad) ae)))) bt)))) bQ)
   (aA (bV (bU (bn (aa 2) av)) (aE (aG (aY (hn:=Jo) O7 hx hr (aB (ac (aa 0) (ac (ao (aa 1) ad) ae)))))) bQ)
   (aE (aG (aY (hn:=Jo) J7 hx hr (aB (ac (aa 0) ae)))))))))))),λds M R RX f6 h=>?_⟩)
 .obtain⟨_,_,_,_,_,_,rfl,_⟩:=h;rfl
 .obtain⟨a,t,k,p,l,d,rfl,rfl,d0,ID,HH,hp,u_,hR⟩:=h;refine#[λv M'=>v=.str (mayS "(smth" (p.tl++l))/\M'=RdM a t (k+mayN "(smth" (p.tl++l)),?_,?_]
  .show if decide ((d:Int)<5)=true then _ else _
   refine ite2 (λc=>?_) (λc=>?_)
   .exact#[_,Eh.mpr rfl,_,aS,cT,a,t,_,_,"(smth",rfl,rfl,d0,rfl,rfl]
   .have c':¬((d:Int)<5):=λz=>c (decide_eq_true z);cases p with
    |mot L a b c d=>exact#[rfl,rfl]
    |_=>rw[Pat.depth]at u_;lia
  rintro _ _⟨rfl,rfl⟩;k_places;cases p with
  |mot L x y u v=>exact#[a,t,k,L,x,y,u,v,l,rfl,rfl,d0,hp,hR]
  |over p q=>
   rw[Pat.depth]at u_;have e:k+(Pat.over p q).tl.length=k+1+p.tl.length+1+q.tl.length+1:=by rw[Pat.tl];simp;lia
   have d5:At t (k+1) (p.tl++124::(q.tl++41::l)):=by have:=d0.next;simpa using this
   rw[e]at hR;exact#[a,t,k+1,p,q,l,d+1,rfl,rfl,d5,Ig,Ig,hp.1,hp.2,Ig,Ig,λu u' h1 h2=>hR _ #[u,u',rfl,h1,h2]]
  |sh x y p=>
   rw[Pat.depth]at u_;have e:k+(Pat.sh x y p).tl.length=k+1+(numL x).length+1+(numL y).length+1+p.tl.length:=by rw[Pat.tl];simp;lia
   have d5:At t (k+1) (numL x++44::(numL y++58::(p.tl++l))):=by have:=d0.next;simpa using this
   rw[e]at hR;exact#[a,t,k+1,x,y,p,l,d+1,rfl,rfl,d5,Ig,Ig,hp.1,hp.2.1,hp.2.2,Ig,λu h1=>hR _ #[u,rfl,h1]]
  |mir p=>
   rw[Pat.depth]at u_;have e:k+(Pat.mir p).tl.length=k+1+p.tl.length:=by rw[Pat.tl];simp;lia
   rw[e]at hR;refine#[a,t,k+1,p,l,d+1,rfl,rfl,d0.next,Ig,Ig,hp,Ig,λu h1=>?_];obtain⟨fs,rfl,_⟩:=h1.objm;exact#[_,_,rfl,hR _ #[_,rfl,h1]]
  |tur p=>
   rw[Pat.depth]at u_;have e:k+(Pat.tur p).tl.length=k+1+p.tl.length:=by rw[Pat.tl];simp;lia
   rw[e]at hR;refine#[a,t,k+1,p,l,d+1,rfl,rfl,d0.next,Ig,Ig,hp,Ig,λu h1=>?_];obtain⟨fs,rfl,_⟩:=h1.objm;exact#[_,_,rfl,hR _ #[_,rfl,h1]]
  |hue f g p=>
   rw[Pat.depth]at u_;have e:k+(Pat.hue f g p).tl.length=k+1+2+p.tl.length:=by rw[Pat.tl,hueL hp.1,hueL hp.2.1];simp;lia
   have d5:At t (k+1) ((48+f).toNat::(48+g).toNat::(p.tl++l)):=by
    have:=d0.next;rw[hueL hp.1,hueL hp.2.1]at this;simpa using this
   rw[e]at hR;exact#[a,t,k+1,f,g,p,l,d+1,rfl,rfl,d5,Ig,Ig,hp.1,hp.2.1,hp.2.2,Ig,λu h1=>hR _ #[u,rfl,h1]]
def Dj(O8:V.T "over_from" gG fF)(O9:V.T "shifted_from" gH fG)(O_:V.T "rehue_from" gI fH)(NM:V.T "form_from" gJ cw)(J4:iA V)(uC:cx V)(HK:fK V)(J5:iB V)(uD:V.m "int")(J6:iC V)(J7:iw V)(J8:V.gi "DEEP" 5)(J9:iy V)(J_:iz V)(uH:cY V):∀j,V.MM (5+2*j) "form_from" cw (cU j):=by
 intro j;induction j with
 |zero=>exact CalMM.never NM (λds M R RX=>Bd)
 |succ j ih=>
  have Ka:=ih;have Mc:=Df (n:=5+2*j) (j:=j) Jo O8 Ka J4 uC;have Md:=Dg (n:=5+2*j) (j:=j) Jo O9 HK Ka J5 uC;have Me:=Dh (n:=5+2*j) (j:=j) Jo O_ uD Ka J6 uC;have Ka:=Cal.mono ih (Fn _);exact Di (n:=5+2*j+1) (j:=j) Jo NM Mc Md Ka Me J7 J8 J9 J_ uH
abbrev nQ(V:Bx):Prop:=V.M 1 "Reading" lW AM
def Dk(T:V.Ti "Reading" "Reading.__init__" lV lW)(HW:V.a "Reading" "text")(uJ:V.a "Reading" "place"):nQ V:=by
 refine Txi.okI T Cd (λds R h=>?_) (λf cdv A outer s H E J hr=>#[_,((bA HW (aa 1) (bA uJ ad dB))),λds R h=>?_])
 .obtain⟨_,rfl,_⟩:=h;rfl
 .obtain⟨t,rfl,hR⟩:=h;refine#[Ik,by show(1:Nat)<1000;decide,?_];show R (putD _ _ (putD _ _ []));rw[putD,putD,if_neg Ip];exact hR
abbrev nR(V:Bx):Prop:=V.M 1 "Pattern" lY Bj
def Dl(T:V.Ti "Pattern" "Pattern.__init__" lX lY)(Mf:V.a "Pattern" "text")(uX:V.a "Pattern" "shifts")(Jb:V.a "Pattern" "form"):nR V:=by
 refine Txi.okI T Ce (λds R h=>?_) (λf cdv A outer s H E J hr=>#[_,((bA Mf (aa 1) (bA uX (aa 2) (bA Jb (aa 3) dB)))),λds R h=>?_])
 .obtain⟨_,_,_,_,_,_,rfl,_⟩:=h;rfl
 .obtain⟨t,w,h,s,x,fs,rfl,hR⟩:=h;refine#[Ik,by show(1:Nat)<1000;decide,by show(2:Nat)<1000;decide,?_];show R (putD _ _ (putD _ _ (putD _ _ [])));rw[show putD ("shifts":E_) (.tup [.int w,.int h,.int s]) (putD ("text":E_) (.str t) [])=([("text",.str t),("shifts",.tup [.int w,.int h,.int s])]:List (E_×D))by rw[putD,putD,if_neg Ip];rfl,putD,if_neg Ip,putD,if_neg Ip];exact hR
abbrev nU(V:Bx):Prop:=V.D 2 "measure" ma zX
def Dm(T:V.T "measure" lZ ma)(I_:ir V):nU V:=by
 refine Tx.okDW T sc_measure (λds R h=>?_) (λf cdv A outer s H E J hr=>⟨_,((ah (ai 2 sc_measure.nd (af (ar I_ hr (ac (aF (ac ad (ac (aa 0) ae))) (ac (aF (ac ad (ac (aa 1) ae))) ae))) ad))
   (am (ax (aF (ac (af (aa 2) ad) (ac (af (aa 2) ad) ae))))))),λds R h=>?_⟩)
 .obtain⟨x,y,rfl,_⟩:=h;rfl
 .obtain⟨x,y,rfl,hx,hy,hR⟩:=h;refine#[λd=>∃p0 p1:Int,d=.tup [.int p0,.int p1]/\Meas x y p1 p0,#[Iq,Iq,1,x,0,y,rfl,hx,hy,λp0 p1 q0 hL=>#[_,rfl,p0,p1,rfl,rF #[hL.1,hL.2]]],?_];rintro _⟨p0,p1,rfl,hM⟩;k_places;exact#[_,rfl,_,rfl,Iq,hR p1 p0 hM]
abbrev iD(V:Bx):Prop:=V.D 3 "met" me zY
def Dn(T:V.T "met" md me)(Kb:nU V):iD V:=by
 refine Tx.okDW T sc_met (λds R h=>?_) (λf cdv A outer s H E J hr=>⟨_,((ah (ai 2 sc_met.nd (ar Kb hr (ac (af (aa 0) ad) (ac (af (aa 1) ad) ae))))
   (ah (ai 3 sc_met.nd (aM (aw (af (aa 0) ad) (af (aa 1) ad)) (af (aa 2) ad)))
   (ah (ai 4 sc_met.nd (aM (aw (af (aa 0) ad) (af (aa 1) ad)) (af (ar Kb hr (ac (af (aa 0) ad) (ac (af (aa 1) ad) ae))) ad)))
   (ah (ai 5 sc_met.nd (aw (aM (aa 4) (af (aa 0) ad)) (af (aa 0) ad)))
   (ah (ai 6 sc_met.nd (aP (aw (aM (aa 4) (af (aa 1) ad)) (af (aa 1) ad)) (aa 5)))
   (ah (ai 7 sc_met.nd (aM (af (aa 2) ad) (af (ar Kb hr (ac (af (aa 2) ad) (ac (aa 6) ae))) ad)))
   (ah (ai 8 sc_met.nd (aw (aM (aw (aa 7) (aa 6)) (af (aa 2) ad)) (af (aa 2) ad)))
   (am (ax (aF (ac (aa 3) (ac (aw (aa 4) (aa 7)) (ac (ay (ao (aw (aa 7) (aa 5)) (aw (aa 8) (af (aa 0) ad))) (aa 3)) ae)))))))))))))),λds R h=>?_⟩)
 .obtain⟨_,_,_,_,_,_,rfl,_⟩:=h;rfl
 .obtain⟨w1,h1,s1,w2,h2,s2,rfl,a1,a2,a3,a4,a5,a6,b1,b2,b3,b4,b5,b6,hR⟩:=h;refine#[λd=>∃g u:Int,d=.tup [.int g,.int u]/\Meas w1 w2 g u,#[_,rfl,_,rfl,w1,w2,rfl,Jo,Jo,λg u M=>#[g,u,rfl,M]],?_];rintro _⟨g,u,rfl,M1⟩;k_places;have hg:=M1.pos a1;have LX:=M1.le a1;refine#[λd=>d=.int (w1*w2/g),#[_,rfl,_,rfl,.inl (b64B a1 a2),_,rfl,d30B hg (E7 LX a2),rfl],?_];rintro _ rfl;k_places;refine#[λd=>∃k u':Int,d=.int (h1*h2/k)/\Meas h1 h2 k u',#[_,rfl,_,rfl,.inl (b64B a3 a4),_,rfl,_,rfl,h1,h2,rfl,Jo,Jo,λk u' M=>#[_,rfl,d30B (M.pos a3) (E7 (M.le a3) a4),k,u',rfl,M]],?_];rintro _⟨k,u',rfl,M2⟩;k_places;obtain⟨r0,r1,r2,r3,r4,r5⟩:=jS a3 b3 M2;have Pa:h1*h2<=1125899906842624:=by
   have:=bB (a:=h1) (d:=h2) (A:=33554432) (B:=33554432) Jo Jo;omega
  refine#[λd=>d=.int (h1*h2/k/h1*s1),#[_,rfl,d30B a3 a4,_,rfl,.inr (s64B a5 a6 a2),rfl],?_];rintro _ rfl;k_places;refine#[λd=>d=.int (h1*h2/k/h2*s2-h1*h2/k/h1*s1),#[_,rfl,d30B b3 b4,_,rfl,.inr (s64B b5 b6 b2),rfl],?_];rintro _ rfl;k_places;have t1:=bB (a:=h1*h2/k/h1) (d:=s1) (A:=33554432) (B:=33554432) Jo Jo;have t2:=bB (a:=h1*h2/k/h2) (d:=s2) (A:=33554432) (B:=33554432) Jo Jo;refine#[λd=>∃gg t9:Int,d=.int (g/gg)/\Meas g (h1*h2/k/h2*s2-h1*h2/k/h1*s1) gg t9,#[_,rfl,_,rfl,g,_,rfl,Jo,Jo,λgg t9 M=>#[_,rfl,d30B (M.pos hg) (E7 (M.le hg) (E7 LX a2)),gg,t9,rfl,M]],?_];rintro _⟨gg,t9,rfl,M3⟩;k_places;have HF:=M3.pos hg;have c1:0<=g/gg:=GC Jo Jo;have c2:g/gg<=g:=GD _ Jo;have c4:=zJ (c:=g/gg) (gap:=h1*h2/k/h2*s2-h1*h2/k/h1*s1) (N:=2251799813685248) hg c1 c2 Jo;have mr:=jR a1 b1 a3 b3 M1 M2 M3;refine#[λd=>d=.int (g/gg*(h1*h2/k/h2*s2-h1*h2/k/h1*s1)/g*u),#[.inl #[Jo,Jo],_,rfl,#[Jo,Jo],_,rfl,.inl #[Jo,Jo],rfl],?_];rintro _ rfl;k_places;obtain⟨w0,w3,_⟩:=jS a1 b1 M1;have Pb:w1*w2<=1125899906842624:=by
   have:=bB (a:=w1) (d:=w2) (A:=33554432) (B:=33554432) Jo Jo;omega
  have Nq:=bB (a:=h1*h2/k) (d:=g/gg) (A:=1125899906842624) (B:=33554432) Jo Jo;exact#[.inl #[Jo,Jo],.inl #[Jo,Jo],_,rfl,.inr #[Jo,Jo],w0,Iq,hR _ _ _ _ mr]
abbrev iE(V:Bx):Prop:=V.D 1 "mirrored" mi zV
def Do(T:V.T "mirrored" mf mi):iE V:=by
 refine Tx.okDW T Cf (λds R h=>?_) (λf cdv A outer s H E J hr=>#[_,((am (ax (aF (ac (af (aa 0) ad) (ac (af (aa 0) ad) (ac (ay (bS (af (aa 0) ad)) (af (aa 0) ad)) ae))))))),λds R h=>?_])
 .obtain⟨w,h,s,rfl,_⟩:=h;rfl
 .obtain⟨w,h,s,rfl,hw,hR⟩:=h;exact#[_,rfl,_,rfl,_,rfl,_,rfl,hw,Iq,hR]
abbrev iF(V:Bx):Prop:=V.D 3 "turned" ml zW
def Dp(T:V.T "turned" mj ml)(Ja:iu V):iF V:=by
 refine Tx.okDW T Cg (λds R h=>?_) (λf cdv A outer s H E J hr=>#[_,((am (ax (ar Ja hr (ac (aF (ac ad (ac (af (aa 0) ad) ae))) (ac (aF (ac (bS (af (aa 0) ad)) (ac (af (aa 0) ad) ae))) ae)))))),λds R h=>?_])
 .obtain⟨w,h,s,rfl,_⟩:=h;rfl
 .obtain⟨w,h,s,rfl,hw,hh,JU,z_,hs,i_,hR⟩:=h;have hp:0<w*h:=EB hw hh;have hn:¬0*s=w* -h:=by rw[Gb];lia
  exact#[_,rfl,Iq,_,rfl,_,rfl,Iq,0,w,-h,s,rfl,Ig,Ig,Ig,Ig,λe=>absurd e hn,λ_ w' h' s' f=>hR w' h' s' f]
def ok_Motif_family(hL:3<=n)(T:V.Tm "Motif" "family" "Motif.family" gK cf)(uK:V.a "Motif" "shifts"):V.Q (n+1) "Motif" "family" cf (ofX (bJ (j+1) "Motif")):=by
 refine Txm.okM T Ch (λds M R RX h=>?_) (λf cdv A outer s H E J hr hx=>⟨_,((aA (bV (qW (aH uK (aj (aa 0))) (aj cI)) (aE gz) bQ)
   (aE (aG (aH uK (aj (aa 0))))))),λds M R RX f6 h=>?_⟩)
 .obtain⟨_,_,rfl,_⟩:=h;rfl
 .obtain⟨p,v,rfl,hv,hp,hd,hc,hf,hR⟩:=h;cases p<;>simp only[Pat.cls]at hc<;>try exact absurd hc Ip
  obtain⟨k,w,h,s,rfl,F⟩:=hv;exact#[_,#[rfl,rfl],_,mo_shifts,_,#[rfl,rfl],_,mo_shifts,hR w h s (Pat.Fam.mot F)]
def Dq(hL:3<=n)(T:V.Tm "Over" "family" "Over.family" gL gM)(Kc:iD V)(uQ:V.a "Over" "above")(uR:V.a "Over" "below")(uF:∀x,x∈(["Motif","Over","Shifted","Mirror","Turn","Rehue"]:List E_)->V.Q n x "family" cf (ofX (bJ j x))):V.Q (n+1) "Over" "family" gM (ofX (bJ (j+1) "Over")):=by
 refine Txm.okM T sc_Over_family (λds M R RX h=>?_) (λf cdv A outer s H E J hr hx=>⟨_,((aA (aZ 1 sc_Over_family.nd (dE (hn:=Jo) uF hx hr (aH uQ (aj (aa 0)))))
   (aE (aG (aY (hn:=Jo) (CalD.toM Kc) hx hr (aU (aj (aa 1)) (aU (dE (hn:=Jo) uF hx hr (aH uR (aj (aa 0)))) bt))))))),λds M R RX f6 h=>?_⟩)
 .obtain⟨_,_,rfl,_⟩:=h;rfl
 .obtain⟨p,v,rfl,hv,hp,hd,hc,hf,hR⟩:=h;cases p<;>simp only[Pat.cls]at hc<;>try exact absurd hc Ip
  rename_i p q;obtain⟨u,u',rfl,hu,Kd⟩:=hv;obtain⟨fs,rfl,o1⟩:=hu.objm;obtain⟨gs,rfl,o2⟩:=Kd.objm;obtain⟨f1,f2⟩:=Pat.Fits.over_parts hp.1 hp.2 hf;rw[Pat.depth]at hd;refine#[λd M'=>(∃w h s,p.Fam w h s/\d=.tup [.int w,.int h,.int s])/\M'=M,#[_,#[rfl,rfl],_,rfl,p.cls,p.cls_mem,fs,#[rfl,rfl],o1.fam,p,_,rfl,hu,hp.1,Ig,rfl,f1,λw h s F=>#[#[w,h,s,F,rfl],rfl]],?_];rintro _ _⟨⟨w1,h1,s1,F1,rfl⟩,rfl⟩;k_places;refine#[_,#[rfl,rfl],_,eO Ip,q.cls,q.cls_mem,gs,#[rfl,rfl],o2.fam,q,_,rfl,Kd,hp.2,Ig,rfl,f2,λw2 h2 s2 F2=>?_];obtain⟨a1,a2,a3,a4,a5,a6⟩:=f1.small F1;obtain⟨b1,b2,b3,b4,b5,b6⟩:=f2.small F2;exact#[w1,h1,s1,w2,h2,s2,rfl,a1,Ig,a3,Ig,a5,a6,b1,Ig,b3,Ig,b5,b6,λw h s A MR=>hR w h s (Pat.Fam.over F1 F2 MR)]
def Dr(hL:3<=n)(T:V.Tm "Shifted" "family" "Shifted.family" gN gO)(uP:V.a "Shifted" "form")(uF:∀x,x∈(["Motif","Over","Shifted","Mirror","Turn","Rehue"]:List E_)->V.Q n x "family" cf (ofX (bJ j x))):V.Q (n+1) "Shifted" "family" gO (ofX (bJ (j+1) "Shifted")):=by
 refine Txm.okM T Ci (λds M R RX h=>?_) (λf cdv A outer s H E J hr hx=>#[_,((aE (aG (dE (hn:=Jo) uF hx hr (aH uP (aj (aa 0))))))),λds M R RX f6 h=>?_])
 .obtain⟨_,_,rfl,_⟩:=h;rfl
 .obtain⟨p,v,rfl,hv,hp,hd,hc,hf,hR⟩:=h;cases p<;>simp only[Pat.cls]at hc<;>try exact absurd hc Ip
  rename_i a b p;obtain⟨u,rfl,hu⟩:=hv;obtain⟨fs,rfl,o1⟩:=hu.objm;rw[Pat.depth]at hd;refine#[_,#[rfl,rfl],_,rfl,p.cls,p.cls_mem,fs,#[rfl,rfl],o1.fam,p,_,rfl,hu,hp.2.2,Ig,rfl,hf.of_sh,λw h s F=>?_];exact hR w h s (F.sh a b)
def Ds(hL:3<=n)(T:V.Tm "Mirror" "family" "Mirror.family" gP gQ)(Ke:iE V)(uT:V.a "Mirror" "form")(uF:∀x,x∈(["Motif","Over","Shifted","Mirror","Turn","Rehue"]:List E_)->V.Q n x "family" cf (ofX (bJ j x))):V.Q (n+1) "Mirror" "family" gQ (ofX (bJ (j+1) "Mirror")):=by
 refine Txm.okM T Cj (λds M R RX h=>?_) (λf cdv A outer s H E J hr hx=>#[_,((aE (aG (aY (hn:=Jo) (CalD.toM Ke) hx hr (aU (dE (hn:=Jo) uF hx hr (aH uT (aj (aa 0)))) bt))))),λds M R RX f6 h=>?_])
 .obtain⟨_,_,rfl,_⟩:=h;rfl
 .obtain⟨p,v,rfl,hv,hp,hd,hc,hf,hR⟩:=h;cases p<;>simp only[Pat.cls]at hc<;>try exact absurd hc Ip
  rename_i p;obtain⟨u,rfl,hu⟩:=hv;obtain⟨fs,rfl,o1⟩:=hu.objm;rw[Pat.depth]at hd;refine#[_,#[rfl,rfl],_,rfl,p.cls,p.cls_mem,fs,#[rfl,rfl],o1.fam,p,_,rfl,hu,hp,Ig,rfl,Pat.Fits.of_mir (p:=p) hp hf,λw h s F=>?_];exact#[w,h,s,rfl,F.f.w0,hR w h _ F.mir]
def Dt(hL:3<=n)(T:V.Tm "Turn" "family" "Turn.family" gR gS)(Kf:iF V)(uV:V.a "Turn" "form")(uF:∀x,x∈(["Motif","Over","Shifted","Mirror","Turn","Rehue"]:List E_)->V.Q n x "family" cf (ofX (bJ j x))):V.Q (n+1) "Turn" "family" gS (ofX (bJ (j+1) "Turn")):=by
 refine Txm.okM T Ck (λds M R RX h=>?_) (λf cdv A outer s H E J hr hx=>#[_,((aE (aG (aY (hn:=Jo) (CalD.toM Kf) hx hr (aU (dE (hn:=Jo) uF hx hr (aH uV (aj (aa 0)))) bt))))),λds M R RX f6 h=>?_])
 .obtain⟨_,_,rfl,_⟩:=h;rfl
 .obtain⟨p,v,rfl,hv,hp,hd,hc,hf,hR⟩:=h;cases p<;>simp only[Pat.cls]at hc<;>try exact absurd hc Ip
  rename_i p;obtain⟨u,rfl,hu⟩:=hv;obtain⟨fs,rfl,o1⟩:=hu.objm;rw[Pat.depth]at hd;refine#[_,#[rfl,rfl],_,rfl,p.cls,p.cls_mem,fs,#[rfl,rfl],o1.fam,p,_,rfl,hu,hp,Ig,rfl,Pat.Fits.of_tur (p:=p) hp hf,λw h s F=>?_];obtain⟨a1,a2,a3,a4,a5,a6⟩:=(Pat.Fits.of_tur (p:=p) hp hf).small F;exact#[w,h,s,rfl,a1,a3,Ig,Ig,a5,Ig,λw' h' s' F'=>hR w' h' s' (F.tur F')]
def Du(hL:3<=n)(T:V.Tm "Rehue" "family" "Rehue.family" gT gU)(uU:V.a "Rehue" "form")(uF:∀x,x∈(["Motif","Over","Shifted","Mirror","Turn","Rehue"]:List E_)->V.Q n x "family" cf (ofX (bJ j x))):V.Q (n+1) "Rehue" "family" gU (ofX (bJ (j+1) "Rehue")):=by
 refine Txm.okM T Cl (λds M R RX h=>?_) (λf cdv A outer s H E J hr hx=>#[_,((aE (aG (dE (hn:=Jo) uF hx hr (aH uU (aj (aa 0))))))),λds M R RX f6 h=>?_])
 .obtain⟨_,_,rfl,_⟩:=h;rfl
 .obtain⟨p,v,rfl,hv,hp,hd,hc,hf,hR⟩:=h;cases p<;>simp only[Pat.cls]at hc<;>try exact absurd hc Ip
  rename_i f g p;obtain⟨u,rfl,hu⟩:=hv;obtain⟨fs,rfl,o1⟩:=hu.objm;rw[Pat.depth]at hd;refine#[_,#[rfl,rfl],_,rfl,p.cls,p.cls_mem,fs,#[rfl,rfl],o1.fam,p,_,rfl,hu,hp.2.2,Ig,rfl,hf.of_hue,λw h s F=>?_];exact hR w h s (F.hue f g)
def Dv(NN:V.Tm "Motif" "family" "Motif.family" gK cf)(NO:V.Tm "Over" "family" "Over.family" gL gM)(NP:V.Tm "Shifted" "family" "Shifted.family" gN gO)(NQ:V.Tm "Mirror" "family" "Mirror.family" gP gQ)(NR:V.Tm "Turn" "family" "Turn.family" gR gS)(NS:V.Tm "Rehue" "family" "Rehue.family" gT gU)(uK:V.a "Motif" "shifts")(Kc:iD V)(uQ:V.a "Over" "above")(uR:V.a "Over" "below")(uP:V.a "Shifted" "form")(Ke:iE V)(uT:V.a "Mirror" "form")(Kf:iF V)(uV:V.a "Turn" "form")(uU:V.a "Rehue" "form"):∀j x,x∈(["Motif","Over","Shifted","Mirror","Turn","Rehue"]:List E_)->V.Q (3+j) x "family" cf (ofX (bJ j x)):=by
 intro j;induction j with
 |zero=>
  intro x hx;simp only[Ei,FM,or_false]at hx;rcases hx with rfl|rfl|rfl|rfl|rfl|rfl
  .exact CalMth.never NN (λds M R RX=>eQ)
  .exact CalMth.never NO (λds M R RX=>eQ)
  .exact CalMth.never NP (λds M R RX=>eQ)
  .exact CalMth.never NQ (λds M R RX=>eQ)
  .exact CalMth.never NR (λds M R RX=>eQ)
  .exact CalMth.never NS (λds M R RX=>eQ)
 |succ j Kg=>
  intro x hx;simp only[Ei,FM,or_false]at hx;rcases hx with rfl|rfl|rfl|rfl|rfl|rfl
  .exact ok_Motif_family (n:=3+j) (j:=j) Jo NN uK
  .exact Dq (n:=3+j) (j:=j) Jo NO Kc uQ uR Kg
  .exact Dr (n:=3+j) (j:=j) Jo NP uP Kg
  .exact Ds (n:=3+j) (j:=j) Jo NQ Ke uT Kg
  .exact Dt (n:=3+j) (j:=j) Jo NR Kf uV Kg
  .exact Du (n:=3+j) (j:=j) Jo NS uU Kg
abbrev sW(V:Bx):Prop:=V.MM 17 "form_from" cw (cU 6)
abbrev sX(V:Bx):Prop:=∀x,x∈(["Motif","Over","Shifted","Mirror","Turn","Rehue"]:List E_)->V.Q 9 x "family" cf (ofX (bJ 6 x))
abbrev nV(V:Bx):Prop:=V.X 18 "read" mn sI
def Dw(T:V.T "read" mm mn)(uB:V.m "len")(uI:sW V)(Mg:V.gi "MOST" 720)(uJ:V.a "Reading" "place")(Mh:nQ V)(Mi:nR V)(uF:sX V):nV V:=by
 refine CalMM.nilX (Tx.okM T sc_read (λds M R RX h=>?_) (λf cdv A outer s H E J hr hx=>⟨_,((aA (aZ 1 sc_read.nd (yD Mh hr (aB (ac (aa 0) ae))))
   (aA (aZ 2 sc_read.nd (aY uI hx hr (aB (ac (aa 1) (ac ad ae)))))
   (aA (bV (qV (aH uJ (aj (aa 1))) (aj (cy uB (ac (aa 0) ae)))) (aE gz) bQ)
   (aA (aZ 3 sc_read.nd (dE uF hx hr (aj (aa 2))))
   (aA (bV (bU (qk (aw (af (aa 3) ad) (af (aa 3) ad)) (dA Mg))) (aE gz) bQ)
   (aE (aG (aj (jA Mi hr (ac (aa 0) (ac (aa 3) (ac (aa 2) ae))))))))))))),λds M R RX f6 h=>?_⟩))
 .obtain⟨_,R0,IP,⟨_,rfl,_⟩,_⟩:=h;rfl
 .obtain⟨rfl,R0,IP,⟨p,rfl,ok,hG⟩,hR,hX⟩:=h;have c5:=Pat.text_short ok.wf ok.deep;have d0:At p.text 0 (p.tl++[]):=#[by rw[E4];exact cS p,EI _,Ig];have Pc:=ok.deep;have hl:p.text.length=p.tl.length:=by rw[<-bq,cS]
  refine#[λd M'=>∃a,d=.ptr a/\M'=RdM a p.text 0,#[_,rfl,λa _=>#[a,rfl,rfl]],?_];rintro _ _⟨a,rfl,rfl⟩;k_places;refine#[λv M'=>FormOf p v/\M'=RdM a p.text p.tl.length,#[a,p.text,0,p,[],0,rfl,rfl,d0,rfl,Ik,ok.wf,Ig,λv h=>#[h,by rw[Hr]]],?_];rintro v _⟨hv,rfl⟩;k_places;refine#[_,aS,_,eK,Ig,ite2 (λc=>absurd (of_decide_eq_true c) Ig) (λ_=>?_)];obtain⟨fs,rfl,o1⟩:=hv.objm;refine#[λd M'=>∃w h s,p.Fam w h s/\d=.tup [.int w,.int h,.int s],#[p.cls,p.cls_mem,fs,#[rfl,rfl],o1.fam,p,_,rfl,hv,ok.wf,Ig,rfl,ok.fits,λw h s F=>#[w,h,s,F,rfl]],?_];rintro _ M'⟨w,h,s,F,rfl⟩;k_places;have a1:=ok.fits.small F;obtain⟨w',h',s',F',hb⟩:=ok.fits;obtain⟨rfl,rfl,_⟩:=F.uniq F';refine#[_,rfl,_,rfl,.inl #[Ig,Ig],ite2 (λc=>absurd (of_decide_eq_true c) Ig) (λ_=>?_)];exact#[_,_,_,_,_,_,rfl,hR _ _ (hG _ #[_,_,s,_,rfl,rfl,eO Ip,#[F,#[_,jZ Ip Ip,hv],by simp[noLF,noL,noLs,o1.nl]]])]
def Dx:SpD:=λds R=>∃v:Int,ds=[.int v]/\∀n:Int,R (.int n)
abbrev nW(V:Bx):Prop:=V.D 1 "_law_reach" mq Dx
def Dy(T:V.T "_law_reach" mo mq):nW V:=by
 refine Tx.okDW T sc__law_reach (λds R h=>?_) (λf cdv A outer s H E J hr=>⟨_,((ah (ai 1 sc__law_reach.nd (aP ad (aw ad (ay (aM (aa 0) ad) ad))))
   (ah (aX (dU (ay (aa 0) ad) ad) (am (ax (aw (aa 1) (df ad ad)))) aQ)
   (ah (aX (bn (ay (aa 0) ad) ad) (am (ax (aw (aa 1) (ao (ao (df ad ad) ad) (ay (aM (aa 0) ad) ad))))) aQ)
   (am (ax (aw (aa 1) (ao (df ad ad) (ay (aM (aa 0) ad) (df ad ad)))))))))),λds R h=>?_⟩)
 .obtain⟨_,rfl,_⟩:=h;rfl
 .obtain⟨v,rfl,hR⟩:=h;refine#[λd=>∃s:Int,d=.int s/\(s=1\/s=-1),#[Ik,Ik,.inl #[Ik,Ik],_,rfl,?_],?_]
  .rcases Int.emod_two_eq (v/4)with e|e<;>rw[e]
   .exact .inl rfl
   .exact .inr rfl
  rintro _⟨s,rfl,hs⟩;k_places;have cm:∀x:Int,CMul s x:=λx=>.inl #[Ig,Ig];refine#[Ik,ite2 (λ_=>#[#[Ik,Ik,Ik],cm _,hR _]) λ_=>?_];refine#[Ik,ite2 (λ_=>#[#[Ik,Ik,Ik],Ik,Ik,cm _,hR _]) λ_=>?_];exact#[#[Ik,Ik,Ik],Ik,#[Ik,Ik,Ik],Int.pow_pos Ik,cm _,hR _]
abbrev iG(V:Bx):Prop:=V.X 1 "refuse_far" mx Bl
def Dz(T:V.T "refuse_far" mv mx)(uZ:V.m "max")(uO:V.m "abs")(IE:V.gi "FAR" 1000000000000)(Mj:V.n "TooFar"):iG V:=by
 refine Tx.okXW T Cm (λds R RX h=>?_) (λf cdv A outer s H E J hr hx=>#[_,((am (aX (qk (gj rfl uZ (ac (dS uO (ac (aa 0) ae)) (ac (dS uO (ac (aa 1) ae)) ae))) (dA IE)) (am (xQ Mj hx rfl (ac av ae))) aQ))),λds R RX f6 h=>?_])
 .obtain⟨_,_,rfl,_⟩:=h;rfl
 .obtain⟨x,y,rfl,h1,h2⟩:=h;refine ite2 (λc=>?_) (λc=>?_)
  .have c':=of_decide_eq_true c;refine#[K_,?_];rw[f6];refine h2 λ⟨⟨a1,a2⟩,a3,a4⟩=>?_;split at c'<;>split at c'<;>split at c'<;>lia
  .have c':¬_:=λz=>c (decide_eq_true z);refine h1 ?_;unfold aq;split at c'<;>split at c'<;>split at c'<;>lia
def ok_Motif_shows(hL:1<=n)(T:V.Tm "Motif" "shows" "Motif.shows" gW cj)(uW:eV V)(HX:V.a "Motif" "hues")(uK:V.a "Motif" "shifts"):V.Q (n+1) "Motif" "shows" cj (ofX (bK (j+1) "Motif")):=by
 refine Txm.okM T Cn (λds M R RX h=>?_) (λf cdv A outer s H E J hr hx=>#[_,((aE (aG (zm (dQ hr) (aH HX (aj (aa 0))) (aU (aY (hn:=Jo) (CalD.toM uW) hx hr (aU (aH uK (aj (aa 0))) (aU (aj (aa 1)) (aU (aj (aa 2)) bt)))) (aU (aj ad) bt)))))),λds M R RX f6 h=>?_])
 .obtain⟨_,_,_,_,rfl,_⟩:=h;rfl
 .obtain⟨p,v,X,Y,rfl,hv,v3,hd,hc,hR⟩:=h;cases p<;>simp only[Pat.cls]at hc<;>try exact absurd hc Ip
  rename_i L a b c d;obtain⟨k,w,h,s,rfl,F⟩:=hv;obtain⟨hL,ha,hb,y_,gV,hn⟩:=v3;unfold B12 at ha hb y_ gV;obtain⟨b1,b2,b3⟩:=F.bd (N:=288) (by
   have m1:=bB (a:=a) (d:=d) (A:=12) (B:=12) Ig Ig;have m2:=bB (a:=b) (d:=c) (A:=12) (B:=12) Ig Ig;lia)
  rw[Pat.show,<-motif_shows hL F hn X Y]at hR;exact#[_,#[rfl,rfl],_,Be,_,#[rfl,rfl],_,mo_shifts,w,h,s,X,Y,rfl,F.1,F.2.1,Ig,F.2.2.1,Ig,hR]
def DB(hL:1<=n)(T:V.Tm "Over" "shows" "Over.shows" gX gY)(uQ:V.a "Over" "above")(uR:V.a "Over" "below")(uG:∀x,x∈(["Motif","Over","Shifted","Mirror","Turn","Rehue"]:List E_)->V.Q n x "shows" cj (ofX (bK j x))):V.Q (n+1) "Over" "shows" gY (ofX (bK (j+1) "Over")):=by
 refine Txm.okM T sc_Over_shows (λds M R RX h=>?_) (λf cdv A outer s H E J hr hx=>⟨_,((aA (aZ 3 sc_Over_shows.nd (aW (hn:=Jo) uG hx hr (aH uQ (aj (aa 0))) (aB (ac (aa 1) (ac (aa 2) ae)))))
   (aE (aG (fw (bU (bn (aa 3) ad)) (aW (hn:=Jo) uG hx hr (aH uR (aj (aa 0))) (aB (ac (aa 1) (ac (aa 2) ae)))) (aj (aa 3))))))),λds M R RX f6 h=>?_⟩)
 .obtain⟨_,_,_,_,rfl,_⟩:=h;rfl
 .obtain⟨p,v,X,Y,rfl,hv,v3,hd,hc,hR⟩:=h;cases p<;>simp only[Pat.cls]at hc<;>try exact absurd hc Ip
  rename_i p q;obtain⟨u,u',rfl,hu,Kd⟩:=hv;obtain⟨fs,rfl,o1⟩:=hu.objm;obtain⟨gs,rfl,o2⟩:=Kd.objm;rw[Pat.depth]at hd;refine#[λd M'=>d=.int (p.show X Y)/\M'=M,#[_,#[rfl,rfl],_,rfl,p.cls,p.cls_mem,fs,#[rfl,rfl],o1.shw,p,_,X,Y,rfl,hu,v3.1,Ig,rfl,rfl,rfl],?_];rintro _ _⟨rfl,rfl⟩;k_places;rw[Pat.show]at hR;show if decide (p.show X Y=0)=true then _ else _
  refine ite2 (λe=>?_) (λe=>?_)
  .have e':=of_decide_eq_true e;rw[if_neg (λz=>z e')]at hR;exact#[_,#[rfl,rfl],_,eO Ip,q.cls,q.cls_mem,gs,#[rfl,rfl],o2.shw,q,_,X,Y,rfl,Kd,v3.2,Ig,rfl,hR]
  .have e':p.show X Y≠0:=λz=>e (decide_eq_true z);rw[if_pos e']at hR;exact hR
def DC(hL:1<=n)(T:V.Tm "Shifted" "shows" "Shifted.shows" gZ hU)(uP:V.a "Shifted" "form")(HZ:V.a "Shifted" "y")(HY:V.a "Shifted" "x")(uG:∀x,x∈(["Motif","Over","Shifted","Mirror","Turn","Rehue"]:List E_)->V.Q n x "shows" cj (ofX (bK j x))):V.Q (n+1) "Shifted" "shows" hU (ofX (bK (j+1) "Shifted")):=by
 refine Txm.okM T Co (λds M R RX h=>?_) (λf cdv A outer s H E J hr hx=>#[_,((aE (aG (aW (hn:=Jo) uG hx hr (aH uP (aj (aa 0))) (aU (jK (aj (aa 1)) (aH HY (aj (aa 0)))) (aU (jK (aj (aa 2)) (aH HZ (aj (aa 0)))) bt)))))),λds M R RX f6 h=>?_])
 .obtain⟨_,_,_,_,rfl,_⟩:=h;rfl
 .obtain⟨p,v,X,Y,rfl,hv,v3,hd,hc,hR⟩:=h;cases p<;>simp only[Pat.cls]at hc<;>try exact absurd hc Ip
  rename_i a b p;obtain⟨u,rfl,hu⟩:=hv;obtain⟨fs,rfl,o1⟩:=hu.objm;rw[Pat.depth]at hd;exact#[_,#[rfl,rfl],_,rfl,p.cls,p.cls_mem,fs,#[rfl,rfl],o1.shw,_,#[rfl,rfl],_,eO Ip,_,#[rfl,rfl],_,jZ Ip Ip,p,_,X-a,Y-b,rfl,hu,v3.2.2,Ig,rfl,hR]
def DD(hL:1<=n)(T:V.Tm "Mirror" "shows" "Mirror.shows" hV hZ)(uT:V.a "Mirror" "form")(uG:∀x,x∈(["Motif","Over","Shifted","Mirror","Turn","Rehue"]:List E_)->V.Q n x "shows" cj (ofX (bK j x))):V.Q (n+1) "Mirror" "shows" hZ (ofX (bK (j+1) "Mirror")):=by
 refine Txm.okM T Cp (λds M R RX h=>?_) (λf cdv A outer s H E J hr hx=>#[_,((aE (aG (aW (hn:=Jo) uG hx hr (aH uT (aj (aa 0))) (aB (ac (bS (aa 1)) (ac (aa 2) ae))))))),λds M R RX f6 h=>?_])
 .obtain⟨_,_,_,_,rfl,_⟩:=h;rfl
 .obtain⟨p,v,X,Y,rfl,hv,v3,hd,hc,hR⟩:=h;cases p<;>simp only[Pat.cls]at hc<;>try exact absurd hc Ip
  rename_i p;obtain⟨u,rfl,hu⟩:=hv;obtain⟨fs,rfl,o1⟩:=hu.objm;rw[Pat.depth]at hd;exact#[_,#[rfl,rfl],_,rfl,p.cls,p.cls_mem,fs,#[rfl,rfl],o1.shw,p,_,-X,Y,rfl,hu,v3,Ig,rfl,hR]
def DF(hL:1<=n)(T:V.Tm "Turn" "shows" "Turn.shows" ia ib)(uV:V.a "Turn" "form")(uG:∀x,x∈(["Motif","Over","Shifted","Mirror","Turn","Rehue"]:List E_)->V.Q n x "shows" cj (ofX (bK j x))):V.Q (n+1) "Turn" "shows" ib (ofX (bK (j+1) "Turn")):=by
 refine Txm.okM T Cq (λds M R RX h=>?_) (λf cdv A outer s H E J hr hx=>#[_,((aE (aG (aW (hn:=Jo) uG hx hr (aH uV (aj (aa 0))) (aB (ac (aa 2) (ac (bS (aa 1)) ae))))))),λds M R RX f6 h=>?_])
 .obtain⟨_,_,_,_,rfl,_⟩:=h;rfl
 .obtain⟨p,v,X,Y,rfl,hv,v3,hd,hc,hR⟩:=h;cases p<;>simp only[Pat.cls]at hc<;>try exact absurd hc Ip
  rename_i p;obtain⟨u,rfl,hu⟩:=hv;obtain⟨fs,rfl,o1⟩:=hu.objm;rw[Pat.depth]at hd;exact#[_,#[rfl,rfl],_,rfl,p.cls,p.cls_mem,fs,#[rfl,rfl],o1.shw,p,_,Y,-X,rfl,hu,v3,Ig,rfl,hR]
def DG(hL:1<=n)(T:V.Tm "Rehue" "shows" "Rehue.shows" ic ie)(uU:V.a "Rehue" "form")(H8:V.a "Rehue" "old")(H9:V.a "Rehue" "new")(uG:∀x,x∈(["Motif","Over","Shifted","Mirror","Turn","Rehue"]:List E_)->V.Q n x "shows" cj (ofX (bK j x))):V.Q (n+1) "Rehue" "shows" ie (ofX (bK (j+1) "Rehue")):=by
 refine Txm.okM T sc_Rehue_shows (λds M R RX h=>?_) (λf cdv A outer s H E J hr hx=>⟨_,((aA (aZ 3 sc_Rehue_shows.nd (aW (hn:=Jo) uG hx hr (aH uU (aj (aa 0))) (aB (ac (aa 1) (ac (aa 2) ae)))))
   (aE (aG (fw (gw (aj (aa 3)) (aH H8 (aj (aa 0)))) (aH H9 (aj (aa 0))) (aj (aa 3))))))),λds M R RX f6 h=>?_⟩)
 .obtain⟨_,_,_,_,rfl,_⟩:=h;rfl
 .obtain⟨p,v,X,Y,rfl,hv,v3,hd,hc,hR⟩:=h;cases p<;>simp only[Pat.cls]at hc<;>try exact absurd hc Ip
  rename_i f g p;obtain⟨u,rfl,hu⟩:=hv;obtain⟨fs,rfl,o1⟩:=hu.objm;rw[Pat.depth]at hd;refine#[λd M'=>d=.int (p.show X Y)/\M'=M,#[_,#[rfl,rfl],_,rfl,p.cls,p.cls_mem,fs,#[rfl,rfl],o1.shw,p,_,X,Y,rfl,hu,v3.2.2,Ig,rfl,rfl,rfl],?_];rintro _ _⟨rfl,rfl⟩;k_places;rw[Pat.show]at hR;unfold bw at hR;refine#[_,#[rfl,rfl],_,eO Ip,ite2 (λe=>?_) (λe=>?_)]
  .rw[if_pos (of_decide_eq_true e)]at hR;exact#[_,#[rfl,rfl],_,jZ Ip Ip,hR]
  .rw[if_neg (λz=>e (decide_eq_true z))]at hR;exact hR
def DJ(NT:V.Tm "Motif" "shows" "Motif.shows" gW cj)(NU:V.Tm "Over" "shows" "Over.shows" gX gY)(NV:V.Tm "Shifted" "shows" "Shifted.shows" gZ hU)(NW:V.Tm "Mirror" "shows" "Mirror.shows" hV hZ)(NX:V.Tm "Turn" "shows" "Turn.shows" ia ib)(NY:V.Tm "Rehue" "shows" "Rehue.shows" ic ie)(uW:eV V)(HX:V.a "Motif" "hues")(uK:V.a "Motif" "shifts")(uQ:V.a "Over" "above")(uR:V.a "Over" "below")(uP:V.a "Shifted" "form")(HZ:V.a "Shifted" "y")(HY:V.a "Shifted" "x")(uT:V.a "Mirror" "form")(uV:V.a "Turn" "form")(uU:V.a "Rehue" "form")(H8:V.a "Rehue" "old")(H9:V.a "Rehue" "new"):∀j x,x∈(["Motif","Over","Shifted","Mirror","Turn","Rehue"]:List E_)->V.Q (1+j) x "shows" cj (ofX (bK j x)):=by
 intro j;induction j with
 |zero=>
  intro x hx;simp only[Ei,FM,or_false]at hx;rcases hx with rfl|rfl|rfl|rfl|rfl|rfl
  .exact CalMth.never NT (λds M R RX=>eU)
  .exact CalMth.never NU (λds M R RX=>eU)
  .exact CalMth.never NV (λds M R RX=>eU)
  .exact CalMth.never NW (λds M R RX=>eU)
  .exact CalMth.never NX (λds M R RX=>eU)
  .exact CalMth.never NY (λds M R RX=>eU)
 |succ j Kh=>
  intro x hx;simp only[Ei,FM,or_false]at hx;rcases hx with rfl|rfl|rfl|rfl|rfl|rfl
  .exact ok_Motif_shows (n:=1+j) (j:=j) Jo NT uW HX uK
  .exact DB (n:=1+j) (j:=j) Jo NU uQ uR Kh
  .exact DC (n:=1+j) (j:=j) Jo NV uP HZ HY Kh
  .exact DD (n:=1+j) (j:=j) Jo NW uT Kh
  .exact DF (n:=1+j) (j:=j) Jo NX uV Kh
  .exact DG (n:=1+j) (j:=j) Jo NY uU H8 H9 Kh
abbrev sY(V:Bx):Prop:=∀x,x∈(["Motif","Over","Shifted","Mirror","Turn","Rehue"]:List E_)->V.Q 7 x "shows" cj (ofX (bK 6 x))
abbrev iH(V:Bx):Prop:=V.X 8 "cell_at" mz Bm
def DK(T:V.T "cell_at" my mz)(IF:iG V)(Jb:V.a "Pattern" "form")(uG:sY V):iH V:=by
 refine CalMM.nilX (Tx.okM T Cr (λds M R RX h=>?_) (λf cdv A outer s H E J hr hx=>⟨_,((aA (cb (aY (CalX.toM IF) hx hr (aB (ac (aa 1) (ac (aa 2) ae)))))
   (aE (aG (aW uG hx hr (aH Jb (aj (aa 0))) (aB (ac (aa 1) (ac (aa 2) ae)))))))),λds M R RX f6 h=>?_⟩))
 .obtain⟨_,R0,IP,⟨_,_,_,_,rfl,_⟩,_⟩:=h;rfl
 .obtain⟨rfl,R0,IP,⟨p,d,x,y,rfl,⟨w,h,s,fs,rfl,e1,e2,hp⟩,ok,h1,h2⟩,hR,hX⟩:=h;obtain⟨v,e3,hv⟩:=hp.form;obtain⟨gs,rfl,o1⟩:=hv.objm;have Pc:=ok.deep;refine#[x,y,rfl,λhn=>?_,λhn=>?_]
  .exact#[_,#[rfl,rfl],_,e3,p.cls,p.cls_mem,gs,#[rfl,rfl],o1.shw,p,_,x,y,rfl,hv,ok.wf,Ig,rfl,hR _ _ (h1 hn)]
  .rw[f6];exact hX _ _ _ (h2 hn)
def DL:SpX:=λds R RX=>∃(p:Pat) (d:D) (x y:Int) (n:Nat),ds=[d,.int x,.int y,.int n]/\ce p d/\p.Ok/\1<=n/\n<=1000/\(aq x/\aq (x+n-1)/\aq y->R (.str (aL p x y n)))/\(¬(aq x/\aq (x+n-1)/\aq y)->RX "TooFar" [])
abbrev iI(V:Bx):Prop:=V.X 9 "row_from" mB DL
def DM(T:V.T "row_from" ig mB)(uA:V.m "range")(Jc:iH V)(uN:V.gs "SIGNS" ".123456"):iI V:=by
 refine Tx.okXW T Cs (λds R RX h=>?_) (λf cdv A outer s H E J hr hx=>#[_,((am (ax (jq (B1 rfl (compScope (by change dz _ (ag ig) ["pattern","x","y","many"] _=true;decide+kernel)) uA (aa 3) (λcl s0 H0 fp pn xe J Pd hx=>(af (eo uN) (BZ Jc Pd hx hr (ac (aa 0) (ac (ao (aa 1) (aa 4)) (ac (aa 2) ae)))))) hx))))),λds R RX f6 h=>?_])
 .obtain⟨_,_,_,_,_,rfl,_⟩:=h;rfl
 .obtain⟨p,d,x,y,n,rfl,hd,ok,n1,hn,hR,hX⟩:=h;obtain⟨w,h,s,fs,rfl,_⟩:=id hd;refine#[NoOwn.of rfl,#[Ig,Ig],λJ' hJ=>#[by rw[cD];lia,λk ys=>ys=rowD p x y k/\∀i:Nat,i<k->aq (x+i)/\aq y,#[rfl,λi hi=>absurd hi (Gx i)],?_,?_]]
  .rintro k v ys hk hl⟨rfl,hb⟩;k_places;obtain⟨Jd,rfl⟩:=cQ hk;obtain⟨b0,b6⟩:=Pat.show_le ok.wf (by have:=ok.deep;lia) (x+(k:Int)) y;refine#[p,.obj "Pattern" fs,x+(k:Int),y,rfl,hd,ok,λc=>#[_,#[Ik,sG b0 b6],sJ p x y k,λi hi=>?_],λz=>?_]
   .rcases Nat.lt_succ_iff_lt_or_eq.mp hi with q|rfl
    .exact hb i q
    .exact c
   .rw[hJ,f6];refine hX λ⟨c1,c2,c3⟩=>z #[?_,c3];unfold aq at*;lia
  .rintro ys hl⟨rfl,hb⟩;k_places;rw[cD,FA]at hb ⊢;obtain⟨ys,e1,e2,e3⟩:=sK p x y hn;refine#[ys,e1,e2,?_];rw[e3];have h0:=hb 0 Ig;have h1:=(hb (n-1) Ig).1;rw[show x+((n-1:Nat):Int)=x+n-1 by lia]at h1;exact hR #[by simpa using h0.1,h1,h0.2]
abbrev nX(V:Bx):Prop:=V.D 10 "field_rows" mC Bt
def DN(T:V.T "field_rows" ii mC)(uA:V.m "range")(Je:iI V)(uX:V.a "Pattern" "shifts"):nX V:=by
 refine Tx.okDW T Ct (λds R h=>?_) (λf cdv A outer s H E J hr=>#[_,((am (ax (qI rfl (compScope (by change dz _ (ag ii) ["pattern"] _=true;decide+kernel)) uA (af (jz uX (aa 0)) ad) (λcl s0 H0 fp=>(ar (CalX.no Je) hr (ac (aa 0) (ac ad (ac (aa 1) (ac (af (jz uX (aa 0)) ad) ae)))))))))),λds R h=>?_])
 .obtain⟨_,_,rfl,_⟩:=h;rfl
 .obtain⟨p,d,rfl,hd,ok,hR⟩:=h;obtain⟨w,h,s,fs,rfl,e1,e2,hp⟩:=id hd;have F:=hp.toFam;have sm:=ok.fits.small F;have w0:=F.f.w0;have wh:w*h<=720:=by
   obtain⟨w',h',s',f',hb⟩:=ok.fits;obtain⟨rfl,rfl,_⟩:=F.uniq f';exact hb
  refine#[rfl,_,e2,_,rfl,#[Ig,Ig],by rw[cD];lia,λk ys=>ys=(Ej k).map λ(y:Nat)=>D.str (aL p 0 (y:Int) w.toNat),rfl,?_,?_]
  .rintro k v ys hk hl rfl;obtain⟨Jd,rfl⟩:=cQ hk;refine#[rfl,_,e2,_,rfl,p,.obj "Pattern" fs,0,k,w.toNat,by rw[ET Ig],hd,ok,Ig,Ig,λ_=>?_,λz=>z #[#[Ig,Ig],#[Ig,Ig],#[Ig,Ig]]];show _=List.map _ (Ej (k+1));rw[F6,E1];rfl
  .rintro ys hl rfl;rw[cD];exact hR w h s F wh sm.2.1 sm.2.2.2.1
abbrev C_round_row(V:Bx):Prop:=V.D 2 "round_row" mF Bu
def DO(T:V.T "round_row" mD mF)(uW:eV V):C_round_row V:=by
 refine Tx.okDW T sc_round_row (λds R h=>?_) (λf cdv A outer s H E J hr=>⟨_,((ah (ai 4 sc_round_row.nd (ar uW hr (ac (aa 0) (ac (aa 2) (ac (aa 3) ae)))))
   (ah (ai 5 sc_round_row.nd (af (aa 1) (af (aa 4) ad)))
   (am (ax (ao (jG (aa 5) (jF (af (aa 4) ad)) jE) (jG (aa 5) jE (jF (af (aa 4) ad))))))))),λds R h=>?_⟩)
 .obtain⟨_,_,_,_,_,_,rfl,_⟩:=h;rfl
 .obtain⟨p,w,h,s,x,y,rfl,F,w7,h7,hR⟩:=h;have f:=F.f;have y0:=Ft y (show h≠0 by have:=f.h0;lia);have y1:=Fu y f.h0;refine#[λd=>d=.tup [.int (hmX w h s x y),.int (y%h)],#[w,h,s,x,y,rfl,f.w0,f.h0,Ig,f.s0,by have:=f.sw;lia,rfl],?_];rintro _ rfl;k_places;refine#[λd=>d=.str (aL p 0 (y%h) w.toNat),#[_,rfl,_,?_,rfl],?_]
  .have e:y%h=(((y%h).toNat:Nat):Int):=by lia
   rw[e];exact bN (by rw[Et,E8 Ig];simp)
  rintro _ rfl;k_places;have l:=kd p 0 (y%h) w.toNat;refine#[_,rfl,Ig,_,rfl,Ig,?_];have e:=Bs f.w0 f.h0 (λ_ _ q=>F.keeps q) x y;refine#[?_,?_]
  .rw[<-bq,<-bq,<-EG,<-bC,e,fD];simp;lia
  .rw[e];exact hR
abbrev nY(V:Bx):Prop:=V.D 1 "count_sign" mH BC
def DP(T:V.T "count_sign" mG mH)(uB:V.m "len"):nY V:=by
 refine Tx.okDW T Cu (λds R h=>?_) (λf cdv A outer s H E J hr=>#[_,((am (ax (ao (aw (aM (aa 2) (cy uB (ac (aa 0) ae))) (rC (aa 0) (ac (aa 1) ae))) (rC (jG (aa 0) jE (jF (ay (aa 2) (cy uB (ac (aa 0) ae))))) (ac (aa 1) ae)))))),λds R h=>?_])
 .obtain⟨_,_,_,_,_,_,rfl,_⟩:=h;rfl
 .obtain⟨p,x,y,v,m,w,rfl,ok,v0,v6,w0,w7,m0,m1,kw,hR⟩:=h;have l:=kd p x y w;have q0:0<=m/(w:Int):=GC m0 Ig;have q1:m/(w:Int)<=m:=GD _ m0;have r0:=Ft m (show(w:Int)≠0 by lia);have r1:=Fu m (show 0<(w:Int)by lia);have er:m%(w:Int)=(((m%(w:Int)).toNat:Nat):Int):=by lia
  have e2:Txt.slice (aL p x y w) p7 (be (m%(w:Int)))=aL p x y (m%(w:Int)).toNat:=by
   rw[er,BB p x y Ig];rfl
  refine#[Ig,#[by rw[l];lia,by rw[l];lia],.inl #[by rw[l];lia,by rw[l];lia],Ig,by rw[l];lia,Ig,?_];show R (.int (m/((aL p x y w).length:Int)*occC (aL p x y w) (bi v)+occC (Txt.slice (aL p x y w) p7 (be (m%((aL p x y w).length:Int)))) (bi v)));rw[l,e2,sO ok x y v0 v6,sO ok x y v0 v6];have IR:∀k:Nat,(λk:Nat=>p.show (x+k) y) (k+w)=(λk:Nat=>p.show (x+k) y) k:=λk=>by
   have:=kw (x+k) y;rw[FQ]at this;show p.show (x+((k+w:Nat):Int)) y=p.show (x+(k:Int)) y;rw[<-this,FO,GB]
  have:=By (f:=λk:Nat=>p.show (x+k) y) w0 IR v m.toNat;have d1:m/(w:Int)=((m.toNat/w:Nat):Int):=by rw[Int.natCast_ediv,ET m0]
  have d2:(m%(w:Int)).toNat=m.toNat%w:=by
   have:m%(w:Int)=((m.toNat%w:Nat):Int):=by rw[Ho,ET m0]
   lia
  rw[d1,d2,this];exact hR
abbrev iJ(V:Bx):Prop:=V.X 11 "count_all" mI BJ
def DQ(T:V.T "count_all" ij mI)(uZ:V.m "max")(uA:V.m "range")(Ml:V.m "min")(IC:V.m "enumerate")(IF:iG V)(Mm:nX V)(Mn:C_round_row V)(Mo:nY V)(uN:V.gs "SIGNS" ".123456")(uX:V.a "Pattern" "shifts"):iJ V:=by
  refine Tx.okXW T sc_count_all (λds R RX h=>?_) (λf cdv A outer s H E J hr hx=>⟨_,((ah (qt (dD IF hx hr (ac (aa 1) (ac (aa 2) ae))))
      (ah (qt (dD IF hx hr (ac (aa 3) (ac (aa 4) ae))))
      (ah (ai 5 sc_count_all.nd (jz uX (aa 0)))
      (ah (ai 6 sc_count_all.nd (ar Mm hr (ac (aa 0) ae)))
      (ah (ai 7 sc_count_all.nd (gj rfl uZ (ac (ao (aP (aa 3) (aa 1)) ad) (ac ad ae))))
      (ah (ai 8 sc_count_all.nd (aw (af (aa 5) ad) (af (aa 5) ad)))
      (ah (zr 9 rfl (compScope (by change dz _ (ag ij) ["pattern","left","top","right","bottom","family","rows","many","again","counts","y","times","row","hue","sign"] _=true;decide+kernel)) sc_count_all.nd (eo uN) (λcl s0 H0 fp=>ad))
      (ah (jB 10 PassesOwn.leaving rfl sc_count_all.nd uA (aa 2) (xw rfl Ml (ac (ao (aa 4) ad) (ac (ao (aa 2) (aa 8)) ae))) (ah (ai 11 sc_count_all.nd (ao (aM (aP (aa 4) (aa 10)) (aa 8)) ad))
        (ah (ai 12 sc_count_all.nd (ar Mn hr (ac (aa 5) (ac (aa 6) (ac (aa 1) (ac (aa 10) ae))))))
        (am (zw PassesOwn.leaving rfl IC (eo uN) (dg_cons 13 sc_count_all.nd (dg_cons 14 sc_count_all.nd dv)) (am (xO 9 (ao (xA 9 (aa 13)) (aw (aa 11) (ar Mo hr (ac (aa 12) (ac (aa 14) (ac (aa 7) ae)))))) (aa 13))))))))
      (dY 9 (am (ax (aa 9))))))))))))),λds R RX f6 h=>?_⟩)
  . obtain⟨_,_,_,_,_,_,rfl,_⟩:=h;rfl
  . obtain⟨p,d,left,top,right,a8,rfl,hd,ok,hR,hX⟩:=h;obtain⟨w,h,s,fs,rfl,e1,e2,hp⟩:=id hd;have F:=hp.toFam;have sm:=ok.fits.small F;refine#[left,top,rfl,λn1=>?_,λn1=>by rw[f6];exact hX λz=>n1 #[z.1,z.2.1]];refine#[right,a8,rfl,λn2=>?_,λn2=>by rw[f6];exact hX λz=>n2 #[z.2.2.1,z.2.2.2]];have hR:=hR #[n1.1,n1.2,n2.1,n2.2];unfold aq at n1 n2;refine#[λd=>d=.tup [.int w,.int h,.int s],#[rfl,_,e2,rfl],?_];rintro _ rfl;k_places;refine#[λd=>d=fE p w h/\w*h<=720,#[p,_,rfl,hd,ok,λw' h' s' F' hb _ _=>by obtain⟨rfl,rfl,rfl⟩:=F.uniq F';exact#[rfl,hb]],?_];rintro _⟨rfl,hb⟩;k_places;refine#[λd=>d=.int ((right-left+1).toNat:Nat),congrArg D.int (BI _),?_];rintro _ rfl;k_places;have Pe:0<w*h:=EB F.f.w0 F.f.h0;refine#[λd=>d=.int (w*h),#[_,rfl,_,rfl,.inl #[Ig,Ig],rfl],?_];rintro _ rfl;k_places;generalize hm:(right-left+1).toNat=m at*;generalize hn:(a8-top+1).toNat=n at*;generalize hN:(w*h).toNat=N at*;refine#[Ip,Ip,λk ys=>ys=EV k (D.int 0),rfl,?_,?_]
    . rintro k v ys hk hl rfl;show _=EV (k+1) _;rw[List.replicate_succ']
    rintro ys hl rfl;have wN:w*h=(N:Int):=Ig
    have HI:=BF (top:=top) hn wN;have PQ:=sQ n1.1 n2.1 hm;have PR:=sQ n1.2 n2.2 hn;refine#[BG #[n1.2.1,n1.2.2] #[n2.2.1,n2.2.2] Pe hb,λk z=>∃Mp IA IB u8 u9,z=[be (.obj "Pattern" fs),be (.int left),be (.int top),be (.int right),be (.int a8),be (.tup [.int w,.int h,.int s]),be (fE p w h),be (.int m),be (.int (w*h)),be (.own ((Ej 7).map λ(v:Nat)=>D.int (bR p left top m n N k v))),Mp,IA,IB,u8,u9],#[p7,p7,p7,p7,p7,?_],?_,?_]
    . have e7:(bP (".123456":E_)).length=7:=by decide+kernel
      rw[e7];rfl
    . rintro k v z hk⟨Mp,IA,IB,u8,u9,rfl⟩;k_places;obtain⟨Jd,rfl⟩:=range2_int hk;rw[HI]at Jd;refine#[λd=>d=.int (((n:Int)-1-k)/N+1),#[#[Ig,Ig],?_],?_]
      . rw[wN];congr 3;exact BH hn Jd
      rintro _ rfl;k_places;refine#[λd=>d=.str (aL p left (top+k) w.toNat),#[p,w,h,s,left,top+k,rfl,F,sm.2.1,sm.2.2.2.1,rfl],?_];rintro _ rfl;k_places;refine#[Ip,λi z=>∃u8 u9,z=[be (.obj "Pattern" fs),be (.int left),be (.int top),be (.int right),be (.int a8),be (.tup [.int w,.int h,.int s]),be (fE p w h),be (.int m),be (.int (w*h)),be (.own ((Ej 7).map λ(v:Nat)=>D.int (if v<i then bR p left top m n N (k+1) v else bR p left top m n N k v))),be (.int (top+k)),be (.int (((n:Int)-1-k)/N+1)),be (.str (aL p left (top+k) w.toNat)),u8,u9],#[_,_,rfl],?_,?_]
      . rintro i v z hi⟨u8,u9,rfl⟩;k_places;rw[BE]at hi;have i7:i<7:=by simpa using(Ev.mp hi).1
        have ev:v=.str #[[bi (i:Int)].toArray]:=by
          rw[Et,E8 i7]at hi;exact(Option.some.inj hi).symm
        subst ev;have ci:=sM (λk'=>p.show (left+k') (top+k)) i m;have tq:0<=((n:Int)-1-k)/N/\((n:Int)-1-k)/N<=(n:Int)-1-k:=#[GC Ig Ig,GD _ Ig];refine#[_,bN (by rw[Et,E8 i7];rfl),p,left,top+k,i,m,w.toNat,rfl,ok,Ig,Ig,Ig,Ig,Ig,Ig,by rw[ET Ig];exact F.across,?_];refine#[.inl #[Ig,Ig],i,?_,?_]
        . unfold ixN;rw[if_pos Ig,if_pos Pl];simp
        refine#[be (.int i),be (.str #[[bi (i:Int)].toArray]),?_];rw[FA,if_neg (Ff i)];have e:bR p left top m n N k i+(((n:Int)-1-k)/N+1)*cntN (λk'=>p.show (left+k') (top+k)) i m=bR p left top m n N (k+1) i:=rfl;rw[e];have q:=sP (n:=7) (i:=i) (λ(v:Nat)=>D.int (if v<i then bR p left top m n N (k+1) v else bR p left top m n N k v)) (λ(v:Nat)=>D.int (if v<i+1 then bR p left top m n N (k+1) v else bR p left top m n N k v)) (λv hv ne=>by
          by_cases c:v<i
          . rw[if_pos c,if_pos Ig]
          . rw[if_neg c,if_neg Ig])
        rw[if_pos (show i<i+1 by lia)]at q;rw[q];rfl
      . rintro z⟨u8,u9,rfl⟩;k_places;refine#[be (.int (top+k)),be (.int (((n:Int)-1-k)/N+1)),be (.str (aL p left (top+k) w.toNat)),u8,u9,?_];have:∀v∈Ej 7,D.int (if v<(bP (".123456":E_)).length then bR p left top m n N (k+1) v else bR p left top m n N k v)=D.int (bR p left top m n N (k+1) v):=λv hv=>by
          rw[if_pos (by  have e7:(bP (".123456":E_)).length=7:=by decide+kernel
                         rw[e7];simpa using hv)]
        rw[FJ this]
    . rintro z⟨Mp,IA,IB,u8,u9,rfl⟩;k_places;have e:((Ej ((if top+w*h<a8+1 then top+w*h else a8+1)-top).toNat).map λ(k:Nat)=>D.int (top+(k:Int))).length=min n N:=by simp[HI]
      rw[e];have fold:∀v:Nat,bR p left top m n N (min n N) v=bG p v left top m n:=λv=>BD Ig (by rw[<-wN];exact F.down) v left top m n;simp only[fold];have e2:((Ej 7).map λ(v:Nat)=>D.int (bG p v left top m n))=(bH p left top m n).map D.int:=by unfold bH;rw[Fx];rfl
      rw[e2];exact hR
abbrev nZ(V:Bx):Prop:=V.X 12 "count_hue" mK BK
def DR(T:V.T "count_hue" mJ mK)(uB:V.m "len")(Jf:iJ V):nZ V:=by
 refine Tx.okXW T sc_count_hue (λds R RX h=>?_) (λf cdv A outer s H E J hr hx=>⟨_,((ah (ai 6 sc_count_hue.nd (dD Jf hx hr (ac (aa 0) (ac (aa 2) (ac (aa 3) (ac (aa 4) (ac (aa 5) ae)))))))
   (am (ax (xa (zy oS fO qc fX ad (aa 1) (cy uB (ac (aa 6) ae))) (af (aa 6) (aa 1)) ad))))),λds R RX f6 h=>?_⟩)
 .obtain⟨_,_,_,_,_,_,_,rfl,_⟩:=h;rfl
 .obtain⟨p,d,hue,left,top,right,a8,rfl,hd,ok,h0,h6,hR,hX⟩:=h;obtain⟨w,h,s,fs,rfl,e1,e2,hp⟩:=id hd;refine#[λx=>(aq left/\aq top/\aq right/\aq a8)/\x=.lst ((bH p left top (right-left+1).toNat (a8-top+1).toNat).map D.int),#[p,_,left,top,right,a8,rfl,hd,ok,λn=>#[n,rfl],λn=>by rw[f6];exact hX n],?_];rintro _⟨n,rfl⟩;k_places;have l7:((bH p left top (right-left+1).toNat (a8-top+1).toNat).map D.int).length=7:=by simp[bH]
  refine#[_,rfl,λ_=>ite2 (λ_=>?_) (λc=>absurd (decide_eq_true (by rw[l7];lia)) c),λc=>absurd h0 (of_decide_eq_false c)];have e:hue=((hue.toNat:Nat):Int):=Ig
  refine#[.int (bG p hue left top (right-left+1).toNat (a8-top+1).toNat),?_,hR n];rw[e];exact bN (by unfold bH;rw[Fx,Et,E8 Ig];rfl)
def DU:SpD:=λds R=>(ds=[.lst []]/\R (.str ""))\/∃i w,ds=[.lst (cF i)]/\ik[i]?=be w/\R (.str w)
abbrev oa(V:Bx):Prop:=V.D 1 "_law_kind" mM DU
def DV(T:V.T "_law_kind" mL mM):oa V:=by
 refine Tx.okDW T Cw (λds R h=>?_) (λf cdv A outer s H E J hr=>⟨_,((ah (aX (bZ (BQ (aa 0) ck) ad) (am (ax av)) aQ)
   (am (ax (af (aN (ac av (ac av (ac av (ac av (ac av (ac av (ac av (ac av ae))))))))) (zF (aa 0) ck)))))),λds R h=>?_⟩)
 .rcases h with⟨rfl,_⟩|⟨_,_,rfl,_⟩<;>rfl
 .rcases h with⟨rfl,hR⟩|⟨i,w,rfl,hw,hR⟩
  .exact#[#[rfl,rfl],hR]
  obtain⟨hi,hw⟩:=CB hw;obtain⟨⟨e1,e2⟩,e3⟩:=CA i hi;refine#[#[rfl,e2],?_];show ite ((!decide (((cF i).countP λw=>eqF w (.bl true):Nat)=(1:Int)))=true) _ _;refine ite2 (λc=>by rw[e1]at c;cases c) λ_=>?_;refine#[Ik,#[rfl,e2],by rw[e3];show i<8;lia,?_];show rdIx (.lst ((ik++[("":E_)]).map D.str)) (.int ((cF i).findIdx _:Nat)) R;rw[e3];exact#[.str w,bN (by rw[Et,hw];rfl),hR]
def Ask(p:Pat)(f7 x y:Int)(more:List D)(res:D)(f8:Prop):Prop:=
 (f7=0/\res=.int (p.show x y)/\(f8↔aq x/\aq y))\/
 (f7=1/\∃n:Nat,more=[.int n]/\1<=n/\n<=100/\res=.str (aL p x y n)/\(f8↔aq x/\aq (x+n-1)/\aq y))\/
 (f7=2/\∃u r b:Int,more=[.int u,.int r,.int b]/\0<=u/\u<=6/\res=.int (bG p u x y (r-x+1).toNat (b-y+1).toNat)/\(f8↔aq x/\aq y/\aq r/\aq b))\/
 (f7=3/\∃u r b:Int,more=[.int u,.int r,.int b]/\res=.lst ((bH p x y (r-x+1).toNat (b-y+1).toNat).map D.int)/\(f8↔aq x/\aq y/\aq r/\aq b))
def DX:SpD:=λds R=>∃(p:Pat) (d:D) (f7 x y:Int) (more:List D) (res:D) (f8:Prop),ds=[d,.int f7,.int x,.int y,.lst more]/\ce p d/\p.Ok/\Ask p f7 x y more res f8/\(f8->R res)/\(¬f8->R (.tup [.str "too far"]))
abbrev sZ(V:Bx):Prop:=V.Ek ["MotifError","TooFar"]
abbrev iK(V:Bx):Prop:=V.D 13 "_law_asked" mO DX
def DY(T:V.T "_law_asked" mN mO)(uE:V.m "isinstance")(Mq:V.m "ValueError")(Jc:iH V)(Je:iI V)(Mr:nZ V)(Jf:iJ V)(Ms:oa V)(Mt:V.j "TooFar" [("TooFar",true)])(Mu:V.j "TooGreat" [("TooFar",false)])(Mv:V.j "OneLine" [("TooFar",false)])(Mw:V.j "WrongSign" [("TooFar",false)])(Mx:V.j "NothingKept" [("TooFar",false)])(Mz:V.j "Parted" [("TooFar",false)])(MB:V.j "NoRow" [("TooFar",false)])(jv:V.jv [("TooFar",true)])(ek:sZ V):iK V:=by
  refine Tx.okDW T sc__law_asked (λds R h=>?_) (λf cdv A outer s H E J hr=>⟨_,((ah (ai 5 sc__law_asked.nd (aN ae))
      (ah (ai 6 sc__law_asked.nd cI)
      (ah (yj (λpn xe J hp hx=>(am (cr (bn (aa 1) ad) (am (ai 6 sc__law_asked.nd (dD Jc hx hr (ac (aa 0) (ac (aa 2) (ac (aa 3) ae)))))) (am (cr (bn (aa 1) ad) (am (ai 6 sc__law_asked.nd (dD Je hx hr (ac (aa 0) (ac (aa 2) (ac (aa 3) (ac (af (aa 4) ad) ae))))))) (am (cr (bn (aa 1) ad) (am (ai 6 sc__law_asked.nd (dD Mr hx hr (ac (aa 0) (ac (af (aa 4) ad) (ac (aa 2) (ac (aa 3) (ac (af (aa 4) ad) (ac (af (aa 4) ad) ae))))))))) (am (ai 6 sc__law_asked.nd (dD Jf hx hr (ac (aa 0) (ac (aa 2) (ac (aa 3) (ac (af (aa 4) ad) (ac (af (aa 4) ad) ae))))))))))))))) (xV 7 ek sc__law_asked.nd (λe=>(ah (ai 5 sc__law_asked.nd (aN (ac (dL Mw uE (aa 7)) (ac (dL Mv uE (aa 7)) (ac (dL Mu uE (aa 7)) (ac (dL Mt uE (aa 7)) ae))))))
         (ah (ai 5 sc__law_asked.nd (ao (aa 5) (aN (ac (dL MB uE (aa 7)) (ac (dL Mz uE (aa 7)) (ac (dL Mx uE (aa 7)) ae))))))
         (am (ai 5 sc__law_asked.nd (ao (aa 5) (aN (ac (qo (BS jv uE Mq (aa 7))) ae)))))))) xU))
      (ah (aX (bn (ar Ms hr (ac (aa 5) ae)) av) (am (ax (aF (ac av ae)))) aQ)
      (am (ax (aa 6)))))))),λds R h=>?_⟩)
  . obtain⟨_,_,_,_,_,_,_,_,rfl,_⟩:=h;rfl
  . obtain⟨p,d,f7,x,y,more,res,f8,rfl,hd,ok,ha,hR,hX⟩:=h;obtain⟨w,h,s,fs,rfl,II⟩:=id hd;refine#[λv=>v=.lst [],#[Ik,rfl],?_];rintro _ rfl;k_places;refine#[λv=>v=.non,rfl,?_];rintro _ rfl;k_places;refine#[λz' c k8=>z'=[be (.obj "Pattern" fs),be (.int f7),be (.int x),be (.int y),be (.lst more),be (.lst []),be .non,p7]/\c="TooFar"/\k8=[]/\¬f8,λJ hJ=>#[λz=>z=[be (.obj "Pattern" fs),be (.int f7),be (.int x),be (.int y),be (.lst more),be (.lst []),be res,p7]/\f8,?_,?_],?_]
    . have j0:∀{z:SD} {c:E_} {k8:List (E_×D)},z=[be (.obj "Pattern" fs),be (.int f7),be (.int x),be (.int y),be (.lst more),be (.lst []),be .non,p7]->c=("TooFar":E_)->k8=[]->¬f8->J.RX z c k8:=λa b c d=>by rw[hJ];exact#[a,b,c,d]
      refine ite2 (λc=>?_) (λc=>#[_,ite2 (λc1=>?_) (λc1=>#[_,ite2 (λc2=>?_) (λc2=>?_),λ_ h=>h]),λ_ h=>h])
      . have e:f7=0:=of_decide_eq_true c;rcases ha with⟨_,er,hn⟩|⟨z,_⟩|⟨z,_⟩|⟨z,_⟩
        . refine#[λv=>v=res/\f8,#[p,_,x,y,rfl,hd,ok,λc=>#[er.symm,hn.mpr c],λc=>j0 rfl rfl rfl λz=>c (hn.mp z)],?_];rintro _⟨rfl,q⟩;k_places;exact#[rfl,q]
        all_goals lia
      . have e:f7=1:=of_decide_eq_true c1;rcases ha with⟨z,_⟩|⟨_,n,rfl,n1,n2,er,hn⟩|⟨z,_⟩|⟨z,_⟩
        . lia
        . refine#[λv=>v=res/\f8,#[_,rfl,p,_,x,y,n,rfl,hd,ok,n1,Ig,λc=>#[er.symm,hn.mpr c],λc=>j0 rfl rfl rfl λz=>c (hn.mp z)],?_];rintro _⟨rfl,q⟩;k_places;exact#[rfl,q]
        all_goals lia
      . have e:f7=2:=of_decide_eq_true c2;rcases ha with⟨z,_⟩|⟨z,_⟩|⟨_,u,r,b,rfl,u0,u6,er,hn⟩|⟨z,_⟩
        . lia
        . lia
        . refine#[λv=>v=res/\f8,#[_,rfl,_,rfl,_,rfl,p,_,u,x,y,r,b,rfl,hd,ok,u0,u6,λc=>#[er.symm,hn.mpr c],λc=>j0 rfl rfl rfl λz=>c (hn.mp z)],?_];rintro _⟨rfl,q⟩;k_places;exact#[rfl,q]
        . lia
      . have e0:f7≠0:=λz=>c (decide_eq_true z);have e1:f7≠1:=λz=>c1 (decide_eq_true z);have e2:f7≠2:=λz=>c2 (decide_eq_true z);rcases ha with⟨z,_⟩|⟨z,_⟩|⟨z,_⟩|⟨_,u,r,b,rfl,er,hn⟩
        . exact(e0 z).elim
        . exact(e1 z).elim
        . exact(e2 z).elim
        . refine#[λv=>v=res/\f8,#[_,rfl,_,rfl,p,_,x,y,r,b,rfl,hd,ok,λc=>#[er.symm,hn.mpr c],λc=>j0 rfl rfl rfl λz=>c (hn.mp z)],?_];rintro _⟨rfl,q⟩;k_places;exact#[rfl,q]
    . rintro z⟨rfl,q⟩;k_places;have hr:=hR q;rcases ha with⟨_,rfl,_⟩|⟨_,n,_,_,_,rfl,_⟩|⟨_,u,r,b,_,_,_,rfl,_⟩|⟨_,u,r,b,_,rfl,_⟩<;>exact .inl #[rfl,hr]
    . rintro z c k8⟨rfl,rfl,rfl,q⟩;k_places;refine#[#[Iq,Iq],?_];rw[if_pos Ip];refine#[λd=>d=.lst ((cF 3).take 4),#[_,_,_,rfl,.head _,_,_,_,rfl,.head _,_,_,_,rfl,.head _,_,_,_,rfl,.head _,by show(4:Nat)<=1000;decide,rfl],?_];rintro _ rfl;k_places;refine#[λd=>d=.lst ((cF 3).take 7),#[_,_,_,rfl,.head _,_,_,_,rfl,.head _,_,_,_,rfl,.head _,M9,Ik,rfl],?_];rintro _ rfl;k_places;refine#[λd=>d=.lst (cF 3),#[_,_,_,rfl,.head _,K_,Ik,rfl],?_];rintro _ rfl;k_places;exact .inr #[3,_,rfl,rfl,K_,hX q]
def DZ:SpD:=λds R=>∃n:Int,ds=[.int n]/\(aq n->R (.bl false))/\(¬aq n->R (.bl true))
abbrev iL(V:Bx):Prop:=V.D 1 "_law_beyond" mR DZ
def D0(T:V.T "_law_beyond" mQ mR):iL V:=by
 refine Tx.okDW T Cy (λds R h=>?_) (λf cdv A outer s H E J hr=>#[_,((am (ax (wZ (wL (aa 0) (bS (df ad ad))) (dg (wM (aa 0) (df ad ad))))))),λds R h=>?_])
 .obtain⟨_,rfl,_⟩:=h;rfl
 .obtain⟨n,rfl,hR,hX⟩:=h;refine#[#[Ik,Ik,Ik],ite2 (λc=>hX λz=>?_) λc=>#[#[Ik,Ik,Ik],?_]]
  .have c':n< -(10^(12:Int).toNat):=of_decide_eq_true c;have:=z.1;exact absurd c' Pl
  .have c':¬n< -(10^(12:Int).toNat):=λz=>c (decide_eq_true z);show R (.bl (decide (n>10^(12:Int).toNat)));have e:(10:Int)^(12:Int).toNat=1000000000000:=by decide
   rw[e]at c' ⊢;by_cases q:n>1000000000000
   .rw[decide_eq_true q];exact hX λz=>by have:=z.2;lia
   .rw[decide_eq_false q];exact hR #[Ig,Ig]
abbrev og(V:Bx):Prop:=V.D 2 "_law_leaf_shows" mV Ao
def D1(T:V.T "_law_leaf_shows" mU mV)(uA:V.m "range")(uB:V.m "len")(uD:V.m "int")(IZ:iq V):og V:=by
 refine Tx.okDW T sc__law_leaf_shows (λds R h=>?_) (λf cdv A outer s H E J hr=>⟨_,((ah (ai 3 sc__law_leaf_shows.nd (af (aa 0) ad))
   (ah (ai 4 sc__law_leaf_shows.nd (ao (ao (aw (af (aa 3) ad) (aa 1)) (aw (af (aa 3) ad) (aa 2))) (af (aa 3) ad)))
   (ah (ai 5 sc__law_leaf_shows.nd (ao (ao (aw (af (aa 3) ad) (aa 1)) (aw (af (aa 3) ad) (aa 2))) (af (aa 3) ad)))
   (ah (cM 6 PassesOwn.never rfl sc__law_leaf_shows.nd uA (cy uB (ac (af (aa 0) ad) ae)) (am (cM 7 PassesOwn.never rfl sc__law_leaf_shows.nd uA (cy uB (ac (af (af (aa 0) ad) (aa 6)) ae)) (am (aX (cn (wW (bZ (af (af (af (aa 0) ad) (aa 6)) (aa 7)) av) (wV (br (ar IZ hr (ac (af (aa 0) ad) (ac (af (aa 0) ad) (ac (aP (aa 4) (aa 7)) (ac (aP (aa 5) (aa 6)) ae))))))))) (am (ax (af (af (aa 0) ad) (gh uD (ac (af (af (af (aa 0) ad) (aa 6)) (aa 7)) ae))))) aQ)))))
   (am (ax ad))))))),λds R h=>?_⟩)
 .obtain⟨_,_,_,rfl,_⟩:=h;rfl
 .obtain⟨l,x,y,rfl,ok,hR⟩:=h;obtain⟨hm,wd,O2,JW⟩:=id ok.rows;refine#[λd=>d=.tup [.int l.w0,.int l.w1,.int l.w2,.int l.w3,.int l.w4,.int l.w5],#[_,rfl,rfl],?_];rintro _ rfl;k_places;refine#[λd=>d=.int (l.w0*x+l.w1*y+l.w4),#[_,rfl,.inl (n64 ok.w0),_,rfl,.inl (n64 ok.w1),_,rfl,rfl],?_];rintro _ rfl;k_places;refine#[λd=>d=.int (l.w2*x+l.w3*y+l.w5),#[_,rfl,.inl (n64 ok.w2),_,rfl,.inl (n64 ok.w3),_,rfl,rfl],?_];rintro _ rfl;k_places;have H_:R (.int (match l.hit x y with|some c=>cell l.hues ((c:Int)-48)|none=>0)):=hR;unfold Leaf.hit at H_;generalize l.w0*x+l.w1*y+l.w4=U at H_ ⊢;generalize l.w2*x+l.w3*y+l.w5=V at H_ ⊢;generalize ef:(λi j=>onB l.a l.b l.c l.d (U-i) (V-j))=f at H_;have e0:∀i j,f i j=onB l.a l.b l.c l.d (U-i) (V-j):=λi j=>by rw[<-ef]
  have c5:((l.rows.map D.str).length:Int).toNat=l.rows.length:=Iq
  refine#[_,rfl,#[Ig,Pl],λk z=>∃o1 o2:Option D,z=[be l.D,be (.int x),be (.int y),be (.tup [.int l.w0,.int l.w1,.int l.w2,.int l.w3,.int l.w4,.int l.w5]),be (.int U),be (.int V),o1,o2]/\bD f 0 l.rows=bD f k (l.rows.drop k),#[_,_,rfl,rfl],?_,?_]
  .rintro j v z hj⟨o1,o2,rfl,hs⟩;k_places;obtain⟨HE,rfl⟩:=cQ hj;rw[c5]at HE;have Ki:l.rows[j]?=be l.rows[j]:=EA HE;have y8:l.rows.drop j=l.rows[j]::l.rows.drop (j+1):=Fl HE;obtain⟨KC,JU⟩:=JW l.rows[j] (EQ HE);generalize l.rows[j]=row at Ki y8 KC JU;have IG:=at_str Ki;have q8:=bq row;refine#[_,rfl,_,IG,Ig,#[Ig,Ig],λi z=>∃o2:Option D,z=[be l.D,be (.int x),be (.int y),be (.tup [.int l.w0,.int l.w1,.int l.w2,.int l.w3,.int l.w4,.int l.w5]),be (.int U),be (.int V),be (.int j),o2]/\scanRow (λi=>f i j) 0 (cs row)=scanRow (λi=>f i j) i ((cs row).drop i),#[_,rfl,rfl],?_,?_]
   .rintro i v z hi⟨o2,rfl,Jg⟩;k_places;obtain⟨w_,rfl⟩:=cQ hi;have MC:i<(cs row).length:=by lia
    have HL:(cs row).drop i=(cs row)[i]::(cs row).drop (i+1):=Fl MC;have Kj:=JU (cs row)[i] (EQ MC);have MD:atI (cs row) (i:Int)=be (cs row)[i]:=bN (EA MC);generalize (cs row)[i]=c at HL Kj MD;refine#[_,rfl,_,IG,c,#[Ig,MD],ite2 (λq=>?_) (λq=>?_)]
    .have t_:¬c=46:=by
      intro z;have:(#[[c].toArray]:E_)=".":=one_sign.mpr z;simp[this]at q
     refine#[_,rfl,_,rfl,l.a,l.b,l.c,l.d,U-i,V-j,rfl,ok.a.lt,ok.b.lt,ok.c.lt,ok.d.lt,ok.ne,?_];refine ite2 (λq2=>?_) (λq2=>?_)
     .have e_:f i j=true:=by rw[e0];exact q2
      have Pf:49<=c/\c<=54:=by unfold bb at Kj;lia
      refine#[_,rfl,_,rfl,_,IG,c,#[Ig,MD],_,#[digit_of Pf,by show 1<=640;decide],_,cu Ig (by rw[ok.many];lia),?_];rw[hs,y8,bD,Jg,HL,scanRow,if_pos #[t_,e_]]at H_;exact H_
     .have e_:¬f i j=true:=by rw[e0];exact q2
      refine#[_,rfl,?_];rw[Jg,HL,scanRow,if_neg (λz=>e_ z.2)]
    .have t_:c=46:=by
      rcases Classical.em (c=46)with z|z
      .exact z
      .exact absurd (by
        have:¬(#[[c].toArray]:E_)=".":=λw=>z (one_sign.mp w);simp[this]) q
     refine#[_,rfl,?_];rw[Jg,HL,scanRow,if_neg (λz=>z.1 t_)]
   .rintro z⟨o2,rfl,Jg⟩;k_places;refine#[_,_,rfl,?_];have hn:((row.length:Int).toNat)=(cs row).length:=by lia
    rw[cD,hn,GE (Eg _),scanRow]at Jg;rw[hs,y8,bD,Jg]
  .rintro z⟨o1,o2,rfl,hs⟩;k_places;rw[cD,c5,GE (Eg _),bD]at hs;rw[hs]at H_;exact H_
abbrev iM(V:Bx):Prop:=V.D 3 "_law_shows" mY Ap
def D2(T:V.T "_law_shows" mW mY)(MF:og V):iM V:=by
 refine Tx.okDW T sc__law_shows (λds R h=>?_) (λf cdv A outer s H E J hr=>⟨_,((ah (jm 3 PassesOwn.never rfl sc__law_shows.nd (aa 0) (ah (ai 4 sc__law_shows.nd (ar MF hr (ac (aa 3) (ac (aa 1) (ac (aa 2) ae)))))
    (am (aX (bZ (aa 4) ad) (am (ax (aa 4))) aQ))))
   (am (ax ad)))),λds R h=>?_⟩)
 .obtain⟨_,_,_,rfl,_⟩:=h;rfl
 .obtain⟨ls,x,y,rfl,ok,hR⟩:=h;refine#[λk z=>∃o1 o2:Option D,z=[be (.lst (ls.map Leaf.D)),be (.int x),be (.int y),o1,o2]/\aR ls x y=aR (ls.drop k) x y,#[_,_,rfl,rfl],?_,?_]
  .rintro k v z hk⟨o1,o2,rfl,hs⟩;k_places;rw[Et]at hk;have n9:k<ls.length:=by
    rcases Fq k ls.length with q|q
    .exact q
    .rw[E5 q]at hk;cases hk
   rw[EA n9]at hk;cases hk;have ed:ls.drop k=ls[k]::ls.drop (k+1):=Fl n9;have NZ:=ok ls[k] (EQ n9);generalize ls[k]=l at ed NZ;refine#[λd=>d=.int (l.shows x y),#[l,x,y,rfl,NZ,rfl],?_];rintro _ rfl;k_places;refine ite2 (λq=>?_) (λq=>?_)
   .have q':¬l.shows x y=0:=by simpa using q
    rw[hs,ed,aR,if_pos q']at hR;exact hR
   .have q':l.shows x y=0:=by simpa using q
    refine#[_,_,rfl,?_];rw[hs,ed,aR,if_neg (λz=>z q')]
  .rintro z⟨o1,o2,rfl,hs⟩;k_places;rw[En,GE (Eg _),aR]at hs;rw[hs]at hR;exact hR
abbrev fL(V:Bx):Prop:=V.D 1 "_law_whole" ng zO
def D3(T:V.T "_law_whole" mZ ng)(uE:V.m "isinstance")(MG:V.m "bool")(uD:V.m "int"):fL V:=by
 refine Tx.okDW T Cz (λds R h=>?_) (λf cdv A outer s H E J hr=>#[_,((am (ax (dh (fo uE uD (aa 0) PyProof.Rows.boot_int qp) (dg (qo (fo uE MG (aa 0) PyProof.Rows.boot_bool kit_bool))))))),λds R h=>?_])
 .obtain⟨i,rfl,_⟩:=h;rfl
 .obtain⟨i,rfl,hR⟩:=h;exact hR
def D4:SpD:=λds R=>∃(p:Pat) (left top right a8:Int),ds=[.lst (p.leaves.map Leaf.D),.int left,.int top,.int right,.int a8]/\p.Ok/\aq left/\aq top/\aq right/\aq a8/\right-left<=10/\a8-top<=10/\R (.lst ((bH p left top (right-left+1).toNat (a8-top+1).toNat).map D.int))
abbrev oh(V:Bx):Prop:=V.D 4 "_law_counted" nj D4
def D5(T:V.T "_law_counted" nh nj)(uA:V.m "range")(IH:iM V):oh V:=by
 refine Tx.okDW T sc__law_counted (λds R h=>?_) (λf cdv A outer s H E J hr=>⟨_,((ah (gc 5 sc__law_counted.nd (ac ad (ac ad (ac ad (ac ad (ac ad (ac ad (ac ad ae))))))))
   (ah (jB 6 PassesOwn.never rfl sc__law_counted.nd uA (aa 2) (ao (aa 4) ad) (am (jB 7 PassesOwn.never rfl sc__law_counted.nd uA (aa 1) (ao (aa 3) ad) (am (zB 5 (ar IH hr (ac (aa 0) (ac (aa 7) (ac (aa 6) ae)))) ad)))))
   (dY 5 (am (ax (aa 5))))))),λds R h=>?_⟩)
 .obtain⟨_,_,_,_,_,rfl,_⟩:=h;rfl
 .obtain⟨p,left,top,right,a8,rfl,ok,n1,n2,n3,n4,w7,h7,hR⟩:=h;unfold aq at n1 n2 n3 n4;generalize em:(right-left+1).toNat=m at*;generalize en:(a8-top+1).toNat=n at*;have dp:=ok.deep;refine#[Ik,#[#[Ig,Ig,Ig,Ig],λj z=>∃o6 o7,z=[be (.lst (p.leaves.map Leaf.D)),be (.int left),be (.int top),be (.int right),be (.int a8),be (.own ((due7 p left top m j 0).map D.int)),o6,o7],#[_,_,rfl],?_,?_]]
  .rintro j v z hj⟨o6,o7,rfl⟩;k_places;obtain⟨NC,rfl⟩:=range2_int hj;refine#[#[Ig,Ig,Ig,Ig],λi z=>∃o7,z=[be (.lst (p.leaves.map Leaf.D)),be (.int left),be (.int top),be (.int right),be (.int a8),be (.own ((due7 p left top m j i).map D.int)),be (.int (top+j)),o7],#[_,rfl],?_,?_]
   .rintro i v z hi⟨o7,rfl⟩;k_places;obtain⟨HI,rfl⟩:=range2_int hi;obtain⟨u,u7,eu,e3,e4⟩:=CC ok left top m j i;refine#[p.leaves,_,_,rfl,Pat.leaf_ok ok.wf Ig,?_];rw[Pat.show_leaves ok.wf Ig,eu];refine#[_,Ig,by rw[Et,FA,e3];rfl,?_];rw[FA];exact#[_,by rw[<-e4];rfl]
   .rintro z⟨o7,rfl⟩;k_places;rw[En,FN,show(right+1-left).toNat=m by lia,CD];exact#[_,_,rfl]
  .rintro z⟨o6,o7,rfl⟩;k_places;rw[En,FN,show(a8+1-top).toNat=n by lia,CF];exact hR
def D6:SpD:=λds R=>∃xs:List Int,ds=[.lst (xs.map D.int),.lst (xs.map D.int)]/\xs.length=7/\R (.bl true)
abbrev oi(V:Bx):Prop:=V.D 2 "_law_seven" nt D6
def D7(T:V.T "_law_seven" nq nt)(uB:V.m "len")(uE:V.m "isinstance")(IT:V.m "list")(uA:V.m "range")(HM:fL V):oi V:=by
 refine Tx.okDW T sc__law_seven (λds R h=>?_) (λf cdv A outer s H E J hr=>⟨_,((ah (aX (cn (bT (dW (br (fo uE IT (aa 0) PyProof.Rows.boot_list kit_list))) (cz (bZ (cy uB (ac (aa 0) ae)) ad)))) (am (ax ck)) aQ)
   (ah (cM 2 PassesOwn.never rfl sc__law_seven.nd uA ad (am (aX (cn (bT (dW (br (ar HM hr (ac (af (aa 0) (aa 2)) ae)))) (cz (bZ (af (aa 0) (aa 2)) (af (aa 1) (aa 2)))))) (am (ax ck)) aQ)))
   (am (ax ck))))),λds R h=>?_⟩)
 .obtain⟨_,rfl,_⟩:=h;rfl
 .obtain⟨xs,rfl,x7,hR⟩:=h;refine ite2 (λc=>absurd c (by simp[x7])) λ_=>?_;refine#[#[Ik,Ik],λk z=>∃o,z=[be (.lst (xs.map D.int)),be (.lst (xs.map D.int)),o],#[_,rfl],?_,?_]
  .rintro k v z hk⟨o,rfl⟩;k_places;obtain⟨Jd,rfl⟩:=cQ hk;have k7:k<7:=Jd;have ak:atI (xs.map D.int) (k:Int)=be (.int (xs[k]' Jo)):=bN (by rw[Et,EA Jo];rfl);exact#[_,ak,_,rfl,_,ak,_,ak,ite2 (λc=>absurd c Iq) λ_=>#[_,rfl]]
  .rintro z⟨o,rfl⟩;k_places;exact hR
def D8:SpD:=λds R=>∃(p:Pat) (d:D) (l t r b u:Int),ds=[d,.lst (p.leaves.map Leaf.D),.lst [.int l,.int t,.int r,.int b],.int u]/\ce p d/\p.Ok/\0<=u/\u<=6/\r-l<=10/\b-t<=10/\R (.bl true)
abbrev oj(V:Bx):Prop:=V.D 14 "_law_rectangle" nv D8
def D9(T:V.T "_law_rectangle" nu nv)(Ia:iK V)(uS:iL V)(MH:oh V)(MI:oi V)(HM:fL V):oj V:=by
 refine Tx.okDW T sc__law_rectangle (λds R h=>?_) (λf cdv A outer s H E J hr=>⟨_,((ah (qD rfl (aa 2) (dg_cons 4 sc__law_rectangle.nd (dg_cons 5 sc__law_rectangle.nd (dg_cons 6 sc__law_rectangle.nd (dg_cons 7 sc__law_rectangle.nd dv)))))
   (ah (ai 8 sc__law_rectangle.nd (ar Ia hr (ac (aa 0) (ac ad (ac (aa 4) (ac (aa 5) (ac (aN (ac (aa 3) (ac (aa 6) (ac (aa 7) ae)))) ae)))))))
   (ah (ai 9 sc__law_rectangle.nd (ar Ia hr (ac (aa 0) (ac ad (ac (aa 4) (ac (aa 5) (ac (aN (ac (aa 3) (ac (aa 6) (ac (aa 7) ae)))) ae)))))))
   (ah (aX (cn (bT (br (ar uS hr (ac (aa 4) ae))) (bT (br (ar uS hr (ac (aa 5) ae))) (bT (br (ar uS hr (ac (aa 6) ae))) (cz (br (ar uS hr (ac (aa 7) ae)))))))) (am (ax (dh (qr (dQ hr) (aa 8) (aF (ac av ae))) (dg (qr (dQ hr) (aa 9) (aF (ac av ae))))))) aQ)
   (ah (ai 10 sc__law_rectangle.nd (ar MH hr (ac (aa 1) (ac (aa 4) (ac (aa 5) (ac (aa 6) (ac (aa 7) ae)))))))
   (am (ax (dh (ar HM hr (ac (aa 8) ae)) (dh (cK (aa 8) (af (aa 10) (aa 3))) (dg (ar MI hr (ac (aa 9) (ac (aa 10) ae)))))))))))))),λds R h=>?_⟩)
 .obtain⟨_,_,_,_,_,_,_,rfl,_⟩:=h;rfl
 .obtain⟨p,d,l,t,r,b,u,rfl,hd,ok,u0,u6,w7,h7,hR⟩:=h;obtain⟨w,h,s,fs,rfl,II⟩:=id hd;obtain⟨u,rfl⟩:∃v:Nat,u=(v:Int):=#[u.toNat,by rw[ET u0]];refine#[rfl,?_];show dSeq _ _ _ [be (.obj "Pattern" fs),be (.lst (p.leaves.map Leaf.D)),be (.lst [.int l,.int t,.int r,.int b]),be (.int u),be (.int l),be (.int t),be (.int r),be (.int b),p7,p7,p7];by_cases hn:aq l/\aq t/\aq r/\aq b
  .refine#[λv=>v=.int (bG p u l t (r-l+1).toNat (b-t+1).toNat),#[M9,p,_,2,l,t,_,_,_,rfl,hd,ok,.inr (.inr (.inl #[rfl,u,r,b,rfl,u0,u6,rfl,Iff.rfl])),λ_=>rfl,λz=>(z hn).elim],?_];rintro _ rfl;k_places;refine#[λv=>v=.lst ((bH p l t (r-l+1).toNat (b-t+1).toNat).map D.int),#[M9,p,_,3,l,t,_,_,_,rfl,hd,ok,.inr (.inr (.inr #[rfl,u,r,b,rfl,rfl,Iff.rfl])),λ_=>rfl,λz=>(z hn).elim],?_];rintro _ rfl;k_places;refine#[l,rfl,λ_=>#[t,rfl,λ_=>#[r,rfl,λ_=>#[b,rfl,λ_=>?_,λz=>(z hn.2.2.2).elim],λz=>(z hn.2.2.1).elim],λz=>(z hn.2.1).elim],λz=>(z hn.1).elim];refine#[λv=>v=.lst ((bH p l t (r-l+1).toNat (b-t+1).toNat).map D.int),#[p,l,t,r,b,rfl,ok,hn.1,hn.2.1,hn.2.2.1,hn.2.2.2,w7,h7,rfl],?_];rintro _ rfl;k_places;refine#[_,rfl,.int (bG p u l t (r-l+1).toNat (b-t+1).toNat),bN ?_,ite2 (λ_=>?_) λz=>absurd (decide_eq_true rfl) z]
   .unfold bH;rw[Et,Et,E8 Ig];rfl
   .exact#[_,rfl,by unfold bH;simp,hR]
  .refine#[λv=>v=.tup [.str "too far"],#[M9,p,_,2,l,t,_,_,_,rfl,hd,ok,.inr (.inr (.inl #[rfl,u,r,b,rfl,u0,u6,rfl,Iff.rfl])),λz=>(hn z).elim,λ_=>rfl],?_];rintro _ rfl;k_places;refine#[λv=>v=.tup [.str "too far"],#[M9,p,_,3,l,t,_,_,_,rfl,hd,ok,.inr (.inr (.inr #[rfl,u,r,b,rfl,rfl,Iff.rfl])),λz=>(hn z).elim,λ_=>rfl],?_];rintro _ rfl;k_places;refine(λret=>#[l,rfl,λa1=>#[t,rfl,λa2=>#[r,rfl,λa3=>#[b,rfl,λa4=>(hn #[a1,a2,a3,a4]).elim,λ_=>ret],λ_=>ret],λ_=>ret],λ_=>ret]) ?_;exact#[K_,#[rfl,rfl],K_,#[rfl,rfl],hR]
def Ea{fa:KM}{fd:P9}(F:Fun V.K "law" "law" fJ fa fd)(uA:V.m "range")(uE:V.m "isinstance")(uM:V.m "str")(uD:V.m "int")(MJ:nJ V)(MK:nV V)(KP:nW V)(uL:il V)(Ia:iK V)(uS:iL V)(IH:iM V)(HM:fL V)(ML:oj V)(IE:V.gi "FAR" 1000000000000):FnOk V.P V.w V.K V.mg V.base (Exc.CX1 V.P V.w) 19 fa fd nw (lSp V.K eg):=by
 refine Fun.okDW F sc_law (λds R h=>?_) (λcdv A outer s H E J hr=>⟨_,((ah (ai 1 sc_law.nd (ar MJ hr (ac (aa 0) (ac ad ae))))
   (ah (ai 2 sc_law.nd (ar (CalX.no MK) hr (ac (af (aa 1) ad) ae)))
   (ah (ai 3 sc_law.nd (ar KP hr (ac (ar uL hr (ac (aa 0) (ac ad ae))) ae)))
   (ah (ai 4 sc_law.nd (ar KP hr (ac (ar uL hr (ac (aa 0) (ac ad ae))) ae)))
   (ah (ai 5 sc_law.nd (ar Ia hr (ac (aa 2) (ac ad (ac (aa 3) (ac (aa 4) (ac (aN ae) ae)))))))
   (ah (cr (cn (bT (br (ar uS hr (ac (aa 3) ae))) (cz (br (ar uS hr (ac (aa 4) ae)))))) (am (aX (sS (dQ hr) (aa 5) (aF (ac av ae))) (am (ax ck)) aQ)) (am (aX (cn (bT (dW (br (ar HM hr (ac (aa 5) ae)))) (cz (bZ (aa 5) (ar IH hr (ac (af (aa 1) ad) (ac (aa 3) (ac (aa 4) ae)))))))) (am (ax ck)) aQ)))
   (ah (ai 6 sc_law.nd (ao ad (ay (ar uL hr (ac (aa 0) (ac ad ae))) ad)))
   (ah (ai 7 sc_law.nd (af (aN (ac (aa 3) (ac (ao (aP (aa 3) (aa 6)) ad) (ac (ao (aP (aa 3) (aa 6)) ad) ae)))) (ay (ar uL hr (ac (aa 0) (ac ad ae))) ad)))
   (ah (ai 5 sc_law.nd (ar Ia hr (ac (aa 2) (ac ad (ac (aa 7) (ac (aa 4) (ac (aN (ac (aa 6) ae)) ae)))))))
   (ah (cr (cn (bT (br (ar uS hr (ac (aa 7) ae))) (bT (br (ar uS hr (ac (aP (ao (aa 7) (aa 6)) ad) ae))) (cz (br (ar uS hr (ac (aa 4) ae))))))) (am (aX (sS (dQ hr) (aa 5) (aF (ac av ae))) (am (ax ck)) aQ)) (ah (ai 8 sc_law.nd (jq (qI rfl (compScope (by change dz _ (ag fJ) ["_law_script","_law_part","_law_made","_law_x","_law_y","_law_found","_law_many","_law_begin","_law_due","_law_wide","_law_high","_law_sides"] _=true;decide+kernel)) uA (aa 6) (λcl s0 H0 fp=>(af av (ar IH hr (ac (af (aa 1) ad) (ac (ao (aa 7) (aa 12)) (ac (aa 4) ae)))))))))
    (am (aX (cn (bT (dW (br (fo uE uM (aa 5) PyProof.Rows.boot_str kit_str))) (cz (bZ (aa 5) (aa 8))))) (am (ax ck)) aQ))))
   (ah (ai 9 sc_law.nd (aP (ay (ar uL hr (ac (aa 0) (ac ad ae))) ad) ad))
   (ah (ai 10 sc_law.nd (aP (ay (ar uL hr (ac (aa 0) (ac ad ae))) ad) ad))
   (ah (ai 11 sc_law.nd (aN (ac (aN (ac (aa 3) (ac (aa 4) (ac (ao (aa 3) (aa 9)) (ac (ao (aa 4) (aa 10)) ae))))) (ac (aN (ac (aP (aa 3) (aa 9)) (ac (aP (aa 4) (aa 10)) (ac (aa 3) (ac (aa 4) ae))))) (ac (aN (ac (aP (aa 3) (aa 9)) (ac (aa 4) (ac (aa 3) (ac (ao (aa 4) (aa 10)) ae))))) ae)))))
   (ah (aX (cn (bT (dW (br (fo uE uD (dA IE) PyProof.Rows.boot_int qp))) (cz (bZ (dA IE) (df ad ad))))) (am (ax ck)) aQ)
   (am (ax (ar ML hr (ac (aa 2) (ac (af (aa 1) ad) (ac (af (aa 11) (ay (aM (ar uL hr (ac (aa 0) (ac ad ae))) ad) ad)) (ac (ay (aM (ar uL hr (ac (aa 0) (ac ad ae))) ad) ad) ae)))))))))))))))))))))),λds R h=>?_⟩)
 .obtain⟨ns,rfl,_⟩:=h;rfl
 .obtain⟨ns,rfl,hl,hR⟩:=h;refine#[λd=>∃p:Pat,d=p.D/\p.Ok,#[ns,6,rfl,Ik,λp ok=>#[p,rfl,ok]],?_];rintro _⟨p,rfl,A_⟩;k_places;have dp:=A_.deep;refine#[λd=>ce p d,#[_,rfl,Bk A_ λd hd=>hd],?_];rintro _⟨w1,h1,s1,fs,rfl,c1,c2,c3⟩;k_places;have ip:ce p (.obj "Pattern" fs):=#[w1,h1,s1,fs,rfl,c1,c2,c3];refine#[λd=>∃x:Int,d=.int x,#[ns,0,rfl,Ik,_,rfl,λn=>#[n,rfl]],?_];rintro _⟨x,rfl⟩;k_places;refine#[λd=>∃y:Int,d=.int y,#[ns,1,rfl,Ik,_,rfl,λn=>#[n,rfl]],?_];rintro _⟨y,rfl⟩;k_places;refine#[λv=>(aq x/\aq y/\v=.int (p.show x y))\/(¬(aq x/\aq y)/\v=.tup [.str "too far"]),#[Ik,p,_,0,x,y,[],_,_,rfl,ip,A_,.inl #[rfl,rfl,Iff.rfl],λc=>.inl #[c.1,c.2,rfl],λc=>.inr #[c,rfl]],?_];rintro v hv
  let z0:SD:=[be (.rol (ns.map D.int)),be p.D,be (.obj "Pattern" fs),be (.int x),be (.int y)]
  refine#[λz=>∃o5,z=z0++[o5,p7,p7,p7,p7,p7,p7],(λ(Jh:¬(aq x/\aq y)->_)=>#[x,rfl,λa1=>#[y,rfl,λa2=>?_,λq=>Jh λz=>q z.2],λq=>Jh λz=>q z.1]) ?_,?_]
  .intro q;obtain⟨h1,h2,_⟩|⟨_,rfl⟩:=hv
   .exact(q #[h1,h2]).elim
   .exact#[K_,#[rfl,rfl],_,rfl]
  rotate_left
  .obtain⟨_,_,rfl⟩|⟨q,_⟩:=hv
   .refine#[_,rfl,_,rfl,p.leaves,x,y,rfl,Pat.leaf_ok A_.wf Ig,?_];rw[Pat.show_leaves A_.wf Ig];exact ite2 (λz=>absurd z Iq) λ_=>#[_,rfl]
   .exact(q #[a1,a2]).elim
  clear hv v;rintro _⟨o5,rfl⟩;k_places;refine#[λd=>∃n:Nat,d=.int n/\1<=n/\n<=100,#[ns,2,rfl,Ik,Ik,(1+cell ns 2%100).toNat,by rw[ET Ig],Ig,Ig],?_];rintro _⟨n,rfl,n1,n2⟩;k_places;refine#[λd=>∃b:Int,d=.int b,#[M9,ns,3,rfl,Ik,Ik,?_],?_]
  .rcases(Ig:cell ns 3%3=0\/cell ns 3%3=1\/cell ns 3%3=2)with e|e|e<;>rw[e]<;>exact#[_,rfl,_,rfl]
  rintro _⟨b,rfl⟩;k_places;refine#[λv=>(aq b/\aq (b+n-1)/\aq y/\v=.str (aL p b y n))\/(¬(aq b/\aq (b+n-1)/\aq y)/\v=.tup [.str "too far"]),#[K_,p,_,1,b,y,_,_,_,rfl,ip,A_,.inr (.inl #[rfl,n,rfl,n1,n2,rfl,Iff.rfl]),λc=>.inl #[c.1,c.2.1,c.2.2,rfl],λc=>.inr #[c,rfl]],?_];rintro v hv;refine#[λz=>∃o5 o8,z=z0++[o5,be (.int n),be (.int b),o8,p7,p7,p7],(λ(Jh:¬(aq b/\aq (b+n-1)/\aq y)->_)=>#[b,rfl,λa1=>#[b+n-1,rfl,λa2=>#[y,rfl,λa3=>?_,λq=>Jh λz=>q z.2.2],λq=>Jh λz=>q z.2.1],λq=>Jh λz=>q z.1]) ?_,?_]
  .intro q;obtain⟨h1,h2,h3,_⟩|⟨_,rfl⟩:=hv
   .exact(q #[h1,h2,h3]).elim
   .exact#[K_,#[rfl,rfl],_,_,rfl]
  rotate_left
  .obtain⟨_,_,_,rfl⟩|⟨q,_⟩:=hv
   .refine#[λd=>d=.str (aL p b y n),#[#[Ig,Ig],by rw[cD];lia,λi ys=>ys=rowD p b y i,rfl,?_,?_],?_]
    .rintro i v ys hi hl rfl;obtain⟨HI,rfl⟩:=cQ hi;refine#[_,rfl,p.leaves,b+i,y,rfl,Pat.leaf_ok A_.wf Ig,?_];rw[Pat.show_leaves A_.wf Ig];obtain⟨b0,b6⟩:=Pat.show_le A_.wf Ig (b+(i:Int)) y;exact#[_,#[Ik,sG b0 b6],sJ p b y i]
    .rintro ys hl rfl;rw[cD,FA];obtain⟨ys,e1,e2,e3⟩:=sK p b y (n:=n) Ig;exact#[ys,e1,e2,by rw[e3]]
    rintro _ rfl;k_places;exact ite2 (λz=>absurd z Iq) λ_=>#[_,_,rfl]
   .exact(q #[a1,a2,a3]).elim
  clear hv v;rintro _⟨o5,o8,rfl⟩;k_places;refine#[λd=>∃w:Int,d=.int w/\-3<=w/\w<=3,#[ns,4,rfl,Ik,Ik,_,rfl,Ig,Ig],?_];rintro _⟨w,rfl,wl,wu⟩;k_places;refine#[λd=>∃h:Int,d=.int h/\-3<=h/\h<=3,#[ns,5,rfl,Ik,Ik,_,rfl,Ig,Ig],?_];rintro _⟨h,rfl,Na,hu⟩;k_places;refine#[λd=>∃xs:List D,d=.lst xs/\∀k:Int,0<=k->k<3->∃l t r b:Int,atI xs k=be (.lst [.int l,.int t,.int r,.int b])/\r-l<=10/\b-t<=10,#[by show(4:Nat)<=1000;decide,by show(4:Nat)<=1000;decide,by show(4:Nat)<=1000;decide,M9,_,rfl,λk k0 k3=>?_],?_]
  .rcases(Ig:k=0\/k=1\/k=2)with rfl|rfl|rfl<;>exact#[_,_,_,_,rfl,Ig,Ig]
  rintro _⟨xs,rfl,hx⟩;k_places;obtain⟨l,t,r,b,ex,r1,r2⟩:=hx (cell ns 3/3%3) Ig Ig;refine#[#[Ik,Ik,Ik],?_];exact#[_,rfl,ns,3,rfl,Ik,Ik,Ik,_,ex,ns,4,rfl,Ik,Ik,Ik,p,_,l,t,r,b,_,rfl,ip,A_,Ig,Ig,r1,r2,hR]
end
local macro_rules | `(tactic| walk_at "b1") => `(tactic| exact zo λ_ _ _ _ _ _ _ => rfl)
local macro_rules | `(tactic| walk_at "b2") => `(tactic| exact bind2 λ_ _ _ _ _ _ _ _ => rfl)
local macro_rules | `(tactic| walk_at "b3") => `(tactic| exact bind3 λ_ _ _ _ _ _ _ _ _ => rfl)
local macro_rules | `(tactic| walk_at "b4") => `(tactic| exact bind4 λ_ _ _ _ _ _ _ _ _ _ => rfl)
local macro_rules | `(tactic| walk_at "b5") => `(tactic| exact bind5 λ_ _ _ _ _ _ _ _ _ _ _ => rfl)
local macro_rules | `(tactic| walk_at "b6") => `(tactic| exact bind6 λ_ _ _ _ _ _ _ _ _ _ _ _ => rfl)
structure TopIn(K:Ef):Prop where
 uEM:FnIn K "_law_at" ke
 uHG:FnIn K "_law_draws" kh
 uGT:FnIn K "_law_lines" kj
 uEI:FnIn K "_law_shift_pair" kq
 uGW:FnIn K "_law_motif_text" ku
 uFU:FnIn K "_law_motif" kz
 uFV:FnIn K "_law_wrapped" gE
 uHC:FnIn K "_law_gcd" kC
 uEU:FnIn K "_law_on" kE
 uHV:FnIn K "_law_leaf_family" kG
 uHX:FnIn K "_law_in_family" kI
 uIV:FnIn K "_law_both" kK
 uEX:FnIn K "_law_family" kM
 uEA:FnIn K "_law_over" kO
 uGH:FnIn K "_law_pattern" kQ
 uIR:FnIn K "line_from" kX
 uIP:FnIn K "lines_from" kZ
 uIN:FnIn K "number_from" lh
 uHB:FnIn K "shift_from" lm
 uEL:FnIn K "levelled" lq
 uGO:FnIn K "spread" lu
 uFE:FnIn K "home" lw
 uGN:FnIn K "hues_by_home" ly
 uHS:FnIn K "motif_from" lF
 uFH:FnIn K "over_from" gG
 uGY:FnIn K "shifted_from" gH
 uGI:FnIn K "rehue_from" gI
 uEV:FnIn K "form_from" gJ
 uGZ:FnIn K "measure" lZ
 uHE:FnIn K "met" md
 uFK:FnIn K "mirrored" mf
 uEW:FnIn K "turned" mj
 uFP:FnIn K "read" mm
 uHA:FnIn K "_law_reach" mo
 uHP:FnIn K "refuse_far" mv
 uFY:FnIn K "cell_at" my
 uFJ:FnIn K "row_from" ig
 uIO:FnIn K "field_rows" ii
 uEH:FnIn K "round_row" mD
 uFX:FnIn K "count_sign" mG
 uGS:FnIn K "count_all" ij
 uEZ:FnIn K "count_hue" mJ
 uIH:FnIn K "_law_kind" mL
 uGU:FnIn K "_law_asked" mN
 uEK:FnIn K "_law_beyond" mQ
 uGE:FnIn K "_law_leaf_shows" mU
 uIC:FnIn K "_law_shows" mW
 uIF:FnIn K "_law_whole" mZ
 uGV:FnIn K "_law_counted" nh
 uFQ:FnIn K "_law_seven" nq
 uHZ:FnIn K "_law_rectangle" nu
 uIW:FnIn K "law" fJ
 uEF:NnIn K "len"
 uGB:NnIn K "range"
 uES:NnIn K "int"
 uHL:NnIn K "str"
 uHK:NnIn K "list"
 uHF:NnIn K "abs"
 uEN:NnIn K "max"
 uET:NnIn K "enumerate"
 uID:NnIn K "min"
 uFA:NnIn K "isinstance"
 uEO:NnIn K "ValueError"
 uEY:NnIn K "bool"
 uBP:ClIn K "Reading"
 uBI:ClIn K "Motif"
 uCB:ClIn K "Mirror"
 uDK:ClIn K "Turn"
 uBU:ClIn K "Over"
 uBD:ClIn K "Shifted"
 uAZ:ClIn K "Rehue"
 uCZ:ClIn K "Pattern"
 uGG:InIn K "Motif" "Motif.__init__" lC
 uEJ:InIn K "Mirror" "Mirror.__init__" lH
 uEQ:InIn K "Turn" "Turn.__init__" lK
 uGJ:InIn K "Over" "Over.__init__" lM
 uEP:InIn K "Shifted" "Shifted.__init__" lP
 uHO:InIn K "Rehue" "Rehue.__init__" lR
 uFF:InIn K "Reading" "Reading.__init__" lV
 uIJ:InIn K "Pattern" "Pattern.__init__" lX
 uGR:MtIn K "Reading" "may_take" "Reading.may_take" kS
 uFN:MtIn K "Reading" "take" "Reading.take" kU
 uER:MtIn K "Motif" "family" "Motif.family" gK
 uHW:MtIn K "Over" "family" "Over.family" gL
 uHI:MtIn K "Shifted" "family" "Shifted.family" gN
 uHD:MtIn K "Mirror" "family" "Mirror.family" gP
 uIX:MtIn K "Turn" "family" "Turn.family" gR
 uGP:MtIn K "Rehue" "family" "Rehue.family" gT
 uIE:MtIn K "Motif" "shows" "Motif.shows" gW
 uFR:MtIn K "Over" "shows" "Over.shows" gX
 uHH:MtIn K "Shifted" "shows" "Shifted.shows" gZ
 uHM:MtIn K "Mirror" "shows" "Mirror.shows" hV
 uGX:MtIn K "Turn" "shows" "Turn.shows" ia
 uFM:MtIn K "Rehue" "shows" "Rehue.shows" ic
 uFW:NoIn K "Reading" "text"
 uFL:NoIn K "Reading" "place"
 uGA:NoIn K "Motif" "place"
 uEG:NoIn K "Motif" "shifts"
 uHQ:NoIn K "Motif" "hues"
 uFB:NoIn K "Mirror" "form"
 uEB:NoIn K "Turn" "form"
 uFG:NoIn K "Over" "above"
 uIK:NoIn K "Over" "below"
 uIA:NoIn K "Shifted" "form"
 uHT:NoIn K "Shifted" "x"
 uEE:NoIn K "Shifted" "y"
 uFC:NoIn K "Rehue" "form"
 uIB:NoIn K "Rehue" "old"
 uGC:NoIn K "Rehue" "new"
 uIT:NoIn K "Pattern" "text"
 uED:NoIn K "Pattern" "shifts"
 uHU:NoIn K "Pattern" "form"
 uGQ:CsIn K "SIGNS" ".123456"
 uIQ:CiIn K "LONGEST" 8
 uIG:CiIn K "DEEP" 5
 uFS:CiIn K "MOST" 720
 uIU:CiIn K "FAR" 1000000000000
 eb:EbIn K
 uY:E0In K "TooFar"
 uGK:EmIn K "MotifError" "MotifError"
 uGF:EmIn K "MotifError" "TooFar"
 uFZ:EmIn K "TooFar" "MotifError"
 uDQ:EmIn K "TooFar" "TooFar"
 uAC:ExIn K "TooFar"
 uHY:YeIn K "TooFar"
 uII:YeIn K "TooGreat"
 uGM:EmIn K "TooFar" "TooGreat"
 uIS:YeIn K "OneLine"
 uHR:EmIn K "TooFar" "OneLine"
 uGD:YeIn K "WrongSign"
 uGL:EmIn K "TooFar" "WrongSign"
 uEC:YeIn K "NothingKept"
 uFT:EmIn K "TooFar" "NothingKept"
 uFD:YeIn K "Parted"
 uFI:EmIn K "TooFar" "Parted"
 uIL:YeIn K "NoRow"
 uHJ:EmIn K "TooFar" "NoRow"
def Eb{V:Bx}{h:P4}(t:TopIn V.K)(X:V.K.In h)(G:h.Ns Pi V.mg){fa:KM}{fd:P9}(F:Fun V.K "law" "law" fJ fa fd):FnOk V.P V.w V.K V.mg V.base (Exc.CX1 V.P V.w) 19 fa fd nw (lSp V.K eg):=by
 have uB:=mg_none_of X G t.uEF;have uA:=mg_none_of X G t.uGB;have uD:=mg_none_of X G t.uES;have uM:=mg_none_of X G t.uHL;have IT:=mg_none_of X G t.uHK;have uO:=mg_none_of X G t.uHF;have uZ:=mg_none_of X G t.uEN;have IC:=mg_none_of X G t.uET;have Ml:=mg_none_of X G t.uID;have uE:=mg_none_of X G t.uFA;have Mq:=mg_none_of X G t.uEO;have MG:=mg_none_of X G t.uEY;have HW:=t.uBP.a t.uFW;have uJ:=t.uBP.a t.uFL;have L9:=t.uBI.a t.uGA;have uK:=t.uBI.a t.uEG;have HX:=t.uBI.a t.uHQ;have uT:=t.uCB.a t.uFB;have uV:=t.uDK.a t.uEB;have uQ:=t.uBU.a t.uFG;have uR:=t.uBU.a t.uIK;have uP:=t.uBD.a t.uIA;have HY:=t.uBD.a t.uHT;have HZ:=t.uBD.a t.uEE;have uU:=t.uAZ.a t.uFC;have H8:=t.uAZ.a t.uIB;have H9:=t.uAZ.a t.uGC;have Mf:=t.uCZ.a t.uIT;have uX:=t.uCZ.a t.uED;have Jb:=t.uCZ.a t.uHU;have uN:=t.uGQ.g X G;have KN:=t.uIQ.g X G;have J8:=t.uIG.g X G;have Mg:=t.uFS.g X G;have IE:=t.uIU.g X G;have Mj:=t.uY.k t.eb X G;have ek:sZ V:=zp #[(let ⟨C,N,bm,k,_⟩:=t.eb.k X G;#[C,N,bm,k]),(let ⟨C,N,bm,k,_⟩:=t.uY.k t.eb X G;#[C,N,bm,k]),trivial] #[#[t.uGK,t.uGF,trivial],#[t.uFZ,t.uDQ,trivial],trivial];have Mt:V.j "TooFar" [("TooFar",true)]:=let ⟨D,n,h,ty⟩:=t.uHY;#[D,mg_of X G n,cX (isY (let ⟨C,N,bm,k,_⟩:=t.uY.k t.eb X G;#[C,N,bm,k]) t.uAC n h ty t.uDQ Ip) (cV)]
 have Mu:V.j "TooGreat" [("TooFar",false)]:=let ⟨D,n,h,ty⟩:=t.uII;#[D,mg_of X G n,cX (isY (let ⟨C,N,bm,k,_⟩:=t.uY.k t.eb X G;#[C,N,bm,k]) t.uAC n h ty t.uGM Ip) (cV)]
 have Mv:V.j "OneLine" [("TooFar",false)]:=let ⟨D,n,h,ty⟩:=t.uIS;#[D,mg_of X G n,cX (isY (let ⟨C,N,bm,k,_⟩:=t.uY.k t.eb X G;#[C,N,bm,k]) t.uAC n h ty t.uHR Ip) (cV)]
 have Mw:V.j "WrongSign" [("TooFar",false)]:=let ⟨D,n,h,ty⟩:=t.uGD;#[D,mg_of X G n,cX (isY (let ⟨C,N,bm,k,_⟩:=t.uY.k t.eb X G;#[C,N,bm,k]) t.uAC n h ty t.uGL Ip) (cV)]
 have Mx:V.j "NothingKept" [("TooFar",false)]:=let ⟨D,n,h,ty⟩:=t.uEC;#[D,mg_of X G n,cX (isY (let ⟨C,N,bm,k,_⟩:=t.uY.k t.eb X G;#[C,N,bm,k]) t.uAC n h ty t.uFT Ip) (cV)]
 have Mz:V.j "Parted" [("TooFar",false)]:=let ⟨D,n,h,ty⟩:=t.uFD;#[D,mg_of X G n,cX (isY (let ⟨C,N,bm,k,_⟩:=t.uY.k t.eb X G;#[C,N,bm,k]) t.uAC n h ty t.uFI Ip) (cV)]
 have MB:V.j "NoRow" [("TooFar",false)]:=let ⟨D,n,h,ty⟩:=t.uIL;#[D,mg_of X G n,cX (isY (let ⟨C,N,bm,k,_⟩:=t.uY.k t.eb X G;#[C,N,bm,k]) t.uAC n h ty t.uHJ Ip) (cV)]
 have jv:V.jv [("TooFar",true)]:=cX (isVE (let ⟨C,N,bm,k,_⟩:=t.uY.k t.eb X G;#[C,N,bm,k]) t.uAC) (cV);have uL:il V:=CG (t.uEM.tx X G Ko) uB;have IS:im V:=CH (t.uHG.tx X G LZ) uA uL;have LN:ny V:=CI (t.uGT.tx X G KK) uA uB;have LO:nz V:=CJ (t.uEI.tx X G KK) uD;have LP:nA V:=CK (t.uGW.tx X G LZ) uM;have KH:nB V:=CL (t.uFU.tx X G Ko) IS LN LO LP;have KI:nC V:=CM (t.uFV.tx X G Ko) uM IT uD;have IY:io V:=CN (t.uHC.tx X G Ko) uO;have IZ:iq V:=CO (t.uEU.tx X G (by walk_at "b4"));have KG:nE V:=CP (t.uHV.tx X G KK) uO IY IZ;have LW:nF V:=CQ (t.uHX.tx X G LZ);have L4:nG V:=CS (t.uIV.tx X G Ko) IY LW;have L5:nH V:=CT (t.uEX.tx X G KK) KG L4;have KJ:nI V:=CU (t.uEA.tx X G Ko) uZ L5;have MJ:nJ V:=CV (t.uGH.tx X G Ko) uA IS KH KI KJ;have uH:cY V:=CW (t.uGR.txm t.uBP Ko) uB HW uJ;have uC:cx V:=CY (t.uFN.txm t.uBP Ko) uH;have KL:nK V:=CZ (t.uIR.tx X G LZ) uA uN uC uH;have L_:nM V:=C0 (t.uIP.tx X G KK) uB KL KN uH;have KO:nN V:=C1 (t.uIN.tx X G KK) uD uH uC;have HK:fK V:=C3 (t.uHB.tx X G KK) KO uC;have I_:ir V:=C4 (t.uEL.tx X G Ko);have Ja:iu V:=C5 (t.uGO.tx X G Ko) uO I_;have uW:eV V:=C6 (t.uFE.tx X G LZ);have L8:nO V:=C7 (t.uGN.tx X G Ko) IC uW uN;have Ma:nP V:=C8 (t.uGG.txi X G (by walk_at "b5")) Ja L8 L9 uK HX;have J7:iw V:=C9 (t.uHS.tx X G KK) L_ HK uJ Ma uC;have J9:iy V:=Da (t.uEJ.txi X G Ko) uT;have J_:iz V:=Db (t.uEQ.txi X G Ko) uV;have J4:iA V:=Dc (t.uGJ.txi X G LZ) uQ uR;have J5:iB V:=Dd (t.uEP.txi X G (by walk_at "b4")) uP HY HZ;have J6:iC V:=De (t.uHO.txi X G (by walk_at "b4")) uU H8 H9;have uI:sW V:=Dj (t.uFH.tx X G Ko) (t.uGY.tx X G Ko) (t.uGI.tx X G Ko) (t.uEV.tx X G Ko) J4 uC HK J5 uD J6 J7 J8 J9 J_ uH 6;have Mh:nQ V:=Dk (t.uFF.txi X G Ko) HW uJ;have Mi:nR V:=Dl (t.uIJ.txi X G (by walk_at "b4")) Mf uX Jb;have Kb:nU V:=Dm (t.uGZ.tx X G Ko) I_;have Kc:iD V:=Dn (t.uHE.tx X G Ko) Kb;have Ke:iE V:=Do (t.uFK.tx X G KK);have Kf:iF V:=Dp (t.uEW.tx X G KK) Ja;have uF:sX V:=Dv (t.uER.txm t.uBI KK) (t.uHW.txm t.uBU KK) (t.uHI.txm t.uBD KK) (t.uHD.txm t.uCB KK) (t.uIX.txm t.uDK KK) (t.uGP.txm t.uAZ KK) uK Kc uQ uR uP Ke uT Kf uV uU 6;have MK:nV V:=Dw (t.uFP.tx X G KK) uB uI Mg uJ Mh Mi uF;have KP:nW V:=Dy (t.uHA.tx X G KK);have IF:iG V:=Dz (t.uHP.tx X G Ko) uZ uO IE Mj;have uG:sY V:=DJ (t.uIE.txm t.uBI LZ) (t.uFR.txm t.uBU LZ) (t.uHH.txm t.uBD LZ) (t.uHM.txm t.uCB LZ) (t.uGX.txm t.uDK LZ) (t.uFM.txm t.uAZ LZ) uW HX uK uQ uR uP HZ HY uT uV uU H8 H9 6;have Jc:iH V:=DK (t.uFY.tx X G LZ) IF Jb uG;have Je:iI V:=DM (t.uFJ.tx X G (by walk_at "b4")) uA Jc uN;have Mm:nX V:=DN (t.uIO.tx X G KK) uA Je uX;have Mn:C_round_row V:=DO (t.uEH.tx X G (by walk_at "b4")) uW;have Mo:nY V:=DP (t.uFX.tx X G LZ) uB;have Jf:iJ V:=DQ (t.uGS.tx X G (by walk_at "b5")) uZ uA Ml IC IF Mm Mn Mo uN uX;have Mr:nZ V:=DR (t.uEZ.tx X G (by walk_at "b6")) uB Jf;have Ms:oa V:=DV (t.uIH.tx X G KK);have Ia:iK V:=DY (t.uGU.tx X G (by walk_at "b5")) uE Mq Jc Je Mr Jf Ms Mt Mu Mv Mw Mx Mz MB jv ek;have uS:iL V:=D0 (t.uEK.tx X G KK);have MF:og V:=D1 (t.uGE.tx X G LZ) uA uB uD IZ;have IH:iM V:=D2 (t.uIC.tx X G LZ) MF;have HM:fL V:=D3 (t.uIF.tx X G KK) uE MG uD;have MH:oh V:=D5 (t.uGV.tx X G (by walk_at "b5")) uA IH;have MI:oi V:=D7 (t.uFQ.tx X G Ko) uB uE IT uA HM;have ML:oj V:=D9 (t.uHZ.tx X G (by walk_at "b4")) Ia uS MH MI HM;exact Ea F uA uE uM uD MJ MK KP uL Ia uS IH HM ML IE
def all_mk{l:Gi}{w:P2}{K:Ef}{h:P4}{mg:E_->Option KB}{fa:KM}(X:K.In h)(G:h.Ns Pi mg)(LB:mg "law"=be (.ref fa))(t:TopIn K):
  ∃fd:P9,(∀(s:KF) (v:KB),Q1 s fd #[[v],[]] [("_law_script",v)])/\∀base:P4,K.In base->base.Ns Pi mg->FnOk l.prog w K mg base (Exc.CX1 l.prog w) 19 fa fd ["_law_script"] (lSp K eg):=by
 obtain⟨fd,b,F⟩:=t.uIW.law X G LB (λ_ _ _ _ _ _ _=>rfl);exact#[fd,b,λbase _ _=>Eb (V:=#[l.prog,w,K,mg,base]) t X G F]
def law_walk{l:Gi}{q:PZ}{j9:List E_}{XP:(E_->Option KB)->P4->Prop}{YP:P2->P4->Prop}{d:DefRec}{K:Params->Ef}(hn:l.most=be 63)(Jt:d.params.defaults=[])
  (hY:∀(w:P2) (h:P4),YP w h->(K w.params).In h)
  (F:∀(w:P2) (mg:E_->Option KB) (fa:KM) (h:P4),(K w.params).In h->h.Ns Pi mg->mg d.name=be (.ref fa)->
   ∃fd:P9,(∀(s:KF) (u:KB),Q1 s fd #[[u],[]] [("_law_script",u)])/\∀base:P4,(K w.params).In base->base.Ns Pi mg->FnOk l.prog w (K w.params) mg base (Exc.CX1 l.prog w) 19 fa fd ["_law_script"] (lSp (K w.params) eg)):
  GM q j9 XP YP l.row.toRowW d [] (λf vs=>PySem.call f vs):=
 L2.walk_of (n:=63) (k:=19) (x:="_law_script") (CX:=λw=>Exc.CX1 l.prog w) (sp:=λw=>lSp (K w.params) eg) hn Ik Jt #[rfl,Ik,Ik] hY F (λ_ _ a ns hl _ hS=>xo hl hS) λ_ _ _ _ _ h=>by obtain⟨_,_,_,_,_,_,_,_,_,_,_,_,_,_,_,z⟩:=h;exact z
end My
open PySem PySem.W PyProof.Rows
set_option maxRecDepth 100000 in
set_option maxHeartbeats 0 in
theorem PySem.Challenge.cw_motiffield_k16_too_far_holds : PySem.Challenge.rw_motiffield_k16_too_far.Holds := by
  w_on;o_law;k_head;(case hw =>w_witness2)
  k_fill
  refine My.law_walk (l :=PySem.Challenge.rw_motiffield_k16_too_far) rfl rfl (λw h Y =>kIn_of Y) ?F
  case F =>
    intro w mg fa h KX G m6;refine My.all_mk KX G m6 ?_;constructor
    all_goals first|((with_reducible refine' My.fnIn_mk ?a ?l ?c ?k);(case a =>k_is);(case l =>k_is);(case c =>k_is);(case k =>k_is))|((with_reducible refine' My.nnIn_mk ?a);(case a =>k_is))|((with_reducible refine' My.noIn_mk ?a ?b);(case a =>k_is);(case b =>k_is))|((with_reducible refine' My.mtIn_mk ?a ?b ?i ?l ?c ?k);(case a =>k_is);(case b =>k_is);(case i =>k_is);(case l =>k_is);(case c =>k_is);(case k =>k_is))|((with_reducible refine' My.inIn_mk ?a ?mk ?b ?i ?kp ?l ?c ?k);(case a =>k_is);(case mk =>k_is);(case b =>k_is);(case i =>k_is);(case kp =>k_is);(case l =>k_is);(case c =>k_is);(case k =>k_is))|((with_reducible refine' My.clIn_mk ?a ?pg ?hd ?po ?sa ?ha ?hn ?ht ?hm);(case a =>k_is);(case pg =>k_is);(case hd =>k_is);(case po =>k_is);(case sa =>k_is);(case ha =>k_is);(case hn =>k_is);(case ht =>k_is);(case hm =>k_is))|((with_reducible refine' My.ciIn_mk ?a);(case a =>k_is))|((with_reducible refine' My.csIn_mk ?a);(case a =>k_is))|((with_reducible refine' My.ebIn_mk ?a ?kp ?o ?nk ?al ?ni);(case a =>k_is);(case kp =>k_is);(case o =>k_is);(case nk =>k_is);(case al =>rfl);(case ni =>k_is))|((with_reducible refine' My.e0In_mk ?b ?a ?kp ?o ?nk ?al ?ni);(case b =>k_is);(case a =>k_is);(case kp =>k_is);(case o =>k_is);(case nk =>k_is);(case al =>rfl);(case ni =>k_is))|((with_reducible refine' My.emIn_mkT ?e ?a ?c ?d);(case e =>decide);(case a =>k_is);(case c =>k_is);(case d =>k_is))|((with_reducible refine' My.emIn_mkF ?e ?a ?c ?d);(case e =>decide);(case a =>k_is);(case c =>k_is);(case d =>k_is))|((with_reducible refine' My.exIn_mk ?a ?b ?c ?d ?e ?f);(case a =>k_is);(case b =>k_is);(case c =>k_is);(case d =>k_is);(case e =>k_is);(case f =>k_is))|((with_reducible refine' My.yeIn_mk ?a ?b ?c);(case a =>k_is);(case b =>k_is);(case c =>k_is))
end
