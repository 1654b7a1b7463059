import PyProof.Rows.All
import Wide.All
import OpenK.AllK
import Wide.FinOn
import Lean
import PyProof.EqAt
import PyProof.EqKinds
import PyProof.TupleCall
import PySem.Challenge.RW_motiffield_k27_lone_spot
set_option compiler.extract_closed false
set_option Elab.async false
set_option linter.all false
set_option maxRecDepth 100000
set_option maxHeartbeats 4000000
open PySem renaming Str->IT
open Option renaming some->be,none->z7
open PySem renaming Value->KB,Addr->KF,Shared->KM,wpAny_bind->Os,mainGlobals->Pi,Program->P3,Expr->Qo,wpAny_pure->Qp,Stmt->Qq,model->Qr,wpAny->Qs,World->Qt,Around->Qu,starEach->Qv,assignEach->Qw,eval->Qx,attributeBase->Qy,FuncData->Qz,compareOp->QA,wpAny_Call_Name_kw->QB,Pos->QC,wpAny_mono->QE,swapsWith->QF,wpAny_newObj_type->QG,bootBuiltins->QH,binaryOp->QI,Obj->QJ,wpAny_passesOwn->QK,behindInMarks->QL,wpAny_truthy_bool->QM,wpAny_loadPart_at->QN,sysModules->QO,excClassObj->QP,PassesOwn->QQ,wpAny_holding->QR,Scope->QS,wpAny_getItem_str_slice->QT,wpAny_standAt->QU,wpAny_field->QV,sliceBounds->QW,keywordEach->QX,bindArgs->QY,NameKind->QZ,backTo->Q0,holding->Q1,codeAny_mono->Q2,assign->Q3,Env->Q4,wpAny_pyIter_enum->Q5,wpAny_assign_Name->Q6,tupleKind->Q8,wpAny_call->Q9,standAt->Q_,codeAny->Ra,wpAny_execs_nil->Rb,post_val_or_str->Rc,letOwnedTupleGo->Rf,wpAny_setField->Rg,sizeLine_eq->Rh,rawInt->Ri,backToKw->Rj,Keyword->Rk,callerA->Rl,cLine->Rm,BindsTo->Ro,plainObj_wpAny_Assign_Attribute->Rp,noteFrame->Rq,getMethod->Rr,IsPart->Rt,atKey->Ru,valueAt->Rv,wpAny_letOwnedTupleGo_enum->Rw,dictSetDefault->Rx,compEnvC->Ry,call_meets->Rz,wpAny_comprehension_free->RA,swapsWithSole->RB,swappedStores->RC,bindL->RD,bindC->RE,CmpOp->RF,seqIndex_neg->RH,leaving->RJ,getItem->RK,codeAny_compStart_list->RL,call_meetsIn->RN,Sem->RO,wpAny_newFunctionEnv->RP,seqIndex_of->RQ,lookup_relabel_local->RR,codeAny_call_builtin->RS,wpAny_isSubtype_exc->RT,wpAny_call_exc_subT->RU,wpAny_entryPlaceOf->RV,wpAny_Name->RW,typeIs_str->RY,typeIs_int->RZ,tupleKind_room_in1->R1,isInstance->R3,builtinsNs->R4,wpAny_frameOf_fun->R5,relabel->R6,foldedSetIterable->R7
open PyProof.Rows renaming envOfC->QD,AllBare->Q7,IntsAre->Rn,subscriptTail_builtinR->RG
open PySem.Spec renaming same->RI
open PySem.W renaming Frag->Ex,findIn->ES,mroIn->FW,OpenLaw->G2,clsIn->G8,WalkO->HB
open Nat renaming le_refl->EK,ne_of_lt->EZ,le_trans->E1,lt_of_lt_of_le->Fj,zero_le->Fl,pow_pos->FK,pow_succ->FL,lt_irrefl->FM,ne_of_gt->FO,le_succ->FQ,not_lt_zero->F9,pow_le_pow_right->Gc,zero_add->Gd,add_comm->Gi,le_of_not_lt->Gj,le_of_lt->GA,le_of_eq->GD,succ_mul->GF,mul_comm->G1,lt_or_ge->G6,mul_le_mul->Hc,lt_succ_self->Hv,lt_of_le_of_lt->HC,lt_trans->HD,log2_lt->HG,lt_succ_of_lt->HI,add_sub_add_right->HJ,mul_le_mul_left->HQ,succ_ne_self->HU,le_max_left->H8,le_max_right->H9,pow_add->Ia,strongRecOn->Ik,mod_eq_of_lt->Il,min_eq_left->Iq,mul_succ->Ir,add_zero->Iw,lt_trichotomy->Iz
open List renaming mem_singleton->EL,range->EM,length_cons->EN,size_toArray->EO,replicate->EQ,mem_cons->ER,length_append->EU,mem_cons_of_mem->EV,length_map->EY,mem_cons_self->E2,getElem?_map->E3,map_cons->E4,getElem?_eq_some_iff->E6,mem_append_right->E7,lookup_cons->E8,getElem?_set_ne->E9,mem_map->Fg,append_assoc->Fh,getElem?_eq_getElem->Fi,mem_append->Fk,getElem?_range->Fq,append_nil->Ft,getElem?_append_left->Fu,replicate_succ->Fv,getD->Fw,map_append->Fx,cons_append->Fz,getElem?_set_self->FB,getElem?_append_right->FC,all_cons->FD,nodup_cons->FG,flatten_cons->FH,all_eq_true->FI,lookup->FP,length_set->FR,map_map->FT,not_mem_nil->FU,length->FX,any_cons->FY,find?_cons->FZ,getElem?_set->F7,getElem?_eq_none->F8,getElem?_replicate->Gf,length_drop->Gg,map_nil->Gh,length_nil->Gk,ext_getElem?->Gm,range_succ->Gn,drop->Go,nodup_append->Gp,length_range->Gv,filterMap_cons->GB,mem_append_left->GC,length_replicate->GE,map->GH,getElem_mem->GJ,map_congr_left->GK,getElem_toArray->GM,of_mem_zip->GW,length_take->GX,mem_of_getElem?->GY,foldl->GZ,nil_append->G0,all_map->G4,forIn_cons->G5,eq_nil_of_length_eq_zero->G9,drop_of_length_le->Hi,ext_getElem->Hl,getElem_append_left->Hm,mem_filter->Hs,mem_filterMap->Hu,getElem?_take_of_lt->Hw,filterMap_map->Hx,foldl_cons->Hz,nodup_nil->HE,contains_cons->HF,range_succ_eq_map->HH,take_of_length_le->HN,dropLast_cons₂->HS,drop_eq_getElem_cons->Ic,drop_zero->Im,mem_replicate->IA,getElem_map->IB,getElem_range->IC,getElem_append_right->ID,getElem_set->IF,drop_length->IH,mem_iff_getElem?->II,length_pos_of_mem->IJ
open Bool renaming false_ne_true->ET,and_eq_true->Ff,eq_iff_iff->FF,and_true->GL,or_true->G3,eq_false_iff->Ho,and_false->HA,or_eq_true_iff->HK
open Int renaming mul_comm->EW,mul_pos->E5,toNat_of_nonneg->Fb,emod_nonneg->Fc,emod_lt_of_pos->Fd,mul_le_mul_of_nonneg_right->Fe,emod_def->Fo,mul_zero->Fp,emod_eq_of_lt->Fs,mul_ediv_cancel->Fy,add_zero->FA,add_mul->FE,mul_neg->FJ,neg_mul->FS,natCast_add->FV,mul_nonpos_of_nonpos_of_nonneg->Ga,eq_of_mul_eq_mul_right->Gb,mul_assoc->Ge,toNat->Gq,sub_mul->Gr,zero_add->Gs,sub_zero->Gu,lt_trichotomy->Gw,ediv_eq_zero_of_lt->Gx,one_dvd->Gy,dvd_trans->Gz,mul_emod_left->GN,emod_add_mul_ediv->GO,add_assoc->GP,mul_neg_of_neg_of_pos->GQ,neg_add->GR,toNat_natCast->GT,le_trans->GU,mul_one->GV,natAbs_mul->Ha,fmod_eq_zero_of_dvd->Hb,mul_le_mul_of_nonneg_left->Hd,eq_of_mul_eq_mul_left->Hf,mul_eq_zero->Hg,dvd_of_emod_eq_zero->Hh,mul_add->Hj,emod_eq_zero_of_dvd->Hk,add_mul_ediv_left->Hn,ediv_nonneg->Hq,ediv_le_self->Hr,le_ediv_of_mul_le->HP,fmod_nonneg_of_pos->HV,fmod_lt_of_pos->HW,mul_fdiv_cancel_of_fmod_eq_zero->HX,dvd_mul_of_dvd_right->HY,mul_le_mul->HZ,add_mul_emod_self_right->Ie,add_mul_ediv_right->Ig,dvd_add_left->Ih,dvd_mul_right->Ii,sub_eq_add_neg->Ij,natCast_emod->Io,zero_mul->Ip,neg_neg->Iu,add_comm->Iv,natCast_zero->Ix,le_of_dvd->Iy,mul_sub->IE,one_mul->IG
open Array renaming length_toList->FN,getElem?_eq_some_iff->GI,toList->Ht,all_toList->HL,eq_empty_of_size_eq_zero->HM,getElem?_eq_getElem->HR,toList_inj->Ib
open Option renaming bind_some->F6,bind->GS,map_some->G7,getD_none->Hy
open PySem.W (InitBack any_some callWith_K callWith_K0 cellsFrom_some cls_value codeIn codeRec_of emptyDict eq_bytes findCls findObj_own fnOf get_value handedIn hasDictIn hideAll hideAll_get hideAll_none hideAll_size instObj isFn isNs_of_in kIn_of keepIn ki_setAt ki_setBack kia_one kitOne kitx_bool kitx_dict kitx_float kitx_int kitx_list kitx_none kitx_own kitx_str kitx_tuple kun_itemsOf len_bytes lookIn make_core makesIn makes_of methodCall_KW methodObj method_cls method_fn mg_none_of mg_of ne_bytes nsIn nsMap_none_of_in nsOkIn of_hideAll osa_open plainGet plainGet_of plainOver readsIn specialIn tailIn tail_of_in takerIn takesIn truthy_bytes)
def qZ0(_:0=0:=by rfl):=0
def zA0:=qZ0._auto_1
def qZ1(_:0=0:=by decide):=0
def zA1:=qZ1._auto_1
def qZ2(_:0=0:=by exact λ_=>rfl):=0
def zA2:=qZ2._auto_1
def qZ3(_:0=0:=by first|exact .inl rfl|exact .inr rfl|assumption):=0
def zA3:=qZ3._auto_1
def qZ4(_:0=0:=by first|exact Or.inl rfl|exact Or.inr rfl):=0
def zA4:=qZ4._auto_1
def qZ5(_:0=0:=by first|exact Or.inl rfl|exact Or.inr (Or.inl rfl)|exact Or.inr (Or.inr rfl)):=0
def zA5:=qZ5._auto_1
def qZ6(_:0=0:=by exact λ_ _=>rfl):=0
def zA6:=qZ6._auto_1
def qZ7(_:0=0:=by with_unfolding_all rfl):=0
def zA7:=qZ7._auto_1
namespace PySem.W.Fast
def tw13677436555669564375:=Nat
def tw15000748299230884197:=Nat
def tw16210754280485372018:=Nat
def tw14158169981875760534:=Nat
def tw15695748109249186988:=Nat
def tw13531899227536963142:=Nat
def tw8749606831218591077:=Nat
def tw17675439925643475055:=Nat
def tw11643695760462193183:=Nat
def tw5389687121433919345:=Nat
def tw15662606788541272882:=Nat
def tw285464094880345409:=Nat
def tw5674185398553227971:=Nat
def tw4234784178132548951:=Nat
def tw3687386812545435780:=Nat
def tw16620643697952316679:=Nat
def tw557578662075850581:=Nat
def tw14905737183075327200:=Nat
def tw8221470878279554731:=Nat
def tw1466957655006047986:=Nat
def tw14269228157328967617:=Nat
def tw14600615335896896222:=Nat
def tw9905236259759651729:=Nat
def tw13927669030181266188:=Nat
def tw13308754555459712646:=Nat
def tw7804582657881575311:=Nat
def tw6559637625223137351:=Nat
def tw16242159544891069918:=Nat
def tw15572070615615300966:=Nat
def tw15495719230955123423:=Nat
def tw5589480803030306945:=Nat
def tw9611371201258563174:=Nat
def tw2418572239851412091:=Nat
def tw16677154182973149236:=Nat
def tw14674012320895237118:=Nat
def tw13181077180516525136:=Nat
def tw15632441845548860929:=Nat
def tw14525257921962268135:=Nat
def tw10058959571942711429:=Nat
def tw18208832654347027886:=Nat
def tw18157859824422209222:=Nat
def tw11156048564190000549:=Nat
def tw433802530508831508:=Nat
def tw2076921995023521215:=Nat
def tw7442088021309147102:=Nat
def tw1490864279234565329:=Nat
def tw155653384391007151:=Nat
def tw1563645699784066042:=Nat
def tw2377285750505973312:=Nat
def tw1142411664147525077:=Nat
def tw4247271574763711170:=Nat
def tw16010426641666914015:=Nat
def tw1154097172523226658:=Nat
def tw17180270743298795135:=Nat
def tw818141933853195466:=Nat
def tw1255108107088195405:=Nat
def tw16002634417024733733:=Nat
def tw9100964037816084730:=Nat
def tw18233407271001312218:=Nat
def tw5541470896011359399:=Nat
def tw1740680040263199159:=Nat
def tw7292989024910553824:=Nat
def tw16088404070901646863:=Nat
def tw1310557181937642163:=Nat
def tw5061358424400035948:=Nat
def tw5559788688013685982:=Nat
def tw13021357296779492780:=Nat
def tw11759419499448120179:=Nat
def tw13302755113676022776:=Nat
def tw9112809781216862979:=Nat
def tw12017516239200618320:=Nat
def tw521049531936652721:=Nat
def tw14034480889718796788:=Nat
def tw3101546683081293785:=Nat
def tw8696566362558753517:=Nat
def tw12792959561416407227:=Nat
def tw12810717124145547024:=Nat
def tw2930109772144726836:=Nat
def tw3351146775303674888:=Nat
def tw10178989104913389211:=Nat
def tw2613103361562421118:=Nat
def tw15134323464971080668:=Nat
def tw9582358816388201929:=Nat
def tw5797438897861340882:=Nat
def tw2703916834004584205:=Nat
def tw14141007611461188241:=Nat
def tw10816265204856473242:=Nat
def tw7255679761756853371:=Nat
def tw13692359263054636411:=Nat
def tw4717014763291690109:=Nat
def tw4246391732417133621:=Nat
def tw1790210709691173500:=Nat
def tw4942833461208297110:=Nat
def tw16214607299513722367:=Nat
def tw10506888688664992722:=Nat
def tw14780358608667393288:=Nat
def tw6054264119987801225:=Nat
def tw6711963473697397623:=Nat
def tw15721725637650004856:=Nat
def tw8361406684053610136:=Nat
def tw14486274953279528934:=Nat
def tw3523986993324604200:=Nat
def tw12552901018727107227:=Nat
def tw13223934149415227629:=Nat
def tw6113368844877581253:=Nat
def tw12708222805901934338:=Nat
def tw8848079303346643874:=Nat
def tw1676694198386154221:=Nat
def tw17611812725377054356:=Nat
def tw10148417160638742955:=Nat
def tw13587843280082587303:=Nat
def tw12624524150208081488:=Nat
def tw12223761861897768270:=Nat
def tw3754871147182391462:=Nat
def tw13652748101255762494:=Nat
def tw4016026429253142800:=Nat
def tw298543243598021895:=Nat
def tw564396241585855324:=Nat
def tw9915060696616109354:=Nat
def tw2119784912589802343:=Nat
def tw4474136898497115655:=Nat
def tw1921926644949679324:=Nat
def tw9040484498846090215:=Nat
def tw4875865164712114148:=Nat
def tw4965184405027820504:=Nat
def tw12748563841494673031:=Nat
def tw672165920309748532:=Nat
def tw4443569179251359781:=Nat
def tw13787723719514172070:=Nat
def tw16526866419203299922:=Nat
def tw10667842915052345413:=Nat
def tw2815447532563689429:=Nat
def tw14553856291654965351:=Nat
def tw12618761703092635773:=Nat
def tw1930451455695135298:=Nat
def tw13244086013425119105:=Nat
def tw797192981214666838:=Nat
def tw956035985861586209:=Nat
def tw13585934490706483660:=Nat
def tw12223686080126540483:=Nat
def tw12649110078850952793:=Nat
def tw1591685599297546333:=Nat
def tw8656870891929477904:=Nat
def tw7325940237395346056:=Nat
def tw4852639838815300598:=Nat
def tw11888127320486049464:=Nat
def tw2012488036445501645:=Nat
def tw60500249168755170:=Nat
def tw10775558985927155611:=Nat
def tw4895942289833981140:=Nat
def tw17050958556822021966:=Nat
def tw8986178228425716639:=Nat
def tw4072843176602466925:=Nat
def tw1558286420067483737:=Nat
def tw8340425018561194151:=Nat
def tw11290562938498265859:=Nat
def tw18115301996562594726:=Nat
def tw12281064449693352774:=Nat
def tw16532203572945377217:=Nat
def tw15966364302148671568:=Nat
def tw13807964957675109391:=Nat
def tw5181887747298345412:=Nat
def tw9312093141828944181:=Nat
def tw11417849165670756764:=Nat
def tw585726223949948059:=Nat
def tw12901979198639006549:=Nat
def tw13239346150328501938:=Nat
def tw181742574217472242:=Nat
def tw8163279795381030999:=Nat
def tw2971293647856688590:=Nat
def tw6882867281282944385:=Nat
def tw14670390212394402590:=Nat
def tw6673628284614177989:=Nat
def tw14673495709920010902:=Nat
def tw15434412631544868417:=Nat
def tw4202900444522092756:=Nat
def tw15158417478792452702:=Nat
def tw8214995117453758951:=Nat
def tw15213425706815651460:=Nat
def tw19666438404548586:=Nat
def tw148003010031516260:=Nat
def tw16477240666683083569:=Nat
def tw3146204635651872975:=Nat
def tw12958085784700445070:=Nat
def tw13496360269674819662:=Nat
def tw714968980369529599:=Nat
def tw16067430041541733528:=Nat
def tw10822180432614113979:=Nat
def tw12175594873251743653:=Nat
def tw9218753312416975736:=Nat
def tw3846249124087312925:=Nat
def tw11924783117591186713:=Nat
def tw3932091741304602807:=Nat
def tw3544128579127954915:=Nat
def tw5442143120625640497:=Nat
def tw3846126856196000028:=Nat
def tw7233968573862255507:=Nat
def tw18049212663159270886:=Nat
def tw3494090087304726811:=Nat
def tw13306862542406410601:=Nat
def tw11653630014851639472:=Nat
def tw5526122213841473664:=Nat
def tw18424298793846437605:=Nat
def tw11548175199285883131:=Nat
def tw4581564356523227119:=Nat
def tw637085206979534023:=Nat
def tw15993581621171760152:=Nat
def tw8484168334843950108:=Nat
def tw1751189762376833421:=Nat
def tw8385447261394266944:=Nat
def tw5559701367143752623:=Nat
def tw14773577028181920889:=Nat
def tw18072894850517251978:=Nat
def tw4499251598430397103:=Nat
def tw7166231468503863487:=Nat
def tw8390121577288409367:=Nat
def tw669947379169183943:=Nat
def tw16901025797776284533:=Nat
def tw15948942970606822386:=Nat
def tw14241754096147585754:=Nat
def tw3245547242802490560:=Nat
def tw17859416006053816544:=Nat
def tw13766033226446107143:=Nat
def tw9486829517247751083:=Nat
def tw12112720916622553587:=Nat
def tw16174115521525935589:=Nat
def tw5974209296414554770:=Nat
def tw7649563595596017060:=Nat
def tw2027054665827078454:=Nat
def tw6600422046615470656:=Nat
def tw9621958664292736241:=Nat
def tw10133586477119593495:=Nat
def tw11373290224541244024:=Nat
def tw7715080997724761788:=Nat
def tw3792185709459293339:=Nat
def tw3928444898457217559:=Nat
def tw785312218590303635:=Nat
def tw8418995964843510425:=Nat
def tw6897408570410643354:=Nat
def tw852929042000292945:=Nat
def tw9822289743924001108:=Nat
def tw9573133287774368873:=Nat
def tw912883981960501698:=Nat
def tw17550284682917759194:=Nat
def tw12176416952389900986:=Nat
def tw14797972626866499767:=Nat
def tw10067438361662174599:=Nat
def tw12660830227909538367:=Nat
def tw14404986381687998412:=Nat
def tw5843278107917249176:=Nat
def tw10410986202061595426:=Nat
def tw2331468063389026872:=Nat
def tw12106222265765241388:=Nat
def tw7470303019094350303:=Nat
def tw7229642947562075829:=Nat
def tw1616376980488949906:=Nat
def tw11706039382597494594:=Nat
def tw1920706553569255844:=Nat
def tw2881236786631176542:=Nat
def tw13146330427483248464:=Nat
def tw11519585850789571346:=Nat
def tw13048468709053178749:=Nat
def tw14242019123802413516:=Nat
def tw8750029359840471479:=Nat
def tw8562759099277716594:=Nat
def tw3738327935054764847:=Nat
def tw9631240590410174596:=Nat
def tw10298859023472704899:=Nat
def tw12282366142689549554:=Nat
def tw9515628945462974438:=Nat
def tw5875510424475806459:=Nat
def tw11879749939673960234:=Nat
def tw4163829092998162463:=Nat
def tw15623424393946440492:=Nat
def tw9067482554366404345:=Nat
def tw1255279920652753366:=Nat
def tw17211345320521865176:=Nat
def tw10530288568397120080:=Nat
def tw8342189242794319795:=Nat
def tw1113366396035467169:=Nat
def tw18348325796780080895:=Nat
def tw13523955606934009551:=Nat
def tw18040680855583663174:=Nat
def tw5857675858301120081:=Nat
def tw17473228034958108416:=Nat
def tw9388920703879745627:=Nat
def tw298076441210248408:=Nat
def tw8238538656308909157:=Nat
def tw14446199098139484075:=Nat
def tw1171037554464091391:=Nat
def tw13139622881276923967:=Nat
def tw15741721488325016844:=Nat
def tw422989432642991270:=Nat
def tw10765654950005201258:=Nat
def tw10585755057608738756:=Nat
def tw14305098126793240360:=Nat
def tw11024543362174139243:=Nat
def tw5806904511731064856:=Nat
def tw12401326976174611109:=Nat
def tw10609106973528922761:=Nat
def tw5649012321210675091:=Nat
def tw18274445421523808559:=Nat
def tw15322786408776053315:=Nat
def tw17911589517632773344:=Nat
def tw1168401589647249248:=Nat
def tw8945177395456090025:=Nat
def tw5809998973984331780:=Nat
def tw6362277804948847901:=Nat
def tw9272076310452711665:=Nat
def tw7870612262746963216:=Nat
def tw3118380372086207784:=Nat
def tw4462217450044739114:=Nat
def tw8494783736928725267:=Nat
def tw15246652696863490645:=Nat
def tw17546008726666900823:=Nat
def tw4347739065014017413:=Nat
def tw8517772163736228620:=Nat
def tw8040834987851397792:=Nat
def tw12873028864649600585:=Nat
def tw17272196744530031677:=Nat
def tw99961039153914696:=Nat
def tw5005460929023375449:=Nat
def tw6773624880149289971:=Nat
def tw10621615710762376383:=Nat
def tw783058697035307628:=Nat
def tw17026178127737801011:=Nat
def tw2691868499759291277:=Nat
def tw9370328759978647416:=Nat
def tw793575923665514630:=Nat
def tw17738452442718119745:=Nat
def tw11350177433459167830:=Nat
def tw17375391426767678012:=Nat
def tw11990773635012413028:=Nat
def tw1822581001442753778:=Nat
def tw11089436723865074453:=Nat
def tw14881011588062496395:=Nat
def tw9944287678844155928:=Nat
def tw7993706540660210258:=Nat
def tw5172569516939506842:=Nat
def tw870228702556937026:=Nat
def tw7843795460526617644:=Nat
def tw16756086124908869312:=Nat
def tw13005271307040927206:=Nat
def tw3134988053930447899:=Nat
def tw12240417016187860135:=Nat
def tw14312418121063367338:=Nat
def tw14270884710588837509:=Nat
def tw2191157242334352985:=Nat
def tw1970505434934017187:=Nat
def tw12206241987343650258:=Nat
def tw13974888856152094128:=Nat
def tw17658947931006324227:=Nat
def tw17717252653441764263:=Nat
def tw12073397147581383842:=Nat
def tw3085499067783134114:=Nat
def tw2295601785805631220:=Nat
def tw1169736687844901108:=Nat
def tw3438710701828443872:=Nat
def tw2022477512656844352:=Nat
def tw9098030061927994031:=Nat
def tw7008737923268598600:=Nat
def tw7644183989301224134:=Nat
def tw4996433308880022989:=Nat
def tw5398299805042162211:=Nat
def tw4523117095109734894:=Nat
def tw11869341654793991723:=Nat
def tw9274932587018808689:=Nat
def tw17806377484652409504:=Nat
def tw535358235483310459:=Nat
def tw7392875771719953761:=Nat
def tw13793190880509553687:=Nat
def tw1832758731535203993:=Nat
def tw16124631652228189434:=Nat
def tw5678306710301928327:=Nat
def tw17917912062027385564:=Nat
def tw4457728383684294275:=Nat
def tw15936716510958629796:=Nat
def tw12699956199947834755:=Nat
def tw9573601963794210867:=Nat
def tw11896467580537039703:=Nat
def tw12434165722880483574:=Nat
def tw16653990330917073382:=Nat
def tw11144069993956462647:=Nat
def tw4801263708214043294:=Nat
def tw12231206268049794640:=Nat
def tw8183560899328232592:=Nat
def tw2802362070014891138:=Nat
def tw9546227796065827878:=Nat
def tw11952845762537064175:=Nat
def tw1275449898258240047:=Nat
def tw14876690304383535630:=Nat
def tw2418626175027071829:=Nat
def tw5661936694797718013:=Nat
def tw524485657032869336:=Nat
def tw14314096496210717900:=Nat
def tw7293932651952067639:=Nat
def tw12994934534709393287:=Nat
def tw18353572371237691008:=Nat
def tw10358042456209710806:=Nat
def tw15609531666591708357:=Nat
def tw13161527967927136335:=Nat
def tw16713367503398721640:=Nat
def tw14039512204933451933:=Nat
def tw9222449146742807195:=Nat
def tw18119576142320021605:=Nat
def tw9189549130695523199:=Nat
def tw10195222705864169853:=Nat
def tw15724053164219554597:=Nat
def tw11231151049122985632:=Nat
def tw12534983868367167497:=Nat
def tw13236943053714435063:=Nat
def tw3364944559035859975:=Nat
def tw9321454405259698198:=Nat
def tw7220763434629522236:=Nat
def tw955646524305624286:=Nat
def tw868599588843668121:=Nat
def tw4190621778867080561:=Nat
def tw11607138892155879474:=Nat
def tw18320718057301982083:=Nat
def tw5201640947777948274:=Nat
def tw11419115202797965914:=Nat
def tw14027258069209410061:=Nat
def tw9410515471184845659:=Nat
def tw11267025036790710754:=Nat
def tw5721465243718390838:=Nat
def tw6242668592336269791:=Nat
def tw2568533067088262509:=Nat
def tw4497103010122641279:=Nat
def tw15508506185312151464:=Nat
def tw15565651876009116990:=Nat
def tw4644348990203881613:=Nat
def tw9754433389022931390:=Nat
def tw11281495255486158132:=Nat
def tw2571732564096491092:=Nat
def tw676970317351024873:=Nat
def tw7755712633975308519:=Nat
def tw10118025456321885250:=Nat
def tw6986132161028979936:=Nat
def tw10491211066374695490:=Nat
def tw4471320437641592148:=Nat
def tw4740234502243601847:=Nat
end PySem.W.Fast
section
namespace L2
open PySem PySem.Spec PyProof.Rows
abbrev Key:=Sum Int IT
def dW:Key->KB->Bool
 | .inl k,v=>Value.isInt k v
 | .inr x,v=>Value.isStrOf x v
def keyH(w:Qt):Key->Int
 | .inl k=>hashInt k
 | .inr x=>hashStr w x
def keyIs_shape:∀ {k:Key} {v:KB},dW k v=true->(∃ i t,k=Sum.inl i/\v=Value.int i t)\/(∃ x t,k=Sum.inr x/\v=Value.str x t)
 | .inl i,v,h=>by
  obtain⟨t,e⟩:=Value.isInt_shape (k:=i) (v:=v) h;exact .inl ⟨i,t,rfl,e⟩
 | .inr x,v,h=>by
  obtain⟨t,e⟩:=Value.isStrOf_shape (x:=x) (v:=v) h;exact .inr ⟨x,t,rfl,e⟩
def tY(i:Int)(t:Tok):dW (.inl i) (.int i t)=true:=by simp[dW,Value.isInt]
def tZ(x:IT)(t:Tok):dW (.inr x) (.str x t)=true:=by simp[dW,Value.isStrOf]
def ub(a b:Int):decide ((Sum.inl a:Key)=Sum.inl b)=(a==b):=by
 by_cases e:a=b
 .subst e;simp
 .have h:¬ (Sum.inl a:Key)=Sum.inl b:=λq=>e (Sum.inl.inj q);rw[decide_eq_false h];exact(beq_eq_false_iff_ne.mpr e).symm
def uc(a b:IT):decide ((Sum.inr a:Key)=Sum.inr b)=decide (a=b):=by
 by_cases e:a=b
 .subst e;simp
 .have h:¬ (Sum.inr a:Key)=Sum.inr b:=λq=>e (Sum.inr.inj q);rw[decide_eq_false h,decide_eq_false e]
def ud(a:Int)(b:IT):decide ((Sum.inl a:Key)=Sum.inr b)=false:=decide_eq_false (λq=>nomatch q)
def ue(a:IT)(b:Int):decide ((Sum.inr a:Key)=Sum.inl b)=false:=decide_eq_false (λq=>nomatch q)
def bF(prog:P3)(w:Qt):PySem.KeyKind prog w Key where
 is:=dW
 hash:=keyH w
 inj:=λv a b ha hb=>by
  rcases keyIs_shape ha with⟨i,t,rfl,rfl⟩|⟨x,t,rfl,rfl⟩
  .rcases keyIs_shape hb with⟨j,u,rfl,e⟩|⟨y,u,rfl,e⟩
   .injection e with e1 _;rw[e1]
   .exact nomatch e
  .rcases keyIs_shape hb with⟨j,u,rfl,e⟩|⟨y,u,rfl,e⟩
   .exact nomatch e
   .injection e with e1 _;rw[e1]
 byValue:=λk v h=>by
  rcases keyIs_shape h with⟨i,t,rfl,rfl⟩|⟨x,t,rfl,rfl⟩<;>rfl
 pyHash:=λhv h=>by
  rcases keyIs_shape hv with⟨i,t,rfl,rfl⟩|⟨x,t,rfl,rfl⟩
  .exact wpAny_pyHash_int h
  .exact wpAny_pyHash_str h
 eqBool:=λhu hv h=>by
  rcases keyIs_shape hu with⟨i,t,rfl,rfl⟩|⟨x,t,rfl,rfl⟩
  .rcases keyIs_shape hv with⟨j,u,rfl,rfl⟩|⟨y,u,rfl,rfl⟩
   .rw[ub] at h;exact wpAny_eqBool_int h
   .rw[ud] at h;exact SeqAt.EqAt.int_str i t y u _ _ _ _ h
  .rcases keyIs_shape hv with⟨j,u,rfl,rfl⟩|⟨y,u,rfl,rfl⟩
   .rw[ue] at h;exact SeqAt.EqAt.str_int x t j u _ _ _ _ h
   .rw[uc] at h;exact wpAny_eqBool_str h
 «strs»:=λk x t v h=>by
  rcases keyIs_shape h with⟨i,u,rfl,e⟩|⟨y,u,rfl,e⟩
  .exact nomatch e
  .injection e with e1 _;subst e1;cases v<;>rfl
def mixKind_int(prog:P3)(w:Qt)(i:Int)(t:Tok):(bF prog w).is (.inl i) (.int i t)=true:=tY i t
def uf(prog:P3)(w:Qt)(x:IT)(t:Tok):(bF prog w).is (.inr x) (.str x t)=true:=tZ x t
inductive V where
 |non|bl (b:Bool)|int (i:Int)|str (x:Str)|byt (b:Array UInt8)|flt (b:UInt64)|ref (a:KF)|ty (n:String)
 deriving DecidableEq
def RelV:V->KB->Prop
 | .non,u=>u=Value.none
 | .bl b,u=>u=Value.bool b
 | .int i,u=>∃ t,u=Value.int i t
 | .str x,u=>∃ t,u=Value.str x t
 | .byt b,u=>∃ t,u=Value.bytes b t
 | .flt b,u=>∃ t,u=Value.float b t
 | .ref a,u=>u=Value.ref a
 | .ty n,u=>u=Value.type n
abbrev Vals:List V->List KB->Prop:=Paired RelV
variable{us:List KB}
def Vals.length{xs:List V}(r:Vals xs us):xs.length=us.length:=Paired.length r
def Vals.get:∀ {xs:List V} {us:List KB} {i:Nat} {x:V},Vals xs us->xs[i]?=be x->∃ u,us[i]?=be u/\RelV x u
 |_,_,_,_,.nil,e=>by simp at e
 |_,_,0,_,.cons r _,e=>by simp at e;subst e;exact⟨_,rfl,r⟩
 |_,_,i+1,x,.cons _ t,e=>by
  obtain⟨u,h1,h2⟩:=Vals.get (i:=i) (x:=x) t (by simpa using e);exact⟨u,by simpa using h1,h2⟩
def Vals.set{x:V}{u:KB}(r:RelV x u):∀ {xs:List V} {us:List KB} (i:Nat),Vals xs us->Vals (xs.set i x) (us.set i u)
 |_,_,_,.nil=> .nil
 |_,_,0,.cons _ t=> .cons r t
 |_,_,i+1,.cons q t=> .cons q (Vals.set r i t)
def Vals.append:∀ {xs ys:List V} {us ws:List KB},Vals xs us->Vals ys ws->Vals (xs++ys) (us++ws):=by
 intro xs ys us ws h s;induction h with
 |nil=>exact s
 |cons r _ e=>exact .cons r e
def Vals.take:∀ {xs:List V} {us:List KB} (n:Nat),Vals xs us->Vals (xs.take n) (us.take n)
 |_,_,0,_=> .nil
 |_,_,_+1,.nil=> .nil
 |_,_,n+1,.cons r t=> .cons r (Vals.take n t)
def Vals.drop:∀ {xs:List V} {us:List KB} (n:Nat),Vals xs us->Vals (xs.drop n) (us.drop n)
 |_,_,0,r=>r
 |_,_,_+1,.nil=> .nil
 |_,_,n+1,.cons _ t=>Vals.drop n t
def RelO:Option V->Option KB->Prop
 |some v,be u=>RelV v u
 |none,z7=>True
 |_,_=>False
def KV{κ:Type}:List (κ × V)->List (κ × KB)->Prop:=Paired λ(p:κ × V) (q:κ × KB)=>p.1=q.1/\RelV p.2 q.2
def kV:Key->V
 | .inl i=> .int i
 | .inr x=> .str x
inductive HO where
  |lst (xs:List V)
  |tup (xs:List V)
  |dK (a9:List (Key × V))|dT (a9:List (List Key × V))
  |set (S:Int->Bool) (n:Nat)
  |ins (C dx:KF) (fs:List (IT × V))
  |own (x:KF)
  |xd (fs:List (IT × V))
  |met (f x:KF)
  |rng (lo hi:Int)
  |frz (o:QJ) (u:HO)
  |tbl (ps:Array KB)
  |ext (φ:Heap->Prop)
abbrev Hp:=KF->Option HO
def upd(H:Hp)(a:KF)(o:HO):Hp:=λb=>if b=a then be o else H b
variable{H:Hp}{a:KF}{o:HO}
def ay:upd H a o a=be o:=by unfold upd;rw[if_pos rfl]
variable{b:KF}
def aj(h:b≠a):upd H a o b=H b:=by unfold upd;rw[if_neg h]
def uh{u:HO}(h:H a=be o)(h':H b=be u)(d:o≠u):a≠b:=by
 intro e;subst e;rw[h] at h';exact d (Option.some.inj h')
def bM(h:H a=be o)(h':H b=z7):a≠b:=by
 intro e;subst e;rw[h] at h';cases h'
section
variable (P:P3)(w:Qt)
def ObjOk(H:Hp)(h:Heap)(a:KF):HO->Prop
 | .lst xs=>xs.length<=sizeLine/\∃ (its:List KB) (n:Nat),Vals xs its/\h.get? a=be {cls:= .type "list",data:= .seq its.toArray n}
 | .tup xs=>xs.length<=sizeLine/\∃ its:List KB,Vals xs its/\IsTup h a its.toArray
 | .dK a9=>a9.length<=sizeLine/\(a==QO)=false/\∃ vs,KV a9 vs/\h.DictOf (bF P w) a vs
 | .dT a9=>a9.length<=sizeLine/\(a==QO)=false/\∃ xs:List (List Key × KF × KB),
   Paired (λ(p:List Key × V) (q:List Key × KF × KB)=>p.1=q.1/\H q.2.1=be (.tup (p.1.map kV))/\RelV p.2 q.2.2) a9 xs/\
   ∃ o es ep,h.get? a=be o/\o.ExactDict/\o.data= .dict es ep/\es.toList=xs.map (entryOfKey (Q8 (bF P w)))/\(xs.map (·.1)).Nodup
 | .set S n=>h.SetOf (intKind P w) a S n
 | .ins C dx fs=>H dx=be (.own a)/\fs.length<=1000/\dx≠a/\h.get? a=be (instObj C dx)/\
   ∃ mA,h.Ns1 dx mA/\(∀ f,RelO (fs.lookup f) (mA f))/\PySem.Within mA (fs.map (·.1))
 | .own _=>∃ o,h.get? a=be o
 | .xd fs=>∃ mA,h.Ns1 a mA/\∀ f,RelO (fs.lookup f) (mA f)
 | .rng lo hi=>∃ t u v,h.get? a=be {cls:= .type "range",data:= .fields #[.int lo t,.int hi u,.int 1 v]}
 | .frz o u=>h.get? a=be o/\ObjOk H h a u
 | .tbl ps=>h.get? a=be {cls:= .none,data:= .fields ps}
 | .met f x=>h.get? a=be (methodObj (.ref f) (.ref x))
 | .ext φ=>φ h/\(∃ o,h.get? a=be o)/\∀ h1 h2:Heap,φ h1->(∀ o,h1.get? a=be o->h2.get? a=be o)->φ h2
def HOk(H:Hp)(h:Heap):Prop:=∀ a o,H a=be o->ObjOk P w H h a o
end
section
variable {P:P3}{w:Qt}{H H':Hp}{h h':Heap}{a:KF}{o:HO}
def ObjOk.lt(x:ObjOk P w H h a o):a<h.objs.size:=by
 cases o with
 |lst xs=>obtain⟨_,_,_,_,e⟩:=x;exact Heap.lt_size e
 |tup xs=>obtain⟨_,_,_,p⟩:=x;exact p.lt
 |dK a9=>obtain⟨_,_,_,_,o,_,_,e,_⟩:=x;exact Heap.lt_size e
 |dT a9=>obtain⟨_,_,_,_,o,_,_,e,_⟩:=x;exact Heap.lt_size e
 |set S n=>obtain⟨o,_,_,_,e,_⟩:=x;exact Heap.lt_size e
 |ins C dx fs=>obtain⟨_,_,_,e,_⟩:=x;exact Heap.lt_size e
 |own y=>obtain⟨_,e⟩:=x;exact Heap.lt_size e
 |xd fs=>obtain⟨_,⟨_,_,_,e,_⟩,_⟩:=x;exact Heap.lt_size e
 |rng lo hi=>obtain⟨_,_,_,e⟩:=x;exact Heap.lt_size e
 |frz ob u=>obtain⟨e,_⟩:=x;exact Heap.lt_size e
 |tbl ps=>exact Heap.lt_size (show h.get? a=be _ from x)
 |met f y=>exact Heap.lt_size (show h.get? a=be _ from x)
 |ext φ=>obtain⟨_,⟨_,e⟩,_⟩:=x;exact Heap.lt_size e
def Paired.mapP{α β:Type}{F G:α->β->Prop}:∀ {l₁:List α} {l₂:List β},Paired F l₁ l₂->(∀ a b,F a b->G a b)->Paired G l₁ l₂:=by
 intro l₁ l₂ h f;induction h with
 |nil=>exact .nil
 |cons r _ e=>exact .cons (f _ _ r) e
def ObjOk.stay(x:ObjOk P w H h a o)(k:∀ b u,(b=a\/H b=be (.own a))->h.get? b=be u->h'.get? b=be u)
  (ho:∀ b,H b=be (.own a)->H' b=be (.own a)) (ht:∀ b xs,H b=be (.tup xs)->H' b=be (.tup xs)):ObjOk P w H' h' a o:=by
 induction o with
 |lst xs=>obtain⟨z,its,n,r,e⟩:=x;exact⟨z,its,n,r,k _ _ (.inl rfl) e⟩
 |tup xs=>obtain⟨z,its,r,ob,e,c⟩:=x;exact⟨z,its,r,ob,k _ _ (.inl rfl) e,c⟩
 |dK a9=>obtain⟨z,y,vs,r,ob,es,ep,e,c⟩:=x;exact⟨z,y,vs,r,ob,es,ep,k _ _ (.inl rfl) e,c⟩
 |dT a9=>
  obtain⟨z,y,xs,r,ob,es,ep,e,c⟩:=x;exact⟨z,y,xs,Paired.mapP r λp q z=>⟨z.1,ht _ _ z.2.1,z.2.2⟩,ob,es,ep,k _ _ (.inl rfl) e,c⟩
 |set S n=>obtain⟨ob,es,ep,t,e,c⟩:=x;exact⟨ob,es,ep,t,k _ _ (.inl rfl) e,c⟩
 |ins C dx fs=>
  obtain⟨d,z,ne,e,mA,⟨od,es,ep,e2,c⟩,r⟩:=x;exact⟨ho _ d,z,ne,k _ _ (.inl rfl) e,mA,⟨od,es,ep,k _ _ (.inr d) e2,c⟩,r⟩
 |own y=>obtain⟨ob,e⟩:=x;exact⟨ob,k _ _ (.inl rfl) e⟩
 |xd fs=>obtain⟨mA,⟨od,es,ep,e,c⟩,r⟩:=x;exact⟨mA,⟨od,es,ep,k _ _ (.inl rfl) e,c⟩,r⟩
 |rng lo hi=>obtain⟨t,u,v,e⟩:=x;exact⟨t,u,v,k _ _ (.inl rfl) e⟩
 |frz ob u ih=>obtain⟨e,q⟩:=x;exact⟨k _ _ (.inl rfl) e,ih q⟩
 |tbl ps=>
  have e:h.get? a=be {cls:= .none,data:= .fields ps}:=x;show h'.get? a=be {cls:= .none,data:= .fields ps};exact k a _ (.inl rfl) e
 |met f y=>
  have e:h.get? a=be (methodObj (.ref f) (.ref y)):=x;show h'.get? a=be (methodObj (.ref f) (.ref y));exact k a _ (.inl rfl) e
 |ext φ=>obtain⟨p,⟨o,e⟩,st⟩:=x;exact⟨st _ _ p λo q=>k _ _ (.inl rfl) q,⟨o,k _ _ (.inl rfl) e⟩,st⟩
def HOk.lt(x:HOk P w H h)(e:H a=be o):a<h.objs.size:=(x a o e).lt
def HOk.fresh(x:HOk P w H h)(e:h.objs.size<=a):H a=none:=by
 cases q:H a with
 |none=>rfl
 |some u=>exact absurd (Fj (x.lt q) e) (FM _)
def HOk.kept(x:HOk P w H h)(k:∀ b u,h.get? b=be u->h'.get? b=be u):HOk P w H h':=λa o e=>
 (x a o e).stay (λb u _ q=>k b u q) (λ_ q=>q) λ_ _ q=>q
def HOk.laid(x:HOk P w H h)(k:∀ b u,h.get? b=be u->h'.get? b=be u)(hp:h.objs.size<=a)(new:ObjOk P w (upd H a o) h' a o):HOk P w (upd H a o) h':=λb u e=>by
 have hn:=x.fresh hp;by_cases hb:b=a
 .subst hb;rw[ay] at e;cases e;exact new
 .rw[aj hb] at e;exact(x b u e).stay (λc v _ q=>k c v q) (λc q=>by rw[aj (bM q hn)];exact q) λc xs q=>by rw[aj (bM q hn)];exact q
end
def Rd(H:Hp)(a:KF)(u:HO):Prop:=H a=be u\/∃ o,H a=be (.frz o u)
def Rd.of{u:HO}(h:H a=be u):Rd H a u:= .inl h
variable{P:P3}{w:Qt}{h:Heap}
def Rd.ok{u:HO}(r:Rd H a u)(x:HOk P w H h):ObjOk P w H h a u:=by
 rcases r with r|⟨o,r⟩
 .exact x a u r
 .obtain⟨_,q⟩:=x a _ r;exact q
def Mut:Option HO->Prop
 |some (.lst _)=>True
 |some (.dK _)=>True
 |some (.dT _)=>True
 |some (.set _ _)=>True
 |some (.ins _ _ _)=>True
 |some (.ext _)=>True
 |_=>False
section
variable {P:P3}{w:Qt}{H:Hp}{h h':Heap}{x e:KF}{o':HO}
def HOk.write(ok:HOk P w H h)(mu:Mut (H x))(he:e=x\/H e=be (.own x))(k:∀ b u,b≠e->h.get? b=be u->h'.get? b=be u)(x_:∃ u,h'.get? e=be u)
  (new:ObjOk P w (upd H x o') h' x o'):HOk P w (upd H x o') h':=λb u q=>by
 have Kb:∀ c y,H c=be (.own y)->c≠x:=λc y r z=>by subst z;rw[r] at mu;exact mu
 have Lx:∀ c xs,H c=be (.tup xs)->c≠x:=λc xs r z=>by subst z;rw[r] at mu;exact mu
 by_cases hb:b=x
 .subst hb;rw[ay] at q;cases q;exact new
 .rw[aj hb] at q;by_cases Jj:b=e
  .have q':H b=be (.own x):=by
    rcases he with z|z
    .exact absurd (Jj.trans z) hb
    .rw[Jj];exact z
   rw[q] at q';cases q';obtain⟨v,hv⟩:=x_;exact⟨v,by rw[Jj];exact hv⟩
  .refine(ok b u q).stay (λc v hc r=>k c v ?_ r) (λc r=>by rw[aj (Kb c b r)];exact r) λc xs r=>by rw[aj (Lx c xs r)];exact r
   rcases hc with rfl|hc
   .exact Jj
   .rintro rfl;rcases he with z|z
    .exact Kb c b hc z
    .rw[hc] at z;cases z;exact hb rfl
end
structure Un(fs ex:List KF)(H H':Hp)(h h':Heap):Prop where
 keep:∀ b o,h.get? b=be o->H b=z7->b ∉ fs->b ∉ ex->h'.get? b=be o
 slot:∀ b o,h.get? b=be o->H b=z7->b∈fs->b ∉ ex->∃ sl,h'.get? b=be {o with slots:=sl}
 free:∀ b o,h.get? b=be o->H b=z7->b ∉ ex->H' b=z7
 there:∀ b o,h.get? b=be o->b ∉ ex->∃ o',h'.get? b=be o'
 tups:∀ b xs,H b=be (.tup xs)->H' b=be (.tup xs)
 frzs:∀ b o u,H b=be (.frz o u)->H' b=be (.frz o u)
 tbls:∀ b ps,H b=be (.tbl ps)->∃ more,H' b=be (.tbl (ps++more))
section
variable {fs p8 ex No:List KF}{H H1 H2:Hp}{h h1 h2 h':Heap}{a x e:KF}{o:HO}
def Un.any(u:Un fs ex H H1 h h1){b:KF}{ob:QJ}(q:h.get? b=be ob)(n:H b=z7)(hx:b ∉ ex):∃ sl,h1.get? b=be {ob with slots:=sl}:=by
 by_cases hb:b∈fs
 .exact u.slot b ob q n hb hx
 .exact⟨ob.slots,u.keep b ob q n hb hx⟩
def Un.kept(k:∀ b u,h.get? b=be u->h'.get? b=be u):Un fs ex H H h h':=
 ⟨λb ob q _ _ _=>k b ob q,λb ob q _ _ _=>⟨ob.slots,k b ob q⟩,λ_ _ _ n _=>n,λb ob q _=>⟨ob,k b ob q⟩,λ_ _ q=>q,λ_ _ _ q=>q,λ_ ps q=>⟨#[],by rw[q];simp⟩⟩
def Un.refl:Un fs ex H H h h:=Un.kept λ_ _ q=>q
def Un.laid(k:∀ b u,h.get? b=be u->h'.get? b=be u)(hp:h.objs.size<=a)(hn:H a=z7):Un fs ex H (upd H a o) h h' where
 keep:=λb u q _ _ _=>k b u q
 slot:=λb u q _ _ _=>⟨u.slots,k b u q⟩
 free:=λb u q n _=>by rw[aj (EZ (Fj (Heap.lt_size q) hp))];exact n
 there:=λb u q _=>⟨u,k b u q⟩
 tups:=λb xs q=>by rw[aj (bM q hn)];exact q
 frzs:=λb u xs q=>by rw[aj (bM q hn)];exact q
 tbls:=λb ps q=>⟨#[],by rw[aj (bM q hn),q];simp⟩
def Un.write(mu:Mut (H x))(he:e=x\/H e=be (.own x))(k:∀ b u,b≠e->h.get? b=be u->h'.get? b=be u)(x_:∃ u,h'.get? e=be u):Un fs ex H (upd H x o) h h':=by
 have hx:∀ b,H b=z7->b≠x:=λb n z=>by subst z;rw[n] at mu;exact mu
 have hb:∀ b,H b=z7->b≠e:=λb n z=>by
  subst z;rcases he with r|r
  .exact hx b n r
  .rw[n] at r;cases r
 have hm:∀ b u,H b=be u->¬ Mut (be u)->b≠x:=λb u q nm z=>by subst z;rw[q] at mu;exact nm mu
 refine⟨λb u q n _ _=>k b u (hb b n) q,λb u q n _ _=>⟨u.slots,k b u (hb b n) q⟩,λb u q n _=>by rw[aj (hx b n)];exact n,λb u q _=>?_,
  λb xs q=>by rw[aj (hm b _ q λz=>z)];exact q,λb u xs q=>by rw[aj (hm b _ q λz=>z)];exact q,λb ps q=>⟨#[],by rw[aj (hm b _ q λz=>z),q];simp⟩⟩
 by_cases Jj:b=e
 .subst Jj;exact x_
 .exact⟨u,k b u Jj q⟩
end
def trk(h:Heap)(H:Hp):List KF:=(EM h.objs.size).filter λa=>(H a).isSome
def hidT(h:Heap)(H:Hp):Heap:=hideAll h (trk h H)
def ui(h:Heap)(H:Hp):(hidT h H).objs.size=h.objs.size:=hideAll_size _ _
def uj{o:QJ}(e:h.get? b=be o)(n:H b=z7):(hidT h H).get? b=be o:=
 hideAll_get _ e λhm=>by
  have q:(H b).isSome=true:=(Hs.mp hm).2;rw[n] at q;simp at q
def uk{o:QJ}(e:(hidT h H).get? b=be o):h.get? b=be o/\H b=none:=by
 have e':h.get? b=be o:=of_hideAll (trk h H) e;refine⟨e',?_⟩;cases q:H b with
 |none=>rfl
 |some x=>
  have hm:b∈trk h H:=Hs.mpr ⟨List.mem_range.mpr (Heap.lt_size e'),by simp[q]⟩;have z:(hidT h H).get? b=none:=hideAll_none (trk h H) hm;rw[z] at e;cases e
def allNews(g h:Heap)(L:KF):List (KF × QJ):=(EM h.objs.size).filterMap λa=>if a=L\/(g.get? a).isSome=true then z7 else(h.get? a).map λo=>(a,o)
def rest(g h:Heap)(L d:KF):List (KF × QJ):=(allNews g h L).filter λp=>decide (p.1≠d)
structure Mod(K:Ex)(mg:Str->Option KB)(base:Heap):Prop where
 kin:K.In base
 glob:base.Ns Pi mg
 blt:∃ mb,base.Ns R4 mb/\∀ x:IT,x≠"__name__"->mb x=QH x
 nolimit:base.NoLimit
structure Cx where
 prog:P3
 w:Qt
 K:Ex
 mg:IT->Option KB
 base:Heap
 A:Qu
 N:List IT
 s₀:KM
 H₀:Hp
 env:Q4
 outer:List Q4
 stack:List Q4
 ex:List KF
 fn:IT->Bool
 calm:Bool
 pn:List (KF × QJ)
 xe:KB->KM->Prop
abbrev zSE(X:Cx)(e:Qo)(es:List Qo):Prop:=Qv (e::es) X.env=(false,Qx e X.env)::Qv es X.env
abbrev zPL(X:Cx)(p:QC)(es:List Qo):Prop:=(Q0 p (Qv es X.env)).any (·.1)=false
abbrev zHF(X:Cx)(p:QC)(es:List Qo):Prop:=((Q0 p (Qv es X.env)).all (λx=>!x.1) && (Rj p (QX [] X.env)).all (λx=>x.1.isSome) && decide (es.length+([]:List Rk).length+(if([]:List Rk).isEmpty then 0 else 1)<30))=true
abbrev zFN(X:Cx)(x:IT):Prop:=X.fn x=true\/X.env.scope.names.lookup x=be .local
abbrev zND(x:IT):Prop:=(x==("__debug__":IT))=false
abbrev zNC(x:IT):Prop:=(x==("__classdict__":IT))=false
abbrev zFS(X:Cx)(e:Qo)(y:KB):Prop:=R7 e X.env y=pure y
def frs(l:List Q4):List KF:=l.filterMap (·.frame)
abbrev Cx.fs(X:Cx):List KF:=frs X.outer
def Vis(sc:QS)(x:IT):Prop:=sc.names.lookup x=be .local\/sc.names.lookup x=be .cell\/sc.names.lookup x=be .free
def Loc(sc:QS)(x:IT):Prop:=sc.names.lookup x=be .local\/sc.names.lookup x=be .cell
def Look(env:Q4)(h:Heap)(m:IT->Option KB)(x:IT)(u:KB):Prop:=
 (env.kindOf x=be .local/\m x=be u)\/((env.kindOf x=be .cell\/env.kindOf x=be .free)/\∃ c,env.cells.lookup x=be c/\h.IsCell c (be u))
structure Cx.Ok(X:Cx):Prop where
 mod:Mod X.K X.mg X.base
 kind:X.env.scope.kind= .function
 glob:X.env.globals=Pi
 blt:X.env.builtins=R4
 above:X.s₀.heap.objs.size<=X.env.locals
 inj:∀ x y c,X.env.cells.lookup x=be c->X.env.cells.lookup y=be c->x=y
 has:∀ x,(X.env.kindOf x=be .cell\/X.env.kindOf x=be .free)->∃ c,X.env.cells.lookup x=be c
 cab:∀ x c,X.fn x=true->X.env.cells.lookup x=be c->X.s₀.heap.objs.size<=c
 hd:X.calm=true->X.A.handled=z7
 frames:X.A.frames=be X.stack
 stk:X.stack=X.outer\/(X.stack=X.env::X.outer/\X.env.frame=be X.env.locals)
 exf:∀ b∈X.ex,b≠X.env.locals/\∀ x c,X.env.cells.lookup x=be c->c≠b
 bs:∀ b o,X.base.get? b=be o->X.s₀.heap.get? b=be o/\X.H₀ b=z7
 bsz:X.base.objs.size<=X.s₀.heap.objs.size
 noex:∀ b o,X.base.get? b=be o->b ∉ X.ex
 exfs:∀ b∈X.ex,b ∉ X.fs
 funs:X.s₀.heap.FunFrames X.base X.outer
 frf:∀ b∈X.fs,X.H₀ b=z7
structure Inv(X:Cx)(pins:List (KF × QJ))(σ:List (Option V))(H:Hp)(s:KM):Prop where
 ok:X.Ok
 os:s.os=X.s₀.os
 bare:Q7 s.gens
 base:Un X.fs X.ex X.H₀ H X.s₀.heap s.heap
 loc:∃ m,s.heap.Ns X.env.locals m/\∀ (i:Nat) (x:IT) (v:V),X.N[i]?=be x->σ[i]?=be (be v)->Vis X.env.scope x->∃ u,RelV v u/\Look X.env s.heap m x u
 cell:∀ x c,X.env.cells.lookup x=be c->∃ v,s.heap.IsCell c v
 free:H X.env.locals=z7
 freeC:∀ x c,X.env.cells.lookup x=be c->H c=z7
 pin:∀ p∈X.pn++pins,s.heap.get? p.1=be p.2/\H p.1=z7/\p.1≠X.env.locals/\p.1 ∉ X.fs/\∀ v,p.2.data≠.cell v
 hok:HOk X.prog X.w H s.heap
 len:σ.length=X.N.length
section
variable {X:Cx}{pins:List (KF × QJ)}{σ:List (Option V)}{H H':Hp}{s:KM}{h':Heap}
def Cx.Ok.nofr(ok:X.Ok){b:KF}{o:QJ}(e:X.base.get? b=be o):b ∉ X.fs:=λhb=>by
 have:=(ok.funs.mem hb).1;rw[e] at this;cases this
def Inv.bs(I:Inv X pins σ H s):∀ b o,X.base.get? b=be o->s.heap.get? b=be o/\H b=none:=λb o e=>
 ⟨I.base.keep b o (I.ok.bs b o e).1 (I.ok.bs b o e).2 (I.ok.nofr e) (I.ok.noex b o e),I.base.free b o (I.ok.bs b o e).1 (I.ok.bs b o e).2 (I.ok.noex b o e)⟩
def Inv.bk(I:Inv X pins σ H s):∀ b o,X.base.get? b=be o->s.heap.get? b=be o:=λb o e=>(I.bs b o e).1
def Inv.mod(I:Inv X pins σ H s):Mod X.K X.mg X.base:=I.ok.mod
def Inv.kIn(I:Inv X pins σ H s):X.K.In s.heap:=I.ok.mod.kin.keeps I.bk
def Inv.nolimit(I:Inv X pins σ H s):s.heap.NoLimit:=I.ok.mod.nolimit.keeps I.bk
def Inv.fr(I:Inv X pins σ H s):∃ m,Fr X.base X.env.locals s.heap m:=
 let ⟨m,hn,_⟩:=I.loc
 ⟨m,hn,I.bk,E1 I.ok.bsz I.ok.above⟩
def Inv.lt(I:Inv X pins σ H s):X.env.locals<s.heap.objs.size:=let ⟨_,hn,_⟩:=I.loc;hn.lt
def Inv.sz(I:Inv X pins σ H s):X.s₀.heap.objs.size<=s.heap.objs.size:=E1 I.ok.above (GA I.lt)
def Inv.nofs(I:Inv X pins σ H s){a:KF}(h:s.heap.objs.size<=a):a ∉ X.fs:=λhb=>by
 obtain⟨_,o,ho,_⟩:=I.ok.funs.mem hb;exact absurd (Fj (Heap.lt_size ho) (E1 I.sz h)) (FM _)
def Inv.cne(I:Inv X pins σ H s):∀ x c,X.env.cells.lookup x=be c->c≠X.env.locals:=λx c e z=>by
 obtain⟨v,o,ho,hd⟩:=I.cell x c e;obtain⟨m,⟨o',es,ep,u8,g8,_⟩,_⟩:=I.loc;rw[z,u8] at ho;cases ho;rw[g8] at hd;cases hd
def Inv.funs(I:Inv X pins σ H s):s.heap.FunFrames X.base X.outer:=by
 have all:∀ (l:List Q4),(∀ b∈frs l,b∈X.fs)->X.s₀.heap.FunFrames X.base l->s.heap.FunFrames X.base l:=by
  intro l;induction l with
  |nil=>intro _ _;trivial
  |cons env r ih=>
   intro hs hl;obtain⟨hk,⟨L,o,hf,hn,ho,hd⟩,hr⟩:=hl;have hL:L∈X.fs:=hs L (by unfold frs;rw[GB,hf];exact E2);obtain⟨sl,e⟩:=I.base.slot L o ho (I.ok.frf L hL) hL λz=>I.ok.exfs L z hL;exact⟨hk,⟨L,_,hf,hn,e,hd⟩,ih (λb hb=>hs b (by unfold frs;rw[GB,hf];exact EV _ hb)) hr⟩
 exact all X.outer (λ_ hb=>hb) I.ok.funs
def Inv.stack(I:Inv X pins σ H s):s.heap.FunFrames X.base X.stack:=by
 rcases I.ok.stk with e|⟨e,hf⟩
 .rw[e];exact I.funs
 .rw[e];obtain⟨m,hn,_⟩:=I.loc;refine .cons (by rw[I.ok.kind];decide) hf hn ?_ I.funs;exact Heap.get?_none_of_le (E1 I.ok.bsz I.ok.above)
def Inv.stkSub(I:Inv X pins σ H s):∀ b∈frs X.stack,b∈X.env.locals::X.fs:=λb hb=>by
 rcases I.ok.stk with e|⟨e,hf⟩
 .rw[e] at hb;exact EV _ hb
 .rw[e] at hb;unfold frs at hb;rw[GB,hf] at hb;exact hb
def Inv.stkFree(I:Inv X pins σ H s):∀ b∈frs X.stack,H b=none:=λb hb=>by
 rcases ER.mp (I.stkSub b hb) with e|hb
 .rw[e];exact I.free
 .obtain⟨_,o,ho,_⟩:=I.ok.funs.mem hb;exact I.base.free b o ho (I.ok.frf b hb) λz=>I.ok.exfs b z hb
variable{g':Array GenState}{t':Nat}{d':Drawn}{ch:List KF}
def Inv.step(I:Inv X pins σ H s)
  (y7:∀ b∈ch,(b∈X.ex\/X.s₀.heap.objs.size<=b)/\b≠X.env.locals/\(∀ x c,X.env.cells.lookup x=be c->c≠b)/\∀ p∈X.pn++pins,p.1≠b)
  (keep:∀ b o,b≠X.env.locals->b ∉ X.fs->b ∉ ch->s.heap.get? b=be o->H b=z7->h'.get? b=be o)
  (slot:∀ b o,b≠X.env.locals->b∈X.fs->b ∉ ch->s.heap.get? b=be o->H b=z7->∃ sl,h'.get? b=be {o with slots:=sl}) (free:∀ b o,b ∉ ch->s.heap.get? b=be o->H b=z7->H' b=z7)
  (there:∀ b o,b ∉ ch->s.heap.get? b=be o->∃ o',h'.get? b=be o')
  (tups:∀ b xs,H b=be (.tup xs)->H' b=be (.tup xs)) (frzs:∀ b o u,H b=be (.frz o u)->H' b=be (.frz o u)) (tbls:∀ b ps,H b=be (.tbl ps)->∃ more,H' b=be (.tbl (ps++more)))
  (ns:∀ m,s.heap.Ns X.env.locals m->h'.Ns X.env.locals m) (hok:HOk X.prog X.w H' h') (hg:Q7 g'):
  Inv X pins σ H' {s with heap:=h',gens:=g',drawn:=d',toks:=t'}:=by
 have Np:∀ b o,X.s₀.heap.get? b=be o->b≠X.env.locals:=λb o e=>EZ (Fj (Heap.lt_size e) I.ok.above);have K_:∀ b o,X.s₀.heap.get? b=be o->b ∉ X.ex->b ∉ ch:=λb o e hx hb=>by
  rcases(y7 b hb).1 with z|z
  .exact hx z
  .exact absurd (Fj (Heap.lt_size e) z) (FM _)
 have IQ:∀ x c,X.env.cells.lookup x=be c->∀ v,s.heap.IsCell c v->h'.IsCell c v:=λx c e v ⟨o,ho,hd⟩=>by
  have Kc:c ∉ ch:=λz=>(y7 c z).2.2.1 x c e rfl;by_cases hc:c∈X.fs
  .obtain⟨sl,q⟩:=slot c o (I.cne x c e) hc Kc ho (I.freeC x c e);exact⟨_,q,hd⟩
  .exact⟨o,keep c o (I.cne x c e) hc Kc ho (I.freeC x c e),hd⟩
 refine⟨I.ok,I.os,hg,⟨λb o e n hb hx=>?_,λb o e n hb hx=>?_,λb o e n hx=>?_,λb o e hx=>?_,λb xs e=>tups b xs (I.base.tups b xs e),λb o xs e=>frzs b o xs (I.base.frzs b o xs e),λb ps e=>?_⟩,?_,λx c e=>?_,?_,λx c e=>?_,λp hp=>?_,hok,I.len⟩
 .exact keep b o (Np b o e) hb (K_ b o e hx) (I.base.keep b o e n hb hx) (I.base.free b o e n hx)
 .obtain⟨sl,e1⟩:=I.base.slot b o e n hb hx;obtain⟨y_,e2⟩:=slot b _ (Np b o e) hb (K_ b o e hx) e1 (I.base.free b o e n hx);exact⟨y_,e2⟩
 .obtain⟨o',e1⟩:=I.base.there b o e hx;exact free b o' (K_ b o e hx) e1 (I.base.free b o e n hx)
 .obtain⟨o',e1⟩:=I.base.there b o e hx;exact there b o' (K_ b o e hx) e1
 .obtain⟨m1,e1⟩:=I.base.tbls b ps e;obtain⟨m2,e2⟩:=tbls b _ e1;exact⟨m1++m2,by rw[e2,Array.append_assoc]⟩
 .obtain⟨m,hn,hl⟩:=I.loc;refine⟨m,ns m hn,λi x v e1 e2 e3=>?_⟩;obtain⟨u,r,l⟩:=hl i x v e1 e2 e3;refine⟨u,r,?_⟩;rcases l with l|⟨k,c,e,z⟩
  .exact .inl l
  .exact .inr ⟨k,c,e,IQ x c e _ z⟩
 .obtain⟨v,z⟩:=I.cell x c e;exact⟨v,IQ x c e v z⟩
 .obtain⟨m,⟨o,_,_,ho,_⟩,_⟩:=I.loc;exact free _ o (λz=>(y7 _ z).2.1 rfl) ho I.free
 .obtain⟨v,o,ho,hd⟩:=I.cell x c e;exact free c o (λz=>(y7 c z).2.2.1 x c e rfl) ho (I.freeC x c e)
 .obtain⟨e,n,ne,nf,d⟩:=I.pin p hp;have Kc:p.1 ∉ ch:=λz=>(y7 p.1 z).2.2.2 p hp rfl;exact⟨keep p.1 p.2 ne nf Kc e n,free p.1 p.2 Kc e n,ne,nf,d⟩
def Inv.un(I:Inv X pins σ H s)(u:Un X.fs [] H H' s.heap h')(hok:HOk X.prog X.w H' h'):Inv X pins σ H' {s with heap:=h',toks:=t'}:=by
 obtain⟨m,⟨o,es,ep,ho,r⟩,_⟩:=id I.loc;obtain⟨sl,hL⟩:=u.any ho I.free (by simp);exact I.step (g':=s.gens) (d':=s.drawn) (ch:=[]) (λ_ z=>nomatch z) (λb o _ hb _ e n=>u.keep b o e n hb (by simp)) (λb o _ hb _ e n=>u.slot b o e n hb (by simp)) (λb o _ e n=>u.free b o e n (by simp)) (λb o _ e=>u.there b o e (by simp)) u.tups u.frzs u.tbls (λm' hm=>by
  obtain⟨o',Ly,Lz,u8,r'⟩:=hm;rw[ho] at u8;cases u8;exact⟨_,Ly,Lz,hL,r'⟩) hok I.bare
def Inv.call(I:Inv X pins σ H s)(u:Un (frs X.stack) ch H H' s.heap h')(hok:HOk X.prog X.w H' h')(hg:Q7 g')
  (y7:∀ b∈ch,(b∈X.ex\/X.s₀.heap.objs.size<=b)/\b≠X.env.locals/\(∀ x c,X.env.cells.lookup x=be c->c≠b)/\∀ p∈X.pn++pins,p.1≠b):
  Inv X pins σ H' {s with heap:=h',gens:=g',drawn:=d',toks:=t'}:=by
 obtain⟨m,⟨o,es,ep,ho,r⟩,_⟩:=id I.loc;obtain⟨sl,hL⟩:=u.any ho I.free λz=>(y7 _ z).2.1 rfl;exact I.step (ch:=ch) y7 (λb o hL hb hc e n=>u.keep b o e n (λz=>(ER.mp (I.stkSub b z)).elim hL hb) hc) (λb o _ _ hc e n=>u.any e n hc) (λb o hc e n=>u.free b o e n hc) (λb o hc e=>u.there b o e hc) u.tups u.frzs u.tbls (λm' hm=>by
  obtain⟨o',Ly,Lz,u8,r'⟩:=hm;rw[ho] at u8;cases u8;exact⟨_,Ly,Lz,hL,r'⟩) hok hg
def Inv.turned{it:KF}(I:Inv X pins σ H s)(k:∀ b o,b≠it->s.heap.get? b=be o->h'.get? b=be o)(hn:H it=z7)(hL:it≠X.env.locals)
  (h1:it∈X.ex\/X.s₀.heap.objs.size<=it) (h2:∀ x c,X.env.cells.lookup x=be c->c≠it) (h3:∀ p∈X.pn++pins,p.1≠it):Inv X pins σ H {s with heap:=h',toks:=t'}:=by
 have Jk:∀ b u,H b=be u->b≠it:=λb u e z=>by rw[z,hn] at e;cases e
 refine I.step (g':=s.gens) (d':=s.drawn) (ch:=[it]) (λb hb=>?_) (λb o _ _ hc e _=>k b o (λz=>hc (by simp[z])) e) (λb o _ _ hc e _=>⟨o.slots,k b o (λz=>hc (by simp[z])) e⟩) (λ_ _ _ _ n=>n)
  (λb o hc e=>⟨o,k b o (λz=>hc (by simp[z])) e⟩) (λ_ _ e=>e) (λ_ _ _ e=>e) (λb ps e=>⟨#[],by rw[e];simp⟩) (λm hm=>?_) (λb u e=>?_) I.bare
 .have e:b=it:=by simpa using hb
  subst e;exact⟨h1,hL,h2,h3⟩
 .obtain⟨o,es,ep,ho,r⟩:=hm;exact⟨o,es,ep,k _ o (Ne.symm hL) ho,r⟩
 .refine(I.hok b u e).stay (λc v hc q=>k c v ?_ q) (λ_ q=>q) λ_ _ q=>q;rcases hc with z|z
  .rw[z];exact Jk b u e
  .exact Jk c _ z
def Inv.tok(I:Inv X pins σ H s)(t:Nat):Inv X pins σ H {s with toks:=t}:=I.un (h':=s.heap) (t':=t) Un.refl I.hok
def Inv.kept(I:Inv X pins σ H s)(k:∀ b u,s.heap.get? b=be u->h'.get? b=be u):Inv X pins σ H {s with heap:=h',toks:=t'}:=I.un (Un.kept k) (I.hok.kept k)
def Inv.laid{a:KF}{o:HO}(I:Inv X pins σ H s)(k:∀ b u,s.heap.get? b=be u->h'.get? b=be u)(hp:s.heap.objs.size<=a)(new:ObjOk X.prog X.w (upd H a o) h' a o):
  Inv X pins σ (upd H a o) {s with heap:=h',toks:=t'}:=I.un (Un.laid k hp (I.hok.fresh hp)) (I.hok.laid k hp new)
def Inv.write{x e:KF}{o:HO}(I:Inv X pins σ H s)(mu:Mut (H x))(he:e=x\/H e=be (.own x))(k:∀ b u,b≠e->s.heap.get? b=be u->h'.get? b=be u)(x_:∃ u,h'.get? e=be u)
  (new:ObjOk X.prog X.w (upd H x o) h' x o):Inv X pins σ (upd H x o) {s with heap:=h',toks:=t'}:=I.un (Un.write mu he k x_) (I.hok.write mu he k x_ new)
def Inv.pins_of{IR:List (KF × QJ)}(I:Inv X pins σ H s)(h:∀ p∈IR,s.heap.get? p.1=be p.2/\H p.1=z7/\p.1≠X.env.locals/\p.1 ∉ X.fs/\∀ v,p.2.data≠.cell v):Inv X IR σ H s:=
 ⟨I.ok,I.os,I.bare,I.base,I.loc,I.cell,I.free,I.freeC,λp hp=>(Fk.mp hp).elim (λz=>I.pin p (GC _ z)) (h p),I.hok,I.len⟩
variable{x:IT}{i:Nat}
def oH{N:List IT}(hN:N.Nodup){j:Nat}(a:N[i]?=be x)(b:N[j]?=be x):i=j:=by
 obtain⟨h1,e1⟩:=E6.mp a;obtain⟨h2,e2⟩:=E6.mp b;exact(List.getElem_inj hN).mp (e1.trans e2.symm)
variable{E:KB->KM->Prop}{Q:Unit->KM->Prop}
def oI{M:Model}{A:Qu}{v:V}{u:KB}(I:Inv X pins σ H s)(hN:X.N.Nodup)(hi:X.N[i]?=be x)(hx:Loc X.env.scope x)(r:RelV v u)
  (h:∀ s',Inv X pins (σ.set i (be v)) H s'->(∃ a,Heap.SameBut a s.heap s'.heap/\(a=X.env.locals\/X.env.cells.lookup x=be a))->Q () s') (hf:autoParam (zFN X x) zA3):Qs M A (storeName X.env x u) Q E s:=by
 obtain⟨m,hn,hl⟩:=id I.loc;have LA:(X.env.scope.kind== .class||(X.env.scope.kind== .module && X.env.locals !=X.env.globals))=false:=by rw[I.ok.kind];rfl
 have hiσ:i<σ.length:=by rw[I.len];exact(E6.mp hi).1
 have cne:=I.cne;have k6:∀ {a:KF} {h':Heap},(∃ o,s.heap.get? a=be o/\H a=z7)->Heap.SameBut a s.heap h'->HOk X.prog X.w H h':=λ{a h'} ha hs b ob e=>by
  obtain⟨_,_,j8⟩:=ha;refine(I.hok b ob e).stay (λc w' hc q=>(hs.2 c ?_).trans q) (λ_ q=>q) λ_ _ q=>q;rintro rfl;rcases hc with rfl|hc
  .rw[j8] at e;cases e
  .rw[j8] at hc;cases hc
 rcases hx with hk|hk
 .refine wpAny_storeName_local hk hn (λh' l8 hs=>?_) LA;obtain⟨oL,_,_,Oi,_⟩:=id hn;refine h _ ⟨I.ok,I.os,I.bare,⟨λb o e n hb hx=>?_,λb o e n hb hx=>?_,I.base.free,λb o e hx=>?_,I.base.tups,I.base.frzs,I.base.tbls⟩,⟨_,l8,λj y v' e1 e2 e3=>?_⟩,λy c e=>?_,I.free,I.freeC,λp hp=>?_,k6 ⟨oL,Oi,I.free⟩ hs,by simpa using I.len⟩ ⟨_,hs,.inl rfl⟩
  .exact(hs.2 b (EZ (Fj (Heap.lt_size e) I.ok.above))).trans (I.base.keep b o e n hb hx)
  .obtain⟨sl,e1⟩:=I.base.slot b o e n hb hx;exact⟨sl,(hs.2 b (EZ (Fj (Heap.lt_size e) I.ok.above))).trans e1⟩
  .obtain⟨o',e1⟩:=I.base.there b o e hx;exact⟨o',(hs.2 b (EZ (Fj (Heap.lt_size e) I.ok.above))).trans e1⟩
  .by_cases hj:j=i
   .subst hj;rw[hi] at e1;cases e1;rw[FB hiσ] at e2;cases e2;exact⟨u,r,.inl ⟨hk,by simp⟩⟩
   .rw[E9 (Ne.symm hj)] at e2;obtain⟨u',r',q⟩:=hl j y v' e1 e2 e3;refine⟨u',r',?_⟩;rcases q with⟨k,e⟩|⟨k,c,e,z⟩
    .refine .inl ⟨k,?_⟩;have:y≠x:=λe=>hj (oH hN e1 (e ▸ hi));simp[this,e]
    .exact .inr ⟨k,c,e,z.sameBut hs (cne y c e)⟩
  .obtain⟨w',z⟩:=I.cell y c e;exact⟨w',z.sameBut hs (cne y c e)⟩
  .obtain⟨e,n,ne,nf,d⟩:=I.pin p hp;exact⟨(hs.2 p.1 ne).trans e,n,ne,nf,d⟩
 .have Kd:X.fn x=true:=by
   rcases hf with z|z
   .exact z
   .rw[z] at hk;cases hk
  obtain⟨c,hc⟩:=I.ok.has x (.inl hk);obtain⟨w',z⟩:=I.cell x c hc;refine wpAny_storeName_cell I.ok.kind hk hc z (λh' IS hs=>?_);obtain⟨oc,Nq,LB⟩:=id z;refine h {s with heap:=h'} ⟨I.ok,I.os,I.bare,⟨λb o e n hb hx=>?_,λb o e n hb hx=>?_,I.base.free,λb o e hx=>?_,I.base.tups,I.base.frzs,I.base.tbls⟩,⟨m,hn.sameBut hs (Ne.symm (cne x c hc)),λj y v' e1 e2 e3=>?_⟩,λy c' e=>?_,I.free,I.freeC,λp hp=>?_,k6 ⟨oc,Nq,I.freeC x c hc⟩ hs,by simpa using I.len⟩ ⟨c,hs,.inr hc⟩
  .exact(hs.2 b (EZ (Fj (Heap.lt_size e) (I.ok.cab x c Kd hc)))).trans (I.base.keep b o e n hb hx)
  .obtain⟨sl,e1⟩:=I.base.slot b o e n hb hx;exact⟨sl,(hs.2 b (EZ (Fj (Heap.lt_size e) (I.ok.cab x c Kd hc)))).trans e1⟩
  .obtain⟨o',e1⟩:=I.base.there b o e hx;exact⟨o',(hs.2 b (EZ (Fj (Heap.lt_size e) (I.ok.cab x c Kd hc)))).trans e1⟩
  .by_cases hj:j=i
   .subst hj;rw[hi] at e1;cases e1;rw[FB hiσ] at e2;cases e2;exact⟨u,r,.inr ⟨.inl hk,c,hc,IS⟩⟩
   .rw[E9 (Ne.symm hj)] at e2;obtain⟨u',r',q⟩:=hl j y v' e1 e2 e3;refine⟨u',r',?_⟩;rcases q with q|⟨k,c',e,z'⟩
    .exact .inl q
    .refine .inr ⟨k,c',e,z'.sameBut hs ?_⟩;rintro rfl;exact hj (oH hN e1 (I.ok.inj _ _ _ e hc ▸ hi))
  .by_cases Nr:c'=c
   .subst Nr;exact⟨_,IS⟩
   .obtain⟨w2,z2⟩:=I.cell y c' e;exact⟨w2,z2.sameBut hs Nr⟩
  .obtain⟨e,n,ne,nf,d⟩:=I.pin p hp;refine⟨(hs.2 p.1 ?_).trans e,n,ne,nf,d⟩;intro q;rw[q,Nq] at e;have q':oc=p.2:=Option.some.inj e;exact d w' (by rw[<- q'];exact LB)
def gc{M:Model}{A:Qu}{v:V}{u:KB}(I:Inv X pins σ H s)(hN:X.N.Nodup)(hi:X.N[i]?=be x)(hx:Loc X.env.scope x)(r:RelV v u)
  (h:∀ s',Inv X pins (σ.set i (be v)) H s'->Q () s') (hf:autoParam (zFN X x) zA3):Qs M A (storeName X.env x u) Q E s:=
 oI I hN hi hx r (λs' I' _=>h s' I') hf
def Inv.call'{s':KM}(I:Inv X pins σ H s)(ho:s'.os=s.os)(u:Un (frs X.stack) ch H H' s.heap s'.heap)(hok:HOk X.prog X.w H' s'.heap)(hg:Q7 s'.gens)
  (y7:∀ b∈ch,(b∈X.ex\/X.s₀.heap.objs.size<=b)/\b≠X.env.locals/\(∀ x c,X.env.cells.lookup x=be c->c≠b)/\∀ p∈X.pn++pins,p.1≠b):Inv X pins σ H' s':=by
 obtain⟨h',g',d',t',o'⟩:=s';have e:o'=s.os:=ho;subst e;exact I.call (g':=g') (t':=t') (d':=d') u hok hg y7
end
abbrev XK:=KB->Option KF->Hp->Prop
abbrev St:=List (Option V)
abbrev VK:=V->Hp->Prop
abbrev TE:=St->Hp->VK->Prop
abbrev TT:=St->Hp->(Bool->Hp->Prop)->Prop
abbrev TA:=St->Hp->(List V->Hp->Prop)->Prop
structure Ends where
 nx:St->Hp->Prop
 rt:VK
 bk:St->Hp->Prop:=λ_ _=>False
 ct:St->Hp->Prop:=λ_ _=>False
abbrev TS:=Ends->St->Hp->Prop
def EP(X:Cx)(pins:List (KF × QJ))(σ:St)(Q:VK)(u:KB)(s':KM):Prop:=∃ v H',Inv X pins σ H' s'/\RelV v u/\Q v H'
def TP(X:Cx)(pins:List (KF × QJ))(σ:St)(Q:Bool->Hp->Prop)(b:Bool)(s':KM):Prop:=∃ H',Inv X pins σ H' s'/\Q b H'
def AP(X:Cx)(pins:List (KF × QJ))(σ:St)(Q:List V->Hp->Prop)(us:List KB)(s':KM):Prop:=∃ vs H',Inv X pins σ H' s'/\Vals vs us/\Q vs H'
def SP(X:Cx)(pins:List (KF × QJ))(D:Ends)(f:Flow)(s':KM):Prop:=
 match f with
 | .next=>∃ σ' H',Inv X pins σ' H' s'/\D.nx σ' H'
 | .brk=>∃ σ' H',Inv X pins σ' H' s'/\D.bk σ' H'
 | .cont=>∃ σ' H',Inv X pins σ' H' s'/\D.ct σ' H'
 | .ret u=>∃ v σ' H',Inv X pins σ' H' s'/\RelV v u/\D.rt v H'
def PE(X:Cx)(e:Qo)(t:TE):Prop:=
 ∀ (pins:List (KF × QJ)) (s:KM) (σ:St) (H:Hp) (Q:VK),Inv X pins σ H s->t σ H Q->Qs (Qr X.prog X.w) X.A (Qx e X.env) (EP X pins σ Q) X.xe s
def PT(X:Cx)(e:Qo)(t:TT):Prop:=
 ∀ (pins:List (KF × QJ)) (s:KM) (σ:St) (H:Hp) (Q:Bool->Hp->Prop),Inv X pins σ H s->t σ H Q->Qs (Qr X.prog X.w) X.A (isTrue e X.env (Qx e X.env)) (TP X pins σ Q) X.xe s
def PW(X:Cx)(e:Qo)(t:TT):Prop:=
 ∀ (g_:RO KB) (pins:List (KF × QJ)) (s:KM) (σ:St) (H:Hp) (Q:Bool->Hp->Prop),Inv X pins σ H s->t σ H Q->Qs (Qr X.prog X.w) X.A (isTrue e X.env g_) (TP X pins σ Q) X.xe s
variable{X:Cx}
def PW.pt{e:Qo}{t:TT}(h:PW X e t):PT X e t:=h _
def PA(X:Cx)(es:List Qo)(t:TA):Prop:=
 ∀ (pos:QC) (pins:List (KF × QJ)) (s:KM) (σ:St) (H:Hp) (Q:List V->Hp->Prop),Inv X pins σ H s->t σ H Q->Qs (Qr X.prog X.w) X.A (spliced (Q0 pos (Qv es X.env))) (AP X pins σ Q) X.xe s
def PS(X:Cx)(st:Qq)(t:TS):Prop:=
 ∀ (pins:List (KF × QJ)) (s:KM) (σ:St) (H:Hp) (D:Ends),Inv X pins σ H s->t D σ H->Qs (Qr X.prog X.w) X.A (exec st X.env) (SP X pins D) X.xe s
def PSs(X:Cx)(st:List Qq)(t:TS):Prop:=
 ∀ (pins:List (KF × QJ)) (s:KM) (σ:St) (H:Hp) (D:Ends),Inv X pins σ H s->t D σ H->Qs (Qr X.prog X.w) X.A (execs st X.env) (SP X pins D) X.xe s
variable{A:Qu}{E:KB->KM->Prop}{s:KM}
def thn{α:Type}{t:RO α}{Q Q':α->KM->Prop}{M:Model}(h:Qs M A t Q E s)(hQ:∀ a s,Q a s->Q' a s):Qs M A t Q' E s:=QE h hQ λ_ _ x=>x
section
variable {X:Cx}
def tVar(i:Nat):TE:=λσ H Q=>∃ v,σ[i]?=be (be v)/\Q v H
def tC(v:V):TE:=λ_ H Q=>Q v H
variable{x:IT}{pos:QC}
def dB{i:Nat}(hN:X.N[i]?=be x)(hv:Vis X.env.scope x)(hd:autoParam (zND x) zA1)(g6:autoParam (zNC x) zA1):PE X (.Name x pos) (tVar i):=by
 intro pins s σ H Q I h;obtain⟨v,e,h⟩:=h;obtain⟨m,hn,hl⟩:=I.loc;obtain⟨u,r,l⟩:=hl i x v hN e hv;have f6:EP X pins σ Q u s:=⟨v,H,I,r,h⟩;rcases l with⟨hk,hm⟩|⟨hk,c,hc,m4⟩
 .exact RW (wpAny_loadName_local I.ok.kind hk hn hm f6) hd
 .rcases hk with hk|hk
  .exact RW (wpAny_loadName_cell I.ok.kind hk hc m4 f6) hd
  .exact RW (wpAny_loadName_free I.ok.kind hk hc m4 f6 g6) hd
def ul{i j pos}:PE X (.Constant (.int i) j pos) (tC (.int i)):=λ_ _ _ H _ I h=>wpAny_Constant_int ⟨.int i,H,I.tok _,⟨_,rfl⟩,h⟩
def um{b j pos}:PE X (.Constant (.bool b) j pos) (tC (.bl b)):=λ_ _ _ H _ I h=>Constant_bool ⟨.bl b,H,I,rfl,h⟩
def uo{j pos}:PE X (.Constant .none j pos) (tC .non):=λ_ _ _ H _ I h=>Constant_none ⟨.non,H,I,rfl,h⟩
def oJ{x j pos}:PE X (.Constant (.str x) j pos) (tC (.str x)):=λ_ _ _ H _ I h=>Calls.Constant_str ⟨.str x,H,I.tok _,⟨_,rfl⟩,h⟩
def Gl(X:Cx)(x:IT):Prop:=X.env.kindOf x=be .globalImplicit
variable{E Q:KB->KM->Prop}{pins:List (KF × QJ)}{u:KB}
def cN{s:KM}{σ:St}{H:Hp}(I:Inv X pins σ H s)(hg:Gl X x)(hm:X.mg x=be u)(h:Q u s)
  (hd:autoParam (zND x) zA1):Qs (Qr X.prog X.w) X.A (Qx (.Name x pos) X.env) Q E s:=
 Calls.Name_function_global I.ok.kind hg (Calls.loadGlobal_global (by rw[I.ok.glob];exact I.mod.glob.keeps I.bk) hm h) hd
def dD{s:KM}{σ:St}{H:Hp}(I:Inv X pins σ H s)(hg:Gl X x)(hm:X.mg x=z7)(hv:QH x=be u)(h:Q u s)
  (hn:autoParam (x≠"__name__") zA1) (hd:autoParam (zND x) zA1):Qs (Qr X.prog X.w) X.A (Qx (.Name x pos) X.env) Q E s:=by
 obtain⟨mb,h1,h2⟩:=I.mod.blt;exact Calls.Name_function_global I.ok.kind hg (Calls.loadGlobal_builtin (by rw[I.ok.glob];exact I.mod.glob.keeps I.bk) hm (by rw[I.ok.blt];exact h1.keeps I.bk) ((h2 x hn).trans hv) h) hd
def uq{v:V}(hg:Gl X x)(hm:X.mg x=be u)(r:RelV v u)(hd:autoParam (zND x) zA1):PE X (.Name x pos) (tC v):=
 λ_ _ _ H _ I h=>cN I hg hm ⟨v,H,I,r,h⟩ hd
def ut{v:V}(hg:Gl X x)(hm:X.mg x=z7)(hv:QH x=be u)(r:RelV v u)(hn:autoParam (x≠"__name__") zA1)(hd:autoParam (zND x) zA1):PE X (.Name x pos) (tC v):=
 λ_ _ _ H _ I h=>dD I hg hm hv ⟨v,H,I,r,h⟩ hn hd
variable {a b:Qo}{ta tb:TE}{pos:QC}
def tB(t:TE):TT:=λσ H Q=>t σ H λx H1=>∃ c,x= .bl c/\Q c H1
variable {tA z6:TT}{rest:List Qo}
def tAnd(t u:TT):TT:=λσ H Q=>t σ H λc H1=>if c=true then u σ H1 Q else Q false H1
def tOr(t u:TT):TT:=λσ H Q=>t σ H λc H1=>if c=true then Q true H1 else u σ H1 Q
def tNot(t:TT):TT:=λσ H Q=>t σ H λc H1=>Q (!c) H1
def oK(ha:PT X a tA):PW X (.BoolOp .And [a] pos) tA:=by
 intro wh pins s σ H Q I h;refine isTrue_and (thn (ha pins s σ H Q I h) λc s1 e=>?_);cases c with
 |true=>exact isTrue_and_nil e
 |false=>exact e
def oM(ha:PT X a tA):PW X (.BoolOp .Or [a] pos) tA:=by
 intro wh pins s σ H Q I h;refine isTrue_or (thn (ha pins s σ H Q I h) λc s1 e=>?_);cases c with
 |false=>exact isTrue_or_nil e
 |true=>exact e
def oN(ha:PT X a tA)(hb:PW X (.BoolOp .And (b::rest) pos) z6):PW X (.BoolOp .And (a::b::rest) pos) (tAnd tA z6):=by
 intro wh pins s σ H Q I h;refine isTrue_and (thn (ha pins s σ H _ I h) λc s1 c7=>?_);obtain⟨H1,I1,q1⟩:=c7;cases c with
 |true=>exact hb wh pins s1 σ H1 Q I1 q1
 |false=>exact⟨H1,I1,q1⟩
def oO(ha:PT X a tA)(hb:PW X (.BoolOp .Or (b::rest) pos) z6):PW X (.BoolOp .Or (a::b::rest) pos) (tOr tA z6):=by
 intro wh pins s σ H Q I h;refine isTrue_or (thn (ha pins s σ H _ I h) λc s1 c7=>?_);obtain⟨H1,I1,q1⟩:=c7;cases c with
 |true=>exact⟨H1,I1,q1⟩
 |false=>exact hb wh pins s1 σ H1 Q I1 q1
def uu(ha:PT X a tA):PT X (.UnaryOp .Not a pos) (tNot tA):=by
 intro pins s σ H Q I h;exact isTrue_not (ha pins s σ H (λc H1=>Q (!c) H1) I h)
def uv(ta tb:TE):TE:=λσ H Q=>ta σ H λx H1=>∃ c,x= .bl c/\if c=true then tb σ H1 Q else Q (.bl false) H1
def uw(ta:TE):TE:=λσ H Q=>ta σ H λx H1=>∃ c,x= .bl c/\Q (.bl (!c)) H1
def ux{op}{t:TE}(h:PE X a t):PE X (.BoolOp op [a] pos) t:=λpins s σ H Q I hw=>BoolOp_one (h pins s σ H Q I hw)
def uy(ha:PE X a ta)(hb:PE X (.BoolOp .And (b::rest) pos) tb):PE X (.BoolOp .And (a::b::rest) pos) (uv ta tb):=by
 intro pins s σ H Q I h;refine BoolOp_and (thn (ha pins s σ H _ I h) λv s1 c7=>?_);obtain⟨x,H1,I1,r1,q1⟩:=c7;obtain⟨c,rfl,q1⟩:=q1;cases r1;refine QM ?_;cases c with
 |true=>exact hb pins s1 σ H1 Q I1 q1
 |false=>exact⟨.bl false,H1,I1,rfl,q1⟩
def uz(ha:PE X a ta):PE X (.UnaryOp .Not a pos) (uw ta):=by
 intro pins s σ H Q I h;refine UnaryOp_ (thn (ha pins s σ H _ I h) λv s1 c7=>?_);obtain⟨x,H1,I1,r1,q1⟩:=c7;obtain⟨c,rfl,q1⟩:=q1;cases r1;exact not_of (QM ⟨.bl (!c),H1,I1,rfl,q1⟩)
def tIf(t:TT)(ta tb:TE):TE:=λσ H Q=>t σ H λc H1=>if c=true then ta σ H1 Q else tb σ H1 Q
def oP{c:Qo}(hc:PT X c tA)(ha:PE X a ta)(hb:PE X b tb):PE X (.IfExp c a b pos) (tIf tA ta tb):=by
 intro pins s σ H Q I h;refine wpAny_IfExp (thn (hc pins s σ H _ I h) λd s1 c7=>?_);obtain⟨H1,I1,q1⟩:=c7;cases d with
 |true=>exact ha pins s1 σ H1 Q I1 q1
 |false=>exact hb pins s1 σ H1 Q I1 q1
end
def SqL(K:Ex)(H:Hp)(a:KF)(xs:List V):Prop:=
 Rd H a (.lst xs)\/
  ∃ (o:QJ) (its:Array KB) (n:Nat),K.lookup a=be o/\o.cls= .type "list"/\o.dict=z7/\o.data= .seq its n/\its.size<=sizeLine/\Vals xs its.toList
def SqT(K:Ex)(H:Hp)(a:KF)(xs:List V):Prop:=
 Rd H a (.tup xs)\/
  ∃ (o:QJ) (its:Array KB) (n:Nat),K.lookup a=be o/\o.cls= .type "tuple"/\o.data= .seq its n/\its.size<=sizeLine/\Vals xs its.toList
def absV:KB->Option V
 | .none=>be .non
 | .bool b=>be (.bl b)
 | .int i _=>be (.int i)
 | .str x _=>be (.str x)
 | .bytes b _=>be (.byt b)
 | .float b _=>be (.flt b)
 | .ref a=>be (.ref a)
 | .type n=>be (.ty n)
 |_=>z7
variable{u:KB}
def RelV.abs{x:V}(r:RelV x u):absV u=be x:=by
 cases x with
 |non=>cases r;rfl
 |bl _=>cases r;rfl
 |int _=>obtain⟨t,rfl⟩:=r;rfl
 |str _=>obtain⟨t,rfl⟩:=r;rfl
 |byt _=>obtain⟨t,rfl⟩:=r;rfl
 |flt _=>obtain⟨t,rfl⟩:=r;rfl
 |ref _=>cases r;rfl
 |ty _=>cases r;rfl
def RelV.inj{x y:V}(r:RelV x u)(q:RelV y u):x=y:=Option.some.inj (r.abs.symm.trans q.abs)
def Vals.inj:∀ {xs ys:List V} {us:List KB},Vals xs us->Vals ys us->xs=ys:=by
 intro xs ys us h;induction h generalizing ys with
 |nil=>intro g;cases g;rfl
 |cons r _ e=>
  intro g;cases g with
  |cons r' t'=>rw[r.inj r',e t']
section
variable {X:Cx}{pins:List (KF × QJ)}{σ:St}{H:Hp}{s:KM}{a:KF}{xs ys:List V}
def SqL.of{K:Ex}(h:H a=be (.lst xs)):SqL K H a xs:= .inl (.inl h)
def SqT.of{K:Ex}(h:H a=be (.tup xs)):SqT K H a xs:= .inl (.inl h)
def Inv.list(I:Inv X pins σ H s)(h:SqL X.K H a xs):∃ its:List KB,Vals xs its/\PlainL s.heap a its.toArray/\xs.length<=sizeLine:=by
 rcases h with h|⟨o,its,n,hk,hc,hd,hs,hz,r⟩
 .obtain⟨z,its,n,r,e⟩:=h.ok I.hok;exact⟨its,r,⟨_,n,e,rfl,rfl,rfl⟩,z⟩
 .refine⟨its.toList,r,⟨o,n,I.kIn a o hk,hc,hd,by simpa using hs⟩,?_⟩;have e:=r.length;simp only[FN] at e;lia
def Inv.tuple(I:Inv X pins σ H s)(h:SqT X.K H a xs):∃ its:List KB,Vals xs its/\IsTup s.heap a its.toArray/\xs.length<=sizeLine:=by
 rcases h with h|⟨o,its,n,hk,hc,hs,hz,r⟩
 .obtain⟨z,its,r,p⟩:=h.ok I.hok;exact⟨its,r,p,z⟩
 .refine⟨its.toList,r,⟨o,I.kIn a o hk,hc,n,by simpa using hs⟩,?_⟩;have e:=r.length;simp only[FN] at e;lia
def Inv.list_inj(I:Inv X pins σ H s)(h:SqL X.K H a xs)(h':SqL X.K H a ys):xs=ys:=by
 obtain⟨its,r,⟨o,n,e,_,_,d⟩,_⟩:=I.list h;obtain⟨its',r',⟨o',n',e',_,_,d'⟩,_⟩:=I.list h';rw[e] at e';cases e';rw[d] at d';injection d' with d1 _;have:its=its':=by simpa using congrArg Ht d1
 subst this;exact r.inj r'
def Inv.tuple_inj(I:Inv X pins σ H s)(h:SqT X.K H a xs)(h':SqT X.K H a ys):xs=ys:=by
 obtain⟨its,r,⟨o,e,_,n,d⟩,_⟩:=I.tuple h;obtain⟨its',r',⟨o',e',_,n',d'⟩,_⟩:=I.tuple h';rw[e] at e';cases e';rw[d] at d';injection d' with d1 _;have:its=its':=by simpa using congrArg Ht d1
 subst this;exact r.inj r'
end
abbrev Cx.wish(X:Cx)(E:KB->KM->Prop):Cx:={X with xe:=E}
abbrev Cx.nox(X:Cx):Cx:=X.wish λ_ _=>False
def Cx.Ok.wish(ok:X.Ok)(E:KB->KM->Prop):(X.wish E).Ok:=
 ⟨ok.mod,ok.kind,ok.glob,ok.blt,ok.above,ok.inj,ok.has,ok.cab,ok.hd,ok.frames,ok.stk,ok.exf,ok.bs,ok.bsz,ok.noex,ok.exfs,ok.funs,ok.frf⟩
def Cx.Ok.unwish(ok:(X.wish E).Ok):X.Ok:=
 ⟨ok.mod,ok.kind,ok.glob,ok.blt,ok.above,ok.inj,ok.has,ok.cab,ok.hd,ok.frames,ok.stk,ok.exf,ok.bs,ok.bsz,ok.noex,ok.exfs,ok.funs,ok.frf⟩
section
variable {X:Cx}{pins:List (KF × QJ)}{σ:St}{H:Hp}{s:KM}{E:KB->KM->Prop}
def Inv.wish(I:Inv X pins σ H s)(E:KB->KM->Prop):Inv (X.wish E) pins σ H s:=⟨I.ok.wish E,I.os,I.bare,I.base,I.loc,I.cell,I.free,I.freeC,I.pin,I.hok,I.len⟩
def Inv.unwish(I:Inv (X.wish E) pins σ H s):Inv X pins σ H s:=⟨I.ok.unwish,I.os,I.bare,I.base,I.loc,I.cell,I.free,I.freeC,I.pin,I.hok,I.len⟩
def SP.unwish{D:Ends}{f:Flow}{s':KM}(h:SP (X.wish E) pins D f s'):SP X pins D f s':=by
 cases f with
 |next=>obtain⟨σ',H',I,q⟩:=h;exact⟨σ',H',I.unwish,q⟩
 |brk=>obtain⟨σ',H',I,q⟩:=h;exact⟨σ',H',I.unwish,q⟩
 |cont=>obtain⟨σ',H',I,q⟩:=h;exact⟨σ',H',I.unwish,q⟩
 |ret u=>obtain⟨v,σ',H',I,r,q⟩:=h;exact⟨v,σ',H',I.unwish,r,q⟩
def PE.nox{e:Qo}{t:TE}(h:PE X.nox e t):PE X e t:=λpins s σ H Q I hw=>
 QE (h pins s σ H Q (I.wish _) hw) (λ_ _ ⟨v,H',I',r,q⟩=>⟨v,H',I'.unwish,r,q⟩) λ_ _ z=>False.elim z
def PT.nox{e:Qo}{t:TT}(h:PT X.nox e t):PT X e t:=λpins s σ H Q I hw=>
 QE (h pins s σ H Q (I.wish _) hw) (λ_ _ ⟨H',I',q⟩=>⟨H',I'.unwish,q⟩) λ_ _ z=>False.elim z
def PSs.nox{st:List Qq}{t:TS}(h:PSs X.nox st t):PSs X st t:=λpins s σ H D I hw=>
 QE (h pins s σ H D (I.wish _) hw) (λ_ _ q=>q.unwish) λ_ _ z=>False.elim z
end
section
variable {X:Cx}{st:Qq}{rest:List Qq}{t u:TS}{e:Qo}{te:TE}{pos:QC}
def va:TS:=λD σ H=>D.nx σ H
def tSeq(t u:TS):TS:=λD σ H=>t {D with nx:=u D} σ H
def pss_nil:PSs X [] va:=λ_ _ σ H _ I h=>Rb ⟨σ,H,I,h⟩
def ft(h1:PS X st t)(h2:PSs X rest u):PSs X (st::rest) (tSeq t u):=by
 intro pins s σ H D I h;refine wpAny_execs_cons (thn (h1 pins s σ H {D with nx:=u D} I h) λf s1 q=>?_);cases f with
 |next=>
  obtain⟨σ',H',I',q⟩:=q;exact h2 pins s1 σ' H' D I' q
 |ret v=>exact q
 |brk=>exact q
 |cont=>exact q
def oQ(h1:PS X st t):PSs X [st] t:=by
 intro pins s σ H D I h;refine wpAny_execs_cons (thn (h1 pins s σ H D I h) λf s1 q=>?_);cases f with
 |next=>exact Rb q
 |ret v=>exact q
 |brk=>exact q
 |cont=>exact q
def Inv.quiet{pins:List (KF × QJ)}{σ:St}{H:Hp}{s:KM}(I:Inv X pins σ H s):interactive X.env=false:=by simp[interactive,I.ok.kind]
def vb(te:TE):TS:=λD σ H=>te σ H λ_ H1=>D.nx σ H1
def jq(he:PE X e te)(hs:autoParam (QF e z7 pos.line X.env=pure false) zA0):PS X (.Expr e pos) (vb te):=by
 intro pins s σ H D I h;exact wpAny_Expr_any (thn (he pins s σ H _ I h) λv s1 ⟨x,H1,I1,r1,q1⟩=>⟨σ,H1,I1,q1⟩) I.quiet hs
def tRet(te:TE):TS:=λD σ H=>te σ H D.rt
def oR(he:PE X e te):PS X (.Return (be e) pos) (tRet te):=by
 intro pins s σ H D I h;exact wpAny_Return_some (thn (he pins s σ H _ I h) λv s1 ⟨x,H1,I1,r1,q1⟩=>⟨x,σ,H1,I1,r1,q1⟩)
def tIfS(c:TT)(t u:TS):TS:=λD σ H=>c σ H λb H1=>if b=true then t D σ H1 else u D σ H1
def oU{c:Qo}{a b:List Qq}{tc:TT}(hc:PT X c tc)(ha:PSs X a t)(hb:PSs X b u):PS X (.If c a b pos) (tIfS tc t u):=by
 intro pins s σ H D I h;refine wpAny_If (thn (hc pins s σ H _ I h) λd s1 c7=>?_);obtain⟨H1,I1,q1⟩:=c7;cases d with
 |true=>exact ha pins s1 σ H1 D I1 q1
 |false=>exact hb pins s1 σ H1 D I1 q1
end
abbrev TG:=V->St->Hp->(St->Hp->Prop)->Prop
abbrev TGs:=List V->St->Hp->(St->Hp->Prop)->Prop
def PG(X:Cx)(gV:Qo)(t:TG):Prop:=
 ∀ (pins:List (KF × QJ)) (s:KM) (σ:St) (H:Hp) (v:V) (u:KB) (Q:St->Hp->Prop),Inv X pins σ H s->RelV v u->t v σ H Q->
  Qs (Qr X.prog X.w) X.A (Q3 gV X.env u) (λ_ s'=>∃ σ' H',Inv X pins σ' H' s'/\Q σ' H') X.xe s
def PGs(X:Cx)(ts:List Qo)(t:TGs):Prop:=
 ∀ (pins:List (KF × QJ)) (s:KM) (σ:St) (H:Hp) (vs:List V) (us:List KB) (Q:St->Hp->Prop),Inv X pins σ H s->Vals vs us->t vs σ H Q->
  Qs (Qr X.prog X.w) X.A (assignInOrder ((Qw ts X.env).map (·.2)) us) (λ_ s'=>∃ σ' H',Inv X pins σ' H' s'/\Q σ' H') X.xe s
abbrev TSet:=V->V->V->Hp->(Hp->Prop)->Prop
def PSet(X:Cx)(t:TSet):Prop:=
 ∀ (pins:List (KF × QJ)) (s:KM) (σ:St) (H:Hp) (o i v:V) (ov iv u:KB) (Q:Hp->Prop),Inv X pins σ H s->RelV o ov->RelV i iv->RelV v u->t o i v H Q->
  Qs (Qr X.prog X.w) X.A (setItem ov iv u) (λ_ s'=>∃ H',Inv X pins σ H' s'/\Q H') X.xe s
section
variable {X:Cx}{pos:QC}
def fu(i:Nat):TG:=λv σ H Q=>Q (σ.set i (be v)) H
def gd{i:Nat}{x:IT}(hN:X.N.Nodup)(hi:X.N[i]?=be x)(hx:Loc X.env.scope x)(hf:autoParam (zFN X x) zA3):PG X (.Name x pos) (fu i):=by
 intro pins s σ H v u Q I r h;exact Q6 (gc I hN hi hx r (λs' I'=>⟨_,H,I',h⟩) hf)
def gNil:TGs:=λvs σ H Q=>vs=[]/\Q σ H
def vc(t:TG)(u:TGs):TGs:=λvs σ H Q=>∃ v r,vs=v::r/\t v σ H λσ' H'=>u r σ' H' Q
def vd:PGs X [] gNil:=by
 intro pins s σ H vs us Q I r h;obtain⟨e,h⟩:=h;subst e;cases r;exact assignInOrder_nil ⟨σ,H,I,h⟩
variable{e:Qo}{es:List Qo}
def ve{t:TG}{u:TGs}(h1:PG X e t)(h2:PGs X es u)
  (hs:autoParam ((Qw (e::es) X.env).map (·.2)=Q3 e X.env::(Qw es X.env).map (·.2)) zA0):PGs X (e::es) (vc t u):=by
 intro pins s σ H vs us Q I r h;obtain⟨v,vr,e1,h⟩:=h;subst e1;cases r with
 |cons r rr=>
  rw[hs];refine assignInOrder_cons (thn (h1 pins s σ H _ _ _ I r h) λ_ s1 c7=>?_);obtain⟨σ1,H1,I1,q1⟩:=c7;exact h2 pins s1 σ1 H1 _ _ Q I1 rr q1
def gTup(K:Ex)(n:Nat)(t:TGs):TG:=λv σ H Q=>∃ a xs,v= .ref a/\SqT K H a xs/\xs.length=n/\t xs σ H Q
def gf{k:Nat}{t:TGs}{n:Nat}(hc:X.calm=true)(h:PGs X es t)
  (hn:autoParam ((Qw es X.env).length=n) zA0) (n6:autoParam ((Qw es X.env).findIdx? (·.1)=none) zA0):PG X (.Tuple es k pos) (gTup X.K n t):=by
 intro pins s σ H v u Q I r hw;obtain⟨a,xs,e1,hq,hl,hw⟩:=hw;subst e1;cases r;obtain⟨its,rv,ht,hz⟩:=I.tuple hq;refine assign_Tuple_tuple (I.ok.hd hc) ht (by simp[hn,<- hl,rv.length]) n6 λh' hx=>?_;have I1:Inv X pins σ H {s with heap:=h'}:=I.kept (t':=s.toks) λb o e=>hx b o (EZ (Heap.lt_size e)) e;exact h pins _ σ H xs _ Q I1 (by simpa using rv) hw
def gSub(to ti:TE)(t:TSet):TG:=λv σ H Q=>to σ H λo H1=>ti σ H1 λi H2=>t o i v H2 λH3=>Q σ H3
def vf{o i:Qo}{to ti:TE}{t:TSet}(ho:PE X o to)(hi:PE X i ti)(hs:PSet X t)
  (ha:∀ v,Q3 (.Subscript o i pos) X.env v=(do
   let ov <- Q1 [v] (Qx o X.env)
   let iv <- Q1 [v,ov] (Qx i X.env)
   Q_ pos
   Q1 [v,ov,iv] (setItem ov iv v)
   release [v,ov,iv] []):=by intro _;rfl):PG X (.Subscript o i pos) (gSub to ti t):=by
 intro pins s σ H v u Q I r h;rw[ha];refine Os (QR (thn (ho pins s σ H _ I h) λov s1 c7=>?_));obtain⟨x,H1,I1,r1,q1⟩:=c7;refine Os (QR (thn (hi pins s1 σ H1 _ I1 q1) λiv s2 c7=>?_));obtain⟨y,H2,I2,r2,q2⟩:=c7;refine Os (QU (Os (QR (thn (hs pins s2 σ H2 x y v ov iv u _ I2 r1 r2 r q2) λ_ s3 c7=>?_))));obtain⟨H3,I3,q3⟩:=c7;exact wpAny_release ⟨σ,H3,I3,q3⟩
def tAsg(te:TE)(g:TG):TS:=λD σ H=>te σ H λx H1=>g x σ H1 D.nx
def oV{tg:Qo}{te:TE}{g:TG}(he:PE X e te)(hg:PG X tg g)(hs:autoParam (RB [tg] e pos.line X.env=pure false) zA0)(hw:autoParam (RC [tg] e X.env=pure none) zA0)
  (h1:autoParam ((Qw [tg] X.env).map (·.2)=[Q3 tg X.env]) zA0):PS X (.Assign [tg] e pos) (tAsg te g):=by
 intro pins s σ H D I h;refine wpAny_Assign_stores (thn (he pins s σ H _ I h) λv s1 hh=>?_) hs hw;obtain⟨x,H1,I1,r1,q1⟩:=hh;rw[h1];exact thn (hg pins s1 σ H1 x v _ I1 r1 q1) λ_ s2 q=>q
def jr{i:Nat}{x:IT}{te:TE}{d6:QC}(hN:X.N.Nodup)(hi:X.N[i]?=be x)(hx:Loc X.env.scope x)(he:PE X e te)(hs:autoParam (QF e (be (.Name x d6)) pos.line X.env=pure false) zA0)(hf:autoParam (zFN X x) zA3):
  PS X (.Assign [.Name x d6] e pos) (tAsg te (fu i)):=by
 intro pins s σ H D I h;refine wpAny_Assign_Name (thn (he pins s σ H _ I h) λv s1 hh=>?_) hs;obtain⟨y,H1,I1,r1,q1⟩:=hh;exact gc I1 hN hi hx r1 (λs2 I2=>⟨_,H1,I2,q1⟩) hf
def vg(c:TT)(tb:TS):TS:=λD σ H=>∃ W:Nat->St->Hp->Prop,(∃ m,W m σ H)/\∀ m σ H,W m σ H->
 c σ H λb H1=>if b=true then ∃ N:St->Hp->Prop,(∀ σ' H',N σ' H'->∃ m',m'<m/\W m' σ' H')/\tb {D with nx:=N,ct:=N,bk:=D.nx} σ H1 else D.nx σ H1
def oW{c:Qo}{body:List Qq}{tc:TT}{tb:TS}(hp:QQ (Qr X.prog X.w) X.A X.env X.xe)(hc:PT X c tc)(hb:PSs X body tb):PS X (.While c body [] pos) (vg tc tb):=by
 intro pins s σ H D I h;obtain⟨W,⟨m0,w0⟩,d5⟩:=h;refine wpAny_While (codeAny_whileLoop (λn s'=>∃ σ' H',Inv X pins σ' H' s'/\W n σ' H') ?_ m0 ⟨σ,H,I,w0⟩);rintro n s1 ⟨σ1,H1,I1,w1⟩;refine QK hp (thn (hc pins s1 σ1 H1 _ I1 (d5 n σ1 H1 w1)) λb s2 c7=>?_);obtain⟨H2,I2,q2⟩:=c7;cases b with
 |true=>
  obtain⟨N,hN,q2⟩:=q2;rw[if_pos rfl];refine QK hp (thn (hb pins s2 σ1 H2 _ I2 q2) λf s3 q3=>?_);cases f with
  |next=>
   obtain⟨σ3,H3,I3,n3⟩:=q3;obtain⟨m',hm,w3⟩:=hN σ3 H3 n3;exact⟨m',hm,σ3,H3,I3,w3⟩
  |cont=>
   obtain⟨σ3,H3,I3,n3⟩:=q3;obtain⟨m',hm,w3⟩:=hN σ3 H3 n3;exact⟨m',hm,σ3,H3,I3,w3⟩
  |brk=>exact q3
  |ret v=>exact q3
 |false=>
  rw[if_neg ET];exact Rb ⟨σ1,H2,I2,q2⟩
end
structure It where
 go:Nat->Hp->Prop
 yld:Nat->Hp->V->Hp->Prop
 stop:Nat->Hp->Prop
def FpOk(X:Cx)(pins:List (KF × QJ))(H:Hp)(b:KF):Prop:=
 H b=z7/\b≠X.env.locals/\b ∉ X.fs/\(b∈X.ex\/X.s₀.heap.objs.size<=b)/\(∀ x c,X.env.cells.lookup x=be c->c≠b)/\∀ p∈X.pn++pins,p.1≠b
def Inv.fpOk{pins:List (KF × QJ)}{σ:St}{H':Hp}(I:Inv X pins σ H s)(hb:s.heap.objs.size<=b)(hn:H' b=z7):FpOk X pins H' b:=by
 refine⟨hn,FO (Fj I.lt hb),I.nofs hb,.inr (E1 I.sz hb),λx c e z=>?_,λp hp z=>?_⟩
 .obtain⟨v,q⟩:=I.cell x c e;exact absurd (Fj q.lt (by rw[z];exact hb)) (FM _)
 .exact absurd (Fj (Heap.lt_size (I.pin p hp).1) (by rw[z];exact hb)) (FM _)
structure Turn(P:P3)(w:Qt)(K:Ex)(tg:Qo)(J:It)(fp:List KF)(it:KF)(tn:Nat->Heap->Prop):Prop where
 mem:it∈fp
 obj:∀ i h,tn i h->∀ b∈fp,∃ o,h.get? b=be o/\∀ v,o.data≠.cell v
 keep:∀ i h h',tn i h->(∀ b∈fp,∀ o,h.get? b=be o->h'.get? b=be o)->tn i h'
 item:∀ (X:Cx),X.prog=P->X.w=w->X.K=K->X.calm=true->∀ (i:Nat) (pins:List (KF × QJ)) (s:KM) (σ:St) (H:Hp) (E:KB->KM->Prop),Inv X pins σ H s->(∀ b∈fp,FpOk X pins H b)->tn i s.heap->J.go i H->
  Qs (Qr P w) X.A (pyNext (.ref it)) (λr s1=>∃ u,r=be u/\
   Qs (Qr P w) X.A (Rf tg (.ref it) u) (λ_ s2=>∃ x H',Inv X pins σ H' s2/\RelV x u/\J.yld i H x H'/\tn (i+1) s2.heap/\∀ b∈fp,H' b=z7) E s1) E s
 done:∀ (X:Cx),X.prog=P->X.w=w->X.K=K->X.calm=true->∀ (i:Nat) (pins:List (KF × QJ)) (s:KM) (σ:St) (H:Hp) (E:KB->KM->Prop),Inv X pins σ H s->(∀ b∈fp,FpOk X pins H b)->tn i s.heap->J.stop i H->
  Qs (Qr P w) X.A (pyNext (.ref it)) (λr s1=>r=z7/\Inv X pins σ H s1) E s
 self:∀ (A:Qu) (i:Nat) (s:KM) (Q:KB->KM->Prop) (E:KB->KM->Prop),tn i s.heap->Q (.ref it) s->Qs (Qr P w) A (pyIter (.ref it)) Q E s
abbrev TI:=St->Hp->(It->Hp->Prop)->Prop
def PIE(X:Cx)(pins:List (KF × QJ))(σ:St)(tg:Qo)(R:It->Hp->Prop)(La:KB)(s2:KM):Prop:=
 ∃ (it:KF) (fp:List KF) (tn:Nat->Heap->Prop) (J:It) (H':Hp),La= .ref it/\Inv X pins σ H' s2/\Turn X.prog X.w X.K tg J fp it tn/\tn 0 s2.heap/\(∀ b∈fp,FpOk X pins H' b)/\R J H'
def PI(X:Cx)(tg iter:Qo)(wi:TI):Prop:=
 ∀ (pins:List (KF × QJ)) (s:KM) (σ:St) (H:Hp) (R:It->Hp->Prop),Inv X pins σ H s->wi σ H R->
  Qs (Qr X.prog X.w) X.A (Qx iter X.env) (λv s1=>Qs (Qr X.prog X.w) X.A (pyIter v) (PIE X pins σ tg R) X.xe s1) X.xe s
variable{tg:Qo}
def jt{M:Model}{it:KF}{o:QJ}{n:String}{vs:Array KB}{Q:Unit->KM->Prop}(ho:s.heap.get? it=be o)(hc:o.cls= .type n)(hd:o.data= .fields vs)
    (hn:["enumerate","zip","dict_itemiterator","dict_reverseitemiterator","odict_iterator","itertools.zip_longest","itertools.pairwise"].contains n=false) (hQ:Q () s):Qs M A (Rf tg (.ref it) u) Q E s:=by
  unfold Rf;cases tg<;>first
    |exact Qp hQ
    |(cases u<;>first
        |exact Qp hQ
        | (refine Os (wpAny_load ho ?_)
           rw[hc,hd];show Qs M A (if(["enumerate","zip","dict_itemiterator","dict_reverseitemiterator","odict_iterator","itertools.zip_longest","itertools.pairwise"].contains n && vs[0]?==be (Ri _))=true then _ else _) Q E s;rw[if_neg (by intro h;rw[hn,Bool.false_and] at h;cases h)];exact Qp hQ))
def Itl(K:Ex)(a:KF):It:=
 ⟨λi H=>∃ xs x,SqL K H a xs/\xs[i]?=be x,λi H x H'=>H'=H/\∀ xs,SqL K H a xs->xs[i]?=be x,λi H=>∃ xs,SqL K H a xs/\xs.length<=i⟩
def Itr(lo:Int)(n:Nat):It:=⟨λi _=>i<n,λi H x H'=>H'=H/\x= .int (lo+i),λi _=>n<=i⟩
variable{K:Ex}
def vh(a it:KF):Turn P w K tg (Itl K a) [it] it (λi h=>h.IsListIter it a i) where
 mem:=by simp
 obj:=λi h st b hb=>by
  have e:b=it:=by simpa using hb
  subst e;obtain⟨o,e,c,d⟩:=st;exact⟨o,e,λv z=>by rw[d] at z;cases z⟩
 keep:=λi h h' st k=>st.at λo e=>k it (by simp) o e
 item:=by
  intro X hP hw hK hc i pins s σ H E I hf st hg;subst hP hw hK;obtain⟨xs,x,hq,hx⟩:=hg;obtain⟨its,rv,p,hz⟩:=I.list hq;obtain⟨u,hu,ru⟩:=rv.get hx;obtain⟨f0,f1,f2,f3,f4,f5⟩:=hf it (by simp);refine wpAny_pyNext_list_item st p.isList (x:=u) (by simpa using hu) λh' st' sb=>?_;have I1:Inv X pins σ H {s with heap:=h'}:=I.turned (t':=s.toks) (λb o hb e=>(sb.2 b hb).trans e) f0 f1 f3 f4 f5;obtain⟨o,e,c,d⟩:=id st';exact⟨u,rfl,jt (s:={s with heap:=h'}) e c d (by decide) ⟨x,H,I1,ru,⟨rfl,λys hy=>by rw[I.list_inj hy hq];exact hx⟩,st',λb hb=>(hf b hb).1⟩⟩
 done:=by
  intro X hP hw hK hc i pins s σ H E I hf st hg;subst hP hw hK;obtain⟨xs,hq,hx⟩:=hg;obtain⟨its,rv,p,hz⟩:=I.list hq;obtain⟨f0,f1,f2,f3,f4,f5⟩:=hf it (by simp);have hl:=rv.length;exact wpAny_pyNext_list_end (I.ok.hd hc) st p.isList (by simp;lia) λh' eb=>⟨rfl,I.turned (t':=s.toks) (λb o hb e=>eb b o hb e) f0 f1 f3 f4 f5⟩
 self:=λ_ _ _ _ _ st h=>wpAny_pyIter_listiter st h
def vi(it:KF)(lo:Int)(n:Nat):Turn P w K tg (Itr lo n) [it] it (λi h=>IsRangeIter h it (lo+(i:Nat)*1) ((n:Int) - (i:Nat)) 1) where
 mem:=by simp
 obj:=λi h st b hb=>by
  have e:b=it:=by simpa using hb
  subst e;exact⟨_,st,λv z=>by
   have z':Data.fields _=Data.cell v:=z;cases z'⟩
 keep:=λi h h' st k=>k it (by simp) _ st
 item:=by
  intro X hP hw hK hc i pins s σ H E I hf st hg;subst hP hw hK;obtain⟨f0,f1,f2,f3,f4,f5⟩:=hf it (by simp);have W:=Walks.range (prog:=X.prog) (w:=X.w) (I.ok.hd hc) it lo 1 n;refine W.item i s _ _ hg st λv h' tk hv st' kk=>?_;obtain⟨t,rfl⟩:=hv;have I1:Inv X pins σ H {s with heap:=h',toks:=tk}:=I.turned (λb o hb e=>kk b o (by simpa using hb) e) f0 f1 f3 f4 f5;refine⟨_,rfl,jt (s:={s with heap:=h',toks:=tk}) (n:="range_iterator") st' rfl rfl (by decide) ⟨.int (lo+i),H,I1,⟨t,?_⟩,⟨rfl,rfl⟩,st',λb hb=>(hf b hb).1⟩⟩;rw[GV]
 done:=by
  intro X hP hw hK hc i pins s σ H E I hf st hg;subst hP hw hK;obtain⟨f0,f1,f2,f3,f4,f5⟩:=hf it (by simp);exact wpAny_pyNext_range_end (I.ok.hd hc) st (by have:n<=i:=hg;lia) λh' eb=>⟨rfl,I.turned (t':=s.toks) (λb o hb e=>eb b o hb e) f0 f1 f3 f4 f5⟩
 self:=λ_ _ _ _ _ st h=>wpAny_pyIter_rangeiter st h
section
variable {X:Cx}{tg:Qo}
def oX(K:Ex)(tl:TE):TI:=λσ H R=>tl σ H λx H1=>∃ a,x= .ref a/\(∃ xs,SqL K H1 a xs)/\R (Itl K a) H1
def vj{l:Qo}{tl:TE}(hl:PE X l tl):PI X tg l (oX X.K tl):=by
 intro pins s σ H R I h;refine thn (hl pins s σ H _ I h) λv s1 c7=>?_;obtain⟨x,H1,I1,r1,q1⟩:=c7;obtain⟨a,e,⟨xs,hq⟩,q⟩:=q1;subst e;cases r1;obtain⟨its,rv,p,hz⟩:=I1.list hq;refine wpAny_pyIter_list p.isList ?_;refine⟨s1.heap.objs.size,[s1.heap.objs.size],_,_,H1,rfl,I1.kept (t':=s1.toks) λb o e=>Heap.get?_push_of_some _ e,vh a _,⟨_,Heap.get?_push_size _ rfl,rfl,rfl⟩,λb hb=>?_,q⟩;have e:b=s1.heap.objs.size:=by simpa using hb
 subst e;exact I1.fpOk (EK _) (I1.hok.fresh (EK _))
variable{pins:List (KF × QJ)}{σ:St}{H:Hp}{s:KM}
def oY{R:It->Hp->Prop}{E:KB->KM->Prop}{lo hi:Int}{t u v:Tok}{tk:Nat}(I:Inv X pins σ H s)(h1: -(2 ^ 62)<=lo)(h2:lo<2 ^ 62)(h3: -(2 ^ 62)<=hi)(h4:hi<2 ^ 62)
  (q:R (Itr lo (hi - lo).toNat) H):Qs (Qr X.prog X.w) X.A (pyIter (.ref s.heap.objs.size)) (PIE X pins σ tg R) E {s with heap:=s.heap.push {cls:= .type "range",data:= .fields #[.int lo t,.int hi u,.int 1 v]},toks:=tk}:=by
 refine wpAny_pyIter_range (IsRange.new ..) (small_one h1 h2 h3 h4) ?_;have I1:Inv X pins σ H {s with heap:=s.heap.push {cls:= .type "range",data:= .fields #[.int lo t,.int hi u,.int 1 v]},toks:=tk}:=I.kept λb o e=>Heap.get?_push_of_some _ e;refine⟨(s.heap.push {cls:= .type "range",data:= .fields #[.int lo t,.int hi u,.int 1 v]}).objs.size,[(s.heap.push {cls:= .type "range",data:= .fields #[.int lo t,.int hi u,.int 1 v]}).objs.size],_,_,H,rfl,
  I1.kept (t':=tk) λb o e=>Heap.get?_push_of_some _ e,vi _ lo (hi - lo).toNat,?_,λb hb=>?_,q⟩
 .have e1:lo+((0:Nat):Int)*1=lo:=by simp
  have e2:(((hi - lo).toNat:Nat):Int) - ((0:Nat):Int)=Builtin.Range.rangeSize lo hi 1:=by rw[rangeSize_one];split<;>lia
  show IsRangeIter _ _ (lo+((0:Nat):Int)*1) ((((hi - lo).toNat:Nat):Int) - ((0:Nat):Int)) 1;rw[e1,e2];exact Heap.get?_push_size _ rfl
 .have e:b=(s.heap.push {cls:= .type "range",data:= .fields #[.int lo t,.int hi u,.int 1 v]}).objs.size:=by simpa using hb
  subst e;exact I1.fpOk (EK _) (I1.hok.fresh (EK _))
def oZ(ta:TA):TI:=λσ H R=>ta σ H λvs H1=>∃ j:Int,vs=[.int j]/\-(2 ^ 62)<=j/\j<2 ^ 62/\R (Itr 0 j.toNat) H1
def pb(ta:TA):TI:=λσ H R=>ta σ H λvs H1=>∃ i j:Int,vs=[.int i,.int j]/\(-(2 ^ 62)<=i/\i<2 ^ 62/\-(2 ^ 62)<=j/\j<2 ^ 62)/\R (Itr i (j - i).toNat) H1
variable{pos:QC}
def fv{a:Qo}{ta:TA}{p:QC}(hg:Gl X "range")(hm:X.mg "range"=z7)(ha:PA X [a] ta)(hs:autoParam (Qv [a] X.env=[(false,Qx a X.env)]) zA0):PI X tg (.Call (.Name "range" p) [a] [] pos) (oZ ta):=by
 intro pins s σ H R I h;refine Call_ (dD I hg hm boot_range (PyProof.Rows.callWith_type1 (thn (ha pos pins s σ H _ I h) λus s1 hh=>?_) hs rfl));obtain⟨vs,H1,I1,r1,q1⟩:=hh;obtain⟨j,e,q1,q2,q⟩:=q1;subst e;cases r1 with
 |cons r rr=>
  cases rr;obtain⟨t,rfl⟩:=r;exact call_range_1 (oY I1 (by lia) (by lia) q1 q2 (by simpa using q))
def pd{a b:Qo}{ta:TA}{p:QC}(hg:Gl X "range")(hm:X.mg "range"=z7)(ha:PA X [a,b] ta)(hs:autoParam (Qv [a,b] X.env=[(false,Qx a X.env),(false,Qx b X.env)]) zA0)(n8:autoParam (Qv [b] X.env=[(false,Qx b X.env)]) zA0):
  PI X tg (.Call (.Name "range" p) [a,b] [] pos) (pb ta):=by
 intro pins s σ H R I h;refine Call_ (dD I hg hm boot_range (PyProof.Rows.callWith_type1 (thn (ha pos pins s σ H _ I h) λus s1 hh=>?_) (by rw[hs,n8]) (by rw[n8];rfl)));obtain⟨vs,H1,I1,r1,q1⟩:=hh;obtain⟨i,j,e,⟨q1,q2,q3,q4⟩,q⟩:=q1;subst e;cases r1 with
 |cons r rr=>
  cases rr with
  |cons r' rr=>
   cases rr;obtain⟨t,rfl⟩:=r;obtain⟨t',rfl⟩:=r';exact call_range_2 (oY I1 q1 q2 q3 q4 q)
def tFor(wi:TI)(g:TG)(tb:TS):TS:=λD σ H=>wi σ H λJ H1=>∃ W:Nat->Nat->St->Hp->Prop,(∃ m,W 0 m σ H1)/\∀ i m σ H,W i m σ H->
 (J.stop i H/\D.nx σ H)\/(J.go i H/\∃ N:St->Hp->Prop,(∀ σ' H',N σ' H'->∃ m',m'<m/\W (i+1) m' σ' H')/\∀ x H',J.yld i H x H'->g x σ H' λσ2 H2=>tb {D with nx:=N,ct:=N,bk:=D.nx} σ2 H2)
def gh(fp:List KF)(h:Heap):List (KF × QJ):=fp.filterMap λb=>(h.get? b).map λo=>(b,o)
variable{fp:List KF}
def cG{h:Heap}{b:KF}{o:QJ}(hb:b∈fp)(e:h.get? b=be o):(b,o)∈gh fp h:=Hu.mpr ⟨b,hb,by rw[e];rfl⟩
def vk{h:Heap}{p:KF × QJ}(hp:p∈gh fp h):p.1∈fp/\h.get? p.1=be p.2:=by
 obtain⟨b,hb,e⟩:=Hu.mp hp;cases q:h.get? b with
 |none=>rw[q] at e;cases e
 |some o=>
  rw[q] at e;have e':(b,o)=p:=Option.some.inj e;subst e';exact⟨hb,q⟩
def Inv.pinned(I:Inv X pins σ H s)(hf:∀ b∈fp,FpOk X pins H b)(ho:∀ b∈fp,∃ o,s.heap.get? b=be o/\∀ v,o.data≠.cell v):Inv X (pins++gh fp s.heap) σ H s:=
 I.pins_of λp hp=>(Fk.mp hp).elim (λz=>I.pin p (E7 _ z)) λz=>by
  obtain⟨hb,e⟩:=vk z;obtain⟨f0,f1,f2,_⟩:=hf p.1 hb;obtain⟨o,e',d⟩:=ho p.1 hb;rw[e] at e';cases e';exact⟨e,f0,f1,f2,d⟩
def Inv.unpinned{pl:List (KF × QJ)}(I:Inv X (pins++pl) σ H s):Inv X pins σ H s:=I.pins_of λp hp=>I.pin p (E7 _ (GC _ hp))
def dE{iter:Qo}{body:List Qq}{wi:TI}{g:TG}{tb:TS}(hp:QQ (Qr X.prog X.w) X.A X.env X.xe)(hc:X.calm=true)(hi:PI X tg iter wi)(hg:PG X tg g)(hb:PSs X body tb)
  (hs:∀ x,R7 iter X.env x=pure x:=by intro _;rfl):PS X (.For tg iter body [] pos) (tFor wi g tb):=by
 intro pins s σ H D I h;refine wpAny_For (thn (hi pins s σ H _ I h) λv s1 h1=>thn h1 λLa s2 h2=>?_) hs;obtain⟨it,fp,tn,J,H2,e,I2,T,Jl,f2,W,⟨m0,w0⟩,d5⟩:=h2;subst e;have h_:∀ {H':Hp},(∀ b∈fp,H' b=z7)->∀ b∈fp,FpOk X pins H' b:=λhn b hb=>⟨hn b hb,(f2 b hb).2⟩;refine codeAny_forLoop_any (λn s'=>∃ i σ' H',Inv X pins σ' H' s'/\tn i s'.heap/\(∀ b∈fp,H' b=z7)/\W i n σ' H') ?_ m0 ⟨0,σ,H2,I2,Jl,λb hb=>(f2 b hb).1,w0⟩;rintro n s3 ⟨i,σ3,H3,I3,IU,Nu,w3⟩;rcases d5 i n σ3 H3 w3 with⟨stop,qn⟩|⟨go,N,hN,step⟩
 .refine QK hp (thn (T.done X rfl rfl rfl hc i pins s3 σ3 H3 X.xe I3 (h_ Nu) IU stop) λr s4 c7=>?_);obtain⟨hr,I4⟩:=c7;subst hr;exact Rb ⟨σ3,H3,I4,qn⟩
 .refine QK hp (thn (T.item X rfl rfl rfl hc i pins s3 σ3 H3 X.xe I3 (h_ Nu) IU go) λr s4 c7=>?_);obtain⟨u,hr,h4⟩:=c7;subst hr;refine QK hp (thn h4 λ_ s5 c7=>?_);obtain⟨x,H5,I5,r5,y5,n9,Ke⟩:=c7;have Ol:=I5.pinned (h_ Ke) (T.obj _ _ n9);refine QK hp (thn (hg _ s5 σ3 H5 x u _ Ol r5 (step x H5 y5)) λ_ s6 c7=>?_);obtain⟨σ6,H6,I6,q6⟩:=c7;refine QK hp (thn (hb _ s6 σ6 H6 _ I6 q6) λf s7 q7=>?_);have again:∀ {σ7:St} {H7:Hp},Inv X (pins++gh fp s5.heap) σ7 H7 s7->N σ7 H7->∃ m,m<n/\∃ i σ' H',Inv X pins σ' H' s7/\tn i s7.heap/\(∀ b∈fp,H' b=z7)/\W i m σ' H':=λ{σ7 H7} I7 n7=>by
   obtain⟨m',hm,w7⟩:=hN σ7 H7 n7;refine⟨m',hm,i+1,σ7,H7,I7.unpinned,T.keep _ _ _ n9 λb hb o e=>(I7.pin (b,o) (E7 _ (E7 _ (cG hb e)))).1,λb hb=>?_,w7⟩;obtain⟨o,e,d⟩:=T.obj _ _ n9 b hb;exact(I7.pin (b,o) (E7 _ (E7 _ (cG hb e)))).2.1
  cases f with
  |next=>obtain⟨σ7,H7,I7,n7⟩:=q7;exact again I7 n7
  |cont=>obtain⟨σ7,H7,I7,n7⟩:=q7;exact again I7 n7
  |brk=>obtain⟨σ7,H7,I7,q7⟩:=q7;exact⟨σ7,H7,I7.unpinned,q7⟩
  |ret v=>obtain⟨x7,σ7,H7,I7,r7,q7⟩:=q7;exact⟨x7,σ7,H7,I7.unpinned,r7,q7⟩
end
def ju{lo:Int}{n:Nat}{g:TG}{tb:TS}{D:Ends}{σ:St}(Pv:Nat->St->Hp->Prop)(h0:Pv 0 σ H)
  (hs:∀ i σ H,i<n->Pv i σ H->g (.int (lo+i)) σ H λσ2 H2=>tb {D with nx:=Pv (i+1),ct:=Pv (i+1),bk:=D.nx} σ2 H2) (hd:∀ σ H,Pv n σ H->D.nx σ H):
  ∃ W:Nat->Nat->St->Hp->Prop,(∃ m,W 0 m σ H)/\∀ i m σ H,W i m σ H->
   ((Itr lo n).stop i H/\D.nx σ H)\/((Itr lo n).go i H/\∃ N:St->Hp->Prop,(∀ σ' H',N σ' H'->∃ m',m'<m/\W (i+1) m' σ' H')/\∀ x H',(Itr lo n).yld i H x H'->g x σ H' λσ2 H2=>tb {D with nx:=N,ct:=N,bk:=D.nx} σ2 H2):=by
 refine⟨λi m σ H=>m=n - i/\i<=n/\Pv i σ H,⟨n,by simp,Fl _,h0⟩,?_⟩;rintro i m σ H ⟨rfl,hi,p⟩;by_cases j3:i<n
 .refine .inr ⟨j3,Pv (i+1),λσ' H' p'=>⟨n - (i+1),by lia,rfl,j3,p'⟩,λx H' y=>?_⟩;obtain⟨e,y⟩:=y;subst e y;exact hs i σ _ j3 p
 .have e:i=n:=by lia
  subst e;exact .inl ⟨EK _,hd σ H p⟩
abbrev R2:=V->V->Hp->VK->Prop
def OpR(X:Cx)(f:KB->KB->RO KB)(r:R2):Prop:=
 ∀ (pins:List (KF × QJ)) (s:KM) (σ:St) (H:Hp) (x y:V) (v u:KB) (Q:VK),Inv X pins σ H s->RelV x v->RelV y u->r x y H Q->
  Qs (Qr X.prog X.w) X.A (f v u) (EP X pins σ Q) X.xe s
def UnR(X:Cx)(f:KB->RO KB)(r:V->Hp->VK->Prop):Prop:=
 ∀ (pins:List (KF × QJ)) (s:KM) (σ:St) (H:Hp) (x:V) (v:KB) (Q:VK),Inv X pins σ H s->RelV x v->r x H Q->
  Qs (Qr X.prog X.w) X.A (f v) (EP X pins σ Q) X.xe s
def bw(X:Cx)(f:KB)(r:List V->Hp->VK->Prop):Prop:=
 ∀ (pins:List (KF × QJ)) (s:KM) (σ:St) (H:Hp) (xs:List V) (us:List KB) (Q:VK),Inv X pins σ H s->Vals xs us->r xs H Q->
  Qs (Qr X.prog X.w) X.A (call f us) (EP X pins σ Q) X.xe s
def TruR(X:Cx)(r:V->Hp->(Bool->Hp->Prop)->Prop):Prop:=
 ∀ (pins:List (KF × QJ)) (s:KM) (σ:St) (H:Hp) (x:V) (v:KB) (Q:Bool->Hp->Prop),Inv X pins σ H s->RelV x v->r x H Q->
  Qs (Qr X.prog X.w) X.A (truthy v) (TP X pins σ Q) X.xe s
def tOp(r:R2)(ta tb:TE):TE:=λσ H Q=>ta σ H λx H1=>tb σ H1 λy H2=>r x y H2 Q
def tUn(r:V->Hp->VK->Prop)(ta:TE):TE:=λσ H Q=>ta σ H λx H1=>r x H1 Q
def rI(C:Int->Int->Prop)(g:Int->Int->V):R2:=λx y H Q=>∃ i j,x= .int i/\y= .int j/\C i j/\Q (g i j) H
def rI0(g:Int->Int->V):R2:=λx y H Q=>∃ i j,x= .int i/\y= .int j/\Q (g i j) H
def rU(g:Int->V):V->Hp->VK->Prop:=λx H Q=>∃ i,x= .int i/\Q (g i) H
section
variable {X:Cx}{a b c:Qo}{ta tb tc:TE}{pos:QC}
variable{f:KB->KB->RO KB}
def binT(ha:PE X a ta)(hb:PE X b tb){pins:List (KF × QJ)}{s:KM}{σ:St}{H:Hp}{R:V->V->Hp->Prop}(I:Inv X pins σ H s)
  (h:ta σ H λx H1=>tb σ H1 λy H2=>R x y H2) {Q:KB->KM->Prop} 
  (hf:∀ v u s2 x y H2,Inv X pins σ H2 s2->RelV x v->RelV y u->R x y H2->Qs (Qr X.prog X.w) X.A (f v u) Q X.xe s2):
  Qs (Qr X.prog X.w) X.A (Qx a X.env) (λv s₁=>Qs (Qr X.prog X.w) X.A (Qx b X.env) (λu s₂=>Qs (Qr X.prog X.w) X.A (f v u) Q X.xe s₂) X.xe s₁) X.xe s:=by
 refine thn (ha pins s σ H _ I h) λv s1 c7=>?_;obtain⟨x,H1,I1,r1,q1⟩:=c7;refine thn (hb pins s1 σ H1 _ I1 q1) λu s2 c7=>?_;obtain⟨y,H2,I2,r2,q2⟩:=c7;exact hf v u s2 x y H2 I2 r1 r2 q2
def pe{op:Operator}{r:R2}(ho:OpR X (QI op) r)(ha:PE X a ta)(hb:PE X b tb):PE X (.BinOp a op b pos) (tOp r ta tb):=by
 intro pins s σ H Q I h;exact wpAny_BinOp (binT ha hb I h λv u s2 x y H2 I2 rx ry q=>ho pins s2 σ H2 x y v u Q I2 rx ry q)
def vm{op:UnaryOp}{r:V->Hp->VK->Prop}(ho:UnR X (unaryOp op) r)(ha:PE X a ta):PE X (.UnaryOp op a pos) (tUn r ta):=by
 intro pins s σ H Q I h;exact UnaryOp_ (thn (ha pins s σ H _ I h) λv s1 ⟨x,H1,I1,r1,q1⟩=>ho pins s1 σ H1 x v Q I1 r1 q1)
variable{g:Int->Int->Int}
def opI{C:Int->Int->Prop}
  (rule:∀ (i j:Int) (t u:Tok) (s:KM) (Q:KB->KM->Prop) (E:KB->KM->Prop),C i j->Q (.int (g i j) s.toks) {s with toks:=s.toks+1}->Qs (Qr X.prog X.w) X.A (f (.int i t) (.int j u)) Q E s):
  OpR X f (rI C λi j=> .int (g i j)):=by
 intro pins s σ H x y v u Q I rx ry h;obtain⟨i,j,rfl,rfl,hc,q⟩:=h;obtain⟨t,rfl⟩:=rx;obtain⟨t',rfl⟩:=ry;exact rule i j t t' s _ _ hc ⟨.int (g i j),H,I.tok _,⟨_,rfl⟩,q⟩
def opI0
  (rule:∀ (i j:Int) (t u:Tok) (s:KM) (Q:KB->KM->Prop) (E:KB->KM->Prop),Q (.int (g i j) s.toks) {s with toks:=s.toks+1}->Qs (Qr X.prog X.w) X.A (f (.int i t) (.int j u)) Q E s):
  OpR X f (rI0 λi j=> .int (g i j)):=by
 intro pins s σ H x y v u Q I rx ry h;obtain⟨i,j,rfl,rfl,q⟩:=h;obtain⟨t,rfl⟩:=rx;obtain⟨t',rfl⟩:=ry;exact rule i j t t' s _ _ ⟨.int (g i j),H,I.tok _,⟨_,rfl⟩,q⟩
def opB0{g:Int->Int->Bool}
  (rule:∀ (i j:Int) (t u:Tok) (s:KM) (Q:KB->KM->Prop) (E:KB->KM->Prop),Q (.bool (g i j)) s->Qs (Qr X.prog X.w) X.A (f (.int i t) (.int j u)) Q E s):
  OpR X f (rI0 λi j=> .bl (g i j)):=by
 intro pins s σ H x y v u Q I rx ry h;obtain⟨i,j,rfl,rfl,q⟩:=h;obtain⟨t,rfl⟩:=rx;obtain⟨t',rfl⟩:=ry;exact rule i j t t' s _ _ ⟨.bl (g i j),H,I,rfl,q⟩
def CDiv(i j:Int):Prop:=0<j/\j<1073741824
def CPow(i j:Int):Prop:=0<=j/\j<=1000000/\i.natAbs<2 ^ 64
def CMul(i j:Int):Prop:=(-(2 ^ 64)<i/\i<2 ^ 64)\/(-(2 ^ 64)<j/\j<2 ^ 64)
def CMul.ok{i j:Int}(h:CMul i j):IntMulOk i j:=by
 rcases h with⟨h1,h2⟩|⟨h1,h2⟩
 .exact .of_left (intBits_le_64 h1 h2)
 .exact .of_right (intBits_le_64 h1 h2)
def vn:OpR X (QI .Add) (rI0 λi j=> .int (i+j)):=opI0 λ_ _ _ _ _ _ _ q=>add_int q
def pf:OpR X (QI .Sub) (rI0 λi j=> .int (i - j)):=opI0 λ_ _ _ _ _ _ _ q=>sub_int q
def ph:OpR X (QI .Mult) (rI CMul λi j=> .int (i*j)):=opI λ_ _ _ _ _ _ _ hc q=>mul_int q hc.ok
def vo:OpR X (QI .FloorDiv) (rI CDiv λi j=> .int (i / j)):=opI λi j _ _ _ _ _ hc q=>by
 have h1:(0:Int)<j:=hc.1;have h2:j<1073741824:=hc.2;exact floordiv_int (by lia) (by rw[Int.fdiv_eq_ediv_of_nonneg i (by lia)];exact q) (.inl (PyProof.noPylong_small (by lia)))
def vp:OpR X (QI .Mod) (rI (λ_ j=>0<j) λi j=> .int (i % j)):=opI λi j _ _ _ _ _ hc q=>by
 have h1:(0:Int)<j:=hc;exact mod_int' (by lia) (by rw[Int.fmod_eq_emod_of_nonneg i (by lia)];exact q)
def vq:OpR X (QI .Pow) (rI CPow λi j=> .int (i ^ j.toNat)):=opI λ_ _ _ _ _ _ _ hc q=>pow_int_small hc.1 hc.2.1 hc.2.2 q
def unI{f:KB->RO KB}{g:Int->Int}
  (rule:∀ (i:Int) (t:Tok) (s:KM) (Q:KB->KM->Prop) (E:KB->KM->Prop),Q (.int (g i) s.toks) {s with toks:=s.toks+1}->Qs (Qr X.prog X.w) X.A (f (.int i t)) Q E s):
  UnR X f (rU λi=> .int (g i)):=by
 intro pins s σ H x v Q I rx h;obtain⟨i,rfl,q⟩:=h;obtain⟨t,rfl⟩:=rx;exact rule i t s _ _ ⟨.int (g i),H,I.tok _,⟨_,rfl⟩,q⟩
def vt:UnR X (unaryOp .USub) (rU λi=> .int (-i)):=unI λ_ _ _ _ _ q=>neg_int q
end
def scal:V->V->Bool
 | .non,.non=>true| .non,.int _=>true| .int _,.non=>true| .non,.bl _=>true| .bl _,.non=>true| .non,.str _=>true| .str _,.non=>true
 | .int _,.int _=>true| .bl _,.bl _=>true| .str _,.str _=>true| .byt _,.byt _=>true
 | .int _,.str _=>true| .str _,.int _=>true| .bl _,.str _=>true| .str _,.bl _=>true
 |_,_=>false
def rEq:R2:=λx y H Q=>scal x y=true/\Q (.bl (decide (x=y))) H
def rNe:R2:=λx y H Q=>scal x y=true/\Q (.bl (!decide (x=y))) H
def pi{i j:Int}:decide (V.int i=V.int j)=(i==j):=by
 rw[FF];simp
def pj{i j:Bool}:decide (V.bl i=V.bl j)=(i==j):=by
 rw[FF];simp
def pk{i j:IT}:decide (V.str i=V.str j)=(i==j):=by
 rw[FF];simp
def pp{i j:Array UInt8}:decide (V.byt i=V.byt j)=(i.toList==j.toList):=by
 rw[FF];cases i;cases j;simp
section
variable {X:Cx}{a b c:Qo}{ta tb tc:TE}{pos:QC}
def aL{pins:List (KF × QJ)}{σ:St}{H:Hp}{s:KM}{Q:VK}{k k':Bool}(I:Inv X pins σ H s)(q:Q (.bl k) H)(e:k=k'):EP X pins σ Q (.bool k') s:=by
 subst e;exact⟨.bl k,H,I,rfl,q⟩
def jv:OpR X (QA .Eq) rEq:=by
 intro pins s σ H x y v u Q I rx ry h;obtain⟨hs,q⟩:=h;cases x with
 |non=>
  cases rx;cases y with
  |non=>cases ry;exact PySem.EqNone.eq_none_none (aL I q (by simp))
  |bl j=>cases ry;exact PySem.EqNone.eq_none_bool (aL I q (by simp))
  |int j=>obtain⟨t',rfl⟩:=ry;exact PySem.EqNone.eq_none_int (aL I q (by simp))
  |str j=>obtain⟨t',rfl⟩:=ry;exact PySem.EqNone.eq_none_str (aL I q (by simp))
  |_=>exact absurd (show false=true from hs) ET
 |bl i=>
  cases rx;cases y with
  |non=>cases ry;exact PySem.EqNone.eq_bool_none (aL I q (by simp))
  |bl j=>cases ry;exact eq_bool (aL I q pj)
  |str j=>obtain⟨t',rfl⟩:=ry;exact PySem.EqMixed.eq_bool_str (aL I q (by simp))
  |_=>exact absurd (show false=true from hs) ET
 |int i=>
  obtain⟨t,rfl⟩:=rx;cases y with
  |non=>cases ry;exact PySem.EqNone.eq_int_none (aL I q (by simp))
  |int j=>obtain⟨t',rfl⟩:=ry;exact eq_int (aL I q pi)
  |str j=>obtain⟨t',rfl⟩:=ry;exact PySem.EqMixed.eq_int_str (aL I q (by simp))
  |_=>exact absurd (show false=true from hs) ET
 |str i=>
  obtain⟨t,rfl⟩:=rx;cases y with
  |non=>cases ry;exact PySem.EqNone.eq_str_none (aL I q (by simp))
  |bl j=>cases ry;exact PySem.EqMixed.eq_str_bool (aL I q (by simp))
  |int j=>obtain⟨t',rfl⟩:=ry;exact PySem.EqMixed.eq_str_int (aL I q (by simp))
  |str j=>obtain⟨t',rfl⟩:=ry;exact eq_str (aL I q pk)
  |_=>exact absurd (show false=true from hs) ET
 |byt i=>
  obtain⟨t,rfl⟩:=rx;cases y with
  |byt j=>obtain⟨t',rfl⟩:=ry;exact eq_bytes (aL I q pp)
  |_=>exact absurd (show false=true from hs) ET
 |_=>cases y<;>exact absurd (show false=true from hs) ET
def vw:OpR X (QA .NotEq) rNe:=by
 intro pins s σ H x y v u Q I rx ry h;obtain⟨hs,q⟩:=h;cases x with
 |non=>
  cases rx;cases y with
  |non=>cases ry;exact PySem.EqNone.ne_none_none (aL I q (by simp))
  |bl j=>cases ry;exact PySem.EqNone.ne_none_bool (aL I q (by simp))
  |int j=>obtain⟨t',rfl⟩:=ry;exact PySem.EqNone.ne_none_int (aL I q (by simp))
  |str j=>obtain⟨t',rfl⟩:=ry;exact PySem.EqNone.ne_none_str (aL I q (by simp))
  |_=>exact absurd (show false=true from hs) ET
 |bl i=>
  cases rx;cases y with
  |non=>cases ry;exact PySem.EqNone.ne_bool_none (aL I q (by simp))
  |bl j=>cases ry;exact ne_bool (aL I q (congrArg not pj))
  |str j=>obtain⟨t',rfl⟩:=ry;exact PySem.EqMixed.ne_bool_str (aL I q (by simp))
  |_=>exact absurd (show false=true from hs) ET
 |int i=>
  obtain⟨t,rfl⟩:=rx;cases y with
  |non=>cases ry;exact PySem.EqNone.ne_int_none (aL I q (by simp))
  |int j=>obtain⟨t',rfl⟩:=ry;exact ne_int (aL I q (congrArg not pi))
  |str j=>obtain⟨t',rfl⟩:=ry;exact PySem.EqMixed.ne_int_str (aL I q (by simp))
  |_=>exact absurd (show false=true from hs) ET
 |str i=>
  obtain⟨t,rfl⟩:=rx;cases y with
  |non=>cases ry;exact PySem.EqNone.ne_str_none (aL I q (by simp))
  |bl j=>cases ry;exact PySem.EqMixed.ne_str_bool (aL I q (by simp))
  |int j=>obtain⟨t',rfl⟩:=ry;exact PySem.EqMixed.ne_str_int (aL I q (by simp))
  |str j=>obtain⟨t',rfl⟩:=ry;exact ne_str (aL I q (congrArg not pk))
  |_=>exact absurd (show false=true from hs) ET
 |byt i=>
  obtain⟨t,rfl⟩:=rx;cases y with
  |byt j=>obtain⟨t',rfl⟩:=ry;exact ne_bytes (aL I q (congrArg not pp))
  |_=>exact absurd (show false=true from hs) ET
 |_=>cases y<;>exact absurd (show false=true from hs) ET
def jw:OpR X (QA .Lt) (rI0 λi j=> .bl (decide (i<j))):=opB0 λ_ _ _ _ _ _ _ q=>lt_int q
def vx:OpR X (QA .LtE) (rI0 λi j=> .bl (decide (i<=j))):=opB0 λ_ _ _ _ _ _ _ q=>le_int q
def vy:OpR X (QA .Gt) (rI0 λi j=> .bl (decide (j<i))):=opB0 λ_ _ _ _ _ _ _ q=>gt_int q
def vz:OpR X (QA .Is) (λx y H Q=>y= .non/\Q (.bl (decide (x= .non))) H):=by
 intro pins s σ H x y v u Q I rx ry h;obtain⟨rfl,q⟩:=h;cases ry;refine is_none_gen (aL I q ?_);cases x<;>first
  |(cases rx;rfl)
  |(obtain⟨t,rfl⟩:=rx;rfl)
def vA:OpR X (QA .IsNot) (λx y H Q=>y= .non/\Q (.bl (!decide (x= .non))) H):=by
 intro pins s σ H x y v u Q I rx ry h;obtain⟨rfl,q⟩:=h;cases ry;refine isnot_none_gen (aL I q ?_);cases x<;>first
  |(cases rx;rfl)
  |(obtain⟨t,rfl⟩:=rx;rfl)
variable{r:R2}
def OpR.or{f:KB->KB->RO KB}{r':R2}(h:OpR X f r)(h':OpR X f r'):OpR X f (λx y H Q=>r x y H Q\/r' x y H Q):=by
 intro pins s σ H x y v u Q I rx ry q;rcases q with q|q
 .exact h pins s σ H x y v u Q I rx ry q
 .exact h' pins s σ H x y v u Q I rx ry q
variable{op:RF}
def nomark(b:Qo)(h:autoParam (op≠.In) zA1)(h2:autoParam (op≠.NotIn) zA1):QL op b=false:=by
 have e1:(op==CmpOp.In)=false:=by cases op<;>first|rfl|exact absurd rfl h
 have e2:(op==CmpOp.NotIn)=false:=by cases op<;>first|rfl|exact absurd rfl h2
 cases b<;>simp[QL,e1,e2]
def vB(ho:OpR X (QA op) r)(ha:PE X a ta)(hb:PE X b tb)(hm:QL op b=false):PE X (.Compare a [op] [b] pos) (tOp r ta tb):=by
 intro pins s σ H Q I h;exact wpAny_Compare1 (binT ha hb I h λv u s2 x y H2 I2 rx ry q=>ho pins s2 σ H2 x y v u Q I2 rx ry q) hm
def pq(t:TE):TT:=λσ H Q=>t σ H λx H'=>∃ k,x= .bl k/\Q k H'
def pr(ho:OpR X (QA op) r)(ha:PE X a ta)(hb:PE X b tb)(hm:QL op b=false):PT X (.Compare a [op] [b] pos) (pq (tOp r ta tb)):=by
 intro pins s σ H Q I h;refine wpAny_isTrue_Compare1 (thn (ha pins s σ H _ I h) λv s1 ⟨x,H1,I1,r1,q1⟩=>thn (hb pins s1 σ H1 _ I1 q1) λu s2 ⟨y,H2,I2,r2,q2⟩=>
  thn (ho pins s2 σ H2 x y v u _ I2 r1 r2 q2) λc s3 hh=>?_) hm
 obtain⟨z,H3,I3,r3,k,e,q3⟩:=hh;subst e;cases r3;exact QM ⟨H3,I3,q3⟩
def vC(r r':R2)(ta tb tc:TE):TE:=λσ H Q=>ta σ H λx H1=>tb σ H1 λy H2=>r x y H2 λz H3=>∃ k,z= .bl k/\
 (if k=true then tc σ H3 λw' H4=>r' y w' H4 Q else Q (.bl false) H3)
def vD{Jo:RF}{r':R2}(ho:OpR X (QA op) r)(u8:OpR X (QA Jo) r')(ha:PE X a ta)(hb:PE X b tb)(hc:PE X c tc)
  (hm:autoParam (lastMarks [op,Jo] [b,c]=false) zA7):PT X (.Compare a [op,Jo] [b,c] pos) (pq (vC r r' ta tb tc)):=by
 intro pins s σ H Q I h;refine isTrue_chain (thn (ha pins s σ H _ I h) λv s1 ⟨x,H1,I1,r1,q1⟩=>test_link (thn (hb pins s1 σ H1 _ I1 q1) λu s2 ⟨y,H2,I2,r2,q2⟩=>
  thn (ho pins s2 σ H2 x y v u _ I2 r1 r2 q2) λd s3 hh=>?_)) hm
 obtain⟨z,H3,I3,r3,k,e,q3⟩:=hh;subst e;cases r3;refine QM ?_;cases k with
 |false=>
  obtain⟨k',e',q'⟩:=q3;cases e';exact ite_ff ⟨H3,I3,q'⟩
 |true=>
  refine ite_tt (test_last (thn (hc pins s3 σ H3 _ I3 q3) λw' s4 ⟨z',H4,I4,r4,q4⟩=>thn (u8 pins s4 σ H4 y z' u w' _ I4 r2 r4 q4) λd' s5 c7=>?_));obtain⟨z2,H5,I5,r5,k2,e2,q5⟩:=c7;subst e2;cases r5;exact QM ⟨H5,I5,q5⟩
def TruV(K:Ex)(x:V)(H:Hp)(k:Bool):Prop:=
 match x with
 | .non=>k=false
 | .bl b=>k=b
 | .int i=>k=(i !=0)
 | .str y=>y.length<=sizeLine/\k=((y.length:Int) !=0)
 | .byt y=>y.size<=sizeLine/\k=((y.size:Int) !=0)
 | .ref p=>(∃ xs,SqL K H p xs/\k=!xs.isEmpty)\/(∃ xs,SqT K H p xs/\k=!xs.isEmpty)\/∃ a9,H p=be (.dK a9)/\k=!a9.isEmpty
 |_=>False
def vE{κ:Type}{a9:List (κ × V)}{vs:List (κ × KB)}(r:KV a9 vs):(!vs.isEmpty)=!a9.isEmpty:=by
 cases r<;>rfl
def isEmpty_of{xs:List V}{its:List KB}(r:Vals xs its):(!its.toArray.isEmpty)=!xs.isEmpty:=by
 cases r<;>simp
def line63:(sizeLine:Nat)<2 ^ 63:=by rw[Rh];decide
def vF:TruR X (λx H Q=>∃ k,TruV X.K x H k/\Q k H):=by
 intro pins s σ H x v Q I rx h;obtain⟨k,e,q⟩:=h;have hl:=line63;have hs:sizeLine=16777216:=Rh;cases x with
 |non=>
  cases rx;have e':k=false:=e;subst e';exact truthy_none ⟨H,I,q⟩
 |bl b=>
  cases rx;have e':k=b:=e;subst e';exact QM ⟨H,I,q⟩
 |int i=>
  obtain⟨t,rfl⟩:=rx;have e':k=(i !=0):=e;subst e';exact PySem.P.truthy_int ⟨H,I,q⟩
 |str y=>
  obtain⟨t,rfl⟩:=rx;obtain⟨hy,e'⟩:y.length<=sizeLine/\k=((y.length:Int) !=0):=e;subst e';exact PySem.P.truthy_str (by lia) ⟨H,I.tok _,q⟩
 |byt y=>
  obtain⟨t,rfl⟩:=rx;obtain⟨hy,e'⟩:y.size<=sizeLine/\k=((y.size:Int) !=0):=e;subst e';exact truthy_bytes (by lia) ⟨H,I.tok _,q⟩
 |ref p=>
  cases rx;have e':(∃ xs,SqL X.K H p xs/\k=!xs.isEmpty)\/(∃ xs,SqT X.K H p xs/\k=!xs.isEmpty)\/∃ a9,H p=be (.dK a9)/\k=!a9.isEmpty:=e;rcases e' with⟨xs,hx,e'⟩|⟨xs,hx,e'⟩|⟨a9,hx,e'⟩
  .subst e';obtain⟨its,r,pl,hz⟩:=I.list hx;have b_:=r.length;exact wpAny_truthy_list pl.isList (by simp only[EO];lia) ⟨H,I.tok _,by rw[isEmpty_of r];exact q⟩
  .subst e';obtain⟨its,r,pl,hz⟩:=I.tuple hx;have b_:=r.length;exact truthy_tuple pl (by simp only[EO];lia) ⟨H,I.tok _,by rw[isEmpty_of r];exact q⟩
  .subst e';obtain⟨hz,hS,vs,r,m⟩:a9.length<=sizeLine/\(p==QO)=false/\∃ vs,KV a9 vs/\s.heap.DictOf (bF X.prog X.w) p vs:=I.hok p _ hx;have b_:a9.length=vs.length:=Paired.length r;exact wpAny_truthy_dict hS m (by lia) ⟨H,I.tok _,by rw[vE r];exact q⟩
 |_=>exact(show False from e).elim
def vG(ha:PE X a ta)(he:∀ g_,isTrue a X.env g_=(do let v <- g_;Q_ a.pos;Q1 [v] (truthy v))):
  PT X a (λσ H Q=>ta σ H λx H'=>∃ k,TruV X.K x H' k/\Q k H'):=by
 intro pins s σ H Q I h;exact isTrue_plain (thn (ha pins s σ H _ I h) λv s1 ⟨x,H1,I1,r1,q1⟩=>vF pins s1 σ H1 x v Q I1 r1 q1) (he _)
def vH:OpR X (QI .Add) (λx y H Q=>∃ i j,x= .str i/\y= .str j/\i.length+j.length<=sizeLine/\Q (.str (i++j)) H):=by
 intro pins s σ H x y v u Q I rx ry h;obtain⟨i,j,rfl,rfl,hz,q⟩:=h;obtain⟨t,rfl⟩:=rx;obtain⟨t',rfl⟩:=ry;exact add_str (λt' tk=>⟨.str (i++j),H,I.tok _,⟨_,rfl⟩,q⟩) hz
variable{us:List KB}
def bG{x:V}(r:Vals [x] us):∃ u,us=[u]/\RelV x u:=by
 cases r with
 |cons r1 r2=>cases r2;exact⟨_,rfl,r1⟩
def fw{x y:V}(r:Vals [x,y] us):∃ u w',us=[u,w']/\RelV x u/\RelV y w':=by
 cases r with
 |cons r1 r2=>
  cases r2 with
  |cons r3 r4=>cases r4;exact⟨_,_,rfl,r1,r3⟩
def vI:bw X (.builtin "abs") (λxs H Q=>∃ i,xs=[.int i]/\Q (.int (if i<0 then -i else i)) H):=by
 intro pins s σ H xs us Q I r h;obtain⟨i,rfl,q⟩:=h;obtain⟨u,rfl,t,rfl⟩:=bG r;exact call_abs_int λu tk=>⟨.int (if i<0 then -i else i),H,I.tok _,⟨_,rfl⟩,q⟩
def vJ(hc:X.calm=true):bw X (.builtin "max") (λxs H Q=>∃ i j,xs=[.int i,.int j]/\Q (.int (if j>i then j else i)) H):=by
 intro pins s σ H xs us Q I r h;obtain⟨i,j,rfl,q⟩:=h;obtain⟨u,w',rfl,⟨t,rfl⟩,⟨t',rfl⟩⟩:=fw r;refine max_two_ints (I.ok.hd hc) λh' tk k=>⟨_,H,I.kept k,?_,q⟩;by_cases hj:j>i
 .rw[if_pos hj,if_pos hj];exact⟨_,rfl⟩
 .rw[if_neg hj,if_neg hj];exact⟨_,rfl⟩
def vK(hc:X.calm=true):bw X (.builtin "min") (λxs H Q=>∃ i j,xs=[.int i,.int j]/\Q (.int (if j<i then j else i)) H):=by
 intro pins s σ H xs us Q I r h;obtain⟨i,j,rfl,q⟩:=h;obtain⟨u,w',rfl,⟨t,rfl⟩,⟨t',rfl⟩⟩:=fw r;refine min_two_ints (I.ok.hd hc) λh' tk k=>⟨_,H,I.kept k,?_,q⟩;by_cases hj:j<i
 .rw[if_pos hj,if_pos hj];exact⟨_,rfl⟩
 .rw[if_neg hj,if_neg hj];exact⟨_,rfl⟩
def vL:bw X (.type "int") (λxs H Q=>(∃ i,xs=[.int i]/\Q (.int i) H)\/∃ k,xs=[.bl k]/\Q (.int (if k then 1 else 0)) H):=by
 intro pins s σ H xs us Q I r h;rcases h with⟨i,rfl,q⟩|⟨k,rfl,q⟩
 .obtain⟨u,rfl,t,rfl⟩:=bG r;exact call_int_int ⟨.int i,H,I,⟨_,rfl⟩,q⟩
 .obtain⟨u,rfl,r1⟩:=bG r;cases r1;exact call_int_bool ⟨.int (if k then 1 else 0),H,I.tok _,⟨_,rfl⟩,q⟩
def vM:bw X (.type "str") (λxs H Q=>∃ i,xs=[.int i]/\i.natAbs.log2<1920/\Q (.str (toString i)) H):=by
 intro pins s σ H xs us Q I r h;obtain⟨i,rfl,hz,q⟩:=h;obtain⟨u,rfl,t,rfl⟩:=bG r;exact PySem.P.str_of_int hz ⟨.str _,H,I.tok _,⟨_,rfl⟩,q⟩
def LenV(K:Ex)(x:V)(H:Hp)(n:Nat):Prop:=
 match x with
 | .str y=>y.length<=sizeLine/\n=y.length
 | .byt y=>y.size<=sizeLine/\n=y.size
 | .ref p=>(∃ xs,SqL K H p xs/\n=xs.length)\/∃ xs,SqT K H p xs/\n=xs.length
 |_=>False
def jx:bw X (.builtin "len") (λxs H Q=>∃ x n,xs=[x]/\LenV X.K x H n/\Q (.int n) H):=by
 intro pins s σ H xs us Q I r h;obtain⟨x,n,rfl,e,q⟩:=h;obtain⟨u,rfl,rx⟩:=bG r;have hl:=line63;have hs:sizeLine=16777216:=Rh;cases x with
 |str y=>
  obtain⟨t,rfl⟩:=rx;obtain⟨hy,e'⟩:y.length<=sizeLine/\n=y.length:=e;subst e';exact len_str (by lia) ⟨.int _,H,I.tok _,⟨_,rfl⟩,q⟩
 |byt y=>
  obtain⟨t,rfl⟩:=rx;obtain⟨hy,e'⟩:y.size<=sizeLine/\n=y.size:=e;subst e';exact len_bytes (by lia) ⟨.int _,H,I.tok _,⟨_,rfl⟩,q⟩
 |ref p=>
  cases rx;have e':(∃ xs,SqL X.K H p xs/\n=xs.length)\/∃ xs,SqT X.K H p xs/\n=xs.length:=e;rcases e' with⟨xs,hx,e'⟩|⟨xs,hx,e'⟩
  .subst e';obtain⟨its,r',pl,hz⟩:=I.list hx;have b_:=r'.length;exact Calls.call_len_list pl.isList (by simp only[EO];lia) ⟨.int xs.length,H,I.tok _,⟨_,by simp only[EO];rw[b_]⟩,q⟩
  .subst e';obtain⟨its,r',pl,hz⟩:=I.tuple hx;have b_:=r'.length;exact len_tuple pl (by simp only[EO];lia) ⟨.int xs.length,H,I.tok _,⟨_,by simp only[EO];rw[b_]⟩,q⟩
 |_=>exact(show False from e).elim
end
structure ObjM(h:Heap)(x dx C:KF)(mA:Str->Option KB):Prop where
 obj:h.get? x=be (instObj C dx)
 ns:h.Ns1 dx mA
 ne:dx≠x
variable{mA:IT->Option KB}
def vN{dx:KF}(n:h.Ns1 dx mA):∃ od,h.get? dx=be od/\∀ name,lookIn name od=be (mA name):=by
 obtain⟨o,es,ep,ho,hd,hk,_,hm⟩:=n;refine⟨o,ho,λname=>?_⟩;have e:=hm name;unfold nsFind findBy at e;rw[<- Array.find?_toList] at e;unfold lookIn;rw[hd];dsimp only;split
 .rename_i y q;rw[q] at e;exact congrArg be e
 .rename_i q;rw[q] at e;have a:es.toList.any (·.refKey)=false:=by
   rw[List.any_eq_false];intro y hy;obtain⟨z,t,n_⟩:=hk y (Array.mem_toList_iff.mp hy);simp[DictEntry.refKey,n_]
  have a':¬ es.toList.any (·.refKey)=true:=by rw[a];exact ET
  rw[if_neg a'];exact congrArg be e
variable{C:KF}
def ObjM.look{x dx:KF}(I:ObjM h x dx C mA):∃ od,PySem.W.InstAt h x (instObj C dx) C (be od)/\∀ name,lookIn name od=be (mA name):=
 let ⟨od,ho,hl⟩:=vN I.ns
 ⟨od,⟨I.obj,rfl,rfl,ho⟩,hl⟩
section
variable {prog:P3}{w:Qt}{A:Qu}{E:KB->KM->Prop}{s:KM}{K:Ex}{x dx C f:KF}{mA:IT->Option KB}{name:IT}{v:KB}
def vO{LC:Bool}{Q:KB->KM->Prop}(X:K.In s.heap)(I:ObjM s.heap x dx C mA)(hg:plainGet K C name=true)(hh:hasDictIn K C=true)
  (ha:ES K (.ref C) name=be z7) (hv:mA name=be v) (Om:handedIn v=true) (h:Q v {s with toks:=s.toks+1}):
  Qs (Qr prog w) A (getAttr (.ref x) name LC) Q E s:=by
 obtain⟨od,J,hl⟩:=I.look;exact get_value X J (plainGet_of hg).1 (findObj_own hh ha rfl (by rw[hl,hv])) Om h
def vP{pl:RO Bool}{Q:KB × List KB->KM->Prop}(X:K.In s.heap)(I:ObjM s.heap x dx C mA)(hg:plainGet K C name=true)
  (hf:ES K (.ref C) name=be (be (.ref f))) (ht:isFn K (.ref f)=true) (hv:mA name=z7) (h:Q (.ref f,[.ref x]) s):
  Qs (Qr prog w) A (Rr (.ref x) name pl) Q E s:=by
 obtain⟨od,J,hl⟩:=I.look;exact method_fn X J (plainGet_of hg).1 (plainGet_of hg).2 hf (beq_iff_eq.mp ht) (by show(lookIn name od).map (·.isSome)=be false;rw[hl,hv];rfl) h
def vQ{ns:List IT}{Q:Unit->KM->Prop}(X:K.In s.heap)(I:ObjM s.heap x dx C mA)
  (hs:ES K (.ref C) "__setattr__"=be (be (.builtin "object.__setattr__"))) (hp:plainOver K C=true) (ht:takerIn K C name=be z7) (hh:hasDictIn K C=true)
  (hw:PySem.Within mA ns) (g9:ns.length<=sizeLine)
  (h:∀ h',ObjM h' x dx C (λy=>if y=name then be v else mA y)->Heap.SameBut dx s.heap h'->Q () {s with heap:=h',toks:=s.toks+2}):
  Qs (Qr prog w) A (setAttr (.ref x) name v) Q E s:=by
 obtain⟨od,J,hl⟩:=I.look;refine PySem.W.set_plain X J hs (osa_open (s:={s with toks:=s.toks+1}) (r:=z7) X J hp ht λb=>?_);obtain⟨cd,hc,g8⟩:=any_some hh;have hx:s.heap.get? x=be ⟨.ref C,be dx,.plain,#[]⟩:=I.obj;refine Os (Qp (Os (Os (wpAny_loadPart hx (Os (PySem.W.Looks.here (s:={s with toks:=s.toks+1}) (PySem.W.looks_clsIn X hc) ?_))))));rw[g8];refine Qp (a:=be dx) (Os (Qp (Os ?_)));refine wpAny_nsSet1 (s:={s with toks:=s.toks+1}) I.ns λh' y8 n8=>?_;obtain⟨oD,On,Oo,LD,LF,LG⟩:=y8.count (PySem.Within.cons name v hw);refine Os (wpAny_lookBehind LD (by rw[LF];exact pastItsLine_dict (E1 LG (by rw[EN];lia))) ?_);exact Qp (h _ ⟨(n8.2 _ (Ne.symm I.ne)).trans I.obj,y8,I.ne⟩ n8)
def vR{R:Result->KM->Prop}{vs:List KB}{kw:List (IT × KB)}(X:K.In s.heap)(hm:makesIn K C=true)
  (hi:ES K (.ref C) "__init__"=be (be (.ref f))) (hf:PySem.W.typeIn K (.ref f)=be (.type "function"))
  (h:Ra (Qr prog w) (A.under (.builtin "type.__call__" ⟨.ref C::vs,kw⟩)) (.call (.ref f) ⟨.ref (s.heap.objs.size+1)::vs,kw⟩) (InitBack (s.heap.objs.size+1) R)
   {s with heap:=(s.heap.push emptyDict).push (instObj C s.heap.objs.size)}):
  Ra (Qr prog w) A (.call (.ref C) ⟨vs,kw⟩) R s:=by
 obtain⟨hh,g,d,t,os⟩:=s;exact make_core (makes_of X hm) (PySem.W.looks_findIn X hi) (λself=>PySem.W.bind_fn X self hf) (.inl rfl) h
end
def putF(f:IT)(v:V):List (IT × V)->List (IT × V)
 |[]=>[(f,v)]
 |(g,x)::r=>if g=f then(g,v)::r else(g,x)::putF f v r
def pv(f g:IT)(v:V):∀ fs:List (IT × V),(putF f v fs).lookup g=if g=f then be v else fs.lookup g
 |[]=>by
  show FP g [(f,v)]=_;by_cases h:g=f
  .have hb:(g==f)=true:=beq_iff_eq.mpr h;simp only[FP,hb,if_pos h]
  .have hb:(g==f)=false:=beq_eq_false_iff_ne.mpr h;simp only[FP,hb,if_neg h]
 |(k,x)::r=>by
  have ih:=pv f g v r;rw[show putF f v ((k,x)::r)=(if k=f then(k,v)::r else(k,x)::putF f v r) from rfl];by_cases hk:k=f
  .rw[if_pos hk];by_cases h:g=k
   .have hb:(g==k)=true:=beq_iff_eq.mpr h;simp only[FP,hb,if_pos (h.trans hk)]
   .have hb:(g==k)=false:=beq_eq_false_iff_ne.mpr h;simp only[FP,hb,if_neg (λe:g=f=>h (e.trans hk.symm))]
  .rw[if_neg hk];by_cases h:g=k
   .have hb:(g==k)=true:=beq_iff_eq.mpr h;simp only[FP,hb,if_neg (λe:g=f=>hk (h.symm.trans e))]
   .have hb:(g==k)=false:=beq_eq_false_iff_ne.mpr h;simp only[FP,hb];exact ih
def jy(f:IT)(v:V):∀ fs:List (IT × V),f∈(putF f v fs).map (·.1)/\∀ g,g∈fs.map (·.1)->g∈(putF f v fs).map (·.1)
 |[]=>⟨by simp[putF],λg h=>by simp at h⟩
 |(k,x)::r=>by
  obtain⟨i1,i2⟩:=jy f v r;rw[show putF f v ((k,x)::r)=(if k=f then(k,v)::r else(k,x)::putF f v r) from rfl];by_cases hk:k=f
  .rw[if_pos hk];subst hk;exact⟨by simp,λg h=>by simpa using h⟩
  .rw[if_neg hk];refine⟨?_,λg h=>?_⟩
   .rw[E4];exact EV _ i1
   .rw[E4] at h ⊢;rcases ER.mp h with e|e
    .exact ER.mpr (.inl e)
    .exact EV _ (i2 g e)
def pw(f:IT)(v:V):∀ fs:List (IT × V),(putF f v fs).length<=fs.length+1
 |[]=>by simp[putF]
 |(k,x)::r=>by
  have ih:=pw f v r;rw[show putF f v ((k,x)::r)=(if k=f then(k,v)::r else(k,x)::putF f v r) from rfl];by_cases hk:k=f
  .rw[if_pos hk,EN,EN];lia
  .rw[if_neg hk,EN,EN];lia
def RelO.some_of{v:V}{o:Option KB}(r:RelO (be v) o):∃ u,o=be u/\RelV v u:=by
 cases o with
 |none=>exact(show False from r).elim
 |some u=>exact⟨u,rfl,r⟩
def RelO.none_of{o:Option KB}(r:RelO z7 o):o=none:=by
 cases o with
 |none=>rfl
 |some u=>exact(show False from r).elim
def vS{v:V}(r:RelV v u):handedIn u=true:=by
 cases v with
 |non=>cases(show u=Value.none from r);rfl
 |bl b=>cases(show u=Value.bool b from r);rfl
 |int i=>obtain⟨t,e⟩:=(show ∃ t,u=Value.int i t from r);cases e;rfl
 |str x=>obtain⟨t,e⟩:=(show ∃ t,u=Value.str x t from r);cases e;rfl
 |byt b=>obtain⟨t,e⟩:=(show ∃ t,u=Value.bytes b t from r);cases e;rfl
 |flt b=>obtain⟨t,e⟩:=(show ∃ t,u=Value.float b t from r);cases e;rfl
 |ref a=>cases(show u=Value.ref a from r);rfl
 |ty n=>cases(show u=Value.type n from r);rfl
section
variable {P:P3}{w:Qt}{H H':Hp}{h h':Heap}{a C dx:KF}{fs p8:List (IT × V)}
def gj(hok:HOk P w H h)(e:H a=be (.ins C dx fs)):∃ mA,ObjM h a dx C mA/\(∀ f,RelO (fs.lookup f) (mA f))/\PySem.Within mA (fs.map (·.1))/\fs.length<=1000/\H dx=be (.own a):=by
 obtain⟨d,z,ne,ob,mA,n,r,q⟩:=(show ObjOk P w H h a (.ins C dx fs) from hok a _ e);exact⟨mA,⟨ob,n,ne⟩,r,q,z,d⟩
end
structure Cls(K:Ex)(C:KF):Prop where
 pg:plainGet K C Str.empty=true
 hd:hasDictIn K C=true
 po:plainOver K C=true
 sa:ES K (.ref C) "__setattr__"=be (be (.builtin "object.__setattr__"))
def Cls.get(c:Cls K C)(f:IT):plainGet K C f=true:=c.pg
def NoAttr(K:Ex)(C:KF)(f:IT):Prop:=ES K (.ref C) f=be z7
def NoAttr.taker{f:IT}(n:NoAttr K C f):takerIn K C f=be none:=by
 unfold takerIn;rw[show ES K (.ref C) f=be z7 from n];rfl
structure Meth(K:Ex)(C:KF)(m:Str)(f:KF):Prop where
 at_:ES K (.ref C) m=be (be (.ref f))
 fn:isFn K (.ref f)=true
 kp:keepIn K (.ref f)=true
section
variable {X:Cx}{pins:List (KF × QJ)}{σ:St}{H:Hp}{s:KM}{a C dx:KF}{fs:List (IT × V)}{f:IT}{v:V}{A:Qu}{E:KB->KM->Prop}
variable{Q:KB->KM->Prop}
def vT{b:Bool}(I:Inv X pins σ H s)(e:H a=be (.ins C dx fs))(c:Cls X.K C)(n:NoAttr X.K C f)(l:fs.lookup f=be v)
  (h:∀ u s',Inv X pins σ H s'->RelV v u->Q u s'):Qs (Qr X.prog X.w) A (getAttr (.ref a) f b) Q E s:=by
 obtain⟨mA,O,r,_,_,_⟩:=gj I.hok e;obtain⟨u,hu,ru⟩:=RelO.some_of (v:=v) (o:=mA f) (by rw[<- l];exact r f);exact vO I.kIn O (c.get f) c.hd n hu (vS ru) (h u _ (I.tok _) ru)
def pz{m:IT}{g:KF}{pl:RO Bool}{Q:KB × List KB->KM->Prop}(I:Inv X pins σ H s)(e:H a=be (.ins C dx fs))(c:Cls X.K C)(k:Meth X.K C m g)(l:fs.lookup m=z7)
  (h:Q (.ref g,[.ref a]) s):Qs (Qr X.prog X.w) A (Rr (.ref a) m pl) Q E s:=by
 obtain⟨mA,O,r,_,_,_⟩:=gj I.hok e;have hn:mA m=none:=RelO.none_of (by rw[<- l];exact r m);exact vP I.kIn O (c.get m) k.at_ k.fn hn h
def vU{y:V}{u:KB}{Q:Unit->KM->Prop}(I:Inv X pins σ H s)(e:H a=be (.ins C dx fs))(c:Cls X.K C)(n:NoAttr X.K C f)(hl:fs.length<1000)(ry:RelV y u)
  (h:∀ s',Inv X pins σ (upd H a (.ins C dx (putF f y fs))) s'->Q () s'):Qs (Qr X.prog X.w) A (setAttr (.ref a) f u) Q E s:=by
 obtain⟨mA,O,r,wi,_,ho⟩:=gj I.hok e;have hz:(fs.map (·.1)).length<=sizeLine:=by rw[EY,Rh];lia
 refine vQ I.kIn O c.sa c.po n.taker c.hd wi hz λh' O' sb=>h _ ?_;have hd:∃ o,h'.get? dx=be o:=let ⟨o,_,_,e',_⟩:=O'.ns;⟨o,e'⟩
 refine I.write (x:=a) (e:=dx) (by rw[e];exact True.intro) (.inr ho) (λb q hb z=>(sb.2 b hb).trans z) hd ?_;refine⟨by rw[aj O.ne];exact ho,?_,O.ne,O'.obj,_,O'.ns,λg=>?_,λg hg=>?_⟩
 .have:=pw f y fs;lia
 .show RelO ((putF f y fs).lookup g) (if g=f then be u else mA g);rw[pv];by_cases q:g=f
  .rw[if_pos q,if_pos q];exact ry
  .rw[if_neg q,if_neg q];exact r g
 .by_cases q:g=f
  .rw[q];exact(jy f y fs).1
  .refine(jy f y fs).2 g (wi g λz=>hg ?_);show(if g=f then be u else mA g)=z7;rw[if_neg q];exact z
def Inv.made(I:Inv X pins σ H s):Inv X pins σ (upd (upd H s.heap.objs.size (.own (s.heap.objs.size+1))) (s.heap.objs.size+1) (.ins C s.heap.objs.size []))
  {s with heap:=(s.heap.push emptyDict).push (instObj C s.heap.objs.size)}:=by
 have e1:(s.heap.push emptyDict).get? s.heap.objs.size=be emptyDict:=Heap.get?_push_size s.heap rfl;have e2:((s.heap.push emptyDict).push (instObj C s.heap.objs.size)).get? (s.heap.objs.size+1)=be (instObj C s.heap.objs.size):=by
  have:=Heap.get?_push_size (s.heap.push emptyDict) (o:=instObj C s.heap.objs.size) rfl;rwa [Heap.size_push] at this
 have e3:(s.heap.push emptyDict).Ns s.heap.objs.size (λ_=>z7):=⟨emptyDict,#[],_,e1,rfl,(λe he=>absurd he (by simp)),λ_=>rfl⟩;have I1:=I.laid (a:=s.heap.objs.size) (o:= .own (s.heap.objs.size+1)) (h':=s.heap.push emptyDict) (t':=s.toks) (λb u q=>Heap.get?_push_of_some _ q) (EK _) ⟨_,e1⟩;refine I1.laid (a:=s.heap.objs.size+1) (o:= .ins C s.heap.objs.size []) (t':=s.toks) (λb u q=>Heap.get?_push_of_some _ q) (GD (Heap.size_push _ _)) ?_;have ne:s.heap.objs.size≠s.heap.objs.size+1:=EZ (Hv _);refine⟨by rw[aj ne,ay],Fl _,ne,e2,λ_=>z7,(Heap.Ns1.of_empty e3).at λo q=>Heap.get?_push_of_some _ q,λ_=>True.intro,λy hy=>absurd rfl hy⟩
def attr_of{prog:P3}{w:Qt}{env:Q4}{e:Qo}{f:IT}{pos:QC}{s:KM}(hb:Qy e f env (Qx e env)=Qx e env)
  (h:Qs (Qr prog w) A (Qx e env) (λo s₁=>Qs (Qr prog w) A (getAttr o f true) Q E s₁) E s):Qs (Qr prog w) A (Qx (.Attribute e f pos) env) Q E s:=
 Attribute_any_ h (by rw[arm_eval_Attribute,hb])
end
def tFld(K:Ex)(ta:TE)(f:IT):TE:=λσ H Q=>ta σ H λx H1=>∃ a C dx fs v,x= .ref a/\H1 a=be (.ins C dx fs)/\Cls K C/\NoAttr K C f/\fs.lookup f=be v/\Q v H1
def sFld(K:Ex)(ta tv:TE)(f:IT):TS:=λD σ H=>tv σ H λy H1=>ta σ H1 λx H2=>∃ a C dx fs,x= .ref a/\H2 a=be (.ins C dx fs)/\Cls K C/\NoAttr K C f/\fs.length<1000/\
 D.nx σ (upd H2 a (.ins C dx (putF f y fs)))
section
variable {X:Cx}{o e value:Qo}{f:IT}{pos d6 Op:QC}{ta tv:TE}
def pA(he:PE X e ta)(hb:Qy e f X.env (Qx e X.env)=Qx e X.env):PE X (.Attribute e f pos) (tFld X.K ta f):=by
 intro pins s σ H Q I h;refine attr_of hb (thn (he pins s σ H _ I h) λu s1 c7=>?_);obtain⟨x,H1,I1,rx,a,C,dx,fs,v,ex,ea,c,n,l,q⟩:=c7;subst ex;obtain rfl:u=Value.ref a:=rx;exact vT I1 ea c n l λu' s2 I2 ru=>⟨v,H1,I2,ru,q⟩
def pB(ha:PE X o ta)(hv:PE X value tv)(hs:QF value (be (.Attribute o f d6)) pos.line X.env=pure false):PS X (.Assign [.Attribute o f d6] value pos) (sFld X.K ta tv f):=by
 intro pins s σ H D I h;refine Rp (thn (hv pins s σ H _ I h) λu s1 ⟨y,H1,I1,ry,q⟩=>thn (ha pins s1 σ H1 _ I1 q) λov s2 hh=>?_) hs;obtain⟨x,H2,I2,rx,a,C,dx,fs,ex,ea,c,n,l,q2⟩:=hh;subst ex;obtain rfl:ov=Value.ref a:=rx;exact vU I2 ea c n l ry λs3 I3=>⟨σ,_,I3,q2⟩
end
section
variable {X:Cx}{pins:List (KF × QJ)}{σ:St}{H:Hp}{s:KM}{A:Qu}{E:KB->KM->Prop}{Q:KB->KM->Prop}{c:KB}{b:Bool}
inductive TyOf(K:Ex)(H:Hp):V->KB->Prop where
 |non:TyOf K H .non (.type "NoneType")
 |bl (x:Bool):TyOf K H (.bl x) (.type "bool")
 |int (i:Int):TyOf K H (.int i) (.type "int")
 |str (x:Str):TyOf K H (.str x) (.type "str")
 |flt (x:UInt64):TyOf K H (.flt x) (.type "float")
 |lst {a:KF} {xs:List V} (e:H a=some (.lst xs)):TyOf K H (.ref a) (.type "list")
 |frz {a:KF} {o:QJ} {xs:List V} (e:H a=some (.frz o (.lst xs))):TyOf K H (.ref a) (.type "list")
 |tup {a:KF} {xs:List V} (e:H a=some (.tup xs)):TyOf K H (.ref a) (.type "tuple")
 |dK {a:KF} {a9:List (Key × V)} (e:H a=some (.dK a9)):TyOf K H (.ref a) (.type "dict")
 |dT {a:KF} {a9:List (List Key × V)} (e:H a=some (.dT a9)):TyOf K H (.ref a) (.type "dict")
 |ins {a C dx:KF} {fs:List (Str × V)} (e:H a=some (.ins C dx fs)) (cl:Cls K C) (ha:ES K (.ref C) "__class__"=some (some (.builtin "object.__class__")))
   (hn:specialIn K (.builtin "object.__class__") "__get__"=be (be (.builtin "getset_descriptor.__get__"))) (htk:takesIn K (.builtin "object.__class__")=be true)
   (hm:FW K C (.type "object")=be true):TyOf K H (.ref a) (.ref C)
def vV{x:V}{u t:KB}(I:Inv X pins σ H s)(rx:RelV x u)(ty:TyOf X.K H x t)(e:kitOne X.K t c=be b)(h:∀ tk,Q (.bool b) {s with toks:=tk}):
  Qs (Qr X.prog X.w) A (call (.builtin "isinstance") [u,c]) Q E s:=by
 cases ty with
 |non=>cases(show u=Value.none from rx);exact kia_one kitx_none I.kIn True.intro e (λz=>nomatch z) h
 |bl y=>cases(show u=Value.bool y from rx);exact kia_one kitx_bool I.kIn True.intro e (λz=>nomatch z) h
 |int i=>obtain⟨t,q⟩:=(show ∃ t,u=Value.int i t from rx);cases q;exact kia_one kitx_int I.kIn True.intro e (λz=>nomatch z) h
 |str y=>obtain⟨t,q⟩:=(show ∃ t,u=Value.str y t from rx);cases q;exact kia_one kitx_str I.kIn True.intro e (λz=>nomatch z) h
 |flt y=>obtain⟨t,q⟩:=(show ∃ t,u=Value.float y t from rx);cases q;exact kia_one kitx_float I.kIn True.intro e (λz=>nomatch z) h
 |@lst a xs ea=>
  cases(show u=Value.ref a from rx);obtain⟨_,_,n,_,h1⟩:=(show ObjOk X.prog X.w H s.heap a (.lst xs) from I.hok a _ ea);exact kia_one kitx_list I.kIn ⟨_,h1,rfl⟩ e (λz=>nomatch z) h
 |@frz a ob xs ea=>
  cases(show u=Value.ref a from rx);obtain⟨_,_,_,n,_,h1⟩:=(show ObjOk X.prog X.w H s.heap a (.frz ob (.lst xs)) from I.hok a _ ea);exact kia_one kitx_list I.kIn ⟨_,h1,rfl⟩ e (λz=>nomatch z) h
 |@tup a xs ea=>
  cases(show u=Value.ref a from rx);obtain⟨_,_,_,p⟩:=(show ObjOk X.prog X.w H s.heap a (.tup xs) from I.hok a _ ea);obtain⟨o,h1,h2,_⟩:=p;exact kia_one kitx_tuple I.kIn ⟨o,h1,h2⟩ e (λz=>nomatch z) h
 |@dK a a9 ea=>
  cases(show u=Value.ref a from rx);obtain⟨_,_,vs,_,p⟩:=(show ObjOk X.prog X.w H s.heap a (.dK a9) from I.hok a _ ea);obtain⟨o,es,ep,h1,h2,_⟩:=p;exact kia_one kitx_dict I.kIn ⟨o,h1,h2.1⟩ e (λz=>nomatch z) h
 |@dT a a9 ea=>
  cases(show u=Value.ref a from rx);obtain⟨_,_,xs,_,o,es,ep,h1,h2,_⟩:=(show ObjOk X.prog X.w H s.heap a (.dT a9) from I.hok a _ ea);exact kia_one kitx_dict I.kIn ⟨o,h1,h2.1⟩ e (λz=>nomatch z) h
 |@ins a C dx fs ea cl ha hn htk hm=>
  cases(show u=Value.ref a from rx);obtain⟨mA,O,_⟩:=gj I.hok ea;obtain⟨od,J,_⟩:=O.look;exact kia_one (kitx_own (cl.get _) cl.hd ha hn htk hm) I.kIn J e (λz=>nomatch z) h
end
structure Room(k:Nat)(A:Qu):Prop where
 hd:A.handled=z7
 dp:A.depth+3*k+5<recursionLimit
 un:A.units+16*k+200<Rm
variable{k:Nat}
def Room.mono{j:Nat}(r:Room k A)(h:j<=k):Room j A:=⟨r.hd,by have:=r.dp;lia,by have:=r.un;lia⟩
def Room.deeper(r:Room (k+1) A)(env:Q4):Room k (A.deeper env):=
 ⟨r.hd,by have:=r.dp;show A.depth+1+3*k+5<_;lia,by have:=r.un;show A.units+3+16*k+200<_;lia⟩
def Room.in1(r:Room (k+1) A):Room k A.in1:=
 ⟨r.hd,by have:=r.dp;show A.depth+3*k+5<_;lia,by have:=r.un;show A.units+1+16*k+200<_;lia⟩
variable{kw:List (IT × KB)}
def vW:(A.under (.builtin "type.__call__" ⟨.ref C::us,kw⟩)).depth=A.depth+1:=by
 first|rfl|simp[Around.under,Code.weight,Code.isCreation,Code.isGuard,Code.isCaller,Code.frames,Code.isFrame,guardIds]
def vX:(A.under (.builtin "type.__call__" ⟨.ref C::us,kw⟩)).units=A.units+1:=by
 first|rfl|simp[Around.under,Code.cUnits,Code.frames,Code.isFrame]
def Room.make(r:Room (k+1) A)(C:KF)(us:List KB)(kw:List (IT × KB)):Room k (A.under (.builtin "type.__call__" ⟨.ref C::us,kw⟩)):=
 ⟨r.hd,by have:=r.dp;rw[vW];lia,by have:=r.un;rw[vX];lia⟩
def Room.depth(r:Room k A):A.depth<recursionLimit:=by have:=r.dp;lia
def Room.units(r:Room k A):A.units+64<Rm:=by have:=r.un;lia
def tNil:TA:=λ_ H Q=>Q [] H
def gk(ta:TE)(tr:TA):TA:=λσ H Q=>ta σ H λx H1=>tr σ H1 λxs H2=>Q (x::xs) H2
section
variable {X:Cx}{e:Qo}{es:List Qo}{te:TE}{t:TA}{pos:QC}
def pa_nil:PA X [] tNil:=λ_ _ _ _ H Q I h=>Calls.spliced_nil ⟨[],H,I,.nil,h⟩
def bg(ha:PE X e te)(hr:PA X es t)(hs:autoParam (zSE X e es) zA0):PA X (e::es) (gk te t):=by
 intro pos pins s σ H Q I h;rw[hs];show Qs _ _ (spliced ((false,Qx e X.env)::Q0 pos (Qv es X.env))) _ _ s;refine Calls.spliced_cons (thn (ha pins s σ H _ I h) λu s1 c7=>?_);obtain⟨x,H1,I1,r1,q1⟩:=c7;exact thn (hr pos pins s1 σ H1 _ I1 q1) λus s2 ⟨xs,H2,I2,r2,q2⟩=>⟨x::xs,H2,I2,.cons r1 r2,q2⟩
def tTup(t:TA):TE:=λσ H Q=>t σ H λxs H1=>xs.length<=sizeLine/\∀ p,H1 p=z7->Q (.ref p) (upd H1 p (.tup xs))
def tLst(t:TA):TE:=λσ H Q=>t σ H λxs H1=>xs.length<=sizeLine/\∀ p,H1 p=z7->Q (.ref p) (upd H1 p (.lst xs))
def pC{x1}(h:PA X es t):PE X (.Tuple es x1 pos) (tTup t):=by
 intro pins s σ H Q I hq;refine wpAny_Tuple_spliced (thn (h pos pins s σ H _ I hq) λus s1 ⟨xs,H1,I1,r,z,q⟩=>⟨by rw[<- r.length];exact z,?_⟩);have hf:H1 s1.heap.objs.size=none:=I1.hok.fresh (EK _);refine⟨.ref s1.heap.objs.size,upd H1 s1.heap.objs.size (.tup xs),I1.laid (t':=s1.toks) (λb u e=>Heap.get?_push_of_some _ e) (EK _) ?_,rfl,q _ hf⟩;exact⟨z,us,r,⟨_,Heap.get?_push_size _ rfl,rfl,_,rfl⟩⟩
def jz(h:PA X es t):PE X (.List es pos) (tLst t):=by
 intro pins s σ H Q I hq;refine wpAny_List_spliced (thn (h pos pins s σ H _ I hq) λus s1 ⟨xs,H1,I1,r,z,q⟩=>⟨by rw[<- r.length];exact z,?_⟩);have hf:H1 s1.heap.objs.size=none:=I1.hok.fresh (EK _);refine⟨.ref s1.heap.objs.size,upd H1 s1.heap.objs.size (.lst xs),I1.laid (t':=s1.toks) (λb u e=>Heap.get?_push_of_some _ e) (EK _) ?_,rfl,q _ hf⟩;exact⟨z,us,0,r,Heap.get?_push_size _ rfl⟩
end
abbrev Sp:=List V->Hp->VK->XK->Prop
abbrev CXT:=List Q4->Hp->KM->XK->KB->KM->Prop
structure Env0(P:P3)(w:Qt)(K:Ex)(mg:Str->Option KB)(base:Heap)(A:Qu)(outer:List Q4)(s:KM)(H:Hp):Prop where
 frames:A.frames=be outer
 mod:Mod K mg base
 bs:∀ b o,base.get? b=be o->s.heap.get? b=be o/\H b=z7
 bsz:base.objs.size<=s.heap.objs.size
 funs:s.heap.FunFrames base outer
 frf:∀ b∈frs outer,H b=z7
 hok:HOk P w H s.heap
 bare:Q7 s.gens
def CE(outer:List Q4)(P:P3)(w:Qt)(H:Hp)(s:KM)(Q:VK)(u:KB)(s':KM):Prop:=
 ∃ v H',s'.os=s.os/\Q7 s'.gens/\Un (frs outer) [] H H' s.heap s'.heap/\HOk P w H' s'.heap/\RelV v u/\Q v H'
def CR(CX:CXT)(outer:List Q4)(P:P3)(w:Qt)(H:Hp)(s:KM)(Q:VK)(E:XK)(r:Result)(s':KM):Prop:=
 match r with
 | .ok (.ret u)=>CE outer P w H s Q u s'
 | .ok _=>False
 | .error e=>CX outer H s E e s'
structure FnOk(P:P3)(w:Qt)(K:Ex)(mg:Str->Option KB)(base:Heap)(CX:CXT)(k:Nat)(f:KF)(fd:Qz)(ps:List Str)(sp:Sp):Prop where
 len:∀ vs H Q E,sp vs H Q E->vs.length=ps.length
 run:∀ (A:Qu) (outer:List Q4) (s:KM) (H:Hp) (args:Args) (us:List KB) (vs:List V) (Q:VK) (E:XK),Room k A->Env0 P w K mg base A outer s H->Ro s fd args (ps.zip us)->Vals vs us->sp vs H Q E->
  Ra (Qr P w) A (.call (.ref f) args) (CR CX outer P w H s Q E) s
variable{f:KF}{mg:IT->Option KB}{base:Heap}{CX:CXT}{fd:Qz}{ps:List IT}{sp:Sp}
def FnOk.mono{j:Nat}(F:FnOk P w K mg base CX j f fd ps sp)(h:j<=k):
  FnOk P w K mg base CX k f fd ps sp:=⟨F.len,λA outer s H args us vs Q E hr=>F.run A outer s H args us vs Q E (hr.mono h)⟩
def FnOk.imp{IV:Sp}(F:FnOk P w K mg base CX k f fd ps sp)
  (h:∀ vs H Q E,IV vs H Q E->sp vs H Q E):FnOk P w K mg base CX k f fd ps IV:=
 ⟨λvs H Q E q=>F.len vs H Q E (h _ _ _ _ q),λA outer s H args us vs Q E hr he hb hv hs=>F.run A outer s H args us vs Q E hr he hb hv (h _ _ _ _ hs)⟩
variable{outer:List Q4}
def Env0.make(e:Env0 P w K mg base A outer s H)(C:KF)(us:List KB)(kw:List (IT × KB)):
  Env0 P w K mg base (A.under (.builtin "type.__call__" ⟨.ref C::us,kw⟩)) outer s H:=⟨by first|exact e.frames|(simpa[Around.under,Code.envs,Code.isFrame,pushEnvs] using e.frames),e.mod,e.bs,e.bsz,e.funs,e.frf,e.hok,e.bare⟩
def Env0.in1(e:Env0 P w K mg base A outer s H):
  Env0 P w K mg base A.in1 outer s H:=⟨e.frames,e.mod,e.bs,e.bsz,e.funs,e.frf,e.hok,e.bare⟩
section
variable {X:Cx}{pins:List (KF × QJ)}{σ:St}{H:Hp}{s s':KM}
def Inv.env0(I:Inv X pins σ H s):Env0 X.prog X.w X.K X.mg X.base X.A X.stack s H:=
 ⟨I.ok.frames,I.ok.mod,I.bs,E1 I.ok.bsz I.sz,I.stack,I.stkFree,I.hok,I.bare⟩
def Inv.after{Q:VK}{u:KB}(I:Inv X pins σ H s)(h:CE X.stack X.prog X.w H s Q u s'):EP X pins σ Q u s':=by
 obtain⟨v,H',os,bare,un,hok,r,q⟩:=h;obtain⟨hh,g,d,t,Oq⟩:=s';obtain rfl:Oq=s.os:=os;exact⟨v,H',I.call (h':=hh) (g':=g) (d':=d) (t':=t) (ch:=[]) un hok bare (λb z=>absurd z (by simp)),r,q⟩
end
def pD(sp:Sp)(o3:List V)(E:XK)(t:TA):TE:=λσ H Q=>t σ H λvs H1=>sp (vs++o3) H1 Q E
def vY(C:KF)(sp:Sp)(o3:List V)(E:XK)(t:TA):TE:=λσ H Q=>t σ H λvs H1=>∀ x dx,H1 x=z7->H1 dx=z7->dx≠x->
 sp (.ref x::(vs++o3)) (upd (upd H1 dx (.own x)) x (.ins C dx [])) (λv H2=>v= .non/\Q (.ref x) H2) E
def Binds(K:Ex)(fd:Qz)(ps:List IT)(ds:List KB):Prop:=
 ∀ (s:KM) (us:List KB),K.In s.heap->(us++ds).length=ps.length->Ro s fd ⟨us,[]⟩ (ps.zip (us++ds))
def Binds.all(h:∀ us:List KB,us.length=ps.length->QY fd ⟨us,[]⟩=pure (ps.zip us)):Binds K fd ps []:=λs us _ hl=>by
 rw[Ft] at hl ⊢;exact .of_eq (h us hl)
def fz(CX:CXT)(X:Cx)(E:XK):Prop:=∀ (pins:List (KF × QJ)) (σ:St) (H:Hp) (s:KM) (e:KB) (s':KM),Inv X pins σ H s->CX X.stack H s E e s'->X.xe e s'
section
variable {X:Cx}{CX:CXT}{k:Nat}{f C:KF}{fd:Qz}{ps:List IT}{sp:Sp}{o3:List V}{ds:List KB}{E:XK}{x m:IT}{p pos apos:QC}{e o:Qo}{es:List Qo}{ta:TE}{t:TA}
variable{pins:List (KF × QJ)}{us:List KB}{vs:List V}
def vZ{σ:St}{H:Hp}{s:KM}{Q:VK}(F:FnOk X.prog X.w X.K X.mg X.base CX k f fd ps sp)(hr:Room k X.A)(hb:Binds X.K fd ps ds)(hd:Vals o3 ds)(hx:fz CX X E)
  (I:Inv X pins σ H s) (r:Vals vs us) (h:sp (vs++o3) H Q E):Qs (Qr X.prog X.w) X.A (call (.ref f) us) (EP X pins σ Q) X.xe s:=by
 have r2:Vals (vs++o3) (us++ds):=r.append hd;have hl:(us++ds).length=ps.length:=by rw[<- r2.length];exact F.len _ _ _ _ h
 refine Q9 (Q2 (F.run X.A X.stack s H ⟨us,[]⟩ (us++ds) (vs++o3) Q E hr I.env0 (hb s us I.kIn hl) r2 h) λr s' hq=>?_);cases r with
 |error e=>exact hx pins σ H s e s' I hq
 |ok fl=>
  cases fl with
  |ret u=>exact I.after hq
  |next=>exact False.elim hq
  |brk=>exact False.elim hq
  |cont=>exact False.elim hq
def wa(F:FnOk X.prog X.w X.K X.mg X.base CX k f fd ps sp)(hr:Room k X.A)(hg:Gl X x)(hm:X.mg x=be (.ref f))(hk:keepIn X.K (.ref f)=true)(hb:Binds X.K fd ps ds)(hd:Vals o3 ds)(hx:fz CX X E)
  (ha:PA X (e::es) t) (e8:autoParam (zND x) zA1) (he:autoParam (zSE X e es) zA0) (c_:autoParam (zPL X pos es) zA0):
  PE X (.Call (.Name x p) (e::es) [] pos) (pD sp o3 E t):=by
 intro pins s σ H Q I h;refine QB (cN I hg hm ?_ e8);refine callWith_K (h₀:=X.base) I.ok.mod.kin hk (thn (ha pos pins s σ H _ I h) λus s1 hh=>⟨hh.elim λ_ h=>h.elim λ_ h=>h.1.kIn,?_⟩) he c_;obtain⟨vs,H1,I1,r,q⟩:=hh;exact vZ F hr hb hd hx I1 r q
structure Mk(K:Ex)(C f:KF):Prop where
 makes:makesIn K C=true
 init:ES K (.ref C) "__init__"=be (be (.ref f))
 fn:isFn K (.ref f)=true
 kp:keepIn K (.ref C)=true
def wb{σ:St}{H:Hp}{s:KM}{Q:VK}(M:Mk X.K C f)(F:FnOk X.prog X.w X.K X.mg X.base CX k f fd ps sp)(hr:Room (k+1) X.A)(hb:Binds X.K fd ps ds)(hd:Vals o3 ds)
  (hx:fz CX X E) (I:Inv X pins σ H s) (r:Vals vs us)
  (h:∀ x dx,H x=z7->H dx=z7->dx≠x->sp (.ref x::(vs++o3)) (upd (upd H dx (.own x)) x (.ins C dx [])) (λv H2=>v= .non/\Q (.ref x) H2) E):
  Qs (Qr X.prog X.w) X.A (call (.ref C) us) (EP X pins σ Q) X.xe s:=by
 have hq:=h (s.heap.objs.size+1) s.heap.objs.size (I.hok.fresh (FQ _)) (I.hok.fresh (EK _)) (EZ (Hv _));have I2:=Inv.made (C:=C) I;have r2:Vals (V.ref (s.heap.objs.size+1)::(vs++o3)) (Value.ref (s.heap.objs.size+1)::(us++ds)):= .cons rfl (r.append hd);have hl:(Value.ref (s.heap.objs.size+1)::us++ds).length=ps.length:=by
  have e:=r2.length;rw[F.len _ _ _ _ hq] at e;exact e.symm
 refine Q9 (vR (f:=f) I.kIn M.makes M.init (beq_iff_eq.mp M.fn) (Q2 (F.run _ X.stack _ _ ⟨Value.ref (s.heap.objs.size+1)::us,[]⟩ (Value.ref (s.heap.objs.size+1)::(us++ds)) _ _ E (hr.make C us [])
  (I2.env0.make C us []) (hb _ (Value.ref (s.heap.objs.size+1)::us) I2.kIn hl) r2 hq) λr s' m5=>?_))
 cases r with
 |error e=>exact hx pins σ _ _ e s' I2 m5
 |ok fl=>
  cases fl with
  |ret u=>
   obtain⟨v,H',I3,rv,ev,q3⟩:=I2.after m5;subst ev;exact⟨rv,⟨V.ref (s.heap.objs.size+1),H',I3,rfl,q3⟩⟩
  |next=>exact False.elim m5
  |brk=>exact False.elim m5
  |cont=>exact False.elim m5
def jA(M:Mk X.K C f)(F:FnOk X.prog X.w X.K X.mg X.base CX k f fd ps sp)(hr:Room (k+1) X.A)(hg:Gl X x)(hm:X.mg x=be (.ref C))(hb:Binds X.K fd ps ds)(hd:Vals o3 ds)(hx:fz CX X E)
  (ha:PA X (e::es) t) (e8:autoParam (zND x) zA1) (he:autoParam (zSE X e es) zA0) (c_:autoParam (zPL X pos es) zA0):
  PE X (.Call (.Name x p) (e::es) [] pos) (vY C sp o3 E t):=by
 intro pins s σ H Q I h;refine QB (cN I hg hm ?_ e8);refine callWith_K (h₀:=X.base) I.ok.mod.kin M.kp (thn (ha pos pins s σ H _ I h) λus s1 hh=>⟨hh.elim λ_ h=>h.elim λ_ h=>h.1.kIn,?_⟩) he c_;obtain⟨vs,H1,I1,r,q⟩:=hh;exact wb M F hr hb hd hx I1 r q
end
structure FnScope(N P:List Str)(sc:QS):Prop where
 kind:sc.kind= .function
 co:sc.isCoroutine=false
 gen:sc.isGenerator=false
 nd:N.Nodup
 pre:N.take P.length=P
 par:∀ x∈P,sc.names.lookup x=be .local\/sc.names.lookup x=be .cell
 nofree:∀ y∈sc.names,y.2≠.free
def pE{kindOf:IT->Option QZ}{x:IT}:∀ {binds:List (IT × KB)} {m:IT->Option KB},(∀ v,(x,v) ∉ binds)->RD kindOf binds m x=m x
 |[],_,_=>rfl
 |(n,v)::r,m,h=>by
  unfold RD;rw[pE λw hw=>h w (EV _ hw)];split
  .have:x≠n:=by rintro rfl;exact h v E2
   simp[this]
  .rfl
def bindC_out{kindOf:IT->Option QZ}{x:IT}:∀ {binds:List (IT × KB)} {m:IT->Option KB},(∀ v,(x,v) ∉ binds)->RE kindOf binds m x=m x
 |[],_,_=>rfl
 |(n,v)::r,m,h=>by
  unfold RE;rw[bindC_out λw hw=>h w (EV _ hw)];split
  .rfl
  .have:x≠n:=by rintro rfl;exact h v E2
   simp[this]
def bindL_get{kindOf:IT->Option QZ}{x:IT}{v:KB}:∀ {P:List IT} {vs:List KB} {i:Nat} {m:IT->Option KB},P.Nodup->P[i]?=be x->vs[i]?=be v->kindOf x=be .local->
  RD kindOf (P.zip vs) m x=be v
 |[],_,_,_,_,h,_,_=>by simp at h
 |_::_,[],_,_,_,_,h,_=>by simp at h
 |p::P,w::vs,0,m,nd,h1,h2,hk=>by
  simp at h1 h2;subst h1;subst h2;show RD kindOf ((p,w)::P.zip vs) m p=_;unfold RD;rw[pE λv hv=>(FG.mp nd).1 (GW hv).1,if_pos hk];simp
 |p::P,w::vs,i+1,m,nd,h1,h2,hk=>by
  show RD kindOf ((p,w)::P.zip vs) m x=_;unfold RD;exact bindL_get (i:=i) (FG.mp nd).2 (by simpa using h1) (by simpa using h2) hk
def pF{kindOf:IT->Option QZ}{x:IT}{v:KB}:∀ {P:List IT} {vs:List KB} {i:Nat} {m:IT->Option KB},P.Nodup->P[i]?=be x->vs[i]?=be v->kindOf x≠be .local->
  RE kindOf (P.zip vs) m x=be v
 |[],_,_,_,_,h,_,_=>by simp at h
 |_::_,[],_,_,_,_,h,_=>by simp at h
 |p::P,w::vs,0,m,nd,h1,h2,hk=>by
  simp at h1 h2;subst h1;subst h2;show RE kindOf ((p,w)::P.zip vs) m p=_;unfold RE;rw[bindC_out λv hv=>(FG.mp nd).1 (GW hv).1,if_neg hk];simp
 |p::P,w::vs,i+1,m,nd,h1,h2,hk=>by
  show RE kindOf ((p,w)::P.zip vs) m x=_;unfold RE;exact pF (i:=i) (FG.mp nd).2 (by simpa using h1) (by simpa using h2) hk
def start(N:List IT)(vs:List V):St:=vs.map be++EQ (N.length - vs.length) z7
def cxOf(CX:CXT)(P:P3)(w:Qt)(K:Ex)(mg:IT->Option KB)(base:Heap)(N:List IT)(qual:IT)(scope:QS)(f:KF)(cd:KB)(A:Qu)(outer:List Q4)(s:KM)(H:Hp)(E:XK):Cx where
 prog:=P
 w:=w
 K:=K
 mg:=mg
 base:=base
 A:=A.deeper (QD qual scope s.heap.objs.size f cd)
 N:=N
 s₀:=s
 H₀:=H
 env:=QD qual scope s.heap.objs.size f cd
 outer:=outer
 stack:=QD qual scope s.heap.objs.size f cd::outer
 ex:=[]
 calm:=true
 fn:=λ_=>true
 pn:=[]
 xe:=λe s'=>Qs (Qr P w) (A.deeper (QD qual scope s.heap.objs.size f cd)) (RJ (QD qual scope s.heap.objs.size f cd) e) (λ_ LH=>CX outer H s E e LH) (λe' LH=>CX outer H s E e' LH) s'
def cell_has{sc:QS}{n:Nat}{x:IT}(h:sc.names.lookup x=be .cell):∃ c,(cellsFrom n sc.names []).lookup x=be c:=by
 have q:=cellsFrom_some sc.names n [] (.inl h);exact Option.isSome_iff_exists.mp q
variable{N:List IT}{scope:QS}
def wc{qual:IT}{cd:KB}{s1:KM}{E:XK}{vs:List V}
  (S:FnScope N ps scope) (hd:A.handled=z7) (e0:Env0 P w K mg base A outer s H) (hl:vs.length=ps.length) (r:Vals vs us)
  (x:InCallC s s.heap.objs.size (RD (QD qual scope s.heap.objs.size f cd).kindOf (ps.zip us) λ_=>z7) (cellsFrom (s.heap.objs.size+1) scope.names []) (RE (QD qual scope s.heap.objs.size f cd).kindOf (ps.zip us) λ_=>z7) s1):
  Inv (cxOf CX P w K mg base N qual scope f cd A outer s H E) [] (start N vs) H s1:=by
 have c_:ps.length<=N.length:=by have:=congrArg FX S.pre;rw[GX] at this;lia
 obtain⟨h1,tk,rfl,hk⟩:=x.done;have Kf:∀ b:KF,b ∉ (cxOf CX P w K mg base N qual scope f cd A outer s H E).ex:=λb z=>absurd (show b∈([]:List KF) from z) (by simp);refine⟨⟨e0.mod,S.kind,rfl,rfl,EK _,λy z c h1 h2=>?_,λy hy=>?_,λy c _ h=>?_,λ_=>hd,Around.frames_deeper e0.frames,.inr ⟨rfl,rfl⟩,λb z=>absurd z (Kf b),e0.bs,e0.bsz,λb _ _=>Kf b,λb z=>absurd z (Kf b),e0.funs,e0.frf⟩,
  rfl,e0.bare,Un.kept hk,⟨_,x.toInCall.ns,λi y v h1 h2 h3=>?_⟩,λy c h=>⟨_,x.cell y c h⟩,e0.hok.fresh (EK _),λy c h=>?_,λp hp=>absurd (show p∈([]:List (KF × QJ)) from hp) (by simp),e0.hok.kept hk,?_⟩
 .exact name_of_addr x.apart (PySem.mem_of_lookup h1) (PySem.mem_of_lookup h2)
 .have hy:scope.names.lookup y=be .cell\/scope.names.lookup y=be .free:=hy;rcases hy with hy|hy
  .exact cell_has hy
  .exact absurd rfl (S.nofree _ (PySem.mem_of_lookup hy))
 .exact GA (x.above y c (PySem.mem_of_lookup h))
 .have hi:i<vs.length:=by
   unfold start at h2;by_cases hi:i<vs.length
   .exact hi
   .rw[FC (by simpa using hi)] at h2;rw[Gf] at h2;split at h2<;>cases h2
  have ha:vs[i]?=be v:=by
   unfold start at h2;rw[Fu (by simpa using hi),E3] at h2;cases e:vs[i]? with
   |none=>rw[e] at h2;cases h2
   |some a=>rw[e] at h2;cases h2;rfl
  obtain⟨u,hu,rv⟩:=r.get ha;have hp:ps[i]?=be y:=by
   rw[<- S.pre,Hw (by lia)];exact h1
  have Nv:ps.Nodup:=by rw[<- S.pre];exact S.nd.sublist (List.take_sublist _ _)
  refine⟨u,rv,?_⟩;rcases S.par y (GY hp) with k|k
  .exact .inl ⟨k,bindL_get Nv hp hu k⟩
  .obtain⟨c,e⟩:=cell_has (n:=s.heap.objs.size+1) k;refine .inr ⟨.inl k,c,e,?_⟩;have q:=x.cell y c e;rw[pF Nv hp hu (by show scope.names.lookup y≠_;rw[k];decide)] at q;exact q
 .exact e0.hok.fresh (GA (x.above y c (PySem.mem_of_lookup h)))
 .unfold start;show _=N.length;rw[EU,EY,GE];lia
def pG{name qual:IT}{params:Arguments}{body:List Qq}{dV kV doc pm cdv ct oc:KB}{an od:Option KF}
  {osl:Array (Option KB)}   (lk:K.lookup f=be ⟨oc,od,.func (fnOf name qual params body scope dV kV doc pm an cdv ct),osl⟩) (g6:codeIn K cdv qual=true) (S:FnScope N ps scope)
  (len:∀ vs H Q E,sp vs H Q E->vs.length=ps.length)
  (b9:∀ (A:Qu) (outer:List Q4) (s:KM) (H:Hp) (vs:List V) (Q:VK) (E:XK),Room k (A.deeper (QD qual scope s.heap.objs.size f cdv))->sp vs H Q E->
   ∃ t,PSs (cxOf CX P w K mg base N qual scope f cdv A outer s H E) body t/\t {nx:=λ_ H'=>Q .non H',rt:=Q} (start N vs) H):
  FnOk P w K mg base CX (k+1) f (fnOf name qual params body scope dV kV doc pm an cdv ct) ps sp:=by
 refine⟨len,λA outer s H args us vs Q E hr e0 hb r q_=>?_⟩;have hl:=len _ _ _ _ q_;have KX:K.In s.heap:=e0.mod.kin.keeps λb o e=>(e0.bs b o e).1;have Ot:s.heap.NoLimit:=e0.mod.nolimit.keeps λb o e=>(e0.bs b o e).1;have Kg:∀ y∈ps.zip us,scope.names.lookup y.1=be .local\/(scope.names.lookup y.1=be .cell/\((cellsFrom (s.heap.objs.size+1) scope.names []).lookup y.1).isSome=true):=λ⟨n,v⟩ hy=>by
  rcases S.par n (GW hy).1 with q|q
  .exact .inl q
  .exact .inr ⟨q,cellsFrom_some _ _ _ (.inl q)⟩
 refine codeAny_call_function hr.depth (KX _ _ lk) rfl S.co S.gen rfl (codeRec_of KX g6) (hb _ _ _ _ ?_);refine wpAny_newFunctionEnv_cells S.kind Kg λenv he s1 x=>?_;subst he;refine⟨Ot.keeps x.toInCall.keep,codeAny_func ?_⟩;obtain⟨t,ht,hq⟩:=b9 A outer s H vs Q E (hr.deeper _) q_;have I:Inv (cxOf CX P w K mg base N qual scope f cdv A outer s H E) [] (start N vs) H s1:=wc S hr.hd e0 hl r x;refine QE (ht [] s1 (start N vs) H _ I hq) (λfl s' hs=>?_) λe s' hs=>hs;have f6:∀ {σ':St} {H':Hp} {v:V} {u:KB},Inv (cxOf CX P w K mg base N qual scope f cdv A outer s H E) [] σ' H' s'->RelV v u->Q v H'->CE outer P w H s Q u s':=
  λ{σ' H' v u} J rv q=>⟨v,H',J.os,J.bare,J.base,J.hok,rv,q⟩
 cases fl with
 |ret u=>
  obtain⟨v,σ',H',J,rv,q⟩:=hs;exact f6 J rv q
 |next=>
  obtain⟨σ',H',J,q⟩:=hs;exact f6 (v:=V.non) (u:=Value.none) J rfl q
 |brk=>
  obtain⟨_,_,_,q⟩:=hs;exact False.elim q
 |cont=>
  obtain⟨_,_,_,q⟩:=hs;exact False.elim q
section
variable {X:Cx}{x:IT}{p pos:QC}{e:Qo}{es:List Qo}{t:TA}{id T:String}{r:List V->Hp->VK->Prop}
def tCB(r:List V->Hp->VK->Prop)(t:TA):TE:=λσ H Q=>t σ H λvs H1=>r vs H1 Q
def gl(hc:bw X (.builtin id) r)(hg:Gl X x)(hm:X.mg x=z7)(hv:QH x=be (.builtin id))(ha:PA X (e::es) t)(hn:autoParam (x≠"__name__") zA1)(e8:autoParam (zND x) zA1)
  (he:autoParam (zSE X e es) zA0) (c_:autoParam (zPL X pos es) zA0):PE X (.Call (.Name x p) (e::es) [] pos) (tCB r t):=by
 intro pins s σ H Q I h;refine QB (dD I hg hm hv ?_ hn e8);exact PyProof.Rows.callWith_builtin1 (thn (ha pos pins s σ H _ I h) λus s1 ⟨vs,H1,I1,r1,q1⟩=>hc pins s1 σ H1 vs us Q I1 r1 q1) he c_
def pH(hc:bw X (.type T) r)(hg:Gl X x)(hm:X.mg x=z7)(hv:QH x=be (.type T))(ha:PA X (e::es) t)(hn:autoParam (x≠"__name__") zA1)(e8:autoParam (zND x) zA1)
  (he:autoParam (zSE X e es) zA0) (c_:autoParam (zPL X pos es) zA0):PE X (.Call (.Name x p) (e::es) [] pos) (tCB r t):=by
 intro pins s σ H Q I h;refine QB (dD I hg hm hv ?_ hn e8);exact PyProof.Rows.callWith_type1 (thn (ha pos pins s σ H _ I h) λus s1 ⟨vs,H1,I1,r1,q1⟩=>hc pins s1 σ H1 vs us Q I1 r1 q1) he c_
end
end L2
namespace HT
open PySem PyProof.Rows
section
variable {prog:P3}{w:Qt}{A:Qu}{E:KB->KM->Prop}{s:KM}
variable{Q:KB->KM->Prop}
def cat_tup{t b:KF}{vs ws:List KB}(ht:IsTup s.heap t vs.toArray)(hb:IsTup s.heap b ws.toArray)(hv:vs≠[])
  (h1:ws=[]->Q (.ref t) s) (h2:ws≠[]->Q (.ref s.heap.objs.size) {s with heap:=s.heap.push {cls:= .type "tuple",data:= .seq (vs++ws).toArray} })
  (g9:vs.length+ws.length<=sizeLine):Qs (Qr prog w) A (QI .Add (.ref t) (.ref b)) Q E s:=by
 obtain⟨⟨cls,dd,data,sl⟩,ho,hc,n,hd⟩:=id ht;obtain⟨⟨Ou,Nw,data2,Nx⟩,Lb,Ny,n2,t_⟩:=id hb;simp only at hc hd Ny t_;subst hc hd Ny t_;have e:vs.toArray++ws.toArray=(vs++ws).toArray:=by simp
 by_cases hw:ws=[]
 .exact concat_meets ⟨_,ho,rfl⟩ ⟨_,Lb,rfl⟩ noFill_tuple_add seq_tuple_add PySem.F.slot_tuple_add PySem.F.entry_tuple_add (PySem.F.args_tuple_add_2 _ _)
   (tuple_addW1 t b vs.toArray ws.toArray n n2 dd Nw sl Nx (by simpa using hv) (by simp[hw])) ⟨ho,Lb,h1 hw⟩
 .refine concat_meets ⟨_,ho,rfl⟩ ⟨_,Lb,rfl⟩ noFill_tuple_add seq_tuple_add PySem.F.slot_tuple_add PySem.F.entry_tuple_add (PySem.F.args_tuple_add_2 _ _)
   (tuple_addW2 t b vs.toArray ws.toArray n n2 dd Nw sl Nx (by simpa using hv) (by simpa using hw) (by rw[EO,EO];exact g9)) ⟨ho,Lb,?_⟩
  rw[e];exact h2 hw
def sIx(n d:Nat):Option Int->Nat
 |none=>d
 |some v=>if v<0 then(v+(n:Int)).toNat else min v.toNat n
def sIx_le(n d:Nat)(hd:d<=n)(o:Option Int):sIx n d o<=n:=by
 cases o with
 |none=>exact hd
 |some v=>
  show(if v<0 then(v+(n:Int)).toNat else min v.toNat n)<=n;by_cases hv:v<0
  .rw[if_pos hv];lia
  .rw[if_neg hv];exact Nat.min_le_right _ _
def pI(v:Int)(n d:Nat):(if v<0 then max (v+(n:Int)) 0 else min v (n:Int))=((sIx n d (be v):Nat):Int):=by
 show(if v<0 then max (v+(n:Int)) 0 else min v (n:Int))=(((if v<0 then(v+(n:Int)).toNat else min v.toNat n):Nat):Int);by_cases hv:v<0
 .simp only[if_pos hv];lia
 .simp only[if_neg hv];lia
def we(lo hi:Option Int)(n:Nat):Builtin.Slice.sliceAdjust lo hi 1 (n:Int)=(((sIx n 0 lo:Nat):Int),((sIx n n hi:Nat):Int)):=by
 have h1:¬ ((1:Int)<0):=by lia
 unfold Builtin.Slice.sliceAdjust;simp only[h1,if_false];refine Prod.ext ?_ ?_
 .cases lo with
  |none=>rfl
  |some v=>exact pI v n 0
 .cases hi with
  |none=>rfl
  |some v=>exact pI v n n
def wg(i j:Nat):Builtin.Slice.slicePlaces (i:Int) (j:Int) 1=j - i:=by
 unfold Builtin.Slice.slicePlaces;have h1:(1:Int)>0:=by lia
 simp only[h1,if_true,Int.ediv_one];split<;>lia
def pJ{v:KB}{o:Option Int}{Q:Option Int->KM->Prop}(p:Rt v o)(h:Q o s):Qs (Qr prog w) A (Builtin.Slice.slicePartIndex v) Q E s:=by
 cases p with
 |none=>exact slicePart_none h
 |int i t=>exact slicePart_int h
variable{lo hi:Option Int}
def wj{sl:KF}{vl vu:KB}{n:Nat}{Q:Int × Int × Nat->KM->Prop}(hs:s.heap.IsSliceOf sl vl vu .none)(pl:Rt vl lo)(pu:Rt vu hi)
  (h:Q (((sIx n 0 lo:Nat):Int),1,sIx n n hi - sIx n 0 lo) s):Qs (Qr prog w) A (Builtin.Slice.sliceApplied (.ref sl) (pure (n:Int))) Q E s:=by
 obtain⟨os,z8,Nz,Ld⟩:=id hs;unfold Builtin.Slice.sliceApplied Builtin.Slice.sliceFields;refine Os (Os (QV z8 Ld (x:=vl) rfl (Os (QV z8 Ld (x:=vu) rfl (Os (QV z8 Ld (x:= .none) rfl (Qp ?_)))))));refine Os (slicePart_none ?_);show Qs _ _ (if((1:Int)==0)=true then _ else _) _ _ s;rw[if_neg (by decide)];refine Os (pJ pl (Os (pJ pu (Os (Qp ?_)))));show Qs _ _ (match Builtin.Slice.sliceAdjust lo hi 1 (n:Int) with|(lo,hi)=>pure (lo,(1:Int),Builtin.Slice.slicePlaces lo hi 1)) _ _ s;rw[we lo hi n];show Qs _ _ (pure (((sIx n 0 lo:Nat):Int),(1:Int),Builtin.Slice.slicePlaces ((sIx n 0 lo:Nat):Int) ((sIx n n hi:Nat):Int) 1)) _ _ s;rw[wg];exact Qp h
def wk(xs:Array KB)(i k:Nat):((EM k).filterMap λ(m:Nat)=>xs[((i:Int)+(m:Int)*1).toNat]?).toArray=((xs.toList.drop i).take k).toArray:=by
 have e:(λ(m:Nat)=>xs[((i:Int)+(m:Int)*1).toNat]?)=λm=>xs[i+m]?:=by
  funext m;have:((i:Int)+(m:Int)*1).toNat=i+m:=by lia
  rw[this]
 rw[e];have:=pick_run xs i k;rw[Hx] at this;have e2:((λx=>xs[x]?) ∘ λx=>i+x)=λm=>xs[i+m]?:=rfl;rw[e2] at this;rw[this]
def getItem_tuple_cut{t sl:KF}{items:Array KB}{vl vu:KB}(ht:IsTup s.heap t items)(hs:s.heap.IsSliceOf sl vl vu .none)(pl:Rt vl lo)(pu:Rt vu hi)
  (hw:¬ (sIx items.size 0 lo=0/\sIx items.size items.size hi=items.size))
  (h:Q (.ref s.heap.objs.size) {s with heap:=s.heap.push {cls:= .type "tuple",data:= .seq ((items.toList.drop (sIx items.size 0 lo)).take (sIx items.size items.size hi - sIx items.size 0 lo)).toArray} })
  (g9:items.size<=sizeLine):Qs (Qr prog w) A (RK (.ref t) (.ref sl)) Q E s:=by
 have p9:sizeOk (.seq ((items.toList.drop (sIx items.size 0 lo)).take (sIx items.size items.size hi - sIx items.size 0 lo)).toArray):=by
  show((items.toList.drop (sIx items.size 0 lo)).take (sIx items.size items.size hi - sIx items.size 0 lo)).toArray.size<=sizeLine;rw[EO,GX,Gg,FN];lia
 have hj:sIx items.size items.size hi<=items.size:=sIx_le _ _ (EK _) hi;obtain⟨os,z8,Nz,Ld⟩:=id hs;have Ov:s.TypeIs (.ref sl) "slice":=⟨os,z8,Nz⟩;unfold RK
 try with_reducible refine QR ?_
 first|refine Os (Qp ?_)|skip
 refine Os (wpAny_sequenceKey ht.typeIs (by decide) ?_);refine Os (wpAny_callSpecial?_slot (name:=Str.ofString "__getitem__") ht.typeIs PyProof.Rows.slot_tuple_getitem
  (wpAny_call_entry PyProof.Rows.slot_tuple_getitem ht.typeIs entry_tuple_getitem ?_ (args_tuple_getitem _ _)))
 show Qs _ _ (Builtin.Tuple.tupleItemsOf (.ref t)>>=_) _ _ s;refine Os (tupleItemsOf_ ht ?_);refine Os (wpAny_typeOf Ov ?_);rw[if_pos (by decide)];refine Os (wj hs pl pu ?_);have d8:¬ ((((sIx items.size 0 lo:Nat):Int)==0 && (1:Int)==1 && (sIx items.size items.size hi - sIx items.size 0 lo)==items.size)=true):=by
  intro q;rw[Ff,Ff] at q;have q1:((sIx items.size 0 lo:Nat):Int)=0:=eq_of_beq q.1.1;have q2:sIx items.size items.size hi - sIx items.size 0 lo=items.size:=eq_of_beq q.2;exact hw ⟨by lia,by lia⟩
 show Qs _ _ (if(((sIx items.size 0 lo:Nat):Int)==0 && (1:Int)==1 && (sIx items.size items.size hi - sIx items.size 0 lo)==items.size)=true then _ else _) _ _ s;rw[if_neg d8,wk]
 first
  |exact Os (m:=Builtin.Tuple.tupleExact _) (QG (Qp ⟨_,rfl,Qp h⟩) p9)
  |exact Os (m:=Builtin.Tuple.tupleExact _) (QG (Os (Qp (Qp ⟨_,rfl,Qp h⟩))) p9)
  |exact Os (Os (m:=Builtin.Tuple.tupleExact _) (QG (Qp (Qp ⟨_,rfl,Qp h⟩)) p9))
  |exact Os (Os (m:=Builtin.Tuple.tupleExact _) (QG (Qp ⟨_,rfl,Qp h⟩) p9))
end
end HT
namespace L2
open PySem PySem.Spec PyProof.Rows
abbrev TO:=St->Hp->(Option Int->Hp->Prop)->Prop
def PO(X:Cx)(e:Option Qo)(t:TO):Prop:=
 ∀ (pins:List (KF × QJ)) (s:KM) (σ:St) (H:Hp) (Q:Option Int->Hp->Prop),Inv X pins σ H s->t σ H Q->
  Qs (Qr X.prog X.w) X.A (evalPart e X.env) (λu s'=>∃ o H',Inv X pins σ H' s'/\Rt u o/\Q o H') X.xe s
def wl:TO:=λ_ H Q=>Q z7 H
def wm(t:TE):TO:=λσ H Q=>t σ H λx H1=>∃ i,x= .int i/\Q (be i) H1
def intsAre_of{ns:List Int}:∀ {us:List KB},Vals (ns.map V.int) us->Rn us ns:=by
 induction ns with
 |nil=>intro us r;rw[Gh] at r;cases r;exact .nil
 |cons n ns ih=>
  intro us r;rw[E4] at r;cases r with
  |cons r1 r2=>
   obtain⟨t,e⟩:=r1;subst e;exact .cons n t (ih r2)
section
variable {X:Cx}{e:Qo}{te:TE}{lo hi:Option Qo}{tl th:TO}{pos p2:QC}
def wn:PO X z7 wl:=by
 intro pins s σ H Q I h;rw[evalPart_none];exact Qp ⟨z7,H,I,.none,h⟩
def wo(h:PE X e te):PO X (be e) (wm te):=by
 intro pins s σ H Q I hw;rw[evalPart_some];refine thn (h pins s σ H _ I hw) λu s1 c7=>?_;obtain⟨x,H1,I1,r1,q1⟩:=c7;obtain⟨i,rfl,q⟩:=q1;obtain⟨t,rfl⟩:=r1;exact⟨be i,H1,I1,.int i t,q⟩
def SlR(X:Cx)(r:V->Option Int->Option Int->Hp->VK->Prop):Prop:=
 ∀ (pins:List (KF × QJ)) (s:KM) (σ:St) (H:Hp) (x:V) (v vl vu:KB) (lo hi:Option Int) (sl:KF) (Q:VK),Inv X pins σ H s->RelV x v->s.heap.IsSliceOf sl vl vu .none->Rt vl lo->Rt vu hi->r x lo hi H Q->
  ∃ T id,typeLookup (.type T) "__getitem__"=pure (be (.builtin id))/\s.TypeIs v T/\Qs (Qr X.prog X.w) X.A (RK v (.ref sl)) (EP X pins σ Q) X.xe s
variable{r:V->Option Int->Option Int->Hp->VK->Prop}
def SlR.or{r':V->Option Int->Option Int->Hp->VK->Prop}(h:SlR X r)(h':SlR X r'):SlR X (λx lo hi H Q=>r x lo hi H Q\/r' x lo hi H Q):=by
 intro pins s σ H x v vl vu lo hi sl Q I rx hs pl pu q;rcases q with q|q
 .exact h pins s σ H x v vl vu lo hi sl Q I rx hs pl pu q
 .exact h' pins s σ H x v vl vu lo hi sl Q I rx hs pl pu q
def tSl(r:V->Option Int->Option Int->Hp->VK->Prop)(te:TE)(tl th:TO):TE:=λσ H Q=>te σ H λx H1=>tl σ H1 λl H2=>th σ H2 λu H3=>r x l u H3 Q
def wq(hr:SlR X r)(he:PE X e te)(hl:PO X lo tl)(hu:PO X hi th):PE X (.Subscript e (.Slice lo hi z7 p2) pos) (tSl r te tl th):=by
 intro pins s σ H Q I h;refine Subscript_ (thn (he pins s σ H _ I h) λv s1 c7=>?_);obtain⟨x,H1,I1,r1,q1⟩:=c7;refine wpAny_Slice (thn (hl pins s1 σ H1 _ I1 q1) λvl s2 ⟨l,H2,I2,pl,q2⟩=>thn (hu pins s2 σ H2 _ I2 q2) λvu s3 c7=>?_);obtain⟨u,H3,I3,pu,q3⟩:=c7;rw[evalPart_none];refine Qp ?_;have I4:Inv X pins σ H3 {s3 with heap:=s3.heap.push {cls:= .type "slice",data:= .fields #[vl,vu,.none]} }:=I3.kept (t':=s3.toks) λb ob q=>Heap.get?_push_of_some _ q;obtain⟨T,id,hT,ht,hg⟩:=hr pins {s3 with heap:=s3.heap.push {cls:= .type "slice",data:= .fields #[vl,vu,.none]} } σ H3 x v vl vu l u s3.heap.objs.size Q I4 r1 (Heap.IsSliceOf.new ..) pl pu q3;show Qs (Qr X.prog X.w) X.A (subscriptTail e (.Slice lo hi z7 p2) v (.ref s3.heap.objs.size)) (EP X pins σ Q) X.xe {s3 with heap:=s3.heap.push {cls:= .type "slice",data:= .fields #[vl,vu,.none]} };exact tail_any (ops:=[.ref s3.heap.objs.size,v]) ht hT hg (by with_unfolding_all rfl)
def cutV(xs:List V)(lo hi:Option Int):List V:=(xs.drop (HT.sIx xs.length 0 lo)).take (HT.sIx xs.length xs.length hi - HT.sIx xs.length 0 lo)
def pK(xs:List V)(lo hi:Option Int):(cutV xs lo hi).length<=xs.length:=by
 unfold cutV;rw[GX,Gg];lia
def rSlT(K:Ex):V->Option Int->Option Int->Hp->VK->Prop:=λx lo hi H Q=>∃ a xs,x= .ref a/\SqT K H a xs/\
 ¬ (HT.sIx xs.length 0 lo=0/\HT.sIx xs.length xs.length hi=xs.length)/\∀ p,H p=z7->Q (.ref p) (upd H p (.tup (cutV xs lo hi)))
def wr:SlR X (rSlT X.K):=by
 intro pins s σ H x v vl vu lo hi sl Q I rx hs pl pu h;obtain⟨a,xs,rfl,hx,hw,q⟩:=h;cases rx;obtain⟨its,r,ht,hz⟩:=I.tuple hx;have b_:its.toArray.size=xs.length:=by rw[EO];exact r.length.symm
 refine⟨"tuple",_,PyProof.Rows.slot_tuple_getitem.lookup,ht.typeIs,?_⟩;refine HT.getItem_tuple_cut ht hs pl pu (by rw[b_];exact hw) ?_ (by rw[b_];exact hz);rw[b_];refine⟨.ref s.heap.objs.size,_,I.laid (t':=s.toks) (o:= .tup (cutV xs lo hi)) (λb ob q=>Heap.get?_push_of_some _ q) (EK _) ?_,rfl,q _ (I.hok.fresh (EK _))⟩;exact⟨E1 (pK xs lo hi) hz,_,(r.drop (HT.sIx xs.length 0 lo)).take (HT.sIx xs.length xs.length hi - HT.sIx xs.length 0 lo),IsTup.new _ _⟩
def pL(K:Ex):R2:=λx y H Q=>∃ a b xs ys,x= .ref a/\y= .ref b/\SqT K H a xs/\SqT K H b ys/\xs≠[]/\xs.length+ys.length<=sizeLine/\
 (ys=[]->Q (.ref a) H)/\(ys≠[]->∀ p,H p=z7->Q (.ref p) (upd H p (.tup (xs++ys))))
def Vals.nil_iff{xs:List V}{us:List KB}(r:Vals xs us):us=[]↔xs=[]:=by
 cases r with
 |nil=>simp
 |cons _ _=>simp
def wt:OpR X (QI .Add) (pL X.K):=by
 intro pins s σ H x y v u Q I rx ry h;obtain⟨a,b,xs,ys,rfl,rfl,ha,hb,hx,hz,q1,q2⟩:=h;cases rx;cases ry;obtain⟨its,r1,p1,_⟩:=I.tuple ha;obtain⟨e9,r2,p2,_⟩:=I.tuple hb;refine HT.cat_tup p1 p2 (λz=>hx (r1.nil_iff.mp z)) (λz=>⟨.ref a,H,I,rfl,q1 (r2.nil_iff.mp z)⟩) (λz=>?_) (by rw[<- r1.length,<- r2.length];exact hz);refine⟨.ref s.heap.objs.size,_,I.laid (t':=s.toks) (o:= .tup (xs++ys)) (λb ob q=>Heap.get?_push_of_some _ q) (EK _) ?_,rfl,q2 (λw=>z (r2.nil_iff.mpr w)) _ (I.hok.fresh (EK _))⟩;exact⟨by rw[EU];exact hz,_,r1.append r2,IsTup.new _ _⟩
end
def ixN(n:Nat)(i:Int):Option Nat:=if 0<=i then(if i<n then be i.toNat else z7) else if -(n:Int)<=i then be (i+n).toNat else z7
def atI{α:Type}(xs:List α)(i:Int):Option α:=(ixN xs.length i).bind λj=>xs[j]?
def pM{n:Nat}{i:Int}{j:Nat}(h:ixN n i=be j):seqIndex? i n=be j/\j<n/\-(n:Int)<=i/\i<n:=by
 unfold ixN at h;by_cases h0:0<=i
 .rw[if_pos h0] at h;by_cases h1:i<n
  .rw[if_pos h1] at h;have e:i.toNat=j:=Option.some.inj h;exact⟨by rw[RQ h0 h1,e],by lia,by lia,h1⟩
  .rw[if_neg h1] at h;cases h
 .rw[if_neg h0] at h;by_cases h1: -(n:Int)<=i
  .rw[if_pos h1] at h;have e:(i+n).toNat=j:=Option.some.inj h;exact⟨by rw[RH (by lia) h1,e],by lia,h1,by lia⟩
  .rw[if_neg h1] at h;cases h
def atI_get{α:Type}{xs:List α}{i:Int}{v:α}(h:atI xs i=be v):∃ j,seqIndex? i xs.length=be j/\xs[j]?=be v/\j<xs.length/\-(xs.length:Int)<=i/\i<xs.length:=by
 unfold atI at h;cases e:ixN xs.length i with
 |none=>rw[e] at h;cases h
 |some j=>
  rw[e] at h;obtain⟨h1,h2,h3,h4⟩:=pM e;exact⟨j,h1,h,h2,h3,h4⟩
def cH{α:Type}{xs:List α}{j:Nat}{v:α}(h:xs[j]?=be v):atI xs (j:Int)=be v:=by
 have hj:j<xs.length:=(E6.mp h).1;have e:ixN xs.length (j:Int)=be j:=by
  unfold ixN;rw[if_pos (by lia),if_pos (by lia)];simp
 unfold atI;rw[e];exact h
def dX(b:Qo):Prop:=∀ o i,subscripted b false o i=operate [o,i] (RK o i)
def IxR(X:Cx)(r:R2):Prop:=
 ∀ (value slice:Qo) (pins:List (KF × QJ)) (s:KM) (σ:St) (H:Hp) (x y:V) (v u:KB) (Q:VK),Inv X pins σ H s->RelV x v->RelV y u->r x y H Q->
  subscripted slice false v u=operate [v,u] (RK v u)->Qs (Qr X.prog X.w) X.A (subscriptTail value slice v u) (EP X pins σ Q) X.xe s
def MtR(X:Cx)(id:String)(r:V->List V->Hp->VK->Prop):Prop:=
 ∀ (pins:List (KF × QJ)) (s:KM) (σ:St) (H:Hp) (x:V) (xs:List V) (v:KB) (us:List KB) (Q:VK),Inv X pins σ H s->RelV x v->Vals xs us->r x xs H Q->
  Qs (Qr X.prog X.w) X.A (call (.builtin id) (v::us)) (EP X pins σ Q) X.xe s
section
variable {X:Cx}{a b:Qo}{ta tb:TE}{pos:QC}
def IxR.or{r r':R2}(h:IxR X r)(h':IxR X r'):IxR X (λx y H Q=>r x y H Q\/r' x y H Q):=by
 intro value slice pins s σ H x y v u Q I rx ry q hs;rcases q with q|q
 .exact h value slice pins s σ H x y v u Q I rx ry q hs
 .exact h' value slice pins s σ H x y v u Q I rx ry q hs
def pe_ix{r:R2}(hr:IxR X r)(ha:PE X a ta)(hb:PE X b tb)(hs:dX b):PE X (.Subscript a b pos) (tOp r ta tb):=by
 intro pins s σ H Q I h;exact Subscript_ (binT ha hb I h λv u s2 x y H2 I2 rx ry q=>hr a b pins s2 σ H2 x y v u Q I2 rx ry q (hs _ _))
def rIxL(K:Ex):R2:=λx y H Q=>∃ p xs i v,x= .ref p/\y= .int i/\SqL K H p xs/\atI xs i=be v/\Q v H
def rIxT(K:Ex):R2:=λx y H Q=>∃ p xs i v,x= .ref p/\y= .int i/\SqT K H p xs/\atI xs i=be v/\Q v H
def rIxS:R2:=λx y H Q=>∃ z i c,x= .str z/\y= .int i/\z.length<=sizeLine/\atI z.cps.toList i=be c/\Q (.str ⟨#[c]⟩) H
def ix_list:IxR X (rIxL X.K):=by
 intro value slice pins s σ H x y v u Q I rx ry h hs;obtain⟨p,xs,i,z,rfl,rfl,hq,he,q⟩:=h;cases rx;obtain⟨t,rfl⟩:=ry;obtain⟨its,r,pl,hz⟩:=I.list hq;obtain⟨j,h1,h2,h3,h4,h5⟩:=atI_get he;obtain⟨w,ew,j5⟩:=r.get h2;have hl:=r.length;have hn:=line63;have f6:EP X pins σ Q w s:=⟨z,H,I,j5,q⟩;by_cases h0:0<=i
 .have hj:i.toNat=j:=by
   rw[RQ h0 h5] at h1;exact Option.some.inj h1
  exact item_listR pl.isList h0 (by lia) (by rw[hj];simpa using ew) f6 hs
 .have hj:(i+(its.toArray.size:Int)).toNat=j:=by
   rw[RH (by lia) h4] at h1;rw[EO,<- hl];exact Option.some.inj h1
  exact RG (x:=w) pl.isList.typeIs slot_list_getitem.lookup
   (wpAny_getItem_list_neg (Q:=λr s'=>r=w/\EP X pins σ Q r s') pl.isList (by lia) (by rw[EO]<;>lia) (by lia) (by rw[hj];simpa using ew) ⟨rfl,f6⟩) hs
def ix_tup:IxR X (rIxT X.K):=by
 intro value slice pins s σ H x y v u Q I rx ry h hs;obtain⟨p,xs,i,z,rfl,rfl,hq,he,q⟩:=h;cases rx;obtain⟨t,rfl⟩:=ry;obtain⟨its,r,pl,hz⟩:=I.tuple hq;obtain⟨j,h1,h2,h3,h4,h5⟩:=atI_get he;obtain⟨w,ew,j5⟩:=r.get h2;have hl:=r.length;have hn:=line63;have f6:EP X pins σ Q w s:=⟨z,H,I,j5,q⟩;exact RG (x:=w) pl.typeIs slot_tuple_getitem.lookup
  (getItem_tuple (j:=j) (Q:=λr s'=>r=w/\EP X pins σ Q r s') pl (by lia) (by lia) (by rw[EO,<- hl];exact h1) (by simpa using ew) ⟨rfl,f6⟩) hs
def wu:IxR X rIxS:=by
 intro value slice pins s σ H x y v u Q I rx ry h hs;obtain⟨z,i,c,rfl,rfl,hz,he,q⟩:=h;obtain⟨t,rfl⟩:=rx;obtain⟨t',rfl⟩:=ry;obtain⟨j,h1,h2,h3,h4,h5⟩:=atI_get he;have hl:z.cps.toList.length=z.length:=by simp[Str.length]
 rw[hl] at h1 h4 h5;have hn:=line63;exact tail_any (RY s z t) slot_str_getitem.lookup (getItem_str (c:=c) (by
  have e1:decide (i< -(2 ^ 63:Int))=false:=decide_eq_false (by lia);have e2:decide (i >= 2 ^ 63)=false:=decide_eq_false (by lia);rw[e1,e2,Bool.or_false]) (by rw[h1];simpa using h2) ⟨.str ⟨#[c]⟩,H,I.tok _,⟨_,rfl⟩,q⟩) hs
def rIx(K:Ex):R2:=λx y H Q=>rIxL K x y H Q\/rIxT K x y H Q\/rIxS x y H Q
def pN:IxR X (rIx X.K):=ix_list.or (ix_tup.or wu)
def wv(its:List KB)(n j:Nat)(u:KB):Obj.mapSeq (·.setIfInBounds j u) {cls:= .type "list",data:= .seq its.toArray n}={cls:= .type "list",data:= .seq (its.set j u).toArray n}:=by
 simp[Obj.mapSeq]
def Inv.lst{pins:List (KF × QJ)}{σ:St}{H:Hp}{s:KM}{p:KF}{xs:List V}(I:Inv X pins σ H s)(h:H p=be (.lst xs)):
  ∃ (its:List KB) (n:Nat),Vals xs its/\s.heap.get? p=be {cls:= .type "list",data:= .seq its.toArray n}/\xs.length<=sizeLine:=by
 obtain⟨z,its,n,r,e⟩:=I.hok p _ h;exact⟨its,n,r,e,z⟩
variable{pins:List (KF × QJ)}{s:KM}
def Inv.lstUpd{σ:St}{H:Hp}{p:KF}{xs ys:List V}{its its':List KB}{n n':Nat}{f:QJ->QJ}(I:Inv X pins σ H s)(h:H p=be (.lst xs))
  (ho:s.heap.get? p=be {cls:= .type "list",data:= .seq its.toArray n}) (hf:f {cls:= .type "list",data:= .seq its.toArray n}={cls:= .type "list",data:= .seq its'.toArray n'}) (r:Vals ys its') (hz:ys.length<=sizeLine) (t:Nat):
  Inv X pins σ (upd H p (.lst ys)) {s with heap:=s.heap.update p f,toks:=t}:=by
 have e:(s.heap.update p f).get? p=be {cls:= .type "list",data:= .seq its'.toArray n'}:=by
  rw[Heap.get?_update_self f ho (by rw[hf]<;>rfl),hf]
 refine I.write (x:=p) (e:=p) (by rw[h];trivial) (.inl rfl) (λb u hb q=>(Heap.get?_update_other _ _ (Ne.symm hb)).trans q) ⟨_,e⟩ ?_;exact⟨hz,its',n',r,e⟩
def ww:V->V->V->Hp->(Hp->Prop)->Prop:=λo i v H Q=>∃ p xs k j,o= .ref p/\i= .int k/\H p=be (.lst xs)/\ixN xs.length k=be j/\Q (upd H p (.lst (xs.set j v)))
def wx:PSet X ww:=by
 intro pins s σ H o i v ov iv u Q I ro ri rv h;obtain⟨p,xs,k,j,rfl,rfl,hp,hj,q⟩:=h;cases ro;obtain⟨t,rfl⟩:=ri;obtain⟨its,n,r,ho,hz⟩:=I.lst hp;obtain⟨h1,h2,h3,h4⟩:=pM hj;have hl:=r.length;have hn:=line63;have I':Inv X pins σ (upd H p (.lst (xs.set j v))) {s with heap:=s.heap.update p (Obj.mapSeq (·.setIfInBounds j u))}:=
  I.lstUpd hp ho (wv its n j u) (r.set rv j) (by rw[FR];exact hz) s.toks
 by_cases h0:0<=k
 .have hk:k.toNat=j:=by
   rw[RQ h0 h4] at h1;exact Option.some.inj h1
  exact ki_setAt ho h0 (by lia) (by rw[EO,<- hl];exact h4) (by rw[hk];exact⟨_,I',q⟩)
 .have hk:(k+(its.toArray.size:Int)).toNat=j:=by
   rw[RH (by lia) h3] at h1;rw[EO,<- hl];exact Option.some.inj h1
  exact ki_setBack ho (by lia) (by rw[EO,<- hl];exact h3) (by lia) (by rw[hk];exact⟨_,I',q⟩)
def wy(lo hi:Option Int)(n:Nat):(QW lo hi z7 n).1=((HT.sIx n 0 lo:Nat):Int)/\(QW lo hi z7 n).2.1=((HT.sIx n n hi:Nat):Int)/\(QW lo hi z7 n).2.2=1:=by
 refine⟨?_,?_,rfl⟩
 .cases lo with
  |none=>simp[QW,HT.sIx]
  |some i=>
   simp only[QW,HT.sIx,Hy,show(1:Int)>0 by decide,if_true];by_cases h:i<0
   .simp only[h,if_true]<;>lia
   .simp only[h,if_false]<;>lia
 .cases hi with
  |none=>simp[QW,HT.sIx]
  |some i=>
   simp only[QW,HT.sIx,Hy,show(1:Int)>0 by decide,if_true];by_cases h:i<0
   .simp only[h,if_true]<;>lia
   .simp only[h,if_false]<;>lia
def wz(its:List KB)(lo hi:Option Int):slicePick its.toArray lo hi z7=((its.drop (HT.sIx its.length 0 lo)).take (HT.sIx its.length its.length hi - HT.sIx its.length 0 lo)).toArray:=by
 obtain⟨h1,h2,h3⟩:=wy lo hi its.toArray.size;unfold slicePick;rw[h1,h2,h3];simp only[sliceRange_one,pick_run,EO]<;>rfl
def rSlL(K:Ex):V->Option Int->Option Int->Hp->VK->Prop:=λx lo hi H Q=>∃ a xs,x= .ref a/\SqL K H a xs/\∀ p,H p=z7->Q (.ref p) (upd H p (.lst (cutV xs lo hi)))
def wA:SlR X (rSlL X.K):=by
 intro pins s σ H x v vl vu lo hi sl Q I rx hs pl pu h;obtain⟨a,xs,rfl,hx,q⟩:=h;cases rx;obtain⟨its,r,ht,hz⟩:=I.list hx;have b_:=r.length;refine⟨"list",_,slot_list_getitem.lookup,ht.isList.typeIs,?_⟩;refine wpAny_getItem_list_slice ht.isList hs pl pu .none (by simp) ?_ (by rw[EO]<;>lia);rw[wz,<- b_];refine⟨.ref s.heap.objs.size,_,I.laid (t':=s.toks) (o:= .lst (cutV xs lo hi)) (λb ob q=>Heap.get?_push_of_some _ q) (EK _) ?_,rfl,q _ (I.hok.fresh (EK _))⟩;exact⟨E1 (pK xs lo hi) hz,_,0,(r.drop (HT.sIx xs.length 0 lo)).take (HT.sIx xs.length xs.length hi - HT.sIx xs.length 0 lo),Heap.get?_push_size _ rfl⟩
def bp:V->Bool
 | .non=>true
 | .bl _=>true
 | .int _=>true
 | .str _=>true
 |_=>false
def eqV:V->V->Bool
 | .non,.non=>true
 | .bl a,.bl b=>a==b
 | .bl a,.int b=>(if a then 1 else 0)==b
 | .int a,.bl b=>a==(if b then 1 else 0)
 | .int a,.int b=>a==b
 | .str a,.str b=>a==b
 |_,_=>false
variable{x:V}
def eqAt_V{A:Qu}{y:V}{u v:KB}(ry:RelV y u)(rx:RelV x v)(fy:bp y=true)(fx:bp x=true):SeqAt.EqAt A s u v (eqV y x):=by
 cases y with
 |non=>
  cases ry;cases x with
  |non=>cases rx;exact SeqAt.EqAt.same _
  |bl b=>cases rx;exact SeqAt.EqAt.none_bool b
  |int b=>obtain⟨t,rfl⟩:=rx;exact SeqAt.EqAt.none_int b t
  |str b=>obtain⟨t,rfl⟩:=rx;exact SeqAt.EqAt.none_str b t
  |_=>exact absurd (show false=true from fx) ET
 |bl a=>
  cases ry;cases x with
  |non=>cases rx;exact SeqAt.EqAt.bool_none a
  |bl b=>cases rx;exact SeqAt.EqAt.bool_bool a b
  |int b=>obtain⟨t,rfl⟩:=rx;exact SeqAt.EqAt.bool_int a b t
  |str b=>obtain⟨t,rfl⟩:=rx;exact SeqAt.EqAt.bool_str a b t
  |_=>exact absurd (show false=true from fx) ET
 |int a=>
  obtain⟨t',rfl⟩:=ry;cases x with
  |non=>cases rx;exact SeqAt.EqAt.int_none a t'
  |bl b=>cases rx;exact SeqAt.EqAt.int_bool a t' b
  |int b=>obtain⟨t,rfl⟩:=rx;exact SeqAt.EqAt.int_int a t' b t
  |str b=>obtain⟨t,rfl⟩:=rx;exact SeqAt.EqAt.int_str a t' b t
  |_=>exact absurd (show false=true from fx) ET
 |str a=>
  obtain⟨t',rfl⟩:=ry;cases x with
  |non=>cases rx;exact SeqAt.EqAt.str_none a t'
  |bl b=>cases rx;exact SeqAt.EqAt.str_bool a t' b
  |int b=>obtain⟨t,rfl⟩:=rx;exact SeqAt.EqAt.str_int a t' b t
  |str b=>obtain⟨t,rfl⟩:=rx;exact SeqAt.EqAt.str_str a t' b t
  |_=>exact absurd (show false=true from fx) ET
 |_=>exact absurd (show false=true from fy) ET
def eqU(x:V)(u:KB):Bool:=match u with
 | .none=>eqV .non x
 | .bool b=>eqV (.bl b) x
 | .int i _=>eqV (.int i) x
 | .str z _=>eqV (.str z) x
 |_=>false
def pO{y:V}{u:KB}(r:RelV y u)(f:bp y=true):eqU x u=eqV y x:=by
 cases y with
 |non=>cases r;rfl
 |bl b=>cases r;rfl
 |int i=>obtain⟨t,rfl⟩:=r;rfl
 |str z=>obtain⟨t,rfl⟩:=r;rfl
 |_=>exact absurd (show false=true from f) ET
def jB{x:V}:∀ {xs:List V} {us:List KB},Vals xs us->xs.all bp=true->us.any (eqU x)=xs.any λy=>eqV y x
 |_,_,.nil,_=>rfl
 |y::xs,u::us,.cons r t,f=>by
  rw[FD,Ff] at f;rw[FY,FY,pO r f.1,jB t f.2]
def mem_eqAt{A:Qu}{s:KM}{x:V}{v:KB}(rx:RelV x v)(fx:bp x=true):∀ {xs:List V} {us:List KB},Vals xs us->xs.all bp=true->∀ u∈us,SeqAt.EqAt A s u v (eqU x u)
 |_,_,.nil,_=>λu hu=>by cases hu
 |y::xs,u::us,.cons r t,f=>λu' hu=>by
  rw[FD,Ff] at f;rcases ER.mp hu with rfl|hu
  .rw[pO r f.1];exact eqAt_V r rx f.1 fx
  .exact mem_eqAt rx fx t f.2 u' hu
def inV(x:V)(xs:List V):Bool:=xs.any λy=>eqV y x
def rIn(K:Ex)(neg:Bool):R2:=λx y H Q=>∃ p xs,y= .ref p/\(SqL K H p xs\/SqT K H p xs)/\bp x=true/\xs.all bp=true/\Q (.bl (if neg then !inV x xs else inV x xs)) H
def wB:OpR X (QA .NotIn) (rIn X.K true):=by
 intro pins s σ H x y v u Q I rx ry h;obtain⟨p,xs,rfl,hq,fx,fs,q⟩:=h;cases ry;rcases hq with hq|hq
 .obtain⟨its,r,pl,hz⟩:=I.list hq;refine SeqAt.notIn_listAt (eqU x) pl.isList (λw hw=>mem_eqAt rx fx r fs w (by simpa using hw)) ⟨.bl _,H,I,rfl,?_⟩;rw[show its.toArray.any (eqU x)=its.any (eqU x) by simp,jB r fs];exact q
 .obtain⟨its,r,pl,hz⟩:=I.tuple hq;refine SeqAt.notIn_tupleAt (eqU x) pl (λw hw=>mem_eqAt rx fx r fs w (by simpa using hw)) ⟨.bl _,H,I,rfl,?_⟩;rw[show its.toArray.any (eqU x)=its.any (eqU x) by simp,jB r fs];exact q
def wC:OpR X (QA .NotIn) (λx y H Q=>∃ i j,x= .str i/\y= .str j/\Q (.bl (!(!(Builtin.Str.occurrences j i 0 j.length 1).isEmpty))) H):=by
 intro pins s σ H x y v u Q I rx ry h;obtain⟨i,j,rfl,rfl,q⟩:=h;obtain⟨t,rfl⟩:=rx;obtain⟨t',rfl⟩:=ry;exact notIn_str ⟨.bl _,H,I,rfl,q⟩
def wD:bw X (.type "tuple") (λxs H Q=>∃ p ys,xs=[.ref p]/\((SqL X.K H p ys/\∀ l,H l=z7->Q (.ref l) (upd H l (.tup ys)))\/(SqT X.K H p ys/\Q (.ref p) H))):=by
 intro pins s σ H xs us Q I r h;obtain⟨p,ys,rfl,h⟩:=h;obtain⟨u,rfl,rx⟩:=bG r;cases rx;rcases h with⟨hq,q⟩|⟨hq,q⟩
 .obtain⟨its,r',pl,hz⟩:=I.list hq;have b_:=r'.length;refine call_tuple_list pl.isList (λh' kp=>?_) (by simp only[EO]<;>lia);have I1:Inv X pins σ H {s with heap:=h'}:=I.kept (t':=s.toks) kp;have I2:Inv X pins σ (upd H h'.objs.size (.tup ys)) {s with heap:=h'.push {cls:= .type "tuple",data:= .seq its.toArray} }:=
   I1.laid (t':=s.toks) (λb o e=>Heap.get?_push_of_some _ e) (EK _) (show ObjOk X.prog X.w _ _ _ (.tup ys) from⟨hz,its,r',IsTup.new _ _⟩)
  exact⟨.ref h'.objs.size,_,I2,rfl,q _ (I1.hok.fresh (EK _))⟩
 .obtain⟨its,r',pl,hz⟩:=I.tuple hq;exact call_tuple_same pl ⟨.ref p,H,I,rfl,q⟩
def tyV(K:Ex)(T:String)(x:V)(H:Hp):Prop:=match x with
 | .str _=>T="str"
 | .int _=>T="int"
 | .ref p=>(T="list"/\∃ xs,SqL K H p xs)\/(T="tuple"/\∃ o,K.lookup p=be o/\o.cls= .type "tuple"/\o.dict=z7)\/
   (T="dict"/\((∃ a9,H p=be (.dK a9))\/∃ a9,H p=be (.dT a9)))\/(T="set"/\∃ S n,H p=be (.set S n))
 |_=>False
def wE{σ:St}{H:Hp}{T:String}{v:KB}(I:Inv X pins σ H s)(r:RelV x v)(ty:tyV X.K T x H):
  s.TypeIs v T/\∀ a,v= .ref a->∃ ob,s.heap.get? a=be ob/\ob.dict=none:=by
 cases x with
 |str z=>
  obtain⟨t,rfl⟩:=r;cases(show T="str" from ty);exact⟨RY s z t,λ_ e=>nomatch e⟩
 |int i=>
  obtain⟨t,rfl⟩:=r;cases(show T="int" from ty);exact⟨RZ s i t,λ_ e=>nomatch e⟩
 |ref p=>
  cases r;rcases ty with⟨rfl,xs,hq⟩|⟨rfl,o,hk,hc,hd⟩|⟨rfl,hk⟩|⟨rfl,S,n,hk⟩
  .obtain⟨its,_,pl,_⟩:=I.list hq;refine⟨pl.isList.typeIs,λa e=>?_⟩;cases e;obtain⟨o,n,e,c,hd,_⟩:=pl;exact⟨o,e,hd⟩
  .refine⟨⟨o,I.kIn p o hk,hc⟩,λa e=>?_⟩;cases e;exact⟨o,I.kIn _ o hk,hd⟩
  .have z:∃ o,s.heap.get? p=be o/\o.ExactDict:=by
    rcases hk with⟨a9,hk⟩|⟨a9,hk⟩
    .obtain⟨_,_,_,_,o,_,_,e,ex,_⟩:=I.hok p _ hk;exact⟨o,e,ex⟩
    .obtain⟨_,_,_,_,o,_,_,e,ex,_⟩:=I.hok p _ hk;exact⟨o,e,ex⟩
   obtain⟨o,e,ex⟩:=z;refine⟨⟨o,e,ex.1⟩,λa e2=>?_⟩;cases e2;exact⟨o,e,ex.2.1⟩
  .obtain⟨o,_,_,_,e,ex,_⟩:=I.hok p _ hk;refine⟨⟨o,e,ex.1⟩,λa e2=>?_⟩;cases e2;exact⟨o,e,ex.2.1⟩
 |_=>exact False.elim ty
def tBM(K:Ex)(T:String)(r:V->List V->Hp->VK->Prop)(to:TE)(t:TA):TE:=λσ H Q=>to σ H λx H1=>tyV K T x H1/\t σ H1 λxs H2=>r x xs H2 Q
variable {o e:Qo}{es:List Qo}{to:TE}{t:TA}{name:IT}{apos cpos:QC}{T id:String}{r:V->List V->Hp->VK->Prop}
def dY(pa:PlainAttrs T)(slot:Slot T name id)(LI:typeOf (.builtin id)=pure (.type "method_descriptor"))(hm:MtR X id r)(ho:PE X o to)(ha:PA X (e::es) t)
  (c8:autoParam (Qy o name X.env (Qx o X.env)=Qx o X.env) zA0)
  (e_:((Q0 cpos (Qv (e::es) X.env)).all (λx=>!x.1) && (Rj cpos (QX [] X.env)).all (λx=>x.1.isSome)
   && decide ((e::es).length+([]:List Rk).length+(if([]:List Rk).isEmpty then 0 else 1)<30))=true:=by rfl)
  (d4:autoParam ((apos.endLine==cpos.line)=true) zA0) (hs:autoParam (zSE X e es) zA0) (o6:autoParam (zPL X cpos es) zA0):
  PE X (.Call (.Attribute o name apos) (e::es) [] cpos) (tBM X.K T r to t):=by
 intro pins s σ H Q I h;refine wpAny_Call_method_late c8 e_ d4 rfl (thn (ho pins s σ H _ I h) λv s1 c7=>?_);obtain⟨x,H1,I1,r1,ty,q1⟩:=c7;obtain⟨h1,h2⟩:=wE I1 r1 ty;refine⟨T,id,pa,slot,LI,h1,h2,?_⟩;have hA:=ha cpos pins s1 σ H1 _ I1 q1;rw[hs] at hA ⊢;refine Calls.callWith_builtin (by show(false||(Q0 cpos (Qv es X.env)).any (·.1))=false;rw[o6]<;>rfl) (Calls.evalArgs_plain ?_);exact thn hA λus s2 ⟨vs,H2,I2,r2,q2⟩=>hm pins s2 σ H2 x vs v us Q I2 r1 r2 q2
end
def MtM(X:Cx)(id:String)(r:V->List V->Hp->VK->Prop):Prop:=
 ∀ (pins:List (KF × QJ)) (s:KM) (σ:St) (H:Hp) (x:V) (xs:List V) (v:KB) (us:List KB) (Q:VK),Inv X pins σ H s->RelV x v->Vals xs us->r x xs H Q->
  Qs (Qr X.prog X.w) X.A (call (.builtin id) (v::us)) (EP X pins σ Q) X.xe s
def Vals.one:∀ {x:V} {us:List KB},Vals [x] us->∃ u,us=[u]/\RelV x u:=by
 intro x us h;cases h with
 |cons r h=>cases h;exact⟨_,rfl,r⟩
def Vals.two:∀ {x y:V} {us:List KB},Vals [x,y] us->∃ u v,us=[u,v]/\RelV x u/\RelV y v:=by
 intro x y us h;cases h with
 |cons r h=>
  obtain⟨u,rfl,q⟩:=Vals.one h;exact⟨_,_,rfl,r,q⟩
def Vals.zero:∀ {us:List KB},Vals [] us->us=[]
 |_,.nil=>rfl
def Vals.dropLast{xs:List V}{us:List KB}(h:Vals xs us):Vals xs.dropLast us.dropLast:=by
 induction h with
 |nil=>exact .nil
 |cons r t ih=>
  cases t with
  |nil=>exact .nil
  |cons q t'=>exact .cons r ih
def Vals.rep{xs:List V}{us:List KB}(h:Vals xs us):∀ k:Nat,Vals (EQ k xs).flatten (EQ k us).flatten
 |0=> .nil
 |k+1=>by
  rw[Fv,Fv,FH,FH];exact Vals.append h (Vals.rep h k)
def pP(its:List KB):∀ (k:Nat) (f_:List KB),
  GZ (λx1 x2=>x1++x2) f_.toArray (EQ k its.toArray)=(f_++(EQ k its).flatten).toArray
 |0,f_=>by simp
 |k+1,f_=>by
  have e:f_.toArray++its.toArray=(f_++its).toArray:=by simp
  have e2:(f_++its)++(EQ k its).flatten=f_++(EQ (k+1) its).flatten:=by
   rw[Fv,FH,Fh]
  rw[<- e2,<- pP its k (f_++its),<- e,Fv,Hz]
section
variable {X:Cx}{pins:List (KF × QJ)}{σ:St}{H:Hp}{s:KM}{l b:KF}{xs ys zs:List V}
variable{its:List KB}
def Inv.lset{its':List KB}{n:Nat}{f:Array KB->Array KB}{t':Nat}(I:Inv X pins σ H s)(hH:H l=be (.lst xs))
  (e:s.heap.get? l=be {cls:= .type "list",data:= .seq its.toArray n}) (hf:f its.toArray=its'.toArray) (hv:Vals ys its') (hz:ys.length<=sizeLine):
  Inv X pins σ (upd H l (.lst ys)) {s with heap:=s.heap.update l (Obj.mapSeq f),toks:=t'}:=by
 have q:=PySem.IsL.update e f;rw[hf] at q;refine I.write (x:=l) (e:=l) (by rw[hH];exact trivial) (.inl rfl) (λb' u hb hu=>(Heap.get?_update_other s.heap (Obj.mapSeq f) (Ne.symm hb)).trans hu) ⟨_,q⟩ ?_;exact⟨hz,its',_,hv,q⟩
def Inv.lnew{t':Nat}(I:Inv X pins σ H s)(hv:Vals ys its)(hz:ys.length<=sizeLine):
  Inv X pins σ (upd H s.heap.objs.size (.lst ys)) {s with heap:=s.heap.push {cls:= .type "list",data:= .seq its.toArray},toks:=t'}:=
 I.laid (λ_ _ q=>Heap.get?_push_of_some _ q) (EK _) ⟨hz,its,0,hv,Heap.get?_push_size _ rfl⟩
def Inv.fresh(I:Inv X pins σ H s):H s.heap.objs.size=none:=I.hok.fresh (EK _)
def Inv.lstM(I:Inv X pins σ H s)(hH:H l=be (.lst xs)):xs.length<=sizeLine/\∃ (its:List KB) (n:Nat),Vals xs its/\xs.length=its.length/\s.heap.get? l=be {cls:= .type "list",data:= .seq its.toArray n}:=by
 obtain⟨z,its,n,r,e⟩:=I.hok l _ hH;exact⟨z,its,n,r,r.length,e⟩
def pQ{n:Nat}(h:n<=sizeLine):Builtin.List.listTooLong n=false:=by
 unfold Builtin.List.listTooLong;exact decide_eq_false (by lia)
end
section
variable {X:Cx}
def wF:V->List V->Hp->VK->Prop:=λx vs H Q=>∃ l xs y,x= .ref l/\vs=[y]/\H l=be (.lst xs)/\xs.length<sizeLine/\Q .non (upd H l (.lst (xs++[y])))
def gm:MtM X "list.append" wF:=by
 intro pins s σ H x vs v us Q I rx rv h;obtain⟨l,xs,y,rfl,rfl,hH,hz,q⟩:=h;cases rx;obtain⟨u,rfl,ru⟩:=rv.one;obtain⟨z,its,n,r,hl,e⟩:=I.lstM hH;refine Rz F.slot_list_append ⟨_,e,rfl⟩ F.entry_list_append (F.args_list_append_2 _ _) (PySem.list_append l its.toArray n u (by rw[EO];lia)) ⟨e,?_⟩;refine⟨.non,_,I.lset (its':=its++[u]) hH e (by simp) (r.append (.cons ru .nil)) ?_,rfl,q⟩;rw[EU,List.length_singleton];lia
def wG:V->List V->Hp->VK->Prop:=λx vs H Q=>∃ l b xs zs,x= .ref l/\vs=[.ref b]/\H l=be (.lst xs)/\H b=be (.lst zs)/\xs.length+zs.length<=sizeLine/\Q .non (upd H l (.lst (xs++zs)))
def EF:MtM X "list.extend" wG:=by
 intro pins s σ H x vs v us Q I rx rv h;obtain⟨l,b,xs,zs,rfl,rfl,hH,hB,hz,q⟩:=h;cases rx;obtain⟨u,rfl,ru⟩:=rv.one;cases ru;obtain⟨z,its,n,r,hl,e⟩:=I.lstM hH;obtain⟨z2,e9,n2,r2,IW,e2⟩:=I.lstM hB;have g9:its.toArray.size+e9.toArray.size<=sizeLine:=by rw[EO,EO];lia
 have u9:¬ (!its.toArray.isEmpty && Builtin.List.listTooLong (its.toArray.size+e9.toArray.size))=true:=by
  rw[pQ g9,HA];exact ET
 refine Rz F.slot_list_extend ⟨_,e,rfl⟩ F.entry_list_extend (F.args_list_extend_2 _ _)
  (AutoSeq1.list_extend_list_list_0 l its.toArray n b e9.toArray n2 u9 (by rw[EO];lia) (by lia)) ⟨e,e2,?_⟩
 refine⟨.non,_,I.lset (its':=its++e9) hH e (by simp) (r.append r2) ?_,rfl,q⟩;rw[EU];lia
def rCat:R2:=λx y H Q=>∃ l b xs zs,x= .ref l/\y= .ref b/\H l=be (.lst xs)/\H b=be (.lst zs)/\xs.length+zs.length<=sizeLine/\∀ p,H p=z7->Q (.ref p) (upd H p (.lst (xs++zs)))
def wH:OpR X (QI .Add) rCat:=by
 intro pins s σ H x y v u Q I rx ry h;obtain⟨l,b,xs,zs,rfl,rfl,hH,hB,hz,q⟩:=h;cases rx;cases ry;obtain⟨z,its,n,r,hl,e⟩:=I.lstM hH;obtain⟨z2,e9,n2,r2,IW,e2⟩:=I.lstM hB;refine PySem.P.add_list e e2 ?_ (by rw[EO,EO];lia);have ea:its.toArray++e9.toArray=(its++e9).toArray:=by simp
 rw[ea];exact⟨.ref _,_,I.lnew (t':=s.toks) (r.append r2) (by rw[EU];lia),rfl,q _ I.fresh⟩
def rRep:R2:=λx y H Q=>∃ l k xs,x= .ref l/\y= .int k/\H l=be (.lst xs)/\-(2 ^ 63)<=k/\k<2 ^ 63/\xs.length*k.toNat<=sizeLine/\
 ∀ p,H p=z7->Q (.ref p) (upd H p (.lst (EQ k.toNat xs).flatten))
def wI{α:Type}(xs:List α)(k:Nat):(EQ k xs).flatten.length=k*xs.length:=by
 induction k with
 |zero=>simp
 |succ k ih=>rw[Fv,FH,EU,ih,GF,Gi]
def wJ:OpR X (QI .Mult) rRep:=by
 intro pins s σ H x y v u Q I rx ry h;obtain⟨l,k,xs,rfl,rfl,hH,h1,h2,hz,q⟩:=h;cases rx;obtain⟨t,rfl⟩:=ry;obtain⟨z,its,n,r,hl,e⟩:=I.lstM hH;have b_:its.toArray.size*k.toNat<=sizeLine:=by rw[EO,<- hl];exact hz
 have LJ:¬ its.toArray.size*k.toNat>(2 ^ 63 - 1) / 8:=by
  have:(sizeLine:Nat)<=(2 ^ 63 - 1) / 8:=by decide
  lia
 have LK:¬ (!Builtin.List.listFitsIndex k)=true:=by
  rw[fitsIndex_both h1 h2];exact ET
 have u9:¬ Builtin.List.listTooLong (its.toArray.size*k.toNat)=true:=by
  rw[pQ b_];exact ET
 have LL:GZ (λx1 x2=>x1++x2) #[] (EQ (if its.toArray.isEmpty=true then 0 else k.toNat) its.toArray)=(EQ k.toNat its).flatten.toArray:=by
  have f0:∀ m:Nat,GZ (λx1 x2=>x1++x2) #[] (EQ m its.toArray)=(EQ m its).flatten.toArray:=λm=>by
   have:=pP its m [];rw[G0] at this;exact this
  rw[f0];cases its with
  |nil=>simp
  |cons a r'=>rw[if_neg (by simp)]
 refine wpAny_binaryOp_repeat_ref (T:="list") (U:="int") (by decide) ⟨_,e,rfl⟩ (λs'=>RZ s' k t) noFill_list_mul F.fills_int_mul F.slot_int_rmul repeat_list F.slot_int_index.lookup
  (Rz F.slot_int_rmul (RZ s k t) F.entry_int_rmul (F.args_int_rmul_2 _ _) (int___rmul___int_list k t l its.toArray n)
   ⟨e,rfl,⟨_,e,rfl⟩,Rz F.slot_list_mul ⟨_,e,rfl⟩ F.entry_list_mul (F.args_list_mul_2 _ _) (AutoListH.list___mul___list_int_3 l its.toArray n k t LK LJ u9) ⟨e,?_⟩⟩)
 rw[LL];exact⟨.ref _,_,I.lnew (t':=s.toks) (r.rep k.toNat) (by rw[wI,G1];exact hz),rfl,q _ I.fresh⟩
end
end L2
namespace NA
open PySem PySem.W PySem.Calls PyProof.Rows
variable{P:Params}
def wK{h:Heap}:∀ (ns:List Int) (vs:List KB),WellAll P h vs (ns.map WData.int)->Rn vs ns:=by
 intro ns;induction ns with
 |nil=>
  intro vs w;rw[Gh] at w;cases w;exact .nil
 |cons n ns ih=>
  intro vs w;rw[E4] at w;cases w with
  |cons a b=>
   cases a;exact .cons _ _ (ih _ b)
variable{l:OpenLaw}
def wL{n:Nat}(hn:l.most=be n){h:Heap}{args:List WData}{Jp:List KB}
  (z9:l.row.toRowW.claim.pre args=true) (LM:WellAll P h Jp args):
  ∃ a vs ns,Jp=[Value.ref a]/\args=[WData.list (ns.map WData.int)]/\h.get? a=be {cls:= .type "list",data:= .seq vs.toArray}/\Rn vs ns/\ns.length<=n:=by
 have Ow:WShape.hasAll [] args [.list .int]=true:=(pre_splitW z9).1;have hc:l.pre.holds [] {args:=args}=true:=(pre_splitW z9).2;obtain⟨d,r,rfl,h1,h2⟩:=hasAllW_cons Ow;obtain rfl:=hasAllW_nil h2;obtain⟨xs,rfl,h3⟩:=hasW_list h1;obtain⟨ns,rfl⟩:=items_int h3;have b_:ns.length<=n:=by
  unfold OpenLaw.pre at hc;have h4:(WTm.not (.lt (.lit (.int (n:Int))) (.len (.arg 0)))).holds [] {args:=[.list (ns.map .int)]}=true:=by
   have h4:=(holds_andW hc).1;rw[hn] at h4;exact h4
  have h5:=condW_of h4 (w_not (w_lt w_lit (w_len_list (w_arg rfl))));rw[EY] at h5;refine Gj λq=>?_;have q':(n:Int)<((ns.length:Nat):Int):=by lia
  first
   |(rw[decide_eq_true q'] at h5;exact absurd h5 (by decide))
   |(simp at h5;lia)
 cases LM with
 |cons w1 w2=>
  cases w2;cases w1 with
  |list ho LN=>exact⟨_,_,ns,rfl,rfl,ho,wK ns _ LN,b_⟩
def wM(l:OpenLaw)(args:List WData):l.row.toRowW.claim.post args (.bool true) args=true:=
 postW_of (r:=l.row.toRowW) (X:=(true==true))
  (show WShape.has [] (.bool true) .bool=true by first|rfl|decide|simp[WShape.has,WShape.arms,WShape.armsAll])
  (show(WTm.eq .res (.lit (.bool true))).value [] {args:=args,res:=be (.bool true),after:=args}=be (.bool (true==true)) from w_eq_bool (w_res rfl) w_lit) rfl
def attach_call{n:Nat}{q:P3}{j9:List IT}{XP:(IT->Option KB)->Heap->Prop}{YP:Qt->Heap->Prop}{d:DefRec}
  (hn:l.most=be n) (Kh:d.params.defaults=[])
  (call:∀ (w:Qt) (s₀ s₁:KM) (mg mb:IT->Option KB) (fa:KF) (o:QJ) (pm cd doc:KB) (a:KF) (vs:List KB) (ns:List Int),
   Ground q j9 [] XP w s₀ mg mb s₁.heap->YP w s₁.heap->
   s₁.heap.get? fa=be o->o.data= .func (docDef d.name d.params d.body d.scope pm cd doc)->s₁.heap.CodeRec cd d.name->mg d.name=be (.ref fa)->
   s₁.heap.get? a=be {cls:= .type "list",data:= .seq vs.toArray}->Rn vs ns->ns.length<=n->s₁.gens=#[]->
   Ra (Qr l.prog w) Rl (.call (.ref fa) ⟨[.ref a],[]⟩) (λr s'=>r= .ok (.ret (.bool true))/\OldK s₁.heap s'.heap/\s'.os=s₁.os/\Q7 s'.gens) s₁):
  WalkO q j9 XP YP l.row.toRowW d [] (λf vs=>PySem.call f vs):=by
 intro w s₀ s₁ mg mb G Y fa o pm cd doc dV kV ho hd g6 hD m6 hg args Jp as z9 Ox PP LM PQ;obtain rfl:dV= .none:=Dflts.none hD Kh;obtain rfl:kV= .none:=Dflts.noKw hD;obtain⟨a,vs,ns,rfl,rfl,Jq,u_,b_⟩:=wL hn z9 LM;refine enter_call (Q2 (call w s₀ s₁ mg mb fa o pm cd doc a vs ns G Y ho (fd_plain hd) g6 m6 Jq u_ b_ hg) λr s' hq=>?_);obtain⟨rfl,h2,h3,h4⟩:=hq;exact⟨.inl ⟨.bool true,.bool true,[],rfl,λ_=>rfl,.bool true,wM l _,λ_=>⟨List.Pairwise.nil,λ_ hm=>(nomatch hm)⟩⟩,h2,h3,h4⟩
end NA
namespace L2
open PySem PySem.Spec PyProof.Rows
def pR:∀ {vs:List KB} {ns:List Int},Rn vs ns->Vals (ns.map V.int) vs
 |_,_,.nil=> .nil
 |_,_,.cons n t h=> .cons ⟨t,rfl⟩ (pR h)
def Only(H:Hp):Prop:=∀ b,H b=z7\/∃ o xs,H b=be (.frz o (.lst xs))
variable{P:P3}{w:Qt}{a:KF}
def wO{K:Ex}{mg mb:IT->Option KB}{CX:CXT}{k:Nat}{fa:KF}{fd:Qz}{x:IT}{sp:Sp}{s₁:KM}{vs:List KB}{ns:List Int}
  (KX:K.In s₁.heap) (hns:s₁.heap.Ns Pi mg) (hb:s₁.heap.Ns R4 mb) (Oy:∀ x:IT,x≠"__name__"->mb x=QH x) (LO:s₁.heap.NoLimit) (hg:s₁.gens=#[])
  (ha:s₁.heap.get? a=be {cls:= .type "list",data:= .seq vs.toArray}) (hi:Rn vs ns) (hl:ns.length<=sizeLine) (hr:Room k Rl)
  (F:∀ base:Heap,K.In base->base.Ns Pi mg->FnOk P w K mg base CX k fa fd [x] sp) (Ki:∀ (s:KM) (u:KB),Ro s fd ⟨[u],[]⟩ [(x,u)])
  (q_:∀ H:Hp,Only H->SqL K H a (ns.map V.int)->sp [.ref a] H (λv _=>v= .bl true) λ_ _ _=>False)
  (LP:∀ H e s',CX [] H s₁ (λ_ _ _=>False) e s'->False):
  Ra (Qr P w) Rl (.call (.ref fa) ⟨[.ref a],[]⟩) (λr s'=>r= .ok (.ret (.bool true))/\OldK s₁.heap s'.heap/\s'.os=s₁.os/\Q7 s'.gens) s₁:=by
 have rv:=pR hi;have LQ:=hi.length;have Kk:∀ H:Hp,Only H->SqL K H a (ns.map V.int)->HOk P w H s₁.heap->(∀ b,H b≠z7->b=a)->(H a≠z7->K.lookup a=z7)->
   Ra (Qr P w) Rl (.call (.ref fa) ⟨[.ref a],[]⟩) (λr s'=>r= .ok (.ret (.bool true))/\OldK s₁.heap s'.heap/\s'.os=s₁.os/\Q7 s'.gens) s₁:=by
  intro H hO hS hok hA hK;have p_:∀ {b:KF} {o:QJ},s₁.heap.get? b=be o->H b=z7->(hidT s₁.heap H).get? b=be o:=λe n=>uj e n;have Kf:∀ {b:KF} {o:QJ} {es:Array DictEntry} {ep:Nat},s₁.heap.get? b=be o->o.data= .dict es ep->H b=none:=λ{b o es ep} e d=>by
   cases q:H b with
   |none=>rfl
   |some u=>
    have e':b=a:=hA b (by rw[q];simp);subst e';rw[ha] at e;cases e;have d':Data.seq vs.toArray _=Data.dict es ep:=d;cases d'
  have Lf:∀ {b:KF} {m:IT->Option KB},s₁.heap.Ns b m->(hidT s₁.heap H).Ns b m:=λ{b m} ⟨o,es,ep,e,d,r⟩=>⟨o,es,ep,p_ e (Kf e d),d,r⟩;have NC:K.In (hidT s₁.heap H):=λb o e=>p_ (KX b o e) (by
   cases q:H b with
   |none=>rfl
   |some u=>
    have e':b=a:=hA b (by rw[q];simp);subst e';rw[hK (by rw[q];simp)] at e;cases e)
  have hM:Mod K mg (hidT s₁.heap H):=⟨NC,Lf hns,⟨mb,Lf hb,Oy⟩,let ⟨mc,h1,h2⟩:=LO;⟨mc,Lf h1,h2⟩⟩;have e0:Env0 P w K mg (hidT s₁.heap H) Rl [] s₁ H:=⟨rfl,hM,λb o e=>uk e,GD (ui _ _),trivial,λb hb=>absurd (show b∈([]:List KF) from hb) (by simp),hok,.of_eq hg⟩;refine Q2 ((F _ NC (Lf hns)).run Rl [] s₁ H ⟨[.ref a],[]⟩ [.ref a] [.ref a] _ _ hr e0 (Ki s₁ (.ref a)) (.cons rfl .nil) (q_ H hO hS)) λr s' h=>?_;cases r with
  |error e=>exact(LP H e s' h).elim
  |ok fl=>
   cases fl with
   |next=>exact False.elim h
   |brk=>exact False.elim h
   |cont=>exact False.elim h
   |ret u=>
    obtain⟨v,H',os,bare,un,LR,r',q⟩:=h;have q':v= .bl true:=q;subst q';obtain rfl:u=Value.bool true:=r';refine⟨rfl,OldK.of_keep λb o e=>?_,os,bare⟩;cases q:H b with
    |none=>exact un.keep b o e q (by intro z;exact absurd (show b∈([]:List KF) from z) (by simp)) (by simp)
    |some u=>
     rcases hO b with z|⟨ob,xs,z⟩
     .rw[q] at z;cases z
     .have z2:=un.frzs b ob _ z;obtain⟨e1,_⟩:=hok b _ z;obtain⟨e2,_⟩:=LR b _ z2;rw[e] at e1;cases e1;exact e2
 cases hk:K.lookup a with
 |some o=>
  have e:=KX a o hk;rw[ha] at e;cases e;refine Kk (λ_=>z7) (λ_=> .inl rfl) (.inr ⟨_,vs.toArray,_,hk,rfl,rfl,rfl,by rw[EO,LQ];exact hl,by simpa using rv⟩) (λb u z=>by have z':(z7:Option HO)=be u:=z;cases z') (λb z=>absurd rfl z) λz=>absurd rfl z
 |none=>
  refine Kk (λb=>if b=a then be (.frz {cls:= .type "list",data:= .seq vs.toArray} (.lst (ns.map V.int))) else z7) (λb=>?_) (.inl (.inr ⟨{cls:= .type "list",data:= .seq vs.toArray},if_pos rfl⟩)) (λb u z=>?_) (λb z=>?_) λ_=>hk
  .by_cases hb:b=a
   .exact .inr ⟨_,_,if_pos hb⟩
   .exact .inl (if_neg hb)
  .by_cases hb:b=a
   .have z':=(if_pos hb).symm.trans z;cases z';subst hb;exact⟨ha,by rw[EY];exact hl,vs,_,rv,ha⟩
   .have z':=(if_neg hb).symm.trans z;cases z'
  .by_cases hb:b=a
   .exact hb
   .exact absurd (if_neg hb) z
def walk_of{l:G2}{n k:Nat}{q:P3}{j9:List IT}{XP:(IT->Option KB)->Heap->Prop}{YP:Qt->Heap->Prop}{d:DefRec}{K:Params->Ex}{CX:Qt->CXT}{sp:Qt->Sp}{x:IT}
  (hn:l.most=be n) (y8:n<=sizeLine) (Kh:d.params.defaults=[]) (hr:Room k Rl)
  (hY:∀ (w:Qt) (h:Heap),YP w h->(K w.params).In h)
  (F:∀ (w:Qt) (mg:IT->Option KB) (fa:KF) (h:Heap),(K w.params).In h->h.Ns Pi mg->mg d.name=be (.ref fa)->
   ∃ fd:Qz,(∀ (s:KM) (u:KB),Ro s fd ⟨[u],[]⟩ [(x,u)])/\
    ∀ base:Heap,(K w.params).In base->base.Ns Pi mg->FnOk l.prog w (K w.params) mg base (CX w) k fa fd [x] (sp w))
  (q_:∀ (w:Qt) (H:Hp) (a:KF) (ns:List Int),ns.length<=n->Only H->SqL (K w.params) H a (ns.map V.int)->sp w [.ref a] H (λv _=>v= .bl true) λ_ _ _=>False)
  (LP:∀ (w:Qt) (H:Hp) (s:KM) (e:KB) (s':KM),CX w [] H s (λ_ _ _=>False) e s'->False):
  HB q j9 XP YP l.row.toRowW d [] (λf vs=>PySem.call f vs):=by
 refine NA.attach_call hn Kh λw s₀ s₁ mg mb fa o pm cd doc a vs ns G Y ho hd g6 m6 Jq u_ b_ hg=>?_;have KX:=hY w _ Y;obtain⟨fd,hb,hF⟩:=F w mg fa _ KX G.T.g m6;exact wO KX G.T.g G.T.b G.T.builtins G.T.nolimit hg Jq u_ (E1 b_ y8) hr hF hb (λH hO hS=>q_ w H a ns b_ hO hS) λH e s'=>LP w H s₁ e s'
def aZ(s:Qq)(j:Nat):Qq:=match s with
 | .ClassDef _ _ _ body _ _ _ _ _ _ _=>body.getD j (.Pass ⟨0,0,0,0⟩)
 |_=> .Pass ⟨0,0,0,0⟩
def bA(s:Qq):Arguments:=match s with
 | .FunctionDef _ a _ _ _ _ _ _ _ _=>a
 |_=>{posonlyargs:=[],args:=[],vararg:=z7,kwonlyargs:=[],kw_defaults:=[],kwarg:=z7,defaults:=[]}
def aE(s:Qq):List Qq:=match s with
 | .FunctionDef _ _ b _ _ _ _ _ _ _=>b
 |_=>[]
def af(s:Qq):QS:=match s with
 | .FunctionDef _ _ _ _ _ _ sc _ _ _=>sc
 |_=>{kind:= .function,names:=[],isGenerator:=false,isCoroutine:=false}
abbrev CX0:CXT:=λ_ _ _ _ _ _=>False
abbrev E0:XK:=λ_ _ _=>False
structure Fun(K:Ex)(x qual:Str)(st:Qq)(f:KF)(fd:Qz):Prop where
 ex:∃ (oc:KB) (od:Option KF) (kV doc pm:KB) (an:Option KF) (cdv ct:KB) (osl:Array (Option KB)),
  fd=fnOf x qual (bA st) (aE st) (af st) .none kV doc pm an cdv ct/\K.lookup f=be ⟨oc,od,.func fd,osl⟩/\codeIn K cdv qual=true
 kp:keepIn K (.ref f)=true
section
variable {P:P3}{w:Qt}{K:Ex}{mg:IT->Option KB}{base:Heap}
variable{x qual:IT}{st:Qq}{f:KF}{ps:List IT}
def Fun.ok{fd:Qz}{N:List IT}{k:Nat}{sp:Sp}(F:Fun K x qual st f fd)(S:FnScope N ps (af st))(len:∀ vs H Q E,sp vs H Q E->vs.length=ps.length)
  (b9:∀ (cdv:KB) (A:Qu) (outer:List Q4) (s:KM) (H:Hp) (vs:List V) (Q:VK) (E:XK),Room k (A.deeper (QD qual (af st) s.heap.objs.size f cdv))->sp vs H Q E->
   ∃ t,PSs (cxOf CX0 P w K mg base N qual (af st) f cdv A outer s H E).nox (aE st) t/\t {nx:=λ_ H'=>Q .non H',rt:=Q} (start N vs) H):FnOk P w K mg base CX0 (k+1) f fd ps sp:=by
 obtain⟨oc,od,kV,doc,pm,an,cdv,ct,osl,rfl,lk,g6⟩:=F.ex;refine pG lk g6 S len λA outer s H vs Q E hr q_=>?_;obtain⟨t,h,q⟩:=b9 cdv A outer s H vs Q E hr q_;exact⟨t,h.nox,q⟩
def Fun.binds{fd:Qz}(F:Fun K x qual st f fd)
  (h:∀ (kV doc pm:KB) (an:Option KF) (cdv ct:KB) (us:List KB),us.length=ps.length->QY (fnOf x qual (bA st) (aE st) (af st) .none kV doc pm an cdv ct) ⟨us,[]⟩=pure (ps.zip us)):Binds K fd ps []:=by
 obtain⟨oc,od,kV,doc,pm,an,cdv,ct,osl,rfl,lk,g6⟩:=F.ex;exact .all (h kV doc pm an cdv ct)
def gp{oc:KB}{od an:Option KF}{osl:Array (Option KB)}{kV doc pm cdv ct:KB}(l:K.lookup f=be ⟨oc,od,.func (fnOf x qual (bA st) (aE st) (af st) .none kV doc pm an cdv ct),osl⟩)
  (c:codeIn K cdv qual=true) (k:keepIn K (.ref f)=true):Fun K x qual st f (fnOf x qual (bA st) (aE st) (af st) .none kV doc pm an cdv ct):=⟨⟨oc,od,kV,doc,pm,an,cdv,ct,osl,rfl,l,c⟩,k⟩
end
def jC{A:Qu}{k:Nat}(hr:Room k A):A.units+1<Rm:=HC (Nat.add_le_add_left (by decide:1<=64) _) hr.units
def wP{n:Nat}(h:n<=1000):n<sizeLine:=HC h (by decide)
def ite2{c A B:Prop}[Decidable c](h1:c->A)(h2:¬ c->B):if c then A else B:=by
 by_cases h:c
 .rw[if_pos h];exact h1 h
 .rw[if_neg h];exact h2 h
def Same(H H':Hp):Prop:=∀ b o,H b=be o->H' b=be o
def Same.refl(H:Hp):Same H H:=λ_ _ h=>h
variable{H:Hp}
def Same.trans{H1 H2:Hp}(a:Same H H1)(b:Same H1 H2):Same H H2:=λc o h=>b c o (a c o h)
variable{H':Hp}
def Same.free(e:Same H H'){l:KF}(h:H' l=Option.none):H l=Option.none:=by
 cases q:H l with
 |none=>rfl
 |some o=>
  rw[e l o q] at h;cases h
def Same.seq{K:Ex}{xs:List V}(e:Same H H')(h:SqL K H a xs):SqL K H' a xs:=by
 rcases h with(h|⟨o,h⟩)|h
 .exact .inl (.inl (e _ _ h))
 .exact .inl (.inr ⟨o,e _ _ h⟩)
 .exact .inr h
section
variable {κ:Type}[DecidableEq κ]
def valV(a9:List (κ × V))(k:κ):Option V:=(a9.find? λkv=>decide (kv.1=k)).map (·.2)
def putK(a9:List (κ × V))(k:κ)(v:V):List (κ × V):=
 if(a9.any λkv=>decide (kv.1=k))=true then a9.map (λkv=>if kv.1=k then(kv.1,v) else kv) else a9++[(k,v)]
def jD{p:κ × V}{r:List (κ × V)}{k:κ}(e:p.1=k):valV (p::r) k=be p.2:=by simp[valV,FZ,e]
def jE{p:κ × V}{r:List (κ × V)}{k:κ}(e:¬ p.1=k):valV (p::r) k=valV r k:=by simp[valV,FZ,e]
def RelO.getD{o:Option V}{u:Option KB}{d:V}{d':KB}(r:RelO o u)(rd:RelV d d'):RelV (o.getD d) (u.getD d'):=by
 cases o with
 |none=>cases u with
  |none=>exact rd
  |some _=>exact(show False from r).elim
 |some _=>cases u with
  |none=>exact(show False from r).elim
  |some _=>exact r
def KV.val{a9:List (κ × V)}{vs:List (κ × KB)}(r:KV a9 vs)(k:κ):RelO (valV a9 k) (Rv vs k):=by
 unfold KV at r;induction r with
 |nil=>exact True.intro
 |@cons p q ps qs h t ih=>
  obtain⟨h1,h2⟩:=h;by_cases e:p.1=k
  .have e':q.1=k:=h1.symm.trans e;have b:Rv (q::qs) k=be q.2:=by simp[Rv,FZ,e']
   rw[jD e,b];exact h2
  .have e':¬ q.1=k:=λz=>e (h1.trans z);have b:Rv (q::qs) k=Rv qs k:=by simp[Rv,FZ,e']
   rw[jE e,b];exact ih
def KV.any{a9:List (κ × V)}{vs:List (κ × KB)}(r:KV a9 vs)(k:κ):(a9.any λkv=>decide (kv.1=k))=vs.any λkv=>decide (kv.1=k):=by
 unfold KV at r;induction r with
 |nil=>rfl
 |cons h t ih=>rw[FY,FY,ih,h.1]
def KV.keys{a9:List (κ × V)}{vs:List (κ × KB)}(r:KV a9 vs):a9.map (·.1)=vs.map (·.1):=by
 unfold KV at r;induction r with
 |nil=>rfl
 |cons h t ih=>rw[E4,E4,ih,h.1]
def KV.length{a9:List (κ × V)}{vs:List (κ × KB)}(r:KV a9 vs):a9.length=vs.length:=Paired.length r
end
def pS{k:Key}{u:KB}(r:RelV (kV k) u):(bF P w).is k u=true:=by
 cases k with
 |inl i=>obtain⟨t,e⟩:=(show ∃ t,u=Value.int i t from r);subst e;exact mixKind_int P w i t
 |inr x=>obtain⟨t,e⟩:=(show ∃ t,u=Value.str x t from r);subst e;exact uf P w x t
def pT{P:P3}{w:Qt}:∀ {ks:List Key} {us:List KB},Vals (ks.map kV) us->ItemsAre (bF P w) ks us
 |[],_,r=>by rw[Gh] at r;cases r;exact .nil
 |k::ks,_,r=>by
  rw[E4] at r;cases r with
  |cons h t=>exact .cons (pS h) (pT t)
abbrev KT(H:Hp):List (List Key × V)->List (List Key × KF × KB)->Prop:=Paired λp q=>p.1=q.1/\H q.2.1=be (.tup (p.1.map kV))/\RelV p.2 q.2.2
variable{xs:List (List Key × KF × KB)}{a9:List (List Key × V)}
def KT.val(r:KT H a9 xs)(k:List Key):RelO (valV a9 k) ((Ru xs k).map (·.2)):=by
 induction r with
 |nil=>exact True.intro
 |@cons p q ps qs h t ih=>
  obtain⟨h1,_,h2⟩:=h;by_cases e:p.1=k
  .have e':q.1=k:=h1.symm.trans e;have b:Ru (q::qs) k=be q.2:=by simp[Ru,FZ,e']
   rw[jD e,b];exact h2
  .have e':¬ q.1=k:=λz=>e (h1.trans z);have b:Ru (q::qs) k=Ru qs k:=by simp[Ru,FZ,e']
   rw[jE e,b];exact ih
def KT.keeps(r:KT H a9 xs)(ht:∀ b ys,H b=be (.tup ys)->H' b=be (.tup ys)):KT H' a9 xs:=
 Paired.mapP r λ_ _ z=>⟨z.1,ht _ _ z.2.1,z.2.2⟩
section
variable {P:P3}{w:Qt}{H:Hp}{h:Heap}{a:KF}
def pU{u:HO}(ok:HOk P w H h)(e:Rd H a u):ObjOk P w H h a u:=e.ok ok
def wQ{a9:List (Key × V)}(ok:HOk P w H h)(e:Rd H a (.dK a9)):a9.length<=sizeLine/\(a==QO)=false/\∃ vs,KV a9 vs/\h.DictOf (bF P w) a vs:=
 show ObjOk P w H h a (.dK a9) from pU ok e
def key_of{ks:List Key}(ok:HOk P w H h)(e:H a=be (.tup (ks.map kV))):(Q8 (bF P w)).is h ks a:=by
 obtain⟨_,its,r,o,h1,h2,n,h3⟩:=(show ObjOk P w H h a (.tup (ks.map kV)) from ok a _ e);exact⟨o,its.toArray,n,h1,h2,h3,by simpa using pT r⟩
variable{a9:List (List Key × V)}
def pV(ok:HOk P w H h)(e:Rd H a (.dT a9)):a9.length<=sizeLine/\(a==QO)=false/\
  ∃ xs,KT H a9 xs/\h.DictOfH (Q8 (bF P w)) a xs:=by
 obtain⟨z,y,xs,r,o,es,ep,h1,h2,h3,h4,h5⟩:=(show ObjOk P w H h a (.dT a9) from pU ok e);refine⟨z,y,xs,r,o,es,ep,h1,h2,h3,h4,λx hx=>?_,h5⟩;have all:∀ {l:List (List Key × V)} {m:List (List Key × KF × KB)},KT H l m->∀ x∈m,(Q8 (bF P w)).is h x.1 x.2.1:=by
  intro l m q;induction q with
  |nil=>intro x hx;exact nomatch hx
  |@cons p q ps qs hq t ih=>
   intro x hx;rcases ER.mp hx with e|hx
   .subst e;exact key_of ok (by rw[<- hq.1];exact hq.2.1)
   .exact ih x hx
 exact all r x hx
def wR(ok:HOk P w H h)(e:H a=be (.dT a9)):a9.length<=sizeLine/\(a==QO)=false/\
  ∃ xs,KT H a9 xs/\h.DictOfH (Q8 (bF P w)) a xs:=pV ok (.inl e)
end
def DGet(H:Hp)(a:KF)(y:V)(r:Option V):Prop:=
 (∃ a9 k,Rd H a (.dK a9)/\y=kV k/\r=valV a9 k)\/∃ a9 k b,Rd H a (.dT a9)/\y= .ref b/\H b=be (.tup (k.map kV))/\r=valV a9 k
def DPut(H:Hp)(a:KF)(y v:V)(H':Hp):Prop:=
 (∃ a9 k,H a=be (.dK a9)/\y=kV k/\a9.length<sizeLine/\H'=upd H a (.dK (putK a9 k v)))\/
 ∃ a9 k b,H a=be (.dT a9)/\y= .ref b/\H b=be (.tup (k.map kV))/\a9.length<sizeLine/\H'=upd H a (.dT (putK a9 k v))
def DGet.k{a9:List (Key × V)}{k:Key}(e:H a=be (.dK a9)):DGet H a (kV k) (valV a9 k):= .inl ⟨a9,k,.inl e,rfl,rfl⟩
def DGet.t{b:KF}{k:List Key}(e:H a=be (.dT a9))(eb:H b=be (.tup (k.map kV))):DGet H a (.ref b) (valV a9 k):= .inr ⟨a9,k,b,.inl e,rfl,eb,rfl⟩
def DPut.k{a9:List (Key × V)}{k:Key}{v:V}(e:H a=be (.dK a9))(hl:a9.length<sizeLine):DPut H a (kV k) v (upd H a (.dK (putK a9 k v))):= .inl ⟨a9,k,e,rfl,hl,rfl⟩
def DPut.t{b:KF}{k:List Key}{v:V}(e:H a=be (.dT a9))(eb:H b=be (.tup (k.map kV)))(hl:a9.length<sizeLine):
  DPut H a (.ref b) v (upd H a (.dT (putK a9 k v))):= .inr ⟨a9,k,b,e,rfl,eb,hl,rfl⟩
section
variable {X:Cx}{pins:List (KF × QJ)}{σ:St}{H:Hp}{s:KM}{a:KF}{y v:V}{u r:KB}{o:Option V}{A:Qu}{E:KB->KM->Prop}
def Inv.big(I:Inv X pins σ H s):QO<s.heap.objs.size:=by
 have h:Pi<s.heap.objs.size:=(I.mod.glob.keeps I.bk).lt;exact HD (by decide) h
def wS{h':Heap}{t':Nat}{ob:HO}(I:Inv X pins σ H s)(mu:Mut (H a))(hs:Heap.SameBut a s.heap h')(he:∃ q,h'.get? a=be q)(new:ObjOk X.prog X.w (upd H a ob) h' a ob):
  Inv X pins σ (upd H a ob) {s with heap:=h',toks:=t'}:=
 I.write (x:=a) (e:=a) mu (.inl rfl) (λb q hb z=>(hs.2 b hb).trans z) he new
end
def wT(h:Heap)(hb:QO<h.objs.size):ObjOk P w H (h.push {cls:= .type "dict",data:= .dict #[]}) h.objs.size (.dT []):=
 ⟨Fl _,beq_eq_false_iff_ne.mpr (Ne.symm (EZ hb)),[],.nil,_,#[],0,Heap.get?_push_size _ rfl,⟨rfl,rfl,rfl⟩,rfl,rfl,HE⟩
def wU:TE:=λ_ H Q=>∀ p,H p=z7->Q (.ref p) (upd H p (.dT []))
section
variable {X:Cx}{pos:QC}
def pe_dnewT:PE X (.Dict [] [] pos) wU:=λpins s σ H Q I h=>
 wpAny_Dict_empty ⟨.ref s.heap.objs.size,_,I.laid (a:=s.heap.objs.size) (o:= .dT []) (t':=s.toks) (λ_ _ q=>Heap.get?_push_of_some _ q) (EK _) (wT s.heap I.big),rfl,h _ (I.hok.fresh (EK _))⟩
end
structure M1(X:Cx)(o:Qo)(m:Str)(apos:QC)(e:Qo)(cpos:QC):Prop where
 base:Qy o m X.env (Qx o X.env)=Qx o X.env
 few:((Q0 cpos (Qv [e] X.env)).all (λx=>!x.1) && (Rj cpos (QX [] X.env)).all (λx=>x.1.isSome)
  && decide (([e]:List Qo).length+([]:List Rk).length+(if([]:List Rk).isEmpty then 0 else 1)<30))=true
 line:(apos.endLine==cpos.line)=true
 trees:Q0 cpos (Qv [e] X.env)=[(false,Qx e X.env)]
structure M2(X:Cx)(o:Qo)(m:Str)(apos:QC)(e f:Qo)(cpos:QC):Prop where
 base:Qy o m X.env (Qx o X.env)=Qx o X.env
 few:((Q0 cpos (Qv [e,f] X.env)).all (λx=>!x.1) && (Rj cpos (QX [] X.env)).all (λx=>x.1.isSome)
  && decide (([e,f]:List Qo).length+([]:List Rk).length+(if([]:List Rk).isEmpty then 0 else 1)<30))=true
 line:(apos.endLine==cpos.line)=true
 trees:Q0 cpos (Qv [e,f] X.env)=[(false,Qx e X.env),(false,Qx f X.env)]
section
variable {X:Cx}{pins:List (KF × QJ)}{σ:St}{H:Hp}{s:KM}{a:KF}{y d:V}{u r:KB}{o:Option V}{A:Qu}{E:KB->KM->Prop}
def wV{Q:KB->KM->Prop}(hu:A.units+1<Rm)(I:Inv X pins σ H s)(g:DGet H a y o)(ry:RelV y u)(rd:RelV d r)(h:∀ w' s',Inv X pins σ H s'->RelV (o.getD d) w'->Q w' s'):
  Qs (Qr X.prog X.w) A (call (.builtin "dict.get") [.ref a,u,r]) Q E s:=by
 rcases g with⟨a9,k,e,ey,l⟩|⟨a9,k,b,e,ey,eb,l⟩
 .subst ey;obtain⟨z,hd,vs,Js,dd⟩:=wQ I.hok e;refine RN PySem.F.slot_dict_get dd.typeIs PySem.F.entry_dict_get (PySem.F.args_dict_get_3 _ _ _) (meets_dict_get_default (bF X.prog X.w) a (pS ry) hd r) ⟨_,dd.mapOf,h _ _ (I.tok _) ?_⟩;rw[l];exact(Js.val k).getD rd
 .subst ey;cases(show u=Value.ref b from ry);obtain⟨z,hd,xs,Js,dd⟩:=pV I.hok e;refine RN PySem.F.slot_dict_get dd.typeIs PySem.F.entry_dict_get (PySem.F.args_dict_get_3 _ _ _) (meetsH_dict_get_default (Q8 (bF X.prog X.w)) a b hd r) ⟨R1 hu,k,xs,key_of I.hok eb,dd,h _ _ (I.tok _) ?_⟩;rw[l];exact(Js.val k).getD rd
end
end L2
end
section
open PySem PySem.Spec PyProof.Rows L2
namespace Exc
open PySem PySem.Spec PyProof.Rows PySem.W L2
def aO:List KB->Bool
 | .ref _::r=>aO r
 |l=>l==[.type "ValueError",.type "Exception",.type "BaseException",.type "object"]
def pW(self:KB):∀ {l:List KB},aO l=true->refuseLoop self "__setattr__" l=pure ()
 | .ref c::r,e=>by rw[refuseLoop_ref];exact pW self (by unfold aO at e;exact e)
 |[],e=>by simp[aO] at e
 | .type n::r,e=>by
  have e':(Value.type n::r)=[.type "ValueError",.type "Exception",.type "BaseException",.type "object"]:=by simpa[aO] using e
  rw[e'];exact PySem.F.store_ValueError.passes self
 | .none::r,e=>by simp[aO] at e
 | .bool _::r,e=>by simp[aO] at e
 | .int _ _::r,e=>by simp[aO] at e
 | .float _ _::r,e=>by simp[aO] at e
 | .str _ _::r,e=>by simp[aO] at e
 | .bytes _ _::r,e=>by simp[aO] at e
 | .builtin _::r,e=>by simp[aO] at e
def gq{T:String}(hT:[Value.type "ValueError",.type "Exception",.type "BaseException",.type "object"].contains (.type T)=true):∀ {l:List KB},aO l=true->l.contains (.type T)=true
 | .ref c::r,e=>by rw[HF,gq hT (l:=r) (by unfold aO at e;exact e),G3]
 |[],e=>by simp[aO] at e
 | .type n::r,e=>by
  have e':(Value.type n::r)=[.type "ValueError",.type "Exception",.type "BaseException",.type "object"]:=by simpa[aO] using e
  rw[e'];exact hT
 | .none::r,e=>by simp[aO] at e
 | .bool _::r,e=>by simp[aO] at e
 | .int _ _::r,e=>by simp[aO] at e
 | .float _ _::r,e=>by simp[aO] at e
 | .str _ _::r,e=>by simp[aO] at e
 | .bytes _ _::r,e=>by simp[aO] at e
 | .builtin _::r,e=>by simp[aO] at e
section
variable {prog:P3}{w:Qt}{A:Qu}{E:KB->KM->Prop}{s:KM}{K:Ex}{x C:KF}{ox:QJ}{cd:ClassData}{name:IT}{v:KB}{vs:Array KB}
def wW{Q:Unit->KM->Prop}(X:K.In s.heap)(hx:s.heap.get? x=be ox)(l9:ox.cls= .ref C)(Jt:ox.data= .fields vs)(hd:ox.dict=z7)(hc:clsIn K C=be cd)(hm:aO cd.mro=true)(hh:cd.hasDict=true)
  (hs:findIn K (.ref C) "__setattr__"=be (be (.builtin "object.__setattr__"))) (hf:findIn K (.ref C) name=be z7)
  (h:∀ h',h'.get? x=be {ox with dict:=be s.heap.objs.size}->h'.Ns1 s.heap.objs.size (λy=>if y=name then be v else z7)->(∀ b o,b≠x->s.heap.get? b=be o->h'.get? b=be o)->∀ tk,Q () {s with heap:=h',toks:=tk}):
  Qs (Qr prog w) A (setAttr (.ref x) name v) Q E s:=by
 have hn:notCls ox=true:=by unfold notCls;rw[Jt]
 have I:InstAt s.heap x ox C none:=⟨hx,l9,hn,by rw[hd];trivial⟩;refine set_plain X I hs ?_;have SF:=PySem.F.store_object;have ne:cd.mro.isEmpty=false:=by cases q:cd.mro with|nil=>rw[q] at hm;simp[aO] at hm|cons _ _=>rfl
 have sub:Looks (Qr prog w) s.heap (R3 (.ref x) (.type "object")) true:=I.type.andThen (looks_mroIn X (by unfold mroIn;rw[hc,F6,if_neg (by rw[ne];decide),gq (by decide+kernel) hm]));refine RS SF.slot.plain SF.entry (@check_slot (Qr prog w) _ _ _ "object.__setattr__" "object" "__setattr__" (.ref x) [.str name s.toks,v] [] _ SF.kind SF.split sub (SF.args (.ref x) (.str name s.toks) v) ?_);have LS:Looks (Qr prog w) s.heap (mroOf (.ref C)) cd.mro:=(looks_clsIn X hc).andThen .now;rw[osa_eq,refuse_eq];refine Os (Os (I.type.here (s:={s with toks:=s.toks+1}) (Os (LS.here (s:={s with toks:=s.toks+1}) ?_))));rw[pW _ hm];refine Qp (Os (I.type.here (s:={s with toks:=s.toks+1}) (Os ((looks_findIn X hf).here (s:={s with toks:=s.toks+1}) (Os (Looks.now.here (s:={s with toks:=s.toks+1}) ?_))))));obtain⟨oc,Oz,OA,osl⟩:=ox;dsimp only at l9 hd Jt;subst l9 hd Jt;refine Os (Qp (Os (Os (wpAny_loadPart hx (Os ((looks_clsIn X hc).here (s:={s with toks:=s.toks+1}) ?_))))));rw[hh];rw[if_neg (by decide)];have hx₁:(s.heap.push {cls:= .type "dict",data:= .dict #[]}).get? x=be ⟨.ref C,z7,.fields vs,osl⟩:=Heap.get?_push_of_some _ hx;have ND:x≠s.heap.objs.size:=EZ (Heap.lt_size hx);show Qs _ _ (do
  let d <- alloc {cls:=Value.type "dict",data:=Data.dict #[]}
  update x λo=>{cls:=o.cls,dict:=be d,data:=o.data,slots:=o.slots}
  dictMade (.ref C) x d) _ _ _
 refine Os (wpAny_alloc' ?_);refine Os (wpAny_update' hx₁ ?_);refine Qp ?_;have OB:((s.heap.push {cls:= .type "dict",data:= .dict #[]}).update x λo=>{cls:=o.cls,dict:=be s.heap.objs.size,data:=o.data,slots:=o.slots}).get? s.heap.objs.size
   =be {cls:= .type "dict",data:= .dict #[]}:=
  (Heap.get?_update_ne _ _ _ _ ND.symm).trans (Heap.get?_push_at rfl rfl)
 have OC:((s.heap.push {cls:= .type "dict",data:= .dict #[]}).update x λo=>{cls:=o.cls,dict:=be s.heap.objs.size,data:=o.data,slots:=o.slots}).Ns s.heap.objs.size (λ_=>z7):=
  ⟨_,#[],_,OB,rfl,λe he=>absurd he (by simp),λ_=>rfl⟩
 show Qs _ _ (Builtin.ObjectAttr.storeInDict s.heap.objs.size (.str name s.toks) name v) _ _ _;unfold Builtin.ObjectAttr.storeInDict Builtin.ObjectAttr.newKeyGuard;refine Os (Qp (Os (wpAny_nsSet1 (Heap.Ns1.of_empty OC) λh' l8 hs=>?_)));obtain⟨oD,On,Oo,LD,LF,LG⟩:=l8.count (Within.cons name v Within.nil);refine Os (wpAny_lookBehind LD (by rw[LF];exact pastItsLine_dict (E1 LG (by rw[EN,Gk,Rh];lia))) ?_);refine Qp (h h' ?_ l8 (λb o hb q=>?_) _)
 .exact(hs.2 x ND).trans (Heap.get?_update_self _ hx₁ rfl)
 .exact(hs.2 b (EZ (Heap.lt_size q))).trans ((Heap.get?_update_ne _ _ _ _ hb).trans (Heap.get?_push_of_some _ q))
def wX{Q:KB->KM->Prop}{rest:List KB}{t0:KF}{a1 a2 a3 a4 a5:KB}(X:K.In s.heap)(hx:s.heap.get? x=be ox)(l9:ox.cls= .ref C)(Jt:ox.data= .fields #[.ref t0,a1,a2,a3,a4,a5])(hc:clsIn K C=be cd)(hm:aO cd.mro=true)(hl:rest.length<=sizeLine)
  (h:∀ h',h'.get? x=be {ox with data:= .fields #[.ref s.heap.objs.size,a1,a2,a3,a4,a5]}->(∀ b o,b≠x->s.heap.get? b=be o->h'.get? b=be o)->Q .none {s with heap:=h'}):
  Qs (Qr prog w) A (call (.builtin "ValueError.__init__") (.ref x::rest)) Q E s:=by
 have F:=PySem.F.excBase_ValueError;have hn:notCls ox=true:=by unfold notCls;rw[Jt]
 have ht:Looks (Qr prog w) s.heap (typeOf (.ref x)) (.ref C):=l9 ▸ (Looks.ld hx).andThen .now;have ne:cd.mro.isEmpty=false:=by cases q:cd.mro with|nil=>rw[q] at hm;simp[aO] at hm|cons _ _=>rfl
 have sub:Looks (Qr prog w) s.heap (R3 (.ref x) (.type "ValueError")) true:=ht.andThen (looks_mroIn X (by unfold mroIn;rw[hc,F6,if_neg (by rw[ne];decide),gq (by decide+kernel) hm]));have OD:∀ {Q:Unit->KM->Prop} {E:KB->KM->Prop} {A:Qu},Q () s->Qs (Qr prog w) A (checkBuiltinCall "ValueError.__init__" ⟨.ref x::rest,[]⟩) Q E s:=λ{Q E A} hq=>by
  have LU:=F.noStar;simp only[checkBuiltinCall,F.initKind,F.initSplit,F.initRow];refine Os (sub.here ?_);obtain⟨hp,g,d,t,os⟩:=s;have Lc:=looks_clsIn (M:=Qr prog w) X hc
  repeat(first|(with_reducible refine QN hx ?_;rw[l9])|(with_reducible refine Lc.here ?_)|wp_step)
  refine wpAny_onRaise ?_;rw[show ∀ (a b:String) (n:Nat),Bind.check ⟨.positional,"*","ValueError",.self,[⟨"args",.varPos,false⟩]⟩ a b n (GH (λx=>x.fst) ({pos:=Value.ref x::rest}:Args).kw)=pure () from
   λa b n=>check_star_args _ _ _ _ _ _]
  exact Qp hq
 refine Q9 (RS F.init.plain F.initEntry (OD ?_));obtain⟨hp,g,d,t,os⟩:=s;obtain⟨oc,Oz,OA,osl⟩:=ox;dsimp only at l9 Jt hx h;subst l9 Jt
 wp_walk
 have hx₁:=Heap.get?_push_of_some {cls:=Value.type "tuple",data:=Data.seq rest.toArray} hx;refine h _ ?_ (λb o hb q=>?_)
 .rw[Heap.get?_update_self _ hx₁ rfl];rfl
 .rw[Heap.get?_update_other _ _ (Ne.symm hb)];exact Heap.get?_push_of_some _ q
end
abbrev veLine:List KB:=[.type "ValueError",.type "Exception",.type "BaseException",.type "object"]
section
variable {prog:P3}{w:Qt}{A:Qu}{E:KB->KM->Prop}{h:Heap}{g:Array GenState}{d:Drawn}{t:Nat}{os:OsState}{K:Ex}
variable {nm q:IT}{C N fI:KF}{bs bm:List KB}{hdct:Bool}{sn:List IT}{sub:List KB}{ab:Bool}{col:Option Bool}{dd:Option KF}{k0 k1 k2 k3 k5:Option KB}{rest:List KB}
def wY{Q:Fin->KM->Prop}(X:K.In h)(T:OwnTail h veLine bm)(hC:h.get? C=be (QP nm q C N bs bm hdct sn sub ab col dd k0 k1 k2 k3 k5 "ValueError.__new__"))
  (hi:findIn K (.ref C) "__init__"=be (be (.ref fI))) (hf:typeIn K (.ref fI)=be (.type "function"))
  (hq:∀ h' e,Heap.MadeExcOf h h' e (.ref C) rest->Qs (Qr prog w) A (call (.ref fI) (.ref e::rest)) (λr s'=>r= .none/\Q (.done (.ret (.ref e))) s') E ⟨h',g,d,t,os⟩) (hl:rest.length<=sizeLine):
  Qs (Qr prog w) A (Builtin.«type.__call__» ⟨.ref C::rest,[]⟩) Q E ⟨h,g,d,t,os⟩:=by
 have F:=PySem.F.excBase_ValueError
 repeat(first|(with_reducible refine QN hC ?_)|(with_reducible refine wpAny_madeBy_exc hC ?_)|wp_step)
 refine codeAny_call_builtin_code (Code.quiet_builtin _ F.quiet) (wpAny_check_new_subT F T hC (codeAny_exc_new_subT F T hC ?_ hl));have kp:∀ b o,h.get? b=be o->((h.push {cls:= .type "tuple",data:= .seq rest.toArray}).push {cls:= .ref C,data:= .fields #[.ref h.objs.size,.none,.none,.none,.bool false,.none]}).get? b=be o:=λb o e=>Heap.get?_push_of_some _ (Heap.get?_push_of_some _ e);have OE:=kp _ _ hC;have X1:K.In _:=X.keeps kp;have he:((h.push {cls:= .type "tuple",data:= .seq rest.toArray}).push {cls:= .ref C,data:= .fields #[.ref h.objs.size,.none,.none,.none,.bool false,.none]}).get? (h.objs.size+1)=be {cls:= .ref C,data:= .fields #[.ref h.objs.size,.none,.none,.none,.bool false,.none]}:=by heap_get
 have OF:(Value.ref C::bm).contains (.ref C)=true:=by simp
 have L1:=looks_findIn (M:=Qr prog w) X1 hi;have L2:=bind_fn (M:=Qr prog w) X1 (.ref (h.objs.size+1)) hf;show Qs _ _ _ _ _ _;unfold R3
 repeat(first|(with_reducible refine QN he ?_)|(with_reducible refine RT OE ?_;rw[OF])|wp_step)
 refine L1.at ?_;refine QR (Os (L2.at ?_));refine Os (QE (hq _ (h.objs.size+1) ⟨kp,Heap.get?_none_of_le (FQ _),h.objs.size,he,Heap.get?_none_of_le (EK _),Heap.get?_push_of_some _ (Heap.get?_push_at rfl rfl)⟩) (λr s' hr=>?_) λ_ _ x=>x);obtain⟨rfl,hQ⟩:=hr;refine Qp ?_;exact Qp hQ
def wZ{Q:KB->KM->Prop}(X:K.In h)(T:OwnTail h veLine bm)(hC:h.get? C=be (QP nm q C N bs bm hdct sn sub ab col dd k0 k1 k2 k3 k5 "ValueError.__new__"))
  (hi:findIn K (.ref C) "__init__"=be (be (.ref fI))) (hf:typeIn K (.ref fI)=be (.type "function"))
  (hq:∀ h' e,Heap.MadeExcOf h h' e (.ref C) rest->Qs (Qr prog w) (A.under (.builtin "type.__call__" ⟨.ref C::rest,[]⟩)) (call (.ref fI) (.ref e::rest)) (λr s'=>r= .none/\Q (.ref e) s') E ⟨h',g,d,t,os⟩) (hl:rest.length<=sizeLine):
  Qs (Qr prog w) A (call (.ref C) rest) Q E ⟨h,g,d,t,os⟩:=by
 have f1:=tc_lookup;have f2:=tc_bind (.ref C);have hT:(⟨h,g,d,t,os⟩:KM).TypeIs (.ref C) "type":=⟨_,hC,rfl⟩;refine Q9 (codeAny_of_tree ?_);show Qs _ _ (callAny (.ref C) _) _ _ _
 repeat(any_goals (first|(with_reducible refine QN hC ?_)|assumption|wp_step))
 exact⟨rfl,codeAny_call_builtin_at (Code.quiet_builtin _ (by decide+kernel)) entry_typeCall (wpAny_check_type_call_sub hC (wY X T hC hi hf (λh' e hm=>hq h' e hm) hl))⟩
end
section
variable {prog:P3}{w:Qt}{A:Qu}{E:KB->KM->Prop}{s:KM}{env:Q4}
variable {nm q:IT}{C N:KF}{bs bm:List KB}{hdct:Bool}{sn:List IT}{sub:List KB}{ab:Bool}{col:Option Bool}{dd:Option KF}{k0 k1 k2 k3 k5:Option KB}{newId:String}
variable{Q:Flow->KM->Prop}
def xa{x:RO KB}(c8:bm.contains (.type "BaseException")=true)(hh:A.handled=z7)
  (h:Qs (Qr prog w) A x (λv s₁=>∃ e t od sl,v= .ref e/\s₁.heap.get? C=be (QP nm q C N bs bm hdct sn sub ab col dd k0 k1 k2 k3 k5 newId)/\
   s₁.heap.get? e=be ⟨.ref C,od,.fields #[.ref t,.none,.none,.none,.bool false,.none],sl⟩/\E (.ref e) s₁) E s):
  Qs (Qr prog w) A (raiseStmt env (be x) z7) Q E s:=by
 have OG:(Value.ref C::bm).contains (.type "BaseException")=true:=by rw[HF,c8,G3]
 unfold raiseStmt;refine Os (QE h (λv s₁ h₁=>?_) λ_ _ x=>x);obtain⟨e,t,od,sl,rfl,hC,he,hE⟩:=h₁;obtain⟨hp,g,d,tk,os⟩:=s₁
 repeat(first|(with_reducible refine QN he ?_)|(with_reducible refine QN hC ?_)|(with_reducible refine RT hC ?_;rw[OG])|wp_step)
 exact wpAny_raiseNew_none hh hE
def jF{x:Qo}{pos:QC}(c8:bm.contains (.type "BaseException")=true)(hh:A.handled=z7)
  (h:Qs (Qr prog w) A (Qx x env) (λv s₁=>∃ e t od sl,v= .ref e/\s₁.heap.get? C=be (QP nm q C N bs bm hdct sn sub ab col dd k0 k1 k2 k3 k5 newId)/\
   s₁.heap.get? e=be ⟨.ref C,od,.fields #[.ref t,.none,.none,.none,.bool false,.none],sl⟩/\E (.ref e) s₁) E s):
  Qs (Qr prog w) A (exec (.Raise (be x) z7 pos) env) Q E s:=by
 rw[arm_exec_Raise];show Qs (Qr prog w) A (do Q_ pos;raiseStmt env (be (do let v <- Qx x env;Q_ pos;pure v)) z7) Q E s;exact Os (QU (xa c8 hh (Os (QE h (λv s₁ h₁=>Os (QU (Qp h₁))) λ_ _ x=>x))))
end
def ExAt(h:Heap)(e C:KF)(od:Option KF)(T:KF)(fl:KB):Prop:=
 ∃ sl vs oT ts,h.get? e=be ⟨.ref C,od,.fields vs,sl⟩/\vs[1]?=be (.ref T)/\T≠e/\h.get? T=be oT/\oT.data= .fields ts/\ts[3]?=be fl
structure Stay(fs ex:List KF)(h h':Heap):Prop where
 keep:∀ b o,h.get? b=be o->b ∉ ex->b ∉ fs->h'.get? b=be o
 slot:∀ b o,h.get? b=be o->b ∉ ex->∃ sl,h'.get? b=be {o with slots:=sl}
 there:∀ b o,h.get? b=be o->∃ o',h'.get? b=be o'
variable{fs ex:List KF}{h:Heap}
def Stay.refl:Stay fs ex h h:=⟨λ_ _ e _ _=>e,λ_ o e _=>⟨o.slots,e⟩,λ_ o e=>⟨o,e⟩⟩
section
variable {M:Model}{A:Qu}{E:KB->KM->Prop}{s:KM}{env:Q4}{outer:List Q4}{base:Heap}{L e C T:KF}{od:Option KF}
variable{Q:Unit->KM->Prop}
def xb{sl:Array (Option KB)}{vs:Array KB}(z_:A.frames=be (env::outer))(hl:s.heap.FunFrames base (env::outer))(hf:env.frame=be L)
  (he:s.heap.get? e=be ⟨.ref C,od,.fields vs,sl⟩) (h1:vs[1]?=be .none)
  (h:∀ h' T,ExAt h' e C od T (Ri L)->s.heap.objs.size<=T->Stay (frs (env::outer)) [e] s.heap h'->Q () {s with heap:=h'}):Qs M A (Rq (.ref e) env) Q E s:=by
 have g9:1<vs.size:=(GI.mp h1).1;have Ju:e ∉ (env::outer).filterMap (·.frame):=λhm=>by
  obtain⟨_,o,ho,hnf⟩:=hl.mem hm;rw[he] at ho;injection ho with ho;subst ho;exact hnf vs rfl
 unfold Rq;simp only[hf];refine Os (QV he rfl h1 ?_);rw[if_neg (by decide)];refine Os (R5 z_ hl hf λh₁ hs₁=>Os (RV λpl c_=>?_));unfold EntryCells.newEntry newFields;refine Os (QG ?_ (c_.sizeOk5 _ _ _ _ _));have he₁:h₁.get? e=be ⟨.ref C,od,.fields vs,sl⟩:=(hs₁.2.1 e Ju).trans he;have fresh:h₁.get? h₁.objs.size=none:=Heap.get?_none_of_le (EK _);generalize Km:({cls:= .type "traceback",dict:=z7,data:= .fields ([Value.none,.ref L,.none,Ri L,.none]++(if pl.isEmpty then EQ 6 Value.none else pl)).toArray}:QJ)=oT;have he₂:=Heap.get?_push_of_some (h:=h₁) oT he₁;have Jv:h₁.objs.size≠e:=FO (Heap.lt_size he₁);refine Rg he₂ rfl g9 (h _ h₁.objs.size ?_ ?_ ?_)
 .refine⟨sl,vs.setIfInBounds 1 (.ref h₁.objs.size),oT,([Value.none,.ref L,.none,Ri L,.none]++(if pl.isEmpty then EQ 6 Value.none else pl)).toArray,?_,by simp[g9],Jv,?_,by rw[<- Km],by simp⟩
  .rw[Heap.get?_update_self _ he₂ rfl];rfl
  .rw[Heap.get?_update_other _ _ (Ne.symm Jv)];exact Heap.get?_push_size h₁ (by rw[<- Km];rfl)
 .exact GD hs₁.1.symm
 .have kp:∀ b o,b≠e->h₁.get? b=be o->((h₁.push oT).update e (Obj.mapFields (·.setIfInBounds 1 (Value.ref h₁.objs.size)))).get? b=be o:=λb o hb z=>by
   rw[Heap.get?_update_other _ _ (Ne.symm hb)];exact Heap.get?_push_of_some _ z
  refine⟨λb o q n m=>kp b o (λz=>n (by simp[z])) ((hs₁.2.1 b m).trans q),λb o q n=>?_,λb o q=>?_⟩
  .obtain⟨y_,z⟩:=hs₁.2.2 b o q;exact⟨y_,kp b _ (λz=>n (by simp[z])) z⟩
  .by_cases hb:b=e
   .subst hb;exact⟨_,Heap.get?_update_self _ he₂ rfl⟩
   .obtain⟨y_,z⟩:=hs₁.2.2 b o q;exact⟨_,kp b _ hb z⟩
def xc(z_:A.frames=be (env::outer))(hl:s.heap.FunFrames base (env::outer))(hf:env.frame=be L)(hx:ExAt s.heap e C od T .none)
  (h:∀ h' T',ExAt h' e C od T' (Ri L)->s.heap.objs.size<=T'->Stay (frs (env::outer)) [T,e] s.heap h'->Q () {s with heap:=h'}):Qs M A (Rq (.ref e) env) Q E s:=by
 obtain⟨sl,vs,oT,ts,he,h1,Jv,hT,A',h3⟩:=hx;have g9:1<vs.size:=(GI.mp h1).1;have Lg:3<ts.size:=(GI.mp h3).1;have Ju:e ∉ (env::outer).filterMap (·.frame):=λhm=>by
  obtain⟨_,o,ho,hnf⟩:=hl.mem hm;rw[he] at ho;injection ho with ho;subst ho;exact hnf vs rfl
 unfold Rq;simp only[hf];refine Os (QV he rfl h1 ?_);rw[if_pos (show(Value.ref T !=Value.none)=true from by simp)];refine Os (QV hT A' h3 ?_);rw[if_neg (show¬ ((Value.none==Ri L)=true) from by simp[Ri])];refine Os (Rg hT A' Lg ?_);have other:∀ b,b≠T->(s.heap.update T (Obj.mapFields (·.setIfInBounds 3 Value.none))).get? b=s.heap.get? b:=λb hb=>Heap.get?_update_other _ _ (Ne.symm hb);have nT:∀ b o,s.heap.get? b=be o->(∀ vs,o.data≠.fields vs)->b≠T:=λb o hb hnf q=>by
  rw[q,hT] at hb;injection hb with hb;subst hb;exact hnf ts A'
 have OH:(s.heap.update T (Obj.mapFields (·.setIfInBounds 3 Value.none))).FunFrames base (env::outer):=hl.of_keeps λb o hb hnf=>⟨o,(other b (nT b o hb hnf)).trans hb,rfl⟩;have OI:∃ o',(s.heap.update T (Obj.mapFields (·.setIfInBounds 3 Value.none))).get? T=be o':=⟨_,Heap.get?_update_self _ hT (Obj.isFreed_of_fields (Obj.data_mapFields A' _))⟩;refine Os (R5 z_ OH hf λh₁ hs₁=>Os (RV λpl c_=>?_));unfold EntryCells.newEntry newFields;refine Os (QG ?_ (c_.sizeOk5 _ _ _ _ _));have he₁:h₁.get? e=be ⟨.ref C,od,.fields vs,sl⟩:=(hs₁.2.1 e Ju).trans ((other e (Ne.symm Jv)).trans he);have fresh:h₁.get? h₁.objs.size=none:=Heap.get?_none_of_le (EK _);generalize Km:({cls:= .type "traceback",dict:=z7,data:= .fields ([Value.ref T,.ref L,.none,Ri L,.none]++(if pl.isEmpty then EQ 6 Value.none else pl)).toArray}:QJ)=LV;have he₂:=Heap.get?_push_of_some (h:=h₁) LV he₁;have Kn:h₁.objs.size≠e:=FO (Heap.lt_size he₁);refine Rg he₂ rfl g9 (h _ h₁.objs.size ?_ ?_ ?_)
 .refine⟨sl,vs.setIfInBounds 1 (.ref h₁.objs.size),LV,([Value.ref T,.ref L,.none,Ri L,.none]++(if pl.isEmpty then EQ 6 Value.none else pl)).toArray,?_,by simp[g9],Kn,?_,by rw[<- Km],by simp⟩
  .rw[Heap.get?_update_self _ he₂ rfl];rfl
  .rw[Heap.get?_update_other _ _ (Ne.symm Kn)];exact Heap.get?_push_size h₁ (by rw[<- Km];rfl)
 .exact GD (hs₁.1.trans (Heap.size_after_update _ _ _)).symm
 .have kp:∀ b o,b≠e->h₁.get? b=be o->((h₁.push LV).update e (Obj.mapFields (·.setIfInBounds 1 (Value.ref h₁.objs.size)))).get? b=be o:=λb o hb z=>by
   rw[Heap.get?_update_other _ _ (Ne.symm hb)];exact Heap.get?_push_of_some _ z
  refine⟨λb o q n m=>kp b o (λz=>n (by simp[z])) ((hs₁.2.1 b m).trans ((other b (λz=>n (by simp[z]))).trans q)),λb o q n=>?_,λb o q=>?_⟩
  .obtain⟨y_,z⟩:=hs₁.2.2 b o ((other b (λz=>n (by simp[z]))).trans q);exact⟨y_,kp b _ (λz=>n (by simp[z])) z⟩
  .by_cases hb:b=e
   .subst hb;exact⟨_,Heap.get?_update_self _ he₂ rfl⟩
   .have:∃ o',(s.heap.update T (Obj.mapFields (·.setIfInBounds 3 Value.none))).get? b=be o':=by
     by_cases hb:b=T
     .rw[hb];exact OI
     .exact⟨o,(other _ hb).trans q⟩
    obtain⟨o',q'⟩:=this;obtain⟨y_,z⟩:=hs₁.2.2 b o' q';exact⟨_,kp b _ hb z⟩
def pY{fl:KB}(hx:ExAt s.heap e C od T fl)(h:∀ h',ExAt h' e C od T .none->Stay [] [T] s.heap h'->Q () {s with heap:=h'}):Qs M A (setFlight (.ref e) z7) Q E s:=by
 obtain⟨sl,vs,oT,ts,he,h1,Jv,hT,A',h3⟩:=hx;have Lg:3<ts.size:=(GI.mp h3).1;unfold setFlight;refine Os (QV he rfl h1 ?_);rw[if_pos (show(Value.ref T !=Value.none)=true from by simp)];refine Rg hT A' Lg (h _ ?_ ?_)
 .exact⟨sl,vs,_,_,(Heap.get?_update_other _ _ Jv).trans he,h1,Jv,Heap.get?_update_self _ hT (Obj.isFreed_of_fields (Obj.data_mapFields A' _)),Obj.data_mapFields A' _,by simp[Lg]⟩
 .have other:∀ b o,b ∉ [T]->s.heap.get? b=be o->(s.heap.update T (Obj.mapFields (·.setIfInBounds 3 ((z7:Option KF).elim Value.none λf=>Ri f)))).get? b=be o:=λb o hb q=>(Heap.get?_update_other _ _ (λz=>hb (by simp[z]))).trans q;refine⟨λb o q n _=>other b o n q,λb o q n=>⟨o.slots,other b o n q⟩,λb o q=>?_⟩;by_cases hb:b=T
  .subst hb;exact⟨_,Heap.get?_update_self _ hT (Obj.isFreed_of_fields (Obj.data_mapFields A' _))⟩
  .exact⟨o,other b o (by simp[hb]) q⟩
end
def CX1(P:P3)(w:Qt):CXT:=λouter H s E ev s'=>∃ e C od T H',ev= .ref e/\s'.os=s.os/\Q7 s'.gens/\Un (frs outer) [] H H' s.heap s'.heap/\HOk P w H' s'.heap/\ExAt s'.heap e C od T .none/\s.heap.get? e=z7/\s.heap.get? T=z7/\H' e=z7/\H' T=z7/\E (.ref C) od H'
def gu{P:P3}{w:Qt}{H:Hp}{h':Heap}(x:HOk P w H h)(st:Stay fs ex h h')(hf:∀ b∈fs,H b=z7)(he:∀ b∈ex,H b=z7):HOk P w H h':=λa o q=>
 (x a o q).stay (λb u hb r=>by
  have hn:H b≠none:=by
   rcases hb with rfl|hb
   .rw[q];exact λz=>nomatch z
   .rw[hb];exact λz=>nomatch z
  exact st.keep b u r (λz=>hn (he b z)) (λz=>hn (hf b z))) (λ_ q=>q) λ_ _ q=>q
def gv{p8:List KF}{H H':Hp}{h1 h2:Heap}(u:Un fs [] H H' h h1)(st:Stay p8 ex h1 h2)(ge:∀ b∈ex,h.get? b=z7)(OJ:∀ b∈p8,b∈fs\/h.get? b=z7):Un fs [] H H' h h2 where
 keep:=λb o q n hb hx=>st.keep b o (u.keep b o q n hb hx) (λz=>by rw[ge b z] at q;cases q) (λz=>(OJ b z).elim hb λy=>by rw[y] at q;cases q)
 slot:=λb o q n hb hx=>by
  obtain⟨sl,e1⟩:=u.slot b o q n hb hx;obtain⟨y_,e2⟩:=st.slot b _ e1 (λz=>by rw[ge b z] at q;cases q);exact⟨y_,e2⟩
 free:=u.free
 there:=λb o q hx=>by
  obtain⟨o1,e1⟩:=u.there b o q hx;exact st.there b o1 e1
 tups:=u.tups
 frzs:=u.frzs
 tbls:=u.tbls
section
variable {P:P3}{w:Qt}{K:Ex}{mg:IT->Option KB}{base:Heap}{N:List IT}{qual:IT}{scope:QS}{f:KF}{cd:KB}{A:Qu}{outer:List Q4}{s:KM}{H:Hp}{E E':XK}
def pZ{b:KF}(hb:b∈frs (QD qual scope s.heap.objs.size f cd::outer)):b∈frs outer\/s.heap.get? b=none:=by
 unfold frs at hb;rw[GB] at hb;rcases ER.mp (show b∈s.heap.objs.size::outer.filterMap (·.frame) from hb) with e|e
 .rw[e];exact .inr (Heap.get?_none_of_le (EK _))
 .exact .inl e
def qa{pins:List (KF × QJ)}{σ:L2.St}{H1:Hp}{s1:KM}{e C:KF}{od:Option KF}{sl:Array (Option KB)}{vs:Array KB}(I:Inv (cxOf (CX1 P w) P w K mg base N qual scope f cd A outer s H E') pins σ H1 s1)
  (he:s1.heap.get? e=be ⟨.ref C,od,.fields vs,sl⟩) (h1:vs[1]?=be .none) (He:H1 e=z7) (ne:s.heap.get? e=z7) (hE:E' (.ref C) od H1):(cxOf (CX1 P w) P w K mg base N qual scope f cd A outer s H E').xe (.ref e) s1:=by
 show Qs _ _ (RJ _ _) _ _ _;unfold RJ;refine Os (xb I.ok.frames I.stack rfl he h1 λh2 T2 Ko Kp Jl=>pY (s:={s1 with heap:=h2}) Ko λh3 LW IU=>?_);have Kq:s1.heap.get? T2=none:=Heap.get?_none_of_le Kp;have f1:∀ b,s1.heap.get? b=z7->s.heap.get? b=none:=λb q=>by
  cases z:s.heap.get? b with
  |none=>rfl
  |some o=>
   obtain⟨o',z'⟩:=I.base.there b o z (by exact λy=>absurd (show b∈([]:List KF) from y) (by simp));rw[q] at z';cases z'
 have hok:HOk P w H1 s1.heap:=I.hok;have Kr:H1 T2=none:=hok.fresh Kp;have u2:Un (frs outer) [] H H1 s.heap h2:=gv (show Un (frs outer) [] H H1 s.heap s1.heap from I.base) Jl (λb hb=>by rw[EL.mp hb];exact ne) λb hb=>pZ hb;have u3:Un (frs outer) [] H H1 s.heap h3:=gv u2 IU (λb hb=>by rw[EL.mp hb];exact f1 T2 Kq) λb hb=>by cases hb
 have k2:=gu hok Jl (λb hb=>I.stkFree b hb) (λb hb=>by rw[EL.mp hb];exact He);have k3:=gu k2 IU (λb hb=>by cases hb) (λb hb=>by rw[EL.mp hb];exact Kr);exact⟨e,C,od,T2,H1,rfl,I.os,I.bare,u3,k3,LW,ne,f1 T2 Kq,He,Kr,hE⟩
end
end Exc
namespace L2
def Same.tup{K:Ex}{H H':Hp}{a:KF}{xs:List V}(e:Same H H')(h:SqT K H a xs):SqT K H' a xs:=by
 rcases h with(h|⟨o,h⟩)|h
 .exact .inl (.inl (e _ _ h))
 .exact .inl (.inr ⟨o,e _ _ h⟩)
 .exact .inr h
end L2
namespace My
def fA{X:Cx}:fz (Exc.CX1 X.prog X.w) X E0:=λ_ _ _ _ _ _ _ h=>by
 obtain⟨e,C,od,T,H',_,_,_,_,_,_,_,_,_,_,h⟩:=h;exact h.elim
def Fun.okC{P:P3}{w:Qt}{K:Ex}{mg:IT->Option KB}{base:Heap}{CX:CXT}{x qual:IT}{st:Qq}{f:KF}{fd:Qz}{N ps:List IT}{k:Nat}{sp:Sp}(F:Fun K x qual st f fd)(S:FnScope N ps (af st))(len:∀ vs H Q E,sp vs H Q E->vs.length=ps.length)
  (b9:∀ (cdv:KB) (A:Qu) (outer:List Q4) (s:KM) (H:Hp) (vs:List V) (Q:VK) (E:XK),Room k (A.deeper (QD qual (af st) s.heap.objs.size f cdv))->sp vs H Q E->
   ∃ t,PSs (cxOf CX P w K mg base N qual (af st) f cdv A outer s H E) (aE st) t/\t {nx:=λ_ H'=>Q .non H',rt:=Q} (start N vs) H):FnOk P w K mg base CX (k+1) f fd ps sp:=by
 obtain⟨oc,od,kV,doc,pm,an,cdv,ct,osl,rfl,lk,g6⟩:=F.ex;refine pG lk g6 S len λA outer s H vs Q E hr q_=>?_;exact b9 cdv A outer s H vs Q E hr q_
def Cal(P:P3)(w:Qt)(K:Ex)(mg:IT->Option KB)(base:Heap)(n:Nat)(x:IT)(ps:List IT)(sp:Sp):Prop:=
 ∃ f fd,FnOk P w K mg base (Exc.CX1 P w) n f fd ps sp/\Binds K fd ps []/\keepIn K (.ref f)=true/\mg x=be (.ref f)
def Tx(K:Ex)(mg:IT->Option KB)(x:IT)(st:Qq)(ps:List IT):Prop:=
 ∃ f fd,Fun K x x st f fd/\Binds K fd ps []/\mg x=be (.ref f)
section
variable {X:Cx}{n m:Nat}{ps:List IT}{sp:Sp}{x:IT}{p pos:QC}{e:Qo}{es:List Qo}{t:TA}
def xg(C:Cal X.prog X.w X.K X.mg X.base n x ps sp)(hr:Room m X.A)(ha:PA X (e::es) t)(hg:autoParam (Gl X x) zA0)(hn:autoParam (n<=m) zA1)(e8:autoParam (zND x) zA1)
  (he:autoParam (zSE X e es) zA0) (c_:autoParam (zPL X pos es) zA0):
  PE X (.Call (.Name x p) (e::es) [] pos) (pD sp [] E0 t):=by
 obtain⟨f,fd,F,hb,hk,hm⟩:=C;exact wa F (hr.mono hn) hg hm hk hb .nil fA ha e8 he c_
end
section
variable {P:P3}{w:Qt}{K:Ex}{mg:IT->Option KB}{base:Heap}
def Tx.ok{x:IT}{st:Qq}{N ps:List IT}{k:Nat}{sp:Sp}(T:Tx K mg x st ps)(S:FnScope N ps (af st))(len:∀ vs H Q E,sp vs H Q E->vs.length=ps.length)
  (b9:∀ (f:KF) (cdv:KB) (A:Qu) (outer:List Q4) (s:KM) (H:Hp) (vs:List V) (Q:VK) (E:XK),Room k (A.deeper (QD x (af st) s.heap.objs.size f cdv))->sp vs H Q E->
   ∃ t,PSs (cxOf (Exc.CX1 P w) P w K mg base N x (af st) f cdv A outer s H E).nox (aE st) t/\t {nx:=λ_ H'=>Q .non H',rt:=Q} (start N vs) H):Cal P w K mg base (k+1) x ps sp:=by
 obtain⟨f,fd,F,hb,hm⟩:=T;refine⟨f,fd,Fun.okC F S len (λcdv A outer s H vs Q E hr h=>?_),hb,F.kp,hm⟩;obtain⟨t,h1,h2⟩:=b9 f cdv A outer s H vs Q E hr h;exact⟨t,h1.nox,h2⟩
end
def aS{H:Hp}{p:KF}(h:H p=z7)(o:HO):Same H (upd H p o):=λb u q=>by rw[aj (bM q h)];exact q
def sz{n:Nat}(h:n<=1000):n<=sizeLine:=GA (wP h)
end My
namespace L2
section
variable {X:Cx}
variable{e:Qo}
def PE.anti{t t':TE}(h:PE X e t)(a:∀ s H Q,t' s H Q->t s H Q):PE X e t':=λpins s σ H Q I q=>h pins s σ H Q I (a _ _ _ q)
def PT.anti{t t':TT}(h:PT X e t)(a:∀ s H Q,t' s H Q->t s H Q):PT X e t':=λpins s σ H Q I q=>h pins s σ H Q I (a _ _ _ q)
def PW.anti{t t':TT}(h:PW X e t)(a:∀ s H Q,t' s H Q->t s H Q):PW X e t':=λwh pins s σ H Q I q=>h wh pins s σ H Q I (a _ _ _ q)
def PA.anti{e:List Qo}{t t':TA}(h:PA X e t)(a:∀ s H Q,t' s H Q->t s H Q):PA X e t':=λp pins s σ H Q I q=>h p pins s σ H Q I (a _ _ _ q)
def PS.anti{e:Qq}{t t':TS}(h:PS X e t)(a:∀ E s H,t' E s H->t E s H):PS X e t':=λpins s σ H Q I q=>h pins s σ H Q I (a _ _ _ q)
def PSs.anti{e:List Qq}{t t':TS}(h:PSs X e t)(a:∀ E s H,t' E s H->t E s H):PSs X e t':=λpins s σ H Q I q=>h pins s σ H Q I (a _ _ _ q)
end
end L2
namespace My
inductive D where
 |non|bl (b:Bool)|int (i:Int)|str (x:Str)|tup (xs:List D)|lst (xs:List D)
  |rol (xs:List D)
  |obj (x:IT) (fs:List (IT × D))
  |exc (x:IT) (fs:List (IT × D))
  |own (xs:List D)
  |ptr (a:KF)
  |dti (a9:List ((Int × Int) × Int))
def dtiV(a9:List ((Int × Int) × Int)):List (List Key × V):=a9.map λe=>([.inl e.1.1,.inl e.1.2],.int e.2)
def XO(e C:KF)(od:Option KF):HO:= .ext λh=>∃ vs sl,h.get? e=be ⟨.ref C,od,.fields vs,sl⟩
mutual
def Rep(K:Ex)(H:Hp):D->V->Prop
 | .non,v=>v= .non
 | .bl b,v=>v= .bl b
 | .int i,v=>v= .int i
 | .str x,v=>v= .str x
 | .tup ds,v=>∃ a vs,v= .ref a/\H a=be (.tup vs)/\Reps K H ds vs
 | .lst ds,v=>∃ a vs,v= .ref a/\H a=be (.lst vs)/\Reps K H ds vs
 | .rol ds,v=>∃ a vs,v= .ref a/\SqL K H a vs/\Reps K H ds vs
 | .obj x fs,v=>∃ a C dx vs,v= .ref a/\nsIn K Pi x=be (be (.ref C))/\H a=be (.ins C dx vs)/\RepF K H fs vs
 | .exc x fs,v=>∃ a C od vs,v= .ref a/\nsIn K Pi x=be (be (.ref C))/\H a=be (XO a C od)/\RepF K H fs vs/\((od=z7/\vs=[])\/∃ b,od=be b/\H b=be (.xd vs))
 | .own _,_=>False
 | .ptr a,v=>v= .ref a
 | .dti a9,v=>∃ a,v= .ref a/\H a=be (.dT (dtiV a9))
def RepF(K:Ex)(H:Hp):List (IT × D)->List (IT × V)->Prop
 |[],vs=>vs=[]
 |(f,d)::ds,vs=>∃ v r,vs=(f,v)::r/\Rep K H d v/\RepF K H ds r
def Reps(K:Ex)(H:Hp):List D->List V->Prop
 |[],vs=>vs=[]
 |d::ds,vs=>∃ v r,vs=v::r/\Rep K H d v/\Reps K H ds r
end
mutual
def Rep.mono{K:Ex}{H H':Hp}(g:Same H H'):∀ (d:D) (v:V),Rep K H d v->Rep K H' d v
 | .non,v,h=>by unfold Rep at h ⊢;exact h
 | .bl b,v,h=>by unfold Rep at h ⊢;exact h
 | .int b,v,h=>by unfold Rep at h ⊢;exact h
 | .str b,v,h=>by unfold Rep at h ⊢;exact h
 | .tup ds,v,h=>by
  unfold Rep at h ⊢;obtain⟨a,vs,e,q,r⟩:=h;exact⟨a,vs,e,g _ _ q,Reps.mono g ds vs r⟩
 | .lst ds,v,h=>by
  unfold Rep at h ⊢;obtain⟨a,vs,e,q,r⟩:=h;exact⟨a,vs,e,g _ _ q,Reps.mono g ds vs r⟩
 | .rol ds,v,h=>by
  unfold Rep at h ⊢;obtain⟨a,vs,e,q,r⟩:=h;exact⟨a,vs,e,g.seq q,Reps.mono g ds vs r⟩
 | .obj C fs,v,h=>by
  unfold Rep at h ⊢;obtain⟨a,C,dx,vs,e,n,q,r⟩:=h;exact⟨a,C,dx,vs,e,n,g _ _ q,RepF.mono g fs vs r⟩
 | .exc C fs,v,h=>by
  unfold Rep at h ⊢;obtain⟨a,C,od,vs,e,n,q,r,d⟩:=h;exact⟨a,C,od,vs,e,n,g _ _ q,RepF.mono g fs vs r,d.imp id λ⟨b,h1,h2⟩=>⟨b,h1,g _ _ h2⟩⟩
 | .own ds,v,h=>by
  unfold Rep at h ⊢;exact h
 | .ptr a,v,h=>by unfold Rep at h ⊢;exact h
 | .dti a9,v,h=>by
  unfold Rep at h ⊢;obtain⟨a,e,q⟩:=h;exact⟨a,e,g _ _ q⟩
def RepF.mono{K:Ex}{H H':Hp}(g:Same H H'):∀ (ds:List (IT × D)) (vs:List (IT × V)),RepF K H ds vs->RepF K H' ds vs
 |[],vs,h=>by unfold RepF at h ⊢;exact h
 |(f,d)::ds,vs,h=>by
  unfold RepF at h ⊢;obtain⟨v,r,e,q1,q2⟩:=h;exact⟨v,r,e,Rep.mono g d v q1,RepF.mono g ds r q2⟩
def Reps.mono{K:Ex}{H H':Hp}(g:Same H H'):∀ (ds:List D) (vs:List V),Reps K H ds vs->Reps K H' ds vs
 |[],vs,h=>by unfold Reps at h ⊢;exact h
 |d::ds,vs,h=>by
  unfold Reps at h ⊢;obtain⟨v,r,e,q1,q2⟩:=h;exact⟨v,r,e,Rep.mono g d v q1,Reps.mono g ds r q2⟩
end
section
variable {K:Ex}{H:Hp}
variable{v:V}
def rep_non:Rep K H .non v↔v= .non:=by unfold Rep;exact Iff.rfl
def rep_bl{b:Bool}:Rep K H (.bl b) v↔v= .bl b:=by unfold Rep;exact Iff.rfl
def rep_int{i:Int}:Rep K H (.int i) v↔v= .int i:=by unfold Rep;exact Iff.rfl
variable{x:IT}
def rep_str:Rep K H (.str x) v↔v= .str x:=by unfold Rep;exact Iff.rfl
variable{ds:List D}
def rep_tupS:Rep K H (.tup ds) v↔∃ a vs,v= .ref a/\H a=be (.tup vs)/\Reps K H ds vs:=by
 constructor
 .intro h;unfold Rep at h;exact h
 .intro h;unfold Rep;exact h
def rep_tup_mp(h:Rep K H (.tup ds) v):∃ a vs,v= .ref a/\SqT K H a vs/\Reps K H ds vs:=by
 obtain⟨a,vs,e,q,r⟩:=rep_tupS.mp h;exact⟨a,vs,e,SqT.of q,r⟩
def rep_ptr{a:KF}:Rep K H (.ptr a) v↔v= .ref a:=by unfold Rep;exact Iff.rfl
def rep_dti{a9:List ((Int × Int) × Int)}:Rep K H (.dti a9) v↔∃ a,v= .ref a/\H a=be (.dT (dtiV a9)):=by
 constructor
 .intro h;unfold Rep at h;exact h
 .intro h;unfold Rep;exact h
def rep_lst:Rep K H (.lst ds) v↔∃ a vs,v= .ref a/\H a=be (.lst vs)/\Reps K H ds vs:=by
 constructor
 .intro h;unfold Rep at h;exact h
 .intro h;unfold Rep;exact h
def rep_rol:Rep K H (.rol ds) v↔∃ a vs,v= .ref a/\SqL K H a vs/\Reps K H ds vs:=by
 constructor
 .intro h;unfold Rep at h;exact h
 .intro h;unfold Rep;exact h
variable{fs:List (IT × D)}
def rep_obj:Rep K H (.obj x fs) v↔∃ a C dx vs,v= .ref a/\nsIn K Pi x=be (be (.ref C))/\H a=be (.ins C dx vs)/\RepF K H fs vs:=by
 constructor
 .intro h;unfold Rep at h;exact h
 .intro h;unfold Rep;exact h
def rep_exc:Rep K H (.exc x fs) v↔∃ a C od vs,v= .ref a/\nsIn K Pi x=be (be (.ref C))/\H a=be (XO a C od)/\RepF K H fs vs/\((od=z7/\vs=[])\/∃ b,od=be b/\H b=be (.xd vs)):=by
 constructor
 .intro h;unfold Rep at h;exact h
 .intro h;unfold Rep;exact h
def rep_own:¬ Rep K H (.own ds) v:=by intro h;unfold Rep at h;exact h
variable{vs:List (IT × V)}
def repf_nil:RepF K H [] vs↔vs=[]:=by unfold RepF;exact Iff.rfl
def repf_cons{f:IT}{d:D}{ds:List (IT × D)}:RepF K H ((f,d)::ds) vs↔∃ v r,vs=(f,v)::r/\Rep K H d v/\RepF K H ds r:=by
 constructor
 .intro h;unfold RepF at h;exact h
 .intro h;unfold RepF;exact h
def RepF.look{f:IT}{d:D}:∀ {fs:List (IT × D)} {vs:List (IT × V)},RepF K H fs vs->fs.lookup f=be d->∃ v,vs.lookup f=be v/\Rep K H d v
 |[],_,_,e=>by cases e
 |(g,x)::fs,vs,h,e=>by
  obtain⟨v,r,rfl,h1,h2⟩:=repf_cons.mp h;rw[E8] at e ⊢;split at e
  .cases e;exact⟨v,rfl,h1⟩
  .exact RepF.look h2 e
def RepF.none{f:IT}:∀ {fs:List (IT × D)} {vs:List (IT × V)},RepF K H fs vs->fs.lookup f=Option.none->vs.lookup f=Option.none
 |[],vs,h,_=>by rw[repf_nil.mp h];rfl
 |(g,x)::fs,vs,h,e=>by
  obtain⟨v,r,rfl,h1,h2⟩:=repf_cons.mp h;rw[E8] at e ⊢;split at e
  .cases e
  .exact RepF.none h2 e
def reps_nil{vs:List V}:Reps K H [] vs↔vs=[]:=by unfold Reps;exact Iff.rfl
def reps_cons{d:D}{vs:List V}:Reps K H (d::ds) vs↔∃ v r,vs=v::r/\Rep K H d v/\Reps K H ds r:=by
 constructor
 .intro h;unfold Reps at h;exact h
 .intro h;unfold Reps;exact h
def Reps.length:∀ {ds:List D} {vs:List V},Reps K H ds vs->vs.length=ds.length
 |[],vs,h=>by rw[reps_nil.mp h];rfl
 |d::ds,vs,h=>by
  obtain⟨v,r,rfl,_,h2⟩:=reps_cons.mp h;rw[EN,EN,Reps.length h2]
def Reps.get:∀ {ds:List D} {vs:List V} {i:Nat} {d:D},Reps K H ds vs->ds[i]?=be d->∃ v,vs[i]?=be v/\Rep K H d v
 |[],_,_,_,_,e=>by simp at e
 |x::ds,vs,0,d,h,e=>by
  obtain⟨v,r,rfl,h1,_⟩:=reps_cons.mp h;simp at e;subst e;exact⟨v,rfl,h1⟩
 |x::ds,vs,i+1,d,h,e=>by
  obtain⟨v,r,rfl,_,h2⟩:=reps_cons.mp h;obtain⟨u,q1,q2⟩:=Reps.get (i:=i) h2 (by simpa using e);exact⟨u,by simpa using q1,q2⟩
def Reps.ints:∀ {ns:List Int} {vs:List V},Reps K H (ns.map D.int) vs↔vs=ns.map V.int
 |[],vs=>reps_nil
 |n::ns,vs=>by
  rw[E4,reps_cons,E4];constructor
  .rintro⟨v,r,rfl,h1,h2⟩;rw[rep_int.mp h1,Reps.ints.mp h2]
  .rintro rfl;exact⟨_,_,rfl,rep_int.mpr rfl,Reps.ints.mpr rfl⟩
end
abbrev SD:=List (Option D)
def gw:D->Bool| .own _=>true|_=>false
structure RepS(K:Ex)(B F H:Hp)(t:SD)(s:L2.St):Prop where
 len:s.length=t.length
 val:∀ (i:Nat) d,t[i]?=be (be d)->gw d=false->∃ v,s[i]?=be (be v)/\Rep K F d v
 own:∀ (i:Nat) ds,t[i]?=be (be (.own ds))->∃ a vs,s[i]?=be (be (.ref a))/\H a=be (.lst vs)/\B a=z7/\F a=z7/\Reps K F ds vs
 apart:∀ (i j:Nat) di dj a,t[i]?=be (be (.own di))->t[j]?=be (be (.own dj))->s[i]?=be (be (.ref a))->s[j]?=be (be (.ref a))->i=j
structure Grow(F H F' H':Hp):Prop where
 ff:Same F F'
 fh:Same F' H'
 hh:Same H H'
 out:∀ b,F b=z7->H b≠z7->F' b=z7
variable{F H:Hp}
def Grow.refl(h:Same F H):Grow F H F H:=⟨Same.refl F,h,Same.refl H,λ_ h _=>h⟩
def Grow.trans{F1 H1 F2 H2:Hp}(g:Grow F H F1 H1)(k:Grow F1 H1 F2 H2):Grow F H F2 H2:=
 ⟨g.ff.trans k.ff,k.fh,g.hh.trans k.hh,λb h1 h2=>k.out b (g.out b h1 h2) (by
  cases e:H b with
  |none=>exact absurd e h2
  |some o=>rw[g.hh b o e];exact λz=>nomatch z)⟩
def Grow.new{p:KF}(h:Same F H)(hp:H p=z7)(o:HO):Grow F H (upd F p o) (upd H p o):=by
 have fp:F p=none:=h.free hp;refine⟨aS fp o,λb u e=>?_,aS hp o,λb h1 h2=>?_⟩
 .by_cases hb:b=p
  .subst hb;rw[ay] at e ⊢;exact e
  .rw[aj hb] at e ⊢;exact h b u e
 .by_cases hb:b=p
  .subst hb;exact absurd hp h2
  .rw[aj hb];exact h1
class Jx where
 B:Hp
 F0:Hp
 RX:SD->IT->List (IT × D)->Prop
structure Kept[J:Jx](B F0 F H:Hp):Prop where
 bh:Same B H
 fh:Same F H
 f0:Same F0 F
 out:∀ b,F0 b=z7->B b≠z7->F b=z7
 eb:B=J.B
 jf:Same J.F0 F0
 jo:∀ b,J.F0 b=z7->B b≠z7->F0 b=z7
variable{B:Hp}
def Kept.kf[J:Jx]{F0:Hp}(k:Kept B F0 F H):Kept B J.F0 F H:=⟨k.bh,k.fh,k.jf.trans k.f0,λb h1 h2=>k.out b (k.jo b h1 h2) h2,k.eb,Same.refl _,λ_ h _=>h⟩
def Kept.grow[Jx]{F0 F' H':Hp}(k:Kept B F0 F H)(g:Grow F H F' H'):Kept B F0 F' H':=
 ⟨k.bh.trans g.hh,g.fh,k.f0.trans g.ff,λb h1 h2=>g.out b (k.out b h1 h2) (by
  cases e:B b with
  |none=>exact absurd e h2
  |some o=>rw[k.bh b o e];exact λz=>nomatch z),k.eb,k.jf,k.jo⟩
section
variable {K:Ex}{B F H F' H':Hp}{t:SD}{s:L2.St}
def RepS.grow(g:Grow F H F' H')(h:RepS K B F H t s):RepS K B F' H' t s where
 len:=h.len
 val:=λi d e no=>let ⟨v,q1,q2⟩:=h.val i d e no;⟨v,q1,q2.mono g.ff⟩
 own:=λi ds e=>by
  obtain⟨a,vs,q1,q2,q3,q4,q5⟩:=h.own i ds e;exact⟨a,vs,q1,g.hh a _ q2,q3,g.out a q4 (by rw[q2];exact λz=>nomatch z),q5.mono g.ff⟩
 apart:=h.apart
variable{i:Nat}
def RepS.set{d:D}{v:V}(h:RepS K B F H t s)(r:Rep K F d v):RepS K B F H (t.set i (be d)) (s.set i (be v)):=by
 have no:gw d=false:=by
  cases d with
  |own ds=>exact absurd r rep_own
  |_=>rfl
 have get:∀ {j:Nat} {x:D},(t.set i (be d))[j]?=be (be x)->(j=i/\x=d/\i<t.length)\/(j≠i/\t[j]?=be (be x)):=λ{j x} e=>by
  by_cases hj:i=j
  .subst hj;rw[F7] at e;simp at e;exact .inl ⟨rfl,e.2.symm,e.1⟩
  .rw[E9 hj] at e;exact .inr ⟨λz=>hj z.symm,e⟩
 refine⟨by rw[FR,FR];exact h.len,λj x e nx=>?_,λj ds e=>?_,λj k dj dk a e1 e2 e3 e4=>?_⟩
 .rcases get e with⟨rfl,rfl,hl⟩|⟨hj,e⟩
  .exact⟨v,by rw[FB (by rw[h.len];exact hl)],r⟩
  .obtain⟨u,q1,q2⟩:=h.val j x e nx;exact⟨u,by rw[E9 (λz=>hj z.symm)];exact q1,q2⟩
 .rcases get e with⟨rfl,rfl,hl⟩|⟨hj,e⟩
  .cases no
  .obtain⟨a,vs,q1,q⟩:=h.own j ds e;exact⟨a,vs,by rw[E9 (λz=>hj z.symm)];exact q1,q⟩
 .rcases get e1 with⟨rfl,rfl,hl⟩|⟨hj,e1⟩
  .cases no
  .rcases get e2 with⟨rfl,rfl,hl⟩|⟨hk,e2⟩
   .cases no
   .rw[E9 (λz=>hj z.symm)] at e3;rw[E9 (λz=>hk z.symm)] at e4;exact h.apart j k dj dk a e1 e2 e3 e4
variable{ds:List D}
def RepS.setOwn{a:KF}{vs:List V}(h:RepS K B F H t s)(hB:B a=z7)(hF:F a=z7)(r:Reps K F ds vs)
  (free:∀ (j:Nat) dj,j≠i->t[j]?=be (be (.own dj))->s[j]?≠be (be (.ref a))):RepS K B F (upd H a (.lst vs)) (t.set i (be (.own ds))) (s.set i (be (.ref a))):=by
 have get:∀ {j:Nat} {x:D},(t.set i (be (.own ds)))[j]?=be (be x)->(j=i/\x= .own ds/\i<t.length)\/(j≠i/\t[j]?=be (be x)):=λ{j x} e=>by
  by_cases hj:i=j
  .subst hj;rw[F7] at e;simp at e;exact .inl ⟨rfl,e.2.symm,e.1⟩
  .rw[E9 hj] at e;exact .inr ⟨λz=>hj z.symm,e⟩
 refine⟨by rw[FR,FR];exact h.len,λj x e nx=>?_,λj dj e=>?_,λj k dj dk b e1 e2 e3 e4=>?_⟩
 .rcases get e with⟨rfl,rfl,hl⟩|⟨hj,e⟩
  .cases nx
  .obtain⟨u,q1,q2⟩:=h.val j x e nx;exact⟨u,by rw[E9 (λz=>hj z.symm)];exact q1,q2⟩
 .rcases get e with⟨rfl,e,hl⟩|⟨hj,e⟩
  .cases e;exact⟨a,vs,by rw[FB (by rw[h.len];exact hl)],ay,hB,hF,r⟩
  .obtain⟨b,us,q1,q2,q⟩:=h.own j dj e;have ne:b≠a:=λz=>free j dj hj e (z ▸ q1);exact⟨b,us,by rw[E9 (λz=>hj z.symm)];exact q1,by rw[aj ne];exact q2,q⟩
 .rcases get e1 with⟨hj,c1,hl⟩|⟨hj,f1⟩
  .rcases get e2 with⟨hk,c2,IW⟩|⟨hk,f2⟩
   .rw[hj,hk]
   .rw[hj,FB (by rw[h.len];exact hl)] at e3;rw[E9 (λz=>hk z.symm)] at e4;cases e3;exact absurd e4 (free k dk hk f2)
  .rcases get e2 with⟨hk,c2,IW⟩|⟨hk,f2⟩
   .rw[hk,FB (by rw[h.len];exact IW)] at e4;rw[E9 (λz=>hj z.symm)] at e3;cases e4;exact absurd e3 (free j dj hj f1)
   .rw[E9 (λz=>hj z.symm)] at e3;rw[E9 (λz=>hk z.symm)] at e4;exact h.apart j k dj dk b f1 f2 e3 e4
def RepS.freeze[Jx]{F0:Hp}(h:RepS K B F H t s)(k:Kept B F0 F H)(e:t[i]?=be (be (.own ds))):∃ F',Kept B F0 F' H/\RepS K B F' H (t.set i (be (.lst ds))) s:=by
 obtain⟨a,vs,q1,q2,q3,q4,q5⟩:=h.own i ds e;have hl:i<t.length:=(E6.mp e).1;have g:Same F (upd F a (.lst vs)):=aS q4 _;have get:∀ {j:Nat} {x:D},(t.set i (be (.lst ds)))[j]?=be (be x)->(j=i/\x= .lst ds)\/(j≠i/\t[j]?=be (be x)):=λ{j x} e=>by
  by_cases hj:i=j
  .subst hj;rw[F7] at e;simp at e;exact .inl ⟨rfl,e.2.symm⟩
  .rw[E9 hj] at e;exact .inr ⟨λz=>hj z.symm,e⟩
 refine⟨upd F a (.lst vs),⟨k.bh,λb o z=>?_,k.f0.trans g,λb h1 h2=>?_,k.eb,k.jf,k.jo⟩,⟨by rw[FR];exact h.len,λj x e' nx=>?_,λj dj e'=>?_,λj l dj dl b e1 e2 e3 e4=>?_⟩⟩
 .by_cases hb:b=a
  .subst hb;rw[ay] at z;cases z;exact q2
  .rw[aj hb] at z;exact k.fh b o z
 .by_cases hb:b=a
  .subst hb;exact absurd q3 h2
  .rw[aj hb];exact k.out b h1 h2
 .rcases get e' with⟨rfl,rfl⟩|⟨hj,e'⟩
  .exact⟨.ref a,q1,rep_lst.mpr ⟨a,vs,rfl,ay,q5.mono g⟩⟩
  .obtain⟨u,p1,p2⟩:=h.val j x e' nx;exact⟨u,p1,p2.mono g⟩
 .rcases get e' with⟨rfl,c⟩|⟨hj,e'⟩
  .cases c
  .obtain⟨b,us,p1,p2,p3,p4,p5⟩:=h.own j dj e';have ne:b≠a:=λz=>hj (h.apart j i dj ds a e' e (z ▸ p1) q1);exact⟨b,us,p1,p2,p3,by rw[aj ne];exact p4,p5.mono g⟩
 .rcases get e1 with⟨rfl,c⟩|⟨hj,e1⟩
  .cases c
  .rcases get e2 with⟨rfl,c⟩|⟨hk,e2⟩
   .cases c
   .exact h.apart j l dj dl b e1 e2 e3 e4
end
def startD(N:List IT)(ds:List D):SD:=ds.map be++EQ (N.length - ds.length) z7
variable{K:Ex}
def Rep.noown{d:D}{v:V}(r:Rep K F d v):gw d=false:=by
 cases d with
 |own ds=>exact absurd r rep_own
 |_=>rfl
def dZ{N:List IT}{ds:List D}{vs:List V}(h:Reps K F ds vs):RepS K B F H (startD N ds) (L2.start N vs):=by
 have hl:=h.length;have get:∀ (i:Nat) d,(startD N ds)[i]?=be (be d)->∃ v,(L2.start N vs)[i]?=be (be v)/\Rep K F d v:=λi d e=>by
  unfold startD at e;unfold L2.start;by_cases hi:i<ds.length
  .rw[Fu (by simpa using hi),E3] at e;cases q:ds[i]? with
   |none=>rw[q] at e;cases e
   |some x=>
    rw[q] at e;cases e;obtain⟨v,q1,q2⟩:=h.get q;exact⟨v,by rw[Fu (by simpa[hl] using hi),E3,q1];rfl,q2⟩
  .rw[FC (by simpa using hi),Gf] at e;split at e<;>cases e
 refine⟨by unfold startD L2.start;simp[hl],λi d e _=>get i d e,λi d e=>?_,λi j di dj a e=>?_⟩
 .obtain⟨v,_,r⟩:=get i _ e;exact absurd r rep_own
 .obtain⟨v,_,r⟩:=get i _ e;exact absurd r rep_own
abbrev TD:=SD->(D->Prop)->Prop
abbrev TDT:=SD->(Bool->Prop)->Prop
abbrev TDA:=SD->(List D->Prop)->Prop
structure EndsD where
 nx:SD->Prop
 rt:D->Prop
 bk:SD->Prop:=λ_=>False
 ct:SD->Prop:=λ_=>False
abbrev TSD:=EndsD->SD->Prop
def lE(K:Ex)[J:Jx](t:TD):TE:=λs H Q=>∃ B F z,Kept B J.F0 F H/\RepS K B F H z s/\∃ R:D->Prop,t z R/\∀ d v F' H',Grow F H F' H'->R d->Rep K F' d v->Q v H'
def lT(K:Ex)[J:Jx](t:TDT):TT:=λs H Q=>∃ B F z,Kept B J.F0 F H/\RepS K B F H z s/\∃ R:Bool->Prop,t z R/\∀ b F' H',Grow F H F' H'->R b->Q b H'
def lA(K:Ex)[J:Jx](t:TDA):TA:=λs H Q=>∃ B F z,Kept B J.F0 F H/\RepS K B F H z s/\∃ R:List D->Prop,t z R/\∀ ds vs F' H',Grow F H F' H'->R ds->Reps K F' ds vs->Q vs H'
structure EndsOk[Jx](K:Ex)(B F0:Hp)(ED:EndsD)(E:Ends):Prop where
 nx:∀ z' s' F' H',Kept B F0 F' H'->ED.nx z'->RepS K B F' H' z' s'->E.nx s' H'
 rt:∀ d v F' H',Kept B F0 F' H'->ED.rt d->Rep K F' d v->E.rt v H'
 bk:∀ z' s' F' H',Kept B F0 F' H'->ED.bk z'->RepS K B F' H' z' s'->E.bk s' H'
 ct:∀ z' s' F' H',Kept B F0 F' H'->ED.ct z'->RepS K B F' H' z' s'->E.ct s' H'
def lS(K:Ex)[Jx](t:TSD):TS:=λE s H=>∃ B F0 F z,Kept B F0 F H/\RepS K B F H z s/\∃ ED:EndsD,t ED z/\EndsOk K B F0 ED E
abbrev DE(X:Cx)[Jx](e:Qo)(t:TD):Prop:=PE X e (lE X.K t)
abbrev DT(X:Cx)[Jx](e:Qo)(t:TDT):Prop:=PT X e (lT X.K t)
abbrev DW(X:Cx)[Jx](e:Qo)(t:TDT):Prop:=PW X e (lT X.K t)
abbrev DA(X:Cx)[Jx](es:List Qo)(t:TDA):Prop:=PA X es (lA X.K t)
abbrev DS(X:Cx)[Jx](st:Qq)(t:TSD):Prop:=PS X st (lS X.K t)
abbrev DSs(X:Cx)[Jx](st:List Qq)(t:TSD):Prop:=PSs X st (lS X.K t)
structure WDE(X:Cx)[Jx](e:Qo)(t:TD):Prop where
 out:DE X e t
structure WDT(X:Cx)[Jx](e:Qo)(t:TDT):Prop where
 out:DT X e t
structure WDW(X:Cx)[Jx](e:Qo)(t:TDT):Prop where
 out:DW X e t
structure WDA(X:Cx)[Jx](es:List Qo)(t:TDA):Prop where
 out:DA X es t
structure WDS(X:Cx)[Jx](st:Qq)(t:TSD):Prop where
 out:DS X st t
structure WDSs(X:Cx)[Jx](st:List Qq)(t:TSD):Prop where
 out:DSs X st t
section
variable {X:Cx}
def okR(R:D->Prop):D->Prop| .own _=>False|d=>R d
def dVar(i:Nat):TD:=λz R=>match z[i]? with|some (be d)=>okR R d|_=>False
def dC(d:D):TD:=λ_ R=>R d
variable{x:IT}
def aa[Jx](i:Nat){pos:QC}(hN:autoParam (X.N[i]?=be x) zA0)(hv:autoParam (Vis X.env.scope x) zA5)(hd:autoParam (zND x) zA1)
  (g6:autoParam (zNC x) zA1):WDE X (.Name x pos) (dVar i):=⟨(dB hN hv hd g6).anti λs H Q h=>by
 obtain⟨B,F,z,kf,r,R,h1,h2⟩:=h;have fh:=kf.fh;unfold dVar at h1;split at h1
 .rename_i d e;have no:gw d=false:=by
   cases d with
   |own ds=>exact False.elim h1
   |_=>rfl
  have OK:R d:=by
   cases d with
   |own ds=>exact False.elim h1
   |_=>exact h1
  obtain⟨v,q1,q2⟩:=r.val i d e no;exact⟨v,q1,h2 d v F H (Grow.refl fh) OK q2⟩
 .exact h1.elim⟩
variable{e:Qo}
def de_c[Jx]{d:D}{v:V}(h:PE X e (tC v))(r:∀ H,Rep X.K H d v):DE X e (dC d):=h.anti λs H Q q=>by
 obtain⟨B,F,z,kf,_,R,h1,h2⟩:=q;have fh:=kf.fh;exact h2 d v F H (Grow.refl fh) h1 (r F)
def ad[Jx]{i j pos}:WDE X (.Constant (.int i) j pos) (dC (.int i)):=⟨de_c ul λ_=>rep_int.mpr rfl⟩
def bx[Jx]{b j pos}:WDE X (.Constant (.bool b) j pos) (dC (.bl b)):=⟨de_c um λ_=>rep_bl.mpr rfl⟩
def eA[Jx]{j pos}:WDE X (.Constant .none j pos) (dC .non):=⟨de_c uo λ_=>rep_non.mpr rfl⟩
def az[Jx]{x j pos}:WDE X (.Constant (.str x) j pos) (dC (.str x)):=⟨de_c oJ λ_=>rep_str.mpr rfl⟩
abbrev RD2:=D->D->(D->Prop)->Prop
def dOp(r:RD2)(ta tb:TD):TD:=λz R=>ta z λx=>tb z λy=>r x y R
def aR(K:Ex)(r:R2)(rd:RD2):Prop:=∀ x y u v F H R Q,Same F H->rd x y R->Rep K F x u->Rep K F y v->(∀ d w F' H',Grow F H F' H'->R d->Rep K F' d w->Q w H')->r u v H Q
variable{r:R2}{rd:RD2}
def jG[Jx]{ta tb:TD}(L:aR X.K r rd)(h:PE X e (tOp r (lE X.K ta) (lE X.K tb))):DE X e (dOp rd ta tb):=h.anti λs H Q q=>by
 obtain⟨B,F,z,kf,rs,R,h1,h2⟩:=q;have fh:=kf.fh;refine⟨B,F,z,kf,rs,_,h1,λx u F1 H1 g1 hx rx=>?_⟩;refine⟨B,F1,z,kf.grow g1,rs.grow g1,_,hx,λy v F2 H2 g2 hy ry=>?_⟩;exact L x y u v F2 H2 R Q g2.fh hy (rx.mono g2.ff) ry λd w F' H' g3=>h2 d w F' H' (g1.trans (g2.trans g3))
variable {a b c:Qo}{ta tb tc:TD}{pos:QC}
def cW[Jx]{op:Operator}(ho:OpR X (QI op) r)(L:aR X.K r rd)(ha:DE X a ta)(hb:DE X b tb):DE X (.BinOp a op b pos) (dOp rd ta tb):=jG L (pe ho ha hb)
def qc[Jx]{op:RF}(ho:OpR X (QA op) r)(L:aR X.K r rd)(ha:DE X a ta)(hb:DE X b tb)(hm:QL op b=false):DE X (.Compare a [op] [b] pos) (dOp rd ta tb):=jG L (vB ho ha hb hm)
def xh[Jx](hr:IxR X r)(L:aR X.K r rd)(ha:DE X a ta)(hb:DE X b tb)(hs:autoParam (dX b) zA6):DE X (.Subscript a b pos) (dOp rd ta tb):=jG L (pe_ix hr ha hb hs)
def rdAdd:RD2:=λx y R=>match x,y with
 | .int i,.int j=>R (.int (i+j))
 | .str i,.str j=>i.length+j.length<=1000000/\R (.str (i++j))
 | .lst xs,.lst ys=>xs.length+ys.length<=1000000/\R (.lst (xs++ys))
 | .tup xs,.tup ys=>(xs≠[]/\ys≠[]/\xs.length+ys.length<=1000000)/\R (.tup (xs++ys))
 |_,_=>False
def qd(K:Ex):R2:=λx y H Q=>rI0 (λi j=> .int (i+j)) x y H Q\/((λx y H Q=>∃ i j,x= .str i/\y= .str j/\i.length+j.length<=sizeLine/\Q (.str (i++j)) H) x y H Q\/(rCat x y H Q\/pL K x y H Q))
def qe:OpR X (QI .Add) (qd X.K):=OpR.or vn (OpR.or vH (OpR.or wH wt))
def Reps.append{K:Ex}{F:Hp}:∀ {xs ys:List D} {us vs:List V},Reps K F xs us->Reps K F ys vs->Reps K F (xs++ys) (us++vs)
 |[],ys,us,vs,r1,r2=>by rw[reps_nil.mp r1];exact r2
 |x::xs,ys,us,vs,r1,r2=>by
  obtain⟨u,ur,rfl,a1,a2⟩:=reps_cons.mp r1;exact reps_cons.mpr ⟨u,ur++vs,rfl,a1,Reps.append a2 r2⟩
variable{K:Ex}
def Reps.ne_nil{F:Hp}{xs:List D}{us:List V}(r:Reps K F xs us)(h:xs≠[]):us≠[]:=by
 cases xs with
 |nil=>exact absurd rfl h
 |cons x xs=>obtain⟨u,ur,rfl,_⟩:=reps_cons.mp r;exact λz=>nomatch z
def qf:aR K (qd K) rdAdd:=by
 intro x y u v F H R Q fh h rx ry q;unfold rdAdd at h;split at h
 .exact .inl ⟨_,_,rep_int.mp rx,rep_int.mp ry,q _ _ F H (Grow.refl fh) h (rep_int.mpr rfl)⟩
 .exact .inr (.inl ⟨_,_,rep_str.mp rx,rep_str.mp ry,E1 h.1 (by decide),q _ _ F H (Grow.refl fh) h.2 (rep_str.mpr rfl)⟩)
 .obtain⟨a,us,rfl,hq,rr⟩:=rep_lst.mp rx;obtain⟨b,vs,rfl,m5,n4⟩:=rep_lst.mp ry;refine .inr (.inr (.inl ⟨a,b,us,vs,rfl,rfl,fh _ _ hq,fh _ _ m5,by rw[rr.length,n4.length];exact E1 h.1 (by decide),λp hp=>?_⟩));exact q _ _ _ _ (Grow.new fh hp _) h.2 (rep_lst.mpr ⟨p,_,rfl,ay,(rr.append n4).mono (aS (fh.free hp) _)⟩)
 .obtain⟨a,us,rfl,hq,rr⟩:=rep_tup_mp rx;obtain⟨b,vs,rfl,m5,n4⟩:=rep_tup_mp ry;obtain⟨⟨n1,n2,hz⟩,h⟩:=h;refine .inr (.inr (.inr ⟨a,b,us,vs,rfl,rfl,fh.tup hq,fh.tup m5,rr.ne_nil n1,by rw[rr.length,n4.length];exact E1 hz (by decide),λz=>absurd z (n4.ne_nil n2),λ_ p hp=>?_⟩));exact q _ _ _ _ (Grow.new fh hp _) h (rep_tupS.mpr ⟨p,_,rfl,ay,(rr.append n4).mono (aS (fh.free hp) _)⟩)
 .exact h.elim
def ar[Jx](ha:WDE X a ta)(hb:WDE X b tb):WDE X (.BinOp a .Add b pos) (dOp rdAdd ta tb):=⟨have ha:=ha.out;have hb:=hb.out;cW qe qf ha hb⟩
def rdSub:RD2:=λx y R=>match x,y with| .int i,.int j=>R (.int (i - j))|_,_=>False
def qg:aR K (rI0 λi j=> .int (i - j)) rdSub:=by
 intro x y u v F H R Q fh h rx ry q;unfold rdSub at h;split at h
 .exact⟨_,_,rep_int.mp rx,rep_int.mp ry,q _ _ F H (Grow.refl fh) h (rep_int.mpr rfl)⟩
 .exact h.elim
def bu[Jx](ha:WDE X a ta)(hb:WDE X b tb):WDE X (.BinOp a .Sub b pos) (dOp rdSub ta tb):=⟨have ha:=ha.out;have hb:=hb.out;cW pf qg ha hb⟩
def rdMul:RD2:=λx y R=>match x,y with| .int i,.int j=>CMul i j/\R (.int (i*j))|_,_=>False
def xi:aR K (rI CMul λi j=> .int (i*j)) rdMul:=by
 intro x y u v F H R Q fh h rx ry q;unfold rdMul at h;split at h
 .exact⟨_,_,rep_int.mp rx,rep_int.mp ry,h.1,q _ _ F H (Grow.refl fh) h.2 (rep_int.mpr rfl)⟩
 .exact h.elim
def aV[Jx](ha:WDE X a ta)(hb:WDE X b tb):WDE X (.BinOp a .Mult b pos) (dOp rdMul ta tb):=⟨have ha:=ha.out;have hb:=hb.out;cW ph xi ha hb⟩
def rdFdiv:RD2:=λx y R=>match x,y with| .int i,.int j=>(0<j/\j<1073741824)/\R (.int (i / j))|_,_=>False
def xj:aR K (rI CDiv λi j=> .int (i / j)) rdFdiv:=by
 intro x y u v F H R Q fh h rx ry q;unfold rdFdiv at h;split at h
 .exact⟨_,_,rep_int.mp rx,rep_int.mp ry,h.1,q _ _ F H (Grow.refl fh) h.2 (rep_int.mpr rfl)⟩
 .exact h.elim
def bB[Jx](ha:WDE X a ta)(hb:WDE X b tb):WDE X (.BinOp a .FloorDiv b pos) (dOp rdFdiv ta tb):=⟨have ha:=ha.out;have hb:=hb.out;cW vo xj ha hb⟩
def qh(i j:Int):Prop:=j≠0/\j.natAbs<4611686018427387904
def xk:OpR X (QI .FloorDiv) (rI qh λi j=> .int (i.fdiv j)):=opI λ_ j _ _ _ _ _ hc q=>floordiv_int hc.1 q (.inl (PyProof.noPylong_of_log2 (HD ((HG (λz=>hc.1 (Int.natAbs_eq_zero.mp z))).mpr (show j.natAbs<2 ^ 62 from hc.2)) (by decide))))
def rdFdivN:RD2:=λx y R=>match x,y with| .int i,.int j=>(j≠0/\j.natAbs<4611686018427387904)/\R (.int (i.fdiv j))|_,_=>False
def xm:aR K (rI qh λi j=> .int (i.fdiv j)) rdFdivN:=by
 intro x y u v F H R Q fh h rx ry q;unfold rdFdivN at h;split at h
 .exact⟨_,_,rep_int.mp rx,rep_int.mp ry,h.1,q _ _ F H (Grow.refl fh) h.2 (rep_int.mpr rfl)⟩
 .exact h.elim
def xn[Jx](ha:WDE X a ta)(hb:WDE X b tb):WDE X (.BinOp a .FloorDiv b pos) (dOp rdFdivN ta tb):=⟨have ha:=ha.out;have hb:=hb.out;cW xk xm ha hb⟩
def rdMod:RD2:=λx y R=>match x,y with| .int i,.int j=>0<j/\R (.int (i % j))|_,_=>False
def xo:aR K (rI (λ_ j=>0<j) λi j=> .int (i % j)) rdMod:=by
 intro x y u v F H R Q fh h rx ry q;unfold rdMod at h;split at h
 .exact⟨_,_,rep_int.mp rx,rep_int.mp ry,h.1,q _ _ F H (Grow.refl fh) h.2 (rep_int.mpr rfl)⟩
 .exact h.elim
def aP[Jx](ha:WDE X a ta)(hb:WDE X b tb):WDE X (.BinOp a .Mod b pos) (dOp rdMod ta tb):=⟨have ha:=ha.out;have hb:=hb.out;cW vp xo ha hb⟩
def rdPow:RD2:=λx y R=>match x,y with| .int i,.int j=>(0<=j/\j<=1000000/\i.natAbs<2 ^ 64)/\R (.int (i ^ j.toNat))|_,_=>False
def xp:aR K (rI CPow λi j=> .int (i ^ j.toNat)) rdPow:=by
 intro x y u v F H R Q fh h rx ry q;unfold rdPow at h;split at h
 .exact⟨_,_,rep_int.mp rx,rep_int.mp ry,h.1,q _ _ F H (Grow.refl fh) h.2 (rep_int.mpr rfl)⟩
 .exact h.elim
def eB[Jx](ha:WDE X a ta)(hb:WDE X b tb):WDE X (.BinOp a .Pow b pos) (dOp rdPow ta tb):=⟨have ha:=ha.out;have hb:=hb.out;cW vq xp ha hb⟩
def rdLt:RD2:=λx y R=>match x,y with| .int i,.int j=>R (.bl (decide (i<j)))|_,_=>False
def jH:aR K (rI0 λi j=> .bl (decide (i<j))) rdLt:=by
 intro x y u v F H R Q fh h rx ry q;unfold rdLt at h;split at h
 .exact⟨_,_,rep_int.mp rx,rep_int.mp ry,q _ _ F H (Grow.refl fh) h (rep_bl.mpr rfl)⟩
 .exact h.elim
def rdLe:RD2:=λx y R=>match x,y with| .int i,.int j=>R (.bl (decide (i<=j)))|_,_=>False
def xq:aR K (rI0 λi j=> .bl (decide (i<=j))) rdLe:=by
 intro x y u v F H R Q fh h rx ry q;unfold rdLe at h;split at h
 .exact⟨_,_,rep_int.mp rx,rep_int.mp ry,q _ _ F H (Grow.refl fh) h (rep_bl.mpr rfl)⟩
 .exact h.elim
def rdGt:RD2:=λx y R=>match x,y with| .int i,.int j=>R (.bl (decide (j<i)))|_,_=>False
def xr:aR K (rI0 λi j=> .bl (decide (j<i))) rdGt:=by
 intro x y u v F H R Q fh h rx ry q;unfold rdGt at h;split at h
 .exact⟨_,_,rep_int.mp rx,rep_int.mp ry,q _ _ F H (Grow.refl fh) h (rep_bl.mpr rfl)⟩
 .exact h.elim
def rdEq:RD2:=λx y R=>match x,y with
 | .int i,.int j=>R (.bl (decide (i=j)))
 | .bl i,.bl j=>R (.bl (decide (i=j)))
 | .str i,.str j=>R (.bl (decide (i=j)))
 | .non,.non=>R (.bl true)
 |_,_=>False
def rdNe:RD2:=λx y R=>match x,y with
 | .int i,.int j=>R (.bl (!decide (i=j)))
 | .bl i,.bl j=>R (.bl (!decide (i=j)))
 | .str i,.str j=>R (.bl (!decide (i=j)))
 | .non,.non=>R (.bl false)
 |_,_=>False
def jI:aR K rEq rdEq:=by
 intro x y u v F H R Q fh h rx ry q;unfold rdEq at h;split at h
 .rw[rep_int.mp rx,rep_int.mp ry];refine⟨rfl,q _ _ F H (Grow.refl fh) h (rep_bl.mpr ?_)⟩;simp
 .rw[rep_bl.mp rx,rep_bl.mp ry];refine⟨rfl,q _ _ F H (Grow.refl fh) h (rep_bl.mpr ?_)⟩;simp
 .rw[rep_str.mp rx,rep_str.mp ry];refine⟨rfl,q _ _ F H (Grow.refl fh) h (rep_bl.mpr ?_)⟩;simp
 .rw[rep_non.mp rx,rep_non.mp ry];refine⟨rfl,q _ _ F H (Grow.refl fh) h (rep_bl.mpr ?_)⟩;simp
 .exact h.elim
def xt:aR K rNe rdNe:=by
 intro x y u v F H R Q fh h rx ry q;unfold rdNe at h;split at h
 .rw[rep_int.mp rx,rep_int.mp ry];refine⟨rfl,q _ _ F H (Grow.refl fh) h (rep_bl.mpr ?_)⟩;simp
 .rw[rep_bl.mp rx,rep_bl.mp ry];refine⟨rfl,q _ _ F H (Grow.refl fh) h (rep_bl.mpr ?_)⟩;simp
 .rw[rep_str.mp rx,rep_str.mp ry];refine⟨rfl,q _ _ F H (Grow.refl fh) h (rep_bl.mpr ?_)⟩;simp
 .rw[rep_non.mp rx,rep_non.mp ry];refine⟨rfl,q _ _ F H (Grow.refl fh) h (rep_bl.mpr ?_)⟩;simp
 .exact h.elim
def xu[Jx](ha:WDE X a ta)(hb:WDE X b tb):WDE X (.Compare a [.Eq] [b] pos) (dOp rdEq ta tb):=⟨have ha:=ha.out;have hb:=hb.out;qc jv jI ha hb (nomark _)⟩
def qi:D->Bool| .non=>true|_=>false
def rdIs(f:Bool->Bool):RD2:=λx y R=>match y with| .non=>R (.bl (f (qi x)))|_=>False
def qj{H:Hp}{x:D}{u:V}(r:Rep K H x u):decide (u= .non)=qi x:=by
 cases x with
 |non=>rw[rep_non.mp r];rfl
 |bl b=>rw[rep_bl.mp r];rfl
 |int b=>rw[rep_int.mp r];rfl
 |str b=>rw[rep_str.mp r];rfl
 |tup b=>obtain⟨a,vs,rfl,_⟩:=rep_tup_mp r;rfl
 |lst b=>obtain⟨a,vs,rfl,_⟩:=rep_lst.mp r;rfl
 |rol b=>obtain⟨a,vs,rfl,_⟩:=rep_rol.mp r;rfl
 |obj C b=>obtain⟨a,C,dx,vs,rfl,_⟩:=rep_obj.mp r;rfl
 |exc C b=>obtain⟨a,C,od,vs,rfl,_⟩:=rep_exc.mp r;rfl
 |own b=>exact absurd r rep_own
 |ptr b=>rw[rep_ptr.mp r];rfl
 |dti b=>obtain⟨a,rfl,_⟩:=rep_dti.mp r;rfl
def xx:aR K (λx y H Q=>y= .non/\Q (.bl (decide (x= .non))) H) (rdIs id):=by
 intro x y u v F H R Q fh h rx ry q;unfold rdIs at h;split at h
 .exact⟨rep_non.mp ry,q _ _ F H (Grow.refl fh) h (rep_bl.mpr (by rw[qj rx];rfl))⟩
 .exact h.elim
def xy:aR K (λx y H Q=>y= .non/\Q (.bl (!decide (x= .non))) H) (rdIs not):=by
 intro x y u v F H R Q fh h rx ry q;unfold rdIs at h;split at h
 .exact⟨rep_non.mp ry,q _ _ F H (Grow.refl fh) h (rep_bl.mpr (by rw[qj rx]))⟩
 .exact h.elim
def rdIx:RD2:=λx y R=>match x,y with
 | .tup ds,.int i=>∃ d,atI ds i=be d/\R d
 | .lst ds,.int i=>∃ d,atI ds i=be d/\R d
 | .rol ds,.int i=>∃ d,atI ds i=be d/\R d
 | .str x,.int i=>∃ c,(x.length<=1000000/\atI x.cps.toList i=be c)/\R (.str ⟨#[c]⟩)
 |_,_=>False
def Reps.at{H:Hp}{ds:List D}{vs:List V}{i:Int}{d:D}(r:Reps K H ds vs)(e:atI ds i=be d):∃ v,atI vs i=be v/\Rep K H d v:=by
 unfold atI at e ⊢;rw[r.length];cases q:ixN ds.length i with
 |none=>rw[q] at e;cases e
 |some j=>
  rw[q] at e;exact r.get e
def ql:aR K (rIx K) rdIx:=by
 intro x y u v F H R Q fh h rx ry q;unfold rdIx at h;split at h
 .obtain⟨d,e,h⟩:=h;obtain⟨a,vs,e1,hq,rs⟩:=rep_tup_mp rx;obtain⟨w,e2,j5⟩:=rs.at e;exact .inr (.inl ⟨a,vs,_,w,e1,rep_int.mp ry,fh.tup hq,e2,q d w F H (Grow.refl fh) h j5⟩)
 .obtain⟨d,e,h⟩:=h;obtain⟨a,vs,e1,hq,rs⟩:=rep_lst.mp rx;obtain⟨w,e2,j5⟩:=rs.at e;exact .inl ⟨a,vs,_,w,e1,rep_int.mp ry,fh.seq (SqL.of hq),e2,q d w F H (Grow.refl fh) h j5⟩
 .obtain⟨d,e,h⟩:=h;obtain⟨a,vs,e1,hq,rs⟩:=rep_rol.mp rx;obtain⟨w,e2,j5⟩:=rs.at e;exact .inl ⟨a,vs,_,w,e1,rep_int.mp ry,fh.seq hq,e2,q d w F H (Grow.refl fh) h j5⟩
 .obtain⟨c,⟨hz,e⟩,h⟩:=h;exact .inr (.inr ⟨_,_,c,rep_str.mp rx,rep_int.mp ry,E1 hz (by decide),e,q _ _ F H (Grow.refl fh) h (rep_str.mpr rfl)⟩)
 .exact h.elim
def ai[Jx](ha:WDE X a ta)(hb:WDE X b tb)(hs:autoParam (dX b) zA6):WDE X (.Subscript a b pos) (dOp rdIx ta tb):=⟨have ha:=ha.out;have hb:=hb.out;xh pN ql ha hb hs⟩
def dUn(r:D->(D->Prop)->Prop)(ta:TD):TD:=λz R=>ta z λx=>r x R
def qm:D->(D->Prop)->Prop:=λx R=>match x with| .int i=>R (.int (-i))|_=>False
def dF[Jx](ha:WDE X a ta):WDE X (.UnaryOp .USub a pos) (dUn qm ta):=⟨have ha:=ha.out;(vm vt ha).anti λs H Q h=>by
 obtain⟨B,F,z,kf,rs,R,h1,h2⟩:=h;have fh:=kf.fh;refine⟨B,F,z,kf,rs,_,h1,λx u F1 H1 g1 hx rx=>?_⟩;unfold qm at hx;split at hx
 .exact⟨_,rep_int.mp rx,h2 _ _ F1 H1 g1 hx (rep_int.mpr rfl)⟩
 .exact hx.elim⟩
def dNil:TDA:=λ_ R=>R []
def xz(ta:TD)(tr:TDA):TDA:=λz R=>ta z λx=>tr z λxs=>R (x::xs)
def ae[Jx]:WDA X [] dNil:=⟨pa_nil.anti λs H Q h=>by
 obtain⟨B,F,z,kf,rs,R,h1,h2⟩:=h;have fh:=kf.fh;exact h2 [] [] F H (Grow.refl fh) h1 (reps_nil.mpr rfl)⟩
variable{es:List Qo}{t:TDA}
def ac[Jx]{te:TD}(ha:WDE X e te)(hr:WDA X es t)(hs:autoParam (zSE X e es) zA0):WDA X (e::es) (xz te t):=⟨have ha:=ha.out;have hr:=hr.out;(bg ha hr hs).anti λs H Q h=>by
 obtain⟨B,F,z,kf,rs,R,h1,h2⟩:=h;have fh:=kf.fh;refine⟨B,F,z,kf,rs,_,h1,λx u F1 H1 g1 hx rx=>?_⟩;refine⟨B,F1,z,kf.grow g1,rs.grow g1,_,hx,λxs us F2 H2 g2 hy ry=>?_⟩;exact h2 _ _ F2 H2 (g1.trans g2) hy (reps_cons.mpr ⟨_,_,rfl,rx.mono g2.ff,ry⟩)⟩
def dTup(t:TDA):TD:=λz R=>t z λxs=>xs.length<=1000/\R (.tup xs)
def dLst(t:TDA):TD:=λz R=>t z λxs=>xs.length<=1000/\R (.lst xs)
def bq[Jx]{x1}(h:WDA X es t):WDE X (.Tuple es x1 pos) (dTup t):=⟨have h:=h.out;(pC h).anti λs H Q q=>by
 obtain⟨B,F,z,kf,rs,R,h1,h2⟩:=q;have fh:=kf.fh;refine⟨B,F,z,kf,rs,_,h1,λds vs F1 H1 g1 hx rx=>?_⟩;have hl:=rx.length;refine⟨sz (by rw[hl];exact hx.1),λp hp=>?_⟩;exact h2 _ _ _ _ (g1.trans (Grow.new g1.fh hp _)) hx.2 (rep_tupS.mpr ⟨p,vs,rfl,ay,rx.mono (aS (g1.fh.free hp) _)⟩)⟩
def jJ[Jx](h:WDA X es t):WDE X (.List es pos) (dLst t):=⟨have h:=h.out;(jz h).anti λs H Q q=>by
 obtain⟨B,F,z,kf,rs,R,h1,h2⟩:=q;have fh:=kf.fh;refine⟨B,F,z,kf,rs,_,h1,λds vs F1 H1 g1 hx rx=>?_⟩;have hl:=rx.length;refine⟨sz (by rw[hl];exact hx.1),λp hp=>?_⟩;exact h2 _ _ _ _ (g1.trans (Grow.new g1.fh hp _)) hx.2 (rep_lst.mpr ⟨p,vs,rfl,ay,rx.mono (aS (g1.fh.free hp) _)⟩)⟩
abbrev SpD:=List D->(D->Prop)->Prop
def lSp(K:Ex)(S:SpD):Sp:=λvs H Q _=>∃ F ds,Same F H/\Reps K F ds vs/\∃ R:D->Prop,S ds R/\∀ d v F' H',Grow F H F' H'->R d->Rep K F' d v->Q v H'
def xA(S:SpD)(t:TDA):TD:=λz R=>t z λds=>S ds R
abbrev CalD(P:P3)(w:Qt)(K:Ex)(mg:IT->Option KB)(base:Heap)(n:Nat)(x:IT)(ps:List IT)(S:SpD):Prop:=Cal P w K mg base n x ps (lSp K S)
variable{p:QC}
def ao[Jx]{n m:Nat}{ps:List IT}{S:SpD}(C:CalD X.prog X.w X.K X.mg X.base n x ps S)(hr:Room m X.A)(ha:WDA X (e::es) t)(hg:autoParam (Gl X x) zA0)(hn:autoParam (n<=m) zA1)(e8:autoParam (zND x) zA1)
  (he:autoParam (zSE X e es) zA0) (c_:autoParam (zPL X pos es) zA0):WDE X (.Call (.Name x p) (e::es) [] pos) (xA S t):=⟨have ha:=ha.out;(xg C hr ha hg hn e8 he c_).anti λs H Q h=>by
 obtain⟨B,F,z,kf,rs,R,h1,h2⟩:=h;have fh:=kf.fh;refine⟨B,F,z,kf,rs,_,h1,λds vs F1 H1 g1 hx rx=>?_⟩;exact⟨F1,ds,g1.fh,by rw[Ft];exact rx,R,hx,λd v F' H' g=>h2 d v F' H' (g1.trans g)⟩⟩
abbrev RDn:=List D->(D->Prop)->Prop
def bR(K:Ex)(r:List V->Hp->VK->Prop)(rd:RDn):Prop:=∀ ds vs F H R Q,Same F H->rd ds R->Reps K F ds vs->(∀ d w F' H',Grow F H F' H'->R d->Rep K F' d w->Q w H')->r vs H Q
def dCB(r:RDn)(t:TDA):TD:=λz R=>t z λds=>r ds R
def fB[Jx]{id:String}{r:List V->Hp->VK->Prop}{rd:RDn}(hc:bw X (.builtin id) r)(L:bR X.K r rd)(hm:X.mg x=z7)(hv:QH x=be (.builtin id))(ha:DA X (e::es) t)(hg:autoParam (Gl X x) zA0)(hn:autoParam (x≠"__name__") zA1)(e8:autoParam (zND x) zA1)
  (he:autoParam (zSE X e es) zA0) (c_:autoParam (zPL X pos es) zA0):DE X (.Call (.Name x p) (e::es) [] pos) (dCB rd t):=(gl hc hg hm hv ha hn e8 he c_).anti λs H Q h=>by
 obtain⟨B,F,z,kf,rs,R,h1,h2⟩:=h;have fh:=kf.fh;refine⟨B,F,z,kf,rs,_,h1,λds vs F1 H1 g1 hx rx=>?_⟩;exact L ds vs F1 H1 R Q g1.fh hx rx λd w F' H' g=>h2 d w F' H' (g1.trans g)
def rdLen:RDn:=λds R=>match ds with
 |[.tup xs]=>R (.int xs.length)
 |[.lst xs]=>R (.int xs.length)
 |[.rol xs]=>R (.int xs.length)
 |[.str x]=>x.length<=1000000/\R (.int x.length)
 |_=>False
def qo:bR K (λxs H Q=>∃ x n,xs=[x]/\LenV K x H n/\Q (.int n) H) rdLen:=by
 intro ds vs F H R Q fh h rx q;unfold rdLen at h;split at h
 .obtain⟨v,r,rfl,h1,h2⟩:=reps_cons.mp rx;rw[reps_nil.mp h2];obtain⟨a,us,rfl,hq,rs⟩:=rep_tup_mp h1;exact⟨.ref a,us.length,rfl,.inr ⟨us,fh.tup hq,rfl⟩,q _ _ F H (Grow.refl fh) h (rep_int.mpr (by rw[rs.length]))⟩
 .obtain⟨v,r,rfl,h1,h2⟩:=reps_cons.mp rx;rw[reps_nil.mp h2];obtain⟨a,us,rfl,hq,rs⟩:=rep_lst.mp h1;exact⟨.ref a,us.length,rfl,.inl ⟨us,fh.seq (SqL.of hq),rfl⟩,q _ _ F H (Grow.refl fh) h (rep_int.mpr (by rw[rs.length]))⟩
 .obtain⟨v,r,rfl,h1,h2⟩:=reps_cons.mp rx;rw[reps_nil.mp h2];obtain⟨a,us,rfl,hq,rs⟩:=rep_rol.mp h1;exact⟨.ref a,us.length,rfl,.inl ⟨us,fh.seq hq,rfl⟩,q _ _ F H (Grow.refl fh) h (rep_int.mpr (by rw[rs.length]))⟩
 .obtain⟨v,r,rfl,h1,h2⟩:=reps_cons.mp rx;rw[reps_nil.mp h2,rep_str.mp h1];exact⟨.str _,_,rfl,⟨E1 h.1 (by decide),rfl⟩,q _ _ F H (Grow.refl fh) h.2 (rep_int.mpr rfl)⟩
 .exact h.elim
def cv[Jx](hm:X.mg "len"=z7)(ha:WDA X [e] t)(hg:autoParam (Gl X "len") zA0)(he:autoParam (zSE X e []) zA0):WDE X (.Call (.Name "len" p) [e] [] pos) (dCB rdLen t):=⟨have ha:=ha.out;fB jx qo hm PySem.boot_len ha hg (by decide) (by decide) he⟩
def rdAbs:RDn:=λds R=>match ds with
 |[.int i]=>R (.int (if i<0 then -i else i))
 |_=>False
def xB:bR K (λxs H Q=>∃ i,xs=[.int i]/\Q (.int (if i<0 then -i else i)) H) rdAbs:=by
 intro ds vs F H R Q fh h rx q;unfold rdAbs at h;split at h
 .obtain⟨v,r,rfl,h1,h2⟩:=reps_cons.mp rx;rw[reps_nil.mp h2,rep_int.mp h1];exact⟨_,rfl,q _ _ F H (Grow.refl fh) h (rep_int.mpr rfl)⟩
 .exact h.elim
def jK[Jx](hm:X.mg "abs"=z7)(ha:WDA X [e] t)(hg:autoParam (Gl X "abs") zA0)(he:autoParam (zSE X e []) zA0):WDE X (.Call (.Name "abs" p) [e] [] pos) (dCB rdAbs t):=⟨have ha:=ha.out;fB vI xB hm PyProof.Rows.boot_abs ha hg (by decide) (by decide) he⟩
end
section
variable {X:Cx}{a b c e:Qo}{ta tb tc te:TD}{pos:QC}
def dTst(t:TD):TDT:=λz R=>t z λx=>match x with| .bl k=>R k|_=>False
def eD[Jx]{op:RF}{r:R2}{rd:RD2}(ho:OpR X (QA op) r)(L:aR X.K r rd)(ha:DE X a ta)(hb:DE X b tb)(hm:QL op b=false):DT X (.Compare a [op] [b] pos) (dTst (dOp rd ta tb)):=(pr ho ha hb hm).anti λs H Q q=>by
 obtain⟨B,F,z,kf,rs,R,h1,h2⟩:=q;have fh:=kf.fh;refine⟨B,F,z,kf,rs,_,h1,λx u F1 H1 g1 hx rx=>?_⟩;refine⟨B,F1,z,kf.grow g1,rs.grow g1,_,hx,λy v F2 H2 g2 hy ry=>?_⟩;refine L x y u v F2 H2 _ _ g2.fh hy (rx.mono g2.ff) ry λd w F' H' g3 hd rd=>?_;split at hd
 .exact⟨_,rep_bl.mp rd,h2 _ F' H' (g1.trans (g2.trans g3)) hd⟩
 .exact hd.elim
def eE[Jx](ha:WDE X a ta)(hb:WDE X b tb):WDT X (.Compare a [.Lt] [b] pos) (dTst (dOp rdLt ta tb)):=⟨have ha:=ha.out;have hb:=hb.out;eD jw jH ha hb (nomark _)⟩
def eF[Jx](ha:WDE X a ta)(hb:WDE X b tb):WDT X (.Compare a [.Gt] [b] pos) (dTst (dOp rdGt ta tb)):=⟨have ha:=ha.out;have hb:=hb.out;eD vy xr ha hb (nomark _)⟩
def bT[Jx](ha:WDE X a ta)(hb:WDE X b tb):WDT X (.Compare a [.Eq] [b] pos) (dTst (dOp rdEq ta tb)):=⟨have ha:=ha.out;have hb:=hb.out;eD jv jI ha hb (nomark _)⟩
def ca[Jx](ha:WDE X a ta)(hb:WDE X b tb):WDT X (.Compare a [.NotEq] [b] pos) (dTst (dOp rdNe ta tb)):=⟨have ha:=ha.out;have hb:=hb.out;eD vw xt ha hb (nomark _)⟩
def xC[Jx](ha:WDE X a ta)(hb:WDE X b tb):WDT X (.Compare a [.IsNot] [b] pos) (dTst (dOp (rdIs not) ta tb)):=⟨have ha:=ha.out;have hb:=hb.out;eD vA xy ha hb (nomark _)⟩
def dTru(t:TD):TDT:=λz R=>t z λx=>match x with
 | .non=>R false
 | .bl k=>R k
 | .int i=>R (i !=0)
 | .str y=>y.length<=1000/\R ((y.length:Int) !=0)
 | .tup xs=>R (!xs.isEmpty)
 | .lst xs=>R (!xs.isEmpty)
 | .rol xs=>R (!xs.isEmpty)
 |_=>False
variable{K:Ex}
def Reps.isEmpty{H:Hp}{ds:List D}{vs:List V}(r:Reps K H ds vs):vs.isEmpty=ds.isEmpty:=by
 cases ds with
 |nil=>rw[reps_nil.mp r];rfl
 |cons d ds=>obtain⟨v,r',rfl,_⟩:=reps_cons.mp r;rfl
def bC[Jx](ha:WDE X a ta)(he:autoParam (∀ g_,isTrue a X.env g_=(do let v <- g_;Q_ a.pos;Q1 [v] (truthy v))) zA2):WDT X a (dTru ta):=⟨have ha:=ha.out;(vG ha he).anti λs H Q q=>by
 obtain⟨B,F,z,kf,rs,R,h1,h2⟩:=q;have fh:=kf.fh;refine⟨B,F,z,kf,rs,_,h1,λx u F1 H1 g1 hx rx=>?_⟩;split at hx
 .rw[rep_non.mp rx];exact⟨false,rfl,h2 _ F1 H1 g1 hx⟩
 .rw[rep_bl.mp rx];exact⟨_,rfl,h2 _ F1 H1 g1 hx⟩
 .rw[rep_int.mp rx];exact⟨_,rfl,h2 _ F1 H1 g1 hx⟩
 .rw[rep_str.mp rx];exact⟨_,⟨sz hx.1,rfl⟩,h2 _ F1 H1 g1 hx.2⟩
 .obtain⟨p,vs,rfl,hq,rr⟩:=rep_tup_mp rx;exact⟨_,.inr (.inl ⟨vs,g1.fh.tup hq,by rw[rr.isEmpty]⟩),h2 _ F1 H1 g1 hx⟩
 .obtain⟨p,vs,rfl,hq,rr⟩:=rep_lst.mp rx;exact⟨_,.inl ⟨vs,g1.fh.seq (SqL.of hq),by rw[rr.isEmpty]⟩,h2 _ F1 H1 g1 hx⟩
 .obtain⟨p,vs,rfl,hq,rr⟩:=rep_rol.mp rx;exact⟨_,.inl ⟨vs,g1.fh.seq hq,by rw[rr.isEmpty]⟩,h2 _ F1 H1 g1 hx⟩
 .exact hx.elim⟩
variable {tA z6:TDT}{rest:List Qo}
def dAnd(t u:TDT):TDT:=λz R=>t z λc=>if c=true then u z R else R false
def dOr(t u:TDT):TDT:=λz R=>t z λc=>if c=true then R true else u z R
def dNot(t:TDT):TDT:=λz R=>t z λc=>R (!c)
def xD[Jx](ha:WDT X a tA):WDW X (.BoolOp .And [a] pos) tA:=⟨have ha:=ha.out;oK ha⟩
def cX[Jx](ha:WDT X a tA):WDW X (.BoolOp .Or [a] pos) tA:=⟨have ha:=ha.out;oM ha⟩
def xE[Jx](ha:WDT X a tA)(hb:WDW X (.BoolOp .And (b::rest) pos) z6):WDW X (.BoolOp .And (a::b::rest) pos) (dAnd tA z6):=⟨have ha:=ha.out;have hb:=hb.out;(oN ha hb).anti λs H Q q=>by
 obtain⟨B,F,z,kf,rs,R,h1,h2⟩:=q;have fh:=kf.fh;refine⟨B,F,z,kf,rs,_,h1,λk F1 H1 g1 hx=>?_⟩;cases k with
 |true=>exact⟨B,F1,z,kf.grow g1,rs.grow g1,R,hx,λb F' H' g=>h2 b F' H' (g1.trans g)⟩
 |false=>exact h2 _ F1 H1 g1 hx⟩
def cO[Jx](ha:WDT X a tA)(hb:WDW X (.BoolOp .Or (b::rest) pos) z6):WDW X (.BoolOp .Or (a::b::rest) pos) (dOr tA z6):=⟨have ha:=ha.out;have hb:=hb.out;(oO ha hb).anti λs H Q q=>by
 obtain⟨B,F,z,kf,rs,R,h1,h2⟩:=q;have fh:=kf.fh;refine⟨B,F,z,kf,rs,_,h1,λk F1 H1 g1 hx=>?_⟩;cases k with
 |false=>exact⟨B,F1,z,kf.grow g1,rs.grow g1,R,hx,λb F' H' g=>h2 b F' H' (g1.trans g)⟩
 |true=>exact h2 _ F1 H1 g1 hx⟩
def cP[Jx](h:WDW X a tA):WDT X a tA:=⟨have h:=h.out;PW.pt h⟩
def bU[Jx](ha:WDT X a tA):WDT X (.UnaryOp .Not a pos) (dNot tA):=⟨have ha:=ha.out;(uu ha).anti λs H Q q=>by
 obtain⟨B,F,z,kf,rs,R,h1,h2⟩:=q;have fh:=kf.fh;exact⟨B,F,z,kf,rs,_,h1,λk F1 H1 g1 hx=>h2 _ F1 H1 g1 hx⟩⟩
def xF(ta tb:TD):TD:=λz R=>ta z λx=>match x with| .bl k=>if k=true then tb z R else R (.bl false)|_=>False
def xG(ta:TD):TD:=λz R=>ta z λx=>match x with| .bl k=>R (.bl (!k))|_=>False
def qp[Jx]{op}(h:WDE X a ta):WDE X (.BoolOp op [a] pos) ta:=⟨have h:=h.out;ux h⟩
def qq[Jx](ha:WDE X a ta)(hb:WDE X (.BoolOp .And (b::rest) pos) tb):WDE X (.BoolOp .And (a::b::rest) pos) (xF ta tb):=⟨have ha:=ha.out;have hb:=hb.out;(uy ha hb).anti λs H Q q=>by
 obtain⟨B,F,z,kf,rs,R,h1,h2⟩:=q;have fh:=kf.fh;refine⟨B,F,z,kf,rs,_,h1,λx u F1 H1 g1 hx rx=>?_⟩;split at hx
 .rename_i k;refine⟨k,rep_bl.mp rx,?_⟩;cases k with
  |true=>exact⟨B,F1,z,kf.grow g1,rs.grow g1,R,hx,λd v F' H' g=>h2 d v F' H' (g1.trans g)⟩
  |false=>exact h2 _ _ F1 H1 g1 hx (rep_bl.mpr rfl)
 .exact hx.elim⟩
def xH[Jx](ha:WDE X a ta):WDE X (.UnaryOp .Not a pos) (xG ta):=⟨have ha:=ha.out;(uz ha).anti λs H Q q=>by
 obtain⟨B,F,z,kf,rs,R,h1,h2⟩:=q;have fh:=kf.fh;refine⟨B,F,z,kf,rs,_,h1,λx u F1 H1 g1 hx rx=>?_⟩;split at hx
 .exact⟨_,rep_bl.mp rx,h2 _ _ F1 H1 g1 hx (rep_bl.mpr rfl)⟩
 .exact hx.elim⟩
def dIf(t:TDT)(ta tb:TD):TD:=λz R=>t z λc=>if c=true then ta z R else tb z R
def xI[Jx](hc:WDT X c tA)(ha:WDE X a ta)(hb:WDE X b tb):WDE X (.IfExp c a b pos) (dIf tA ta tb):=⟨have hc:=hc.out;have ha:=ha.out;have hb:=hb.out;(oP hc ha hb).anti λs H Q q=>by
 obtain⟨B,F,z,kf,rs,R,h1,h2⟩:=q;have fh:=kf.fh;refine⟨B,F,z,kf,rs,_,h1,λk F1 H1 g1 hx=>?_⟩;cases k with
 |false=>exact⟨B,F1,z,kf.grow g1,rs.grow g1,R,hx,λd v F' H' g=>h2 d v F' H' (g1.trans g)⟩
 |true=>exact⟨B,F1,z,kf.grow g1,rs.grow g1,R,hx,λd v F' H' g=>h2 d v F' H' (g1.trans g)⟩⟩
def tyD:D->String
 | .non=>"NoneType"| .bl _=>"bool"| .int _=>"int"| .str _=>"str"| .tup _=>"tuple"| .lst _=>"list"| .rol _=>"list"| .obj _ _=>"object"| .exc _ _=>"object"| .own _=>"list"| .ptr _=>"object"| .dti _=>"dict"
def cY(t:String)(x:D):Bool:=tyD x==t||(tyD x=="bool" && t=="int")
def TyQ(K:Ex)(H:Hp)(x:V)(t:String):Prop:=TyOf K H x (.type t)\/(t="tuple"/\∃ a xs,x= .ref a/\SqT K H a xs)\/(t="list"/\∃ a xs,x= .ref a/\SqL K H a xs)
def xJ:bw X (.builtin "isinstance") (λxs H Q=>∃ x t c k,xs=[x,.ty c]/\TyQ X.K H x t/\kitOne X.K (.type t) (.type c)=be k/\Q (.bl k) H):=by
 intro pins s σ H xs us Q I r h;obtain⟨x,t,c,k,rfl,ty,e,q⟩:=h;obtain⟨u,u',rfl,rx,rc⟩:=fw r;cases(show u'=Value.type c from rc);rcases ty with ty|⟨rfl,a,ys,rfl,hq⟩|⟨rfl,a,ys,rfl,hq⟩
 .exact vV I rx ty e λtk=>⟨.bl k,H,I.tok _,rfl,q⟩
 .cases(show u=Value.ref a from rx);obtain⟨its,_,⟨o,h1,h2,_⟩,_⟩:=I.tuple hq;exact kia_one kitx_tuple I.kIn ⟨o,h1,h2⟩ e (λz=>nomatch z) λtk=>⟨.bl k,H,I.tok _,rfl,q⟩
 .cases(show u=Value.ref a from rx);obtain⟨its,_,pl,_⟩:=I.list hq;obtain⟨o,n,h1,h2,_⟩:=pl;exact kia_one kitx_list I.kIn ⟨o,h1,h2⟩ e (λz=>nomatch z) λtk=>⟨.bl k,H,I.tok _,rfl,q⟩
def cZ:D->Bool| .obj _ _=>false| .exc _ _=>false| .ptr _=>false| .dti _=>false|_=>true
def xK{F H:Hp}{x:D}{u:V}(fh:Same F H)(r:Rep K F x u)(no:cZ x=true):TyQ K H u (tyD x):=by
 cases x with
 |non=>rw[rep_non.mp r];exact .inl .non
 |bl b=>rw[rep_bl.mp r];exact .inl (.bl b)
 |int b=>rw[rep_int.mp r];exact .inl (.int b)
 |str b=>rw[rep_str.mp r];exact .inl (.str b)
 |tup b=>obtain⟨a,vs,rfl,hq,_⟩:=rep_tup_mp r;exact .inr (.inl ⟨rfl,a,vs,rfl,fh.tup hq⟩)
 |lst b=>obtain⟨a,vs,rfl,hq,_⟩:=rep_lst.mp r;exact .inr (.inr ⟨rfl,a,vs,rfl,fh.seq (SqL.of hq)⟩)
 |rol b=>obtain⟨a,vs,rfl,hq,_⟩:=rep_rol.mp r;exact .inr (.inr ⟨rfl,a,vs,rfl,fh.seq hq⟩)
 |obj C b=>cases no
 |exc C b=>cases no
 |ptr b=>cases no
 |dti b=>cases no
 |own b=>exact absurd r rep_own
def xL(t:String):D->(D->Prop)->Prop:=λx R=>match x with| .obj _ _=>False| .exc _ _=>False| .ptr _=>False| .dti _=>False|x=>R (.bl (cY t x))
def dG[Jx]{p p2:QC}{y:IT}{t:String}(hm:X.mg "isinstance"=z7)(OL:X.mg y=z7)(ha:WDE X a ta)(hv:QH y=be (.type t))
  (hk:∀ x:D,cZ x=true->kitOne X.K (.type (tyD x)) (.type t)=be (cY t x)) (hg:autoParam (Gl X "isinstance") zA0) (OM:autoParam (Gl X y) zA0) (hn:autoParam (y≠"__name__") zA1) (e8:autoParam (zND y) zA1)
  (o7:autoParam (Qv [a,.Name y p2] X.env=(false,Qx a X.env)::Qv [.Name y p2] X.env) zA0) (n8:autoParam (Qv [.Name y p2] X.env=(false,Qx (.Name y p2) X.env)::Qv [] X.env) zA0) (c_:autoParam ((Q0 pos (Qv [.Name y p2] X.env)).any (·.1)=false) zA0):WDE X (.Call (.Name "isinstance" p) [a,.Name y p2] [] pos) (dUn (xL t) ta):=⟨have ha:=ha.out;(gl xJ hg hm PyProof.Rows.boot_isinstance (bg ha (bg (ut (v:= .ty t) OM OL hv rfl hn e8) pa_nil n8) o7) (by decide) (by decide) o7 c_).anti λs H Q q=>by
 obtain⟨B,F,z,kf,rs,R,h1,h2⟩:=q;have fh:=kf.fh;refine⟨B,F,z,kf,rs,_,h1,λx u F1 H1 g1 hx rx=>?_⟩;have no:cZ x=true:=by
  cases x with
  |obj C b=>exact False.elim hx
  |exc C b=>exact False.elim hx
  |ptr b=>exact False.elim hx
  |dti b=>exact False.elim hx
  |_=>rfl
 have j_:R (.bl (cY t x)):=by
  cases x with
  |obj C b=>exact False.elim hx
  |exc C b=>exact False.elim hx
  |ptr b=>exact False.elim hx
  |dti b=>exact False.elim hx
  |_=>exact hx
 exact⟨u,tyD x,t,_,rfl,xK g1.fh rx no,hk x no,h2 _ _ F1 H1 g1 j_ (rep_bl.mpr rfl)⟩⟩
def xM:∀ x:D,cZ x=true->kitOne K (.type (tyD x)) (.type "int")=be (cY "int" x):=by intro x no;cases x<;>first|rfl|cases no
def kit_bool:∀ x:D,cZ x=true->kitOne K (.type (tyD x)) (.type "bool")=be (cY "bool" x):=by intro x no;cases x<;>first|rfl|cases no
def kit_tuple:∀ x:D,cZ x=true->kitOne K (.type (tyD x)) (.type "tuple")=be (cY "tuple" x):=by intro x no;cases x<;>first|rfl|cases no
def kit_list:∀ x:D,cZ x=true->kitOne K (.type (tyD x)) (.type "list")=be (cY "list" x):=by intro x no;cases x<;>first|rfl|cases no
def kit_str:∀ x:D,cZ x=true->kitOne K (.type (tyD x)) (.type "str")=be (cY "str" x):=by intro x no;cases x<;>first|rfl|cases no
def toV:D->Option V
 | .non=>be .non| .bl b=>be (.bl b)| .int i=>be (.int i)| .str x=>be (.str x)|_=>z7
def bn(d:D):Bool:=(toV d).isSome
def eqF:D->D->Bool
 | .non,.non=>true
 | .bl a,.bl b=>a==b
 | .bl a,.int b=>(if a then 1 else 0)==b
 | .int a,.bl b=>a==(if b then 1 else 0)
 | .int a,.int b=>a==b
 | .str a,.str b=>a==b
 |_,_=>false
def eqFs:List D->List D->Bool
 |[],[]=>true
 |x::xs,y::ys=>eqF x y && eqFs xs ys
 |_,_=>false
end
section
variable {X:Cx}{a b:Qo}{ta tb:TD}{pos:QC}
def eqVs:List V->List V->Bool
 |[],[]=>true
 |x::xs,y::ys=>eqV x y && eqVs xs ys
 |_,_=>false
def gx:∀ (xs ys:List V),((EM (min xs.length ys.length)).all (λj=>eqV (xs.getD j .non) (ys.getD j .non)) && xs.length==ys.length)=eqVs xs ys
 |[],[]=>rfl
 |[],_::_=>by simp[eqVs]
 |_::_,[]=>by simp[eqVs]
 |x::xs,y::ys=>by
  have ih:=gx xs ys;rw[eqVs,<- ih];have e:min (x::xs).length (y::ys).length=min xs.length ys.length+1:=by simp only[EN];lia
  rw[e,HH,FD,G4];have e2:((x::xs).length==(y::ys).length)=(xs.length==ys.length):=by simp
  rw[e2,Bool.and_assoc];rfl
variable{xs:List V}
def Vals.getD{us:List KB}{j:Nat}(r:Vals xs us)(h:j<us.length):RelV (xs.getD j .non) us[j]:=by
 have hl:=L2.Vals.length r;obtain⟨u,q1,q2⟩:=L2.Vals.get (i:=j) (x:=xs.getD j .non) r (by rw[Fi (by lia)];simp[Fw,Fi (show j<xs.length by lia)]);rw[Fi h] at q1;cases q1;exact q2
def flat_getD{j:Nat}(h:xs.all bp=true):bp (xs.getD j .non)=true:=by
 by_cases hj:j<xs.length
 .have q:=FI.mp h xs[j] (GJ hj);simpa[Fw,Fi hj] using q
 .simp[Fw,F8 (Gj hj),bp]
def jL{K:Ex}{H:Hp}{x y:D}{u v:V}(rx:Rep K H x u)(ry:Rep K H y v)(fx:bn x=true)(fy:bn y=true):eqV u v=eqF x y:=by
 cases x with
 |tup _=>cases fx
 |lst _=>cases fx
 |rol _=>cases fx
 |obj _ _=>cases fx
 |exc _ _=>cases fx
 |ptr _=>cases fx
 |dti _=>cases fx
 |own _=>cases fx
 |non=>rw[rep_non.mp rx];cases y with
  |tup _=>cases fy
  |lst _=>cases fy
  |rol _=>cases fy
  |obj _ _=>cases fy
  |exc _ _=>cases fy
  |ptr _=>cases fy
  |dti _=>cases fy
  |own _=>cases fy
  |non=>rw[rep_non.mp ry];rfl
  |bl _=>rw[rep_bl.mp ry];rfl
  |int _=>rw[rep_int.mp ry];rfl
  |str _=>rw[rep_str.mp ry];rfl
 |bl _=>rw[rep_bl.mp rx];cases y with
  |tup _=>cases fy
  |lst _=>cases fy
  |rol _=>cases fy
  |obj _ _=>cases fy
  |exc _ _=>cases fy
  |ptr _=>cases fy
  |dti _=>cases fy
  |own _=>cases fy
  |non=>rw[rep_non.mp ry];rfl
  |bl _=>rw[rep_bl.mp ry];rfl
  |int _=>rw[rep_int.mp ry];rfl
  |str _=>rw[rep_str.mp ry];rfl
 |int _=>rw[rep_int.mp rx];cases y with
  |tup _=>cases fy
  |lst _=>cases fy
  |rol _=>cases fy
  |obj _ _=>cases fy
  |exc _ _=>cases fy
  |ptr _=>cases fy
  |dti _=>cases fy
  |own _=>cases fy
  |non=>rw[rep_non.mp ry];rfl
  |bl _=>rw[rep_bl.mp ry];rfl
  |int _=>rw[rep_int.mp ry];rfl
  |str _=>rw[rep_str.mp ry];rfl
 |str _=>rw[rep_str.mp rx];cases y with
  |tup _=>cases fy
  |lst _=>cases fy
  |rol _=>cases fy
  |obj _ _=>cases fy
  |exc _ _=>cases fy
  |ptr _=>cases fy
  |dti _=>cases fy
  |own _=>cases fy
  |non=>rw[rep_non.mp ry];rfl
  |bl _=>rw[rep_bl.mp ry];rfl
  |int _=>rw[rep_int.mp ry];rfl
  |str _=>rw[rep_str.mp ry];rfl
def eG{K:Ex}{H:Hp}{x:D}{u:V}(rx:Rep K H x u)(fx:bn x=true):bp u=true:=by
 cases x with
 |tup _=>cases fx
 |lst _=>cases fx
 |rol _=>cases fx
 |obj _ _=>cases fx
 |exc _ _=>cases fx
 |ptr _=>cases fx
 |dti _=>cases fx
 |own _=>cases fx
 |non=>rw[rep_non.mp rx];rfl
 |bl _=>rw[rep_bl.mp rx];rfl
 |int _=>rw[rep_int.mp rx];rfl
 |str _=>rw[rep_str.mp rx];rfl
def de{K:Ex}{H:Hp}:∀ {xs:List D} {us:List V},Reps K H xs us->xs.all bn=true->us.all bp=true
 |[],us,r,_=>by rw[reps_nil.mp r];rfl
 |x::xs,us,r,f=>by
  obtain⟨v,vr,rfl,r1,r2⟩:=reps_cons.mp r;rw[FD,Ff] at f ⊢;exact⟨eG r1 f.1,de r2 f.2⟩
def jM{K:Ex}{H:Hp}:∀ {xs ys:List D} {us vs:List V},Reps K H xs us->Reps K H ys vs->xs.all bn=true->ys.all bn=true->eqVs us vs=eqFs xs ys
 |[],[],us,vs,r1,r2,_,_=>by rw[reps_nil.mp r1,reps_nil.mp r2];rfl
 |[],y::ys,us,vs,r1,r2,_,_=>by
  obtain⟨v,vr,rfl,_,_⟩:=reps_cons.mp r2;rw[reps_nil.mp r1];rfl
 |x::xs,[],us,vs,r1,r2,_,_=>by
  obtain⟨v,vr,rfl,_,_⟩:=reps_cons.mp r1;rw[reps_nil.mp r2];rfl
 |x::xs,y::ys,us,vs,r1,r2,f1,f2=>by
  obtain⟨u,ur,rfl,a1,a2⟩:=reps_cons.mp r1;obtain⟨v,vr,rfl,b1,b2⟩:=reps_cons.mp r2;rw[FD,Ff] at f1 f2;rw[eqVs,eqFs,jL a1 b1 f1.1 f2.1,jM a2 b2 f1.2 f2.2]
end
section
variable {X:Cx}{a b c e:Qo}{ta tb tc te:TD}{pos:QC}{st:Qq}{rest:List Qq}{t u:TSD}
def xN:TSD:=λE z=>E.nx z
def dSeq(t u:TSD):TSD:=λE z=>t {E with nx:=u E} z
def aT[Jx]:WDSs X [] xN:=⟨pss_nil.anti λE s H q=>by
 obtain⟨B,F0,F,z,k,rs,ED,h,e⟩:=q;exact e.nx z s F H k h rs⟩
def ah[Jx](h1:WDS X st t)(h2:WDSs X rest u):WDSs X (st::rest) (dSeq t u):=⟨have h1:=h1.out;have h2:=h2.out;(ft h1 h2).anti λE s H q=>by
 obtain⟨B,F0,F,z,k,rs,ED,h,e⟩:=q;exact⟨B,F0,F,z,k,rs,{ED with nx:=u ED},h,⟨λz' s' F' H' k' hz r'=>⟨B,F0,F',z',k',r',ED,hz,e⟩,e.rt,e.bk,e.ct⟩⟩⟩
def am[Jx](h1:WDS X st t):WDSs X [st] t:=⟨have h1:=h1.out;oQ h1⟩
def dFrz(i:Nat)(t:TSD):TSD:=λE z=>match z[i]? with|some (be (.own ds))=>t E (z.set i (be (.lst ds)))|_=>False
def gy[Jx](i:Nat){Ks:List Qq}(h:WDSs X Ks t):WDSs X Ks (dFrz i t):=⟨have h:=h.out;PSs.anti h λE s H q=>by
 obtain⟨B,F0,F,z,k,rs,ED,h,e⟩:=q;unfold dFrz at h;split at h
 .rename_i ds ez;obtain⟨F',k',r'⟩:=rs.freeze k ez;exact⟨B,F0,F',_,k',r',ED,h,e⟩
 .exact h.elim⟩
def dRet(te:TD):TSD:=λE z=>te z E.rt
def aw[Jx](he:WDE X e te):WDS X (.Return (be e) pos) (dRet te):=⟨have he:=he.out;(oR he).anti λE s H q=>by
 obtain⟨B,F0,F,z,k,rs,ED,h,e⟩:=q;exact⟨B,F,z,k.kf,rs,_,h,λd v F' H' g hd rd=>e.rt d v F' H' (k.grow g) hd rd⟩⟩
def xO(te:TD):TSD:=λE z=>te z λ_=>E.nx z
def qr[Jx](he:WDE X e te)(hs:autoParam (QF e z7 pos.line X.env=pure false) zA0):WDS X (.Expr e pos) (xO te):=⟨have he:=he.out;(jq he hs).anti λE s H q=>by
 obtain⟨B,F0,F,z,k,rs,ED,h,e⟩:=q;exact⟨B,F,z,k.kf,rs,_,h,λd v F' H' g hd rd=>e.nx z s F' H' (k.grow g) hd (rs.grow g)⟩⟩
def dIfS(c:TDT)(t u:TSD):TSD:=λE z=>c z λb=>if b=true then t E z else u E z
variable{l r:List Qq}
def qt[Jx]{c:Qo}{tc:TDT}(hc:DT X c tc)(ha:DSs X l t)(hb:DSs X r u):DS X (.If c l r pos) (dIfS tc t u):=(oU hc ha hb).anti λE s H q=>by
 obtain⟨B,F0,F,z,k,rs,ED,h,e⟩:=q;refine⟨B,F,z,k.kf,rs,_,h,λb F1 H1 g hk=>?_⟩;cases b with
 |true=>exact⟨B,F0,F1,z,k.grow g,rs.grow g,ED,hk,e⟩
 |false=>exact⟨B,F0,F1,z,k.grow g,rs.grow g,ED,hk,e⟩
def dIfJ(c:TDT)(t u:TSD):TSD:=λE z=>∃ J:SD->Prop,(c z λb=>if b=true then t {E with nx:=J} z else u {E with nx:=J} z)/\∀ z',J z'->E.nx z'
def fC[Jx]{c:Qo}{tc:TDT}(hc:WDT X c tc)(ha:WDSs X l t)(hb:WDSs X r u):WDS X (.If c l r pos) (dIfJ tc t u):=⟨have hc:=hc.out;have ha:=ha.out;have hb:=hb.out;(qt hc ha hb).anti λE s H q=>by
 obtain⟨B,F0,F,z,k,rs,ED,⟨J,h,j⟩,e⟩:=q;exact⟨B,F0,F,z,k,rs,{ED with nx:=J},h,⟨λz' s' F' H' k' hz r'=>e.nx z' s' F' H' k' (j z' hz) r',e.rt,e.bk,e.ct⟩⟩⟩
def dSet(i:Nat)(te:TD):TSD:=λE z=>∃ P:D->Prop,te z P/\∀ d,P d->E.nx (z.set i (be d))
variable{x:IT}
def aq[Jx](i:Nat){d6:QC}(hN:X.N.Nodup)(he:WDE X e te)(hi:autoParam (X.N[i]?=be x) zA0)(hx:autoParam (Loc X.env.scope x) zA4)(hs:autoParam (QF e (be (.Name x d6)) pos.line X.env=pure false) zA0)
  (hf:autoParam (zFN X x) zA3):WDS X (.Assign [.Name x d6] e pos) (dSet i te):=⟨have he:=he.out;(jr hN hi hx he hs hf).anti λE s H q=>by
 obtain⟨B,F0,F,z,k,rs,ED,⟨P,h,j⟩,e⟩:=q;exact⟨B,F,z,k.kf,rs,P,h,λd v F' H' g hd rd=>e.nx _ _ F' H' (k.grow g) (j d hd) ((rs.grow g).set rd)⟩⟩
def dNew(i:Nat)(ta:TDA):TSD:=λE z=>ta z λds=>ds.length<=1000/\E.nx (z.set i (be (.own ds)))
variable{es:List Qo}
def qu[Jx](i:Nat){d6 p2:QC}{ta:TDA}(hN:X.N.Nodup)(he:WDA X es ta)(hi:autoParam (X.N[i]?=be x) zA0)(hx:autoParam (Loc X.env.scope x) zA4)(hs:autoParam (QF (.List es p2) (be (.Name x d6)) pos.line X.env=pure false) zA0)
  (hf:autoParam (zFN X x) zA3):WDS X (.Assign [.Name x d6] (.List es p2) pos) (dNew i ta):=⟨have he:=he.out;(jr hN hi hx (jz he) hs hf).anti λE s H q=>by
 obtain⟨B,F0,F,z,k,rs,ED,h,e⟩:=q;refine⟨B,F,z,k.kf,rs,_,h,λds vs F1 H1 g hd rd=>?_⟩;have hl:=rd.length;refine⟨sz (by rw[hl];exact hd.1),λp hp=>?_⟩;have k1:=k.grow g;have r1:=rs.grow g;have hB:B p=none:=k1.bh.free hp;have hF:F1 p=none:=k1.fh.free hp;refine e.nx _ _ F1 _ ⟨k1.bh.trans (aS hp _),k1.fh.trans (aS hp _),k1.f0,k1.out,k1.eb,k1.jf,k1.jo⟩ hd.2 (r1.setOwn hB hF rd λj dj hj e1 e2=>?_);obtain⟨a,us,q1,q2,_⟩:=r1.own j dj e1;rw[e2] at q1;cases q1;rw[hp] at q2;cases q2⟩
def dApp(i:Nat)(te:TD):TSD:=λE z=>match z[i]? with|some (be (.own ds))=>(te z λd=>ds.length<=100000/\E.nx (z.set i (be (.own (ds++[d])))))|_=>False
def eH{K:Ex}{F:Hp}{d:D}{v:V}(r:Rep K F d v):Reps K F [d] [v]:=reps_cons.mpr ⟨v,[],rfl,r,reps_nil.mpr rfl⟩
def qv[Jx](i:Nat){p1 apos cpos:QC}(he:WDE X e te)(hN:autoParam (X.N[i]?=be x) zA0)(hv:autoParam (Vis X.env.scope x) zA5)(hd:autoParam (zND x) zA1)
  (g6:autoParam (zNC x) zA1) (o7:autoParam (zSE X e []) zA0)
  (c8:autoParam (Qy (.Name x p1) "append" X.env (Qx (.Name x p1) X.env)=Qx (.Name x p1) X.env) zA0)
  (e_:autoParam (zHF X cpos [e]) zA0)
  (d4:autoParam ((apos.endLine==cpos.line)=true) zA0) (v3:autoParam (QF (.Call (.Attribute (.Name x p1) "append" apos) [e] [] cpos) z7 pos.line X.env=pure false) zA0):WDS X (.Expr (.Call (.Attribute (.Name x p1) "append" apos) [e] [] cpos) pos) (dApp i te):=⟨have he:=he.out;(jq (dY PySem.F.plainAttrs_list PySem.F.slot_list_append PySem.F.type_list_append gm (dB hN hv hd g6) (bg he pa_nil o7) c8 e_ d4 o7) v3).anti λE s H q=>by
 obtain⟨B,F0,F,z,k,rs,ED,h,e⟩:=q;unfold dApp at h;split at h
 .rename_i ds ez;obtain⟨a,vs,q1,q2,q3,q4,q5⟩:=rs.own i ds ez;refine⟨.ref a,q1,.inl ⟨rfl,vs,SqL.of q2⟩,?_⟩;refine⟨B,F,z,k.kf,rs,_,h,λd v F1 H1 g hd rd=>?_⟩;have k1:=k.grow g;have r1:=rs.grow g;have a1:H1 a=be (.lst vs):=g.hh a _ q2;have f1:F1 a=none:=g.out a q4 (by rw[q2];exact λz=>nomatch z);have hl:vs.length=ds.length:=q5.length;have hz:vs.length<sizeLine:=by
   have h1:ds.length<=100000:=hd.1;have h2:(100000:Nat)<sizeLine:=by decide
   lia
  refine⟨a,vs,v,rfl,rfl,a1,hz,?_⟩;have RI:∀ {G:Hp},G a=z7->Same G H1->Same G (upd H1 a (.lst (vs++[v]))):=λ{G} ga gs b o eb=>by
   have ne:b≠a:=λz=>by rw[z,ga] at eb;cases eb
   rw[aj ne];exact gs b o eb
  have r2:=r1.setOwn (i:=i) (a:=a) (vs:=vs++[v]) (ds:=ds++[d]) q3 f1 ((q5.mono g.ff).append (eH rd)) (λj dj hj e1 e2=>hj (rs.apart j i dj ds a e1 ez e2 q1));have es:s.set i (be (.ref a))=s:=by
   apply Gm;intro n;by_cases hn:i=n
   .subst hn;rw[FB (E6.mp q1).1,q1]
   .rw[E9 hn]
  rw[es] at r2;exact e.nx _ s F1 _ ⟨RI q3 k1.bh,RI f1 k1.fh,k1.f0,k1.out,k1.eb,k1.jf,k1.jo⟩ hd.2 r2
 .exact h.elim⟩
def cb:List Nat->List D->SD->SD
 |i::is,d::ds,z=>cb is ds (z.set i (be d))
 |_,_,z=>z
def DGs(X:Cx)(ts:List Qo)(is:List Nat):Prop:=∃ u:TGs,PGs X ts u/\∀ (ds:List D) (vs:List V) (z:SD) (s:L2.St) (B F H:Hp) (Q:L2.St->Hp->Prop),ds.length=is.length->Reps X.K F ds vs->RepS X.K B F H z s->(∀ s',RepS X.K B F H (cb is ds z) s'->Q s' H)->u vs s H Q
def dH[Jx]:DGs X [] []:=⟨_,vd,λds vs z s B F H Q hl r rs q=>by
 cases ds with
 |nil=>exact⟨reps_nil.mp r,q s rs⟩
 |cons _ _=>cases hl⟩
def dg_cons[Jx](i:Nat){p:QC}{is:List Nat}(hN:X.N.Nodup)(h2:DGs X es is)(hi:autoParam (X.N[i]?=be x) zA0)(hx:autoParam (Loc X.env.scope x) zA4)(hf:autoParam (zFN X x) zA3)
  (hs:autoParam ((Qw (.Name x p::es) X.env).map (·.2)=Q3 (.Name x p) X.env::(Qw es X.env).map (·.2)) zA0):DGs X (.Name x p::es) (i::is):=by
 obtain⟨u,hu,k⟩:=h2;refine⟨_,ve (gd hN hi hx hf) hu hs,λds vs z s B F H Q hl r rs q=>?_⟩;cases ds with
 |nil=>cases hl
 |cons d ds=>
  obtain⟨v,vr,rfl,r1,r2⟩:=reps_cons.mp r;exact⟨v,vr,rfl,k ds vr _ _ B F H Q (Nat.succ.inj hl) r2 (rs.set r1) q⟩
def xP(c:TDT)(tb:TSD):TSD:=λE z=>∃ W:Nat->SD->Prop,(∃ m,W m z)/\∀ m z,W m z->
 c z λb=>if b=true then tb {E with nx:=λz'=>∃ m',m'<m/\W m' z',ct:=λz'=>∃ m',m'<m/\W m' z',bk:=E.nx} z else E.nx z
variable{body:List Qq}
def qw[Jx]{c:Qo}{tc:TDT}{tb:TSD}(hp:QQ (Qr X.prog X.w) X.A X.env X.xe)(hc:WDT X c tc)(hb:WDSs X body tb):WDS X (.While c body [] pos) (xP tc tb):=⟨have hc:=hc.out;have hb:=hb.out;(oW hp hc hb).anti λE s H q=>by
 obtain⟨B,F0,F,z,k,rs,ED,⟨W,⟨m0,w0⟩,d5⟩,e⟩:=q;refine⟨λm s' H'=>∃ F' z',Kept B F0 F' H'/\RepS X.K B F' H' z' s'/\W m z',⟨m0,F,z,k,rs,w0⟩,?_⟩;rintro m s1 H1 ⟨F1,z1,k1,r1,w1⟩;refine⟨B,F1,z1,k1.kf,r1,_,d5 m z1 w1,λb F2 H2 g2 hk=>?_⟩;cases b with
 |true=>
  refine⟨λs3 H3=>∃ F3 z3,Kept B F0 F3 H3/\RepS X.K B F3 H3 z3 s3/\∃ m',m'<m/\W m' z3,λs3 H3 ⟨F3,z3,k3,r3,m',l,w3⟩=>⟨m',l,F3,z3,k3,r3,w3⟩,?_⟩;exact⟨B,F0,F2,z1,k1.grow g2,r1.grow g2,_,hk,⟨λz3 s3 F3 H3 k3 h3 r3=>⟨F3,z3,k3,r3,h3⟩,e.rt,e.nx,λz3 s3 F3 H3 k3 h3 r3=>⟨F3,z3,k3,r3,h3⟩⟩⟩
 |false=>exact e.nx z1 s1 F2 H2 (k1.grow g2) hk (r1.grow g2)⟩
abbrev TDI:=SD->(List D->Prop)->Prop
def dItL(t:TD):TDI:=λz R=>t z λx=>match x with| .lst ds=>R ds| .rol ds=>R ds|_=>False
def dItR(t:TD):TDI:=λz R=>t z λx=>match x with| .int n=>(0<=n/\n<2 ^ 62)/\R ((EM n.toNat).map λk=>D.int ((k:Nat):Int))|_=>False
def dFor(i:Nat)(ti:TDI)(tb:TSD):TSD:=λE z=>ti z λds=>∃ W:Nat->SD->Prop,W 0 z/\(∀ k x z,ds[k]?=be x->W k z->tb {E with nx:=W (k+1),ct:=W (k+1),bk:=E.nx} (z.set i (be x)))/\∀ z,W ds.length z->E.nx z
def Reps.get'{K:Ex}{H:Hp}{ds:List D}{vs:List V}{k:Nat}{v:V}(r:Reps K H ds vs)(e:vs[k]?=be v):∃ d,ds[k]?=be d/\Rep K H d v:=by
 have hk:k<ds.length:=by rw[<- r.length];exact(E6.mp e).1
 obtain⟨u,q1,q2⟩:=r.get (Fi hk);rw[e] at q1;cases q1;exact⟨_,Fi hk,q2⟩
def cQ[Jx](i:Nat){p p1 p2:QC}{tb:TSD}(hp:QQ (Qr X.prog X.w) X.A X.env X.xe)(hc:X.calm=true)(hN:X.N.Nodup)(hm:X.mg "range"=z7)(he:WDE X e te)(hb:WDSs X body tb)(hg:autoParam (Gl X "range") zA0)(hi:autoParam (X.N[i]?=be x) zA0)(hx:autoParam (Loc X.env.scope x) zA4)
  (hf:autoParam (zFN X x) zA3) (hs:autoParam (∀ y,zFS X (.Call (.Name "range" p1) [e] [] p2) y) zA2) (j6:autoParam (zSE X e []) zA0) (d9:autoParam (Qv [e] X.env=[(false,Qx e X.env)]) zA0):WDS X (.For (.Name x p) (.Call (.Name "range" p1) [e] [] p2) body [] pos) (dFor i (dItR te) tb):=⟨have he:=he.out;have hb:=hb.out;(dE hp hc (fv hg hm (bg he pa_nil j6) d9) (gd hN hi hx hf) hb hs).anti λE s H q=>by
 obtain⟨B,F0,F,z,kp,rs,ED,h,e⟩:=q;refine⟨B,F,z,kp.kf,rs,_,h,λd v F1 H1 g1 hd rd=>?_⟩;split at hd
 .rename_i n;obtain⟨⟨b1,b2⟩,W,w0,d5,out⟩:=hd;have hl:((EM n.toNat).map λk=>D.int ((k:Nat):Int)).length=n.toNat:=by simp
  refine⟨n,by rw[rep_int.mp rd],by lia,b2,ju (lo:=0) (n:=n.toNat) (λk s' H'=>∃ F' z',Kept B F0 F' H'/\RepS X.K B F' H' z' s'/\W k z') ⟨F1,z,kp.grow g1,rs.grow g1,w0⟩ ?_ ?_⟩
  .rintro k s' H' hk ⟨F',z',k',r',w'⟩;have e1:(0:Int)+(k:Int)=(k:Int):=by lia
   exact⟨B,F0,F',_,k',r'.set (d:= .int (k:Int)) (rep_int.mpr (by rw[e1])),_,d5 k (.int (k:Int)) z' (by simp[hk]) w',⟨λz3 s3 F3 H3 k3 h3 r3=>⟨F3,z3,k3,r3,h3⟩,e.rt,e.nx,λz3 s3 F3 H3 k3 h3 r3=>⟨F3,z3,k3,r3,h3⟩⟩⟩
  .rintro s' H' ⟨F',z',k',r',w'⟩;exact e.nx z' s' F' H' k' (out z' (by rw[hl];exact w')) r'
 .exact hd.elim⟩
end
section
variable {P:P3}{w:Qt}{K:Ex}{mg:IT->Option KB}{base:Heap}
variable{N ps:List IT}
def _root_.L2.Fun.okD{x:IT}{st:Qq}{f:KF}{fd:Qz}{k:Nat}{S:SpD}(T:Fun K x x st f fd)(F:FnScope N ps (af st))(len:∀ ds R,S ds R->ds.length=ps.length)
  (b9:∀ (cdv:KB) (A:Qu) (outer:List Q4) (s:KM) (H:Hp) (E:XK) (J:Jx),Room k (A.deeper (QD x (af st) s.heap.objs.size f cdv))->
   ∃ t,DSs (cxOf (Exc.CX1 P w) P w K mg base N x (af st) f cdv A outer s H E).nox (aE st) t/\∀ ds R,S ds R->t {nx:=λ_=>R .non,rt:=R} (startD N ds)):FnOk P w K mg base (Exc.CX1 P w) (k+1) f fd ps (lSp K S):=by
 refine Fun.okC T F (λvs H Q E h=>?_) (λcdv A outer s H vs Q E hr h=>?_)
 .obtain⟨F,ds,fh,rs,R,h,_⟩:=h;rw[rs.length];exact len ds R h
 .obtain⟨F,ds,fh,rs,R,h,q⟩:=h
  letI:Jx:=⟨H,F,λ_ _ _=>False⟩
  obtain⟨t,ht,hq⟩:=b9 cdv A outer s H E inferInstance hr;refine⟨_,ht.nox,H,F,F,startD N ds,⟨Same.refl H,fh,Same.refl F,λ_ h _=>h,rfl,Same.refl F,λ_ h _=>h⟩,dZ rs,_,hq ds R h,⟨λz' s' F' H' k hn _=>q _ _ F' H' ⟨k.f0,k.fh,k.bh,k.out⟩ hn (rep_non.mpr rfl),λd v F' H' k hd rd=>q d v F' H' ⟨k.f0,k.fh,k.bh,k.out⟩ hd rd,λ_ _ _ _ _ h _=>h.elim,λ_ _ _ _ _ h _=>h.elim⟩⟩
def Tx.okD{x:IT}{st:Qq}{k:Nat}{S:SpD}(T:Tx K mg x st ps)(F:FnScope N ps (af st))(len:∀ ds R,S ds R->ds.length=ps.length)
  (b9:∀ (f:KF) (cdv:KB) (A:Qu) (outer:List Q4) (s:KM) (H:Hp) (E:XK) (J:Jx),Room k (A.deeper (QD x (af st) s.heap.objs.size f cdv))->
   ∃ t,DSs (cxOf (Exc.CX1 P w) P w K mg base N x (af st) f cdv A outer s H E).nox (aE st) t/\∀ ds R,S ds R->t {nx:=λ_=>R .non,rt:=R} (startD N ds)):CalD P w K mg base (k+1) x ps S:=by
 obtain⟨f,fd,T,hb,hm⟩:=T;exact⟨f,fd,T.okD F len λcdv A outer s H E J hr=>b9 f cdv A outer s H E J hr,hb,T.kp,hm⟩
end
def eI:SpD:=λds R=>∃ ns:List Int,ds=[.rol (ns.map D.int)]/\ns.length<=63/\R (.bl true)
def xQ{a:KF}{ns:List Int}(hl:ns.length<=63)(hS:SqL K H a (ns.map V.int)){E:XK}:lSp K eI [.ref a] H (λv _=>v= .bl true) E:=
 ⟨H,[.rol (ns.map D.int)],Same.refl H,reps_cons.mpr ⟨_,_,rfl,rep_rol.mpr ⟨a,_,rfl,hS,Reps.ints.mpr rfl⟩,reps_nil.mpr rfl⟩,λd=>d= .bl true,⟨ns,rfl,hl,rfl⟩,λd v F' H' _ hd rd=>by subst hd;exact rep_bl.mp rd⟩
section
variable {X:Cx}{a b c e:Qo}{ta tb tc te:TD}{pos:QC}
variable{p:QC}{es:List Qo}{t:TDA}
def gz[Jx]{x:IT}{T:String}{r:List V->Hp->VK->Prop}{rd:RDn}(hc:bw X (.type T) r)(L:bR X.K r rd)(hm:X.mg x=z7)(hv:QH x=be (.type T))(ha:DA X (e::es) t)(hg:autoParam (Gl X x) zA0)(hn:autoParam (x≠"__name__") zA1)(e8:autoParam (zND x) zA1)
  (he:autoParam (zSE X e es) zA0) (c_:autoParam (zPL X pos es) zA0):DE X (.Call (.Name x p) (e::es) [] pos) (dCB rd t):=(pH hc hg hm hv ha hn e8 he c_).anti λs H Q h=>by
 obtain⟨B,F,z,kf,rs,R,h1,h2⟩:=h;have fh:=kf.fh;refine⟨B,F,z,kf,rs,_,h1,λds vs F1 H1 g1 hx rx=>?_⟩;exact L ds vs F1 H1 R Q g1.fh hx rx λd w F' H' g=>h2 d w F' H' (g1.trans g)
def rdStr:RDn:=λds R=>match ds with|[.int i]=>i.natAbs<18446744073709551616/\R (.str (toString i))|_=>False
variable{K:Ex}
def xR:bR K (λxs H Q=>∃ i,xs=[.int i]/\i.natAbs.log2<1920/\Q (.str (toString i)) H) rdStr:=by
 intro ds vs F H R Q fh h rx q;unfold rdStr at h;split at h
 .obtain⟨v,r,rfl,h1,h2⟩:=reps_cons.mp rx;rw[reps_nil.mp h2,rep_int.mp h1];refine⟨_,rfl,?_,q _ _ F H (Grow.refl fh) h.2 (rep_str.mpr rfl)⟩;rename_i i;by_cases h0:i.natAbs=0
  .rw[h0];decide
  .have:=(HG h0).mpr (show i.natAbs<2 ^ 64 from h.1);lia
 .exact h.elim
def df[Jx](hm:X.mg "str"=z7)(ha:WDA X [e] t)(hg:autoParam (Gl X "str") zA0)(he:autoParam (zSE X e []) zA0):WDE X (.Call (.Name "str" p) [e] [] pos) (dCB rdStr t):=⟨have ha:=ha.out;gz vM xR hm PyProof.Rows.boot_str ha hg (by decide) (by decide) he⟩
def rdInt:RDn:=λds R=>match ds with
 |[.int i]=>R (.int i)
 |[.bl k]=>R (.int (if k then 1 else 0))
 |[.str x]=>∃ n,(PySem.intText? x=be n/\x.length<=640)/\R (.int n)
 |_=>False
def qy:bw X (.type "int") (λxs H Q=>((∃ i,xs=[.int i]/\Q (.int i) H)\/∃ k,xs=[.bl k]/\Q (.int (if k then 1 else 0)) H)\/∃ x n,xs=[.str x]/\PySem.intText? x=be n/\x.length<=640/\Q (.int n) H):=by
 intro pins s σ H xs us Q I r h;rcases h with h|⟨x,n,rfl,h1,h2,q⟩
 .exact vL pins s σ H xs us Q I r h
 .obtain⟨u,rfl,t,rfl⟩:=bG r;exact PySem.W.KIN.call_text h1 h2 ⟨.int n,H,I.tok _,⟨_,rfl⟩,q⟩
def qz:bR K (λxs H Q=>((∃ i,xs=[.int i]/\Q (.int i) H)\/∃ k,xs=[.bl k]/\Q (.int (if k then 1 else 0)) H)\/∃ x n,xs=[.str x]/\PySem.intText? x=be n/\x.length<=640/\Q (.int n) H) rdInt:=by
 intro ds vs F H R Q fh h rx q;unfold rdInt at h;split at h
 .obtain⟨v,r,rfl,h1,h2⟩:=reps_cons.mp rx;rw[reps_nil.mp h2,rep_int.mp h1];exact .inl (.inl ⟨_,rfl,q _ _ F H (Grow.refl fh) h (rep_int.mpr rfl)⟩)
 .obtain⟨v,r,rfl,h1,h2⟩:=reps_cons.mp rx;rw[reps_nil.mp h2,rep_bl.mp h1];exact .inl (.inr ⟨_,rfl,q _ _ F H (Grow.refl fh) h (rep_int.mpr rfl)⟩)
 .obtain⟨v,r,rfl,h1,h2⟩:=reps_cons.mp rx;rw[reps_nil.mp h2,rep_str.mp h1];obtain⟨n,⟨e1,e2⟩,h⟩:=h;exact .inr ⟨_,n,rfl,e1,e2,q _ _ F H (Grow.refl fh) h (rep_int.mpr rfl)⟩
 .exact h.elim
def xS[Jx](hm:X.mg "int"=z7)(ha:WDA X [e] t)(hg:autoParam (Gl X "int") zA0)(he:autoParam (zSE X e []) zA0):WDE X (.Call (.Name "int" p) [e] [] pos) (dCB rdInt t):=⟨have ha:=ha.out;gz qy qz hm PyProof.Rows.boot_int ha hg (by decide) (by decide) he⟩
def rdMax:RDn:=λds R=>match ds with|[.int i,.int j]=>R (.int (if j>i then j else i))|_=>False
def rdMin:RDn:=λds R=>match ds with|[.int i,.int j]=>R (.int (if j<i then j else i))|_=>False
def xT:bR K (λxs H Q=>∃ i j,xs=[.int i,.int j]/\Q (.int (if j>i then j else i)) H) rdMax:=by
 intro ds vs F H R Q fh h rx q;unfold rdMax at h;split at h
 .obtain⟨v,r,rfl,h1,h2⟩:=reps_cons.mp rx;obtain⟨v',r',rfl,h3,h4⟩:=reps_cons.mp h2;rw[reps_nil.mp h4,rep_int.mp h1,rep_int.mp h3];exact⟨_,_,rfl,q _ _ F H (Grow.refl fh) h (rep_int.mpr rfl)⟩
 .exact h.elim
def xU:bR K (λxs H Q=>∃ i j,xs=[.int i,.int j]/\Q (.int (if j<i then j else i)) H) rdMin:=by
 intro ds vs F H R Q fh h rx q;unfold rdMin at h;split at h
 .obtain⟨v,r,rfl,h1,h2⟩:=reps_cons.mp rx;obtain⟨v',r',rfl,h3,h4⟩:=reps_cons.mp h2;rw[reps_nil.mp h4,rep_int.mp h1,rep_int.mp h3];exact⟨_,_,rfl,q _ _ F H (Grow.refl fh) h (rep_int.mpr rfl)⟩
 .exact h.elim
def fD[Jx](hc:X.calm=true)(hm:X.mg "max"=z7)(ha:WDA X [e,a] t)(hg:autoParam (Gl X "max") zA0)(he:autoParam (zSE X e [a]) zA0)(c_:autoParam (zPL X pos [a]) zA0):WDE X (.Call (.Name "max" p) [e,a] [] pos) (dCB rdMax t):=⟨have ha:=ha.out;fB (vJ hc) xT hm PyProof.Rows.boot_max ha hg (by decide) (by decide) he c_⟩
def xV[Jx](hc:X.calm=true)(hm:X.mg "min"=z7)(ha:WDA X [e,a] t)(hg:autoParam (Gl X "min") zA0)(he:autoParam (zSE X e [a]) zA0)(c_:autoParam (zPL X pos [a]) zA0):WDE X (.Call (.Name "min" p) [e,a] [] pos) (dCB rdMin t):=⟨have ha:=ha.out;fB (vK hc) xU hm PyProof.Rows.boot_min ha hg (by decide) (by decide) he c_⟩
def dg:List D->Option (List IT)
 |[]=>be []
 | .str x::r=>(dg r).map (x::·)
 |_=>z7
def qA{K:Ex}{F:Hp}:∀ {ds:List D} {xs:List IT} {vs:List V} {us:List KB},dg ds=be xs->Reps K F ds vs->Vals vs us->StrsAre us xs
 |[],xs,vs,us,e,r,q=>by
  cases e;rw[reps_nil.mp r] at q;cases q;exact .nil
 | .str x::ds,xs,vs,us,e,r,q=>by
  obtain⟨v,r',rfl,h1,h2⟩:=reps_cons.mp r;rw[rep_str.mp h1] at q;cases q with
  |cons q1 q2=>
   obtain⟨t,rfl⟩:=q1;cases e2:dg ds with
   |none=>simp[dg,e2] at e
   |some ys=>
    simp[dg,e2] at e;subst e;exact .cons x t (qA e2 h2 q2)
def xW:V->List V->Hp->VK->Prop:=λx vs H Q=>∃ q8 l xs ys,x= .str q8/\vs=[.ref l]/\H l=be (.lst xs)/\(∀ us,Vals xs us->StrsAre us ys)/\(ys.map (·.length)).sum+ys.length*q8.length<=16777216/\Q (.str (Txt.join q8 ys)) H
def xX:MtR X "str.join" xW:=by
 intro pins s σ H x vs v us Q I rx rv h;obtain⟨q8,l,xs,ys,rfl,rfl,hl,hs,hz,q⟩:=h;obtain⟨t,rfl⟩:=rx;obtain⟨u,rfl,ru⟩:=bG rv;cases ru;obtain⟨its,r,pl,_⟩:=I.list (SqL.of hl);exact PyProof.Rows.join_list pl.isList (by simpa using hs its r) hz λt' k=>⟨.str _,H,I.tok _,⟨_,rfl⟩,q⟩
def xY(q8:IT)(te:TD):TD:=λz R=>te z λx=>match x with
 | .lst ds=>∃ ys,dg ds=be ys/\(ys.map (·.length)).sum+ys.length*q8.length<=1000000/\R (.str (Txt.join q8 ys))
 |_=>False
variable{k:Nat}
def qB[Jx]{q8:IT}{p1 apos cpos:QC}(he:WDE X e te)(o7:autoParam (zSE X e []) zA0)
  (c8:autoParam (Qy (.Constant (.str q8) k p1) "join" X.env (Qx (.Constant (.str q8) k p1) X.env)=Qx (.Constant (.str q8) k p1) X.env) zA0)
  (e_:autoParam (zHF X cpos [e]) zA0)
  (d4:autoParam ((apos.endLine==cpos.line)=true) zA0):WDE X (.Call (.Attribute (.Constant (.str q8) k p1) "join" apos) [e] [] cpos) (xY q8 te):=⟨have he:=he.out;(dY PySem.F.plainAttrs_str PySem.F.slot_str_join PySem.F.type_str_join xX oJ (bg he pa_nil o7) c8 e_ d4 o7).anti λs H Q q=>by
 obtain⟨B,F,z,kf,rs,R,h1,h2⟩:=q;have fh:=kf.fh;refine⟨rfl,?_⟩;refine⟨B,F,z,kf,rs,_,h1,λx u F1 H1 g1 hx rx=>?_⟩;split at hx
 .obtain⟨ys,e1,e2,hx⟩:=hx;obtain⟨l,vs,rfl,hq,rr⟩:=rep_lst.mp rx;exact⟨q8,l,vs,ys,rfl,rfl,g1.fh _ _ hq,λus q=>qA e1 rr q,E1 e2 (by decide),h2 _ _ F1 H1 g1 hx (rep_str.mpr rfl)⟩
 .exact hx.elim⟩
def dOix(i:Nat)(tb:TD):TD:=λz R=>match z[i]? with
 |some (be (.own ds))=>tb z λy=>match y with| .int k=>∃ d,atI ds k=be d/\R d|_=>False
 |_=>False
def bz[Jx](i:Nat){x:IT}(hb:WDE X b tb)(hN:autoParam (X.N[i]?=be x) zA0)(hv:autoParam (Vis X.env.scope x) zA5)(hd:autoParam (zND x) zA1)
  (g6:autoParam (zNC x) zA1) (hs:autoParam (dX b) zA6):WDE X (.Subscript (.Name x p) b pos) (dOix i tb):=⟨have hb:=hb.out;(pe_ix ix_list (dB hN hv hd g6) hb hs).anti λs H Q q=>by
 obtain⟨B,F,z,kf,rs,R,h1,h2⟩:=q;have fh:=kf.fh;unfold dOix at h1;split at h1
 .rename_i ds ez;obtain⟨a,vs,q1,q2,q3,q4,q5⟩:=rs.own i ds ez;refine⟨.ref a,q1,B,F,z,kf,rs,_,h1,λy v F1 H1 g1 hy ry=>?_⟩;split at hy
  .obtain⟨d,e1,hR⟩:=hy;obtain⟨w,e2,j5⟩:=(q5.mono g1.ff).at e1;exact⟨a,vs,_,w,rfl,rep_int.mp ry,SqL.of (g1.hh _ _ q2),e2,h2 d w F1 H1 g1 hR j5⟩
  .exact hy.elim
 .exact h1.elim⟩
def cutD(xs:List D)(lo hi:Option Int):List D:=(xs.drop (HT.sIx xs.length 0 lo)).take (HT.sIx xs.length xs.length hi - HT.sIx xs.length 0 lo)
def Reps.drop{K:Ex}{F:Hp}:∀ (n:Nat) {xs:List D} {us:List V},Reps K F xs us->Reps K F (xs.drop n) (us.drop n)
 |0,_,_,r=>r
 |n+1,[],us,r=>by rw[reps_nil.mp r];exact reps_nil.mpr rfl
 |n+1,x::xs,us,r=>by
  obtain⟨u,ur,rfl,_,a2⟩:=reps_cons.mp r;exact Reps.drop n a2
def Reps.take{K:Ex}{F:Hp}:∀ (n:Nat) {xs:List D} {us:List V},Reps K F xs us->Reps K F (xs.take n) (us.take n)
 |0,_,_,_=>reps_nil.mpr rfl
 |n+1,[],us,r=>by rw[reps_nil.mp r];exact reps_nil.mpr rfl
 |n+1,x::xs,us,r=>by
  obtain⟨u,ur,rfl,a1,a2⟩:=reps_cons.mp r;exact reps_cons.mpr ⟨u,_,rfl,a1,Reps.take n a2⟩
def Reps.cut{F:Hp}{xs:List D}{us:List V}(r:Reps K F xs us)(lo hi:Option Int):Reps K F (cutD xs lo hi) (cutV us lo hi):=by
 unfold cutD cutV;rw[r.length];exact(r.drop _).take _
def xZ{t:TGs}{n:Nat}(hc:X.calm=true)(h:PGs X es t)(hn:autoParam ((Qw es X.env).length=n) zA0)(n6:autoParam ((Qw es X.env).findIdx? (·.1)=none) zA0):
  PG X (.Tuple es k pos) (λv σ H Q=>∃ a xs,v= .ref a/\SqL X.K H a xs/\xs.length=n/\t xs σ H Q):=by
 intro pins s σ H v u Q I r hw;obtain⟨a,xs,e1,hq,hl,hw⟩:=hw;subst e1;cases r;obtain⟨its,rv,pl,hz⟩:=I.list hq;have e2:(Qw es X.env).length=its.toArray.size:=by simp[hn,<- hl,rv.length]
 rw[PyProof.Rows.assign_Tuple];refine Os (QU ?_);unfold unpack;rw[e2,n6];refine Os (QR (kun_itemsOf (I.ok.hd hc) pl.isList λh' hx=>?_));have I1:Inv X pins σ H {s with heap:=h'}:=I.kept (t':=s.toks) λb o e=>hx b o (EZ (Heap.lt_size e)) e;exact h pins _ σ H xs _ Q I1 (by simpa using rv) hw
def ya(is:List Nat)(te:TD):TSD:=λE z=>te z λx=>match x with| .lst ds=>ds.length=is.length/\E.nx (cb is ds z)|_=>False
def jN[Jx]{is:List Nat}(hc:X.calm=true)(he:WDE X e te)(hg:DGs X es is)(hn:autoParam ((Qw es X.env).length=is.length) zA0)(n6:autoParam ((Qw es X.env).findIdx? (·.1)=none) zA0)
  (hs:autoParam (RB [.Tuple es k p] e pos.line X.env=pure false) zA0) (hw:autoParam (RC [.Tuple es k p] e X.env=pure none) zA0) (h1:autoParam ((Qw [.Tuple es k p] X.env).map (·.2)=[Q3 (.Tuple es k p) X.env]) zA0):WDS X (.Assign [.Tuple es k p] e pos) (ya is te):=⟨by
 have he:=he.out;obtain⟨u,hu,kk⟩:=hg;refine(oV he (xZ hc hu hn n6) hs hw h1).anti λE s H q=>?_;obtain⟨B,F0,F,z,k,rs,ED,h,e⟩:=q;refine⟨B,F,z,k.kf,rs,_,h,λd v F' H' g hd rd=>?_⟩;split at hd
 .obtain⟨p,vs,rfl,hq,rr⟩:=rep_lst.mp rd;exact⟨p,vs,rfl,SqL.of (g.fh _ _ hq),by rw[rr.length];exact hd.1,kk _ vs z s B F' H' _ hd.1 rr (rs.grow g) λs' r'=>e.nx _ _ F' H' (k.grow g) hd.2 r'⟩
 .exact hd.elim⟩
end
end My
namespace L2
def jO{env:Q4}:∀ (names:List (IT × QZ)) (f_:List (IT × KF)),(∀ n,(n,NameKind.free)∈names->∃ c,env.cells.lookup n=be c)->
  ∃ cl,(forIn (m:=RO) names f_ λx r=>match x with
     |(name,kind)=>if(kind==NameKind.free)=true then(do let a <- cellOf env name;pure (ForInStep.yield ((name,a)::r))) else pure (ForInStep.yield r))=(pure cl:RO (List (IT × KF)))/\
   (∀ n c,cl.lookup n=be c->env.cells.lookup n=be c\/f_.lookup n=be c)/\(∀ n,(n,NameKind.free)∈names->∃ c,cl.lookup n=be c)/\∀ n c,f_.lookup n=be c->∃ c',cl.lookup n=be c'
 |[],f_,_=>⟨f_,rfl,(λ_ _ h=> .inr h),(λ_ h=>by cases h),(λ_ c h=>⟨c,h⟩)⟩
 |(name,kind)::r,f_,h=>by
  by_cases hk:(kind==NameKind.free)=true
  .have ek:kind= .free:=by simpa using hk
   subst ek;obtain⟨c,hc⟩:=h name E2;obtain⟨cl,e,p1,p2,p3⟩:=jO r ((name,c)::f_) λn q=>h n (EV _ q);refine⟨cl,?_,λn c' q=>?_,λn q=>?_,λn c' q=>?_⟩
   .rw[G5];have ec:cellOf env name=pure c:=by unfold cellOf;rw[hc]
    simp only[hk,if_true,ec];exact e
   .rcases p1 n c' q with z|z
    .exact .inl z
    .rw[E8] at z;split at z
     .rename_i q2;have en:n=name:=by simpa using q2
      cases z;exact .inl (en ▸ hc)
     .exact .inr z
   .rcases ER.mp q with z|z
    .cases z;exact p3 _ c (by rw[E8];simp)
    .exact p2 n z
   .by_cases hn:n=name
    .subst hn;exact p3 n c (by rw[E8];simp)
    .exact p3 n c' (by rw[E8,beq_eq_false_iff_ne.mpr hn];exact q)
  .obtain⟨cl,e,p1,p2,p3⟩:=jO r f_ λn q=>h n (EV _ q);refine⟨cl,?_,p1,λn q=>?_,p3⟩
   .rw[G5];simp only[hk];exact e
   .rcases ER.mp q with z|z
    .cases z;exact absurd rfl hk
    .exact p2 n z
def closure_is{env:Q4}{scope:QS}(h:∀ n,(n,NameKind.free)∈scope.names->∃ c,env.cells.lookup n=be c):
  ∃ cl,closureFor scope env=pure cl/\(∀ n c,cl.lookup n=be c->env.cells.lookup n=be c)/\∀ n,(n,NameKind.free)∈scope.names->∃ c,cl.lookup n=be c:=by
 obtain⟨cl,e,p1,p2,_⟩:=jO scope.names [] h;refine⟨cl,?_,λn c q=>(p1 n c q).elim id (λz=>nomatch z),p2⟩;unfold closureFor;show(forIn (m:=RO) scope.names [] _>>=λs=>pure s)=pure cl;rw[e];rfl
def gA{env:Q4}:∀ {names:List (IT × QZ)} {n:IT} {k:QZ},(∀ y∈names,y.2≠.cell)->k= .cell\/k= .free->
  (names.map λ(n,k)=>if(k==NameKind.free && env.scope.kind== .function && env.kindOf n==be .cell) then(n,NameKind.cell) else(n,k)).lookup n=be k->(n,NameKind.free)∈names
 |[],_,_,_,_,h=>by simp at h
 |(a,b)::r,n,k,hc,hk,h=>by
  rw[E4] at h;by_cases hb:(b==NameKind.free && env.scope.kind== .function && env.kindOf a==be .cell)=true
  .have eb:b= .free:=by
    have:=(Ff _ _ ▸ ((Ff _ _ ▸ hb).1)).1;simpa using this
   simp only[hb,if_true] at h;rw[E8] at h;split at h
   .rename_i q;have en:n=a:=by simpa using q
    subst en eb;exact E2
   .exact EV _ (gA (λy q=>hc y (EV _ q)) hk h)
  .simp only[hb] at h;rw[if_neg (by simp),E8] at h;split at h
   .rename_i q;have en:n=a:=by simpa using q
    cases h;subst en;rcases hk with z|z
    .exact absurd z (hc _ E2)
    .rw[z];exact E2
   .exact EV _ (gA (λy q=>hc y (EV _ q)) hk h)
section
variable {prog:P3}{w:Qt}{A:Qu}{R:Result->KM->Prop}{s:KM}
abbrev qC(i9:List Qo)(env:Q4):RO Bool:=forIn i9 true λc r=>if r=true then do let ok <- isTrue c env (Qx c env);pure (ForInStep.yield ok) else pure (ForInStep.yield r)
def qD{f8 gV iter:Qo}{i9:List Qo}{scope:QS}{pos:QC}{it f_:KB}{env:Q4}(I:Nat->KM->Prop)
  (d5:∀ n s,I n s->Qs (Qr prog w) A (pyNext it) (λr s₁=>match r with
   |none=>R (.ok .next) s₁
   |some v=>Qs (Qr prog w) A (Rf gV it v) (λ_ s₁'=>Qs (Qr prog w) A (Q3 gV env v) (λ_ s₂=>Qs (Qr prog w) A (qC i9 env) (λok s₂'=>if ok=true then Qs (Qr prog w) A (Qx f8 env) (λx s₃=>
     Qs (Qr prog w) A (call (.builtin "list.append") [f_,x]) (λ_ s₄=>∃ m,m<n/\I m s₄) (λ_ _=>False) s₃)
     (λ_ _=>False) s₂' else ∃ m,m<n/\I m s₂') (λ_ _=>False) s₂) (λ_ _=>False) s₁') (λ_ _=>False) s₁) (λ_ _=>False) s)
  (n:Nat) (h:I n s):
  Ra (Qr prog w) A (.compLoop (.ListComp f8 [⟨gV,iter,i9,0⟩] scope pos) 0 it f_ env) R s:=by
 refine codeAny_loop rfl I (λn s hI=>?_) n h;show Qs _ _ ((compTurn (.ListComp f8 [⟨gV,iter,i9,0⟩] scope pos) 0 it f_ env).onRaise (λx=>do Rq x env;theTreesLotGoes x)) _ _ s;refine wpAny_noted ?_;rw[compTurn_list];refine Os (QU (Os (QE (d5 n s hI) (λr s₁ h₁=>?_) λ_ _ h'=>h'.elim)));cases r with
 |none=>exact Qp h₁
 |some v=>
  refine Os (QE h₁ (λ_ s₁' h₁'=>Os (QE h₁' (λ_ s₂ h₂=>Os (QE h₂ (λok s₃ h₃=>?_) λ_ _ h'=>h'.elim)) λ_ _ h'=>h'.elim)) λ_ _ h'=>h'.elim);cases ok with
  |false=>exact Qp ⟨rfl,h₃⟩
  |true=>
   exact Os (Os (QE h₃ (λx s₄ h₄=>Os (QE h₄ (λ_ s₅ h₅=>Qp (Qp ⟨rfl,h₅⟩)) λ_ _ h'=>h'.elim)) λ_ _ h'=>h'.elim))
end
def bD(X:Cx)(scope:QS)(cl:List (IT × KF))(x:IT)(s₀:KM)(H₀:Hp)(fp:List KF):Cx where
 prog:=X.prog
 w:=X.w
 K:=X.K
 mg:=X.mg
 base:=X.base
 A:=X.A
 N:=X.N.map (λn=>if n=x then("":IT) else n)++[x]
 s₀:=s₀
 H₀:=H₀
 env:=Ry scope cl s₀.heap.objs.size X.env
 outer:=X.stack
 stack:=X.stack
 ex:=fp
 fn:=λ_=>false
 calm:=X.calm
 pn:=[]
 xe:=λ_ _=>False
structure CompScope(X:Cx)(scope:QS)(x:Str):Prop where
 kind:scope.kind= .function
 nocell:∀ y∈scope.names,y.2≠.cell
 names:∀ y∈scope.names,y.2= .local->scope.names.lookup y.1=be .local
 own:scope.names.lookup x=be .local
 free:∀ n,(n,NameKind.free)∈scope.names->X.env.kindOf n=be .cell
 vis:∀ n∈X.N,n≠x->Vis (R6 scope X.env) n->(n,NameKind.free)∈scope.names
 empty:¬ Vis (R6 scope X.env) ("":IT)
 cells:∀ n,(n,NameKind.free)∈scope.names->(R6 scope X.env).names.lookup n=be .cell
 nd:(X.N.map (λn=>if n=x then("":IT) else n)++[x]).Nodup
section
variable {X:Cx}{pins:List (KF × QJ)}{σ:St}{H:Hp}{s:KM}{scope:QS}{cl:List (IT × KF)}{x:IT}{fp:List KF}
def jP(I:Inv X pins σ H s)(S:CompScope X scope x)(c1:∀ n c,cl.lookup n=be c->X.env.cells.lookup n=be c)(c2:∀ n,(n,NameKind.free)∈scope.names->∃ c,cl.lookup n=be c)
  (hf:∀ b∈fp,FpOk X pins H b) (hl:∀ b∈fp,b<s.heap.objs.size):(bD X scope cl x s H fp).Ok where
 mod:=I.ok.mod
 kind:=S.kind
 glob:=I.ok.glob
 blt:=I.ok.blt
 above:=EK _
 inj:=λy z c h1 h2=>I.ok.inj y z c (c1 y c h1) (c1 z c h2)
 has:=λn hn=>by
  rcases hn with hn|hn
  .exact c2 n (gA S.nocell (.inl rfl) hn)
  .exact c2 n (gA S.nocell (.inr rfl) hn)
 cab:=λ_ _ h=>nomatch h
 hd:=I.ok.hd
 frames:=I.ok.frames
 stk:= .inl rfl
 exf:=λb hb=>⟨EZ (hl b hb),λy c h=>(hf b hb).2.2.2.2.1 y c (c1 y c h)⟩
 bs:=I.bs
 bsz:=E1 I.ok.bsz I.sz
 noex:=λb o e hb=>by
  have h1:=I.ok.noex b o e;rcases(hf b hb).2.2.2.1 with z|z
  .exact h1 z
  .exact absurd (Fj (Heap.lt_size e) (E1 I.ok.bsz z)) (FM _)
 exfs:=λb hb hs=>by
  rcases ER.mp (I.stkSub b hs) with z|z
  .exact(hf b hb).2.1 z
  .exact(hf b hb).2.2.1 z
 funs:=I.stack
 frf:=I.stkFree
def qE{h':Heap}{t':Nat}(I:Inv X pins σ H s)(S:CompScope X scope x)(c1:∀ n c,cl.lookup n=be c->X.env.cells.lookup n=be c)(c2:∀ n,(n,NameKind.free)∈scope.names->∃ c,cl.lookup n=be c)
  (hf:∀ b∈fp,FpOk X pins H b) (hl:∀ b∈fp,b<s.heap.objs.size) {m:IT->Option KB} (hn:h'.Ns s.heap.objs.size m) (k:∀ b o,s.heap.get? b=be o->h'.get? b=be o):
  Inv (bD X scope cl x s H fp) [] (σ++[z7]) H {s with heap:=h',toks:=t'}:=by
 refine⟨jP I S c1 c2 hf hl,rfl,I.bare,Un.kept k,⟨m,hn,λi n v e1 e2 e3=>?_⟩,λn c e=>?_,I.hok.fresh (EK _),λn c e=>I.freeC n c (c1 n c e),λp hp=>absurd (show p∈([]:List (KF × QJ)) from hp) (by simp),I.hok.kept k,?_⟩
 .have hi:i<σ.length:=by
   rcases G6 i σ.length with q|q
   .exact q
   .rw[FC q] at e2;cases hz:i - σ.length with
    |zero=>rw[hz] at e2;simp at e2
    |succ z=>rw[hz] at e2;simp at e2
  rw[Fu hi] at e2;have Lh:i<X.N.length:=by rw[<- I.len];exact hi
  have JT:(X.N.map (λn=>if n=x then("":IT) else n)++[x])[i]?=be n:=e1;rw[Fu (by simpa using Lh),E3,Fi Lh] at JT;simp only[G7,Option.some.injEq] at JT;by_cases hx:X.N[i]=x
  .rw[if_pos hx] at JT;subst JT;exact absurd e3 S.empty
  .rw[if_neg hx] at JT;subst JT;have j8:=S.vis _ (GJ Lh) hx e3;have m4:=S.free _ j8;obtain⟨c,hc⟩:=c2 _ j8;obtain⟨mX,PV,ON⟩:=I.loc;obtain⟨u,ru,lk⟩:=ON i X.N[i] v (Fi Lh) e2 (.inr (.inl m4));refine⟨u,ru,.inr ⟨?_,c,hc,?_⟩⟩
   .exact .inl (S.cells _ j8)
   .rcases lk with⟨kl,_⟩|⟨_,c',IS,l9⟩
    .rw[m4] at kl;cases kl
    .have:c=c':=by
      have:=c1 _ c hc;rw[IS] at this;exact(Option.some.inj this).symm
     subst this;obtain⟨o,ho,hd⟩:=l9;exact⟨o,k _ _ ho,hd⟩
 .obtain⟨v,o,ho,hd⟩:=I.cell n c (c1 n c e);exact⟨v,o,k _ _ ho,hd⟩
 .show(σ++[z7]).length=(X.N.map _++[x]).length;rw[EU,EU,EY,I.len];rfl
end
def fE(wi:TI)(tt:TT)(j7:TE):TE:=λσ H Q=>wi σ H λJ H1=>∀ D,H1 D=z7->∃ W:Nat->Nat->Hp->Prop,(∃ m,W 0 m (upd H1 D (.lst [])))/\∀ i m H,W i m H->
 (J.stop i H/\Q (.ref D) H)\/(J.go i H/\∀ x H',J.yld i H x H'->tt (σ++[be x]) H' λb H1=>if b=true then j7 (σ++[be x]) H1 λy H''=>∃ vs,H'' D=be (.lst vs)/\vs.length<sizeLine/\∃ m',m'<m/\W (i+1) m' (upd H'' D (.lst (vs++[y]))) else ∃ m',m'<m/\W (i+1) m' H1)
def PIf(X:Cx)(i9:List Qo)(t:TT):Prop:=
 ∀ (pins:List (KF × QJ)) (s:KM) (σ:St) (H:Hp) (Q:Bool->Hp->Prop),Inv X pins σ H s->t σ H Q->Qs (Qr X.prog X.w) X.A (qC i9 X.env) (TP X pins σ Q) X.xe s
variable{X:Cx}
def pif_nil:PIf X [] (λ_ H Q=>Q true H):=λpins s σ H Q I q=>wpAny_tests_nil ⟨H,I,q⟩
def yb{c:Qo}{t:TT}(h:PT X c t):PIf X [c] t:=λpins s σ H Q I q=>wpAny_tests_one (h pins s σ H Q I q)
def PIf.anti{e:List Qo}{t t':TT}(h:PIf X e t)(a:∀ s H Q,t' s H Q->t s H Q):PIf X e t':=λpins s σ H Q I q=>h pins s σ H Q I (a _ _ _ q)
section
variable {X:Cx}
def yc{P:P3}{w:Qt}{H:Hp}{h h':Heap}{a:KF}(x:HOk P w H h)(hn:H a=z7)(hs:Heap.SameBut a h h'):HOk P w H h':=λb ob e=>by
 refine(x b ob e).stay (λc w' hc q=>(hs.2 c ?_).trans q) (λ_ q=>q) λ_ _ q=>q;rintro rfl;rcases hc with rfl|hc
 .rw[hn] at e;cases e
 .rw[hn] at hc;cases hc
variable{i9:List Qo}{scope:QS}
def pe_comp{f8 iter:Qo}{x:IT}{px:QC}{pos:QC}{wi:TI}{tt:TT}{j7:TE}(hc:X.calm=true)(S:CompScope X scope x)(hi:PI X (.Name x px) iter wi)
  (hq:∀ cl s₀ H₀ fp,PIf (bD X scope cl x s₀ H₀ fp) i9 tt) (he:∀ cl s₀ H₀ fp,PE (bD X scope cl x s₀ H₀ fp) f8 j7) (hs:autoParam (∀ y,zFS X iter y) zA2):
  PE X (.ListComp f8 [⟨.Name x px,iter,i9,0⟩] scope pos) (fE wi tt j7):=by
 intro pins s σ H Q I h;obtain⟨cl,l9,c1,c2⟩:=closure_is (env:=X.env) (scope:=scope) (λn q=>I.ok.has n (.inl (S.free n q)));rw[eval_ListComp];refine RA (use:=z7) rfl hs l9 S.kind S.names (thn (hi pins s σ H _ I h) λv s1 h1=>thn h1 λLa s2 h2=>?_);obtain⟨it,fp,tn,J,H1,e,I1,T,st,f1,hr⟩:=h2;subst e;have j3:∀ b∈fp,b<s2.heap.objs.size:=λb hb=>by
  obtain⟨o,ho,_⟩:=T.obj _ _ st b hb;exact Heap.lt_size ho
 have hD:H1 s2.heap.objs.size=none:=I1.hok.fresh (EK _);obtain⟨W,⟨m0,w0⟩,step⟩:=hr _ hD;refine QG (RP S.nocell (by intro y hy;simp at hy) (λh₁ hns₁ hsb₁=>?_) S.kind);have I3:Inv X pins σ (upd H1 s2.heap.objs.size (.lst [])) {s2 with heap:=s2.heap.push {cls:= .type "list",data:= .seq ([]:List KB).toArray},toks:=s2.toks}:=I1.lnew (its:=[]) (ys:=[]) .nil (Fl _);have g9:∀ b∈fp,b<(s2.heap.push {cls:= .type "list",data:= .seq ([]:List KB).toArray}).objs.size:=λb hb=>by
  rw[Heap.size_push];exact HI (j3 b hb)
 have o8:∀ b∈fp,FpOk X pins (upd H1 s2.heap.objs.size (.lst [])) b:=λb hb=>⟨by rw[aj (EZ (j3 b hb))];exact(f1 b hb).1,(f1 b hb).2⟩;have kp:∀ b o,(s2.heap.push {cls:= .type "list",data:= .seq ([]:List KB).toArray}).get? b=be o->h₁.get? b=be o:=λb o e=>
  (hsb₁.2 b (EZ (Heap.lt_size e))).trans (Heap.get?_push_of_some _ e)
 have I4:=qE (x:=x) (fp:=fp) (t':=s2.toks+([]:List (IT × KB)).length) I3 S c1 c2 o8 g9 hns₁ kp;have A_:=jP (x:=x) (fp:=fp) I3 S c1 c2 o8 g9;generalize hY:bD X scope cl x {s2 with heap:=s2.heap.push {cls:= .type "list",data:= .seq ([]:List KB).toArray},toks:=s2.toks} (upd H1 s2.heap.objs.size (.lst [])) fp=Y at I4 A_;have yP:Y.prog=X.prog:=by rw[<- hY];rfl
 have yW:Y.w=X.w:=by rw[<- hY];rfl
 have yK:Y.K=X.K:=by rw[<- hY];rfl
 have yA:Y.A=X.A:=by rw[<- hY];rfl
 have yN:Y.N=X.N.map (λn=>if n=x then("":IT) else n)++[x]:=by rw[<- hY];rfl
 have yE:Y.env=Ry scope cl (s2.heap.push {cls:= .type "list",data:= .seq ([]:List KB).toArray}).objs.size X.env:=by rw[<- hY];rfl
 have yX:Y.xe=λ_ _=>False:=by rw[<- hY];rfl
 have yC:Y.calm=true:=by rw[<- hY];exact hc
 have Kt:Y.ex=fp:=by rw[<- hY];rfl
 have LX:Y.pn=[]:=by rw[<- hY];rfl
 have LY:Y.fs=frs X.stack:=by rw[<- hY];rfl
 have LZ:Y.H₀=upd H1 s2.heap.objs.size (.lst []):=by rw[<- hY];rfl
 have Ku:Y.s₀={s2 with heap:=s2.heap.push {cls:= .type "list",data:= .seq ([]:List KB).toArray},toks:=s2.toks}:=by rw[<- hY];rfl
 have L0:PE Y f8 j7:=by rw[<- hY];exact he _ _ _ _
 have L3:PIf Y i9 tt:=by rw[<- hY];exact hq _ _ _ _
 have h_:∀ {H':Hp},(∀ b∈fp,H' b=z7)->∀ b∈fp,FpOk Y [] H' b:=λ{H'} hn b hb=>by
  have g7:b∈Y.ex:=by rw[Kt];exact hb
  exact⟨hn b hb,(A_.exf b g7).1,A_.exfs b g7,.inl g7,λn c e=>(A_.exf b g7).2 n c e,by rw[LX];simp⟩
 have v4:Y.env.scope.names.lookup x=be .local:=by rw[yE];exact RR S.own
 have Kv:Y.N[X.N.length]?=be x:=by rw[yN];simp
 have L4:Y.N.Nodup:=by rw[yN];exact S.nd
 have f6:∀ (o:Option V) (H':Hp) (s':KM),Inv Y [] (σ++[o]) H' s'->Q (.ref s2.heap.objs.size) H'->∀ h',Heap.SameBut Y.env.locals s'.heap h'->EP X pins σ Q (.ref s2.heap.objs.size) {s' with heap:=h'}:=λo H' s' I' q h' hsb=>by
  have r_:Y.env.locals=(s2.heap.push {cls:= .type "list",data:= .seq ([]:List KB).toArray}).objs.size:=by rw[yE];rfl
  have ne:∀ b ob,(s2.heap.push {cls:= .type "list",data:= .seq ([]:List KB).toArray}).get? b=be ob->b≠Y.env.locals:=λb ob e=>by rw[r_];exact EZ (Heap.lt_size e)
  have bs:=I'.base;rw[LY,Kt,LZ,Ku] at bs;refine⟨.ref s2.heap.objs.size,H',I3.call' (ch:=fp) ?_ ⟨λb ob e n h1 h2=>?_,λb ob e n h1 h2=>?_,bs.free,λb ob e h2=>?_,bs.tups,bs.frzs,bs.tbls⟩ ?_ I'.bare ?_,rfl,q⟩
  .have:=I'.os;rw[Ku] at this;exact this
  .exact(hsb.2 b (ne b ob e)).trans (bs.keep b ob e n h1 h2)
  .obtain⟨sl,q⟩:=bs.slot b ob e n h1 h2;exact⟨sl,(hsb.2 b (ne b ob e)).trans q⟩
  .obtain⟨o',q⟩:=bs.there b ob e h2;exact⟨o',(hsb.2 b (ne b ob e)).trans q⟩
  .have:=yc I'.hok I'.free hsb;rw[yP,yW] at this;exact this
  .exact λb hb=>⟨(o8 b hb).2.2.2.1,(o8 b hb).2.1,(o8 b hb).2.2.2.2.1,(o8 b hb).2.2.2.2.2⟩
 have q9:Ra (Qr X.prog X.w) X.A (.compLoop (.ListComp f8 [⟨.Name x px,iter,i9,0⟩] scope pos) 0 (.ref it) (.ref s2.heap.objs.size) (Ry scope cl (s2.heap.push {cls:= .type "list",data:= .seq ([]:List KB).toArray}).objs.size X.env))
   (compPost (Qr X.prog X.w) X.A X.xe z7 (EP X pins σ Q) (.ref s2.heap.objs.size) (s2.heap.push {cls:= .type "list",data:= .seq ([]:List KB).toArray}).objs.size)
   {s2 with heap:=h₁,toks:=s2.toks+([]:List (IT × KB)).length}:=by
  refine qD (λn s'=>∃ i o H',Inv Y [] (σ++[o]) H' s'/\tn i s'.heap/\(∀ b∈fp,H' b=z7)/\W i n H') ?_ m0 ⟨0,z7,_,I4,T.keep _ _ _ st (λb hb ob e=>kp b ob (Heap.get?_push_of_some _ e)),λb hb=>(o8 b hb).1,w0⟩;rintro n s3 ⟨i,o,H3,I5,t3,f3,w3⟩;rcases step i n H3 w3 with⟨stop,q⟩|⟨go,q⟩
  .have dn:=T.done Y yP yW yK yC i [] s3 _ H3 (λ_ _=>False) I5 (h_ f3) t3 stop;rw[yA] at dn;refine thn dn λr s4 c7=>?_;obtain⟨hr,I6⟩:=c7;subst hr;obtain⟨m,hn,_⟩:=I6.loc;have r_:Y.env.locals=(s2.heap.push {cls:= .type "list",data:= .seq ([]:List KB).toArray}).objs.size:=by rw[yE];rfl
   rw[r_] at hn;exact⟨m,hn,λh' hsb=>f6 o H3 s4 I6 q h' (by rw[r_];exact hsb)⟩
  .have Kx:=T.item Y yP yW yK yC i [] s3 _ H3 (λ_ _=>False) I5 (h_ f3) t3 go;rw[yA] at Kx;refine thn Kx λr s4 c7=>?_;obtain⟨u,hr,h4⟩:=c7;subst hr;refine thn h4 λ_ s5 c7=>?_;obtain⟨xv,H5,I6,r5,y5,n9,Ke⟩:=c7;have L5:=I6.pinned (h_ Ke) (T.obj _ _ n9);rw[<- yE];refine Q6 (gc L5 L4 Kv (.inl v4) r5 (λs6 I7=>?_) (.inr v4));have Jw:(σ++[o]).set X.N.length (be xv)=σ++[be xv]:=by
    rw[<- I.len];simp
   rw[Jw] at I7;have tv:=L3 _ s6 _ H5 _ I7 (q xv H5 y5);rw[yP,yW,yA,yX] at tv;refine thn tv λb L6 c7=>?_;obtain⟨L7,B_,qb⟩:=c7;cases b with
   |false=>
    obtain⟨m',hm,w7⟩:=qb;refine⟨m',hm,i+1,be xv,_,B_.unpinned,T.keep _ _ _ n9 λb hb ob e=>(B_.pin (b,ob) (E7 _ (E7 _ (cG hb e)))).1,λb hb=>?_,w7⟩;obtain⟨ob,e,d⟩:=T.obj _ _ n9 b hb;exact(B_.pin (b,ob) (E7 _ (E7 _ (cG hb e)))).2.1
   |true=>
   have ev:=L0 _ L6 _ L7 _ B_ qb;rw[yP,yW,yA,yX] at ev;refine thn ev λyv s7 c7=>?_;obtain⟨y,H6,I8,ry,vs,L8,b_,m',hm,w7⟩:=c7;have ap:=gm (X:=Y) _ s7 _ H6 (.ref s2.heap.objs.size) [y] (.ref s2.heap.objs.size) [yv] (λ_ H7=>H7=upd H6 s2.heap.objs.size (.lst (vs++[y]))) I8 rfl (.cons ry .nil) ⟨_,vs,y,rfl,rfl,L8,b_,rfl⟩;rw[yP,yW,yA,yX] at ap;refine thn ap λ_ s8 c7=>?_;obtain⟨_,H7,I9,_,e7⟩:=c7;subst e7;refine⟨m',hm,i+1,be xv,_,I9.unpinned,T.keep _ _ _ n9 λb hb ob e=>(I9.pin (b,ob) (E7 _ (E7 _ (cG hb e)))).1,λb hb=>?_,w7⟩;obtain⟨ob,e,d⟩:=T.obj _ _ n9 b hb;exact(I9.pin (b,ob) (E7 _ (E7 _ (cG hb e)))).2.1
 exact RL q9 (T.self _ _ _ _ _ (T.keep _ _ _ st (λb hb ob e=>kp b ob (Heap.get?_push_of_some _ e))) q9)
def jQ{f8 iter:Qo}{x y:IT}{px py i6:QC}{pos:QC}{wi:TI}{tt:TT}{j7:TE}{ix:Nat}(hc:X.calm=true)(S:CompScope X scope x)(hi:PI X (.Name x px) iter wi)
  (hq:∀ cl s₀ H₀ fp,PIf (bD X scope cl x s₀ H₀ fp) i9 tt) (he:∀ cl s₀ H₀ fp,PE (bD X scope cl x s₀ H₀ fp) f8 j7) (hN:X.N.Nodup) (Jy:X.N[ix]?=be y) (hy:Loc X.env.scope y) (hf:zFN X y)
  (v3:QF (.ListComp f8 [⟨.Name x px,iter,i9,0⟩] scope pos) (be (.Name y py)) i6.line X.env=pure true) (hs:autoParam (∀ y,zFS X iter y) zA2):
  PS X (.Assign [.Name y py] (.ListComp f8 [⟨.Name x px,iter,i9,0⟩] scope pos) i6) (tAsg (fE wi tt j7) (fu ix)):=by
 intro pins s σ H DE I h;have h:wi σ H λJ H1=>∀ D,H1 D=z7->∃ W:Nat->Nat->Hp->Prop,(∃ m,W 0 m (upd H1 D (.lst [])))/\∀ i m H,W i m H->
  (J.stop i H/\DE.nx (σ.set ix (be (.ref D))) H)\/(J.go i H/\∀ x H',J.yld i H x H'->tt (σ++[be x]) H' λb H1=>if b=true then j7 (σ++[be x]) H1 λy H''=>∃ vs,H'' D=be (.lst vs)/\vs.length<sizeLine/\∃ m',m'<m/\W (i+1) m' (upd H'' D (.lst (vs++[y]))) else ∃ m',m'<m/\W (i+1) m' H1):=h
 obtain⟨cl,l9,c1,c2⟩:=closure_is (env:=X.env) (scope:=scope) (λn q=>I.ok.has n (.inl (S.free n q)));rw[exec_Assign_Name_used _ _ _ _ v3];refine Os (QU (Os ?_));show Qs _ X.A (do let _ <- comprehension (.ListComp f8 [⟨.Name x px,iter,i9,0⟩] scope pos) scope X.env _ (newList []) false (Qx iter X.env) (be (Q3 (.Name y py) X.env))) _ _ s;refine Os (QE (RA (use:=be (Q3 (.Name y py) X.env)) (Q:=λ_ s'=>SP X pins DE .next s') rfl hs l9 S.kind S.names
  (thn (hi pins s σ H _ I h) λv s1 h1=>thn h1 λLa s2 h2=>?_)) (λ_ s' hq=>Qp (Qp hq)) λ_ _ e=>e)
 obtain⟨it,fp,tn,J,H1,e,I1,T,st,f1,hr⟩:=h2;subst e;have j3:∀ b∈fp,b<s2.heap.objs.size:=λb hb=>by
  obtain⟨o,ho,_⟩:=T.obj _ _ st b hb;exact Heap.lt_size ho
 have hD:H1 s2.heap.objs.size=none:=I1.hok.fresh (EK _);obtain⟨W,⟨m0,w0⟩,step⟩:=hr _ hD;refine QG (RP S.nocell (by intro y hy;simp at hy) (λh₁ hns₁ hsb₁=>?_) S.kind);have I3:Inv X pins σ (upd H1 s2.heap.objs.size (.lst [])) {s2 with heap:=s2.heap.push {cls:= .type "list",data:= .seq ([]:List KB).toArray},toks:=s2.toks}:=I1.lnew (its:=[]) (ys:=[]) .nil (Fl _);have g9:∀ b∈fp,b<(s2.heap.push {cls:= .type "list",data:= .seq ([]:List KB).toArray}).objs.size:=λb hb=>by
  rw[Heap.size_push];exact HI (j3 b hb)
 have o8:∀ b∈fp,FpOk X pins (upd H1 s2.heap.objs.size (.lst [])) b:=λb hb=>⟨by rw[aj (EZ (j3 b hb))];exact(f1 b hb).1,(f1 b hb).2⟩;have kp:∀ b o,(s2.heap.push {cls:= .type "list",data:= .seq ([]:List KB).toArray}).get? b=be o->h₁.get? b=be o:=λb o e=>
  (hsb₁.2 b (EZ (Heap.lt_size e))).trans (Heap.get?_push_of_some _ e)
 have I4:=qE (x:=x) (fp:=fp) (t':=s2.toks+([]:List (IT × KB)).length) I3 S c1 c2 o8 g9 hns₁ kp;have A_:=jP (x:=x) (fp:=fp) I3 S c1 c2 o8 g9;generalize hY:bD X scope cl x {s2 with heap:=s2.heap.push {cls:= .type "list",data:= .seq ([]:List KB).toArray},toks:=s2.toks} (upd H1 s2.heap.objs.size (.lst [])) fp=Y at I4 A_;have yP:Y.prog=X.prog:=by rw[<- hY];rfl
 have yW:Y.w=X.w:=by rw[<- hY];rfl
 have yK:Y.K=X.K:=by rw[<- hY];rfl
 have yA:Y.A=X.A:=by rw[<- hY];rfl
 have yN:Y.N=X.N.map (λn=>if n=x then("":IT) else n)++[x]:=by rw[<- hY];rfl
 have yE:Y.env=Ry scope cl (s2.heap.push {cls:= .type "list",data:= .seq ([]:List KB).toArray}).objs.size X.env:=by rw[<- hY];rfl
 have yX:Y.xe=λ_ _=>False:=by rw[<- hY];rfl
 have yC:Y.calm=true:=by rw[<- hY];exact hc
 have Kt:Y.ex=fp:=by rw[<- hY];rfl
 have LX:Y.pn=[]:=by rw[<- hY];rfl
 have LY:Y.fs=frs X.stack:=by rw[<- hY];rfl
 have LZ:Y.H₀=upd H1 s2.heap.objs.size (.lst []):=by rw[<- hY];rfl
 have Ku:Y.s₀={s2 with heap:=s2.heap.push {cls:= .type "list",data:= .seq ([]:List KB).toArray},toks:=s2.toks}:=by rw[<- hY];rfl
 have L0:PE Y f8 j7:=by rw[<- hY];exact he _ _ _ _
 have L3:PIf Y i9 tt:=by rw[<- hY];exact hq _ _ _ _
 have h_:∀ {H':Hp},(∀ b∈fp,H' b=z7)->∀ b∈fp,FpOk Y [] H' b:=λ{H'} hn b hb=>by
  have g7:b∈Y.ex:=by rw[Kt];exact hb
  exact⟨hn b hb,(A_.exf b g7).1,A_.exfs b g7,.inl g7,λn c e=>(A_.exf b g7).2 n c e,by rw[LX];simp⟩
 have v4:Y.env.scope.names.lookup x=be .local:=by rw[yE];exact RR S.own
 have Kv:Y.N[X.N.length]?=be x:=by rw[yN];simp
 have L4:Y.N.Nodup:=by rw[yN];exact S.nd
 have r_:Y.env.locals=(s2.heap.push {cls:= .type "list",data:= .seq ([]:List KB).toArray}).objs.size:=by rw[yE];rfl
 have f6:∀ (o:Option V) (H':Hp) (s':KM),Inv Y [] (σ++[o]) H' s'->Inv X pins σ H' s':=λo H' s' I'=>by
  have bs:=I'.base;rw[LY,Kt,LZ,Ku] at bs;refine I3.call' (ch:=fp) ?_ bs ?_ I'.bare ?_
  .have:=I'.os;rw[Ku] at this;exact this
  .have:=I'.hok;rw[yP,yW] at this;exact this
  .exact λb hb=>⟨(o8 b hb).2.2.2.1,(o8 b hb).2.1,(o8 b hb).2.2.2.2.1,(o8 b hb).2.2.2.2.2⟩
 have q9:Ra (Qr X.prog X.w) X.A (.compLoop (.ListComp f8 [⟨.Name x px,iter,i9,0⟩] scope pos) 0 (.ref it) (.ref s2.heap.objs.size) (Ry scope cl (s2.heap.push {cls:= .type "list",data:= .seq ([]:List KB).toArray}).objs.size X.env))
   (compPost (Qr X.prog X.w) X.A X.xe (be (Q3 (.Name y py) X.env)) (λ_ s'=>SP X pins DE .next s') (.ref s2.heap.objs.size) (s2.heap.push {cls:= .type "list",data:= .seq ([]:List KB).toArray}).objs.size)
   {s2 with heap:=h₁,toks:=s2.toks+([]:List (IT × KB)).length}:=by
  refine qD (λn s'=>∃ i o H',Inv Y [] (σ++[o]) H' s'/\tn i s'.heap/\(∀ b∈fp,H' b=z7)/\W i n H') ?_ m0 ⟨0,z7,_,I4,T.keep _ _ _ st (λb hb ob e=>kp b ob (Heap.get?_push_of_some _ e)),λb hb=>(o8 b hb).1,w0⟩;rintro n s3 ⟨i,o,H3,I5,t3,f3,w3⟩;rcases step i n H3 w3 with⟨stop,q⟩|⟨go,q⟩
  .have dn:=T.done Y yP yW yK yC i [] s3 _ H3 (λ_ _=>False) I5 (h_ f3) t3 stop;rw[yA] at dn;refine thn dn λr s4 c7=>?_;obtain⟨hr,I6⟩:=c7;subst hr;obtain⟨m,hn,_⟩:=I6.loc;have z_:=I6.free;rw[r_] at hn z_;have IX:=f6 o H3 s4 I6;show Qs _ X.A (Q3 (.Name y py) X.env (.ref s2.heap.objs.size)) _ _ s4;refine Q6 (oI IX hN Jy hy (v:= .ref s2.heap.objs.size) rfl (λs5 I7 ⟨a,hsb,ha⟩=>?_) hf);have Ky:(s2.heap.push {cls:= .type "list",data:= .seq ([]:List KB).toArray}).objs.size≠X.env.locals:=FO I3.lt;have Kz:∀ z c,X.env.cells.lookup z=be c->c≠(s2.heap.push {cls:= .type "list",data:= .seq ([]:List KB).toArray}).objs.size:=λz c e=>by
    obtain⟨vv,oo,ho,_⟩:=I3.cell z c e;exact EZ (Heap.lt_size ho)
   have L9:(s2.heap.push {cls:= .type "list",data:= .seq ([]:List KB).toArray}).objs.size≠a:=by
    rcases ha with e|e
    .rw[e];exact Ky
    .exact λz=>Kz y a e z.symm
   refine⟨m,hn.sameBut hsb L9,λh' JU=>⟨_,H3,I7.turned (t':=s5.toks) (it:=(s2.heap.push {cls:= .type "list",data:= .seq ([]:List KB).toArray}).objs.size) (λb ob hb e=>(JU.2 b hb).trans e) z_ Ky (.inr I3.sz) Kz (λp hp=>?_),q⟩⟩;exact EZ (Heap.lt_size (I3.pin p hp).1)
  .have Kx:=T.item Y yP yW yK yC i [] s3 _ H3 (λ_ _=>False) I5 (h_ f3) t3 go;rw[yA] at Kx;refine thn Kx λr s4 c7=>?_;obtain⟨u,hr,h4⟩:=c7;subst hr;refine thn h4 λ_ s5 c7=>?_;obtain⟨xv,H5,I6,r5,y5,n9,Ke⟩:=c7;have L5:=I6.pinned (h_ Ke) (T.obj _ _ n9);rw[<- yE];refine Q6 (gc L5 L4 Kv (.inl v4) r5 (λs6 I7=>?_) (.inr v4));have Jw:(σ++[o]).set X.N.length (be xv)=σ++[be xv]:=by
    rw[<- I.len];simp
   rw[Jw] at I7;have tv:=L3 _ s6 _ H5 _ I7 (q xv H5 y5);rw[yP,yW,yA,yX] at tv;refine thn tv λb L6 c7=>?_;obtain⟨L7,B_,qb⟩:=c7;cases b with
   |false=>
    obtain⟨m',hm,w7⟩:=qb;refine⟨m',hm,i+1,be xv,_,B_.unpinned,T.keep _ _ _ n9 λb hb ob e=>(B_.pin (b,ob) (E7 _ (E7 _ (cG hb e)))).1,λb hb=>?_,w7⟩;obtain⟨ob,e,d⟩:=T.obj _ _ n9 b hb;exact(B_.pin (b,ob) (E7 _ (E7 _ (cG hb e)))).2.1
   |true=>
   have ev:=L0 _ L6 _ L7 _ B_ qb;rw[yP,yW,yA,yX] at ev;refine thn ev λyv s7 c7=>?_;obtain⟨y,H6,I8,ry,vs,L8,b_,m',hm,w7⟩:=c7;have ap:=gm (X:=Y) _ s7 _ H6 (.ref s2.heap.objs.size) [y] (.ref s2.heap.objs.size) [yv] (λ_ H7=>H7=upd H6 s2.heap.objs.size (.lst (vs++[y]))) I8 rfl (.cons ry .nil) ⟨_,vs,y,rfl,rfl,L8,b_,rfl⟩;rw[yP,yW,yA,yX] at ap;refine thn ap λ_ s8 c7=>?_;obtain⟨_,H7,I9,_,e7⟩:=c7;subst e7;refine⟨m',hm,i+1,be xv,_,I9.unpinned,T.keep _ _ _ n9 λb hb ob e=>(I9.pin (b,ob) (E7 _ (E7 _ (cG hb e)))).1,λb hb=>?_,w7⟩;obtain⟨ob,e,d⟩:=T.obj _ _ n9 b hb;exact(I9.pin (b,ob) (E7 _ (E7 _ (cG hb e)))).2.1
 exact RL q9 (T.self _ _ _ _ _ (T.keep _ _ _ st (λb hb ob e=>kp b ob (Heap.get?_push_of_some _ e))) q9)
end
end L2
namespace My
def RepS.snoc{K:Ex}{B F H:Hp}{z:SD}{s:L2.St}{d:D}{v:V}(h:RepS K B F H z s)(r:Rep K F d v):RepS K B F H (z++[be d]) (s++[be v]):=by
 have no:=r.noown;have get:∀ {j:Nat} {x:D},(z++[be d])[j]?=be (be x)->(j<z.length/\z[j]?=be (be x))\/(j=z.length/\x=d):=λ{j x} e=>by
  rcases G6 j z.length with q|q
  .rw[Fu q] at e;exact .inl ⟨q,e⟩
  .rw[FC q] at e;cases hz:j - z.length with
   |zero=>rw[hz] at e;simp at e;exact .inr ⟨by lia,e.symm⟩
   |succ n=>rw[hz] at e;simp at e
 have lt:∀ {j:Nat},j<z.length->(s++[be v])[j]?=s[j]?:=λ{j} q=>Fu (by rw[h.len];exact q);refine⟨by rw[EU,EU,h.len];rfl,λj x e nx=>?_,λj ds e=>?_,λj k dj dk a e1 e2 e3 e4=>?_⟩
 .rcases get e with⟨q,e⟩|⟨q,rfl⟩
  .rw[lt q];exact h.val j x e nx
  .exact⟨v,by rw[q,FC (by rw[h.len];exact EK _),h.len];simp,r⟩
 .rcases get e with⟨q,e⟩|⟨q,e⟩
  .rw[lt q];exact h.own j ds e
  .rw[<- e] at no;cases no
 .rcases get e1 with⟨q,e1⟩|⟨q,e1⟩
  .rcases get e2 with⟨q2,e2⟩|⟨q2,e2⟩
   .rw[lt q] at e3;rw[lt q2] at e4;exact h.apart j k dj dk a e1 e2 e3 e4
   .rw[<- e2] at no;cases no
  .rw[<- e1] at no;cases no
def okB:Bool->Bool->Prop->Prop->Prop
 |_,true,A,_=>A
 |false,false,_,B=>B
 |true,false,_,_=>False
def okF{b:Bool}{A B:Prop}(h1:b=true->A)(h2:b=false->B):okB false b A B:=by
 cases b
 .exact h2 rfl
 .exact h1 rfl
def cmpG(nf:Bool)(tt:TDT)(te:TD)(z:SD)(R:D->Prop)(items:List D):Prop:=items.length<=100000/\∃ W:Nat->List D->Prop,W 0 []/\(∀ k x ys,items[k]?=be x->(nf=true->ys.length=k)->W k ys->tt (z++[be x]) λb=>okB nf b (te (z++[be x]) λy=>W (k+1) (ys++[y])) (W (k+1) ys))/\∀ ys,(nf=true->ys.length=items.length)->W items.length ys->R (.lst ys)
def cmpF(tt:TDT)(te:TD)(z:SD)(R:D->Prop)(items:List D):Prop:=items.length<=100000/\∃ W:Nat->List D->Prop,W 0 []/\(∀ k x ys,items[k]?=be x->W k ys->tt (z++[be x]) λb=>okB false b (te (z++[be x]) λy=>W (k+1) (ys++[y])) (W (k+1) ys))/\∀ ys,W items.length ys->R (.lst ys)
def cmpP(te:TD)(z:SD)(R:D->Prop)(items:List D):Prop:=items.length<=100000/\∃ W:Nat->List D->Prop,W 0 []/\(∀ k x ys,items[k]?=be x->ys.length=k->W k ys->te (z++[be x]) λy=>W (k+1) (ys++[y]))/\∀ ys,ys.length=items.length->W items.length ys->R (.lst ys)
def jR(ti:TDI)(te:TD):TD:=λz R=>ti z (cmpP te z R)
def qF(ti:TDI)(tt:TDT)(te:TD):TD:=λz R=>ti z (cmpF tt te z R)
def dT1:TDT:=λ_ R=>R true
abbrev DIf(X:Cx)[Jx](i9:List Qo)(t:TDT):Prop:=PIf X i9 (lT X.K t)
variable{X:Cx}
def gB[Jx]:DIf X [] dT1:=pif_nil.anti λs H Q q=>by
 obtain⟨B,F,z,kf,rs,R,h1,h2⟩:=q;exact h2 true F H (Grow.refl kf.fh) h1
def qG[Jx]{c:Qo}{t:TDT}(h:DT X c t):DIf X [c] t:=yb h
structure ItIs(K:Ex)(J:It)(F1 H1:Hp)(items:List D):Prop where
 go:∀ k F' H',Grow F1 H1 F' H'->k<items.length->J.go k H'
 yld:∀ k F' H' x H'',Grow F1 H1 F' H'->k<items.length->J.yld k H' x H''->H''=H'/\∃ d,items[k]?=be d/\Rep K F' d x
 stop:∀ F' H',Grow F1 H1 F' H'->J.stop items.length H'
def ItOk[Jx](K:Ex)(wi:TI)(ti:TDI):Prop:=∀ {s:L2.St} {H B F:Hp} {z:SD} {P:List D->Prop} {Q:It->Hp->Prop},Kept B Jx.F0 F H->RepS K B F H z s->ti z P->(∀ items J F1 H1,Grow F H F1 H1->P items->ItIs K J F1 H1 items->Q J H1)->wi s H Q
section
variable {X:Cx}
variable{K:Ex}{H:Hp}{z:SD}{s:L2.St}{R:D->Prop}{items:List D}
def qH[Jx]{B F F1 H1:Hp}{Q:VK}{nf:Bool}{tt:TDT}{te:TD}{J:It}(kf:Kept B Jx.F0 F H)(g1:Grow F H F1 H1)(rs:RepS K B F H z s)(h2:∀ D ys us F' H',H D=z7->F' D=z7->Grow F H F' H'->H' D=be (.lst us)->Reps K F' ys us->R (.lst ys)->Q (.ref D) H')
    (it:ItIs K J F1 H1 items) (hd:cmpG nf tt te z R items):
    ∀ D,H1 D=z7->∃ W:Nat->Nat->Hp->Prop,(∃ m,W 0 m (upd H1 D (.lst [])))/\∀ i m H,W i m H->
      (J.stop i H/\Q (.ref D) H)\/(J.go i H/\∀ x H',J.yld i H x H'->lT K tt (s++[be x]) H' λb H1=>if b=true then lE K te (s++[be x]) H1 λy H''=>∃ vs,H'' D=be (.lst vs)/\vs.length<sizeLine/\∃ m',m'<m/\W (i+1) m' (upd H'' D (.lst (vs++[y]))) else ∃ m',m'<m/\W (i+1) m' H1):=by
  intro D hD;obtain⟨hz,W,w0,d5,out⟩:=hd;have OO:F1 D=none:=g1.fh.free hD;have hH:H D=none:=g1.hh.free hD;refine⟨λk m H'=>m=items.length - k/\k<=items.length/\∃ F' ys us,Grow F1 H1 F' H'/\H' D=be (.lst us)/\F' D=z7/\Reps K F' ys us/\(ys.length<=k/\(nf=true->ys.length=k))/\W k ys,
    ⟨items.length,by simp,Fl _,F1,[],[],⟨Same.refl F1,g1.fh.trans (aS hD _),aS hD _,λb h _=>h⟩,ay,OO,reps_nil.mpr rfl,⟨EK _,λ_=>rfl⟩,w0⟩,?_⟩
  rintro k m H' ⟨rfl,hk,F',ys,us,G,hu,hF,ry,hl,w⟩;by_cases j3:k<items.length
  . refine .inr ⟨it.go k F' H' G j3,λx H'' hy=>?_⟩;obtain⟨e,d,hd,rd⟩:=it.yld k F' H' x H'' G j3 hy;subst e;refine⟨B,F',z++[be d],kf.grow (g1.trans G),(rs.grow (g1.trans G)).snoc rd,_,d5 k d ys hd hl.2 w,λb F3 H3 g3 hb=>?_⟩;have L_:H3 D=be (.lst us):=g3.hh D _ hu;have NE:F3 D=none:=g3.out D hF (by rw[hu];exact λq=>nomatch q);cases b with
    |false=>
      cases nf with
      |true=>exact hb.elim
      |false=>exact⟨items.length - (k+1),by lia,rfl,by lia,F3,ys,us,G.trans g3,L_,NE,ry.mono g3.ff,⟨by lia,λz=>nomatch z⟩,hb⟩
    |true=>
    refine⟨B,F3,z++[be d],(kf.grow (g1.trans G)).grow g3,((rs.grow (g1.trans G)).snoc rd).grow g3,_,(show te _ _ from by cases nf<;>exact hb),λy yv F2 H2 g2 hw rv=>?_⟩;have OP:H2 D=be (.lst us):=g2.hh D _ L_;have Jz:F2 D=none:=g2.out D NE (by rw[L_];exact λq=>nomatch q);have PX:us.length<=k:=by rw[ry.length];exact hl.1
    refine⟨us, OP, by   have:(100000:Nat)<sizeLine:=by decide
                        lia,items.length - (k+1),by lia,rfl,by lia,F2,ys++[y],us++[yv],?_,ay,Jz,((ry.mono g3.ff).mono g2.ff).append (eH rv),⟨by simp;lia,λz=>by simp[hl.2 z]⟩,hw⟩
    have GG:=(G.trans g3).trans g2;refine⟨GG.ff,λb o e=>?_,λb o e=>?_,GG.out⟩
    . have ne:b≠D:=λq=>by rw[q,Jz] at e;cases e
      rw[aj ne];exact GG.fh b o e
    . have ne:b≠D:=λq=>by rw[q,hD] at e;cases e
      rw[aj ne];exact GG.hh b o e
  . have ek:k=items.length:=by lia
    subst ek;exact .inl ⟨it.stop F' H' G,h2 D ys us F' H' hH hF (g1.trans G) hu ry (out ys hl.2 w)⟩
def yd{F F' H':Hp}{D:KF}{us:List V}(GG:Grow F H F' H')(hu:H' D=be (.lst us))(hF:F' D=z7)(hH:H D=z7):Grow F H (upd F' D (.lst us)) H':=by
 refine⟨GG.ff.trans (aS hF _),λb o e=>?_,GG.hh,λb h1 h3=>?_⟩
 .by_cases hb:b=D
  .subst hb;rw[ay] at e;cases e;exact hu
  .rw[aj hb] at e;exact GG.fh b o e
 .have ne:b≠D:=λq=>h3 (q ▸ hH);rw[aj ne];exact GG.out b h1 h3
variable {f8 iter:Qo}{i9:List Qo}{x:IT}{px pos:QC}{scope:QS}{ti te:TD}{tt:TDT}{wi:TI}{C_:TDI}
def gC[Jx]{nf:Bool}{G:SD->(D->Prop)->List D->Prop}(hG:∀ z R items,G z R items->cmpG nf tt te z R items)(hI:ItOk K wi C_){Q:VK}(q:lE K (λz R=>C_ z (G z R)) s H Q):fE wi (lT K tt) (lE K te) s H Q:=by
 obtain⟨B,F,z,kf,rs,R,h1,h2⟩:=q;exact hI kf rs h1 λitems J F1 H1 g1 hg it=>qH kf g1 rs (λD ys us F' H' hH hF GG hu ry hR=>h2 (.lst ys) (.ref D) _ H' (yd GG hu hF hH) hR (rep_lst.mpr ⟨D,us,rfl,ay,ry.mono (aS hF _)⟩)) it (hG _ _ _ hg)
def cmpP.g(h:cmpP te z R items):cmpG true dT1 te z R items:=
 let ⟨hz,W,w0,d5,out⟩:=h
 ⟨hz,W,w0,λk x ys e l w=>d5 k x ys e (l rfl) w,λys l w=>out ys (l rfl) w⟩
def cmpF.g(h:cmpF tt te z R items):cmpG false tt te z R items:=
 let ⟨hz,W,w0,d5,out⟩:=h
 ⟨hz,W,w0,λk x ys e _ w=>d5 k x ys e w,λys _ w=>out ys w⟩
def itL[Jx]:ItOk K (oX K (lE K ti)) (dItL ti):=λ{s H B F z P Q} kf rs h1 h2=>by
 refine⟨B,F,z,kf,rs,_,h1,λd v F1 H1 g1 hd rd=>?_⟩;have key:∀ (items:List D) (p:KF) (vs:List V),SqL K F1 p vs->Reps K F1 items vs->P items->∃ a,V.ref p= .ref a/\(∃ xs,SqL K H1 a xs)/\Q (Itl K a) H1:=λitems p vs hq rr hd=>by
  refine⟨p,rfl,⟨vs,g1.fh.seq hq⟩,h2 items _ F1 H1 g1 hd ⟨λk F' H' G hk=>?_,λk F' H' x H'' G hk hy=>?_,λF' H' G=>?_⟩⟩
  .have Ma:k<vs.length:=by rw[rr.length];exact hk
   exact⟨vs,vs[k],G.hh.seq (g1.fh.seq hq),by simp[Ma]⟩
  .obtain⟨e,hy⟩:=hy;obtain⟨d,e2,r2⟩:=rr.get' (hy vs (G.hh.seq (g1.fh.seq hq)));exact⟨e,d,e2,r2.mono G.ff⟩
  .exact⟨vs,G.hh.seq (g1.fh.seq hq),by rw[rr.length];exact EK _⟩
 split at hd
 .obtain⟨p,vs,rfl,hq,rr⟩:=rep_lst.mp rd;exact key _ p vs (SqL.of hq) rr hd
 .obtain⟨p,vs,rfl,hq,rr⟩:=rep_rol.mp rd;exact key _ p vs hq rr hd
 .exact hd.elim
def itR[Jx]:ItOk K (oZ (gk (lE K ti) tNil)) (dItR ti):=λ{s H B F z P Q} kf rs h1 h2=>by
 refine⟨B,F,z,kf,rs,_,h1,λd v F1 H1 g1 hd rd=>?_⟩;split at hd
 .rename_i n;obtain⟨⟨b1,b2⟩,hd⟩:=hd;have hl:((EM n.toNat).map λk=>D.int ((k:Nat):Int)).length=n.toNat:=by simp
  refine⟨n,by rw[rep_int.mp rd],by lia,b2,h2 _ _ F1 H1 g1 hd ⟨λk F' H' G hk=>by rw[hl] at hk;exact hk,λk F' H' x H'' G hk hy=>?_,λF' H' G=>by show n.toNat<=_;rw[hl];exact EK _⟩⟩;rw[hl] at hk;obtain⟨e,rfl⟩:=hy;exact⟨e,.int (k:Int),by simp[hk],rep_int.mpr (by congr 1;lia)⟩
 .exact hd.elim
def jS[Jx]{p1 p2:QC}(hc:X.calm=true)(S:CompScope X scope x)(hm:X.mg "range"=z7)(hi:WDE X iter ti)(he:∀ cl s₀ H₀ fp,WDE (bD X scope cl x s₀ H₀ fp) f8 te)(hg:autoParam (Gl X "range") zA0)
  (hs:autoParam (∀ y,zFS X (.Call (.Name "range" p1) [iter] [] p2) y) zA2) (j6:autoParam (zSE X iter []) zA0) (d9:autoParam (Qv [iter] X.env=[(false,Qx iter X.env)]) zA0):WDE X (.ListComp f8 [⟨.Name x px,.Call (.Name "range" p1) [iter] [] p2,[],0⟩] scope pos) (jR (dItR ti) te):=⟨have hi:=hi.out;have he:=λcl s₀ H₀ fp=>(he cl s₀ H₀ fp).out;(pe_comp hc S (fv hg hm (bg hi pa_nil j6) d9) (λ_ _ _ _=>gB) he hs).anti λs H Q q=>gC (λ_ _ _=>cmpP.g) itR q⟩
def ye[Jx]{E:Ends}{ix:Nat}(hI:ItOk K wi C_)(q:lS K (dSet ix (jR C_ te)) E s H):tAsg (fE wi (lT K dT1) (lE K te)) (fu ix) E s H:=by
 obtain⟨B,F0,F,z,k,rs,ED,⟨P,h,j⟩,e⟩:=q;exact gC (λ_ _ _=>cmpP.g) hI ⟨B,F,z,k.kf,rs,P,h,λd v F' H' g hd rd=>e.nx _ _ F' H' (k.grow g) (j d hd) ((rs.grow g).set rd)⟩
def yf[Jx](ix:Nat){y:IT}{py i6 p1 p2:QC}(hc:X.calm=true)(S:CompScope X scope x)(hN:X.N.Nodup)(hm:X.mg "range"=z7)(hi:WDE X iter ti)(he:∀ cl s₀ H₀ fp,WDE (bD X scope cl x s₀ H₀ fp) f8 te)(hg:autoParam (Gl X "range") zA0)(Jy:autoParam (X.N[ix]?=be y) zA0)(hy:autoParam (Loc X.env.scope y) zA4)
  (hf:autoParam (zFN X y) zA3) (v3:autoParam (QF (.ListComp f8 [⟨.Name x px,.Call (.Name "range" p1) [iter] [] p2,[],0⟩] scope pos) (be (.Name y py)) i6.line X.env=pure true) zA0)
  (hs:autoParam (∀ y,zFS X (.Call (.Name "range" p1) [iter] [] p2) y) zA2) (j6:autoParam (zSE X iter []) zA0) (d9:autoParam (Qv [iter] X.env=[(false,Qx iter X.env)]) zA0):WDS X (.Assign [.Name y py] (.ListComp f8 [⟨.Name x px,.Call (.Name "range" p1) [iter] [] p2,[],0⟩] scope pos) i6) (dSet ix (jR (dItR ti) te)):=⟨have hi:=hi.out;have he:=λcl s₀ H₀ fp=>(he cl s₀ H₀ fp).out;(jQ hc S (fv hg hm (bg hi pa_nil j6) d9) (λ_ _ _ _=>gB) he hN Jy hy hf v3 hs).anti λE s H q=>ye itR q⟩
end
def eJ(scope fsc:QS):List (IT × QZ):=scope.names.map λ(n,k)=>if(k==NameKind.free && fsc.kind== .function && fsc.names.lookup n==be .cell) then(n,NameKind.cell) else(n,k)
def visB(l:List (IT × QZ))(n:IT):Bool:=l.lookup n==be .local||l.lookup n==be .cell||l.lookup n==be .free
def cw(scope fsc:QS)(N:List IT)(x:IT):Bool:=
 scope.kind== .function && scope.names.all (λy=>!(y.2== .cell)) && scope.names.all (λy=>!(y.2== .local)||scope.names.lookup y.1==be .local) && scope.names.lookup x==be .local &&
 scope.names.all (λy=>!(y.2== .free)||fsc.names.lookup y.1==be .cell) && N.all (λn=>decide (n=x)||!visB (eJ scope fsc) n||scope.names.any (λy=>decide (y=(n,NameKind.free)))) && !visB (eJ scope fsc) "" &&
 scope.names.all (λy=>!(y.2== .free)||(eJ scope fsc).lookup y.1==be .cell) && decide (N.map (λn=>if n=x then("":IT) else n)++[x]).Nodup
def qI{l:List (IT × QZ)}{n:IT}(h:l.lookup n=be .local\/l.lookup n=be .cell\/l.lookup n=be .free):visB l n=true:=by
 unfold visB;rcases h with h|h|h<;>rw[h]<;>rfl
def compScope{scope:QS}{x:IT}(h:cw scope X.env.scope X.N x=true):CompScope X scope x:=by
 unfold cw at h;simp only[Ff] at h;obtain⟨⟨⟨⟨⟨⟨⟨⟨h1,h2⟩,h3⟩,h4⟩,h5⟩,h6⟩,h7⟩,h8⟩,h9⟩:=h;have er:(R6 scope X.env).names=eJ scope X.env.scope:=rfl;refine⟨by simpa using h1,λy hy=>?_,λy hy e=>?_,by simpa using h4,λn hn=>?_,λn hn ne v=>?_,λv=>?_,λn hn=>?_,of_decide_eq_true h9⟩
 .have:=FI.mp h2 y hy;simpa using this
 .have:=FI.mp h3 y hy;rw[e] at this;simpa using this
 .have:=FI.mp h5 _ hn;show X.env.scope.names.lookup n=be .cell;simpa using this
 .have:=FI.mp h6 n hn;have v':visB (eJ scope X.env.scope) n=true:=qI v;rw[v'] at this;simp[ne] at this;exact this
 .have v':visB (eJ scope X.env.scope) ""=true:=qI v;rw[v'] at h7;cases h7
 .have:=FI.mp h8 _ hn;rw[er];simpa using this
def putD(f:IT)(v:D):List (IT × D)->List (IT × D)
 |[]=>[(f,v)]
 |(g,x)::r=>if g=f then(g,v)::r else(g,x)::putD f v r
def RepF.put{K:Ex}{F:Hp}{f:IT}{d:D}{v:V}(r:Rep K F d v):∀ {fs:List (IT × D)} {ws:List (IT × V)},RepF K F fs ws->RepF K F (putD f d fs) (putF f v ws)
 |[],ws,h=>by
  rw[repf_nil.mp h];exact repf_cons.mpr ⟨v,[],rfl,r,repf_nil.mpr rfl⟩
 |(g,x)::fs,ws,h=>by
  obtain⟨w,JA,rfl,h1,h2⟩:=repf_cons.mp h;unfold putD putF;by_cases e:g=f
  .rw[if_pos e,if_pos e];exact repf_cons.mpr ⟨v,JA,rfl,r,h2⟩
  .rw[if_neg e,if_neg e];exact repf_cons.mpr ⟨w,_,rfl,h1,RepF.put r h2⟩
def RepF.length{K:Ex}{F:Hp}:∀ {fs:List (IT × D)} {ws:List (IT × V)},RepF K F fs ws->ws.length=fs.length
 |[],ws,h=>by rw[repf_nil.mp h];rfl
 |(g,x)::fs,ws,h=>by
  obtain⟨w,JA,rfl,h1,h2⟩:=repf_cons.mp h;rw[EN,EN,RepF.length h2]
def ClsA(K:Ex)(x f:IT):Prop:=∃ C,nsIn K Pi x=be (be (.ref C))/\Cls K C/\NoAttr K C f
section
variable {X:Cx}{a b c e:Qo}{ta tb tc te:TD}{pos:QC}
def dFld(x f:IT)(te:TD):TD:=λz R=>te z λd=>match d with| .obj y fs=>y=x/\∃ d,fs.lookup f=be d/\R d|_=>False
variable{x:IT}
def fF[Jx]{f:IT}(h:ClsA X.K x f)(he:WDE X e te)(hb:autoParam (Qy e f X.env (Qx e X.env)=Qx e X.env) zA0):WDE X (.Attribute e f pos) (dFld x f te):=⟨have he:=he.out;(pA he hb).anti λs H Q q=>by
 obtain⟨C,hn,hc,hf⟩:=h;obtain⟨B,F,z,kf,rs,R,h1,h2⟩:=q;have fh:=kf.fh;refine⟨B,F,z,kf,rs,_,h1,λd u F1 H1 g1 hx rx=>?_⟩;split at hx
 .obtain⟨rfl,d,hl,hR⟩:=hx;obtain⟨a,C',dx,vs,rfl,l8,q,r⟩:=rep_obj.mp rx;rw[hn] at l8;cases l8;obtain⟨v,l,rv⟩:=r.look hl;exact⟨a,C,dx,vs,v,rfl,g1.fh _ _ q,hc,hf,l,h2 d v F1 H1 g1 hR rv⟩
 .exact hx.elim⟩
def qJ[Jx]{d:D}{v:V}{u:KB}(hm:X.mg x=be u)(r:RelV v u)(rd:∀ H,Rep X.K H d v)(hg:autoParam (Gl X x) zA0)(hd:autoParam (zND x) zA1):DE X (.Name x pos) (dC d):=de_c (uq hg hm r hd) rd
def eK[Jx]{i:Int}(h:∃ t,X.mg x=be (.int i t))(hg:autoParam (Gl X x) zA0)(hd:autoParam (zND x) zA1):WDE X (.Name x pos) (dC (.int i)):=⟨by
 obtain⟨t,h⟩:=h;exact qJ (v:= .int i) h ⟨t,rfl⟩ (λ_=>rep_int.mpr rfl) hg hd⟩
def eL[Jx]{y:IT}(h:∃ t,X.mg x=be (.str y t))(hg:autoParam (Gl X x) zA0)(hd:autoParam (zND x) zA1):WDE X (.Name x pos) (dC (.str y)):=⟨by
 obtain⟨t,h⟩:=h;exact qJ (v:= .str y) h ⟨t,rfl⟩ (λ_=>rep_str.mpr rfl) hg hd⟩
structure ClsI(K:Ex)(mg:Str->Option KB)(x:Str)(C:KF):Prop where
 ns:nsIn K Pi x=be (be (.ref C))
 mg:mg x=be (.ref C)
 cl:Cls K C
 ha:ES K (.ref C) "__class__"=be (be (.builtin "object.__class__"))
 hn:specialIn K (.builtin "object.__class__") "__get__"=be (be (.builtin "getset_descriptor.__get__"))
 htk:takesIn K (.builtin "object.__class__")=be true
 hm:FW K C (.type "object")=be true
 self:kitOne K (.ref C) (.ref C)=be true
end
abbrev SiD:=List D->(List (IT × D)->Prop)->Prop
def lSi(K:Ex)(C:KF)(S:SiD):Sp:=λvs H Q _=>∃ a dx us H1 F ds,vs= .ref a::us/\H=upd (upd H1 dx (.own a)) a (.ins C dx [])/\H1 a=z7/\H1 dx=z7/\dx≠a/\Same F H1/\Reps K F ds us/\
 ∃ R:List (IT × D)->Prop,S ds R/\∀ fs ws D' F' H',Grow F H1 F' H'->R fs->H' a=be (.ins C D' ws)->F' a=z7->RepF K F' fs ws->Q .non H'
def CalM(P:P3)(w:Qt)(K:Ex)(mg:IT->Option KB)(base:Heap)(n:Nat)(x:IT)(ps:List IT)(S:SiD):Prop:=
 ∃ C f fd,nsIn K Pi x=be (be (.ref C))/\mg x=be (.ref C)/\Mk K C f/\FnOk P w K mg base (Exc.CX1 P w) n f fd ps (lSi K C S)/\Binds K fd ps []
def yg(x:IT)(S:SiD)(t:TDA):TD:=λz R=>t z λds=>S ds λfs=>R (.obj x fs)
def jT[Jx]{pos:QC}{n m:Nat}{ps:List IT}{S:SiD}{x:IT}{p:QC}{e:Qo}{es:List Qo}{t:TDA}(M:CalM X.prog X.w X.K X.mg X.base n x ps S)(hr:Room m X.A)(ha:WDA X (e::es) t)(hg:autoParam (Gl X x) zA0)(hn:autoParam (n+1<=m) zA1)(e8:autoParam (zND x) zA1)
  (he:autoParam (zSE X e es) zA0) (c_:autoParam (zPL X pos es) zA0):WDE X (.Call (.Name x p) (e::es) [] pos) (yg x S t):=⟨by
 have ha:=ha.out;obtain⟨C,f,fd,hns,m6,mk,F,hb⟩:=M;refine(jA mk F (hr.mono hn) hg m6 hb .nil fA ha e8 he c_).anti λs H Q q=>?_;obtain⟨B,F,z,kf,rs,R,h1,h2⟩:=q;have fh:=kf.fh;refine⟨B,F,z,kf,rs,_,h1,λds vs F1 H1 g1 hx rx=>?_⟩;intro a dx ha v5 k8;refine⟨a,dx,vs,H1,F1,ds,by rw[Ft],rfl,ha,v5,k8,g1.fh,rx,_,hx,λfs ws D' F' H' g hR gt i_ rf=>⟨rfl,?_⟩⟩;have s1:Same F' (upd F' a (.ins C D' ws)):=aS i_ _;refine h2 (.obj x fs) (.ref a) (upd F' a (.ins C D' ws)) H' ⟨(g1.ff.trans g.ff).trans s1,λb o q=>?_,g1.hh.trans g.hh,λb q1 q2=>?_⟩ hR (rep_obj.mpr ⟨a,C,D',ws,rfl,hns,ay,RepF.mono s1 fs ws rf⟩)
 .by_cases hb:b=a
  .subst hb;rw[ay] at q;cases q;exact gt
  .rw[aj hb] at q;exact g.fh b o q
 .by_cases hb:b=a
  .subst hb;exact absurd (g1.hh.free ha) q2
  .rw[aj hb];exact(g1.trans g).out b q1 q2⟩
abbrev TID:=SD->List (IT × D)->(List (IT × D)->Prop)->Prop
def lI(K:Ex)[J:Jx](x:IT)(t:TID):TS:=λE σ H=>∃ C a dx ws F z fs,nsIn K Pi x=be (be (.ref C))/\σ[0]?=be (be (.ref a))/\H a=be (.ins C dx ws)/\J.B a=z7/\F a=z7/\Kept J.B J.F0 F H/\RepS K J.B F H z σ/\RepF K F fs ws/\
 ∃ R:List (IT × D)->Prop,t z fs R/\∀ p8 JA F' H',Kept J.B J.F0 F' H'->R p8->H' a=be (.ins C dx JA)->F' a=z7->RepF K F' p8 JA->E.nx σ H'
abbrev DI(X:Cx)[Jx](x:IT)(st:List Qq)(t:TID):Prop:=PSs X st (lI X.K x t)
structure WDI(X:Cx)[Jx](x:Str)(st:List Qq)(t:TID):Prop where
 out:DI X x st t
section
variable {X:Cx}{x f:IT}{e:Qo}{te:TD}{pos d6 p:QC}{rest:List Qq}{tr:TID}
def qK:TID:=λ_ fs R=>R fs
def yi(f:IT)(te:TD)(tr:TID):TID:=λz fs R=>te z λd=>fs.length<1000/\tr z (putD f d fs) R
def dI[Jx]:WDI X x [] qK:=⟨pss_nil.anti λE s H q=>by
 obtain⟨C,a,dx,ws,F,z,fs,hn,h0,gt,D_,i_,g,rs,rf,R,hR,k⟩:=q;exact k fs ws F H g hR gt i_ rf⟩
def RepS.other{K:Ex}{B F H:Hp}{z:SD}{σ:L2.St}{a:KF}{o o':HO}(rs:RepS K B F H z σ)(h:H a=be o)(hl:∀ vs,o≠.lst vs):RepS K B F (upd H a o') z σ:=
 ⟨rs.len,rs.val,λi ds e=>by
  obtain⟨b,vs,q1,q2,q⟩:=rs.own i ds e;have ne:b≠a:=by
   rintro rfl;rw[h] at q2;cases q2;exact hl vs rfl
  exact⟨b,vs,q1,by rw[aj ne];exact q2,q⟩,rs.apart⟩
def bH[J:Jx]{ps:QC}{sx:IT}(hA:ClsA X.K x f)(he:WDE X e te)(hr:WDI X x rest tr)(hN:autoParam (X.N[0]?=be sx) zA0)(hv:autoParam (Vis X.env.scope sx) zA5)(hd:autoParam (zND sx) zA1)
  (g6:autoParam (zNC sx) zA1) (hs:autoParam (QF e (be (.Attribute (.Name sx ps) f d6)) pos.line X.env=pure false) zA0):WDI X x (.Assign [.Attribute (.Name sx ps) f d6] e pos::rest) (yi f te tr):=⟨have he:=he.out;have hr:=hr.out;(ft (pB (dB (i:=0) hN hv hd g6) he hs) hr).anti λE s H q=>by
 obtain⟨C,a,dx,ws,F,z,fs,hn,h0,gt,D_,i_,g,rs,rf,R,hR,k⟩:=q;obtain⟨C',l8,hc,hf⟩:=hA;rw[hn] at l8;cases l8;refine⟨_,F,z,g,rs,_,hR,λd v F2 H2 g2 hx rv=>?_⟩;have k2:=g.grow g2;have NF:=g2.hh a _ gt;have Jz:F2 a=none:=g2.out a i_ (by rw[gt];exact λz=>nomatch z);refine⟨.ref a,h0,a,C,dx,ws,rfl,NF,hc,hf,by rw[rf.length];exact hx.1,?_⟩;have OQ:Same F2 (upd H2 a (.ins C dx (putF f v ws))):=λb o q=>by
  have ne:b≠a:=by rintro rfl;rw[Jz] at q;cases q
  rw[aj ne];exact g2.fh b o q
 have IY:Same J.B (upd H2 a (.ins C dx (putF f v ws))):=λb o q=>by
  have ne:b≠a:=by rintro rfl;rw[D_] at q;cases q
  rw[aj ne];exact k2.bh b o q
 exact⟨C,a,dx,putF f v ws,F2,z,putD f d fs,hn,h0,ay,D_,Jz,⟨IY,OQ,k2.f0,k2.out,k2.eb,k2.jf,k2.jo⟩,(rs.grow g2).other NF (λ_ z=>nomatch z),RepF.put rv (RepF.mono g2.ff fs ws rf),R,hx.2,k⟩⟩
end
section
variable {P:P3}{w:Qt}{K:Ex}{mg:IT->Option KB}{base:Heap}
def qL{K:Ex}{B F H:Hp}{z:SD}{σ:L2.St}{v:V}(rs:RepS K B F H z σ):RepS K B F H (z7::z) (be v::σ):=
  ⟨by rw[EN,EN,rs.len],λi d e no=>by
    cases i with
    |zero=>cases e
    |succ i=>exact rs.val i d e no,λi ds e=>by
    cases i with
    |zero=>cases e
    |succ i=>exact rs.own i ds e,λi j di dj a e1 e2 e3 e4=>by
    cases i with
    |zero=>cases e1
    |succ i=>
      cases j with
      |zero=>cases e2
      |succ j=>rw[rs.apart i j di dj a e1 e2 e3 e4]⟩
def Cls.okI{x qual:IT}{st:Qq}{f C:KF}{fd:Qz}{N:List IT}{p0:IT}{ps:List IT}{k:Nat}{S:SiD}(T:Fun K "__init__" qual st f fd)(hb:Binds K fd (p0::ps) [])(F:FnScope (p0::N) (p0::ps) (af st))(len:∀ ds R,S ds R->ds.length=ps.length)
  (hns:nsIn K Pi x=be (be (.ref C))) (m6:mg x=be (.ref C)) (mk:Mk K C f)
  (b9:∀ (cdv:KB) (A:Qu) (outer:List Q4) (s:KM) (H:Hp) (E:XK) (J:Jx),Room k (A.deeper (QD qual (af st) s.heap.objs.size f cdv))->
   ∃ t,DI (cxOf (Exc.CX1 P w) P w K mg base (p0::N) qual (af st) f cdv A outer s H E).nox x (aE st) t/\∀ ds R,S ds R->t (z7::startD N ds) [] R):CalM P w K mg base (k+1) x (p0::ps) S:=by
 refine⟨C,f,fd,hns,m6,mk,Fun.okC T F (λvs H Q E h=>?_) (λcdv A outer s H vs Q E hr h=>?_),hb⟩
 .obtain⟨a,dx,us,H1,F,ds,rfl,_,_,_,_,_,rs,R,h,_⟩:=h;rw[EN,EN,rs.length,len ds R h]
 .obtain⟨a,dx,us,H1,F1,ds,rfl,rfl,ha,v5,k8,fh,rs,R,h,q⟩:=h
  letI:Jx:=⟨H1,F1,λ_ _ _=>False⟩
  obtain⟨t,ht,hq⟩:=b9 cdv A outer s _ E inferInstance hr;have Fa:F1 a=none:=fh.free ha;have hl:L2.start (p0::N) (.ref a::us)=be (.ref a)::L2.start N us:=by
   unfold L2.start;rw[E4,EN,EN,HJ];rfl
  have s1:Same H1 (upd (upd H1 dx (.own a)) a (.ins C dx [])):=(aS v5 _).trans (aS (by rw[aj (Ne.symm k8)];exact ha) _);refine⟨_,ht.nox,C,a,dx,[],F1,z7::startD N ds,[],hns,by rw[hl];rfl,ay,ha,Fa,⟨s1,fh.trans s1,Same.refl F1,λ_ h _=>h,rfl,Same.refl F1,λ_ h _=>h⟩,?_,repf_nil.mpr rfl,R,hq ds R h,λp8 JA F' H' g hR gt i_ rf=>q p8 JA dx F' H' ⟨g.f0,g.fh,g.bh,g.out⟩ hR gt i_ rf⟩;rw[hl];exact qL (dZ rs)
end
section
variable {X:Cx}{a b c e:Qo}{ta tb tc te:TD}{pos:QC}
def jU(t u:TD):TDI:=λz R=>t z λx=>u z λy=>match x,y with| .int i,.int j=>(-(2 ^ 62)<=i/\i<2 ^ 62/\-(2 ^ 62)<=j/\j<2 ^ 62)/\R ((EM (j - i).toNat).map λk=>D.int (i+((k:Nat):Int)))|_,_=>False
def yj[Jx](i:Nat){x:IT}{p p1 p2:QC}{body:List Qq}{NG:TSD}(hp:QQ (Qr X.prog X.w) X.A X.env X.xe)(hc:X.calm=true)(hN:X.N.Nodup)(hm:X.mg "range"=z7)(ha:WDE X a ta)(g7:WDE X b tb)(hb:WDSs X body NG)(hg:autoParam (Gl X "range") zA0)(hi:autoParam (X.N[i]?=be x) zA0)(hx:autoParam (Loc X.env.scope x) zA4)
  (hf:autoParam (zFN X x) zA3) (hs:autoParam (∀ y,zFS X (.Call (.Name "range" p1) [a,b] [] p2) y) zA2) (j6:autoParam (zSE X a [b]) zA0) (JB:autoParam (zSE X b []) zA0) (d9:autoParam (Qv [a,b] X.env=[(false,Qx a X.env),(false,Qx b X.env)]) zA0) (JC:autoParam (Qv [b] X.env=[(false,Qx b X.env)]) zA0):WDS X (.For (.Name x p) (.Call (.Name "range" p1) [a,b] [] p2) body [] pos) (dFor i (jU ta tb) NG):=⟨have ha:=ha.out;have g7:=g7.out;have hb:=hb.out;(dE hp hc (pd hg hm (bg ha (bg g7 pa_nil JB) j6) d9 JC) (gd hN hi hx hf) hb hs).anti λE s H q=>by
 obtain⟨B,F0,F,z,kp,rs,ED,h,e⟩:=q;refine⟨B,F,z,kp.kf,rs,_,h,λd1 v1 F1 H1 g1 h1 r1=>?_⟩;refine⟨B,F1,z,kp.kf.grow g1,rs.grow g1,_,h1,λd2 v2 F2 H2 g2 h2 r2=>?_⟩;split at h2
 .rename_i lo l_;obtain⟨bd,W,w0,d5,out⟩:=h2;have hl:((EM (l_ - lo).toNat).map λk=>D.int (lo+((k:Nat):Int))).length=(l_ - lo).toNat:=by simp
  refine⟨lo,l_,by rw[rep_int.mp r1,rep_int.mp r2],bd,ju (lo:=lo) (n:=(l_ - lo).toNat) (λk s' H'=>∃ F' z',Kept B F0 F' H'/\RepS X.K B F' H' z' s'/\W k z') ⟨F2,z,(kp.grow g1).grow g2,(rs.grow g1).grow g2,w0⟩ ?_ ?_⟩
  .rintro k s' H' hk ⟨F',z',k',r',w'⟩;exact⟨B,F0,F',_,k',r'.set (d:= .int (lo+(k:Int))) (rep_int.mpr rfl),_,d5 k (.int (lo+(k:Int))) z' (by simp[hk]) w',⟨λz3 s3 F3 H3 k3 h3 r3=>⟨F3,z3,k3,r3,h3⟩,e.rt,e.nx,λz3 s3 F3 H3 k3 h3 r3=>⟨F3,z3,k3,r3,h3⟩⟩⟩
  .rintro s' H' ⟨F',z',k',r',w'⟩;exact e.nx z' s' F' H' k' (out z' (by rw[hl];exact w')) r'
 .exact h2.elim⟩
def RepS.change[Jx]{K:Ex}{B F0 F H:Hp}{z:SD}{s:L2.St}{i:Nat}{ds Mb:List D}{a:KF}{m8:List V}(rs:RepS K B F H z s)(k:Kept B F0 F H)(ez:z[i]?=be (be (.own ds)))(q1:s[i]?=be (be (.ref a)))(hB:B a=z7)(hF:F a=z7)(r:Reps K F Mb m8):
  Kept B F0 F (upd H a (.lst m8))/\RepS K B F (upd H a (.lst m8)) (z.set i (be (.own Mb))) s:=by
 have RI:∀ {G:Hp},G a=z7->Same G H->Same G (upd H a (.lst m8)):=λ{G} ga gs b o eb=>by
  have ne:b≠a:=λz=>by rw[z,ga] at eb;cases eb
  rw[aj ne];exact gs b o eb
 have r2:=rs.setOwn (i:=i) (a:=a) (vs:=m8) (ds:=Mb) hB hF r (λj dj hj e1 e2=>hj (rs.apart j i dj ds a e1 ez e2 q1));have es:s.set i (be (.ref a))=s:=by
  apply Gm;intro n;by_cases hn:i=n
  .subst hn;rw[FB (E6.mp q1).1,q1]
  .rw[E9 hn]
 rw[es] at r2;exact⟨⟨RI hB k.bh,RI hF k.fh,k.f0,k.out,k.eb,k.jf,k.jo⟩,r2⟩
def Reps.put{K:Ex}{F:Hp}{d:D}{v:V}(r:Rep K F d v):∀ {ds:List D} {vs:List V} (j:Nat),Reps K F ds vs->Reps K F (ds.set j d) (vs.set j v)
 |[],vs,j,h=>by rw[reps_nil.mp h];exact reps_nil.mpr rfl
 |x::ds,vs,0,h=>by
  obtain⟨u,us,rfl,h1,h2⟩:=reps_cons.mp h;exact reps_cons.mpr ⟨v,us,rfl,r,h2⟩
 |x::ds,vs,j+1,h=>by
  obtain⟨u,us,rfl,h1,h2⟩:=reps_cons.mp h;exact reps_cons.mpr ⟨u,_,rfl,h1,Reps.put r j h2⟩
def qM(i:Nat)(te ti:TD):TSD:=λE z=>match z[i]? with
 |some (be (.own ds))=>te z λd=>ti z λy=>match y with| .int k=>∃ j,ixN ds.length k=be j/\E.nx (z.set i (be (.own (ds.set j d))))|_=>False
 |_=>False
def fG[Jx](i:Nat){x:IT}{p1 p2:QC}(he:WDE X e te)(hb:WDE X b tb)(hN:autoParam (X.N[i]?=be x) zA0)(hv:autoParam (Vis X.env.scope x) zA5)(hd:autoParam (zND x) zA1)
  (g6:autoParam (zNC x) zA1)
  (ha:∀ v,Q3 (.Subscript (.Name x p1) b p2) X.env v=(do
   let ov <- Q1 [v] (Qx (.Name x p1) X.env)
   let iv <- Q1 [v,ov] (Qx b X.env)
   Q_ p2
   Q1 [v,ov,iv] (setItem ov iv v)
   release [v,ov,iv] []):=by intro _;rfl)
  (hs:autoParam (RB [.Subscript (.Name x p1) b p2] e pos.line X.env=pure false) zA0) (hw:autoParam (RC [.Subscript (.Name x p1) b p2] e X.env=pure none) zA0)
  (h1:autoParam ((Qw [.Subscript (.Name x p1) b p2] X.env).map (·.2)=[Q3 (.Subscript (.Name x p1) b p2) X.env]) zA0):WDS X (.Assign [.Subscript (.Name x p1) b p2] e pos) (qM i te tb):=⟨have he:=he.out;have hb:=hb.out;(oV he (vf (dB hN hv hd g6) hb wx ha) hs hw h1).anti λE s H q=>by
 obtain⟨B,F0,F,z,k,rs,ED,h,e⟩:=q;unfold qM at h;split at h
 .rename_i ds ez;refine⟨B,F,z,k.kf,rs,_,h,λd v F1 H1 g1 hx rv=>?_⟩;obtain⟨a,vs,q1,q2,q3,q4,q5⟩:=(rs.grow g1).own i ds ez;refine⟨.ref a,q1,B,F1,z,k.kf.grow g1,rs.grow g1,_,hx,λy w F2 H2 g2 hy ry=>?_⟩;split at hy
  .obtain⟨j,ej,hn⟩:=hy;have r2:=(rs.grow g1).grow g2;have k2:=(k.grow g1).grow g2;have Jz:F2 a=none:=g2.out a q4 (by rw[q2];exact λz=>nomatch z);refine⟨a,vs,_,j,rfl,rep_int.mp ry,g2.hh _ _ q2,by rw[q5.length];exact ej,?_⟩;obtain⟨k3,r3⟩:=r2.change k2 ez q1 q3 Jz (Reps.put (rv.mono g2.ff) j (q5.mono g2.ff));exact e.nx _ s F2 _ k3 hn r3
  .exact hy.elim
 .exact h.elim⟩
end
end My
namespace My
open Exc
abbrev XD:=IT->List (IT × D)->Prop
def ErrD(K:Ex)(F:Hp)(x:IT)(fs:List (IT × D))(C:KF)(od:Option KF):Prop:=
 nsIn K Pi x=be (be (.ref C))/\∃ vs,RepF K F fs vs/\((od=z7/\vs=[])\/∃ b,od=be b/\F b=be (.xd vs))
abbrev SpX:=List D->(D->Prop)->XD->Prop
def lSpX(K:Ex)(S:SpX):Sp:=λvs H Q E=>∃ F ds,Same F H/\Reps K F ds vs/\∃ (R:D->Prop) (RX:XD),S ds R RX/\(∀ d v F' H',Grow F H F' H'->R d->Rep K F' d v->Q v H')/\
 ∀ x fs C od F' H',Grow F H F' H'->RX x fs->ErrD K F' x fs C od->E (.ref C) od H'
def Exd(X:Cx)(H:Hp)(s:KM)(e C:KF)(od:Option KF):Prop:=
  H e=z7/\X.s₀.heap.get? e=z7/\(∀ p∈X.pn,p.1≠e)/\
  ((∃ sl vs,s.heap.get? e=be ⟨.ref C,od,.fields vs,sl⟩/\vs[1]?=be .none)\/
    ∃ T,ExAt s.heap e C od T .none/\X.s₀.heap.get? T=z7/\H T=z7/\∀ p∈X.pn,p.1≠T)
def XOk(X:Cx)[J:Jx]:Prop:=∀ (σ:L2.St) (z:SD) (F H:Hp) (s:KM) (e C:KF) (od:Option KF) (x:IT) (fs:List (IT × D)),Inv X [] σ H s->Kept J.B J.F0 F H->RepS X.K J.B F H z σ->J.RX z x fs->ErrD X.K F x fs C od->Exd X H s e C od->X.xe (.ref e) s
variable{X:Cx}{pins:List (KF × QJ)}{σ:L2.St}{H:Hp}{s:KM}
def Inv.nopins(I:Inv X pins σ H s):Inv X [] σ H s:=I.pins_of λp hp=>by cases hp
section
variable {X:Cx}{k:Nat}{f:KF}{fd:Qz}{ps:List IT}{sp:Sp}{E:XK}
def gD{pins:List (KF × QJ)}{σ:L2.St}{H:Hp}{s:KM}{Q:VK}{us:List KB}{vs:List V}(F:FnOk X.prog X.w X.K X.mg X.base (CX1 X.prog X.w) k f fd ps sp)(hr:Room k X.A)(hb:Binds X.K fd ps [])
  (hx:∀ e s',CX1 X.prog X.w X.stack H s E e s'->X.xe e s') (I:Inv X pins σ H s) (r:Vals vs us) (h:sp vs H Q E):Qs (Qr X.prog X.w) X.A (call (.ref f) us) (EP X pins σ Q) X.xe s:=by
 have hl:us.length=ps.length:=by rw[<- L2.Vals.length r];exact F.len _ _ _ _ h
 have g7:=hb s us I.kIn (by rw[Ft];exact hl);rw[Ft] at g7;refine Q9 (Q2 (F.run X.A X.stack s H ⟨us,[]⟩ us vs Q E hr I.env0 g7 r h) λr s' hq=>?_);cases r with
 |error e=>exact hx e s' hq
 |ok fl=>
  cases fl with
  |ret u=>exact I.after hq
  |next=>exact False.elim hq
  |brk=>exact False.elim hq
  |cont=>exact False.elim hq
end
variable{b:KF}
def cR(I:Inv X pins σ H s)(ge:X.ex=[])(q:s.heap.get? b=z7):X.s₀.heap.get? b=none:=by
 cases z:X.s₀.heap.get? b with
 |none=>rfl
 |some o=>
  obtain⟨o',z'⟩:=I.base.there b o z (by rw[ge];simp);rw[q] at z';cases z'
def pn_free(I:Inv X pins σ H s)(q:s.heap.get? b=z7):∀ p∈X.pn,p.1≠b:=λp hp z=>by
 have:=(I.pin p (GC _ hp)).1;rw[z,q] at this;cases this
def XOk.out[J:Jx](hx:XOk X)(ge:X.ex=[]){z:SD}{s':KM}{ev:KB}(I:Inv X pins σ H s)
  (h:CX1 X.prog X.w X.stack H s (λCv od H'=>∃ x fs C F',Cv= .ref C/\Kept J.B J.F0 F' H'/\RepS X.K J.B F' H' z σ/\J.RX z x fs/\ErrD X.K F' x fs C od) ev s'):X.xe ev s':=by
 obtain⟨e,C,od,T,H',rfl,z8,hb,un,hok,Mc,ne,nT,He,HT,x,fs,C',F',hC,kk,rr,hR,er⟩:=h;cases hC;have I':Inv X pins σ H' s':=I.call' z8 un hok hb (λb z=>absurd z (by simp));exact hx σ z F' H' s' e C od x fs (Inv.nopins I') kk rr hR er ⟨He,cR I ge ne,pn_free I ne,.inr ⟨T,Mc,cR I ge nT,HT,pn_free I nT⟩⟩
abbrev CalX(P:P3)(w:Qt)(K:Ex)(mg:IT->Option KB)(base:Heap)(n:Nat)(x:IT)(ps:List IT)(S:SpX):Prop:=Cal P w K mg base n x ps (lSpX K S)
def yk[J:Jx](S:SpX)(t:TDA):TD:=λz R=>t z λds=>S ds R (J.RX z)
variable{ps:List IT}{x:IT}
def gE[J:Jx]{pos:QC}{n m:Nat}{S:SpX}{p:QC}{e:Qo}{es:List Qo}{t:TDA}(C:CalX X.prog X.w X.K X.mg X.base n x ps S)(hx:XOk X)(hr:Room m X.A)(ha:WDA X (e::es) t)(ge:autoParam (X.ex=[]) zA0)(hg:autoParam (Gl X x) zA0)(hn:autoParam (n<=m) zA1)(e8:autoParam (zND x) zA1)
  (he:autoParam (zSE X e es) zA0) (c_:autoParam (zPL X pos es) zA0):WDE X (.Call (.Name x p) (e::es) [] pos) (yk S t):=⟨by
 have ha:=ha.out;obtain⟨f,fd,F,hb,hk,hm⟩:=C;intro pins s σ H Q I h;obtain⟨B,Fr,z,kf,rs,R,h1,h2⟩:=h;obtain rfl:B=J.B:=kf.eb;refine QB (cN I hg hm ?_ e8);refine callWith_K (h₀:=X.base) I.ok.mod.kin hk (thn (ha pos pins s σ H (λvs H1=>lSpX X.K S vs H1 Q (λCv od H'=>∃ x fs C F',Cv= .ref C/\Kept J.B J.F0 F' H'/\RepS X.K J.B F' H' z σ/\J.RX z x fs/\ErrD X.K F' x fs C od)) I ⟨_,Fr,z,kf,rs,_,h1,λds vs F1 H1 g1 hx rx=>?_⟩) λus s1 ⟨vs,H1,I1,r,q⟩=>⟨I1.kIn,?_⟩) he c_
 .exact⟨F1,ds,g1.fh,rx,R,J.RX z,hx,λd v F' H' g=>h2 d v F' H' (g1.trans g),λx fs C od F' H' g hR er=>⟨x,fs,C,F',rfl,(kf.grow g1).grow g,(rs.grow g1).grow g,hR,er⟩⟩
 .exact gD F (hr.mono hn) hb (λe s' hq=>hx.out ge I1 hq) I1 r q⟩
section
variable {P:P3}{w:Qt}{K:Ex}{mg:IT->Option KB}{base:Heap}
variable{N:List IT}
def qN{qual:IT}{scope:QS}{f:KF}{cd:KB}{A:Qu}{outer:List Q4}{s:KM}{H:Hp}{E':XK}{pins:List (KF × QJ)}{σ:L2.St}{H':Hp}{s':KM}{e C T:KF}{od:Option KF}
  (I':Inv (cxOf (CX1 P w) P w K mg base N qual scope f cd A outer s H E') pins σ H' s') (hx:ExAt s'.heap e C od T .none) (ne:s.heap.get? e=z7) (nT:s.heap.get? T=z7) (He:H' e=z7) (HT:H' T=z7) (hE:E' (.ref C) od H'):
  (cxOf (CX1 P w) P w K mg base N qual scope f cd A outer s H E').xe (.ref e) s':=by
 show Qs _ _ (RJ _ _) _ _ _;unfold RJ;refine Os (xc I'.ok.frames I'.stack rfl hx λh2 T2 Ko Kp Jl=>pY (s:={s' with heap:=h2}) Ko λh3 LW IU=>?_);have Kq:s'.heap.get? T2=none:=Heap.get?_none_of_le Kp;have f1:∀ b,s'.heap.get? b=z7->s.heap.get? b=none:=λb q=>cR I' rfl q;have hok:HOk P w H' s'.heap:=I'.hok;have Kr:H' T2=none:=hok.fresh Kp;have OR:∀ b∈[T,e],s.heap.get? b=none:=λb hb=>by
  rcases ER.mp hb with z|z
  .rw[z];exact nT
  .rw[EL.mp z];exact ne
 have u2:Un (frs outer) [] H H' s.heap h2:=gv (show Un (frs outer) [] H H' s.heap s'.heap from I'.base) Jl OR λb hb=>pZ hb;have u3:Un (frs outer) [] H H' s.heap h3:=gv u2 IU (λb hb=>by rw[EL.mp hb];exact f1 T2 Kq) λb hb=>by cases hb
 have k2:=gu hok Jl (λb hb=>I'.stkFree b hb) (λb hb=>by
  rcases ER.mp hb with z|z
  .rw[z];exact HT
  .rw[EL.mp z];exact He)
 have k3:=gu k2 IU (λb hb=>by cases hb) (λb hb=>by rw[EL.mp hb];exact Kr);exact⟨e,C,od,T2,H',rfl,I'.os,I'.bare,u3,k3,LW,ne,f1 T2 Kq,He,Kr,hE⟩
variable{ps:List IT}
def _root_.L2.Fun.okX{x:IT}{st:Qq}{f:KF}{fd:Qz}{k:Nat}{S:SpX}(T:Fun K x x st f fd)(F:FnScope N ps (af st))(len:∀ ds R RX,S ds R RX->ds.length=ps.length)
  (b9:∀ (cdv:KB) (A:Qu) (outer:List Q4) (s:KM) (H:Hp) (E:XK) (J:Jx),Room k (A.deeper (QD x (af st) s.heap.objs.size f cdv))->XOk (cxOf (CX1 P w) P w K mg base N x (af st) f cdv A outer s H E)->
   ∃ t,DSs (cxOf (CX1 P w) P w K mg base N x (af st) f cdv A outer s H E) (aE st) t/\∀ ds R RX,(∀ z,J.RX z=RX)->S ds R RX->t {nx:=λ_=>R .non,rt:=R} (startD N ds)):FnOk P w K mg base (CX1 P w) (k+1) f fd ps (lSpX K S):=by
 refine Fun.okC T F (λvs H Q E h=>?_) (λcdv A outer s H vs Q E hr h=>?_)
 .obtain⟨F,ds,fh,rs,R,RX,h,_⟩:=h;rw[rs.length];exact len ds R RX h
 .obtain⟨F,ds,fh,rs,R,RX,h,q,qx⟩:=h
  letI:Jx:=⟨H,F,λ_=>RX⟩
  have hx:XOk (cxOf (CX1 P w) P w K mg base N x (af st) f cdv A outer s H E):=by
   intro σ z F' H' s' e C od y fs I kk rr hR er ⟨He,ne,_,hx⟩;have hE:E (.ref C) od H':=qx y fs C od F' H' ⟨kk.f0,kk.fh,kk.bh,kk.out⟩ hR er;rcases hx with⟨sl,vs,h1,h2⟩|⟨T,h1,h2,h3,_⟩
   .exact qa I h1 h2 He ne hE
   .exact qN I h1 ne h2 He h3 hE
  obtain⟨t,ht,hq⟩:=b9 cdv A outer s H E inferInstance hr hx;refine⟨_,ht,H,F,F,startD N ds,⟨Same.refl H,fh,Same.refl F,λ_ h _=>h,rfl,Same.refl F,λ_ h _=>h⟩,dZ rs,_,hq ds R RX (λ_=>rfl) h,⟨λz' s' F' H' k hn _=>q _ _ F' H' ⟨k.f0,k.fh,k.bh,k.out⟩ hn (rep_non.mpr rfl),λd v F' H' k hd rd=>q d v F' H' ⟨k.f0,k.fh,k.bh,k.out⟩ hd rd,λ_ _ _ _ _ h _=>h.elim,λ_ _ _ _ _ h _=>h.elim⟩⟩
def Tx.okX{x:IT}{st:Qq}{k:Nat}{S:SpX}(T:Tx K mg x st ps)(F:FnScope N ps (af st))(len:∀ ds R RX,S ds R RX->ds.length=ps.length)
  (b9:∀ (f:KF) (cdv:KB) (A:Qu) (outer:List Q4) (s:KM) (H:Hp) (E:XK) (J:Jx),Room k (A.deeper (QD x (af st) s.heap.objs.size f cdv))->XOk (cxOf (CX1 P w) P w K mg base N x (af st) f cdv A outer s H E)->
   ∃ t,DSs (cxOf (CX1 P w) P w K mg base N x (af st) f cdv A outer s H E) (aE st) t/\∀ ds R RX,(∀ z,J.RX z=RX)->S ds R RX->t {nx:=λ_=>R .non,rt:=R} (startD N ds)):CalX P w K mg base (k+1) x ps S:=by
 obtain⟨f,fd,T,hb,hm⟩:=T;exact⟨f,fd,T.okX F len λcdv A outer s H E J hr hx=>b9 f cdv A outer s H E J hr hx,hb,T.kp,hm⟩
end
variable{P:P3}{w:Qt}{h:Heap}
def ObjOk.there{a:KF}{o:HO}(x:ObjOk P w H h a o):∃ u,h.get? a=be u:=by
 cases o with
 |lst xs=>obtain⟨_,_,_,_,e⟩:=x;exact⟨_,e⟩
 |tup xs=>obtain⟨_,_,_,o,e,_⟩:=x;exact⟨_,e⟩
 |dK a9=>obtain⟨_,_,_,_,o,_,_,e,_⟩:=x;exact⟨_,e⟩
 |dT a9=>obtain⟨_,_,_,_,o,_,_,e,_⟩:=x;exact⟨_,e⟩
 |set S n=>obtain⟨o,_,_,_,e,_⟩:=x;exact⟨_,e⟩
 |ins C dx fs=>obtain⟨_,_,_,e,_⟩:=x;exact⟨_,e⟩
 |own y=>exact x
 |xd fs=>obtain⟨_,⟨_,_,_,e,_⟩,_⟩:=x;exact⟨_,e⟩
 |rng lo hi=>obtain⟨_,_,_,e⟩:=x;exact⟨_,e⟩
 |frz ob u=>obtain⟨e,_⟩:=x;exact⟨_,e⟩
 |tbl ps=>exact⟨_,(show h.get? a=be _ from x)⟩
 |met f y=>exact⟨_,(show h.get? a=be _ from x)⟩
 |ext φ=>obtain⟨_,e,_⟩:=x;exact e
def gG{a:KF}(x:HOk P w H h)(e:h.get? a=z7):H a=none:=by
 cases q:H a with
 |none=>rfl
 |some o=>
  obtain⟨u,hu⟩:=ObjOk.there (x a o q);rw[e] at hu;cases hu
def del(H:Hp)(a:KF):Hp:=λb=>if b=a then z7 else H b
def fH{a:KF}:del H a a=none:=by unfold del;rw[if_pos rfl]
def ce{a:KF}(h:b≠a):del H a b=H b:=by unfold del;rw[if_neg h]
section
variable {X:Cx}{pins:List (KF × QJ)}{σ:L2.St}{H:Hp}{s:KM}{e:KF}
variable{φ:Heap->Prop}
def Inv.drop(I:Inv X pins σ H s)(h:H e=be (.ext φ))(ne:X.s₀.heap.get? e=z7):Inv X pins σ (del H e) s:=by
 have nx:∀ b o,H b=be o->(∀ φ,o≠.ext φ)->b≠e:=λb o q n z=>by rw[z,h] at q;cases q;exact n φ rfl
 refine⟨I.ok,I.os,I.bare,⟨I.base.keep,I.base.slot,λb o q n hx=>?_,I.base.there,λb xs q=>?_,λb o u q=>?_,λb ps q=>?_⟩,I.loc,I.cell,?_,λx c q=>?_,λp hp=>?_,λa o q=>?_,I.len⟩
 .have:b≠e:=λz=>by rw[z,ne] at q;cases q
  rw[ce this];exact I.base.free b o q n hx
 .have:=I.base.tups b xs q;rw[ce (nx b _ this λφ z=>nomatch z)];exact this
 .have:=I.base.frzs b o u q;rw[ce (nx b _ this λφ z=>nomatch z)];exact this
 .obtain⟨m,this⟩:=I.base.tbls b ps q;exact⟨m,by rw[ce (nx b _ this λφ z=>nomatch z)];exact this⟩
 .by_cases z:X.env.locals=e
  .rw[z];exact fH
  .rw[ce z];exact I.free
 .by_cases z:c=e
  .rw[z];exact fH
  .rw[ce z];exact I.freeC x c q
 .obtain⟨h1,h2,h3⟩:=I.pin p hp;refine⟨h1,?_,h3⟩;by_cases z:p.1=e
  .rw[z];exact fH
  .rw[ce z];exact h2
 .by_cases z:a=e
  .rw[z,fH] at q;cases q
  .rw[ce z] at q;exact(I.hok a o q).stay (λb u _ r=>r) (λb r=>by rw[ce (nx b _ r λφ z=>nomatch z)];exact r) λb xs r=>by rw[ce (nx b _ r λφ z=>nomatch z)];exact r
def Inv.adopt(I:Inv X pins σ H s)(He:H e=z7)(ok:ObjOk X.prog X.w H s.heap e (.ext φ))(ne:X.s₀.heap.get? e=z7)(hl:e≠X.env.locals)(hc:∀ x c,X.env.cells.lookup x=be c->c≠e)(hp:∀ p∈X.pn++pins,p.1≠e):Inv X pins σ (upd H e (.ext φ)) s:=by
 refine⟨I.ok,I.os,I.bare,⟨I.base.keep,I.base.slot,λb o q n hx=>?_,I.base.there,λb xs q=>?_,λb o u q=>?_,λb ps q=>?_⟩,I.loc,I.cell,?_,λx c q=>?_,λp Md=>?_,λa o q=>?_,I.len⟩
 .have:b≠e:=λz=>by rw[z,ne] at q;cases q
  rw[aj this];exact I.base.free b o q n hx
 .have:=I.base.tups b xs q;rw[aj (bM this He)];exact this
 .have:=I.base.frzs b o u q;rw[aj (bM this He)];exact this
 .obtain⟨m,this⟩:=I.base.tbls b ps q;exact⟨m,by rw[aj (bM this He)];exact this⟩
 .rw[aj (Ne.symm hl)];exact I.free
 .rw[aj (hc x c q)];exact I.freeC x c q
 .obtain⟨h1,h2,h3⟩:=I.pin p Md;refine⟨h1,?_,h3⟩;rw[aj (hp p Md)];exact h2
 .by_cases z:a=e
  .rw[z,ay] at q;cases q;rw[z];exact ok
  .rw[aj z] at q;exact(I.hok a o q).stay (λb u _ r=>r) (λb r=>by rw[aj (bM r He)];exact r) λb xs r=>by rw[aj (bM r He)];exact r
end
structure ErrK(K:Ex)(mg:Str->Option KB)(x:Str)(C N:KF)(bm:List KB):Prop where
 ns:nsIn K Pi x=be (be (.ref C))
 mg:mg x=be (.ref C)
 kp:keepIn K (.ref C)=true
 obj:∃ nm q bs sn sub ab col dd k0 k1 k2 k3 k5,K.lookup C=be (QP nm q C N bs bm true sn sub ab col dd k0 k1 k2 k3 k5 "ValueError.__new__")
 tail:tailIn K veLine bm=true
structure ErrN(K:Ex)(N:KF):Prop where
 ok:nsOkIn K N=true
 no:nsIn K N "__init__"=be z7
def jV{K:Ex}:∀ {l:List KB},tailIn K veLine l=true->aO l=true
 |[],e=>by simp[tailIn,veLine] at e
 |v::r,e=>by
  unfold tailIn at e;rcases HK.mp e with q|q
  .rw[beq_iff_eq.mp q];decide+kernel
  .split at q
   .split at q
    .simp only[Ff,beq_iff_eq] at q;unfold aO;exact jV q.2
    .cases q
   .cases q
variable{K:Ex}{mg:IT->Option KB}{C N:KF}{bm:List KB}
def ErrK.base(k:ErrK K mg x C N bm):bm.contains (.type "BaseException")=true:=gq (by decide+kernel) (jV k.tail)
section
variable {X:Cx}[J:Jx]{x:IT}{C N:KF}{bm:List KB}{e:Qo}{es:List Qo}{t:TDA}{p cpos pos:QC}
def ym(x:IT)(t:TDA):TSD:=λ_ z=>t z λds=>ds.length<=1000/\J.RX z x []
def qO(h:∃ C N bm,ErrK X.K X.mg x C N bm/\ErrN X.K N)(hx:XOk X)(hc:X.calm=true)(ha:WDA X (e::es) t)(ge:autoParam (X.ex=[]) zA0)(hg:autoParam (Gl X x) zA0)(e8:autoParam (zND x) zA1)
  (he:autoParam (zSE X e es) zA0) (c_:autoParam (zPL X cpos es) zA0):WDS X (.Raise (be (.Call (.Name x p) (e::es) [] cpos)) z7 pos) (ym x t):=⟨by
 have ha:=ha.out;obtain⟨C,N,bm,k,kn⟩:=h;intro pins s σ H D I h;obtain⟨B,F0,F,z,kf,rs,ED,h,ee⟩:=h;obtain rfl:B=J.B:=kf.eb;obtain⟨nm,q,bs,sn,sub,ab,col,dd,k0,k1,k2,k3,k5,lk⟩:=k.obj;refine jF (nm:=nm) (q:=q) (C:=C) (N:=N) (bs:=bs) (bm:=bm) (hdct:=true) (sn:=sn) (sub:=sub) (ab:=ab) (col:=col) (dd:=dd) (k0:=k0) (k1:=k1) (k2:=k2) (k3:=k3) (k5:=k5) (newId:="ValueError.__new__") k.base (I.ok.hd hc) ?_;refine QB (cN I hg k.mg ?_ e8);refine callWith_K (h₀:=X.base) I.ok.mod.kin k.kp (thn (ha cpos pins s σ H (λvs H1=>∃ F1,vs.length<=1000/\Grow F H F1 H1/\J.RX z x []) I ⟨_,F,z,kf.kf,rs,_,h,λds vs F1 H1 g1 hx rx=>⟨F1,by rw[rx.length];exact hx.1,g1,hx.2⟩⟩) λus s1 hh=>⟨hh.elim λ_ h=>h.elim λ_ h=>h.1.kIn,?_⟩) he c_;obtain⟨vs,H1,I1,r,F1,hl,g1,hR⟩:=hh;have hC:=I1.kIn _ _ lk;obtain⟨hp,gg,dr,tk,os⟩:=s1;refine RU PySem.F.excBase_ValueError (tail_of_in I1.kIn k.tail) hC (.of_isNs (isNs_of_in I1.kIn kn.ok)) (nsMap_none_of_in I1.kIn kn.ok kn.no) (λh' ea hm=>?_) (by show us.length<=_;rw[<- L2.Vals.length r];exact sz hl);obtain⟨ta,h1,h2,h3⟩:=hm.there;have I2:Inv X pins σ H1 ⟨h',gg,dr,tk,os⟩:=I1.kept (t':=tk) hm.keeps;refine⟨ea,ta,z7,#[],rfl,hm.keeps _ _ hC,h1,?_⟩;exact hx σ z F1 H1 _ ea C z7 x [] (Inv.nopins I2) (kf.kf.grow g1) (rs.grow g1) hR ⟨k.ns,[],repf_nil.mpr rfl,.inl ⟨rfl,rfl⟩⟩ ⟨gG I1.hok hm.new,cR I1 ge hm.new,pn_free I1 hm.new,.inl ⟨#[],_,h1,rfl⟩⟩⟩
end
def XN(e C:KF)(od:Option KF):HO:= .ext λh=>∃ t sl,h.get? e=be ⟨.ref C,od,.fields #[.ref t,.none,.none,.none,.bool false,.none],sl⟩
variable{od:Option KF}{sl:Array (Option KB)}
def XN.ok{e t:KF}(q:h.get? e=be ⟨.ref C,od,.fields #[.ref t,.none,.none,.none,.bool false,.none],sl⟩):ObjOk P w H h e (XN e C od):=
 ⟨⟨t,sl,q⟩,⟨_,q⟩,λh1 h2 ⟨t,sl,q⟩ k=>⟨t,sl,k _ q⟩⟩
def XN.get{e:KF}(x:HOk P w H h)(q:H e=be (XN e C od)):∃ t sl,h.get? e=be ⟨.ref C,od,.fields #[.ref t,.none,.none,.none,.bool false,.none],sl⟩:=(x e _ q).1
def ErrF(K:Ex)(F:Hp)(fs:List (IT × D))(od:Option KF):Prop:=∃ vs,RepF K F fs vs/\((od=z7/\vs=[])\/∃ b,od=be b/\F b=be (.xd vs))
def lEi(K:Ex)(C:KF)(S:SiD):Sp:=λvs H Q _=>∃ e us H1 F ds,vs= .ref e::us/\H=upd H1 e (XN e C z7)/\H1 e=z7/\Same F H1/\Reps K F ds us/\
 ∃ R:List (IT × D)->Prop,S ds R/\∀ fs od F' H',Grow F H1 F' H'->R fs->H' e=be (XN e C od)->F' e=z7->ErrF K F' fs od->Q .non H'
def CalE(P:P3)(w:Qt)(K:Ex)(mg:IT->Option KB)(base:Heap)(n:Nat)(x:IT)(ps:List IT)(S:SiD):Prop:=
 ∃ C N bm f fd,ErrK K mg x C N bm/\ES K (.ref C) "__init__"=be (be (.ref f))/\isFn K (.ref f)=true/\FnOk P w K mg base (CX1 P w) n f fd ps (lEi K C S)/\Binds K fd ps []
section
variable {X:Cx}{pins:List (KF × QJ)}{σ:L2.St}{H:Hp}{s:KM}{e:KF}
def Inv.newx{C:KF}{h':Heap}{us:List KB}(I:Inv X pins σ H s)(ge:X.ex=[])(hm:Heap.MadeExcOf s.heap h' e (.ref C) us):Inv X pins σ (upd H e (XN e C z7)) {s with heap:=h'}:=by
 obtain⟨ta,h1,h2,h3⟩:=hm.there;have I2:Inv X pins σ H {s with heap:=h'}:=I.kept (t':=s.toks) hm.keeps;refine Inv.adopt I2 (gG I.hok hm.new) (XN.ok h1) (cR I ge hm.new) (λz=>?_) (λx c q z=>?_) λp hp z=>?_
 .obtain⟨m,⟨o,_,_,ho,_⟩,_⟩:=I.loc;rw[<- z,hm.new] at ho;cases ho
 .obtain⟨v,o,ho,_⟩:=I.cell x c q;rw[z,hm.new] at ho;cases ho
 .have:=(I.pin p hp).1;rw[z,hm.new] at this;cases this
end
structure BaseK(K:Ex)(mg:Str->Option KB)(y:Str)(M:KF):Prop where
 mg:mg y=be (.ref M)
 rd:readsIn K M (.type "type")=true
 fc:findCls K (.ref M) (.type "type") "__init__"=be (.val (.builtin "ValueError.__init__"))
 sp:specialIn K (.ref M) "__getattribute__"=be (be (.builtin "type.__getattribute__"))
structure ErrA(K:Ex)(x:Str)(C:KF)(cd:ClassData):Prop where
 ns:nsIn K Pi x=be (be (.ref C))
 cl:G8 K C=be cd
 mro:aO cd.mro=true
 hd:cd.hasDict=true
 sa:ES K (.ref C) "__setattr__"=be (be (.builtin "object.__setattr__"))
def ErrK.a(k:ErrK K mg x C N bm)(sa:ES K (.ref C) "__setattr__"=be (be (.builtin "object.__setattr__"))):∃ cd,ErrA K x C cd:=by
 obtain⟨nm,q,bs,sn,sub,ab,col,dd,k0,k1,k2,k3,k5,lk⟩:=k.obj;exact⟨_,k.ns,by unfold G8;rw[lk],by
  show aO (.ref C::bm)=true;unfold aO;exact jV k.tail,rfl,sa⟩
def lX(K:Ex)[J:Jx](x:IT)(t:TID):TS:=λE σ H=>∃ C e od ws F z fs,nsIn K Pi x=be (be (.ref C))/\σ[0]?=be (be (.ref e))/\H e=be (XN e C od)/\J.B e=z7/\F e=z7/\Kept J.B J.F0 F H/\RepS K J.B F H z σ/\RepF K F fs ws/\
 ((od=z7/\ws=[])\/∃ b,od=be b/\H b=be (.xd ws)/\J.B b=z7/\F b=z7/\b≠e/\ws≠[])/\
 ∃ R:List (IT × D)->Prop,t z fs R/\∀ p8 Li F' H',Kept J.B J.F0 F' H'->R p8->H' e=be (XN e C Li)->F' e=z7->ErrF K F' p8 Li->E.nx σ H'
abbrev DX(X:Cx)[Jx](x:IT)(st:List Qq)(t:TID):Prop:=PSs X st (lX X.K x t)
structure WDX(X:Cx)[Jx](x:Str)(st:List Qq)(t:TID):Prop where
 out:DX X x st t
def qP{a:KF}{o:HO}(h:H a=be o):upd H a o=H:=by
 funext b;unfold upd;by_cases q:b=a
 .rw[if_pos q,q,h]
 .rw[if_neg q]
section
variable {X:Cx}[J:Jx]{x f:IT}{e:Qo}{te:TD}{ta:TDA}{pos d6 p:QC}{rest:List Qq}{tr:TID}
def qQ:WDX X x [] qK:=⟨pss_nil.anti λE s H q=>by
 obtain⟨C,a,od,ws,F,z,fs,hn,h0,gt,hB,i_,k,rs,rf,hd,R,hR,kk⟩:=q;rcases hd with⟨rfl,rfl⟩|⟨b,rfl,hb,Lj,Lk,ne,_⟩
 .exact kk fs z7 F H k hR gt i_ ⟨[],rf,.inl ⟨rfl,rfl⟩⟩
 .have s1:Same F (upd F b (.xd ws)):=aS Lk _;refine kk fs (be b) (upd F b (.xd ws)) H ⟨k.bh,λc o q=>?_,k.f0.trans s1,λc h1 h2=>?_,k.eb,k.jf,k.jo⟩ hR gt (by rw[aj (Ne.symm ne)];exact i_) ⟨ws,RepF.mono s1 fs ws rf,.inr ⟨b,rfl,ay⟩⟩
  .by_cases hc:c=b
   .subst hc;rw[ay] at q;cases q;exact hb
   .rw[aj hc] at q;exact k.fh c o q
  .have:c≠b:=λz=>h2 (z ▸ Lj);rw[aj this];exact k.out c h1 h2⟩
def yn(ta:TDA)(tr:TID):TID:=λz fs R=>ta z λds=>ds.length<=1000/\tr z fs R
def qR{y sx:IT}{ps py apos cpos:QC}{es:List Qo}{pl:RO Bool}(hb:∃ M,BaseK X.K X.mg y M)(hA:∃ C cd,ErrA X.K x C cd)(ha:WDA X es ta)(hr:WDX X x rest tr)(hg:autoParam (Gl X y) zA0)(hN:autoParam (X.N[0]?=be sx) zA0)(hv:autoParam (Vis X.env.scope sx) zA5)(hd:autoParam (zND sx) zA1)
  (g6:autoParam (zNC sx) zA1) (OS:autoParam (zND y) zA1)
  (he:autoParam (Qv (.Name sx ps::es) X.env=(false,Qx (.Name sx ps) X.env)::Qv es X.env) zA0) (c_:autoParam (zPL X cpos es) zA0)
  (ht:Qx (.Call (.Attribute (.Name y py) "__init__" apos) (.Name sx ps::es) [] cpos) X.env=(do
   let ov <- Qx (.Name y py) X.env
   Q_ apos.atName
   let (f,first) <- Q1 [ov] (Rr ov "__init__" pl)
   callWith cpos f first (Q0 cpos (Qv (.Name sx ps::es) X.env)) (Rj cpos (QX [] X.env))):=by rfl)
  (hs:autoParam (QF (.Call (.Attribute (.Name y py) "__init__" apos) (.Name sx ps::es) [] cpos) z7 pos.line X.env=pure false) zA0):WDX X x (.Expr (.Call (.Attribute (.Name y py) "__init__" apos) (.Name sx ps::es) [] cpos) pos::rest) (yn ta tr):=⟨by
 have ha:=ha.out;have hr:=hr.out;obtain⟨M,bk⟩:=hb;obtain⟨C,cd,er⟩:=hA;have step:PS X (.Expr (.Call (.Attribute (.Name y py) "__init__" apos) (.Name sx ps::es) [] cpos) pos) (λE σ H=>∃ C' e od,nsIn X.K Pi x=be (be (.ref C'))/\σ[0]?=be (be (.ref e))/\
   lA X.K ta σ H (λvs H1=>H1 e=be (XN e C' od)/\vs.length<=1000/\E.nx σ H1)):=by
  intro pins s σ H D I h;obtain⟨C',ea,od,hn,h0,h⟩:=h;rw[er.ns] at hn;cases hn;refine wpAny_Expr_any (methodCall_KW (pl:=pl) (cN I hg bk.mg ?_ OS) ht) I.quiet hs;refine method_cls I.kIn bk.sp (cls_value I.kIn bk.rd bk.fc (by decide+kernel) ?_);have I0:Inv X pins σ H {s with toks:=s.toks+1}:=I.tok _;obtain⟨B,F,z,kf,rs,R,h1,h2⟩:=h;refine PyProof.Rows.callWith_builtin1 (thn (bg (dB (i:=0) hN hv hd g6) ha he cpos pins _ σ H (λvs H1=>∃ us,vs= .ref ea::us/\H1 ea=be (XN ea C od)/\us.length<=1000/\D.nx σ H1) I0 ⟨.ref ea,h0,⟨B,F,z,kf,rs,R,h1,λds vs F' H' g hx rx=>⟨vs,rfl,h2 ds vs F' H' g hx rx⟩⟩⟩) λus s1 hh=>?_) he c_;obtain⟨vs,H1,I1,r,PY,ev,v7,hl,KA⟩:=hh;subst ev;cases r with
  |cons r1 r2=>
   rename_i u0 PZ;obtain rfl:u0=Value.ref ea:=r1;obtain⟨t0,sl,o9⟩:=XN.get I1.hok v7;refine wX (K:=X.K) (C:=C) (cd:=cd) I1.kIn o9 rfl rfl er.cl er.mro (by rw[<- L2.Vals.length r2];exact sz hl) λh' g1 g2=>?_;refine⟨σ,H1,?_,KA⟩;have w:=I1.write (x:=ea) (e:=ea) (o:=XN ea C od) (h':=h') (t':=s1.toks) (by rw[v7];exact True.intro) (.inl rfl) (λb u hb q=>g2 b u hb q) ⟨_,g1⟩ (XN.ok g1);rw[qP v7] at w;exact w
 refine(ft step hr).anti λE s H q=>?_;obtain⟨C',a,od,ws,F,z,fs,hn,h0,gt,hB,i_,k,rs,rf,g8,R,hR,kk⟩:=q;refine⟨C',a,od,hn,h0,_,F,z,k,rs,_,hR,λds vs F1 H1 g hx rx=>⟨g.hh a _ gt,by rw[rx.length];exact hx.1,?_⟩⟩;refine⟨C',a,od,ws,F1,z,fs,hn,h0,g.hh a _ gt,hB,g.out a i_ (by rw[gt];exact λz=>nomatch z),k.grow g,rs.grow g,RepF.mono g.ff fs ws rf,?_,R,hx.2,kk⟩;rcases g8 with g8|⟨b,h1,h2,h3,h4,h5⟩
 .exact .inl g8
 .exact .inr ⟨b,h1,g.hh b _ h2,h3,g.out b h4 (by rw[h2];exact λz=>nomatch z),h5⟩⟩
def yo(f:IT)(te:TD)(tr:TID):TID:=λz fs R=>fs=[]/\te z λd=>tr z [(f,d)] R
def qS{sx:IT}{ps:QC}(hA:∃ C cd,ErrA X.K x C cd)(hf:∀ C,nsIn X.K Pi x=be (be (.ref C))->ES X.K (.ref C) f=be z7)(he:WDE X e te)(hr:WDX X x rest tr)(hN:autoParam (X.N[0]?=be sx) zA0)(hv:autoParam (Vis X.env.scope sx) zA5)(hd:autoParam (zND sx) zA1)
  (g6:autoParam (zNC sx) zA1) (hs:autoParam (QF e (be (.Attribute (.Name sx ps) f d6)) pos.line X.env=pure false) zA0):WDX X x (.Assign [.Attribute (.Name sx ps) f d6] e pos::rest) (yo f te tr):=⟨by
 have he:=he.out;have hr:=hr.out;obtain⟨C,cd,er⟩:=hA;have KC:=hf C er.ns;have step:PS X (.Assign [.Attribute (.Name sx ps) f d6] e pos) (λE σ H=>∃ e,σ[0]?=be (be (.ref e))/\
   lE X.K te σ H (λv H1=>H1 e=be (XN e C z7)/\∀ b,H1 b=z7->b≠e->E.nx σ (upd (upd H1 b (.xd [(f,v)])) e (XN e C (be b))))):=by
  intro pins s σ H D I h;obtain⟨ea,h0,h⟩:=h;refine Rp (thn (he pins s σ H _ I h) λu s1 ⟨y,H1,I1,ry,v7,KA⟩=>thn (dB (i:=0) hN hv hd g6 pins s1 σ H1 (λv H'=>v= .ref ea/\H'=H1) I1 ⟨.ref ea,h0,rfl,rfl⟩) λov s2 hh=>?_) hs;obtain⟨v0,H2,I2,r0,e1,e2⟩:=hh;subst e1 e2;obtain rfl:ov=Value.ref ea:=r0;obtain⟨t0,sl,o9⟩:=XN.get I2.hok v7;refine wW (K:=X.K) (C:=C) (cd:=cd) I2.kIn o9 rfl rfl rfl er.cl er.mro er.hd er.sa KC λh' g1 g2 g3 tk=>?_;have z_:H2 s2.heap.objs.size=none:=I2.hok.fresh (EK _);have k8:s2.heap.objs.size≠ea:=FO (Heap.lt_size o9);have Me:∀ b o,s2.heap.get? b=be o->b≠s2.heap.objs.size:=λb o q=>EZ (Heap.lt_size q);have Mf:∀ b,H2 b=z7->b≠ea:=λb q z=>by rw[z,v7] at q;cases q
  refine⟨σ,_,?_,KA _ z_ k8⟩;have KD:∀ b o,H2 b=be o->(∀ φ,o≠.ext φ)->upd (upd H2 s2.heap.objs.size (.xd [(f,y)])) ea (XN ea C (be s2.heap.objs.size)) b=be o:=λb o q n=>by
   have n1:b≠ea:=λz=>by rw[z,v7] at q;cases q;exact n _ rfl
   rw[aj n1,aj (bM q z_)];exact q
  refine I2.un (h':=h') (t':=tk) ⟨λb o q n _ _=>g3 b o (Mf b n) q,λb o q n _ _=>⟨o.slots,g3 b o (Mf b n) q⟩,λb o q n _=>?_,λb o q _=>?_,λb xs q=>KD b _ q (λφ z=>nomatch z),λb o u q=>KD b _ q (λφ z=>nomatch z),λb ps q=>⟨#[],by rw[KD b _ q (λφ z=>nomatch z)];simp⟩⟩ λa o q=>?_
  .rw[aj (Mf b n),aj (Me b o q)];exact n
  .by_cases hb:b=ea
   .rw[hb];exact⟨_,g1⟩
   .exact⟨o,g3 b o hb q⟩
  .by_cases ha:a=ea
   .subst ha;rw[ay] at q;cases q;exact XN.ok g1
   .rw[aj ha] at q;by_cases hb:a=s2.heap.objs.size
    .subst hb;rw[ay] at q;cases q;refine⟨_,g2,λg=>?_⟩;rw[E8];by_cases hg:g=f
     .subst hg;simp;exact ry
     .have:(g==f)=false:=by simpa using hg
      rw[this,if_neg hg];exact True.intro
    .rw[aj hb] at q;refine(I2.hok a o q).stay (λb u g7 r=>?_) (λb r=>KD b _ r (λφ z=>nomatch z)) λb xs r=>KD b _ r (λφ z=>nomatch z);refine g3 b u (λz=>?_) r;rcases g7 with e1|e1
     .exact ha (e1 ▸ z)
     .rw[z,v7] at e1;cases e1
 refine(ft step hr).anti λE s H q=>?_;obtain⟨C',a,od,ws,F,z,fs,hn,h0,gt,hB,i_,k,rs,rf,g8,R,⟨rfl,hR⟩,kk⟩:=q;rw[er.ns] at hn;cases hn;have OT:ws=[]:=repf_nil.mp rf;subst OT;refine⟨a,h0,_,F,z,k,rs,_,hR,λd v F1 H1 g hx rv=>?_⟩;have KE:F1 a=none:=g.out a i_ (by rw[gt];exact λz=>nomatch z);have k1:=k.grow g;rcases g8 with⟨rfl,_⟩|⟨b,rfl,h1,h2,h3,h4⟩
 .refine⟨g.hh a _ gt,λb hb k8=>?_⟩;have Lj:J.B b=none:=k1.bh.free hb;have Lk:F1 b=none:=k1.fh.free hb;have RI:∀ {G:Hp},G a=z7->G b=z7->Same G H1->Same G (upd (upd H1 b (.xd [(f,v)])) a (XN a C (be b))):=λ{G} ga gb gs c o q=>by
   have n1:c≠a:=λz=>by rw[z,ga] at q;cases q
   have n2:c≠b:=λz=>by rw[z,gb] at q;cases q
   rw[aj n1,aj n2];exact gs c o q
  have u6:=rs.grow g;refine⟨C,a,be b,[(f,v)],F1,z,[(f,d)],er.ns,h0,ay,hB,KE,⟨RI hB Lj k1.bh,RI KE Lk k1.fh,k1.f0,k1.out,k1.eb,k1.jf,k1.jo⟩,?_,repf_cons.mpr ⟨v,[],rfl,rv,repf_nil.mpr rfl⟩,.inr ⟨b,rfl,by rw[aj k8];exact ay,Lj,Lk,k8,λz=>nomatch z⟩,R,hx,kk⟩;refine⟨u6.len,u6.val,λi ds e'=>?_,u6.apart⟩;obtain⟨c,vs,q1,q2,q⟩:=u6.own i ds e';have n1:c≠a:=λz=>by rw[z,g.hh a _ gt] at q2;cases q2
  have n2:c≠b:=λz=>by rw[z,hb] at q2;cases q2
  exact⟨c,vs,q1,by rw[aj n1,aj n2];exact q2,q⟩
 .exact absurd rfl h4.2⟩
end
section
variable {P:P3}{w:Qt}{K:Ex}{mg:IT->Option KB}{base:Heap}
def Cls.okE{x qual:IT}{st:Qq}{f C N0:KF}{bm:List KB}{fd:Qz}{N:List IT}{p0:IT}{ps:List IT}{k:Nat}{S:SiD}(T:Fun K "__init__" qual st f fd)(hb:Binds K fd (p0::ps) [])(F:FnScope (p0::N) (p0::ps) (af st))(len:∀ ds R,S ds R->ds.length=ps.length)
  (ek:ErrK K mg x C N0 bm) (hi:ES K (.ref C) "__init__"=be (be (.ref f))) (hf:isFn K (.ref f)=true)
  (b9:∀ (cdv:KB) (A:Qu) (outer:List Q4) (s:KM) (H:Hp) (E:XK) (J:Jx),Room k (A.deeper (QD qual (af st) s.heap.objs.size f cdv))->
   ∃ t,DX (cxOf (CX1 P w) P w K mg base (p0::N) qual (af st) f cdv A outer s H E).nox x (aE st) t/\∀ ds R,S ds R->t (z7::startD N ds) [] R):CalE P w K mg base (k+1) x (p0::ps) S:=by
 refine⟨C,N0,bm,f,fd,ek,hi,hf,Fun.okC T F (λvs H Q E h=>?_) (λcdv A outer s H vs Q E hr h=>?_),hb⟩
 .obtain⟨a,us,H1,F,ds,rfl,_,_,_,rs,R,h,_⟩:=h;rw[EN,EN,rs.length,len ds R h]
 .obtain⟨a,us,H1,F1,ds,rfl,rfl,ha,fh,rs,R,h,q⟩:=h
  letI:Jx:=⟨H1,F1,λ_ _ _=>False⟩
  obtain⟨t,ht,hq⟩:=b9 cdv A outer s _ E inferInstance hr;have Fa:F1 a=none:=fh.free ha;have hl:L2.start (p0::N) (.ref a::us)=be (.ref a)::L2.start N us:=by
   unfold L2.start;rw[E4,EN,EN,HJ];rfl
  have s1:Same H1 (upd H1 a (XN a C z7)):=aS ha _;refine⟨_,ht.nox,C,a,z7,[],F1,z7::startD N ds,[],ek.ns,by rw[hl];rfl,ay,ha,Fa,⟨s1,fh.trans s1,Same.refl F1,λ_ h _=>h,rfl,Same.refl F1,λ_ h _=>h⟩,?_,repf_nil.mpr rfl,.inl ⟨rfl,rfl⟩,R,hq ds R h,λp8 Li F' H' g hR gt i_ er=>q p8 Li F' H' ⟨g.f0,g.fh,g.bh,g.out⟩ hR gt i_ er⟩;rw[hl];exact qL (dZ rs)
end
abbrev _root_.L2.Cx.held(X:Cx)(e:KF):Cx:={X with A:=X.A.mark (be (.ref e)),calm:=false,xe:=λ_ _=>False}
section
variable {X:Cx}{pins:List (KF × QJ)}{σ:L2.St}{H:Hp}{s:KM}{e:KF}
def Cx.Ok.held(ok:X.Ok):(X.held e).Ok:=
 ⟨ok.mod,ok.kind,ok.glob,ok.blt,ok.above,ok.inj,ok.has,ok.cab,(λz=>nomatch z),ok.frames,ok.stk,ok.exf,ok.bs,ok.bsz,ok.noex,ok.exfs,ok.funs,ok.frf⟩
def Inv.held(I:Inv X pins σ H s):Inv (X.held e) pins σ H s:=⟨Cx.Ok.held I.ok,I.os,I.bare,I.base,I.loc,I.cell,I.free,I.freeC,I.pin,I.hok,I.len⟩
end
def subE(x c:IT):Bool:=x==c||c=="MotifError"
structure ErrsK(K:Ex)(mg:Str->Option KB)(es:List Str):Prop where
 cls:∀ x∈es,∃ C N bm,ErrK K mg x C N bm
 sub:∀ x∈es,∀ y∈es,∀ C C',nsIn K Pi x=be (be (.ref C))->nsIn K Pi y=be (be (.ref C'))->FW K C (.ref C')=be (subE x y)
def ErrsK.has{es:List IT}(k:ErrsK K mg es){y:IT}{C' N':KF}{OU:List KB}(hx:x∈es)(hy:y∈es)(a:ErrK K mg x C N bm)(b:ErrK K mg y C' N' OU):(Value.ref C::bm).contains (.ref C')=subE x y:=by
 have h:=k.sub x hx y hy C C' a.ns b.ns;obtain⟨nm,q,bs,sn,sub,ab,col,dd,k0,k1,k2,k3,k5,lk⟩:=a.obj;unfold FW G8 at h;rw[lk] at h;simp only[F6,List.isEmpty_cons,Bool.false_eq_true,if_false,Option.some.injEq] at h;exact h
structure Held(X:Cx)(pins:List (KF × QJ))(H:Hp)(s:KM)(e C:KF)(od:Option KF)(T:KF):Prop where
 ex:ExAt s.heap e C od T .none
 He:H e=z7
 HT:H T=z7
 e0:X.s₀.heap.get? e=z7
 T0:X.s₀.heap.get? T=z7
 eP:∀ p∈X.pn++pins,p.1≠e
 TP:∀ p∈X.pn++pins,p.1≠T
section
variable {X:Cx}{pins:List (KF × QJ)}{σ:L2.St}{H:Hp}{s:KM}
def XO.ok{P:P3}{w:Qt}{h:Heap}{e C:KF}{od:Option KF}{vs:Array KB}{sl:Array (Option KB)}(q:h.get? e=be ⟨.ref C,od,.fields vs,sl⟩):ObjOk P w H h e (XO e C od):=
 ⟨⟨vs,sl,q⟩,⟨_,q⟩,λh1 h2 ⟨vs,sl,q⟩ k=>⟨vs,sl,k _ q⟩⟩
end
abbrev TH:=IT->List (IT × D)->TSD
def DH(X:Cx)[J:Jx](hs:List ExceptHandler)(th:TH):Prop:=
 ∀ (pins:List (KF × QJ)) (s:KM) (σ:L2.St) (H:Hp) (D:Ends) (e C:KF) (od:Option KF) (T:KF) (x:IT) (fs:List (IT × My.D)) (B F0 F:Hp) (z:SD) (ED:EndsD),Inv X pins σ H s->Held X pins H s e C od T->Kept B F0 F H->RepS X.K B F H z σ->ErrD X.K F x fs C od->
  th x fs ED z->EndsOk X.K B F0 ED D->Qs (Qr X.prog X.w) X.A (handleBy (.ref e) X.env hs) (SP X pins D) X.xe s
structure WDH(X:Cx)[Jx](hs:List ExceptHandler)(th:TH):Prop where
 out:DH X hs th
variable{RX:SD->XD}
def Kept.re{J:Jx}{B F0 F:Hp}(k:@Kept J B F0 F H):@Kept ⟨B,F0,RX⟩ B F0 F H:=@Kept.mk ⟨B,F0,RX⟩ B F0 F H k.bh k.fh k.f0 k.out rfl (Same.refl F0) (λ_ h _=>h)
def Kept.un{J:Jx}{B F0 F F' H':Hp}(k:@Kept J B F0 F H)(k':@Kept ⟨B,F0,RX⟩ B F0 F' H'):@Kept J B F0 F' H':=by
 obtain⟨a,b,c,d,_,_,_⟩:=k';exact @Kept.mk J B F0 F' H' a b c d k.eb k.jf k.jo
def ErrG(K:Ex)(f y:IT):Prop:=∃ C cd,ErrA K y C cd/\ES K (.ref C) "__getattribute__"=be (be (.builtin "BaseException.__getattribute__"))/\ES K (.ref C) "__getattr__"=be z7/\ES K (.ref C) f=be z7
def qT:tailIn K veLine veLine=true:=by
 unfold tailIn;rfl
def qU{c:KB}{d:Option KF}{es:Array DictEntry}{ep:Nat}(l:K.lookup N=be ⟨c,d,.dict es ep,sl⟩)(h:es.toList.all (λe=>match e.key with| .str _ _=>true|_=>false)=true):nsOkIn K N=true:=by
 unfold nsOkIn;rw[l];dsimp only;rw[<- HL];exact h
def yp{M:KF}{c0:KB}{dd:Option KF}{cd:ClassData}(l:K.lookup M=be ⟨c0,dd,.cls cd,sl⟩)(hn:cd.ns=N)(h1:nsOkIn K N=true)(h2:nsIn K N "__init__"=be z7):tailIn K veLine (.ref M::veLine)=true:=by
 unfold tailIn;subst hn;dsimp only;rw[l];dsimp only;rw[h1,h2,qT];simp
def yq:kitOne K (.ref C) (.ref C)=be true:=by
 unfold kitOne;rw[if_pos (beq_self_eq_true _)]
def qV(S:SpX):SpD:=λds R=>S ds R λ_ _=>False
def CalX.no{base:Heap}{n:Nat}{S:SpX}(C:CalX P w K mg base n x ps S):CalD P w K mg base n x ps (qV S):=by
 obtain⟨f,fd,F,hb,hk,hm⟩:=C;refine⟨f,fd,F.imp λvs H Q E h=>?_,hb,hk,hm⟩;obtain⟨F,ds,fh,rs,R,h,q⟩:=h;exact⟨F,ds,fh,rs,R,_,h,q,λ_ _ _ _ _ _ _ z=>z.elim⟩
end My
namespace My
def repS(x:IT)(n:Nat):Str:=⟨(EQ n x.cps.toList).flatten.toArray⟩
def qW(x:IT)(n:Nat):(EQ n x.cps).foldl (·++·) #[]=(EQ n x.cps.toList).flatten.toArray:=by
 have:∀ (m:Nat) (f_:List Nat),(EQ m x.cps).foldl (·++·) f_.toArray=(f_++(EQ m x.cps.toList).flatten).toArray:=by
  intro m;induction m with
  |zero=>intro f_;simp
  |succ m ih=>
   intro f_;rw[Fv,Hz,Fv,FH,<- Fh];rw[show f_.toArray++x.cps=(f_++x.cps.toList).toArray by simp];exact ih _
 have h:=this n [];simpa using h
def jW(x:IT)(n:Nat):(repS x n).length=n*x.length:=by
 show(EQ n x.cps.toList).flatten.toArray.size=n*x.cps.size;rw[EO];induction n with
 |zero=>simp
 |succ n ih=>rw[Fv,FH,EU,ih,GF,Gi];simp
def qX{α:Type}(l:List α):∀ m:Nat,(EM m).filterMap (λk=>l[k]?)=l.take m
 |0=>by simp
 |m+1=>by
  rw[Gn,List.filterMap_append,qX l m,List.take_succ];cases h:l[m]?<;>simp[h]
def yr(lo hi:Option Int)(n:Nat):Builtin.Str.strSliceIndices lo hi 1 n=(EM (HT.sIx n n hi - HT.sIx n 0 lo)).map λk=>HT.sIx n 0 lo+k:=by
 have E_:∀ (i:Int) (d:Nat),max 0 (min (if i<0 then i+(n:Int) else i) (n:Int))=((HT.sIx n d (be i):Nat):Int):=by
  intro i d;show max 0 (min (if i<0 then i+(n:Int) else i) (n:Int))=(((if i<0 then(i+(n:Int)).toNat else min i.toNat n):Nat):Int);by_cases h:i<0
  .rw[if_pos h,if_pos h];lia
  .rw[if_neg h,if_neg h];lia
 have h1:Builtin.Str.strSliceIndices lo hi 1 n=sliceRange ((HT.sIx n 0 lo:Nat):Int) ((HT.sIx n n hi:Nat):Int) 1:=by
  unfold Builtin.Str.strSliceIndices;simp only[show(1:Int)>0 by decide,if_true];cases lo with
  |none=>cases hi with
   |none=>rfl
   |some j=>rw[<- E_ j n];rfl
  |some i=>cases hi with
   |none=>rw[<- E_ i 0];rfl
   |some j=>rw[<- E_ i 0,<- E_ j n]
 rw[h1];unfold sliceRange;simp only[show(1:Int)>0 by decide,if_true];have e3:(if((HT.sIx n 0 lo:Nat):Int)<((HT.sIx n n hi:Nat):Int) then(((HT.sIx n n hi:Nat):Int) - ((HT.sIx n 0 lo:Nat):Int)+1 - 1) / 1 else 0).toNat=HT.sIx n n hi - HT.sIx n 0 lo:=by
  split<;>lia
 rw[e3];apply GK;intro k _;lia
def slice_cps(y:IT)(lo hi:Option Int):Txt.slice y lo hi=⟨((y.cps.toList.drop (HT.sIx y.length 0 lo)).take (HT.sIx y.length y.length hi - HT.sIx y.length 0 lo)).toArray⟩:=by
 have la:HT.sIx y.length 0 lo<=y.length:=HT.sIx_le _ _ (Fl _) lo;have lb:HT.sIx y.length y.length hi<=y.length:=HT.sIx_le _ _ (EK _) hi;unfold Txt.slice;rw[yr];split
 .rename_i h;have hl:HT.sIx y.length y.length hi - HT.sIx y.length 0 lo=y.length:=by simpa using h
  have ha:HT.sIx y.length 0 lo=0\/y.length=0:=by lia
  rw[hl];obtain⟨cp⟩:=y;have e:(Go (HT.sIx (Str.mk cp).length 0 lo) cp.toList)=cp.toList:=by
   rcases ha with ha|ha
   .rw[ha];rfl
   .have:cp=#[]:=HM ha;subst this;simp
  show(⟨cp⟩:IT)=⟨((Go (HT.sIx (Str.mk cp).length 0 lo) cp.toList).take cp.size).toArray⟩;rw[e,HN (by simp)]
 .congr 2;rw[Hx];have:=qX (y.cps.toList.drop (HT.sIx y.length 0 lo)) (HT.sIx y.length y.length hi - HT.sIx y.length 0 lo);rw[<- this];congr 1;funext k;simp
section
variable {X:Cx}[J:Jx]{a b c e:Qo}{ta tb tc te:TD}{pos:QC}
def qY:R2:=λx y H Q=>∃ i n,x= .str i/\y= .int n/\(-(2 ^ 62)<=n/\n<=1000000/\i.length*n.toNat<=1000000)/\Q (.str (repS i n.toNat)) H
def yt:OpR X (QI .Mult) qY:=by
 intro pins s σ H x y v u Q I rx ry h;obtain⟨i,n,rfl,rfl,⟨h1,h2,h3⟩,q⟩:=h;obtain⟨t,rfl⟩:=rx;obtain⟨t',rfl⟩:=ry;have f6:∀ tk t2,EP X pins σ Q (.str (repS i n.toNat) t2) {s with toks:=tk}:=λtk t2=>⟨.str _,H,I.tok tk,⟨_,rfl⟩,q⟩;have hs:i.length*n.toNat<=sizeLine:=E1 h3 (by decide);refine PySem.P.mul_str (by
  have a1:¬ n< -(2 ^ 63:Int):=by lia
  have a2:¬ n >= 2 ^ 63:=by lia
  rw[decide_eq_false a1,decide_eq_false a2];rfl) (λn1 n2 hg=>?_) (λn1 n2=>?_) ?_
 .have hn:0<n:=by lia
  have h5:(2 ^ 63 - 1) / n >= 1000000000000:=by
   have:(1000000000000:Int)*n<=2 ^ 63 - 1:=by lia
   exact HP hn this
  have h6:i.length<=1000000:=by
   have:i.length*1<=i.length*n.toNat:=HQ _ (by lia);lia
  lia
 .unfold Builtin.Str.tooLong;exact decide_eq_false (by lia)
 .by_cases c1:n<1
  .rw[if_pos c1];have e0:n.toNat=0:=by lia
   have:=f6 (s.toks+1) s.toks;rw[e0] at this;exact⟨Fl _,this⟩
  .rw[if_neg c1];by_cases c2:(n==1||i.length==0)=true
   .rw[if_pos c2];have e1:repS i n.toNat=i:=by
     rcases HK.mp c2 with c|c
     .have:n=1:=by simpa using c
      subst this;show(⟨(EQ 1 i.cps.toList).flatten.toArray⟩:IT)=i;simp
     .have h0:i.length=0:=by simpa using c
      have h1:i.cps=#[]:=HM h0;obtain⟨cp⟩:=i;dsimp only at h1;subst h1;show(⟨(EQ n.toNat []).flatten.toArray⟩:IT)=⟨#[]⟩;simp
    have:=f6 s.toks t;rw[e1] at this;exact this
   .rw[if_neg c2];have:=f6 (s.toks+1) s.toks;unfold repS at this;rw[<- qW] at this;refine⟨?_,this⟩;show((EQ n.toNat i.cps).foldl (·++·) #[]).size<=sizeLine;rw[qW,EO];have:=jW i n.toNat;have e3:(repS i n.toNat).length=(EQ n.toNat i.cps.toList).flatten.length:=by show(EQ n.toNat i.cps.toList).flatten.toArray.size=_;rw[EO]
    rw[<- e3,this,G1];exact hs
def rdMulX:RD2:=λx y R=>match x,y with
 | .int i,.int j=>CMul i j/\R (.int (i*j))
 | .str i,.int n=>(-(2 ^ 62)<=n/\n<=1000000/\i.length*n.toNat<=1000000)/\R (.str (repS i n.toNat))
 | .lst xs,.int n=>(-(2 ^ 62)<=n/\n<=1000000/\xs.length*n.toNat<=1000000)/\R (.lst (EQ n.toNat xs).flatten)
 |_,_=>False
def Reps.rep{K:Ex}{F:Hp}{xs:List D}{us:List V}(r:Reps K F xs us):∀ n:Nat,Reps K F (EQ n xs).flatten (EQ n us).flatten
 |0=>reps_nil.mpr rfl
 |n+1=>by
  rw[Fv,FH,Fv,FH];exact r.append (Reps.rep r n)
def yu{K:Ex}:aR K (λx y H Q=>rI CMul (λi j=> .int (i*j)) x y H Q\/(qY x y H Q\/rRep x y H Q)) rdMulX:=by
 intro x y u v F H R Q fh h rx ry q;unfold rdMulX at h;split at h
 .exact .inl ⟨_,_,rep_int.mp rx,rep_int.mp ry,h.1,q _ _ F H (Grow.refl fh) h.2 (rep_int.mpr rfl)⟩
 .exact .inr (.inl ⟨_,_,rep_str.mp rx,rep_int.mp ry,h.1,q _ _ F H (Grow.refl fh) h.2 (rep_str.mpr rfl)⟩)
 .obtain⟨l,vs,rfl,hq,rr⟩:=rep_lst.mp rx;obtain⟨⟨h1,h2,h3⟩,h⟩:=h;refine .inr (.inr ⟨l,_,vs,rfl,rep_int.mp ry,fh _ _ hq,by lia,by lia,by rw[rr.length];exact E1 h3 (by decide),λp hp=>?_⟩);exact q _ _ _ _ (Grow.new fh hp _) h (rep_lst.mpr ⟨p,_,rfl,ay,(Reps.rep rr _).mono (aS (fh.free hp) _)⟩)
 .exact h.elim
def fJ(ha:WDE X a ta)(hb:WDE X b tb):WDE X (.BinOp a .Mult b pos) (dOp rdMulX ta tb):=⟨have ha:=ha.out;have hb:=hb.out;cW (OpR.or ph (OpR.or yt wJ)) yu ha hb⟩
def yw:SlR X (λx lo hi H Q=>∃ y,x= .str y/\y.length<=sizeLine/\Q (.str (Txt.slice y lo hi)) H):=by
 intro pins s σ H x v vl vu lo hi sl Q I rx hs pl pu h;obtain⟨y,rfl,hz,q⟩:=h;obtain⟨t,rfl⟩:=rx;have f6:∀ t' k,EP X pins σ Q (.str (Txt.slice y lo hi) t') {s with toks:=k}:=λt' k=>⟨.str _,H,I.tok k,⟨_,rfl⟩,q⟩;have le:=E1 (Txt.slice_le y lo hi) hz;refine⟨"str",_,PySem.F.slot_str_getitem.lookup,RY _ _ _,?_⟩;cases pl with
 |none=>cases pu with
  |none=>exact QT (l:=z7) (u:=z7) (st:=z7) hs rfl (Rc ⟨le,f6⟩)
  |int j tj=>exact QT (l:=z7) (u:=be (j,tj)) (st:=z7) hs rfl (Rc ⟨le,f6⟩)
 |int i ti=>cases pu with
  |none=>exact QT (l:=be (i,ti)) (u:=z7) (st:=z7) hs rfl (Rc ⟨le,f6⟩)
  |int j tj=>exact QT (l:=be (i,ti)) (u:=be (j,tj)) (st:=z7) hs rfl (Rc ⟨le,f6⟩)
abbrev TDO:=SD->(Option Int->Prop)->Prop
def yx:TDO:=λ_ R=>R z7
def yy(te:TD):TDO:=λz R=>te z λx=>match x with| .int i=>R (be i)|_=>False
def lO(K:Ex)[J:Jx](t:TDO):TO:=λs H Q=>∃ B F z,Kept B J.F0 F H/\RepS K B F H z s/\∃ R:Option Int->Prop,t z R/\∀ o F' H',Grow F H F' H'->R o->Q o H'
abbrev DPO(X:Cx)[Jx](e:Option Qo)(t:TDO):Prop:=PO X e (lO X.K t)
structure WDPO(X:Cx)[Jx](e:Option Qo)(t:TDO):Prop where
 out:DPO X e t
def PO.anti{X:Cx}{e:Option Qo}{t t':TO}(h:PO X e t)(a:∀ s H Q,t' s H Q->t s H Q):PO X e t':=λpins s σ H Q I q=>h pins s σ H Q I (a _ _ _ q)
def eM:WDPO X z7 yx:=⟨PO.anti wn λs H Q q=>by
 obtain⟨B,F,z,kf,rs,R,h1,h2⟩:=q;exact h2 z7 F H (Grow.refl kf.fh) h1⟩
def eN(he:WDE X e te):WDPO X (be e) (yy te):=⟨have he:=he.out;PO.anti (wo he) λs H Q q=>by
 obtain⟨B,F,z,kf,rs,R,h1,h2⟩:=q;refine⟨B,F,z,kf,rs,_,h1,λx u F1 H1 g1 hx rx=>?_⟩;split at hx
 .exact⟨_,rep_int.mp rx,h2 _ F1 H1 g1 hx⟩
 .exact hx.elim⟩
def rdSl:D->Option Int->Option Int->(D->Prop)->Prop:=λx lo hi R=>match x with
 | .str y=>y.length<=1000000/\R (.str (Txt.slice y lo hi))
 | .lst xs=>R (.lst (cutD xs lo hi))
 | .rol xs=>R (.lst (cutD xs lo hi))
 | .tup xs=>¬ (HT.sIx xs.length 0 lo=0/\HT.sIx xs.length xs.length hi=xs.length)/\R (.tup (cutD xs lo hi))
 |_=>False
def dSl(ta:TD)(tl th:TDO):TD:=λz R=>ta z λx=>tl z λlo=>th z λhi=>rdSl x lo hi R
def eO{lo hi:Option Qo}{tl th:TDO}{p2:QC}(ha:WDE X a ta)(hl:WDPO X lo tl)(hu:WDPO X hi th):WDE X (.Subscript a (.Slice lo hi z7 p2) pos) (dSl ta tl th):=⟨have ha:=ha.out;have hl:=hl.out;have hu:=hu.out;(wq (SlR.or yw (SlR.or wA wr)) ha hl hu).anti λs H Q q=>by
 obtain⟨B,F,z,kf,rs,R,h1,h2⟩:=q;refine⟨B,F,z,kf,rs,_,h1,λx u F1 H1 g1 hx rx=>?_⟩;refine⟨B,F1,z,kf.grow g1,rs.grow g1,_,hx,λlo F2 H2 g2 hy=>?_⟩;refine⟨B,F2,z,(kf.grow g1).grow g2,(rs.grow g1).grow g2,_,hy,λhi F3 H3 g3 hw=>?_⟩;have g:=g1.trans (g2.trans g3);have Ll:=(rx.mono g2.ff).mono g3.ff;unfold rdSl at hw;split at hw
 .exact .inl ⟨_,rep_str.mp Ll,E1 hw.1 (by decide),h2 _ _ F3 H3 g hw.2 (rep_str.mpr rfl)⟩
 .obtain⟨l,vs,rfl,hq,rr⟩:=rep_lst.mp Ll;refine .inr (.inl ⟨l,vs,rfl,SqL.of (g3.fh _ _ hq),λp hp=>?_⟩);exact h2 _ _ _ _ (g.trans (Grow.new g3.fh hp _)) hw (rep_lst.mpr ⟨p,_,rfl,ay,(rr.cut _ _).mono (aS (g3.fh.free hp) _)⟩)
 .obtain⟨l,vs,rfl,hq,rr⟩:=rep_rol.mp Ll;refine .inr (.inl ⟨l,vs,rfl,g3.fh.seq hq,λp hp=>?_⟩);exact h2 _ _ _ _ (g.trans (Grow.new g3.fh hp _)) hw (rep_lst.mpr ⟨p,_,rfl,ay,(rr.cut _ _).mono (aS (g3.fh.free hp) _)⟩)
 .obtain⟨l,vs,rfl,hq,rr⟩:=rep_tup_mp Ll;refine .inr (.inr ⟨l,vs,rfl,g3.fh.tup hq,by rw[rr.length];exact hw.1,λp hp=>?_⟩);exact h2 _ _ _ _ (g.trans (Grow.new g3.fh hp _)) hw.2 (rep_tupS.mpr ⟨p,_,rfl,ay,(rr.cut _ _).mono (aS (g3.fh.free hp) _)⟩)
 .exact hw.elim⟩
def rdIn(neg:Bool):RD2:=λx y R=>match x,y with
 | .str i,.str j=>R (.bl (if neg then !(!(Builtin.Str.occurrences j i 0 j.length 1).isEmpty) else !(Builtin.Str.occurrences j i 0 j.length 1).isEmpty))
 |x,.lst ys=>(bn x=true/\ys.all bn=true)/\R (.bl (if neg then !(ys.any λy=>eqF y x) else ys.any λy=>eqF y x))
 |x,.rol ys=>(bn x=true/\ys.all bn=true)/\R (.bl (if neg then !(ys.any λy=>eqF y x) else ys.any λy=>eqF y x))
 |x,.tup ys=>(bn x=true/\ys.all bn=true)/\R (.bl (if neg then !(ys.any λy=>eqF y x) else ys.any λy=>eqF y x))
 |_,_=>False
def gH{K:Ex}{H:Hp}{x:D}{u:V}(rx:Rep K H x u)(fx:bn x=true):∀ {ys:List D} {vs:List V},Reps K H ys vs->ys.all bn=true->inV u vs=ys.any λy=>eqF y x
 |[],vs,r,_=>by rw[reps_nil.mp r];rfl
 |y::ys,vs,r,f=>by
  obtain⟨v,vr,rfl,r1,r2⟩:=reps_cons.mp r;rw[FD,Ff] at f;have ih:=gH rx fx r2 f.2;unfold inV at ih ⊢;rw[FY,FY,ih,jL r1 rx f.1 fx]
def rInV(K:Ex)(neg:Bool):R2:=λx y H Q=>(∃ i j,x= .str i/\y= .str j/\Q (.bl (if neg then !(!(Builtin.Str.occurrences j i 0 j.length 1).isEmpty) else !(Builtin.Str.occurrences j i 0 j.length 1).isEmpty)) H)\/rIn K neg x y H Q
def yz{K:Ex}{neg:Bool}:aR K (rInV K neg) (rdIn neg):=by
 intro x y u v F H R Q fh h rx ry q;unfold rdIn at h;split at h
 .exact .inl ⟨_,_,rep_str.mp rx,rep_str.mp ry,q _ _ F H (Grow.refl fh) h (rep_bl.mpr rfl)⟩
 .obtain⟨⟨f1,f2⟩,h⟩:=h;obtain⟨l,vs,rfl,hq,rr⟩:=rep_lst.mp ry;exact .inr ⟨l,vs,rfl,.inl (fh.seq (SqL.of hq)),eG rx f1,de rr f2,q _ _ F H (Grow.refl fh) h (rep_bl.mpr (by rw[gH rx f1 rr f2]))⟩
 .obtain⟨⟨f1,f2⟩,h⟩:=h;obtain⟨l,vs,rfl,hq,rr⟩:=rep_rol.mp ry;exact .inr ⟨l,vs,rfl,.inl (fh.seq hq),eG rx f1,de rr f2,q _ _ F H (Grow.refl fh) h (rep_bl.mpr (by rw[gH rx f1 rr f2]))⟩
 .obtain⟨⟨f1,f2⟩,h⟩:=h;obtain⟨l,vs,rfl,hq,rr⟩:=rep_tup_mp ry;exact .inr ⟨l,vs,rfl,.inr (fh.tup hq),eG rx f1,de rr f2,q _ _ F H (Grow.refl fh) h (rep_bl.mpr (by rw[gH rx f1 rr f2]))⟩
 .exact h.elim
def yB:OpR X (QA .NotIn) (rInV X.K true):=OpR.or wC wB
end
end My
namespace L2
def Its(x:IT):It:=⟨λi _=>i<x.length,λi H v H'=>H'=H/\∃ c,x.cps[i]?=be c/\v= .str ⟨#[c]⟩,λi _=>x.length<=i⟩
def yD{P:P3}{w:Qt}{K:Ex}{tg:Qo}(x:IT)(t:Tok)(it:KF):Turn P w K tg (Its x) [it] it (λi h=>h.IsStrIter it "str_ascii_iterator" x t i) where
 mem:=by simp
 obj:=λi h st b hb=>by
  have e:b=it:=by simpa using hb
  subst e;obtain⟨o,e,c,d⟩:=st;exact⟨o,e,λv z=>by rw[d] at z;cases z⟩
 keep:=λi h h' st k=>by
  obtain⟨o,e,r⟩:=st;exact⟨o,k it (by simp) o e,r⟩
 item:=by
  intro X hP hw hK hc i pins s σ H E I hf st hg;subst hP hw hK;have hi:i<x.cps.size:=hg;obtain⟨f0,f1,f2,f3,f4,f5⟩:=hf it (by simp);refine wpAny_pyNext_ascii_item st (c:=x.cps[i]) (HR hi) λh' st' sb=>?_;have I1:Inv X pins σ H {s with heap:=h',toks:=s.toks+1}:=I.turned (t':=s.toks+1) (λb o hb e=>(sb.2 b hb).trans e) f0 f1 f3 f4 f5;obtain⟨o,e,c,d⟩:=id st';exact⟨_,rfl,jt (s:={s with heap:=h',toks:=s.toks+1}) e c d (by decide) ⟨.str ⟨#[x.cps[i]]⟩,H,I1,⟨_,rfl⟩,⟨rfl,_,HR hi,rfl⟩,st',λb hb=>(hf b hb).1⟩⟩
 done:=by
  intro X hP hw hK hc i pins s σ H E I hf st hg;subst hP hw hK;have hi:x.cps.size<=i:=hg;obtain⟨f0,f1,f2,f3,f4,f5⟩:=hf it (by simp);exact wpAny_pyNext_ascii_end (I.ok.hd hc) st (Array.getElem?_eq_none hi) λh' eb=>⟨rfl,I.turned (t':=s.toks) (λb o hb e=>eb b o hb e) f0 f1 f3 f4 f5⟩
 self:=λA i s Q E st hQ=>wpAny_pyIter_striter_ascii st hQ
def iStr(tl:TE):TI:=λσ H R=>tl σ H λv H1=>∃ x,v= .str x/\x.cps.all (·<128)=true/\R (Its x) H1
def yF{X:Cx}{tg l:Qo}{tl:TE}(hl:PE X l tl):PI X tg l (iStr tl):=by
 intro pins s σ H R I h;refine thn (hl pins s σ H _ I h) λv s1 c7=>?_;obtain⟨v1,H1,I1,r1,q1⟩:=c7;obtain⟨x,rfl,ha,q⟩:=q1;obtain⟨t,rfl⟩:=r1;refine wpAny_pyIter_ascii ha ?_;refine⟨s1.heap.objs.size,[s1.heap.objs.size],_,_,H1,rfl,I1.kept (t':=s1.toks) λb o e=>Heap.get?_push_of_some _ e,yD x t _,⟨_,Heap.get?_push_size _ rfl,rfl,rfl⟩,λb hb=>?_,q⟩;have e:b=s1.heap.objs.size:=by simpa using hb
 subst e;exact I1.fpOk (EK _) (I1.hok.fresh (EK _))
end L2
namespace My
section
variable {X:Cx}[J:Jx]{a b c e:Qo}{ta tb tc te:TD}{pos:QC}
def bE(x:IT):List D:=x.cps.toList.map λc=>D.str ⟨#[c]⟩
def dItS(t:TD):TDI:=λz R=>t z λy=>match y with| .str x=>x.cps.all (·<128)=true/\R (bE x)|_=>False
def jX{x:IT}{k c:Nat}(h:x.cps[k]?=be c):(bE x)[k]?=be (.str ⟨#[c]⟩):=by
 unfold bE;rw[E3,Array.getElem?_toList,h];rfl
def gI(x:IT):(bE x).length=x.length:=by unfold bE;rw[EY];simp[Str.length]
variable {f8 iter:Qo}{x:IT}{px:QC}{scope:QS}{ti:TD}
def itS{K:Ex}:ItOk K (iStr (lE K ti)) (dItS ti):=λ{s H B F z P Q} kf rs h1 h2=>by
 refine⟨B,F,z,kf,rs,_,h1,λd v F1 H1 g1 hd rd=>?_⟩;split at hd
 .rename_i y;obtain⟨ha,hd⟩:=hd;have hl:=gI y;refine⟨y,rep_str.mp rd,ha,h2 _ _ F1 H1 g1 hd ⟨λk F' H' G hk=>by rw[hl] at hk;exact hk,λk F' H' v H'' G hk hy=>?_,λF' H' G=>by show y.length<=_;rw[hl];exact EK _⟩⟩;obtain⟨e,c,hc,rfl⟩:=hy;exact⟨e,.str ⟨#[c]⟩,jX hc,rep_str.mpr rfl⟩
 .exact hd.elim
end
section
variable {X:Cx}[J:Jx]{a b c e o:Qo}{es:List Qo}{ta tb tc te to:TD}{t:TDA}{pos:QC}
abbrev RTx:=IT->List D->(D->Prop)->Prop
def dTx(r:RTx)(to:TD)(t:TDA):TD:=λz R=>to z λx=>match x with| .str y=>t z λds=>r y ds R|_=>False
def MtS(X:Cx)(id:String)(r:RTx):Prop:=∃ rv:V->List V->Hp->VK->Prop,MtR X id rv/\∀ (y:IT) (ds:List D) (vs:List V) (F H:Hp) (R:D->Prop) (Q:VK),Reps X.K F ds vs->r y ds R->(∀ d v,(∀ G,Rep X.K G d v)->R d->Q v H)->rv (.str y) vs H Q
variable{apos cpos:QC}
def jY{name:IT}{id:String}{r:RTx}(slot:Slot "str" name id)(LI:typeOf (.builtin id)=pure (.type "method_descriptor"))(hm:MtS X id r)(ho:DE X o to)(ha:DA X (e::es) t)
  (c8:autoParam (Qy o name X.env (Qx o X.env)=Qx o X.env) zA0)
  (e_:autoParam (zHF X cpos (e::es)) zA0)
  (d4:autoParam ((apos.endLine==cpos.line)=true) zA0) (hs:autoParam (zSE X e es) zA0) (o6:autoParam (zPL X cpos es) zA0):
  DE X (.Call (.Attribute o name apos) (e::es) [] cpos) (dTx r to t):=by
 obtain⟨rv,hm,L⟩:=hm;refine(dY PySem.F.plainAttrs_str slot LI hm ho ha c8 e_ d4 hs o6).anti λs H Q q=>?_;obtain⟨B,F,z,kf,rs,R,h1,h2⟩:=q;refine⟨B,F,z,kf,rs,_,h1,λx u F1 H1 g1 hx rx=>?_⟩;split at hx
 .rename_i y;rw[rep_str.mp rx];refine⟨rfl,B,F1,z,kf.grow g1,rs.grow g1,_,hx,λds vs F2 H2 g2 hy ry=>?_⟩;exact L y ds vs F2 H2 R Q ry hy λd v rd hR=>h2 d v F2 H2 (g1.trans g2) hR (rd F2)
 .exact hx.elim
def EG:RTx:=λy ds R=>match ds with|[.str p]=>R (.bl (Txt.startswith y p))|_=>False
def rEnds:RTx:=λy ds R=>match ds with|[.str p]=>R (.bl (Txt.endswith y p))|_=>False
def ms_ends:MtS X "str.endswith" rEnds:=by
 refine⟨λx vs H Q=>∃ y p,x= .str y/\vs=[.str p]/\Q (.bl (Txt.endswith y p)) H,?_,?_⟩
 .intro pins s σ H x vs v us Q I rx rv h;obtain⟨y,p,rfl,rfl,q⟩:=h;obtain⟨t,rfl⟩:=rx;obtain⟨u,rfl,t',rfl⟩:=bG rv;exact SC.endswith ⟨.bl _,H,I,rfl,q⟩
 .intro y ds vs F H R Q r h q;unfold rEnds at h;split at h
  .obtain⟨v,vr,rfl,h1,h2⟩:=reps_cons.mp r;rw[reps_nil.mp h2,rep_str.mp h1];exact⟨_,_,rfl,rfl,q _ _ (λ_=>rep_bl.mpr rfl) h⟩
  .exact h.elim
def yG(ho:WDE X o to)(ha:WDA X [e] t)(c8:autoParam (Qy o "endswith" X.env (Qx o X.env)=Qx o X.env) zA0)
  (e_:autoParam (zHF X cpos [e]) zA0)
  (d4:autoParam ((apos.endLine==cpos.line)=true) zA0) (hs:autoParam (zSE X e []) zA0):WDE X (.Call (.Attribute o "endswith" apos) [e] [] cpos) (dTx rEnds to t):=⟨have ho:=ho.out;have ha:=ha.out;jY PySem.F.slot_str_endswith PySem.F.type_str_endswith ms_ends ho ha c8 e_ d4 hs⟩
def rSIndex:RTx:=λy ds R=>match ds with|[.str p]=>∃ i rest,Builtin.Str.occurrences y p 0 y.length 1=i::rest/\R (.int (i:Nat))|_=>False
def yH:MtS X "str.index" rSIndex:=by
 refine⟨λx vs H Q=>∃ y p i rest,x= .str y/\vs=[.str p]/\Builtin.Str.occurrences y p 0 y.length 1=i::rest/\Q (.int (i:Nat)) H,?_,?_⟩
 .intro pins s σ H x vs v us Q I rx rv h;obtain⟨y,p,i,rest,rfl,rfl,ho,q⟩:=h;obtain⟨t,rfl⟩:=rx;obtain⟨u,rfl,t',rfl⟩:=bG rv;exact SC.index ho ⟨.int _,H,I.tok _,⟨_,rfl⟩,q⟩
 .intro y ds vs F H R Q r h q;unfold rSIndex at h;split at h
  .obtain⟨i,rest,ho,h⟩:=h;obtain⟨v,vr,rfl,h1,h2⟩:=reps_cons.mp r;rw[reps_nil.mp h2,rep_str.mp h1];exact⟨_,_,i,rest,rfl,rfl,ho,q _ _ (λ_=>rep_int.mpr rfl) h⟩
  .exact h.elim
def yI(ho:WDE X o to)(ha:WDA X [e] t)(c8:autoParam (Qy o "index" X.env (Qx o X.env)=Qx o X.env) zA0)
  (e_:autoParam (zHF X cpos [e]) zA0)
  (d4:autoParam ((apos.endLine==cpos.line)=true) zA0) (hs:autoParam (zSE X e []) zA0):WDE X (.Call (.Attribute o "index" apos) [e] [] cpos) (dTx rSIndex to t):=⟨have ho:=ho.out;have ha:=ha.out;jY PySem.F.slot_str_index PySem.F.type_str_index yH ho ha c8 e_ d4 hs⟩
def Reps.init{K:Ex}{F:Hp}:∀ {ds:List D} {vs:List V},Reps K F ds vs->Reps K F ds.dropLast vs.dropLast
 |[],vs,r=>by rw[reps_nil.mp r];exact reps_nil.mpr rfl
 |[d],vs,r=>by
  obtain⟨v,vr,rfl,_,h2⟩:=reps_cons.mp r;rw[reps_nil.mp h2];exact reps_nil.mpr rfl
 |d::d2::ds,vs,r=>by
  obtain⟨v,vr,rfl,h1,h2⟩:=reps_cons.mp r;obtain⟨v2,P0,rfl,h3,h4⟩:=reps_cons.mp h2;rw[HS,HS];exact reps_cons.mpr ⟨v,_,rfl,h1,Reps.init h2⟩
end
end My
namespace My
open Exc
section
variable {X:Cx}{a b c e:Qo}{ta tb tc te:TD}{pos:QC}{st:Qq}{rest:List Qq}{t u:TSD}
def bb[Jx]{c:Qo}{l r:List Qq}{tc:TDT}(hc:WDT X c tc)(ha:WDSs X l t)(hb:WDSs X r u):WDS X (.If c l r pos) (dIfS tc t u):=⟨qt (c:=c) (l:=l) (r:=r) (tc:=tc) (hc:=hc.out) (ha:=ha.out) (hb:=hb.out)⟩
end
section
variable {P:P3}{w:Qt}{K:Ex}{mg:IT->Option KB}{base:Heap}
variable{x:IT}{st:Qq}{f:KF}{fd:Qz}{N ps:List IT}{k:Nat}
def _root_.L2.Fun.okDW{S:SpD}(T:Fun K x x st f fd)(F:FnScope N ps (af st))(len:∀ ds R,S ds R->ds.length=ps.length)
  (b9:∀ (cdv:KB) (A:Qu) (outer:List Q4) (s:KM) (H:Hp) (E:XK) (J:Jx),Room k (A.deeper (QD x (af st) s.heap.objs.size f cdv))->
   ∃ t,WDSs (cxOf (Exc.CX1 P w) P w K mg base N x (af st) f cdv A outer s H E).nox (aE st) t/\∀ ds R,S ds R->t {nx:=λ_=>R .non,rt:=R} (startD N ds)):FnOk P w K mg base (Exc.CX1 P w) (k+1) f fd ps (lSp K S):=
 T.okD F len λcdv A outer s H E J hr=>let ⟨t,h,q⟩:=b9 cdv A outer s H E J hr;⟨t,h.out,q⟩
def Tx.okDW{S:SpD}(T:Tx K mg x st ps)(F:FnScope N ps (af st))(len:∀ ds R,S ds R->ds.length=ps.length)
  (b9:∀ (f:KF) (cdv:KB) (A:Qu) (outer:List Q4) (s:KM) (H:Hp) (E:XK) (J:Jx),Room k (A.deeper (QD x (af st) s.heap.objs.size f cdv))->
   ∃ t,WDSs (cxOf (Exc.CX1 P w) P w K mg base N x (af st) f cdv A outer s H E).nox (aE st) t/\∀ ds R,S ds R->t {nx:=λ_=>R .non,rt:=R} (startD N ds)):CalD P w K mg base (k+1) x ps S:=
 Tx.okD T F len λf cdv A outer s H E J hr=>let ⟨t,h,q⟩:=b9 f cdv A outer s H E J hr;⟨t,h.out,q⟩
def Tx.okXW{S:SpX}(T:Tx K mg x st ps)(F:FnScope N ps (af st))(len:∀ ds R RX,S ds R RX->ds.length=ps.length)
  (b9:∀ (f:KF) (cdv:KB) (A:Qu) (outer:List Q4) (s:KM) (H:Hp) (E:XK) (J:Jx),Room k (A.deeper (QD x (af st) s.heap.objs.size f cdv))->XOk (cxOf (CX1 P w) P w K mg base N x (af st) f cdv A outer s H E)->
   ∃ t,WDSs (cxOf (CX1 P w) P w K mg base N x (af st) f cdv A outer s H E) (aE st) t/\∀ ds R RX,(∀ z,J.RX z=RX)->S ds R RX->t {nx:=λ_=>R .non,rt:=R} (startD N ds)):CalX P w K mg base (k+1) x ps S:=
 Tx.okX T F len λf cdv A outer s H E J hr hx=>let ⟨t,h,q⟩:=b9 f cdv A outer s H E J hr hx;⟨t,h.out,q⟩
def Cls.okIW{qual:IT}{C:KF}{p0:IT}{S:SiD}(T:Fun K "__init__" qual st f fd)(hb:Binds K fd (p0::ps) [])(F:FnScope (p0::N) (p0::ps) (af st))(len:∀ ds R,S ds R->ds.length=ps.length)
  (hns:nsIn K Pi x=be (be (.ref C))) (m6:mg x=be (.ref C)) (mk:Mk K C f)
  (b9:∀ (cdv:KB) (A:Qu) (outer:List Q4) (s:KM) (H:Hp) (E:XK) (J:Jx),Room k (A.deeper (QD qual (af st) s.heap.objs.size f cdv))->
   ∃ t,WDI (cxOf (Exc.CX1 P w) P w K mg base (p0::N) qual (af st) f cdv A outer s H E).nox x (aE st) t/\∀ ds R,S ds R->t (z7::startD N ds) [] R):CalM P w K mg base (k+1) x (p0::ps) S:=
 Cls.okI T hb F len hns m6 mk λcdv A outer s H E J hr=>let ⟨t,h,q⟩:=b9 cdv A outer s H E J hr;⟨t,h.out,q⟩
def Cls.okEW{qual:IT}{C N0:KF}{bm:List KB}{p0:IT}{S:SiD}(T:Fun K "__init__" qual st f fd)(hb:Binds K fd (p0::ps) [])(F:FnScope (p0::N) (p0::ps) (af st))(len:∀ ds R,S ds R->ds.length=ps.length)
  (ek:ErrK K mg x C N0 bm) (hi:ES K (.ref C) "__init__"=be (be (.ref f))) (hf:isFn K (.ref f)=true)
  (b9:∀ (cdv:KB) (A:Qu) (outer:List Q4) (s:KM) (H:Hp) (E:XK) (J:Jx),Room k (A.deeper (QD qual (af st) s.heap.objs.size f cdv))->
   ∃ t,WDX (cxOf (CX1 P w) P w K mg base (p0::N) qual (af st) f cdv A outer s H E).nox x (aE st) t/\∀ ds R,S ds R->t (z7::startD N ds) [] R):CalE P w K mg base (k+1) x (p0::ps) S:=
 Cls.okE T hb F len ek hi hf λcdv A outer s H E J hr=>let ⟨t,h,q⟩:=b9 cdv A outer s H E J hr;⟨t,h.out,q⟩
end
inductive MO where
 |ins (x:Str) (fs:List (Str × D))|lst (ds:List D)|dti (a9:List ((Int × Int) × Int))
abbrev MS:=List (KF × MO)
def MRep(K:Ex)(F H:Hp)(a:KF):MO->Prop
 | .ins x fs=>∃ C dx ws,nsIn K Pi x=be (be (.ref C))/\H a=be (.ins C dx ws)/\RepF K F fs ws
 | .lst ds=>∃ vs,H a=be (.lst vs)/\Reps K F ds vs
 | .dti a9=>H a=be (.dT (dtiV a9))
def au(M:MS):List KF:=M.map (·.1)
def mget:MS->KF->Option MO
 |[],_=>z7
 |(b,o)::r,a=>if b=a then be o else mget r a
def mput:MS->KF->MO->MS
 |[],_,_=>[]
 |(b,p)::r,a,o=>if b=a then(b,o)::r else(b,p)::mput r a o
def mdel:MS->KF->MS
 |[],_=>[]
 |(b,p)::r,a=>if b=a then r else(b,p)::mdel r a
def bN:∀ {M:MS} {a:KF} {o:MO},mget M a=be o->(a,o)∈M
 |[],_,_,h=>by cases h
 |(b,p)::r,a,o,h=>by
  unfold mget at h;split at h
  .rename_i e;subst e;cases h;exact E2
  .exact EV _ (bN h)
variable{M:MS}{a:KF}{o:MO}
def cx(h:(a,o)∈M):a∈au M:=Fg.mpr ⟨_,h,rfl⟩
def gJ:∀ (M:MS) (a:KF) (o:MO),au (mput M a o)=au M
 |[],_,_=>rfl
 |(b,p)::r,a,o=>by
  unfold mput;split
  .rfl
  .show b::au (mput r a o)=b::au r;rw[gJ r a o]
def mem_put:∀ {M:MS} {a b:KF} {o q:MO},(au M).Nodup->(b,q)∈mput M a o->(b=a/\q=o/\a∈au M)\/(b≠a/\(b,q)∈M)
 |[],_,_,_,_,_,h=>by cases h
 |(c,p)::r,a,b,o,q,nd,h=>by
  have KG:c ∉ au r/\(au r).Nodup:=FG.mp nd;unfold mput at h;split at h
  .rename_i e;subst e;rcases ER.mp h with z|z
   .cases z;exact .inl ⟨rfl,rfl,E2⟩
   .have:b∈au r:=cx z;exact .inr ⟨λe=>KG.1 (e ▸ this),EV _ z⟩
  .rename_i ne;rcases ER.mp h with z|z
   .cases z;exact .inr ⟨ne,E2⟩
   .rcases mem_put KG.2 z with⟨e1,e2,e3⟩|⟨e1,e2⟩
    .exact .inl ⟨e1,e2,EV _ e3⟩
    .exact .inr ⟨e1,EV _ e2⟩
def jZ:∀ {M:MS} {a b:KF} {q:MO},(au M).Nodup->(b,q)∈mdel M a->b≠a/\(b,q)∈M
 |[],_,_,_,_,h=>by cases h
 |(c,p)::r,a,b,q,nd,h=>by
  have KG:c ∉ au r/\(au r).Nodup:=FG.mp nd;unfold mdel at h;split at h
  .rename_i e;subst e;exact⟨λe=>KG.1 (e ▸ cx h),EV _ h⟩
  .rename_i ne;rcases ER.mp h with z|z
   .cases z;exact⟨ne,E2⟩
   .obtain⟨e1,e2⟩:=jZ KG.2 z;exact⟨e1,EV _ e2⟩
def del_sub:∀ {M:MS} {a:KF},(au (mdel M a)).Sublist (au M)
 |[],_=> .slnil
 |(c,p)::r,a=>by
  unfold mdel;split
  .exact List.sublist_cons_self _ _
  .exact List.Sublist.cons_cons _ del_sub
variable{K:Ex}{F H F' H':Hp}
def MRep.mono(ff:Same F F')(hh:∀ o,H a=be o->H' a=be o):∀ {o:MO},MRep K F H a o->MRep K F' H' a o
 | .ins x fs,⟨C,dx,ws,n,h,r⟩=>⟨C,dx,ws,n,hh _ h,RepF.mono ff fs ws r⟩
 | .lst ds,⟨vs,h,r⟩=>⟨vs,hh _ h,Reps.mono ff ds vs r⟩
 | .dti a9,h=>hh _ h
def MRep.there:∀ {o:MO},MRep K F H a o->H a≠z7
 | .ins x fs,⟨C,dx,ws,n,h,r⟩=>by rw[h];exact λz=>nomatch z
 | .lst ds,⟨vs,h,r⟩=>by rw[h];exact λz=>nomatch z
 | .dti a9,h=>by rw[show H a=_ from h];exact λz=>nomatch z
structure RepM(K:Ex)(F H:Hp)(M:MS):Prop where
 nd:(au M).Nodup
 ok:∀ a o,(a,o)∈M->MRep K F H a o
 fr:∀ a,a∈au M->F a=z7
def RepM.nil:RepM K F H []:=⟨HE,(λ_ _ h=>nomatch h),(λ_ h=>nomatch h)⟩
def RepM.here(r:RepM K F H M)(h:a∈au M):H a≠none:=by
 obtain⟨⟨b,o⟩,h1,rfl⟩:=Fg.mp h;exact(r.ok _ _ h1).there
structure GrowM(M M':MS)(F H F' H':Hp):Prop where
 ff:Same F F'
 fh:Same F' H'
 hh:∀ b o,b ∉ au M->H b=be o->H' b=be o
 out:∀ b,b ∉ au M->F b=z7->H b≠z7->F' b=z7
 ks:∀ b,b∈au M'->b∈au M\/H b=z7
def Grow.toM(g:Grow F H F' H'):GrowM M M F H F' H':=⟨g.ff,g.fh,λb o _ h=>g.hh b o h,λb _ h1 h2=>g.out b h1 h2,λb h=> .inl h⟩
def GrowM.refl(h:Same F H):GrowM M M F H F H:=(Grow.refl h).toM
def GrowM.trans{M1 M2:MS}{F1 H1 F2 H2:Hp}(g:GrowM M M1 F H F1 H1)(k:GrowM M1 M2 F1 H1 F2 H2):GrowM M M2 F H F2 H2 where
  ff:=g.ff.trans k.ff
  fh:=k.fh
  hh:=λb o nb h=>k.hh b o (λz=>by rcases g.ks b z with q|q;exact nb q;rw[q] at h;cases h) (g.hh b o nb h)
  out:=λb nb h1 h2=>k.out b (λz=>by rcases g.ks b z with q|q;exact nb q;exact h2 q) (g.out b nb h1 h2) (by
    cases e:H b with
    |none=>exact absurd e h2
    |some o=>rw[g.hh b o nb e];exact λz=>nomatch z)
  ks := λb h=>by
    rcases k.ks b h with q|q
    . exact g.ks b q
    . by_cases nb:b∈au M
      . exact .inl nb
      . right;cases e:H b with
        |none=>rfl
        |some o=>rw[g.hh b o nb e] at q;cases q
def RepM.grow(r:RepM K F H M)(g:Grow F H F' H'):RepM K F' H' M:=
 ⟨r.nd,λa o h=>(r.ok a o h).mono g.ff λo e=>g.hh a o e,λa h=>g.out a (r.fr a h) (r.here h)⟩
variable{ho:HO}
def RepM.put{o':MO}(r:RepM K F H M)(e:mget M a=be o)(h:MRep K F (upd H a ho) a o'):RepM K F (upd H a ho) (mput M a o'):=
 ⟨by rw[gJ];exact r.nd,λb q hb=>by
  rcases mem_put r.nd hb with⟨rfl,rfl,_⟩|⟨ne,hb⟩
  .exact h
  .exact(r.ok b q hb).mono (Same.refl F) λu z=>by rw[aj ne];exact z,λb hb=>r.fr b (by rw[gJ] at hb;exact hb)⟩
def GrowM.put{o':MO}(fh:Same F H)(fa:F a=z7)(e:mget M a=be o):GrowM M (mput M a o') F H F (upd H a ho) where
 ff:=Same.refl F
 fh:=λb u z=>by
  have ne:b≠a:=by rintro rfl;rw[fa] at z;cases z
  rw[aj ne];exact fh b u z
 hh:=λb u nb z=>by
  have ne:b≠a:=by rintro rfl;exact nb (cx (bN e))
  rw[aj ne];exact z
 out:=λb _ h _=>h
 ks:=λb h=> .inl (by rw[gJ] at h;exact h)
def RepM.new{p:KF}(r:RepM K F H M)(fh:Same F H)(hp:H p=z7)(h:MRep K F (upd H p ho) p o):RepM K F (upd H p ho) ((p,o)::M):=by
 have np:p ∉ au M:=λz=>r.here z hp;refine⟨FG.mpr ⟨np,r.nd⟩,λb q hb=>?_,λb hb=>?_⟩
 .rcases ER.mp hb with z|z
  .cases z;exact h
  .exact(r.ok b q z).mono (Same.refl F) λu z'=>by rw[aj (λe:b=p=>np (e ▸ cx z))];exact z'
 .rcases ER.mp hb with z|z
  .rw[z];exact fh.free hp
  .exact r.fr b z
def GrowM.new{p:KF}(fh:Same F H)(hp:H p=z7):GrowM M ((p,o)::M) F H F (upd H p ho) where
 ff:=Same.refl F
 fh:=fh.trans (aS hp _)
 hh:=λb u _ z=>aS hp _ b u z
 out:=λb _ h _=>h
 ks:=λb h=>by
  rcases ER.mp h with z|z
  .exact .inr (by rw[z];exact hp)
  .exact .inl z
structure RepZ(K:Ex)(B F H:Hp)(z:SD)(s:L2.St)(M:MS):Prop where
 rs:RepS K B F H z s
 no:∀ (i:Nat) ds,z[i]?≠be (be (.own ds))
 rm:RepM K F H M
 mb:∀ a,a∈au M->B a=z7
variable{B:Hp}{M':MS}
def Kept.growM[Jx]{F0:Hp}(k:Kept B F0 F H)(mb:∀ a,a∈au M->B a=z7)(g:GrowM M M' F H F' H'):Kept B F0 F' H' where
 bh:=λb o e=>g.hh b o (λz=>by rw[mb b z] at e;cases e) (k.bh b o e)
 fh:=g.fh
 f0:=k.f0.trans g.ff
 out:=λb h1 h2=>g.out b (λz=>h2 (mb b z)) (k.out b h1 h2) (by
  cases e:B b with
  |none=>exact absurd e h2
  |some o=>rw[k.bh b o e];exact λz=>nomatch z)
 eb:=k.eb
 jf:=k.jf
 jo:=k.jo
variable{z:SD}{s:L2.St}
def RepS.growM(r:RepS K B F H z s)(no:∀ (i:Nat) ds,z[i]?≠be (be (.own ds)))(g:GrowM M M' F H F' H'):RepS K B F' H' z s where
 len:=r.len
 val:=λi d e n=>let ⟨v,q1,q2⟩:=r.val i d e n;⟨v,q1,q2.mono g.ff⟩
 own:=λi ds e=>absurd e (no i ds)
 apart:=r.apart
def RepZ.growM(r:RepZ K B F H z s M)(bh:Same B H)(g:GrowM M M' F H F' H')(rm:RepM K F' H' M'):RepZ K B F' H' z s M':=
 ⟨r.rs.growM r.no g,r.no,rm,λa h=>by
  rcases g.ks a h with q|q
  .exact r.mb a q
  .exact bh.free q⟩
def RepZ.set{i:Nat}{d:D}{v:V}(r:RepZ K B F H z s M)(rd:Rep K F d v):RepZ K B F H (z.set i (be d)) (s.set i (be v)) M:=
 ⟨r.rs.set rd,λj ds e=>by
  by_cases hj:i=j
  .subst hj;rw[F7] at e;simp at e;have:=rd.noown;rw[e.2] at this;cases this
  .rw[E9 hj] at e;exact r.no j ds e,r.rm,r.mb⟩
class Jm extends Jx where
 RM:SD->MS->XD
abbrev TME:=SD->MS->(D->MS->Prop)->Prop
abbrev TMT:=SD->MS->(Bool->MS->Prop)->Prop
abbrev TMA:=SD->MS->(List D->MS->Prop)->Prop
structure EndsM where
 nx:SD->MS->Prop
 rt:D->MS->Prop
 bk:SD->MS->Prop:=λ_ _=>False
 ct:SD->MS->Prop:=λ_ _=>False
abbrev TMS:=EndsM->SD->MS->Prop
def mE(K:Ex)[J:Jm](t:TME):TE:=λs H Q=>∃ F z M,Kept J.B J.F0 F H/\RepZ K J.B F H z s M/\∃ R:D->MS->Prop,t z M R/\∀ d v M' F' H',GrowM M M' F H F' H'->R d M'->Rep K F' d v->RepM K F' H' M'->Q v H'
def mT(K:Ex)[J:Jm](t:TMT):TT:=λs H Q=>∃ F z M,Kept J.B J.F0 F H/\RepZ K J.B F H z s M/\∃ R:Bool->MS->Prop,t z M R/\∀ b M' F' H',GrowM M M' F H F' H'->R b M'->RepM K F' H' M'->Q b H'
def mA(K:Ex)[J:Jm](t:TMA):TA:=λs H Q=>∃ F z M,Kept J.B J.F0 F H/\RepZ K J.B F H z s M/\∃ R:List D->MS->Prop,t z M R/\∀ ds vs M' F' H',GrowM M M' F H F' H'->R ds M'->Reps K F' ds vs->RepM K F' H' M'->Q vs H'
structure EndsOkM[J:Jm](K:Ex)(F0:Hp)(ED:EndsM)(E:Ends):Prop where
 nx:∀ z' s' M' F' H',Kept J.B F0 F' H'->ED.nx z' M'->RepZ K J.B F' H' z' s' M'->E.nx s' H'
 rt:∀ d v M' F' H',Kept J.B F0 F' H'->ED.rt d M'->Rep K F' d v->RepM K F' H' M'->(∀ a,a∈au M'->J.B a=z7)->E.rt v H'
 bk:∀ z' s' M' F' H',Kept J.B F0 F' H'->ED.bk z' M'->RepZ K J.B F' H' z' s' M'->E.bk s' H'
 ct:∀ z' s' M' F' H',Kept J.B F0 F' H'->ED.ct z' M'->RepZ K J.B F' H' z' s' M'->E.ct s' H'
def mS(K:Ex)[J:Jm](t:TMS):TS:=λE s H=>∃ F0 F z M,Kept J.B F0 F H/\RepZ K J.B F H z s M/\∃ ED:EndsM,t ED z M/\EndsOkM K F0 ED E
structure ME(X:Cx)[Jm](e:Qo)(t:TME):Prop where
 out:PE X e (mE X.K t)
structure MT(X:Cx)[Jm](e:Qo)(t:TMT):Prop where
 out:PT X e (mT X.K t)
structure MW(X:Cx)[Jm](e:Qo)(t:TMT):Prop where
 out:PW X e (mT X.K t)
structure MA(X:Cx)[Jm](es:List Qo)(t:TMA):Prop where
 out:PA X es (mA X.K t)
structure MSt(X:Cx)[Jm](st:Qq)(t:TMS):Prop where
 out:PS X st (mS X.K t)
structure MSs(X:Cx)[Jm](st:List Qq)(t:TMS):Prop where
 out:PSs X st (mS X.K t)
section
variable {X:Cx}{a b c e:Qo}{ta tb:TME}{pos:QC}
def mP(t:TD):TME:=λz M R=>t z λd=>R d M
def mPT(t:TDT):TMT:=λz M R=>t z λd=>R d M
def mPA(t:TDA):TMA:=λz M R=>t z λd=>R d M
def ag[J:Jm]{t:TD}(h:WDE X e t):ME X e (mP t):=⟨PE.anti h.out λs H Q q=>by
 obtain⟨F,z,M,k,r,R,h1,h2⟩:=q;exact⟨J.B,F,z,k,r.rs,_,h1,λd v F' H' g hd rd=>h2 d v M F' H' g.toM hd rd (r.rm.grow g)⟩⟩
def cf[J:Jm]{t:TDT}(h:WDT X e t):MT X e (mPT t):=⟨PT.anti h.out λs H Q q=>by
 obtain⟨F,z,M,k,r,R,h1,h2⟩:=q;exact⟨J.B,F,z,k,r.rs,_,h1,λd F' H' g hd=>h2 d M F' H' g.toM hd (r.rm.grow g)⟩⟩
variable{es:List Qo}
def aA[J:Jm]{t:TDA}(h:WDA X es t):MA X es (mPA t):=⟨PA.anti h.out λs H Q q=>by
 obtain⟨F,z,M,k,r,R,h1,h2⟩:=q;exact⟨J.B,F,z,k,r.rs,_,h1,λd v F' H' g hd rd=>h2 d v M F' H' g.toM hd rd (r.rm.grow g)⟩⟩
def mOp(r:RD2)(ta tb:TME):TME:=λz M R=>ta z M λx M1=>tb z M1 λy M2=>r x y λd=>R d M2
variable{r:R2}{rd:RD2}
def qZ[J:Jm]{e:Qo}{ta tb:TME}(L:aR X.K r rd)(h:PE X e (tOp r (mE X.K ta) (mE X.K tb))):ME X e (mOp rd ta tb):=⟨h.anti λs H Q q=>by
 obtain⟨F,z,M,k,rs,R,h1,h2⟩:=q;refine⟨F,z,M,k,rs,_,h1,λx u M1 F1 H1 g1 hx rx m1=>?_⟩;refine⟨F1,z,M1,k.growM rs.mb g1,rs.growM k.bh g1 m1,_,hx,λy v M2 F2 H2 g2 hy ry m2=>?_⟩;exact L x y u v F2 H2 _ Q g2.fh hy (rx.mono g2.ff) ry λd w F3 H3 g3 hd rd=>h2 d w M2 F3 H3 ((g1.trans g2).trans g3.toM) hd rd (m2.grow g3)⟩
def ra[J:Jm]{op:Operator}(ho:OpR X (QI op) r)(L:aR X.K r rd)(ha:ME X a ta)(hb:ME X b tb):ME X (.BinOp a op b pos) (mOp rd ta tb):=qZ L (pe ho ha.out hb.out)
def rb[J:Jm](ha:ME X a ta)(hb:ME X b tb)(hs:autoParam (dX b) zA6):ME X (.Subscript a b pos) (mOp rdIx ta tb):=qZ ql (pe_ix pN ha.out hb.out hs)
def gK[Jm](ha:ME X a ta)(hb:ME X b tb):ME X (.BinOp a .Add b pos) (mOp rdAdd ta tb):=ra qe qf ha hb
def ke[Jm](ha:ME X a ta)(hb:ME X b tb):ME X (.BinOp a .Sub b pos) (mOp rdSub ta tb):=ra pf qg ha hb
def mTst(t:TME):TMT:=λz M R=>t z M λx M1=>match x with| .bl k=>R k M1|_=>False
def gL[J:Jm]{op:RF}(ho:OpR X (QA op) r)(L:aR X.K r rd)(ha:ME X a ta)(hb:ME X b tb)(hm:QL op b=false):MT X (.Compare a [op] [b] pos) (mTst (mOp rd ta tb)):=⟨(pr ho ha.out hb.out hm).anti λs H Q q=>by
 obtain⟨F,z,M,k,rs,R,h1,h2⟩:=q;refine⟨F,z,M,k,rs,_,h1,λx u M1 F1 H1 g1 hx rx m1=>?_⟩;refine⟨F1,z,M1,k.growM rs.mb g1,rs.growM k.bh g1 m1,_,hx,λy v M2 F2 H2 g2 hy ry m2=>?_⟩;refine L x y u v F2 H2 _ _ g2.fh hy (rx.mono g2.ff) ry λd w F3 H3 g3 hd rd=>?_;dsimp only at hd;split at hd
 .exact⟨_,rep_bl.mp rd,h2 _ M2 F3 H3 ((g1.trans g2).trans g3.toM) hd (m2.grow g3)⟩
 .exact hd.elim⟩
def rg[Jm](ha:ME X a ta)(hb:ME X b tb):MT X (.Compare a [.Lt] [b] pos) (mTst (mOp rdLt ta tb)):=gL jw jH ha hb (nomark _)
def gM[Jm](ha:ME X a ta)(hb:ME X b tb):MT X (.Compare a [.Eq] [b] pos) (mTst (mOp rdEq ta tb)):=gL jv jI ha hb (nomark _)
def rh[Jm](ha:ME X a ta)(hb:ME X b tb):MT X (.Compare a [.Is] [b] pos) (mTst (mOp (rdIs id) ta tb)):=gL vz xx ha hb (nomark _)
def yJ[Jm](ha:ME X a ta)(hb:ME X b tb)(hm:autoParam (QL .NotIn b=false) zA0):MT X (.Compare a [.NotIn] [b] pos) (mTst (mOp (rdIn true) ta tb)):=gL yB yz ha hb hm
variable {tA tB:TMT}{rest:List Qo}
def mt_w[Jm](h:MW X a tA):MT X a tA:=⟨PW.pt h.out⟩
def yL[Jm](ha:MT X a tA):MW X (.BoolOp .And [a] pos) tA:=⟨oK ha.out⟩
def yM[Jm](ha:MT X a tA):MW X (.BoolOp .Or [a] pos) tA:=⟨oM ha.out⟩
def mAnd(tA tB:TMT):TMT:=λz M R=>tA z M λk M1=>if k=true then tB z M1 R else R false M1
def mOr(tA tB:TMT):TMT:=λz M R=>tA z M λk M1=>if k=true then R true M1 else tB z M1 R
def yO[J:Jm](ha:MT X a tA)(hb:MW X (.BoolOp .And (b::rest) pos) tB):MW X (.BoolOp .And (a::b::rest) pos) (mAnd tA tB):=⟨(oN ha.out hb.out).anti λs H Q q=>by
 obtain⟨F,z,M,k,rs,R,h1,h2⟩:=q;refine⟨F,z,M,k,rs,_,h1,λx M1 F1 H1 g1 hx m1=>?_⟩;cases x with
 |true=>exact⟨F1,z,M1,k.growM rs.mb g1,rs.growM k.bh g1 m1,R,hx,λy M2 F2 H2 g2 hy m2=>h2 y M2 F2 H2 (g1.trans g2) hy m2⟩
 |false=>exact h2 _ M1 F1 H1 g1 hx m1⟩
def yQ[J:Jm](ha:MT X a tA)(hb:MW X (.BoolOp .Or (b::rest) pos) tB):MW X (.BoolOp .Or (a::b::rest) pos) (mOr tA tB):=⟨(oO ha.out hb.out).anti λs H Q q=>by
 obtain⟨F,z,M,k,rs,R,h1,h2⟩:=q;refine⟨F,z,M,k,rs,_,h1,λx M1 F1 H1 g1 hx m1=>?_⟩;cases x with
 |false=>exact⟨F1,z,M1,k.growM rs.mb g1,rs.growM k.bh g1 m1,R,hx,λy M2 F2 H2 g2 hy m2=>h2 y M2 F2 H2 (g1.trans g2) hy m2⟩
 |true=>exact h2 _ M1 F1 H1 g1 hx m1⟩
def mIf(tc:TMT)(ta tb:TME):TME:=λz M R=>tc z M λk M1=>if k=true then ta z M1 R else tb z M1 R
def fK[J:Jm]{tc:TMT}(hc:MT X c tc)(ha:ME X a ta)(hb:ME X b tb):ME X (.IfExp c a b pos) (mIf tc ta tb):=⟨(oP hc.out ha.out hb.out).anti λs H Q q=>by
 obtain⟨F,z,M,k,rs,R,h1,h2⟩:=q;refine⟨F,z,M,k,rs,_,h1,λx M1 F1 H1 g1 hx m1=>?_⟩;cases x with
 |true=>exact⟨F1,z,M1,k.growM rs.mb g1,rs.growM k.bh g1 m1,R,hx,λd v M2 F2 H2 g2 hy rd m2=>h2 d v M2 F2 H2 (g1.trans g2) hy rd m2⟩
 |false=>exact⟨F1,z,M1,k.growM rs.mb g1,rs.growM k.bh g1 m1,R,hx,λd v M2 F2 H2 g2 hy rd m2=>h2 d v M2 F2 H2 (g1.trans g2) hy rd m2⟩⟩
def mNil:TMA:=λ_ M R=>R [] M
def yR(ta:TME)(tr:TMA):TMA:=λz M R=>ta z M λx M1=>tr z M1 λxs M2=>R (x::xs) M2
def br[J:Jm]:MA X [] mNil:=⟨pa_nil.anti λs H Q q=>by
 obtain⟨F,z,M,k,rs,R,h1,h2⟩:=q;exact h2 [] [] M F H (GrowM.refl k.fh) h1 (reps_nil.mpr rfl) rs.rm⟩
variable{t:TMA}
def aQ[J:Jm]{e:Qo}{te:TME}(ha:ME X e te)(hr:MA X es t)(hs:autoParam (zSE X e es) zA0):MA X (e::es) (yR te t):=⟨(bg ha.out hr.out hs).anti λs H Q q=>by
 obtain⟨F,z,M,k,rs,R,h1,h2⟩:=q;refine⟨F,z,M,k,rs,_,h1,λx u M1 F1 H1 g1 hx rx m1=>?_⟩;refine⟨F1,z,M1,k.growM rs.mb g1,rs.growM k.bh g1 m1,_,hx,λxs us M2 F2 H2 g2 hy ry m2=>?_⟩;exact h2 _ _ M2 F2 H2 (g1.trans g2) hy (reps_cons.mpr ⟨_,_,rfl,rx.mono g2.ff,ry⟩) m2⟩
def mTup(t:TMA):TME:=λz M R=>t z M λxs M1=>xs.length<=1000/\R (.tup xs) M1
def yS[J:Jm]{x1}(h:MA X es t):ME X (.Tuple es x1 pos) (mTup t):=⟨(pC h.out).anti λs H Q q=>by
 obtain⟨F,z,M,k,rs,R,h1,h2⟩:=q;refine⟨F,z,M,k,rs,_,h1,λds vs M1 F1 H1 g1 hx rx m1=>?_⟩;have hl:=rx.length;refine⟨sz (by rw[hl];exact hx.1),λp hp=>?_⟩;have gn:=Grow.new g1.fh hp (.tup vs);exact h2 _ _ M1 _ _ (g1.trans gn.toM) hx.2 (rep_tupS.mpr ⟨p,vs,rfl,ay,rx.mono (aS (g1.fh.free hp) _)⟩) (m1.grow gn)⟩
def mLst(t:TMA):TME:=λz M R=>t z M λxs M1=>xs.length<=1000/\∀ p,p ∉ au M1->R (.ptr p) ((p,.lst xs)::M1)
def yT[J:Jm](h:MA X es t):ME X (.List es pos) (mLst t):=⟨(jz h.out).anti λs H Q q=>by
 obtain⟨F,z,M,k,rs,R,h1,h2⟩:=q;refine⟨F,z,M,k,rs,_,h1,λds vs M1 F1 H1 g1 hx rx m1=>?_⟩;have hl:=rx.length;refine⟨sz (by rw[hl];exact hx.1),λp hp=>?_⟩;exact h2 _ _ _ F1 _ (g1.trans (GrowM.new g1.fh hp)) (hx.2 p λz=>m1.here z hp) (rep_ptr.mpr rfl) (m1.new g1.fh hp ⟨vs,ay,rx⟩)⟩
def mCB(r:RDn)(t:TMA):TME:=λz M R=>t z M λds M1=>r ds λd=>R d M1
variable{x:IT}{p:QC}
def yU[J:Jm]{e:Qo}{id:String}{r:List V->Hp->VK->Prop}{rd:RDn}(hc:bw X (.builtin id) r)(L:bR X.K r rd)(hm:X.mg x=z7)(hv:QH x=be (.builtin id))(ha:MA X (e::es) t)(hg:autoParam (Gl X x) zA0)(hn:autoParam (x≠"__name__") zA1)(e8:autoParam (zND x) zA1)
  (he:autoParam (zSE X e es) zA0) (c_:autoParam (zPL X pos es) zA0):ME X (.Call (.Name x p) (e::es) [] pos) (mCB rd t):=⟨(gl hc hg hm hv ha.out hn e8 he c_).anti λs H Q h=>by
 obtain⟨F,z,M,k,rs,R,h1,h2⟩:=h;refine⟨F,z,M,k,rs,_,h1,λds vs M1 F1 H1 g1 hx rx m1=>?_⟩;exact L ds vs F1 H1 _ Q g1.fh hx rx λd w F' H' g hd rd=>h2 d w M1 F' H' (g1.trans g.toM) hd rd (m1.grow g)⟩
def rj[Jm]{e:Qo}(hm:X.mg "len"=z7)(ha:MA X [e] t)(hg:autoParam (Gl X "len") zA0)(he:autoParam (zSE X e []) zA0):ME X (.Call (.Name "len" p) [e] [] pos) (mCB rdLen t):=yU jx qo hm PySem.boot_len ha hg (by decide) (by decide) he
def yV[J:Jm]{e:Qo}{T:String}{r:List V->Hp->VK->Prop}{rd:RDn}(hc:bw X (.type T) r)(L:bR X.K r rd)(hm:X.mg x=z7)(hv:QH x=be (.type T))(ha:MA X (e::es) t)(hg:autoParam (Gl X x) zA0)(hn:autoParam (x≠"__name__") zA1)(e8:autoParam (zND x) zA1)
  (he:autoParam (zSE X e es) zA0) (c_:autoParam (zPL X pos es) zA0):ME X (.Call (.Name x p) (e::es) [] pos) (mCB rd t):=⟨(pH hc hg hm hv ha.out hn e8 he c_).anti λs H Q h=>by
 obtain⟨F,z,M,k,rs,R,h1,h2⟩:=h;refine⟨F,z,M,k,rs,_,h1,λds vs M1 F1 H1 g1 hx rx m1=>?_⟩;exact L ds vs F1 H1 _ Q g1.fh hx rx λd w F' H' g hd rd=>h2 d w M1 F' H' (g1.trans g.toM) hd rd (m1.grow g)⟩
def rk[Jm](hm:X.mg "int"=z7)(ha:MA X [e] t)(hg:autoParam (Gl X "int") zA0)(he:autoParam (zSE X e []) zA0):ME X (.Call (.Name "int" p) [e] [] pos) (mCB rdInt t):=yV qy qz hm PyProof.Rows.boot_int ha hg (by decide) (by decide) he
def eQ(M:MS)(d:D)(x:IT)(fs:List (IT × D)):Prop:=match d with| .ptr a=>mget M a=be (.ins x fs)| .obj y gs=>y=x/\gs=fs|_=>False
def mFld(x f:IT)(te:TME):TME:=λz M R=>te z M λd M1=>∃ fs,eQ M1 d x fs/\∃ d',fs.lookup f=be d'/\R d' M1
def kg{K:Ex}{F H:Hp}{M:MS}{d:D}{v:V}{fs:List (IT × D)}(fh:Same F H)(rm:RepM K F H M)(rd:Rep K F d v)(h:eQ M d x fs):∃ a C dx ws,v= .ref a/\nsIn K Pi x=be (be (.ref C))/\H a=be (.ins C dx ws)/\RepF K F fs ws:=by
 unfold eQ at h;split at h
 .rename_i a;obtain⟨C,dx,ws,n,h1,h2⟩:=rm.ok _ _ (bN h);exact⟨a,C,dx,ws,rep_ptr.mp rd,n,h1,h2⟩
 .obtain⟨rfl,rfl⟩:=h;obtain⟨a,C,dx,ws,e,n,h1,h2⟩:=rep_obj.mp rd;exact⟨a,C,dx,ws,e,n,fh _ _ h1,h2⟩
 .exact h.elim
def aI[J:Jm]{f:IT}(hA:ClsA X.K x f)(he:ME X e ta)(hb:autoParam (Qy e f X.env (Qx e X.env)=Qx e X.env) zA0):ME X (.Attribute e f pos) (mFld x f ta):=⟨(pA he.out hb).anti λs H Q q=>by
 obtain⟨C,hn,hc,hf⟩:=hA;obtain⟨F,z,M,k,rs,R,h1,h2⟩:=q;refine⟨F,z,M,k,rs,_,h1,λd u M1 F1 H1 g1 hx rx m1=>?_⟩;obtain⟨fs,hi,d',hl,hR⟩:=hx;obtain⟨a,C',dx,ws,rfl,l8,hH,rf⟩:=kg g1.fh m1 rx hi;rw[hn] at l8;cases l8;obtain⟨v,l,rv⟩:=rf.look hl;exact⟨a,C,dx,ws,v,rfl,hH,hc,hf,l,h2 d' v M1 F1 H1 g1 hR rv m1⟩⟩
end
abbrev XDM:=IT->List (IT × D)->MS->Prop
abbrev SpM:=List D->MS->(D->MS->Prop)->XDM->Prop
def lSpM(K:Ex)(S:SpM):Sp:=λvs H Q E=>∃ F ds M,Same F H/\Reps K F ds vs/\RepM K F H M/\∃ (R:D->MS->Prop) (RX:XDM),S ds M R RX/\(∀ d v M' F' H',GrowM M M' F H F' H'->R d M'->Rep K F' d v->RepM K F' H' M'->Q v H')/\
 ∀ x fs C od M' F' H',GrowM M M' F H F' H'->RX x fs M'->ErrD K F' x fs C od->RepM K F' H' M'->E (.ref C) od H'
abbrev CalMM(P:P3)(w:Qt)(K:Ex)(mg:IT->Option KB)(base:Heap)(n:Nat)(x:IT)(ps:List IT)(S:SpM):Prop:=Cal P w K mg base n x ps (lSpM K S)
def ofX(S:SpX):SpM:=λds M R RX=>S ds (λd=>R d M) λx fs=>RX x fs M
def ofD(S:SpD):SpM:=λds M R _=>S ds λd=>R d M
variable{vs:List V}
def yY{S:SpX}{Q:VK}{E:XK}(h:lSpM K (ofX S) vs H Q E):lSpX K S vs H Q E:=by
 obtain⟨F,ds,M,fh,rs,rm,R,RX,hS,q,qx⟩:=h;exact⟨F,ds,fh,rs,_,_,hS,λd v F' H' g hd rd=>q d v M F' H' g.toM hd rd (rm.grow g),λx fs C od F' H' g hR er=>qx x fs C od M F' H' g.toM hR er (rm.grow g)⟩
def yZ{S:SpD}{Q:VK}{E:XK}(h:lSpM K (ofD S) vs H Q E):lSp K S vs H Q E:=by
 obtain⟨F,ds,M,fh,rs,rm,R,RX,hS,q,qx⟩:=h;exact⟨F,ds,fh,rs,_,hS,λd v F' H' g hd rd=>q d v M F' H' g.toM hd rd (rm.grow g)⟩
section
variable {P:P3}{w:Qt}{K:Ex}{mg:IT->Option KB}{base:Heap}{n:Nat}{x:IT}{ps:List IT}
def CalX.toM{S:SpX}(C:CalX P w K mg base n x ps S):CalMM P w K mg base n x ps (ofX S):=by
 obtain⟨f,fd,F,hb,hk,hm⟩:=C;exact⟨f,fd,F.imp λvs H Q E h=>yY h,hb,hk,hm⟩
def CalD.toM{S:SpD}(C:CalD P w K mg base n x ps S):CalMM P w K mg base n x ps (ofD S):=by
 obtain⟨f,fd,F,hb,hk,hm⟩:=C;exact⟨f,fd,F.imp λvs H Q E h=>yZ h,hb,hk,hm⟩
def CalMth(P:P3)(w:Qt)(K:Ex)(mg:IT->Option KB)(base:Heap)(n:Nat)(x m:IT)(ps:List IT)(sp:Sp):Prop:=
 ∃ C f fd,nsIn K Pi x=be (be (.ref C))/\Cls K C/\Meth K C m f/\FnOk P w K mg base (CX1 P w) n f fd ps sp/\Binds K fd ps []
variable{sp:Sp}
def Cal.mono{n':Nat}(h:Cal P w K mg base n x ps sp)(hn:n<=n'):Cal P w K mg base n' x ps sp:=by
 obtain⟨f,fd,F,h⟩:=h;exact⟨f,fd,F.mono hn,h⟩
def Cal.imp{IV:Sp}(h:Cal P w K mg base n x ps sp)(i:∀ vs H Q E,IV vs H Q E->sp vs H Q E):Cal P w K mg base n x ps IV:=by
 obtain⟨f,fd,F,h⟩:=h;exact⟨f,fd,F.imp i,h⟩
def CalMth.imp{m:IT}{IV:Sp}(h:CalMth P w K mg base n x m ps sp)(i:∀ vs H Q E,IV vs H Q E->sp vs H Q E):CalMth P w K mg base n x m ps IV:=by
 obtain⟨C,f,fd,h1,h2,h3,h4,h5⟩:=h;exact⟨C,f,fd,h1,h2,h3,h4.imp i,h5⟩
end
def XOkM(X:Cx)[J:Jm]:Prop:=∀ (σ:L2.St) (z:SD) (M:MS) (F H:Hp) (s:KM) (e C:KF) (od:Option KF) (x:IT) (fs:List (IT × D)),Inv X [] σ H s->Kept J.B J.F0 F H->RepZ X.K J.B F H z σ M->J.RM z M x fs->ErrD X.K F x fs C od->Exd X H s e C od->X.xe (.ref e) s
def EX(X:Cx)[J:Jm](z:SD)(σ:L2.St):XK:=λCv od H'=>∃ x fs C M' F',Cv= .ref C/\Kept J.B J.F0 F' H'/\RepZ X.K J.B F' H' z σ M'/\J.RM z M' x fs/\ErrD X.K F' x fs C od
def XOkM.out{X:Cx}[J:Jm](hx:XOkM X)(ge:X.ex=[]){pins:List (KF × QJ)}{σ:L2.St}{s s':KM}{ev:KB}(I:Inv X pins σ H s)
  (h:CX1 X.prog X.w X.stack H s (EX X z σ) ev s'):X.xe ev s':=by
 obtain⟨e,C,od,T,H',rfl,z8,hb,un,hok,Mc,ne,nT,He,HT,x,fs,C',M',F',hC,kk,rr,hR,er⟩:=h;cases hC;have I':Inv X pins σ H' s':=I.call' z8 un hok hb (λb z=>absurd z (by simp));exact hx σ z M' F' H' s' e C od x fs (Inv.nopins I') kk rr hR er ⟨He,cR I ge ne,pn_free I ne,.inr ⟨T,Mc,cR I ge nT,HT,pn_free I nT⟩⟩
section
variable {X:Cx}[J:Jm]{a b c e o:Qo}{ta tb te:TME}{pos p apos cpos:QC}{n m:Nat}{ps:List IT}{S:SpM}{x:IT}{es:List Qo}{t:TMA}
def za(S:SpM)(t:TMA):TME:=λz M R=>t z M λds M1=>S ds M1 R λx fs M'=>J.RM z M' x fs
variable{ds:List D}{vs:List V}
def kh{σ:L2.St}{z:SD}{M M1:MS}{F H F1 H1:Hp}{Q:VK}{R:D->MS->Prop}(k:Kept J.B J.F0 F H)(rs:RepZ X.K J.B F H z σ M)(g1:GrowM M M1 F H F1 H1)(m1:RepM X.K F1 H1 M1)(rx:Reps X.K F1 ds vs)
  (hS:S ds M1 R λx fs M'=>J.RM z M' x fs) (h2:∀ d v M' F' H',GrowM M M' F H F' H'->R d M'->Rep X.K F' d v->RepM X.K F' H' M'->Q v H'):lSpM X.K S vs H1 Q (EX X z σ):=
 ⟨F1,ds,M1,g1.fh,rx,m1,R,_,hS,λd v M' F' H' g hd rd m'=>h2 d v M' F' H' (g1.trans g) hd rd m',λy fs C od M' F' H' g hR er m'=>⟨y,fs,C,M',F',rfl,(k.growM rs.mb g1).growM (rs.growM k.bh g1 m1).mb g,(rs.growM k.bh g1 m1).growM (k.growM rs.mb g1).bh g m',hR,er⟩⟩
def aW(C:CalMM X.prog X.w X.K X.mg X.base n x ps S)(hx:XOkM X)(hr:Room m X.A)(ha:MA X (e::es) t)(ge:autoParam (X.ex=[]) zA0)(hg:autoParam (Gl X x) zA0)(hn:autoParam (n<=m) zA1)(e8:autoParam (zND x) zA1)
  (he:autoParam (zSE X e es) zA0) (c_:autoParam (zPL X pos es) zA0):
  ME X (.Call (.Name x p) (e::es) [] pos) (za S t):=by
 obtain⟨f,fd,F,hb,hk,hm⟩:=C;refine⟨λpins s σ H Q I h=>?_⟩;obtain⟨Fr,z,M,k,rs,R,h1,h2⟩:=h;refine QB (cN I hg hm ?_ e8);refine callWith_K (h₀:=X.base) I.ok.mod.kin hk (thn (ha.out pos pins s σ H (λvs H1=>lSpM X.K S vs H1 Q (EX X z σ)) I ⟨Fr,z,M,k,rs,_,h1,λds vs M1 F1 H1 g1 hx rx m1=>kh k rs g1 m1 rx hx h2⟩) λus s1 hh=>⟨hh.elim λ_ h=>h.elim λ_ h=>h.1.kIn,?_⟩) he c_;obtain⟨vs,H1,I1,r,q⟩:=hh;exact gD F (hr.mono hn) hb (λe s' hq=>hx.out ge I1 hq) I1 r q
def rn(cs:List IT)(m:IT)(S:IT->SpM)(to:TME)(t:TMA):TME:=λz M R=>to z M λd M1=>∃ x,x∈cs/\∃ fs,eQ M1 d x fs/\fs.lookup m=z7/\t z M1 λds M2=>S x (d::ds) M2 R λx fs M'=>J.RM z M' x fs
variable{cs:List IT}{pl:RO Bool}
def aU{nm:IT}{S:IT->SpM}(C:∀ x,x∈cs->CalMth X.prog X.w X.K X.mg X.base n x nm ps (lSpM X.K (S x)))(hx:XOkM X)(hr:Room m X.A)(ho:ME X o te)(ha:MA X (e::es) t)(ge:autoParam (X.ex=[]) zA0)(hn:autoParam (n<=m) zA1)
  (n6:autoParam (zSE X e es) zA0) (c_:autoParam (zPL X pos es) zA0)
  (ht:Qx (.Call (.Attribute o nm apos) (e::es) [] pos) X.env=(do
   let ov <- Qx o X.env
   Q_ apos.atName
   let (f,first) <- Q1 [ov] (Rr ov nm pl)
   callWith pos f first (Q0 pos (Qv (e::es) X.env)) (Rj pos (QX [] X.env))):=by rfl):
  ME X (.Call (.Attribute o nm apos) (e::es) [] pos) (rn cs nm S te t):=by
 refine⟨λpins s σ H Q I h=>?_⟩;obtain⟨Fr,z,M,k,rs,R,h1,h2⟩:=h;refine methodCall_KW (pl:=pl) (thn (ho.out pins s σ H (λv H1=>∃ d M1 F1,GrowM M M1 Fr H F1 H1/\Rep X.K F1 d v/\RepM X.K F1 H1 M1/\∃ x,x∈cs/\∃ fs,eQ M1 d x fs/\fs.lookup nm=z7/\t z M1 λds M2=>S x (d::ds) M2 R λx fs M'=>J.RM z M' x fs) I ⟨Fr,z,M,k,rs,_,h1,λd v M1 F1 H1 g1 hd rd m1=>⟨d,M1,F1,g1,rd,m1,hd⟩⟩) λu s1 hh=>?_) ht;obtain⟨v,H1,I1,rv,d,M1,F1,g1,rd,m1,x,Mg,fs,hi,hl,hq⟩:=hh;obtain⟨C',f,fd,hns,l9,KH,F,hb⟩:=C x Mg;obtain⟨a,C2,dx,ws,rfl,v8,hH,rf⟩:=kg g1.fh m1 rd hi;rw[hns] at v8;cases v8;obtain rfl:u=Value.ref a:=rv;refine pz I1 hH l9 KH (rf.none hl) ?_;refine callWith_K (first:=[.ref a]) (h₀:=X.base) I.ok.mod.kin KH.kp (thn (ha.out pos pins s1 σ H1 (λvs H2=>lSpM X.K (S x) (.ref a::vs) H2 Q (EX X z σ)) I1 ⟨F1,z,M1,k.growM rs.mb g1,rs.growM k.bh g1 m1,_,hq,λds vs M2 F2 H2 g2 hx rx m2=>kh k rs (g1.trans g2) m2 (reps_cons.mpr ⟨_,_,rfl,rd.mono g2.ff,rx⟩) hx h2⟩) λus s2 hh=>⟨hh.elim λ_ h=>h.elim λ_ h=>h.1.kIn,?_⟩) n6 c_;obtain⟨vs,H2,I2,r,q2⟩:=hh;exact gD (us:= .ref a::us) (vs:= .ref a::vs) F (hr.mono hn) hb (λe s' hq=>hx.out ge I2 hq) I2 (.cons rfl r) q2
def dJ{nm:IT}{S:IT->SpM}(C:∀ x,x∈cs->CalMth X.prog X.w X.K X.mg X.base n x nm ps (lSpM X.K (S x)))(hx:XOkM X)(hr:Room m X.A)(ho:ME X o te)(ge:autoParam (X.ex=[]) zA0)(hn:autoParam (n<=m) zA1)
  (ht:Qx (.Call (.Attribute o nm apos) [] [] pos) X.env=(do
   let ov <- Qx o X.env
   Q_ apos.atName
   let (f,first) <- Q1 [ov] (Rr ov nm pl)
   callWith pos f first (Q0 pos (Qv [] X.env)) (Rj pos (QX [] X.env))):=by rfl):
  ME X (.Call (.Attribute o nm apos) [] [] pos) (rn cs nm S te mNil):=by
 refine⟨λpins s σ H Q I h=>?_⟩;obtain⟨Fr,z,M,k,rs,R,h1,h2⟩:=h;refine methodCall_KW (pl:=pl) (thn (ho.out pins s σ H (λv H1=>∃ d M1 F1,GrowM M M1 Fr H F1 H1/\Rep X.K F1 d v/\RepM X.K F1 H1 M1/\∃ x,x∈cs/\∃ fs,eQ M1 d x fs/\fs.lookup nm=z7/\S x [d] M1 R λx fs M'=>J.RM z M' x fs) I ⟨Fr,z,M,k,rs,_,h1,λd v M1 F1 H1 g1 hd rd m1=>⟨d,M1,F1,g1,rd,m1,hd⟩⟩) λu s1 hh=>?_) ht;obtain⟨v,H1,I1,rv,d,M1,F1,g1,rd,m1,x,Mg,fs,hi,hl,hq⟩:=hh;obtain⟨C',f,fd,hns,l9,KH,F,hb⟩:=C x Mg;obtain⟨a,C2,dx,ws,rfl,v8,hH,rf⟩:=kg g1.fh m1 rd hi;rw[hns] at v8;cases v8;obtain rfl:u=Value.ref a:=rv;refine pz I1 hH l9 KH (rf.none hl) ?_;refine callWith_K0 (first:=[.ref a]) I1.kIn KH.kp (gD (E:=EX X z σ) (us:=[.ref a]) (vs:=[.ref a]) F (hr.mono hn) hb (λe s' hq=>hx.out ge I1 hq) I1 (.cons rfl .nil) ?_);exact kh k rs g1 m1 (eH rd) hq h2
def make_of{C:KF}{S:SiD}{x:IT}{σ:L2.St}{z:SD}{M M1:MS}{F H F1 H1:Hp}{a dx:KF}{Q:VK}{E:XK}{T:List (IT × D)->Prop}(g1:GrowM M M1 F H F1 H1)(m1:RepM X.K F1 H1 M1)(rx:Reps X.K F1 ds vs)(hS:S ds T)
  (ha:H1 a=z7) (v5:H1 dx=z7) (k8:dx≠a) (q:∀ fs ws dx F' H',Grow F1 H1 F' H'->T fs->H' a=be (.ins C dx ws)->F' a=z7->RepF X.K F' fs ws->Q (.ref a) H'):
  lSi X.K C S (.ref a::(vs++[])) (upd (upd H1 dx (.own a)) a (.ins C dx [])) (λv H2=>v= .non/\Q (.ref a) H2) E:=
 ⟨a,dx,vs,H1,F1,ds,by rw[Ft],rfl,ha,v5,k8,g1.fh,rx,_,hS,λfs ws D' F' H' g hR gt i_ rf=>⟨rfl,q fs ws D' F' H' g hR gt i_ rf⟩⟩
def zb(x:IT)(S:SiD)(t:TMA):TME:=λz M R=>t z M λds M1=>S ds λfs=>R (.obj x fs) M1
def gN{S:SiD}(M:CalM X.prog X.w X.K X.mg X.base n x ps S)(hr:Room m X.A)(ha:MA X (e::es) t)(hg:autoParam (Gl X x) zA0)(hn:autoParam (n+1<=m) zA1)(e8:autoParam (zND x) zA1)
  (he:autoParam (zSE X e es) zA0) (c_:autoParam (zPL X pos es) zA0):
  ME X (.Call (.Name x p) (e::es) [] pos) (zb x S t):=by
 obtain⟨C,f,fd,hns,m6,mk,F,hb⟩:=M;refine⟨(jA mk F (hr.mono hn) hg m6 hb .nil fA ha.out e8 he c_).anti λs H Q q=>?_⟩;obtain⟨F,z,M,k,rs,R,h1,h2⟩:=q;refine⟨F,z,M,k,rs,_,h1,λds vs M1 F1 H1 g1 hx rx m1=>?_⟩;intro a dx ha v5 k8;refine make_of (σ:=s) (z:=z) (x:=x) g1 m1 rx hx ha v5 k8 λfs ws dx F' H' g hR gt i_ rf=>?_;have s1:Same F' (upd F' a (.ins C dx ws)):=aS i_ _;have g2:Grow F1 H1 (upd F' a (.ins C dx ws)) H':=⟨g.ff.trans s1,λb o q=>by
  by_cases hb:b=a
  .subst hb;rw[ay] at q;cases q;exact gt
  .rw[aj hb] at q;exact g.fh b o q,g.hh,λb q1 q2=>by
  by_cases hb:b=a
  .subst hb;exact absurd ha q2
  .rw[aj hb];exact g.out b q1 q2⟩
 exact h2 (.obj x fs) (.ref a) M1 (upd F' a (.ins C dx ws)) H' (g1.trans g2.toM) hR (rep_obj.mpr ⟨a,C,dx,ws,rfl,hns,ay,RepF.mono s1 fs ws rf⟩) (m1.grow g2)
def zc(x:IT)(S:SiD)(t:TMA):TME:=λz M R=>t z M λds M1=>S ds λfs=>∀ a,a ∉ au M1->R (.ptr a) ((a,.ins x fs)::M1)
def zd{S:SiD}(M:CalM X.prog X.w X.K X.mg X.base n x ps S)(hr:Room m X.A)(ha:MA X (e::es) t)(hg:autoParam (Gl X x) zA0)(hn:autoParam (n+1<=m) zA1)(e8:autoParam (zND x) zA1)
  (he:autoParam (zSE X e es) zA0) (c_:autoParam (zPL X pos es) zA0):
  ME X (.Call (.Name x p) (e::es) [] pos) (zc x S t):=by
 obtain⟨C,f,fd,hns,m6,mk,F,hb⟩:=M;refine⟨(jA mk F (hr.mono hn) hg m6 hb .nil fA ha.out e8 he c_).anti λs H Q q=>?_⟩;obtain⟨F,z,M,k,rs,R,h1,h2⟩:=q;refine⟨F,z,M,k,rs,_,h1,λds vs M1 F1 H1 g1 hx rx m1=>?_⟩;intro a dx ha v5 k8;refine make_of (σ:=s) (z:=z) (x:=x) g1 m1 rx hx ha v5 k8 λfs ws dx F' H' g hR gt i_ rf=>?_;have na:a ∉ au M1:=λz=>m1.here z ha;have m2:=m1.grow g;refine h2 (.ptr a) (.ref a) _ F' H' (g1.trans ⟨g.ff,g.fh,λb o _ q=>g.hh b o q,λb _ q1 q2=>g.out b q1 q2,λb q=>?_⟩) (hR a na) (rep_ptr.mpr rfl) ⟨FG.mpr ⟨na,m2.nd⟩,λb o q=>?_,λb q=>?_⟩
 .rcases ER.mp q with q|q
  .exact .inr (by rw[q];exact ha)
  .exact .inl q
 .rcases ER.mp q with q|q
  .cases q;exact⟨C,dx,ws,hns,gt,rf⟩
  .exact m2.ok b o q
 .rcases ER.mp q with q|q
  .rw[q];exact i_
  .exact m2.fr b q
end
section
variable {X:Cx}{x:IT}{e:Qo}{es:List Qo}{t:TA}{p cpos pos:QC}{n m:Nat}{ps:List IT}{S:SiD}
def gO(X:Cx)(σ:L2.St)(F1 H1:Hp)(x:IT)(fs:List (IT × D)):Prop:=∀ F' H' s' e C od,Inv X [] σ H' s'->Grow F1 H1 F' H'->ErrD X.K F' x fs C od->Exd X H' s' e C od->X.xe (.ref e) s'
def ze(M:CalE X.prog X.w X.K X.mg X.base n x ps S)(hr:Room m X.A)(hc:X.calm=true)(ha:PA X (e::es) t)(ge:autoParam (X.ex=[]) zA0)(hg:autoParam (Gl X x) zA0)(hn:autoParam (n+1<=m) zA1)(e8:autoParam (zND x) zA1)
  (he:autoParam (zSE X e es) zA0) (c_:autoParam (zPL X cpos es) zA0):
  PS X (.Raise (be (.Call (.Name x p) (e::es) [] cpos)) z7 pos) (λ_ σ H=>t σ H λvs H1=>vs.length<=1000/\∃ F1 ds,Same F1 H1/\Reps X.K F1 ds vs/\∃ T:List (IT × D)->Prop,S ds T/\∀ fs,T fs->gO X σ F1 H1 x fs):=by
 obtain⟨C,N,bm,f,fd,k,hi,Kd,Fn,hb⟩:=M;intro pins s σ H D I h;obtain⟨nm,q,bs,sn,sub,ab,col,dd,k0,k1,k2,k3,k5,lk⟩:=k.obj;refine jF (nm:=nm) (q:=q) (C:=C) (N:=N) (bs:=bs) (bm:=bm) (hdct:=true) (sn:=sn) (sub:=sub) (ab:=ab) (col:=col) (dd:=dd) (k0:=k0) (k1:=k1) (k2:=k2) (k3:=k3) (k5:=k5) (newId:="ValueError.__new__") k.base (I.ok.hd hc) ?_;refine QB (cN I hg k.mg ?_ e8);refine callWith_K (h₀:=X.base) I.ok.mod.kin k.kp (thn (ha cpos pins s σ H _ I h) λus s1 hh=>⟨hh.elim λ_ h=>h.elim λ_ h=>h.1.kIn,?_⟩) he c_;obtain⟨vs,H1,I1,r,hl,F1,ds,Mh,rx,T,hS,hT⟩:=hh;have hC:=I1.kIn _ _ lk;have OV:us.length<=sizeLine:=by rw[<- L2.Vals.length r];exact sz hl
 refine wZ (g:=s1.gens) (d:=s1.drawn) (t:=s1.toks) (os:=s1.os) (rest:=us) I1.kIn (tail_of_in I1.kIn k.tail) hC hi (beq_iff_eq.mp Kd) (λh' ea hm=>?_) OV;have I2:=Inv.newx I1 ge hm;have r2:Vals (V.ref ea::vs) (Value.ref ea::us):= .cons rfl r;have He:H1 ea=none:=gG I1.hok hm.new;have q_:lEi X.K C S (V.ref ea::vs) (upd H1 ea (XN ea C z7)) (λv H'=>v= .non/\∃ fs od F',Grow F1 H1 F' H'/\gO X σ F1 H1 x fs/\H' ea=be (XN ea C od)/\F' ea=z7/\ErrF X.K F' fs od) (λ_ _ _=>False):=
  ⟨ea,vs,H1,F1,ds,rfl,rfl,He,Mh,rx,_,hS,λfs od F' H' g hR h1 h2 h3=>⟨rfl,fs,od,F',g,hT fs hR,h1,h2,h3⟩⟩
 have b_:(Value.ref ea::us).length=ps.length:=by rw[<- L2.Vals.length r2];exact Fn.len _ _ _ _ q_
 have g7:=hb {s1 with heap:=h'} (Value.ref ea::us) I2.kIn (by rw[Ft];exact b_);rw[Ft] at g7;refine Q9 (Q2 (Fn.run _ X.stack _ _ ⟨Value.ref ea::us,[]⟩ (Value.ref ea::us) _ _ _ ((hr.mono hn).make C us []) (I2.env0.make C us []) g7 r2 q_) λrr s' hq=>?_);cases rr with
 |error e'=>exact(fA (X:=X) pins σ _ _ e' s' I2 hq:X.xe e' s')
 |ok fl=>
  cases fl with
  |next=>exact False.elim hq
  |brk=>exact False.elim hq
  |cont=>exact False.elim hq
  |ret u=>
   obtain⟨v,H',I3,rv,rfl,fs,od,F',g,hR,v7,OW,er⟩:=I2.after hq;obtain rfl:u=Value.none:=rv;refine⟨rfl,?_⟩;have e0:X.s₀.heap.get? ea=none:=cR I1 ge hm.new;have I4:=Inv.drop I3 v7 e0;obtain⟨ta,sl,o9⟩:=XN.get I3.hok v7;have g4:Grow F1 H1 F' (del H' ea):=⟨g.ff,λb o q=>by
    have:b≠ea:=λz=>by rw[z,OW] at q;cases q
    rw[ce this];exact g.fh b o q,λb o q=>by
    have:b≠ea:=λz=>by rw[z,He] at q;cases q
    rw[ce this];exact g.hh b o q,g.out⟩
   refine⟨ea,ta,od,sl,rfl,I3.kIn _ _ lk,o9,?_⟩;exact hR F' (del H' ea) s' ea C od (Inv.nopins I4) g4 ⟨k.ns,er⟩ ⟨fH,e0,pn_free I1 hm.new,.inl ⟨sl,_,o9,rfl⟩⟩
def zf(h:∃ C N bm,ErrK X.K X.mg x C N bm/\ErrN X.K N)(hc:X.calm=true)(ha:PA X (e::es) t)(ge:autoParam (X.ex=[]) zA0)(hg:autoParam (Gl X x) zA0)(e8:autoParam (zND x) zA1)
  (he:autoParam (zSE X e es) zA0) (c_:autoParam (zPL X cpos es) zA0):
  PS X (.Raise (be (.Call (.Name x p) (e::es) [] cpos)) z7 pos) (λ_ σ H=>t σ H λvs H1=>vs.length<=1000/\∃ F1,Same F1 H1/\gO X σ F1 H1 x []):=by
 obtain⟨C,N,bm,k,kn⟩:=h;intro pins s σ H D I h;obtain⟨nm,q,bs,sn,sub,ab,col,dd,k0,k1,k2,k3,k5,lk⟩:=k.obj;refine jF (nm:=nm) (q:=q) (C:=C) (N:=N) (bs:=bs) (bm:=bm) (hdct:=true) (sn:=sn) (sub:=sub) (ab:=ab) (col:=col) (dd:=dd) (k0:=k0) (k1:=k1) (k2:=k2) (k3:=k3) (k5:=k5) (newId:="ValueError.__new__") k.base (I.ok.hd hc) ?_;refine QB (cN I hg k.mg ?_ e8);refine callWith_K (h₀:=X.base) I.ok.mod.kin k.kp (thn (ha cpos pins s σ H _ I h) λus s1 hh=>⟨hh.elim λ_ h=>h.elim λ_ h=>h.1.kIn,?_⟩) he c_;obtain⟨vs,H1,I1,r,hl,F1,Mh,hR⟩:=hh;have hC:=I1.kIn _ _ lk;obtain⟨hp,gg,dr,tk,os⟩:=s1;refine RU PySem.F.excBase_ValueError (tail_of_in I1.kIn k.tail) hC (.of_isNs (isNs_of_in I1.kIn kn.ok)) (nsMap_none_of_in I1.kIn kn.ok kn.no) (λh' ea hm=>?_) (by show us.length<=_;rw[<- L2.Vals.length r];exact sz hl);obtain⟨ta,h1,h2,h3⟩:=hm.there;have I2:Inv X pins σ H1 ⟨h',gg,dr,tk,os⟩:=I1.kept (t':=tk) hm.keeps;refine⟨ea,ta,z7,#[],rfl,hm.keeps _ _ hC,h1,?_⟩;exact hR F1 H1 _ ea C z7 (Inv.nopins I2) (Grow.refl Mh) ⟨k.ns,[],repf_nil.mpr rfl,.inl ⟨rfl,rfl⟩⟩ ⟨gG I1.hok hm.new,cR I1 ge hm.new,pn_free I1 hm.new,.inl ⟨#[],_,h1,rfl⟩⟩
end
section
variable {X:Cx}[J:Jm]{x:IT}{e:Qo}{es:List Qo}{t:TMA}{p cpos pos:QC}{n m:Nat}{ps:List IT}{S:SiD}
def zg(x:IT)(S:SiD)(t:TMA):TMS:=λ_ z M=>t z M λds M1=>ds.length<=1000/\S ds λfs=>J.RM z M1 x fs
def rq{σ:L2.St}{z:SD}{M M1:MS}{F H F1 H1:Hp}{fs:List (IT × D)}(hx:XOkM X)(k:Kept J.B J.F0 F H)(rs:RepZ X.K J.B F H z σ M)(g1:GrowM M M1 F H F1 H1)(m1:RepM X.K F1 H1 M1)(hR:J.RM z M1 x fs):gO X σ F1 H1 x fs:=λF' H' s' e C od I g er ex=>
 hx σ z M1 F' H' s' e C od x fs I ((k.growM rs.mb g1).grow g) ((rs.growM k.bh g1 m1).growM (k.growM rs.mb g1).bh g.toM (m1.grow g)) hR er ex
def ki(M:CalE X.prog X.w X.K X.mg X.base n x ps S)(hr:Room m X.A)(hx:XOkM X)(hc:X.calm=true)(ha:MA X (e::es) t)(ge:autoParam (X.ex=[]) zA0)(hg:autoParam (Gl X x) zA0)(hn:autoParam (n+1<=m) zA1)(e8:autoParam (zND x) zA1)
  (he:autoParam (zSE X e es) zA0) (c_:autoParam (zPL X cpos es) zA0):
  MSt X (.Raise (be (.Call (.Name x p) (e::es) [] cpos)) z7 pos) (zg x S t):=⟨(ze M hr hc ha.out ge hg hn e8 he c_).anti λE s H q=>by
 obtain⟨F0,F,z,M,k,rs,ED,h,ee⟩:=q;exact⟨F,z,M,k.kf,rs,_,h,λds vs M1 F1 H1 g1 j_ rx m1=>⟨by rw[rx.length];exact j_.1,F1,ds,g1.fh,rx,_,j_.2,λfs hR=>rq hx k.kf rs g1 m1 hR⟩⟩⟩
def zh(x:IT)(t:TMA):TMS:=λ_ z M=>t z M λds M1=>ds.length<=1000/\J.RM z M1 x []
def zi(h:∃ C N bm,ErrK X.K X.mg x C N bm/\ErrN X.K N)(hx:XOkM X)(hc:X.calm=true)(ha:MA X (e::es) t)(ge:autoParam (X.ex=[]) zA0)(hg:autoParam (Gl X x) zA0)(e8:autoParam (zND x) zA1)
  (he:autoParam (zSE X e es) zA0) (c_:autoParam (zPL X cpos es) zA0):
  MSt X (.Raise (be (.Call (.Name x p) (e::es) [] cpos)) z7 pos) (zh x t):=⟨(zf h hc ha.out ge hg e8 he c_).anti λE s H q=>by
 obtain⟨F0,F,z,M,k,rs,ED,h,ee⟩:=q;exact⟨F,z,M,k.kf,rs,_,h,λds vs M1 F1 H1 g1 j_ rx m1=>⟨by rw[rx.length];exact j_.1,F1,g1.fh,rq hx k.kf rs g1 m1 j_.2⟩⟩⟩
end
section
variable {X:Cx}[J:Jm]{a b c e:Qo}{ta tb tc te:TME}{pos:QC}{st:Qq}{rest:List Qq}{t u:TMS}
def zj:TMS:=λE z M=>E.nx z M
def mSeq(t u:TMS):TMS:=λE z M=>t {E with nx:=u E} z M
def bV:MSs X [] zj:=⟨pss_nil.anti λE s H q=>by
 obtain⟨F0,F,z,M,k,rs,ED,h,e⟩:=q;exact e.nx z s M F H k h rs⟩
def ax(h1:MSt X st t)(h2:MSs X rest u):MSs X (st::rest) (mSeq t u):=⟨(ft h1.out h2.out).anti λE s H q=>by
 obtain⟨F0,F,z,M,k,rs,ED,h,e⟩:=q;exact⟨F0,F,z,M,k,rs,{ED with nx:=u ED},h,⟨λz' s' M' F' H' k' hz r'=>⟨F0,F',z',M',k',r',ED,hz,e⟩,e.rt,e.bk,e.ct⟩⟩⟩
def aB(h1:MSt X st t):MSs X [st] t:=⟨oQ h1.out⟩
def mRet(te:TME):TMS:=λE z M=>te z M E.rt
def aM(he:ME X e te):MSt X (.Return (be e) pos) (mRet te):=⟨(oR he.out).anti λE s H q=>by
 obtain⟨F0,F,z,M,k,rs,ED,h,e⟩:=q;exact⟨F,z,M,k.kf,rs,_,h,λd v M' F' H' g hd rd m'=>e.rt d v M' F' H' (k.growM rs.mb g) hd rd m' (rs.growM k.bh g m').mb⟩⟩
def zk(te:TME):TMS:=λE z M=>te z M λ_ M1=>E.nx z M1
def cy(he:ME X e te)(hs:autoParam (QF e z7 pos.line X.env=pure false) zA0):MSt X (.Expr e pos) (zk te):=⟨(jq he.out hs).anti λE s H q=>by
 obtain⟨F0,F,z,M,k,rs,ED,h,e⟩:=q;exact⟨F,z,M,k.kf,rs,_,h,λd v M' F' H' g hd rd m'=>e.nx z s M' F' H' (k.growM rs.mb g) hd (rs.growM k.bh g m')⟩⟩
def mIfS(c:TMT)(t u:TMS):TMS:=λE z M=>c z M λb M1=>if b=true then t E z M1 else u E z M1
variable{l r:List Qq}
def ck{c:Qo}{tc:TMT}(hc:MT X c tc)(ha:MSs X l t)(hb:MSs X r u):MSt X (.If c l r pos) (mIfS tc t u):=⟨(oU hc.out ha.out hb.out).anti λE s H q=>by
 obtain⟨F0,F,z,M,k,rs,ED,h,e⟩:=q;refine⟨F,z,M,k.kf,rs,_,h,λb M1 F1 H1 g hk m1=>?_⟩;cases b with
 |true=>exact⟨F0,F1,z,M1,k.growM rs.mb g,rs.growM k.bh g m1,ED,hk,e⟩
 |false=>exact⟨F0,F1,z,M1,k.growM rs.mb g,rs.growM k.bh g m1,ED,hk,e⟩⟩
def mIfJ(c:TMT)(t u:TMS):TMS:=λE z M=>∃ J:SD->MS->Prop,(c z M λb M1=>if b=true then t {E with nx:=J} z M1 else u {E with nx:=J} z M1)/\∀ z' M',J z' M'->E.nx z' M'
def rz{c:Qo}{tc:TMT}(hc:MT X c tc)(ha:MSs X l t)(hb:MSs X r u):MSt X (.If c l r pos) (mIfJ tc t u):=⟨(ck hc ha hb).out.anti λE s H q=>by
 obtain⟨F0,F,z,M,k,rs,ED,⟨J,h,j⟩,e⟩:=q;exact⟨F0,F,z,M,k,rs,{ED with nx:=J},h,⟨λz' s' M' F' H' k' hz r'=>e.nx z' s' M' F' H' k' (j z' M' hz) r',e.rt,e.bk,e.ct⟩⟩⟩
def mSet(i:Nat)(te:TME):TMS:=λE z M=>∃ P:D->MS->Prop,te z M P/\∀ d M',P d M'->E.nx (z.set i (be d)) M'
def aX(i:Nat){x:IT}{d6:QC}(hN:X.N.Nodup)(he:ME X e te)(hi:autoParam (X.N[i]?=be x) zA0)(hx:autoParam (Loc X.env.scope x) zA4)(hs:autoParam (QF e (be (.Name x d6)) pos.line X.env=pure false) zA0)
  (hf:autoParam (zFN X x) zA3):MSt X (.Assign [.Name x d6] e pos) (mSet i te):=⟨(jr hN hi hx he.out hs hf).anti λE s H q=>by
 obtain⟨F0,F,z,M,k,rs,ED,⟨P,h,j⟩,e⟩:=q;exact⟨F,z,M,k.kf,rs,P,h,λd v M' F' H' g hd rd m'=>e.nx _ _ M' F' H' (k.growM rs.mb g) (j d M' hd) ((rs.growM k.bh g m').set rd)⟩⟩
def zl(x f:IT)(to te:TME):TMS:=λE z M=>te z M λd M1=>to z M1 λo M2=>match o with| .ptr a=>∃ fs,mget M2 a=be (.ins x fs)/\fs.length<1000/\E.nx z (mput M2 a (.ins x (putD f d fs)))|_=>False
def gP{x f:IT}{o:Qo}{to:TME}{d6:QC}(hA:ClsA X.K x f)(ho:ME X o to)(he:ME X e te)(hs:autoParam (QF e (be (.Attribute o f d6)) pos.line X.env=pure false) zA0):
  MSt X (.Assign [.Attribute o f d6] e pos) (zl x f to te):=⟨(pB ho.out he.out hs).anti λE s H q=>by
 obtain⟨C,hn,hc,hf⟩:=hA;obtain⟨F0,F,z,M,k,rs,ED,h,ee⟩:=q;refine⟨F,z,M,k.kf,rs,_,h,λd v M1 F1 H1 g1 hx rd m1=>?_⟩;have k1:=k.growM rs.mb g1;have u6:=rs.growM k.bh g1 m1;refine⟨F1,z,M1,k1.kf,u6,_,hx,λo' v' M2 F2 H2 g2 hy ro m2=>?_⟩;have k2:=k1.growM u6.mb g2;have JV:=u6.growM k1.bh g2 m2;split at hy
 .rename_i a;obtain⟨fs,hm,hl,KA⟩:=hy;obtain⟨C',dx,ws,l8,hH,rf⟩:=m2.ok _ _ (bN hm);rw[hn] at l8;cases l8;have fa:=m2.fr a (cx (bN hm));refine⟨a,C,dx,ws,rep_ptr.mp ro,hH,hc,hf,by rw[rf.length];exact hl,?_⟩;have m3:RepM X.K F2 (upd H2 a (.ins C dx (putF f v ws))) (mput M2 a (.ins x (putD f d fs))):=m2.put hm ⟨C,dx,_,hn,ay,RepF.put (rd.mono g2.ff) rf⟩;have g3:GrowM M2 (mput M2 a (.ins x (putD f d fs))) F2 H2 F2 (upd H2 a (.ins C dx (putF f v ws))):=GrowM.put k2.fh fa hm;exact ee.nx z s _ F2 _ (k2.growM JV.mb g3) KA (JV.growM k2.bh g3 m3)
 .exact hy.elim⟩
def zm(c:TMT)(tb:TMS):TMS:=λE z M=>∃ W:Nat->SD->MS->Prop,(∃ m,W m z M)/\∀ m z M,W m z M->
 c z M λb M1=>if b=true then tb {E with nx:=λz' M'=>∃ m',m'<m/\W m' z' M',ct:=λz' M'=>∃ m',m'<m/\W m' z' M',bk:=E.nx} z M1 else E.nx z M1
def zn{c:Qo}{body:List Qq}{tc:TMT}{tb:TMS}(hp:QQ (Qr X.prog X.w) X.A X.env X.xe)(hc:MT X c tc)(hb:MSs X body tb):MSt X (.While c body [] pos) (zm tc tb):=⟨(oW hp hc.out hb.out).anti λE s H q=>by
 obtain⟨F0,F,z,M,k,rs,ED,⟨W,⟨m0,w0⟩,d5⟩,e⟩:=q;refine⟨λm s' H'=>∃ F' z' M',Kept J.B F0 F' H'/\RepZ X.K J.B F' H' z' s' M'/\W m z' M',⟨m0,F,z,M,k,rs,w0⟩,?_⟩;rintro m s1 H1 ⟨F1,z1,M1,k1,r1,w1⟩;refine⟨F1,z1,M1,k1.kf,r1,_,d5 m z1 M1 w1,λb M2 F2 H2 g2 hk m2=>?_⟩;cases b with
 |true=>
  refine⟨λs3 H3=>∃ F3 z3 M3,Kept J.B F0 F3 H3/\RepZ X.K J.B F3 H3 z3 s3 M3/\∃ m',m'<m/\W m' z3 M3,λs3 H3 ⟨F3,z3,M3,k3,r3,m',l,w3⟩=>⟨m',l,F3,z3,M3,k3,r3,w3⟩,?_⟩;exact⟨F0,F2,z1,M2,k1.growM r1.mb g2,r1.growM k1.bh g2 m2,_,hk,⟨λz3 s3 M3 F3 H3 k3 h3 r3=>⟨F3,z3,M3,k3,r3,h3⟩,e.rt,e.nx,λz3 s3 M3 F3 H3 k3 h3 r3=>⟨F3,z3,M3,k3,r3,h3⟩⟩⟩
 |false=>exact e.nx z1 s1 M2 F2 H2 (k1.growM r1.mb g2) hk (r1.growM k1.bh g2 m2)⟩
end
section
variable {X:Cx}[J:Jm]{a b c e o:Qo}{ta tb tc te to:TME}{pos:QC}{st:Qq}{rest:List Qq}{t u:TMS}
abbrev TMI:=SD->MS->(List D->MS->Prop)->Prop
def mItR(t:TME):TMI:=λz M R=>t z M λx M1=>match x with| .int n=>(0<=n/\n<2 ^ 62)/\R ((EM n.toNat).map λk=>D.int ((k:Nat):Int)) M1|_=>False
def mFor(i:Nat)(ti:TMI)(tb:TMS):TMS:=λE z M=>ti z M λds M1=>∃ W:Nat->SD->MS->Prop,W 0 z M1/\(∀ k x z M,ds[k]?=be x->W k z M->tb {E with nx:=W (k+1),ct:=W (k+1),bk:=E.nx} (z.set i (be x)) M)/\∀ z M,W ds.length z M->E.nx z M
def zo(i:Nat){x:IT}{p p1 p2:QC}{body:List Qq}{tb:TMS}(hp:QQ (Qr X.prog X.w) X.A X.env X.xe)(hc:X.calm=true)(hN:X.N.Nodup)(hm:X.mg "range"=z7)(he:ME X e te)(hb:MSs X body tb)(hg:autoParam (Gl X "range") zA0)(hi:autoParam (X.N[i]?=be x) zA0)(hx:autoParam (Loc X.env.scope x) zA4)
  (hf:autoParam (zFN X x) zA3) (hs:autoParam (∀ y,zFS X (.Call (.Name "range" p1) [e] [] p2) y) zA2) (j6:autoParam (zSE X e []) zA0) (d9:autoParam (Qv [e] X.env=[(false,Qx e X.env)]) zA0):
  MSt X (.For (.Name x p) (.Call (.Name "range" p1) [e] [] p2) body [] pos) (mFor i (mItR te) tb):=⟨(dE hp hc (fv hg hm (bg he.out pa_nil j6) d9) (gd hN hi hx hf) hb.out hs).anti λE s H q=>by
 obtain⟨F0,F,z,M,kp,rs,ED,h,e⟩:=q;refine⟨F,z,M,kp.kf,rs,_,h,λd v M1 F1 H1 g1 hd rd m1=>?_⟩;split at hd
 .rename_i n;obtain⟨⟨b1,b2⟩,W,w0,d5,out⟩:=hd;have hl:((EM n.toNat).map λk=>D.int ((k:Nat):Int)).length=n.toNat:=by simp
  refine⟨n,by rw[rep_int.mp rd],by lia,b2,ju (lo:=0) (n:=n.toNat) (λk s' H'=>∃ F' z' M',Kept J.B F0 F' H'/\RepZ X.K J.B F' H' z' s' M'/\W k z' M') ⟨F1,z,M1,kp.growM rs.mb g1,rs.growM kp.bh g1 m1,w0⟩ ?_ ?_⟩
  .rintro k s' H' hk ⟨F',z',M',k',r',w'⟩;have e1:(0:Int)+(k:Int)=(k:Int):=by lia
   exact⟨F0,F',_,M',k',r'.set (d:= .int (k:Int)) (rep_int.mpr (by rw[e1])),_,d5 k (.int (k:Int)) z' M' (by simp[hk]) w',⟨λz3 s3 M3 F3 H3 k3 h3 r3=>⟨F3,z3,M3,k3,r3,h3⟩,e.rt,e.nx,λz3 s3 M3 F3 H3 k3 h3 r3=>⟨F3,z3,M3,k3,r3,h3⟩⟩⟩
  .rintro s' H' ⟨F',z',M',k',r',w'⟩;exact e.nx z' s' M' F' H' k' (out z' M' (by rw[hl];exact w')) r'
 .exact hd.elim⟩
def zp(te:TME):TME:=λz M R=>te z M λd M1=>match d with| .ptr a=>∃ ds,mget M1 a=be (.lst ds)/\R (.int ds.length) M1|_=>False
def zq{p:QC}(hm:X.mg "len"=z7)(ha:ME X e te)(hg:autoParam (Gl X "len") zA0)(he:autoParam (zSE X e []) zA0):ME X (.Call (.Name "len" p) [e] [] pos) (zp te):=⟨(gl jx hg hm PySem.boot_len (bg ha.out pa_nil he) (by decide) (by decide) he).anti λs H Q h=>by
 obtain⟨F,z,M,k,rs,R,h1,h2⟩:=h;refine⟨F,z,M,k,rs,_,h1,λd v M1 F1 H1 g1 hx rx m1=>?_⟩;split at hx
 .rename_i a;obtain⟨ds,hm,hR⟩:=hx;obtain⟨vs,hH,rr⟩:=m1.ok _ _ (bN hm);exact⟨.ref a,vs.length,by rw[rep_ptr.mp rx],.inl ⟨vs,SqL.of hH,rfl⟩,h2 _ _ M1 F1 H1 g1 hR (rep_int.mpr (by rw[rr.length])) m1⟩
 .exact hx.elim⟩
def mIxP(ta tb:TME):TME:=λz M R=>ta z M λx M1=>tb z M1 λy M2=>match x,y with| .ptr a,.int i=>∃ ds,mget M2 a=be (.lst ds)/\∃ d,atI ds i=be d/\R d M2|_,_=>False
def zr(ha:ME X a ta)(hb:ME X b tb)(hs:autoParam (dX b) zA6):ME X (.Subscript a b pos) (mIxP ta tb):=⟨(pe_ix ix_list ha.out hb.out hs).anti λs H Q h=>by
 obtain⟨F,z,M,k,rs,R,h1,h2⟩:=h;refine⟨F,z,M,k,rs,_,h1,λx u M1 F1 H1 g1 hx rx m1=>?_⟩;refine⟨F1,z,M1,k.growM rs.mb g1,rs.growM k.bh g1 m1,_,hx,λy v M2 F2 H2 g2 hy ry m2=>?_⟩;split at hy
 .rename_i p i;obtain⟨ds,hm,d,hd,hR⟩:=hy;obtain⟨vs,hH,rr⟩:=m2.ok _ _ (bN hm);obtain⟨w,e2,j5⟩:=rr.at hd;exact⟨p,vs,_,w,rep_ptr.mp rx,rep_int.mp ry,SqL.of hH,e2,h2 d w M2 F2 H2 (g1.trans g2) hR j5 m2⟩
 .exact hy.elim⟩
def zt(to te:TME):TME:=λz M R=>to z M λo M1=>match o with| .ptr a=>(∃ ds,mget M1 a=be (.lst ds))/\te z M1 λd M2=>∃ ds,mget M2 a=be (.lst ds)/\ds.length<=100000/\R .non (mput M2 a (.lst (ds++[d])))|_=>False
def zu{apos cpos:QC}(ho:ME X o to)(he:ME X e te)(o7:autoParam (zSE X e []) zA0)
  (c8:autoParam (Qy o "append" X.env (Qx o X.env)=Qx o X.env) zA0)
  (e_:autoParam (zHF X cpos [e]) zA0)
  (d4:autoParam ((apos.endLine==cpos.line)=true) zA0):
  ME X (.Call (.Attribute o "append" apos) [e] [] cpos) (zt to te):=⟨(dY PySem.F.plainAttrs_list PySem.F.slot_list_append PySem.F.type_list_append gm ho.out (bg he.out pa_nil o7) c8 e_ d4 o7).anti λs H Q h=>by
 obtain⟨F,z,M,k,rs,R,h1,h2⟩:=h;refine⟨F,z,M,k,rs,_,h1,λx u M1 F1 H1 g1 hx rx m1=>?_⟩;split at hx
 .rename_i a;obtain⟨⟨P1,Mi⟩,hx⟩:=hx;obtain⟨OX,OY,P2⟩:=m1.ok _ _ (bN Mi);rw[rep_ptr.mp rx];refine⟨.inl ⟨rfl,OX,SqL.of OY⟩,?_⟩;refine⟨F1,z,M1,k.growM rs.mb g1,rs.growM k.bh g1 m1,_,hx,λd v M2 F2 H2 g2 hd rd m2=>?_⟩;obtain⟨ds,hm,hl,hR⟩:=hd;obtain⟨vs,hH,rr⟩:=m2.ok _ _ (bN hm);have hz:vs.length<sizeLine:=by
   rw[rr.length];have h2:(100000:Nat)<sizeLine:=by decide
   lia
  refine⟨a,vs,v,rfl,rfl,hH,hz,?_⟩;exact h2 _ _ _ F2 _ (g1.trans (g2.trans (GrowM.put g2.fh (m2.fr a (cx (bN hm))) hm))) hR (rep_non.mpr rfl) (m2.put hm ⟨_,ay,rr.append (eH rd)⟩)
 .exact hx.elim⟩
def frzD:MO->D| .ins x fs=> .obj x fs| .lst ds=> .lst ds| .dti a9=> .dti a9
def mFrz(i:Nat)(t:TMS):TMS:=λE z M=>match z[i]? with|some (be (.ptr a))=>∃ o,mget M a=be o/\t E (z.set i (be (frzD o))) (mdel M a)|_=>False
def rA(i:Nat){Ks:List Qq}(h:MSs X Ks t):MSs X Ks (mFrz i t):=⟨PSs.anti h.out λE s H q=>by
 obtain⟨F0,F,z,M,k,rs,ED,h,e⟩:=q;unfold mFrz at h;split at h
 .rename_i a ez;obtain⟨o,hm,h⟩:=h;have mem:=bN hm;have fa:=rs.rm.fr a (cx mem);have ba:=rs.mb a (cx mem);obtain⟨v,hv,rv⟩:=rs.rs.val i _ ez rfl;have OZ:=rep_ptr.mp rv;subst OZ;have hok:=rs.rm.ok a o mem;obtain⟨ho,gt,Mj⟩:∃ ho,H a=be ho/\∀ F',Same F F'->F' a=be ho->Rep X.K F' (frzD o) (.ref a):=by
   cases o with
   |ins x fs=>obtain⟨C,dx,ws,n,h1,h2⟩:=hok;exact⟨_,h1,λF' s' hF=>rep_obj.mpr ⟨a,C,dx,ws,rfl,n,hF,RepF.mono s' fs ws h2⟩⟩
   |lst ds=>obtain⟨vs,h1,h2⟩:=hok;exact⟨_,h1,λF' s' hF=>rep_lst.mpr ⟨a,vs,rfl,hF,h2.mono s'⟩⟩
   |dti a9=>exact⟨_,hok,λF' s' hF=>rep_dti.mpr ⟨a,rfl,hF⟩⟩
  have s1:Same F (upd F a ho):=aS fa _;have hs:s.set i (be (.ref a))=s:=by
   apply Gm;intro n;by_cases hn:i=n
   .subst hn;rw[FB (E6.mp hv).1,hv]
   .rw[E9 hn]
  have k1:Kept J.B F0 (upd F a ho) H:=⟨k.bh,λb u q=>by
   by_cases hb:b=a
   .subst hb;rw[ay] at q;cases q;exact gt
   .rw[aj hb] at q;exact k.fh b u q,k.f0.trans s1,λb h1 h2=>by
   by_cases hb:b=a
   .subst hb;exact absurd ba h2
   .rw[aj hb];exact k.out b h1 h2,k.eb,k.jf,k.jo⟩
  have r0:RepS X.K J.B (upd F a ho) H z s:=⟨rs.rs.len,λi d e n=>let ⟨v,q1,q2⟩:=rs.rs.val i d e n;⟨v,q1,q2.mono s1⟩,λi ds e=>absurd e (rs.no i ds),rs.rs.apart⟩;have O0:RepM X.K (upd F a ho) H (mdel M a):=⟨rs.rm.nd.sublist del_sub,λb q hb=>by
   obtain⟨ne,hb⟩:=jZ rs.rm.nd hb;exact(rs.rm.ok b q hb).mono s1 λ_ z=>z,λb hb=>by
   obtain⟨⟨b',q⟩,g7,rfl⟩:=Fg.mp hb;obtain⟨ne,KI⟩:=jZ rs.rm.nd g7;rw[aj ne];exact rs.rm.fr _ (cx KI)⟩
  have z0:RepZ X.K J.B (upd F a ho) H z s (mdel M a):=⟨r0,rs.no,O0,λb hb=>rs.mb b (del_sub.subset hb)⟩;have z1:=z0.set (i:=i) (Mj _ s1 ay);rw[hs] at z1;exact⟨F0,_,_,_,k1,z1,ED,h,e⟩
 .exact h.elim⟩
end
def rB{N:List IT}{ds:List D}(rs:Reps K F ds vs):∀ (i:Nat) d,(startD N ds)[i]?≠be (be (.own d)):=by
 intro i d e;unfold startD at e;by_cases hi:i<ds.length
 .rw[Fu (by simpa using hi),E3] at e;cases q:ds[i]? with
  |none=>rw[q] at e;cases e
  |some x=>
   rw[q] at e;cases e;obtain⟨v,_,q2⟩:=rs.get q;exact rep_own q2
 .rw[FC (by simpa using hi),Gf] at e;split at e
  .cases e
  .cases e
def growM_nil(g:GrowM [] M' F H F' H'):Grow F H F' H':=⟨g.ff,g.fh,λb o h=>g.hh b o (λz=>nomatch z) h,λb h1 h2=>g.out b (λz=>nomatch z) h1 h2⟩
section
variable {P:P3}{w:Qt}{K:Ex}{mg:IT->Option KB}{base:Heap}
variable{x:IT}{ps:List IT}{S:SpM}
def CalMM.toX{n:Nat}{S0:SpX}(C:CalMM P w K mg base n x ps S)(h:∀ ds R RX,S0 ds R RX->S ds [] (λd _=>R d) λx fs _=>RX x fs):CalX P w K mg base n x ps S0:=by
 obtain⟨f,fd,F,hb,hk,hm⟩:=C;refine⟨f,fd,F.imp λvs H Q E q=>?_,hb,hk,hm⟩;obtain⟨F,ds,fh,rs,R,RX,hS,q1,q2⟩:=q;exact⟨F,ds,[],fh,rs,RepM.nil,_,_,h ds R RX hS,λd v M' F' H' g hd rd _=>q1 d v F' H' (growM_nil g) hd rd,λy fs C od M' F' H' g hR er _=>q2 y fs C od F' H' (growM_nil g) hR er⟩
open Classical in
def Fun.okM{x qual:IT}{st:Qq}{f:KF}{fd:Qz}{N ps:List IT}{k:Nat}{S:SpM}(T:Fun K x qual st f fd)(F:FnScope N ps (af st))(len:∀ ds M R RX,S ds M R RX->ds.length=ps.length)
  (b9:∀ (cdv:KB) (A:Qu) (outer:List Q4) (s:KM) (H:Hp) (E:XK) (J:Jm),Room k (A.deeper (QD qual (af st) s.heap.objs.size f cdv))->XOkM (cxOf (CX1 P w) P w K mg base N qual (af st) f cdv A outer s H E)->
   ∃ t,MSs (cxOf (CX1 P w) P w K mg base N qual (af st) f cdv A outer s H E) (aE st) t/\∀ ds M R RX,(∀ z,J.RM z=λM' x fs=>RX x fs M')->S ds M R RX->t {nx:=λ_ M'=>R .non M',rt:=R} (startD N ds) M):FnOk P w K mg base (CX1 P w) (k+1) f fd ps (lSpM K S):=by
 refine Fun.okC T F (λvs H Q E h=>?_) (λcdv A outer s H vs Q E hr h=>?_)
 .obtain⟨F,ds,M,fh,rs,rm,R,RX,h,_⟩:=h;rw[rs.length];exact len ds M R RX h
 .obtain⟨F,ds,M,fh,rs,rm,R,RX,h,q,qx⟩:=h
  let B:Hp:=λb=>if b∈au M then z7 else H b
  have NH:∀ {b:KF},b∈au M->B b=none:=λ{b} h=>if_pos h;have Lm:∀ {b:KF},b ∉ au M->B b=H b:=λ{b} h=>if_neg h
  letI:Jm:={B:=B,F0:=F,RX:=λ_ _ _=>False,RM:=λ_ M' x fs=>RX x fs M'}
  have gr:∀ {M':MS} {F' H':Hp},Kept B F F' H'->(∀ a,a∈au M'->B a=z7)->GrowM M M' F H F' H':=λ{M' F' H'} k mb=>⟨k.f0,k.fh,λb o nb e=>k.bh b o (by rw[Lm nb];exact e),λb nb h1 h2=>k.out b h1 (by rw[Lm nb];exact h2),λb hb=>by
   by_cases nb:b∈au M
   .exact .inl nb
   .right;rw[<- Lm nb];exact mb b hb⟩
  have hx:XOkM (cxOf (CX1 P w) P w K mg base N qual (af st) f cdv A outer s H E):=by
   intro σ z M' F' H' s' e C od y fs I kk rr hR er ⟨He,ne,_,hx⟩;have hE:E (.ref C) od H':=qx y fs C od M' F' H' (gr kk rr.mb) hR er rr.rm;rcases hx with⟨sl,vs,h1,h2⟩|⟨T,h1,h2,h3,_⟩
   .exact qa I h1 h2 He ne hE
   .exact qN I h1 ne h2 He h3 hE
  obtain⟨t,ht,hq⟩:=b9 cdv A outer s H E inferInstance hr hx;have k0:Kept B F F H:=⟨λb o e=>by
   by_cases nb:b∈au M
   .rw[NH nb] at e;cases e
   .rw[Lm nb] at e;exact e,fh,Same.refl F,λ_ h _=>h,rfl,Same.refl F,λ_ h _=>h⟩
  have r0:RepZ K B F H (startD N ds) (L2.start N vs) M:=⟨dZ rs,rB rs,rm,λa h=>NH h⟩;exact⟨_,ht.out,F,F,startD N ds,M,k0,r0,_,hq ds M R RX (λ_=>rfl) h,⟨λz' s' M' F' H' k hn r=>q _ _ M' F' H' (gr k r.mb) hn (rep_non.mpr rfl) r.rm,λd v M' F' H' k hd rd NI mb=>q d v M' F' H' (gr k mb) hd rd NI,λ_ _ _ _ _ _ h _=>h.elim,λ_ _ _ _ _ _ h _=>h.elim⟩⟩
variable{N:List IT}
def Tx.okM{st:Qq}{k:Nat}(T:Tx K mg x st ps)(F:FnScope N ps (af st))(len:∀ ds M R RX,S ds M R RX->ds.length=ps.length)
  (b9:∀ (f:KF) (cdv:KB) (A:Qu) (outer:List Q4) (s:KM) (H:Hp) (E:XK) (J:Jm),Room k (A.deeper (QD x (af st) s.heap.objs.size f cdv))->XOkM (cxOf (CX1 P w) P w K mg base N x (af st) f cdv A outer s H E)->
   ∃ t,MSs (cxOf (CX1 P w) P w K mg base N x (af st) f cdv A outer s H E) (aE st) t/\∀ ds M R RX,(∀ z,J.RM z=λM' x fs=>RX x fs M')->S ds M R RX->t {nx:=λ_ M'=>R .non M',rt:=R} (startD N ds) M):CalMM P w K mg base (k+1) x ps S:=by
 obtain⟨f,fd,T,hb,hm⟩:=T;exact⟨f,fd,Fun.okM T F len λcdv A outer s H E J hr hx=>b9 f cdv A outer s H E J hr hx,hb,T.kp,hm⟩
def Txm(K:Ex)(x m:IT)(qual:IT)(st:Qq)(ps:List IT):Prop:=
 ∃ C f fd,nsIn K Pi x=be (be (.ref C))/\Cls K C/\Meth K C m f/\Fun K m qual st f fd/\Binds K fd ps []
def Txm.okM{m qual:IT}{st:Qq}{k:Nat}(T:Txm K x m qual st ps)(F:FnScope N ps (af st))(len:∀ ds M R RX,S ds M R RX->ds.length=ps.length)
  (b9:∀ (f:KF) (cdv:KB) (A:Qu) (outer:List Q4) (s:KM) (H:Hp) (E:XK) (J:Jm),Room k (A.deeper (QD qual (af st) s.heap.objs.size f cdv))->XOkM (cxOf (CX1 P w) P w K mg base N qual (af st) f cdv A outer s H E)->
   ∃ t,MSs (cxOf (CX1 P w) P w K mg base N qual (af st) f cdv A outer s H E) (aE st) t/\∀ ds M R RX,(∀ z,J.RM z=λM' x fs=>RX x fs M')->S ds M R RX->t {nx:=λ_ M'=>R .non M',rt:=R} (startD N ds) M):CalMth P w K mg base (k+1) x m ps (lSpM K S):=by
 obtain⟨C,f,fd,h1,h2,h3,T,hb⟩:=T;exact⟨C,f,fd,h1,h2,h3,Fun.okM T F len λcdv A outer s H E J hr hx=>b9 f cdv A outer s H E J hr hx,hb⟩
end
end My
namespace L2
section
variable {X:Cx}{pins:List (KF × QJ)}{σ:St}{H:Hp}{s:KM}{h':Heap}
def Inv.turned2{t':Nat}{e it:KF}(I:Inv X pins σ H s)(k:∀ b o,b≠e->b≠it->s.heap.get? b=be o->h'.get? b=be o)(he:FpOk X pins H e)(hi:FpOk X pins H it):Inv X pins σ H {s with heap:=h',toks:=t'}:=by
 obtain⟨e0,e1,e2,e3,e4,e5⟩:=he;obtain⟨i0,i1,i2,i3,i4,i5⟩:=hi;have Jk:∀ b u,H b=be u->b≠e/\b≠it:=λb u q=>⟨(λz=>by rw[z,e0] at q;cases q),(λz=>by rw[z,i0] at q;cases q)⟩;have nc:∀ {b:KF},b ∉ [e,it]->b≠e/\b≠it:=λ{b} h=>⟨λz=>h (by simp[z]),λz=>h (by simp[z])⟩;refine I.step (g':=s.gens) (d':=s.drawn) (ch:=[e,it]) (λb hb=>?_) (λb o _ _ hc q _=>k b o (nc hc).1 (nc hc).2 q) (λb o _ _ hc q _=>⟨o.slots,k b o (nc hc).1 (nc hc).2 q⟩) (λ_ _ _ _ n=>n)
  (λb o hc q=>⟨o,k b o (nc hc).1 (nc hc).2 q⟩) (λ_ _ q=>q) (λ_ _ _ q=>q) (λb ps q=>⟨#[],by rw[q];simp⟩) (λm hm=>?_) (λb u q=>?_) I.bare
 .rcases ER.mp hb with z|z
  .rw[z];exact⟨e3,e1,e4,e5⟩
  .rw[EL.mp z];exact⟨i3,i1,i4,i5⟩
 .obtain⟨o,es,ep,ho,r⟩:=hm;exact⟨o,es,ep,k _ o (Ne.symm e1) (Ne.symm i1) ho,r⟩
 .refine(I.hok b u q).stay (λc v hc q'=>k c v ?_ ?_ q') (λ_ q=>q) λ_ _ q=>q
  .rcases hc with z|z
   .rw[z];exact(Jk b u q).1
   .exact(Jk c _ z).1
  .rcases hc with z|z
   .rw[z];exact(Jk b u q).2
   .exact(Jk c _ z).2
end
def Itel(K:Ex)(a:KF):It:=
 ⟨λi H=>∃ xs x,SqL K H a xs/\xs[i]?=be x,λi H x H'=>∃ T v,H T=z7/\x= .ref T/\H'=upd H T (.tup [.int i,v])/\∀ xs,SqL K H a xs->xs[i]?=be v,λi H=>∃ xs,SqL K H a xs/\xs.length<=i⟩
def Ites(x:IT):It:=⟨λi _=>i<x.length,λi H v H'=>∃ T c,H T=z7/\v= .ref T/\H'=upd H T (.tup [.int i,.str ⟨#[c]⟩])/\x.cps[i]?=be c,λi _=>i=x.length⟩
variable{P:P3}{w:Qt}
def zv{H:Hp}{h:Heap}{T:KF}{i:Int}{t:Tok}{v:V}{u:KB}(r:RelV v u)(q:h.get? T=be {cls:= .type "tuple",data:= .seq #[.int i t,u]}):ObjOk P w H h T (.tup [.int i,v]):=
 ⟨by show 2<=sizeLine;decide,[.int i t,u],.cons ⟨t,rfl⟩ (.cons r .nil),⟨_,q,rfl,_,rfl⟩⟩
def rC{X:Cx}{pins:List (KF × QJ)}{σ:St}{H:Hp}{s:KM}{h':Heap}{t':Nat}{e it:KF}{i:Int}{t:Tok}{v:V}{u:KB}(I:Inv X pins σ H s)(he:FpOk X pins H e)(hi:FpOk X pins H it)(le:e<s.heap.objs.size)(li:it<s.heap.objs.size)(r:RelV v u)
  (hT:h'.get? s.heap.objs.size=be {cls:= .type "tuple",data:= .seq #[.int i t,u]}) (hk:∀ b o,b≠e->b≠it->s.heap.get? b=be o->h'.get? b=be o):Inv X pins σ (upd H s.heap.objs.size (.tup [.int i,v])) {s with heap:=h',toks:=t'}:=by
 have I1:Inv X pins σ (upd H s.heap.objs.size (.tup [.int i,v])) {s with heap:=s.heap.push {cls:= .type "tuple",data:= .seq #[.int i t,u]},toks:=t'}:=
  I.laid (λb o q=>Heap.get?_push_of_some _ q) (EK _) (zv r (Heap.get?_push_size _ rfl))
 have fp:∀ {b:KF},FpOk X pins H b->b<s.heap.objs.size->FpOk X pins (upd H s.heap.objs.size (.tup [.int i,v])) b:=λ{b} h l=>⟨by rw[aj (EZ l)];exact h.1,h.2⟩;refine I1.turned2 (h':=h') (t':=t') (λb o h1 h2 q=>?_) (fp he le) (fp hi li);rcases Heap.get?_push_cases (show(s.heap.push {cls:= .type "tuple",data:= .seq #[.int i t,u]}).get? b=be o from q) with⟨rfl,rfl⟩|q2
 .exact hT
 .exact hk b o h1 h2 q2
variable{s9:List Qo}
def zw{K:Ex}{x1:Nat}{tp:QC}(a e it:KF)(JW:e≠it):Turn P w K (.Tuple s9 x1 tp) (Itel K a) [e,it] e (λi h=>(∃ m9,IsEnum h e it i m9)/\h.IsListIter it a i) where
 mem:=by simp
 obj:=λi h st b hb=>by
  obtain⟨⟨m9,he⟩,hit⟩:=st;rcases ER.mp hb with z|z
  .rw[z];exact⟨_,he,λv z=>by cases z⟩
  .rw[EL.mp z];obtain⟨o,ho,c,d⟩:=hit;exact⟨o,ho,λv z=>by rw[d] at z;cases z⟩
 keep:=λi h h' st k=>⟨let ⟨m9,he⟩:=st.1;⟨m9,k e (by simp) _ he⟩,st.2.at λo q=>k it (by simp) o q⟩
 item:=by
  intro X hP hw hK hc i pins s σ H E I hf st hg;subst hP hw hK;obtain⟨xs,x,hq,hx⟩:=hg;obtain⟨its,rv,p,hz⟩:=I.list hq;obtain⟨u,hu,ru⟩:=rv.get hx;obtain⟨⟨m9,he⟩,hit⟩:=st;have fe:=hf e (by simp);have fi:=hf it (by simp);have le:e<s.heap.objs.size:=Heap.lt_size he;have li:it<s.heap.objs.size:=by obtain⟨o,ho,_⟩:=hit;exact Heap.lt_size ho
  refine wpAny_pyNext_enum_item he hit p.isList (x:=u) (by simpa using hu) JW λh' x_ JD hT g9 hk=>?_;refine⟨_,rfl,Rw x_ λh2 Ml n8=>?_⟩;have o_:Heap.SameBut e h' h2:=n8;have nT:s.heap.objs.size≠e:=FO le;have I1:Inv X pins σ (upd H s.heap.objs.size (.tup [.int i,x])) {s with heap:=h2,toks:=s.toks+1}:=rC I fe fi le li ru ((o_.2 _ nT).trans hT) λb o h1 h3 q=>(o_.2 b h1).trans (hk b o h1 h3 q);refine⟨.ref s.heap.objs.size,_,I1,rfl,⟨_,x,I.hok.fresh (EK _),rfl,rfl,λys hy=>by rw[I.list_inj hy hq];exact hx⟩,⟨⟨u,by simpa using Ml⟩,JD.at λo q=>(o_.2 it (Ne.symm JW)).trans q⟩,λb hb=>?_⟩;rcases ER.mp hb with z|z
  .rw[z,aj (EZ le)];exact fe.1
  .rw[EL.mp z,aj (EZ li)];exact fi.1
 done:=by
  intro X hP hw hK hc i pins s σ H E I hf st hg;subst hP hw hK;obtain⟨xs,hq,hx⟩:=hg;obtain⟨its,rv,p,hz⟩:=I.list hq;obtain⟨⟨m9,he⟩,hit⟩:=st;have hl:=rv.length;obtain⟨f0,f1,f2,f3,f4,f5⟩:=hf it (by simp);exact wpAny_pyNext_enum_end (I.ok.hd hc) he hit p.isList (by simp;lia) λh' eb=>⟨rfl,I.turned (t':=s.toks) (λb o hb q=>eb b o hb q) f0 f1 f3 f4 f5⟩
 self:=λ_ _ _ _ _ st h=>let ⟨⟨m9,he⟩,_⟩:=st;Q5 he h
def zx{K:Ex}{x1:Nat}{tp:QC}(x:IT)(t:Tok)(e it:KF)(JW:e≠it):Turn P w K (.Tuple s9 x1 tp) (Ites x) [e,it] e (λi h=>(∃ m9,IsEnum h e it i m9)/\h.IsStrIter it "str_ascii_iterator" x t i) where
 mem:=by simp
 obj:=λi h st b hb=>by
  obtain⟨⟨m9,he⟩,hit⟩:=st;rcases ER.mp hb with z|z
  .rw[z];exact⟨_,he,λv z=>by cases z⟩
  .rw[EL.mp z];obtain⟨o,ho,c,d⟩:=hit;exact⟨o,ho,λv z=>by rw[d] at z;cases z⟩
 keep:=λi h h' st k=>⟨let ⟨m9,he⟩:=st.1;⟨m9,k e (by simp) _ he⟩,let ⟨o,ho,r⟩:=st.2;⟨o,k it (by simp) o ho,r⟩⟩
 item:=by
  intro X hP hw hK hc i pins s σ H E I hf st hg;subst hP hw hK;have hi:i<x.cps.size:=hg;obtain⟨⟨m9,he⟩,hit⟩:=st;have fe:=hf e (by simp);have fi:=hf it (by simp);have le:e<s.heap.objs.size:=Heap.lt_size he;have li:it<s.heap.objs.size:=by obtain⟨o,ho,_⟩:=hit;exact Heap.lt_size ho
  refine wpAny_pyNext_enum_itemD (Draws.strAscii (A:=X.A.in1) (by exact I.ok.hd hc) it x t) he hit hi JW (by simp[JW]) λu h' tk hP x_ JD hT g9 hk=>?_;obtain⟨c,tu,IS,rfl⟩:=hP;refine⟨_,rfl,Rw x_ λh2 Ml n8=>?_⟩;have o_:Heap.SameBut e h' h2:=n8;have nT:s.heap.objs.size≠e:=FO le;have I1:Inv X pins σ (upd H s.heap.objs.size (.tup [.int i,.str ⟨#[c]⟩])) {s with heap:=h2,toks:=tk+1}:=rC I fe fi le li ⟨tu,rfl⟩ ((o_.2 _ nT).trans hT) λb o h1 h3 q=>(o_.2 b h1).trans (hk b o h1 h3 q);refine⟨.ref s.heap.objs.size,_,I1,rfl,⟨_,c,I.hok.fresh (EK _),rfl,rfl,IS⟩,⟨⟨_,by simpa using Ml⟩,let ⟨o,ho,r⟩:=JD;⟨o,(o_.2 it (Ne.symm JW)).trans ho,r⟩⟩,λb hb=>?_⟩;rcases ER.mp hb with z|z
  .rw[z,aj (EZ le)];exact fe.1
  .rw[EL.mp z,aj (EZ li)];exact fi.1
 done:=by
  intro X hP hw hK hc i pins s σ H E I hf st hg;subst hP hw hK;have hi:i=x.cps.size:=hg;subst hi;obtain⟨⟨m9,he⟩,hit⟩:=st;obtain⟨f0,f1,f2,f3,f4,f5⟩:=hf it (by simp);exact wpAny_pyNext_enum_endD (Draws.strAscii (A:=X.A.in1) (by exact I.ok.hd hc) it x t) he hit λh' eb=>⟨rfl,I.turned (t':=s.toks) (λb o hb q=>eb b o hb q) f0 f1 f3 f4 f5⟩
 self:=λ_ _ _ _ _ st h=>let ⟨⟨m9,he⟩,_⟩:=st;Q5 he h
def iEnL(K:Ex)(ta:TA):TI:=λσ H R=>ta σ H λvs H1=>∃ a,vs=[.ref a]/\(∃ xs,SqL K H1 a xs)/\R (Itel K a) H1
def iEnS(ta:TA):TI:=λσ H R=>ta σ H λvs H1=>∃ x,vs=[.str x]/\x.cps.all (·<128)=true/\R (Ites x) H1
section
variable {X:Cx}{s9:List Qo}{x1:Nat}{tp p pos:QC}{l:Qo}{ta:TA}
def rD(hg:Gl X "enumerate")(hm:X.mg "enumerate"=z7)(ha:PA X [l] ta)(hs:autoParam (Qv [l] X.env=[(false,Qx l X.env)]) zA0):PI X (.Tuple s9 x1 tp) (.Call (.Name "enumerate" p) [l] [] pos) (iEnL X.K ta):=by
 intro pins s σ H R I h;refine Call_ (dD I hg hm PyProof.Rows.boot_enumerate (PyProof.Rows.callWith_type1 (thn (ha pos pins s σ H _ I h) λus s1 ⟨vs,H1,I1,r1,q1⟩=>?_) hs rfl));obtain⟨a,rfl,⟨xs,hq⟩,q⟩:=q1;obtain⟨u,rfl,ru⟩:=bG r1;cases ru;obtain⟨its,rv,pl,hz⟩:=I1.list hq;refine call_enumerate_list pl.isList λh' he hit g9 hk=>?_;have I2:Inv X pins σ H1 {s1 with heap:=h'}:=I1.kept (t':=s1.toks) hk;refine Q5 he ?_;have ne:s1.heap.objs.size+1≠s1.heap.objs.size:=HU _;refine⟨s1.heap.objs.size+1,[s1.heap.objs.size+1,s1.heap.objs.size],_,_,H1,rfl,I2,zw a _ _ ne,⟨⟨_,he⟩,hit⟩,λb hb=>?_,q⟩;rcases ER.mp hb with z|z
 .rw[z];exact I1.fpOk (FQ _) (I1.hok.fresh (FQ _))
 .rw[EL.mp z];exact I1.fpOk (EK _) (I1.hok.fresh (EK _))
def rE(hg:Gl X "enumerate")(hm:X.mg "enumerate"=z7)(ha:PA X [l] ta)(hs:autoParam (Qv [l] X.env=[(false,Qx l X.env)]) zA0):PI X (.Tuple s9 x1 tp) (.Call (.Name "enumerate" p) [l] [] pos) (iEnS ta):=by
 intro pins s σ H R I h;refine Call_ (dD I hg hm PyProof.Rows.boot_enumerate (PyProof.Rows.callWith_type1 (thn (ha pos pins s σ H _ I h) λus s1 ⟨vs,H1,I1,r1,q1⟩=>?_) hs rfl));obtain⟨x,rfl,Mm,q⟩:=q1;obtain⟨u,rfl,t,rfl⟩:=bG r1;refine call_enumerate_str λh' he hit g9 hk=>?_;have I2:Inv X pins σ H1 {s1 with heap:=h'}:=I1.kept (t':=s1.toks) hk;refine Q5 he ?_;have ne:s1.heap.objs.size+1≠s1.heap.objs.size:=HU _;have O1:strIterType x="str_ascii_iterator":=by unfold strIterType;rw[Mm];rfl
 rw[O1] at hit;refine⟨s1.heap.objs.size+1,[s1.heap.objs.size+1,s1.heap.objs.size],_,_,H1,rfl,I2,zx x t _ _ ne,⟨⟨_,he⟩,hit⟩,λb hb=>?_,q⟩;rcases ER.mp hb with z|z
 .rw[z];exact I1.fpOk (FQ _) (I1.hok.fresh (FQ _))
 .rw[EL.mp z];exact I1.fpOk (EK _) (I1.hok.fresh (EK _))
end
end L2
namespace My
open Exc
section
variable {X:Cx}[J:Jm]{a b c e o:Qo}{ta tb tc te to:TME}{pos:QC}{st:Qq}{rest:List Qq}{t u:TMS}
def rF{K:Ex}{F:Hp}:∀ (is:List Nat) (ds:List D) (vs:List V) (z:SD),Reps K F ds vs->(∀ (i:Nat) d,z[i]?≠be (be (.own d)))->∀ (i:Nat) d,(cb is ds z)[i]?≠be (be (.own d))
 |[],_,_,z,_,h=>h
 |_::_,[],_,z,_,h=>h
 |i::is,d::ds,vs,z,r,h=>by
  obtain⟨v,vr,rfl,r1,r2⟩:=reps_cons.mp r;refine rF is ds vr _ r2 λj q e=>?_;by_cases hj:i=j
  .subst hj;rw[F7] at e;simp at e;have:=r1.noown;rw[e.2] at this;cases this
  .rw[E9 hj] at e;exact h j q e
def mItE(t:TME):TMI:=λz M R=>t z M λx M1=>match x with| .lst ds=>R ds M1|_=>False
def zy(t:TME):TMI:=λz M R=>t z M λx M1=>match x with| .str x=>x.cps.all (·<128)=true/\R (bE x) M1|_=>False
def rG(is:List Nat)(ti:TMI)(tb:TMS):TMS:=λE z M=>ti z M λds M1=>∃ W:Nat->SD->MS->Prop,W 0 z M1/\(∀ (k:Nat) x z M,ds[k]?=be x->W k z M->tb {E with nx:=W (k+1),ct:=W (k+1),bk:=E.nx} (cb is [.int k,x] z) M)/\∀ z M,W ds.length z M->E.nx z M
variable{is:List Nat}
def rH{K:Ex}{F0 F1 H1:Hp}{z:SD}{s:L2.St}{M1:MS}{E:Ends}{ED:EndsM}{It':It}{g:TG}{tb:TMS}{tbv:TS}{ds:List D}(hK:K=X.K)(k1:Kept J.B F0 F1 H1)(u6:RepZ K J.B F1 H1 z s M1)(e:EndsOkM K F0 ED E)(b_:is.length=2)
  (go:∀ k F' H',Same F1 F'->Same F' H'->k<ds.length->It'.go k H') (stop:∀ F' H',Same F1 F'->Same F' H'->It'.stop ds.length H')
  (yld:∀ k F' H' x H'',Same F1 F'->Same F' H'->k<ds.length->It'.yld k H' x H''->∃ T d v,H' T=z7/\x= .ref T/\H''=upd H' T (.tup [.int k,v])/\ds[k]?=be d/\Rep K F' d v)
  (hg:∀ (dd:List D) (vs:List V) (T:KF) (z:SD) (s:L2.St) (F H:Hp) (Q:L2.St->Hp->Prop),dd.length=2->H T=be (.tup vs)->Reps K F dd vs->RepS K J.B F H z s->(∀ s',RepS K J.B F H (cb is dd z) s'->Q s' H)->g (.ref T) s H Q)
  (Mn:∀ E s H,mS K tb E s H->tbv E s H)
  (hd:∃ W:Nat->SD->MS->Prop,W 0 z M1/\(∀ (k:Nat) x z M,ds[k]?=be x->W k z M->tb {ED with nx:=W (k+1),ct:=W (k+1),bk:=ED.nx} (cb is [.int k,x] z) M)/\∀ z M,W ds.length z M->ED.nx z M):
  ∃ W:Nat->Nat->L2.St->Hp->Prop,(∃ m,W 0 m s H1)/\∀ i m σ H,W i m σ H->
   (It'.stop i H/\E.nx σ H)\/(It'.go i H/\∃ N:L2.St->Hp->Prop,(∀ σ' H',N σ' H'->∃ m',m'<m/\W (i+1) m' σ' H')/\∀ x H',It'.yld i H x H'->g x σ H' λσ2 H2=>tbv {E with nx:=N,ct:=N,bk:=E.nx} σ2 H2):=by
 obtain⟨W,w0,d5,out⟩:=hd;refine⟨λk m s' H'=>m=ds.length - k/\k<=ds.length/\∃ F' z' M',Kept J.B F0 F' H'/\Same F1 F'/\RepZ K J.B F' H' z' s' M'/\W k z' M',⟨ds.length,by simp,Fl _,F1,z,M1,k1,Same.refl F1,u6,w0⟩,?_⟩;rintro k m s' H' ⟨rfl,hk,F',z',M',k',g',r',w'⟩;by_cases j3:k<ds.length
 .refine .inr ⟨go k F' H' g' k'.fh j3,λs3 H3=>∃ F3 z3 M3,Kept J.B F0 F3 H3/\Same F1 F3/\RepZ K J.B F3 H3 z3 s3 M3/\W (k+1) z3 M3,λs3 H3 h3=>⟨ds.length - (k+1),by lia,rfl,j3,h3⟩,λx H'' hy=>?_⟩;obtain⟨T,d,v,hT,rfl,rfl,hd,rd⟩:=yld k F' H' x H'' g' k'.fh j3 hy;have gn:=Grow.new k'.fh hT (.tup [.int k,v]);have k2:=k'.grow gn;have r2:=r'.growM k'.bh gn.toM (r'.rm.grow gn);have rp:Reps K (upd F' T (.tup [.int k,v])) [.int k,d] [.int k,v]:=reps_cons.mpr ⟨_,_,rfl,rep_int.mpr rfl,eH (rd.mono gn.ff)⟩;refine hg [.int k,d] _ T z' s' _ _ _ rfl ay rp r2.rs λs2 JV=>Mn _ _ _ ?_;have gF:Same F1 (upd F' T (.tup [.int k,v])):=g'.trans gn.ff;refine⟨upd F' T (.tup [.int k,v]),upd F' T (.tup [.int k,v]),_,M',⟨k2.bh,k2.fh,Same.refl _,λb h1 _=>h1,k2.eb,k2.jf.trans k2.f0,λb h1 h2=>k2.out b (k2.jo b h1 h2) h2⟩,⟨JV,rF is _ _ z' rp r2.no,r2.rm,r2.mb⟩,_,d5 k d z' M' hd w',?_⟩;have up:∀ {F3 H3:Hp},Kept J.B (upd F' T (.tup [.int k,v])) F3 H3->Kept J.B F0 F3 H3:=λk3=>⟨k3.bh,k3.fh,k2.f0.trans k3.f0,λb h1 h2=>k3.out b (k2.out b h1 h2) h2,k2.eb,k2.jf,k2.jo⟩;exact⟨λz3 s3 M3 F3 H3 k3 h3 r3=>⟨F3,z3,M3,up k3,gF.trans k3.f0,r3,h3⟩,λd v M3 F3 H3 k3=>e.rt d v M3 F3 H3 (up k3),λz3 s3 M3 F3 H3 k3=>e.nx z3 s3 M3 F3 H3 (up k3),λz3 s3 M3 F3 H3 k3 h3 r3=>⟨F3,z3,M3,up k3,gF.trans k3.f0,r3,h3⟩⟩
 .have ek:k=ds.length:=by lia
  subst ek;exact .inl ⟨stop F' H' g' k'.fh,e.nx z' s' M' F' H' k' (out z' M' w') r'⟩
variable{es:List Qo}{body:List Qq}
def zz{x1:Nat}{tp p1 p2:QC}{tb:TMS}(hp:QQ (Qr X.prog X.w) X.A X.env X.xe)(hc:X.calm=true)(hm:X.mg "enumerate"=z7)(he:ME X e te)(hG:DGs X es is)(hb:MSs X body tb)(b_:autoParam (is.length=2) zA0)(hg:autoParam (Gl X "enumerate") zA0)
  (hn:autoParam ((Qw es X.env).length=2) zA0) (n6:autoParam ((Qw es X.env).findIdx? (·.1)=none) zA0)
  (hs:autoParam (∀ y,zFS X (.Call (.Name "enumerate" p1) [e] [] p2) y) zA2) (j6:autoParam (zSE X e []) zA0) (d9:autoParam (Qv [e] X.env=[(false,Qx e X.env)]) zA0):
  MSt X (.For (.Tuple es x1 tp) (.Call (.Name "enumerate" p1) [e] [] p2) body [] pos) (rG is (mItE te) tb):=by
 obtain⟨ug,JE,kk⟩:=hG;refine⟨(dE hp hc (rD hg hm (bg he.out pa_nil j6) d9) (gf hc JE hn n6) hb.out hs).anti λE s H q=>?_⟩;obtain⟨F0,F,z,M,kp,rs,ED,h,e⟩:=q;refine⟨F,z,M,kp.kf,rs,_,h,λd v M1 F1 H1 g1 hd rd m1=>?_⟩;split at hd
 .rename_i ds;obtain⟨p,vs,rfl,hq,rr⟩:=rep_lst.mp rd;refine⟨p,rfl,⟨vs,SqL.of (g1.fh _ _ hq)⟩,rH (It':=Itel X.K p) rfl (kp.growM rs.mb g1) (rs.growM kp.bh g1 m1) e b_ (λk F' H' s1 s2 hk=>?_) (λF' H' s1 s2=>?_) (λk F' H' x H'' s1 s2 hk hy=>?_) (λdd m8 T z s F H Q hl hT rp y9 hQ=>?_) (λ_ _ _ h=>h) hd⟩
  .have Ma:k<vs.length:=by rw[rr.length];exact hk
   exact⟨vs,vs[k],SqL.of (s2 _ _ (s1 _ _ hq)),by simp[Ma]⟩
  .exact⟨vs,SqL.of (s2 _ _ (s1 _ _ hq)),by rw[rr.length];exact EK _⟩
  .obtain⟨T,v,hT,e1,e2,hv⟩:=hy;obtain⟨d,hd,rd⟩:=rr.get' (hv vs (SqL.of (s2 _ _ (s1 _ _ hq))));exact⟨T,d,v,hT,e1,e2,hd,rd.mono s1⟩
  .exact⟨T,m8,rfl,SqT.of hT,by rw[rp.length];exact hl,kk dd m8 z s J.B F H Q (by rw[hl,b_]) rp y9 hQ⟩
 .exact hd.elim
def zA{x1:Nat}{tp p1 p2:QC}{tb:TMS}(hp:QQ (Qr X.prog X.w) X.A X.env X.xe)(hc:X.calm=true)(hm:X.mg "enumerate"=z7)(he:ME X e te)(hG:DGs X es is)(hb:MSs X body tb)(b_:autoParam (is.length=2) zA0)(hg:autoParam (Gl X "enumerate") zA0)
  (hn:autoParam ((Qw es X.env).length=2) zA0) (n6:autoParam ((Qw es X.env).findIdx? (·.1)=none) zA0)
  (hs:autoParam (∀ y,zFS X (.Call (.Name "enumerate" p1) [e] [] p2) y) zA2) (j6:autoParam (zSE X e []) zA0) (d9:autoParam (Qv [e] X.env=[(false,Qx e X.env)]) zA0):
  MSt X (.For (.Tuple es x1 tp) (.Call (.Name "enumerate" p1) [e] [] p2) body [] pos) (rG is (zy te) tb):=by
 obtain⟨ug,JE,kk⟩:=hG;refine⟨(dE hp hc (rE hg hm (bg he.out pa_nil j6) d9) (gf hc JE hn n6) hb.out hs).anti λE s H q=>?_⟩;obtain⟨F0,F,z,M,kp,rs,ED,h,e⟩:=q;refine⟨F,z,M,kp.kf,rs,_,h,λd v M1 F1 H1 g1 hd rd m1=>?_⟩;split at hd
 .rename_i x;obtain⟨ha,hd⟩:=hd;have hl:=gI x;refine⟨x,by rw[rep_str.mp rd],ha,rH (It':=Ites x) rfl (kp.growM rs.mb g1) (rs.growM kp.bh g1 m1) e b_ (λk F' H' s1 s2 hk=>?_) (λF' H' s1 s2=>?_) (λk F' H' x H'' s1 s2 hk hy=>?_) (λdd m8 T z s F H Q hl hT rp y9 hQ=>?_) (λ_ _ _ h=>h) hd⟩
  .rw[hl] at hk;exact hk
  .exact hl
  .obtain⟨T,c,hT,e1,e2,hc⟩:=hy;exact⟨T,.str ⟨#[c]⟩,.str ⟨#[c]⟩,hT,e1,e2,jX hc,rep_str.mpr rfl⟩
  .exact⟨T,m8,rfl,SqT.of hT,by rw[rp.length];exact hl,kk dd m8 z s J.B F H Q (by rw[hl,b_]) rp y9 hQ⟩
 .exact hd.elim
end
end My
namespace L2
section
variable {prog:P3}{w:Qt}{K:Type}[DecidableEq K]{k9:HeapKind prog w K}{A:Qu}{E:KB->KM->Prop}{s:KM}{d a:KF}{k:K}{xs:List (K × KF × KB)}
def zB{v:KB}{Q:KB->KM->Prop}(hu:k9.room A)(n_:k9.is s.heap k a)(hm:s.heap.DictOfH k9 d xs)
  (h1:∀ p,Ru xs k=be p->Q p.2 {s with toks:=s.toks+k9.draws k})
  (h2:Ru xs k=z7->∀ h',h'.DictOfH k9 d (xs++[(k,a,v)])->Heap.SameBut d s.heap h'->Q v {s with heap:=h',toks:=s.toks+k9.draws k})
  (g9:xs.length<=sizeLine):Qs (Qr prog w) A (Rx d (.ref a) v) Q E s:=by
 obtain⟨o,es,ep,ho,hc,hd,he,NJ,hn⟩:=hm;unfold Rx
 try with_reducible refine QR ?_
 refine Os (k9.pyHash hu n_ ?_);refine Os (wpAny_dictFind_heap (s:={s with toks:=s.toks+k9.draws k}) hu n_ ho hd he NJ hn ?_ ?_)
 .intro d8;have Mo:k ∉ xs.map (·.1):=not_mem_keys_of_get d8;refine Os (wpAny_rule (Os (wpAny_updateDictKeys (hz:=by have e:=size_of_entries he;lia) (s:={s with toks:=s.toks+k9.draws k}) ho hd (Qp (h2 (atKey_none_of_get d8) _ ⟨_,_,ep+1,Heap.get?_update_self _ ho (Obj.isFreed_of_dict (Obj.data_mapDictKeys hd _)),
   hc.mapDictKeys _,Obj.data_mapDictKeys hd _,?_,?_,?_⟩ (Heap.SameBut.update ..))))))
  .simp[he,entryOfKey]
  .intro x hx;rcases Fk.mp hx with hx|hx
   .exact k9.keeps (NJ x hx) ho hd (Heap.SameBut.update ..)
   .simp only[EL] at hx;subst hx;exact k9.keeps n_ ho hd (Heap.SameBut.update ..)
  .rw[Fx,Gp];refine⟨hn,by simp,?_⟩;intro x hx y hy;simp only[E4,Gh,EL] at hy;subst hy;exact λe=>Mo (e ▸ hx)
 .intro j p hj;refine Os (wpAny_dictEntries (s:={s with toks:=s.toks+k9.draws k}) ho hd ?_);rw[entry_at he j,hj];exact Os (wpAny_rule (Qp (h1 p (atKey_of_get hn hj))))
def zC(k9:HeapKind prog w K)(d a:KF)(hd:(d==QO)=false)(v:KB):
  MeetsIn prog w (Builtin.«dict.setdefault» ⟨[.ref d,.ref a,v],[]⟩) (λA R s=>k9.room A.in1/\∃ k xs,k9.is s.heap k a/\s.heap.DictOfH k9 d xs/\xs.length<=sizeLine/\
   (∀ p,Ru xs k=be p->R (.ok (.ret p.2)) {s with toks:=s.toks+k9.draws k})/\
   (Ru xs k=z7->∀ h',h'.DictOfH k9 d (xs++[(k,a,v)])->Heap.SameBut d s.heap h'->R (.ok (.ret v)) {s with heap:=h',toks:=s.toks+k9.draws k})):=
 .of_wp λA R s hh=>by
  obtain⟨hu,k,xs,n_,hm,hz,h1,h2⟩:=hh;unfold Builtin.«dict.setdefault»;refine Os ?_;unfold Builtin.Dict.keyAndDefault;refine Os (wpAny_notOrdered_dict hm.typeIs ?_);show Qs _ _ (pure (d,Value.ref a,be v)) _ _ s;refine Qp ?_;show Qs _ _ (if(d==QO)=true then _ else(Rx d (.ref a) v>>=_)) _ _ s;rw[if_neg (by rw[hd];exact ET)];exact Os (zB hu n_ hm (λp hp=>Qp ⟨p.2,rfl,h1 p hp⟩) (λhn h' LS JU=>Qp ⟨v,rfl,h2 hn h' LS JU⟩) hz)
end
end L2
namespace My
open Exc
def lookD:List ((Int × Int) × Int)->Int->Int->Option Int
 |[],_,_=>z7
 |((a,b),h)::r,x,y=>if a=x/\b=y then be h else lookD r x y
def kj(x y:Int):∀ a9:List ((Int × Int) × Int),valV (dtiV a9) [.inl x,.inl y]=(lookD a9 x y).map V.int
 |[]=>rfl
 |((a,b),h)::r=>by
  show valV (([.inl a,.inl b],V.int h)::dtiV r) _=_;unfold lookD;by_cases e:a=x/\b=y
  .rw[if_pos e,jD (by rw[e.1,e.2])];rfl
  .rw[if_neg e,jE (λz=>e (by
    have z':([Sum.inl a,Sum.inl b]:List Key)=[.inl x,.inl y]:=z;injection z' with z1 z2;injection z2 with z2 _;exact⟨Sum.inl.inj z1,Sum.inl.inj z2⟩)),kj x y r]
def sdD(a9:List ((Int × Int) × Int))(x y v:Int):List ((Int × Int) × Int):=if(lookD a9 x y).isSome then a9 else a9++[((x,y),v)]
def zD:V->List V->Hp->VK->Prop:=λx vs H Q=>∃ a b i j d a9,x= .ref a/\vs=[.ref b,.int d]/\H a=be (.dT (dtiV a9))/\H b=be (.tup [.int i,.int j])/\Q (.int ((lookD a9 i j).getD d)) H
def zE{X:Cx}(hu:X.A.units+1<Rm):MtR X "dict.get" zD:=by
 intro pins s σ H x vs v us Q I rx rv h;obtain⟨a,b,i,j,d,a9,rfl,rfl,ha,hb,q⟩:=h;obtain⟨u,u',rfl,ru,rd⟩:=fw rv;cases(show v=Value.ref a from rx);refine wV hu I (DGet.t (k:=[.inl i,.inl j]) ha hb) ru rd λw' s' I' j5=>⟨.int ((lookD a9 i j).getD d),H,I',?_,q⟩;rw[kj] at j5;cases e:lookD a9 i j with
 |none=>rw[e] at j5;exact j5
 |some z=>rw[e] at j5;exact j5
def rSdT:V->List V->Hp->VK->Prop:=λx vs H Q=>∃ a b i j d a9,x= .ref a/\vs=[.ref b,.int d]/\H a=be (.dT (dtiV a9))/\H b=be (.tup [.int i,.int j])/\a9.length<100000/\∀ w,Q (.int w) (upd H a (.dT (dtiV (sdD a9 i j d))))
def zF{H:Hp}{a:KF}{o:HO}(h:H a=be o):upd H a o=H:=by
 funext b;by_cases e:b=a
 .subst e;rw[ay,h]
 .rw[aj e]
def zG{X:Cx}(hu:X.A.units+1<Rm):MtR X "dict.setdefault" rSdT:=by
 intro pins s σ H x vs v us Q I rx rv h;obtain⟨a,b,i,j,d,a9,rfl,rfl,ha,hb,hl,q⟩:=h;obtain⟨u,u',rfl,ru,t,rfl⟩:=fw rv;cases(show v=Value.ref a from rx);cases(show u=Value.ref b from ru);obtain⟨z,hd,xs,Js,dd⟩:=wR I.hok ha;have b_:xs.length=a9.length:=by rw[<- Paired.length Js];simp[dtiV]
 have big:(100000:Nat)<sizeLine:=by decide
 have g7:H b=be (.tup (([.inl i,.inl j]:List Key).map kV)):=hb;have k_:=Js.val [.inl i,.inl j];rw[kj] at k_;refine RN PySem.F.slot_dict_setdefault dd.typeIs PySem.F.entry_dict_setdefault (PySem.F.args_dict_setdefault_3 _ _ _) (zC (Q8 (bF X.prog X.w)) a b hd (.int d t)) ⟨R1 hu,[.inl i,.inl j],xs,key_of I.hok g7,dd,by lia,λp hp=>?_,λhn h' O2 hs=>?_⟩
 .rw[hp] at k_;cases e:lookD a9 i j with
  |none=>rw[e] at k_;exact k_.elim
  |some w=>
   rw[e] at k_;have:=q w;unfold sdD at this;rw[e] at this;have e2:(if(be w:Option Int).isSome then a9 else a9++[((i,j),d)])=a9:=rfl;rw[e2,zF ha] at this;exact⟨.int w,H,I.tok _,k_,this⟩
 .rw[hn] at k_;cases e:lookD a9 i j with
  |some w=>rw[e] at k_;exact k_.elim
  |none=>
   have e2:sdD a9 i j d=a9++[((i,j),d)]:=by unfold sdD;rw[e];rfl
   have e3:dtiV (sdD a9 i j d)=dtiV a9++[([.inl i,.inl j],.int d)]:=by rw[e2];simp[dtiV]
   obtain⟨o,es,ep,ho,hx,h3,h4,_,h5⟩:=O2;have new:ObjOk X.prog X.w (upd H a (.dT (dtiV (sdD a9 i j d)))) h' a (.dT (dtiV (sdD a9 i j d))):=by
    refine⟨by rw[e3,EU];simp[dtiV];lia,hd,_,?_,o,es,ep,ho,hx,h3,h4,h5⟩;rw[e3];refine KT.keeps (H:=H) (Paired.snoc (a:=(([.inl i,.inl j]:List Key),V.int d)) (b:=(([.inl i,.inl j]:List Key),b,Value.int d t)) Js ⟨rfl,g7,⟨t,rfl⟩⟩) λc ys ec=>?_;rw[aj (uh ec ha (λz=>nomatch z))];exact ec
   exact⟨.int d,_,wS I (by rw[ha];exact True.intro) hs ⟨o,ho⟩ new,⟨t,rfl⟩,q d⟩
section
variable {X:Cx}[J:Jm]{a b c e o f:Qo}{ta tb tc te to:TME}{pos apos cpos:QC}{t:TMA}
def mD0:TME:=λ_ M R=>R (.dti []) M
def zH:ME X (.Dict [] [] pos) mD0:=⟨pe_dnewT.anti λs H Q q=>by
 obtain⟨F,z,M,k,rs,R,h1,h2⟩:=q;intro p hp;have gn:=Grow.new k.fh hp (.dT []);exact h2 _ _ M _ _ gn.toM h1 (rep_dti.mpr ⟨p,rfl,ay⟩) (rs.rm.grow gn)⟩
def mDN:TME:=λ_ M R=>∀ p,p ∉ au M->R (.ptr p) ((p,.dti [])::M)
def zI:ME X (.Dict [] [] pos) mDN:=⟨pe_dnewT.anti λs H Q q=>by
 obtain⟨F,z,M,k,rs,R,h1,h2⟩:=q;intro p hp;exact h2 _ _ _ F _ (GrowM.new k.fh hp) (h1 p λz=>rs.rm.here z hp) (rep_ptr.mpr rfl) (rs.rm.new k.fh hp ay)⟩
def zJ(to:TME)(t:TMA):TME:=λz M R=>to z M λd M1=>match d with| .dti a9=>(t z M1 λds M2=>match ds with|[.tup [.int i,.int j],.int x]=>R (.int ((lookD a9 i j).getD x)) M2|_=>False)|_=>False
def zK(hu:X.A.units+1<Rm)(ho:ME X o to)(ha:MA X [e,f] t)(c8:autoParam (Qy o "get" X.env (Qx o X.env)=Qx o X.env) zA0)
  (e_:autoParam (zHF X cpos [e,f]) zA0)
  (d4:autoParam ((apos.endLine==cpos.line)=true) zA0) (o7:autoParam (zSE X e [f]) zA0) (c_:autoParam (zPL X cpos [f]) zA0):
  ME X (.Call (.Attribute o "get" apos) [e,f] [] cpos) (zJ to t):=⟨(dY PySem.F.plainAttrs_dict PySem.F.slot_dict_get PySem.F.type_dict_get (zE hu) ho.out ha.out c8 e_ d4 o7 c_).anti λs H Q h=>by
 obtain⟨F,z,M,k,rs,R,h1,h2⟩:=h;refine⟨F,z,M,k,rs,_,h1,λx u M1 F1 H1 g1 hx rx m1=>?_⟩;split at hx
 .rename_i a9;obtain⟨p,rfl,hp⟩:=rep_dti.mp rx;refine⟨.inr (.inr (.inl ⟨rfl,.inr ⟨_,g1.fh _ _ hp⟩⟩)),?_⟩;refine⟨F1,z,M1,k.growM rs.mb g1,rs.growM k.bh g1 m1,_,hx,λds vs M2 F2 H2 g2 hd rd m2=>?_⟩;split at hd
  .rename_i i j x;obtain⟨v1,r1,rfl,q1,q2⟩:=reps_cons.mp rd;obtain⟨v2,r2,rfl,q3,q4⟩:=reps_cons.mp q2;rw[reps_nil.mp q4,rep_int.mp q3];obtain⟨b,us,rfl,hb,ru⟩:=rep_tupS.mp q1;have Mp:us=[.int i,.int j]:=(Reps.ints (ns:=[i,j])).mp ru;subst Mp;exact⟨p,b,i,j,x,a9,rfl,rfl,g2.fh _ _ (g2.ff _ _ hp),g2.fh _ _ hb,h2 _ _ M2 F2 H2 (g1.trans g2) hd (rep_int.mpr rfl) m2⟩
  .exact hd.elim
 .exact hx.elim⟩
def mDsd(to:TME)(t:TMA):TME:=λz M R=>to z M λd M1=>match d with| .ptr a=>(∃ a9,mget M1 a=be (.dti a9))/\(t z M1 λds M2=>match ds with|[.tup [.int i,.int j],.int x]=>∃ a9,mget M2 a=be (.dti a9)/\a9.length<100000/\∀ w,R (.int w) (mput M2 a (.dti (sdD a9 i j x)))|_=>False)|_=>False
def zL(hu:X.A.units+1<Rm)(ho:ME X o to)(ha:MA X [e,f] t)(c8:autoParam (Qy o "setdefault" X.env (Qx o X.env)=Qx o X.env) zA0)
  (e_:autoParam (zHF X cpos [e,f]) zA0)
  (d4:autoParam ((apos.endLine==cpos.line)=true) zA0) (o7:autoParam (zSE X e [f]) zA0) (c_:autoParam (zPL X cpos [f]) zA0):
  ME X (.Call (.Attribute o "setdefault" apos) [e,f] [] cpos) (mDsd to t):=⟨(dY PySem.F.plainAttrs_dict PySem.F.slot_dict_setdefault PySem.F.type_dict_setdefault (zG hu) ho.out ha.out c8 e_ d4 o7 c_).anti λs H Q h=>by
 obtain⟨F,z,M,k,rs,R,h1,h2⟩:=h;refine⟨F,z,M,k,rs,_,h1,λx u M1 F1 H1 g1 hx rx m1=>?_⟩;split at hx
 .rename_i a;obtain⟨⟨P4,Mi⟩,hx⟩:=hx;rw[rep_ptr.mp rx];refine⟨.inr (.inr (.inl ⟨rfl,.inr ⟨_,m1.ok _ _ (bN Mi)⟩⟩)),?_⟩;refine⟨F1,z,M1,k.growM rs.mb g1,rs.growM k.bh g1 m1,_,hx,λds vs M2 F2 H2 g2 hd rd m2=>?_⟩;split at hd
  .rename_i i j x;obtain⟨a9,hm,hl,hR⟩:=hd;obtain⟨v1,r1,rfl,q1,q2⟩:=reps_cons.mp rd;obtain⟨v2,r2,rfl,q3,q4⟩:=reps_cons.mp q2;rw[reps_nil.mp q4,rep_int.mp q3];obtain⟨b,us,rfl,hb,ru⟩:=rep_tupS.mp q1;have Mp:us=[.int i,.int j]:=(Reps.ints (ns:=[i,j])).mp ru;subst Mp;refine⟨a,b,i,j,x,a9,rfl,rfl,m2.ok _ _ (bN hm),g2.fh _ _ hb,hl,λw=>?_⟩;exact h2 _ _ _ F2 _ (g1.trans (g2.trans (GrowM.put g2.fh (m2.fr a (cx (bN hm))) hm))) (hR w) (rep_int.mpr rfl) (m2.put hm ay)
  .exact hd.elim
 .exact hx.elim⟩
end
section
variable {P:P3}{w:Qt}{K:Ex}{mg:IT->Option KB}{base:Heap}
open Classical in
def Cls.okIM{x qual:IT}{st:Qq}{f C:KF}{fd:Qz}{N:List IT}{p0:IT}{ps:List IT}{k:Nat}{S:SiD}(T:Fun K "__init__" qual st f fd)(hb:Binds K fd (p0::ps) [])(F:FnScope N (p0::ps) (af st))(len:∀ ds R,S ds R->ds.length=ps.length)
  (hns:nsIn K Pi x=be (be (.ref C))) (m6:mg x=be (.ref C)) (mk:Mk K C f)
  (b9:∀ (cdv:KB) (A:Qu) (outer:List Q4) (s:KM) (H:Hp) (E:XK) (J:Jm),Room k (A.deeper (QD qual (af st) s.heap.objs.size f cdv))->XOkM (cxOf (CX1 P w) P w K mg base N qual (af st) f cdv A outer s H E).nox->
   ∃ t,MSs (cxOf (CX1 P w) P w K mg base N qual (af st) f cdv A outer s H E).nox (aE st) t/\∀ a ds R,(∀ z M x fs,¬ J.RM z M x fs)->S ds R->t {nx:=λ_ M'=>∃ fs,M'=[(a,.ins x fs)]/\R fs,rt:=λ_ _=>False} (startD N (.ptr a::ds)) [(a,.ins x [])]):CalM P w K mg base (k+1) x (p0::ps) S:=by
 refine⟨C,f,fd,hns,m6,mk,Fun.okC T F (λvs H Q E h=>?_) (λcdv A outer s H vs Q E hr h=>?_),hb⟩
 .obtain⟨a,dx,us,H1,F,ds,rfl,_,_,_,_,_,rs,R,h,_⟩:=h;rw[EN,EN,rs.length,len ds R h]
 .obtain⟨a,dx,us,H1,F1,ds,rfl,rfl,ha,v5,k8,fh,rs,R,h,q⟩:=h
  let H:Hp:=upd (upd H1 dx (.own a)) a (.ins C dx [])
  let B:Hp:=λb=>if b=a then z7 else H b
  have NK:B a=none:=if_pos rfl;have hB:∀ {b:KF},b≠a->B b=H b:=λ{b} h=>if_neg h;have D_:∀ {b:KF} {o:HO},H1 b=be o->b≠a/\H b=be o:=λ{b o} e=>by
   have n1:b≠a:=bM e ha;exact⟨n1,by show upd _ _ _ b=_;rw[aj n1,aj (bM e v5)];exact e⟩
  letI:Jm:={B:=B,F0:=F1,RX:=λ_ _ _=>False,RM:=λ_ _ _ _=>False}
  have hx:XOkM (cxOf (CX1 P w) P w K mg base N qual (af st) f cdv A outer s H E).nox:=λσ z M' F' H' s' e C od y fs I kk rr hR er _=>hR.elim;obtain⟨t,ht,hq⟩:=b9 cdv A outer s H E inferInstance hr hx;have Fa:F1 a=none:=fh.free ha;have k0:Kept B F1 F1 H:=⟨λb o e=>by
   by_cases n:b=a
   .rw[n,NK] at e;cases e
   .rw[hB n] at e;exact e,λb o e=>(D_ (fh b o e)).2,Same.refl F1,λ_ h _=>h,rfl,Same.refl F1,λ_ h _=>h⟩
  have y9:Reps K F1 (.ptr a::ds) (.ref a::us):=reps_cons.mpr ⟨_,_,rfl,rep_ptr.mpr rfl,rs⟩;have O3:RepM K F1 H [(a,.ins x [])]:=⟨by simp[au],λb o hb=>by
   have e:=EL.mp hb;cases e;exact⟨C,dx,[],hns,ay,repf_nil.mpr rfl⟩,λb hb=>by
   have e:b=a:=by simpa[au] using hb
   rw[e];exact Fa⟩
  have r0:RepZ K B F1 H (startD N (.ptr a::ds)) (L2.start N (.ref a::us)) [(a,.ins x [])]:=⟨dZ y9,rB y9,O3,λb hb=>by
   have e:b=a:=by simpa[au] using hb
   rw[e];exact NK⟩
  refine⟨_,ht.out.nox,F1,F1,_,_,k0,r0,_,hq a ds R (λ_ _ _ _ z=>z) h,⟨λz' s' M' F' H' kk hn r=>?_,λd v M' F' H' kk hd rd NI mb=>hd.elim,λ_ _ _ _ _ _ h _=>h.elim,λ_ _ _ _ _ _ h _=>h.elim⟩⟩;obtain⟨fs,rfl,hR⟩:=hn;obtain⟨C',D',ws,l8,gt,rf⟩:=r.rm.ok a _ (EL.mpr rfl);have y8:nsIn K Pi x=be (be (.ref C')):=l8;rw[hns] at y8;cases y8;exact q fs ws D' F' H' ⟨kk.f0,kk.fh,λb o e=>kk.bh b o (by show B b=be o;rw[hB (D_ e).1];exact(D_ e).2),λb h1 h2=>kk.out b h1 (by
   show B b≠z7;cases e:H1 b with
   |none=>exact absurd e h2
   |some o=>rw[hB (D_ e).1,(D_ e).2];exact λz=>nomatch z)⟩ hR gt (r.rm.fr a (by simp[au])) rf
end
section
variable {P:P3}{w:Qt}{K:Ex}{mg:IT->Option KB}{base:Heap}{n:Nat}{x m:IT}{ps:List IT}
variable{S:SpM}
def CalMth.one(h:CalMth P w K mg base n x m ps (lSpM K S)):∀ y,y∈[x]->CalMth P w K mg base n y m ps (lSpM K ((λ_=>S) y)):=λy hy=>by
 rw[EL.mp hy];exact h
def rJ{f:KF}{fd:Qz}{sp:Sp}(h:∀ vs H Q E,¬ sp vs H Q E):FnOk P w K mg base (CX1 P w) n f fd ps sp:=⟨λvs H Q E q=>(h _ _ _ _ q).elim,λA outer s H args us vs Q E _ _ _ _ q=>(h _ _ _ _ q).elim⟩
def rK(h:∀ ds M R RX,¬ S ds M R RX):∀ vs H Q E,¬ lSpM K S vs H Q E:=by
 rintro vs H Q E ⟨F,ds,M,_,_,_,R,RX,q,_⟩;exact h ds M R RX q
def CalMth.never{qual:IT}{st:Qq}(T:Txm K x m qual st ps)(h:∀ ds M R RX,¬ S ds M R RX):CalMth P w K mg base n x m ps (lSpM K S):=by
 obtain⟨C,f,fd,h1,h2,h3,T,hb⟩:=T;exact⟨C,f,fd,h1,h2,h3,rJ (rK h),hb⟩
def CalMM.never{st:Qq}(T:Tx K mg x st ps)(h:∀ ds M R RX,¬ S ds M R RX):CalMM P w K mg base n x ps S:=by
 obtain⟨f,fd,T,hb,hm⟩:=T;exact⟨f,fd,rJ (rK h),hb,T.kp,hm⟩
end
def km(S:SpM):SpM:=λds M R RX=>∃ M1 M2,M=M1++M2/\S ds M2 (λd M'=>R d (M1++M')) λx fs M'=>RX x fs (M1++M')
def keys_app{M1 M2:MS}{a:KF}:a∈au (M1++M2)↔a∈au M1\/a∈au M2:=by unfold au;rw[Fx,Fk]
def rL{K:Ex}{S:SpM}{vs:List V}{H:Hp}{Q:VK}{E:XK}(h:lSpM K (km S) vs H Q E):lSpM K S vs H Q E:=by
 obtain⟨F,ds,M,fh,rs,rm,R,RX,⟨M1,M2,rfl,hS⟩,q,qx⟩:=h;have nd:(au M1++au M2).Nodup:=by have:=rm.nd;unfold au at this ⊢;rw[Fx] at this;exact this
 have Mq:∀ {a:KF},a∈au M1->a ∉ au M2:=λ{a} h1 h2=>(Gp.mp nd).2.2 a h1 a h2 rfl;have O4:RepM K F H M2:=⟨(Gp.mp nd).2.1,λa o h=>rm.ok a o (E7 _ h),λa h=>rm.fr a (keys_app.mpr (.inr h))⟩;have up:∀ {M':MS} {F' H':Hp},GrowM M2 M' F H F' H'->RepM K F' H' M'->GrowM (M1++M2) (M1++M') F H F' H'/\RepM K F' H' (M1++M'):=λ{M' F' H'} g r=>by
  have v9:∀ {a:KF},a∈au M1->H a≠none:=λ{a} h=>rm.here (keys_app.mpr (.inl h));have Mr:∀ {a:KF},a∈au M1->a ∉ au M':=λ{a} h1 h2=>by
   rcases g.ks a h2 with z|z
   .exact Mq h1 z
   .exact v9 h1 z
  refine⟨⟨g.ff,g.fh,λb o nb e=>g.hh b o (λz=>nb (keys_app.mpr (.inr z))) e,λb nb h1 h2=>g.out b (λz=>nb (keys_app.mpr (.inr z))) h1 h2,λb hb=>?_⟩,⟨?_,λa o h=>?_,λa h=>?_⟩⟩
  .rcases keys_app.mp hb with z|z
   .exact .inl (keys_app.mpr (.inl z))
   .exact(g.ks b z).imp (λz=>keys_app.mpr (.inr z)) id
  .unfold au;rw[Fx];exact Gp.mpr ⟨(Gp.mp nd).1,r.nd,λa h1 b h2 e=>Mr h1 (e ▸ h2)⟩
  .rcases Fk.mp h with z|z
   .have ka:a∈au M1:=cx z;exact(rm.ok a o (GC _ z)).mono g.ff λo e=>g.hh a o (Mq ka) e
   .exact r.ok a o z
  .rcases keys_app.mp h with z|z
   .exact g.out a (Mq z) (rm.fr a (keys_app.mpr (.inl z))) (v9 z)
   .exact r.fr a z
 exact⟨F,ds,M2,fh,rs,O4,_,_,hS,λd v M' F' H' g hd rd m'=>q d v _ F' H' (up g m').1 hd rd (up g m').2,λx fs C od M' F' H' g hR er m'=>qx x fs C od _ F' H' (up g m').1 hR er (up g m').2⟩
section
variable {P:P3}{w:Qt}{K:Ex}{mg:IT->Option KB}{base:Heap}{n:Nat}{x m:IT}{ps:List IT}{S:SpM}
def CalMM.frame(C:CalMM P w K mg base n x ps S):CalMM P w K mg base n x ps (km S):=C.imp λ_ _ _ _ h=>rL h
def CalMth.frame(C:CalMth P w K mg base n x m ps (lSpM K S)):CalMth P w K mg base n x m ps (lSpM K (km S)):=C.imp λ_ _ _ _ h=>rL h
end
def nilX(S:SpX):SpM:=λds M R RX=>M=[]/\∃ (R0:D->Prop) (F_:XD),S ds R0 F_/\(∀ d M',R0 d->R d M')/\∀ x fs M',F_ x fs->RX x fs M'
def CalMM.nilX{P:P3}{w:Qt}{K:Ex}{mg:IT->Option KB}{base:Heap}{n:Nat}{x:IT}{ps:List IT}{S:SpX}(C:CalMM P w K mg base n x ps (nilX S)):CalX P w K mg base n x ps S:=C.toX λ_ R RX h=>⟨rfl,R,RX,h,λ_ _ h=>h,λ_ _ _ h=>h⟩
end My
namespace My
section
variable {K:Ex}{h:Heap}{mg:IT->Option KB}{x y m q f:IT}{st:Qq}{ps:List IT}
abbrev NsC(K:Ex)(x:IT)(C:KF):Prop:=nsIn K Pi x=be (be (.ref C))
variable{C:KF}
def NsC.uniq{D:KF}(a:NsC K x C)(b:NsC K x D):C=D:=by
 have e:=a.symm.trans b;cases e;rfl
abbrev BindA(x q:IT)(st:Qq)(ps:List IT):Prop:=∀ (kV doc pm:KB) (an:Option KF) (cdv ct:KB) (us:List KB),us.length=ps.length->QY (fnOf x q (bA st) (aE st) (af st) .none kV doc pm an cdv ct) ⟨us,[]⟩=pure (ps.zip us)
def FnIn(K:Ex)(x:IT)(st:Qq):Prop:=∃ f fd,NsC K x f/\Fun K x x st f fd
variable{oc kV dc pm cd ct:KB}{od an:Option KF}{sl:Array (Option KB)}
def fnIn_mk{f:KF}(a:nsIn K Pi x=be (be (.ref f)))(l:K.lookup f=be ⟨oc,od,.func (fnOf x x (bA st) (aE st) (af st) .none kV dc pm an cd ct),sl⟩)(c:codeIn K cd x=true)(k:keepIn K (.ref f)=true):FnIn K x st:=⟨f,_,a,gp l c k⟩
def FnIn.tx(T:FnIn K x st)(X:K.In h)(G:h.Ns Pi mg)(b:BindA x x st ps):Tx K mg x st ps:=by
 obtain⟨f,fd,a,F⟩:=T;exact⟨f,fd,F,F.binds b,mg_of X G a⟩
def FnIn.law{p:IT}(T:FnIn K x st)(X:K.In h)(G:h.Ns Pi mg){fa:KF}(KC:mg x=be (.ref fa))(b:∀ (kV doc pm:KB) (an:Option KF) (cdv ct v:KB),QY (fnOf x x (bA st) (aE st) (af st) .none kV doc pm an cdv ct) ⟨[v],[]⟩=pure [(p,v)]):∃ fd,(∀ (s:KM) (v:KB),Ro s fd ⟨[v],[]⟩ [(p,v)])/\Fun K x x st fa fd:=by
 obtain⟨f,fd,a,F⟩:=T;have e:=KC.symm.trans (mg_of X G a);cases e;refine⟨fd,λs v=>?_,F⟩;obtain⟨oc,od,kV,doc,pm,an,cdv,ct,osl,rfl,lk,g6⟩:=F.ex;exact .of_eq (b _ _ _ _ _ _ v)
variable{us:List KB}
def bo{x:IT}{xs:List IT}(h:us.length=(x::xs).length):∃ u t,us=u::t/\t.length=xs.length:=by
 cases us with
 |nil=>cases h
 |cons u t=>exact⟨u,t,rfl,Nat.succ.inj h⟩
def len_0(h:us.length=([]:List IT).length):us=[]:=G9 h
variable{x0:IT}
def zM(b:∀ (kV doc pm:KB) (an:Option KF) (cdv ct u0:KB),QY (fnOf x q (bA st) (aE st) (af st) .none kV doc pm an cdv ct) ⟨[u0],[]⟩=pure [(x0,u0)]):BindA x q st [x0]:=λkV doc pm an cdv ct us hl=>by
 obtain⟨u0,t0,rfl,h0⟩:=bo hl;cases len_0 h0;exact b kV doc pm an cdv ct u0
variable{x1:IT}
def bind2(b:∀ (kV doc pm:KB) (an:Option KF) (cdv ct u0 u1:KB),QY (fnOf x q (bA st) (aE st) (af st) .none kV doc pm an cdv ct) ⟨[u0,u1],[]⟩=pure [(x0,u0),(x1,u1)]):BindA x q st [x0,x1]:=λkV doc pm an cdv ct us hl=>by
 obtain⟨u0,t0,rfl,h0⟩:=bo hl;obtain⟨u1,t1,rfl,h1⟩:=bo h0;cases len_0 h1;exact b kV doc pm an cdv ct u0 u1
variable{x2:IT}
def bind3(b:∀ (kV doc pm:KB) (an:Option KF) (cdv ct u0 u1 u2:KB),QY (fnOf x q (bA st) (aE st) (af st) .none kV doc pm an cdv ct) ⟨[u0,u1,u2],[]⟩=pure [(x0,u0),(x1,u1),(x2,u2)]):BindA x q st [x0,x1,x2]:=λkV doc pm an cdv ct us hl=>by
 obtain⟨u0,t0,rfl,h0⟩:=bo hl;obtain⟨u1,t1,rfl,h1⟩:=bo h0;obtain⟨u2,t2,rfl,h2⟩:=bo h1;cases len_0 h2;exact b kV doc pm an cdv ct u0 u1 u2
variable{x3:IT}
def bind4(b:∀ (kV doc pm:KB) (an:Option KF) (cdv ct u0 u1 u2 u3:KB),QY (fnOf x q (bA st) (aE st) (af st) .none kV doc pm an cdv ct) ⟨[u0,u1,u2,u3],[]⟩=pure [(x0,u0),(x1,u1),(x2,u2),(x3,u3)]):BindA x q st [x0,x1,x2,x3]:=λkV doc pm an cdv ct us hl=>by
 obtain⟨u0,t0,rfl,h0⟩:=bo hl;obtain⟨u1,t1,rfl,h1⟩:=bo h0;obtain⟨u2,t2,rfl,h2⟩:=bo h1;obtain⟨u3,t3,rfl,h3⟩:=bo h2;cases len_0 h3;exact b kV doc pm an cdv ct u0 u1 u2 u3
def bind5{x4:IT}(b:∀ (kV doc pm:KB) (an:Option KF) (cdv ct u0 u1 u2 u3 u4:KB),QY (fnOf x q (bA st) (aE st) (af st) .none kV doc pm an cdv ct) ⟨[u0,u1,u2,u3,u4],[]⟩=pure [(x0,u0),(x1,u1),(x2,u2),(x3,u3),(x4,u4)]):BindA x q st [x0,x1,x2,x3,x4]:=λkV doc pm an cdv ct us hl=>by
 obtain⟨u0,t0,rfl,h0⟩:=bo hl;obtain⟨u1,t1,rfl,h1⟩:=bo h0;obtain⟨u2,t2,rfl,h2⟩:=bo h1;obtain⟨u3,t3,rfl,h3⟩:=bo h2;obtain⟨u4,t4,rfl,h4⟩:=bo h3;cases len_0 h4;exact b kV doc pm an cdv ct u0 u1 u2 u3 u4
def bind6{x4 x5:IT}(b:∀ (kV doc pm:KB) (an:Option KF) (cdv ct u0 u1 u2 u3 u4 u5:KB),QY (fnOf x q (bA st) (aE st) (af st) .none kV doc pm an cdv ct) ⟨[u0,u1,u2,u3,u4,u5],[]⟩=pure [(x0,u0),(x1,u1),(x2,u2),(x3,u3),(x4,u4),(x5,u5)]):BindA x q st [x0,x1,x2,x3,x4,x5]:=λkV doc pm an cdv ct us hl=>by
 obtain⟨u0,t0,rfl,h0⟩:=bo hl;obtain⟨u1,t1,rfl,h1⟩:=bo h0;obtain⟨u2,t2,rfl,h2⟩:=bo h1;obtain⟨u3,t3,rfl,h3⟩:=bo h2;obtain⟨u4,t4,rfl,h4⟩:=bo h3;obtain⟨u5,t5,rfl,h5⟩:=bo h4;cases len_0 h5;exact b kV doc pm an cdv ct u0 u1 u2 u3 u4 u5
structure ClF(K:Ex)(x:Str)(C:KF):Prop where
 ns:NsC K x C
 cl:Cls K C
 ha:ES K (.ref C) "__class__"=be (be (.builtin "object.__class__"))
 hn:specialIn K (.builtin "object.__class__") "__get__"=be (be (.builtin "getset_descriptor.__get__"))
 ht:takesIn K (.builtin "object.__class__")=be true
 hm:FW K C (.type "object")=be true
def ClIn(K:Ex)(x:IT):Prop:=∃ C,ClF K x C
def clIn_mk(a:nsIn K Pi x=be (be (.ref C)))(pg:plainGet K C Str.empty=true)(hd:hasDictIn K C=true)(po:plainOver K C=true)(sa:ES K (.ref C) "__setattr__"=be (be (.builtin "object.__setattr__")))
  (ha:ES K (.ref C) "__class__"=be (be (.builtin "object.__class__"))) (hn:specialIn K (.builtin "object.__class__") "__get__"=be (be (.builtin "getset_descriptor.__get__"))) (ht:takesIn K (.builtin "object.__class__")=be true) (hm:FW K C (.type "object")=be true):ClIn K x:=⟨C,a,⟨pg,hd,po,sa⟩,ha,hn,ht,hm⟩
def ClIn.i(c:ClIn K x)(X:K.In h)(G:h.Ns Pi mg):∃ C,ClsI K mg x C:=by
 obtain⟨C,k⟩:=c;exact⟨C,k.ns,mg_of X G k.ns,k.cl,k.ha,k.hn,k.ht,k.hm,yq⟩
def NoIn(K:Ex)(x f:IT):Prop:=∃ C,NsC K x C/\ES K (.ref C) f=be z7
def noIn_mk(a:nsIn K Pi x=be (be (.ref C)))(b:ES K (.ref C) f=be z7):NoIn K x f:=⟨C,a,b⟩
def ClIn.a(c:ClIn K x)(n:NoIn K x f):ClsA K x f:=by
 obtain⟨C,k⟩:=c;obtain⟨D,a,b⟩:=n;cases NsC.uniq k.ns a;exact⟨C,a,k.cl,b⟩
def NoIn.all(n:NoIn K x f):∀ C,nsIn K Pi x=be (be (.ref C))->ES K (.ref C) f=be none:=λC hC=>by
 obtain⟨D,a,b⟩:=n;cases NsC.uniq hC a;exact b
def MtIn(K:Ex)(x m q:IT)(st:Qq):Prop:=∃ C f fd,NsC K x C/\Meth K C m f/\Fun K m q st f fd
def mtIn_mk{f:KF}(a:nsIn K Pi x=be (be (.ref C)))(b:ES K (.ref C) m=be (be (.ref f)))(i:isFn K (.ref f)=true)(l:K.lookup f=be ⟨oc,od,.func (fnOf m q (bA st) (aE st) (af st) .none kV dc pm an cd ct),sl⟩)(c:codeIn K cd q=true)(k:keepIn K (.ref f)=true):MtIn K x m q st:=⟨C,f,_,a,⟨b,i,k⟩,gp l c k⟩
def MtIn.txm(T:MtIn K x m q st)(c:ClIn K x)(b:BindA m q st ps):Txm K x m q st ps:=by
 obtain⟨C,k⟩:=c;obtain⟨D,f,fd,a,mt,F⟩:=T;cases NsC.uniq k.ns a;exact⟨C,f,fd,a,k.cl,mt,F,F.binds b⟩
def InIn(K:Ex)(x q:IT)(st:Qq):Prop:=∃ C f fd,NsC K x C/\Mk K C f/\Fun K "__init__" q st f fd
def inIn_mk{f:KF}(a:nsIn K Pi x=be (be (.ref C)))(mk:makesIn K C=true)(b:ES K (.ref C) "__init__"=be (be (.ref f)))(i:isFn K (.ref f)=true)(kp:keepIn K (.ref C)=true)(l:K.lookup f=be ⟨oc,od,.func (fnOf "__init__" q (bA st) (aE st) (af st) .none kV dc pm an cd ct),sl⟩)(c:codeIn K cd q=true)(k:keepIn K (.ref f)=true):InIn K x q st:=⟨C,f,_,a,⟨mk,b,i,kp⟩,gp l c k⟩
def Txi(K:Ex)(mg:IT->Option KB)(x q:IT)(st:Qq)(ps:List IT):Prop:=∃ C f fd,NsC K x C/\mg x=be (.ref C)/\Mk K C f/\Fun K "__init__" q st f fd/\Binds K fd ps []
def InIn.txi(T:InIn K x q st)(X:K.In h)(G:h.Ns Pi mg)(b:BindA "__init__" q st ps):Txi K mg x q st ps:=by
 obtain⟨C,f,fd,a,mk,F⟩:=T;exact⟨C,f,fd,a,mg_of X G a,mk,F,F.binds b⟩
def CiIn(K:Ex)(x:IT)(i:Int):Prop:=∃ t,nsIn K Pi x=be (be (.int i t))
def CsIn(K:Ex)(x y:IT):Prop:=∃ t,nsIn K Pi x=be (be (.str y t))
def ciIn_mk{i:Int}{t:Tok}(a:nsIn K Pi x=be (be (.int i t))):CiIn K x i:=⟨t,a⟩
def csIn_mk{t:Tok}(a:nsIn K Pi x=be (be (.str y t))):CsIn K x y:=⟨t,a⟩
def CiIn.g{i:Int}(c:CiIn K x i)(X:K.In h)(G:h.Ns Pi mg):∃ t,mg x=be (.int i t):=let ⟨t,a⟩:=c;⟨t,mg_of X G a⟩
def CsIn.g(c:CsIn K x y)(X:K.In h)(G:h.Ns Pi mg):∃ t,mg x=be (.str y t):=let ⟨t,a⟩:=c;⟨t,mg_of X G a⟩
def NnIn(K:Ex)(x:IT):Prop:=nsIn K Pi x=be z7
def nnIn_mk(a:nsIn K Pi x=be z7):NnIn K x:=a
structure ErF(K:Ex)(x:Str)(bm:List KB)(C N:KF):Prop where
 ns:NsC K x C
 kp:keepIn K (.ref C)=true
 ob:∃ nm q bs sn sub ab col dd k0 k1 k2 k3 k5,K.lookup C=be (QP nm q C N bs bm true sn sub ab col dd k0 k1 k2 k3 k5 "ValueError.__new__")
structure ErN(K:Ex)(N:KF):Prop where
 ok:nsOkIn K N=true
 no:nsIn K N "__init__"=be z7
def EbIn(K:Ex):Prop:=∃ C N,ErF K "MotifError" Exc.veLine C N/\ErN K N
def EdIn(K:Ex)(x:IT)(C N:KF):Prop:=∃ B,NsC K "MotifError" B/\ErF K x (.ref B::Exc.veLine) C N
def E0In(K:Ex)(x:IT):Prop:=∃ C N,EdIn K x C N/\ErN K N
def E1In(K:Ex)(x q:IT)(st:Qq):Prop:=∃ C N f fd,EdIn K x C N/\ES K (.ref C) "__init__"=be (be (.ref f))/\isFn K (.ref f)=true/\Fun K "__init__" q st f fd
def EaIn(K:Ex)(x:IT):Prop:=∃ C,NsC K x C/\ES K (.ref C) "__setattr__"=be (be (.builtin "object.__setattr__"))
def EgIn(K:Ex)(x:IT):Prop:=∃ C,NsC K x C/\ES K (.ref C) "__getattribute__"=be (be (.builtin "BaseException.__getattribute__"))/\ES K (.ref C) "__getattr__"=be z7
def EiIn(K:Ex)(x:IT):Prop:=∃ M,NsC K x M/\readsIn K M (.type "type")=true/\findCls K (.ref M) (.type "type") "__init__"=be (.val (.builtin "ValueError.__init__"))/\specialIn K (.ref M) "__getattribute__"=be (be (.builtin "type.__getattribute__"))
section
variable {B C D N:KF}{nm qn:IT}{bs:List KB}{sn:List IT}{sub:List KB}{ab:Bool}{col:Option Bool}{dd:Option KF}{k0 k1 k2 k3 k5:Option KB}{nc:KB}{nd:Option KF}{ne:Array DictEntry}{np:Nat}{nl:Array (Option KB)}
def ebIn_mk(a:nsIn K Pi "MotifError"=be (be (.ref C)))(kp:keepIn K (.ref C)=true)(o:K.lookup C=be (QP nm qn C N bs Exc.veLine true sn sub ab col dd k0 k1 k2 k3 k5 "ValueError.__new__"))(nk:K.lookup N=be ⟨nc,nd,.dict ne np,nl⟩)(al:ne.toList.all (λe=>match e.key with| .str _ _=>true|_=>false)=true)(ni:nsIn K N "__init__"=be z7):EbIn K:=⟨C,N,⟨a,kp,_,_,_,_,_,_,_,_,_,_,_,_,_,o⟩,qU nk al,ni⟩
def e0In_mk(b:nsIn K Pi "MotifError"=be (be (.ref B)))(a:nsIn K Pi x=be (be (.ref C)))(kp:keepIn K (.ref C)=true)(o:K.lookup C=be (QP nm qn C N bs (.ref B::Exc.veLine) true sn sub ab col dd k0 k1 k2 k3 k5 "ValueError.__new__"))(nk:K.lookup N=be ⟨nc,nd,.dict ne np,nl⟩)(al:ne.toList.all (λe=>match e.key with| .str _ _=>true|_=>false)=true)(ni:nsIn K N "__init__"=be z7):E0In K x:=⟨C,N,⟨B,b,a,kp,_,_,_,_,_,_,_,_,_,_,_,_,_,o⟩,qU nk al,ni⟩
def e1In_mk{f:KF}{oc:KB}{od an:Option KF}{sl:Array (Option KB)}{kV dc pm cd ct:KB}(b:nsIn K Pi "MotifError"=be (be (.ref B)))(a:nsIn K Pi x=be (be (.ref C)))(kp:keepIn K (.ref C)=true)(o:K.lookup C=be (QP nm qn C N bs (.ref B::Exc.veLine) true sn sub ab col dd k0 k1 k2 k3 k5 "ValueError.__new__"))
  (j:ES K (.ref C) "__init__"=be (be (.ref f))) (i:isFn K (.ref f)=true) (l:K.lookup f=be ⟨oc,od,.func (fnOf "__init__" q (bA st) (aE st) (af st) .none kV dc pm an cd ct),sl⟩) (c:codeIn K cd q=true) (k:keepIn K (.ref f)=true):E1In K x q st:=⟨C,N,f,_,⟨B,b,a,kp,_,_,_,_,_,_,_,_,_,_,_,_,_,o⟩,j,i,gp l c k⟩
def eaIn_mk(a:nsIn K Pi x=be (be (.ref C)))(b:ES K (.ref C) "__setattr__"=be (be (.builtin "object.__setattr__"))):EaIn K x:=⟨C,a,b⟩
def eiIn_mk(a:nsIn K Pi x=be (be (.ref C)))(b:readsIn K C (.type "type")=true)(c:findCls K (.ref C) (.type "type") "__init__"=be (.val (.builtin "ValueError.__init__")))(d:specialIn K (.ref C) "__getattribute__"=be (be (.builtin "type.__getattribute__"))):EiIn K x:=⟨C,a,b,c,d⟩
end
def EbIn.k(e:EbIn K)(X:K.In h)(G:h.Ns Pi mg):∃ C N bm,ErrK K mg "MotifError" C N bm/\ErrN K N:=by
 obtain⟨C,N,k,n⟩:=e;exact⟨C,N,_,⟨k.ns,mg_of X G k.ns,k.kp,k.ob,qT⟩,n.ok,n.no⟩
def EdIn.k{N:KF}(e:EdIn K x C N)(b:EbIn K)(X:K.In h)(G:h.Ns Pi mg):∃ bm,ErrK K mg x C N bm:=by
 obtain⟨B,hB,k⟩:=e;obtain⟨B',N',kb,n⟩:=b;cases NsC.uniq kb.ns hB;obtain⟨_,_,_,_,_,_,_,_,_,_,_,_,_,o⟩:=kb.ob;exact⟨_,k.ns,mg_of X G k.ns,k.kp,k.ob,yp o rfl n.ok n.no⟩
def E0In.k(e:E0In K x)(b:EbIn K)(X:K.In h)(G:h.Ns Pi mg):∃ C N bm,ErrK K mg x C N bm/\ErrN K N:=by
 obtain⟨C,N,k,n⟩:=e;obtain⟨bm,z⟩:=k.k b X G;exact⟨C,N,bm,z,n.ok,n.no⟩
def Txe(K:Ex)(mg:IT->Option KB)(x q:IT)(st:Qq)(ps:List IT):Prop:=∃ C N bm f fd,ErrK K mg x C N bm/\ES K (.ref C) "__init__"=be (be (.ref f))/\isFn K (.ref f)=true/\Fun K "__init__" q st f fd/\Binds K fd ps []
def E1In.txe(e:E1In K x q st)(b:EbIn K)(X:K.In h)(G:h.Ns Pi mg)(bi:BindA "__init__" q st ps):Txe K mg x q st ps:=by
 obtain⟨C,N,f,fd,k,i,j,F⟩:=e;obtain⟨bm,z⟩:=k.k b X G;exact⟨C,N,bm,f,fd,z,i,j,F,F.binds bi⟩
def ErrK.a'{N:KF}{bm:List KB}(k:ErrK K mg x C N bm)(a:EaIn K x):∃ C cd,ErrA K x C cd:=by
 obtain⟨D,hD,sa⟩:=a;cases NsC.uniq k.ns hD;exact⟨C,k.a sa⟩
def E1In.a(e:E1In K x q st)(b:EbIn K)(a:EaIn K x)(X:K.In h)(G:h.Ns Pi mg):∃ C cd,ErrA K x C cd:=by
 obtain⟨C,N,f,fd,k,_⟩:=e;obtain⟨bm,z⟩:=k.k b X G;exact z.a' a
def E1In.c(e:E1In K x q st)(b:EbIn K)(X:K.In h)(G:h.Ns Pi mg):∃ C N bm,ErrK K mg x C N bm:=by
 obtain⟨C,N,f,fd,k,_⟩:=e;obtain⟨bm,z⟩:=k.k b X G;exact⟨C,N,bm,z⟩
def EiIn.b(e:EiIn K x)(X:K.In h)(G:h.Ns Pi mg):∃ M,BaseK K mg x M:=by
 obtain⟨M,a,b,c,d⟩:=e;exact⟨M,mg_of X G a,b,c,d⟩
def EgIn.g(e:EgIn K x)(a:∃ C cd,ErrA K x C cd)(n:NoIn K x f):ErrG K f x:=by
 obtain⟨C,h1,h2,h3⟩:=e;obtain⟨D,cd,ea⟩:=a;cases NsC.uniq ea.ns h1;exact⟨C,cd,ea,h2,h3,n.all C h1⟩
def AllP(p:IT->Prop):List IT->Prop
 |[]=>True
 |a::l=>p a/\AllP p l
def AllP.mem{p:IT->Prop}:∀ {l:List IT},AllP p l->∀ x∈l,p x
 |_::_,h,_,.head _=>h.1
 |_::_,h,_,.tail _ m=>AllP.mem h.2 _ m
end
structure Bx where
 P:P3
 w:Qt
 K:Ex
 mg:IT->Option KB
 base:Heap
abbrev Bx.T(V:Bx)(x:IT)(st:Qq)(ps:List IT):Prop:=Tx V.K V.mg x st ps
abbrev Bx.Tm(V:Bx)(x m q:IT)(st:Qq)(ps:List IT):Prop:=Txm V.K x m q st ps
abbrev Bx.Ti(V:Bx)(x q:IT)(st:Qq)(ps:List IT):Prop:=Txi V.K V.mg x q st ps
abbrev Bx.Te(V:Bx)(x q:IT)(st:Qq)(ps:List IT):Prop:=Txe V.K V.mg x q st ps
abbrev Bx.m(V:Bx)(x:IT):Prop:=V.mg x=z7
abbrev Bx.gi(V:Bx)(x:IT)(i:Int):Prop:=∃ t,V.mg x=be (.int i t)
abbrev Bx.gs(V:Bx)(x y:IT):Prop:=∃ t,V.mg x=be (.str y t)
abbrev Bx.a(V:Bx)(x f:IT):Prop:=ClsA V.K x f
abbrev Bx.i(V:Bx)(x:IT):Prop:=∃ C,ClsI V.K V.mg x C
abbrev Bx.D(V:Bx)(n:Nat)(x:IT)(ps:List IT)(S:SpD):Prop:=CalD V.P V.w V.K V.mg V.base n x ps S
abbrev Bx.X(V:Bx)(n:Nat)(x:IT)(ps:List IT)(S:SpX):Prop:=CalX V.P V.w V.K V.mg V.base n x ps S
abbrev Bx.MM(V:Bx)(n:Nat)(x:IT)(ps:List IT)(S:SpM):Prop:=CalMM V.P V.w V.K V.mg V.base n x ps S
abbrev Bx.M(V:Bx)(n:Nat)(x:IT)(ps:List IT)(S:SiD):Prop:=CalM V.P V.w V.K V.mg V.base n x ps S
abbrev Bx.E(V:Bx)(n:Nat)(x:IT)(ps:List IT)(S:SiD):Prop:=CalE V.P V.w V.K V.mg V.base n x ps S
abbrev Bx.Q(V:Bx)(n:Nat)(x m:IT)(ps:List IT)(S:SpM):Prop:=CalMth V.P V.w V.K V.mg V.base n x m ps (lSpM V.K S)
abbrev Bx.n(V:Bx)(x:IT):Prop:=∃ C N bm,ErrK V.K V.mg x C N bm/\ErrN V.K N
abbrev Bx.b(V:Bx)(x:IT):Prop:=∃ M,BaseK V.K V.mg x M
abbrev Bx.ea(V:Bx)(x:IT):Prop:=∃ C cd,ErrA V.K x C cd
abbrev Bx.xf(V:Bx)(x f:IT):Prop:=∀ C,nsIn V.K Pi x=be (be (.ref C))->ES V.K (.ref C) f=be z7
abbrev Bx.x(V:Bx)(f:IT)(ys:List IT):Prop:=∀ y∈ys,ErrG V.K f y
section
variable {P:P3}{w:Qt}{K:Ex}{mg:IT->Option KB}{base:Heap}
variable{x qual p0:IT}{st:Qq}{N ps:List IT}{k:Nat}{S:SiD}
def Txi.okI(T:Txi K mg x qual st (p0::ps))(F:FnScope (p0::N) (p0::ps) (af st))(len:∀ ds R,S ds R->ds.length=ps.length)
  (b9:∀ (f:KF) (cdv:KB) (A:Qu) (outer:List Q4) (s:KM) (H:Hp) (E:XK) (J:Jx),Room k (A.deeper (QD qual (af st) s.heap.objs.size f cdv))->
   ∃ t,WDI (cxOf (Exc.CX1 P w) P w K mg base (p0::N) qual (af st) f cdv A outer s H E).nox x (aE st) t/\∀ ds R,S ds R->t (z7::startD N ds) [] R):CalM P w K mg base (k+1) x (p0::ps) S:=by
 obtain⟨C,f,fd,a,b,c,d,e⟩:=T;exact Cls.okIW d e F len a b c (b9 f)
def Txi.okIM(T:Txi K mg x qual st (p0::ps))(F:FnScope N (p0::ps) (af st))(len:∀ ds R,S ds R->ds.length=ps.length)
  (b9:∀ (f:KF) (cdv:KB) (A:Qu) (outer:List Q4) (s:KM) (H:Hp) (E:XK) (J:Jm),Room k (A.deeper (QD qual (af st) s.heap.objs.size f cdv))->XOkM (cxOf (Exc.CX1 P w) P w K mg base N qual (af st) f cdv A outer s H E).nox->
   ∃ t,MSs (cxOf (Exc.CX1 P w) P w K mg base N qual (af st) f cdv A outer s H E).nox (aE st) t/\∀ a ds R,(∀ z M x fs,¬ J.RM z M x fs)->S ds R->t {nx:=λ_ M'=>∃ fs,M'=[(a,.ins x fs)]/\R fs,rt:=λ_ _=>False} (startD N (.ptr a::ds)) [(a,.ins x [])]):CalM P w K mg base (k+1) x (p0::ps) S:=by
 obtain⟨C,f,fd,a,b,c,d,e⟩:=T;exact Cls.okIM d e F len a b c (b9 f)
def Txe.okE(T:Txe K mg x qual st (p0::ps))(F:FnScope (p0::N) (p0::ps) (af st))(len:∀ ds R,S ds R->ds.length=ps.length)
  (b9:∀ (f:KF) (cdv:KB) (A:Qu) (outer:List Q4) (s:KM) (H:Hp) (E:XK) (J:Jx),Room k (A.deeper (QD qual (af st) s.heap.objs.size f cdv))->
   ∃ t,WDX (cxOf (Exc.CX1 P w) P w K mg base (p0::N) qual (af st) f cdv A outer s H E).nox x (aE st) t/\∀ ds R,S ds R->t (z7::startD N ds) [] R):CalE P w K mg base (k+1) x (p0::ps) S:=by
 obtain⟨C,N',bm,f,fd,a,b,c,d,e⟩:=T;exact Cls.okEW d e F len a b c (b9 f)
end
section
variable {X:Cx}[J:Jx]{a b c e o f8 iter:Qo}{es:List Qo}{ta tb tc te to ti tj:TD}{tt:TDT}{t:TDA}{pos px:QC}{x:IT}{scope:QS}
variable{K:Ex}
def itR2:ItOk K (pb (gk (lE K ti) (gk (lE K tj) tNil))) (jU ti tj):=λ{s H B F z P Q} kf rs h1 h2=>by
 refine⟨B,F,z,kf,rs,_,h1,λd1 v1 F1 H1 g1 h1 r1=>?_⟩;refine⟨B,F1,z,kf.grow g1,rs.grow g1,_,h1,λd2 v2 F2 H2 g2 hd r2=>?_⟩;split at hd
 .rename_i lo l_;obtain⟨bd,hd⟩:=hd;have hl:((EM (l_ - lo).toNat).map λk=>D.int (lo+((k:Nat):Int))).length=(l_ - lo).toNat:=by simp
  refine⟨lo,l_,by rw[rep_int.mp r1,rep_int.mp r2],bd,h2 _ _ F2 H2 (g1.trans g2) hd ⟨λk F' H' G hk=>by rw[hl] at hk;exact hk,λk F' H' x H'' G hk hy=>?_,λF' H' G=>by show(l_ - lo).toNat<=_;rw[hl];exact EK _⟩⟩;rw[hl] at hk;obtain⟨e,rfl⟩:=hy;exact⟨e,.int (lo+(k:Int)),by simp[hk],rep_int.mpr rfl⟩
 .exact hd.elim
def rM(hc:X.calm=true)(S:CompScope X scope x)(hi:WDE X iter ti)(hq:∀ cl s₀ H₀ fp,WDT (bD X scope cl x s₀ H₀ fp) c tt)(he:∀ cl s₀ H₀ fp,WDE (bD X scope cl x s₀ H₀ fp) f8 te)(hs:autoParam (∀ y,zFS X iter y) zA2):
  WDE X (.ListComp f8 [⟨.Name x px,iter,[c],0⟩] scope pos) (qF (dItL ti) tt te):=⟨(pe_comp hc S (vj hi.out) (λa b c d=>qG (hq a b c d).out) (λa b c d=>(he a b c d).out) hs).anti λs H Q q=>gC (λ_ _ _=>cmpF.g) itL q⟩
variable{p1 p2:QC}
def zN(hc:X.calm=true)(S:CompScope X scope x)(hm:X.mg "range"=z7)(ha:WDE X a ti)(hb:WDE X b tj)(hq:∀ cl s₀ H₀ fp,WDT (bD X scope cl x s₀ H₀ fp) c tt)(he:∀ cl s₀ H₀ fp,WDE (bD X scope cl x s₀ H₀ fp) f8 te)(hg:autoParam (Gl X "range") zA0)
  (hs:autoParam (∀ y,zFS X (.Call (.Name "range" p1) [a,b] [] p2) y) zA2) (j6:autoParam (zSE X a [b]) zA0) (JB:autoParam (zSE X b []) zA0) (d9:autoParam (Qv [a,b] X.env=[(false,Qx a X.env),(false,Qx b X.env)]) zA0) (JC:autoParam (Qv [b] X.env=[(false,Qx b X.env)]) zA0):
  WDE X (.ListComp f8 [⟨.Name x px,.Call (.Name "range" p1) [a,b] [] p2,[c],0⟩] scope pos) (qF (jU ti tj) tt te):=⟨(pe_comp hc S (pd hg hm (bg ha.out (bg hb.out pa_nil JB) j6) d9 JC) (λa b c d=>qG (hq a b c d).out) (λa b c d=>(he a b c d).out) hs).anti λs H Q q=>gC (λ_ _ _=>cmpF.g) itR2 q⟩
def ko(ix:Nat)(C_:TDI)(te:TD):TSD:=λE z=>C_ z (cmpP te z λd=>match d with| .lst ys=>E.nx (z.set ix (be (.own ys)))|_=>False)
variable{H:Hp}
def rN{E:Ends}{s:L2.St}{ix:Nat}{wi:TI}{C_:TDI}(hI:ItOk K wi C_)(q:lS K (ko ix C_ te) E s H):tAsg (fE wi (lT K dT1) (lE K te)) (fu ix) E s H:=by
 obtain⟨B,F0,F,z,k,rs,ED,h,e⟩:=q;refine hI k.kf rs h λitems J F1 H1 g1 hg it=>qH (Q:=λv H=>E.nx (s.set ix (be v)) H) k.kf g1 rs (λD ys us F' H' hH hF GG hu ry hR=>?_) it (cmpP.g hg);have r2:=(rs.grow GG).setOwn (i:=ix) (a:=D) (k.bh.free hH) hF ry λj dj _ q1 q2=>by
  obtain⟨a,vs,p1,p2,_⟩:=rs.own j dj q1;rw[p1] at q2;cases q2;rw[hH] at p2;cases p2
 rw[qP hu] at r2;exact e.nx _ _ F' H' (k.grow GG) hR r2
def zO(ix:Nat){y:IT}{py i6:QC}(hc:X.calm=true)(S:CompScope X scope x)(hN:X.N.Nodup)(hi:WDE X iter ti)(he:∀ cl s₀ H₀ fp,WDE (bD X scope cl x s₀ H₀ fp) f8 te)(Jy:autoParam (X.N[ix]?=be y) zA0)(hy:autoParam (Loc X.env.scope y) zA4)
  (hf:autoParam (zFN X y) zA3) (v3:autoParam (QF (.ListComp f8 [⟨.Name x px,iter,[],0⟩] scope pos) (be (.Name y py)) i6.line X.env=pure true) zA0) (hs:autoParam (∀ y,zFS X iter y) zA2):
  WDS X (.Assign [.Name y py] (.ListComp f8 [⟨.Name x px,iter,[],0⟩] scope pos) i6) (ko ix (dItS ti) te):=⟨(jQ hc S (yF hi.out) (λ_ _ _ _=>gB) (λa b c d=>(he a b c d).out) hN Jy hy hf v3 hs).anti λE s H q=>rN itS q⟩
def zP(ix:Nat){y:IT}{py i6:QC}(hc:X.calm=true)(S:CompScope X scope x)(hN:X.N.Nodup)(hm:X.mg "range"=z7)(hi:WDE X iter ti)(he:∀ cl s₀ H₀ fp,WDE (bD X scope cl x s₀ H₀ fp) f8 te)(hg:autoParam (Gl X "range") zA0)(Jy:autoParam (X.N[ix]?=be y) zA0)(hy:autoParam (Loc X.env.scope y) zA4)
  (hf:autoParam (zFN X y) zA3) (v3:autoParam (QF (.ListComp f8 [⟨.Name x px,.Call (.Name "range" p1) [iter] [] p2,[],0⟩] scope pos) (be (.Name y py)) i6.line X.env=pure true) zA0)
  (hs:autoParam (∀ y,zFS X (.Call (.Name "range" p1) [iter] [] p2) y) zA2) (j6:autoParam (zSE X iter []) zA0) (d9:autoParam (Qv [iter] X.env=[(false,Qx iter X.env)]) zA0):
  WDS X (.Assign [.Name y py] (.ListComp f8 [⟨.Name x px,.Call (.Name "range" p1) [iter] [] p2,[],0⟩] scope pos) i6) (ko ix (dItR ti) te):=⟨(jQ hc S (fv hg hm (bg hi.out pa_nil j6) d9) (λ_ _ _ _=>gB) (λa b c d=>(he a b c d).out) hN Jy hy hf v3 hs).anti λE s H q=>rN itR q⟩
def intsAre_of:∀ {ns:List Int} {us:List KB},Vals (ns.map V.int) us->Rn us ns:=by
 intro ns;induction ns with
 |nil=>intro us h;cases h;exact .nil
 |cons n ns e=>
  intro us h;cases h with
  |cons r t=>
   obtain⟨_,rfl⟩:=r;exact .cons _ _ (e t)
def zQ(hc:X.calm=true):bw X (.builtin "min") (λxs H Q=>∃ (p:KF) (ns:List Int),xs=[.ref p]/\SqL X.K H p (ns.map V.int)/\0<ns.length/\∀ m,m∈ns->(∀ a∈ns,m<=a)->Q (.int m) H):=by
 intro pins s σ H xs us Q I r h;obtain⟨p,ns,rfl,hq,k8,q⟩:=h;obtain⟨u,rfl,rx⟩:=bG r;cases rx;obtain⟨its,r',pl,hz⟩:=I.list hq;have hi:=intsAre_of r';have hl:=pl.isList;obtain⟨xs,e⟩:=hi.allInts.items;have hns:ns=xs.toList.map (·.1):=by rw[<- hi.numsOf,<- nums_intItems,<- e]
 have g9:0<xs.size:=by
  have h3:=k8;rw[hns,EY,FN] at h3;exact h3
 rw[e] at hl;refine min_intList (I.ok.hd hc) hl g9 λv h' tk hv hk=>?_;obtain⟨t,rfl⟩:=intItems_at hv;obtain⟨h1,h2⟩:=argBest_lt (numAt xs) (xs.size - 1);refine⟨.int _,H,I.kept hk,⟨t,rfl⟩,q _ ?_ λa ha=>?_⟩
 .rw[hns,numAt_eq];exact getD_mem (by rw[EY,FN];lia)
 .rw[hns] at ha;obtain⟨j,hj,rfl⟩:=mem_getD ha;rw[EY,FN] at hj;rw[<- numAt_eq];exact h2 j (by lia)
def rdMinL:RDn:=λds R=>match ds with|[.lst xs]=>∃ ns:List Int,xs=ns.map D.int/\0<ns.length/\∀ m,m∈ns->(∀ a∈ns,m<=a)->R (.int m)|_=>False
def zR:bR K (λxs H Q=>∃ (p:KF) (ns:List Int),xs=[.ref p]/\SqL K H p (ns.map V.int)/\0<ns.length/\∀ m,m∈ns->(∀ a∈ns,m<=a)->Q (.int m) H) rdMinL:=by
 intro ds vs F H R Q fh h rx q;unfold rdMinL at h;split at h
 .obtain⟨ns,rfl,hl,h⟩:=h;obtain⟨v,r,rfl,h1,h2⟩:=reps_cons.mp rx;rw[reps_nil.mp h2];obtain⟨a,us,rfl,hq,rs⟩:=rep_lst.mp h1;rw[Reps.ints.mp rs] at hq;exact⟨a,ns,rfl,fh.seq (SqL.of hq),hl,λm h1 h2=>q _ _ F H (Grow.refl fh) (h m h1 h2) (rep_int.mpr rfl)⟩
 .exact h.elim
def rO{p:QC}(hc:X.calm=true)(hm:X.mg "min"=z7)(ha:WDA X [e] t)(hg:autoParam (Gl X "min") zA0)(he:autoParam (zSE X e []) zA0)(c_:autoParam (zPL X pos []) zA0):WDE X (.Call (.Name "min" p) [e] [] pos) (dCB rdMinL t):=⟨fB (zQ hc) zR hm PyProof.Rows.boot_min ha.out hg (by decide) (by decide) he c_⟩
def rdTuple:RDn:=λds R=>match ds with|[.lst xs]=>R (.tup xs)|[.tup xs]=>R (.tup xs)|_=>False
def zS:bR K (λxs H Q=>∃ p ys,xs=[.ref p]/\((SqL K H p ys/\∀ l,H l=z7->Q (.ref l) (upd H l (.tup ys)))\/(SqT K H p ys/\Q (.ref p) H))) rdTuple:=by
 intro ds vs F H R Q fh h rx q;unfold rdTuple at h;split at h
 .obtain⟨v,r,rfl,h1,h2⟩:=reps_cons.mp rx;rw[reps_nil.mp h2];obtain⟨a,us,rfl,hq,rs⟩:=rep_lst.mp h1;exact⟨a,us,rfl,.inl ⟨fh.seq (SqL.of hq),λl hl=>q _ _ _ _ (Grow.new fh hl _) h (rep_tupS.mpr ⟨l,us,rfl,ay,rs.mono (aS (fh.free hl) _)⟩)⟩⟩
 .obtain⟨v,r,rfl,h1,h2⟩:=reps_cons.mp rx;rw[reps_nil.mp h2];obtain⟨a,us,rfl,hq,rs⟩:=rep_tup_mp h1;exact⟨a,us,rfl,.inr ⟨fh.tup hq,q _ _ F H (Grow.refl fh) h h1⟩⟩
 .exact h.elim
def zT{p:QC}(hm:X.mg "tuple"=z7)(ha:WDA X [e] t)(hg:autoParam (Gl X "tuple") zA0)(he:autoParam (zSE X e []) zA0):WDE X (.Call (.Name "tuple" p) [e] [] pos) (dCB rdTuple t):=⟨gz wD zS hm PyProof.Rows.boot_tuple ha.out hg (by decide) (by decide) he⟩
def rSCount:RTx:=λy ds R=>match ds with|[.str p]=>R (.int (Builtin.Str.occurrences y p 0 y.length (y.length+1)).length)|_=>False
def zU:MtS X "str.count" rSCount:=by
 refine⟨λx vs H Q=>∃ y p,x= .str y/\vs=[.str p]/\Q (.int (Builtin.Str.occurrences y p 0 y.length (y.length+1)).length) H,?_,?_⟩
 .intro pins s σ H x vs v us Q I rx rv h;obtain⟨y,p,rfl,rfl,q⟩:=h;obtain⟨t,rfl⟩:=rx;obtain⟨u,rfl,t',rfl⟩:=bG rv;exact SC.count ⟨.int _,H,I.tok _,⟨_,rfl⟩,q⟩
 .intro y ds vs F H R Q r h q;unfold rSCount at h;split at h
  .obtain⟨v,vr,rfl,h1,h2⟩:=reps_cons.mp r;rw[reps_nil.mp h2,rep_str.mp h1];exact⟨_,_,rfl,rfl,q _ _ (λ_=>rep_int.mpr rfl) h⟩
  .exact h.elim
def rP{apos cpos:QC}(ho:WDE X o to)(ha:WDA X [e] t)(c8:autoParam (Qy o "count" X.env (Qx o X.env)=Qx o X.env) zA0)
  (e_:autoParam (zHF X cpos [e]) zA0)
  (d4:autoParam ((apos.endLine==cpos.line)=true) zA0) (hs:autoParam (zSE X e []) zA0):WDE X (.Call (.Attribute o "count" apos) [e] [] cpos) (dTx rSCount to t):=⟨jY PySem.F.slot_str_count PySem.F.type_str_count zU ho.out ha.out c8 e_ d4 hs⟩
def rQ(is:List Nat)(ti:TDI)(tb:TSD):TSD:=λE z=>ti z λds=>∃ W:Nat->SD->Prop,W 0 z/\(∀ (k:Nat) x z,ds[k]?=be x->W k z->tb {E with nx:=W (k+1),ct:=W (k+1),bk:=E.nx} (cb is [.int k,x] z))/\∀ z,W ds.length z->E.nx z
variable{is:List Nat}
def rR{B F0 F1 H1:Hp}{z:SD}{s:L2.St}{E:Ends}{ED:EndsD}{It':It}{g:TG}{tb:TSD}{tbv:TS}{ds:List D}(k1:Kept B F0 F1 H1)(u6:RepS K B F1 H1 z s)(e:EndsOk K B F0 ED E)
  (go:∀ k F' H',Same F1 F'->Same F' H'->k<ds.length->It'.go k H') (stop:∀ F' H',Same F1 F'->Same F' H'->It'.stop ds.length H')
  (yld:∀ k F' H' x H'',Same F1 F'->Same F' H'->k<ds.length->It'.yld k H' x H''->∃ T d v,H' T=z7/\x= .ref T/\H''=upd H' T (.tup [.int k,v])/\ds[k]?=be d/\Rep K F' d v)
  (hg:∀ (dd:List D) (vs:List V) (T:KF) (z:SD) (s:L2.St) (F H:Hp) (Q:L2.St->Hp->Prop),dd.length=2->H T=be (.tup vs)->Reps K F dd vs->RepS K B F H z s->(∀ s',RepS K B F H (cb is dd z) s'->Q s' H)->g (.ref T) s H Q)
  (Mn:∀ E s H,lS K tb E s H->tbv E s H)
  (hd:∃ W:Nat->SD->Prop,W 0 z/\(∀ (k:Nat) x z,ds[k]?=be x->W k z->tb {ED with nx:=W (k+1),ct:=W (k+1),bk:=ED.nx} (cb is [.int k,x] z))/\∀ z,W ds.length z->ED.nx z):
  ∃ W:Nat->Nat->L2.St->Hp->Prop,(∃ m,W 0 m s H1)/\∀ i m σ H,W i m σ H->
   (It'.stop i H/\E.nx σ H)\/(It'.go i H/\∃ N:L2.St->Hp->Prop,(∀ σ' H',N σ' H'->∃ m',m'<m/\W (i+1) m' σ' H')/\∀ x H',It'.yld i H x H'->g x σ H' λσ2 H2=>tbv {E with nx:=N,ct:=N,bk:=E.nx} σ2 H2):=by
 obtain⟨W,w0,d5,out⟩:=hd;refine⟨λk m s' H'=>m=ds.length - k/\k<=ds.length/\∃ F' z',Kept B F0 F' H'/\Same F1 F'/\RepS K B F' H' z' s'/\W k z',⟨ds.length,by simp,Fl _,F1,z,k1,Same.refl F1,u6,w0⟩,?_⟩;rintro k m s' H' ⟨rfl,hk,F',z',k',g',r',w'⟩;by_cases j3:k<ds.length
 .refine .inr ⟨go k F' H' g' k'.fh j3,λs3 H3=>∃ F3 z3,Kept B F0 F3 H3/\Same F1 F3/\RepS K B F3 H3 z3 s3/\W (k+1) z3,λs3 H3 h3=>⟨ds.length - (k+1),by lia,rfl,j3,h3⟩,λx H'' hy=>?_⟩;obtain⟨T,d,v,hT,rfl,rfl,hd,rd⟩:=yld k F' H' x H'' g' k'.fh j3 hy;have gn:=Grow.new k'.fh hT (.tup [.int k,v]);have k2:=k'.grow gn;have rp:Reps K (upd F' T (.tup [.int k,v])) [.int k,d] [.int k,v]:=reps_cons.mpr ⟨_,_,rfl,rep_int.mpr rfl,eH (rd.mono gn.ff)⟩;refine hg [.int k,d] _ T z' s' _ _ _ rfl ay rp (r'.grow gn) λs2 JV=>Mn _ _ _ ?_;have gF:Same F1 (upd F' T (.tup [.int k,v])):=g'.trans gn.ff;refine⟨B,upd F' T (.tup [.int k,v]),upd F' T (.tup [.int k,v]),_,⟨k2.bh,k2.fh,Same.refl _,λb h1 _=>h1,k2.eb,k2.jf.trans k2.f0,λb h1 h2=>k2.out b (k2.jo b h1 h2) h2⟩,JV,_,d5 k d z' hd w',?_⟩;have up:∀ {F3 H3:Hp},Kept B (upd F' T (.tup [.int k,v])) F3 H3->Kept B F0 F3 H3:=λk3=>⟨k3.bh,k3.fh,k2.f0.trans k3.f0,λb h1 h2=>k3.out b (k2.out b h1 h2) h2,k2.eb,k2.jf,k2.jo⟩;exact⟨λz3 s3 F3 H3 k3 h3 r3=>⟨F3,z3,up k3,gF.trans k3.f0,r3,h3⟩,λd v F3 H3 k3=>e.rt d v F3 H3 (up k3),λz3 s3 F3 H3 k3=>e.nx z3 s3 F3 H3 (up k3),λz3 s3 F3 H3 k3 h3 r3=>⟨F3,z3,up k3,gF.trans k3.f0,r3,h3⟩⟩
 .have ek:k=ds.length:=by lia
  subst ek;exact .inl ⟨stop F' H' g' k'.fh,e.nx z' s' F' H' k' (out z' w') r'⟩
variable{body:List Qq}
def zV{es:List Qo}{x1:Nat}{tp:QC}{tb:TSD}(hp:QQ (Qr X.prog X.w) X.A X.env X.xe)(hc:X.calm=true)(hm:X.mg "enumerate"=z7)(he:WDE X e te)(hG:DGs X es is)(hb:WDSs X body tb)(b_:autoParam (is.length=2) zA0)(hg:autoParam (Gl X "enumerate") zA0)
  (hn:autoParam ((Qw es X.env).length=2) zA0) (n6:autoParam ((Qw es X.env).findIdx? (·.1)=none) zA0)
  (hs:autoParam (∀ y,zFS X (.Call (.Name "enumerate" p1) [e] [] p2) y) zA2) (j6:autoParam (zSE X e []) zA0) (d9:autoParam (Qv [e] X.env=[(false,Qx e X.env)]) zA0):
  WDS X (.For (.Tuple es x1 tp) (.Call (.Name "enumerate" p1) [e] [] p2) body [] pos) (rQ is (dItL te) tb):=by
 obtain⟨ug,JE,kk⟩:=hG;refine⟨(dE hp hc (rD hg hm (bg he.out pa_nil j6) d9) (gf hc JE hn n6) hb.out hs).anti λE s H q=>?_⟩;obtain⟨B,F0,F,z,kp,rs,ED,h,e⟩:=q;refine⟨B,F,z,kp.kf,rs,_,h,λd v F1 H1 g1 hd rd=>?_⟩;have key:∀ (ds:List D) (p:KF) (vs:List V),SqL X.K F1 p vs->Reps X.K F1 ds vs->(∃ W:Nat->SD->Prop,W 0 z/\(∀ (k:Nat) x z,ds[k]?=be x->W k z->tb {ED with nx:=W (k+1),ct:=W (k+1),bk:=ED.nx} (cb is [.int k,x] z))/\∀ z,W ds.length z->ED.nx z)->_:=λds p vs hq rr hd=>
  rR (It':=Itel X.K p) (g:=gTup X.K 2 ug) (tbv:=lS X.K tb) (E:=E) (kp.grow g1) (rs.grow g1) e (λk F' H' s1 s2 hk=>⟨vs,vs[k]'(by rw[rr.length];exact hk),s2.seq (s1.seq hq),by simp[rr.length,hk]⟩) (λF' H' s1 s2=>⟨vs,s2.seq (s1.seq hq),by rw[rr.length];exact EK _⟩) (λk F' H' x H'' s1 s2 hk hy=>by
   obtain⟨T,v,hT,e1,e2,hv⟩:=hy;obtain⟨d,hd,rd⟩:=rr.get' (hv vs (s2.seq (s1.seq hq)));exact⟨T,d,v,hT,e1,e2,hd,rd.mono s1⟩) (λdd m8 T z s F H Q hl hT rp y9 hQ=>⟨T,m8,rfl,SqT.of hT,by rw[rp.length];exact hl,kk dd m8 z s B F H Q (by rw[hl,b_]) rp y9 hQ⟩) (λ_ _ _ h=>h) hd
 split at hd
 .obtain⟨p,vs,rfl,hq,rr⟩:=rep_lst.mp rd;exact⟨p,rfl,⟨vs,g1.fh.seq (SqL.of hq)⟩,key _ p vs (SqL.of hq) rr hd⟩
 .obtain⟨p,vs,rfl,hq,rr⟩:=rep_rol.mp rd;exact⟨p,rfl,⟨vs,g1.fh.seq hq⟩,key _ p vs hq rr hd⟩
 .exact hd.elim
def zW{es:List Qo}{x1:Nat}{tp:QC}{tb:TSD}(hp:QQ (Qr X.prog X.w) X.A X.env X.xe)(hc:X.calm=true)(hm:X.mg "enumerate"=z7)(he:WDE X e te)(hG:DGs X es is)(hb:WDSs X body tb)(b_:autoParam (is.length=2) zA0)(hg:autoParam (Gl X "enumerate") zA0)
  (hn:autoParam ((Qw es X.env).length=2) zA0) (n6:autoParam ((Qw es X.env).findIdx? (·.1)=none) zA0)
  (hs:autoParam (∀ y,zFS X (.Call (.Name "enumerate" p1) [e] [] p2) y) zA2) (j6:autoParam (zSE X e []) zA0) (d9:autoParam (Qv [e] X.env=[(false,Qx e X.env)]) zA0):
  WDS X (.For (.Tuple es x1 tp) (.Call (.Name "enumerate" p1) [e] [] p2) body [] pos) (rQ is (dItS te) tb):=by
 obtain⟨ug,JE,kk⟩:=hG;refine⟨(dE hp hc (rE hg hm (bg he.out pa_nil j6) d9) (gf hc JE hn n6) hb.out hs).anti λE s H q=>?_⟩;obtain⟨B,F0,F,z,kp,rs,ED,h,e⟩:=q;refine⟨B,F,z,kp.kf,rs,_,h,λd v F1 H1 g1 hd rd=>?_⟩;split at hd
 .rename_i x;obtain⟨ha,hd⟩:=hd;have hl:=gI x;refine⟨x,by rw[rep_str.mp rd],ha,rR (It':=Ites x) (kp.grow g1) (rs.grow g1) e (λk F' H' s1 s2 hk=>?_) (λF' H' s1 s2=>?_) (λk F' H' x H'' s1 s2 hk hy=>?_) (λdd m8 T z s F H Q hl hT rp y9 hQ=>?_) (λ_ _ _ h=>h) hd⟩
  .rw[hl] at hk;exact hk
  .exact hl
  .obtain⟨T,c,hT,e1,e2,hc⟩:=hy;exact⟨T,.str ⟨#[c]⟩,.str ⟨#[c]⟩,hT,e1,e2,jX hc,rep_str.mpr rfl⟩
  .exact⟨T,m8,rfl,SqT.of hT,by rw[rp.length];exact hl,kk dd m8 z s B F H Q (by rw[hl,b_]) rp y9 hQ⟩
 .exact hd.elim
def zX(r r':RD2)(ta tb tc:TD):TD:=λz R=>ta z λx=>tb z λy=>r x y λd=>∃ k,d= .bl k/\(k=true->tc z λw=>r' y w R)/\(k=false->R (.bl false))
def zY{op Jo:RF}{r r':R2}{rd Ln:RD2}(ho:OpR X (QA op) r)(u8:OpR X (QA Jo) r')(L:aR X.K r rd)(L':aR X.K r' Ln)(ha:WDE X a ta)(hb:WDE X b tb)(hc:WDE X c tc)(hm:autoParam (lastMarks [op,Jo] [b,c]=false) zA7):WDT X (.Compare a [op,Jo] [b,c] pos) (dTst (zX rd Ln ta tb tc)):=by
 refine⟨(vD ho u8 ha.out hb.out hc.out hm).anti λs H Q q=>?_⟩;obtain⟨B,F,z,kf,rs,R,h1,h2⟩:=q;refine⟨B,F,z,kf,rs,_,h1,λx u F1 H1 g1 hx rx=>?_⟩;refine⟨B,F1,z,kf.grow g1,rs.grow g1,_,hx,λy v F2 H2 g2 hy ry=>?_⟩;refine L x y u v F2 H2 _ _ g2.fh hy (rx.mono g2.ff) ry λd w F3 H3 g3 hd rd=>?_;obtain⟨k,rfl,hT,hF⟩:=hd;cases k with
 |true=>
  refine⟨true,rep_bl.mp rd,ite_tt ?_⟩;refine⟨B,F3,z,((kf.grow g1).grow g2).grow g3,((rs.grow g1).grow g2).grow g3,_,hT rfl,λw' v' F4 H4 g4 hw j5=>?_⟩;refine L' y w' v v' F4 H4 _ _ g4.fh hw ((ry.mono g3.ff).mono g4.ff) j5 λd' w2 F5 H5 g5 g8 Ln=>?_;split at g8
  .exact⟨_,rep_bl.mp Ln,h2 _ F5 H5 (g1.trans (g2.trans (g3.trans (g4.trans g5)))) g8⟩
  .exact g8.elim
 |false=>exact⟨false,rep_bl.mp rd,ite_ff ⟨false,rfl,h2 _ F3 H3 (g1.trans (g2.trans g3)) (hF rfl)⟩⟩
def rdIsB(f:Bool->Bool):RD2:=λx y R=>match x,y with| .bl i,.bl j=>R (.bl (f (decide (i=j))))|_,_=>False
def zZ:OpR X (QA .IsNot) (λx y H Q=>∃ i j,x= .bl i/\y= .bl j/\Q (.bl (!decide (i=j))) H):=by
 intro pins s σ H x y v u Q I rx ry h;obtain⟨i,j,rfl,rfl,q⟩:=h;cases rx;cases ry;exact wpAny_isNot_plain rfl (aL I q (by cases i<;>cases j<;>rfl))
def lifts_notB:aR K (λx y H Q=>∃ i j,x= .bl i/\y= .bl j/\Q (.bl (!decide (i=j))) H) (rdIsB not):=by
 intro x y u v F H R Q fh h rx ry q;unfold rdIsB at h;split at h
 .exact⟨_,_,rep_bl.mp rx,rep_bl.mp ry,q _ _ F H (Grow.refl fh) h (rep_bl.mpr rfl)⟩
 .exact h.elim
def Aa[Jx](ha:WDE X a ta)(hb:WDE X b tb):WDT X (.Compare a [.IsNot] [b] pos) (dTst (dOp (rdIsB not) ta tb)):=⟨have ha:=ha.out;have hb:=hb.out;eD zZ lifts_notB ha hb (nomark _)⟩
def kq:∀ {xs:List V},xs.all bp=true->eqVs xs xs=true
 |[],_=>rfl
 |x::xs,h=>by
  rw[FD,Ff] at h;rw[eqVs,kq h.2,GL];cases x<;>first|rfl|(simp[eqV];done)|exact absurd (show false=true from h.1) ET
def Ab{pins:List (KF × QJ)}{s:KM}{σ:L2.St}{A:Qu}(I:Inv X pins σ H s)(hu:A.units<Rm){a b:KF}{xs ys:List V}(h:(SqT X.K H a xs/\SqT X.K H b ys)\/(SqL X.K H a xs/\SqL X.K H b ys))(fx:xs.all bp=true)(fy:ys.all bp=true):SeqAt.EqAt A s (.ref a) (.ref b) (eqVs xs ys):=by
 rcases h with⟨h,h'⟩|⟨h,h'⟩
 .by_cases e:a=b
  .subst e;rw[I.tuple_inj h h',kq fy];exact SeqAt.EqAt.same _
  .obtain⟨its,r1,p1,_⟩:=I.tuple h;obtain⟨e9,r2,p2,_⟩:=I.tuple h';refine SeqAt.EqAt.of_refs e ?_;have:=SeqAt.RcAt.tuples (A:=A) (e:=λj=>eqV (xs.getD j .non) (ys.getD j .non)) p1 p2 hu (λj h1 h2=>by
    rw[EO] at h1 h2;simp only[GM];exact eqAt_V (Vals.getD r1 h1) (Vals.getD r2 h2) (flat_getD fx) (flat_getD fy))
   rw[EO,EO,<- L2.Vals.length r1,<- L2.Vals.length r2] at this;rwa [<- gx]
 .by_cases e:a=b
  .subst e;rw[I.list_inj h h',kq fy];exact SeqAt.EqAt.same _
  .obtain⟨its,r1,p1,_⟩:=I.list h;obtain⟨e9,r2,p2,_⟩:=I.list h';refine SeqAt.EqAt.of_refs e ?_;have l1:=L2.Vals.length r1;have l2:=L2.Vals.length r2;by_cases hl:its.length=e9.length
   .have:=SeqAt.RcAt.lists (A:=A) (e:=λj=>eqV (xs.getD j .non) (ys.getD j .non)) p1.isList p2.isList (by rw[EO,EO,hl]) hu (λj h1 h2=>by
     rw[EO] at h1 h2;simp only[GM];exact eqAt_V (Vals.getD r1 h1) (Vals.getD r2 h2) (flat_getD fx) (flat_getD fy))
    rw[EO,<- l1] at this;have e2:=gx xs ys;rw[show min xs.length ys.length=xs.length by lia,show(xs.length==ys.length)=true by rw[l1,l2,hl];exact beq_self_eq_true _,GL] at e2;rwa [<- e2]
   .have:=SeqAt.RcAt.lists_lengths (A:=A) p1.isList p2.isList (by rw[EO,EO];simpa using hl) hu;have e2:=gx xs ys;rw[show(xs.length==ys.length)=false by rw[l1,l2];simpa using hl,HA] at e2;rwa [<- e2]
def EqE(K:Ex)(H:Hp)(x y:V)(b:Bool):Prop:=(bp x=true/\bp y=true/\b=eqV x y)\/∃ a a' xs ys,x= .ref a/\y= .ref a'/\((SqT K H a xs/\SqT K H a' ys)\/(SqL K H a xs/\SqL K H a' ys))/\xs.all bp=true/\ys.all bp=true/\b=eqVs xs ys
def rEqN(K:Ex):R2:=λx y H Q=>∃ (a b:KF) (xs ys:List V) (es:List Bool),x= .ref a/\y= .ref b/\((SqT K H a xs/\SqT K H b ys)\/(SqL K H a xs/\SqL K H b ys))/\xs.length=ys.length/\es.length=xs.length/\(∀ j,j<xs.length->EqE K H (xs.getD j .non) (ys.getD j .non) (es.getD j true))/\Q (.bl (es.all id)) H
def rS{es:List Bool}{n:Nat}(h:es.length=n):(EM n).all (λj=>es.getD j true)=es.all id:=by
 subst h;induction es with
 |nil=>rfl
 |cons e es ih=>
  rw[EN,HH,FD,G4,FD,<- ih];rfl
def Ac(hu:X.A.units+1<Rm):OpR X (QA .Eq) (rEqN X.K):=by
 intro pins s σ H x y v u Q I rx ry h;obtain⟨a,b,xs,ys,es,rfl,rfl,hs,hl,he,hE,q⟩:=h;cases rx;cases ry;have el:∀ {its e9:List KB},Vals xs its->Vals ys e9->∀ j (h1:j<its.length) (h2:j<e9.length),SeqAt.EqAt X.A.in1 s its[j] e9[j] (es.getD j true):=λ{its e9} r1 r2 j h1 h2=>by
  have g1:=Vals.getD r1 h1;have g2:=Vals.getD r2 h2;rcases hE j (by rw[L2.Vals.length r1];exact h1) with⟨f1,f2,e⟩|⟨a,a',P5,P6,e1,e2,hq,f1,f2,e⟩
  .rw[e];exact eqAt_V g1 g2 f1 f2
  .rw[e1] at g1;rw[e2] at g2;have g1:its[j]= .ref a:=g1;have g2:e9[j]= .ref a':=g2;rw[e,g1,g2];exact Ab I hu hq f1 f2
 rcases hs with⟨ha,hb⟩|⟨ha,hb⟩
 .obtain⟨its,r1,p1,_⟩:=I.tuple ha;obtain⟨e9,r2,p2,_⟩:=I.tuple hb;refine SeqAt.eq_tupleAt (e:=λj=>es.getD j true) p1 p2 (by lia) (λj h1 h2=>?_) ⟨.bl (es.all id),H,I,?_,q⟩
  .rw[EO] at h1 h2;simp only[GM];exact el r1 r2 j h1 h2
  .rw[EO,EO,<- L2.Vals.length r1,<- L2.Vals.length r2,<- hl,Nat.min_self,rS he,beq_self_eq_true,GL];rfl
 .obtain⟨its,r1,p1,_⟩:=I.list ha;obtain⟨e9,r2,p2,_⟩:=I.list hb;have l1:=L2.Vals.length r1;have l2:=L2.Vals.length r2;refine SeqAt.eq_listAt (e:=λj=>es.getD j true) p1.isList p2.isList (by rw[EO,EO];lia) (by lia) (λj h1 h2=>?_) ⟨.bl (es.all id),H,I,?_,q⟩
  .rw[EO] at h1 h2;simp only[GM];exact el r1 r2 j h1 h2
  .rw[EO,<- l1,rS he];rfl
def sh2(x y:D):Bool:=(bn x && bn y)||match x,y with| .tup a,.tup b=>a.all bn && b.all bn| .lst a,.lst b=>a.all bn && b.all bn|_,_=>false
def eq2(x y:D):Bool:=match x,y with| .tup a,.tup b=>eqFs a b| .lst a,.lst b=>eqFs a b|x,y=>eqF x y
def EqE.of{F:Hp}(fh:Same F H){x y:D}{u v:V}(rx:Rep K F x u)(ry:Rep K F y v)(h:sh2 x y=true):EqE K H u v (eq2 x y):=by
 unfold sh2 at h;rw[Bool.or_eq_true,Ff] at h;rcases h with⟨f1,f2⟩|h
 .refine .inl ⟨eG rx f1,eG ry f2,?_⟩;rw[jL rx ry f1 f2];unfold eq2;split
  .cases f1
  .cases f1
  .rfl
 .split at h
  .rw[Ff] at h;obtain⟨a,us,rfl,hq,rr⟩:=rep_tup_mp rx;obtain⟨b,vs,rfl,m5,n4⟩:=rep_tup_mp ry;exact .inr ⟨a,b,us,vs,rfl,rfl,.inl ⟨fh.tup hq,fh.tup m5⟩,de rr h.1,de n4 h.2,(jM rr n4 h.1 h.2).symm⟩
  .rw[Ff] at h;obtain⟨a,us,rfl,hq,rr⟩:=rep_lst.mp rx;obtain⟨b,vs,rfl,m5,n4⟩:=rep_lst.mp ry;exact .inr ⟨a,b,us,vs,rfl,rfl,.inr ⟨SqL.of (fh _ _ hq),SqL.of (fh _ _ m5)⟩,de rr h.1,de n4 h.2,(jM rr n4 h.1 h.2).symm⟩
  .cases h
def sh2s:List D->List D->Bool
 |[],[]=>true
 |x::xs,y::ys=>sh2 x y && sh2s xs ys
 |_,_=>false
def eq2s(xs ys:List D):List Bool:=List.zipWith eq2 xs ys
def EqE.all{F:Hp}(fh:Same F H):∀ {xs ys:List D} {us vs:List V},Reps K F xs us->Reps K F ys vs->sh2s xs ys=true->us.length=vs.length/\(eq2s xs ys).length=us.length/\∀ j,j<us.length->EqE K H (us.getD j .non) (vs.getD j .non) ((eq2s xs ys).getD j true):=by
 intro xs;induction xs with
 |nil=>
  intro ys us vs r1 r2 h;cases ys with
  |nil=>
   rw[reps_nil.mp r1,reps_nil.mp r2];exact⟨rfl,rfl,λj h=>absurd h (F9 j)⟩
  |cons y ys=>exact absurd h ET
 |cons x xs ih=>
  intro ys us vs r1 r2 h;cases ys with
  |nil=>exact absurd h ET
  |cons y ys=>
   obtain⟨u,ur,rfl,a1,a2⟩:=reps_cons.mp r1;obtain⟨v,vr,rfl,b1,b2⟩:=reps_cons.mp r2;rw[sh2s,Ff] at h;obtain⟨q1,q2,q3⟩:=ih a2 b2 h.2;refine⟨by rw[EN,EN,q1],by show(eq2s xs ys).length+1=_;rw[q2,EN],λj hj=>?_⟩;cases j with
   |zero=>exact EqE.of fh a1 b1 h.1
   |succ j=>exact q3 j (Nat.lt_of_succ_lt_succ hj)
def rdEqN:RD2:=λx y R=>match x,y with
 | .tup xs,.tup ys=>sh2s xs ys=true/\R (.bl ((eq2s xs ys).all id))
 | .lst xs,.lst ys=>sh2s xs ys=true/\R (.bl ((eq2s xs ys).all id))
 |_,_=>False
def Ad:aR K (rEqN K) rdEqN:=by
 intro x y u v F H R Q fh h rx ry q;unfold rdEqN at h;split at h
 .obtain⟨a,us,rfl,hq,rr⟩:=rep_tup_mp rx;obtain⟨b,vs,rfl,m5,n4⟩:=rep_tup_mp ry;obtain⟨q1,q2,q3⟩:=EqE.all fh rr n4 h.1;exact⟨a,b,us,vs,_,rfl,rfl,.inl ⟨fh.tup hq,fh.tup m5⟩,q1,q2,q3,q _ _ F H (Grow.refl fh) h.2 (rep_bl.mpr rfl)⟩
 .obtain⟨a,us,rfl,hq,rr⟩:=rep_lst.mp rx;obtain⟨b,vs,rfl,m5,n4⟩:=rep_lst.mp ry;obtain⟨q1,q2,q3⟩:=EqE.all fh rr n4 h.1;exact⟨a,b,us,vs,_,rfl,rfl,.inr ⟨SqL.of (fh _ _ hq),SqL.of (fh _ _ m5)⟩,q1,q2,q3,q _ _ F H (Grow.refl fh) h.2 (rep_bl.mpr rfl)⟩
 .exact h.elim
def Ae[Jx](hu:X.A.units+1<Rm)(ha:WDE X a ta)(hb:WDE X b tb):WDE X (.Compare a [.Eq] [b] pos) (dOp rdEqN ta tb):=⟨have ha:=ha.out;have hb:=hb.out;qc (Ac hu) Ad ha hb (nomark _)⟩
end
section
variable {X:Cx}[J:Jx]{a b c e o:Qo}{es:List Qo}{ta tb tc te to:TD}{t:TDA}{pos:QC}
def EH:RTx:=λy ds R=>match ds with|[.str p,.int i]=>∃ k rest,Builtin.Str.occurrences y p (PySem.fromIndex y.length i) y.length 1=k::rest/\R (.int (k:Nat))|_=>False
def chV(x:IT):List V:=x.cps.toList.map λc=>V.str ⟨#[c]⟩
def Af{α β:Type}{F:α->β->Prop}:∀ {l:List α} {m:List β},l.length=m.length->(∀ (k:Nat) a b,l[k]?=be a->m[k]?=be b->F a b)->Paired F l m:=by
 intro l;induction l with
 |nil=>intro m h _;cases m with|nil=>exact .nil|cons _ _=>cases h
 |cons a l ih=>
  intro m h g;cases m with
  |nil=>cases h
  |cons b m=>exact .cons (g 0 a b rfl rfl) (ih (by simpa using h) λk a b h1 h2=>g (k+1) a b h1 h2)
def Ag(hc:X.calm=true):bw X (.type "list") (λxs H Q=>∃ z,xs=[.str z]/\z.length<=1000000/\∀ l,H l=z7->Q (.ref l) (upd H l (.lst (chV z)))):=by
 intro pins s σ H xs us Q I r h;obtain⟨z,rfl,hz,q⟩:=h;obtain⟨u,rfl,t,rfl⟩:=bG r;have P7:1000000<=sizeLine:=by decide
 have hl:z.cps.size=z.length:=rfl;refine PySem.call_list_str (I.ok.hd hc) z t (λh' tk f_ c' kp e it=>?_) (by lia);have r':Vals (chV z) f_.toList:=Af (by unfold chV;rw[EY];simp[it.1]) λk a b h1 h2=>by
  unfold chV at h1;rw[E3] at h1;obtain⟨c,u,e1,rfl⟩:=it.2 k b (by simpa using h2);have e2:z.cps.toList[k]?=be c:=by simpa using e1
  rw[e2] at h1;cases h1;exact⟨u,rfl⟩
 exact⟨.ref s.heap.objs.size,_,I.laid (t':=tk) kp (EK _) (show ObjOk X.prog X.w _ h' _ (.lst (chV z)) from⟨by unfold chV;rw[EY];simp;lia,f_.toList,c',r',by simpa using e⟩),rfl,q _ (I.hok.fresh (EK _))⟩
def rdListS:RDn:=λds R=>match ds with|[.str z]=>z.length<=1000000/\R (.lst (bE z))|_=>False
def Ah{K:Ex}{H:Hp}(l:List Nat):Reps K H (l.map λc=>D.str ⟨#[c]⟩) (l.map λc=>V.str ⟨#[c]⟩):=by
 induction l with
 |nil=>exact reps_nil.mpr rfl
 |cons c l ih=>exact reps_cons.mpr ⟨_,_,rfl,rep_str.mpr rfl,ih⟩
def Ai{K:Ex}:bR K (λxs H Q=>∃ z,xs=[.str z]/\z.length<=1000000/\∀ l,H l=z7->Q (.ref l) (upd H l (.lst (chV z)))) rdListS:=by
 intro ds vs F H R Q fh h rx q;unfold rdListS at h;split at h
 .obtain⟨v,r,rfl,h1,h2⟩:=reps_cons.mp rx;rw[reps_nil.mp h2,rep_str.mp h1];exact⟨_,rfl,h.1,λl hl=>q _ _ _ _ (Grow.new fh hl _) h.2 (rep_lst.mpr ⟨l,_,rfl,ay,Ah _⟩)⟩
 .exact h.elim
def Aj{p:QC}(hc:X.calm=true)(hm:X.mg "list"=z7)(ha:WDA X [e] t)(hg:autoParam (Gl X "list") zA0)(he:autoParam (zSE X e []) zA0):WDE X (.Call (.Name "list" p) [e] [] pos) (dCB rdListS t):=⟨have ha:=ha.out;gz (Ag hc) Ai hm PyProof.Rows.boot_list ha hg (by decide) (by decide) he⟩
end
end My
end
section
namespace My
open PySem PySem.Spec PyProof.Rows L2
variable{w:Int}
def b64B(h:0<w)(h':w<=33554432): -(2 ^ 64)<w/\w<2 ^ 64:=by lia
variable{s:Int}
def s64B(h:0<=s)(h':s<w)(P8:w<=33554432): -(2 ^ 64)<s/\s<2 ^ 64:=by lia
def d30B(h:0<w)(h':w<=33554432):0<w/\w<1073741824:=by lia
def fdm(a b:Int)(hb:b≠0):(a - a.fdiv b*b).natAbs<b.natAbs/\(a.fdiv b).natAbs<=a.natAbs+1:=by
 have e:=Int.fmod_def a b;have e2:a - a.fdiv b*b=a.fmod b:=by rw[e,EW]
 rw[e2];have r:(a.fmod b).natAbs<b.natAbs:=by
  rcases(by lia:0<b\/b<0) with h|h
  .have h1:=HV a h;have h2:=HW a h;lia
  .have h1:=HV (-a) (show 0< -b by lia);have h2:=HW (-a) (show 0< -b by lia);rw[Int.neg_fmod_neg] at h1 h2;lia
 refine⟨r,?_⟩;have e3:(b*a.fdiv b).natAbs=b.natAbs*(a.fdiv b).natAbs:=Ha _ _;have e4:=Int.mul_fdiv_self a b;rcases G6 (a.natAbs+1) (a.fdiv b).natAbs with c|c
 .have h1:b.natAbs*(a.natAbs+2)<=b.natAbs*(a.fdiv b).natAbs:=HQ _ c;have h2:b.natAbs*(a.natAbs+2)=b.natAbs*a.natAbs+2*b.natAbs:=by rw[Nat.mul_add,G1 _ 2]
  have h3:1*a.natAbs<=b.natAbs*a.natAbs:=Nat.mul_le_mul_right _ (by lia);lia
 .exact c
def Uni(a b c d p0 p1 q0 q1:Int):Prop:=∃ m n k l:Int,(m*l - n*k=1\/m*l - n*k=-1)/\p0=m*a+n*c/\p1=m*b+n*d/\q0=k*a+l*c/\q1=k*b+l*d
def Uni.refl(a b c d:Int):Uni a b c d a b c d:=⟨1,0,0,1,.inl (by decide),by lia,by lia,by lia,by lia⟩
variable{a b c d p0 p1 q0 q1:Int}
def Uni.step(t:Int)(h:Uni a b c d p0 p1 q0 q1):Uni a b c d q0 q1 (p0 - t*q0) (p1 - t*q1):=by
 obtain⟨m,n,k,l,hd,rfl,rfl,rfl,rfl⟩:=h;refine⟨k,l,m - t*k,n - t*l,?_,rfl,rfl,by grind,by grind⟩;rcases hd with h|h
 .right;grind
 .left;grind
def Uni.neg(h:Uni a b c d p0 p1 q0 q1):Uni a b c d (-p0) (-p1) q0 q1:=by
 obtain⟨m,n,k,l,hd,rfl,rfl,rfl,rfl⟩:=h;refine⟨-m,-n,k,l,?_,by grind,by grind,rfl,rfl⟩;rcases hd with h|h
 .right;grind
 .left;grind
def Uni.inv(h:Uni a b c d p0 p1 q0 q1):Uni p0 p1 q0 q1 a b c d:=by
 obtain⟨m,n,k,l,hd,rfl,rfl,rfl,rfl⟩:=h;rcases hd with h|h
 .exact⟨l,-n,-k,m,.inl (by grind),by grind,by grind,by grind,by grind⟩
 .exact⟨-l,n,k,-m,.inr (by grind),by grind,by grind,by grind,by grind⟩
def Uni.det(h:Uni a b c d p0 p1 q0 q1):p0*q1 - p1*q0=a*d - b*c\/p0*q1 - p1*q0=-(a*d - b*c):=by
 obtain⟨m,n,k,l,hd,rfl,rfl,rfl,rfl⟩:=h;rcases hd with h|h
 .left;grind
 .right;grind
def Lev(a b c d p0 p1 q0:Int):Prop:=0<=p1/\Uni a b c d p0 p1 q0 0
def FamOf(a b c d w h s:Int):Prop:=0<w/\0<h/\0<=s/\s<w/\Uni a b c d w 0 s h
def Ak(x:Int):(if x<0 then -x else x)=x\/(if x<0 then -x else x)=-x:=by
 split<;>simp
variable{x:Int}
def Al(h:x≠0):0<(if x<0 then -x else x):=by split<;>lia
def gQ(hn:¬ a*d=b*c)(h:Lev a b c d p0 p1 q0):FamOf a b c d (if q0<0 then -q0 else q0) p1 (p0 % (if q0<0 then -q0 else q0)):=by
 obtain⟨hp,hu⟩:=h;have dt:=hu.det;have O5:q0≠0:=by
  rintro rfl;simp at dt;lia
 have P9:p1≠0:=by
  rintro rfl;simp at dt;lia
 have hw:=Al O5;have hs:=Ak q0;generalize (if q0<0 then -q0 else q0)=w at hw hs;refine⟨hw,by lia,Fc _ (by lia),Fd _ hw,?_⟩;have em:=Fo p0 w;generalize p0 % w=s at em;generalize p0 / w=t at em;obtain⟨m,n,k,l,hd,e1,e2,e3,e4⟩:=hu;rcases hs with e|e
 .refine⟨k,l,m - t*k,n - t*l,?_,by grind,by grind,by grind,by grind⟩;rcases hd with h|h
  .right;grind
  .left;grind
 .refine⟨-k,-l,m+t*k,n+t*l,?_,by grind,by grind,by grind,by grind⟩;rcases hd with h|h
  .left;grind
  .right;grind
variable{h y i j:Int}
def in_fam(hh:0<h)(ex:x=i*w+j*s)(ey:y=j*h):y % h=0/\(x - y / h*s) % w=0:=by
 subst ex ey;rw[Fy _ (by lia)];refine⟨GN _ _,?_⟩;have e:i*w+j*s - j*s=i*w:=by lia
 rw[e];exact GN _ _
def FamOf.first(f:FamOf a b c d w h s):b % h=0/\(a - b / h*s) % w=0:=by
 obtain⟨hw,hh,_,_,hu⟩:=f;obtain⟨m,n,k,l,_,e1,e2,e3,e4⟩:=hu.inv;exact in_fam (i:=m) (j:=n) hh e1 (by lia)
def FamOf.second(f:FamOf a b c d w h s):d % h=0/\(c - d / h*s) % w=0:=by
 obtain⟨hw,hh,_,_,hu⟩:=f;obtain⟨m,n,k,l,_,e1,e2,e3,e4⟩:=hu.inv;exact in_fam (i:=k) (j:=l) hh e3 (by lia)
variable{u v:Int}
def rT(eu:u=i*a+j*c)(ev:v=i*b+j*d):(u*d - v*c).fmod (a*d - b*c)=0/\(a*v - b*u).fmod (a*d - b*c)=0:=by
 subst eu ev;refine⟨Hb ⟨i,by grind⟩,Hb ⟨j,by grind⟩⟩
def FamOf.cells(f:FamOf a b c d w h s):w*h=a*d - b*c\/w*h=-(a*d - b*c):=by
 have:=f.2.2.2.2.det;simpa using this
def bv{A B:Nat}(h1:a.natAbs<=A)(h2:d.natAbs<=B):(a*d).natAbs<=A*B:=by
 rw[Ha];exact Hc h1 h2
variable{g:Int}{N:Nat}
def Am{gap:Int}(hg:0<g)(c0:0<=c)(cg:c<=g)(h:gap.natAbs<=N):(c*gap / g).natAbs<=N:=by
 have h1:(c*gap).natAbs<=g.natAbs*N:=by rw[Ha];exact Hc (by omega) h
 have e:((g.natAbs*N:Nat):Int)=N*g:=by rw[Int.natCast_mul,Int.natAbs_of_nonneg (by omega),EW]
 have l1:=HP (a:=-(N:Int)) (b:=c*gap) hg (by rw[FS];omega);have l2:=Int.ediv_le_of_le_mul (a:=c*gap) (b:=(N:Int)) hg (by omega);omega
def cI(hw:0<w)(hh:0<h):w<=w*h/\h<=w*h:=by
 have h1:=Hd (show 1<=h by lia) (show 0<=w by lia);have h2:=Fe (show 1<=w by lia) (show 0<=h by lia);lia
def FamOf.bd(f:FamOf a b c d w h s)(hN:(a*d - b*c).natAbs<=N):w<=N/\h<=N/\s<N:=by
 obtain⟨h1,h2⟩:=cI f.1 f.2.1;have h3:=f.cells;have h4:=f.2.2.2.1;lia
def Meas(x y g u:Int):Prop:=0<=g/\(∃ i,x=i*g)/\(∃ j,y=j*g)/\∃ n,g=u*x+n*y
def rV{q:Int}(h:0<=g/\∃ m n k l:Int,(m*l - n*k=1\/m*l - n*k=-1)/\u=m*1+n*0/\g=m*x+n*y/\q=k*1+l*0/\0=k*x+l*y):Meas x y g u:=by
 obtain⟨h0,m,n,k,l,hd,e1,e2,e3,e4⟩:=h;refine⟨h0,?_,?_,n,by grind⟩
 .rcases hd with h|h
  .exact⟨l,by grind⟩
  .exact⟨-l,by grind⟩
 .rcases hd with h|h
  .exact⟨-k,by grind⟩
  .exact⟨k,by grind⟩
def Meas.pos(h:Meas x y g u)(hx:0<x):0<g:=by
 obtain⟨h0,⟨i,hi⟩,_⟩:=h;rcases(by lia:g=0\/0<g) with e|e
 .subst e;simp at hi;lia
 .exact e
def Meas.le(h:Meas x y g u)(hx:0<x):g<=x:=by
 have hg:=h.pos hx;obtain⟨h0,⟨i,hi⟩,_⟩:=h;have P':0<i:=by
  rcases(by lia:i<=0\/0<i) with e|e
  .have:=Ga e h0;lia
  .exact e
 have:=Fe (show 1<=i by lia) h0;lia
structure MetR(w1 h1 s1 w2 h2 s2 w h s A:Int):Prop where
 w0:0<w
 h0:0<h
 s0:0<=s
 sw:s<w
 in1:∃ i,w=i*w1
 in2:∃ i,w=i*w2
 up1:∃ i j,s=i*w1+j*s1/\h=j*h1
 up2:∃ i j,s=i*w2+j*s2/\h=j*h2
 A0:0<A
 cells:w*h*A=w1*h1*w2*h2
 d11:A∣w1*h1
 d12:A∣w1*h2
 d21:A∣w2*h1
 d22:A∣w2*h2
 ds:A∣s1*h2 - h1*s2
 all:∀ x y:Int,(∃ i j,x=i*w1+j*s1/\y=j*h1)->(∃ i j,x=i*w2+j*s2/\y=j*h2)->∃ i j,x=i*w+j*s/\y=j*h
 comb:∀ G:Int,G∣w1*h1->G∣w1*h2->G∣w2*h1->G∣w2*h2->G∣s1*h2 - h1*s2->G∣A
def dL(h:0<x*y)(hy:0<y):0<x:=by
 rcases(by lia:x<=0\/0<x) with e|e
 .have:=Ga e (show 0<=y by lia);lia
 .exact e
def kr(ha:0<a)(h:a*b=a*c):b=c:=Hf (by lia) h
def r1(k j c:Int):k*(j*c)=j*(c*k):=by grind
def r2(j u c n d:Int):j*(u*c+n*d)=u*(j*c)+n*d*j:=by grind
def r3(u j d n j1:Int):u*(j*d)+n*d*j1=d*(u*j+n*j1):=by grind
def r4(j u c n d:Int):j*(u*c+n*d)=u*c*j+n*(j*d):=by grind
def r5(u c j n j1:Int):u*c*j+n*(j1*c)=c*(u*j+n*j1):=by grind
def r6(g e i1 a i2 b d T s1 c s2:Int)(q:i1*(a*(e*g))+d*T*s1=i2*(b*(e*g))+c*T*s2):g*(e*(i1*a - i2*b))=T*(c*s2 - d*s1):=by grind
def r7(g T f:Int):g*(T*f)=T*(f*g):=by grind
def r8(T v e q f:Int):T*(v*e+q*f)=v*T*e+q*(T*f):=by grind
def r9(v T e q m:Int):v*T*e+q*(e*m)=e*(v*T+q*m):=by grind
def r10(e r f:Int):e*r*f=e*(r*f):=by grind
def r11(i u a n b:Int):i*(u*a+n*b)=u*(i*a)+n*b*i:=by grind
def r12(u r f i2 b n i1:Int):u*(r*f+i2*b)+n*b*i1=u*(r*f)+b*(u*i2+n*i1):=by grind
def r13(u r f b M a e g d s1 t:Int):(u*(r*f)+b*M)*(a*(e*g))+d*(e*r)*s1=(M+r*t)*(a*b*(e*g))+r*(e*(d*s1)+f*u*(a*(e*g)) - a*b*(e*g)*t):=by grind
def r14(d e r c k:Int):d*(e*r)*(c*k)=r*(c*d*k*e):=by grind
variable{f gg u' s1 s2:Int}
def An{e k n n' q t i1 j1 i2 j2:Int}(hk:0<k)(G':0<gg)(he:0<e)
  (s_:u*a+n*b=1) (pc:u'*c+n'*d=1) (gap:c*s2 - d*s1=f*gg) (td:v*e+q*f=1)
  (hs:s=e*(d*s1)+f*u*(a*(e*gg)) - a*b*(e*gg)*t) (x1:x=i1*(a*(e*gg))+j1*s1) (y1:y=j1*(c*k)) (x2:x=i2*(b*(e*gg))+j2*s2) (y2:y=j2*(d*k)):
  ∃ i j,x=i*(a*b*(e*gg))+j*s/\y=j*(c*d*k*e):=by
 have h1:j1*c=j2*d:=kr hk (by rw[r1 k j1 c,r1 k j2 d,<- y1,<- y2]);have Lo:j1=d*(u'*j2+n'*j1):=by
  have p:=r2 j1 u' c n' d;rw[pc,h1,r3] at p;lia
 have NL:j2=c*(u'*j2+n'*j1):=by
  have p:=r4 j2 u' c n' d;rw[pc,<- h1,r5] at p;lia
 generalize u'*j2+n'*j1=T at Lo NL;have q1:i1*(a*(e*gg))+d*T*s1=i2*(b*(e*gg))+c*T*s2:=by rw[<- Lo,<- NL,<- x1,<- x2]
 have h2:e*(i1*a - i2*b)=T*f:=kr G' (by rw[r6 gg e i1 a i2 b d T s1 c s2 q1,r7,gap]);have eT:T=e*(v*T+q*(i1*a - i2*b)):=by
  have p:=r8 T v e q f;rw[td,<- h2,r9] at p;lia
 generalize hr:v*T+q*(i1*a - i2*b)=r at eT;have h3:i1*a - i2*b=r*f:=kr he (by rw[h2,eT,r10]);have h4:i1=u*(r*f)+b*(u*i2+n*i1):=by
  have p:=r11 i1 u a n b;have q3:i1*a=r*f+i2*b:=by lia
  rw[s_,q3,r12] at p;lia
 generalize u*i2+n*i1=M at h4;refine⟨M+r*t,r,?_,?_⟩
 .rw[hs,x1,Lo,eT,<- r13,<- h4]
 .rw[y1,Lo,eT,r14]
def Ao{e k n n' q t:Int}(ha:0<a)(hb:0<b)(hc:0<c)(hd:0<d)(he:0<e)(hk:0<k)(G':0<gg)
  (s_:u*a+n*b=1) (pc:u'*c+n'*d=1) (gap:c*s2 - d*s1=f*gg) (td:v*e+q*f=1)
  (hs:s=e*(d*s1)+f*u*(a*(e*gg)) - a*b*(e*gg)*t) (m1:0<=s) (m2:s<a*b*(e*gg)):
  MetR (a*(e*gg)) (c*k) s1 (b*(e*gg)) (d*k) s2 (a*b*(e*gg)) (c*d*k*e) s (k*gg):=by
 have hg:0<e*gg:=E5 he G';have hW:0<a*b*(e*gg):=E5 (E5 ha hb) hg;have Ms:d*s1=c*s2 - f*gg:=by lia
 have ua:u*a=1 - n*b:=by lia
 refine⟨hW,E5 (E5 (E5 hc hd) hk) he,m1,m2,⟨b,?_⟩,⟨a,?_⟩,⟨f*u - t*b,d*e,?_,?_⟩,⟨-(f*n) - t*a,c*e,?_,?_⟩,E5 hk G',?_,⟨a*e*c,?_⟩,⟨a*e*d,?_⟩,⟨b*e*c,?_⟩,⟨b*e*d,?_⟩,⟨-f,?_⟩,?_,?_⟩
 .grind
 .grind
 .grind
 .grind
 .rw[hs,Ms];have x2:f*u*(a*(e*gg))=f*(u*a)*(e*gg):=by grind
  rw[x2,ua];grind
 .grind
 .grind
 .grind
 .grind
 .grind
 .grind
 .have:s1*(d*k) - c*k*s2=-(k*(c*s2 - d*s1)):=by grind
  rw[this,gap];grind
 .rintro x y ⟨i1,j1,x1,z1⟩ ⟨i2,j2,x2,z2⟩;exact An hk G' he s_ pc gap td hs x1 z1 x2 z2
 .rintro G ⟨y1,z1⟩ ⟨y2,z2⟩ ⟨y3,z3⟩ ⟨y4,z4⟩ ⟨y5,z5⟩;refine⟨v*(u'*u*y1+n'*u*y2+u'*n*y3+n'*n*y4) - q*y5,?_⟩;have k1:k*(e*gg)=G*(u'*u*y1+n'*u*y2+u'*n*y3+n'*n*y4):=by
   have p1:k*(e*gg)=(u'*c+n'*d)*(u*a+n*b)*(k*(e*gg)):=by rw[s_,pc];grind
   have p2:(u'*c+n'*d)*(u*a+n*b)*(k*(e*gg))=u'*u*(a*(e*gg)*(c*k))+n'*u*(a*(e*gg)*(d*k))+u'*n*(b*(e*gg)*(c*k))+n'*n*(b*(e*gg)*(d*k)):=by grind
   rw[p1,p2,z1,z2,z3,z4];grind
  have k2:k*(f*gg)=-(G*y5):=by
   rw[<- z5,<- gap];grind
  have k3:k*gg=(v*e+q*f)*(k*gg):=by rw[td];grind
  have k4:(v*e+q*f)*(k*gg)=v*(k*(e*gg))+q*(k*(f*gg)):=by grind
  rw[k3,k4,k1,k2];grind
variable{w1 h1 w2 h2:Int}
def rW{k v_:Int}(t6:0<w1)(IZ:0<w2)(NM:0<h1)(IY:0<h2)
  (M1:Meas w1 w2 g u) (M2:Meas h1 h2 k u')
  (M3:Meas g (h1*h2 / k / h2*s2 - h1*h2 / k / h1*s1) gg v_):
  MetR w1 h1 s1 w2 h2 s2 (w1*w2 / g) (h1*h2 / k*(g / gg)) ((g / gg*(h1*h2 / k / h1*s1)+g / gg*(h1*h2 / k / h2*s2 - h1*h2 / k / h1*s1) / g*u*w1) % (w1*w2 / g)) (k*gg):=by
 have hg:=M1.pos t6;have hk:=M2.pos NM;have G':=M3.pos hg;obtain⟨_,⟨a,ea⟩,⟨b,eb⟩,n,en⟩:=M1;obtain⟨_,⟨c,ec⟩,⟨d,ed⟩,n',P_⟩:=M2;have ha:0<a:=dL (ea ▸ t6) hg;have hb:0<b:=dL (eb ▸ IZ) hg;have hc:0<c:=dL (ec ▸ NM) hk;have hd:0<d:=dL (ed ▸ IY) hk;have s_:u*a+n*b=1:=by
  have p:(u*a+n*b)*g=1*g:=by
   have:(u*a+n*b)*g=u*(a*g)+n*(b*g):=by grind
   rw[this,<- ea,<- eb];lia
  exact Gb (by lia) p
 have pc:u'*c+n'*d=1:=by
  have p:(u'*c+n'*d)*k=1*k:=by
   have:(u'*c+n'*d)*k=u'*(c*k)+n'*(d*k):=by grind
   rw[this,<- ec,<- ed];lia
  exact Gb (by lia) p
 have eW:w1*w2 / g=a*b*g:=by
  have:w1*w2=(a*b*g)*g:=by rw[ea,eb];grind
  rw[this];exact Fy _ (by lia)
 have eR:h1*h2 / k=c*d*k:=by
  have:h1*h2=(c*d*k)*k:=by rw[ec,ed];grind
  rw[this];exact Fy _ (by lia)
 have O6:h1*h2 / k / h1=d:=by
  rw[eR];have:c*d*k=d*h1:=by rw[ec];grind
  rw[this];exact Fy _ (by lia)
 have O7:h1*h2 / k / h2=c:=by
  rw[eR];have:c*d*k=c*h2:=by rw[ed];grind
  rw[this];exact Fy _ (by lia)
 rw[O6,O7] at M3 ⊢;obtain⟨_,⟨e,ee⟩,⟨f,ef⟩,q,eq⟩:=M3;have he:0<e:=dL (ee ▸ hg) G';have td:v_*e+q*f=1:=by
  have p:(v_*e+q*f)*gg=1*gg:=by
   have:(v_*e+q*f)*gg=v_*(e*gg)+q*(f*gg):=by grind
   rw[this,<- ee,<- ef];lia
  exact Gb (by lia) p
 have eC:g / gg=e:=by rw[ee];exact Fy _ (by lia)
 have eS:e*(c*s2 - d*s1) / g=f:=by
  have:e*(c*s2 - d*s1)=f*g:=by rw[ef,ee];grind
  rw[this];exact Fy _ (by lia)
 rw[eC,eS,eW,eR];have hW:0<a*b*g:=E5 (E5 ha hb) hg;have em:=Fo (e*(d*s1)+f*u*w1) (a*b*g);have m1:=Fc (e*(d*s1)+f*u*w1) (show a*b*g≠0 by lia);have m2:=Fd (e*(d*s1)+f*u*w1) hW;generalize (e*(d*s1)+f*u*w1) % (a*b*g)=s at em m1 m2 ⊢;generalize (e*(d*s1)+f*u*w1) / (a*b*g)=t at em;subst ea eb ec ed;subst ee;exact Ao ha hb hc hd he hk G' s_ pc ef td em m1 m2
def rX(hx:0<x)(hy:0<y)(M:Meas x y g u):0<x*y / g/\x*y / g<=x*y/\x*y / g / x*1<=y/\0<=x*y / g / x/\x*y / g / y<=x/\0<=x*y / g / y:=by
 have hg:=M.pos hx;obtain⟨_,⟨a,ea⟩,⟨b,eb⟩,_⟩:=M;have ha:0<a:=dL (ea ▸ hx) hg;have hb:0<b:=dL (eb ▸ hy) hg;have e1:x*y / g=a*b*g:=by
  have:x*y=(a*b*g)*g:=by rw[ea,eb];grind
  rw[this];exact Fy _ (by lia)
 have e2:a*b*g / x=b:=by
  have:a*b*g=b*x:=by rw[ea];grind
  rw[this];exact Fy _ (by lia)
 have e3:a*b*g / y=a:=by
  have:a*b*g=a*y:=by rw[eb];grind
  rw[this];exact Fy _ (by lia)
 have p1:0<a*b*g:=E5 (E5 ha hb) hg;have q1:=(cI (w:=b) (h:=g) hb hg).1;have q2:=(cI (w:=a) (h:=g) ha hg).1;have q3:x*y=a*b*g*g:=by rw[ea,eb];grind
 have q4:=(cI (w:=a*b*g) (h:=g) p1 hg).1;rw[e1,e2,e3];lia
def cell(ns:List Int)(k:Int):Int:=ns.getD k.toNat 0
variable{ns:List Int}
def rY{k:Int}(h0:0<=k)(h1:k<(ns.length:Int)):atI (ns.map D.int) k=be (.int (cell ns k)):=by
 obtain⟨j,rfl⟩:∃ j:Nat,k=(j:Int):=⟨k.toNat,by lia⟩;have hk:j<ns.length:=by lia
 refine cH ?_;rw[E3,Fi hk];simp[cell,Fw,Fi hk]
def Ap{k:Int}(h1:(ns.length:Int)<=k):cell ns k=0:=by
 have hk:ns.length<=k.toNat:=by lia
 simp[cell,Fw,F8 hk]
def cz(h:0<b):0<=a % b:=Fc a (by lia)
def cA(h:0<b):a % b<b:=Fd a h
def Aq:SpD:=λds R=>∃ (ns:List Int) (k:Int),ds=[.rol (ns.map D.int),.int k]/\0<=k/\R (.int (cell ns k))
def Ar:SpD:=λds R=>∃ i:Int,ds=[.int i]/\R (.bl true)
def As:SpD:=λds R=>∃ w h s x y:Int,ds=[.tup [.int w,.int h,.int s],.int x,.int y]/\0<w/\0<h/\h<1073741824/\0<=s/\s<1073741824/\
 R (.tup [.int ((x - y / h*s) % w),.int (y % h)])
def Au:SpD:=λds R=>∃ a b c d:Int,ds=[.tup [.int a,.int b],.tup [.int c,.int d]]/\b.natAbs<4611686018427387904/\d.natAbs<4611686018427387904/\
 ∀ p0 p1 q0,Lev a b c d p0 p1 q0->R (.tup [.tup [.int p0,.int p1],.tup [.int q0,.int 0]])
def Av:SpD:=λds R=>∃ a b c d:Int,ds=[.tup [.int a,.int b],.tup [.int c,.int d]]/\a.natAbs<4611686018427387904/\b.natAbs<4611686018427387904/\c.natAbs<4611686018427387904/\d.natAbs<4611686018427387904/\
 (a*d=b*c->R .non)/\(¬ a*d=b*c->∀ w h s,FamOf a b c d w h s->R (.tup [.int w,.int h,.int s]))
def Aw:SpD:=λds R=>∃ w h s:Int,ds=[.tup [.int w,.int h,.int s]]/\0<w/\R (.tup [.int w,.int h,.int (-s % w)])
def Ax:SpD:=λds R=>∃ w h s:Int,ds=[.tup [.int w,.int h,.int s]]/\0<w/\0<h/\w<4611686018427387904/\h<4611686018427387904/\0<=s/\s<4611686018427387904/\
 ∀ w' h' s',FamOf 0 w (-h) s w' h' s'->R (.tup [.int w',.int h',.int s'])
def Ay:SpD:=λds R=>∃ x y:Int,ds=[.int x,.int y]/\x.natAbs<4611686018427387904/\y.natAbs<4611686018427387904/\∀ g u,Meas x y g u->R (.tup [.int g,.int u])
def Az:SpD:=λds R=>∃ w1 h1 s1 w2 h2 s2:Int,ds=[.tup [.int w1,.int h1,.int s1],.tup [.int w2,.int h2,.int s2]]/\0<w1/\w1<=33554432/\0<h1/\h1<=33554432/\0<=s1/\s1<w1/\0<w2/\w2<=33554432/\0<h2/\h2<=33554432/\0<=s2/\s2<w2/\
 ∀ w h s A,MetR w1 h1 s1 w2 h2 s2 w h s A->R (.tup [.int w,.int h,.int s])
def Drawn(xs:List Int):Prop:=∀ x∈xs,0<=x/\x<5040
variable{xs:List Int}
def Drawn.at(h:Drawn xs)(k:Int):0<=cell xs k/\cell xs k<5040:=by
 by_cases hk:k.toNat<xs.length
 .have:cell xs k=xs[k.toNat]:=by simp[cell,Fw,Fi hk]
  rw[this];exact h _ (GJ hk)
 .have:cell xs k=0:=by simp[cell,Fw,F8 (Gj hk)]
  lia
def AA{k:Int}(h0:0<=k)(h:k.toNat<xs.length):atI (xs.map D.int) k=be (.int (cell xs k)):=rY h0 (by lia)
def rZ:xs.map D.int++[D.int v]=(xs++[v]).map D.int:=by simp
def se(h:Drawn xs)(h1:0<=v)(h2:v<5040):Drawn (xs++[v]):=by
 intro x hx;rcases Fk.mp hx with q|q
 .exact h x q
 .rw[EL.mp q];exact⟨h1,h2⟩
def AB:SpD:=λds R=>∃ (ns:List Int) (k:Int) (n:Nat),ds=[.rol (ns.map D.int),.int k,.int n]/\0<=k/\n<=100/\∀ xs:List Int,xs.length=n->Drawn xs->R (.lst (xs.map D.int))
abbrev cs(x:IT):List Nat:=x.cps.toList
def bj(x:IT):(cs x).length=x.length:=by simp[Str.length]
def AC:cs ""=[]:=rfl
def aY(x y:IT):cs (x++y)=cs x++cs y:=by
 show((x++y:IT)).cps.toList=_;rw[show(x++y:IT).cps=x.cps++y.cps from rfl,Array.toList_append]
def aF(x y:IT):(x++y).length=x.length+y.length:=by rw[<- bj,aY,EU,bj,bj]
def aJ(c:Nat):Prop:=c=46\/(49<=c/\c<=54)
def ku:∀ (L:List IT),dg (L.map D.str)=be L
 |[]=>rfl
 |x::L=>by simp[dg,ku L]
def fL(x:IT):Prop:=0<x.length/\x.length<=7/\∀ c∈cs x,aJ c
def AD:fL "1.23456":=⟨by decide+kernel,by decide+kernel,by unfold aJ;decide+kernel⟩
def AE:fL "12":=⟨by decide+kernel,by decide+kernel,by unfold aJ;decide+kernel⟩
def AF:fL "1.":=⟨by decide+kernel,by decide+kernel,by unfold aJ;decide+kernel⟩
def AG:fL "...2":=⟨by decide+kernel,by decide+kernel,by unfold aJ;decide+kernel⟩
def EI(k:Int):∃ x,atI [D.str "1.23456",D.str "12",D.str "1.",D.str "...2"] (k % 4)=be (.str x)/\fL x:=by
 rcases(by lia:k % 4=0\/k % 4=1\/k % 4=2\/k % 4=3) with e|e|e|e<;>rw[e]
 .exact⟨_,rfl,AD⟩
 .exact⟨_,rfl,AE⟩
 .exact⟨_,rfl,AF⟩
 .exact⟨_,rfl,AG⟩
structure Rows(L:List Str):Prop where
 many:1<=L.length/\L.length<=8
 wide:∃ w,(1<=w/\w<=8)/\∀ l∈L,l.length=w/\∀ c∈cs l,aJ c
variable{L:List IT}
def Rows.of{w t:Nat}(h1:1<=t)(h2:t<=8)(hl:L.length=t)(w1:1<=w)(w2:w<=8)(h:∀ l∈L,l.length=w/\∀ c∈cs l,aJ c):Rows L:=⟨by lia,w,⟨w1,w2⟩,h⟩
def dM(L:List IT)(a b c d:Int):Str:=("["++Txt.join "/" L)++((((((((";":IT)++(toString a:String))++",")++(toString b:String))++";")++(toString c:String))++",")++(toString d:String))++"]"
def bW(h: -12<=a/\a<=12):((toString a:String):IT).length<=3:=by
 have key:∀ k:Fin 25,((toString (((k.val:Nat):Int) - 12):String):IT).length<=3:=by decide+kernel
 have:=key ⟨(a+12).toNat,by lia⟩;have e:(((a+12).toNat:Nat):Int) - 12=a:=by lia
 rw[e] at this;exact this
def B12(a:Int):Prop:=-12<=a/\a<=12
def B12.lt(h:B12 a):a.natAbs<1073741824:=by unfold B12 at h;lia
def kx{w:Nat}(h:∀ l∈L,l.length=w):(L.map (·.length)).sum=L.length*w:=by
 induction L with
 |nil=>simp
 |cons x L ih=>
  rw[E4,List.sum_cons,ih (λl hl=>h l (EV _ hl)),h x E2,EN,GF,Gi]
def AH(h:Rows L):(L.map (·.length)).sum+L.length*("/":IT).length<=72:=by
 obtain⟨h1,w,hw,h2⟩:=h;rw[kx (λl hl=>(h2 l hl).1)];have e:("/":IT).length=1:=rfl;rw[e];have:=Hc h1.2 hw.2;lia
structure Leaf where
 rows:List IT
 a:Int
 b:Int
 c:Int
 d:Int
 w0:Int
 w1:Int
 w2:Int
 w3:Int
 w4:Int
 w5:Int
 hues:List Int
def Leaf.D(l:Leaf):My.D:= .tup [.lst (l.rows.map D.str),.tup [.int l.a,.int l.b],.tup [.int l.c,.int l.d],.tup [.int l.w0,.int l.w1,.int l.w2,.int l.w3,.int l.w4,.int l.w5],.lst (l.hues.map D.int)]
structure Leaf.Ok(l:Leaf):Prop where
 rows:Rows l.rows
 a:B12 l.a
 b:B12 l.b
 c:B12 l.c
 d:B12 l.d
 ne:¬ l.a*l.d=l.b*l.c
 w0:l.w0.natAbs<=1
 w1:l.w1.natAbs<=1
 w2:l.w2.natAbs<=1
 w3:l.w3.natAbs<=1
 w4:l.w4.natAbs<=1000
 w5:l.w5.natAbs<=1000
 many:l.hues.length=7
 hue:∀ h∈l.hues,0<=h/\h<=6
def onB(a b c d u v:Int):Bool:=decide ((u*d - v*c).fmod (a*d - b*c)=0/\(a*v - b*u).fmod (a*d - b*c)=0)
def scanRow(f:Int->Bool):Nat->List Nat->Option Nat
 |_,[]=>z7
 |i,c::r=>if c≠46/\f i=true then be c else scanRow f (i+1) r
def bX(f:Int->Int->Bool):Nat->List IT->Option Nat
 |_,[]=>z7
 |j,l::r=>match scanRow (λi=>f i j) 0 (cs l) with|some c=>be c|none=>bX f (j+1) r
def Leaf.hit(l:Leaf)(x y:Int):Option Nat:=bX (λi j=>onB l.a l.b l.c l.d (l.w0*x+l.w1*y+l.w4 - i) (l.w2*x+l.w3*y+l.w5 - j)) 0 l.rows
def Leaf.shows(l:Leaf)(x y:Int):Int:=match l.hit x y with|some c=>cell l.hues ((c:Int) - 48)|none=>0
def AI{c:Nat}:(⟨#[c]⟩:IT)="."↔c=46:=by
 constructor
 .intro h;have:(#[c]:Array Nat)=(".":IT).cps:=congrArg Str.cps h;have e:(#[c]:Array Nat).toList=(".":IT).cps.toList:=by rw[this]
  have e2:(".":IT).cps.toList=[46]:=rfl;rw[e2] at e;simpa using e
 .rintro rfl;rfl
def digit_of{c:Nat}(h:49<=c/\c<=54):PySem.intText? (⟨#[c]⟩:IT)=be ((c:Int) - 48):=by
 rcases(by lia:c=49\/c=50\/c=51\/c=52\/c=53\/c=54) with e|e|e|e|e|e<;>subst e<;>decide+kernel
def range_int{n:Int}{k:Nat}{x:D}(h:((EM n.toNat).map λk=>D.int ((k:Nat):Int))[k]?=be x):k<n.toNat/\x= .int (k:Int):=by
 have hk:k<n.toNat:=by simpa using(E6.mp h).1
 refine⟨hk,?_⟩;simp[hk] at h;exact h.symm
def bI{n:Int}:((EM n.toNat).map λk=>D.int ((k:Nat):Int)).length=n.toNat:=by simp
def bc:List Leaf->Int->Int->Int
 |[],_,_=>0
 |l::r,x,y=>if l.shows x y≠0 then l.shows x y else bc r x y
variable{hs:List Int}
def AJ(h:∀ h∈hs,0<=h/\h<=6)(k:Int):0<=cell hs k/\cell hs k<=6:=by
 by_cases hk:k.toNat<hs.length
 .have:cell hs k=hs[k.toNat]:=by simp[cell,Fw,Fi hk]
  rw[this];exact h _ (GJ hk)
 .have:cell hs k=0:=by simp[cell,Fw,F8 (Gj hk)]
  lia
def Leaf.shows_le{l:Leaf}(h:l.Ok)(x y:Int):0<=l.shows x y/\l.shows x y<=6:=by
 unfold Leaf.shows;split
 .exact AJ h.hue _
 .lia
def sf:∀ {ls:List Leaf} (x y:Int),(∀ l∈ls,l.Ok)->0<=bc ls x y/\bc ls x y<=6
 |[],_,_,_=>by simp[bc]
 |l::r,x,y,h=>by
  unfold bc;split
  .exact Leaf.shows_le (h l E2) x y
  .exact sf x y λl' q=>h l' (EV _ q)
def bJ(L:List IT)(a b c d:Int):Leaf:=⟨L,a,b,c,d,1,0,0,1,0,0,[0,1,2,3,4,5,6]⟩
def AK:SpD:=λds R=>∃ v:Int,ds=[.int v]/\∀ c:Int,-1000000000000<=c->c<=1000000000000->R (.int c)
def AL(k:Int):∃ c,atI [D.int (-(10 ^ Gq 12)),D.int (1 - 10 ^ Gq 12),D.int (10 ^ Gq 12 - 1),D.int (10 ^ Gq 12)] (k % 4)=be (.int c)/\-1000000000000<=c/\c<=1000000000000:=by
 rcases(by lia:k % 4=0\/k % 4=1\/k % 4=2\/k % 4=3) with e|e|e|e<;>rw[e]
 .exact⟨_,rfl,by decide,by decide⟩
 .exact⟨_,rfl,by decide,by decide⟩
 .exact⟨_,rfl,by decide,by decide⟩
 .exact⟨_,rfl,by decide,by decide⟩
inductive Pat where
 |mot (L:List Str) (a b c d:Int)
 |over (p q:Pat)
 |sh (a b:Int) (p:Pat)
 |mir (p:Pat)
 |tur (p:Pat)
 |hue (f g:Int) (p:Pat)
def Pat.text:Pat->IT
 | .mot L a b c d=>dM L a b c d
 | .over p q=>(((("(":IT)++p.text)++"|")++q.text)++")"
 | .sh a b p=>((((("s":IT)++(toString a:String))++",")++(toString b:String))++":")++p.text
 | .mir p=>("m":IT)++p.text
 | .tur p=>("t":IT)++p.text
 | .hue f g p=>((("h":IT)++(toString f:String))++(toString g:String))++p.text
def Pat.depth:Pat->Nat
 | .mot ..=>0
 | .over p q=>1+max p.depth q.depth
 | .sh _ _ p=>p.depth+1
 | .mir p=>p.depth+1
 | .tur p=>p.depth+1
 | .hue _ _ p=>p.depth+1
def Leaf.by(l:Leaf)(b0 b1 b2 b3 b4 b5:Int):Leaf:=
 {l with w0:=l.w0*b0+l.w1*b2,w1:=l.w0*b1+l.w1*b3,w2:=l.w2*b0+l.w3*b2,w3:=l.w2*b1+l.w3*b3,w4:=l.w4+l.w0*b4+l.w1*b5,w5:=l.w5+l.w2*b4+l.w3*b5}
def cm(f g h:Int):Int:=if h=f then g else h
def Leaf.dye(l:Leaf)(f g:Int):Leaf:={l with hues:=l.hues.map (cm f g)}
def Pat.leaves:Pat->List Leaf
 | .mot L a b c d=>[bJ L a b c d]
 | .over p q=>p.leaves++q.leaves
 | .sh a b p=>p.leaves.map (λl=>l.by 1 0 0 1 (-a) (-b))
 | .mir p=>p.leaves.map (λl=>l.by (-1) 0 0 1 0 0)
 | .tur p=>p.leaves.map (λl=>l.by 0 1 (-1) 0 0 0)
 | .hue f g p=>p.leaves.map (λl=>(l.by 1 0 0 1 0 0).dye f g)
def Pat.show:Pat->Int->Int->Int
 | .mot L a b c d,x,y=>(bJ L a b c d).shows x y
 | .over p q,x,y=>if p.show x y≠0 then p.show x y else q.show x y
 | .sh a b p,x,y=>p.show (x - a) (y - b)
 | .mir p,x,y=>p.show (-x) y
 | .tur p,x,y=>p.show y (-x)
 | .hue f g p,x,y=>cm f g (p.show x y)
def Pat.Wf:Pat->Prop
 | .mot L a b c d=>Rows L/\B12 a/\B12 b/\B12 c/\B12 d/\¬ a*d=b*c
 | .over p q=>p.Wf/\q.Wf
 | .sh a b p=>B12 a/\B12 b/\p.Wf
 | .mir p=>p.Wf
 | .tur p=>p.Wf
 | .hue f g p=>(1<=f/\f<=6)/\(1<=g/\g<=6)/\p.Wf
def Leaf.by_shows(l:Leaf)(b0 b1 b2 b3 b4 b5 x y:Int):(l.by b0 b1 b2 b3 b4 b5).shows x y=l.shows (b0*x+b1*y+b4) (b2*x+b3*y+b5):=by
 have e1:(l.w0*b0+l.w1*b2)*x+(l.w0*b1+l.w1*b3)*y+(l.w4+l.w0*b4+l.w1*b5)=l.w0*(b0*x+b1*y+b4)+l.w1*(b2*x+b3*y+b5)+l.w4:=by grind
 have e2:(l.w2*b0+l.w3*b2)*x+(l.w2*b1+l.w3*b3)*y+(l.w5+l.w2*b4+l.w3*b5)=l.w2*(b0*x+b1*y+b4)+l.w3*(b2*x+b3*y+b5)+l.w5:=by grind
 simp only[Leaf.shows,Leaf.hit,Leaf.by,e1,e2]
def fM(b0 b1 b2 b3 b4 b5 x y:Int):∀ ls:List Leaf,bc (ls.map (λl=>l.by b0 b1 b2 b3 b4 b5)) x y=bc ls (b0*x+b1*y+b4) (b2*x+b3*y+b5)
 |[]=>rfl
 |l::r=>by
  rw[E4,bc,bc,Leaf.by_shows,fM b0 b1 b2 b3 b4 b5 x y r]
def scanRow_sign{f:Int->Bool}:∀ {cs:List Nat} {i c:Nat},(∀ c∈cs,aJ c)->scanRow f i cs=be c->49<=c/\c<=54
 |[],_,_,_,h=>by cases h
 |a::r,i,c,hs,h=>by
  rw[scanRow] at h;split at h
  .rename_i q;cases h;have:=hs a E2;unfold aJ at this;have:=q.1;lia
  .exact scanRow_sign (λc q=>hs c (EV _ q)) h
def ky{f:Int->Int->Bool}:∀ {L:List IT} {j c:Nat},(∀ l∈L,∀ c∈cs l,aJ c)->bX f j L=be c->49<=c/\c<=54
 |[],_,_,_,h=>by cases h
 |a::r,j,c,hs,h=>by
  rw[bX] at h;split at h
  .rename_i q;cases h;exact scanRow_sign (hs a E2) q
  .exact ky (λl q=>hs l (EV _ q)) h
def AM{k:Int}(h:k.toNat<hs.length):cell (hs.map (cm f g)) k=cm f g (cell hs k):=by
 simp[cell,Fw,E3,Fi h]
def Leaf.dye_shows{l:Leaf}(ok:l.Ok)(hf:1<=f)(x y:Int):(l.dye f g).shows x y=cm f g (l.shows x y):=by
 have e:(l.dye f g).hit x y=l.hit x y:=rfl;unfold Leaf.shows;rw[e];cases h:l.hit x y with
 |none=>simp[cm];lia
 |some c=>
  have hc:49<=c/\c<=54:=ky (λl' q=>let ⟨_,_,_,h⟩:=ok.rows;(h l' q).2) h;exact AM (by rw[ok.many];lia)
def si(hf:1<=f)(hg:1<=g):cm f g h=0↔h=0:=by
 unfold cm;split<;>lia
def sj{f g:Int}(hf:1<=f)(hg:1<=g)(x y:Int):∀ ls:List Leaf,(∀ l∈ls,l.Ok)->bc (ls.map (λl=>l.dye f g)) x y=cm f g (bc ls x y)
 |[],_=>by simp[bc,cm];lia
 |l::r,h=>by
  rw[E4,bc,bc,Leaf.dye_shows (h l E2) hf,sj hf hg x y r λl q=>h l (EV _ q)];by_cases z:l.shows x y=0
  .rw[if_neg (λq=>q ((si hf hg).mpr z)),if_neg (λq=>q z)]
  .rw[if_pos (λq=>z ((si hf hg).mp q)),if_pos z]
def so(x y:Int):∀ (a b:List Leaf),bc (a++b) x y=if bc a x y≠0 then bc a x y else bc b x y
 |[],b=>by simp[bc]
 |l::r,b=>by
  rw[Fz,bc,bc];by_cases z:l.shows x y≠0
  .rw[if_pos z,if_pos z,if_pos z]
  .rw[if_neg z,if_neg z,so x y r b]
structure Leaf.Near(l:Leaf)(n:Nat):Prop where
 u0:(l.w0.natAbs=1/\l.w1=0/\l.w2=0/\l.w3.natAbs=1)\/(l.w0=0/\l.w1.natAbs=1/\l.w2.natAbs=1/\l.w3=0)
 w4:l.w4.natAbs<=24*n
 w5:l.w5.natAbs<=24*n
variable{n:Nat}
def Leaf.Near.mono{l:Leaf}{m:Nat}(h:l.Near n)(k:n<=m):l.Near m:=⟨h.u0,by have:=h.w4;lia,by have:=h.w5;lia⟩
def Leaf.Near.unit{l:Leaf}(h:l.Near n):(l.w0=1\/l.w0=-1\/l.w0=0)/\(l.w1=1\/l.w1=-1\/l.w1=0)/\(l.w2=1\/l.w2=-1\/l.w2=0)/\(l.w3=1\/l.w3=-1\/l.w3=0):=by
 have:=h.u0;lia
def sq{e:Int}(h:e.natAbs<=24*n)(hw:w=1\/w=-1\/w=0)(hv:v=1\/v=-1\/v=0)(ha:B12 a)(hb:B12 b):(e+w* -a+v* -b).natAbs<=24*(n+1):=by
 have m:∀ {w a:Int},(w=1\/w=-1\/w=0)->B12 a->(w* -a).natAbs<=12:=λhw ha=>by
  unfold B12 at ha;rcases hw with rfl|rfl|rfl<;>lia
 have:=m hw ha;have:=m hv hb;generalize w* -a=x at*;generalize v* -b=y at*;clear m hw hv ha hb;lia
def AN{l:Leaf}(h:l.Near n)(ha:B12 a)(hb:B12 b):(l.by 1 0 0 1 (-a) (-b)).Near (n+1):=by
 obtain⟨h0,h1,h2,h3⟩:=h.unit;exact⟨by simpa[Leaf.by] using h.u0,sq h.w4 h0 h1 ha hb,sq h.w5 h2 h3 ha hb⟩
def AO{l:Leaf}(h:l.Near n):(l.by (-1) 0 0 1 0 0).Near (n+1):=by
 have p:=h.w4;have q:=h.w5;exact⟨by simpa[Leaf.by] using h.u0,by simp[Leaf.by];lia,by simp[Leaf.by];lia⟩
def AQ{l:Leaf}(h:l.Near n):(l.by 0 1 (-1) 0 0 0).Near (n+1):=by
 have p:=h.w4;have q:=h.w5;refine⟨?_,by simp[Leaf.by];lia,by simp[Leaf.by];lia⟩;rcases h.u0 with⟨a,b,c,d⟩|⟨a,b,c,d⟩
 .exact .inr (by simp[Leaf.by,a,b,c,d])
 .exact .inl (by simp[Leaf.by,a,b,c,d])
def sr{l:Leaf}(h:l.Near n):((l.by 1 0 0 1 0 0).dye f g).Near (n+1):=by
 have p:=h.w4;have q:=h.w5;exact⟨by simpa[Leaf.by,Leaf.dye] using h.u0,by simp[Leaf.by,Leaf.dye];lia,by simp[Leaf.by,Leaf.dye];lia⟩
structure Leaf.Good(l:Leaf):Prop where
 rows:Rows l.rows
 a:B12 l.a
 b:B12 l.b
 c:B12 l.c
 d:B12 l.d
 ne:¬ l.a*l.d=l.b*l.c
 many:l.hues.length=7
 hue:∀ h∈l.hues,0<=h/\h<=6
def Leaf.ok_of{l:Leaf}(g:l.Good)(h:l.Near n)(hn:n<=40):l.Ok:=by
 have:=h.u0;have:=h.w4;have:=h.w5;exact⟨g.rows,g.a,g.b,g.c,g.d,g.ne,by lia,by lia,by lia,by lia,by lia,by lia,g.many,g.hue⟩
def Pat.leaf_good:∀ {p:Pat},p.Wf->∀ l∈p.leaves,l.Good/\l.Near p.depth
 | .mot L a b c d,h,l,q=>by
  have:l=bJ L a b c d:=by simpa[Pat.leaves] using q
  subst this;obtain⟨h1,h2,h3,h4,h5,h6⟩:=h;exact⟨⟨h1,h2,h3,h4,h5,h6,rfl,by intro h q;simp[bJ] at q;lia⟩,⟨by simp[bJ],by simp[bJ],by simp[bJ]⟩⟩
 | .over p r,h,l,q=>by
  rcases Fk.mp q with q|q
  .obtain⟨g,n⟩:=Pat.leaf_good h.1 l q;exact⟨g,n.mono (by simp only[Pat.depth];lia)⟩
  .obtain⟨g,n⟩:=Pat.leaf_good h.2 l q;exact⟨g,n.mono (by simp only[Pat.depth];lia)⟩
 | .sh a b p,h,l,q=>by
  obtain⟨l',q',rfl⟩:=Fg.mp q;obtain⟨g,n⟩:=Pat.leaf_good h.2.2 l' q';exact⟨⟨g.rows,g.a,g.b,g.c,g.d,g.ne,g.many,g.hue⟩,AN n h.1 h.2.1⟩
 | .mir p,h,l,q=>by
  obtain⟨l',q',rfl⟩:=Fg.mp q;obtain⟨g,n⟩:=Pat.leaf_good (p:=p) h l' q';exact⟨⟨g.rows,g.a,g.b,g.c,g.d,g.ne,g.many,g.hue⟩,AO n⟩
 | .tur p,h,l,q=>by
  obtain⟨l',q',rfl⟩:=Fg.mp q;obtain⟨g,n⟩:=Pat.leaf_good (p:=p) h l' q';exact⟨⟨g.rows,g.a,g.b,g.c,g.d,g.ne,g.many,g.hue⟩,AQ n⟩
 | .hue f k p,h,l,q=>by
  obtain⟨l',q',rfl⟩:=Fg.mp q;obtain⟨g,n⟩:=Pat.leaf_good (p:=p) h.2.2 l' q';refine⟨⟨g.rows,g.a,g.b,g.c,g.d,g.ne,?_,λv hv=>?_⟩,sr n⟩
  .show(l'.hues.map _).length=7;rw[EY];exact g.many
  .obtain⟨u,hu,rfl⟩:=Fg.mp hv;have:=g.hue u hu;have:=h.2.1;unfold cm;split<;>lia
variable{p:Pat}
def Pat.leaf_ok(h:p.Wf)(hd:p.depth<=40):∀ l∈p.leaves,l.Ok:=λl q=>Leaf.ok_of (Pat.leaf_good h l q).1 (Pat.leaf_good h l q).2 hd
def Pat.show_leaves:∀ {p:Pat},p.Wf->p.depth<=40->∀ x y,bc p.leaves x y=p.show x y
 | .mot L a b c d,_,_,x,y=>by
  simp only[Pat.leaves,Pat.show,bc];split
  .rfl
  .lia
 | .over p q,h,hd,x,y=>by
  simp only[Pat.depth] at hd;rw[Pat.leaves,so,Pat.show_leaves h.1 (by lia),Pat.show_leaves h.2 (by lia),Pat.show]
 | .sh a b p,h,hd,x,y=>by
  simp only[Pat.depth] at hd;rw[Pat.leaves,fM,Pat.show_leaves h.2.2 (by lia),Pat.show];congr 1<;>lia
 | .mir p,h,hd,x,y=>by
  simp only[Pat.depth] at hd;rw[Pat.leaves,fM,Pat.show_leaves (p:=p) h (by lia),Pat.show];congr 1<;>lia
 | .tur p,h,hd,x,y=>by
  simp only[Pat.depth] at hd;rw[Pat.leaves,fM,Pat.show_leaves (p:=p) h (by lia),Pat.show];congr 1<;>lia
 | .hue f g p,h,hd,x,y=>by
  simp only[Pat.depth] at hd;have e:p.leaves.map (λl=>(l.by 1 0 0 1 0 0).dye f g)=(p.leaves.map (λl=>l.by 1 0 0 1 0 0)).map (λl=>l.dye f g):=by rw[FT];rfl
  rw[Pat.leaves,e,sj h.1.1 h.2.1.1,fM,Pat.show_leaves h.2.2 (by lia),Pat.show]
  .congr 2<;>lia
  .intro l q;obtain⟨l',q',rfl⟩:=Fg.mp q;obtain⟨g',n⟩:=Pat.leaf_good h.2.2 l' q';have n':=sr (f:=f) (g:=g) n;have:(l'.by 1 0 0 1 0 0).Near (p.depth+1):=⟨n'.u0,n'.w4,n'.w5⟩;exact Leaf.ok_of ⟨g'.rows,g'.a,g'.b,g'.c,g'.d,g'.ne,g'.many,g'.hue⟩ this (by lia)
def Pat.D(p:Pat):My.D:= .lst [.str p.text,.int p.depth,.lst (p.leaves.map Leaf.D)]
def Leaf.T(dy:Bool)(m9 new b0 b1 b2 b3 b4 b5:Int)(l:Leaf):Leaf:=if dy then(l.by b0 b1 b2 b3 b4 b5).dye m9 new else l.by b0 b1 b2 b3 b4 b5
def gR(h:1<=a/\a<=6):((toString a:String):IT).length<=3:=bW (by lia)
def Wraps(p:Pat)(H:Prop)(R:My.D->Prop):Prop:=(5<=p.depth->R p.D)/\(p.depth<5->R (Pat.mir p).D/\R (Pat.tur p).D/\(∀ a b,B12 a->B12 b->R (Pat.sh a b p).D)/\(H->∀ f g:Int,(1<=f/\f<=6)->(1<=g/\g<=6)->R (Pat.hue f g p).D))
def su(hn:¬ a*d=b*c)(h:(u*d - v*c).fmod (a*d - b*c)=0/\(a*v - b*u).fmod (a*d - b*c)=0):∃ i j,u=i*a+j*c/\v=i*b+j*d:=by
 have hz:a*d - b*c≠0:=by omega
 obtain⟨i,ei⟩:(a*d - b*c)∣(u*d - v*c):=⟨_,(HX h.1).symm⟩;obtain⟨j,ej⟩:(a*d - b*c)∣(a*v - b*u):=⟨_,(HX h.2).symm⟩;refine⟨i,j,?_,?_⟩
 .have:(a*d - b*c)*u=(a*d - b*c)*(i*a+j*c):=by
   have q1:(a*d - b*c)*u=a*(u*d - v*c)+c*(a*v - b*u):=by grind
   rw[q1,ei,ej];grind
  exact Hf hz this
 .have:(a*d - b*c)*v=(a*d - b*c)*(i*b+j*d):=by
   have q1:(a*d - b*c)*v=b*(u*d - v*c)+d*(a*v - b*u):=by grind
   rw[q1,ei,ej];grind
  exact Hf hz this
def Uni.trans{x0 x1 y0 y1:Int}(h:Uni a b c d p0 p1 q0 q1)(k:Uni p0 p1 q0 q1 x0 x1 y0 y1):Uni a b c d x0 x1 y0 y1:=by
 obtain⟨m,n,k1,l,hd,rfl,rfl,rfl,rfl⟩:=h;obtain⟨m',n',k',l',g8,rfl,rfl,rfl,rfl⟩:=k;have dt:(m'*m+n'*k1)*(k'*n+l'*l) - (m'*n+n'*l)*(k'*m+l'*k1)=(m'*l' - n'*k')*(m*l - n*k1):=by grind
 refine⟨m'*m+n'*k1,m'*n+n'*l,k'*m+l'*k1,k'*n+l'*l,?_,by grind,by grind,by grind,by grind⟩;rw[dt];rcases hd with e|e<;>rcases g8 with e'|e'<;>rw[e,e']<;>decide
def fN:∀ (n:Nat) (a b c d:Int),d.natAbs<=n->∃ p0 p1 q0,Lev a b c d p0 p1 q0
 |n,a,b,c,d,hn=>by
  by_cases hd:d=0
  .subst hd;by_cases hb:0<=b
   .exact⟨a,b,c,hb,Uni.refl a b c 0⟩
   .exact⟨-a,-b,c,by lia,(Uni.refl a b c 0).neg⟩
  .match n,hn with
   |0,hn=>exact absurd (by lia:d=0) hd
   |n+1,hn=>
    have lt:=(fdm b d hd).1;obtain⟨p0,p1,q0,h0,hu⟩:=fN n c d (a - b.fdiv d*c) (b - b.fdiv d*d) (by lia);exact⟨p0,p1,q0,h0,((Uni.refl a b c d).step (b.fdiv d)).trans hu⟩
def EJ(hn:¬ a*d=b*c)(g0:0<=g)(g1:g∣b)(g2:g∣d)(g3:∀ e,e∣b->e∣d->e∣g):
  ∃ w s,FamOf a b c d w g s:=by
 obtain⟨p0,p1,q0,hL⟩:=fN d.natAbs a b c d (EK _);have hF:=gQ hn hL;have hp:=hF.2.1;obtain⟨m,n,k,l,_,e1,e2,e3,e4⟩:=hL.2;obtain⟨m',n',k',l',_,f1,f2,f3,f4⟩:=hL.2.inv;have d1:p1∣g:=g3 p1 ⟨m',by rw[f2];grind⟩ ⟨k',by rw[f4];grind⟩;have d2:g∣p1:=by
  rw[e2];exact Int.dvd_add (HY g1) (HY g2)
 have:p1=g:=Int.dvd_antisymm (by lia) g0 d1 d2;subst this;exact⟨_,_,hF⟩
def FamOf.uniq_lean(f:FamOf a b c d w h s)(e1:x=i*a+j*c)(e2:h=i*b+j*d)(h0:0<=x)(h1:x<=s):x=s:=by
 obtain⟨hw,hh,hs,v3,hu⟩:=f;obtain⟨m,n,k,l,_,f1,f2,f3,f4⟩:=hu.inv;have ex:x=(i*m+j*k)*w+(i*n+j*l)*s:=by rw[e1,f1,f3];grind
 have eh:h=(i*n+j*l)*h:=by
  have:i*b+j*d=(i*n+j*l)*h:=by rw[f2,f4];grind
  rw[<- this];exact e2
 have one:i*n+j*l=1:=by
  have:(i*n+j*l)*h=1*h:=by lia
  exact Gb (by lia) this
 rw[one] at ex;generalize i*m+j*k=t at ex;have:t*w=x - s:=by lia
 rcases(by lia:t<=-1\/t=0\/1<=t) with z|z|z
 .have:=Fe z (show 0<=w by lia);lia
 .subst z;lia
 .have:=Fe z (show 0<=w by lia);lia
def Leaf.o0(l:Leaf):Int:=l.w0*l.a+l.w2*l.b
def Leaf.o1(l:Leaf):Int:=l.w1*l.a+l.w3*l.b
def Leaf.t0(l:Leaf):Int:=l.w0*l.c+l.w2*l.d
def Leaf.t1(l:Leaf):Int:=l.w1*l.c+l.w3*l.d
def kz(x y:Int):∃ g u,Meas x y g u:=by
 obtain⟨p0,p1,q0,hL⟩:=fN y.natAbs 1 x 0 y (EK _);exact⟨p1,p0,rV ⟨hL.1,hL.2⟩⟩
structure Fm(w h s:Int):Prop where
 w0:0<w
 w1:w<=720
 h0:0<h
 h1:h<=720
 s0:0<=s
 sw:s<w
variable{A:Int}
def MetR.high(M:MetR w1 h1 s1 w2 h2 s2 w h s A)(hh:0<h1)(hj:1<=j)(e1:∃ i,x=i*w1+j*s1)(e2:∃ i k,x=i*w2+k*s2/\j*h1=k*h2):h<=j*h1/\(j*h1=h->0<=x->x<w->x=s):=by
 obtain⟨i,e1⟩:=e1;obtain⟨i',k,e3,e4⟩:=e2;obtain⟨a,b,e5,e6⟩:=M.all x (j*h1) ⟨i,j,e1,rfl⟩ ⟨i',k,e3,e4⟩;have hp:0<j*h1:=E5 (by lia) hh;have hb:1<=b:=by
  rcases(by lia:b<=0\/1<=b) with z|z
  .have:=Ga z (show 0<=h by have:=M.h0;lia);lia
  .exact z
 refine⟨?_,λe x0 x1=>?_⟩
 .have:=Fe hb (show 0<=h by have:=M.h0;lia);lia
 .have ob:b=1:=by
   have:b*h=1*h:=by lia
   exact Gb (by have:=M.h0;lia) this
  rw[ob] at e5;have s0:=M.s0;have sw:=M.sw;have:a*w=x - s:=by lia
  rcases(by lia:a<=-1\/a=0\/1<=a) with z|z|z
  .have:=Fe z (show 0<=w by lia);lia
  .subst z;lia
  .have:=Fe z (show 0<=w by lia);lia
def InF(w h s x y:Int):Prop:=∃ i j,x=i*w+j*s/\y=j*h
def Leaf.Lat(l:Leaf)(x y:Int):Prop:=∃ i j,x=i*l.o0+j*l.t0/\y=i*l.o1+j*l.t1
def FamOf.lat(f:FamOf a b c d w h s)(x y:Int):InF w h s x y↔∃ i j,x=i*a+j*c/\y=i*b+j*d:=by
 obtain⟨_,_,_,_,hu⟩:=f;obtain⟨m,n,k,l,_,e1,e2,e3,e4⟩:=id hu;obtain⟨m',n',k',l',_,f1,f2,f3,f4⟩:=hu.inv;constructor
 .rintro⟨i,j,rfl,rfl⟩;refine⟨i*m+j*k,i*n+j*l,by rw[e1,e3];grind,?_⟩;have z:i*0+j*h=(i*m+j*k)*b+(i*n+j*l)*d:=by rw[e2,e4];grind
  lia
 .rintro⟨i,j,rfl,rfl⟩;refine⟨i*m'+j*k',i*n'+j*l',by rw[f1,f3];grind,by rw[f2,f4];grind⟩
def MetR.lat(M:MetR w1 h1 s1 w2 h2 s2 w h s A)(x y:Int):InF w h s x y↔InF w1 h1 s1 x y/\InF w2 h2 s2 x y:=by
 constructor
 .rintro⟨i,j,rfl,rfl⟩;obtain⟨a1,e1⟩:=M.in1;obtain⟨a2,e2⟩:=M.in2;obtain⟨b1,c1,e3,e4⟩:=M.up1;obtain⟨b2,c2,e5,e6⟩:=M.up2;refine⟨⟨i*a1+j*b1,j*c1,?_,?_⟩,⟨i*a2+j*b2,j*c2,?_,?_⟩⟩
  .rw[e1,e3];grind
  .rw[e4];grind
  .rw[e2,e5];grind
  .rw[e6];grind
 .rintro⟨h1,h2⟩;exact M.all x y h1 h2
variable{w' h' s':Int}
def InF.le(hw:0<w)(hh:0<h)(Mt:0<w')(Mu:0<h')(sub:∀ x y,InF w' h' s' x y->InF w h s x y):w*h<=w'*h'/\w<=w'/\h<=h':=by
 obtain⟨i,j,e1,e2⟩:=sub w' 0 ⟨1,0,by lia,by lia⟩;have j0:j=0:=by
  rcases Hg.mp e2.symm with z|z
  .exact z
  .lia
 subst j0;have i1:1<=i:=by
  rcases(by lia:i<=0\/1<=i) with z|z
  .have:=Ga z (show 0<=w by lia);lia
  .exact z
 obtain⟨i',j',e3,e4⟩:=sub s' h' ⟨0,1,by lia,by lia⟩;have j1:1<=j':=by
  rcases(by lia:j'<=0\/1<=j') with z|z
  .have:=Ga z (show 0<=h by lia);lia
  .exact z
 have a1:=Fe i1 (show 0<=w by lia);have a2:=Fe j1 (show 0<=h by lia);have b1:w<=w':=by lia
 have b2:h<=h':=by lia
 exact⟨HZ b1 b2 (by lia) (by lia),b1,b2⟩
def InF.uniq(hw:0<w)(hh:0<h)(hs:0<=s)(v3:s<w)(Mt:0<w')(Mu:0<h')(JU:0<=s')(O8:s'<w')(e:∀ x y,InF w h s x y↔InF w' h' s' x y):w=w'/\h=h'/\s=s':=by
 obtain⟨_,a1,a2⟩:=InF.le hw hh Mt Mu (λx y q=>(e x y).mpr q);obtain⟨_,b1,b2⟩:=InF.le Mt Mu hw hh (λx y q=>(e x y).mp q);have ew:w=w':=by lia
 have eh:h=h':=by lia
 subst ew eh;refine⟨rfl,rfl,?_⟩;obtain⟨i,j,e1,e2⟩:=(e s h).mp ⟨0,1,by lia,by lia⟩;have j1:j=1:=by
  have:j*h=1*h:=by lia
  exact Gb (by lia) this
 subst j1;have:i*w=s - s':=by lia
 rcases(by lia:i<=-1\/i=0\/1<=i) with z|z|z
 .have:=Fe z (show 0<=w by lia);lia
 .subst z;lia
 .have:=Fe z (show 0<=w by lia);lia
structure Fam0(w h s:Int):Prop where
 w0:0<w
 h0:0<h
 s0:0<=s
 sw:s<w
def AR(f:Fam0 w1 h1 s1)(k:Fam0 w2 h2 s2):∃ w h s,Fam0 w h s/\∀ x y,InF w h s x y↔InF w1 h1 s1 x y/\InF w2 h2 s2 x y:=by
 obtain⟨g,u,M1⟩:=kz w1 w2;obtain⟨k',u',M2⟩:=kz h1 h2;obtain⟨gg,v_,M3⟩:=kz g (h1*h2 / k' / h2*s2 - h1*h2 / k' / h1*s1);have M:=rW f.w0 k.w0 f.h0 k.h0 M1 M2 M3;exact⟨_,_,_,⟨M.w0,M.h0,M.s0,M.sw⟩,M.lat⟩
def Pat.Lat:Pat->Int->Int->Prop
 | .mot _ a b c d,x,y=>∃ i j,x=i*a+j*c/\y=i*b+j*d
 | .over p q,x,y=>p.Lat x y/\q.Lat x y
 | .sh _ _ p,x,y=>p.Lat x y
 | .mir p,x,y=>p.Lat (-x) y
 | .tur p,x,y=>p.Lat y (-x)
 | .hue _ _ p,x,y=>p.Lat x y
structure Pat.Fam(p:Pat)(w h s:Int):Prop where
 f:Fam0 w h s
 lat:∀ x y,InF w h s x y↔p.Lat x y
def Pat.Fam.uniq(a:p.Fam w h s)(b:p.Fam w' h' s'):w=w'/\h=h'/\s=s':=
 InF.uniq a.f.w0 a.f.h0 a.f.s0 a.f.sw b.f.w0 b.f.h0 b.f.s0 b.f.sw λx y=>(a.lat x y).trans (b.lat x y).symm
def Pat.Fam.mot(k:FamOf a b c d w h s):(Pat.mot L a b c d).Fam w h s:=⟨⟨k.1,k.2.1,k.2.2.1,k.2.2.2.1⟩,k.lat⟩
def Pat.Fam.sh(a b:Int)(k:p.Fam w h s):(Pat.sh a b p).Fam w h s:=⟨k.f,k.lat⟩
def Pat.Fam.hue(a b:Int)(k:p.Fam w h s):(Pat.hue a b p).Fam w h s:=⟨k.f,k.lat⟩
def Pat.Fam.mir(k:p.Fam w h s):(Pat.mir p).Fam w h (-s % w):=by
 refine⟨⟨k.f.w0,k.f.h0,cz k.f.w0,cA k.f.w0⟩,λx y=>?_⟩;show _↔p.Lat (-x) y;rw[<- k.lat];have e:=Fo (-s) w;generalize -s % w=r at e;generalize -s / w=t at e;constructor
 .rintro⟨i,j,rfl,rfl⟩;exact⟨j*t - i,j,by rw[e];grind,rfl⟩
 .rintro⟨i,j,ex,rfl⟩;exact⟨j*t - i,j,by rw[e];grind,rfl⟩
def Pat.Fam.tur(k:p.Fam w h s)(f:FamOf 0 w (-h) s w' h' s'):(Pat.tur p).Fam w' h' s':=by
 refine⟨⟨f.1,f.2.1,f.2.2.1,f.2.2.2.1⟩,λx y=>?_⟩;show _↔p.Lat y (-x);rw[<- k.lat,f.lat];constructor
 .rintro⟨i,j,rfl,rfl⟩;exact⟨i,j,by grind,by grind⟩
 .rintro⟨i,j,ex,ey⟩;exact⟨i,j,by grind,by grind⟩
variable{q:Pat}
def Pat.Fam.over(k1:p.Fam w1 h1 s1)(k2:q.Fam w2 h2 s2)(M:MetR w1 h1 s1 w2 h2 s2 w h s A):(Pat.over p q).Fam w h s:=by
 refine⟨⟨M.w0,M.h0,M.s0,M.sw⟩,λx y=>?_⟩;rw[M.lat,k1.lat,k2.lat];exact Iff.rfl
def fO(hw:0<w)(hh:0<h):∃ w' h' s',FamOf 0 w (-h) s w' h' s'/\w'*h'=w*h:=by
 have hp:0<w*h:=E5 hw hh;have hn:¬ 0*s=w* -h:=by rw[FJ];lia
 obtain⟨p0,p1,q0,hL⟩:=fN s.natAbs 0 w (-h) s (EK _);have f:=gQ hn hL;refine⟨_,_,_,f,?_⟩;have Md:=E5 f.1 f.2.1;have c:=f.cells;rw[FJ] at c;lia
def sy(hn:¬ a*d=b*c):∃ w h s,FamOf a b c d w h s/\(Pat.mot L a b c d).Fam w h s:=by
 obtain⟨p0,p1,q0,hL⟩:=fN d.natAbs a b c d (EK _);have f:=gQ hn hL;exact⟨_,_,_,f,.mot f⟩
def Pat.fam_ex:∀ {p:Pat},p.Wf->∃ w h s,p.Fam w h s
 | .mot L a b c d,h=>by
  obtain⟨w,k,s,_,f⟩:=sy (L:=L) h.2.2.2.2.2;exact⟨w,k,s,f⟩
 | .over p q,h=>by
  obtain⟨w1,h1,s1,f1⟩:=Pat.fam_ex h.1;obtain⟨w2,h2,s2,f2⟩:=Pat.fam_ex h.2;obtain⟨w,k,s,f,e⟩:=AR f1.f f2.f;refine⟨w,k,s,f,λx y=>?_⟩;rw[e,f1.lat,f2.lat];exact Iff.rfl
 | .sh a b p,h=>by
  obtain⟨w,k,s,f⟩:=Pat.fam_ex h.2.2;exact⟨w,k,s,f.sh a b⟩
 | .mir p,h=>by
  obtain⟨w,k,s,f⟩:=Pat.fam_ex (p:=p) h;exact⟨w,k,_,f.mir⟩
 | .tur p,h=>by
  obtain⟨w,k,s,f⟩:=Pat.fam_ex (p:=p) h;obtain⟨w',k',s',f',_⟩:=fO (s:=s) f.f.w0 f.f.h0;exact⟨w',k',s',f.tur f'⟩
 | .hue a b p,h=>by
  obtain⟨w,k,s,f⟩:=Pat.fam_ex h.2.2;exact⟨w,k,s,f.hue a b⟩
def Pat.Fits(p:Pat):Prop:=∃ w h s,p.Fam w h s/\w*h<=720
def Pat.fits_mot(ha:B12 a)(hb:B12 b)(hc:B12 c)(hd:B12 d)(hn:¬ a*d=b*c):(Pat.mot L a b c d).Fits:=by
 obtain⟨w,h,s,k,f⟩:=sy (L:=L) hn;refine⟨w,h,s,f,?_⟩;have kc:=k.cells;unfold B12 at*;have m1:=bv (a:=a) (d:=d) (A:=12) (B:=12) (by lia) (by lia);have m2:=bv (a:=b) (d:=c) (A:=12) (B:=12) (by lia) (by lia);lia
def Pat.Fits.sh(a b:Int)(k:p.Fits):(Pat.sh a b p).Fits:=by
 obtain⟨w,h,s,f,q⟩:=k;exact⟨w,h,s,f.sh a b,q⟩
def Pat.Fits.hue(a b:Int)(k:p.Fits):(Pat.hue a b p).Fits:=by
 obtain⟨w,h,s,f,q⟩:=k;exact⟨w,h,s,f.hue a b,q⟩
def Pat.Fits.mir(k:p.Fits):(Pat.mir p).Fits:=by
 obtain⟨w,h,s,f,q⟩:=k;exact⟨w,h,_,f.mir,q⟩
def Pat.Fits.tur(k:p.Fits):(Pat.tur p).Fits:=by
 obtain⟨w,h,s,f,q⟩:=k;obtain⟨w',k',s',f',e⟩:=fO (s:=s) f.f.w0 f.f.h0;exact⟨w',k',s',f.tur f',by lia⟩
def sA(hL:Rows L)(ha:B12 a)(hb:B12 b)(hc:B12 c)(hd:B12 d):(dM L a b c d).length<=100:=by
 have la:=bW ha;have lb:=bW hb;have lc:=bW hc;have ld:=bW hd;have l1:(";":IT).length=1:=rfl;have l2:(",":IT).length=1:=rfl;have l3:("[":IT).length=1:=rfl;have l4:("]":IT).length=1:=rfl;have ls:=AH hL;have lj:=StrLaws.join_length_le "/" L;have lg:(Txt.join "/" L).length<=72:=by
  have e:Txt.join "/" L=Str.join "/" L:=StrLaws.glued_eq_join _ _;rw[e];exact E1 lj ls
 unfold dM
 repeat rw[aF]
 lia
def Pat.text_len:∀ {p:Pat},p.Wf->p.text.length+10<=110*2 ^ p.depth
 | .mot L a b c d,h=>by
  have:=sA h.1 h.2.1 h.2.2.1 h.2.2.2.1 h.2.2.2.2.1;show(dM L a b c d).length+10<=110*2 ^ 0;lia
 | .over p q,h=>by
  have h1:=Pat.text_len h.1;have h2:=Pat.text_len h.2;have m1:2 ^ p.depth<=2 ^ (max p.depth q.depth):=Gc (by decide) (H8 _ _);have m2:2 ^ q.depth<=2 ^ (max p.depth q.depth):=Gc (by decide) (H9 _ _);have l1:("(":IT).length=1:=rfl;have l2:("|":IT).length=1:=rfl;have l3:(")":IT).length=1:=rfl;rw[Pat.text,Pat.depth,Ia]
  repeat rw[aF]
  lia
 | .sh a b p,h=>by
  have h1:=Pat.text_len h.2.2;have la:=bW h.1;have lb:=bW h.2.1;have l1:("s":IT).length=1:=rfl;have l2:(",":IT).length=1:=rfl;have l3:(":":IT).length=1:=rfl;have:0<2 ^ p.depth:=FK (by decide);rw[Pat.text,Pat.depth,FL]
  repeat rw[aF]
  lia
 | .mir p,h=>by
  have h1:=Pat.text_len (p:=p) h;have l1:("m":IT).length=1:=rfl;have:0<2 ^ p.depth:=FK (by decide);rw[Pat.text,Pat.depth,FL,aF];lia
 | .tur p,h=>by
  have h1:=Pat.text_len (p:=p) h;have l1:("t":IT).length=1:=rfl;have:0<2 ^ p.depth:=FK (by decide);rw[Pat.text,Pat.depth,FL,aF];lia
 | .hue f g p,h=>by
  have h1:=Pat.text_len h.2.2;have la:=gR h.1;have lb:=gR h.2.1;have l1:("h":IT).length=1:=rfl;have:0<2 ^ p.depth:=FK (by decide);rw[Pat.text,Pat.depth,FL]
  repeat rw[aF]
  lia
def Pat.text_short(h:p.Wf)(hd:p.depth<=5):p.text.length<=3510:=by
 have h1:=Pat.text_len h;have h2:2 ^ p.depth<=2 ^ 5:=Gc (by decide) hd;lia
structure Pat.Ok(p:Pat):Prop where
 wf:p.Wf
 deep:p.depth<=5
 fits:p.Fits
def Wraps.of{H:Prop}{R:My.D->Prop}(h:p.Ok)(hR:∀ q:Pat,q.Ok->R q.D):Wraps p H R:=by
 refine⟨λ_=>hR p h,λhd=>⟨hR _ ⟨h.wf,?_,h.fits.mir⟩,hR _ ⟨h.wf,?_,h.fits.tur⟩,λa b ha hb=>hR _ ⟨⟨ha,hb,h.wf⟩,?_,h.fits.sh a b⟩,λ_ f g hf hg=>hR _ ⟨⟨hf,hg,h.wf⟩,?_,h.fits.hue f g⟩⟩⟩<;>(simp only[Pat.depth];lia)
inductive Wt where
 |sign (c:Nat)|pat (d:Nat)|lin (w h k:Nat)|hue|num|fig|more
 deriving DecidableEq
abbrev isSg(c:Nat):Bool:=c==46||(49<=c && c<=54)
def motW(r:List Wt):List Wt:= .lin 0 0 0:: .num:: .sign 44:: .num:: .sign 59:: .num:: .sign 44:: .num:: .sign 93::r
def bK(d c:Nat)(r:List Wt):Option (List Wt):=
 if c=91 then be (motW r)
 else if d=5 then z7
 else if c=40 then be (.pat (d+1):: .sign 124:: .pat (d+1):: .sign 41::r)
 else if c=115 then be (.num:: .sign 44:: .num:: .sign 58:: .pat (d+1)::r)
 else if c=104 then be (.hue:: .hue:: .pat (d+1)::r)
 else if c=109\/c=116 then be (.pat (d+1)::r)
 else z7
def cS(w h k c:Nat)(r:List Wt):Option (List Wt):=
 if isSg c then(if h<(if 0<k then w else 8) then be (.lin w (h+1) k::r) else z7)
 else if h=0\/(0<k/\h<w) then z7
 else if c=47 then(if k<7 then be (.lin h 0 (k+1)::r) else z7)
 else if c=59 then be r
 else z7
def aH:List Wt->Nat->Option (List Wt)
 |[],_=>z7
 | .sign s::r,c=>if c=s then be r else z7
 | .pat d::r,c=>bK d c r
 | .lin w h k::r,c=>cS w h k c r
 | .hue::r,c=>if 49<=c/\c<=54 then be r else z7
 | .more::r,_=>be r
 | .num::r,c=>if c=49 then be (.more::r) else if c=45 then be (.fig::r) else if 48<=c/\c<=57 then be r else z7
 | .fig::r,c=>if c=49 then be (.more::r) else if 50<=c/\c<=57 then be r else z7
def aG(st:List Wt)(c:Nat):List Wt:=match st with
 | .more::r=>if 48<=c/\c<=50 then st else r
 |_=>st
def step(st:List Wt)(c:Nat):Option (List Wt):=aH (aG st c) c
def walk:List Wt->List Nat->Nat->Option Nat
 |st,[],k=>if st=[] then z7 else be k
 |st,c::l,k=>match step st c with
  |none=>be k
  |some st'=>walk st' l (k+1)
def dh(t:IT):Option Nat:=walk [.pat 0] (cs t) 0
def Pat.Syn:Pat->Prop
 | .mot L a b c d=>Rows L/\B12 a/\B12 b/\B12 c/\B12 d
 | .over p q=>p.Syn/\q.Syn
 | .sh a b p=>B12 a/\B12 b/\p.Syn
 | .mir p=>p.Syn
 | .tur p=>p.Syn
 | .hue f g p=>(1<=f/\f<=6)/\(1<=g/\g<=6)/\p.Syn
def Pat.Wf.syn:∀ {p:Pat},p.Wf->p.Syn
 | .mot ..,h=>⟨h.1,h.2.1,h.2.2.1,h.2.2.2.1,h.2.2.2.2.1⟩
 | .over p q,h=>⟨Pat.Wf.syn h.1,Pat.Wf.syn h.2⟩
 | .sh a b p,h=>⟨h.1,h.2.1,Pat.Wf.syn h.2.2⟩
 | .mir p,h=>Pat.Wf.syn (p:=p) h
 | .tur p,h=>Pat.Wf.syn (p:=p) h
 | .hue f g p,h=>⟨h.1,h.2.1,Pat.Wf.syn h.2.2⟩
variable{l:List Nat}{st:List Wt}
def aD{st':List Wt}{c:Nat}{k:Nat}(h:step st c=be st'):walk st (c::l) k=walk st' l (k+1):=by
 rw[walk,h]
def numL(a:Int):List Nat:=cs (toString a:String)
variable{P:Int->Prop}
def sB(h:B12 a)(hP:∀ k:Fin 25,P (((k.val:Nat):Int) - 12)):P a:=by
 unfold B12 at h;have:=hP ⟨(a+12).toNat,by lia⟩;have e:(((a+12).toNat:Nat):Int) - 12=a:=by lia
 rw[e] at this;exact this
def isNumL(l:List Nat):Prop:=(∃ c,(48<=c/\c<=57)/\l=[c])\/(∃ c,(48<=c/\c<=50)/\l=[49,c])\/(∃ c,(49<=c/\c<=57)/\l=[45,c])\/∃ c,(48<=c/\c<=50)/\l=[45,49,c]
def numL_is(h:B12 a):isNumL (numL a):=by
 have key:∀ k:Fin 25,(numL (((k.val:Nat):Int) - 12))∈([[45,49,50],[45,49,49],[45,49,48],[45,57],[45,56],[45,55],[45,54],[45,53],[45,52],[45,51],[45,50],[45,49],[48],[49],[50],[51],[52],[53],[54],[55],[56],[57],[49,48],[49,49],[49,50]]:List (List Nat)):=by decide+kernel
 have h1:=sB (P:=λa=>numL a∈([[45,49,50],[45,49,49],[45,49,48],[45,57],[45,56],[45,55],[45,54],[45,53],[45,52],[45,51],[45,50],[45,49],[48],[49],[50],[51],[52],[53],[54],[55],[56],[57],[49,48],[49,49],[49,50]]:List (List Nat))) h key;revert h1;generalize numL a=l;intro h1;unfold isNumL;simp only[ER,FU,or_false] at h1;rcases h1 with e|e|e|e|e|e|e|e|e|e|e|e|e|e|e|e|e|e|e|e|e|e|e|e|e<;>subst e
 all_goals first
  |exact .inl ⟨_,by decide,rfl⟩
  |exact .inr (.inl ⟨_,by decide,rfl⟩)
  |exact .inr (.inr (.inl ⟨_,by decide,rfl⟩))
  |exact .inr (.inr (.inr ⟨_,by decide,rfl⟩))
def AS(h:isNumL l):∃ a,B12 a/\numL a=l:=by
 have key:∀ c:Fin 58,(48<=c.val->∃ k:Fin 25,numL (((k.val:Nat):Int) - 12)=[c.val])/\(48<=c.val->c.val<=50->∃ k:Fin 25,numL (((k.val:Nat):Int) - 12)=[49,c.val])/\(49<=c.val->∃ k:Fin 25,numL (((k.val:Nat):Int) - 12)=[45,c.val])/\(48<=c.val->c.val<=50->∃ k:Fin 25,numL (((k.val:Nat):Int) - 12)=[45,49,c.val]):=by decide+kernel
 have f6:∀ k:Fin 25,B12 (((k.val:Nat):Int) - 12):=λk=>by unfold B12;have:=k.isLt;lia
 rcases h with⟨c,hc,rfl⟩|⟨c,hc,rfl⟩|⟨c,hc,rfl⟩|⟨c,hc,rfl⟩
 .obtain⟨k,e⟩:=(key ⟨c,by lia⟩).1 (by show 48<=c;lia);exact⟨_,f6 k,e⟩
 .obtain⟨k,e⟩:=(key ⟨c,by lia⟩).2.1 (by show 48<=c;lia) (by show c<=50;lia);exact⟨_,f6 k,e⟩
 .obtain⟨k,e⟩:=(key ⟨c,by lia⟩).2.2.1 (by show 49<=c;lia);exact⟨_,f6 k,e⟩
 .obtain⟨k,e⟩:=(key ⟨c,by lia⟩).2.2.2 (by show 48<=c;lia) (by show c<=50;lia);exact⟨_,f6 k,e⟩
def endS(c:Nat):Prop:=c=44\/c=59\/c=58\/c=93
def eU(h:isNumL l){c:Nat}(hc:endS c)(r:List Wt)(t:List Nat)(k:Nat):walk (.num:: .sign c::r) (l++c::t) k=walk r t (k+l.length+1):=by
 unfold endS at hc;have O9:¬ (48<=c/\c<=50):=by lia
 have f6:∀ k,walk (.sign c::r) (c::t) k=walk r t (k+1):=λk=>aD (by simp[step,aG,aH]);have KJ:∀ k,walk (.more:: .sign c::r) (c::t) k=walk r t (k+1):=λk=>aD (by simp[step,aG,aH,O9]);rcases h with⟨x,hx,rfl⟩|⟨x,hx,rfl⟩|⟨x,hx,rfl⟩|⟨x,hx,rfl⟩
 .by_cases e:x=49
  .subst e;show walk _ (49::c::t) k=_;rw[aD (st':= .more:: .sign c::r) (by simp[step,aG,aH]),KJ];simp
  .show walk _ (x::c::t) k=_;rw[aD (st':= .sign c::r) (by simp[step,aG,aH,e,hx,show¬ x=45 by lia]),f6];simp
 .show walk _ (49::x::c::t) k=_;rw[aD (st':= .more:: .sign c::r) (by simp[step,aG,aH]),aD (st':= .sign c::r) (by simp[step,aG,aH,hx]),f6];simp
 .show walk _ (45::x::c::t) k=_;rw[aD (st':= .fig:: .sign c::r) (by simp[step,aG,aH])];by_cases e:x=49
  .subst e;rw[aD (st':= .more:: .sign c::r) (by simp[step,aG,aH]),KJ];simp
  .rw[aD (st':= .sign c::r) (by simp[step,aG,aH,e,show 50<=x/\x<=57 by lia]),f6];simp
 .show walk _ (45::49::x::c::t) k=_;rw[aD (st':= .fig:: .sign c::r) (by simp[step,aG,aH]),aD (st':= .more:: .sign c::r) (by simp[step,aG,aH]),aD (st':= .sign c::r) (by simp[step,aG,aH,hx]),f6];simp
def rowsL:List (List Nat)->List Nat
 |[]=>[]
 |[x]=>x
 |x::y::r=>x++47::rowsL (y::r)
def AT{c:Nat}(h:aJ c):isSg c=true:=by
 unfold aJ at h;unfold isSg;rcases h with h|h
 .subst h;rfl
 .have:(decide (49<=c) && decide (c<=54))=true:=by simp[h]
  rw[this,G3]
def isSign_of{c:Nat}(h:isSg c=true):aJ c:=by
 unfold isSg at h;unfold aJ;simp at h;lia
variable{r:List Wt}
def dN{w h k c:Nat}:step (.lin w h k::r) c=cS w h k c r:=by simp[step,aG,aH]
def eV{w k:Nat}{r:List Wt}:∀ (x:List Nat) (h:Nat) (t:List Nat) (j:Nat),(∀ c∈x,aJ c)->h+x.length<=(if 0<k then w else 8)->walk (.lin w h k::r) (x++t) j=walk (.lin w (h+x.length) k::r) t (j+x.length)
 |[],h,t,j,_,_=>rfl
 |c::x,h,t,j,hs,hl=>by
  rw[EN] at hl ⊢;have h1:step (.lin w h k::r) c=be (.lin w (h+1) k::r):=by
   rw[dN];unfold cS;rw[if_pos (AT (hs c E2)),if_pos (by lia)]
  rw[Fz,aD h1,eV x (h+1) t (j+1) (λc q=>hs c (EV _ q)) (by lia)];rw[show h+1+x.length=h+(x.length+1) by lia,show j+1+x.length=j+(x.length+1) by lia]
def sC{wd:Nat}(hw:1<=wd/\wd<=8){r:List Wt}:∀ (L:List (List Nat)) (w0 k:Nat) (t:List Nat) (j:Nat),L≠[]->(∀ x∈L,x.length=wd/\∀ c∈x,aJ c)->k+L.length<=8->(0<k->w0=wd)->walk (.lin w0 0 k::r) (rowsL L++59::t) j=walk r t (j+(rowsL L).length+1)
 |[],_,_,_,_,ne,_,_,_=>absurd rfl ne
 |[x],w0,k,t,j,_,hs,hl,hk=>by
  obtain⟨h1,h2⟩:=hs x E2;have hb:0+x.length<=(if 0<k then w0 else 8):=by split<;>lia
  have ns:isSg 59=false:=rfl;have h3:step (.lin w0 (0+x.length) k::r) 59=be r:=by
   rw[dN];unfold cS;rw[ns,if_neg ET,if_neg (by lia),if_neg (by decide),if_pos rfl]
  show walk (.lin w0 0 k::r) (x++59::t) j=walk r t (j+x.length+1);rw[eV x 0 _ j h2 hb,aD h3]
 |x::y::L,w0,k,t,j,_,hs,hl,hk=>by
  obtain⟨h1,h2⟩:=hs x E2;rw[EN,EN] at hl;have hb:0+x.length<=(if 0<k then w0 else 8):=by split<;>lia
  have ns:isSg 47=false:=rfl;have h3:step (.lin w0 (0+x.length) k::r) 47=be (.lin (0+x.length) 0 (k+1)::r):=by
   rw[dN];unfold cS;rw[ns,if_neg ET,if_neg (by lia),if_pos rfl,if_pos (by lia)]
  show walk (.lin w0 0 k::r) ((x++47::rowsL (y::L))++59::t) j=walk r t (j+(x++47::rowsL (y::L)).length+1);rw[Fh,Fz,eV x 0 _ j h2 hb,aD h3,sC hw (y::L) (0+x.length) (k+1) t _ (λz=>nomatch z) (λz q=>hs z (EV _ q)) (by rw[EN];lia) (λ_=>by lia)];rw[EU,EN];congr 1;lia
def motL(L:List (List Nat))(a b c d:Int):List Nat:=91::(rowsL L++59::(numL a++44::(numL b++59::(numL c++44::(numL d++[93])))))
def Pat.tl:Pat->List Nat
 | .mot L a b c d=>motL (L.map cs) a b c d
 | .over p q=>40::(p.tl++124::(q.tl++[41]))
 | .sh a b p=>115::(numL a++44::(numL b++58::p.tl))
 | .mir p=>109::p.tl
 | .tur p=>116::p.tl
 | .hue f g p=>104::(numL f++(numL g++p.tl))
def kA:∀ L:List IT,cs (Str.join "/" L)=rowsL (L.map cs)
 |[]=>rfl
 |[x]=>rfl
 |x::y::L=>by
  show cs (x++"/"++Str.join "/" (y::L))=cs x++47::rowsL ((y::L).map cs);rw[aY,aY,kA (y::L),Fh];rfl
def cB:∀ p:Pat,cs p.text=p.tl
 | .mot L a b c d=>by
  show cs (dM L a b c d)=motL (L.map cs) a b c d;unfold dM motL;have e:Txt.join "/" L=Str.join "/" L:=StrLaws.glued_eq_join _ _;rw[e]
  repeat rw[aY]
  rw[kA];simp only[Fh];rfl
 | .over p q=>by
  rw[Pat.text,Pat.tl]
  repeat rw[aY]
  rw[cB p,cB q];simp only[Fh];rfl
 | .sh a b p=>by
  rw[Pat.text,Pat.tl]
  repeat rw[aY]
  rw[cB p];simp only[Fh];rfl
 | .mir p=>by
  rw[Pat.text,Pat.tl,aY,cB p];rfl
 | .tur p=>by
  rw[Pat.text,Pat.tl,aY,cB p];rfl
 | .hue f g p=>by
  rw[Pat.text,Pat.tl]
  repeat rw[aY]
  rw[cB p];simp only[Fh];rfl
def hueL(h:1<=f/\f<=6):numL f=[(48+f).toNat]:=by
 have key:∀ k:Fin 6,numL (((k.val:Nat):Int)+1)=[49+k.val]:=by decide+kernel
 have:=key ⟨(f - 1).toNat,by lia⟩;have e:(((f - 1).toNat:Nat):Int)+1=f:=by lia
 rw[e] at this;rw[this];congr 1;show 49+(f - 1).toNat=(48+f).toNat;lia
def bL{d c:Nat}:step (.pat d::r) c=bK d c r:=by simp[step,aG,aH]
def sD(h:1<=f/\f<=6)(r:List Wt)(t:List Nat)(k:Nat):walk (.hue::r) (numL f++t) k=walk r t (k+1):=by
 rw[hueL h];show walk (.hue::r) ((48+f).toNat::t) k=_;exact aD (by simp[step,aG,aH];lia)
def AU(hL:Rows L)(ha:B12 a)(hb:B12 b)(hc:B12 c)(hd:B12 d)(n:Nat)(r:List Wt)(t:List Nat)(k:Nat):walk (.pat n::r) (motL (L.map cs) a b c d++t) k=walk r t (k+(motL (L.map cs) a b c d).length):=by
 obtain⟨h1,w,hw,hs⟩:=hL;have JU:∀ x∈L.map cs,x.length=w/\∀ c∈x,aJ c:=λx hx=>by
  obtain⟨l,q1,q2⟩:=Fg.mp hx;subst q2;exact⟨by rw[bj];exact(hs l q1).1,(hs l q1).2⟩
 have k8:L.map cs≠[]:=λz=>by have:=congrArg FX z;simp at this;subst this;simp at h1
 unfold motL;simp only[Fz,Fh,G0];have f6:∀ k,walk (.sign 93::r) (93::t) k=walk r t (k+1):=λk=>aD (by simp[step,aG,aH]);rw[aD (st':=motW r) (by rw[bL];simp[bK])];unfold motW;rw[sC hw (L.map cs) 0 0 _ _ k8 JU (by rw[EY];lia) (λz=>absurd z (by lia))];rw[eU (numL_is ha) (.inl rfl),eU (numL_is hb) (.inr (.inl rfl)),eU (numL_is hc) (.inl rfl),eU (numL_is hd) (.inr (.inr (.inr rfl)))];congr 1;simp only[EN,EU,Gk];lia
def cJ:∀ {p:Pat},p.Syn->∀ (d:Nat) (r:List Wt) (t:List Nat) (k:Nat),p.depth+d<=5->walk (.pat d::r) (p.tl++t) k=walk r t (k+p.tl.length)
 | .mot L a b c e,h,d,r,t,k,_=>AU h.1 h.2.1 h.2.2.1 h.2.2.2.1 h.2.2.2.2 d r t k
 | .over p q,h,d,r,t,k,hd=>by
  rw[Pat.depth] at hd;have h1:step (.pat d::r) 40=be (.pat (d+1):: .sign 124:: .pat (d+1):: .sign 41::r):=by rw[bL];simp[bK,show¬ d=5 by lia]
  rw[Pat.tl];simp only[Fz,Fh,G0];rw[aD h1,cJ h.1 (d+1) _ _ _ (by lia),aD (st':= .pat (d+1):: .sign 41::r) (by simp[step,aG,aH]),cJ h.2 (d+1) _ _ _ (by lia),aD (st':=r) (by simp[step,aG,aH])];congr 1;simp only[EN,EU,Gk];lia
 | .sh a b p,h,d,r,t,k,hd=>by
  rw[Pat.depth] at hd;have h1:step (.pat d::r) 115=be (.num:: .sign 44:: .num:: .sign 58:: .pat (d+1)::r):=by rw[bL];simp[bK,show¬ d=5 by lia]
  rw[Pat.tl];simp only[Fz,Fh];rw[aD h1,eU (numL_is h.1) (.inl rfl),eU (numL_is h.2.1) (.inr (.inr (.inl rfl))),cJ h.2.2 (d+1) _ _ _ (by lia)];congr 1;simp only[EN,EU];lia
 | .mir p,h,d,r,t,k,hd=>by
  rw[Pat.depth] at hd;have h1:step (.pat d::r) 109=be (.pat (d+1)::r):=by rw[bL];simp[bK,show¬ d=5 by lia]
  rw[Pat.tl,Fz,aD h1,cJ (p:=p) h (d+1) _ _ _ (by lia),EN];congr 1;lia
 | .tur p,h,d,r,t,k,hd=>by
  rw[Pat.depth] at hd;have h1:step (.pat d::r) 116=be (.pat (d+1)::r):=by rw[bL];simp[bK,show¬ d=5 by lia]
  rw[Pat.tl,Fz,aD h1,cJ (p:=p) h (d+1) _ _ _ (by lia),EN];congr 1;lia
 | .hue f g p,h,d,r,t,k,hd=>by
  rw[Pat.depth] at hd;have h1:step (.pat d::r) 104=be (.hue:: .hue:: .pat (d+1)::r):=by rw[bL];simp[bK,show¬ d=5 by lia]
  rw[Pat.tl];simp only[Fz,Fh];rw[aD h1,sD h.1,sD h.2.1,cJ h.2.2 (d+1) _ _ _ (by lia)];rw[hueL h.1,hueL h.2.1];congr 1;simp only[EN,EU,Gk];lia
def sE(h:p.Syn)(hd:p.depth<=5):dh p.text=none:=by
 unfold dh;rw[cB];have:=cJ h 0 [] [] 0 (by lia);rw[Ft] at this;rw[this];rfl
def cC{x y:IT}(h:cs x=cs y):x=y:=by
 obtain⟨a⟩:=x;obtain⟨b⟩:=y;have:a=b:=Ib.mp h;rw[this]
def Pat.lineAt:Pat->Nat->Option Nat
 | .mot _ a b c d,k=>if a*d=b*c then be k else z7
 | .over p q,k=>match p.lineAt (k+1) with
  |some j=>be j
  |none=>q.lineAt (k+1+p.tl.length+1)
 | .sh a b p,k=>p.lineAt (k+1+(numL a).length+1+(numL b).length+1)
 | .mir p,k=>p.lineAt (k+1)
 | .tur p,k=>p.lineAt (k+1)
 | .hue _ _ p,k=>p.lineAt (k+3)
def Pat.line_wf:∀ {p:Pat} (k:Nat),p.Syn->p.lineAt k=z7->p.Wf
 | .mot L a b c d,k,h,e=>by
  refine⟨h.1,h.2.1,h.2.2.1,h.2.2.2.1,h.2.2.2.2,λz=>?_⟩;rw[Pat.lineAt,if_pos z] at e;cases e
 | .over p q,k,h,e=>by
  rw[Pat.lineAt] at e;cases hp:p.lineAt (k+1) with
  |some j=>rw[hp] at e;cases e
  |none=>rw[hp] at e;exact⟨Pat.line_wf _ h.1 hp,Pat.line_wf _ h.2 e⟩
 | .sh a b p,k,h,e=>⟨h.1,h.2.1,Pat.line_wf _ h.2.2 (by rw[Pat.lineAt] at e;exact e)⟩
 | .mir p,k,h,e=>Pat.line_wf (p:=p) (k+1) h (by rw[Pat.lineAt] at e;exact e)
 | .tur p,k,h,e=>Pat.line_wf (p:=p) (k+1) h (by rw[Pat.lineAt] at e;exact e)
 | .hue f g p,k,h,e=>⟨h.1,h.2.1,Pat.line_wf _ h.2.2 (by rw[Pat.lineAt] at e;exact e)⟩
def Pat.wf_line:∀ {p:Pat} (k:Nat),p.Wf->p.lineAt k=z7
 | .mot L a b c d,k,h=>by rw[Pat.lineAt,if_neg h.2.2.2.2.2]
 | .over p q,k,h=>by
  rw[Pat.lineAt,Pat.wf_line (p:=p) _ h.1];exact Pat.wf_line (p:=q) _ h.2
 | .sh a b p,k,h=>by rw[Pat.lineAt];exact Pat.wf_line (p:=p) _ h.2.2
 | .mir p,k,h=>by rw[Pat.lineAt];exact Pat.wf_line (p:=p) _ h
 | .tur p,k,h=>by rw[Pat.lineAt];exact Pat.wf_line (p:=p) _ h
 | .hue f g p,k,h=>by rw[Pat.lineAt];exact Pat.wf_line (p:=p) _ h.2.2
def Pat.syn_len:∀ {p:Pat},p.Syn->p.text.length+10<=110*2 ^ p.depth
 | .mot L a b c d,h=>by
  have:=sA h.1 h.2.1 h.2.2.1 h.2.2.2.1 h.2.2.2.2;show(dM L a b c d).length+10<=110*2 ^ 0;lia
 | .over p q,h=>by
  have h1:=Pat.syn_len h.1;have h2:=Pat.syn_len h.2;have m1:2 ^ p.depth<=2 ^ (max p.depth q.depth):=Gc (by decide) (H8 _ _);have m2:2 ^ q.depth<=2 ^ (max p.depth q.depth):=Gc (by decide) (H9 _ _);have l1:("(":IT).length=1:=rfl;have l2:("|":IT).length=1:=rfl;have l3:(")":IT).length=1:=rfl;rw[Pat.text,Pat.depth,Ia]
  repeat rw[aF]
  lia
 | .sh a b p,h=>by
  have h1:=Pat.syn_len h.2.2;have la:=bW h.1;have lb:=bW h.2.1;have l1:("s":IT).length=1:=rfl;have l2:(",":IT).length=1:=rfl;have l3:(":":IT).length=1:=rfl;have:0<2 ^ p.depth:=FK (by decide);rw[Pat.text,Pat.depth,FL]
  repeat rw[aF]
  lia
 | .mir p,h=>by
  have h1:=Pat.syn_len (p:=p) h;have l1:("m":IT).length=1:=rfl;have:0<2 ^ p.depth:=FK (by decide);rw[Pat.text,Pat.depth,FL,aF];lia
 | .tur p,h=>by
  have h1:=Pat.syn_len (p:=p) h;have l1:("t":IT).length=1:=rfl;have:0<2 ^ p.depth:=FK (by decide);rw[Pat.text,Pat.depth,FL,aF];lia
 | .hue f g p,h=>by
  have h1:=Pat.syn_len h.2.2;have la:=gR h.1;have lb:=gR h.2.1;have l1:("h":IT).length=1:=rfl;have:0<2 ^ p.depth:=FK (by decide);rw[Pat.text,Pat.depth,FL]
  repeat rw[aF]
  lia
def Pat.syn_short(h:p.Syn)(hd:p.depth<=5):p.text.length<=3510:=by
 have h1:=Pat.syn_len h;have h2:2 ^ p.depth<=2 ^ 5:=Gc (by decide) hd;lia
variable{B:Prop}
def ifT{c A:Prop}[Decidable c](h:c)(a:A):if c then A else B:=by rw[if_pos h];exact a
def ifdT{p A:Prop}[Decidable p](h:p)(a:A):if decide p=true then A else B:=by rw[if_pos (decide_eq_true h)];exact a
def ifdF{p A:Prop}[Decidable p](h:¬ p)(b:B):if decide p=true then A else B:=by rw[if_neg (by simpa using h)];exact b
def rdF(t:IT)(k:Nat):List (IT × D):=[("text",.str t),("place",.int k)]
def RdM(a:KF)(t:IT)(k:Nat):MS:=[(a,.ins "Reading" (rdF t k))]
variable{o:MO}
def cK{a:KF}:mget [(a,o)] a=be o:=by unfold mget;rw[if_pos rfl]
def eX{a:KF}{o':MO}:mput [(a,o)] a o'=[(a,o')]:=by unfold mput;rw[if_pos rfl]
variable{t:IT}
def aN{a:KF}{k:Nat}:mget (RdM a t k) a=be (.ins "Reading" (rdF t k)):=cK
def kB{k:Nat}:(rdF t k).lookup ("text":IT)=be (.str t):=rfl
def dm{k:Nat}:(rdF t k).lookup ("place":IT)=be (.int k):=by
 unfold rdF;rw[E8,show(("place":IT)==("text":IT))=false by decide+kernel];rfl
def AV{k:Nat}:putD ("place":IT) (.int ((k:Int)+1)) (rdF t k)=rdF t (k+1):=by
 unfold rdF putD;rw[if_neg (by decide+kernel)];unfold putD;rw[if_pos rfl];rfl
def cT{k:Nat}:(rdF t k).lookup ("may_take":IT)=none:=by
 unfold rdF;rw[E8,show(("may_take":IT)==("text":IT))=false by decide+kernel,E8,show(("may_take":IT)==("place":IT))=false by decide+kernel];rfl
def bY{k:Nat}:(rdF t k).lookup ("take":IT)=none:=by
 unfold rdF;rw[E8,show(("take":IT)==("text":IT))=false by decide+kernel,E8,show(("take":IT)==("place":IT))=false by decide+kernel];rfl
structure At(t:Str)(k:Nat)(l:List Nat):Prop where
 eq:(cs t).drop k=l
 le:k<=t.length
 sz:t.length<=100000
def At.nil{k:Nat}(h:At t k []):k=t.length:=by
 have h1:=congrArg FX h.eq;rw[Gg,bj] at h1;have:=h.le;simp at h1;lia
def At.lt{k c:Nat}(h:At t k (c::l)):k<t.length:=by
 have h1:=congrArg FX h.eq;rw[Gg,bj] at h1;simp at h1;lia
def At.get{k c:Nat}(h:At t k (c::l)):(cs t)[k]?=be c:=by
 have h1:=congrArg (·[0]?) h.eq;simpa using h1
def At.next{k c:Nat}(h:At t k (c::l)):At t (k+1) l:=by
 refine⟨?_,h.lt,h.sz⟩;have h1:=congrArg (Go 1) h.eq;rw[List.drop_drop] at h1;simpa using h1
def At.app{t:IT}:∀ {x l:List Nat} {k:Nat},At t k (x++l)->At t (k+x.length) l
 |[],_,_,h=>h
 |c::x,l,k,h=>by
  have h1:At t (k+1+x.length) l:=At.app (At.next h);have e:k+1+x.length=k+(c::x).length:=by rw[EN];lia
  rw[e] at h1;exact h1
variable{al:IT}
def sF{c:Nat}:(!(!(Builtin.Str.occurrences al ⟨#[c]⟩ 0 al.length 1).isEmpty))=!decide (c∈cs al):=by
 rw[StrLaws.found_one]
def mayS(al:IT):List Nat->IT|c::_=>if c∈cs al then⟨#[c]⟩ else ""|[]=>""
def mayN(al:IT):List Nat->Nat|c::_=>if c∈cs al then 1 else 0|[]=>0
def dO{c:Nat}(h:c∈cs al):mayS al (c::l)=⟨#[c]⟩:=if_pos h
def dP{c:Nat}(h:c∈cs al):mayN al (c::l)=1:=if_pos h
def dq{c:Nat}(h:c ∉ cs al):mayS al (c::l)="":=if_neg h
def du{c:Nat}(h:c ∉ cs al):mayN al (c::l)=0:=if_neg h
def AW:SiD:=λds R=>∃ t:IT,ds=[.str t]/\R (rdF t 0)
def AX:SpM:=λds M R RX=>∃ (a:KF) (t:IT) (k:Nat) (l:List Nat) (al:IT),ds=[.ptr a,.str al]/\M=RdM a t k/\At t k l/\R (.str (mayS al l)) (RdM a t (k+mayN al l))
def AY:SpM:=λds M R RX=>∃ (a:KF) (t:IT) (k:Nat) (l:List Nat) (al:IT),ds=[.ptr a,.str al]/\M=RdM a t k/\At t k l/\
 (∀ c l',l=c::l'->c∈cs al->R (.str ⟨#[c]⟩) (RdM a t (k+1)))/\((∀ c l',l=c::l'->c ∉ cs al)->∀ M',RX "WrongSign" [("place",.int k)] M')
def walk_bad{k:Nat}(h1:st≠[])(h:∀ c l',l=c::l'->step st c=z7):walk st l k=be k:=by
 cases l with
 |nil=>rw[walk,if_neg h1]
 |cons c l=>rw[walk,h c l rfl]
variable{e:Nat}
def dQ{k:Nat}(h:∀ l',l≠e::l'):walk (.sign e::r) l k=be k:=
 walk_bad (λz=>nomatch z) λc l' q=>by
  have:c≠e:=λz=>h l' (z ▸ q);simp[step,aG,aH,this]
def dR{k:Nat}:walk (.sign e::r) (e::l) k=walk r l (k+1):=aD (by simp[step,aG,aH])
def AZ{k:Nat}(h:∀ d l',l=d::l'->¬ (48<=d/\d<=50)):walk (.more:: .sign e::r) l k=walk (.sign e::r) l k:=by
 cases l with
 |nil=>simp[walk]
 |cons d l=>
  have:step (.more:: .sign e::r) d=step (.sign e::r) d:=by simp[step,aG,h d l rfl]
  rw[walk,walk,this]
variable{pre:List Nat}
def A1(hp:pre=[]\/pre=[45]){c:Nat}(hc:49<=c/\c<=57){x l3:List Nat}(hx:(c=49/\∃ d,(48<=d/\d<=50)/\x=[d])\/(x=[]/\(c=49->∀ d l',l3=d::l'->¬ (48<=d/\d<=50))))(k e:Nat)(r:List Wt)(hl:l=pre++c::(x++l3)):
  walk (.num:: .sign e::r) l k=walk (.sign e::r) l3 (k+(pre++c::x).length):=by
 subst hl;have fig:∀ k,walk (.fig:: .sign e::r) (c::(x++l3)) k=walk (.sign e::r) l3 (k+(c::x).length):=λk=>by
  rcases hx with⟨rfl,d,hd,rfl⟩|⟨rfl,h⟩
  .rw[aD (st':= .more:: .sign e::r) (by simp[step,aG,aH])];show walk _ (d::l3) _=_;rw[aD (st':= .sign e::r) (by simp[step,aG,aH,hd])];rfl
  .by_cases e1:c=49
   .subst e1;rw[aD (st':= .more:: .sign e::r) (by simp[step,aG,aH])];show walk _ l3 _=_;rw[AZ (h rfl)];rfl
   .rw[aD (st':= .sign e::r) (by simp[step,aG,aH,e1,show 50<=c/\c<=57 by lia])];rfl
 rcases hp with rfl|rfl
 .have RI:step (.num:: .sign e::r) c=step (.fig:: .sign e::r) c:=by
   by_cases e1:c=49
   .subst e1;simp[step,aG,aH]
   .simp[step,aG,aH,e1,show¬ c=45 by lia,show 48<=c/\c<=57 by lia,show 50<=c/\c<=57 by lia]
  have:=fig k;rw[walk] at this;show walk _ (c::(x++l3)) k=_;rw[walk,RI,this];simp
 .show walk _ (45::c::(x++l3)) k=_;rw[aD (st':= .fig:: .sign e::r) (by simp[step,aG,aH]),fig];congr 1;simp only[EU,EN,Gk];lia
def A2(hp:pre=[]\/pre=[45]){l1:List Nat}(hl:l=pre++l1)(h:∀ c l',l1=c::l'->¬ (49<=c/\c<=57))(h0:pre=[]->∀ c l',l1=c::l'->c≠48/\c≠45)(k:Nat)(r:List Wt):walk (.num::r) l k=be (k+pre.length):=by
 subst hl;rcases hp with rfl|rfl
 .refine walk_bad (λz=>nomatch z) λc l' q=>?_;have h1:=h c l' q;have h2:=h0 rfl c l' q;simp[step,aG,aH,h2.2,show¬ c=49 by lia,show¬ (48<=c/\c<=57) by lia]
 .show walk _ (45::l1) k=_;rw[aD (st':= .fig::r) (by simp[step,aG,aH])];refine walk_bad (λz=>nomatch z) λc l' q=>?_;have h1:=h c l' q;simp[step,aG,aH,show¬ c=49 by lia,show¬ (50<=c/\c<=57) by lia]
def kC(h:B12 x):PySem.intText? ⟨(numL x).toArray⟩=be x:=
 sB (P:=λx=>PySem.intText? ⟨(numL x).toArray⟩=be x) h (by decide+kernel)
def eY(x y:List Nat):((⟨x.toArray⟩:IT)++⟨y.toArray⟩:IT)=⟨(x++y).toArray⟩:=by
 apply cC;rw[aY]
def digits19{c:Nat}:c∈cs "123456789"↔49<=c/\c<=57:=by
 have e:cs "123456789"=[49,50,51,52,53,54,55,56,57]:=rfl;rw[e];simp;lia
def digits02{c:Nat}:c∈cs "012"↔48<=c/\c<=50:=by
 have e:cs "012"=[48,49,50]:=rfl;rw[e];simp;lia
def A3(w:List Nat)(c:Nat):Txt.endswith ⟨(w++[c]).toArray⟩ "1"=decide (c=49):=by
 unfold Txt.endswith;have e1:("1":IT).length=1:=rfl;have e2:(⟨(w++[c]).toArray⟩:IT).length=w.length+1:=by simp[Str.length]
 rw[e1,e2];have e3:decide (0+1<=w.length+1)=true:=by simp
 rw[e3,Bool.true_and,Nat.add_sub_cancel];unfold Builtin.Str.subAt;have e4:(⟨(w++[c]).toArray⟩:IT).cps.extract w.length (w.length+("1":IT).length)=#[c]:=by
  apply Ib.mp;simp[Array.toList_extract,e1]
 rw[e4];have e5:("1":IT).cps=#[49]:=rfl;rw[e5];by_cases h:c=49
 .subst h;rfl
 .simp[h]
def A5:SpM:=λds M R RX=>∃ (a:KF) (t:IT) (k:Nat) (l:List Nat),ds=[.ptr a]/\M=RdM a t k/\At t k l/\
 (∀ x l',B12 x->l=numL x++l'->(∀ e r,walk (.num:: .sign e::r) l k=walk (.sign e::r) l' (k+(numL x).length))->R (.int x) (RdM a t (k+(numL x).length)))/\
 (∀ j:Nat,(∀ r,walk (.num::r) l k=be j)->∀ M',RX "WrongSign" [("place",.int j)] M')
def A6:SpM:=λds M R RX=>∃ (a:KF) (t:IT) (k:Nat) (l:List Nat),ds=[.ptr a]/\M=RdM a t k/\At t k l/\
 (∀ x y l',B12 x->B12 y->l=numL x++44::(numL y++l')->(∀ e r,walk (.num:: .sign 44:: .num:: .sign e::r) l k=walk (.sign e::r) l' (k+(numL x).length+1+(numL y).length))->R (.tup [.int x,.int y]) (RdM a t (k+(numL x).length+1+(numL y).length)))/\
 (∀ j:Nat,(∀ r,walk (.num:: .sign 44:: .num::r) l k=be j)->∀ M',RX "WrongSign" [("place",.int j)] M')
def sgPre:Nat->List Nat->List Nat
 |0,_=>[]
 |_+1,[]=>[]
 |n+1,c::l=>if isSg c=true then c::sgPre n l else[]
def eZ(n c:Nat)(l:List Nat):sgPre (n+1) (c::l)=if isSg c=true then c::sgPre n l else[]:=rfl
def sgPre_succ:∀ (n:Nat) (l:List Nat),(∃ c l',l=sgPre n l++c::l'/\(sgPre n l).length=n/\isSg c=true/\sgPre (n+1) l=sgPre n l++[c])\/(∃ l',l=sgPre n l++l'/\(∀ c Mw,l'=c::Mw->isSg c=false)/\∀ m,n<=m->sgPre m l=sgPre n l)
 |0,[]=> .inr ⟨[],rfl,(λ_ _ q=>nomatch q),λm _=>by cases m<;>rfl⟩
 |0,c::l=>by
  by_cases h:isSg c=true
  .exact .inl ⟨c,l,rfl,rfl,h,by rw[eZ,if_pos h];rfl⟩
  .refine .inr ⟨c::l,rfl,λ_ _ q=>?_,λm _=>?_⟩
   .cases q;simpa using h
   .cases m with
    |zero=>rfl
    |succ m=>rw[eZ,if_neg h];rfl
 |n+1,[]=> .inr ⟨[],rfl,(λ_ _ q=>nomatch q),λm _=>by cases m<;>rfl⟩
 |n+1,c::l=>by
  by_cases h:isSg c=true
  .have e:∀ m,sgPre (m+1) (c::l)=c::sgPre m l:=λm=>by rw[eZ,if_pos h]
   rcases sgPre_succ n l with⟨d,l',h1,h2,h3,h4⟩|⟨l',h1,h2,h3⟩
   .refine .inl ⟨d,l',?_,by rw[e,EN,h2],h3,by rw[e,e,h4];rfl⟩;rw[e];exact congrArg (c::·) h1
   .refine .inr ⟨l',?_,h2,λm hm=>?_⟩
    .rw[e];exact congrArg (c::·) h1
    .cases m with
     |zero=>lia
     |succ m=>rw[e,e,h3 m (by lia)]
  .refine .inr ⟨c::l,?_,λ_ _ q=>?_,λm hm=>?_⟩
   .rw[eZ,if_neg h];rfl
   .cases q;simpa using h
   .cases m with
    |zero=>lia
    |succ m=>rw[eZ,if_neg h,eZ,if_neg h]
def gT:∀ (n:Nat) (l:List Nat),(sgPre n l).length<=n
 |0,_=>EK _
 |n+1,[]=>Fl _
 |n+1,c::l=>by
  rw[sgPre];split
  .rw[EN];exact Nat.succ_le_succ (gT n l)
  .exact Fl _
def sgPre_sign:∀ (n:Nat) (l:List Nat),∀ c∈sgPre n l,aJ c
 |0,_,_,h=>by cases h
 |n+1,[],_,h=>by cases h
 |n+1,c::l,d,h=>by
  rw[sgPre] at h;split at h
  .rename_i q;rcases ER.mp h with e|e
   .rw[e];exact isSign_of q
   .exact sgPre_sign n l d e
  .cases h
def sgPre_split(n:Nat)(l:List Nat):∃ l',l=sgPre n l++l'/\((sgPre n l).length=n\/∀ c Mw,l'=c::Mw->isSg c=false):=by
 rcases sgPre_succ n l with⟨d,l',h1,h2,h3,h4⟩|⟨l',h1,h2,h3⟩
 .exact⟨d::l',h1,.inl h2⟩
 .exact⟨l',h1,.inr h2⟩
def signs_is{c:Nat}:c∈cs ".123456"↔isSg c=true:=by
 have e:cs ".123456"=[46,49,50,51,52,53,54]:=rfl;rw[e];simp;lia
def dS(x:List Nat):(⟨x.toArray⟩:IT).length=x.length:=by simp[Str.length]
def A7:SpM:=λds M R RX=>∃ (a:KF) (t:IT) (k:Nat) (l:List Nat) (n m:Nat),ds=[.ptr a,.int n,.int m]/\M=RdM a t k/\At t k l/\n<=m/\m<=8/\
 (n<=(sgPre m l).length->R (.str ⟨(sgPre m l).toArray⟩) (RdM a t (k+(sgPre m l).length)))/\((sgPre m l).length<n->∀ M',RX "WrongSign" [("place",.int ((k+(sgPre m l).length:Nat):Int))] M')
def A8{p a:KF}{k:Nat}(h:p≠a):mget ((p,o)::RdM a t k) a=be (.ins "Reading" (rdF t k)):=by
 unfold mget;rw[if_neg h];exact cK
variable{M:MS}
def cU{p:KF}:mget ((p,o)::M) p=be o:=by unfold mget;rw[if_pos rfl]
def sG{p:KF}{o':MO}:mput ((p,o)::M) p o'=(p,o')::M:=by unfold mput;rw[if_pos rfl]
def kD{p:KF}:mdel ((p,o)::M) p=M:=by unfold mdel;rw[if_pos rfl]
structure RowsL(L:List (List Nat))(w:Nat):Prop where
 many:1<=L.length/\L.length<=8
 w1:1<=w
 w8:w<=8
 each:∀ x∈L,x.length=w/\∀ c∈x,aJ c
def gU:∀ (L:List (List Nat)) (x:List Nat),L≠[]->rowsL (L++[x])=rowsL L++47::x
 |[],_,h=>absurd rfl h
 |[y],x,_=>rfl
 |y::z::L,x,_=>by
  show y++47::rowsL ((z::L)++[x])=(y++47::rowsL (z::L))++47::x;rw[gU (z::L) x (λq=>nomatch q)];simp
structure LinAt(w h n:Nat)(l:List Nat):Prop where
 h1:1<=h
 n1:1<=n
 one:n=1->h=8\/∀ c l',l=c::l'->isSg c=false
 more:2<=n->w=h
def A9{w h:Nat}(H:LinAt w h n l)(hn:n<=8)(stop:n=8\/∀ l',l≠47::l')(r:List Wt)(p:Nat):walk (.lin w h (n - 1)::r) l p=walk (.sign 59::r) l p:=by
 cases l with
 |nil=>simp[walk]
 |cons c l=>
  have key:step (.lin w h (n - 1)::r) c=step (.sign 59::r) c:=by
   rw[dN];unfold cS;have O_:step (.sign 59::r) c=if c=59 then be r else none:=by simp[step,aG,aH]
   rw[O_];have h1:=H.h1;by_cases hs:isSg c=true
   .rw[if_pos hs];have nc:¬ c=59:=by rintro rfl;cases hs
    rw[if_neg nc];refine if_neg ?_;by_cases n1:n=1
    .rcases H.one n1 with e|e
     .subst n1;simp;lia
     .rw[e c l rfl] at hs;cases hs
    .have NN:=H.n1;have:=H.more (by lia);rw[if_pos (by lia)];lia
   .rw[if_neg hs];have g:¬ (h=0\/(0<n - 1/\h<w)):=by
     have NN:=H.n1;rintro(z|⟨z1,z2⟩)
     .lia
     .have:=H.more (by lia);lia
    rw[if_neg g];by_cases NO:c=47
    .subst NO;rw[if_pos rfl,if_neg (c:=47=59) (by decide)];refine if_neg ?_;rcases stop with e|e
     .lia
     .exact absurd rfl (e l)
    .rw[if_neg NO]
  rw[walk,walk,key]
def sH{w h:Nat}(H:LinAt w h n (47::l))(hn:n<8)(r:List Wt)(p:Nat):walk (.lin w h (n - 1)::r) (47::l) p=walk (.lin h 0 n::r) l (p+1):=by
 refine aD ?_;rw[dN];unfold cS;have h1:=H.h1;have NN:=H.n1;have ns:isSg 47=false:=rfl;rw[ns,if_neg ET,if_neg (by
  rintro(z|⟨z1,z2⟩)
  .lia
  .have:=H.more (by lia);lia),if_pos rfl,if_pos (by lia)]
 congr 3;lia
def sI{w:Nat}{x:List Nat}(hs:∀ c∈x,aJ c)(hx:x.length<w)(hw:w<=8)(hn:n=0->x=[])(hl:∀ c l',l=c::l'->isSg c=false)(r:List Wt)(p:Nat):walk (.lin w 0 n::r) (x++l) p=be (p+x.length):=by
 rw[eV x 0 l p hs (by split<;>lia)];refine walk_bad (λz=>nomatch z) λc l' q=>?_;rw[dN];unfold cS;rw[hl c l' q,if_neg ET];refine if_pos ?_;by_cases n0:n=0
 .left;rw[hn n0];rfl
 .right;exact⟨by lia,by lia⟩
def lstD(L:List (List Nat)):List D:=L.map λx=>D.str ⟨x.toArray⟩
def Ba:SpM:=λds M R RX=>∃ (a:KF) (t:IT) (k:Nat) (l:List Nat),ds=[.ptr a]/\M=RdM a t k/\At t k l/\
 (∀ (L:List (List Nat)) (w:Nat) l',RowsL L w->l=rowsL L++l'->(∀ r,walk (.lin 0 0 0::r) l k=walk (.sign 59::r) l' (k+(rowsL L).length))->R (.lst (lstD L)) (RdM a t (k+(rowsL L).length)))/\
 (∀ j:Nat,(∀ r,walk (.lin 0 0 0::r) l k=be j)->∀ M',RX "WrongSign" [("place",.int j)] M')
def hmX(w h s:Int)(i j:Int):Int:=(i - j / h*s) % w
def hRow(w h s:Int)(j:Nat):Nat->List Nat->List ((Int × Int) × Int)->List ((Int × Int) × Int)
 |_,[],kv=>kv
 |i,c::r,kv=>hRow w h s j (i+1) r (if c=46 then kv else sdD kv (hmX w h s i j) ((j:Int) % h) ((c:Int) - 48))
def hAll(w h s:Int):Nat->List (List Nat)->List ((Int × Int) × Int)->List ((Int × Int) × Int)
 |_,[],kv=>kv
 |j,x::r,kv=>hAll w h s (j+1) r (hRow w h s j 0 x kv)
def sJ(kv:List ((Int × Int) × Int))(x y v:Int):(sdD kv x y v).length<=kv.length+1:=by
 unfold sdD;split
 .lia
 .rw[EU];simp
def Bb{c:Nat}(h:49<=c/\c<=54):∃ i rest,Builtin.Str.occurrences ".123456" ⟨#[c]⟩ 0 (".123456":IT).length 1=i::rest/\((i:Nat):Int)=(c:Int) - 48:=by
 rcases(by lia:c=49\/c=50\/c=51\/c=52\/c=53\/c=54) with e|e|e|e|e|e<;>subst e
 .exact⟨1,[],by decide+kernel,by decide⟩
 .exact⟨2,[],by decide+kernel,by decide⟩
 .exact⟨3,[],by decide+kernel,by decide⟩
 .exact⟨4,[],by decide+kernel,by decide⟩
 .exact⟨5,[],by decide+kernel,by decide⟩
 .exact⟨6,[],by decide+kernel,by decide⟩
def Bc{x:List Nat}(h:∀ c∈x,aJ c):(⟨x.toArray⟩:IT).cps.all (·<128)=true:=by
 rw[<- HL,FI];intro c hc;have:=h c hc;unfold aJ at this;simp;lia
def Bd{L:List (List Nat)}{j:Nat}{d:D}(h:(lstD L)[j]?=be d):∃ x,L[j]?=be x/\d= .str ⟨x.toArray⟩:=by
 unfold lstD at h;rw[E3] at h;cases e:L[j]? with
 |none=>rw[e] at h;cases h
 |some x=>rw[e] at h;cases h;exact⟨x,rfl,rfl⟩
def Be{x:List Nat}{i:Nat}{d:D}(h:(bE ⟨x.toArray⟩)[i]?=be d):∃ c,x[i]?=be c/\d= .str ⟨#[c]⟩:=by
 unfold bE at h;rw[E3] at h;cases e:x[i]? with
 |none=>simp[e] at h
 |some c=>simp[e] at h;exact⟨c,rfl,h.symm⟩
def sK{α:Type}{l:List α}{i:Nat}{x:α}(h:l[i]?=be x):l.drop i=x::l.drop (i+1):=by
 have hi:i<l.length:=(E6.mp h).1;rw[Ic hi];congr 1;rw[Fi hi] at h;exact Option.some.inj h
def Bf:SpM:=λds M R RX=>∃ (L:List (List Nat)) (wd:Nat) (w h s:Int),ds=[.lst (lstD L),.tup [.int w,.int h,.int s]]/\RowsL L wd/\0<w/\0<h/\h<1073741824/\0<=s/\s<1073741824/\R (.dti (hAll w h s 0 L [])) M
def moF(k:Nat)(sh:D)(hu:List ((Int × Int) × Int)):List (IT × D):=[("place",.int k),("shifts",sh),("hues",.dti hu)]
def Bg:SiD:=λds R=>∃ (k:Nat) (L:List (List Nat)) (wd:Nat) (a b c d:Int),ds=[.int k,.lst (lstD L),.tup [.int a,.int b],.tup [.int c,.int d]]/\RowsL L wd/\B12 a/\B12 b/\B12 c/\B12 d/\
 (a*d=b*c->R (moF k .non []))/\(¬ a*d=b*c->∀ w h s,FamOf a b c d w h s->R (moF k (.tup [.int w,.int h,.int s]) (hAll w h s 0 L [])))
def Bh{v:D}:putD ("place":IT) v []=([("place",v)]:List (IT × D)):=rfl
def sL{u v:D}:putD ("shifts":IT) v [("place",u)]=([("place",u),("shifts",v)]:List (IT × D)):=by
 unfold putD;rw[if_neg (by decide+kernel)];rfl
def sM{t u v:D}:putD ("hues":IT) v [("place",t),("shifts",u)]=([("place",t),("shifts",u),("hues",v)]:List (IT × D)):=by
 unfold putD;rw[if_neg (by decide+kernel)];unfold putD;rw[if_neg (by decide+kernel)];rfl
def kE{u v:D}:([("place",u),("shifts",v)]:List (IT × D)).lookup ("shifts":IT)=be v:=by
 rw[E8,show(("shifts":IT)==("place":IT))=false by decide+kernel];rfl
def Bi:SiD:=λds R=>∃ (x y:IT) (fs gs:List (IT × D)),ds=[.obj x fs,.obj y gs]/\R [("above",.obj x fs),("below",.obj y gs)]
def Bj:SiD:=λds R=>∃ (x:IT) (fs:List (IT × D)) (a b:Int),ds=[.obj x fs,.int a,.int b]/\R [("form",.obj x fs),("x",.int a),("y",.int b)]
def Bk:SiD:=λds R=>∃ (x:IT) (fs:List (IT × D)),ds=[.obj x fs]/\R [("form",.obj x fs)]
def Bl:SiD:=λds R=>∃ (x:IT) (fs:List (IT × D)),ds=[.obj x fs]/\R [("form",.obj x fs)]
def Bm:SiD:=λds R=>∃ (x:IT) (fs:List (IT × D)) (a b:Int),ds=[.obj x fs,.int a,.int b]/\R [("form",.obj x fs),("old",.int a),("new",.int b)]
def FormOf:Pat->Nat->D->Prop
 | .mot L a b c d,k,v=>∃ sh hu,v= .obj "Motif" (moF k sh hu)/\(a*d=b*c->sh= .non)/\(¬ a*d=b*c->∃ w h s,FamOf a b c d w h s/\sh= .tup [.int w,.int h,.int s]/\hu=hAll w h s 0 (L.map cs) [])
 | .over p q,k,v=>∃ u u',v= .obj "Over" [("above",u),("below",u')]/\FormOf p (k+1) u/\FormOf q (k+1+p.tl.length+1) u'
 | .sh a b p,k,v=>∃ u,v= .obj "Shifted" [("form",u),("x",.int a),("y",.int b)]/\FormOf p (k+1+(numL a).length+1+(numL b).length+1) u
 | .mir p,k,v=>∃ u,v= .obj "Mirror" [("form",u)]/\FormOf p (k+1) u
 | .tur p,k,v=>∃ u,v= .obj "Turn" [("form",u)]/\FormOf p (k+1) u
 | .hue f g p,k,v=>∃ u,v= .obj "Rehue" [("form",u),("old",.int f),("new",.int g)]/\FormOf p (k+3) u
def Pat.cls:Pat->IT
 | .mot ..=>"Motif"| .over ..=>"Over"| .sh ..=>"Shifted"| .mir ..=>"Mirror"| .tur ..=>"Turn"| .hue ..=>"Rehue"
def FormOf.obj{k:Nat}{v:D}(h:FormOf p k v):∃ fs,v= .obj p.cls fs:=by
 cases p with
 |mot L a b c d=>obtain⟨sh,hu,rfl,_⟩:=h;exact⟨_,rfl⟩
 |over p q=>obtain⟨_,_,rfl,_⟩:=h;exact⟨_,rfl⟩
 |sh a b p=>obtain⟨_,rfl,_⟩:=h;exact⟨_,rfl⟩
 |mir p=>obtain⟨_,rfl,_⟩:=h;exact⟨_,rfl⟩
 |tur p=>obtain⟨_,rfl,_⟩:=h;exact⟨_,rfl⟩
 |hue f g p=>obtain⟨_,rfl,_⟩:=h;exact⟨_,rfl⟩
def Bn{L:List (List Nat)}{w:Nat}(h:RowsL L w):Rows (L.map λx=>(⟨x.toArray⟩:IT))/\(L.map λx=>(⟨x.toArray⟩:IT)).map cs=L:=by
 refine⟨⟨by rw[EY];exact h.many,w,⟨h.w1,h.w8⟩,λl hl=>?_⟩,?_⟩
 .obtain⟨x,hx,rfl⟩:=Fg.mp hl;obtain⟨h1,h2⟩:=h.each x hx;exact⟨by rw[dS];exact h1,h2⟩
 .rw[FT];simp[Function.comp_def,cs]
def Bo:SpM:=λds M R RX=>∃ (a:KF) (t:IT) (k:Nat) (l:List Nat),ds=[.ptr a]/\M=RdM a t k/\At t k l/\
 (∀ p l',p.Syn->p.depth=0->l=p.tl++l'->∀ v,FormOf p k v->R v (RdM a t (k+p.tl.length)))/\
 (∀ j:Nat,(∀ r,walk (.pat 5::r) l k=be j)->∀ M',RX "WrongSign" [("place",.int j)] M')
def Bp{d:Nat}{k:Nat}(h:d=5\/∀ c l',l=c::l'->c ∉ cs "(smth"):walk (.pat d::r) l k=walk (.pat 5::r) l k:=by
 rcases h with rfl|h
 .rfl
 .cases l with
  |nil=>simp[walk]
  |cons c l=>
   have hc:=h c l rfl;have e:cs "(smth"=[40,115,109,116,104]:=rfl;rw[e] at hc;simp only[ER,FU,or_false,not_or] at hc;have:step (.pat d::r) c=step (.pat 5::r) c:=by
    rw[bL,bL];unfold bK;by_cases Lp:c=91
    .rw[if_pos Lp,if_pos Lp]
    .rw[if_neg Lp,if_neg Lp,if_pos rfl];split
     .rfl
     .rw[if_neg hc.1,if_neg hc.2.1,if_neg hc.2.2.2.2,if_neg (by rintro(z|z);exact hc.2.2.1 z;exact hc.2.2.2.1 z)]
   rw[walk,walk,this]
def hue_dig{c:Nat}:c∈cs "123456"↔49<=c/\c<=54:=by
 have e:cs "123456"=[49,50,51,52,53,54]:=rfl;rw[e];simp;lia
def gW{c:Nat}(h:49<=c/\c<=54):numL ((c:Int) - 48)=[c]:=by
 rw[hueL (by lia)];congr 1;lia
def kF{c:Nat}(h:49<=c/\c<=54){k:Nat}:walk (.hue::r) (c::l) k=walk r l (k+1):=aD (by simp[step,aG,aH,h])
def sN{k:Nat}(h:∀ c l',l=c::l'->c ∉ cs "123456"):walk (.hue::r) l k=be k:=
 walk_bad (λz=>nomatch z) λc l' q=>by
  have:=λz=>h c l' q (hue_dig.mpr z);simp only[step,aG,aH];exact if_neg this
def dv(j:Nat):SpM:=λds M R RX=>∃ (a:KF) (t:IT) (k:Nat) (l:List Nat) (d:Nat),ds=[.ptr a,.int d]/\M=RdM a t k/\At t k l/\d+j=6/\1<=j/\
 (∀ p l',p.Syn->p.depth+d<=5->l=p.tl++l'->∀ v,FormOf p k v->R v (RdM a t (k+p.tl.length)))/\(∀ i:Nat,(∀ r,walk (.pat d::r) l k=be i)->∀ M',RX "WrongSign" [("place",.int i)] M')
variable{R:D->MS->Prop}{ds:List D}{RX:XDM}
def Bq:¬ dv 0 ds M R RX:=by
 rintro⟨_,_,_,_,_,_,_,_,_,h,_⟩;exact absurd h (by decide)
def sO(j:Nat):SpM:=λds M R RX=>∃ (a:KF) (t:IT) (k:Nat) (l:List Nat) (d:Nat),ds=[.ptr a,.int d]/\M=RdM a t k/\At t k l/\d+j=6/\1<=j/\
 (∀ p q l',p.Syn->q.Syn->p.depth+d<=5->q.depth+d<=5->l=p.tl++124::(q.tl++41::l')->∀ u u',FormOf p k u->FormOf q (k+p.tl.length+1) u'->R (.obj "Over" [("above",u),("below",u')]) (RdM a t (k+p.tl.length+1+q.tl.length+1)))/\
 (∀ i:Nat,(∀ r,walk (.pat d:: .sign 124:: .pat d:: .sign 41::r) l k=be i)->∀ M',RX "WrongSign" [("place",.int i)] M')
def sP(j:Nat):SpM:=λds M R RX=>∃ (a:KF) (t:IT) (k:Nat) (l:List Nat) (d:Nat),ds=[.ptr a,.int d]/\M=RdM a t k/\At t k l/\d+j=6/\1<=j/\
 (∀ x y p l',B12 x->B12 y->p.Syn->p.depth+d<=5->l=numL x++44::(numL y++58::(p.tl++l'))->∀ u,FormOf p (k+(numL x).length+1+(numL y).length+1) u->R (.obj "Shifted" [("form",u),("x",.int x),("y",.int y)]) (RdM a t (k+(numL x).length+1+(numL y).length+1+p.tl.length)))/\
 (∀ i:Nat,(∀ r,walk (.num:: .sign 44:: .num:: .sign 58:: .pat d::r) l k=be i)->∀ M',RX "WrongSign" [("place",.int i)] M')
def sQ(j:Nat):SpM:=λds M R RX=>∃ (a:KF) (t:IT) (k:Nat) (l:List Nat) (d:Nat),ds=[.ptr a,.int d]/\M=RdM a t k/\At t k l/\d+j=6/\1<=j/\
 (∀ c e p l',(49<=c/\c<=54)->(49<=e/\e<=54)->p.Syn->p.depth+d<=5->l=c::e::(p.tl++l')->∀ u,FormOf p (k+2) u->R (.obj "Rehue" [("form",u),("old",.int ((c:Int) - 48)),("new",.int ((e:Int) - 48))]) (RdM a t (k+2+p.tl.length)))/\
 (∀ i:Nat,(∀ r,walk (.hue:: .hue:: .pat d::r) l k=be i)->∀ M',RX "WrongSign" [("place",.int i)] M')
def Pat.Area(p:Pat)(N:Int):Prop:=∃ w h s,p.Fam w h s/\w*h<=N
def Pat.Fits.wide(h:p.Fits):p.Area 33554432:=by
 obtain⟨w,k,s,f,b⟩:=h;exact⟨w,k,s,f,by lia⟩
def Pat.Area.small{N:Int}(h:p.Area N){k:Int}(f:p.Fam w k s):0<w/\w<=N/\0<k/\k<=N/\0<=s/\s<w:=by
 obtain⟨w',k',s',f',hb⟩:=h;obtain⟨rfl,rfl,rfl⟩:=f.uniq f';obtain⟨h1,h2⟩:=cI f.f.w0 f.f.h0;exact⟨f.f.w0,by lia,f.f.h0,by lia,f.f.s0,f.f.sw⟩
def Pat.Area.tur{N:Int}(h:p.Area N):(Pat.tur p).Area N:=by
 obtain⟨w,k,s,f,b⟩:=h;obtain⟨w2,h2,s2,g,e⟩:=fO (s:=s) f.f.w0 f.f.h0;exact⟨_,_,_,f.tur g,by lia⟩
def Pat.Cal:Pat->Prop
 | .mot ..=>True
 | .over p q=>p.Cal/\q.Cal/\(p.Wf->q.Wf->p.Area 33554432/\q.Area 33554432)
 | .sh _ _ p=>p.Cal
 | .mir p=>p.Cal
 | .tur p=>p.Cal/\(p.Wf->p.Area 33554432)
 | .hue _ _ p=>p.Cal
def Pat.cls_mem(p:Pat):p.cls∈(["Motif","Over","Shifted","Mirror","Turn","Rehue"]:List IT):=by
 cases p<;>simp[Pat.cls]
def no_look{f g:IT}{v:D}{r:List (IT × D)}(h:(f==g)=false)(hr:r.lookup f=z7):(((g,v)::r:List (IT × D))).lookup f=none:=by
 rw[E8,h];exact hr
def FormOf.objm{k:Nat}{v:D}(h:FormOf p k v):∃ fs,v= .obj p.cls fs/\fs.lookup ("family":IT)=z7/\fs.lookup ("shows":IT)=none:=by
 cases p with
 |mot L a b c d=>obtain⟨sh,hu,rfl,_⟩:=h;exact⟨_,rfl,no_look (by decide+kernel) (no_look (by decide+kernel) (no_look (by decide+kernel) rfl)),no_look (by decide+kernel) (no_look (by decide+kernel) (no_look (by decide+kernel) rfl))⟩
 |over p q=>obtain⟨_,_,rfl,_⟩:=h;exact⟨_,rfl,no_look (by decide+kernel) (no_look (by decide+kernel) rfl),no_look (by decide+kernel) (no_look (by decide+kernel) rfl)⟩
 |sh a b p=>obtain⟨_,rfl,_⟩:=h;exact⟨_,rfl,no_look (by decide+kernel) (no_look (by decide+kernel) (no_look (by decide+kernel) rfl)),no_look (by decide+kernel) (no_look (by decide+kernel) (no_look (by decide+kernel) rfl))⟩
 |mir p=>obtain⟨_,rfl,_⟩:=h;exact⟨_,rfl,no_look (by decide+kernel) rfl,no_look (by decide+kernel) rfl⟩
 |tur p=>obtain⟨_,rfl,_⟩:=h;exact⟨_,rfl,no_look (by decide+kernel) rfl,no_look (by decide+kernel) rfl⟩
 |hue f g p=>obtain⟨_,rfl,_⟩:=h;exact⟨_,rfl,no_look (by decide+kernel) (no_look (by decide+kernel) (no_look (by decide+kernel) rfl)),no_look (by decide+kernel) (no_look (by decide+kernel) (no_look (by decide+kernel) rfl))⟩
variable{hu:List ((Int × Int) × Int)}
def kG{k:Nat}{sh:D}:(moF k sh hu).lookup ("shifts":IT)=be sh:=by
 unfold moF;rw[E8,show(("shifts":IT)==("place":IT))=false by decide+kernel];rfl
def Br{k:Nat}{sh:D}:(moF k sh hu).lookup ("place":IT)=be (.int k):=rfl
def Bs{k:Nat}{sh:D}:(moF k sh hu).lookup ("hues":IT)=be (.dti hu):=by
 unfold moF;rw[E8,show(("hues":IT)==("place":IT))=false by decide+kernel,E8,show(("hues":IT)==("shifts":IT))=false by decide+kernel];rfl
def fb{f g:IT}{u v:D}{r:List (IT × D)}(h:(g==f)=false):(((f,u)::(g,v)::r:List (IT × D))).lookup g=be v:=by
 rw[E8,h,E8,beq_self_eq_true]
def kH{e f g:IT}{t u v:D}{r:List (IT × D)}(h1:(g==e)=false)(h2:(g==f)=false):(((e,t)::(f,u)::(g,v)::r:List (IT × D))).lookup g=be v:=by
 rw[E8,h1];exact fb h2
def Pat.Fits.small(h:p.Fits){k:Int}(f:p.Fam w k s):0<w/\w<=720/\0<k/\k<=720/\0<=s/\s<w:=by
 obtain⟨w',k',s',f',hb⟩:=h;obtain⟨rfl,rfl,rfl⟩:=f.uniq f';obtain⟨h1,h2⟩:=cI f.f.w0 f.f.h0;exact⟨f.f.w0,by lia,f.f.h0,by lia,f.f.s0,f.f.sw⟩
def bO(j:Nat)(x:IT):SpX:=λds R RX=>∃ (p:Pat) (k:Nat) (v:D),ds=[v]/\FormOf p k v/\p.Syn/\p.depth<j/\p.cls=x/\p.Cal/\(∀ i:Nat,p.lineAt k=be i->RX "OneLine" [("place",.int i)])/\(p.lineAt k=z7->∀ w h s,p.Fam w h s->R (.tup [.int w,.int h,.int s]))
def fg{x:IT}:¬ ofX (bO 0 x) ds M R RX:=by
 rintro⟨_,_,_,_,_,_,h,_⟩;exact absurd h (F9 _)
def lookD_app(x y v X Y:Int):∀ kv:List ((Int × Int) × Int),lookD (kv++[((x,y),v)]) X Y=match lookD kv X Y with|some u=>be u|none=>if x=X/\y=Y then be v else z7
 |[]=>rfl
 |((a,b),h)::r=>by
  show lookD (((a,b),h)::(r++[((x,y),v)])) X Y=_;unfold lookD;by_cases e:a=X/\b=Y
  .rw[if_pos e,if_pos e]
  .rw[if_neg e,if_neg e];exact lookD_app x y v X Y r
def Bt(kv:List ((Int × Int) × Int))(x y v X Y:Int):lookD (sdD kv x y v) X Y=match lookD kv X Y with|some u=>be u|none=>if x=X/\y=Y then be v else none:=by
 unfold sdD;split
 .rename_i hs;cases e:lookD kv X Y with
  |some u=>rfl
  |none=>
   show z7=_;rw[if_neg];rintro⟨rfl,rfl⟩;rw[e] at hs;cases hs
 .exact lookD_app x y v X Y kv
def look_row(w h s:Int)(j:Nat)(X Y:Int):∀ (x:List Nat) (i:Nat) (kv:List ((Int × Int) × Int)),lookD (hRow w h s j i x kv) X Y=match lookD kv X Y with|some u=>be u|none=>(scanRow (λi=>decide (hmX w h s i j=X/\(j:Int) % h=Y)) i x).map λc=>(c:Int) - 48
 |[],i,kv=>by
  rw[hRow,scanRow];cases lookD kv X Y<;>rfl
 |c::r,i,kv=>by
  rw[hRow,look_row w h s j X Y r (i+1),scanRow];by_cases t8:c=46
  .rw[if_pos t8,if_neg (c:=c≠46/\_) (λz=>z.1 t8)]
  .rw[if_neg t8,Bt];cases lookD kv X Y with
   |some u=>rfl
   |none=>
    by_cases e:hmX w h s i j=X/\(j:Int) % h=Y
    .rw[if_pos (c:=c≠46/\_) ⟨t8,decide_eq_true e⟩];show(match (if hmX w h s i j=X/\(j:Int) % h=Y then be ((c:Int) - 48) else z7) with|some u=>be u|none=>_)=_;rw[if_pos e];rfl
    .rw[if_neg (c:=c≠46/\_) (λz=>e (of_decide_eq_true z.2))];show(match (if hmX w h s i j=X/\(j:Int) % h=Y then be ((c:Int) - 48) else z7) with|some u=>be u|none=>_)=_;rw[if_neg e]
def sR(w h s X Y:Int):∀ (L:List IT) (j:Nat) (kv:List ((Int × Int) × Int)),lookD (hAll w h s j (L.map cs) kv) X Y=match lookD kv X Y with|some u=>be u|none=>(bX (λi j=>decide (hmX w h s i j=X/\j % h=Y)) j L).map λc=>(c:Int) - 48
 |[],j,kv=>by
  rw[Gh,hAll,bX];cases lookD kv X Y<;>rfl
 |x::r,j,kv=>by
  rw[E4,hAll,sR w h s X Y r (j+1),look_row,bX];cases lookD kv X Y with
  |some u=>rfl
  |none=>
   show(match (scanRow (λi=>decide (hmX w h s i j=X/\(j:Int) % h=Y)) 0 (cs x)).map (λc=>(c:Int) - 48) with|some u=>be u|none=>_)=_;cases scanRow (λi=>decide (hmX w h s i j=X/\(j:Int) % h=Y)) 0 (cs x)<;>rfl
def Bu(F:FamOf a b c d w h s)(hn:¬ a*d=b*c)(x y i j:Int):decide (hmX w h s i j=hmX w h s x y/\j % h=y % h)=onB a b c d (x - i) (y - j):=by
 have hw:=F.1;have hh:=F.2.1;have key:(hmX w h s i j=hmX w h s x y/\j % h=y % h)↔InF w h s (x - i) (y - j):=by
  unfold hmX;constructor
  .rintro⟨e1,e2⟩;have dy:=GO y h;have dj:=GO j h;have m1:=GO (x - y / h*s) w;have m2:=GO (i - j / h*s) w;refine⟨(x - y / h*s) / w - (i - j / h*s) / w,y / h - j / h,?_,?_⟩
   .rw[Gr,Gr,EW ((x - y / h*s) / w) w,EW ((i - j / h*s) / w) w];lia
   .rw[Gr,EW (y / h) h,EW (j / h) h];lia
  .rintro⟨m,q,ex,ey⟩;have Mx:y=j+q*h:=by lia
   have No:x=i+(m*w+q*s):=by lia
   subst No Mx;rw[Ie,Ig _ _ (by lia)];refine⟨?_,rfl⟩;have e:i+(m*w+q*s) - (j / h+q)*s=i - j / h*s+m*w:=by rw[FE];lia
   rw[e,Ie]
 unfold onB;congr 1;apply propext;rw[key,F.lat];constructor
 .rintro⟨m,q,eu,ev⟩;exact rT eu ev
 .exact λz=>su hn z
def Bv{c:Nat}(h:49<=c/\c<=54):cell [0,1,2,3,4,5,6] ((c:Int) - 48)=(c:Int) - 48:=by
 rcases(by lia:c=49\/c=50\/c=51\/c=52\/c=53\/c=54) with e|e|e|e|e|e<;>subst e<;>rfl
def motif_shows(hL:Rows L)(F:FamOf a b c d w h s)(hn:¬ a*d=b*c)(x y:Int):(lookD (hAll w h s 0 (L.map cs) []) (hmX w h s x y) (y % h)).getD 0=(bJ L a b c d).shows x y:=by
 rw[sR];show((bX (λi j=>decide (hmX w h s i j=hmX w h s x y/\j % h=y % h)) 0 L).map λc=>(c:Int) - 48).getD 0=_;have e:(λi j=>decide (hmX w h s i j=hmX w h s x y/\j % h=y % h))=λi j=>onB a b c d (1*x+0*y+0 - i) (0*x+1*y+0 - j):=by
  funext i j;rw[Bu F hn];congr 1<;>lia
 rw[e];show _=match bX (λi j=>onB a b c d (1*x+0*y+0 - i) (0*x+1*y+0 - j)) 0 L with|some c=>cell [0,1,2,3,4,5,6] ((c:Int) - 48)|none=>0
 cases q:bX (λi j=>onB a b c d (1*x+0*y+0 - i) (0*x+1*y+0 - j)) 0 L with
 |none=>rfl
 |some c=>
  have hc:49<=c/\c<=54:=ky (λl' q=>let ⟨_,_,_,h⟩:=hL;(h l' q).2) q;exact(Bv hc).symm
def bP(j:Nat)(x:IT):SpX:=λds R RX=>∃ (p:Pat) (k:Nat) (v:D) (X Y:Int),ds=[v,.int X,.int Y]/\FormOf p k v/\p.Wf/\p.depth<j/\p.cls=x/\R (.int (p.show X Y))
def fj{x:IT}:¬ ofX (bP 0 x) ds M R RX:=by
 rintro⟨_,_,_,_,_,_,_,_,h,_⟩;exact absurd h (F9 _)
structure PatOf(p:Pat)(w h s:Int)(fs:List (Str × D)):Prop extends Pat.Fam p w h s where
 form:∃ k v,fs.lookup ("form":IT)=be v/\FormOf p k v
def aK(p:Pat)(d:D):Prop:=∃ w h s fs,d= .obj "Pattern" fs/\fs.lookup ("text":IT)=be (.str p.text)/\fs.lookup ("shifts":IT)=be (.tup [.int w,.int h,.int s])/\PatOf p w h s fs
def aC(x:Int):Prop:=-1000000000000<=x/\x<=1000000000000
def Pat.show_le(h:p.Wf)(hd:p.depth<=40)(x y:Int):0<=p.show x y/\p.show x y<=6:=by
 rw[<- Pat.show_leaves h hd];exact sf x y (Pat.leaf_ok h hd)
def signOf(h:Int):Nat:=if h=0 then 46 else(48+h).toNat
def av(p:Pat)(x y:Int)(n:Nat):Str:=⟨((EM n).map λ(k:Nat)=>signOf (p.show (x+(k:Int)) y)).toArray⟩
def kI(p:Pat)(x y:Int)(n:Nat):(av p x y n).length=n:=by simp[av,Str.length]
def kJ(h0:0<=h)(h6:h<=6):atI (cs ".123456") h=be (signOf h):=by
 rcases(by lia:h=0\/h=1\/h=2\/h=3\/h=4\/h=5\/h=6) with e|e|e|e|e|e|e<;>subst e<;>decide+kernel
def range2_int{k:Nat}{x:D}(h:((EM (j - i).toNat).map λk=>D.int (i+((k:Nat):Int)))[k]?=be x):k<(j - i).toNat/\x= .int (i+(k:Int)):=by
 have hk:k<(j - i).toNat:=by simpa using(E6.mp h).1
 refine⟨hk,?_⟩;simp[hk] at h;exact h.symm
def Pat.Fits.over_parts(hp:p.Wf)(hq:q.Wf)(h:(Pat.over p q).Fits):p.Fits/\q.Fits:=by
 obtain⟨w,k,s,f,hb⟩:=h;obtain⟨w1,k1,s1,f1⟩:=Pat.fam_ex hp;obtain⟨w2,k2,s2,f2⟩:=Pat.fam_ex hq;have l1:=(InF.le f1.f.w0 f1.f.h0 f.f.w0 f.f.h0 (λx y z=>(f1.lat x y).mpr ((f.lat x y).mp z).1)).1;have l2:=(InF.le f2.f.w0 f2.f.h0 f.f.w0 f.f.h0 (λx y z=>(f2.lat x y).mpr ((f.lat x y).mp z).2)).1;exact⟨⟨w1,k1,s1,f1,by lia⟩,⟨w2,k2,s2,f2,by lia⟩⟩
def Pat.Fits.of_sh(h:(Pat.sh a b p).Fits):p.Fits:=by
 obtain⟨w,k,s,f,hb⟩:=h;exact⟨w,k,s,⟨f.f,f.lat⟩,hb⟩
def Pat.Fits.of_hue(h:(Pat.hue a b p).Fits):p.Fits:=by
 obtain⟨w,k,s,f,hb⟩:=h;exact⟨w,k,s,⟨f.f,f.lat⟩,hb⟩
def Pat.Fits.of_mir(hp:p.Wf)(h:(Pat.mir p).Fits):p.Fits:=by
 obtain⟨w,k,s,f,hb⟩:=h;obtain⟨w1,k1,s1,f1⟩:=Pat.fam_ex hp;obtain⟨rfl,rfl,_⟩:=f.uniq f1.mir;exact⟨_,_,_,f1,hb⟩
def Pat.Fits.of_tur(hp:p.Wf)(h:(Pat.tur p).Fits):p.Fits:=by
 obtain⟨w,k,s,f,hb⟩:=h;obtain⟨w1,k1,s1,f1⟩:=Pat.fam_ex hp;obtain⟨w',k',s',f',e⟩:=fO (s:=s1) f1.f.w0 f1.f.h0;obtain⟨rfl,rfl,_⟩:=f.uniq (f1.tur f');exact⟨_,_,_,f1,by lia⟩
def Pat.cal_of:∀ {p:Pat},p.Wf->p.Fits->p.Cal
 | .mot ..,_,_=>trivial
 | .over p q,h,f=>by
  obtain⟨f1,f2⟩:=Pat.Fits.over_parts h.1 h.2 f;exact⟨Pat.cal_of h.1 f1,Pat.cal_of h.2 f2,λ_ _=>⟨f1.wide,f2.wide⟩⟩
 | .sh a b p,h,f=>Pat.cal_of (p:=p) h.2.2 f.of_sh
 | .mir p,h,f=>Pat.cal_of (p:=p) h (f.of_mir h)
 | .tur p,h,f=>⟨Pat.cal_of (p:=p) h (f.of_tur h),λ_=>Pat.Fits.wide (p:=p) (f.of_tur h)⟩
 | .hue a b p,h,f=>Pat.cal_of (p:=p) h.2.2 f.of_hue
def Pat.cal_w:∀ {p:Pat} {w h s:Int},p.Wf->p.Cal->p.Fam w h s->w<=1125899906842624
 | .mot L a b c d,w,h,s,f7,_,f=>by
  have:=(Pat.fits_mot (L:=L) f7.2.1 f7.2.2.1 f7.2.2.2.1 f7.2.2.2.2.1 f7.2.2.2.2.2).small f;lia
 | .over p q,w,h,s,f7,hc,f=>by
  obtain⟨f1,f2⟩:=hc.2.2 f7.1 f7.2;obtain⟨w1,k1,s1,g1⟩:=Pat.fam_ex f7.1;obtain⟨w2,k2,s2,g2⟩:=Pat.fam_ex f7.2;have a1:=f1.small g1;have a2:=f2.small g2;have G_:InF w h s (w1*w2) 0:=(f.lat _ _).mpr ⟨(g1.lat _ _).mp ⟨w2,0,by rw[EW];lia,by lia⟩,(g2.lat _ _).mp ⟨w1,0,by lia,by lia⟩⟩;obtain⟨i,j,e1,e2⟩:=G_;have hj:j=0:=by
   rcases Hg.mp e2.symm with z|z
   .exact z
   .have:=f.f.h0;lia
  subst hj;have hp:0<w1*w2:=E5 a1.1 a2.1;have e3:w1*w2=i*w:=by lia
  have hi:0<i:=by
   have:=f.f.w0;rcases(by lia:i<=0\/0<i) with z|z
   .have:=Ga z (show 0<=w by lia);lia
   .exact z
  have h1:=Fe (show 1<=i by lia) (show 0<=w by have:=f.f.w0;lia);have h2:=bv (a:=w1) (d:=w2) (A:=33554432) (B:=33554432) (by lia) (by lia);lia
 | .sh a b p,w,h,s,f7,hc,f=>Pat.cal_w (p:=p) f7.2.2 hc ⟨f.f,f.lat⟩
 | .mir p,w,h,s,f7,hc,f=>by
  obtain⟨w1,k1,s1,f1⟩:=Pat.fam_ex (p:=p) f7;obtain⟨rfl,_,_⟩:=f.uniq f1.mir;exact Pat.cal_w (p:=p) f7 hc f1
 | .tur p,w,h,s,f7,hc,f=>by
  have:=(hc.2 f7).tur.small f;lia
 | .hue a b p,w,h,s,f7,hc,f=>Pat.cal_w (p:=p) f7.2.2 hc ⟨f.f,f.lat⟩
def sS:∀ L:List IT,cs (Str.join "" L)=L.flatMap cs
 |[]=>rfl
 |[x]=>by simp[Str.join]
 |x::y::r=>by
  show cs (x++""++Str.join "" (y::r))=_;rw[aY,aY,sS (y::r),AC];simp
def Bw(f:Nat->Nat)(n:Nat):Str.join "" ((EM n).map λi=>(⟨#[f i]⟩:IT))=⟨((EM n).map f).toArray⟩:=by
 apply cC;rw[sS,List.flatMap_map];show(EM n).flatMap (λi=>[f i])=(EM n).map f;rw[List.map_eq_flatMap]
def cV{e:Nat}:∀ {a b x y:List Nat},e ∉ a->e ∉ b->a++e::x=b++e::y->a=b/\x=y
 |[],[],x,y,_,_,h=>by cases h;exact⟨rfl,rfl⟩
 |[],c::b,x,y,_,hb,h=>by
  cases h;exact absurd E2 hb
 |c::a,[],x,y,ha,_,h=>by
  cases h;exact absurd E2 ha
 |c::a,d::b,x,y,ha,hb,h=>by
  have h':c::(a++e::x)=d::(b++e::y):=h;injection h' with h1 h2;obtain⟨e1,e2⟩:=cV (λz=>ha (EV _ z)) (λz=>hb (EV _ z)) h2;exact⟨by rw[h1,e1],e2⟩
def fk(ha:B12 a)(hb:B12 b)(h:numL a=numL b):a=b:=by
 have h1:=kC ha;rw[h,kC hb] at h1;exact(Option.some.inj h1).symm
def By(ha:B12 a):∀ c∈numL a,c=45\/(48<=c/\c<=57):=by
 rcases numL_is ha with⟨c,hc,e⟩|⟨c,hc,e⟩|⟨c,hc,e⟩|⟨c,hc,e⟩<;>rw[e]<;>simp<;>lia
def cn(ha:B12 a)(he:endS e):e ∉ numL a:=λz=>by
 have:=By ha e z;unfold endS at he;lia
def rowsL_chars:∀ {L:List (List Nat)},(∀ x∈L,∀ c∈x,aJ c)->∀ c∈rowsL L,aJ c\/c=47
 |[],_,c,h=>by cases h
 |[x],hx,c,h=> .inl (hx x E2 c h)
 |x::y::L,hx,c,h=>by
  have h':c∈x++47::rowsL (y::L):=h;rcases Fk.mp h' with z|z
  .exact .inl (hx x E2 c z)
  .rcases ER.mp z with z|z
   .exact .inr z
   .exact rowsL_chars (λx q=>hx x (EV _ q)) c z
def fP{c:Nat}(h:aJ c):c≠47/\c≠59:=by unfold aJ at h;lia
def sT:∀ {L M:List (List Nat)},L≠[]->M≠[]->(∀ x∈L,∀ c∈x,aJ c)->(∀ x∈M,∀ c∈x,aJ c)->rowsL L=rowsL M->L=M
 |[],_,h,_,_,_,_=>absurd rfl h
 |_,[],_,h,_,_,_=>absurd rfl h
 |[x],[y],_,_,_,_,h=>by rw[show x=y from h]
 |[x],y::z::M,_,_,hx,_,h=>by
  have h':x=y++47::rowsL (z::M):=h;have:(47:Nat)∈x:=by rw[h'];simp
  exact absurd rfl (fP (hx x E2 47 this)).1
 |x::z::L,[y],_,_,_,hy,h=>by
  have h':x++47::rowsL (z::L)=y:=h;have:(47:Nat)∈y:=by rw[<- h'];simp
  exact absurd rfl (fP (hy y E2 47 this)).1
 |x::z::L,y::z'::M,_,_,hx,hy,h=>by
  have h':x++47::rowsL (z::L)=y++47::rowsL (z'::M):=h;obtain⟨e1,e2⟩:=cV (λq=>(fP (hx x E2 47 q)).1 rfl) (λq=>(fP (hy y E2 47 q)).1 rfl) h';rw[e1,sT (L:=z::L) (M:=z'::M) (λq=>nomatch q) (λq=>nomatch q) (λx q=>hx x (EV _ q)) (λx q=>hy x (EV _ q)) e2]
def sU:∀ {L M:List IT},L.map cs=M.map cs->L=M
 |[],[],_=>rfl
 |[],_::_,h=>by cases h
 |_::_,[],h=>by cases h
 |x::L,y::M,h=>by
  rw[E4,E4] at h;injection h with h1 h2;rw[cC h1,sU h2]
def Bz{L':List IT}{a' b' c' d':Int}{x y:List Nat}(h:(Pat.mot L a b c d).Syn)(h':(Pat.mot L' a' b' c' d').Syn)(e:(Pat.mot L a b c d).tl++x=(Pat.mot L' a' b' c' d').tl++y):Pat.mot L a b c d=Pat.mot L' a' b' c' d'/\x=y:=by
 have e0:91::(rowsL (L.map cs)++59::(numL a++44::(numL b++59::(numL c++44::(numL d++93::x)))))=91::(rowsL (L'.map cs)++59::(numL a'++44::(numL b'++59::(numL c'++44::(numL d'++93::y))))):=by
  simpa[Pat.tl,motL] using e
 injection e0 with _ e1;have sg:∀ {L:List IT},Rows L->∀ x∈L.map cs,∀ c∈x,aJ c:=λ{L} hL x hx=>by
  obtain⟨l,hl,rfl⟩:=Fg.mp hx;obtain⟨_,w,_,q⟩:=hL;exact(q l hl).2
 have NP:∀ {L:List IT},Rows L->(59:Nat) ∉ rowsL (L.map cs):=λ{L} hL z=>by
  rcases rowsL_chars (sg hL) 59 z with q|q
  .exact(fP q).2 rfl
  .cases q
 have ne:∀ {L:List IT},Rows L->L.map cs≠[]:=λ{L} hL z=>by
  have h1:=hL.many.1;have h2:=congrArg FX z;rw[EY] at h2;simp at h2;rw[h2] at h1;simp at h1
 obtain⟨q1,e2⟩:=cV (NP h.1) (NP h'.1) e1;obtain⟨q2,e3⟩:=cV (cn h.2.1 (.inl rfl)) (cn h'.2.1 (.inl rfl)) e2;obtain⟨q3,e4⟩:=cV (cn h.2.2.1 (.inr (.inl rfl))) (cn h'.2.2.1 (.inr (.inl rfl))) e3;obtain⟨q4,e5⟩:=cV (cn h.2.2.2.1 (.inl rfl)) (cn h'.2.2.2.1 (.inl rfl)) e4;obtain⟨q5,e6⟩:=cV (cn h.2.2.2.2 (.inr (.inr (.inr rfl)))) (cn h'.2.2.2.2 (.inr (.inr (.inr rfl)))) e5;rw[sU (sT (ne h.1) (ne h'.1) (sg h.1) (sg h'.1) q1),fk h.2.1 h'.2.1 q2,fk h.2.2.1 h'.2.2.1 q3,fk h.2.2.2.1 h'.2.2.2.1 q4,fk h.2.2.2.2 h'.2.2.2.2 q5];exact⟨rfl,e6⟩
def Pat.head:Pat->Nat
 | .mot ..=>91| .over ..=>40| .sh ..=>115| .mir ..=>109| .tur ..=>116| .hue ..=>104
def Pat.tl_head(p:Pat):∃ l,p.tl=p.head::l:=by cases p<;>exact⟨_,rfl⟩
def dU{x y:List Nat}(e:p.tl++x=q.tl++y):p.head=q.head:=by
 obtain⟨l1,e1⟩:=p.tl_head;obtain⟨l2,e2⟩:=q.tl_head;rw[e1,e2] at e;have e':p.head::(l1++x)=q.head::(l2++y):=e;injection e'
def sV(h:1<=f/\f<=6)(h':1<=g/\g<=6)(e:(48+f).toNat=(48+g).toNat):f=g:=by lia
def BA{x y:List Nat}(hp:p.Syn)(hq:q.Syn)(e:p.tl++x=q.tl++y):p=q/\x=y:=by
 have hh:=dU e;induction p generalizing q x y with
 |mot=>
  cases q with
  |mot=>exact Bz hp hq e
  |_=>simp[Pat.head] at hh
 |over p q i1 i2=>
  cases q with
  |over p' q'=>
   have e0:40::(p.tl++124::(q.tl++41::x))=40::(p'.tl++124::(q'.tl++41::y)):=by simpa[Pat.tl] using e
   injection e0 with _ e1;obtain⟨rfl,e2⟩:=i1 hp.1 hq.1 e1 (dU e1);injection e2 with _ e3;obtain⟨rfl,e4⟩:=i2 hp.2 hq.2 e3 (dU e3);injection e4 with _ e5;exact⟨rfl,e5⟩
  |_=>simp[Pat.head] at hh
 |sh a b p i=>
  cases q with
  |sh a' b' p'=>
   have e0:115::(numL a++44::(numL b++58::(p.tl++x)))=115::(numL a'++44::(numL b'++58::(p'.tl++y))):=by simpa[Pat.tl] using e
   injection e0 with _ e1;obtain⟨q2,e3⟩:=cV (cn hp.1 (.inl rfl)) (cn hq.1 (.inl rfl)) e1;obtain⟨q3,e4⟩:=cV (cn hp.2.1 (.inr (.inr (.inl rfl)))) (cn hq.2.1 (.inr (.inr (.inl rfl)))) e3;obtain⟨rfl,e5⟩:=i hp.2.2 hq.2.2 e4 (dU e4);rw[fk hp.1 hq.1 q2,fk hp.2.1 hq.2.1 q3];exact⟨rfl,e5⟩
  |_=>simp[Pat.head] at hh
 |mir p i=>
  cases q with
  |mir p'=>
   have e0:109::(p.tl++x)=109::(p'.tl++y):=e;injection e0 with _ e1;obtain⟨rfl,e5⟩:=i (q:=p') hp hq e1 (dU e1);exact⟨rfl,e5⟩
  |_=>simp[Pat.head] at hh
 |tur p i=>
  cases q with
  |tur p'=>
   have e0:116::(p.tl++x)=116::(p'.tl++y):=e;injection e0 with _ e1;obtain⟨rfl,e5⟩:=i (q:=p') hp hq e1 (dU e1);exact⟨rfl,e5⟩
  |_=>simp[Pat.head] at hh
 |hue f g p i=>
  cases q with
  |hue f' g' p'=>
   have e0:104::(numL f++(numL g++(p.tl++x)))=104::(numL f'++(numL g'++(p'.tl++y))):=by simpa[Pat.tl] using e
   rw[hueL hp.1,hueL hp.2.1,hueL hq.1,hueL hq.2.1] at e0;have e1:104::(48+f).toNat::(48+g).toNat::(p.tl++x)=104::(48+f').toNat::(48+g').toNat::(p'.tl++y):=e0;injection e1 with _ e2;injection e2 with e3 e4;injection e4 with e5 e6;obtain⟨rfl,e7⟩:=i hp.2.2 hq.2.2 e6 (dU e6);rw[sV hp.1 hq.1 e3,sV hp.2.1 hq.2.1 e5];exact⟨rfl,e7⟩
  |_=>simp[Pat.head] at hh
def BB:SiD:=λds R=>∃ (t:IT) (w h s:Int) (x:IT) (fs:List (IT × D)),ds=[.str t,.tup [.int w,.int h,.int s],.obj x fs]/\R [("text",.str t),("shifts",.tup [.int w,.int h,.int s]),("form",.obj x fs)]
def BC:SiD:=λds R=>∃ i:Int,ds=[.int i]/\R [("place",.int i)]
def BD:SiD:=λds R=>∃ i:Int,ds=[.int i]/\R [("place",.int i)]
def sW:SpX:=λds R RX=>(∃ (t:IT) (k:Nat),ds=[.str t]/\t.length<=100000/\dh t=be k/\RX "WrongSign" [("place",.int k)])\/
 ∃ p:Pat,ds=[.str p.text]/\p.Syn/\p.depth<=5/\p.Cal/\(∀ k:Nat,p.lineAt 0=be k->RX "OneLine" [("place",.int k)])/\(p.lineAt 0=z7->¬ p.Fits->RX "TooGreat" [])/\(p.lineAt 0=z7->p.Fits->∀ d,aK p d->R d)
def sX{R:D->Prop}(ok:p.Ok)(h:∀ d,aK p d->R d):qV sW [.str p.text] R:=
 .inr ⟨p,rfl,ok.wf.syn,ok.deep,Pat.cal_of ok.wf ok.fits,(λk e=>by rw[Pat.wf_line 0 ok.wf] at e;cases e),λ_ z=>z ok.fits,λ_ _=>h⟩
def BE:SpX:=λds R RX=>∃ x y:Int,ds=[.int x,.int y]/\(aC x/\aC y->R .non)/\(¬ (aC x/\aC y)->RX "TooFar" [])
def BF:SpX:=λds R RX=>∃ (p:Pat) (d:D) (x y:Int),ds=[d,.int x,.int y]/\aK p d/\p.Ok/\(aC x/\aC y->R (.int (p.show x y)))/\(¬ (aC x/\aC y)->RX "TooFar" [])
def BG:SpD:=λds R=>∃ (p:Pat) (d:D) (x y:Int) (n:Nat),ds=[d,.int x,.int y,.int n]/\aK p d/\p.Ok/\n<=1000/\aC x/\aC (x+n - 1)/\aC y/\R (.str (av p x y n))
def BH{n:Int}:x.fmod n=0↔n∣x:=⟨Int.dvd_of_fmod_eq_zero,Hb⟩
def BI(a b c d u v i j:Int):onB a b c d (u+(i*a+j*c)) (v+(i*b+j*d))=onB a b c d u v:=by
 unfold onB;have e1:(u+(i*a+j*c))*d - (v+(i*b+j*d))*c=(u*d - v*c)+(a*d - b*c)*i:=by grind
 have e2:a*(v+(i*b+j*d)) - b*(u+(i*a+j*c))=(a*v - b*u)+(a*d - b*c)*j:=by grind
 rw[e1,e2];simp only[BH];have h1:(a*d - b*c∣u*d - v*c+(a*d - b*c)*i)↔a*d - b*c∣u*d - v*c:=Ih (Ii _ _);have h2:(a*d - b*c∣a*v - b*u+(a*d - b*c)*j)↔a*d - b*c∣a*v - b*u:=Ih (Ii _ _);simp only[h1,h2]
def Pat.Keeps(p:Pat)(X Y:Int):Prop:=∀ x y,p.show (x+X) (y+Y)=p.show x y
def Pat.lat_keeps:∀ {p:Pat} {X Y:Int},p.Lat X Y->p.Keeps X Y
 | .mot L a b c d,_,_,⟨i,j,rfl,rfl⟩,x,y=>by
  have e:∀ u v:Int,onB a b c d (1*(x+(i*a+j*c))+0*(y+(i*b+j*d))+0 - u) (0*(x+(i*a+j*c))+1*(y+(i*b+j*d))+0 - v)=onB a b c d (1*x+0*y+0 - u) (0*x+1*y+0 - v):=λu v=>by
   rw[<- BI a b c d (1*x+0*y+0 - u) (0*x+1*y+0 - v) i j];congr 1<;>lia
  show Leaf.shows _ _ _=Leaf.shows _ _ _;unfold Leaf.shows Leaf.hit;simp only[bJ,e]
 | .over p q,X,Y,h,x,y=>by
  simp only[Pat.show];rw[Pat.lat_keeps h.1 x y,Pat.lat_keeps h.2 x y]
 | .sh a b p,X,Y,h,x,y=>by
  have:=Pat.lat_keeps (p:=p) h (x - a) (y - b);simp only[Pat.show];rw[<- this];congr 1<;>lia
 | .mir p,X,Y,h,x,y=>by
  have:=Pat.lat_keeps (p:=p) h (-x) y;simp only[Pat.show];rw[<- this];congr 1;lia
 | .tur p,X,Y,h,x,y=>by
  have:=Pat.lat_keeps (p:=p) h y (-x);simp only[Pat.show];rw[<- this];congr 1;lia
 | .hue f g p,X,Y,h,x,y=>by
  simp only[Pat.show];rw[Pat.lat_keeps (p:=p) h x y]
namespace Pat.Keeps
variable {p:Pat}{X Y U V:Int}
def zero:p.Keeps 0 0:=λx y=>by rw[FA,FA]
def add(h:p.Keeps X Y)(k:p.Keeps U V):p.Keeps (X+U) (Y+V):=λx y=>by
 rw[<- GP,<- GP,k,h]
def neg(h:p.Keeps X Y):p.Keeps (-X) (-Y):=λx y=>by
 have:=h (x+-X) (y+-Y);rw[<- this];congr 1<;>lia
def sub(h:p.Keeps X Y)(k:p.Keeps U V):p.Keeps (X - U) (Y - V):=by
 have:=h.add k.neg;rwa [<- Ij,<- Ij] at this
def nat(h:p.Keeps X Y):∀ n:Nat,p.Keeps ((n:Int)*X) ((n:Int)*Y)
 |0=>by simpa using zero
 |n+1=>by
  have:=(nat h n).add h;have e:∀ z:Int,((n+1:Nat):Int)*z=(n:Int)*z+z:=λz=>by rw[FV,FE];simp
  rw[e,e];exact this
def mul(h:p.Keeps X Y)(n:Int):p.Keeps (n*X) (n*Y):=by
 rcases Int.le_total 0 n with q|q
 .have:=h.nat n.toNat;rwa [Fb q] at this
 .have:=(h.nat (-n).toNat).neg;rw[Fb (by lia)] at this;simpa[FS] using this
end Pat.Keeps
def InF.keeps(a:p.Keeps w 0)(b:p.Keeps s h)(q:InF w h s x y):p.Keeps x y:=by
 obtain⟨i,j,rfl,rfl⟩:=q;have:=(a.mul i).add (b.mul j);rwa [Fp,Gs] at this
def InF.one(w h s:Int):InF w h s w 0:=⟨1,0,by lia,by lia⟩
def InF.two(w h s:Int):InF w h s s h:=⟨0,1,by lia,by lia⟩
def Pat.Fam.keeps(f:p.Fam w h s)(q:InF w h s x y):p.Keeps x y:=Pat.lat_keeps ((f.lat x y).mp q)
structure Pat.Kfam(p:Pat)(w h s:Int):Prop where
 f:Fam0 w h s
 keeps:∀ {x y},InF w h s x y->p.Keeps x y
def Pat.Fam.k(F:p.Fam w h s):p.Kfam w h s:=⟨F.f,F.keeps⟩
structure Pat.Least(p:Pat)(w h s:Int):Prop where
 f:Fam0 w h s
 lat:∀ x y,InF w h s x y↔p.Keeps x y
def Pat.Least.uniq(a:p.Least w h s)(b:p.Least w' h' s'):w=w'/\h=h'/\s=s':=
 InF.uniq a.f.w0 a.f.h0 a.f.s0 a.f.sw b.f.w0 b.f.h0 b.f.s0 b.f.sw λx y=>(a.lat x y).trans (b.lat x y).symm
def BJ{P:Nat->Prop}(h:∃ n,P n):∃ n,P n/\∀ m,P m->n<=m:=by
 obtain⟨n,hn⟩:=h;induction n using Ik with
 |ind n ih=>
  by_cases q:∃ m,m<n/\P m
  .obtain⟨m,hm,pm⟩:=q;exact ih m hm pm
  .exact⟨n,hn,λm pm=>Gj λz=>q ⟨m,z,pm⟩⟩
def sY(hw:0<w)(h:P w):∃ n:Int,0<n/\P n/\∀ m,0<m->P m->n<=m:=by
 obtain⟨n,⟨a,b⟩,c⟩:=BJ (P:=λn=>0<n/\P (n:Int)) ⟨w.toNat,by lia,by rw[Fb (by lia)];exact h⟩;exact⟨n,by lia,b,λm hm pm=>by have:=c m.toNat ⟨by lia,by rw[Fb (by lia)];exact pm⟩;lia⟩
def sZ{n:Int}(hn:0<n)(pn:P n)(l:∀ m,0<m->P m->n<=m)(cl:∀ x q,P x->P (x - q*n))(hx:P x):n∣x:=by
 have e:=Fo x n;have a:=Fc x (by lia:n≠0);have b:=Fd x hn;have c:=cl x (x / n) hx;have d:x - x / n*n=x % n:=by rw[e,EW]
 rw[d] at c;by_cases z:x % n=0
 .exact Hh z
 .have:=l _ (by lia) c;lia
def Pat.least_ex(F:p.Kfam w h s):∃ w' h' s',p.Least w' h' s'/\w'∣w/\h'∣h/\w'*h'<=w*h/\w'<=w/\h'<=h:=by
 obtain⟨m,m0,mk,ml⟩:=sY (P:=λx=>p.Keeps x 0) F.f.w0 (F.keeps (InF.one w h s));have md:∀ {x},p.Keeps x 0->m∣x:=λ{x} q=>sZ (P:=λx=>p.Keeps x 0) m0 mk ml (λx q hx=>by
  have:=hx.sub (mk.mul q);rwa [Fp,Gu] at this) q
 obtain⟨k,k0,⟨t,kk⟩,kl⟩:=sY (P:=λy=>∃ x,p.Keeps x y) F.f.h0 ⟨s,F.keeps (InF.two w h s)⟩;have kd:∀ {x y},p.Keeps x y->k∣y:=λ{x y} q=>sZ (P:=λy=>∃ x,p.Keeps x y) k0 ⟨t,kk⟩ kl (λy q ⟨x,hx⟩=>⟨x - q*t,hx.sub (kk.mul q)⟩) ⟨x,q⟩;have e:=Fo t m;have sk:p.Keeps (t % m) k:=by
  have:=kk.sub (mk.mul (t / m));rw[Fp,Gu] at this;rw[e,EW];exact this
 have L:p.Least m k (t % m):=by
  refine⟨⟨m0,k0,Fc t (by lia),Fd t m0⟩,λx y=>⟨λq=>q.keeps mk sk,λq=>?_⟩⟩;obtain⟨j,rfl⟩:=kd q;have:=q.sub (sk.mul j);rw[EW k j,Int.sub_self] at this;obtain⟨i,hi⟩:=md this;exact⟨i,j,by rw[EW i m,<- hi];lia,EW _ _⟩
 obtain⟨a,b,c⟩:=InF.le m0 k0 F.f.w0 F.f.h0 (λx y q=>(L.lat x y).mpr (F.keeps q));exact⟨m,k,_,L,md (F.keeps (InF.one w h s)),kd (F.keeps (InF.two w h s)),a,b,c⟩
def tf(hw:0<w)(hh:0<h)(x y:Int):InF w h s (x - hmX w h s x y) (y - y % h):=by
 have e1:=Fo y h;have e2:=Fo (x - y / h*s) w;refine⟨(x - y / h*s) / w,y / h,?_,by rw[e1,EW];lia⟩;unfold hmX;rw[e2,EW w];lia
def Pat.show_home(hw:0<w)(hh:0<h)(k:∀ x y,InF w h s x y->p.Keeps x y)(x y:Int):p.show (hmX w h s x y) (y % h)=p.show x y:=by
 have:=k _ _ (tf (s:=s) hw hh x y) (hmX w h s x y) (y % h);rw[<- this];congr 1<;>lia
def BK(f:Nat->Nat){w c:Nat}(h:c<w):((EM w).map f).drop c++((EM w).map f).take c=(EM w).map λk=>f ((c+k) % w):=by
 apply Gm;intro i;by_cases h1:i<w - c
 .rw[Fu (by simp;exact h1),List.getElem?_drop,E3,E3,Fq (by lia),Fq (by lia)];simp[Il (show c+i<w by lia)]
 .rw[FC (by simp;lia)];simp only[Gg,EY,Gv];by_cases h2:i<w
  .rw[Hw (by lia),E3,E3,Fq (by lia),Fq (by lia)];have e:(c+i) % w=i - (w - c):=by
    rw[show c+i=(i - (w - c))+w by lia,Nat.add_mod_right,Il (by lia)]
   simp[e]
  .rw[F8 (by simp;lia),F8 (by simp;lia)]
def dw(l:List Nat):cs (⟨l.toArray⟩:IT)=l:=by simp
def BL(ht:cs t=l)(c0:0<=c)(cl:c<l.length):Txt.slice t (be c) z7++Txt.slice t z7 (be c)=(⟨(l.drop c.toNat++l.take c.toNat).toArray⟩:IT):=by
 have hl:t.length=l.length:=by rw[<- ht,bj]
 apply cC;rw[aY,slice_cps,slice_cps,dw,dw,dw,show t.cps.toList=l from ht,hl];have e1:HT.sIx l.length 0 (be c)=c.toNat:=by show(if c<0 then _ else min c.toNat l.length)=_;rw[if_neg (by lia)];lia
 have e2:HT.sIx l.length l.length z7=l.length:=rfl;have e3:HT.sIx l.length 0 z7=0:=rfl;have e4:HT.sIx l.length l.length (be c)=c.toNat:=by show(if c<0 then _ else min c.toNat l.length)=_;rw[if_neg (by lia)];lia
 rw[e1,e2,e3,e4,Im,HN (by simp)];rfl
def cq(p:Pat)(x y:Int)(n:Nat):cs (av p x y n)=(EM n).map λ(k:Nat)=>signOf (p.show (x+(k:Int)) y):=dw _
def BM(hw:0<w)(hh:0<h)(k:∀ x y,InF w h s x y->p.Keeps x y)(x y:Int):
  Txt.slice (av p 0 (y % h) w.toNat) (be (hmX w h s x y)) z7++Txt.slice (av p 0 (y % h) w.toNat) z7 (be (hmX w h s x y))=av p x y w.toNat:=by
 have c0:0<=hmX w h s x y:=Fc _ (by lia);have c1:hmX w h s x y<w:=Fd _ hw;rw[BL (cq p 0 (y % h) w.toNat) c0 (by simp;lia),BK _ (by lia)];unfold av;congr 2;apply GK;intro i _;have e:=Pat.show_home hw hh k (x+(i:Int)) y;rw[<- e];congr 2;have q:hmX w h s (x+(i:Int)) y=(hmX w h s x y+i) % w:=by
  unfold hmX;rw[Int.emod_add_emod];congr 1;lia
 rw[q,Gs,Io,FV,Fb c0,Fb (by lia)]
def cr(p:Pat)(w h:Int):D:= .lst ((EM h.toNat).map λ(y:Nat)=>D.str (av p 0 (y:Int) w.toNat))
def BN:SpD:=λds R=>∃ (p:Pat) (d:D),ds=[d]/\aK p d/\p.Ok/\∀ w h s,p.Fam w h s->w*h<=720->w<=720->h<=720->R (cr p w h)
def BO:SpD:=λds R=>∃ (p:Pat) (w h s x y:Int),ds=[.tup [.int w,.int h,.int s],cr p w h,.int x,.int y]/\p.Fam w h s/\w<=720/\h<=720/\R (.str (av p x y w.toNat))
def kK(a0:0<=a)(a6:a<=6)(b0:0<=b)(b6:b<=6)(e:signOf a=signOf b):a=b:=by
 unfold signOf at e;split at e<;>split at e<;>lia
def BP(hp:p.Ok)(hq:q.Ok)(e:av p x y n=av q u v n){k:Nat}(hk:k<n):p.show (x+k) y=q.show (u+k) v:=by
 have e2:cs (av p x y n)=cs (av q u v n):=by rw[e]
 rw[cq,cq] at e2;have e3:=congrArg (λl=>l[k]?) e2;simp[hk] at e3;have a:=Pat.show_le hp.wf (by have:=hp.deep;lia) (x+k) y;have b:=Pat.show_le hq.wf (by have:=hq.deep;lia) (u+k) v;exact kK a.1 a.2 b.1 b.2 e3
def rowText_eq(e:∀ k:Nat,k<n->p.show (x+k) y=q.show (u+k) v):av p x y n=av q u v n:=by
 apply cC;rw[cq,cq];exact GK λk hk=>by rw[e k (by simpa using hk)]
def tm(ok:p.Ok)(F:p.Kfam w h s)(x y:Int):(∀ j:Nat,j<h.toNat->av p x (y+j) w.toNat=av p 0 j w.toNat)↔p.Keeps x y:=by
 have hw:=F.f.w0;have hh:=F.f.h0;constructor
 .intro e a b;have c0:0<=hmX w h s a b:=Fc _ (by lia);have c1:hmX w h s a b<w:=Fd _ hw;have d0:0<=b % h:=Fc _ (by lia);have d1:b % h<h:=Fd _ hh;have k:=F.keeps (tf (s:=s) hw hh a b);have q:=BP ok ok (e (b % h).toNat (by lia)) (k:=(hmX w h s a b).toNat) (by lia);rw[Fb c0,Fb d0] at q;have q1:=k (x+hmX w h s a b) (y+b % h);have q2:=k (0+hmX w h s a b) (b % h);rw[show x+hmX w h s a b+(a - hmX w h s a b)=a+x by lia,show y+b % h+(b - b % h)=b+y by lia] at q1;rw[show 0+hmX w h s a b+(a - hmX w h s a b)=a by lia,show b % h+(b - b % h)=b by lia] at q2;rw[q1,q2,q]
 .intro k j _;exact rowText_eq λi _=>by
   have:=k (0+i) j;rw[<- this];congr 1<;>lia
def BQ:SpD:=λds R=>∃ n:Int,ds=[.int n]/\0<n/\n<=1000/\∀ ns:List Int,ns.length<=1000->(∀ m,m∈ns↔1<=m/\m<=n/\n % m=0)->R (.lst (ns.map D.int))
def BR:SpD:=λds R=>∃ (p:Pat) (w h s x y:Int),ds=[.tup [.int w,.int h,.int s],cr p w h,.int x,.int y]/\p.Ok/\p.Fam w h s/\w<=720/\h<=720/\∀ b,(b=true↔p.Keeps x y)->R (.bl b)
structure Pat.LeastW(p:Pat)(w m:Int):Prop where
 lo:1<=m
 hi:m<=w
 md:w % m=0
 k:p.Keeps m 0
 l:∀ d,1<=d->d<=w->w % d=0->p.Keeps d 0->m<=d
def Pat.LeastW.eq{m:Int}(F:p.Fam w h s)(L:p.Least w' h' s')(a:p.LeastW w m):m=w':=by
 have w0:=L.f.w0;have k:p.Keeps w' 0:=(L.lat _ _).mp (InF.one _ _ _);obtain⟨i,j,e1,e2⟩:=(L.lat m 0).mpr a.k;have h0:=L.f.h0;have j0:j=0:=by
  rcases Gw j 0 with q|q|q
  .have:=GQ q h0;lia
  .exact q
  .have:=E5 q h0;lia
 subst j0;rw[Ip,FA] at e1;have lo:=a.lo;have i0:0<i:=by
  rcases Gw i 0 with q|q|q
  .have:=GQ q w0;lia
  .subst q;lia
  .exact q
 have h1:w'<=m:=by
  rw[e1];have:=Fe (show 1<=i by lia) (show 0<=w' by lia);lia
 obtain⟨i2,j2,f1,f2⟩:=(L.lat w 0).mpr (F.keeps (InF.one w h s));have Pa:j2=0:=by
  rcases Gw j2 0 with q|q|q
  .have:=GQ q h0;lia
  .exact q
  .have:=E5 q h0;lia
 subst Pa;have h2:=a.l w' (by lia) (by have:=a.hi;lia) (by rw[f1,Ip,FA];exact GN _ _) k;lia
def BS:SpD:=λds R=>∃ (p:Pat) (w h s:Int),ds=[.tup [.int w,.int h,.int s],cr p w h]/\p.Ok/\p.Fam w h s/\w<=720/\h<=720/\∀ m,p.LeastW w m->R (.int m)
def BT:SpD:=λds R=>∃ (p:Pat) (w h s m y:Int),ds=[.tup [.int w,.int h,.int s],cr p w h,.int m,.int y]/\p.Ok/\p.Fam w h s/\w<=720/\h<=720/\0<=m/\m<=720/\(∀ t,0<=t->t<m->p.Keeps t y->(∀ u,0<=u->u<t->¬ p.Keeps u y)->R (.int t))/\((∀ t,0<=t->t<m->¬ p.Keeps t y)->R .non)
def BU(h0:0<h)(e:h=j*h):j=1:=by
 have:(j - 1)*h=0:=by rw[Gr,<- e];lia
 rcases Hg.mp this with q|q<;>lia
def small_mul(w0:0<w)(a: -w<i*w)(b:i*w<w):i=0:=by
 rcases Gw i 0 with q|q|q
 .have:=Fe (show i<=-1 by lia) (show 0<=w by lia);lia
 .exact q
 .have:=Fe (show 1<=i by lia) (show 0<=w by lia);lia
def Pat.Least.slant{t:Int}(L:p.Least w h s)(a:0<=t)(b:t<w)(k:p.Keeps t h):t=s:=by
 obtain⟨i,j,e1,e2⟩:=(L.lat t h).mpr k;have j1:=BU L.f.h0 e2;subst j1;have s0:=L.f.s0;have sw:=L.f.sw;have:=small_mul (i:=i) L.f.w0 (by lia) (by lia);subst this;lia
def Pat.Least.row(L:p.Least w h s)(k:p.Keeps x y):p.Keeps (x % w) y:=by
 have e:=Fo x w;have:=k.sub (((L.lat _ _).mp (InF.one w h s)).mul (x / w));rw[Fp,Gu] at this;rw[e,EW];exact this
def Pat.Least.down(L:p.Least w h s)(k:p.Keeps x y)(y0:0<y):h<=y/\y % h=0:=by
 obtain⟨i,j,e1,e2⟩:=(L.lat x y).mpr k;have h0:=L.f.h0;have j0:0<j:=by
  rcases Gw j 0 with q|q|q
  .have:=GQ q h0;lia
  .subst q;lia
  .exact q
 have:=Fe (show 1<=j by lia) (show 0<=h by lia);exact⟨by lia,by rw[e2];exact GN _ _⟩
def BV:SpD:=λds R=>∃ (p:Pat) (d:D),ds=[d]/\aK p d/\p.Ok/\∀ w h s,p.Least w h s->w*h<=720->w<=720->h<=720->R (.tup [.int w,.int h,.int s])
def fm(p:Pat)(w h s:Int):D:= .tup [.int w,.int h,.int s,.tup ((EM h.toNat).map λ(y:Nat)=>D.str (av p 0 (y:Int) w.toNat))]
def BW:SpD:=λds R=>∃ (p:Pat) (d:D),ds=[d]/\aK p d/\p.Ok/\∀ w h s,p.Least w h s->w*h<=720->w<=720->h<=720->R (fm p w h s)
def BX:SpD:=λds R=>∃ xs:List Int,ds=[.tup (xs.map D.int),.tup (xs.map D.int)]/\xs.length<=1000/\R (.bl true)
def Pat.Least.le(F:p.Fam w h s)(L:p.Least w' h' s'):w'*h'<=w*h:=(InF.le L.f.w0 L.f.h0 F.f.w0 F.f.h0 (λx y q=>(L.lat x y).mpr (F.keeps q))).1
def BY(f:Nat->IT)(n:Nat):((EM n).map λ(i:Nat)=>D.str (f i))=((EM n).map f).map D.str:=by rw[FT];rfl
def Pat.Least.first(L:p.Least w h s)(k:p.Keeps x y)(y0:0<=y)(yh:y<h)(x0:0<=x)(xw:x<w):x=0/\y=0:=by
 obtain⟨i,j,e1,e2⟩:=(L.lat x y).mpr k;have h0:=L.f.h0;have j0:=small_mul (i:=j) h0 (by lia) (by lia);subst j0;have i0:=small_mul (i:=i) L.f.w0 (by lia) (by lia);subst i0;lia
def sumN(g:Nat->Int):Nat->Int
 |0=>0
 |n+1=>sumN g n+g n
def cD{g f:Nat->Int}:∀ {n:Nat},(∀ k,k<n->g k=f k)->sumN g n=sumN f n
 |0,_=>rfl
 |n+1,h=>by rw[sumN,sumN,cD λk hk=>h k (by lia),h n (by lia)]
def gX(g:Nat->Int)(n:Nat):∀ m:Nat,sumN g (n+m)=sumN g n+sumN (λk=>g (n+k)) m
 |0=>by simp[sumN]
 |m+1=>by rw[<- Nat.add_assoc,sumN,sumN,gX g n m];lia
def gY(g f:Nat->Int):∀ n:Nat,sumN (λk=>g k+f k) n=sumN g n+sumN f n
 |0=>rfl
 |n+1=>by simp only[sumN,gY g f n];lia
def gZ{g:Nat->Int}:∀ {n:Nat},(∀ k,k<n->g k=0)->sumN g n=0
 |0,_=>rfl
 |n+1,h=>by rw[sumN,gZ λk hk=>h k (by lia),h n (by lia)];rfl
def BZ{g:Nat->Int}(hN:0<N)(JX:∀ k,g (k+N)=g k)(n:Nat):sumN (λj=>(((n:Int) - 1 - j) / N+1)*g j) (min n N)=sumN g n:=by
 induction n using Ik with
 |ind n ih=>
  by_cases h:n<=N
  .rw[Iq h];refine cD λk hk=>?_;rw[Gx (by lia) (by lia)];simp
  .have e1:n=N+(n - N):=by lia
   have i:=ih (n - N) (by lia);have Mz:sumN (λk=>g (N+k)) (n - N)=sumN g (n - N):=cD λk _=>by rw[Gi];exact JX k
   rw[Nat.min_eq_right (by lia)];have e2:sumN g n=sumN g N+sumN g (n - N):=by
    conv=>lhs;rw[e1]
    rw[gX,Mz]
   rw[e2,<- i];have e3:min (n - N) N+(N - min (n - N) N)=N:=by lia
   have split:∀ f:Nat->Int,sumN f N=sumN f (min (n - N) N)+sumN (λk=>f (min (n - N) N+k)) (N - min (n - N) N):=λf=>by
    conv=>lhs;rw[<- e3]
    exact gX _ _ _
   rw[split,split g];have a:sumN (λj=>(((n:Int) - 1 - j) / N+1)*g j) (min (n - N) N)=sumN g (min (n - N) N)+sumN (λj=>((((n - N:Nat):Int) - 1 - j) / N+1)*g j) (min (n - N) N):=by
    rw[<- gY];refine cD λk hk=>?_;have q:((n:Int) - 1 - k) / N=(((n - N:Nat):Int) - 1 - k) / N+1:=by
     rw[show((n:Int) - 1 - k)=(((n - N:Nat):Int) - 1 - k)+1*N by lia,Ig _ _ (by lia)]
    rw[q,FE];lia
   have b:sumN (λk=>(((n:Int) - 1 - ((min (n - N) N+k:Nat):Int)) / N+1)*g (min (n - N) N+k)) (N - min (n - N) N)=sumN (λk=>g (min (n - N) N+k)) (N - min (n - N) N):=by
    refine cD λk hk=>?_;rw[Gx (by lia) (by lia)];simp
   rw[a,b];lia
def cntN(f:Nat->Int)(v:Int)(n:Nat):Int:=sumN (λk=>if f k=v then 1 else 0) n
def kL(f:Nat->Int)(v:Int):∀ n,0<=cntN f v n/\cntN f v n<=n
 |0=>by simp[cntN,sumN]
 |n+1=>by
  have:=kL f v n;unfold cntN at this ⊢;rw[sumN];split<;>lia
def B0{f:Nat->Int}{w:Nat}(hw:0<w)(JX:∀ k,f (k+w)=f k)(v:Int)(m:Nat):((m / w:Nat):Int)*cntN f v w+cntN f v (m % w)=cntN f v m:=by
 have key:∀ q r:Nat,cntN f v (w*q+r)=(q:Int)*cntN f v w+cntN f v r:=λq=>by
  have sh:∀ q k,f (w*q+k)=f k:=λq=>by
   induction q with
   |zero=>intro k;rw[Nat.mul_zero,Gd]
   |succ q ih=>intro k;rw[Ir,show w*q+w+k=w*q+k+w by lia,JX];exact ih k
  induction q with
  |zero=>intro r;simp
  |succ q ih=>
   intro r;rw[Ir,show w*q+w+r=w*q+(w+r) by lia,ih,FV,FE];have e:cntN f v (w+r)=cntN f v w+cntN f v r:=by
    unfold cntN;rw[gX];congr 1;refine cD λk _=>?_;rw[Gi w k,JX]
   rw[e];simp;lia
 have:=key (m / w) (m % w);rw[Nat.div_add_mod] at this;exact this.symm
def hJ(y:IT)(c:Nat):∀ (m a:Nat) (st:Array Nat × Nat),a+m=y.length+1->st.2<=a->st.1.size<=a->(forIn (List.range' a m) st (StrLaws.occBody y ⟨#[c]⟩ y.length (y.length+1))).run.fst.size=st.1.size+(((cs y).drop a).filter (·==c)).length
 |0,a,st,h,_,_=>by
  rw[Hi (by rw[bj];lia)];rfl
 |m+1,a,st,h,h1,h2=>by
  have l1:(⟨#[c]⟩:IT).length=1:=rfl;have q:=StrLaws.subAt_eq y ⟨#[c]⟩ a;rw[List.range'_succ,G5];by_cases ha:a<y.length
  .have hd:(cs y).drop a=(cs y)[a]'(by rw[bj];exact ha)::(cs y).drop (a+1):=Ic (by rw[bj];exact ha);rw[show y.cps.toList.drop a=_ from hd,l1] at q;rw[hd,List.filter_cons];by_cases e:(cs y)[a]'(by rw[bj];exact ha)=c
   .have eb:StrLaws.occBody y ⟨#[c]⟩ y.length (y.length+1) a st=pure (.yield (st.1.push a,a+1)):=by
     unfold StrLaws.occBody;rw[if_pos ⟨⟨⟨by lia,h1⟩,by rw[l1];lia⟩,by rw[q];simp[e]⟩,l1]
    rw[eb];have:=hJ y c m (a+1) (st.1.push a,a+1) (by lia) (EK _) (by simp;lia);simp only[e,beq_self_eq_true,if_true,EN];refine Eq.trans this ?_;simp only[Array.size_push];lia
   .have eb:StrLaws.occBody y ⟨#[c]⟩ y.length (y.length+1) a st=pure (.yield (st.1,st.2)):=by
     unfold StrLaws.occBody;rw[if_neg];rintro⟨_,z⟩;rw[q] at z;simp at z;exact e z
    rw[eb];have:=hJ y c m (a+1) st (by lia) (by lia) (by lia);rw[if_neg (by simpa using e)];exact this
  .have eb:StrLaws.occBody y ⟨#[c]⟩ y.length (y.length+1) a st=pure (.yield (st.1,st.2)):=by
    unfold StrLaws.occBody;rw[if_neg];rintro⟨⟨_,z⟩,_⟩;rw[l1] at z;lia
   rw[eb];have:=hJ y c m (a+1) st (by lia) (by lia) (by lia);rw[Hi (by rw[bj];lia)];rw[Hi (by rw[bj];lia)] at this;exact this
def B1(y:IT)(c:Nat):(Builtin.Str.occurrences y ⟨#[c]⟩ 0 y.length (y.length+1)).length=((cs y).filter (·==c)).length:=by
 rw[StrLaws.occ_eq,FN,hJ y c _ 0 _ (by lia) (EK _) (EK _)];simp
def tw(f:Nat->Int)(b:∀ k,0<=f k/\f k<=6){v:Int}(v0:0<=v)(v6:v<=6):∀ n:Nat,(((((EM n).map λk=>signOf (f k)).filter (·==signOf v)).length:Nat):Int)=cntN f v n
 |0=>rfl
 |n+1=>by
  rw[Gn,Fx,List.filter_append,EU,FV,tw f b v0 v6 n];show _=cntN f v n+_;congr 1;by_cases e:f n=v
  .simp[e]
  .have:¬ signOf (f n)=signOf v:=λz=>e (kK (b n).1 (b n).2 v0 v6 z);simp[this,e]
def B2(ok:p.Ok)(x y:Int)(v0:0<=v)(v6:v<=6)(n:Nat):(((cs (av p x y n)).filter (·==signOf v)).length:Int)=cntN (λk=>p.show (x+k) y) v n:=by
 rw[cq];exact tw _ (λk=>Pat.show_le ok.wf (by have:=ok.deep;lia) _ _) v0 v6 n
def B3(p:Pat)(x y:Int){r:Nat}(h:r<=n):Txt.slice (av p x y n) z7 (be (r:Int))=av p x y r:=by
 apply cC;rw[slice_cps,dw,cq,show(av p x y n).cps.toList=_ from cq p x y n,kI];have e1:HT.sIx n 0 z7=0:=rfl;have e2:HT.sIx n n (be (r:Int))=r:=by show(if(r:Int)<0 then((r:Int)+n).toNat else min (r:Int).toNat n)=r;rw[if_neg (by lia)];lia
 rw[e1,e2,Im,Nat.sub_zero,<- List.map_take,List.take_range,Iq h]
def occC(t:IT)(c:Nat):Int:=((Builtin.Str.occurrences t ⟨#[c]⟩ 0 t.length (t.length+1)).length:Nat)
def tz(ok:p.Ok)(x y:Int)(v0:0<=v)(v6:v<=6)(n:Nat):occC (av p x y n) (signOf v)=cntN (λk=>p.show (x+k) y) v n:=by
 unfold occC;rw[B1,B2 ok x y v0 v6]
def bt(p:Pat)(v left top:Int)(m n:Nat):Int:=sumN (λj=>cntN (λk=>p.show (left+k) (top+j)) v m) n
def bQ(p:Pat)(left top:Int)(m n:Nat):List Int:=(EM 7).map λ(v:Nat)=>bt p v left top m n
def B4:SpD:=λds R=>∃ (p:Pat) (x y v m:Int) (w:Nat),ds=[.str (av p x y w),.str ⟨#[signOf v]⟩,.int m]/\p.Ok/\0<=v/\v<=6/\0<w/\w<=720/\0<=m/\m<2 ^ 63/\p.Keeps w 0/\R (.int (cntN (λk=>p.show (x+k) y) v m.toNat))
def Pat.Fam.across(F:p.Fam w h s):p.Keeps w 0:=F.keeps (InF.one w h s)
def Pat.Fam.down(F:p.Fam w h s):p.Keeps 0 (w*h):=F.keeps ⟨-s,w,by rw[FS,EW w s];lia,rfl⟩
def B5(hN:0<N)(k:p.Keeps 0 N)(v left top:Int)(m n:Nat):sumN (λj=>(((n:Int) - 1 - j) / N+1)*cntN (λk=>p.show (left+k) (top+j)) v m) (min n N)=bt p v left top m n:=by
 refine BZ (g:=λj=>cntN (λk=>p.show (left+k) (top+j)) v m) hN (λj=>?_) n;unfold cntN;refine cD λi _=>?_;have e:p.show (left+i) (top+((j+N:Nat):Int))=p.show (left+i) (top+j):=by
  have:=k (left+i) (top+j);rw[FA] at this;rw[<- this,FV,GP]
 simp only[e]
def B6{α:Type}(f g:Nat->α){i:Nat}(h:∀ v,v<n->v≠i->g v=f v):((EM n).map f).set i (g i)=(EM n).map g:=by
 apply Gm;intro k;rw[F7];by_cases hk:i=k
 .subst hk;simp only[if_true,EY,Gv];by_cases hi:i<n
  .simp[hi]
  .simp[hi]
 .rw[if_neg hk];by_cases hi:k<n
  .simp[hi,h k hi (Ne.symm hk)]
  .simp[hi]
def B7:bE ".123456"=(EM 7).map λ(v:Nat)=>D.str ⟨#[signOf (v:Int)]⟩:=by
 unfold bE;rw[show(".123456":IT).cps.toList=[46,49,50,51,52,53,54] by decide+kernel];rfl
def bZ(p:Pat)(left top:Int)(m n N k:Nat)(v:Int):Int:=sumN (λj=>(((n:Int) - 1 - j) / N+1)*cntN (λi=>p.show (left+i) (top+j)) v m) k
variable{top a_:Int}
def B8{W:Int}(hn:(a_ - top+1).toNat=n)(wN:W=(N:Int)):((if top+W<a_+1 then top+W else a_+1) - top).toNat=min n N:=by split<;>lia
def B9{W:Int}(a: -1000000000000<=top/\top<=1000000000000)(c: -1000000000000<=a_/\a_<=1000000000000)(w0:0<W)(w1:W<=720): -(2 ^ 62)<=top/\top<2 ^ 62/\-(2 ^ 62)<=(if top+W<a_+1 then top+W else a_+1)/\(if top+W<a_+1 then top+W else a_+1)<2 ^ 62:=by split<;>lia
def Ca{k:Nat}(hn:(a_ - top+1).toNat=n)(hk:k<min n N):a_ - (top+k)=(n:Int) - 1 - k:=by lia
def tD{l r:Int}{m:Nat}(a: -1000000000000<=l/\l<=1000000000000)(b: -1000000000000<=r/\r<=1000000000000)(h:(r - l+1).toNat=m):m<=2000000000001:=by lia
def Cb(x:Int):(if 0>x then 0 else x)=(x.toNat:Int):=by split<;>lia
def Cc:SpX:=λds R RX=>∃ (p:Pat) (d:D) (left top right a_:Int),ds=[d,.int left,.int top,.int right,.int a_]/\aK p d/\p.Ok/\(aC left/\aC top/\aC right/\aC a_->R (.lst ((bQ p left top (right - left+1).toNat (a_ - top+1).toNat).map D.int)))/\(¬ (aC left/\aC top/\aC right/\aC a_)->RX "TooFar" [])
def Cd:SpX:=λds R RX=>∃ (p:Pat) (d:D) (hue left top right a_:Int),ds=[d,.int hue,.int left,.int top,.int right,.int a_]/\aK p d/\p.Ok/\0<=hue/\hue<=6/\(aC left/\aC top/\aC right/\aC a_->R (.int (bt p hue left top (right - left+1).toNat (a_ - top+1).toNat)))/\(¬ (aC left/\aC top/\aC right/\aC a_)->RX "TooFar" [])
def tE(X Y:Int):(Pat.mir p).Keeps X Y↔p.Keeps (-X) Y:=by
 constructor<;>intro h x y
 .have:=h (-x) y;simp only[Pat.show,GR,Iu] at this;exact this
 .have:=h (-x) y;simp only[Pat.show,GR];exact this
def tF(X Y:Int):(Pat.tur p).Keeps X Y↔p.Keeps Y (-X):=by
 constructor<;>intro h x y
 .have:=h (-y) x;simp only[Pat.show,GR,Iu] at this;exact this
 .have:=h y (-x);simp only[Pat.show,GR];exact this
def tG(a b X Y:Int):(Pat.sh a b p).Keeps X Y↔p.Keeps X Y:=by
 constructor<;>intro h x y
 .have:=h (x+a) (y+b);simp only[Pat.show] at this;rw[show x+a+X - a=x+X by lia,show y+b+Y - b=y+Y by lia,show x+a - a=x by lia,show y+b - b=y by lia] at this;exact this
 .have:=h (x - a) (y - b);simp only[Pat.show];rw[show x+X - a=x - a+X by lia,show y+Y - b=y - b+Y by lia];exact this
def Pat.Least.mir(k:p.Least w h s):(Pat.mir p).Least w h (-s % w):=by
 refine⟨⟨k.f.w0,k.f.h0,cz k.f.w0,cA k.f.w0⟩,λx y=>?_⟩;rw[tE,<- k.lat];have e:=Fo (-s) w;generalize -s % w=r at e;generalize -s / w=t at e;constructor
 .rintro⟨i,j,rfl,rfl⟩;exact⟨j*t - i,j,by rw[e];grind,rfl⟩
 .rintro⟨i,j,ex,rfl⟩;exact⟨j*t - i,j,by rw[e];grind,rfl⟩
def Pat.Least.tur(k:p.Least w h s)(f:FamOf 0 w (-h) s w' h' s'):(Pat.tur p).Least w' h' s':=by
 refine⟨⟨f.1,f.2.1,f.2.2.1,f.2.2.2.1⟩,λx y=>?_⟩;rw[tF,<- k.lat,f.lat];constructor
 .rintro⟨i,j,rfl,rfl⟩;exact⟨i,j,by grind,by grind⟩
 .rintro⟨i,j,ex,ey⟩;exact⟨i,j,by grind,by grind⟩
def Pat.Least.sh(a b:Int)(k:p.Least w h s):(Pat.sh a b p).Least w h s:=⟨k.f,λx y=>by rw[tG,k.lat]⟩
structure Mv(p q:Pat)(b0 b1 b2 b3:Int):Prop where
 keeps:∀ X Y,q.Keeps X Y↔p.Keeps (b0*X+b1*Y) (b2*X+b3*Y)
 leaf:∀ l ls,p.leaves=l::ls->∃ l' ls',q.leaves=l'::ls'/\l'.w0=l.w0*b0+l.w1*b2/\l'.w1=l.w0*b1+l.w1*b3/\l'.w2=l.w2*b0+l.w3*b2/\l'.w3=l.w2*b1+l.w3*b3
 area:∀ w h s,p.Least w h s->∃ w' h' s',q.Least w' h' s'/\w'*h'=w*h
def Mv.refl(p:Pat):Mv p p 1 0 0 1:=⟨λX Y=>by simp,λl ls e=>⟨l,ls,e,by simp,by simp,by simp,by simp⟩,λw h s L=>⟨w,h,s,L,rfl⟩⟩
variable{b0 b1 b2 b3:Int}
def Mv.mir(m:Mv p q b0 b1 b2 b3):Mv p (.mir q) (-b0) b1 (-b2) b3:=by
 refine⟨λX Y=>?_,λl ls e=>?_,λw h s L=>?_⟩
 .rw[tE,m.keeps,FJ,FJ,FS,FS]
 .obtain⟨l',ls',e',h0,h1,h2,h3⟩:=m.leaf l ls e;refine⟨_,_,by rw[Pat.leaves,e',E4],?_,?_,?_,?_⟩<;>simp only[Leaf.by,h0,h1,h2,h3]<;>grind
 .obtain⟨w',h',s',L',e⟩:=m.area w h s L;exact⟨_,_,_,L'.mir,e⟩
def Mv.tur(m:Mv p q b0 b1 b2 b3):Mv p (.tur q) (-b1) b0 (-b3) b2:=by
 refine⟨λX Y=>?_,λl ls e=>?_,λw h s L=>?_⟩
 .rw[tF,m.keeps,FJ,FJ,FS,FS,Iv (b0*Y),Iv (b2*Y)]
 .obtain⟨l',ls',e',h0,h1,h2,h3⟩:=m.leaf l ls e;refine⟨_,_,by rw[Pat.leaves,e',E4],?_,?_,?_,?_⟩<;>simp only[Leaf.by,h0,h1,h2,h3]<;>grind
 .obtain⟨w',h',s',L',e⟩:=m.area w h s L;obtain⟨w2,h2,s2,f,e2⟩:=fO (s:=s') L'.f.w0 L'.f.h0;exact⟨_,_,_,L'.tur f,by lia⟩
def Mv.sh(a b:Int)(m:Mv p q b0 b1 b2 b3):Mv p (.sh a b q) b0 b1 b2 b3:=by
 refine⟨λX Y=>?_,λl ls e=>?_,λw h s L=>?_⟩
 .rw[tG,m.keeps]
 .obtain⟨l',ls',e',h0,h1,h2,h3⟩:=m.leaf l ls e;refine⟨_,_,by rw[Pat.leaves,e',E4],?_,?_,?_,?_⟩<;>simp only[Leaf.by,h0,h1,h2,h3]<;>grind
 .obtain⟨w',h',s',L',e⟩:=m.area w h s L;exact⟨_,_,_,L'.sh a b,e⟩
def kM(c:Int):∀ n:Nat,sumN (λ_=>c) n=n*c
 |0=>by simp[sumN]
 |n+1=>by rw[sumN,kM c n,FV,FE];simp
def tH(c:Int)(g:Nat->Int):∀ n:Nat,sumN (λk=>c*g k) n=c*sumN g n
 |0=>by simp[sumN]
 |n+1=>by rw[sumN,sumN,tH c g n,Hj]
def Ce{k:Int}(a:0<=k)(b:k<h):atI ((EM h.toNat).map λ(y:Nat)=>D.str (av p 0 (y:Int) w.toNat)) k=be (.str (av p 0 k w.toNat)):=by
 have e:k=((k.toNat:Nat):Int):=by lia
 rw[e];exact cH (by rw[E3,Fq (by lia)];simp)
def tI(a:0<=i)(b:i<w):atI (cs (av p 0 j w.toNat)) i=be (signOf (p.show i j)):=by
 have e:i=((i.toNat:Nat):Int):=by lia
 rw[e];exact cH (by rw[cq,E3,Fq (by lia)];simp)
structure Side(a w:Int)(A t:Nat):Prop where
 n:aC a
 A4:A<=4000000000000
 t1:t<=1000
 e:aC (a+A*w+t - 1)
def Side.of{A t:Nat}(n:aC a)(w0:0<w)(hA:(A:Int)<=(1000000000000 - a+1) / w)(h:(t<=720/\(t:Int)<=1000000000000 - a+1 - A*w/\¬ (a=-1000000000000/\A=0))\/(a=-1000000000000/\A=0/\1<=t/\t<=720)):Side a w A t:=by
 have h1:=Fe hA (show 0<=w by omega);have h2:=Int.ediv_mul_le (1000000000000 - a+1) (show w≠0 by omega);have h3:(A:Int)<=A*w:=by
  have:=Hd (show 1<=w by omega) (show 0<=(A:Int) by omega);omega
 unfold aC at n;rcases h with⟨t7,ht,ne⟩|⟨e1,rfl,t0,t7⟩
 .refine⟨n,by omega,by omega,?_,by omega⟩;by_cases z:A=0
  .subst z;simp at ne ⊢;omega
  .omega
 .refine⟨n,by omega,by omega,?_,?_⟩<;>simp<;>omega
end My
end
section
namespace My
local macro_rules | `(tactic| k_memK) => `(tactic| exact⟨rfl, rfl, rfl, by decide +kernel, rfl, by decide +kernel, by decide +kernel⟩)
local macro_rules | `(tactic| k_places) => `(tactic| try simp only[List.set_cons_succ, List.set_cons_zero, My.cb])
open PySem PySem.Spec PyProof.Rows L2
def top(i:Nat):Stmt:=PySem.Challenge.pw_motiffield_k27_lone_spot.main.body.getD i (.Pass ⟨0,0,0,0⟩)
abbrev kN:Qq:=top 63
abbrev kO:List Str:=["_law_script","_law_k"]
def Cf:FnScope ["_law_script","_law_k"] kO (af kN):=by k_memK
abbrev kP:Qq:=top 67
abbrev kQ:List Str:=["_law_script","_law_k","_law_many_here"]
def sc__law_draws:FnScope ["_law_script","_law_k","_law_many_here","_law_left","_law_drawn","_law_turn","_law_seed"] kQ (af kP):=by k_memK
abbrev kR:Qq:=top 68
abbrev kS:List Str:=["_law_a","_law_b"]
def sc__law_lcm:FnScope ["_law_a","_law_b","_law_both"] kS (af kR):=by k_memK
abbrev hU:Qq:=top 69
abbrev kT:List Str:=["_law_script","_law_k"]
def sc__law_needle:FnScope ["_law_script","_law_k","_law_draws_here","_law_sizes","_law_wide","_law_high","_law_spot","_law_old","_law_new","_law_text","_law_j","_law_gap","_law_line","_law_shifts","_law_across","_law_down"] kT (af hU):=by k_memK
abbrev kU:Qq:=aZ (top 2) 0
abbrev kW:List Str:=["self","place"]
def Cg:FnScope ["self","place"] kW (af kU):=by k_memK
abbrev kX:Qq:=aZ (top 51) 1
abbrev kY:List Str:=["self","allowed"]
def Ch:FnScope ["self","allowed"] kY (af kX):=by k_memK
abbrev kZ:Qq:=aZ (top 51) 2
abbrev lf:List Str:=["self","allowed"]
def sc_Reading_take:FnScope ["self","allowed","sign"] lf (af kZ):=by k_memK
abbrev lh:Qq:=top 54
abbrev lm:List Str:=["reading","least","most"]
def sc_line_from:FnScope ["reading","least","most","line","column"] lm (af lh):=by k_memK
abbrev ln:Qq:=top 55
abbrev lp:List Str:=["reading"]
def sc_lines_from:FnScope ["reading","lines","width"] lp (af ln):=by k_memK
abbrev lr:Qq:=top 52
abbrev lu:List Str:=["reading"]
def sc_number_from:FnScope ["reading","written"] lu (af lr):=by k_memK
abbrev lv:Qq:=top 53
abbrev lx:List Str:=["reading"]
def sc_shift_from:FnScope ["reading","x"] lx (af lv):=by k_memK
abbrev ly:Qq:=top 7
abbrev lz:List Str:=["first","second"]
def sc_levelled:FnScope ["first","second","times","rest"] lz (af ly):=by k_memK
abbrev lC:Qq:=top 9
abbrev lD:List Str:=["first","second"]
def sc_spread:FnScope ["first","second","pair","width"] lD (af lC):=by k_memK
abbrev lF:Qq:=top 10
abbrev lG:List Str:=["family","x","y"]
def sc_home:FnScope ["family","x","y","width","height","slant"] lG (af lF):=by k_memK
abbrev lH:Qq:=top 16
abbrev lJ:List Str:=["lines","family"]
def sc_hues_by_home:FnScope ["lines","family","hues","row","line","column","sign"] lJ (af lH):=by k_memK
abbrev lK:Qq:=aZ (top 17) 0
abbrev lL:List Str:=["self","place","lines","first","second"]
def Ci:FnScope ["self","place","lines","first","second"] lL (af lK):=by k_memK
abbrev lM:Qq:=top 56
abbrev lN:List Str:=["reading"]
def sc_motif_from:FnScope ["reading","place","lines","first","second"] lN (af lM):=by k_memK
abbrev lP:Qq:=aZ (top 20) 0
abbrev lQ:List Str:=["self","form"]
def Cj:FnScope ["self","form"] lQ (af lP):=by k_memK
abbrev lR:Qq:=aZ (top 21) 0
abbrev lU:List Str:=["self","form"]
def Ck:FnScope ["self","form"] lU (af lR):=by k_memK
abbrev lV:Qq:=aZ (top 18) 0
abbrev lW:List Str:=["self","above","below"]
def Cl:FnScope ["self","above","below"] lW (af lV):=by k_memK
abbrev lY:Qq:=aZ (top 19) 0
abbrev lZ:List Str:=["self","form","x","y"]
def Cm:FnScope ["self","form","x","y"] lZ (af lY):=by k_memK
abbrev ma:Qq:=aZ (top 22) 0
abbrev me:List Str:=["self","form","old","new"]
def Cn:FnScope ["self","form","old","new"] me (af ma):=by k_memK
abbrev hV:Qq:=top 57
abbrev fQ:List Str:=["reading","around"]
def sc_over_from:FnScope ["reading","around","above","below"] fQ (af hV):=by k_memK
abbrev hZ:Qq:=top 58
abbrev fR:List Str:=["reading","around"]
def sc_shifted_from:FnScope ["reading","around","shift"] fR (af hZ):=by k_memK
abbrev ia:Qq:=top 59
abbrev fS:List Str:=["reading","around"]
def sc_rehue_from:FnScope ["reading","around","old","new"] fS (af ia):=by k_memK
abbrev ib:Qq:=top 60
abbrev cL:List Str:=["reading","around"]
def sc_form_from:FnScope ["reading","around","sign"] cL (af ib):=by k_memK
abbrev mf:Qq:=aZ (top 51) 0
abbrev mh:List Str:=["self","text"]
def Co:FnScope ["self","text"] mh (af mf):=by k_memK
abbrev mi:Qq:=aZ (top 50) 0
abbrev mj:List Str:=["self","text","shifts","form"]
def Cp:FnScope ["self","text","shifts","form"] mj (af mi):=by k_memK
abbrev mm:Qq:=aZ (top 3) 0
abbrev mn:List Str:=["self","place"]
def Cq:FnScope ["self","place"] mn (af mm):=by k_memK
abbrev mo:Qq:=top 8
abbrev mq:List Str:=["one","two"]
def sc_measure:FnScope ["one","two","last"] mq (af mo):=by k_memK
abbrev mv:Qq:=top 11
abbrev mw:List Str:=["one","two"]
def sc_met:FnScope ["one","two","common","width","rise","start","gap","climbs","steps"] mw (af mv):=by k_memK
abbrev mx:Qq:=top 12
abbrev my:List Str:=["family"]
def Cr:FnScope ["family"] my (af mx):=by k_memK
abbrev mz:Qq:=top 13
abbrev mB:List Str:=["family"]
def Cs:FnScope ["family"] mB (af mz):=by k_memK
abbrev ic:Qq:=aZ (top 17) 1
abbrev cE:List Str:=["self"]
def Ct:FnScope ["self"] cE (af ic):=by k_memK
abbrev ie:Qq:=aZ (top 18) 1
abbrev ig:List Str:=["self"]
def sc_Over_family:FnScope ["self","first"] ig (af ie):=by k_memK
abbrev ii:Qq:=aZ (top 19) 1
abbrev ij:List Str:=["self"]
def Cu:FnScope ["self"] ij (af ii):=by k_memK
abbrev ik:Qq:=aZ (top 20) 1
abbrev il:List Str:=["self"]
def Cw:FnScope ["self"] il (af ik):=by k_memK
abbrev im:Qq:=aZ (top 21) 1
abbrev io:List Str:=["self"]
def Cy:FnScope ["self"] io (af im):=by k_memK
abbrev ir:Qq:=aZ (top 22) 1
abbrev iu:List Str:=["self"]
def Cz:FnScope ["self"] iu (af ir):=by k_memK
abbrev mC:Qq:=top 61
abbrev mD:List Str:=["text"]
def sc_read:FnScope ["text","reading","form","family"] mD (af mC):=by k_memK
abbrev mF:Qq:=top 64
abbrev mG:List Str:=["_law_found"]
def CA:FnScope ["_law_found"] mG (af mF):=by k_memK
abbrev mH:Qq:=top 65
abbrev mI:List Str:=["_law_found","_law_due"]
def sc__law_numbers:FnScope ["_law_found","_law_due","_law_k"] mI (af mH):=by k_memK
abbrev mJ:Qq:=top 27
abbrev mK:List Str:=["x","y"]
def CB:FnScope ["x","y"] mK (af mJ):=by k_memK
abbrev iw:Qq:=aZ (top 17) 2
abbrev cF:List Str:=["self","x","y"]
def CC:FnScope ["self","x","y"] cF (af iw):=by k_memK
abbrev iy:Qq:=aZ (top 18) 2
abbrev iz:List Str:=["self","x","y"]
def sc_Over_shows:FnScope ["self","x","y","hue"] iz (af iy):=by k_memK
abbrev iA:Qq:=aZ (top 19) 2
abbrev iB:List Str:=["self","x","y"]
def CD:FnScope ["self","x","y"] iB (af iA):=by k_memK
abbrev iC:Qq:=aZ (top 20) 2
abbrev iD:List Str:=["self","x","y"]
def CF:FnScope ["self","x","y"] iD (af iC):=by k_memK
abbrev iE:Qq:=aZ (top 21) 2
abbrev iF:List Str:=["self","x","y"]
def CG:FnScope ["self","x","y"] iF (af iE):=by k_memK
abbrev iG:Qq:=aZ (top 22) 2
abbrev iH:List Str:=["self","x","y"]
def sc_Rehue_shows:FnScope ["self","x","y","hue"] iH (af iG):=by k_memK
abbrev mL:Qq:=top 28
abbrev mM:List Str:=["pattern","x","y"]
def CH:FnScope ["pattern","x","y"] mM (af mL):=by k_memK
abbrev iI:Qq:=top 29
abbrev mN:List Str:=["pattern","x","y","many"]
def CI:FnScope ["pattern","x","y","many"] mN (af iI):=by k_memK
abbrev iJ:Qq:=top 30
abbrev mO:List Str:=["pattern"]
def CJ:FnScope ["pattern"] mO (af iJ):=by k_memK
abbrev iK:Qq:=top 33
abbrev mQ:List Str:=["number"]
def CK:FnScope ["number"] mQ (af iK):=by k_memK
abbrev mR:Qq:=top 31
abbrev mU:List Str:=["family","rows","x","y"]
def sc_round_row:FnScope ["family","rows","x","y","cell","row"] mU (af mR):=by k_memK
abbrev mV:Qq:=top 34
abbrev mW:List Str:=["family","rows","x","y"]
def sc_changes_nothing:FnScope ["family","rows","x","y","step","row"] mW (af mV):=by k_memK
abbrev iL:Qq:=top 35
abbrev mY:List Str:=["family","rows"]
def CL:FnScope ["family","rows"] mY (af iL):=by k_memK
abbrev mZ:Qq:=top 36
abbrev ng:List Str:=["family","rows","width","height"]
def sc_slant_at:FnScope ["family","rows","width","height","slant"] ng (af mZ):=by k_memK
abbrev iM:Qq:=top 37
abbrev nh:List Str:=["pattern"]
def sc_least_shifts:FnScope ["pattern","family","rows","width","height"] nh (af iM):=by k_memK
abbrev iN:Qq:=top 38
abbrev nj:List Str:=["pattern"]
def sc_least_form:FnScope ["pattern","family","rows"] nj (af iN):=by k_memK
abbrev nu:Qq:=top 40
abbrev nv:List Str:=["one","two"]
def CM:FnScope ["one","two"] nv (af nu):=by k_memK
abbrev nw:Qq:=top 41
abbrev ny:List Str:=["one","two"]
def sc_common_field:FnScope ["one","two","family"] ny (af nw):=by k_memK
abbrev nz:Qq:=top 42
abbrev nA:List Str:=["one","two","width","height"]
def sc_first_unlike:FnScope ["one","two","width","height","y","x"] nA (af nz):=by k_memK
abbrev nB:Qq:=top 43
abbrev nC:List Str:=["one","two"]
def sc_first_parting:FnScope ["one","two","family"] nC (af nB):=by k_memK
abbrev nD:Qq:=top 71
abbrev nE:List Str:=["_law_made","_law_plain","_law_needle_here"]
def sc__law_told_so:FnScope ["_law_made","_law_plain","_law_needle_here","_law_text","_law_wide","_law_high","_law_x","_law_y","_law_old","_law_new","_law_found","_law_line","_law_j","_law_due"] nE (af nD):=by k_memK
abbrev nF:Qq:=top 70
abbrev nG:List Str:=["_law_value"]
def CN:FnScope ["_law_value"] nG (af nF):=by k_memK
abbrev nH:Qq:=top 72
abbrev nI:List Str:=["_law_low","_law_high","_law_spot","_law_by"]
def sc__law_many:FnScope ["_law_low","_law_high","_law_spot","_law_by","_law_first"] nI (af nH):=by k_memK
abbrev nJ:Qq:=top 66
abbrev nK:List Str:=["_law_found","_law_due"]
def sc__law_seven:FnScope ["_law_found","_law_due","_law_k"] nK (af nJ):=by k_memK
abbrev nL:Qq:=top 45
abbrev nM:List Str:=["row","sign","many"]
def CO:FnScope ["row","sign","many"] nM (af nL):=by k_memK
abbrev iO:Qq:=top 46
abbrev nN:List Str:=["pattern","left","top","right","bottom"]
def sc_count_all:FnScope ["pattern","left","top","right","bottom","family","rows","many","again","counts","y","times","row","hue","sign"] nN (af iO):=by k_memK
abbrev nO:Qq:=top 47
abbrev nP:List Str:=["pattern","hue","left","top","right","bottom"]
def sc_count_hue:FnScope ["pattern","hue","left","top","right","bottom","counts"] nP (af nO):=by k_memK
abbrev fT:Qq:=top 73
abbrev nQ:List Str:=["_law_script"]
def sc_law:FnScope ["_law_script","_law_needle_here","_law_text","_law_wide","_law_high","_law_x","_law_y","_law_old","_law_new","_law_made","_law_plain","_law_left","_law_top","_law_right","_law_bottom","_law_lone","_law_due","_law_found"] nQ (af fT):=by k_memK
def CP(x:List Nat){l:List (List Nat)}(h:l≠[]):rowsL (x::l)=x++47::rowsL l:=by
 cases l with
 |nil=>exact absurd rfl h
 |cons y r=>rfl
structure Pat.Re(p:Pat)(A B:List Nat)(l:Leaf)(ls:List Leaf):Prop where
 leaves:p.leaves=l::ls
 no:91 ∉ A
 tl:p.tl=A++91::(rowsL (l.rows.map cs)++B)
 rows:Rows l.rows
 re:∀ L':List IT,Rows L'->∃ q:Pat,q.leaves={l with rows:=L'}::ls/\q.tl=A++91::(rowsL (L'.map cs)++B)/\q.depth=p.depth/\(∀ x y,q.Lat x y↔p.Lat x y)/\q.Wf
def CQ{w:Nat}:∀ (L:List (List Nat)),L≠[]->(∀ x∈L,x.length=w)->(rowsL L).length+1=L.length*(w+1):=by
 intro L;induction L with
 |nil=>intro h;exact absurd rfl h
 |cons x L ih=>
  intro _ hw;have xw:=hw x E2;by_cases e:L=[]
  .subst e;show x.length+1=1*(w+1);lia
  .have:=ih e λy hy=>hw y (EV _ hy);rw[CP _ e,EU,EN,EN,GF];lia
def tJ:∀ l1 l2:List IT,eqFs (l1.map D.str) (l2.map D.str)=decide (l1=l2)
 |[],[]=>rfl
 |[],_::_=>rfl
 |_::_,[]=>rfl
 |x::l1,y::l2=>by
  rw[E4,E4,eqFs,tJ l1 l2];show(x==y && decide (l1=l2))=decide (x::l1=y::l2);rw[FF];simp
def tK(l:List IT):(l.map D.str).all bn=true:=by
 rw[G4];exact FI.mpr λx _=>rfl
def cu(p:Pat)(w h:Int):List Str:=(EM h.toNat).map λ(y:Nat)=>av p 0 (y:Int) w.toNat
def tL(p:Pat)(w h s:Int):fm p w h s= .tup [.int w,.int h,.int s,.tup ((cu p w h).map D.str)]:=by
 unfold fm cu;rw[BY]
variable{w h s:Int}{p q:Pat}
def CS(u7:p.Ok)(l0:q.Ok){w' h' s':Int}(L:p.Least w h s)(L':q.Least w' h' s'):((eq2s [.int w,.int h,.int s,.tup ((cu p w h).map D.str)] [.int w',.int h',.int s',.tup ((cu q w' h').map D.str)]).all id=true)↔∀ x y,p.show x y=q.show x y:=by
 have e:(eq2s [D.int w,.int h,.int s,.tup ((cu p w h).map D.str)] [.int w',.int h',.int s',.tup ((cu q w' h').map D.str)]).all id=((w==w') && ((h==h') && ((s==s') && (eqFs ((cu p w h).map D.str) ((cu q w' h').map D.str) && true)))):=rfl;rw[e,tJ];simp only[Ff,beq_iff_eq,decide_eq_true_eq,GL];constructor
 .rintro⟨rfl,rfl,rfl,er⟩ x y;have w0:=L.f.w0;have h0:=L.f.h0;rw[<- Pat.show_home w0 h0 (λ_ _ k=>(L.lat _ _).mp k) x y,<- Pat.show_home w0 h0 (λ_ _ k=>(L'.lat _ _).mp k) x y];have a0:=cz (a:=x - y / h*s) w0;have a1:=cA (a:=x - y / h*s) w0;have b0:=cz (a:=y) h0;have b1:=cA (a:=y) h0;have MB:hmX w h s x y<w:=a1;have MC:0<=hmX w h s x y:=a0;generalize hmX w h s x y=i at MC MB;generalize y % h=j at b0 b1;have r1:(cu p w h)[j.toNat]?=(cu q w h)[j.toNat]?:=by rw[er]
  unfold cu at r1;rw[E3,E3,Fq (by omega),G7,G7,Option.some.injEq,Fb b0] at r1;have g1:=tI (p:=p) (w:=w) (i:=i) (j:=j) MC MB;have g2:=tI (p:=q) (w:=w) (i:=i) (j:=j) MC MB;rw[r1,g2] at g1;have p1:=Pat.show_le u7.wf (by have:=u7.deep;omega) i j;have p2:=Pat.show_le l0.wf (by have:=l0.deep;omega) i j;exact(kK p2.1 p2.2 p1.1 p1.2 (Option.some.inj g1)).symm
 .intro hs;have kk:∀ X Y,q.Keeps X Y↔p.Keeps X Y:=λX Y=>by
   unfold Pat.Keeps;simp only[hs]
  obtain⟨rfl,rfl,rfl⟩:=L.uniq ⟨L'.f,λx y=>(L'.lat x y).trans (kk x y)⟩;refine⟨rfl,rfl,rfl,?_⟩;unfold cu av;simp only[hs]
structure ComF(p q:Pat)(w h s:Int):Prop where
 f:Fam0 w h s
 lat:∀ x y,InF w h s x y↔p.Keeps x y/\q.Keeps x y
def ComF.uniq{w' h' s':Int}(a:ComF p q w h s)(b:ComF p q w' h' s'):w=w'/\h=h'/\s=s':=
 InF.uniq a.f.w0 a.f.h0 a.f.s0 a.f.sw b.f.w0 b.f.h0 b.f.s0 b.f.sw λx y=>(a.lat x y).trans (b.lat x y).symm
variable{A:Int}
def ComF.of{w1 h1 s1 w2 h2 s2:Int}(a:p.Least w1 h1 s1)(b:q.Least w2 h2 s2)(M:MetR w1 h1 s1 w2 h2 s2 w h s A):ComF p q w h s:=
 ⟨⟨M.w0,M.h0,M.s0,M.sw⟩,λx y=>by rw[M.lat,a.lat,b.lat]⟩
def ComF.all(b:ComF p q w h s)(e:∀ x y:Int,0<=x->x<w->0<=y->y<h->p.show x y=q.show x y)(x y:Int):p.show x y=q.show x y:=by
 have w0:=b.f.w0;have h0:=b.f.h0;rw[<- Pat.show_home w0 h0 (λx y k=>((b.lat x y).mp k).1) x y,<- Pat.show_home w0 h0 (λx y k=>((b.lat x y).mp k).2) x y];exact e _ _ (cz w0) (cA w0) (cz h0) (cA h0)
def MetR.le2{w1 h1 s1 w2 h2 s2:Int}(M:MetR w1 h1 s1 w2 h2 s2 w h s A)(f1:Fam0 w1 h1 s1)(f2:Fam0 w2 h2 s2)(b1:w1*h1<=720)(b2:w2*h2<=720):w*h<=518400:=by
 have c:=M.cells;have A0:=M.A0;have wp:=E5 M.w0 M.h0;have e1:=Hd (show 1<=A by omega) (show 0<=w*h by omega);have p1:=E5 f1.w0 f1.h0;have p2:=E5 f2.w0 f2.h0;have e2:=HZ b1 b2 (Int.le_of_lt p2) (by omega);rw[<- Ge] at e2;omega
def tM{f:Int->Bool}{U:Int}:∀ (l:List Nat) (i0:Nat),(∀ i:Nat,i0<=i->i<i0+l.length->f (i:Int)=decide ((i:Int)=U))->scanRow f i0 l=(if 0<=U - i0 then l[(U - i0).toNat]? else z7).bind λc=>if c=46 then z7 else be c:=by
 intro l;induction l with
 |nil=>intro i0 _;unfold scanRow;split<;>rfl
 |cons c l ih=>
  intro i0 h;have h0:=h i0 (EK _) (by simp);have ih:=ih (i0+1) λi h1 h2=>h i (by lia) (by simp;lia);unfold scanRow;by_cases e:(i0:Int)=U
  .rw[decide_eq_true e] at h0;rw[if_pos (show 0<=U - (i0:Int) by lia),show(U - (i0:Int)).toNat=0 by lia];by_cases t8:c=46
   .rw[if_neg (λz=>z.1 t8),ih,if_neg (by lia)];simp[t8]
   .rw[if_pos ⟨t8,h0⟩];simp[t8]
  .rw[decide_eq_false e] at h0;rw[if_neg (λz=>by rw[h0] at z;exact nomatch z.2),ih];by_cases q:0<=U - (i0:Int)
   .rw[if_pos q,if_pos (by lia),show(U - (i0:Int)).toNat=(U - ((i0+1:Nat):Int)).toNat+1 by lia];rfl
   .rw[if_neg q,if_neg (by lia)]
def nR{f:Int->Int->Bool}{U V:Int}:∀ (L:List IT) (j0:Nat),(∀ (j:Nat) (l:IT),L[j]?=be l->∀ i:Nat,i<(cs l).length->f (i:Int) ((j0+j:Nat):Int)=decide ((i:Int)=U/\((j0+j:Nat):Int)=V))->
  bX f j0 L=(if 0<=V - j0 then L[(V - j0).toNat]? else z7).bind λl=>(if 0<=U then(cs l)[U.toNat]? else z7).bind λc=>if c=46 then z7 else be c:=by
 intro L;induction L with
 |nil=>intro j0 _;unfold bX;split<;>rfl
 |cons l L ih=>
  intro j0 h;have h0:=h 0 l rfl;have ih:=ih (j0+1) λj l' hj i hi=>by
   have:=h (j+1) l' hj i hi;rw[show j0+(j+1)=j0+1+j by lia] at this;exact this
  unfold bX;by_cases e:(j0:Int)=V
  .have r:=tM (f:=λi=>f i (j0:Int)) (U:=U) (cs l) 0 λi _ hi=>by
    have:=h0 i (by lia);rw[Iw] at this;show f i (j0:Int)=_;rw[this];simp[e]
   rw[if_pos (show 0<=V - (j0:Int) by lia),show(V - (j0:Int)).toNat=0 by lia];simp only[Ix,Gu] at r;rw[if_neg (show¬ 0<=V - ((j0+1:Nat):Int) by lia)] at ih;rw[r,ih];show _=GS ((if 0<=U then(cs l)[U.toNat]? else z7)) _;generalize (if 0<=U then(cs l)[U.toNat]? else z7).bind (λc=>if c=46 then z7 else be c)=X;cases X<;>rfl
  .have r:=tM (f:=λi=>f i (j0:Int)) (U:=-1) (cs l) 0 λi _ hi=>by
    have:=h0 i (by lia);rw[Iw] at this;show f i (j0:Int)=_;rw[this,decide_eq_false (λz=>e z.2),decide_eq_false (by lia)]
   rw[r,if_neg (by lia),ih];show GS _ _=_;by_cases q:0<=V - (j0:Int)
   .rw[if_pos q,if_pos (by lia),show(V - (j0:Int)).toNat=(V - ((j0+1:Nat):Int)).toNat+1 by lia];rfl
   .rw[if_neg q,if_neg (by lia)]
def nU(f:Fam0 w h s)(u v:Int):onB w 0 s h u v=true↔InF w h s u v:=by
 unfold onB;rw[decide_eq_true_eq];have w0:=f.w0;have h0:=f.h0;have hn:¬ w*h=0*s:=by
  have:=E5 w0 h0;lia
 constructor
 .intro z;obtain⟨i,j,e1,e2⟩:=su hn z;exact⟨i,j,e1,by lia⟩
 .rintro⟨i,j,e1,e2⟩;exact rT e1 (by lia)
variable{x y:Int}
def InF.add{x' y':Int}(a:InF w h s x y)(b:InF w h s x' y'):InF w h s (x+x') (y+y'):=by
 obtain⟨i,j,e1,e2⟩:=a;obtain⟨k,l,e3,e4⟩:=b;exact⟨i+k,j+l,by rw[FE,FE];lia,by rw[FE];lia⟩
def InF.mul(a:InF w h s x y)(n:Int):InF w h s (n*x) (n*y):=by
 obtain⟨i,j,e1,e2⟩:=a;exact⟨n*i,n*j,by rw[e1,Hj,Ge,Ge],by rw[e2,Ge]⟩
def InF.sub{x' y':Int}(a:InF w h s x y)(b:InF w h s x' y'):InF w h s (x - x') (y - y'):=by
 have:=a.add (b.mul (-1));rw[show x+-1*x'=x - x' by lia,show y+-1*y'=y - y' by lia] at this;exact this
def nV{c:Int}(h:1<=c/\c<=6):cell [0,1,2,3,4,5,6] c=c:=by
 rcases(by lia:c=1\/c=2\/c=3\/c=4\/c=5\/c=6) with e|e|e|e|e|e<;>rw[e]<;>rfl
def inF_dvd:InF w h 0 x y↔w∣x/\h∣y:=by
 constructor
 .rintro⟨i,j,e1,e2⟩;exact⟨⟨i,by rw[e1,Fp,FA,EW]⟩,⟨j,by rw[e2,EW]⟩⟩
 .rintro⟨⟨i,e1⟩,⟨j,e2⟩⟩;exact⟨i,j,by rw[e1,Fp,FA,EW],by rw[e2,EW]⟩
variable{L:List IT}
def CT:(Pat.mot L s 0 0 1).Lat x y↔s∣x:=by
 constructor
 .rintro⟨i,j,e1,_⟩;exact⟨i,by rw[e1,Fp,FA,EW]⟩
 .rintro⟨i,e1⟩;exact⟨i,y,by rw[e1,Fp,FA,EW],by lia⟩
def CU:(Pat.mot L 1 0 0 s).Lat x y↔s∣y:=by
 constructor
 .rintro⟨i,j,_,e2⟩;exact⟨j,by rw[e2,Fp,Gs,EW]⟩
 .rintro⟨j,e2⟩;exact⟨x,j,by lia,by rw[e2,Fp,Gs,EW]⟩
def tN{i:Int}(s0:0<s)(i0:0<=i)(i1:i<s):s∣x - i↔i=x % s:=by
 constructor
 .rintro⟨k,e⟩;have:x=i+s*k:=by lia
  rw[this,Int.add_mul_emod_self_left,Fs i0 i1]
 .rintro rfl;exact⟨x / s,by have:=Fo x s;lia⟩
variable{c g:Nat}{t:IT}
def CV{s:Nat}(s1:1<=s)(hl:(cs t).length=s)(hc:∀ i,i<s->(cs t)[i]?=be (if i=g then 46 else c))(c9:49<=c/\c<=54)(x y:Int):(Pat.mot [t] s 0 0 1).show x y=if x % s=g then 0 else(c:Int) - 48:=by
 have f:Fam0 (s:Int) 1 0:=⟨by lia,by decide,by decide,by lia⟩;have u0:0<=x % (s:Int):=Fc _ (by lia);have u1:x % (s:Int)<s:=Fd _ (by lia);have sc:=nR (f:=λi j=>onB s 0 0 1 (1*x+0*y+0 - i) (0*x+1*y+0 - j)) (U:=x % s) (V:=0) [t] 0 λj l hj i hi=>by
  have j0:j=0:=by have:=(E6.mp hj).1;simp at this;exact this
  subst j0;cases hj;apply FF.mpr;rw[decide_eq_true_eq];show onB s 0 0 1 _ _=true↔_;rw[nU f,inF_dvd,show 1*x+0*y+0 - (i:Int)=x - i by lia,tN (by lia) (by lia) (by lia)];exact⟨λz=>⟨z.1,rfl⟩,λz=>⟨z.1,Gy _⟩⟩
 show Leaf.shows (bJ [t] s 0 0 1) _ _=_;unfold Leaf.shows Leaf.hit;simp only[bJ];rw[sc];have k:=hc (x % (s:Int)).toNat (by lia);rw[if_pos (show(0:Int)<=0 - ((0:Nat):Int) by decide)];show(match GS (if 0<=x % (s:Int) then(cs t)[(x % (s:Int)).toNat]? else z7) (λc=>if c=46 then z7 else be c) with|some c=>cell [0,1,2,3,4,5,6] ((c:Int) - 48)|none=>0)=_;rw[if_pos u0,k,F6];by_cases e:(x % (s:Int)).toNat=g
 .rw[if_pos e,if_pos rfl,if_pos (by lia)]
 .rw[if_neg e,if_neg (by lia),if_neg (by lia)];exact nV (by lia)
def CW{s:Nat}(s1:1<=s)(hl:L.length=s)(hc:∀ k,k<s->L[k]?=be ⟨#[if k=g then 46 else c]⟩)(c9:49<=c/\c<=54)(x y:Int):(Pat.mot L 1 0 0 s).show x y=if y % s=g then 0 else(c:Int) - 48:=by
 have f:Fam0 (1:Int) s 0:=⟨by decide,by lia,by decide,by decide⟩;have u0:0<=y % (s:Int):=Fc _ (by lia);have u1:y % (s:Int)<s:=Fd _ (by lia);have sc:=nR (f:=λi j=>onB 1 0 0 s (1*x+0*y+0 - i) (0*x+1*y+0 - j)) (U:=0) (V:=y % s) L 0 λj l hj i hi=>by
  have js:j<s:=by rw[<- hl];exact(E6.mp hj).1
  rw[hc j js] at hj;cases hj;have i0:i=0:=by have:i<1:=hi;lia
  subst i0;rw[Gd];apply FF.mpr;rw[decide_eq_true_eq];show onB 1 0 0 s _ _=true↔_;rw[nU f,inF_dvd,show 0*x+1*y+0 - (j:Int)=y - j by lia,tN (s:=(s:Int)) (x:=y) (i:=(j:Int)) (by lia) (by lia) (by lia)];exact⟨λz=>⟨rfl,z.2⟩,λz=>⟨Gy _,z.2⟩⟩
 show Leaf.shows (bJ L 1 0 0 s) _ _=_;unfold Leaf.shows Leaf.hit;simp only[bJ];simp only[Ix,Gu] at sc;rw[sc];have k:=hc (y % (s:Int)).toNat (by lia);rw[if_pos u0,k,F6,if_pos (by decide)];show(match GS (be (if(y % (s:Int)).toNat=g then 46 else c)) (λc=>if c=46 then z7 else be c) with|some c=>cell [0,1,2,3,4,5,6] ((c:Int) - 48)|none=>0)=_;rw[F6];by_cases e:(y % (s:Int)).toNat=g
 .rw[if_pos e,if_pos rfl,if_pos (by lia)]
 .rw[if_neg e,if_neg (by lia),if_neg (by lia)];exact nV (by lia)
variable{n:Int}
def tO(h0:0<=n)(h6:n<=6)(x y:Int):(Pat.mot [⟨#[signOf n]⟩] 1 0 0 1).show x y=n:=by
 have f:Fam0 (1:Int) 1 0:=⟨by decide,by decide,by decide,by decide⟩;have sc:=nR (f:=λi j=>onB 1 0 0 1 (1*x+0*y+0 - i) (0*x+1*y+0 - j)) (U:=0) (V:=0) [⟨#[signOf n]⟩] 0 λj l hj i hi=>by
  have j0:j=0:=by have:=(E6.mp hj).1;simp at this;exact this
  subst j0;cases hj;have i0:i=0:=by have:i<1:=hi;lia
  subst i0;apply FF.mpr;rw[decide_eq_true_eq];show onB 1 0 0 1 _ _=true↔_;rw[nU f,inF_dvd];exact⟨λ_=>⟨rfl,rfl⟩,λ_=>⟨Gy _,Gy _⟩⟩
 show Leaf.shows (bJ [⟨#[signOf n]⟩] 1 0 0 1) _ _=_;unfold Leaf.shows Leaf.hit;simp only[bJ];rw[sc];show(match (if signOf n=46 then z7 else be (signOf n)) with|some c=>cell [0,1,2,3,4,5,6] ((c:Int) - 48)|none=>0)=_;have NR:signOf n=46↔n=0:=by unfold signOf;split<;>lia
 by_cases e:n=0
 .rw[if_pos (NR.mpr e),e]
 .rw[if_neg (λz=>e (NR.mp z))];show cell [0,1,2,3,4,5,6] ((signOf n:Int) - 48)=n;unfold signOf;rw[if_neg e,show((48+n).toNat:Int) - 48=n by lia];exact nV (by lia)
structure Ndl(p:Pat)(w h X Y o n:Int):Prop where
 ok:p.Ok
 fam:p.Fam w h 0
 big:w*h<=720
 x0:0<=X
 xw:X<w
 y0:0<=Y
 yh:Y<h
 sh:∀ x y,p.show x y=if x % w=X/\y % h=Y then n else o
 ne:n≠o
 o1:1<=o/\o<=6
 n0:0<=n/\n<=6
variable{X:Int}
def tP(x0:0<=X)(xw:X<w)(h:(X+x) % w=X):w∣x:=by
 have e:=Fo (X+x) w;exact⟨(X+x) / w,by lia⟩
variable{Y o:Int}
def Ndl.least(N:Ndl p w h X Y o n):p.Least w h 0:=by
 refine⟨N.fam.f,λx y=>⟨λq=>N.fam.keeps q,λk=>?_⟩⟩;have e:=k X Y;have x0:=N.x0;have xw:=N.xw;have y0:=N.y0;have yh:=N.yh;have e2:p.show X Y=n:=by rw[N.sh,Fs x0 xw,Fs y0 yh,if_pos ⟨rfl,rfl⟩]
 rw[e2,N.sh] at e;by_cases c:(X+x) % w=X/\(Y+y) % h=Y
 .exact inF_dvd.mpr ⟨tP x0 xw c.1,tP y0 yh c.2⟩
 .rw[if_neg c] at e;exact absurd e.symm N.ne
def fo(l h s b:Int):Int:=if h<l then 0 else if(h - (l+(s - l) % b)) / b+1>0 then(h - (l+(s - l) % b)) / b+1 else 0
structure Lcm(a b L:Int):Prop where
 pos:0<L
 da:a∣L
 db:b∣L
 all:∀ m,a∣m->b∣m->L∣m
 le:L<=a*b
variable{a b:Int}
def CY{k:Int}(a1:1<=a)(k1:1<=k)(kb:k<=b)(no:∀ j,1<=j->j<k->¬ b∣j*a)(hd:b∣k*a):Lcm a b (k*a):=by
 refine⟨E5 (by lia) (by lia),⟨k,EW _ _⟩,hd,?_,by rw[EW a b];exact Fe kb (by lia)⟩;rintro m ⟨t,rfl⟩ hb;have e:=Fo t k;have r0:=Fc t (show k≠0 by lia);have r1:=Fd t (show 0<k by lia);have hr:b∣t % k*a:=by
  rw[e,Gr];refine Int.dvd_sub (by rw[EW];exact hb) ?_;rw[EW k,Ge];exact Gz hd ⟨t / k,EW _ _⟩
 have z:t % k=0:=Classical.byContradiction λq=>no _ (by lia) r1 hr;rw[z] at e;refine⟨t / k,?_⟩;rw[show t=k*(t / k) by lia,EW k a,<- Ge,Int.mul_ediv_cancel_left _ (show k≠0 by lia)]
def Lcm.uniq{L M:Int}(h:Lcm a b L)(k:Lcm a b M):L=M:=by
 have h1:=Iy k.pos (h.all M k.da k.db);have h2:=Iy h.pos (k.all L h.da h.db);lia
def Lcm.one(h:1<=a):Lcm a 1 a:=⟨by lia,⟨1,by lia⟩,Gy _,λ_ z _=>z,by lia⟩
def dz:x % w=y % w↔w∣x - y:=by
 rw[Int.emod_eq_emod_iff_emod_sub_eq_zero];exact⟨Hh,Hk⟩
variable{u:Int}
def Lcm.mod{L:Int}(h:Lcm a b L):(x % a=u % a/\x % b=u % b)↔x % L=u % L:=by
 rw[dz,dz,dz];exact⟨λz=>h.all _ z.1 z.2,λz=>⟨Gz h.da z,Gz h.db z⟩⟩
def Lcm.dvd{L:Int}(h:Lcm a b L):(a∣x/\b∣x)↔L∣x:=⟨λz=>h.all _ z.1 z.2,λz=>⟨Gz h.da z,Gz h.db z⟩⟩
def sv(a b c d:Int):Nat->Int
 |0=>a|1=>b|2=>c|_=>d
def tv{α:Type}(x y:α)(j:Nat):α:=if j<2 then x else y
structure NQ(s:Nat->Int)(u v o n:Int)(k:Nat)(q:Pat):Prop where
 wf:q.Wf
 dp:q.depth<=k
 yes:∀ x y,(∀ j,j<k->tv x y j % s j=tv u v j % s j)->q.show x y=n
 no:∀ x y,¬ (∀ j,j<k->tv x y j % s j=tv u v j % s j)->q.show x y=o
 lat:∀ x y,q.Lat x y↔∀ j,j<k->s j∣tv x y j
structure Bar(s:Nat->Int)(u v o:Int)(k:Nat)(m:Pat):Prop where
 wf:m.Wf
 dp:m.depth=0
 yes:∀ x y,tv x y k % s k=tv u v k % s k->m.show x y=0
 no:∀ x y,¬ tv x y k % s k=tv u v k % s k->m.show x y=o
 lat:∀ x y,m.Lat x y↔s k∣tv x y k
variable{k:Nat}{P:Nat->Prop}
def all_succ:(∀ j,j<k+1->P j)↔(∀ j,j<k->P j)/\P k:=by
 constructor
 .exact λh=>⟨λj q=>h j (by lia),h k (by lia)⟩
 .rintro⟨h1,h2⟩ j q;by_cases e:j=k
  .rw[e];exact h2
  .exact h1 j (by lia)
variable{v:Int}
def NQ.step{s:Nat->Int}{m:Pat}(o1:1<=o)(h:NQ s u v o n k q)(b:Bar s u v o k m):NQ s u v o n (k+1) (.over m q):=by
 have sh:∀ x y,(Pat.over m q).show x y=if m.show x y≠0 then m.show x y else q.show x y:=λ_ _=>rfl
 refine⟨⟨b.wf,h.wf⟩,?_,λx y a=>?_,λx y a=>?_,λx y=>?_⟩
 .rw[Pat.depth,b.dp];have:=h.dp;lia
 .obtain⟨a1,a2⟩:=all_succ.mp a;rw[sh,b.yes x y a2,h.yes x y a1];simp
 .rw[sh];by_cases c:tv x y k % s k=tv u v k % s k
  .rw[b.yes x y c,h.no x y (λz=>a (all_succ.mpr ⟨z,c⟩))];simp
  .rw[b.no x y c,if_pos (by lia)]
 .rw[all_succ,<- h.lat,<- b.lat];exact And.comm
def CZ{c d W H B:Int}(N:NQ (sv a b c d) u v o n 4 q)(l1:Lcm a b W)(l2:Lcm c d H)(big:W*H<=360)(hA:B12 A)(hB:B12 B)(ne:n≠o)(o1:1<=o/\o<=6)(n0:0<=n/\n<=6):Ndl (.sh A B q) W H ((u+A) % W) ((v+B) % H) o n:=by
 have w0:=l1.pos;have h0:=l2.pos;have KL:∀ P:Nat->Prop,(∀ j,j<4->P j)↔(P 0/\P 1)/\(P 2/\P 3):=λP=>⟨λh=>⟨⟨h 0 (by decide),h 1 (by decide)⟩,h 2 (by decide),h 3 (by decide)⟩,λh j q=>by
  rcases(by lia:j=0\/j=1\/j=2\/j=3) with rfl|rfl|rfl|rfl
  .exact h.1.1
  .exact h.1.2
  .exact h.2.1
  .exact h.2.2⟩
 have fam:(Pat.sh A B q).Fam W H 0:=⟨⟨w0,h0,by decide,w0⟩,λx y=>by
  rw[inF_dvd,<- l1.dvd,<- l2.dvd];exact((N.lat x y).trans (KL _)).symm⟩
 refine⟨⟨⟨hA,hB,N.wf⟩,?_,⟨_,_,_,fam,by lia⟩⟩,fam,by lia,Fc _ (by lia),Fd _ w0,Fc _ (by lia),Fd _ h0,λx y=>?_,ne,o1,n0⟩
 .rw[Pat.depth];have:=N.dp;lia
 .show q.show (x - A) (y - B)=_;have key:(∀ j,j<4->tv (x - A) (y - B) j % sv a b c d j=tv u v j % sv a b c d j)↔(x % W=(u+A) % W/\y % H=(v+B) % H):=by
   rw[KL];show(((x - A) % a=u % a/\(x - A) % b=u % b)/\((y - B) % c=v % c/\(y - B) % d=v % d))↔_;rw[l1.mod,l2.mod,dz,dz,dz,dz,show x - A - u=x - (u+A) by lia,show y - B - v=y - (v+B) by lia]
  by_cases e:x % W=(u+A) % W/\y % H=(v+B) % H
  .rw[if_pos e];exact N.yes _ _ (key.mpr e)
  .rw[if_neg e];exact N.no _ _ (λz=>e (key.mp z))
def barL(s g c:Nat):List Nat:=EQ g c++46::EQ (s - 1 - g) c
def fU{s:Nat}(h:g<s):(barL s g c).length=s:=by unfold barL;simp;lia
def tQ{s i:Nat}(h:g<s)(hi:i<s):(barL s g c)[i]?=be (if i=g then 46 else c):=by
 unfold barL;rcases Iz i g with q|q|q
 .rw[Fu (by simpa using q),if_neg (by lia),Gf,if_pos q]
 .rw[FC (by simp;lia),if_pos q];simp[q]
 .rw[FC (by simp;lia),if_neg (by lia),GE,show i - g=(i - g - 1)+1 by lia,List.getElem?_cons_succ,Gf,if_pos (by lia)]
def tR{s:Nat}(c9:49<=c/\c<=54):∀ x∈barL s g c,aJ x:=λx hx=>by
 unfold barL at hx;unfold aJ;rcases Fk.mp hx with q|q
 .rw[(IA.mp q).2];lia
 .rcases ER.mp q with q|q
  .exact .inl q
  .rw[(IA.mp q).2];lia
def C3{s:Nat->Int}{S:Nat}(k2:k<2)(es:s k=S)(S1:1<=S)(S8:S<=8)(eg:(g:Int)=u % S)(gS:g<S)(c9:49<=c/\c<=54)(eo:(c:Int) - 48=o)(et:cs t=barL S g c):Bar s u v o k (.mot [t] S 0 0 1):=by
 have sh:=CV (t:=t) (s:=S) (g:=g) (c:=c) S1 (by rw[et,fU gS]) (λi hi=>by rw[et,tQ gS hi]) c9;have ex:∀ x y:Int,tv x y k=x:=λ_ _=>if_pos k2;refine⟨⟨Rows.of (w:=S) (t:=1) (by decide) (by decide) rfl S1 S8 λl hl=>?_,by unfold B12;lia,by unfold B12;lia,by unfold B12;lia,by unfold B12;lia,by lia⟩,rfl,λx y q=>?_,λx y q=>?_,λx y=>?_⟩
 .rw[EL.mp hl];exact⟨by rw[<- bj,et,fU gS],by rw[et];exact tR c9⟩
 .rw[ex,ex,es] at q;rw[sh,if_pos (by rw[q,eg])]
 .rw[ex,ex,es] at q;rw[sh,if_neg (λz=>q (by rw[z,eg])),eo]
 .rw[ex,es];exact CT
def C4{s:Nat->Int}{S:Nat}(k2:¬ k<2)(es:s k=S)(S1:1<=S)(S8:S<=8)(eg:(g:Int)=v % S)(gS:g<S)(c9:49<=c/\c<=54)(eo:(c:Int) - 48=o)(et:L=(barL S g c).map λc=>(⟨#[c]⟩:IT)):Bar s u v o k (.mot L 1 0 0 S):=by
 have ll:L.length=S:=by rw[et,EY,fU gS]
 have sh:=CW (L:=L) (s:=S) (g:=g) (c:=c) S1 ll (λi hi=>by rw[et,E3,tQ gS hi];rfl) c9;have ex:∀ x y:Int,tv x y k=y:=λ_ _=>if_neg k2;refine⟨⟨Rows.of (w:=1) (t:=S) S1 S8 ll (by decide) (by decide) λl hl=>?_,by unfold B12;lia,by unfold B12;lia,by unfold B12;lia,by unfold B12;lia,by lia⟩,rfl,λx y q=>?_,λx y q=>?_,λx y=>?_⟩
 .rw[et] at hl;obtain⟨e,he,rfl⟩:=Fg.mp hl;refine⟨rfl,λz hz=>?_⟩;have:z=e:=by simpa[cs] using hz
  rw[this];exact tR c9 e he
 .rw[ex,ex,es] at q;rw[sh,if_pos (by rw[q,eg])]
 .rw[ex,ex,es] at q;rw[sh,if_neg (λz=>q (by rw[z,eg])),eo]
 .rw[ex,es];exact CU
def nW(c n:Nat):cs (repS ⟨#[c]⟩ n)=EQ n c:=by
 unfold repS;rw[dw];show(EQ n [c]).flatten=_;simp
def fV(h:1<=o/\o<=6):((toString o:String):IT)=⟨#[(48+o).toNat]⟩:=by
 apply cC;have:=hueL h;unfold numL at this;rw[this]
def tS(c:Nat):(("[":IT)++⟨#[c]⟩)++";1,0;0,1]"=(Pat.mot [⟨#[c]⟩] 1 0 0 1).text:=by
 apply cC;rw[cB,aY,aY];rfl
def C5{m:Pat}{x y:IT}(e:91::(cs x++cs y)=m.tl++[124]):(((("([":IT)++x)++y)++q.text)++")"=(Pat.over m q).text:=by
 apply cC;rw[cB]
 repeat rw[aY]
 rw[cB q];have e0:cs "(["=[40,91]:=rfl;have e1:cs ")"=[41]:=rfl;rw[e0,e1,Pat.tl];have e2:40::(91::(cs x++cs y))++(q.tl++[41])=40::(m.tl++[124])++(q.tl++[41]):=by rw[e]
 simpa using e2
def C6{y:IT}{S:Int}(ey:cs y=59::(numL S++cs ",0;0,1]|")):91::(cs t++cs y)=(Pat.mot [t] S 0 0 1).tl++[124]:=by
 rw[ey];have e0:numL 0=[48]:=rfl;have e1:numL 1=[49]:=rfl;have e2:cs ",0;0,1]|"=[44,48,59,48,44,49,93,124]:=rfl;simp[Pat.tl,motL,rowsL,e0,e1,e2]
def C7{y:IT}{S:Int}(et:cs t=rowsL (L.map cs))(ey:cs y=cs ";1,0;0,"++(numL S++cs "]|")):91::(cs t++cs y)=(Pat.mot L 1 0 0 S).tl++[124]:=by
 rw[ey,et];have e0:numL 0=[48]:=rfl;have e1:numL 1=[49]:=rfl;have e2:cs ";1,0;0,"=[59,49,44,48,59,48,44]:=rfl;have e3:cs "]|"=[93,124]:=rfl;simp[Pat.tl,motL,e0,e1,e2,e3]
def iP(ho:1<=o/\o<=6)(m:Nat):cs (repS (toString o:String) m)=EQ m (signOf o):=by
 rw[fV ho,nW];unfold signOf;rw[if_neg (by lia)]
def Ndl.row(N:Ndl p w h X Y o n){j:Nat}(jh:(j:Int)<h)(ne:¬ (j:Int)=Y):repS (toString o:String) w.toNat=av p 0 (j:Int) w.toNat:=by
 apply cC;rw[iP N.o1,cq];apply Hl
 .simp
 .intro i h1 h2;simp only[List.getElem_replicate,IB,IC];rw[N.sh,if_neg (λz=>ne (by rw[<- z.2,Fs (by lia) jh]))]
def Ndl.spot(N:Ndl p w h X Y o n){j:Nat}(e:(j:Int)=Y):(Txt.slice (repS (toString o:String) w.toNat) z7 (be X)++⟨#[signOf n]⟩)++Txt.slice (repS (toString o:String) w.toNat) (be (X+1)) z7=av p 0 (j:Int) w.toNat:=by
 have x0:=N.x0;have xw:=N.xw;have y0:=N.y0;have yh:=N.yh;have rl:(repS (toString o:String) w.toNat).length=w.toNat:=by rw[<- bj,iP N.o1,GE]
 have s1:HT.sIx w.toNat w.toNat (be X)=X.toNat:=by
  show(if X<0 then _ else min X.toNat w.toNat)=_;rw[if_neg (by lia)];lia
 have s2:HT.sIx w.toNat 0 (be (X+1))=X.toNat+1:=by
  show(if X+1<0 then _ else min (X+1).toNat w.toNat)=_;rw[if_neg (by lia)];lia
 apply cC;rw[aY,aY,slice_cps,slice_cps,dw,dw,rl,s1,s2,cq];show((Go 0 (cs (repS (toString o:String) w.toNat))).take (X.toNat - 0)++[signOf n])++(Go (X.toNat+1) (cs (repS (toString o:String) w.toNat))).take (w.toNat - (X.toNat+1))=_;rw[iP N.o1];apply Hl
 .simp;lia
 .intro i h1 h2;simp only[EY,Gv] at h2;simp only[IB,IC];rw[N.sh,Gs,e,Fs y0 yh,Fs (show(0:Int)<=(i:Int) by lia) (by lia)];rcases Iz i X.toNat with q|q|q
  .rw[if_neg (by lia),Hm (by simp;lia),Hm (by simp;lia)];simp
  .rw[if_pos (by lia),Hm (by simp;lia),ID (by simp;lia)];simp
  .rw[if_neg (by lia),ID (by simp;lia)];simp
def C8{k:Int}(w0:0<w):k / w=(k - 1) / w+if k % w=0 then 1 else 0:=by
 have e:=Fo k w;have r0:=Fc k (show w≠0 by lia);have r1:=Fd k w0;generalize k / w=q at*;generalize k % w=r at*;by_cases c:r=0
 .have e2:k - 1=(w - 1)+w*(q - 1):=by rw[IE];lia
  rw[if_pos c,e2,Hn _ _ (by lia),Gx (by lia) (by lia)];lia
 .have e2:k - 1=(r - 1)+w*q:=by lia
  rw[if_neg c,e2,Hn _ _ (by lia),Gx (by lia) (by lia)];lia
def C9{l:Int}(w0:0<w)(x0:0<=X)(xw:X<w)(m:Nat):sumN (λi=>if(l+((i:Nat):Int)) % w=X then 1 else 0) m=((m:Int) - 1 - (X - l) % w) / w+1:=by
 have f0:=Fc (X - l) (show w≠0 by lia);have f1:=Fd (X - l) w0;have fe:=Fo (X - l) w;induction m with
 |zero=>
  have e:((0:Nat):Int) - 1 - (X - l) % w=(w - 1 - (X - l) % w)+w*(-1):=by rw[FJ];lia
  rw[e,Hn _ _ (by lia),Gx (by lia) (by lia)];rfl
 |succ m ih=>
  have d:=C8 (w:=w) (k:=(m:Int) - (X - l) % w) w0;have c:(l+(m:Int)) % w=X↔((m:Int) - (X - l) % w) % w=0:=by
   have e:(l+(m:Int)) % w=X↔(l+(m:Int)) % w=X % w:=by rw[Fs x0 xw]
   rw[e,dz,<- Int.dvd_iff_emod_eq_zero];constructor
   .rintro⟨a,ha⟩;exact⟨a+(X - l) / w,by rw[Hj];lia⟩
   .rintro⟨a,ha⟩;exact⟨a - (X - l) / w,by rw[IE];lia⟩
  rw[sumN,ih,show((m+1:Nat):Int) - 1 - (X - l) % w=(m:Int) - (X - l) % w by lia,d,show(m:Int) - (X - l) % w - 1=(m:Int) - 1 - (X - l) % w by lia];by_cases q:(l+(m:Int)) % w=X
  .rw[if_pos q,if_pos (c.mp q)]<;>lia
  .rw[if_neg q,if_neg (λz=>q (c.mpr z))]<;>lia
def tT[DecidablePred P](m:Nat):0<=sumN (λi=>if P i then 1 else 0) m:=by
 induction m with
 |zero=>exact Int.le_refl 0
 |succ m ih=>
  rw[sumN];split<;>lia
def tU{l r:Int}(w0:0<w)(x0:0<=X)(xw:X<w):sumN (λi=>if(l+((i:Nat):Int)) % w=X then 1 else 0) (r - l+1).toNat=fo l r X w:=by
 unfold fo;by_cases c:r<l
 .rw[if_pos c,show(r - l+1).toNat=0 by lia];rfl
 .have s:=C9 (l:=l) w0 x0 xw (r - l+1).toNat;have p:=tT (P:=λi=>(l+((i:Nat):Int)) % w=X) (r - l+1).toNat;rw[if_neg c];rw[s] at p ⊢;rw[show((r - l+1).toNat:Int) - 1 - (X - l) % w=r - (l+(X - l) % w) by lia] at p ⊢;split<;>lia
def Ndl.lone(N:Ndl p w h X Y o n)(l t:Int)(m k:Nat):bt p n l t m k=sumN (λi=>if(l+((i:Nat):Int)) % w=X then 1 else 0) m*sumN (λj=>if(t+((j:Nat):Int)) % h=Y then 1 else 0) k:=by
 unfold bt cntN;rw[<- tH];refine cD λj _=>?_;by_cases c:(t+(j:Int)) % h=Y
 .rw[if_pos c,GV];refine cD λi _=>?_;show(if p.show (l+(i:Int)) (t+(j:Int))=n then(1:Int) else 0)=_;have e:=N.sh (l+(i:Int)) (t+(j:Int));by_cases d:(l+(i:Int)) % w=X
  .rw[if_pos ⟨d,c⟩] at e;rw[e,if_pos rfl,if_pos d]
  .rw[if_neg (λz=>d z.1)] at e;rw[e,if_neg (λz=>N.ne z.symm),if_neg d]
 .rw[if_neg c,Fp];refine gZ λi _=>?_;show(if p.show (l+(i:Int)) (t+(j:Int))=n then(1:Int) else 0)=_;have e:=N.sh (l+(i:Int)) (t+(j:Int));rw[if_neg (λz=>c z.2)] at e;rw[e,if_neg (λz=>N.ne z.symm)]
def Ndl.rest(N:Ndl p w h X Y o n)(l t:Int)(m k:Nat):bt p o l t m k=(m:Int)*k - bt p n l t m k:=by
 have e:bt p o l t m k+bt p n l t m k=(m:Int)*k:=by
  unfold bt cntN;rw[<- gY,EW,<- kM];refine cD λj _=>?_;rw[<- gY,<- GV (m:Int),<- kM];refine cD λi _=>?_;show(if p.show (l+(i:Int)) (t+(j:Int))=o then(1:Int) else 0)+(if p.show (l+(i:Int)) (t+(j:Int))=n then(1:Int) else 0)=1;have e:=N.sh (l+(i:Int)) (t+(j:Int));by_cases d:(l+(i:Int)) % w=X/\(t+(j:Int)) % h=Y
  .rw[if_pos d] at e;rw[e,if_neg N.ne,if_pos rfl];rfl
  .rw[if_neg d] at e;rw[e,if_pos rfl,if_neg (λz=>N.ne z.symm)];rfl
 lia
def Ndl.none(N:Ndl p w h X Y o n)(l t:Int)(m k:Nat)(v1:v≠n)(v2:v≠o):bt p v l t m k=0:=by
 unfold bt cntN;refine gZ λj _=>gZ λi _=>?_;show(if p.show (l+(i:Int)) (t+(j:Int))=v then(1:Int) else 0)=0;have e:=N.sh (l+(i:Int)) (t+(j:Int));split at e
 .rw[e,if_neg (λz=>v1 z.symm)]
 .rw[e,if_neg (λz=>v2 z.symm)]
def Ndl.due(N:Ndl p w h X Y o n)(l t:Int)(m k:Nat):([D.int 0,.int 0,.int 0,.int 0,.int 0,.int 0,.int 0].set n.toNat (.int (bt p n l t m k))).set o.toNat (.int ((m:Int)*k - bt p n l t m k))=(bQ p l t m k).map D.int:=by
 have hn:=N.n0;have ho:=N.o1;have ne:=N.ne;apply Hl
 .unfold bQ;simp
 .intro i h1 h2;have i7:i<7:=by unfold bQ at h2;simpa using h2
  have e:((bQ p l t m k).map D.int)[i]= .int (bt p (i:Int) l t m k):=by unfold bQ;simp
  have z:([D.int 0,.int 0,.int 0,.int 0,.int 0,.int 0,.int 0])[i]'(by simpa using i7)= .int 0:=by
   rcases(by lia:i=0\/i=1\/i=2\/i=3\/i=4\/i=5\/i=6) with rfl|rfl|rfl|rfl|rfl|rfl|rfl<;>rfl
  refine Eq.trans ?_ e.symm;rw[IF,IF];by_cases c:o.toNat=i
  .rw[if_pos c,<- N.rest,show(i:Int)=o by lia]
  .rw[if_neg c];by_cases c2:n.toNat=i
   .rw[if_pos c2,show(i:Int)=n by lia]
   .rw[if_neg c2];exact z.trans (congrArg D.int (N.none (v:=(i:Int)) l t m k (by lia) (by lia)).symm)
section
variable {V:Bx}
abbrev iQ(V:Bx):Prop:=V.D 1 "_law_at" kO Aq
def Da(T:V.T "_law_at" kN kO)(uB:V.m "len"):iQ V:=by
 refine Tx.okDW T Cf (λds R h=>?_) (λf cdv A outer s H E J hr=>⟨_,((ah (bb (eE (aa 1) (cv uB (ac (aa 0) ae))) (am (aw (ai (aa 0) (aa 1)))) aT)
   (am (aw ad)))),λds R h=>?_⟩)
 .obtain⟨ns,k,rfl,_⟩:=h;rfl
 .obtain⟨ns,k,rfl,hk,hR⟩:=h;refine ite2 (λc=>?_) (λc=>?_)
  .have c':=of_decide_eq_true c;rw[EY] at c';exact⟨_,rY hk c',hR⟩
  .have c':=of_decide_eq_false (Ho.mpr c);rw[EY] at c';rw[Ap (by lia)] at hR;exact hR
abbrev nX(V:Bx):Prop:=V.D 2 "_law_draws" kQ AB
def Db(T:V.T "_law_draws" kP kQ)(uA:V.m "range")(I_:iQ V):nX V:=by
 refine Tx.okDW T sc__law_draws (λds R h=>?_) (λf cdv A outer s H E J hr=>⟨_,((ah (aq 3 sc__law_draws.nd (ao I_ hr (ac (aa 0) (ac (aa 1) ae))))
   (ah (qu 4 sc__law_draws.nd ae)
   (ah (bb (bT (aP (ao I_ hr (ac (aa 0) (ac (ar (aa 1) ad) ae))) ad) ad) (ah (cQ 5 PassesOwn.never rfl sc__law_draws.nd uA (aa 2) (ah (qv 4 (aP (aa 3) ad))
     (am (aq 3 sc__law_draws.nd (bB (aa 3) ad)))))
    (gy 4 (am (aw (aa 4))))) aT)
   (ah (aq 6 sc__law_draws.nd (aP (ar (aa 3) ad) ad))
   (ah (cQ 5 PassesOwn.never rfl sc__law_draws.nd uA (aa 2) (ah (aq 6 sc__law_draws.nd (aP (ar (ar (aV (aa 6) ad) (ao I_ hr (ac (aa 0) (ac (ar (ar (aa 1) ad) (aP (aa 5) ad)) ae)))) (aa 5)) ad))
    (am (qv 4 (aP (aP (aV (aa 6) ad) ad) ad)))))
   (gy 4 (am (aw (aa 4)))))))))),λds R h=>?_⟩)
 .obtain⟨_,_,_,rfl,_⟩:=h;rfl
 .obtain⟨ns,k,n,rfl,hk,hn,hR⟩:=h;refine⟨λd=>∃ v:Int,d= .int v,⟨ns,k,rfl,hk,_,rfl⟩,?_⟩;rintro _ ⟨left,rfl⟩;k_places;refine⟨by simp,?_⟩;refine⟨ns,k+1,rfl,by lia,by decide,ite2 (λ_=>?_) (λ_=>?_)⟩
  .refine⟨⟨by lia,by lia⟩,λi z=>∃ (xs:List Int) (l:Int) (o p:Option D),z=[be (.rol (ns.map D.int)),be (.int k),be (.int n),be (.int l),be (.own (xs.map D.int)),o,p]/\xs.length=i/\Drawn xs,⟨[],left,_,_,rfl,rfl,(λx hx=>by cases hx)⟩,?_,?_⟩
   .rintro i x z hi ⟨xs,l,o,p,rfl,hl,hd⟩;k_places;have l_:i<n:=by simpa using(E6.mp hi).1
    refine⟨by decide,by simp;lia,?_⟩;refine⟨λd=>∃ v:Int,d= .int v,⟨⟨by decide,by decide⟩,_,rfl⟩,?_⟩;rintro _ ⟨l',rfl⟩;k_places;rw[rZ];exact⟨_,l',_,_,rfl,by simp[hl],se hd (cz (by decide)) (cA (by decide))⟩
   .rintro z ⟨xs,l,o,p,rfl,hl,hd⟩;k_places;exact hR xs (by simpa using hl) hd
  .refine⟨λd=>∃ v:Int,d= .int v/\0<=v/\v<2147483647,⟨by decide,_,rfl,cz (by decide),cA (by decide)⟩,?_⟩;rintro _ ⟨MD,rfl,s1,s2⟩;k_places;refine⟨⟨by lia,by lia⟩,λi z=>∃ (xs:List Int) (sd:Int) (o:Option D),z=[be (.rol (ns.map D.int)),be (.int k),be (.int n),be (.int left),be (.own (xs.map D.int)),o,be (.int sd)]/\xs.length=i/\Drawn xs/\0<=sd/\sd<2147483647,⟨[],MD,_,rfl,rfl,(λx hx=>by cases hx),s1,s2⟩,?_,?_⟩
   .rintro i x z hi ⟨xs,sd,o,rfl,hl,hd,s1,s2⟩;k_places;have l_:i<n:=by simpa using(E6.mp hi).1
    have ex:x= .int (i:Int):=by simp[l_] at hi;exact hi.symm
    subst ex;refine⟨λd=>∃ v:Int,d= .int v/\0<=v/\v<2147483647,⟨.inr ⟨by decide,by decide⟩,by decide,ns,_,rfl,by lia,by decide,_,rfl,cz (by decide),cA (by decide)⟩,?_⟩;rintro _ ⟨Pb,rfl,t1,t2⟩;k_places;refine⟨.inr ⟨by decide,by decide⟩,by decide,by decide,by simp;lia,?_⟩;rw[rZ];exact⟨_,Pb,_,rfl,by simp[hl],se hd (cz (by decide)) (cA (by decide)),t1,t2⟩
   .rintro z ⟨xs,sd,o,rfl,hl,hd,_⟩;k_places;exact hR xs (by simpa using hl) hd
def Dc:SpD:=λds R=>∃ a b:Int,ds=[.int a,.int b]/\1<=a/\1<=b/\a<=8/\b<=8/\∀ L,Lcm a b L->R (.int L)
abbrev nY(V:Bx):Prop:=V.D 1 "_law_lcm" kS Dc
def Dd(T:V.T "_law_lcm" kR kS):nY V:=by
 refine Tx.okDW T sc__law_lcm (λds R h=>?_) (λf cdv A outer s H E J hr=>⟨_,((ah (aq 2 sc__law_lcm.nd (aa 0))
   (ah (qw PassesOwn.never (ca (aP (aa 2) (aa 1)) ad) (am (aq 2 sc__law_lcm.nd (ar (aa 2) (aa 0)))))
   (am (aw (aa 2)))))),λds R h=>?_⟩)
 .obtain⟨_,_,rfl,_⟩:=h;rfl
 .obtain⟨a,b,rfl,a1,b1,a8,b8,hR⟩:=h;refine⟨λx=>x= .int a,rfl,?_⟩;rintro _ rfl;k_places;refine⟨λm z=>∃ k:Int,z=[be (.int a),be (.int b),be (.int (k*a))]/\1<=k/\k<=b/\(∀ j,1<=j->j<k->¬ b∣j*a)/\m=(b - k).toNat,⟨_,1,by rw[IG];rfl,by lia,by lia,λj _ _=>by lia,rfl⟩,?_⟩;rintro m z ⟨k,rfl,k1,kb,no,hm⟩;k_places;refine⟨by lia,ite2 (λc=>?_) (λc=>?_)⟩
  .have nd:¬ b∣k*a:=λz=>by
    have:=Hk z;simp[this] at c
   have Qa:k≠b:=λz=>nd (z ▸ ⟨a,rfl⟩);refine⟨λx=>x= .int ((k+1)*a),by show D.int _=D.int _;rw[FE,IG],?_⟩;rintro _ rfl;k_places;refine⟨(b - (k+1)).toNat,by lia,k+1,rfl,by lia,by lia,λj j1 jk=>?_,rfl⟩;by_cases e:j=k
   .rw[e];exact nd
   .exact no j j1 (by lia)
  .have hd:b∣k*a:=Hh (by simpa using c);exact hR _ (CY a1 k1 kb no hd)
def De:SpD:=λds R=>∃ (ns:List Int) (k:Int),ds=[.rol (ns.map D.int),.int k]/\0<=k/\∀ (p:Pat) (w h X Y o n:Int),Ndl p w h X Y o n->R (.lst [.str p.text,.int w,.int h,.int X,.int Y,.int o,.int n])
abbrev nZ(V:Bx):Prop:=V.D 3 "_law_needle" kT De
def Df(T:V.T "_law_needle" hU kT)(uA:V.m "range")(uK:V.m "str")(JY:V.m "list")(MF:nX V)(JF:nY V):nZ V:=by
 refine Tx.okDW T sc__law_needle (λds R h=>?_) (λf cdv A outer s H E J hr=>⟨_,((ah (aq 2 sc__law_needle.nd (ao MF hr (ac (aa 0) (ac (aa 1) (ac ad ae)))))
   (ah (zP 3 rfl (compScope (by change cw _ (af hU) ["_law_script","_law_k","_law_draws_here","_law_sizes","_law_wide","_law_high","_law_spot","_law_old","_law_new","_law_text","_law_j","_law_gap","_law_line","_law_shifts","_law_across","_law_down"] _=true;decide+kernel)) sc__law_needle.nd uA ad (λcl s0 H0 fp=>(ar ad (aP (ai (aa 2) (aa 16)) ad))))
   (ah (fC (eF (fJ (ao JF hr (ac (bz 3 ad) (ac (bz 3 ad) ae))) (ao JF hr (ac (bz 3 ad) (ac (bz 3 ad) ae)))) ad) (am (fG 3 ad ad)) aT)
   (ah (fC (cP (xE (eF (fJ (ao JF hr (ac (bz 3 ad) (ac (bz 3 ad) ae))) (bz 3 ad)) ad) (xD (bT (bz 3 ad) ad)))) (am (fG 3 ad ad)) aT)
   (ah (aq 4 sc__law_needle.nd (ao JF hr (ac (bz 3 ad) (ac (bz 3 ad) ae))))
   (ah (aq 5 sc__law_needle.nd (ao JF hr (ac (bz 3 ad) (ac (bz 3 ad) ae))))
   (ah (aq 6 sc__law_needle.nd (jJ (ac (aP (ai (aa 2) ad) (aa 4)) (ac (aP (ai (aa 2) ad) (aa 5)) ae))))
   (ah (aq 7 sc__law_needle.nd (ar (aP (ai (aa 2) ad) ad) ad))
   (ah (aq 8 sc__law_needle.nd (aP (ar (ar (aa 7) ad) (aP (bB (ai (aa 2) ad) ad) ad)) ad))
   (ah (aq 9 sc__law_needle.nd (ar (ar az (ai az (aa 8))) az))
   (ah (cQ 10 PassesOwn.never rfl sc__law_needle.nd uA ad (ah (aq 11 sc__law_needle.nd (aP (ai (aa 6) (bB (aa 10) ad)) (bz 3 (aa 10))))
    (ah (aq 12 sc__law_needle.nd (ar (ar (fJ (df uK (ac (aa 7) ae)) (aa 11)) az) (fJ (df uK (ac (aa 7) ae)) (bu (bu (bz 3 (aa 10)) ad) (aa 11)))))
    (ah (aq 13 sc__law_needle.nd (ar (ar az (df uK (ac (bz 3 (aa 10)) ae))) az))
    (ah (fC (eF (aa 10) ad) (ah (aq 12 sc__law_needle.nd (qB (Aj rfl JY (ac (aa 12) ae))))
     (am (aq 13 sc__law_needle.nd (ar (ar az (df uK (ac (bz 3 (aa 10)) ae))) az)))) aT)
    (am (aq 9 sc__law_needle.nd (ar (ar (ar (ar az (aa 12)) (aa 13)) (aa 9)) az))))))))
   (ah (aq 14 sc__law_needle.nd (bu (aP (ai (aa 2) ad) ad) ad))
   (ah (aq 15 sc__law_needle.nd (bu (aP (ai (aa 2) ad) ad) ad))
   (ah (aq 9 sc__law_needle.nd (ar (ar (ar (ar (ar az (df uK (ac (aa 14) ae))) az) (df uK (ac (aa 15) ae))) az) (aa 9)))
   (am (aw (jJ (ac (aa 9) (ac (aa 4) (ac (aa 5) (ac (aP (ar (ai (aa 6) ad) (aa 14)) (aa 4)) (ac (aP (ar (ai (aa 6) ad) (aa 15)) (aa 5)) (ac (aa 7) (ac (aa 8) ae))))))))))))))))))))))))),λds R h=>?_⟩)
 .obtain⟨_,_,rfl,_⟩:=h;rfl
 .obtain⟨ns,k,rfl,k0,hR⟩:=h;refine⟨λx=>∃ xs:List Int,x= .lst (xs.map D.int)/\xs.length=9/\Drawn xs,⟨ns,k,9,rfl,k0,by decide,λxs h1 h2=>⟨xs,rfl,h1,h2⟩⟩,?_⟩;rintro _ ⟨xs,rfl,xl,xd⟩;k_places;have t9:∀ j:Nat,j<9->atI (xs.map D.int) (j:Int)=be (.int (cell xs j)):=λj hj=>AA (by lia) (by simpa using(by lia:j<xs.length));have a4:atI (xs.map D.int) 4=be (.int (cell xs 4)):=t9 4 (by decide);have a5:atI (xs.map D.int) 5=be (.int (cell xs 5)):=t9 5 (by decide);have a6:atI (xs.map D.int) 6=be (.int (cell xs 6)):=t9 6 (by decide);have a7:atI (xs.map D.int) 7=be (.int (cell xs 7)):=t9 7 (by decide);have a8:atI (xs.map D.int) 8=be (.int (cell xs 8)):=t9 8 (by decide);refine⟨⟨by decide,by decide⟩,by rw[bI];decide,λj ys=>∃ ss:List Int,ys=ss.map D.int/\ss.length=j/\∀ v∈ss,1<=v/\v<=8,⟨[],rfl,rfl,λv hv=>nomatch hv⟩,?_,?_⟩
  .rintro j v ys hj hl ⟨ss,rfl,sl,sb⟩;k_places;obtain⟨JZ,rfl⟩:=range_int hj;refine⟨_,t9 j (by have:j<4:=JZ;lia),by decide,ss++[1+cell xs j % 8],by rw[Fx];rfl,by simp[sl],λv hv=>?_⟩;rcases Fk.mp hv with q|q
   .exact sb v q
   .rw[EL.mp q];lia
  rintro ys hl ⟨ss,rfl,sl,sb⟩;k_places;rw[bI] at sl;obtain⟨a,b,c,d,rfl⟩:∃ a b c d,ss=[a,b,c,d]:=by
   rcases ss with _|⟨a,_|⟨b,_|⟨c,_|⟨d,_|⟨e,r⟩⟩⟩⟩⟩
   .cases sl
   .cases sl
   .cases sl
   .cases sl
   .exact⟨a,b,c,d,rfl⟩
   .simp at sl
  have ha:=sb a (by simp);have hb:=sb b (by simp);have hc:=sb c (by simp);have hd:=sb d (by simp);clear sb sl hl;refine⟨λz=>∃ e:Int,z=[be (.rol (ns.map D.int)),be (.int k),be (.lst (xs.map D.int)),be (.own [.int a,.int b,.int c,.int e]),z7,z7,z7,z7,z7,z7,z7,z7,z7,z7,z7,z7]/\(1<=e/\e<=8)/\(e=1\/∃ L M,Lcm a b L/\Lcm c e M/\L*M<=360),?_,?_⟩
  .refine⟨_,rfl,_,rfl,a,b,rfl,ha.1,hb.1,ha.2,hb.2,λL l1=>⟨_,rfl,_,rfl,c,d,rfl,hc.1,hd.1,hc.2,hd.2,λM l2=>?_⟩⟩;have b1:=bv (a:=a) (d:=b) (A:=8) (B:=8) (by lia) (by lia);have b2:=bv (a:=c) (d:=d) (A:=8) (B:=8) (by lia) (by lia);have:=l1.le;have:=l2.le;have:=l1.pos;have:=l2.pos;refine⟨.inl ⟨by lia,by lia⟩,ite2 (λ_=>?_) λc=>?_⟩
   .exact⟨3,rfl,1,rfl,by decide,.inl rfl⟩
   .have c':¬ L*M>360:=λz=>c (decide_eq_true z);exact⟨d,rfl,hd,.inr ⟨L,M,l1,l2,by lia⟩⟩
  clear hd d;rintro _ ⟨d,rfl,hd,h1⟩;k_places;refine⟨λz=>∃ e:Int,z=[be (.rol (ns.map D.int)),be (.int k),be (.lst (xs.map D.int)),be (.own [.int a,.int e,.int c,.int d]),z7,z7,z7,z7,z7,z7,z7,z7,z7,z7,z7,z7]/\(1<=e/\e<=8)/\∃ L M,Lcm a e L/\Lcm c d M/\L*M<=360,?_,?_⟩
  .refine⟨_,rfl,_,rfl,a,b,rfl,ha.1,hb.1,ha.2,hb.2,λL l1=>⟨_,rfl,?_⟩⟩;have b1:=bv (a:=a) (d:=b) (A:=8) (B:=8) (by lia) (by lia);have b2:=bv (a:=a) (d:=c) (A:=8) (B:=8) (by lia) (by lia);have:=l1.le;have:=l1.pos;refine⟨.inl ⟨by lia,by lia⟩,ite2 (λq=>?_) λq=>?_⟩
   .refine⟨_,rfl,ite2 (λq1=>?_) λq1=>?_⟩
    .have e:d=1:=of_decide_eq_true q1;subst e;exact⟨1,rfl,1,rfl,by decide,a,c,Lcm.one ha.1,Lcm.one hc.1,by lia⟩
    .have e:¬ d=1:=λz=>q1 (decide_eq_true z);rcases h1 with z|⟨L,M,g1,g2,g3⟩
     .exact absurd z e
     .exact⟨b,rfl,hb,L,M,g1,g2,g3⟩
   .have q':¬ L*c>360:=λz=>q (decide_eq_true z);rcases h1 with z|⟨L,M,g1,g2,g3⟩
    .subst z;exact⟨b,rfl,hb,L,c,l1,Lcm.one hc.1,by lia⟩
    .exact⟨b,rfl,hb,L,M,g1,g2,g3⟩
  clear hb h1 b;rintro _ ⟨b,rfl,hb,W,H,l1,l2,big⟩;k_places;have w0:=l1.pos;have h0:=l2.pos;have b1:=bv (a:=a) (d:=b) (A:=8) (B:=8) (by lia) (by lia);have b2:=bv (a:=c) (d:=d) (A:=8) (B:=8) (by lia) (by lia);have Qb:=l1.le;have le2:=l2.le;refine⟨λx=>x= .int W,⟨_,rfl,_,rfl,a,b,rfl,ha.1,hb.1,ha.2,hb.2,λL g=>by rw[g.uniq l1]⟩,?_⟩;rintro _ rfl;k_places;refine⟨λx=>x= .int H,⟨_,rfl,_,rfl,c,d,rfl,hc.1,hd.1,hc.2,hd.2,λL g=>by rw[g.uniq l2]⟩,?_⟩;rintro _ rfl;k_places;refine⟨λx=>∃ u v:Int,x= .lst [.int u,.int v],⟨_,a4,by lia,_,a5,by lia,by show(2:Nat)<=1000;decide,_,_,rfl⟩,?_⟩;rintro _ ⟨u,v,rfl⟩;k_places;refine⟨λx=>∃ o:Int,x= .int o/\(1<=o/\o<=6),⟨_,a6,by decide,_,rfl,by lia⟩,?_⟩;rintro _ ⟨o,rfl,ho⟩;k_places;refine⟨λx=>∃ n:Int,x= .int n/\(0<=n/\n<=6)/\n≠o,⟨_,a6,⟨by decide,by decide⟩,by decide,by decide,_,rfl,by lia,by lia⟩,?_⟩;rintro _ ⟨n,rfl,hn,ne⟩;k_places;have Pc:("[":IT).length=1:=rfl;have Qc:(⟨#[signOf n]⟩:IT).length=1:=rfl;have Pd:(";1,0;0,1]":IT).length=9:=rfl;refine⟨λx=>x= .str (Pat.mot [⟨#[signOf n]⟩] 1 0 0 1).text,⟨_,⟨by decide,kJ hn.1 hn.2⟩,by lia,by rw[aF];lia,by rw[tS]⟩,?_⟩;rintro _ rfl;k_places;refine⟨⟨by decide,by decide⟩,λj z=>∃ (q:Pat) (JG JH w6 n5:Option D),z=[be (.rol (ns.map D.int)),be (.int k),be (.lst (xs.map D.int)),be (.own [.int a,.int b,.int c,.int d]),be (.int W),be (.int H),be (.lst [.int u,.int v]),be (.int o),be (.int n),be (.str q.text),JG,JH,w6,n5,z7,z7]/\NQ (sv a b c d) u v o n j q,⟨_,_,_,_,_,rfl,?_⟩,?_,?_⟩
  .refine⟨⟨Rows.of (w:=1) (t:=1) (by decide) (by decide) rfl (by decide) (by decide) λl hl=>?_,by unfold B12;lia,by unfold B12;lia,by unfold B12;lia,by unfold B12;lia,by decide⟩,by simp[Pat.depth],λx y _=>tO hn.1 hn.2 x y,λx y z=>absurd (λj hj=>absurd hj (F9 j)) z,λx y=>⟨λ_ j hj=>absurd hj (F9 j),λ_=>⟨x,y,by lia,by lia⟩⟩⟩;rw[EL.mp hl];refine⟨rfl,λz hz=>?_⟩;have:z=signOf n:=by simpa[cs] using hz
   rw[this];unfold aJ signOf;split<;>lia
  .rintro j w' z hj ⟨q,JG,JH,w6,n5,rfl,nq⟩;k_places;obtain⟨JZ,rfl⟩:=range_int hj;have j4:j<4:=JZ;obtain⟨S,eS,S1,S8,oS,oT⟩:∃ S:Nat,sv a b c d j=S/\1<=S/\S<=8/\atI [D.int a,.int b,.int c,.int d] (j:Int)=be (.int S)/\atI [D.int u,.int v] ((j:Int) / 2)=be (.int (tv u v j)):=by
    rcases(by lia:j=0\/j=1\/j=2\/j=3) with e|e|e|e<;>subst e
    .exact⟨a.toNat,by show a=_;lia,by lia,by lia,by rw[Fb (by lia)];rfl,rfl⟩
    .exact⟨b.toNat,by show b=_;lia,by lia,by lia,by rw[Fb (by lia)];rfl,rfl⟩
    .exact⟨c.toNat,by show c=_;lia,by lia,by lia,by rw[Fb (by lia)];rfl,rfl⟩
    .exact⟨d.toNat,by show d=_;lia,by lia,by lia,by rw[Fb (by lia)];rfl,rfl⟩
   have m0:=Fc (tv u v j) (show(S:Int)≠0 by lia);have m1:=Fd (tv u v j) (show 0<(S:Int) by lia);refine⟨λx=>∃ g:Nat,x= .int (g:Int)/\(g:Int)=tv u v j % S/\g<S,⟨⟨by decide,by decide⟩,_,oT,_,oS,by lia,(tv u v j % S).toNat,by rw[Fb m0],by rw[Fb m0],by lia⟩,?_⟩;rintro _ ⟨g,rfl,eg,gS⟩;k_places;have ds:=fV ho;have c9:49<=(48+o).toNat/\(48+o).toNat<=54:=by lia
   have eo:(((48+o).toNat:Nat):Int) - 48=o:=by lia
   generalize (48+o).toNat=C at*;have dl:((toString o:String):IT).length=1:=by rw[ds];rfl
   have ld:(".":IT).length=1:=rfl;have r1:=jW (toString o:String) ((g:Int)).toNat;have r2:=jW (toString o:String) ((S:Int) - 1 - (g:Int)).toNat;rw[dl,Nat.mul_one] at r1 r2;refine⟨λx=>∃ t:IT,x= .str t/\cs t=barL S g C,⟨by lia,⟨by lia,by lia,by rw[dl];lia⟩,by lia,by lia,_,oS,⟨by lia,by lia,by rw[dl];lia⟩,by rw[aF];lia,_,rfl,?_⟩,?_⟩
   .rw[aY,aY,ds,nW,nW,GT,show((S:Int) - 1 - (g:Int)).toNat=S - 1 - g by lia];unfold barL;rw[Fh];rfl
   rintro _ ⟨t,rfl,et⟩;k_places;have tl:t.length=S:=by rw[<- bj,et,fU gS]
   have bS:B12 (S:Int):=by unfold B12;lia
   have nS:=bW bS;have y1:(";":IT).length=1:=rfl;have y2:(",0;0,1]|":IT).length=8:=rfl;have y3:(";1,0;0,":IT).length=7:=rfl;have y4:("]|":IT).length=2:=rfl;refine⟨λx=>∃ y:IT,x= .str y/\cs y=59::(numL S++cs ",0;0,1]|")/\y.length<=20,⟨_,oS,by lia,by lia,by rw[aF];lia,_,rfl,?_,by rw[aF,aF];lia⟩,?_⟩
   .rw[aY,aY,Fh];rfl
   rintro _ ⟨y,rfl,ey,yl⟩;k_places;refine⟨λz=>∃ (t y:IT) (m:Pat),z=[be (.rol (ns.map D.int)),be (.int k),be (.lst (xs.map D.int)),be (.own [.int a,.int b,.int c,.int d]),be (.int W),be (.int H),be (.lst [.int u,.int v]),be (.int o),be (.int n),be (.str q.text),be (.int (j:Int)),be (.int (g:Int)),be (.str t),be (.str y),z7,z7]/\Bar (sv a b c d) u v o j m/\91::(cs t++cs y)=m.tl++[124]/\t.length<=20/\y.length<=20,ite2 (λcc=>?_) (λcc=>?_),?_⟩
   .have j2:¬ j<2:=by have:=of_decide_eq_true cc;lia
    have MG:tv u v j=v:=if_neg j2;have sg:bE t=((barL S g C).map λc=>(⟨#[c]⟩:IT)).map D.str:=by
     unfold bE;show(cs t).map _=_;rw[et,FT];rfl
    have ll:((barL S g C).map λc=>(⟨#[c]⟩:IT)).length=S:=by rw[EY,fU gS]
    have rl:=CQ (w:=1) (((barL S g C).map λc=>(⟨#[c]⟩:IT)).map cs) (λz=>by
     have z2:=congrArg FX z;rw[EY,ll] at z2;have:S=0:=z2;lia) (λx hx=>by
     obtain⟨l,hl,rfl⟩:=Fg.mp hx;obtain⟨e,_,rfl⟩:=Fg.mp hl;rfl)
    have cj:cs (Txt.join "/" ((barL S g C).map λc=>(⟨#[c]⟩:IT)))=rowsL (((barL S g C).map λc=>(⟨#[c]⟩:IT)).map cs):=by
     rw[show Txt.join "/" ((barL S g C).map λc=>(⟨#[c]⟩:IT))=Str.join "/" ((barL S g C).map λc=>(⟨#[c]⟩:IT)) from StrLaws.glued_eq_join _ _,kA]
    refine⟨λx=>∃ t':IT,x= .str t'/\cs t'=rowsL (((barL S g C).map λc=>(⟨#[c]⟩:IT)).map cs),⟨by lia,_,by rw[sg];exact ku _,?_,_,rfl,cj⟩,?_⟩
    .rw[kx (w:=1) (λl hl=>by obtain⟨e,_,rfl⟩:=Fg.mp hl;rfl),ll];show S*1+S*1<=1000000;lia
    rintro _ ⟨t',rfl,NS⟩;k_places;refine⟨λx=>∃ y':IT,x= .str y'/\cs y'=cs ";1,0;0,"++(numL S++cs "]|")/\y'.length<=20,⟨_,oS,by lia,by lia,by rw[aF];lia,_,rfl,?_,by rw[aF,aF];lia⟩,?_⟩
    .rw[aY,aY,Fh];rfl
    rintro _ ⟨y',rfl,Mx,Pe⟩;k_places;exact⟨t',y',_,rfl,C4 j2 eS S1 S8 (by rw[eg,MG]) gS c9 eo rfl,C7 NS Mx,by rw[<- bj,NS];rw[EY,ll] at rl;lia,Pe⟩
   .have j2:j<2:=Classical.byContradiction λz=>cc (decide_eq_true (by lia));have MG:tv u v j=u:=if_pos j2;exact⟨t,y,_,rfl,C3 j2 eS S1 S8 (by rw[eg,MG]) gS c9 eo et,C6 ey,by lia,yl⟩
   clear et tl ey yl t y;rintro _ ⟨t,y,m,rfl,Pf,Pg,tl,yl⟩;k_places;have lq:=Pat.text_short nq.wf (by have:=nq.dp;lia);have q1:("([":IT).length=2:=rfl;have q2:(")":IT).length=1:=rfl;refine⟨λx=>x= .str (Pat.over m q).text,⟨by lia,by rw[aF];lia,by rw[aF,aF];lia,by rw[aF,aF,aF];lia,by rw[C5 Pg]⟩,?_⟩;rintro _ rfl;k_places;exact⟨_,_,_,_,_,rfl,nq.step ho.1 Pf⟩
  rintro z ⟨q,JG,JH,w6,n5,rfl,nq⟩;k_places;rw[bI] at nq;have nq:NQ (sv a b c d) u v o n 4 q:=nq;refine⟨λx=>∃ A:Int,x= .int A/\B12 A,⟨_,a7,by decide,_,rfl,by unfold B12;lia⟩,?_⟩;rintro _ ⟨A,rfl,hA⟩;k_places;refine⟨λx=>∃ A:Int,x= .int A/\B12 A,⟨_,a8,by decide,_,rfl,by unfold B12;lia⟩,?_⟩;rintro _ ⟨B,rfl,hB⟩;k_places;have lq:=Pat.text_short nq.wf (by have:=nq.dp;lia);have lA:=bW hA;have lB:=bW hB;have q1:("s":IT).length=1:=rfl;have q2:(",":IT).length=1:=rfl;have q3:(":":IT).length=1:=rfl;refine⟨λx=>x= .str (Pat.sh A B q).text,⟨by unfold B12 at hA;lia,by lia,by rw[aF];lia,by unfold B12 at hB;lia,by rw[aF,aF];lia,by rw[aF,aF,aF];lia,by rw[aF,aF,aF,aF];lia,rfl⟩,?_⟩;rintro _ rfl;k_places;exact⟨_,rfl,w0,_,rfl,h0,by show(7:Nat)<=1000;decide,hR _ _ _ _ _ _ _ (CZ nq l1 l2 big hA hB ne ho hn)⟩
abbrev iR(V:Bx):Prop:=V.E 1 "WrongSign" kW BC
def Dg(T:V.Te "WrongSign" "WrongSign.__init__" kU kW)(J0:V.b "MotifError")(uBF:V.ea "WrongSign")(MH:V.xf "WrongSign" "place"):iR V:=by
 refine Txe.okE T Cg (λds R h=>?_) (λf cdv A outer s H E J hr=>⟨_,((qR J0 uBF (ac (aa 1) ae) (qS uBF MH (aa 1) qQ))),λds R h=>?_⟩)
 .obtain⟨i,rfl,_⟩:=h;rfl
 .obtain⟨i,rfl,hR⟩:=h;exact⟨by show(1:Nat)<=1000;decide,rfl,hR⟩
abbrev dA(V:Bx):Prop:=V.Q 1 "Reading" "may_take" kY AX
def Dh(T:V.Tm "Reading" "may_take" "Reading.may_take" kX kY)(uB:V.m "len")(Ja:V.a "Reading" "text")(uE:V.a "Reading" "place"):dA V:=by
 refine Txm.okM T Ch (λds M R RX h=>?_) (λf cdv A outer s H E J hr hx=>⟨_,((ax (ck (mt_w (yQ (gM (aI uE (ag (aa 0))) (rj uB (aQ (aI Ja (ag (aa 0))) br))) (yM (yJ (rb (aI Ja (ag (aa 0))) (aI uE (ag (aa 0)))) (ag (aa 1)))))) (aB (aM (ag az))) bV)
   (ax (gP uE (ag (aa 0)) (gK (aI uE (ag (aa 0))) (ag ad)))
   (aB (aM (rb (aI Ja (ag (aa 0))) (ke (aI uE (ag (aa 0))) (ag ad)))))))),λds M R RX c5 h=>?_⟩)
 .obtain⟨_,_,_,_,_,rfl,_⟩:=h;rfl
 .obtain⟨a,t,k,l,al,rfl,rfl,d_,hR⟩:=h;refine⟨_,aN,_,dm,_,aN,_,kB,E1 d_.sz (by decide),?_⟩;cases l with
  |nil=>
   refine ifdT (by rw[d_.nil]) (ifT rfl ?_);exact hR
  |cons c l=>
   have lt:=d_.lt;refine ifdF (by lia) ?_;refine⟨_,aN,_,kB,_,aN,_,dm,c,⟨E1 d_.sz (by decide),cH d_.get⟩,?_⟩;refine ite2 (λe=>?_) (λe=>?_)
   .have e2:(!(!(Builtin.Str.occurrences al ⟨#[c]⟩ 0 al.length 1).isEmpty))=true:=e;rw[sF] at e2;have nc:c ∉ cs al:=by simpa using e2
    rw[dq nc,du nc] at hR;exact hR
   .have e2:¬ (!(!(Builtin.Str.occurrences al ⟨#[c]⟩ 0 al.length 1).isEmpty))=true:=e;rw[sF] at e2;have nc:c∈cs al:=by simpa using e2
    rw[dO nc,dP nc] at hR;refine⟨_,aN,_,dm,_,aN,by show(2:Nat)<1000;decide,?_⟩;rw[show mput (RdM a t k) a (.ins "Reading" (putD ("place":IT) (.int ((k:Int)+1)) (rdF t k)))=RdM a t (k+1) by rw[AV];exact eX];refine⟨_,aN,_,kB,_,aN,_,dm,c,⟨E1 d_.sz (by decide),?_⟩,hR⟩;rw[show((k+1:Nat):Int) - 1=(k:Int) by lia];exact cH d_.get
abbrev cM(V:Bx):Prop:=V.Q 3 "Reading" "take" lf AY
def Di(T:V.Tm "Reading" "take" "Reading.take" kZ lf)(uE:V.a "Reading" "place")(uG:dA V)(uAB:iR V):cM V:=by
 refine Txm.okM T sc_Reading_take (λds M R RX h=>?_) (λf cdv A outer s H E J hr hx=>⟨_,((ax (aX 2 sc_Reading_take.nd (aU (CalMth.one uG) hx hr (ag (aa 0)) (aA (ac (aa 1) ae))))
   (ax (ck (cf (bT (aa 2) az)) (aB (ki uAB hr hx rfl (aQ (aI uE (ag (aa 0))) br))) bV)
   (aB (aM (ag (aa 2))))))),λds M R RX c5 h=>?_⟩)
 .obtain⟨_,_,_,_,_,rfl,_⟩:=h;rfl
 .obtain⟨a,t,k,l,al,rfl,rfl,d_,hR,hX⟩:=h;refine⟨λd M'=>d= .str (mayS al l)/\M'=RdM a t (k+mayN al l),⟨_,EL.mpr rfl,_,aN,cT,a,t,k,l,al,rfl,rfl,d_,rfl,rfl⟩,?_⟩;rintro _ _ ⟨rfl,rfl⟩;k_places;have no:(∀ c l',l=c::l'->c ∉ cs al)->mayS al l=""/\mayN al l=0:=λh=>by
   cases l with
   |nil=>exact⟨rfl,rfl⟩
   |cons c l=>exact⟨dq (h c l rfl),du (h c l rfl)⟩
  by_cases h:∃ c l',l=c::l'/\c∈cs al
  .obtain⟨c,l',rfl,hc⟩:=h;rw[dO hc,dP hc];exact hR c l' rfl hc
  .have h':∀ c l',l=c::l'->c ∉ cs al:=λc l' e hc=>h ⟨c,l',e,hc⟩;obtain⟨e1,e2⟩:=no h';rw[e1,e2];refine⟨_,aN,_,dm,by show(1:Nat)<=1000;decide,(k:Int),rfl,?_⟩;rw[c5];exact hX h' _
abbrev oa(V:Bx):Prop:=V.MM 4 "line_from" lm A7
def Dj(T:V.T "line_from" lh lm)(uA:V.m "range")(uM:V.gs "SIGNS" ".123456")(uC:cM V)(uG:dA V):oa V:=by
 refine Tx.okM T sc_line_from (λds M R RX h=>?_) (λf cdv A outer s H E J hr hx=>⟨_,((ax (aX 3 sc_line_from.nd (ag az))
   (ax (zo 4 PassesOwn.leaving rfl sc_line_from.nd uA (ag (aa 2)) (aB (aX 3 sc_line_from.nd (gK (ag (aa 3)) (fK (cf (eE (aa 4) (aa 1))) (aU (CalMth.one uC) hx hr (ag (aa 0)) (aA (ac (eL uM) ae))) (aU (CalMth.one uG) hx hr (ag (aa 0)) (aA (ac (eL uM) ae))))))))
   (aB (aM (ag (aa 3))))))),λds M R RX c5 h=>?_⟩)
 .obtain⟨_,_,_,_,_,_,rfl,_⟩:=h;rfl
 .obtain⟨a,t,k,l,n,m,rfl,rfl,d_,Qd,Qe,hR,hX⟩:=h;refine⟨λd M'=>d= .str ""/\M'=RdM a t k,⟨rfl,rfl⟩,?_⟩;rintro _ _ ⟨rfl,rfl⟩;k_places;refine⟨⟨by lia,by lia⟩,λi z M'=>i<=m/\∃ col,z=[be (.ptr a),be (.int n),be (.int m),be (.str ⟨(sgPre i l).toArray⟩),col]/\M'=RdM a t (k+(sgPre i l).length)/\min i n<=(sgPre i l).length,⟨Fl _,z7,rfl,rfl,by simp⟩,?_,?_⟩
  .rintro i x z M' hi ⟨Qf,col,rfl,rfl,w9⟩;k_places;obtain⟨H_,rfl⟩:=range_int hi;have H_:i<m:=by lia
   have Ph:=gT i l;rcases sgPre_succ i l with⟨c,l',h1,h2,h3,h4⟩|⟨l',h1,h2,h3⟩
   .have d7:At t (k+(sgPre i l).length) (c::l'):=by have:=d_;rw[h1] at this;exact this.app
    refine⟨λd M'=>d= .str ⟨(sgPre (i+1) l).toArray⟩/\M'=RdM a t (k+(sgPre i l).length+1),?_,?_⟩
    .refine ite2 (λ_=>?_) (λ_=>?_)
     .refine⟨_,EL.mpr rfl,_,aN,bY,a,t,_,_,".123456",rfl,rfl,d7,λc' l2 e hc=>?_,λd8=>absurd (signs_is.mpr h3) (d8 c l' rfl)⟩;cases e;refine⟨by rw[dS,show(⟨#[c]⟩:IT).length=1 from rfl];lia,?_,rfl⟩;rw[show(⟨#[c]⟩:IT)=⟨[c].toArray⟩ from rfl,eY,h4]
     .refine⟨_,EL.mpr rfl,_,aN,cT,a,t,_,_,".123456",rfl,rfl,d7,?_⟩;rw[dO (signs_is.mpr h3),dP (signs_is.mpr h3)];refine⟨by rw[dS,show(⟨#[c]⟩:IT).length=1 from rfl];lia,?_,rfl⟩;rw[show(⟨#[c]⟩:IT)=⟨[c].toArray⟩ from rfl,eY,h4]
    .rintro _ _ ⟨rfl,rfl⟩;k_places;refine⟨H_,_,rfl,?_,?_⟩
     .rw[h4,EU];rfl
     .rw[h4,EU,h2];show _<=i+1;lia
   .have d7:At t (k+(sgPre i l).length) l':=by have:=d_;rw[h1] at this;exact this.app
    have d8:∀ c l2,l'=c::l2->c ∉ cs ".123456":=λc l2 q z=>by
     have:=h2 c l2 q;rw[signs_is.mp z] at this;cases this
    have w_:mayS ".123456" l'=""/\mayN ".123456" l'=0:=by
     cases l' with
     |nil=>exact⟨rfl,rfl⟩
     |cons c l2=>exact⟨dq (d8 c l2 rfl),du (d8 c l2 rfl)⟩
    refine⟨λd M'=>d= .str ⟨(sgPre (i+1) l).toArray⟩/\M'=RdM a t (k+(sgPre i l).length)/\¬ i<n,?_,?_⟩
    .refine ite2 (λc=>?_) (λc=>?_)
     .have c':=of_decide_eq_true c;refine⟨_,EL.mpr rfl,_,aN,bY,a,t,_,_,".123456",rfl,rfl,d7,λc' l2 e hc=>absurd hc (d8 c' l2 e),λ_ M'=>?_⟩;rw[c5];have:=hX (by rw[h3 m (by lia)];lia) M';rw[h3 m (by lia)] at this;exact this
     .have c':¬ i<n:=λz=>c (decide_eq_true (by lia));refine⟨_,EL.mpr rfl,_,aN,cT,a,t,_,_,".123456",rfl,rfl,d7,?_⟩;rw[w_.1,w_.2];refine⟨by rw[dS,show("":IT).length=0 from rfl];lia,?_,rfl,c'⟩;rw[show("":IT)=⟨([]:List Nat).toArray⟩ from rfl,eY,Ft,h3 (i+1) (by lia)]
    .rintro _ _ ⟨rfl,rfl,G_⟩;k_places;refine⟨H_,_,rfl,by rw[h3 (i+1) (by lia)],?_⟩;rw[h3 (i+1) (by lia)];lia
  .intro z M' hz;rw[bI,GT] at hz;obtain⟨_,col,rfl,rfl,w9⟩:=hz;exact hR (by lia)
abbrev oe(V:Bx):Prop:=V.MM 5 "lines_from" lp Ba
def Dk(T:V.T "lines_from" ln lp)(uB:V.m "len")(Lq:oa V)(Lr:V.gi "LONGEST" 8)(uG:dA V):oe V:=by
  refine Tx.okM T sc_lines_from (λds M R RX h=>?_) (λf cdv A outer s H E J hr hx=>⟨_,((ax (aX 1 sc_lines_from.nd (yT (aQ (aW (CalMM.frame Lq) hx hr (aA (ac (aa 0) (ac ad (ac (eK Lr) ae))))) br)))
      (ax (aX 2 sc_lines_from.nd (rj uB (aQ (zr (ag (aa 1)) (ag ad)) br)))
      (ax (zn PassesOwn.leaving (mt_w (yO (rg (zq uB (ag (aa 1))) (ag (eK Lr))) (yL (gM (aU (CalMth.one (CalMth.frame uG)) hx hr (ag (aa 0)) (aA (ac az ae))) (ag az))))) (aB (cy (zu (ag (aa 1)) (aW (CalMM.frame Lq) hx hr (aA (ac (aa 0) (ac (aa 2) (ac (aa 2) ae)))))))))
      (rA 1 (aB (aM (ag (aa 1))))))))),λds M R RX c5 h=>?_⟩)
  . obtain⟨_,_,_,_,rfl,_⟩:=h;rfl
  . obtain⟨a,t,k,l,rfl,rfl,d_,hR,hX⟩:=h;obtain⟨l1,KN,hg⟩:=sgPre_split 8 l;have NT:=sgPre_sign 8 l;have IK:=gT 8 l;refine⟨λd M'=>∃ p,p≠a/\1<=(sgPre 8 l).length/\d= .ptr p/\M'=(p,.lst [.str ⟨(sgPre 8 l).toArray⟩])::RdM a t (k+(sgPre 8 l).length),⟨[],RdM a t k,rfl,a,t,k,l,1,8,rfl,rfl,d_,by decide,by decide,λh1=>⟨by show 1<=1000;decide,λp hp=>?_⟩,λh1 M'=>?_⟩,?_⟩
    . exact⟨p,λe=>hp (by rw[e];exact EL.mpr rfl),h1,rfl,rfl⟩
    . rw[c5];refine hX _ (λr=>?_) _;have e0:sgPre 8 l=[]:=G9 (by lia);rw[e0] at KN hg ⊢;rw[KN];have:=sI (w:=1) (n:=0) (x:=[]) (l:=l1) (λc z=>nomatch z) (by decide) (by decide) (λ_=>rfl) (hg.resolve_left (by decide)) r k;refine walk_bad (λz=>nomatch z) λc l' q=>?_;rw[dN];unfold cS;rw[hg.resolve_left (by decide) c l' q,if_neg ET];exact if_pos (.inl rfl)
    rintro _ _ ⟨p,Pj,h1,rfl,rfl⟩;k_places;refine⟨λd M'=>d= .int (sgPre 8 l).length/\M'=(p,.lst [.str ⟨(sgPre 8 l).toArray⟩])::RdM a t (k+(sgPre 8 l).length),⟨_,cU,_,rfl,by rw[dS];lia,by rw[dS],rfl⟩,?_⟩;rintro _ _ ⟨rfl,rfl⟩;k_places;refine⟨λm z M'=>∃ (L:List (List Nat)) (w0:Nat) (l2:List Nat),RowsL L (sgPre 8 l).length/\l=rowsL L++l2/\LinAt w0 (sgPre 8 l).length L.length l2/\(∀ r,walk (.lin 0 0 0::r) l k=walk (.lin w0 (sgPre 8 l).length (L.length - 1)::r) l2 (k+(rowsL L).length))/\m=8 - L.length/\z=[be (.ptr a),be (.ptr p),be (.int (sgPre 8 l).length)]/\M'=(p,.lst (lstD L))::RdM a t (k+(rowsL L).length),⟨7,[sgPre 8 l],0,l1,⟨by simp,h1,IK,λx hx=>?_⟩,KN,⟨h1,by simp,λ_=>hg,λz=>absurd z (by simp)⟩,λr=>?_,rfl,rfl,rfl⟩,?_⟩
    . rw[EL.mp hx];exact⟨rfl,NT⟩
    . have:=eV (w:=0) (k:=0) (r:=r) (sgPre 8 l) 0 l1 k NT (by simp;lia);rw[<- KN,Gd] at this;exact this
    rintro m z M' ⟨L,w0,l2,hL,IW,JI,hw,rfl,rfl,rfl⟩;k_places;have v9:=hL.many;have m_:At t (k+(rowsL L).length) l2:=by have:=d_;rw[IW] at this;exact this.app
    have KO:(lstD L).length=L.length:=by simp[lstD]
    have done:(L.length=8\/∀ l',l2≠47::l')->R (.lst (lstD L)) (RdM a t (k+(rowsL L).length)):=λst=>hR L _ l2 hL IW λr=>by rw[hw r,A9 JI (by lia) st]
    refine⟨_,cU,?_⟩;rw[KO];refine ite2 (λc=>?_) (λc=>?_)
    . have c':L.length<8:=by have:=of_decide_eq_true c;lia
      refine⟨_,EL.mpr rfl,_,A8 Pj,cT,[(p,_)],RdM a t _,rfl,a,t,_,l2,"/",rfl,rfl,m_,?_⟩;by_cases NU:∃ l',l2=47::l'
      . obtain⟨l3,rfl⟩:=NU;have NV:(47:Nat)∈cs "/":=by decide
        rw[dO NV,dP NV];obtain⟨l4,MI,Pk⟩:=sgPre_split (sgPre 8 l).length l3;have MJ:=sgPre_sign (sgPre 8 l).length l3;have Pl:=gT (sgPre 8 l).length l3;refine⟨⟨_,cU⟩,[(p,_)],RdM a t _,rfl,a,t,_,l3,(sgPre 8 l).length,(sgPre 8 l).length,rfl,rfl,m_.next,EK _,IK,λh2=>?_,λh2 M'=>?_⟩
        . have b_:(sgPre (sgPre 8 l).length l3).length=(sgPre 8 l).length:=by lia
          refine⟨_,cU,by rw[KO];lia,?_⟩;refine⟨8 - (L.length+1),by lia,L++[sgPre (sgPre 8 l).length l3],(sgPre 8 l).length,l4,⟨by rw[EU];simp;lia,h1,IK,λx hx=>?_⟩,?_,⟨h1,by rw[EU];simp,λz=>?_,λ_=>rfl⟩,λr=>?_,by rw[EU];rfl,rfl,?_⟩
          . rcases Fk.mp hx with q|q
            . exact hL.each x q
            . rw[EL.mp q];exact⟨b_,MJ⟩
          . rw[gU L _ (λq=>by rw[q] at v9;simp at v9),Fh,Fz,<- MI];exact IW
          . rw[EU] at z;simp at z;rw[z] at v9;simp at v9
          . rw[hw r,sH JI c' r];have:=eV (w:=(sgPre 8 l).length) (k:=L.length) (r:=r) (sgPre (sgPre 8 l).length l3) 0 l4 (k+(rowsL L).length+1) MJ (by rw[if_pos (by lia)];lia);rw[<- MI,Gd,b_] at this;rw[this,gU L _ (λq=>by rw[q] at v9;simp at v9),EU,EU];show walk (.lin _ _ L.length::r) l4 _=walk (.lin _ _ (L.length+1 - 1)::r) l4 _;congr 1;rw[EN,b_];lia
          . show mput ((p,MO.lst (lstD L))::RdM a t _) p _=_;rw[sG,gU L _ (λq=>by rw[q] at v9;simp at v9)];show _::RdM a t _=_;congr 1
            . simp[lstD]
            . congr 1;simp;lia
        . rw[c5];refine hX _ (λr=>?_) _;rw[hw r,sH JI c' r];have:=sI (w:=(sgPre 8 l).length) (n:=L.length) MJ h2 IK (λq=>by lia) (Pk.resolve_left (by lia)) r (k+(rowsL L).length+1);rw[<- MI] at this;exact this
      . have d8:∀ l',l2≠47::l':=λl' q=>NU ⟨l',q⟩;have w_:mayS "/" l2=""/\mayN "/" l2=0:=by
          cases l2 with
          |nil=>exact⟨rfl,rfl⟩
          |cons c l3=>
            have:c ∉ cs "/":=λq=>d8 l3 (by rw[show c=47 from EL.mp q]);exact⟨dq this,du this⟩
        rw[w_.1,w_.2];refine⟨_,cU,?_⟩;rw[show mdel ([(p,MO.lst (lstD L))]++RdM a t (k+(rowsL L).length+0)) p=RdM a t (k+(rowsL L).length) from kD];exact done (.inr d8)
    . have c':L.length=8:=by
        have:¬ ((L.length:Int)<8):=λz=>c (decide_eq_true z);lia
      refine⟨_,cU,?_⟩;rw[kD];exact done (.inl c')
abbrev og(V:Bx):Prop:=V.MM 4 "number_from" lu A5
def Dl(T:V.T "number_from" lr lu)(uU:V.m "int")(uG:dA V)(uC:cM V):og V:=by
  refine Tx.okM T sc_number_from (λds M R RX h=>?_) (λf cdv A outer s H E J hr hx=>⟨_,((ax (ck (gM (aU (CalMth.one uG) hx hr (ag (aa 0)) (aA (ac az ae))) (ag az)) (aB (aM (ag ad))) bV)
      (ax (aX 1 sc_number_from.nd (gK (aU (CalMth.one uG) hx hr (ag (aa 0)) (aA (ac az ae))) (aU (CalMth.one uC) hx hr (ag (aa 0)) (aA (ac az ae)))))
      (ax (rz (cf (bC (yG (aa 1) (ac az ae)))) (aB (aX 1 sc_number_from.nd (gK (ag (aa 1)) (aU (CalMth.one uG) hx hr (ag (aa 0)) (aA (ac az ae)))))) bV)
      (aB (aM (ag (xS uU (ac (aa 1) ae))))))))),λds M R RX c5 h=>?_⟩)
  . obtain⟨_,_,_,_,rfl,_⟩:=h;rfl
  . obtain⟨a,t,k,l,rfl,rfl,d_,hR,hX⟩:=h;refine⟨_,EL.mpr rfl,_,aN,cT,a,t,k,l,"0",rfl,rfl,d_,?_⟩;by_cases z0:∃ l',l=48::l'
    . obtain⟨l',rfl⟩:=z0;have e0:(48:Nat)∈cs "0":=by decide
      rw[dO e0,dP e0];refine hR 0 l' (by unfold B12;lia) ?_ λe r=>?_
      . rw[show numL 0=[48] by decide+kernel];rfl
      . rw[show numL 0=[48] by decide+kernel,aD (st':= .sign e::r) (by simp[step,aG,aH])];rfl
    have n0:mayS "0" l=""/\mayN "0" l=0:=by
      cases l with
      |nil=>exact⟨rfl,rfl⟩
      |cons c l=>
        have:c ∉ cs "0":=λq=>z0 ⟨l,by rw[show c=48 from EL.mp q]⟩;exact⟨dq this,du this⟩
    rw[n0.1,n0.2];obtain⟨pre,l1,hp,rfl,hS,hN,h0⟩:∃ pre l1,(pre=[]\/pre=[45])/\l=pre++l1/\mayS "-" l=⟨pre.toArray⟩/\mayN "-" l=pre.length/\(pre=[]->∀ c l',l1=c::l'->c≠48/\c≠45):=by
      by_cases z1:∃ l',l=45::l'
      . obtain⟨l',rfl⟩:=z1;exact⟨[45],l',.inr rfl,rfl,rfl,rfl,λq=>nomatch q⟩
      . refine⟨[],l,.inl rfl,rfl,?_⟩;cases l with
        |nil=>exact⟨rfl,rfl,λ_ c l' q=>nomatch q⟩
        |cons c l=>
          have:c ∉ cs "-":=λq=>z1 ⟨l,by rw[show c=45 from EL.mp q]⟩;refine⟨dq this,du this,λ_ c' l' q=>?_⟩;cases q;exact⟨λe=>z0 ⟨l,by rw[e]⟩,λe=>z1 ⟨l,by rw[e]⟩⟩
    have d7:=d_.app;refine⟨λd M'=>∃ c l2,l1=c::l2/\(49<=c/\c<=57)/\d= .str ⟨(pre++[c]).toArray⟩/\M'=RdM a t (k+pre.length+1),?_,?_⟩
    . refine⟨_,EL.mpr rfl,_,aN,cT,a,t,k,_,"-",rfl,rfl,d_,?_⟩;rw[hS,hN];refine⟨_,EL.mpr rfl,_,aN,bY,a,t,k+pre.length,l1,"123456789",rfl,rfl,d7,λc l2 e hc=>?_,λd8 M'=>?_⟩
      . refine⟨?_,c,l2,e,digits19.mp hc,?_,rfl⟩
        . rcases hp with rfl|rfl<;>simp[Str.length]
        . rw[show(⟨#[c]⟩:IT)=⟨[c].toArray⟩ from rfl,eY]
      . rw[c5];exact hX _ (A2 hp rfl (λc l' q=>λz=>d8 c l' q (digits19.mpr z)) h0 k) M'
    . rintro _ _ ⟨c,l2,rfl,hc,rfl,rfl⟩;k_places;have m_:=d7.next;refine⟨λz M'=>∃ x l3,((c=49/\∃ d,(48<=d/\d<=50)/\x=[d])\/(x=[]/\(c=49->∀ d l',l3=d::l'->¬ (48<=d/\d<=50))))/\l2=x++l3/\z=[be (.ptr a),be (.str ⟨(pre++c::x).toArray⟩)]/\M'=RdM a t (k+pre.length+1+x.length),?_,?_⟩
      . show if Txt.endswith ⟨(pre++[c]).toArray⟩ "1"=true then _ else _
        rw[A3];refine ite2 (λe=>?_) (λe=>?_)
        . have e':=of_decide_eq_true e;by_cases z2:∃ d l3,l2=d::l3/\(48<=d/\d<=50)
          . obtain⟨d,l3,rfl,hd⟩:=z2;refine⟨λv M'=>v= .str ⟨(pre++[c,d]).toArray⟩/\M'=RdM a t (k+pre.length+1+1),⟨_,EL.mpr rfl,_,aN,cT,a,t,_,_,"012",rfl,rfl,m_,?_⟩,?_⟩
            . rw[dO (digits02.mpr hd),dP (digits02.mpr hd)];refine⟨?_,?_,rfl⟩
              . rcases hp with rfl|rfl<;>simp[Str.length]
              . rw[show(⟨#[d]⟩:IT)=⟨[d].toArray⟩ from rfl,eY];simp
            . rintro _ _ ⟨rfl,rfl⟩;k_places;exact⟨[d],l3,.inl ⟨e',d,hd,rfl⟩,rfl,rfl,rfl⟩
          . have d8:∀ d l',l2=d::l'->¬ (48<=d/\d<=50):=λd l' q z=>z2 ⟨d,l',q,z⟩;have hm:mayS "012" l2=""/\mayN "012" l2=0:=by
              cases l2 with
              |nil=>exact⟨rfl,rfl⟩
              |cons d l2=>exact⟨dq (λq=>d8 d l2 rfl (digits02.mp q)),du (λq=>d8 d l2 rfl (digits02.mp q))⟩
            refine⟨λv M'=>v= .str ⟨(pre++[c]).toArray⟩/\M'=RdM a t (k+pre.length+1),⟨_,EL.mpr rfl,_,aN,cT,a,t,_,_,"012",rfl,rfl,m_,?_⟩,?_⟩
            . rw[hm.1,hm.2];refine⟨?_,?_,rfl⟩
              . rcases hp with rfl|rfl<;>simp[Str.length,show(Str.ofString "").cps.size=0 from rfl]
              . rw[show("":IT)=⟨([]:List Nat).toArray⟩ from rfl,eY];simp
            . rintro _ _ ⟨rfl,rfl⟩;k_places;exact⟨[],l2,.inr ⟨rfl,λ_=>d8⟩,rfl,rfl,rfl⟩
        . have e':¬ c=49:=λz=>e (decide_eq_true z);exact⟨[],l2,.inr ⟨rfl,λz=>absurd z e'⟩,rfl,rfl,rfl⟩
      . rintro _ _ ⟨x,l3,hx,rfl,rfl,rfl⟩;k_places;have hn:isNumL (pre++c::x):=by
          rcases hx with⟨rfl,d,hd,rfl⟩|⟨rfl,_⟩
          . rcases hp with rfl|rfl
            . exact .inr (.inl ⟨d,hd,rfl⟩)
            . exact .inr (.inr (.inr ⟨d,hd,rfl⟩))
          . rcases hp with rfl|rfl
            . exact .inl ⟨c,by lia,rfl⟩
            . exact .inr (.inr (.inl ⟨c,hc,rfl⟩))
        obtain⟨v,hv,ev⟩:=AS hn;refine⟨v,⟨?_,?_⟩,?_⟩
        . rw[<- ev];exact kC hv
        . rw[<- ev];have:=bW hv;rw[<- bj] at this ⊢;show(numL v).length<=640;exact E1 this (by decide)
        . have:=hR v l3 hv (by rw[ev];simp) λe r=>by rw[ev];exact A1 hp hc hx k e r rfl
          rw[ev] at this;have e2:k+(pre++c::x).length=k+pre.length+1+x.length:=by simp;lia
          rw[e2] at this;exact this
abbrev fW(V:Bx):Prop:=V.MM 5 "shift_from" lx A6
def Dm(T:V.T "shift_from" lv lx)(Ls:og V)(uC:cM V):fW V:=by
 refine Tx.okM T sc_shift_from (λds M R RX h=>?_) (λf cdv A outer s H E J hr hx=>⟨_,((ax (aX 1 sc_shift_from.nd (aW Ls hx hr (aA (ac (aa 0) ae))))
   (ax (cy (aU (CalMth.one uC) hx hr (ag (aa 0)) (aA (ac az ae))))
   (aB (aM (yS (aQ (ag (aa 1)) (aQ (aW Ls hx hr (aA (ac (aa 0) ae))) br)))))))),λds M R RX c5 h=>?_⟩)
 .obtain⟨_,_,_,_,rfl,_⟩:=h;rfl
 .obtain⟨a,t,k,l,rfl,rfl,d_,hR,hX⟩:=h;refine⟨λd M'=>∃ x l1,B12 x/\l=numL x++l1/\(∀ e r,walk (.num:: .sign e::r) l k=walk (.sign e::r) l1 (k+(numL x).length))/\d= .int x/\M'=RdM a t (k+(numL x).length),⟨a,t,k,l,rfl,rfl,d_,λx l' hx e hw=>⟨x,l',hx,e,hw,rfl,rfl⟩,λj hj M'=>?_⟩,?_⟩
  .rw[c5];exact hX j (λr=>hj _) M'
  rintro _ _ ⟨x,l1,j_,rfl,t6,rfl,rfl⟩;k_places;have d7:=d_.app;refine⟨_,EL.mpr rfl,_,aN,bY,a,t,_,l1,",",rfl,rfl,d7,λc l2 e hc=>?_,λd8 M'=>?_⟩
  .have ec:c=44:=EL.mp hc;subst ec;subst e;refine⟨a,t,_,l2,rfl,rfl,d7.next,λy l' hy e hw=>?_,λj hj M'=>?_⟩
   .subst e;refine⟨by simp,hR x y l' j_ hy rfl λe r=>?_⟩;rw[t6 44 _,dR,hw e r]
   .rw[c5];refine hX j (λr=>?_) M';rw[t6 44 _,dR,hj]
  .rw[c5];refine hX _ (λr=>?_) M';rw[t6 44 _,dQ λl' q=>d8 44 l' q (by decide)]
abbrev iS(V:Bx):Prop:=V.D 1 "levelled" lz Au
def Dn(T:V.T "levelled" ly lz):iS V:=by
 refine Tx.okDW T sc_levelled (λds R h=>?_) (λf cdv A outer s H E J hr=>⟨_,((ah (qw PassesOwn.never (ca (ai (aa 1) ad) ad) (ah (aq 2 sc_levelled.nd (xn (ai (aa 0) ad) (ai (aa 1) ad)))
    (ah (aq 3 sc_levelled.nd (bq (ac (bu (ai (aa 0) ad) (aV (aa 2) (ai (aa 1) ad))) (ac (bu (ai (aa 0) ad) (aV (aa 2) (ai (aa 1) ad))) ae))))
    (ah (aq 0 sc_levelled.nd (aa 1))
    (am (aq 1 sc_levelled.nd (aa 3)))))))
   (ah (fC (eE (ai (aa 0) ad) ad) (am (aq 0 sc_levelled.nd (bq (ac (dF (ai (aa 0) ad)) (ac (dF (ai (aa 0) ad)) ae))))) aT)
   (am (aw (bq (ac (aa 0) (ac (aa 1) ae)))))))),λds R h=>?_⟩)
 .obtain⟨a,b,c,d,rfl,_⟩:=h;rfl
 .obtain⟨a,b,c,d,rfl,hb,hd,hR⟩:=h;refine⟨λm z=>∃ (f0 f1 s0 s1:Int) (t r:Option D),z=[be (.tup [.int f0,.int f1]),be (.tup [.int s0,.int s1]),t,r]/\Uni a b c d f0 f1 s0 s1/\f1.natAbs<4611686018427387904/\s1.natAbs<4611686018427387904/\m=s1.natAbs,⟨_,a,b,c,d,z7,z7,rfl,Uni.refl a b c d,hb,hd,rfl⟩,?_⟩;rintro m z ⟨f0,f1,s0,s1,t,r,rfl,hu,hf,hs,rfl⟩;k_places;refine⟨_,rfl,ite2 (λcc=>?_) (λcc=>?_)⟩
  .have c':¬ s1=0:=by simpa using cc
   obtain⟨g1,g2⟩:=fdm f1 s1 c';refine⟨λd=>d= .int (f1.fdiv s1),⟨_,rfl,_,rfl,⟨c',hs⟩,rfl⟩,?_⟩;rintro _ rfl;k_places;refine⟨λd=>d= .tup [.int (f0 - f1.fdiv s1*s0),.int (f1 - f1.fdiv s1*s1)],⟨_,rfl,_,rfl,.inl ⟨by lia,by lia⟩,_,rfl,_,rfl,.inl ⟨by lia,by lia⟩,by simp,rfl⟩,?_⟩;rintro _ rfl;k_places;refine⟨λd=>d= .tup [.int s0,.int s1],rfl,?_⟩;rintro _ rfl;k_places;refine⟨λd=>d= .tup [.int (f0 - f1.fdiv s1*s0),.int (f1 - f1.fdiv s1*s1)],rfl,?_⟩;rintro _ rfl;k_places;exact⟨_,g1,s0,s1,_,_,_,_,rfl,hu.step _,hs,by lia,rfl⟩
  .have c':s1=0:=by simpa using cc
   subst c';refine⟨λz=>∃ p0 p1:Int,z=[be (.tup [.int p0,.int p1]),be (.tup [.int s0,.int 0]),t,r]/\Lev a b c d p0 p1 s0,⟨_,rfl,ite2 (λe=>?_) (λe=>?_)⟩,?_⟩
   .have e':=of_decide_eq_true e;refine⟨λd=>d= .tup [.int (-f0),.int (-f1)],⟨_,rfl,_,rfl,by simp,rfl⟩,?_⟩;rintro _ rfl;k_places;exact⟨_,_,rfl,by lia,hu.neg⟩
   .have e':=of_decide_eq_false (Ho.mpr e);exact⟨_,_,rfl,by lia,hu⟩
   .rintro _ ⟨p0,p1,rfl,hL⟩;k_places;exact⟨by simp,hR p0 p1 s0 hL⟩
abbrev iT(V:Bx):Prop:=V.D 2 "spread" lD Av
def Do(T:V.T "spread" lC lD)(JJ:V.m "abs")(J1:iS V):iT V:=by
 refine Tx.okDW T sc_spread (λds R h=>?_) (λf cdv A outer s H E J hr=>⟨_,((ah (bb (bT (aV (ai (aa 0) ad) (ai (aa 1) ad)) (aV (ai (aa 0) ad) (ai (aa 1) ad))) (am (aw eA)) aT)
   (ah (aq 2 sc_spread.nd (ao J1 hr (ac (aa 0) (ac (aa 1) ae))))
   (ah (aq 3 sc_spread.nd (jK JJ (ac (ai (ai (aa 2) ad) ad) ae)))
   (am (aw (bq (ac (aa 3) (ac (ai (ai (aa 2) ad) ad) (ac (aP (ai (ai (aa 2) ad) ad) (aa 3)) ae)))))))))),λds R h=>?_⟩)
 .obtain⟨a,b,c,d,rfl,_⟩:=h;rfl
 .obtain⟨a,b,c,d,rfl,ha,hb,hc,hd,hN,hR⟩:=h;refine⟨_,rfl,_,rfl,.inl ⟨by lia,by lia⟩,_,rfl,_,rfl,.inl ⟨by lia,by lia⟩,ite2 (λe=>?_) (λe=>?_)⟩
  .exact hN (of_decide_eq_true e)
  .have e':=of_decide_eq_false (Ho.mpr e);refine⟨λx=>∃ p0 p1 q0:Int,x= .tup [.tup [.int p0,.int p1],.tup [.int q0,.int 0]]/\Lev a b c d p0 p1 q0,⟨a,b,c,d,rfl,hb,hd,λp0 p1 q0 hL=>⟨p0,p1,q0,rfl,hL⟩⟩,?_⟩;rintro _ ⟨p0,p1,q0,rfl,hL⟩;k_places;have hF:=gQ e' hL;refine⟨λx=>x= .int (if q0<0 then -q0 else q0),⟨_,rfl,_,rfl,rfl⟩,?_⟩;rintro _ rfl;k_places;exact⟨_,rfl,_,rfl,_,rfl,_,rfl,hF.1,by simp,hR e' _ _ _ hF⟩
abbrev fq(V:Bx):Prop:=V.D 1 "home" lG As
def Dp(T:V.T "home" lF lG):fq V:=by
 refine Tx.okDW T sc_home (λds R h=>?_) (λf cdv A outer s H E J hr=>⟨_,((ah (aq 3 sc_home.nd (ai (aa 0) ad))
   (ah (aq 4 sc_home.nd (ai (aa 0) ad))
   (ah (aq 5 sc_home.nd (ai (aa 0) ad))
   (am (aw (bq (ac (aP (bu (aa 1) (aV (bB (aa 2) (aa 4)) (aa 5))) (aa 3)) (ac (aP (aa 2) (aa 4)) ae))))))))),λds R h=>?_⟩)
 .obtain⟨w,h,s,x,y,rfl,_⟩:=h;rfl
 .obtain⟨w,h,s,x,y,rfl,hw,hh,IY,hs,n8,hR⟩:=h;refine⟨λd=>d= .int w,⟨_,rfl,rfl⟩,?_⟩;rintro _ rfl;k_places;refine⟨λd=>d= .int h,⟨_,rfl,rfl⟩,?_⟩;rintro _ rfl;k_places;refine⟨λd=>d= .int s,⟨_,rfl,rfl⟩,?_⟩;rintro _ rfl;k_places;exact⟨⟨hh,IY⟩,.inr ⟨by lia,by lia⟩,hw,hh,by simp,hR⟩
abbrev oh(V:Bx):Prop:=V.MM 2 "hues_by_home" lJ Bf
def Dq(T:V.T "hues_by_home" lH lJ)(uW:V.m "enumerate")(uV:fq V)(uM:V.gs "SIGNS" ".123456"):oh V:=by
 refine Tx.okM T sc_hues_by_home (λds M R RX h=>?_) (λf cdv A outer s H E J hr hx=>⟨_,((ax (aX 2 sc_hues_by_home.nd zI)
   (ax (zz PassesOwn.leaving rfl uW (ag (aa 0)) (dg_cons 3 sc_hues_by_home.nd (dg_cons 4 sc_hues_by_home.nd dH)) (aB (zA PassesOwn.leaving rfl uW (ag (aa 4)) (dg_cons 5 sc_hues_by_home.nd (dg_cons 6 sc_hues_by_home.nd dH)) (aB (rz (cf (ca (aa 6) az)) (aB (cy (zL (jC hr) (ag (aa 2)) (aA (ac (ao uV hr (ac (aa 1) (ac (aa 5) (ac (aa 3) ae)))) (ac (yI (eL uM) (ac (aa 6) ae)) ae)))))) bV)))))
   (rA 2 (aB (aM (ag (aa 2)))))))),λds M R RX c5 h=>?_⟩)
 .obtain⟨_,_,_,_,_,rfl,_⟩:=h;rfl
 .obtain⟨L,wd,w,h,s,rfl,hL,hw,hh,IY,hs,n8,hR⟩:=h;have Qg:=hL.w8;refine⟨λd M'=>∃ p,p ∉ au M/\d= .ptr p/\M'=(p,.dti [])::M,λp hp=>⟨p,hp,rfl,rfl⟩,?_⟩;rintro _ _ ⟨p,hp,rfl,rfl⟩;k_places;refine⟨λj z M'=>∃ (kv:List ((Int × Int) × Int)) (x3 x4 x5 x6:Option D),hAll w h s j (L.drop j) kv=hAll w h s 0 L []/\kv.length<=8*j/\z=[be (.lst (lstD L)),be (.tup [.int w,.int h,.int s]),be (.ptr p),x3,x4,x5,x6]/\M'=(p,.dti kv)::M,⟨[],z7,z7,z7,z7,rfl,by simp,rfl,rfl⟩,?_,?_⟩
  .rintro j d z M' hd ⟨kv,x3,x4,x5,x6,e1,Pm,rfl,rfl⟩;k_places;obtain⟨x,j_,rfl⟩:=Bd hd;have hj:j<L.length:=(E6.mp j_).1;have Qh:=hL.many;obtain⟨xl,xs⟩:=hL.each x (GY j_);rw[sK j_] at e1;refine⟨Bc xs,λi z M'=>∃ (IL:List ((Int × Int) × Int)) (x5 x6:Option D),hRow w h s j i (x.drop i) IL=hRow w h s j 0 x kv/\IL.length<=8*j+i/\i<=x.length/\z=[be (.lst (lstD L)),be (.tup [.int w,.int h,.int s]),be (.ptr p),be (.int j),be (.str ⟨x.toArray⟩),x5,x6]/\M'=(p,.dti IL)::M,⟨kv,x5,x6,rfl,by lia,Fl _,rfl,rfl⟩,?_,?_⟩
   .rintro i d z M' t_ ⟨IL,y5,y6,e2,MK,hi,rfl,rfl⟩;k_places;obtain⟨c,hc,rfl⟩:=Be t_;have H_:i<x.length:=(E6.mp hc).1;have sc:=xs c (GY hc);rw[sK hc,hRow] at e2;refine⟨λz M'=>∃ KP:List ((Int × Int) × Int),hRow w h s j (i+1) (x.drop (i+1)) KP=hRow w h s j 0 x kv/\KP.length<=8*j+(i+1)/\z=[be (.lst (lstD L)),be (.tup [.int w,.int h,.int s]),be (.ptr p),be (.int j),be (.str ⟨x.toArray⟩),be (.int i),be (.str ⟨#[c]⟩)]/\M'=(p,.dti KP)::M,?_,?_⟩
    .show if(!decide ((⟨#[c]⟩:IT)="."))=true then _ else _;by_cases t8:c=46
     .subst t8;rw[if_pos rfl] at e2;exact⟨IL,e2,by lia,rfl,rfl⟩
     .rw[if_neg t8] at e2;refine ifT (by simp[AI,t8]) ?_;have c6:49<=c/\c<=54:=by unfold aJ at sc;lia
      obtain⟨ix,rest,ho,Kv⟩:=Bb c6;refine⟨⟨_,cU⟩,w,h,s,i,j,rfl,hw,hh,IY,hs,n8,ix,rest,ho,_,cU,by have:=sJ IL (hmX w h s i j) ((j:Int) % h) ((c:Int) - 48);lia,λv=>?_⟩;rw[sG,Kv];exact⟨_,e2,by have:=sJ IL (hmX w h s i j) ((j:Int) % h) ((c:Int) - 48);lia,rfl,rfl⟩
    .rintro z M' ⟨KP,e3,h3,rfl,rfl⟩;k_places;exact⟨KP,_,_,e3,h3,H_,rfl,rfl⟩
   .rintro z M' hz;rw[gI,dS] at hz;obtain⟨IL,y5,y6,e2,MK,hi,rfl,rfl⟩:=hz;rw[IH] at e2;refine⟨IL,_,_,_,_,?_,by lia,rfl,rfl⟩;rw[<- e1,hAll,<- e2];rfl
  .rintro z M' hz;rw[show(lstD L).length=L.length by simp[lstD]] at hz;obtain⟨kv,x3,x4,x5,x6,e1,Pm,rfl,rfl⟩:=hz;rw[IH] at e1;refine⟨_,cU,?_⟩;rw[kD];have e2:kv=hAll w h s 0 L []:=e1;rw[<- e2] at hR;exact hR
abbrev oi(V:Bx):Prop:=V.M 3 "Motif" lL Bg
def Dr(T:V.Ti "Motif" "Motif.__init__" lK lL)(J2:iT V)(ML:oh V)(Jb:V.a "Motif" "place")(uI:V.a "Motif" "shifts")(Jc:V.a "Motif" "hues"):oi V:=by
 refine Txi.okIM T Ci (λds R h=>?_) (λf cdv A outer s H E J hr hx=>⟨_,((ax (gP Jb (ag (aa 0)) (ag (aa 1)))
   (ax (gP uI (ag (aa 0)) (ag (ao J2 hr (ac (aa 3) (ac (aa 4) ae)))))
   (aB (gP Jc (ag (aa 0)) (fK (rh (aI uI (ag (aa 0))) (ag eA)) zH (aW ML hx hr (aQ (ag (aa 2)) (aQ (aI uI (ag (aa 0))) br))))))))),λa ds R d8 h=>?_⟩)
 .obtain⟨_,_,_,_,_,_,_,rfl,_⟩:=h;rfl
 .obtain⟨k,L,wd,x,y,u,v,rfl,hL,j_,hy,hu,hv,h0,h1⟩:=h;unfold B12 at j_ hy hu hv;refine⟨_,cK,by show(0:Nat)<1000;decide,?_⟩;rw[eX,Bh];refine⟨x,y,u,v,rfl,by lia,by lia,by lia,by lia,λe=>?_,λe w h s F=>?_⟩
  .refine⟨_,cK,by show(1:Nat)<1000;decide,?_⟩;rw[eX,sL];refine⟨_,cK,_,kE,?_⟩;refine⟨_,cK,by show(2:Nat)<1000;decide,?_⟩;rw[eX,sM];exact⟨_,rfl,h0 e⟩
  .refine⟨_,cK,by show(1:Nat)<1000;decide,?_⟩;rw[eX,sL];refine⟨_,cK,_,kE,?_⟩;obtain⟨b1,b2,b3⟩:=F.bd (N:=288) (by
    have m1:=bv (a:=x) (d:=v) (A:=12) (B:=12) (by lia) (by lia);have m2:=bv (a:=y) (d:=u) (A:=12) (B:=12) (by lia) (by lia);lia)
   refine⟨_,cK,_,kE,L,wd,w,h,s,rfl,hL,F.1,F.2.1,by lia,F.2.2.1,by lia,?_⟩;refine⟨_,cK,by show(2:Nat)<1000;decide,?_⟩;rw[eX,sM];exact⟨_,rfl,h1 e w h s F⟩
abbrev iU(V:Bx):Prop:=V.MM 6 "motif_from" lN Bo
def Ds(T:V.T "motif_from" lM lN)(MN:oe V)(IM:fW V)(uE:V.a "Reading" "place")(MP:oi V)(uC:cM V):iU V:=by
  refine Tx.okM T sc_motif_from (λds M R RX h=>?_) (λf cdv A outer s H E J hr hx=>⟨_,((ax (aX 1 sc_motif_from.nd (aI uE (ag (aa 0))))
      (ax (cy (aU (CalMth.one uC) hx hr (ag (aa 0)) (aA (ac az ae))))
      (ax (aX 2 sc_motif_from.nd (aW MN hx hr (aA (ac (aa 0) ae))))
      (ax (cy (aU (CalMth.one uC) hx hr (ag (aa 0)) (aA (ac az ae))))
      (ax (aX 3 sc_motif_from.nd (aW IM hx hr (aA (ac (aa 0) ae))))
      (ax (cy (aU (CalMth.one uC) hx hr (ag (aa 0)) (aA (ac az ae))))
      (ax (aX 4 sc_motif_from.nd (aW IM hx hr (aA (ac (aa 0) ae))))
      (ax (cy (aU (CalMth.one uC) hx hr (ag (aa 0)) (aA (ac az ae))))
      (aB (aM (ag (jT MP hr (ac (aa 1) (ac (aa 2) (ac (aa 3) (ac (aa 4) ae))))))))))))))))),λds M R RX c5 h=>?_⟩)
  . obtain⟨_,_,_,_,rfl,_⟩:=h;rfl
  . obtain⟨a,t,k,l,rfl,rfl,d_,hR,hX⟩:=h;refine⟨λd M'=>d= .int k/\M'=RdM a t k,⟨_,aN,_,dm,rfl,rfl⟩,?_⟩;rintro _ _ ⟨rfl,rfl⟩;k_places;refine⟨_,EL.mpr rfl,_,aN,bY,a,t,_,l,"[",rfl,rfl,d_,λc l1 e hc=>?_,λd8 M'=>?_⟩
    . have ec:c=91:=EL.mp hc;subst ec;subst e;have hb:∀ r,walk (.pat 5::r) (91::l1) k=walk (motW r) l1 (k+1):=λr=>aD (by rw[bL];rfl);refine⟨λd M'=>∃ (L:List (List Nat)) (w:Nat) (l2:List Nat),RowsL L w/\l1=rowsL L++l2/\(∀ r,walk (.lin 0 0 0::r) l1 (k+1)=walk (.sign 59::r) l2 (k+1+(rowsL L).length))/\d= .lst (lstD L)/\M'=RdM a t (k+1+(rowsL L).length),⟨a,t,_,l1,rfl,rfl,d_.next,λL w l' h1 h2 h3=>⟨L,w,l',h1,h2,h3,rfl,rfl⟩,λj hj M'=>?_⟩,?_⟩
      . rw[c5];exact hX j (λr=>by rw[hb];exact hj _) M'
      rintro _ _ ⟨L,w,l2,hL,rfl,IZ,rfl,rfl⟩;k_places;have m_:=d_.next.app;have KI:∀ r,walk (.pat 5::r) (91::(rowsL L++l2)) k=walk (.sign 59:: .num:: .sign 44:: .num:: .sign 59:: .num:: .sign 44:: .num:: .sign 93::r) l2 (k+1+(rowsL L).length):=λr=>by rw[hb];exact IZ _
      refine⟨_,EL.mpr rfl,_,aN,bY,a,t,_,l2,";",rfl,rfl,m_,λc l3 e hc=>?_,λd8 M'=>?_⟩
      . have ec:c=59:=EL.mp hc;subst ec;subst e;have IN:=m_.next;have MQ:∀ r,walk (.pat 5::r) (91::(rowsL L++59::l3)) k=walk (.num:: .sign 44:: .num:: .sign 59:: .num:: .sign 44:: .num:: .sign 93::r) l3 (k+1+(rowsL L).length+1):=λr=>by rw[KI,dR]
        refine⟨λd M'=>∃ x y l4,B12 x/\B12 y/\l3=numL x++44::(numL y++l4)/\(∀ e r,walk (.num:: .sign 44:: .num:: .sign e::r) l3 (k+1+(rowsL L).length+1)=walk (.sign e::r) l4 (k+1+(rowsL L).length+1+(numL x).length+1+(numL y).length))/\d= .tup [.int x,.int y]/\M'=RdM a t (k+1+(rowsL L).length+1+(numL x).length+1+(numL y).length),⟨a,t,_,l3,rfl,rfl,IN,λx y l' h1 h2 h3 h4=>⟨x,y,l',h1,h2,h3,h4,rfl,rfl⟩,λj hj M'=>?_⟩,?_⟩
        . rw[c5];exact hX j (λr=>by rw[MQ];exact hj _) M'
        rintro _ _ ⟨x,y,l4,j_,hy,rfl,NW,rfl,rfl⟩;k_places;have KQ:At t (k+1+(rowsL L).length+1+(numL x).length+1+(numL y).length) l4:=IN.app.next.app;refine⟨_,EL.mpr rfl,_,aN,bY,a,t,_,l4,";",rfl,rfl,KQ,λc l5 e hc=>?_,λd8 M'=>?_⟩
        . have ec:c=59:=EL.mp hc;subst ec;subst e;have KR:=KQ.next;have NX:∀ r,walk (.pat 5::r) (91::(rowsL L++59::(numL x++44::(numL y++59::l5)))) k=walk (.num:: .sign 44:: .num:: .sign 93::r) l5 (k+1+(rowsL L).length+1+(numL x).length+1+(numL y).length+1):=λr=>by rw[MQ,NW,dR]
          refine⟨λd M'=>∃ u v l6,B12 u/\B12 v/\l5=numL u++44::(numL v++l6)/\(∀ e r,walk (.num:: .sign 44:: .num:: .sign e::r) l5 (k+1+(rowsL L).length+1+(numL x).length+1+(numL y).length+1)=walk (.sign e::r) l6 (k+1+(rowsL L).length+1+(numL x).length+1+(numL y).length+1+(numL u).length+1+(numL v).length))/\d= .tup [.int u,.int v]/\M'=RdM a t (k+1+(rowsL L).length+1+(numL x).length+1+(numL y).length+1+(numL u).length+1+(numL v).length),⟨a,t,_,l5,rfl,rfl,KR,λx y l' h1 h2 h3 h4=>⟨x,y,l',h1,h2,h3,h4,rfl,rfl⟩,λj hj M'=>?_⟩,?_⟩
          . rw[c5];exact hX j (λr=>by rw[NX];exact hj _) M'
          rintro _ _ ⟨u,v,l6,hu,hv,rfl,NY,rfl,rfl⟩;k_places;have MU:At t (k+1+(rowsL L).length+1+(numL x).length+1+(numL y).length+1+(numL u).length+1+(numL v).length) l6:=KR.app.next.app;refine⟨_,EL.mpr rfl,_,aN,bY,a,t,_,l6,"]",rfl,rfl,MU,λc l7 e hc=>?_,λd8 M'=>?_⟩
          . have ec:c=93:=EL.mp hc;subst ec;subst e;obtain⟨Pn,NZ⟩:=Bn hL;have N1:(Pat.mot (L.map λx=>(⟨x.toArray⟩:IT)) x y u v).tl=motL L x y u v:=by rw[Pat.tl,NZ]
            have KS:∀ w,FormOf (Pat.mot (L.map λx=>(⟨x.toArray⟩:IT)) x y u v) k w->R w (RdM a t (k+1+(rowsL L).length+1+(numL x).length+1+(numL y).length+1+(numL u).length+1+(numL v).length+1)):=λw hw=>by
              have:=hR (Pat.mot (L.map λx=>(⟨x.toArray⟩:IT)) x y u v) l7 ⟨Pn,j_,hy,hu,hv⟩ rfl (by rw[N1];simp[motL]) w hw;rw[N1] at this;have e:k+(motL L x y u v).length=k+1+(rowsL L).length+1+(numL x).length+1+(numL y).length+1+(numL u).length+1+(numL v).length+1:=by
                simp[motL];lia
              rw[e] at this;exact this
            refine⟨k,L,w,x,y,u,v,rfl,hL,j_,hy,hu,hv,λe=>?_,λe w h s F=>?_⟩
            . exact KS _ ⟨.non,[],rfl,λ_=>rfl,λz=>absurd e z⟩
            . exact KS _ ⟨_,_,rfl,λz=>absurd z e,λ_=>⟨w,h,s,F,rfl,by rw[NZ]⟩⟩
          . rw[c5];refine hX _ (λr=>?_) M';rw[NX,NY,dQ λl' q=>d8 93 l' q (by decide)]
        . rw[c5];refine hX _ (λr=>?_) M';rw[MQ,NW,dQ λl' q=>d8 59 l' q (by decide)]
      . rw[c5];refine hX _ (λr=>?_) M';rw[KI,dQ λl' q=>d8 59 l' q (by decide)]
    . rw[c5];refine hX _ (λr=>?_) M';refine walk_bad (λz=>nomatch z) λc l' q=>?_;rw[bL];unfold bK;have:¬ c=91:=λz=>d8 c l' q (by rw[z];decide);rw[if_neg this,if_pos rfl]
abbrev iV(V:Bx):Prop:=V.M 1 "Mirror" lQ Bk
def Dt(T:V.Ti "Mirror" "Mirror.__init__" lP lQ)(uP:V.a "Mirror" "form"):iV V:=by
 refine Txi.okI T Cj (λds R h=>?_) (λf cdv A outer s H E J hr=>⟨_,((bH uP (aa 1) dI)),λds R h=>?_⟩)
 .obtain⟨_,_,rfl,_⟩:=h;rfl
 .obtain⟨x,fs,rfl,hR⟩:=h;exact⟨by decide,hR⟩
abbrev iW(V:Bx):Prop:=V.M 1 "Turn" lU Bl
def Du(T:V.Ti "Turn" "Turn.__init__" lR lU)(uR:V.a "Turn" "form"):iW V:=by
 refine Txi.okI T Ck (λds R h=>?_) (λf cdv A outer s H E J hr=>⟨_,((bH uR (aa 1) dI)),λds R h=>?_⟩)
 .obtain⟨_,_,rfl,_⟩:=h;rfl
 .obtain⟨x,fs,rfl,hR⟩:=h;exact⟨by decide,hR⟩
abbrev iX(V:Bx):Prop:=V.M 1 "Over" lW Bi
def Dv(T:V.Ti "Over" "Over.__init__" lV lW)(uN:V.a "Over" "above")(uS:V.a "Over" "below"):iX V:=by
 refine Txi.okI T Cl (λds R h=>?_) (λf cdv A outer s H E J hr=>⟨_,((bH uN (aa 1) (bH uS (aa 2) dI))),λds R h=>?_⟩)
 .obtain⟨_,_,_,_,rfl,_⟩:=h;rfl
 .obtain⟨x,y,fs,gs,rfl,hR⟩:=h;refine⟨by decide,by show(1:Nat)<1000;decide,?_⟩;show R (putD _ _ (putD _ _ []));rw[putD,putD,if_neg (by decide+kernel)];exact hR
abbrev iY(V:Bx):Prop:=V.M 1 "Shifted" lZ Bj
def Dw(T:V.Ti "Shifted" "Shifted.__init__" lY lZ)(uT:V.a "Shifted" "form")(Jd:V.a "Shifted" "x")(Je:V.a "Shifted" "y"):iY V:=by
 refine Txi.okI T Cm (λds R h=>?_) (λf cdv A outer s H E J hr=>⟨_,((bH uT (aa 1) (bH Jd (aa 2) (bH Je (aa 3) dI)))),λds R h=>?_⟩)
 .obtain⟨_,_,_,_,rfl,_⟩:=h;rfl
 .obtain⟨x,fs,a,b,rfl,hR⟩:=h;refine⟨by decide,by show(1:Nat)<1000;decide,by show(2:Nat)<1000;decide,?_⟩;show R (putD _ _ (putD _ _ (putD _ _ [])));rw[show putD ("x":IT) (.int a) (putD ("form":IT) (.obj x fs) [])=([("form",.obj x fs),("x",.int a)]:List (IT × D)) by rw[putD,putD,if_neg (by decide+kernel)];rfl,putD,if_neg (by decide+kernel),putD,if_neg (by decide+kernel)];exact hR
abbrev iZ(V:Bx):Prop:=V.M 1 "Rehue" me Bm
def Dx(T:V.Ti "Rehue" "Rehue.__init__" ma me)(uQ:V.a "Rehue" "form")(Jf:V.a "Rehue" "old")(Jg:V.a "Rehue" "new"):iZ V:=by
 refine Txi.okI T Cn (λds R h=>?_) (λf cdv A outer s H E J hr=>⟨_,((bH uQ (aa 1) (bH Jf (aa 2) (bH Jg (aa 3) dI)))),λds R h=>?_⟩)
 .obtain⟨_,_,_,_,rfl,_⟩:=h;rfl
 .obtain⟨x,fs,a,b,rfl,hR⟩:=h;refine⟨by decide,by show(1:Nat)<1000;decide,by show(2:Nat)<1000;decide,?_⟩;show R (putD _ _ (putD _ _ (putD _ _ [])));rw[show putD ("old":IT) (.int a) (putD ("form":IT) (.obj x fs) [])=([("form",.obj x fs),("old",.int a)]:List (IT × D)) by rw[putD,putD,if_neg (by decide+kernel)];rfl,putD,if_neg (by decide+kernel),putD,if_neg (by decide+kernel)];exact hR
variable{n j:Nat}
def Dy(hL:6<=n)(T:V.T "over_from" hV fQ)(uH:V.MM n "form_from" cL (dv j))(KU:iX V)(uC:cM V):V.MM (n+1) "over_from" fQ (sO j):=by
 refine Tx.okM T sc_over_from (λds M R RX h=>?_) (λf cdv A outer s H E J hr hx=>⟨_,((ax (aX 2 sc_over_from.nd (aW (hn:=by omega) uH hx hr (aA (ac (aa 0) (ac (aa 1) ae)))))
   (ax (cy (aU (hn:=by omega) (CalMth.one uC) hx hr (ag (aa 0)) (aA (ac az ae))))
   (ax (aX 3 sc_over_from.nd (aW (hn:=by omega) uH hx hr (aA (ac (aa 0) (ac (aa 1) ae)))))
   (ax (cy (aU (hn:=by omega) (CalMth.one uC) hx hr (ag (aa 0)) (aA (ac az ae))))
   (aB (aM (ag (jT (hn:=by omega) KU hr (ac (aa 2) (ac (aa 3) ae))))))))))),λds M R RX c5 h=>?_⟩)
 .obtain⟨_,_,_,_,_,rfl,_⟩:=h;rfl
 .obtain⟨a,t,k,l,d,rfl,rfl,d_,JK,JL,hR,hX⟩:=h;refine⟨λv M'=>∃ p l1,p.Syn/\p.depth+d<=5/\l=p.tl++l1/\FormOf p k v/\M'=RdM a t (k+p.tl.length),⟨a,t,k,l,d,rfl,rfl,d_,JK,JL,λp l' h1 h2 h3 v h4=>⟨p,l',h1,h2,h3,h4,rfl⟩,λi hi M'=>?_⟩,?_⟩
  .rw[c5];exact hX i (λr=>hi _) M'
  rintro v _ ⟨p,l1,hp,MV,rfl,hv,rfl⟩;k_places;obtain⟨fs,rfl⟩:=hv.obj;have d7:=d_.app;have t6:∀ r,walk (.pat d:: .sign 124:: .pat d:: .sign 41::r) (p.tl++l1) k=walk (.sign 124:: .pat d:: .sign 41::r) l1 (k+p.tl.length):=λr=>cJ hp d _ l1 k MV;refine⟨_,EL.mpr rfl,_,aN,bY,a,t,_,l1,"|",rfl,rfl,d7,λc l2 e hc=>?_,λd8 M'=>?_⟩
  .have ec:c=124:=EL.mp hc;subst ec;subst e;refine⟨λv M'=>∃ q l3,q.Syn/\q.depth+d<=5/\l2=q.tl++l3/\FormOf q (k+p.tl.length+1) v/\M'=RdM a t (k+p.tl.length+1+q.tl.length),⟨a,t,_,l2,d,rfl,rfl,d7.next,JK,JL,λp l' h1 h2 h3 v h4=>⟨p,l',h1,h2,h3,h4,rfl⟩,λi hi M'=>?_⟩,?_⟩
   .rw[c5];exact hX i (λr=>by rw[t6,dR];exact hi _) M'
   rintro v _ ⟨q,l3,hq,N2,rfl,N3,rfl⟩;k_places;obtain⟨gs,rfl⟩:=N3.obj;have IN:=d7.next.app;have Po:∀ r,walk (.pat d:: .sign 124:: .pat d:: .sign 41::r) (p.tl++124::(q.tl++l3)) k=walk (.sign 41::r) l3 (k+p.tl.length+1+q.tl.length):=λr=>by rw[t6,dR,cJ hq d _ l3 _ N2]
   refine⟨_,EL.mpr rfl,_,aN,bY,a,t,_,l3,")",rfl,rfl,IN,λc l4 e hc=>?_,λd8 M'=>?_⟩
   .have ec:c=41:=EL.mp hc;subst ec;subst e;exact⟨_,_,_,_,rfl,hR p q l4 hp hq MV N2 rfl _ _ hv N3⟩
   .rw[c5];refine hX _ (λr=>?_) M';rw[Po,dQ λl' q=>d8 41 l' q (by decide)]
  .rw[c5];refine hX _ (λr=>?_) M';rw[t6,dQ λl' q=>d8 124 l' q (by decide)]
def Dz(hL:6<=n)(T:V.T "shifted_from" hZ fR)(IM:fW V)(uH:V.MM n "form_from" cL (dv j))(KW:iY V)(uC:cM V):V.MM (n+1) "shifted_from" fR (sP j):=by
 refine Tx.okM T sc_shifted_from (λds M R RX h=>?_) (λf cdv A outer s H E J hr hx=>⟨_,((ax (aX 2 sc_shifted_from.nd (aW (hn:=by omega) IM hx hr (aA (ac (aa 0) ae))))
   (ax (cy (aU (hn:=by omega) (CalMth.one uC) hx hr (ag (aa 0)) (aA (ac az ae))))
   (aB (aM (gN (hn:=by omega) KW hr (aQ (aW (hn:=by omega) uH hx hr (aA (ac (aa 0) (ac (aa 1) ae)))) (aQ (ag (ai (aa 2) ad)) (aQ (ag (ai (aa 2) ad)) br))))))))),λds M R RX c5 h=>?_⟩)
 .obtain⟨_,_,_,_,_,rfl,_⟩:=h;rfl
 .obtain⟨a,t,k,l,d,rfl,rfl,d_,JK,JL,hR,hX⟩:=h;refine⟨λv M'=>∃ x y l1,B12 x/\B12 y/\l=numL x++44::(numL y++l1)/\(∀ e r,walk (.num:: .sign 44:: .num:: .sign e::r) l k=walk (.sign e::r) l1 (k+(numL x).length+1+(numL y).length))/\v= .tup [.int x,.int y]/\M'=RdM a t (k+(numL x).length+1+(numL y).length),⟨a,t,_,l,rfl,rfl,d_,λx y l' h1 h2 h3 h4=>⟨x,y,l',h1,h2,h3,h4,rfl,rfl⟩,λi hi M'=>?_⟩,?_⟩
  .rw[c5];exact hX i (λr=>hi _) M'
  rintro _ _ ⟨x,y,l1,j_,hy,rfl,t6,rfl,rfl⟩;k_places;have d7:At t (k+(numL x).length+1+(numL y).length) l1:=d_.app.next.app;refine⟨_,EL.mpr rfl,_,aN,bY,a,t,_,l1,":",rfl,rfl,d7,λc l2 e hc=>?_,λd8 M'=>?_⟩
  .have ec:c=58:=EL.mp hc;subst ec;subst e;refine⟨a,t,_,l2,d,rfl,rfl,d7.next,JK,JL,λp l' h1 h2 h3 v h4=>?_,λi hi M'=>?_⟩
   .obtain⟨fs,rfl⟩:=h4.obj;subst h3;exact⟨_,rfl,_,rfl,_,_,_,_,rfl,hR x y p l' j_ hy h1 h2 rfl _ h4⟩
   .rw[c5];refine hX i (λr=>?_) M';rw[t6,dR];exact hi _
  .rw[c5];refine hX _ (λr=>?_) M';rw[t6,dQ λl' q=>d8 58 l' q (by decide)]
def DB(hL:6<=n)(T:V.T "rehue_from" ia fS)(uU:V.m "int")(uH:V.MM n "form_from" cL (dv j))(KY:iZ V)(uC:cM V):V.MM (n+1) "rehue_from" fS (sQ j):=by
 refine Tx.okM T sc_rehue_from (λds M R RX h=>?_) (λf cdv A outer s H E J hr hx=>⟨_,((ax (aX 2 sc_rehue_from.nd (rk uU (aQ (aU (hn:=by omega) (CalMth.one uC) hx hr (ag (aa 0)) (aA (ac az ae))) br)))
   (ax (aX 3 sc_rehue_from.nd (rk uU (aQ (aU (hn:=by omega) (CalMth.one uC) hx hr (ag (aa 0)) (aA (ac az ae))) br)))
   (aB (aM (gN (hn:=by omega) KY hr (aQ (aW (hn:=by omega) uH hx hr (aA (ac (aa 0) (ac (aa 1) ae)))) (aQ (ag (aa 2)) (aQ (ag (aa 3)) br))))))))),λds M R RX c5 h=>?_⟩)
 .obtain⟨_,_,_,_,_,rfl,_⟩:=h;rfl
 .obtain⟨a,t,k,l,d,rfl,rfl,d_,JK,JL,hR,hX⟩:=h;refine⟨λv M'=>∃ c l1,(49<=c/\c<=54)/\l=c::l1/\v= .int ((c:Int) - 48)/\M'=RdM a t (k+1),⟨_,EL.mpr rfl,_,aN,bY,a,t,_,l,"123456",rfl,rfl,d_,λc l1 e hc=>?_,λd8 M'=>?_⟩,?_⟩
  .exact⟨_,⟨digit_of (hue_dig.mp hc),by show(1:Nat)<=640;decide⟩,c,l1,hue_dig.mp hc,e,rfl,rfl⟩
  .rw[c5];exact hX _ (λr=>sN d8) M'
  rintro _ _ ⟨c,l1,hc,rfl,rfl,rfl⟩;k_places;refine⟨λv M'=>∃ e l2,(49<=e/\e<=54)/\l1=e::l2/\v= .int ((e:Int) - 48)/\M'=RdM a t (k+2),⟨_,EL.mpr rfl,_,aN,bY,a,t,_,l1,"123456",rfl,rfl,d_.next,λc l1 e hc=>?_,λd8 M'=>?_⟩,?_⟩
  .exact⟨_,⟨digit_of (hue_dig.mp hc),by show(1:Nat)<=640;decide⟩,c,l1,hue_dig.mp hc,e,rfl,rfl⟩
  .rw[c5];exact hX _ (λr=>by rw[kF hc,sN d8]) M'
  rintro _ _ ⟨e,l2,he,rfl,rfl,rfl⟩;k_places;refine⟨a,t,_,l2,d,rfl,rfl,d_.next.next,JK,JL,λp l' h1 h2 h3 v h4=>?_,λi hi M'=>?_⟩
  .obtain⟨fs,rfl⟩:=h4.obj;subst h3;exact⟨_,_,_,_,rfl,hR c e p l' hc he h1 h2 rfl _ h4⟩
  .rw[c5];refine hX i (λr=>?_) M';rw[kF hc,kF he];exact hi _
def DC(hL:6<=n)(T:V.T "form_from" ib cL)(Pp:V.MM n "over_from" fQ (sO j))(Pq:V.MM n "shifted_from" fR (sP j))(uH:V.MM n "form_from" cL (dv j))(Pr:V.MM n "rehue_from" fS (sQ j))(KZ:iU V)(K0:V.gi "DEEP" 5)(K1:iV V)(K2:iW V)(uG:dA V):V.MM (n+1) "form_from" cL (dv (j+1)):=by
 refine Tx.okM T sc_form_from (λds M R RX h=>?_) (λf cdv A outer s H E J hr hx=>⟨_,((ax (aX 2 sc_form_from.nd (fK (cf (eE (aa 1) (eK K0))) (aU (hn:=by omega) (CalMth.one uG) hx hr (ag (aa 0)) (aA (ac az ae))) (ag az)))
   (ax (ck (cf (bT (aa 2) az)) (aB (aM (aW (hn:=by omega) Pp hx hr (aA (ac (aa 0) (ac (ar (aa 1) ad) ae)))))) bV)
   (ax (ck (cf (bT (aa 2) az)) (aB (aM (aW (hn:=by omega) Pq hx hr (aA (ac (aa 0) (ac (ar (aa 1) ad) ae)))))) bV)
   (ax (ck (cf (bT (aa 2) az)) (aB (aM (gN (hn:=by omega) K1 hr (aQ (aW (hn:=by omega) uH hx hr (aA (ac (aa 0) (ac (ar (aa 1) ad) ae)))) br)))) bV)
   (ax (ck (cf (bT (aa 2) az)) (aB (aM (gN (hn:=by omega) K2 hr (aQ (aW (hn:=by omega) uH hx hr (aA (ac (aa 0) (ac (ar (aa 1) ad) ae)))) br)))) bV)
   (ax (ck (cf (bT (aa 2) az)) (aB (aM (aW (hn:=by omega) Pr hx hr (aA (ac (aa 0) (ac (ar (aa 1) ad) ae)))))) bV)
   (aB (aM (aW (hn:=by omega) KZ hx hr (aA (ac (aa 0) ae)))))))))))),λds M R RX c5 h=>?_⟩)
 .obtain⟨_,_,_,_,_,rfl,_⟩:=h;rfl
 .obtain⟨a,t,k,l,d,rfl,rfl,d_,JK,JL,hR,hX⟩:=h;have Qi:d<=5:=by lia
  refine⟨λv M'=>(v= .str ""/\M'=RdM a t k/\(d=5\/∀ c l',l=c::l'->c ∉ cs "(smth"))\/(∃ c l',l=c::l'/\c∈cs "(smth"/\d<5/\v= .str ⟨#[c]⟩/\M'=RdM a t (k+1)),?_,?_⟩
  .show if decide ((d:Int)<5)=true then _ else _
   refine ite2 (λc=>?_) (λc=>?_)
   .have c':d<5:=by have:=of_decide_eq_true c;lia
    refine⟨_,EL.mpr rfl,_,aN,cT,a,t,_,l,"(smth",rfl,rfl,d_,?_⟩;by_cases h:∃ c l',l=c::l'/\c∈cs "(smth"
    .obtain⟨c,l',rfl,hc⟩:=h;rw[dO hc,dP hc];exact .inr ⟨c,l',rfl,hc,c',rfl,rfl⟩
    .have d8:∀ c l',l=c::l'->c ∉ cs "(smth":=λc l' e hc=>h ⟨c,l',e,hc⟩;have hm:mayS "(smth" l=""/\mayN "(smth" l=0:=by
      cases l with
      |nil=>exact⟨rfl,rfl⟩
      |cons c l=>exact⟨dq (d8 c l rfl),du (d8 c l rfl)⟩
     rw[hm.1,hm.2];exact .inl ⟨rfl,rfl,.inr d8⟩
   .have c':d=5:=by
     have:¬ ((d:Int)<5):=λz=>c (decide_eq_true z);lia
    exact .inl ⟨rfl,rfl,.inl c'⟩
  rintro _ _ (⟨rfl,rfl,d8⟩|⟨c,l1,rfl,hc,j3,rfl,rfl⟩);k_places
  .refine⟨a,t,k,l,rfl,rfl,d_,λp l' h1 h2 h3 v h4=>hR p l' h1 (by lia) h3 v h4,λi hi M'=>?_⟩;rw[c5];exact hX i (λr=>by rw[Bp d8];exact hi r) M'
  have d7:=d_.next;have hj:1<=j:=by lia
  have Ps:cs "(smth"=[40,115,109,116,104]:=rfl;rw[Ps] at hc;simp only[ER,FU,or_false] at hc;have nd:¬ d=5:=by lia
  rcases hc with rfl|rfl|rfl|rfl|rfl
  .have hw:∀ r,walk (.pat d::r) (40::l1) k=walk (.pat (d+1):: .sign 124:: .pat (d+1):: .sign 41::r) l1 (k+1):=λr=>aD (by rw[bL];unfold bK;rw[if_neg (by decide),if_neg nd,if_pos rfl]);refine⟨a,t,k+1,l1,d+1,rfl,rfl,d7,by lia,hj,λp q l' h1 h2 h3 h4 h5 u u' h6 h7=>?_,λi hi M'=>?_⟩
   .have:=hR (.over p q) l' ⟨h1,h2⟩ (by rw[Pat.depth];lia) (by rw[h5,Pat.tl];simp) _ ⟨u,u',rfl,h6,h7⟩;have e:k+(Pat.over p q).tl.length=k+1+p.tl.length+1+q.tl.length+1:=by rw[Pat.tl];simp;lia
    rw[e] at this;exact this
   .rw[c5];exact hX i (λr=>by rw[hw];exact hi r) M'
  .have hw:∀ r,walk (.pat d::r) (115::l1) k=walk (.num:: .sign 44:: .num:: .sign 58:: .pat (d+1)::r) l1 (k+1):=λr=>aD (by rw[bL];unfold bK;rw[if_neg (by decide),if_neg nd,if_neg (by decide),if_pos rfl]);refine⟨a,t,k+1,l1,d+1,rfl,rfl,d7,by lia,hj,λx y p l' h1 h2 h3 h4 h5 u h6=>?_,λi hi M'=>?_⟩
   .have:=hR (.sh x y p) l' ⟨h1,h2,h3⟩ (by rw[Pat.depth];lia) (by rw[h5,Pat.tl];simp) _ ⟨u,rfl,h6⟩;have e:k+(Pat.sh x y p).tl.length=k+1+(numL x).length+1+(numL y).length+1+p.tl.length:=by rw[Pat.tl];simp;lia
    rw[e] at this;exact this
   .rw[c5];exact hX i (λr=>by rw[hw];exact hi r) M'
  .have hw:∀ r,walk (.pat d::r) (109::l1) k=walk (.pat (d+1)::r) l1 (k+1):=λr=>aD (by rw[bL];unfold bK;rw[if_neg (by decide),if_neg nd,if_neg (by decide),if_neg (by decide),if_neg (by decide),if_pos (.inl rfl)]);refine⟨a,t,k+1,l1,d+1,rfl,rfl,d7,by lia,hj,λp l' h1 h2 h3 v h4=>?_,λi hi M'=>?_⟩
   .obtain⟨fs,rfl⟩:=h4.obj;have:=hR (.mir p) l' h1 (by rw[Pat.depth];lia) (by rw[h3,Pat.tl];simp) _ ⟨_,rfl,h4⟩;have e:k+(Pat.mir p).tl.length=k+1+p.tl.length:=by rw[Pat.tl];simp;lia
    rw[e] at this;exact⟨_,_,rfl,this⟩
   .rw[c5];exact hX i (λr=>by rw[hw];exact hi r) M'
  .have hw:∀ r,walk (.pat d::r) (116::l1) k=walk (.pat (d+1)::r) l1 (k+1):=λr=>aD (by rw[bL];unfold bK;rw[if_neg (by decide),if_neg nd,if_neg (by decide),if_neg (by decide),if_neg (by decide),if_pos (.inr rfl)]);refine⟨a,t,k+1,l1,d+1,rfl,rfl,d7,by lia,hj,λp l' h1 h2 h3 v h4=>?_,λi hi M'=>?_⟩
   .obtain⟨fs,rfl⟩:=h4.obj;have:=hR (.tur p) l' h1 (by rw[Pat.depth];lia) (by rw[h3,Pat.tl];simp) _ ⟨_,rfl,h4⟩;have e:k+(Pat.tur p).tl.length=k+1+p.tl.length:=by rw[Pat.tl];simp;lia
    rw[e] at this;exact⟨_,_,rfl,this⟩
   .rw[c5];exact hX i (λr=>by rw[hw];exact hi r) M'
  .have hw:∀ r,walk (.pat d::r) (104::l1) k=walk (.hue:: .hue:: .pat (d+1)::r) l1 (k+1):=λr=>aD (by rw[bL];unfold bK;rw[if_neg (by decide),if_neg nd,if_neg (by decide),if_neg (by decide),if_pos rfl]);refine⟨a,t,k+1,l1,d+1,rfl,rfl,d7,by lia,hj,λc e p l' h1 h2 h3 h4 h5 u h6=>?_,λi hi M'=>?_⟩
   .have:=hR (.hue ((c:Int) - 48) ((e:Int) - 48) p) l' ⟨by lia,by lia,h3⟩ (by rw[Pat.depth];lia) (by rw[h5,Pat.tl,gW h1,gW h2];simp) _ ⟨u,rfl,h6⟩;have e:k+(Pat.hue ((c:Int) - 48) ((e:Int) - 48) p).tl.length=k+1+2+p.tl.length:=by rw[Pat.tl,gW h1,gW h2];simp;lia
    rw[e] at this;exact this
   .rw[c5];exact hX i (λr=>by rw[hw];exact hi r) M'
def DD(Pt:V.T "over_from" hV fQ)(Pu:V.T "shifted_from" hZ fR)(Pw:V.T "rehue_from" ia fS)(N4:V.T "form_from" ib cL)(KU:iX V)(uC:cM V)(IM:fW V)(KW:iY V)(uU:V.m "int")(KY:iZ V)(KZ:iU V)(K0:V.gi "DEEP" 5)(K1:iV V)(K2:iW V)(uG:dA V):∀ j,V.MM (6+2*j) "form_from" cL (dv j):=by
 intro j;induction j with
 |zero=>exact CalMM.never N4 (λds M R RX=>Bq)
 |succ j ih=>
  have K3:=ih;have MX:=Dy (n:=6+2*j) (j:=j) (by omega) Pt K3 KU uC;have MY:=Dz (n:=6+2*j) (j:=j) (by omega) Pu IM K3 KW uC;have MZ:=DB (n:=6+2*j) (j:=j) (by omega) Pw uU K3 KY uC;have K3:=Cal.mono ih (FQ _);exact DC (n:=6+2*j+1) (j:=j) (by omega) N4 MX MY K3 MZ KZ K0 K1 K2 uG
abbrev oj(V:Bx):Prop:=V.M 1 "Reading" mh AW
def DF(T:V.Ti "Reading" "Reading.__init__" mf mh)(Ja:V.a "Reading" "text")(uE:V.a "Reading" "place"):oj V:=by
 refine Txi.okI T Co (λds R h=>?_) (λf cdv A outer s H E J hr=>⟨_,((bH Ja (aa 1) (bH uE ad dI))),λds R h=>?_⟩)
 .obtain⟨_,rfl,_⟩:=h;rfl
 .obtain⟨t,rfl,hR⟩:=h;refine⟨by decide,by show(1:Nat)<1000;decide,?_⟩;show R (putD _ _ (putD _ _ []));rw[putD,putD,if_neg (by decide+kernel)];exact hR
abbrev ol(V:Bx):Prop:=V.M 1 "Pattern" mj BB
def DG(T:V.Ti "Pattern" "Pattern.__init__" mi mj)(M0:V.a "Pattern" "text")(uJ:V.a "Pattern" "shifts")(J3:V.a "Pattern" "form"):ol V:=by
 refine Txi.okI T Cp (λds R h=>?_) (λf cdv A outer s H E J hr=>⟨_,((bH M0 (aa 1) (bH uJ (aa 2) (bH J3 (aa 3) dI)))),λds R h=>?_⟩)
 .obtain⟨_,_,_,_,_,_,rfl,_⟩:=h;rfl
 .obtain⟨t,w,h,s,x,fs,rfl,hR⟩:=h;refine⟨by decide,by show(1:Nat)<1000;decide,by show(2:Nat)<1000;decide,?_⟩;show R (putD _ _ (putD _ _ (putD _ _ [])));rw[show putD ("shifts":IT) (.tup [.int w,.int h,.int s]) (putD ("text":IT) (.str t) [])=([("text",.str t),("shifts",.tup [.int w,.int h,.int s])]:List (IT × D)) by rw[putD,putD,if_neg (by decide+kernel)];rfl,putD,if_neg (by decide+kernel),putD,if_neg (by decide+kernel)];exact hR
abbrev ja(V:Bx):Prop:=V.E 1 "OneLine" mn BD
def DJ(T:V.Te "OneLine" "OneLine.__init__" mm mn)(J0:V.b "MotifError")(uBA:V.ea "OneLine")(M4:V.xf "OneLine" "place"):ja V:=by
 refine Txe.okE T Cq (λds R h=>?_) (λf cdv A outer s H E J hr=>⟨_,((qR J0 uBA (ac (aa 1) ae) (qS uBA M4 (aa 1) qQ))),λds R h=>?_⟩)
 .obtain⟨i,rfl,_⟩:=h;rfl
 .obtain⟨i,rfl,hR⟩:=h;exact⟨by show(1:Nat)<=1000;decide,rfl,hR⟩
abbrev om(V:Bx):Prop:=V.D 2 "measure" mq Ay
def DK(T:V.T "measure" mo mq)(J1:iS V):om V:=by
 refine Tx.okDW T sc_measure (λds R h=>?_) (λf cdv A outer s H E J hr=>⟨_,((ah (aq 2 sc_measure.nd (ai (ao J1 hr (ac (bq (ac ad (ac (aa 0) ae))) (ac (bq (ac ad (ac (aa 1) ae))) ae))) ad))
   (am (aw (bq (ac (ai (aa 2) ad) (ac (ai (aa 2) ad) ae))))))),λds R h=>?_⟩)
 .obtain⟨x,y,rfl,_⟩:=h;rfl
 .obtain⟨x,y,rfl,hx,hy,hR⟩:=h;refine⟨λd=>∃ p0 p1:Int,d= .tup [.int p0,.int p1]/\Meas x y p1 p0,⟨by simp,by simp,1,x,0,y,rfl,hx,hy,λp0 p1 q0 hL=>⟨_,rfl,p0,p1,rfl,rV ⟨hL.1,hL.2⟩⟩⟩,?_⟩;rintro _ ⟨p0,p1,rfl,hM⟩;k_places;exact⟨_,rfl,_,rfl,by simp,hR p1 p0 hM⟩
abbrev fX(V:Bx):Prop:=V.D 3 "met" mw Az
def DL(T:V.T "met" mv mw)(K4:om V):fX V:=by
 refine Tx.okDW T sc_met (λds R h=>?_) (λf cdv A outer s H E J hr=>⟨_,((ah (aq 2 sc_met.nd (ao K4 hr (ac (ai (aa 0) ad) (ac (ai (aa 1) ad) ae))))
   (ah (aq 3 sc_met.nd (bB (aV (ai (aa 0) ad) (ai (aa 1) ad)) (ai (aa 2) ad)))
   (ah (aq 4 sc_met.nd (bB (aV (ai (aa 0) ad) (ai (aa 1) ad)) (ai (ao K4 hr (ac (ai (aa 0) ad) (ac (ai (aa 1) ad) ae))) ad)))
   (ah (aq 5 sc_met.nd (aV (bB (aa 4) (ai (aa 0) ad)) (ai (aa 0) ad)))
   (ah (aq 6 sc_met.nd (bu (aV (bB (aa 4) (ai (aa 1) ad)) (ai (aa 1) ad)) (aa 5)))
   (ah (aq 7 sc_met.nd (bB (ai (aa 2) ad) (ai (ao K4 hr (ac (ai (aa 2) ad) (ac (aa 6) ae))) ad)))
   (ah (aq 8 sc_met.nd (aV (bB (aV (aa 7) (aa 6)) (ai (aa 2) ad)) (ai (aa 2) ad)))
   (am (aw (bq (ac (aa 3) (ac (aV (aa 4) (aa 7)) (ac (aP (ar (aV (aa 7) (aa 5)) (aV (aa 8) (ai (aa 0) ad))) (aa 3)) ae)))))))))))))),λds R h=>?_⟩)
 .obtain⟨_,_,_,_,_,_,rfl,_⟩:=h;rfl
 .obtain⟨w1,h1,s1,w2,h2,s2,rfl,a1,a2,a3,a4,a5,a6,b1,b2,b3,b4,b5,b6,hR⟩:=h;refine⟨λd=>∃ g u:Int,d= .tup [.int g,.int u]/\Meas w1 w2 g u,⟨_,rfl,_,rfl,w1,w2,rfl,by omega,by omega,λg u M=>⟨g,u,rfl,M⟩⟩,?_⟩;rintro _ ⟨g,u,rfl,M1⟩;k_places;have hg:=M1.pos a1;have N5:=M1.le a1;refine⟨λd=>d= .int (w1*w2 / g),⟨_,rfl,_,rfl,.inl (b64B a1 a2),_,rfl,d30B hg (GU N5 a2),rfl⟩,?_⟩;rintro _ rfl;k_places;refine⟨λd=>∃ k u':Int,d= .int (h1*h2 / k)/\Meas h1 h2 k u',⟨_,rfl,_,rfl,.inl (b64B a3 a4),_,rfl,_,rfl,h1,h2,rfl,by omega,by omega,λk u' M=>⟨_,rfl,d30B (M.pos a3) (GU (M.le a3) a4),k,u',rfl,M⟩⟩,?_⟩;rintro _ ⟨k,u',rfl,M2⟩;k_places;obtain⟨r0,r1,r2,r3,r4,r5⟩:=rX a3 b3 M2;have Px:h1*h2<=1125899906842624:=by
   have:=bv (a:=h1) (d:=h2) (A:=33554432) (B:=33554432) (by omega) (by omega);omega
  refine⟨λd=>d= .int (h1*h2 / k / h1*s1),⟨_,rfl,d30B a3 a4,_,rfl,.inr (s64B a5 a6 a2),rfl⟩,?_⟩;rintro _ rfl;k_places;refine⟨λd=>d= .int (h1*h2 / k / h2*s2 - h1*h2 / k / h1*s1),⟨_,rfl,d30B b3 b4,_,rfl,.inr (s64B b5 b6 b2),rfl⟩,?_⟩;rintro _ rfl;k_places;have t1:=bv (a:=h1*h2 / k / h1) (d:=s1) (A:=33554432) (B:=33554432) (by omega) (by omega);have t2:=bv (a:=h1*h2 / k / h2) (d:=s2) (A:=33554432) (B:=33554432) (by omega) (by omega);refine⟨λd=>∃ gg v_:Int,d= .int (g / gg)/\Meas g (h1*h2 / k / h2*s2 - h1*h2 / k / h1*s1) gg v_,⟨_,rfl,_,rfl,g,_,rfl,by omega,by omega,λgg v_ M=>⟨_,rfl,d30B (M.pos hg) (GU (M.le hg) (GU N5 a2)),gg,v_,rfl,M⟩⟩,?_⟩;rintro _ ⟨gg,v_,rfl,M3⟩;k_places;have G':=M3.pos hg;have c1:0<=g / gg:=Hq (by omega) (by omega);have c2:g / gg<=g:=Hr _ (by omega);have c4:=Am (c:=g / gg) (gap:=h1*h2 / k / h2*s2 - h1*h2 / k / h1*s1) (N:=2251799813685248) hg c1 c2 (by omega);have mr:=rW a1 b1 a3 b3 M1 M2 M3;refine⟨λd=>d= .int (g / gg*(h1*h2 / k / h2*s2 - h1*h2 / k / h1*s1) / g*u),⟨.inl ⟨by omega,by omega⟩,_,rfl,⟨by omega,by omega⟩,_,rfl,.inl ⟨by omega,by omega⟩,rfl⟩,?_⟩;rintro _ rfl;k_places;obtain⟨w0,w3,_⟩:=rX a1 b1 M1;have Py:w1*w2<=1125899906842624:=by
   have:=bv (a:=w1) (d:=w2) (A:=33554432) (B:=33554432) (by omega) (by omega);omega
  have KI:=bv (a:=h1*h2 / k) (d:=g / gg) (A:=1125899906842624) (B:=33554432) (by omega) (by omega);exact⟨.inl ⟨by omega,by omega⟩,.inl ⟨by omega,by omega⟩,_,rfl,.inr ⟨by omega,by omega⟩,w0,by simp,hR _ _ _ _ mr⟩
abbrev jb(V:Bx):Prop:=V.D 1 "mirrored" my Aw
def DM(T:V.T "mirrored" mx my):jb V:=by
 refine Tx.okDW T Cr (λds R h=>?_) (λf cdv A outer s H E J hr=>⟨_,((am (aw (bq (ac (ai (aa 0) ad) (ac (ai (aa 0) ad) (ac (aP (dF (ai (aa 0) ad)) (ai (aa 0) ad)) ae))))))),λds R h=>?_⟩)
 .obtain⟨w,h,s,rfl,_⟩:=h;rfl
 .obtain⟨w,h,s,rfl,hw,hR⟩:=h;exact⟨_,rfl,_,rfl,_,rfl,_,rfl,hw,by simp,hR⟩
abbrev jc(V:Bx):Prop:=V.D 3 "turned" mB Ax
def DN(T:V.T "turned" mz mB)(J2:iT V):jc V:=by
 refine Tx.okDW T Cs (λds R h=>?_) (λf cdv A outer s H E J hr=>⟨_,((am (aw (ao J2 hr (ac (bq (ac ad (ac (ai (aa 0) ad) ae))) (ac (bq (ac (dF (ai (aa 0) ad)) (ac (ai (aa 0) ad) ae))) ae)))))),λds R h=>?_⟩)
 .obtain⟨w,h,s,rfl,_⟩:=h;rfl
 .obtain⟨w,h,s,rfl,hw,hh,IZ,IY,hs,n8,hR⟩:=h;have hp:0<w*h:=E5 hw hh;have hn:¬ 0*s=w* -h:=by rw[FJ];lia
  exact⟨_,rfl,by simp,_,rfl,_,rfl,by simp,0,w,-h,s,rfl,by lia,by lia,by lia,by lia,λe=>absurd e hn,λ_ w' h' s' f=>hR w' h' s' f⟩
def ok_Motif_family(hL:3<=n)(T:V.Tm "Motif" "family" "Motif.family" ic cE)(uI:V.a "Motif" "shifts")(Jb:V.a "Motif" "place")(uAI:ja V):V.Q (n+1) "Motif" "family" cE (ofX (bO (j+1) "Motif")):=by
 refine Txm.okM T Ct (λds M R RX h=>?_) (λf cdv A outer s H E J hr hx=>⟨_,((ax (ck (rh (aI uI (ag (aa 0))) (ag eA)) (aB (ki (hn:=by omega) uAI hr hx rfl (aQ (aI Jb (ag (aa 0))) br))) bV)
   (aB (aM (aI uI (ag (aa 0))))))),λds M R RX c5 h=>?_⟩)
 .obtain⟨_,_,_,rfl,_⟩:=h;rfl
 .obtain⟨p,k,v,rfl,hv,hs,hd,hc,f9,hX,hR⟩:=h;cases p with
  |over p q=>exact absurd (show("Over":IT)="Motif" from hc) (by decide+kernel)
  |sh a b p=>exact absurd (show("Shifted":IT)="Motif" from hc) (by decide+kernel)
  |mir p=>exact absurd (show("Mirror":IT)="Motif" from hc) (by decide+kernel)
  |tur p=>exact absurd (show("Turn":IT)="Motif" from hc) (by decide+kernel)
  |hue f g p=>exact absurd (show("Rehue":IT)="Motif" from hc) (by decide+kernel)
  |mot L a b c d=>
   obtain⟨sh,hu,rfl,h0,h1⟩:=hv;refine⟨_,⟨rfl,rfl⟩,_,kG,?_⟩;by_cases e:a*d=b*c
   .rw[h0 e];refine⟨_,⟨rfl,rfl⟩,_,Br,by show(1:Nat)<=1000;decide,(k:Int),rfl,?_⟩;rw[c5];exact hX k (by rw[Pat.lineAt,if_pos e])
   .obtain⟨w,h,s,F,rfl,rfl⟩:=h1 e;exact⟨_,⟨rfl,rfl⟩,_,kG,hR (by rw[Pat.lineAt,if_neg e]) w h s (Pat.Fam.mot F)⟩
def DO(hL:3<=n)(T:V.Tm "Over" "family" "Over.family" ie ig)(Jh:fX V)(uN:V.a "Over" "above")(uS:V.a "Over" "below")(uD:∀ x,x∈(["Motif","Over","Shifted","Mirror","Turn","Rehue"]:List IT)->V.Q n x "family" cE (ofX (bO j x))):V.Q (n+1) "Over" "family" ig (ofX (bO (j+1) "Over")):=by
 refine Txm.okM T sc_Over_family (λds M R RX h=>?_) (λf cdv A outer s H E J hr hx=>⟨_,((ax (aX 1 sc_Over_family.nd (dJ (hn:=by omega) uD hx hr (aI uN (ag (aa 0)))))
   (aB (aM (aW (hn:=by omega) (CalD.toM Jh) hx hr (aQ (ag (aa 1)) (aQ (dJ (hn:=by omega) uD hx hr (aI uS (ag (aa 0)))) br))))))),λds M R RX c5 h=>?_⟩)
 .obtain⟨_,_,_,rfl,_⟩:=h;rfl
 .obtain⟨p,k,v,rfl,hv,hs,hd,hc,f9,hX,hR⟩:=h;cases p with
  |mot L a b c d=>exact absurd (show("Motif":IT)="Over" from hc) (by decide+kernel)
  |sh a b p=>exact absurd (show("Shifted":IT)="Over" from hc) (by decide+kernel)
  |mir p=>exact absurd (show("Mirror":IT)="Over" from hc) (by decide+kernel)
  |tur p=>exact absurd (show("Turn":IT)="Over" from hc) (by decide+kernel)
  |hue f g p=>exact absurd (show("Rehue":IT)="Over" from hc) (by decide+kernel)
  |over p q=>
   obtain⟨u,u',rfl,hu,K5⟩:=hv;obtain⟨fs,rfl,hf,_⟩:=hu.objm;obtain⟨gs,rfl,hg,_⟩:=K5.objm;rw[Pat.depth] at hd;refine⟨λd M'=>(∃ w h s,p.lineAt (k+1)=z7/\p.Fam w h s/\d= .tup [.int w,.int h,.int s])/\M'=M,⟨_,⟨rfl,rfl⟩,_,rfl,p.cls,p.cls_mem,fs,⟨rfl,rfl⟩,hf,p,k+1,_,rfl,hu,hs.1,by lia,rfl,f9.1,λi hi=>?_,λhn w h s F=>⟨⟨w,h,s,hn,F,rfl⟩,rfl⟩⟩,?_⟩
   .rw[c5];exact hX i (by rw[Pat.lineAt,hi])
   rintro _ _ ⟨⟨w1,h1,s1,M5,F1,rfl⟩,rfl⟩;k_places;refine⟨_,⟨rfl,rfl⟩,_,fb (by decide+kernel),q.cls,q.cls_mem,gs,⟨rfl,rfl⟩,hg,q,k+1+p.tl.length+1,_,rfl,K5,hs.2,by lia,rfl,f9.2.1,λi hi=>?_,λy8 w2 h2 s2 F2=>?_⟩
   .rw[c5];exact hX i (by rw[Pat.lineAt,M5];exact hi)
   .obtain⟨f1,f2⟩:=f9.2.2 (Pat.line_wf _ hs.1 M5) (Pat.line_wf _ hs.2 y8);obtain⟨a1,a2,a3,a4,a5,a6⟩:=f1.small F1;obtain⟨b1,b2,b3,b4,b5,b6⟩:=f2.small F2;exact⟨w1,h1,s1,w2,h2,s2,rfl,a1,a2,a3,a4,a5,a6,b1,b2,b3,b4,b5,b6,λw h s A MR=>hR (by rw[Pat.lineAt,M5];exact y8) w h s (Pat.Fam.over F1 F2 MR)⟩
def DP(hL:3<=n)(T:V.Tm "Shifted" "family" "Shifted.family" ii ij)(uT:V.a "Shifted" "form")(uD:∀ x,x∈(["Motif","Over","Shifted","Mirror","Turn","Rehue"]:List IT)->V.Q n x "family" cE (ofX (bO j x))):V.Q (n+1) "Shifted" "family" ij (ofX (bO (j+1) "Shifted")):=by
 refine Txm.okM T Cu (λds M R RX h=>?_) (λf cdv A outer s H E J hr hx=>⟨_,((aB (aM (dJ (hn:=by omega) uD hx hr (aI uT (ag (aa 0))))))),λds M R RX c5 h=>?_⟩)
 .obtain⟨_,_,_,rfl,_⟩:=h;rfl
 .obtain⟨p,k,v,rfl,hv,hs,hd,hc,f9,hX,hR⟩:=h;cases p with
  |mot L a b c d=>exact absurd (show("Motif":IT)="Shifted" from hc) (by decide+kernel)
  |over p q=>exact absurd (show("Over":IT)="Shifted" from hc) (by decide+kernel)
  |mir p=>exact absurd (show("Mirror":IT)="Shifted" from hc) (by decide+kernel)
  |tur p=>exact absurd (show("Turn":IT)="Shifted" from hc) (by decide+kernel)
  |hue f g p=>exact absurd (show("Rehue":IT)="Shifted" from hc) (by decide+kernel)
  |sh a b p=>
   obtain⟨u,rfl,hu⟩:=hv;obtain⟨fs,rfl,hf,_⟩:=hu.objm;rw[Pat.depth] at hd;refine⟨_,⟨rfl,rfl⟩,_,rfl,p.cls,p.cls_mem,fs,⟨rfl,rfl⟩,hf,p,_,_,rfl,hu,hs.2.2,by lia,rfl,f9,λi hi=>?_,λhn w h s F=>?_⟩
   .rw[c5];exact hX i (by rw[Pat.lineAt];exact hi)
   .exact hR (by rw[Pat.lineAt];exact hn) w h s (F.sh a b)
def DQ(hL:3<=n)(T:V.Tm "Mirror" "family" "Mirror.family" ik il)(K6:jb V)(uP:V.a "Mirror" "form")(uD:∀ x,x∈(["Motif","Over","Shifted","Mirror","Turn","Rehue"]:List IT)->V.Q n x "family" cE (ofX (bO j x))):V.Q (n+1) "Mirror" "family" il (ofX (bO (j+1) "Mirror")):=by
 refine Txm.okM T Cw (λds M R RX h=>?_) (λf cdv A outer s H E J hr hx=>⟨_,((aB (aM (aW (hn:=by omega) (CalD.toM K6) hx hr (aQ (dJ (hn:=by omega) uD hx hr (aI uP (ag (aa 0)))) br))))),λds M R RX c5 h=>?_⟩)
 .obtain⟨_,_,_,rfl,_⟩:=h;rfl
 .obtain⟨p,k,v,rfl,hv,hs,hd,hc,f9,hX,hR⟩:=h;cases p with
  |mot L a b c d=>exact absurd (show("Motif":IT)="Mirror" from hc) (by decide+kernel)
  |over p q=>exact absurd (show("Over":IT)="Mirror" from hc) (by decide+kernel)
  |sh a b p=>exact absurd (show("Shifted":IT)="Mirror" from hc) (by decide+kernel)
  |tur p=>exact absurd (show("Turn":IT)="Mirror" from hc) (by decide+kernel)
  |hue f g p=>exact absurd (show("Rehue":IT)="Mirror" from hc) (by decide+kernel)
  |mir p=>
   obtain⟨u,rfl,hu⟩:=hv;obtain⟨fs,rfl,hf,_⟩:=hu.objm;rw[Pat.depth] at hd;refine⟨_,⟨rfl,rfl⟩,_,rfl,p.cls,p.cls_mem,fs,⟨rfl,rfl⟩,hf,p,_,_,rfl,hu,hs,by lia,rfl,f9,λi hi=>?_,λhn w h s F=>?_⟩
   .rw[c5];exact hX i (by rw[Pat.lineAt];exact hi)
   .exact⟨w,h,s,rfl,F.f.w0,hR (by rw[Pat.lineAt];exact hn) w h _ F.mir⟩
def DR(hL:3<=n)(T:V.Tm "Turn" "family" "Turn.family" im io)(K7:jc V)(uR:V.a "Turn" "form")(uD:∀ x,x∈(["Motif","Over","Shifted","Mirror","Turn","Rehue"]:List IT)->V.Q n x "family" cE (ofX (bO j x))):V.Q (n+1) "Turn" "family" io (ofX (bO (j+1) "Turn")):=by
 refine Txm.okM T Cy (λds M R RX h=>?_) (λf cdv A outer s H E J hr hx=>⟨_,((aB (aM (aW (hn:=by omega) (CalD.toM K7) hx hr (aQ (dJ (hn:=by omega) uD hx hr (aI uR (ag (aa 0)))) br))))),λds M R RX c5 h=>?_⟩)
 .obtain⟨_,_,_,rfl,_⟩:=h;rfl
 .obtain⟨p,k,v,rfl,hv,hs,hd,hc,f9,hX,hR⟩:=h;cases p with
  |mot L a b c d=>exact absurd (show("Motif":IT)="Turn" from hc) (by decide+kernel)
  |over p q=>exact absurd (show("Over":IT)="Turn" from hc) (by decide+kernel)
  |sh a b p=>exact absurd (show("Shifted":IT)="Turn" from hc) (by decide+kernel)
  |mir p=>exact absurd (show("Mirror":IT)="Turn" from hc) (by decide+kernel)
  |hue f g p=>exact absurd (show("Rehue":IT)="Turn" from hc) (by decide+kernel)
  |tur p=>
   obtain⟨u,rfl,hu⟩:=hv;obtain⟨fs,rfl,hf,_⟩:=hu.objm;rw[Pat.depth] at hd;refine⟨_,⟨rfl,rfl⟩,_,rfl,p.cls,p.cls_mem,fs,⟨rfl,rfl⟩,hf,p,_,_,rfl,hu,hs,by lia,rfl,f9.1,λi hi=>?_,λhn w h s F=>?_⟩
   .rw[c5];exact hX i (by rw[Pat.lineAt];exact hi)
   .obtain⟨a1,a2,a3,a4,a5,a6⟩:=(f9.2 (Pat.line_wf _ hs hn)).small F;exact⟨w,h,s,rfl,a1,a3,by lia,by lia,a5,by lia,λw' h' s' F'=>hR (by rw[Pat.lineAt];exact hn) w' h' s' (F.tur F')⟩
def DU(hL:3<=n)(T:V.Tm "Rehue" "family" "Rehue.family" ir iu)(uQ:V.a "Rehue" "form")(uD:∀ x,x∈(["Motif","Over","Shifted","Mirror","Turn","Rehue"]:List IT)->V.Q n x "family" cE (ofX (bO j x))):V.Q (n+1) "Rehue" "family" iu (ofX (bO (j+1) "Rehue")):=by
 refine Txm.okM T Cz (λds M R RX h=>?_) (λf cdv A outer s H E J hr hx=>⟨_,((aB (aM (dJ (hn:=by omega) uD hx hr (aI uQ (ag (aa 0))))))),λds M R RX c5 h=>?_⟩)
 .obtain⟨_,_,_,rfl,_⟩:=h;rfl
 .obtain⟨p,k,v,rfl,hv,hs,hd,hc,f9,hX,hR⟩:=h;cases p with
  |mot L a b c d=>exact absurd (show("Motif":IT)="Rehue" from hc) (by decide+kernel)
  |over p q=>exact absurd (show("Over":IT)="Rehue" from hc) (by decide+kernel)
  |sh a b p=>exact absurd (show("Shifted":IT)="Rehue" from hc) (by decide+kernel)
  |mir p=>exact absurd (show("Mirror":IT)="Rehue" from hc) (by decide+kernel)
  |tur p=>exact absurd (show("Turn":IT)="Rehue" from hc) (by decide+kernel)
  |hue f g p=>
   obtain⟨u,rfl,hu⟩:=hv;obtain⟨fs,rfl,hf,_⟩:=hu.objm;rw[Pat.depth] at hd;refine⟨_,⟨rfl,rfl⟩,_,rfl,p.cls,p.cls_mem,fs,⟨rfl,rfl⟩,hf,p,_,_,rfl,hu,hs.2.2,by lia,rfl,f9,λi hi=>?_,λhn w h s F=>?_⟩
   .rw[c5];exact hX i (by rw[Pat.lineAt];exact hi)
   .exact hR (by rw[Pat.lineAt];exact hn) w h s (F.hue f g)
def DV(N6:V.Tm "Motif" "family" "Motif.family" ic cE)(N7:V.Tm "Over" "family" "Over.family" ie ig)(N8:V.Tm "Shifted" "family" "Shifted.family" ii ij)(N9:V.Tm "Mirror" "family" "Mirror.family" ik il)(N_:V.Tm "Turn" "family" "Turn.family" im io)(Oa:V.Tm "Rehue" "family" "Rehue.family" ir iu)(uI:V.a "Motif" "shifts")(Jb:V.a "Motif" "place")(uAI:ja V)(Jh:fX V)(uN:V.a "Over" "above")(uS:V.a "Over" "below")(uT:V.a "Shifted" "form")(K6:jb V)(uP:V.a "Mirror" "form")(K7:jc V)(uR:V.a "Turn" "form")(uQ:V.a "Rehue" "form"):∀ j x,x∈(["Motif","Over","Shifted","Mirror","Turn","Rehue"]:List IT)->V.Q (3+j) x "family" cE (ofX (bO j x)):=by
 intro j;induction j with
 |zero=>
  intro x hx;simp only[ER,FU,or_false] at hx;rcases hx with rfl|rfl|rfl|rfl|rfl|rfl
  .exact CalMth.never N6 (λds M R RX=>fg)
  .exact CalMth.never N7 (λds M R RX=>fg)
  .exact CalMth.never N8 (λds M R RX=>fg)
  .exact CalMth.never N9 (λds M R RX=>fg)
  .exact CalMth.never N_ (λds M R RX=>fg)
  .exact CalMth.never Oa (λds M R RX=>fg)
 |succ j K8=>
  intro x hx;simp only[ER,FU,or_false] at hx;rcases hx with rfl|rfl|rfl|rfl|rfl|rfl
  .exact ok_Motif_family (n:=3+j) (j:=j) (by omega) N6 uI Jb uAI
  .exact DO (n:=3+j) (j:=j) (by omega) N7 Jh uN uS K8
  .exact DP (n:=3+j) (j:=j) (by omega) N8 uT K8
  .exact DQ (n:=3+j) (j:=j) (by omega) N9 K6 uP K8
  .exact DR (n:=3+j) (j:=j) (by omega) N_ K7 uR K8
  .exact DU (n:=3+j) (j:=j) (by omega) Oa uQ K8
abbrev tV(V:Bx):Prop:=V.MM 18 "form_from" cL (dv 6)
abbrev tW(V:Bx):Prop:=∀ x,x∈(["Motif","Over","Shifted","Mirror","Turn","Rehue"]:List IT)->V.Q 9 x "family" cE (ofX (bO 6 x))
abbrev on(V:Bx):Prop:=V.X 19 "read" mD sW
def DY(T:V.T "read" mC mD)(uB:V.m "len")(uH:tV V)(J4:V.gi "MOST" 720)(uE:V.a "Reading" "place")(M6:oj V)(M7:ol V)(uD:tW V)(uAB:iR V)(J5:V.n "TooGreat"):on V:=by
 refine CalMM.nilX (Tx.okM T sc_read (λds M R RX h=>?_) (λf cdv A outer s H E J hr hx=>⟨_,((ax (aX 1 sc_read.nd (zd M6 hr (aA (ac (aa 0) ae))))
   (ax (aX 2 sc_read.nd (aW uH hx hr (aA (ac (aa 1) (ac ad ae)))))
   (ax (ck (rg (aI uE (ag (aa 1))) (ag (cv uB (ac (aa 0) ae)))) (aB (ki uAB hr hx rfl (aQ (aI uE (ag (aa 1))) br))) bV)
   (ax (aX 3 sc_read.nd (dJ uD hx hr (ag (aa 2))))
   (ax (ck (cf (eF (aV (ai (aa 3) ad) (ai (aa 3) ad)) (eK J4))) (aB (zi J5 hx rfl (aA (ac az ae)))) bV)
   (aB (aM (ag (jT M7 hr (ac (aa 0) (ac (aa 3) (ac (aa 2) ae))))))))))))),λds M R RX c5 h=>?_⟩))
 .obtain⟨_,R0,F_,h,_⟩:=h;rcases h with⟨_,_,rfl,_⟩|⟨_,rfl,_⟩<;>rfl
 .obtain⟨rfl,R0,F_,h,hR,hX⟩:=h;obtain⟨t,ht,Pz,x8⟩:∃ t:IT,ds=[.str t]/\t.length<=100000/\((∃ k:Nat,dh t=be k/\F_ "WrongSign" [("place",.int k)])\/∃ p:Pat,t=p.text/\p.Syn/\p.depth<=5/\p.Cal/\(∀ k:Nat,p.lineAt 0=be k->F_ "OneLine" [("place",.int k)])/\(p.lineAt 0=z7->¬ p.Fits->F_ "TooGreat" [])/\(p.lineAt 0=z7->p.Fits->∀ d,aK p d->R0 d)):=by
   rcases h with⟨t,k,e,h1,h2,h3⟩|⟨p,e,h1,h2,h3⟩
   .exact⟨t,e,h1,.inl ⟨k,h2,h3⟩⟩
   .exact⟨p.text,e,by have:=Pat.syn_short h1 h2;lia,.inr ⟨p,rfl,h1,h2,h3⟩⟩
  subst ht;have d_:At t 0 (cs t):=⟨rfl,Fl _,Pz⟩;refine⟨λd M'=>∃ a,d= .ptr a/\M'=RdM a t 0,⟨t,rfl,λa _=>⟨a,rfl,rfl⟩⟩,?_⟩;rintro _ _ ⟨a,rfl,rfl⟩;k_places;refine⟨λv M'=>∃ p l',p.Syn/\p.depth<=5/\cs t=p.tl++l'/\FormOf p 0 v/\M'=RdM a t p.tl.length,⟨a,t,0,cs t,0,rfl,rfl,d_,rfl,by decide,λp l' h1 h2 h3 v h4=>⟨p,l',h1,by lia,h3,h4,by rw[Gd]⟩,λi hi M'=>?_⟩,?_⟩
  .rw[c5];have hw:dh t=be i:=hi [];rcases x8 with⟨k,h1,h2⟩|⟨p,rfl,h1,h2,_⟩
   .rw[hw] at h1;cases h1;exact hX _ _ _ h2
   .rw[sE h1 h2] at hw;cases hw
  rintro v _ ⟨p,l',hp,MV,hl,hv,rfl⟩;k_places;have hw:dh t=walk [] l' p.tl.length:=by
   unfold dh;rw[hl,cJ hp 0 [] l' 0 (by lia),Gd]
  have b_:t.length=p.tl.length+l'.length:=by rw[<- bj,hl,EU]
  refine⟨_,aN,_,dm,by lia,ite2 (λc=>?_) (λc=>?_)⟩
  .have c':=of_decide_eq_true c;refine⟨_,aN,_,dm,by show(1:Nat)<=1000;decide,(p.tl.length:Int),rfl,?_⟩;rw[c5];have IZ:dh t=be p.tl.length:=by
    rw[hw];cases l' with
    |nil=>simp at b_;lia
    |cons c l=>simp[walk,step,aG,aH]
   rcases x8 with⟨k,h1,h2⟩|⟨q,rfl,h1,h2,_⟩
   .rw[IZ] at h1;cases h1;exact hX _ _ _ h2
   .rw[sE h1 h2] at IZ;cases IZ
  have c':¬ ((p.tl.length:Int)<(t.length:Int)):=λz=>c (decide_eq_true z);have PB:l'=[]:=G9 (by lia);subst PB;rcases x8 with⟨k,h1,h2⟩|⟨q,rfl,h1,h2,f9,M8,JM,K9⟩
  .rw[hw] at h1;cases h1
  obtain⟨rfl,_⟩:=BA (p:=q) (q:=p) (x:=[]) (y:=[]) h1 hp (by rw[<- cB,hl];simp);obtain⟨fs,rfl,hf,_⟩:=hv.objm;refine⟨λd M'=>∃ w h s,q.lineAt 0=z7/\q.Fam w h s/\d= .tup [.int w,.int h,.int s],⟨q.cls,q.cls_mem,fs,⟨rfl,rfl⟩,hf,q,0,_,rfl,hv,hp,by lia,rfl,f9,λi hi=>?_,λhn w h s F=>⟨w,h,s,hn,F,rfl⟩⟩,?_⟩
  .rw[c5];exact hX _ _ _ (M8 i hi)
  rintro _ M' ⟨w,h,s,hn,F,rfl⟩;k_places;have f7:=Pat.line_wf 0 hp hn;have NY:=Pat.cal_w f7 f9 F;have Qj:=F.f.w0;refine⟨_,rfl,_,rfl,.inl ⟨by lia,by lia⟩,ite2 (λc=>?_) (λc=>?_)⟩
  .have c2:=of_decide_eq_true c;refine⟨by show(1:Nat)<=1000;decide,?_⟩;rw[c5];refine hX _ _ _ (JM hn λ⟨w',h',s',F',hb⟩=>?_);obtain⟨rfl,rfl,_⟩:=F.uniq F';lia
  .have c2:¬ (720<w*h):=λz=>c (decide_eq_true z);refine⟨_,_,_,_,_,_,rfl,hR _ _ (K9 hn ⟨w,h,s,F,by lia⟩ _ ⟨w,h,s,_,rfl,rfl,fb (by decide+kernel),⟨F,0,_,kH (by decide+kernel) (by decide+kernel),hv⟩⟩)⟩
abbrev fY(V:Bx):Prop:=V.D 1 "_law_whole" mG Ar
def DZ(T:V.T "_law_whole" mF mG)(uL:V.m "isinstance")(M9:V.m "bool")(uU:V.m "int"):fY V:=by
 refine Tx.okDW T CA (λds R h=>?_) (λf cdv A outer s H E J hr=>⟨_,((am (aw (qq (dG uL uU (aa 0) PyProof.Rows.boot_int xM) (qp (xH (dG uL M9 (aa 0) PyProof.Rows.boot_bool kit_bool))))))),λds R h=>?_⟩)
 .obtain⟨i,rfl,_⟩:=h;rfl
 .obtain⟨i,rfl,hR⟩:=h;exact hR
abbrev oq(V:Bx):Prop:=V.D 2 "_law_numbers" mI BX
def D0(T:V.T "_law_numbers" mH mI)(uB:V.m "len")(uL:V.m "isinstance")(uX:V.m "tuple")(uA:V.m "range")(uZ:fY V):oq V:=by
 refine Tx.okDW T sc__law_numbers (λds R h=>?_) (λf cdv A outer s H E J hr=>⟨_,((ah (bb (cP (cO (bU (bC (dG uL uX (aa 0) PyProof.Rows.boot_tuple kit_tuple))) (cX (ca (cv uB (ac (aa 0) ae)) (cv uB (ac (aa 1) ae)))))) (am (aw bx)) aT)
   (ah (cQ 2 PassesOwn.never rfl sc__law_numbers.nd uA (cv uB (ac (aa 1) ae)) (am (bb (cP (cO (bU (bC (ao uZ hr (ac (ai (aa 0) (aa 2)) ae)))) (cX (ca (ai (aa 0) (aa 2)) (ai (aa 1) (aa 2)))))) (am (aw bx)) aT)))
   (am (aw bx))))),λds R h=>?_⟩)
 .obtain⟨xs,rfl,_⟩:=h;rfl
 .obtain⟨xs,rfl,xl,hR⟩:=h;refine ite2 (λc=>absurd c (by simp)) λ_=>?_;refine⟨⟨by omega,by rw[EY];omega⟩,λk z=>∃ o,z=[be (.tup (xs.map D.int)),be (.tup (xs.map D.int)),o],⟨_,rfl⟩,?_,?_⟩
  .rintro k v z hk ⟨o,rfl⟩;k_places;obtain⟨p6,rfl⟩:=range_int hk;rw[EY] at p6;have PC:k<xs.length:=by omega
   have ak:atI (xs.map D.int) (k:Int)=be (.int xs[k]):=cH (by rw[E3,Fi PC];rfl);exact⟨_,ak,_,rfl,_,ak,_,ak,ite2 (λc=>absurd c (by simp)) λ_=>⟨_,rfl⟩⟩
  .rintro z ⟨o,rfl⟩;k_places;exact hR
abbrev jd(V:Bx):Prop:=V.X 1 "refuse_far" mK BE
def D1(T:V.T "refuse_far" mJ mK)(uO:V.m "max")(JJ:V.m "abs")(M_:V.gi "FAR" 1000000000000)(Na:V.n "TooFar"):jd V:=by
 refine Tx.okXW T CB (λds R RX h=>?_) (λf cdv A outer s H E J hr hx=>⟨_,((am (bb (eF (fD rfl uO (ac (jK JJ (ac (aa 0) ae)) (ac (jK JJ (ac (aa 1) ae)) ae))) (eK M_)) (am (qO Na hx rfl (ac az ae))) aT))),λds R RX c5 h=>?_⟩)
 .obtain⟨_,_,rfl,_⟩:=h;rfl
 .obtain⟨x,y,rfl,h1,h2⟩:=h;refine ite2 (λc=>?_) (λc=>?_)
  .have c':=of_decide_eq_true c;refine⟨by show(1:Nat)<=1000;decide,?_⟩;rw[c5];refine h2 λ⟨⟨a1,a2⟩,a3,a4⟩=>?_;split at c'<;>split at c'<;>split at c'<;>lia
  .have c':¬ _:=λz=>c (decide_eq_true z);refine h1 ?_;unfold aC;split at c'<;>split at c'<;>split at c'<;>lia
def ok_Motif_shows(hL:1<=n)(T:V.Tm "Motif" "shows" "Motif.shows" iw cF)(uV:fq V)(Jc:V.a "Motif" "hues")(uI:V.a "Motif" "shifts"):V.Q (n+1) "Motif" "shows" cF (ofX (bP (j+1) "Motif")):=by
 refine Txm.okM T CC (λds M R RX h=>?_) (λf cdv A outer s H E J hr hx=>⟨_,((aB (aM (zK (jC hr) (aI Jc (ag (aa 0))) (aQ (aW (hn:=by omega) (CalD.toM uV) hx hr (aQ (aI uI (ag (aa 0))) (aQ (ag (aa 1)) (aQ (ag (aa 2)) br)))) (aQ (ag ad) br)))))),λds M R RX c5 h=>?_⟩)
 .obtain⟨_,_,_,_,_,rfl,_⟩:=h;rfl
 .obtain⟨p,k,v,X,Y,rfl,hv,f7,hd,hc,hR⟩:=h;cases p with
  |over p q=>exact absurd (show("Over":IT)="Motif" from hc) (by decide+kernel)
  |sh a b p=>exact absurd (show("Shifted":IT)="Motif" from hc) (by decide+kernel)
  |mir p=>exact absurd (show("Mirror":IT)="Motif" from hc) (by decide+kernel)
  |tur p=>exact absurd (show("Turn":IT)="Motif" from hc) (by decide+kernel)
  |hue f g p=>exact absurd (show("Rehue":IT)="Motif" from hc) (by decide+kernel)
  |mot L a b c d=>
   obtain⟨sh,hu,rfl,h0,h1⟩:=hv;obtain⟨hL,ha,hb,IS,g8,hn⟩:=f7;obtain⟨w,h,s,F,rfl,rfl⟩:=h1 hn;unfold B12 at ha hb IS g8;obtain⟨b1,b2,b3⟩:=F.bd (N:=288) (by
    have m1:=bv (a:=a) (d:=d) (A:=12) (B:=12) (by lia) (by lia);have m2:=bv (a:=b) (d:=c) (A:=12) (B:=12) (by lia) (by lia);lia)
   refine⟨_,⟨rfl,rfl⟩,_,Bs,_,⟨rfl,rfl⟩,_,kG,w,h,s,X,Y,rfl,F.1,F.2.1,by lia,F.2.2.1,by lia,?_⟩;have e:=motif_shows hL F hn X Y;rw[Pat.show] at hR;rw[<- e] at hR;exact hR
def D2(hL:1<=n)(T:V.Tm "Over" "shows" "Over.shows" iy iz)(uN:V.a "Over" "above")(uS:V.a "Over" "below")(uF:∀ x,x∈(["Motif","Over","Shifted","Mirror","Turn","Rehue"]:List IT)->V.Q n x "shows" cF (ofX (bP j x))):V.Q (n+1) "Over" "shows" iz (ofX (bP (j+1) "Over")):=by
 refine Txm.okM T sc_Over_shows (λds M R RX h=>?_) (λf cdv A outer s H E J hr hx=>⟨_,((ax (aX 3 sc_Over_shows.nd (aU (hn:=by omega) uF hx hr (aI uN (ag (aa 0))) (aA (ac (aa 1) (ac (aa 2) ae)))))
   (aB (aM (fK (cf (bT (aa 3) ad)) (aU (hn:=by omega) uF hx hr (aI uS (ag (aa 0))) (aA (ac (aa 1) (ac (aa 2) ae)))) (ag (aa 3))))))),λds M R RX c5 h=>?_⟩)
 .obtain⟨_,_,_,_,_,rfl,_⟩:=h;rfl
 .obtain⟨p,k,v,X,Y,rfl,hv,f7,hd,hc,hR⟩:=h;cases p with
  |mot L a b c d=>exact absurd (show("Motif":IT)="Over" from hc) (by decide+kernel)
  |sh a b p=>exact absurd (show("Shifted":IT)="Over" from hc) (by decide+kernel)
  |mir p=>exact absurd (show("Mirror":IT)="Over" from hc) (by decide+kernel)
  |tur p=>exact absurd (show("Turn":IT)="Over" from hc) (by decide+kernel)
  |hue f g p=>exact absurd (show("Rehue":IT)="Over" from hc) (by decide+kernel)
  |over p q=>
   obtain⟨u,u',rfl,hu,K5⟩:=hv;obtain⟨fs,rfl,_,hf⟩:=hu.objm;obtain⟨gs,rfl,_,hg⟩:=K5.objm;rw[Pat.depth] at hd;refine⟨λd M'=>d= .int (p.show X Y)/\M'=M,⟨_,⟨rfl,rfl⟩,_,rfl,p.cls,p.cls_mem,fs,⟨rfl,rfl⟩,hf,p,_,_,X,Y,rfl,hu,f7.1,by lia,rfl,rfl,rfl⟩,?_⟩;rintro _ _ ⟨rfl,rfl⟩;k_places;rw[Pat.show] at hR;show if decide (p.show X Y=0)=true then _ else _
   refine ite2 (λe=>?_) (λe=>?_)
   .have e':=of_decide_eq_true e;rw[if_neg (λz=>z e')] at hR;exact⟨_,⟨rfl,rfl⟩,_,fb (by decide+kernel),q.cls,q.cls_mem,gs,⟨rfl,rfl⟩,hg,q,_,_,X,Y,rfl,K5,f7.2,by lia,rfl,hR⟩
   .have e':p.show X Y≠0:=λz=>e (decide_eq_true z);rw[if_pos e'] at hR;exact hR
def D3(hL:1<=n)(T:V.Tm "Shifted" "shows" "Shifted.shows" iA iB)(uT:V.a "Shifted" "form")(Je:V.a "Shifted" "y")(Jd:V.a "Shifted" "x")(uF:∀ x,x∈(["Motif","Over","Shifted","Mirror","Turn","Rehue"]:List IT)->V.Q n x "shows" cF (ofX (bP j x))):V.Q (n+1) "Shifted" "shows" iB (ofX (bP (j+1) "Shifted")):=by
 refine Txm.okM T CD (λds M R RX h=>?_) (λf cdv A outer s H E J hr hx=>⟨_,((aB (aM (aU (hn:=by omega) uF hx hr (aI uT (ag (aa 0))) (aQ (ke (ag (aa 1)) (aI Jd (ag (aa 0)))) (aQ (ke (ag (aa 2)) (aI Je (ag (aa 0)))) br)))))),λds M R RX c5 h=>?_⟩)
 .obtain⟨_,_,_,_,_,rfl,_⟩:=h;rfl
 .obtain⟨p,k,v,X,Y,rfl,hv,f7,hd,hc,hR⟩:=h;cases p with
  |mot L a b c d=>exact absurd (show("Motif":IT)="Shifted" from hc) (by decide+kernel)
  |over p q=>exact absurd (show("Over":IT)="Shifted" from hc) (by decide+kernel)
  |mir p=>exact absurd (show("Mirror":IT)="Shifted" from hc) (by decide+kernel)
  |tur p=>exact absurd (show("Turn":IT)="Shifted" from hc) (by decide+kernel)
  |hue f g p=>exact absurd (show("Rehue":IT)="Shifted" from hc) (by decide+kernel)
  |sh a b p=>
   obtain⟨u,rfl,hu⟩:=hv;obtain⟨fs,rfl,_,hf⟩:=hu.objm;rw[Pat.depth] at hd;exact⟨_,⟨rfl,rfl⟩,_,rfl,p.cls,p.cls_mem,fs,⟨rfl,rfl⟩,hf,_,⟨rfl,rfl⟩,_,fb (by decide+kernel),_,⟨rfl,rfl⟩,_,kH (by decide+kernel) (by decide+kernel),p,_,_,X - a,Y - b,rfl,hu,f7.2.2,by lia,rfl,hR⟩
def D4(hL:1<=n)(T:V.Tm "Mirror" "shows" "Mirror.shows" iC iD)(uP:V.a "Mirror" "form")(uF:∀ x,x∈(["Motif","Over","Shifted","Mirror","Turn","Rehue"]:List IT)->V.Q n x "shows" cF (ofX (bP j x))):V.Q (n+1) "Mirror" "shows" iD (ofX (bP (j+1) "Mirror")):=by
 refine Txm.okM T CF (λds M R RX h=>?_) (λf cdv A outer s H E J hr hx=>⟨_,((aB (aM (aU (hn:=by omega) uF hx hr (aI uP (ag (aa 0))) (aA (ac (dF (aa 1)) (ac (aa 2) ae))))))),λds M R RX c5 h=>?_⟩)
 .obtain⟨_,_,_,_,_,rfl,_⟩:=h;rfl
 .obtain⟨p,k,v,X,Y,rfl,hv,f7,hd,hc,hR⟩:=h;cases p with
  |mot L a b c d=>exact absurd (show("Motif":IT)="Mirror" from hc) (by decide+kernel)
  |over p q=>exact absurd (show("Over":IT)="Mirror" from hc) (by decide+kernel)
  |sh a b p=>exact absurd (show("Shifted":IT)="Mirror" from hc) (by decide+kernel)
  |tur p=>exact absurd (show("Turn":IT)="Mirror" from hc) (by decide+kernel)
  |hue f g p=>exact absurd (show("Rehue":IT)="Mirror" from hc) (by decide+kernel)
  |mir p=>
   obtain⟨u,rfl,hu⟩:=hv;obtain⟨fs,rfl,_,hf⟩:=hu.objm;rw[Pat.depth] at hd;exact⟨_,⟨rfl,rfl⟩,_,rfl,p.cls,p.cls_mem,fs,⟨rfl,rfl⟩,hf,p,_,_,-X,Y,rfl,hu,f7,by lia,rfl,hR⟩
def D5(hL:1<=n)(T:V.Tm "Turn" "shows" "Turn.shows" iE iF)(uR:V.a "Turn" "form")(uF:∀ x,x∈(["Motif","Over","Shifted","Mirror","Turn","Rehue"]:List IT)->V.Q n x "shows" cF (ofX (bP j x))):V.Q (n+1) "Turn" "shows" iF (ofX (bP (j+1) "Turn")):=by
 refine Txm.okM T CG (λds M R RX h=>?_) (λf cdv A outer s H E J hr hx=>⟨_,((aB (aM (aU (hn:=by omega) uF hx hr (aI uR (ag (aa 0))) (aA (ac (aa 2) (ac (dF (aa 1)) ae))))))),λds M R RX c5 h=>?_⟩)
 .obtain⟨_,_,_,_,_,rfl,_⟩:=h;rfl
 .obtain⟨p,k,v,X,Y,rfl,hv,f7,hd,hc,hR⟩:=h;cases p with
  |mot L a b c d=>exact absurd (show("Motif":IT)="Turn" from hc) (by decide+kernel)
  |over p q=>exact absurd (show("Over":IT)="Turn" from hc) (by decide+kernel)
  |sh a b p=>exact absurd (show("Shifted":IT)="Turn" from hc) (by decide+kernel)
  |mir p=>exact absurd (show("Mirror":IT)="Turn" from hc) (by decide+kernel)
  |hue f g p=>exact absurd (show("Rehue":IT)="Turn" from hc) (by decide+kernel)
  |tur p=>
   obtain⟨u,rfl,hu⟩:=hv;obtain⟨fs,rfl,_,hf⟩:=hu.objm;rw[Pat.depth] at hd;exact⟨_,⟨rfl,rfl⟩,_,rfl,p.cls,p.cls_mem,fs,⟨rfl,rfl⟩,hf,p,_,_,Y,-X,rfl,hu,f7,by lia,rfl,hR⟩
def D6(hL:1<=n)(T:V.Tm "Rehue" "shows" "Rehue.shows" iG iH)(uQ:V.a "Rehue" "form")(Jf:V.a "Rehue" "old")(Jg:V.a "Rehue" "new")(uF:∀ x,x∈(["Motif","Over","Shifted","Mirror","Turn","Rehue"]:List IT)->V.Q n x "shows" cF (ofX (bP j x))):V.Q (n+1) "Rehue" "shows" iH (ofX (bP (j+1) "Rehue")):=by
 refine Txm.okM T sc_Rehue_shows (λds M R RX h=>?_) (λf cdv A outer s H E J hr hx=>⟨_,((ax (aX 3 sc_Rehue_shows.nd (aU (hn:=by omega) uF hx hr (aI uQ (ag (aa 0))) (aA (ac (aa 1) (ac (aa 2) ae)))))
   (aB (aM (fK (gM (ag (aa 3)) (aI Jf (ag (aa 0)))) (aI Jg (ag (aa 0))) (ag (aa 3))))))),λds M R RX c5 h=>?_⟩)
 .obtain⟨_,_,_,_,_,rfl,_⟩:=h;rfl
 .obtain⟨p,k,v,X,Y,rfl,hv,f7,hd,hc,hR⟩:=h;cases p with
  |mot L a b c d=>exact absurd (show("Motif":IT)="Rehue" from hc) (by decide+kernel)
  |over p q=>exact absurd (show("Over":IT)="Rehue" from hc) (by decide+kernel)
  |sh a b p=>exact absurd (show("Shifted":IT)="Rehue" from hc) (by decide+kernel)
  |mir p=>exact absurd (show("Mirror":IT)="Rehue" from hc) (by decide+kernel)
  |tur p=>exact absurd (show("Turn":IT)="Rehue" from hc) (by decide+kernel)
  |hue f g p=>
   obtain⟨u,rfl,hu⟩:=hv;obtain⟨fs,rfl,_,hf⟩:=hu.objm;rw[Pat.depth] at hd;refine⟨λd M'=>d= .int (p.show X Y)/\M'=M,⟨_,⟨rfl,rfl⟩,_,rfl,p.cls,p.cls_mem,fs,⟨rfl,rfl⟩,hf,p,_,_,X,Y,rfl,hu,f7.2.2,by lia,rfl,rfl,rfl⟩,?_⟩;rintro _ _ ⟨rfl,rfl⟩;k_places;rw[Pat.show] at hR;unfold cm at hR;refine⟨_,⟨rfl,rfl⟩,_,fb (by decide+kernel),ite2 (λe=>?_) (λe=>?_)⟩
   .rw[if_pos (of_decide_eq_true e)] at hR;exact⟨_,⟨rfl,rfl⟩,_,kH (by decide+kernel) (by decide+kernel),hR⟩
   .rw[if_neg (λz=>e (decide_eq_true z))] at hR;exact hR
def D7(Ob:V.Tm "Motif" "shows" "Motif.shows" iw cF)(Oc:V.Tm "Over" "shows" "Over.shows" iy iz)(Od:V.Tm "Shifted" "shows" "Shifted.shows" iA iB)(Oe:V.Tm "Mirror" "shows" "Mirror.shows" iC iD)(Of:V.Tm "Turn" "shows" "Turn.shows" iE iF)(Og:V.Tm "Rehue" "shows" "Rehue.shows" iG iH)(uV:fq V)(Jc:V.a "Motif" "hues")(uI:V.a "Motif" "shifts")(uN:V.a "Over" "above")(uS:V.a "Over" "below")(uT:V.a "Shifted" "form")(Je:V.a "Shifted" "y")(Jd:V.a "Shifted" "x")(uP:V.a "Mirror" "form")(uR:V.a "Turn" "form")(uQ:V.a "Rehue" "form")(Jf:V.a "Rehue" "old")(Jg:V.a "Rehue" "new"):∀ j x,x∈(["Motif","Over","Shifted","Mirror","Turn","Rehue"]:List IT)->V.Q (1+j) x "shows" cF (ofX (bP j x)):=by
 intro j;induction j with
 |zero=>
  intro x hx;simp only[ER,FU,or_false] at hx;rcases hx with rfl|rfl|rfl|rfl|rfl|rfl
  .exact CalMth.never Ob (λds M R RX=>fj)
  .exact CalMth.never Oc (λds M R RX=>fj)
  .exact CalMth.never Od (λds M R RX=>fj)
  .exact CalMth.never Oe (λds M R RX=>fj)
  .exact CalMth.never Of (λds M R RX=>fj)
  .exact CalMth.never Og (λds M R RX=>fj)
 |succ j K'=>
  intro x hx;simp only[ER,FU,or_false] at hx;rcases hx with rfl|rfl|rfl|rfl|rfl|rfl
  .exact ok_Motif_shows (n:=1+j) (j:=j) (by omega) Ob uV Jc uI
  .exact D2 (n:=1+j) (j:=j) (by omega) Oc uN uS K'
  .exact D3 (n:=1+j) (j:=j) (by omega) Od uT Je Jd K'
  .exact D4 (n:=1+j) (j:=j) (by omega) Oe uP K'
  .exact D5 (n:=1+j) (j:=j) (by omega) Of uR K'
  .exact D6 (n:=1+j) (j:=j) (by omega) Og uQ Jf Jg K'
abbrev tX(V:Bx):Prop:=∀ x,x∈(["Motif","Over","Shifted","Mirror","Turn","Rehue"]:List IT)->V.Q 7 x "shows" cF (ofX (bP 6 x))
abbrev je(V:Bx):Prop:=V.X 8 "cell_at" mM BF
def D8(T:V.T "cell_at" mL mM)(JN:jd V)(J3:V.a "Pattern" "form")(uF:tX V):je V:=by
 refine CalMM.nilX (Tx.okM T CH (λds M R RX h=>?_) (λf cdv A outer s H E J hr hx=>⟨_,((ax (cy (aW (CalX.toM JN) hx hr (aA (ac (aa 1) (ac (aa 2) ae)))))
   (aB (aM (aU uF hx hr (aI J3 (ag (aa 0))) (aA (ac (aa 1) (ac (aa 2) ae)))))))),λds M R RX c5 h=>?_⟩))
 .obtain⟨_,R0,F_,⟨_,_,_,_,rfl,_⟩,_⟩:=h;rfl
 .obtain⟨rfl,R0,F_,⟨p,d,x,y,rfl,⟨w,h,s,fs,rfl,e1,e2,hp⟩,ok,h1,h2⟩,hR,hX⟩:=h;obtain⟨k,v,e3,hv⟩:=hp.form;obtain⟨gs,rfl,_,hg⟩:=hv.objm;have Qk:=ok.deep;refine⟨x,y,rfl,λhn=>?_,λhn=>?_⟩
  .exact⟨_,⟨rfl,rfl⟩,_,e3,p.cls,p.cls_mem,gs,⟨rfl,rfl⟩,hg,p,k,_,x,y,rfl,hv,ok.wf,by lia,rfl,hR _ _ (h1 hn)⟩
  .rw[c5];exact hX _ _ _ (h2 hn)
abbrev jg(V:Bx):Prop:=V.D 9 "row_from" mN BG
def D9(T:V.T "row_from" iI mN)(uA:V.m "range")(JO:je V)(uM:V.gs "SIGNS" ".123456"):jg V:=by
 refine Tx.okDW T CI (λds R h=>?_) (λf cdv A outer s H E J hr=>⟨_,((am (aw (qB (jS rfl (compScope (by change cw _ (af iI) ["pattern","x","y","many"] _=true;decide+kernel)) uA (aa 3) (λcl s0 H0 fp=>(ai (eL uM) (ao (CalX.no JO) hr (ac (aa 0) (ac (ar (aa 1) (aa 4)) (ac (aa 2) ae))))))))))),λds R h=>?_⟩)
 .obtain⟨_,_,_,_,_,rfl,_⟩:=h;rfl
 .obtain⟨p,d,x,y,n,rfl,hd,ok,hn,PD,Ko,hy,hR⟩:=h;obtain⟨w,h,s,fs,rfl,_⟩:=id hd;refine⟨⟨by lia,by lia⟩,by rw[bI];lia,λk ys=>ys=(EM k).map λ(i:Nat)=>D.str ⟨#[signOf (p.show (x+(i:Int)) y)]⟩,rfl,?_,?_⟩
  .rintro k v ys hk hl rfl;obtain⟨p6,rfl⟩:=range_int hk;obtain⟨b0,b6⟩:=Pat.show_le ok.wf (by have:=ok.deep;lia) (x+(k:Int)) y;unfold aC at PD Ko;refine⟨p,.obj "Pattern" fs,x+(k:Int),y,rfl,hd,ok,λ_=>?_,λz=>z ⟨⟨by lia,by lia⟩,hy⟩⟩;refine⟨_,⟨by decide,kJ b0 b6⟩,?_⟩;show _=GH _ (EM (k+1));rw[Gn,Fx];rfl
  .rintro ys hl rfl;rw[bI,GT];have e1:((EM n).map λ(i:Nat)=>D.str ⟨#[signOf (p.show (x+(i:Int)) y)]⟩)=((EM n).map λ(i:Nat)=>(⟨#[signOf (p.show (x+(i:Int)) y)]⟩:IT)).map D.str:=by rw[FT];rfl
   rw[e1];refine⟨_,ku _,?_,?_⟩
   .have e2:(((EM n).map λ(i:Nat)=>(⟨#[signOf (p.show (x+(i:Int)) y)]⟩:IT)).map (·.length)).sum=n*1:=by
     rw[kx (w:=1) (λl hl=>by obtain⟨i,_,rfl⟩:=Fg.mp hl;rfl),EY,Gv]
    rw[e2,show("":IT).length=0 from rfl];simp;lia
   .rw[show Txt.join "" ((EM n).map λ(i:Nat)=>(⟨#[signOf (p.show (x+(i:Int)) y)]⟩:IT))=av p x y n from(StrLaws.glued_eq_join _ _).trans (Bw (λi=>signOf (p.show (x+(i:Int)) y)) n)];exact hR
abbrev ji(V:Bx):Prop:=V.D 10 "field_rows" mO BN
def Ea(T:V.T "field_rows" iJ mO)(uA:V.m "range")(J6:jg V)(uJ:V.a "Pattern" "shifts"):ji V:=by
 refine Tx.okDW T CJ (λds R h=>?_) (λf cdv A outer s H E J hr=>⟨_,((am (aw (jS rfl (compScope (by change cw _ (af iJ) ["pattern"] _=true;decide+kernel)) uA (ai (fF uJ (aa 0)) ad) (λcl s0 H0 fp=>(ao J6 hr (ac (aa 0) (ac ad (ac (aa 1) (ac (ai (fF uJ (aa 0)) ad) ae)))))))))),λds R h=>?_⟩)
 .obtain⟨_,_,rfl,_⟩:=h;rfl
 .obtain⟨p,d,rfl,hd,ok,hR⟩:=h;obtain⟨w,h,s,fs,rfl,e1,e2,hp⟩:=id hd;have F:=hp.toFam;have sm:=ok.fits.small F;have wh:w*h<=720:=by
   obtain⟨w',h',s',f',hb⟩:=ok.fits;obtain⟨rfl,rfl,_⟩:=F.uniq f';exact hb
  refine⟨rfl,_,e2,_,rfl,⟨by lia,by lia⟩,by rw[bI];lia,λk ys=>ys=(EM k).map λ(y:Nat)=>D.str (av p 0 (y:Int) w.toNat),rfl,?_,?_⟩
  .rintro k v ys hk hl rfl;obtain⟨p6,rfl⟩:=range_int hk;refine⟨rfl,_,e2,_,rfl,p,.obj "Pattern" fs,0,k,w.toNat,by rw[Fb (by lia)],hd,ok,by lia,⟨by lia,by lia⟩,⟨by lia,by lia⟩,⟨by lia,by lia⟩,?_⟩;show _=GH _ (EM (k+1));rw[Gn,Fx];rfl
  .rintro ys hl rfl;rw[bI];exact hR w h s F wh sm.2.1 sm.2.2.2.1
abbrev C_measures(V:Bx):Prop:=V.D 1 "measures" mQ BQ
def Eb(T:V.T "measures" iK mQ)(uA:V.m "range"):C_measures V:=by
 refine Tx.okDW T CK (λds R h=>?_) (λf cdv A outer s H E J hr=>⟨_,((am (aw (zN rfl (compScope (by change cw _ (af iK) ["number"] _=true;decide+kernel)) uA ad (ar (aa 0) ad) (λcl s0 H0 fp=>(bT (aP (aa 0) (aa 1)) ad)) (λcl s0 H0 fp=>(aa 1)))))),λds R h=>?_⟩)
 .obtain⟨_,rfl,_⟩:=h;rfl
 .obtain⟨n,rfl,n0,n1,hR⟩:=h;refine⟨⟨by lia,by lia,by lia,by lia⟩,by simp;lia,λk ys=>∃ ns:List Int,ys=ns.map D.int/\ns.length<=k/\∀ m,m∈ns↔1<=m/\m<=k/\n % m=0,⟨[],rfl,EK _,λm=>by simp;lia⟩,?_,?_⟩
  .rintro k v ys hk ⟨ns,rfl,hl,hm⟩;k_places;obtain⟨p6,rfl⟩:=range2_int hk;refine⟨by lia,?_⟩;refine okF (λc=>?_) (λc=>?_)
   .have c':=of_decide_eq_true c;refine⟨ns++[1+(k:Int)],by simp,by simp;lia,λm=>?_⟩;rw[Fk,hm,EL];constructor
    .rintro(q|rfl)
     .lia
     .exact⟨by lia,by lia,c'⟩
    .rintro⟨a,b,c⟩;by_cases e:m=1+(k:Int)
     .exact .inr e
     .exact .inl ⟨a,by lia,c⟩
   .have c':=of_decide_eq_false c;refine⟨ns,rfl,by lia,λm=>?_⟩;rw[hm];constructor
    .rintro⟨a,b,c⟩;exact⟨a,by lia,c⟩
    .rintro⟨a,b,c⟩;refine⟨a,?_,c⟩;by_cases e:m=1+(k:Int)
     .subst e;exact absurd c c'
     .lia
  .rintro ys ⟨ns,rfl,hl,hm⟩;k_places;have e:((EM (n+1 - 1).toNat).map λk=>D.int (1+((k:Nat):Int))).length=n.toNat:=by simp
   rw[e] at hl hm;exact hR ns (by lia) λm=>by rw[hm];lia
abbrev jj(V:Bx):Prop:=V.D 2 "round_row" mU BO
def Ec(T:V.T "round_row" mR mU)(uV:fq V):jj V:=by
 refine Tx.okDW T sc_round_row (λds R h=>?_) (λf cdv A outer s H E J hr=>⟨_,((ah (aq 4 sc_round_row.nd (ao uV hr (ac (aa 0) (ac (aa 2) (ac (aa 3) ae)))))
   (ah (aq 5 sc_round_row.nd (ai (aa 1) (ai (aa 4) ad)))
   (am (aw (ar (eO (aa 5) (eN (ai (aa 4) ad)) eM) (eO (aa 5) eM (eN (ai (aa 4) ad))))))))),λds R h=>?_⟩)
 .obtain⟨_,_,_,_,_,_,rfl,_⟩:=h;rfl
 .obtain⟨p,w,h,s,x,y,rfl,F,w7,h7,hR⟩:=h;have f:=F.f;have y0:=Fc y (show h≠0 by have:=f.h0;lia);have y1:=Fd y f.h0;refine⟨λd=>d= .tup [.int (hmX w h s x y),.int (y % h)],⟨w,h,s,x,y,rfl,f.w0,f.h0,by lia,f.s0,by have:=f.sw;lia,rfl⟩,?_⟩;rintro _ rfl;k_places;refine⟨λd=>d= .str (av p 0 (y % h) w.toNat),⟨_,rfl,_,?_,rfl⟩,?_⟩
  .have e:y % h=(((y % h).toNat:Nat):Int):=by lia
   rw[e];exact cH (by rw[E3,Fq (by lia)];simp)
  rintro _ rfl;k_places;have l:=kI p 0 (y % h) w.toNat;refine⟨_,rfl,by lia,_,rfl,by lia,?_⟩;have e:=BM f.w0 f.h0 (λ_ _ q=>F.keeps q) x y;refine⟨?_,?_⟩
  .rw[<- bj,<- bj,<- EU,<- aY,e,cq];simp;lia
  .rw[e];exact hR
abbrev jl(V:Bx):Prop:=V.D 3 "changes_nothing" mW BR
def Ed(T:V.T "changes_nothing" mV mW)(uW:V.m "enumerate")(J7:jj V):jl V:=by
 refine Tx.okDW T sc_changes_nothing (λds R h=>?_) (λf cdv A outer s H E J hr=>⟨_,((ah (zV PassesOwn.never rfl uW (aa 1) (dg_cons 4 sc_changes_nothing.nd (dg_cons 5 sc_changes_nothing.nd dH)) (am (bb (ca (ao J7 hr (ac (aa 0) (ac (aa 1) (ac (aa 2) (ac (ar (aa 3) (aa 4)) ae))))) (aa 5)) (am (aw bx)) aT)))
   (am (aw bx)))),λds R h=>?_⟩)
 .obtain⟨_,_,_,_,_,_,rfl,_⟩:=h;rfl
 .obtain⟨p,w,h,s,x,y,rfl,ok,F,w7,h7,hR⟩:=h;have e0:∀ k:Nat,k<h.toNat->((EM h.toNat).map λ(y:Nat)=>D.str (av p 0 (y:Int) w.toNat))[k]?=be (.str (av p 0 (k:Int) w.toNat)):=λk hk=>by simp[hk]
  refine⟨λk z=>∃ o1 o2,z=[be (.tup [.int w,.int h,.int s]),be (cr p w h),be (.int x),be (.int y),o1,o2]/\∀ j:Nat,j<k->av p x (y+j) w.toNat=av p 0 j w.toNat,⟨_,_,rfl,λj hj=>absurd hj (F9 j)⟩,?_,?_⟩
  .rintro k v z hk ⟨o1,o2,rfl,hj⟩;k_places;have p6:k<h.toNat:=by simpa using(E6.mp hk).1
   rw[e0 k p6] at hk;cases hk;refine⟨p,w,h,s,x,y+k,rfl,F,w7,h7,ite2 (λc=>?_) (λc=>?_)⟩
   .refine hR false ?_;have c':¬ av p x (y+k) w.toNat=av p 0 k w.toNat:=λz=>by simp[z] at c
    rw[<- tm ok F.k];exact⟨(λz=>nomatch z),λz=>absurd (z k p6) c'⟩
   .have c':av p x (y+k) w.toNat=av p 0 k w.toNat:=by simpa using c
    refine⟨_,_,rfl,λj JZ=>?_⟩;by_cases e:j=k
    .subst e;exact c'
    .exact hj j (by lia)
  .rintro z ⟨o1,o2,rfl,hj⟩;k_places;rw[show((EM h.toNat).map λ(y:Nat)=>D.str (av p 0 (y:Int) w.toNat)).length=h.toNat by simp] at hj;exact hR true ((tm ok F.k x y).mp hj|>λz=>⟨λ_=>z,λ_=>rfl⟩)
abbrev ot(V:Bx):Prop:=V.D 4 "least_width" mY BS
def Ee(T:V.T "least_width" iL mY)(IP:V.m "min")(J8:C_measures V)(J9:jl V):ot V:=by
 refine Tx.okDW T CL (λds R h=>?_) (λf cdv A outer s H E J hr=>⟨_,((am (aw (rO rfl IP (ac (rM rfl (compScope (by change cw _ (af iL) ["family","rows"] _=true;decide+kernel)) (ao J8 hr (ac (ai (aa 0) ad) ae)) (λcl s0 H0 fp=>(bC (ao J9 hr (ac (aa 0) (ac (aa 1) (ac (aa 2) (ac ad ae))))))) (λcl s0 H0 fp=>(aa 2))) ae))))),λds R h=>?_⟩)
 .obtain⟨_,_,_,_,rfl,_⟩:=h;rfl
 .obtain⟨p,w,h,s,rfl,ok,F,w7,h7,hR⟩:=h;have w0:=F.f.w0;refine⟨_,rfl,w,rfl,w0,by lia,λns hl hm=>⟨by simp;lia,λk ys=>∃ ms:List Int,ys=ms.map D.int/\∀ m,m∈ms↔(∃ j:Nat,j<k/\ns[j]?=be m)/\p.Keeps m 0,⟨[],rfl,λm=>by simp⟩,?_,?_⟩⟩
  .rintro k v ys hk ⟨ms,rfl,x9⟩;k_places;obtain⟨m,em,rfl⟩:∃ m,ns[k]?=be m/\v= .int m:=by
    rw[E3] at hk;cases q:ns[k]? with
    |none=>rw[q] at hk;cases hk
    |some m=>rw[q] at hk;cases hk;exact⟨m,rfl,rfl⟩
   refine⟨p,w,h,s,m,0,rfl,ok,F,w7,h7,λb hb=>okF (λc=>?_) (λc=>?_)⟩
   .refine⟨ms++[m],by simp,λm'=>?_⟩;rw[Fk,x9,EL];constructor
    .rintro(⟨⟨j,h1,h2⟩,h3⟩|rfl)
     .exact⟨⟨j,by lia,h2⟩,h3⟩
     .exact⟨⟨k,by lia,em⟩,hb.mp c⟩
    .rintro⟨⟨j,h1,h2⟩,h3⟩;by_cases e:j=k
     .subst e;rw[em] at h2;cases h2;exact .inr rfl
     .exact .inl ⟨⟨j,by lia,h2⟩,h3⟩
   .refine⟨ms,rfl,λm'=>?_⟩;rw[x9];constructor
    .rintro⟨⟨j,h1,h2⟩,h3⟩;exact⟨⟨j,by lia,h2⟩,h3⟩
    .rintro⟨⟨j,h1,h2⟩,h3⟩;by_cases e:j=k
     .subst e;rw[em] at h2;cases h2;rw[hb.mpr h3] at c;cases c
     .exact⟨⟨j,by lia,h2⟩,h3⟩
  .rintro ys ⟨ms,rfl,x9⟩;k_places;rw[EY] at x9;have G_:∀ m,m∈ms↔(1<=m/\m<=w/\w % m=0)/\p.Keeps m 0:=λm=>by
    rw[x9,<- hm,II];constructor
    .rintro⟨⟨j,_,h2⟩,h3⟩;exact⟨⟨j,h2⟩,h3⟩
    .rintro⟨⟨j,h2⟩,h3⟩;exact⟨⟨j,(E6.mp h2).1,h2⟩,h3⟩
   have hw:w∈ms:=(G_ w).mpr ⟨⟨by lia,by lia,Int.emod_self⟩,F.keeps (InF.one w h s)⟩;refine⟨ms,rfl,IJ hw,λm Nb w9=>hR m ?_⟩;obtain⟨⟨a,b,c⟩,d⟩:=(G_ m).mp Nb;exact⟨a,b,c,d,λd' h1 h2 h3 h4=>w9 d' ((G_ d').mpr ⟨⟨h1,h2,h3⟩,h4⟩)⟩
abbrev ou(V:Bx):Prop:=V.D 4 "slant_at" ng BT
def Ef(T:V.T "slant_at" mZ ng)(uA:V.m "range")(J9:jl V):ou V:=by
 refine Tx.okDW T sc_slant_at (λds R h=>?_) (λf cdv A outer s H E J hr=>⟨_,((ah (cQ 4 PassesOwn.never rfl sc_slant_at.nd uA (aa 2) (am (bb (bC (ao J9 hr (ac (aa 0) (ac (aa 1) (ac (aa 4) (ac (aa 3) ae)))))) (am (aw (aa 4))) aT)))
   (am (aw eA)))),λds R h=>?_⟩)
 .obtain⟨_,_,_,_,_,_,rfl,_⟩:=h;rfl
 .obtain⟨p,w,h,s,m,y,rfl,ok,F,w7,h7,m0,m7,hR,hN⟩:=h;refine⟨⟨by lia,by lia⟩,λk z=>∃ o1,z=[be (.tup [.int w,.int h,.int s]),be (cr p w h),be (.int m),be (.int y),o1]/\∀ u,0<=u->u<(k:Int)->¬ p.Keeps u y,⟨_,rfl,λu a b=>by lia⟩,?_,?_⟩
  .rintro k v z hk ⟨o1,rfl,hj⟩;k_places;obtain⟨p6,rfl⟩:=range_int hk;refine⟨p,w,h,s,k,y,rfl,ok,F,w7,h7,λb hb=>ite2 (λc=>?_) (λc=>?_)⟩
   .exact hR k (by lia) (by lia) (hb.mp c) hj
   .refine⟨_,rfl,λu a b'=>?_⟩;by_cases e:u=k
    .subst e;exact λz=>c (hb.mpr z)
    .exact hj u a (by lia)
  .rintro z ⟨o1,rfl,hj⟩;k_places;rw[bI] at hj;exact hN λt a b=>hj t a (by lia)
abbrev fZ(V:Bx):Prop:=V.D 11 "least_shifts" nh BV
def Eg(T:V.T "least_shifts" iM nh)(IP:V.m "min")(J':ji V)(Nc:ot V)(J8:C_measures V)(Lu:ou V)(uJ:V.a "Pattern" "shifts"):fZ V:=by
 refine Tx.okDW T sc_least_shifts (λds R h=>?_) (λf cdv A outer s H E J hr=>⟨_,((ah (aq 1 sc_least_shifts.nd (fF uJ (aa 0)))
   (ah (aq 2 sc_least_shifts.nd (ao J' hr (ac (aa 0) ae)))
   (ah (aq 3 sc_least_shifts.nd (ao Nc hr (ac (aa 1) (ac (aa 2) ae))))
   (ah (aq 4 sc_least_shifts.nd (rO rfl IP (ac (rM rfl (compScope (by change cw _ (af iM) ["pattern","family","rows","width","height"] _=true;decide+kernel)) (ao J8 hr (ac (ai (aa 1) ad) ae)) (λcl s0 H0 fp=>(xC (ao Lu hr (ac (aa 1) (ac (aa 2) (ac (aa 3) (ac (aa 5) ae))))) eA)) (λcl s0 H0 fp=>(aa 5))) ae)))
   (am (aw (bq (ac (aa 3) (ac (aa 4) (ac (ao Lu hr (ac (aa 1) (ac (aa 2) (ac (aa 3) (ac (aa 4) ae))))) ae))))))))))),λds R h=>?_⟩)
 .obtain⟨_,_,rfl,_⟩:=h;rfl
 .obtain⟨p,d,rfl,hd,ok,hR⟩:=h;obtain⟨w,h,s,fs,rfl,e1,e2,hp⟩:=id hd;have F:=hp.toFam;have sm:=ok.fits.small F;refine⟨λd=>d= .tup [.int w,.int h,.int s],⟨rfl,_,e2,rfl⟩,?_⟩;rintro _ rfl;k_places;refine⟨λd=>d=cr p w h/\w*h<=720,⟨p,_,rfl,hd,ok,λw' h' s' F' hb _ _=>?_⟩,?_⟩
  .obtain⟨rfl,rfl,rfl⟩:=F.uniq F';exact⟨rfl,hb⟩
  rintro _ ⟨rfl,hb⟩;k_places;obtain⟨w',h',s',L,d1,d2,Ph,Ql,Nd⟩:=Pat.least_ex F.k;have w0:=L.f.w0;have h0:=L.f.h0;refine⟨λd=>d= .int w',⟨p,w,h,s,rfl,ok,F,sm.2.1,sm.2.2.2.1,λm lw=>by rw[lw.eq F L]⟩,?_⟩;rintro _ rfl;k_places;refine⟨λd=>d= .int h',⟨_,rfl,h,rfl,sm.2.2.1,by lia,λns hl hm=>⟨by simp;lia,λk ys=>∃ ms:List Int,ys=ms.map D.int/\∀ m,m∈ms↔(∃ j:Nat,j<k/\ns[j]?=be m)/\∃ t,p.Keeps t m,⟨[],rfl,λm=>by simp⟩,?_,?_⟩⟩,?_⟩
  .rintro k v ys hk ⟨ms,rfl,x9⟩;k_places;obtain⟨m,em,rfl⟩:∃ m,ns[k]?=be m/\v= .int m:=by
    rw[E3] at hk;cases q:ns[k]? with
    |none=>rw[q] at hk;cases hk
    |some m=>rw[q] at hk;cases hk;exact⟨m,rfl,rfl⟩
   have yes:(∃ t,p.Keeps t m)->∃ zs:List Int,ms.map D.int++[D.int m]=zs.map D.int/\∀ m,m∈zs↔(∃ j:Nat,j<k+1/\ns[j]?=be m)/\∃ t,p.Keeps t m:=λc=>by
    refine⟨ms++[m],by simp,λm'=>?_⟩;rw[Fk,x9,EL];constructor
    .rintro(⟨⟨j,h1,h2⟩,h3⟩|rfl)
     .exact⟨⟨j,by lia,h2⟩,h3⟩
     .exact⟨⟨k,by lia,em⟩,c⟩
    .rintro⟨⟨j,h1,h2⟩,h3⟩;by_cases e:j=k
     .subst e;rw[em] at h2;cases h2;exact .inr rfl
     .exact .inl ⟨⟨j,by lia,h2⟩,h3⟩
   refine⟨p,w,h,s,w',m,rfl,ok,F,sm.2.1,sm.2.2.2.1,by lia,by lia,λt _ _ kt _=>yes ⟨t,kt⟩,λno=>?_⟩;show ∃ zs:List Int,ms.map D.int=zs.map D.int/\∀ m,m∈zs↔(∃ j:Nat,j<k+1/\ns[j]?=be m)/\∃ t,p.Keeps t m;refine⟨ms,rfl,λm'=>?_⟩;rw[x9];constructor
   .rintro⟨⟨j,h1,h2⟩,h3⟩;exact⟨⟨j,by lia,h2⟩,h3⟩
   .rintro⟨⟨j,h1,h2⟩,h3⟩;by_cases e:j=k
    .subst e;rw[em] at h2;cases h2;obtain⟨t,kt⟩:=h3;exact absurd (L.row kt) (no _ (Fc _ (by lia)) (Fd _ w0))
    .exact⟨⟨j,by lia,h2⟩,h3⟩
  .rintro ys ⟨ms,rfl,x9⟩;k_places;rw[EY] at x9;have G_:∀ m,m∈ms↔(1<=m/\m<=h/\h % m=0)/\∃ t,p.Keeps t m:=λm=>by
    rw[x9,<- hm,II];constructor
    .rintro⟨⟨j,_,h2⟩,h3⟩;exact⟨⟨j,h2⟩,h3⟩
    .rintro⟨⟨j,h2⟩,h3⟩;exact⟨⟨j,(E6.mp h2).1,h2⟩,h3⟩
   have hh:h'∈ms:=(G_ h').mpr ⟨⟨by lia,Nd,Hk d2⟩,s',(L.lat _ _).mp (InF.two _ _ _)⟩;refine⟨ms,rfl,IJ hh,λm Nb w9=>?_⟩;obtain⟨⟨a,b,c⟩,t,kt⟩:=(G_ m).mp Nb;have h1:=(L.down kt (by lia)).1;have h2:=w9 h' hh;show D.int m=D.int h';rw[show m=h' by lia]
  rintro _ rfl;k_places;refine⟨p,w,h,s,w',h',rfl,ok,F,sm.2.1,sm.2.2.2.1,by lia,by lia,λt a b kt _=>⟨by show(3:Nat)<=1000;decide,?_⟩,λno=>absurd ((L.lat _ _).mp (InF.two _ _ _)) (no s' L.f.s0 L.f.sw)⟩;rw[L.slant a b kt];exact hR w' h' s' L (by lia) (by lia) (by lia)
abbrev jm(V:Bx):Prop:=V.D 12 "least_form" nj BW
def Eh(T:V.T "least_form" iN nj)(uA:V.m "range")(uX:V.m "tuple")(uY:fZ V)(J6:jg V):jm V:=by
 refine Tx.okDW T sc_least_form (λds R h=>?_) (λf cdv A outer s H E J hr=>⟨_,((ah (aq 1 sc_least_form.nd (ao uY hr (ac (aa 0) ae)))
   (ah (yf 2 rfl (compScope (by change cw _ (af iN) ["pattern","family","rows"] _=true;decide+kernel)) sc_least_form.nd uA (ai (aa 1) ad) (λcl s0 H0 fp=>(ao J6 hr (ac (aa 0) (ac ad (ac (aa 3) (ac (ai (aa 1) ad) ae)))))))
   (am (aw (bq (ac (ai (aa 1) ad) (ac (ai (aa 1) ad) (ac (ai (aa 1) ad) (ac (zT uX (ac (aa 2) ae)) ae)))))))))),λds R h=>?_⟩)
 .obtain⟨_,_,rfl,_⟩:=h;rfl
 .obtain⟨p,d,rfl,hd,ok,hR⟩:=h;obtain⟨w0,h0,s0,fs,rfl,e1,e2,hp⟩:=id hd;refine⟨λd=>∃ w h s,d= .tup [.int w,.int h,.int s]/\p.Least w h s/\w*h<=720/\w<=720/\h<=720,⟨p,_,rfl,hd,ok,λw h s L a b c=>⟨w,h,s,rfl,L,a,b,c⟩⟩,?_⟩;rintro _ ⟨w,h,s,rfl,L,hb,w7,h7⟩;k_places;have w0:=L.f.w0;have h0:=L.f.h0;refine⟨λd=>d=cr p w h,⟨_,rfl,⟨by lia,by lia⟩,by rw[bI];lia,λk ys=>ys=(EM k).map λ(y:Nat)=>D.str (av p 0 (y:Int) w.toNat),rfl,?_,?_⟩,?_⟩
  .rintro k v ys hk hl rfl;obtain⟨p6,rfl⟩:=range_int hk;refine⟨_,rfl,p,.obj "Pattern" fs,0,k,w.toNat,by rw[Fb (by lia)],hd,ok,by lia,⟨by lia,by lia⟩,⟨by lia,by lia⟩,⟨by lia,by lia⟩,?_⟩;show _=GH _ (EM (k+1));rw[Gn,Fx];rfl
  .rintro ys hl rfl;rw[bI];rfl
  rintro _ rfl;k_places;exact⟨_,rfl,_,rfl,_,rfl,by show(4:Nat)<=1000;decide,hR w h s L hb w7 h7⟩
def Ei:SpD:=λds R=>∃ (p q:Pat) (d e:D),ds=[d,e]/\aK p d/\aK q e/\p.Ok/\q.Ok/\∀ b:Bool,(b=true↔∀ x y,p.show x y=q.show x y)->R (.bl b)
abbrev ow(V:Bx):Prop:=V.D 13 "one_pattern" nv Ei
def Ej(T:V.T "one_pattern" nu nv)(JP:jm V):ow V:=by
 refine Tx.okDW T CM (λds R h=>?_) (λf cdv A outer s H E J hr=>⟨_,((am (aw (Ae (jC hr) (ao JP hr (ac (aa 0) ae)) (ao JP hr (ac (aa 1) ae)))))),λds R h=>?_⟩)
 .obtain⟨_,_,_,_,rfl,_⟩:=h;rfl
 .obtain⟨p,q,d,e,rfl,hd,he,u7,l0,hR⟩:=h;obtain⟨wd,g8,sd,fs,rfl,q1,q2,fam⟩:=hd;have hd:aK p (.obj "Pattern" fs):=⟨wd,g8,sd,fs,rfl,q1,q2,fam⟩;obtain⟨JQ,t_,JR,i8,rfl,q3,q4,p7⟩:=he;have he:aK q (.obj "Pattern" i8):=⟨JQ,t_,JR,i8,rfl,q3,q4,p7⟩;refine⟨p,_,rfl,hd,u7,λw h s L _ _ _=>⟨q,_,rfl,he,l0,λw' h' s' L' _ _ _=>?_⟩⟩;rw[tL,tL];refine⟨?_,hR _ (CS u7 l0 L L')⟩;have e2:∀ a b:List IT,sh2 (.tup (a.map D.str)) (.tup (b.map D.str))=true:=λa b=>by
   show(false||(_ && _))=true;rw[tK,tK];rfl
  show(true && (true && (true && (sh2 _ _ && true))))=true;rw[e2];rfl
def Ek:SpX:=λds R RX=>∃ (p q:Pat) (d e:D),ds=[d,e]/\aK p d/\aK q e/\p.Ok/\q.Ok/\∀ w h s,ComF p q w h s->(w*h<=720->R (.tup [.int w,.int h,.int s]))/\(720<w*h->RX "TooGreat" [])
abbrev jn(V:Bx):Prop:=V.X 12 "common_field" ny Ek
def El(T:V.T "common_field" nw ny)(Jh:fX V)(uY:fZ V)(J4:V.gi "MOST" 720)(J5:V.n "TooGreat"):jn V:=by
 refine Tx.okXW T sc_common_field (λds R RX h=>?_) (λf cdv A outer s H E J hr hx=>⟨_,((ah (aq 2 sc_common_field.nd (ao Jh hr (ac (ao uY hr (ac (aa 0) ae)) (ac (ao uY hr (ac (aa 1) ae)) ae))))
   (ah (bb (eF (aV (ai (aa 2) ad) (ai (aa 2) ad)) (eK J4)) (am (qO J5 hx rfl (ac az ae))) aT)
   (am (aw (aa 2)))))),λds R RX c5 h=>?_⟩)
 .obtain⟨_,_,_,_,rfl,_⟩:=h;rfl
 .obtain⟨p,q,d,e,rfl,hd,he,u7,l0,hR⟩:=h;obtain⟨wd,g8,sd,fs,rfl,q1,q2,fam⟩:=hd;have hd:aK p (.obj "Pattern" fs):=⟨wd,g8,sd,fs,rfl,q1,q2,fam⟩;obtain⟨JQ,t_,JR,i8,rfl,q3,q4,p7⟩:=he;have he:aK q (.obj "Pattern" i8):=⟨JQ,t_,JR,i8,rfl,q3,q4,p7⟩;refine⟨λx=>∃ w h s,x= .tup [.int w,.int h,.int s]/\ComF p q w h s/\w*h<=518400,⟨p,_,rfl,hd,u7,λw1 h1 s1 L1 PF a1 b1=>⟨q,_,rfl,he,l0,λw2 h2 s2 L2 PH a2 b2=>⟨w1,h1,s1,w2,h2,s2,rfl,L1.f.w0,by omega,L1.f.h0,by omega,L1.f.s0,L1.f.sw,L2.f.w0,by omega,L2.f.h0,by omega,L2.f.s0,L2.f.sw,λw h s A M=>⟨w,h,s,rfl,ComF.of L1 L2 M,M.le2 L1.f L2.f PF PH⟩⟩⟩⟩,?_⟩;rintro _ ⟨w,h,s,rfl,C,wh⟩;k_places;have pl:=cI C.f.w0 C.f.h0;have w0:=C.f.w0;refine⟨_,rfl,_,rfl,.inl ⟨by omega,by omega⟩,ite2 (λc=>?_) (λc=>?_)⟩
  .have c':=of_decide_eq_true c;refine⟨by show(1:Nat)<=1000;decide,?_⟩;rw[c5];exact(hR w h s C).2 c'
  .have c':¬ (720<w*h):=λz=>c (decide_eq_true z);exact(hR w h s C).1 (by omega)
def Em:SpD:=λds R=>∃ (p q:Pat) (d e:D) (w h:Int),ds=[d,e,.int w,.int h]/\aK p d/\aK q e/\p.Ok/\q.Ok/\0<=w/\w<=720/\0<=h/\h<=720/\((∀ x y:Int,0<=x->x<w->0<=y->y<h->p.show x y=q.show x y)->R .non)/\∀ x y:Int,0<=x->x<w->0<=y->y<h->p.show x y≠q.show x y->(∀ x' y':Int,0<=x'->x'<w->0<=y'->(y'<y\/(y'=y/\x'<x))->p.show x' y'=q.show x' y')->R (.tup [.int x,.int y])
abbrev oy(V:Bx):Prop:=V.D 9 "first_unlike" nA Em
def En(T:V.T "first_unlike" nz nA)(uA:V.m "range")(JO:je V):oy V:=by
 refine Tx.okDW T sc_first_unlike (λds R h=>?_) (λf cdv A outer s H E J hr=>⟨_,((ah (cQ 4 PassesOwn.never rfl sc_first_unlike.nd uA (aa 3) (am (cQ 5 PassesOwn.never rfl sc_first_unlike.nd uA (aa 2) (am (bb (ca (ao (CalX.no JO) hr (ac (aa 0) (ac (aa 5) (ac (aa 4) ae)))) (ao (CalX.no JO) hr (ac (aa 1) (ac (aa 5) (ac (aa 4) ae))))) (am (aw (bq (ac (aa 5) (ac (aa 4) ae))))) aT)))))
   (am (aw eA)))),λds R h=>?_⟩)
 .obtain⟨_,_,_,_,_,_,rfl,_⟩:=h;rfl
 .obtain⟨p,q,d,e,w,h,rfl,hd,he,u7,l0,w0,w7,h0,h7,hN,hS⟩:=h;obtain⟨wd,g8,sd,fs,rfl,q1,q2,fam⟩:=hd;have hd:aK p (.obj "Pattern" fs):=⟨wd,g8,sd,fs,rfl,q1,q2,fam⟩;obtain⟨JQ,t_,JR,i8,rfl,q3,q4,p7⟩:=he;have he:aK q (.obj "Pattern" i8):=⟨JQ,t_,JR,i8,rfl,q3,q4,p7⟩;refine⟨⟨by omega,by omega⟩,λk z=>∃ o4 o5,z=[be (.obj "Pattern" fs),be (.obj "Pattern" i8),be (.int w),be (.int h),o4,o5]/\∀ x y:Int,0<=x->x<w->0<=y->y<k->p.show x y=q.show x y,⟨_,_,rfl,λx y _ _ a b=>by omega⟩,?_,?_⟩
  .rintro k v z hk ⟨o4,o5,rfl,hj⟩;k_places;obtain⟨p6,rfl⟩:=range_int hk;refine⟨⟨by omega,by omega⟩,λi z=>∃ o5,z=[be (.obj "Pattern" fs),be (.obj "Pattern" i8),be (.int w),be (.int h),be (.int k),o5]/\∀ x:Int,0<=x->x<i->p.show x k=q.show x k,⟨_,rfl,λx a b=>by omega⟩,?_,?_⟩
   .rintro i v z hi ⟨o5,rfl,l_⟩;k_places;obtain⟨H_,rfl⟩:=range_int hi;have nn:aC (i:Int)/\aC (k:Int):=⟨⟨by omega,by omega⟩,by omega,by omega⟩;refine⟨p,_,i,k,rfl,hd,u7,λ_=>⟨q,_,i,k,rfl,he,l0,λ_=>?_,λn=>n nn⟩,λn=>n nn⟩;refine ite2 (λc=>?_) (λc=>?_)
    .refine⟨by show(2:Nat)<=1000;decide,hS i k (by omega) (by omega) (by omega) (by omega) (λz=>by simp[z] at c) λx' y' a b c d=>?_⟩;rcases d with d|⟨rfl,d⟩
     .exact hj x' y' a b c (by omega)
     .exact l_ x' a (by omega)
    .have c':p.show i k=q.show i k:=by simpa using c
     refine⟨_,rfl,λx a b=>?_⟩;by_cases e:x=i
     .rw[e];exact c'
     .exact l_ x a (by omega)
   .rintro z ⟨o5,rfl,l_⟩;k_places;rw[bI] at l_;refine⟨_,_,rfl,λx y a b c d=>?_⟩;by_cases e:y=k
    .rw[e];exact l_ x a (by omega)
    .exact hj x y a b c (by omega)
  .rintro z ⟨o4,o5,rfl,hj⟩;k_places;rw[bI] at hj;exact hN λx y a b c d=>hj x y a b c (by omega)
def Eo:SpX:=λds R RX=>∃ (p q:Pat) (d e:D),ds=[d,e]/\aK p d/\aK q e/\p.Ok/\q.Ok/\∀ w h s,ComF p q w h s->(720<w*h->RX "TooGreat" [])/\(w*h<=720->((∀ x y:Int,p.show x y=q.show x y)->R .non)/\∀ x y:Int,0<=x->x<w->0<=y->y<h->p.show x y≠q.show x y->(∀ x' y':Int,0<=x'->x'<w->0<=y'->(y'<y\/(y'=y/\x'<x))->p.show x' y'=q.show x' y')->R (.tup [.int x,.int y]))
abbrev oz(V:Bx):Prop:=V.X 13 "first_parting" nC Eo
def Ep(T:V.T "first_parting" nB nC)(J_:jn V)(Nf:oy V):oz V:=by
 refine Tx.okXW T sc_first_parting (λds R RX h=>?_) (λf cdv A outer s H E J hr hx=>⟨_,((ah (aq 2 sc_first_parting.nd (gE J_ hx hr (ac (aa 0) (ac (aa 1) ae))))
   (am (aw (ao Nf hr (ac (aa 0) (ac (aa 1) (ac (ai (aa 2) ad) (ac (ai (aa 2) ad) ae))))))))),λds R RX c5 h=>?_⟩)
 .obtain⟨_,_,_,_,rfl,_⟩:=h;rfl
 .obtain⟨p,q,d,e,rfl,hd,he,u7,l0,hR⟩:=h;obtain⟨wd,g8,sd,fs,rfl,q1,q2,fam⟩:=hd;have hd:aK p (.obj "Pattern" fs):=⟨wd,g8,sd,fs,rfl,q1,q2,fam⟩;obtain⟨JQ,t_,JR,i8,rfl,q3,q4,p7⟩:=he;have he:aK q (.obj "Pattern" i8):=⟨JQ,t_,JR,i8,rfl,q3,q4,p7⟩;refine⟨λx=>∃ w h s,x= .tup [.int w,.int h,.int s]/\ComF p q w h s/\w*h<=720,⟨p,q,_,_,rfl,hd,he,u7,l0,λw h s C=>⟨λwh=>⟨w,h,s,rfl,C,wh⟩,λwh=>by rw[c5];exact(hR w h s C).1 wh⟩⟩,?_⟩;rintro _ ⟨w,h,s,rfl,C,wh⟩;k_places;have pl:=cI C.f.w0 C.f.h0;have w0:=C.f.w0;have h0:=C.f.h0;obtain⟨r1,r2⟩:=(hR w h s C).2 wh;exact⟨_,rfl,_,rfl,p,q,_,_,w,h,rfl,hd,he,u7,l0,by omega,by omega,by omega,by omega,λe=>r1 λx y=>C.all e x y,r2⟩
def Er:SpD:=λds R=>∃ (p q:Pat) (d e:D) (w h X Y o n:Int),ds=[d,e,.lst [.str p.text,.int w,.int h,.int X,.int Y,.int o,.int n]]/\aK p d/\aK q e/\Ndl p w h X Y o n/\q.Ok/\(∀ x y,q.show x y=o)/\R (.bl true)
abbrev oA(V:Bx):Prop:=V.D 14 "_law_told_so" nE Er
def Es(T:V.T "_law_told_so" nD nE)(uB:V.m "len")(uL:V.m "isinstance")(uX:V.m "tuple")(uK:V.m "str")(uA:V.m "range")(JS:oq V)(uY:fZ V)(JP:jm V)(Ng:ow V)(J_:jn V)(Nh:oz V)(uJ:V.a "Pattern" "shifts"):oA V:=by
 refine Tx.okDW T sc__law_told_so (λds R h=>?_) (λf cdv A outer s H E J hr=>⟨_,((ah (jN rfl (aa 2) (dg_cons 3 sc__law_told_so.nd (dg_cons 4 sc__law_told_so.nd (dg_cons 5 sc__law_told_so.nd (dg_cons 6 sc__law_told_so.nd (dg_cons 7 sc__law_told_so.nd (dg_cons 8 sc__law_told_so.nd (dg_cons 9 sc__law_told_so.nd dH))))))))
   (ah (bb (cP (cO (bU (bC (ao JS hr (ac (fF uJ (aa 0)) (ac (bq (ac (aa 4) (ac (aa 5) (ac ad ae)))) ae))))) (cX (bU (bC (ao JS hr (ac (ao uY hr (ac (aa 0) ae)) (ac (bq (ac (aa 4) (ac (aa 5) (ac ad ae)))) ae)))))))) (am (aw bx)) aT)
   (ah (aq 10 sc__law_told_so.nd (ao JP hr (ac (aa 0) ae)))
   (ah (bb (cP (cO (bU (bC (dG uL uX (aa 10) PyProof.Rows.boot_tuple kit_tuple))) (cO (ca (cv uB (ac (aa 10) ae)) ad) (cX (bU (bC (ao JS hr (ac (eO (aa 10) eM (eN ad)) (ac (bq (ac (aa 4) (ac (aa 5) (ac ad ae)))) ae))))))))) (am (aw bx)) aT)
   (ah (bb (cP (cO (bU (bC (dG uL uX (ai (aa 10) ad) PyProof.Rows.boot_tuple kit_tuple))) (cX (ca (cv uB (ac (ai (aa 10) ad) ae)) (aa 5))))) (am (aw bx)) aT)
   (ah (aq 11 sc__law_told_so.nd (fJ (df uK (ac (aa 8) ae)) (aa 4)))
   (ah (cQ 12 PassesOwn.never rfl sc__law_told_so.nd uA (aa 5) (ah (aq 13 sc__law_told_so.nd (aa 11))
    (ah (fC (bT (aa 12) (aa 7)) (am (aq 13 sc__law_told_so.nd (ar (ar (eO (aa 11) eM (eN (aa 6))) (ai az (aa 9))) (eO (aa 11) (eN (ar (aa 6) ad)) eM)))) aT)
    (am (bb (cP (cO (bU (bC (dG uL uK (ai (ai (aa 10) ad) (aa 12)) PyProof.Rows.boot_str kit_str))) (cX (ca (ai (ai (aa 10) ad) (aa 12)) (aa 13))))) (am (aw bx)) aT)))))
   (ah (bb (Aa (ao Ng hr (ac (aa 0) (ac (aa 1) ae))) bx) (am (aw bx)) aT)
   (ah (bb (bU (bC (ao JS hr (ac (ao (CalX.no J_) hr (ac (aa 1) (ac (aa 0) ae))) (ac (bq (ac (aa 4) (ac (aa 5) (ac ad ae)))) ae))))) (am (aw bx)) aT)
   (am (aw (ao JS hr (ac (ao (CalX.no Nh) hr (ac (aa 0) (ac (aa 1) ae))) (ac (bq (ac (aa 6) (ac (aa 7) ae))) ae))))))))))))))),λds R h=>?_⟩)
 .obtain⟨_,_,_,_,_,_,_,_,_,_,rfl,_⟩:=h;rfl
 .obtain⟨p,q,d,e,w,h,X,Y,o,n,rfl,ip,iq,N,l0,hq,hR⟩:=h;obtain⟨w1,h1,s1,fs,rfl,c1,c2,c3⟩:=ip;have ip:aK p (.obj "Pattern" fs):=⟨w1,h1,s1,fs,rfl,c1,c2,c3⟩;obtain⟨w2,h2,s2,i8,rfl,d1,d2,d3⟩:=iq;have iq:aK q (.obj "Pattern" i8):=⟨w2,h2,s2,i8,rfl,d1,d2,d3⟩;obtain⟨rfl,rfl,rfl⟩:=c3.toFam.uniq N.fam;have L:=N.least;have w0:=L.f.w0;have h0:=L.f.h0;have pl:=cI w0 h0;have big:=N.big;have x0:=N.x0;have xw:=N.xw;have y0:=N.y0;have yh:=N.yh;have ho:=N.o1;have hn:=N.n0;refine⟨rfl,?_⟩;refine⟨rfl,_,c2,by show(3:Nat)<=1000;decide,[w1,h1,0],rfl,by show(3:Nat)<=1000;decide,?_⟩;refine⟨p,_,rfl,ip,N.ok,λw' h' s' L' _ _ _=>?_⟩;obtain⟨rfl,rfl,rfl⟩:=L'.uniq L;refine⟨by show(3:Nat)<=1000;decide,[w',h',0],rfl,by show(3:Nat)<=1000;decide,?_⟩;refine⟨λx=>x=fm p w' h' 0,⟨p,_,rfl,ip,N.ok,λw h s L2 _ _ _=>by obtain⟨rfl,rfl,rfl⟩:=L2.uniq L;rfl⟩,?_⟩;rintro _ rfl;k_places;refine⟨by show¬ (0=0/\3=4);decide,by show(3:Nat)<=1000;decide,[w',h',0],rfl,by show(3:Nat)<=1000;decide,?_⟩;refine ite2 (λc=>absurd c (by simp)) λ_=>?_;refine⟨_,rfl,_,rfl,ite2 (λc=>absurd c (by simp;lia)) λ_=>?_⟩;have dl:((toString o:String):IT).length=1:=by rw[fV ho];rfl
  have rl:(repS (toString o:String) w'.toNat).length=w'.toNat:=by rw[<- bj,iP ho,GE]
  refine⟨λx=>x= .str (repS (toString o:String) w'.toNat),⟨by lia,⟨by lia,by lia,by rw[dl];lia⟩,rfl⟩,?_⟩;rintro _ rfl;k_places;refine⟨⟨by lia,by lia⟩,λj z=>∃ w6 n5:Option D,z=[be (.obj "Pattern" fs),be (.obj "Pattern" i8),be (.lst [.str p.text,.int w',.int h',.int X,.int Y,.int o,.int n]),be (.str p.text),be (.int w'),be (.int h'),be (.int X),be (.int Y),be (.int o),be (.int n),be (fm p w' h' 0),be (.str (repS (toString o:String) w'.toNat)),w6,n5],⟨_,_,rfl⟩,?_,?_⟩
  .rintro j v z hj ⟨w6,n5,rfl⟩;k_places;obtain⟨JZ,rfl⟩:=range_int hj;have jh:(j:Int)<h':=by lia
   refine⟨λx=>x= .str (repS (toString o:String) w'.toNat),rfl,?_⟩;rintro _ rfl;k_places;refine⟨λz=>z=[be (.obj "Pattern" fs),be (.obj "Pattern" i8),be (.lst [.str p.text,.int w',.int h',.int X,.int Y,.int o,.int n]),be (.str p.text),be (.int w'),be (.int h'),be (.int X),be (.int Y),be (.int o),be (.int n),be (fm p w' h' 0),be (.str (repS (toString o:String) w'.toNat)),be (.int (j:Int)),be (.str (av p 0 (j:Int) w'.toNat))],ite2 (λc=>?_) (λc=>?_),?_⟩
   .have e:(j:Int)=Y:=of_decide_eq_true c;have sp:=N.spot e;have l1:=Txt.slice_le (repS (toString o:String) w'.toNat) z7 (be X);have l2:=Txt.slice_le (repS (toString o:String) w'.toNat) (be (X+1)) z7;have l3:(⟨#[signOf n]⟩:IT).length=1:=rfl;refine⟨λx=>x= .str (av p 0 (j:Int) w'.toNat),⟨by lia,_,⟨by decide,kJ hn.1 hn.2⟩,by lia,by lia,by rw[aF];lia,by rw[sp]⟩,?_⟩;rintro _ rfl;k_places
   .have e:¬ (j:Int)=Y:=λz=>c (decide_eq_true z);show _=_;rw[N.row jh e]
   rintro _ rfl;k_places;have ak:=Ce (p:=p) (w:=w') (h:=h') (k:=(j:Int)) (by lia) (by lia);exact⟨_,rfl,_,ak,_,rfl,_,ak,ite2 (λc=>absurd c (by simp)) λ_=>⟨_,_,rfl⟩⟩
  rintro z ⟨w6,n5,rfl⟩;k_places;refine⟨p,q,_,_,rfl,ip,iq,N.ok,l0,λb hb=>?_⟩;have pX:p.show X Y=n:=by rw[N.sh,Fs x0 xw,Fs y0 yh,if_pos ⟨rfl,rfl⟩]
  have bf:b=false:=by
   cases b with
   |false=>rfl
   |true=>
    have:=hb.mp rfl X Y;rw[pX,hq] at this;exact absurd this N.ne
  subst bf;have qk:∀ x y,q.Keeps x y:=λx y a b=>by rw[hq,hq]
  have C0:ComF q p w' h' 0:=⟨L.f,λx y=>(L.lat x y).trans ⟨λz=>⟨qk x y,z⟩,λz=>z.2⟩⟩;have C1:ComF p q w' h' 0:=⟨L.f,λx y=>(L.lat x y).trans ⟨λz=>⟨z,qk x y⟩,λz=>z.1⟩⟩;refine⟨q,p,_,_,rfl,iq,ip,l0,N.ok,λw2 h2 s2 C=>⟨λ_=>?_,λz=>by obtain⟨rfl,rfl,rfl⟩:=C.uniq C0;exact absurd big (by lia)⟩⟩;obtain⟨rfl,rfl,rfl⟩:=C.uniq C0;refine⟨by show(3:Nat)<=1000;decide,[w2,h2,0],rfl,by show(3:Nat)<=1000;decide,?_⟩;refine⟨p,q,_,_,rfl,ip,iq,N.ok,l0,λw3 h3 s3 D=>?_⟩;obtain⟨rfl,rfl,rfl⟩:=D.uniq C1;refine⟨λz=>absurd big (by lia),λ_=>⟨λz=>?_,λx y PJ PK PL PM ne _=>?_⟩⟩
  .have:=z X Y;rw[pX,hq] at this;exact absurd this N.ne
  .have c:x % w3=X/\y % h3=Y:=Classical.byContradiction λz=>ne (by rw[N.sh,if_neg z,hq]);rw[Fs PJ PK,Fs PL PM] at c;refine⟨by show(2:Nat)<=1000;decide,[X,Y],by rw[c.1,c.2];rfl,by show(2:Nat)<=1000;decide,hR⟩
abbrev oB(V:Bx):Prop:=V.D 1 "_law_coordinate" nG AK
def Et(T:V.T "_law_coordinate" nF nG):oB V:=by
 refine Tx.okDW T CN (λds R h=>?_) (λf cdv A outer s H E J hr=>⟨_,((ah (bb (eE (aP (aa 0) ad) ad) (am (aw (bu (aP (bB (aa 0) ad) ad) ad))) aT)
   (ah (bb (bT (aP (aa 0) ad) ad) (am (aw (bu (aP (aV (bB (aa 0) ad) ad) (ar (aV ad (eB ad ad)) ad)) (eB ad ad)))) aT)
   (am (aw (ai (jJ (ac (dF (eB ad ad)) (ac (bu ad (eB ad ad)) (ac (bu (eB ad ad) ad) (ac (eB ad ad) ae))))) (aP (bB (aa 0) ad) ad))))))),λds R h=>?_⟩)
 .obtain⟨_,rfl,_⟩:=h;rfl
 .obtain⟨v,rfl,hR⟩:=h;have Oh:((10:Int) ^ Gq 12)=1000000000000:=by decide
  refine⟨by decide,ite2 (λ_=>?_) (λ_=>?_)⟩
  .exact⟨⟨by decide,by decide⟩,by decide,hR _ (by lia) (by lia)⟩
  refine⟨by decide,ite2 (λ_=>?_) (λ_=>?_)⟩
  .refine⟨⟨by decide,by decide⟩,.inr ⟨by decide,by decide⟩,⟨by decide,by decide,by decide⟩,.inl ⟨by decide,by decide⟩,by decide,⟨by decide,by decide,by decide⟩,hR _ ?_ ?_⟩
   .rw[Oh];have:=cz (a:=v / 4*3360676521) (show(0:Int)<2*1000000000000+1 by decide);lia
   .rw[Oh];have:=cA (a:=v / 4*3360676521) (show(0:Int)<2*1000000000000+1 by decide);lia
  obtain⟨c,ec,h1,h2⟩:=AL (v / 4);exact⟨⟨by decide,by decide,by decide⟩,⟨by decide,by decide,by decide⟩,⟨by decide,by decide,by decide⟩,⟨by decide,by decide,by decide⟩,by simp,⟨by decide,by decide⟩,by decide,_,ec,hR c h1 h2⟩
def Eu:SpD:=λds R=>∃ l h s b:Int,ds=[.int l,.int h,.int s,.int b]/\0<b/\b<=720/\R (.int (fo l h s b))
abbrev oC(V:Bx):Prop:=V.D 1 "_law_many" nI Eu
def Ev(T:V.T "_law_many" nH nI)(uO:V.m "max"):oC V:=by
 refine Tx.okDW T sc__law_many (λds R h=>?_) (λf cdv A outer s H E J hr=>⟨_,((ah (bb (eE (aa 1) (aa 0)) (am (aw ad)) aT)
   (ah (aq 4 sc__law_many.nd (ar (aa 0) (aP (bu (aa 2) (aa 0)) (aa 3))))
   (am (aw (fD rfl uO (ac ad (ac (ar (bB (bu (aa 1) (aa 4)) (aa 3)) ad) ae)))))))),λds R h=>?_⟩)
 .obtain⟨_,_,_,_,rfl,_⟩:=h;rfl
 .obtain⟨l,h,s,b,rfl,b0,b7,hR⟩:=h;unfold fo at hR;refine ite2 (λc=>?_) (λc=>?_)
  .rw[if_pos (of_decide_eq_true c)] at hR;exact hR
  .rw[if_neg (λz=>c (decide_eq_true z))] at hR;refine⟨λx=>x= .int (l+(s - l) % b),⟨b0,rfl⟩,?_⟩;rintro _ rfl;k_places;exact⟨⟨b0,by lia⟩,hR⟩
def Ew:SpD:=λds R=>∃ xs:List Int,ds=[.lst (xs.map D.int),.lst (xs.map D.int)]/\xs.length=7/\R (.bl true)
abbrev oE(V:Bx):Prop:=V.D 2 "_law_seven" nK Ew
def Ey(T:V.T "_law_seven" nJ nK)(uB:V.m "len")(uL:V.m "isinstance")(JY:V.m "list")(uA:V.m "range")(uZ:fY V):oE V:=by
 refine Tx.okDW T sc__law_seven (λds R h=>?_) (λf cdv A outer s H E J hr=>⟨_,((ah (bb (cP (cO (bU (bC (dG uL JY (aa 0) PyProof.Rows.boot_list kit_list))) (cX (ca (cv uB (ac (aa 0) ae)) ad)))) (am (aw bx)) aT)
   (ah (cQ 2 PassesOwn.never rfl sc__law_seven.nd uA ad (am (bb (cP (cO (bU (bC (ao uZ hr (ac (ai (aa 0) (aa 2)) ae)))) (cX (ca (ai (aa 0) (aa 2)) (ai (aa 1) (aa 2)))))) (am (aw bx)) aT)))
   (am (aw bx))))),λds R h=>?_⟩)
 .obtain⟨_,rfl,_⟩:=h;rfl
 .obtain⟨xs,rfl,x7,hR⟩:=h;refine ite2 (λc=>absurd c (by simp[x7])) λ_=>?_;refine⟨⟨by decide,by decide⟩,λk z=>∃ o,z=[be (.lst (xs.map D.int)),be (.lst (xs.map D.int)),o],⟨_,rfl⟩,?_,?_⟩
  .rintro k v z hk ⟨o,rfl⟩;k_places;obtain⟨p6,rfl⟩:=range_int hk;have k7:k<7:=p6;have ak:atI (xs.map D.int) (k:Int)=be (.int (xs[k]'(by omega))):=cH (by rw[E3,Fi (by omega)];rfl);exact⟨_,ak,_,rfl,_,ak,_,ak,ite2 (λc=>absurd c (by simp)) λ_=>⟨_,rfl⟩⟩
  .rintro z ⟨o,rfl⟩;k_places;exact hR
abbrev oF(V:Bx):Prop:=V.D 1 "count_sign" nM B4
def Ez(T:V.T "count_sign" nL nM)(uB:V.m "len"):oF V:=by
 refine Tx.okDW T CO (λds R h=>?_) (λf cdv A outer s H E J hr=>⟨_,((am (aw (ar (aV (bB (aa 2) (cv uB (ac (aa 0) ae))) (rP (aa 0) (ac (aa 1) ae))) (rP (eO (aa 0) eM (eN (aP (aa 2) (cv uB (ac (aa 0) ae))))) (ac (aa 1) ae)))))),λds R h=>?_⟩)
 .obtain⟨_,_,_,_,_,_,rfl,_⟩:=h;rfl
 .obtain⟨p,x,y,v,m,w,rfl,ok,v0,v6,w0,w7,m0,m1,kw,hR⟩:=h;have l:=kI p x y w;have q0:0<=m / (w:Int):=Hq m0 (by lia);have q1:m / (w:Int)<=m:=Hr _ m0;have r0:=Fc m (show(w:Int)≠0 by lia);have r1:=Fd m (show 0<(w:Int) by lia);have er:m % (w:Int)=(((m % (w:Int)).toNat:Nat):Int):=by lia
  have e2:Txt.slice (av p x y w) z7 (be (m % (w:Int)))=av p x y (m % (w:Int)).toNat:=by
   rw[er,B3 p x y (by lia)];rfl
  refine⟨by lia,⟨by rw[l];lia,by rw[l];lia⟩,.inl ⟨by rw[l];lia,by rw[l];lia⟩,by lia,by rw[l];lia,by lia,?_⟩;show R (.int (m / ((av p x y w).length:Int)*occC (av p x y w) (signOf v)+occC (Txt.slice (av p x y w) z7 (be (m % ((av p x y w).length:Int)))) (signOf v)));rw[l,e2,tz ok x y v0 v6,tz ok x y v0 v6];have JX:∀ k:Nat,(λk:Nat=>p.show (x+k) y) (k+w)=(λk:Nat=>p.show (x+k) y) k:=λk=>by
   have:=kw (x+k) y;rw[FA] at this;show p.show (x+((k+w:Nat):Int)) y=p.show (x+(k:Int)) y;rw[<- this,FV,GP]
  have:=B0 (f:=λk:Nat=>p.show (x+k) y) w0 JX v m.toNat;have d1:m / (w:Int)=((m.toNat / w:Nat):Int):=by rw[Int.natCast_ediv,Fb m0]
  have d2:(m % (w:Int)).toNat=m.toNat % w:=by
   have:m % (w:Int)=((m.toNat % w:Nat):Int):=by rw[Io,Fb m0]
   lia
  rw[d1,d2,this];exact hR
abbrev jp(V:Bx):Prop:=V.X 11 "count_all" nN Cc
def EA(T:V.T "count_all" iO nN)(uO:V.m "max")(uA:V.m "range")(IP:V.m "min")(uW:V.m "enumerate")(JN:jd V)(J':ji V)(J7:jj V)(Ni:oF V)(uM:V.gs "SIGNS" ".123456")(uJ:V.a "Pattern" "shifts"):jp V:=by
  refine Tx.okXW T sc_count_all (λds R RX h=>?_) (λf cdv A outer s H E J hr hx=>⟨_,((ah (qr (gE JN hx hr (ac (aa 1) (ac (aa 2) ae))))
      (ah (qr (gE JN hx hr (ac (aa 3) (ac (aa 4) ae))))
      (ah (aq 5 sc_count_all.nd (fF uJ (aa 0)))
      (ah (aq 6 sc_count_all.nd (ao J' hr (ac (aa 0) ae)))
      (ah (aq 7 sc_count_all.nd (fD rfl uO (ac (ar (bu (aa 3) (aa 1)) ad) (ac ad ae))))
      (ah (aq 8 sc_count_all.nd (aV (ai (aa 5) ad) (ai (aa 5) ad)))
      (ah (zO 9 rfl (compScope (by change cw _ (af iO) ["pattern","left","top","right","bottom","family","rows","many","again","counts","y","times","row","hue","sign"] _=true;decide+kernel)) sc_count_all.nd (eL uM) (λcl s0 H0 fp=>ad))
      (ah (yj 10 PassesOwn.leaving rfl sc_count_all.nd uA (aa 2) (xV rfl IP (ac (ar (aa 4) ad) (ac (ar (aa 2) (aa 8)) ae))) (ah (aq 11 sc_count_all.nd (ar (bB (bu (aa 4) (aa 10)) (aa 8)) ad))
        (ah (aq 12 sc_count_all.nd (ao J7 hr (ac (aa 5) (ac (aa 6) (ac (aa 1) (ac (aa 10) ae))))))
        (am (zW PassesOwn.leaving rfl uW (eL uM) (dg_cons 13 sc_count_all.nd (dg_cons 14 sc_count_all.nd dH)) (am (fG 9 (ar (bz 9 (aa 13)) (aV (aa 11) (ao Ni hr (ac (aa 12) (ac (aa 14) (ac (aa 7) ae)))))) (aa 13))))))))
      (gy 9 (am (aw (aa 9))))))))))))),λds R RX c5 h=>?_⟩)
  . obtain⟨_,_,_,_,_,_,rfl,_⟩:=h;rfl
  . obtain⟨p,d,left,top,right,a_,rfl,hd,ok,hR,hX⟩:=h;obtain⟨w,h,s,fs,rfl,e1,e2,hp⟩:=id hd;have F:=hp.toFam;have sm:=ok.fits.small F;refine⟨left,top,rfl,λn1=>?_,λn1=>by rw[c5];exact hX λz=>n1 ⟨z.1,z.2.1⟩⟩;refine⟨right,a_,rfl,λn2=>?_,λn2=>by rw[c5];exact hX λz=>n2 ⟨z.2.2.1,z.2.2.2⟩⟩;have hR:=hR ⟨n1.1,n1.2,n2.1,n2.2⟩;unfold aC at n1 n2;refine⟨λd=>d= .tup [.int w,.int h,.int s],⟨rfl,_,e2,rfl⟩,?_⟩;rintro _ rfl;k_places;refine⟨λd=>d=cr p w h/\w*h<=720,⟨p,_,rfl,hd,ok,λw' h' s' F' hb _ _=>by obtain⟨rfl,rfl,rfl⟩:=F.uniq F';exact⟨rfl,hb⟩⟩,?_⟩;rintro _ ⟨rfl,hb⟩;k_places;refine⟨λd=>d= .int ((right - left+1).toNat:Nat),congrArg D.int (Cb _),?_⟩;rintro _ rfl;k_places;have PN:0<w*h:=E5 F.f.w0 F.f.h0;refine⟨λd=>d= .int (w*h),⟨_,rfl,_,rfl,.inl ⟨by lia,by lia⟩,rfl⟩,?_⟩;rintro _ rfl;k_places;generalize hm:(right - left+1).toNat=m at*;generalize hn:(a_ - top+1).toNat=n at*;generalize hN:(w*h).toNat=N at*;refine⟨by decide+kernel,by decide+kernel,λk ys=>ys=EQ k (D.int 0),rfl,?_,?_⟩
    . rintro k v ys hk hl rfl;show _=EQ (k+1) _;rw[List.replicate_succ']
    rintro ys hl rfl;have wN:w*h=(N:Int):=by lia
    have H_:=B8 (top:=top) hn wN;have Qm:=tD n1.1 n2.1 hm;have Qn:=tD n1.2 n2.2 hn;refine⟨B9 ⟨n1.2.1,n1.2.2⟩ ⟨n2.2.1,n2.2.2⟩ PN hb,λk z=>∃ JG JH w6 n5 Ji,z=[be (.obj "Pattern" fs),be (.int left),be (.int top),be (.int right),be (.int a_),be (.tup [.int w,.int h,.int s]),be (cr p w h),be (.int m),be (.int (w*h)),be (.own ((EM 7).map λ(v:Nat)=>D.int (bZ p left top m n N k v))),JG,JH,w6,n5,Ji],⟨z7,z7,z7,z7,z7,?_⟩,?_,?_⟩
    . have e7:(bE (".123456":IT)).length=7:=by decide+kernel
      rw[e7];rfl
    . rintro k v z hk ⟨JG,JH,w6,n5,Ji,rfl⟩;k_places;obtain⟨p6,rfl⟩:=range2_int hk;rw[H_] at p6;refine⟨λd=>d= .int (((n:Int) - 1 - k) / N+1),⟨⟨by lia,by lia⟩,?_⟩,?_⟩
      . rw[wN];congr 3;exact Ca hn p6
      rintro _ rfl;k_places;refine⟨λd=>d= .str (av p left (top+k) w.toNat),⟨p,w,h,s,left,top+k,rfl,F,sm.2.1,sm.2.2.2.1,rfl⟩,?_⟩;rintro _ rfl;k_places;refine⟨by decide+kernel,λi z=>∃ n5 Ji,z=[be (.obj "Pattern" fs),be (.int left),be (.int top),be (.int right),be (.int a_),be (.tup [.int w,.int h,.int s]),be (cr p w h),be (.int m),be (.int (w*h)),be (.own ((EM 7).map λ(v:Nat)=>D.int (if v<i then bZ p left top m n N (k+1) v else bZ p left top m n N k v))),be (.int (top+k)),be (.int (((n:Int) - 1 - k) / N+1)),be (.str (av p left (top+k) w.toNat)),n5,Ji],⟨_,_,rfl⟩,?_,?_⟩
      . rintro i v z hi ⟨n5,Ji,rfl⟩;k_places;rw[B7] at hi;have i7:i<7:=by simpa using(E6.mp hi).1
        have ev:v= .str ⟨#[signOf (i:Int)]⟩:=by
          rw[E3,Fq i7] at hi;exact(Option.some.inj hi).symm
        subst ev;have ci:=kL (λk'=>p.show (left+k') (top+k)) i m;have tq:0<=((n:Int) - 1 - k) / N/\((n:Int) - 1 - k) / N<=(n:Int) - 1 - k:=⟨Hq (by lia) (by lia),Hr _ (by lia)⟩;refine⟨_,cH (by rw[E3,Fq i7];rfl),p,left,top+k,i,m,w.toNat,rfl,ok,by lia,by lia,by lia,by lia,by lia,by lia,by rw[Fb (by lia)];exact F.across,?_⟩;refine⟨.inl ⟨by lia,by lia⟩,i,?_,?_⟩
        . unfold ixN;rw[if_pos (by lia),if_pos (by simp;lia)];simp
        refine⟨be (.int i),be (.str ⟨#[signOf (i:Int)]⟩),?_⟩;rw[GT,if_neg (FM i)];have e:bZ p left top m n N k i+(((n:Int) - 1 - k) / N+1)*cntN (λk'=>p.show (left+k') (top+k)) i m=bZ p left top m n N (k+1) i:=rfl;rw[e];have q:=B6 (n:=7) (i:=i) (λ(v:Nat)=>D.int (if v<i then bZ p left top m n N (k+1) v else bZ p left top m n N k v)) (λ(v:Nat)=>D.int (if v<i+1 then bZ p left top m n N (k+1) v else bZ p left top m n N k v)) (λv hv ne=>by
          by_cases c:v<i
          . rw[if_pos c,if_pos (by lia)]
          . rw[if_neg c,if_neg (by lia)])
        rw[if_pos (show i<i+1 by lia)] at q;rw[q];rfl
      . rintro z ⟨n5,Ji,rfl⟩;k_places;refine⟨be (.int (top+k)),be (.int (((n:Int) - 1 - k) / N+1)),be (.str (av p left (top+k) w.toNat)),n5,Ji,?_⟩;have:∀ v∈EM 7,D.int (if v<(bE (".123456":IT)).length then bZ p left top m n N (k+1) v else bZ p left top m n N k v)=D.int (bZ p left top m n N (k+1) v):=λv hv=>by
          rw[if_pos (by  have e7:(bE (".123456":IT)).length=7:=by decide+kernel
                         rw[e7];simpa using hv)]
        rw[GK this]
    . rintro z ⟨JG,JH,w6,n5,Ji,rfl⟩;k_places;have e:((EM ((if top+w*h<a_+1 then top+w*h else a_+1) - top).toNat).map λ(k:Nat)=>D.int (top+(k:Int))).length=min n N:=by simp[H_]
      rw[e];have fold:∀ v:Nat,bZ p left top m n N (min n N) v=bt p v left top m n:=λv=>B5 (by lia) (by rw[<- wN];exact F.down) v left top m n;simp only[fold];have e2:((EM 7).map λ(v:Nat)=>D.int (bt p v left top m n))=(bQ p left top m n).map D.int:=by unfold bQ;rw[FT];rfl
      rw[e2];exact hR
abbrev oG(V:Bx):Prop:=V.X 12 "count_hue" nP Cd
def EB(T:V.T "count_hue" nO nP)(uB:V.m "len")(Ka:jp V):oG V:=by
 refine Tx.okXW T sc_count_hue (λds R RX h=>?_) (λf cdv A outer s H E J hr hx=>⟨_,((ah (aq 6 sc_count_hue.nd (gE Ka hx hr (ac (aa 0) (ac (aa 2) (ac (aa 3) (ac (aa 4) (ac (aa 5) ae)))))))
   (am (aw (xI (zY vx jw xq jH ad (aa 1) (cv uB (ac (aa 6) ae))) (ai (aa 6) (aa 1)) ad))))),λds R RX c5 h=>?_⟩)
 .obtain⟨_,_,_,_,_,_,_,rfl,_⟩:=h;rfl
 .obtain⟨p,d,hue,left,top,right,a_,rfl,hd,ok,h0,h6,hR,hX⟩:=h;obtain⟨w,h,s,fs,rfl,e1,e2,hp⟩:=id hd;refine⟨λx=>(aC left/\aC top/\aC right/\aC a_)/\x= .lst ((bQ p left top (right - left+1).toNat (a_ - top+1).toNat).map D.int),⟨p,_,left,top,right,a_,rfl,hd,ok,λn=>⟨n,rfl⟩,λn=>by rw[c5];exact hX n⟩,?_⟩;rintro _ ⟨n,rfl⟩;k_places;have l7:((bQ p left top (right - left+1).toNat (a_ - top+1).toNat).map D.int).length=7:=by simp[bQ]
  refine⟨_,rfl,λ_=>ite2 (λ_=>?_) (λc=>absurd (decide_eq_true (by rw[l7];lia)) c),λc=>absurd h0 (of_decide_eq_false c)⟩;have e:hue=((hue.toNat:Nat):Int):=by lia
  refine⟨.int (bt p hue left top (right - left+1).toNat (a_ - top+1).toNat),?_,hR n⟩;rw[e];exact cH (by unfold bQ;rw[FT,E3,Fq (by lia)];rfl)
def EC{fa:KF}{fd:Qz}(F:Fun V.K "law" "law" fT fa fd)(uK:V.m "str")(uA:V.m "range")(uO:V.m "max")(Nj:nZ V)(Lv:on V)(Nk:oA V)(Nl:oB V)(I_:iQ V)(Lw:oC V)(Nm:oE V)(Ka:jp V)(Nn:oG V)(uZ:fY V):FnOk V.P V.w V.K V.mg V.base (Exc.CX1 V.P V.w) 20 fa fd nQ (lSp V.K eI):=by
 refine Fun.okDW F sc_law (λds R h=>?_) (λcdv A outer s H E J hr=>⟨_,((ah (aq 1 sc_law.nd (ao Nj hr (ac (aa 0) (ac ad ae))))
   (ah (jN rfl (aa 1) (dg_cons 2 sc_law.nd (dg_cons 3 sc_law.nd (dg_cons 4 sc_law.nd (dg_cons 5 sc_law.nd (dg_cons 6 sc_law.nd (dg_cons 7 sc_law.nd (dg_cons 8 sc_law.nd dH))))))))
   (ah (aq 9 sc_law.nd (ao (CalX.no Lv) hr (ac (aa 2) ae)))
   (ah (aq 10 sc_law.nd (ao (CalX.no Lv) hr (ac (ar (ar az (df uK (ac (aa 7) ae))) az) ae)))
   (ah (bb (bU (bC (ao Nk hr (ac (aa 9) (ac (aa 10) (ac (aa 1) ae)))))) (am (aw bx)) aT)
   (ah (jN rfl (jS rfl (compScope (by change cw _ (af fT) ["_law_script","_law_needle_here","_law_text","_law_wide","_law_high","_law_x","_law_y","_law_old","_law_new","_law_made","_law_plain","_law_left","_law_top","_law_right","_law_bottom","_law_lone","_law_due","_law_found"] _=true;decide+kernel)) uA ad (λcl s0 H0 fp=>(ao Nl hr (ac (ao I_ hr (ac (aa 0) (ac (aa 18) ae))) ae)))) (dg_cons 11 sc_law.nd (dg_cons 12 sc_law.nd (dg_cons 13 sc_law.nd (dg_cons 14 sc_law.nd dH)))))
   (ah (aq 15 sc_law.nd (aV (ao Lw hr (ac (aa 11) (ac (aa 13) (ac (aa 5) (ac (aa 3) ae))))) (ao Lw hr (ac (aa 12) (ac (aa 14) (ac (aa 6) (ac (aa 4) ae)))))))
   (ah (qu 16 sc_law.nd (ac ad (ac ad (ac ad (ac ad (ac ad (ac ad (ac ad ae))))))))
   (ah (fG 16 (aa 15) (aa 8))
   (ah (fG 16 (bu (aV (fD rfl uO (ac ad (ac (ar (bu (aa 13) (aa 11)) ad) ae))) (fD rfl uO (ac ad (ac (ar (bu (aa 14) (aa 12)) ad) ae)))) (aa 15)) (aa 7))
   (gy 16 (ah (bb (bU (bC (ao Nm hr (ac (ao (CalX.no Ka) hr (ac (aa 9) (ac (aa 11) (ac (aa 12) (ac (aa 13) (ac (aa 14) ae)))))) (ac (aa 16) ae))))) (am (aw bx)) aT)
   (ah (aq 17 sc_law.nd (ao (CalX.no Nn) hr (ac (aa 9) (ac (aa 8) (ac (aa 11) (ac (aa 12) (ac (aa 13) (ac (aa 14) ae))))))))
   (am (aw (qq (ao uZ hr (ac (aa 17) ae)) (qp (xu (aa 17) (aa 15)))))))))))))))))))),λds R h=>?_⟩)
 .obtain⟨ns,rfl,_⟩:=h;rfl
 .obtain⟨ns,rfl,hl,hR⟩:=h;refine⟨λx=>∃ (p:Pat) (w h X Y o n:Int),x= .lst [.str p.text,.int w,.int h,.int X,.int Y,.int o,.int n]/\Ndl p w h X Y o n,⟨ns,4,rfl,by decide,λp w h X Y o n N=>⟨p,w,h,X,Y,o,n,rfl,N⟩⟩,?_⟩;rintro _ ⟨p,w,h,X,Y,o,n,rfl,N⟩;k_places;have w0:=N.fam.f.w0;have h0:=N.fam.f.h0;have pl:=cI w0 h0;have big:=N.big;have ho:=N.o1;have hn:=N.n0;refine⟨rfl,?_⟩;show dSeq _ _ _ [be (.rol (ns.map D.int)),be (.lst [.str p.text,.int w,.int h,.int X,.int Y,.int o,.int n]),be (.str p.text),be (.int w),be (.int h),be (.int X),be (.int Y),be (.int o),be (.int n),z7,z7,z7,z7,z7,z7,z7,z7,z7];refine⟨λx=>aK p x,sX N.ok λd hd=>hd,?_⟩;rintro _ ⟨w1,h1,s1,fs,rfl,c1,c2,c3⟩;k_places;have ip:aK p (.obj "Pattern" fs):=⟨w1,h1,s1,fs,rfl,c1,c2,c3⟩;have l0:(Pat.mot [⟨#[signOf o]⟩] 1 0 0 1).Ok:=by
   refine⟨⟨Rows.of (w:=1) (t:=1) (by decide) (by decide) rfl (by decide) (by decide) λl hl=>?_,by unfold B12;lia,by unfold B12;lia,by unfold B12;lia,by unfold B12;lia,by decide⟩,by simp[Pat.depth],Pat.fits_mot (by unfold B12;lia) (by unfold B12;lia) (by unfold B12;lia) (by unfold B12;lia) (by decide)⟩;rw[EL.mp hl];refine⟨rfl,λz hz=>?_⟩;have:z=signOf o:=by simpa[cs] using hz
   rw[this];unfold aJ signOf;split<;>lia
  have et:(("[":IT)++(toString o:String))++";1,0;0,1]"=(Pat.mot [⟨#[signOf o]⟩] 1 0 0 1).text:=by
   rw[<- tS,fV ho];unfold signOf;rw[if_neg (by lia)]
  have dl:((toString o:String):IT).length=1:=by rw[fV ho];rfl
  have Pc:("[":IT).length=1:=rfl;have Pd:(";1,0;0,1]":IT).length=9:=rfl;refine⟨λx=>aK (Pat.mot [⟨#[signOf o]⟩] 1 0 0 1) x,⟨by lia,by lia,by rw[aF];lia,?_⟩,?_⟩
  .rw[et];exact sX l0 λd hd=>hd
  rintro _ ⟨w2,h2,s2,i8,rfl,d1,d2,d3⟩;k_places;have iq:aK (Pat.mot [⟨#[signOf o]⟩] 1 0 0 1) (.obj "Pattern" i8):=⟨w2,h2,s2,i8,rfl,d1,d2,d3⟩;show dSeq _ _ _ [be (.rol (ns.map D.int)),be (.lst [.str p.text,.int w,.int h,.int X,.int Y,.int o,.int n]),be (.str p.text),be (.int w),be (.int h),be (.int X),be (.int Y),be (.int o),be (.int n),be (.obj "Pattern" fs),be (.obj "Pattern" i8),z7,z7,z7,z7,z7,z7,z7];refine⟨p,_,_,_,w,h,X,Y,o,n,rfl,ip,iq,N,l0,tO (by lia) ho.2,?_⟩;refine⟨⟨by decide,by decide⟩,by rw[bI];decide,λj ys=>∃ ss:List Int,ys=ss.map D.int/\ss.length=j/\∀ v∈ss,aC v,⟨[],rfl,rfl,λv hv=>nomatch hv⟩,?_,?_⟩
  .rintro j v ys hj hl ⟨ss,rfl,sl,sb⟩;k_places;obtain⟨JZ,rfl⟩:=range_int hj;refine⟨ns,_,rfl,by lia,_,rfl,λv a b=>⟨ss++[v],by rw[Fx];rfl,by simp[sl],λv' hv=>?_⟩⟩;rcases Fk.mp hv with q|q
   .exact sb v' q
   .rw[EL.mp q];exact⟨a,b⟩
  rintro ys hl ⟨ss,rfl,sl,sb⟩;k_places;rw[bI] at sl;obtain⟨l,t,r,b,rfl⟩:∃ a b c d,ss=[a,b,c,d]:=by
   rcases ss with _|⟨a,_|⟨b,_|⟨c,_|⟨d,_|⟨e,r⟩⟩⟩⟩⟩
   .cases sl
   .cases sl
   .cases sl
   .cases sl
   .exact⟨a,b,c,d,rfl⟩
   .simp at sl
  have nl:=sb l (by simp);have nt:=sb t (by simp);have nr:=sb r (by simp);have nb:=sb b (by simp);clear sb sl hl;refine⟨rfl,?_⟩;show dSeq _ _ _ [be (.rol (ns.map D.int)),be (.lst [.str p.text,.int w,.int h,.int X,.int Y,.int o,.int n]),be (.str p.text),be (.int w),be (.int h),be (.int X),be (.int Y),be (.int o),be (.int n),be (.obj "Pattern" fs),be (.obj "Pattern" i8),be (.int l),be (.int t),be (.int r),be (.int b),z7,z7,z7];have m1:=tU (l:=l) (r:=r) w0 N.x0 N.xw;have m2:=tU (l:=t) (r:=b) h0 N.y0 N.yh;have lone:=N.lone l t (r - l+1).toNat (b - t+1).toNat;rw[m1,m2] at lone;have rest:=N.due l t (r - l+1).toNat (b - t+1).toNat;have KN:(0:Int)<=fo l r X w/\fo l r X w<=(r - l+1).toNat:=by
   rw[<- m1];exact⟨tT _,(kL (λi=>(l+((i:Nat):Int)) % w) X _).2⟩
  refine⟨λx=>x= .int (bt p n l t (r - l+1).toNat (b - t+1).toNat),⟨l,r,X,w,rfl,w0,by lia,t,b,Y,h,rfl,h0,by lia,.inl ?_,by rw[lone]⟩,?_⟩
  .unfold aC at*;exact⟨by lia,by lia⟩
  rintro _ rfl;k_places;have ix:∀ v:Int,0<=v->v<=6->ixN 7 v=be v.toNat:=λv a b=>by
   unfold ixN;rw[if_pos a,if_pos (by lia)]
  refine⟨by show(7:Nat)<=1000;decide,n.toNat,ix n hn.1 hn.2,?_⟩;refine⟨.inl ?_,o.toNat,?_,?_⟩
  .unfold aC at*;exact⟨by split<;>lia,by split<;>lia⟩
  .rw[FR];exact ix o (by lia) ho.2
  have e1:(if r - l+1>0 then r - l+1 else 0)=((r - l+1).toNat:Int):=by split<;>lia
  have e2:(if b - t+1>0 then b - t+1 else 0)=((b - t+1).toNat:Int):=by split<;>lia
  rw[e1,e2,rest];refine⟨p,_,l,t,r,b,rfl,ip,N.ok,λ_=>?_,λz=>z ⟨nl,nt,nr,nb⟩⟩;refine⟨bQ p l t (r - l+1).toNat (b - t+1).toNat,rfl,by unfold bQ;rw[EY,Gv],?_⟩;refine⟨λx=>x= .int (bt p n l t (r - l+1).toNat (b - t+1).toNat),⟨p,_,n,l,t,r,b,rfl,ip,N.ok,hn.1,hn.2,λ_=>rfl,λz=>z ⟨nl,nt,nr,nb⟩⟩,?_⟩;rintro _ rfl;k_places;refine⟨_,rfl,?_⟩;show R (.bl (decide (_=_)));rw[decide_eq_true rfl];exact hR
end
local macro_rules | `(tactic| walk_at "b1") => `(tactic| exact zM λ_ _ _ _ _ _ _ => rfl)
local macro_rules | `(tactic| walk_at "b2") => `(tactic| exact bind2 λ_ _ _ _ _ _ _ _ => rfl)
local macro_rules | `(tactic| walk_at "b3") => `(tactic| exact bind3 λ_ _ _ _ _ _ _ _ _ => rfl)
local macro_rules | `(tactic| walk_at "b4") => `(tactic| exact bind4 λ_ _ _ _ _ _ _ _ _ _ => rfl)
local macro_rules | `(tactic| walk_at "b5") => `(tactic| exact bind5 λ_ _ _ _ _ _ _ _ _ _ _ => rfl)
local macro_rules | `(tactic| walk_at "b6") => `(tactic| exact bind6 λ_ _ _ _ _ _ _ _ _ _ _ _ => rfl)
structure TopIn(K:Ex):Prop where
 uFF:FnIn K "_law_at" kN
 uFO:FnIn K "_law_draws" kP
 uGJ:FnIn K "_law_lcm" kR
 uEQ:FnIn K "_law_needle" hU
 uHO:FnIn K "line_from" lh
 uHQ:FnIn K "lines_from" ln
 uFL:FnIn K "number_from" lr
 uHH:FnIn K "shift_from" lv
 uHU:FnIn K "levelled" ly
 uDZ:FnIn K "spread" lC
 uIA:FnIn K "home" lF
 uEP:FnIn K "hues_by_home" lH
 uGA:FnIn K "motif_from" lM
 uGD:FnIn K "over_from" hV
 uEO:FnIn K "shifted_from" hZ
 uFH:FnIn K "rehue_from" ia
 uGV:FnIn K "form_from" ib
 uFW:FnIn K "measure" mo
 uFC:FnIn K "met" mv
 uDT:FnIn K "mirrored" mx
 uDV:FnIn K "turned" mz
 uDW:FnIn K "read" mC
 uHD:FnIn K "_law_whole" mF
 uFQ:FnIn K "_law_numbers" mH
 uEW:FnIn K "refuse_far" mJ
 uEX:FnIn K "cell_at" mL
 uHJ:FnIn K "row_from" iI
 uFN:FnIn K "field_rows" iJ
 uHL:FnIn K "measures" iK
 uFS:FnIn K "round_row" mR
 uHN:FnIn K "changes_nothing" mV
 uGL:FnIn K "least_width" iL
 uEF:FnIn K "slant_at" mZ
 uHW:FnIn K "least_shifts" iM
 uED:FnIn K "least_form" iN
 uHM:FnIn K "one_pattern" nu
 uGC:FnIn K "common_field" nw
 uHR:FnIn K "first_unlike" nz
 uGU:FnIn K "first_parting" nB
 uFA:FnIn K "_law_told_so" nD
 uFV:FnIn K "_law_coordinate" nF
 uFE:FnIn K "_law_many" nH
 uGQ:FnIn K "_law_seven" nJ
 uFG:FnIn K "count_sign" nL
 uFM:FnIn K "count_all" iO
 uEL:FnIn K "count_hue" nO
 uEZ:FnIn K "law" fT
 uGH:NnIn K "len"
 uET:NnIn K "range"
 uFB:NnIn K "str"
 uHP:NnIn K "list"
 uEC:NnIn K "int"
 uFR:NnIn K "abs"
 uEH:NnIn K "enumerate"
 uFT:NnIn K "isinstance"
 uDU:NnIn K "bool"
 uGT:NnIn K "tuple"
 uHC:NnIn K "max"
 uHS:NnIn K "min"
 uCA:ClIn K "Reading"
 uBP:ClIn K "Motif"
 uCN:ClIn K "Mirror"
 uCW:ClIn K "Turn"
 uCB:ClIn K "Over"
 uBJ:ClIn K "Shifted"
 uBU:ClIn K "Rehue"
 uDB:ClIn K "Pattern"
 uEY:InIn K "Motif" "Motif.__init__" lK
 uGW:InIn K "Mirror" "Mirror.__init__" lP
 uFP:InIn K "Turn" "Turn.__init__" lR
 uFD:InIn K "Over" "Over.__init__" lV
 uHF:InIn K "Shifted" "Shifted.__init__" lY
 uFI:InIn K "Rehue" "Rehue.__init__" ma
 uHX:InIn K "Reading" "Reading.__init__" mf
 uFJ:InIn K "Pattern" "Pattern.__init__" mi
 uGY:MtIn K "Reading" "may_take" "Reading.may_take" kX
 uES:MtIn K "Reading" "take" "Reading.take" kZ
 uFY:MtIn K "Motif" "family" "Motif.family" ic
 uEI:MtIn K "Over" "family" "Over.family" ie
 uEN:MtIn K "Shifted" "family" "Shifted.family" ii
 uGI:MtIn K "Mirror" "family" "Mirror.family" ik
 uEU:MtIn K "Turn" "family" "Turn.family" im
 uHB:MtIn K "Rehue" "family" "Rehue.family" ir
 uGS:MtIn K "Motif" "shows" "Motif.shows" iw
 uDY:MtIn K "Over" "shows" "Over.shows" iy
 uGM:MtIn K "Shifted" "shows" "Shifted.shows" iA
 uGO:MtIn K "Mirror" "shows" "Mirror.shows" iC
 uHE:MtIn K "Turn" "shows" "Turn.shows" iE
 uHG:MtIn K "Rehue" "shows" "Rehue.shows" iG
 uHK:NoIn K "Reading" "text"
 uGF:NoIn K "Reading" "place"
 uGX:NoIn K "Motif" "place"
 uHZ:NoIn K "Motif" "shifts"
 uEV:NoIn K "Motif" "hues"
 uEB:NoIn K "Mirror" "form"
 uGE:NoIn K "Turn" "form"
 uGB:NoIn K "Over" "above"
 uHV:NoIn K "Over" "below"
 uEK:NoIn K "Shifted" "form"
 uFZ:NoIn K "Shifted" "x"
 uFU:NoIn K "Shifted" "y"
 uGP:NoIn K "Rehue" "form"
 uGR:NoIn K "Rehue" "old"
 uHY:NoIn K "Rehue" "new"
 uGN:NoIn K "Pattern" "text"
 uER:NoIn K "Pattern" "shifts"
 uEE:NoIn K "Pattern" "form"
 uEG:CsIn K "SIGNS" ".123456"
 uHT:CiIn K "LONGEST" 8
 uFX:CiIn K "DEEP" 5
 uEM:CiIn K "MOST" 720
 uGG:CiIn K "FAR" 1000000000000
 eb:EbIn K
 uAB:E1In K "WrongSign" "WrongSign.__init__" kU
 uBF:EaIn K "WrongSign"
 uFK:NoIn K "WrongSign" "place"
 uAI:E1In K "OneLine" "OneLine.__init__" mm
 uBA:EaIn K "OneLine"
 uHA:NoIn K "OneLine" "place"
 uGK:E0In K "TooGreat"
 uDX:E0In K "TooFar"
 uGZ:EiIn K "MotifError"
def EE{V:Bx}{h:Heap}(t:TopIn V.K)(X:V.K.In h)(G:h.Ns Pi V.mg){fa:KF}{fd:Qz}(F:Fun V.K "law" "law" fT fa fd):FnOk V.P V.w V.K V.mg V.base (Exc.CX1 V.P V.w) 20 fa fd nQ (lSp V.K eI):=by
 have uB:=mg_none_of X G t.uGH;have uA:=mg_none_of X G t.uET;have uK:=mg_none_of X G t.uFB;have JY:=mg_none_of X G t.uHP;have uU:=mg_none_of X G t.uEC;have JJ:=mg_none_of X G t.uFR;have uW:=mg_none_of X G t.uEH;have uL:=mg_none_of X G t.uFT;have M9:=mg_none_of X G t.uDU;have uX:=mg_none_of X G t.uGT;have uO:=mg_none_of X G t.uHC;have IP:=mg_none_of X G t.uHS;have Ja:=t.uCA.a t.uHK;have uE:=t.uCA.a t.uGF;have Jb:=t.uBP.a t.uGX;have uI:=t.uBP.a t.uHZ;have Jc:=t.uBP.a t.uEV;have uP:=t.uCN.a t.uEB;have uR:=t.uCW.a t.uGE;have uN:=t.uCB.a t.uGB;have uS:=t.uCB.a t.uHV;have uT:=t.uBJ.a t.uEK;have Jd:=t.uBJ.a t.uFZ;have Je:=t.uBJ.a t.uFU;have uQ:=t.uBU.a t.uGP;have Jf:=t.uBU.a t.uGR;have Jg:=t.uBU.a t.uHY;have M0:=t.uDB.a t.uGN;have uJ:=t.uDB.a t.uER;have J3:=t.uDB.a t.uEE;have uM:=t.uEG.g X G;have Lr:=t.uHT.g X G;have K0:=t.uFX.g X G;have J4:=t.uEM.g X G;have M_:=t.uGG.g X G;have uBF:=t.uAB.a t.eb t.uBF X G;have MH:=t.uFK.all;have uBA:=t.uAI.a t.eb t.uBA X G;have M4:=t.uHA.all;have J5:=t.uGK.k t.eb X G;have Na:=t.uDX.k t.eb X G;have J0:=t.uGZ.b X G;have I_:iQ V:=Da (t.uFF.tx X G (by walk_at "b2")) uB;have MF:nX V:=Db (t.uFO.tx X G (by walk_at "b3")) uA I_;have JF:nY V:=Dd (t.uGJ.tx X G (by walk_at "b2"));have Nj:nZ V:=Df (t.uEQ.tx X G (by walk_at "b2")) uA uK JY MF JF;have uAB:iR V:=Dg (t.uAB.txe t.eb X G (by walk_at "b2")) J0 uBF MH;have uG:dA V:=Dh (t.uGY.txm t.uCA (by walk_at "b2")) uB Ja uE;have uC:cM V:=Di (t.uES.txm t.uCA (by walk_at "b2")) uE uG uAB;have Lq:oa V:=Dj (t.uHO.tx X G (by walk_at "b3")) uA uM uC uG;have MN:oe V:=Dk (t.uHQ.tx X G (by walk_at "b1")) uB Lq Lr uG;have Ls:og V:=Dl (t.uFL.tx X G (by walk_at "b1")) uU uG uC;have IM:fW V:=Dm (t.uHH.tx X G (by walk_at "b1")) Ls uC;have J1:iS V:=Dn (t.uHU.tx X G (by walk_at "b2"));have J2:iT V:=Do (t.uDZ.tx X G (by walk_at "b2")) JJ J1;have uV:fq V:=Dp (t.uIA.tx X G (by walk_at "b3"));have ML:oh V:=Dq (t.uEP.tx X G (by walk_at "b2")) uW uV uM;have MP:oi V:=Dr (t.uEY.txi X G (by walk_at "b5")) J2 ML Jb uI Jc;have KZ:iU V:=Ds (t.uGA.tx X G (by walk_at "b1")) MN IM uE MP uC;have K1:iV V:=Dt (t.uGW.txi X G (by walk_at "b2")) uP;have K2:iW V:=Du (t.uFP.txi X G (by walk_at "b2")) uR;have KU:iX V:=Dv (t.uFD.txi X G (by walk_at "b3")) uN uS;have KW:iY V:=Dw (t.uHF.txi X G (by walk_at "b4")) uT Jd Je;have KY:iZ V:=Dx (t.uFI.txi X G (by walk_at "b4")) uQ Jf Jg;have uH:tV V:=DD (t.uGD.tx X G (by walk_at "b2")) (t.uEO.tx X G (by walk_at "b2")) (t.uFH.tx X G (by walk_at "b2")) (t.uGV.tx X G (by walk_at "b2")) KU uC IM KW uU KY KZ K0 K1 K2 uG 6;have M6:oj V:=DF (t.uHX.txi X G (by walk_at "b2")) Ja uE;have M7:ol V:=DG (t.uFJ.txi X G (by walk_at "b4")) M0 uJ J3;have uAI:ja V:=DJ (t.uAI.txe t.eb X G (by walk_at "b2")) J0 uBA M4;have K4:om V:=DK (t.uFW.tx X G (by walk_at "b2")) J1;have Jh:fX V:=DL (t.uFC.tx X G (by walk_at "b2")) K4;have K6:jb V:=DM (t.uDT.tx X G (by walk_at "b1"));have K7:jc V:=DN (t.uDV.tx X G (by walk_at "b1")) J2;have uD:tW V:=DV (t.uFY.txm t.uBP (by walk_at "b1")) (t.uEI.txm t.uCB (by walk_at "b1")) (t.uEN.txm t.uBJ (by walk_at "b1")) (t.uGI.txm t.uCN (by walk_at "b1")) (t.uEU.txm t.uCW (by walk_at "b1")) (t.uHB.txm t.uBU (by walk_at "b1")) uI Jb uAI Jh uN uS uT K6 uP K7 uR uQ 6;have Lv:on V:=DY (t.uDW.tx X G (by walk_at "b1")) uB uH J4 uE M6 M7 uD uAB J5;have uZ:fY V:=DZ (t.uHD.tx X G (by walk_at "b1")) uL M9 uU;have JS:oq V:=D0 (t.uFQ.tx X G (by walk_at "b2")) uB uL uX uA uZ;have JN:jd V:=D1 (t.uEW.tx X G (by walk_at "b2")) uO JJ M_ Na;have uF:tX V:=D7 (t.uGS.txm t.uBP (by walk_at "b3")) (t.uDY.txm t.uCB (by walk_at "b3")) (t.uGM.txm t.uBJ (by walk_at "b3")) (t.uGO.txm t.uCN (by walk_at "b3")) (t.uHE.txm t.uCW (by walk_at "b3")) (t.uHG.txm t.uBU (by walk_at "b3")) uV Jc uI uN uS uT Je Jd uP uR uQ Jf Jg 6;have JO:je V:=D8 (t.uEX.tx X G (by walk_at "b3")) JN J3 uF;have J6:jg V:=D9 (t.uHJ.tx X G (by walk_at "b4")) uA JO uM;have J':ji V:=Ea (t.uFN.tx X G (by walk_at "b1")) uA J6 uJ;have J8:C_measures V:=Eb (t.uHL.tx X G (by walk_at "b1")) uA;have J7:jj V:=Ec (t.uFS.tx X G (by walk_at "b4")) uV;have J9:jl V:=Ed (t.uHN.tx X G (by walk_at "b4")) uW J7;have Nc:ot V:=Ee (t.uGL.tx X G (by walk_at "b2")) IP J8 J9;have Lu:ou V:=Ef (t.uEF.tx X G (by walk_at "b4")) uA J9;have uY:fZ V:=Eg (t.uHW.tx X G (by walk_at "b1")) IP J' Nc J8 Lu uJ;have JP:jm V:=Eh (t.uED.tx X G (by walk_at "b1")) uA uX uY J6;have Ng:ow V:=Ej (t.uHM.tx X G (by walk_at "b2")) JP;have J_:jn V:=El (t.uGC.tx X G (by walk_at "b2")) Jh uY J4 J5;have Nf:oy V:=En (t.uHR.tx X G (by walk_at "b4")) uA JO;have Nh:oz V:=Ep (t.uGU.tx X G (by walk_at "b2")) J_ Nf;have Nk:oA V:=Es (t.uFA.tx X G (by walk_at "b3")) uB uL uX uK uA JS uY JP Ng J_ Nh uJ;have Nl:oB V:=Et (t.uFV.tx X G (by walk_at "b1"));have Lw:oC V:=Ev (t.uFE.tx X G (by walk_at "b4")) uO;have Nm:oE V:=Ey (t.uGQ.tx X G (by walk_at "b2")) uB uL JY uA uZ;have Ni:oF V:=Ez (t.uFG.tx X G (by walk_at "b3")) uB;have Ka:jp V:=EA (t.uFM.tx X G (by walk_at "b5")) uO uA IP uW JN J' J7 Ni uM uJ;have Nn:oG V:=EB (t.uEL.tx X G (by walk_at "b6")) uB Ka;exact EC F uK uA uO Nj Lv Nk Nl I_ Lw Nm Ka Nn uZ
def all_mk{l:G2}{w:Qt}{K:Ex}{h:Heap}{mg:IT->Option KB}{fa:KF}(X:K.In h)(G:h.Ns Pi mg)(KC:mg "law"=be (.ref fa))(t:TopIn K):
  ∃ fd:Qz,(∀ (s:KM) (v:KB),Ro s fd ⟨[v],[]⟩ [("_law_script",v)])/\∀ base:Heap,K.In base->base.Ns Pi mg->FnOk l.prog w K mg base (Exc.CX1 l.prog w) 20 fa fd ["_law_script"] (lSp K eI):=by
 obtain⟨fd,b,F⟩:=t.uEZ.law X G KC (λ_ _ _ _ _ _ _=>rfl);exact⟨fd,b,λbase _ _=>EE (V:=⟨l.prog,w,K,mg,base⟩) t X G F⟩
def law_walk{l:G2}{q:P3}{j9:List IT}{XP:(IT->Option KB)->Heap->Prop}{YP:Qt->Heap->Prop}{d:DefRec}{K:Params->Ex}(hn:l.most=be 63)(Kh:d.params.defaults=[])
  (hY:∀ (w:Qt) (h:Heap),YP w h->(K w.params).In h)
  (F:∀ (w:Qt) (mg:IT->Option KB) (fa:KF) (h:Heap),(K w.params).In h->h.Ns Pi mg->mg d.name=be (.ref fa)->
   ∃ fd:Qz,(∀ (s:KM) (u:KB),Ro s fd ⟨[u],[]⟩ [("_law_script",u)])/\∀ base:Heap,(K w.params).In base->base.Ns Pi mg->FnOk l.prog w (K w.params) mg base (Exc.CX1 l.prog w) 20 fa fd ["_law_script"] (lSp (K w.params) eI)):
  HB q j9 XP YP l.row.toRowW d [] (λf vs=>PySem.call f vs):=
 L2.walk_of (n:=63) (k:=20) (x:="_law_script") (CX:=λw=>Exc.CX1 l.prog w) (sp:=λw=>lSp (K w.params) eI) hn (by decide) Kh ⟨rfl,by decide,by decide⟩ hY F (λ_ _ a ns hl _ hS=>xQ hl hS) λ_ _ _ _ _ h=>by obtain⟨_,_,_,_,_,_,_,_,_,_,_,_,_,_,_,z⟩:=h;exact z
end My
open PySem PySem.W PyProof.Rows
set_option maxRecDepth 100000 in
set_option maxHeartbeats 0 in
theorem PySem.Challenge.cw_motiffield_k27_lone_spot_holds : PySem.Challenge.rw_motiffield_k27_lone_spot.Holds := by
  w_on; o_law; k_head; (case hw => w_witness2)
  k_fill
  refine My.law_walk (l := PySem.Challenge.rw_motiffield_k27_lone_spot) rfl rfl (λw h Y => kIn_of Y) ?F
  case F =>
    intro w mg fa h KX G m6;refine My.all_mk KX G m6 ?_;constructor
    all_goals first | ((with_reducible refine' My.fnIn_mk ?a ?l ?c ?k); (case a => k_is); (case l => k_is); (case c => k_is); (case k => k_is)) | ((with_reducible refine' My.nnIn_mk ?a); (case a => k_is)) | ((with_reducible refine' My.noIn_mk ?a ?b); (case a => k_is); (case b => k_is)) | ((with_reducible refine' My.mtIn_mk ?a ?b ?i ?l ?c ?k); (case a => k_is); (case b => k_is); (case i => k_is); (case l => k_is); (case c => k_is); (case k => k_is)) | ((with_reducible refine' My.inIn_mk ?a ?mk ?b ?i ?kp ?l ?c ?k); (case a => k_is); (case mk => k_is); (case b => k_is); (case i => k_is); (case kp => k_is); (case l => k_is); (case c => k_is); (case k => k_is)) | ((with_reducible refine' My.clIn_mk ?a ?pg ?hd ?po ?sa ?ha ?hn ?ht ?hm); (case a => k_is); (case pg => k_is); (case hd => k_is); (case po => k_is); (case sa => k_is); (case ha => k_is); (case hn => k_is); (case ht => k_is); (case hm => k_is)) | ((with_reducible refine' My.ciIn_mk ?a); (case a => k_is)) | ((with_reducible refine' My.csIn_mk ?a); (case a => k_is)) | ((with_reducible refine' My.ebIn_mk ?a ?kp ?o ?nk ?al ?ni); (case a => k_is); (case kp => k_is); (case o => k_is); (case nk => k_is); (case al => rfl); (case ni => k_is)) | ((with_reducible refine' My.e0In_mk ?b ?a ?kp ?o ?nk ?al ?ni); (case b => k_is); (case a => k_is); (case kp => k_is); (case o => k_is); (case nk => k_is); (case al => rfl); (case ni => k_is)) | ((with_reducible refine' My.e1In_mk ?b ?a ?kp ?o ?j ?i ?l ?c ?k); (case b => k_is); (case a => k_is); (case kp => k_is); (case o => k_is); (case j => k_is); (case i => k_is); (case l => k_is); (case c => k_is); (case k => k_is)) | ((with_reducible refine' My.eaIn_mk ?a ?b); (case a => k_is); (case b => k_is)) | ((with_reducible refine' My.eiIn_mk ?a ?b ?c ?d); (case a => k_is); (case b => k_is); (case c => k_is); (case d => k_is))
end
