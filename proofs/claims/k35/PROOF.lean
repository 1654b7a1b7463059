import PyProof.Rows.All
import Wide.All
import OpenK.AllK
import Wide.FinOn
import Lean
import PyProof.EqAt
import PyProof.EqKinds
import PyProof.TupleCall
import PySem.Challenge.RW_motiffield_k35_floors_apart
set_option compiler.extract_closed false
set_option Elab.async false
set_option linter.all false
set_option maxRecDepth 100000
set_option maxHeartbeats 4000000
local macro_rules|`(command|def $x:declId $s:optDeclSig $v:declVal)=>`(command|noncomputable def $x:declId $s:optDeclSig $v:declVal)
local macro_rules|`(command|abbrev $x:declId $s:optDeclSig $v:declVal)=>`(command|noncomputable abbrev $x:declId $s:optDeclSig $v:declVal)
local macro_rules|`(#[$x,*])=>`(⟨$x,*⟩)
theorem JZ{p:Prop}(h:p:=by lia):p:=h
theorem J3{p:Prop}(h:p:=by decide+kernel):p:=h
theorem J7{p:Prop}(h:p:=by decide):p:=h
theorem J8{p:Prop}(h:p:=by simp):p:=h
theorem KK{p:Prop}(h:p:=by omega):p:=h
theorem K0{p:Prop}(h:p:=by k_memK):p:=h
theorem K'{p:Prop}(h:p:=by grind):p:=h
theorem La{p:Prop}(h:p:=by cases d<;>first|exact#[_,rfl,h]|exact False.elim h):p:=h
theorem Lg{p:Prop}(h:p:=by show(1:Nat)<=1000;decide):p:=h
theorem L6{p:Prop}(h:p:=by walk_at "b2"):p:=h
theorem MY{p:Prop}(h:p:=by walk_at "b1"):p:=h
theorem OP{p:Prop}(h:p:=by show(2:Nat)<=1000;decide):p:=h
theorem OZ{p:Prop}(h:p:=by cases q:cd.mro with|nil=>rw[q]at hm;simp[aK]at hm|cons _ _=>rfl):p:=h
theorem O6{p:Prop}(h:p:=by walk_at "b3"):p:=h
theorem Rq{p:Prop}(h:p:=by show(1:Nat)<1000;decide):p:=h
theorem Rr{p:Prop}(h:p:=by rw[<-hY];rfl):p:=h
theorem Sc{p:Prop}(h:p:=by simp;lia):p:=h
theorem Tk{p:Prop}(h:p:=by unfold mroIn;rw[hc,Ha,if_neg (by rw[ne];decide),dR J3 hm]):p:=h
open PySem renaming Str->Jj
open Option renaming some->be,none->B_
open PySem renaming Value->KB,Addr->KF,Shared->KM,wpAny_bind->Os,mainGlobals->Pi,Expr->P3,Program->RP,wpAny_pure->RQ,model->RR,Stmt->RS,wpAny->RT,World->RU,Around->RV,starEach->RW,assignEach->RY,attributeBase->RZ,eval->R1,FuncData->R3,Pos->R4,wpAny_Call_Name_kw->R5,wpAny_mono->R7,compareOp->R8,bootBuiltins->R9,Obj->R_,wpAny_newObj_type->Sa,wpAny_loadPart_at->Sb,swapsWith->Sd,PassesOwn->Se,excClassObj->Sf,wpAny_holding->Sg,behindInMarks->Sh,holding->Si,binaryOp->Sj,wpAny_passesOwn->Sk,sysModules->Sl,Scope->Sm,ExceptHandler->Sn,assign->So,wpAny_getItem_str_slice->Sq,keywordEach->Sr,codeAny_mono->Ss,backTo->Su,plainObj_wpAny_Assign_Attribute->Sv,wpAny_call->Sw,wpAny_standAt->Sx,swapsWithSole->Sy,swappedStores->Sz,standAt->SA,wpAny_field->SB,sliceBounds->SE,codeAny_call_builtin->SG,bindArgs->SH,NameKind->SI,wpAny_execs_nil->SJ,wpAny_isSubtype_exc->SK,Env->SL,wpAny_truthy_bool->SM,wpAny_pyIter_enum->SN,sizeLine_eq->SO,tupleKind->SR,noteFrame->SS,backToKw->SU,rawInt->SV,BindsTo->SW,post_val_or_str->SX,letOwnedTupleGo->SY,cLine->SZ,wpAny_setField->S1,getMethod->S2,codeAny->S3,Keyword->S4,isInstance->S5,wpAny_assign_Name->S6,callerA->S7,wpAny_lookBehind->S8,setFlight->S9,pastItsLine_dict->S',IsPart->S_,ClassData->Ta,atKey->Tb,valueAt->Tc,setItem->Tf,getItem->Tg,wpAny_loadPart->Th,wpAny_letOwnedTupleGo_enum->Tj,handleBy->Tn,dictSetDefault->To,Operator->Tp,wpAny_comprehension_free->Tq,bindL->Tr,bindC->Ts,wpAny_nsSet1->Tt,seqIndex_neg->Tv,release->Tw,leaving->Tz,getAttr->TB,codeAny_compStart_list->TC,call_meetsIn->TF,Sem->TJ,codeAny_handlers_test->TL,wpAny_of_eq->TM,wpAny_newFunctionEnv->TN,seqIndex_of->TQ,callWith->TR,Model->TU,GenState->TV,CmpOp->TX,wpAny_handleBy_cons->TY,wpAny_call_exc_subT->TZ,wpAny_entryPlaceOf->T1,wpAny_Name->T3,typeIs_str->T4,tupleKind_room_in1->T5,call_meets->T6,builtinsNs->T7,wpAny_frameOf_fun->T8,setAttr->T9,relabel->T_,foldedSetIterable->Ua,Tok->Ub
open PyProof.Rows renaming envOfC->R6,AllBare->SQ,subscriptTail_builtinR->Tu,IntsAre->TK
open PySem.W renaming Frag->Ex,findIn->FS,mroIn->Gx,specialIn->GL,takesIn->Ho,OpenLaw->HM,clsIn->HR,handedIn->Ik,WalkO->Iq
open List renaming mem_singleton->FP,range->FQ,mem_cons->FT,length_cons->FV,mem_cons_of_mem->FW,size_toArray->FX,mem_cons_self->FZ,length_map->F4,getElem?_set_ne->F5,getElem?_map->F6,getElem?_eq_some_iff->F7,length_append->F9,lookup_cons->Ga,getElem?_eq_getElem->Gb,map_append->Gc,mem_append_right->Ge,map_cons->Gi,append_nil->Gk,mem_map->Gm,append_assoc->Gn,mem_append->Go,nodup_cons->Gp,getElem?_range->Gr,getElem?_set_self->Gs,replicate->Gu,getD->Gv,getElem?_append_left->Gy,all_eq_true->Gz,getElem_mem->GA,getElem?_eq_none->GB,map_congr_left->GC,length_set->GH,getElem?_set->GI,lookup->GK,getElem?_append_right->GN,length_drop->GO,ext_getElem?->GP,length_range->GQ,mem_of_getElem?->GS,all_cons->GT,find?_cons->GU,range_succ->GV,drop->GW,take_of_length_le->GX,nodup_append->GY,eq_nil_of_length_eq_zero->GZ,not_mem_nil->G3,drop_eq_getElem_cons->G4,mem_append_left->G8,length_singleton->G9,map_map->Hf,Perm->Hi,filterMap_cons->Hk,length->Hq,length_take->Hr,any_cons->Hs,map_nil->Ht,map->Hw,perm_append_comm->HH,append_cons->HI,of_mem_zip->HJ,getElem?_replicate->HK,getElem?_take_of_lt->HL,contains_cons->HN,forIn_cons->HP,drop_zero->H9,drop_of_length_le->Ia,drop_eq_nil_of_le->Ic,mem_filter->Ih,mem_range->Ii,mem_filterMap->Ij,filterMap_map->Im,nodup_nil->Iv,dropLast_cons₂->Iz,sublist_cons_self->IA,cons_append->IK,getElem?_drop->IV,map_take->Jd,take_range->Je,map_singleton->Jf,nil_append->Jg,drop_length->Jh
open Nat renaming le_refl->FR,ne_of_lt->FU,le_trans->FY,lt_of_lt_of_le->Gd,zero_le->Gh,ne_of_gt->GF,lt_irrefl->GJ,le_succ->GM,min_eq_left->G6,mul_le_mul->Hc,le_of_lt->Hj,le_of_eq->Hn,le_of_not_lt->Hu,lt_or_ge->Hy,pow_pos->HB,pow_succ->HC,not_lt_zero->HE,min_eq_right->HG,lt_succ_of_lt->HQ,add_comm->HW,pow_le_pow_right->HY,lt_succ_self->Il,lt_of_le_of_lt->Ir,lt_trans->Iu,log2_lt->Iw,add_sub_add_right->Ix,succ_ne_self->IB,add_le_add->IM,mod_eq_of_lt->IW,zero_add->Ja,mul_succ->Jb,sub_zero->Jc
open Bool renaming false_ne_true->F8,and_eq_true->Gj,eq_false_iff->G7,eq_iff_iff->Hm,or_true->Hv
open Int renaming mul_pos->Gf,toNat_of_nonneg->Gg,mul_le_mul_of_nonneg_right->Gq,le_trans->Gw,mul_comm->GD,mul_ediv_cancel->GE,toNat_natCast->GR,emod_nonneg->G0,emod_lt_of_pos->G1,eq_of_mul_eq_mul_right->G2,zero_add->G5,emod_def->Hb,mul_nonpos_of_nonpos_of_nonneg->Hd,natCast_add->Hg,add_zero->Hh,natAbs_mul->Hz,mul_neg->HA,emod_add_mul_ediv->HF,fmod_eq_zero_of_dvd->HU,eq_of_mul_eq_mul_left->HV,mul_eq_zero->HX,sub_mul->HZ,add_mul->H8,add_assoc->Ib,ediv_nonneg->Ie,ediv_le_self->Ig,mul_nonneg->IC,fmod_nonneg_of_pos->ID,fmod_lt_of_pos->IE,natCast_mul->IF,neg_mul->IG,le_natAbs->IH,ofNat_le->II,natAbs_neg->IJ,natAbs_add_le->IL,mul_fdiv_cancel_of_fmod_eq_zero->IN,dvd_mul_of_dvd_right->IP,add_mul_emod_self_right->IR,add_mul_ediv_right->IS,dvd_add_left->IT,dvd_mul_right->IU,natCast_emod->IY,ediv_eq_zero_of_lt->IZ
open Option renaming bind_some->Ha,getD_none->Io
open Array renaming length_toList->Hl,getElem?_eq_some_iff->Hx,all_toList->HS,getElem?_toList->Ip,getElem?_eq_getElem->Iy,toList_inj->IQ
open PySem.W (InitBack any_some callWith_K callWith_K0 cellsFrom_some cls_value codeIn codeRec_of emptyDict eq_bytes findCls findObj_own fnOf get_value hasDictIn hideAll hideAll_get hideAll_none hideAll_size instObj isFn isNs_of_in kIn_of keepIn ki_setAt ki_setBack kia_one kitOne kitx_bool kitx_dict kitx_float kitx_int kitx_list kitx_none kitx_own kitx_str kitx_tuple kun_itemsOf len_bytes lookIn make_core makesIn makes_of methodCall_KW methodObj method_cls method_fn mg_none_of mg_of ne_bytes nsIn nsMap_none_of_in nsOkIn of_hideAll osa_open plainGet plainGet_of plainOver readsIn tailIn tail_of_in takerIn truthy_bytes)
def qZ0(_:0=0:=by rfl):=0
nonrec def zA0:=qZ0._auto_1
def qZ1(_:0=0:=by decide):=0
nonrec def zA1:=qZ1._auto_1
def qZ2(_:0=0:=by exact λ_=>rfl):=0
nonrec def zA2:=qZ2._auto_1
def qZ3(_:0=0:=by first|exact .inl rfl|exact .inr rfl|assumption):=0
nonrec def zA3:=qZ3._auto_1
def qZ4(_:0=0:=by first|exact Or.inl rfl|exact Or.inr rfl):=0
nonrec def zA4:=qZ4._auto_1
def qZ5(_:0=0:=by first|exact Or.inl rfl|exact Or.inr (Or.inl rfl)|exact Or.inr (Or.inr rfl)):=0
nonrec def zA5:=qZ5._auto_1
def qZ6(_:0=0:=by exact λ_ _=>rfl):=0
nonrec def zA6:=qZ6._auto_1
def qZ7(_:0=0:=by intros;rfl):=0
nonrec def zA7:=qZ7._auto_1
namespace PySem.W.Fast
def tw2639705277436609752:=Nat
def tw9315762506384650790:=Nat
def tw12438441659737744693:=Nat
def tw5804424028537057413:=Nat
def tw8920436231899133478:=Nat
def tw3516629502824075996:=Nat
def tw5316608161835118380:=Nat
def tw168910937644929498:=Nat
def tw15207762517994752010:=Nat
def tw7510345135123301236:=Nat
def tw2906962476465525959:=Nat
def tw1864417645723615926:=Nat
def tw5385154261203400811:=Nat
def tw14357274540514338265:=Nat
def tw7739260940773357450:=Nat
def tw10169959905942050413:=Nat
def tw10080811352273231354:=Nat
def tw5008936038157943039:=Nat
def tw6238659984485593285:=Nat
def tw6500814316783118844:=Nat
def tw17457211853355385092:=Nat
def tw15910099593298078061:=Nat
def tw2353840115487473644:=Nat
def tw8560516097779429450:=Nat
def tw2840869916614996368:=Nat
def tw10859679451014680343:=Nat
def tw8756596908521308045:=Nat
def tw12723022921716530491:=Nat
def tw9204612899021414602:=Nat
def tw8136024598954490276:=Nat
def tw17143538461829244486:=Nat
def tw16837057074039630749:=Nat
def tw14364115235919648261:=Nat
def tw1421076611491067494:=Nat
def tw9563357450657724364:=Nat
def tw16327760410034195309:=Nat
def tw488901852407838522:=Nat
def tw16649386473083374364:=Nat
def tw14025837950665597329:=Nat
def tw15619822086331019723:=Nat
def tw14781088975723542070:=Nat
def tw7856191532137051116:=Nat
def tw80390919351021417:=Nat
def tw6282163288499705531:=Nat
def tw16678413416195893451:=Nat
def tw8701826996918514572:=Nat
def tw1011867111791597246:=Nat
def tw11974994460400110689:=Nat
def tw12257200482094524785:=Nat
def tw14837477678522936676:=Nat
def tw5295807450737803052:=Nat
def tw9245321985515437675:=Nat
def tw8836722544290530735:=Nat
def tw7144995602571796063:=Nat
def tw7602463623585286253:=Nat
def tw17950342193619585666:=Nat
def tw10230553859456910792:=Nat
def tw273915258234652358:=Nat
def tw4783675649670515482:=Nat
def tw2479124661789819095:=Nat
def tw9049280232426336106:=Nat
def tw15994777061973301600:=Nat
def tw10704805594054365673:=Nat
def tw10926082659505167099:=Nat
def tw12788134290451841152:=Nat
def tw9145514060628048195:=Nat
def tw5244333736286638768:=Nat
def tw918306194626939577:=Nat
def tw12747341588299325054:=Nat
def tw3053418150268755194:=Nat
def tw865947933807266844:=Nat
def tw10344587898395507856:=Nat
def tw3977948961747530638:=Nat
def tw3724668087990766946:=Nat
def tw18167828550320563765:=Nat
def tw14572044051695372300:=Nat
def tw14560246714740262134:=Nat
def tw17695991049499654491:=Nat
def tw16820322182320958019:=Nat
def tw5992482088149239874:=Nat
def tw15499921339108508038:=Nat
def tw11709433157062287500:=Nat
def tw8854167971847724595:=Nat
def tw4716955694851938853:=Nat
def tw5393168573939296355:=Nat
def tw2416952605760800432:=Nat
def tw5141161498060073679:=Nat
def tw14518404709928932149:=Nat
def tw3378425330901795422:=Nat
def tw4049689952047148612:=Nat
def tw1729195828672632676:=Nat
def tw6653596458876344123:=Nat
def tw13113147306999232278:=Nat
def tw2412633055873343389:=Nat
def tw11713734916549223885:=Nat
def tw8953959147798797563:=Nat
def tw3324339073652592068:=Nat
def tw9188084640983017555:=Nat
def tw7337843091602992775:=Nat
def tw12992971425356900961:=Nat
def tw2609188874607215652:=Nat
def tw4121607752331581259:=Nat
def tw15338314019770939300:=Nat
def tw668236450491733031:=Nat
def tw15360571393393551715:=Nat
def tw11421409646144417715:=Nat
def tw1596128574793552669:=Nat
def tw9332203900683707621:=Nat
def tw16617965451478108301:=Nat
def tw3105499988606314550:=Nat
def tw13886035633306640676:=Nat
def tw6295014378223267306:=Nat
def tw4043693665820165421:=Nat
def tw18391406584562453738:=Nat
def tw8905055051054230934:=Nat
def tw3146362516087794297:=Nat
def tw1092622240030234760:=Nat
def tw16116191392590140018:=Nat
def tw8359887372908463299:=Nat
def tw9154351520568075157:=Nat
def tw10286849166013456723:=Nat
def tw12614289111361946015:=Nat
def tw14629490863468908337:=Nat
def tw15806541129478293565:=Nat
def tw2174609273293868082:=Nat
def tw3508322424077513842:=Nat
def tw11597526893898297700:=Nat
def tw8345684602143541730:=Nat
def tw4894470693758955801:=Nat
def tw9729447068904540042:=Nat
def tw3919698857184487829:=Nat
def tw11663202155989595221:=Nat
def tw313269053675854716:=Nat
def tw5942307834694699271:=Nat
def tw15668011649596494000:=Nat
def tw8526444670084568758:=Nat
def tw5052031103851072552:=Nat
def tw8690203014930433126:=Nat
def tw18044535112575464991:=Nat
def tw15395272575957531978:=Nat
def tw13595790740155001205:=Nat
def tw12427890391076264501:=Nat
def tw5868886728524577034:=Nat
def tw14084730301196169598:=Nat
def tw9629129157767216534:=Nat
def tw7794936638467459783:=Nat
def tw10335475743661169077:=Nat
def tw11193094538545933605:=Nat
def tw7475702286064923047:=Nat
def tw10933336544006446490:=Nat
def tw8990077202338859060:=Nat
def tw8923631009164333373:=Nat
def tw14201958225537400076:=Nat
def tw8871119538369825157:=Nat
def tw6888254022461904605:=Nat
def tw4575396529478062504:=Nat
def tw15688220956077515054:=Nat
def tw14677054494843361600:=Nat
def tw15893663021596691368:=Nat
def tw7050884777779234458:=Nat
def tw17827198856083279626:=Nat
def tw17923469291771570577:=Nat
def tw14085651355426207778:=Nat
def tw3112046875989438794:=Nat
def tw2107799400711296409:=Nat
def tw12552701629078603531:=Nat
def tw10203093779216780454:=Nat
def tw18284498860105917852:=Nat
def tw18150877610409541764:=Nat
def tw4070529709077407411:=Nat
def tw6645599139738817711:=Nat
def tw10459079032554278020:=Nat
def tw14512060434567916700:=Nat
def tw18416011361156280569:=Nat
def tw8461239774593725132:=Nat
def tw15448487539337876020:=Nat
def tw3457970563263934651:=Nat
def tw5688963052235861124:=Nat
def tw9571807889880088801:=Nat
def tw4762456182813471851:=Nat
def tw12874236453780514155:=Nat
def tw162310210183388448:=Nat
def tw13963543510897859140:=Nat
def tw728137582514137272:=Nat
def tw9708613557736928166:=Nat
def tw11591201644941674709:=Nat
def tw9416816895108343989:=Nat
def tw81164748227743179:=Nat
def tw566660307791664403:=Nat
def tw3369705258788716367:=Nat
def tw12203833078739251376:=Nat
def tw16780399709149775352:=Nat
def tw16643958416336813746:=Nat
def tw5453801662003531057:=Nat
def tw6393788450373257039:=Nat
def tw3771843923242400186:=Nat
def tw2673329931944642260:=Nat
def tw17930860941524487101:=Nat
def tw6890427022655607022:=Nat
def tw18227475003098107426:=Nat
def tw12838922832195971635:=Nat
def tw9417407685469441129:=Nat
def tw11397043341639014867:=Nat
def tw11132148675818080548:=Nat
def tw5186190523663186973:=Nat
def tw12290217454503651052:=Nat
def tw14160737925739751958:=Nat
def tw7137001344893814521:=Nat
def tw16853062530819386249:=Nat
def tw18036746208092250043:=Nat
def tw9893033501881581627:=Nat
def tw12182172996594079116:=Nat
def tw6365319044404623097:=Nat
def tw13358362575103160397:=Nat
def tw2510464285308350420:=Nat
def tw5742230660354450844:=Nat
def tw17552044293681676629:=Nat
def tw3841587686238681125:=Nat
def tw7766276610308244005:=Nat
def tw10036410550507378050:=Nat
def tw15929252734847015450:=Nat
def tw8532002483264468065:=Nat
def tw9473285140443657516:=Nat
def tw14530831995081664031:=Nat
def tw12828385016410347107:=Nat
def tw16028056822450156027:=Nat
def tw6752974883829360499:=Nat
def tw9218279303630760763:=Nat
def tw14542999507850547226:=Nat
def tw11299456403869590512:=Nat
def tw5685884170193764668:=Nat
def tw14784514826568487942:=Nat
def tw1008949399869221818:=Nat
def tw9963057974122410635:=Nat
def tw703966303172619379:=Nat
def tw11315469054174938406:=Nat
def tw11875068828428721484:=Nat
def tw14939041393826033381:=Nat
def tw18418801350072925857:=Nat
def tw14897359865990154887:=Nat
def tw286538967516634589:=Nat
def tw3830559637472817120:=Nat
def tw8096524906072567989:=Nat
def tw11896895446163789373:=Nat
def tw3559301796068450296:=Nat
def tw1583221024631035982:=Nat
def tw225089972677144423:=Nat
def tw15800862657813284331:=Nat
def tw1097870701057605616:=Nat
def tw2398437626100485959:=Nat
def tw18015862702134619182:=Nat
def tw13474387096375522742:=Nat
def tw17922953459232017268:=Nat
def tw13383459250020590406:=Nat
def tw8692496493063235571:=Nat
def tw15316164296849376811:=Nat
def tw15917263966408123811:=Nat
def tw17727251992721352067:=Nat
def tw13471798773801057284:=Nat
def tw1333930082451971186:=Nat
def tw7756402073394520960:=Nat
def tw16168413500257853784:=Nat
def tw18151729442722348748:=Nat
def tw15743215077503528982:=Nat
def tw3250512963705112574:=Nat
def tw1243472464234600979:=Nat
def tw17714576015642222325:=Nat
def tw285097611018699130:=Nat
def tw17319961048921034703:=Nat
def tw8653542066020186955:=Nat
def tw17203127522159304332:=Nat
def tw3457292699690892032:=Nat
def tw3023125569785973531:=Nat
def tw7889541090983681617:=Nat
def tw15712075584933261193:=Nat
def tw17807874526831834392:=Nat
def tw16898972352287788058:=Nat
def tw7363502995341060912:=Nat
def tw13585501233300275935:=Nat
def tw13830405119033367047:=Nat
def tw11599537885475900018:=Nat
def tw3656743803061940282:=Nat
def tw7544335321519505182:=Nat
def tw18171460822086037704:=Nat
def tw1463080936601907245:=Nat
def tw13733891538706220132:=Nat
def tw18141518978637301993:=Nat
def tw17964213756757595155:=Nat
def tw4298214292687972147:=Nat
def tw10115363918196490199:=Nat
def tw5954267558591060587:=Nat
def tw11196792434534333319:=Nat
def tw3304957331960581507:=Nat
def tw3459554255818699269:=Nat
def tw13588399390950441342:=Nat
def tw3433630496608438248:=Nat
def tw6393622651618345693:=Nat
def tw5834759936960822399:=Nat
def tw9948926081007095339:=Nat
def tw17105160199256486032:=Nat
def tw2892200193281274546:=Nat
def tw8040454570928433809:=Nat
def tw13800690728133123908:=Nat
def tw11910993486902064200:=Nat
def tw13569972945518596071:=Nat
def tw10428454121670972232:=Nat
def tw14788896577029478549:=Nat
def tw11881230317177572863:=Nat
def tw853144188453215269:=Nat
def tw10427758793150185275:=Nat
def tw17815883314725664123:=Nat
def tw16646300712422582473:=Nat
def tw5097510563225295643:=Nat
def tw6645671573297271862:=Nat
def tw2692983769246792549:=Nat
def tw18039297982764806141:=Nat
def tw14216184586286484291:=Nat
def tw16971735943389245110:=Nat
def tw10602692818489182911:=Nat
def tw9352946109046134916:=Nat
def tw8268164976591095124:=Nat
def tw11310630475970976580:=Nat
def tw5132679203221333259:=Nat
def tw1409270647472778768:=Nat
def tw1106631125843967726:=Nat
def tw14166483418227773551:=Nat
def tw18230305240535731817:=Nat
def tw7802350486798721476:=Nat
def tw1800696797153629638:=Nat
def tw16567387092103640259:=Nat
def tw3670304618692214382:=Nat
def tw1029454162851558734:=Nat
def tw4941210012474743340:=Nat
def tw14799890944770877735:=Nat
def tw8956945693838570117:=Nat
def tw17818481028466003087:=Nat
def tw4716988529476532462:=Nat
def tw406735635314429559:=Nat
def tw7972623298557107436:=Nat
def tw17908603647176179034:=Nat
def tw4154071474169872118:=Nat
def tw12320725104525368021:=Nat
def tw13309941923329959901:=Nat
def tw14989162714614407910:=Nat
def tw14702985941207704178:=Nat
def tw3809305378555606919:=Nat
def tw15753059080649379396:=Nat
def tw12484021611512576957:=Nat
def tw10212574099971548186:=Nat
def tw2012227660877031592:=Nat
def tw1839816111819158781:=Nat
def tw1138304028951016409:=Nat
def tw6542529689352307380:=Nat
def tw7952751122524709273:=Nat
def tw4120943795789395330:=Nat
def tw12131019440335214040:=Nat
def tw8176765078364594296:=Nat
def tw11312403085765978154:=Nat
def tw1074658498439227507:=Nat
def tw15513268477953876932:=Nat
def tw17669938016728316671:=Nat
def tw3341764682127225022:=Nat
def tw5005245506766340533:=Nat
def tw17872437015518847614:=Nat
def tw6396151966780165828:=Nat
def tw11399261543805066777:=Nat
def tw5020831210293111386:=Nat
def tw9536510841041659623:=Nat
def tw13929093005521884507:=Nat
def tw882176102216691302:=Nat
def tw15788573854727508270:=Nat
def tw4820126455604798689:=Nat
def tw13627867345452491508:=Nat
def tw17737698418054208270:=Nat
def tw6926949837750296000:=Nat
def tw16275134625647501837:=Nat
def tw10301650660266391780:=Nat
def tw14326232560711124212:=Nat
def tw9367258403631527504:=Nat
def tw1845894290466419598:=Nat
def tw10051782716651270690:=Nat
def tw560545315668412855:=Nat
def tw16516262060282553145:=Nat
def tw2796365116938017881:=Nat
def tw12903728154203807545:=Nat
def tw15705184415900793882:=Nat
def tw15600648974571392450:=Nat
def tw2493751686392771428:=Nat
def tw1359677938054494124:=Nat
def tw1511279170071350710:=Nat
def tw13829549084483242629:=Nat
def tw2516326403394690262:=Nat
def tw17484491361059660360:=Nat
def tw18390749384817870773:=Nat
def tw9649083131194196960:=Nat
def tw9161893905342457977:=Nat
def tw14119255519494900458:=Nat
def tw9148278261384019051:=Nat
def tw17665339071074359954:=Nat
def tw16959271612264236176:=Nat
def tw5333576744394351100:=Nat
def tw18035491582985647523:=Nat
def tw3590531817882131118:=Nat
def tw6794176857301964464:=Nat
def tw6991764950834360614:=Nat
def tw6644028672429770892:=Nat
def tw1836020966977292345:=Nat
def tw4351667553717589068:=Nat
def tw970334868508710751:=Nat
def tw5419554369791180722:=Nat
def tw380173434418439438:=Nat
def tw7772901162591210763:=Nat
def tw10869467354958643340:=Nat
def tw15457407793387183495:=Nat
def tw3798641129566187917:=Nat
def tw2311872819014730355:=Nat
def tw17562104782485000907:=Nat
def tw5666010055136550621:=Nat
def tw6110632584436539935:=Nat
def tw6211998477298856331:=Nat
def tw9446369514169108224:=Nat
def tw7399699178236655944:=Nat
def tw9696180311823259009:=Nat
def tw14387708046443084630:=Nat
def tw13727631421131511385:=Nat
def tw16256361862245242097:=Nat
def tw13153823989763053980:=Nat
def tw9286455666676635504:=Nat
def tw17827625183496214057:=Nat
def tw7478462370657901525:=Nat
def tw8223914693214220012:=Nat
def tw5286691866289041886:=Nat
def tw18386553285240963090:=Nat
def tw9784519700131672637:=Nat
def tw1508360754563660534:=Nat
def tw13155278003778380524:=Nat
def tw1850097481288439730:=Nat
def tw6454674155423531864:=Nat
def tw17076106840558575036:=Nat
def tw7423402088666088928:=Nat
def tw17304017497635591465:=Nat
def tw1926458178486862613:=Nat
def tw1680812873356843776:=Nat
def tw9730208306662189297:=Nat
def tw221959141351472228:=Nat
def tw10820974956500597153:=Nat
def tw13420227921614620498:=Nat
def tw10130598836734276735:=Nat
def tw9012932930372075574:=Nat
def tw3085597790120967223:=Nat
def tw4393277220418425812:=Nat
end PySem.W.Fast
section
namespace L2
open PySem PySem.Spec PyProof.Rows
abbrev Key:=Sum Int Jj
def dL:Key->KB->Bool
 |.inl k,v=>Value.isInt k v
 |.inr x,v=>Value.isStrOf x v
def keyH(w:RU):Key->Int
 |.inl k=>hashInt k
 |.inr x=>hashStr w x
def keyIs_shape:∀{k:Key} {v:KB},dL k v=true->(∃i t,k=Sum.inl i/\v=Value.int i t)\/(∃x t,k=Sum.inr x/\v=Value.str x t)
 |.inl i,v,h=>by
  obtain⟨t,e⟩:=Value.isInt_shape (k:=i) (v:=v) h;exact .inl #[i,t,rfl,e]
 |.inr x,v,h=>by
  obtain⟨t,e⟩:=Value.isStrOf_shape (x:=x) (v:=v) h;exact .inr #[x,t,rfl,e]
def vx(i:Int)(t:Ub):dL (.inl i) (.int i t)=true:=by simp[dL,Value.isInt]
def vy(x:Jj)(t:Ub):dL (.inr x) (.str x t)=true:=by simp[dL,Value.isStrOf]
def vz(a b:Int):decide ((Sum.inl a:Key)=Sum.inl b)=(a==b):=by
 by_cases e:a=b
 .subst e;simp
 .have h:¬(Sum.inl a:Key)=Sum.inl b:=λq=>e (Sum.inl.inj q);rw[decide_eq_false h];exact(beq_eq_false_iff_ne.mpr e).symm
def vA(a b:Jj):decide ((Sum.inr a:Key)=Sum.inr b)=decide (a=b):=by
 by_cases e:a=b
 .subst e;simp
 .have h:¬(Sum.inr a:Key)=Sum.inr b:=λq=>e (Sum.inr.inj q);rw[decide_eq_false h,decide_eq_false e]
def vB(a:Int)(b:Jj):decide ((Sum.inl a:Key)=Sum.inr b)=false:=decide_eq_false (λq=>nomatch q)
def vC(a:Jj)(b:Int):decide ((Sum.inr a:Key)=Sum.inl b)=false:=decide_eq_false (λq=>nomatch q)
def bF(prog:RP)(w:RU):PySem.KeyKind prog w Key where
 is:=dL
 hash:=keyH w
 inj:=λv a b ha hb=>by
  rcases keyIs_shape ha with⟨i,t,rfl,rfl⟩|⟨x,t,rfl,rfl⟩
  .rcases keyIs_shape hb with⟨j,u,rfl,e⟩|⟨y,u,rfl,e⟩
   .injection e with e1 _;rw[e1]
   .exact nomatch e
  .rcases keyIs_shape hb with⟨j,u,rfl,e⟩|⟨y,u,rfl,e⟩
   .exact nomatch e
   .injection e with e1 _;rw[e1]
 byValue:=λk v h=>by
  rcases keyIs_shape h with⟨i,t,rfl,rfl⟩|⟨x,t,rfl,rfl⟩<;>rfl
 pyHash:=λhv h=>by
  rcases keyIs_shape hv with⟨i,t,rfl,rfl⟩|⟨x,t,rfl,rfl⟩
  .exact wpAny_pyHash_int h
  .exact wpAny_pyHash_str h
 eqBool:=λhu hv h=>by
  rcases keyIs_shape hu with⟨i,t,rfl,rfl⟩|⟨x,t,rfl,rfl⟩
  .rcases keyIs_shape hv with⟨j,u,rfl,rfl⟩|⟨y,u,rfl,rfl⟩
   .rw[vz]at h;exact wpAny_eqBool_int h
   .rw[vB]at h;exact SeqAt.EqAt.int_str i t y u _ _ _ _ h
  .rcases keyIs_shape hv with⟨j,u,rfl,rfl⟩|⟨y,u,rfl,rfl⟩
   .rw[vC]at h;exact SeqAt.EqAt.str_int x t j u _ _ _ _ h
   .rw[vA]at h;exact wpAny_eqBool_str h
 «strs»:=λk x t v h=>by
  rcases keyIs_shape h with⟨i,u,rfl,e⟩|⟨y,u,rfl,e⟩
  .exact nomatch e
  .injection e with e1 _;subst e1;cases v<;>rfl
def mixKind_int(prog:RP)(w:RU)(i:Int)(t:Ub):(bF prog w).is (.inl i) (.int i t)=true:=vx i t
def vD(prog:RP)(w:RU)(x:Jj)(t:Ub):(bF prog w).is (.inr x) (.str x t)=true:=vy x t
inductive V where
 |non|bl (b:Bool)|int (i:Int)|str (x:Str)|byt (b:Array UInt8)|flt (b:UInt64)|ref (a:KF)|ty (n:String)
 deriving DecidableEq
def RelV:V->KB->Prop
 |.non,u=>u=Value.none
 |.bl b,u=>u=Value.bool b
 |.int i,u=>∃t,u=Value.int i t
 |.str x,u=>∃t,u=Value.str x t
 |.byt b,u=>∃t,u=Value.bytes b t
 |.flt b,u=>∃t,u=Value.float b t
 |.ref a,u=>u=Value.ref a
 |.ty n,u=>u=Value.type n
abbrev Vals:List V->List KB->Prop:=Paired RelV
variable{xs:List V}{us:List KB}
def Vals.length(r:Vals xs us):xs.length=us.length:=Paired.length r
def Vals.get:∀{xs:List V} {us:List KB} {i:Nat} {x:V},Vals xs us->xs[i]?=be x->∃u,us[i]?=be u/\RelV x u
 |_,_,_,_,.nil,e=>by simp at e
 |_,_,0,_,.cons r _,e=>by simp at e;subst e;exact#[_,rfl,r]
 |_,_,i+1,x,.cons _ t,e=>by
  obtain⟨u,h1,h2⟩:=Vals.get (i:=i) (x:=x) t (by simpa using e);exact#[u,by simpa using h1,h2]
def Vals.set{x:V}{u:KB}(r:RelV x u):∀{xs:List V} {us:List KB} (i:Nat),Vals xs us->Vals (xs.set i x) (us.set i u)
 |_,_,_,.nil=>.nil
 |_,_,0,.cons _ t=>.cons r t
 |_,_,i+1,.cons q t=>.cons q (Vals.set r i t)
def Vals.append:∀{xs ys:List V} {us ws:List KB},Vals xs us->Vals ys ws->Vals (xs++ys) (us++ws):=by
 intro xs ys us ws h s;induction h with
 |nil=>exact s
 |cons r _ e=>exact .cons r e
def Vals.take:∀{xs:List V} {us:List KB} (n:Nat),Vals xs us->Vals (xs.take n) (us.take n)
 |_,_,0,_=>.nil
 |_,_,_+1,.nil=>.nil
 |_,_,n+1,.cons r t=>.cons r (Vals.take n t)
def Vals.drop:∀{xs:List V} {us:List KB} (n:Nat),Vals xs us->Vals (xs.drop n) (us.drop n)
 |_,_,0,r=>r
 |_,_,_+1,.nil=>.nil
 |_,_,n+1,.cons _ t=>Vals.drop n t
def RelO:Option V->Option KB->Prop
 |some v,be u=>RelV v u
 |none,B_=>True
 |_,_=>False
def KV{κ:Type}:List (κ×V)->List (κ×KB)->Prop:=Paired λ(p:κ×V) (q:κ×KB)=>p.1=q.1/\RelV p.2 q.2
def kV:Key->V
 |.inl i=>.int i
 |.inr x=>.str x
inductive HO where
  |lst (xs:List V)
  |tup (xs:List V)
  |dK (a9:List (Key×V))|dT (a9:List (List Key×V))
  |set (S:Int->Bool) (n:Nat)
  |ins (C dx:KF) (fs:List (Jj×V))
  |own (x:KF)
  |xd (fs:List (Jj×V))
  |met (f x:KF)
  |rng (lo hi:Int)
  |frz (o:R_) (u:HO)
  |tbl (ps:Array KB)
  |ext (φ:Heap->Prop)
abbrev Hp:=KF->Option HO
def upd(H:Hp)(a:KF)(o:HO):Hp:=λb=>if b=a then be o else H b
variable{H:Hp}{a:KF}{o:HO}
def ax:upd H a o a=be o:=by unfold upd;rw[if_pos rfl]
variable{b:KF}
def aj(h:b≠a):upd H a o b=H b:=by unfold upd;rw[if_neg h]
def vE{u:HO}(h:H a=be o)(h':H b=be u)(d:o≠u):a≠b:=by
 intro e;subst e;rw[h]at h';exact d (Option.some.inj h')
def bC(h:H a=be o)(h':H b=B_):a≠b:=by
 intro e;subst e;rw[h]at h';cases h'
section
variable (P:RP)(w:RU)
def ObjOk(H:Hp)(h:Heap)(a:KF):HO->Prop
 |.lst xs=>xs.length<=sizeLine/\∃(its:List KB) (n:Nat),Vals xs its/\h.get? a=be {cls:=.type "list",data:=.seq its.toArray n}
 |.tup xs=>xs.length<=sizeLine/\∃its:List KB,Vals xs its/\IsTup h a its.toArray
 |.dK a9=>a9.length<=sizeLine/\(a==Sl)=false/\∃vs,KV a9 vs/\h.DictOf (bF P w) a vs
 | .dT a9=>a9.length<=sizeLine/\(a==Sl)=false/\∃xs:List (List Key×KF×KB),
   Paired (λ(p:List Key×V) (q:List Key×KF×KB)=>p.1=q.1/\H q.2.1=be (.tup (p.1.map kV))/\RelV p.2 q.2.2) a9 xs/\
   ∃o es ep,h.get? a=be o/\o.ExactDict/\o.data=.dict es ep/\es.toList=xs.map (entryOfKey (SR (bF P w)))/\(xs.map (·.1)).Nodup
 |.set S n=>h.SetOf (intKind P w) a S n
 | .ins C dx fs=>H dx=be (.own a)/\fs.length<=1000/\dx≠a/\h.get? a=be (instObj C dx)/\
   ∃mA,h.Ns1 dx mA/\(∀f,RelO (fs.lookup f) (mA f))/\PySem.Within mA (fs.map (·.1))
 |.own _=>∃o,h.get? a=be o
 |.xd fs=>∃mA,h.Ns1 a mA/\∀f,RelO (fs.lookup f) (mA f)
 |.rng lo hi=>∃t u v,h.get? a=be {cls:=.type "range",data:=.fields [.int lo t,.int hi u,.int 1 v].toArray}
 |.frz o u=>h.get? a=be o/\ObjOk H h a u
 |.tbl ps=>h.get? a=be {cls:=.none,data:=.fields ps}
 |.met f x=>h.get? a=be (methodObj (.ref f) (.ref x))
 |.ext φ=>φ h/\(∃o,h.get? a=be o)/\∀h1 h2:Heap,φ h1->(∀o,h1.get? a=be o->h2.get? a=be o)->φ h2
def HOk(H:Hp)(h:Heap):Prop:=∀a o,H a=be o->ObjOk P w H h a o
end
section
variable {P:RP}{w:RU}{H H':Hp}{h h':Heap}{a:KF}{o:HO}
def ObjOk.lt(x:ObjOk P w H h a o):a<h.objs.size:=by
 cases o with
 |lst xs=>obtain⟨_,_,_,_,e⟩:=x;exact Heap.lt_size e
 |tup xs=>obtain⟨_,_,_,p⟩:=x;exact p.lt
 |dK a9=>obtain⟨_,_,_,_,o,_,_,e,_⟩:=x;exact Heap.lt_size e
 |dT a9=>obtain⟨_,_,_,_,o,_,_,e,_⟩:=x;exact Heap.lt_size e
 |set S n=>obtain⟨o,_,_,_,e,_⟩:=x;exact Heap.lt_size e
 |ins C dx fs=>obtain⟨_,_,_,e,_⟩:=x;exact Heap.lt_size e
 |own y=>obtain⟨_,e⟩:=x;exact Heap.lt_size e
 |xd fs=>obtain⟨_,⟨_,_,_,e,_⟩,_⟩:=x;exact Heap.lt_size e
 |rng lo hi=>obtain⟨_,_,_,e⟩:=x;exact Heap.lt_size e
 |frz ob u=>obtain⟨e,_⟩:=x;exact Heap.lt_size e
 |tbl ps=>exact Heap.lt_size (show h.get? a=be _ from x)
 |met f y=>exact Heap.lt_size (show h.get? a=be _ from x)
 |ext φ=>obtain⟨_,⟨_,e⟩,_⟩:=x;exact Heap.lt_size e
def Paired.mapP{α β:Type}{F G:α->β->Prop}:∀{l₁:List α} {l₂:List β},Paired F l₁ l₂->(∀a b,F a b->G a b)->Paired G l₁ l₂:=by
 intro l₁ l₂ h f;induction h with
 |nil=>exact .nil
 |cons r _ e=>exact .cons (f _ _ r) e
def ObjOk.stay(x:ObjOk P w H h a o)(k:∀b u,(b=a\/H b=be (.own a))->h.get? b=be u->h'.get? b=be u)
  (ho:∀b,H b=be (.own a)->H' b=be (.own a)) (ht:∀b xs,H b=be (.tup xs)->H' b=be (.tup xs)):ObjOk P w H' h' a o:=by
 induction o with
 |lst xs=>obtain⟨z,its,n,r,e⟩:=x;exact#[z,its,n,r,k _ _ (.inl rfl) e]
 |tup xs=>obtain⟨z,its,r,ob,e,c⟩:=x;exact#[z,its,r,ob,k _ _ (.inl rfl) e,c]
 |dK a9=>obtain⟨z,y,vs,r,ob,es,ep,e,c⟩:=x;exact#[z,y,vs,r,ob,es,ep,k _ _ (.inl rfl) e,c]
 |dT a9=>
  obtain⟨z,y,xs,r,ob,es,ep,e,c⟩:=x;exact#[z,y,xs,Paired.mapP r λp q z=>#[z.1,ht _ _ z.2.1,z.2.2],ob,es,ep,k _ _ (.inl rfl) e,c]
 |set S n=>obtain⟨ob,es,ep,t,e,c⟩:=x;exact#[ob,es,ep,t,k _ _ (.inl rfl) e,c]
 |ins C dx fs=>
  obtain⟨d,z,ne,e,mA,⟨od,es,ep,e2,c⟩,r⟩:=x;exact#[ho _ d,z,ne,k _ _ (.inl rfl) e,mA,#[od,es,ep,k _ _ (.inr d) e2,c],r]
 |own y=>obtain⟨ob,e⟩:=x;exact#[ob,k _ _ (.inl rfl) e]
 |xd fs=>obtain⟨mA,⟨od,es,ep,e,c⟩,r⟩:=x;exact#[mA,#[od,es,ep,k _ _ (.inl rfl) e,c],r]
 |rng lo hi=>obtain⟨t,u,v,e⟩:=x;exact#[t,u,v,k _ _ (.inl rfl) e]
 |frz ob u ih=>obtain⟨e,q⟩:=x;exact#[k _ _ (.inl rfl) e,ih q]
 |tbl ps=>
  have e:h.get? a=be {cls:=.none,data:=.fields ps}:=x;show h'.get? a=be {cls:=.none,data:=.fields ps};exact k a _ (.inl rfl) e
 |met f y=>
  have e:h.get? a=be (methodObj (.ref f) (.ref y)):=x;show h'.get? a=be (methodObj (.ref f) (.ref y));exact k a _ (.inl rfl) e
 |ext φ=>obtain⟨p,⟨o,e⟩,st⟩:=x;exact#[st _ _ p λo q=>k _ _ (.inl rfl) q,#[o,k _ _ (.inl rfl) e],st]
def HOk.lt(x:HOk P w H h)(e:H a=be o):a<h.objs.size:=(x a o e).lt
def HOk.fresh(x:HOk P w H h)(e:h.objs.size<=a):H a=none:=by
 cases q:H a with
 |none=>rfl
 |some u=>exact absurd (Gd (x.lt q) e) (GJ _)
def HOk.kept(x:HOk P w H h)(k:∀b u,h.get? b=be u->h'.get? b=be u):HOk P w H h':=λa o e=>
 (x a o e).stay (λb u _ q=>k b u q) (λ_ q=>q) λ_ _ q=>q
def HOk.laid(x:HOk P w H h)(k:∀b u,h.get? b=be u->h'.get? b=be u)(hp:h.objs.size<=a)(new:ObjOk P w (upd H a o) h' a o):HOk P w (upd H a o) h':=λb u e=>by
 have hn:=x.fresh hp;by_cases hb:b=a
 .subst hb;rw[ax]at e;cases e;exact new
 .rw[aj hb]at e;exact(x b u e).stay (λc v _ q=>k c v q) (λc q=>by rw[aj (bC q hn)];exact q) λc xs q=>by rw[aj (bC q hn)];exact q
end
def Rd(H:Hp)(a:KF)(u:HO):Prop:=H a=be u\/∃o,H a=be (.frz o u)
variable{P:RP}{w:RU}{h:Heap}
def Rd.ok{u:HO}(r:Rd H a u)(x:HOk P w H h):ObjOk P w H h a u:=by
 rcases r with r|⟨o,r⟩
 .exact x a u r
 .obtain⟨_,q⟩:=x a _ r;exact q
def Mut:Option HO->Prop
 |some (.lst _)=>True
 |some (.dK _)=>True
 |some (.dT _)=>True
 |some (.set _ _)=>True
 |some (.ins _ _ _)=>True
 |some (.ext _)=>True
 |_=>False
section
variable {P:RP}{w:RU}{H:Hp}{h h':Heap}{x e:KF}{o':HO}
def HOk.write(ok:HOk P w H h)(mu:Mut (H x))(he:e=x\/H e=be (.own x))(k:∀b u,b≠e->h.get? b=be u->h'.get? b=be u)(A':∃u,h'.get? e=be u)
  (new:ObjOk P w (upd H x o') h' x o'):HOk P w (upd H x o') h':=λb u q=>by
 have nown:∀c y,H c=be (.own y)->c≠x:=λc y r z=>by subst z;rw[r]at mu;exact mu
 have Mx:∀c xs,H c=be (.tup xs)->c≠x:=λc xs r z=>by subst z;rw[r]at mu;exact mu
 by_cases hb:b=x
 .subst hb;rw[ax]at q;cases q;exact new
 .rw[aj hb]at q;by_cases JW:b=e
  .have q':H b=be (.own x):=by
    rcases he with z|z
    .exact absurd (JW.trans z) hb
    .rw[JW];exact z
   rw[q]at q';cases q';obtain⟨v,hv⟩:=A';exact#[v,by rw[JW];exact hv]
  .refine(ok b u q).stay (λc v hc r=>k c v ?_ r) (λc r=>by rw[aj (nown c b r)];exact r) λc xs r=>by rw[aj (Mx c xs r)];exact r
   rcases hc with rfl|hc
   .exact JW
   .rintro rfl;rcases he with z|z
    .exact nown c b hc z
    .rw[hc]at z;cases z;exact hb rfl
end
structure Un(fs ex:List KF)(H H':Hp)(h h':Heap):Prop where
 keep:∀b o,h.get? b=be o->H b=B_->b∉fs->b∉ex->h'.get? b=be o
 slot:∀b o,h.get? b=be o->H b=B_->b∈fs->b∉ex->∃sl,h'.get? b=be {o with slots:=sl}
 free:∀b o,h.get? b=be o->H b=B_->b∉ex->H' b=B_
 there:∀b o,h.get? b=be o->b∉ex->∃o',h'.get? b=be o'
 tups:∀b xs,H b=be (.tup xs)->H' b=be (.tup xs)
 frzs:∀b o u,H b=be (.frz o u)->H' b=be (.frz o u)
 tbls:∀b ps,H b=be (.tbl ps)->∃more,H' b=be (.tbl (ps++more))
section
variable {fs k8 ex OK:List KF}{H H1 H2:Hp}{h h1 h2 h':Heap}{a x e:KF}{o:HO}
def Un.any(u:Un fs ex H H1 h h1){b:KF}{ob:R_}(q:h.get? b=be ob)(n:H b=B_)(hx:b∉ex):∃sl,h1.get? b=be {ob with slots:=sl}:=by
 by_cases hb:b∈fs
 .exact u.slot b ob q n hb hx
 .exact#[ob.slots,u.keep b ob q n hb hx]
def Un.kept(k:∀b u,h.get? b=be u->h'.get? b=be u):Un fs ex H H h h':=
 #[λb ob q _ _ _=>k b ob q,λb ob q _ _ _=>#[ob.slots,k b ob q],λ_ _ _ n _=>n,λb ob q _=>#[ob,k b ob q],λ_ _ q=>q,λ_ _ _ q=>q,λ_ ps q=>#[[].toArray,by rw[q];simp]]
def Un.refl:Un fs ex H H h h:=Un.kept λ_ _ q=>q
def Un.laid(k:∀b u,h.get? b=be u->h'.get? b=be u)(hp:h.objs.size<=a)(hn:H a=B_):Un fs ex H (upd H a o) h h' where
 keep:=λb u q _ _ _=>k b u q
 slot:=λb u q _ _ _=>#[u.slots,k b u q]
 free:=λb u q n _=>by rw[aj (FU (Gd (Heap.lt_size q) hp))];exact n
 there:=λb u q _=>#[u,k b u q]
 tups:=λb xs q=>by rw[aj (bC q hn)];exact q
 frzs:=λb u xs q=>by rw[aj (bC q hn)];exact q
 tbls:=λb ps q=>#[[].toArray,by rw[aj (bC q hn),q];simp]
def Un.write(mu:Mut (H x))(he:e=x\/H e=be (.own x))(k:∀b u,b≠e->h.get? b=be u->h'.get? b=be u)(A':∃u,h'.get? e=be u):Un fs ex H (upd H x o) h h':=by
 have hx:∀b,H b=B_->b≠x:=λb n z=>by subst z;rw[n]at mu;exact mu
 have hb:∀b,H b=B_->b≠e:=λb n z=>by
  subst z;rcases he with r|r
  .exact hx b n r
  .rw[n]at r;cases r
 have hm:∀b u,H b=be u->¬Mut (be u)->b≠x:=λb u q nm z=>by subst z;rw[q]at mu;exact nm mu
 refine⟨λb u q n _ _=>k b u (hb b n) q,λb u q n _ _=>#[u.slots,k b u (hb b n) q],λb u q n _=>by rw[aj (hx b n)];exact n,λb u q _=>?_,
  λb xs q=>by rw[aj (hm b _ q λz=>z)];exact q,λb u xs q=>by rw[aj (hm b _ q λz=>z)];exact q,λb ps q=>#[[].toArray,by rw[aj (hm b _ q λz=>z),q];simp]⟩
 by_cases JW:b=e
 .subst JW;exact A'
 .exact#[u,k b u JW q]
end
def trk(h:Heap)(H:Hp):List KF:=(FQ h.objs.size).filter λa=>(H a).isSome
def hidT(h:Heap)(H:Hp):Heap:=hideAll h (trk h H)
def vF(h:Heap)(H:Hp):(hidT h H).objs.size=h.objs.size:=hideAll_size _ _
def vG{o:R_}(e:h.get? b=be o)(n:H b=B_):(hidT h H).get? b=be o:=
 hideAll_get _ e λhm=>by
  have q:(H b).isSome=true:=(Ih.mp hm).2;rw[n]at q;simp at q
def vH{o:R_}(e:(hidT h H).get? b=be o):h.get? b=be o/\H b=none:=by
 have e':h.get? b=be o:=of_hideAll (trk h H) e;refine#[e',?_];cases q:H b with
 |none=>rfl
 |some x=>
  have hm:b∈trk h H:=Ih.mpr #[Ii.mpr (Heap.lt_size e'),by simp[q]];have z:(hidT h H).get? b=none:=hideAll_none (trk h H) hm;rw[z]at e;cases e
structure Mod(K:Ex)(mg:Str->Option KB)(base:Heap):Prop where
 kin:K.In base
 glob:base.Ns Pi mg
 blt:∃mb,base.Ns T7 mb/\∀x:Jj,x≠"__name__"->mb x=R9 x
 nolimit:base.NoLimit
structure Cx where
 prog:RP
 w:RU
 K:Ex
 mg:Jj->Option KB
 base:Heap
 A:RV
 N:List Jj
 s₀:KM
 H₀:Hp
 env:SL
 outer:List SL
 stack:List SL
 ex:List KF
 fn:Jj->Bool
 calm:Bool
 pn:List (KF×R_)
 xe:KB->KM->Prop
abbrev zSE(X:Cx)(e:P3)(es:List P3):Prop:=RW (e::es) X.env=(false,R1 e X.env)::RW es X.env
abbrev zPL(X:Cx)(p:R4)(es:List P3):Prop:=(Su p (RW es X.env)).any (·.1)=false
abbrev zHF(X:Cx)(p:R4)(es:List P3):Prop:=((Su p (RW es X.env)).all (λx=>!x.1)&&(SU p (Sr [] X.env)).all (λx=>x.1.isSome)&&decide (es.length+([]:List S4).length+(if([]:List S4).isEmpty then 0 else 1)<30))=true
abbrev zFN(X:Cx)(x:Jj):Prop:=X.fn x=true\/X.env.scope.names.lookup x=be .local
abbrev zND(x:Jj):Prop:=(x==("__debug__":Jj))=false
abbrev zNC(x:Jj):Prop:=(x==("__classdict__":Jj))=false
abbrev zFS(X:Cx)(e:P3)(y:KB):Prop:=Ua e X.env y=pure y
def frs(l:List SL):List KF:=l.filterMap (·.frame)
abbrev Cx.fs(X:Cx):List KF:=frs X.outer
def Vis(sc:Sm)(x:Jj):Prop:=sc.names.lookup x=be .local\/sc.names.lookup x=be .cell\/sc.names.lookup x=be .free
def Loc(sc:Sm)(x:Jj):Prop:=sc.names.lookup x=be .local\/sc.names.lookup x=be .cell
def Look(env:SL)(h:Heap)(m:Jj->Option KB)(x:Jj)(u:KB):Prop:=
 (env.kindOf x=be .local/\m x=be u)\/((env.kindOf x=be .cell\/env.kindOf x=be .free)/\∃c,env.cells.lookup x=be c/\h.IsCell c (be u))
structure Cx.Ok(X:Cx):Prop where
 mod:Mod X.K X.mg X.base
 kind:X.env.scope.kind=.function
 glob:X.env.globals=Pi
 blt:X.env.builtins=T7
 above:X.s₀.heap.objs.size<=X.env.locals
 inj:∀x y c,X.env.cells.lookup x=be c->X.env.cells.lookup y=be c->x=y
 has:∀x,(X.env.kindOf x=be .cell\/X.env.kindOf x=be .free)->∃c,X.env.cells.lookup x=be c
 cab:∀x c,X.fn x=true->X.env.cells.lookup x=be c->X.s₀.heap.objs.size<=c
 hd:X.calm=true->X.A.handled=B_
 frames:X.A.frames=be X.stack
 stk:X.stack=X.outer\/(X.stack=X.env::X.outer/\X.env.frame=be X.env.locals)
 exf:∀b∈X.ex,b≠X.env.locals/\∀x c,X.env.cells.lookup x=be c->c≠b
 bs:∀b o,X.base.get? b=be o->X.s₀.heap.get? b=be o/\X.H₀ b=B_
 bsz:X.base.objs.size<=X.s₀.heap.objs.size
 noex:∀b o,X.base.get? b=be o->b∉X.ex
 exfs:∀b∈X.ex,b∉X.fs
 funs:X.s₀.heap.FunFrames X.base X.outer
 frf:∀b∈X.fs,X.H₀ b=B_
structure Inv(X:Cx)(pins:List (KF×R_))(σ:List (Option V))(H:Hp)(s:KM):Prop where
 ok:X.Ok
 os:s.os=X.s₀.os
 bare:SQ s.gens
 base:Un X.fs X.ex X.H₀ H X.s₀.heap s.heap
 loc:∃m,s.heap.Ns X.env.locals m/\∀(i:Nat) (x:Jj) (v:V),X.N[i]?=be x->σ[i]?=be (be v)->Vis X.env.scope x->∃u,RelV v u/\Look X.env s.heap m x u
 cell:∀x c,X.env.cells.lookup x=be c->∃v,s.heap.IsCell c v
 free:H X.env.locals=B_
 freeC:∀x c,X.env.cells.lookup x=be c->H c=B_
 pin:∀p∈X.pn++pins,s.heap.get? p.1=be p.2/\H p.1=B_/\p.1≠X.env.locals/\p.1∉X.fs/\∀v,p.2.data≠.cell v
 hok:HOk X.prog X.w H s.heap
 len:σ.length=X.N.length
section
variable {X:Cx}{pins:List (KF×R_)}{σ:List (Option V)}{H H':Hp}{s:KM}{h':Heap}
def Cx.Ok.nofr(ok:X.Ok){b:KF}{o:R_}(e:X.base.get? b=be o):b∉X.fs:=λhb=>by
 have:=(ok.funs.mem hb).1;rw[e]at this;cases this
def Inv.bs(I:Inv X pins σ H s):∀b o,X.base.get? b=be o->s.heap.get? b=be o/\H b=none:=λb o e=>
 #[I.base.keep b o (I.ok.bs b o e).1 (I.ok.bs b o e).2 (I.ok.nofr e) (I.ok.noex b o e),I.base.free b o (I.ok.bs b o e).1 (I.ok.bs b o e).2 (I.ok.noex b o e)]
def Inv.bk(I:Inv X pins σ H s):∀b o,X.base.get? b=be o->s.heap.get? b=be o:=λb o e=>(I.bs b o e).1
def Inv.mod(I:Inv X pins σ H s):Mod X.K X.mg X.base:=I.ok.mod
def Inv.kIn(I:Inv X pins σ H s):X.K.In s.heap:=I.ok.mod.kin.keeps I.bk
def Inv.lt(I:Inv X pins σ H s):X.env.locals<s.heap.objs.size:=let ⟨_,hn,_⟩:=I.loc;hn.lt
def Inv.sz(I:Inv X pins σ H s):X.s₀.heap.objs.size<=s.heap.objs.size:=FY I.ok.above (Hj I.lt)
def Inv.nofs(I:Inv X pins σ H s){a:KF}(h:s.heap.objs.size<=a):a∉X.fs:=λhb=>by
 obtain⟨_,o,ho,_⟩:=I.ok.funs.mem hb;exact absurd (Gd (Heap.lt_size ho) (FY I.sz h)) (GJ _)
def Inv.cne(I:Inv X pins σ H s):∀x c,X.env.cells.lookup x=be c->c≠X.env.locals:=λx c e z=>by
 obtain⟨v,o,ho,hd⟩:=I.cell x c e;obtain⟨m,⟨o',es,ep,JX,d7,_⟩,_⟩:=I.loc;rw[z,JX]at ho;cases ho;rw[d7]at hd;cases hd
def Inv.funs(I:Inv X pins σ H s):s.heap.FunFrames X.base X.outer:=by
 have all:∀(l:List SL),(∀b∈frs l,b∈X.fs)->X.s₀.heap.FunFrames X.base l->s.heap.FunFrames X.base l:=by
  intro l;induction l with
  |nil=>intro _ _;trivial
  |cons env r ih=>
   intro hs hl;obtain⟨hk,⟨L,o,hf,hn,ho,hd⟩,hr⟩:=hl;have hL:L∈X.fs:=hs L (by unfold frs;rw[Hk,hf];exact FZ);obtain⟨sl,e⟩:=I.base.slot L o ho (I.ok.frf L hL) hL λz=>I.ok.exfs L z hL;exact#[hk,#[L,_,hf,hn,e,hd],ih (λb hb=>hs b (by unfold frs;rw[Hk,hf];exact FW _ hb)) hr]
 exact all X.outer (λ_ hb=>hb) I.ok.funs
def Inv.stack(I:Inv X pins σ H s):s.heap.FunFrames X.base X.stack:=by
 rcases I.ok.stk with e|⟨e,hf⟩
 .rw[e];exact I.funs
 .rw[e];obtain⟨m,hn,_⟩:=I.loc;refine .cons (by rw[I.ok.kind];decide) hf hn ?_ I.funs;exact Heap.get?_none_of_le (FY I.ok.bsz I.ok.above)
def Inv.stkSub(I:Inv X pins σ H s):∀b∈frs X.stack,b∈X.env.locals::X.fs:=λb hb=>by
 rcases I.ok.stk with e|⟨e,hf⟩
 .rw[e]at hb;exact FW _ hb
 .rw[e]at hb;unfold frs at hb;rw[Hk,hf]at hb;exact hb
def Inv.stkFree(I:Inv X pins σ H s):∀b∈frs X.stack,H b=none:=λb hb=>by
 rcases FT.mp (I.stkSub b hb)with e|hb
 .rw[e];exact I.free
 .obtain⟨_,o,ho,_⟩:=I.ok.funs.mem hb;exact I.base.free b o ho (I.ok.frf b hb) λz=>I.ok.exfs b z hb
variable{g':Array TV}{ch:List KF}
def Inv.step{t':Nat}{d':Drawn}(I:Inv X pins σ H s)
  (A_:∀b∈ch,(b∈X.ex\/X.s₀.heap.objs.size<=b)/\b≠X.env.locals/\(∀x c,X.env.cells.lookup x=be c->c≠b)/\∀p∈X.pn++pins,p.1≠b)
  (keep:∀b o,b≠X.env.locals->b∉X.fs->b∉ch->s.heap.get? b=be o->H b=B_->h'.get? b=be o)
  (slot:∀b o,b≠X.env.locals->b∈X.fs->b∉ch->s.heap.get? b=be o->H b=B_->∃sl,h'.get? b=be {o with slots:=sl}) (free:∀b o,b∉ch->s.heap.get? b=be o->H b=B_->H' b=B_)
  (there:∀b o,b∉ch->s.heap.get? b=be o->∃o',h'.get? b=be o')
  (tups:∀b xs,H b=be (.tup xs)->H' b=be (.tup xs)) (frzs:∀b o u,H b=be (.frz o u)->H' b=be (.frz o u)) (tbls:∀b ps,H b=be (.tbl ps)->∃more,H' b=be (.tbl (ps++more)))
  (ns:∀m,s.heap.Ns X.env.locals m->h'.Ns X.env.locals m) (hok:HOk X.prog X.w H' h') (hg:SQ g'):
  Inv X pins σ H' {s with heap:=h',gens:=g',drawn:=d',toks:=t'}:=by
 have OL:∀b o,X.s₀.heap.get? b=be o->b≠X.env.locals:=λb o e=>FU (Gd (Heap.lt_size e) I.ok.above);have LW:∀b o,X.s₀.heap.get? b=be o->b∉X.ex->b∉ch:=λb o e hx hb=>by
  rcases(A_ b hb).1 with z|z
  .exact hx z
  .exact absurd (Gd (Heap.lt_size e) z) (GJ _)
 have l5:∀x c,X.env.cells.lookup x=be c->∀v,s.heap.IsCell c v->h'.IsCell c v:=λx c e v ⟨o,ho,hd⟩=>by
  have KW:c∉ch:=λz=>(A_ c z).2.2.1 x c e rfl;by_cases hc:c∈X.fs
  .obtain⟨sl,q⟩:=slot c o (I.cne x c e) hc KW ho (I.freeC x c e);exact#[_,q,hd]
  .exact#[o,keep c o (I.cne x c e) hc KW ho (I.freeC x c e),hd]
 refine#[I.ok,I.os,hg,#[λb o e n hb hx=>?_,λb o e n hb hx=>?_,λb o e n hx=>?_,λb o e hx=>?_,λb xs e=>tups b xs (I.base.tups b xs e),λb o xs e=>frzs b o xs (I.base.frzs b o xs e),λb ps e=>?_],?_,λx c e=>?_,?_,λx c e=>?_,λp hp=>?_,hok,I.len]
 .exact keep b o (OL b o e) hb (LW b o e hx) (I.base.keep b o e n hb hx) (I.base.free b o e n hx)
 .obtain⟨sl,e1⟩:=I.base.slot b o e n hb hx;obtain⟨t9,e2⟩:=slot b _ (OL b o e) hb (LW b o e hx) e1 (I.base.free b o e n hx);exact#[t9,e2]
 .obtain⟨o',e1⟩:=I.base.there b o e hx;exact free b o' (LW b o e hx) e1 (I.base.free b o e n hx)
 .obtain⟨o',e1⟩:=I.base.there b o e hx;exact there b o' (LW b o e hx) e1
 .obtain⟨m1,e1⟩:=I.base.tbls b ps e;obtain⟨m2,e2⟩:=tbls b _ e1;exact#[m1++m2,by rw[e2,Array.append_assoc]]
 .obtain⟨m,hn,hl⟩:=I.loc;refine#[m,ns m hn,λi x v e1 e2 e3=>?_];obtain⟨u,r,l⟩:=hl i x v e1 e2 e3;refine#[u,r,?_];rcases l with l|⟨k,c,e,z⟩
  .exact .inl l
  .exact .inr #[k,c,e,l5 x c e _ z]
 .obtain⟨v,z⟩:=I.cell x c e;exact#[v,l5 x c e v z]
 .obtain⟨m,⟨o,_,_,ho,_⟩,_⟩:=I.loc;exact free _ o (λz=>(A_ _ z).2.1 rfl) ho I.free
 .obtain⟨v,o,ho,hd⟩:=I.cell x c e;exact free c o (λz=>(A_ c z).2.2.1 x c e rfl) ho (I.freeC x c e)
 .obtain⟨e,n,ne,nf,d⟩:=I.pin p hp;have KW:p.1∉ch:=λz=>(A_ p.1 z).2.2.2 p hp rfl;exact#[keep p.1 p.2 ne nf KW e n,free p.1 p.2 KW e n,ne,nf,d]
def Inv.un{t':Nat}(I:Inv X pins σ H s)(u:Un X.fs [] H H' s.heap h')(hok:HOk X.prog X.w H' h'):Inv X pins σ H' {s with heap:=h',toks:=t'}:=by
 obtain⟨m,⟨o,es,ep,ho,r⟩,_⟩:=id I.loc;obtain⟨sl,hL⟩:=u.any ho I.free J8;exact I.step (g':=s.gens) (d':=s.drawn) (ch:=[]) (λ_ z=>nomatch z) (λb o _ hb _ e n=>u.keep b o e n hb J8) (λb o _ hb _ e n=>u.slot b o e n hb J8) (λb o _ e n=>u.free b o e n J8) (λb o _ e=>u.there b o e J8) u.tups u.frzs u.tbls (λm' hm=>by
  obtain⟨o',JE,Mz,JX,r'⟩:=hm;rw[ho]at JX;cases JX;exact#[_,JE,Mz,hL,r']) hok I.bare
def Inv.call{t':Nat}{d':Drawn}(I:Inv X pins σ H s)(u:Un (frs X.stack) ch H H' s.heap h')(hok:HOk X.prog X.w H' h')(hg:SQ g')
  (A_:∀b∈ch,(b∈X.ex\/X.s₀.heap.objs.size<=b)/\b≠X.env.locals/\(∀x c,X.env.cells.lookup x=be c->c≠b)/\∀p∈X.pn++pins,p.1≠b):
  Inv X pins σ H' {s with heap:=h',gens:=g',drawn:=d',toks:=t'}:=by
 obtain⟨m,⟨o,es,ep,ho,r⟩,_⟩:=id I.loc;obtain⟨sl,hL⟩:=u.any ho I.free λz=>(A_ _ z).2.1 rfl;exact I.step (ch:=ch) A_ (λb o hL hb hc e n=>u.keep b o e n (λz=>(FT.mp (I.stkSub b z)).elim hL hb) hc) (λb o _ _ hc e n=>u.any e n hc) (λb o hc e n=>u.free b o e n hc) (λb o hc e=>u.there b o e hc) u.tups u.frzs u.tbls (λm' hm=>by
  obtain⟨o',JE,Mz,JX,r'⟩:=hm;rw[ho]at JX;cases JX;exact#[_,JE,Mz,hL,r']) hok hg
def Inv.turned{t':Nat}{it:KF}(I:Inv X pins σ H s)(k:∀b o,b≠it->s.heap.get? b=be o->h'.get? b=be o)(hn:H it=B_)(hL:it≠X.env.locals)
  (h1:it∈X.ex\/X.s₀.heap.objs.size<=it) (h2:∀x c,X.env.cells.lookup x=be c->c≠it) (h3:∀p∈X.pn++pins,p.1≠it):Inv X pins σ H {s with heap:=h',toks:=t'}:=by
 have JY:∀b u,H b=be u->b≠it:=λb u e z=>by rw[z,hn]at e;cases e
 refine I.step (g':=s.gens) (d':=s.drawn) (ch:=[it]) (λb hb=>?_) (λb o _ _ hc e _=>k b o (λz=>hc (by simp[z])) e) (λb o _ _ hc e _=>#[o.slots,k b o (λz=>hc (by simp[z])) e]) (λ_ _ _ _ n=>n)
  (λb o hc e=>#[o,k b o (λz=>hc (by simp[z])) e]) (λ_ _ e=>e) (λ_ _ _ e=>e) (λb ps e=>#[[].toArray,by rw[e];simp]) (λm hm=>?_) (λb u e=>?_) I.bare
 .have e:b=it:=by simpa using hb
  subst e;exact#[h1,hL,h2,h3]
 .obtain⟨o,es,ep,ho,r⟩:=hm;exact#[o,es,ep,k _ o (Ne.symm hL) ho,r]
 .refine(I.hok b u e).stay (λc v hc q=>k c v ?_ q) (λ_ q=>q) λ_ _ q=>q;rcases hc with z|z
  .rw[z];exact JY b u e
  .exact JY c _ z
def Inv.tok(I:Inv X pins σ H s)(t:Nat):Inv X pins σ H {s with toks:=t}:=I.un (h':=s.heap) (t':=t) Un.refl I.hok
def Inv.kept{t':Nat}(I:Inv X pins σ H s)(k:∀b u,s.heap.get? b=be u->h'.get? b=be u):Inv X pins σ H {s with heap:=h',toks:=t'}:=I.un (Un.kept k) (I.hok.kept k)
def Inv.laid{a:KF}{o:HO}{t':Nat}(I:Inv X pins σ H s)(k:∀b u,s.heap.get? b=be u->h'.get? b=be u)(hp:s.heap.objs.size<=a)(new:ObjOk X.prog X.w (upd H a o) h' a o):
  Inv X pins σ (upd H a o) {s with heap:=h',toks:=t'}:=I.un (Un.laid k hp (I.hok.fresh hp)) (I.hok.laid k hp new)
def Inv.write{x e:KF}{o:HO}{t':Nat}(I:Inv X pins σ H s)(mu:Mut (H x))(he:e=x\/H e=be (.own x))(k:∀b u,b≠e->s.heap.get? b=be u->h'.get? b=be u)(A':∃u,h'.get? e=be u)
  (new:ObjOk X.prog X.w (upd H x o) h' x o):Inv X pins σ (upd H x o) {s with heap:=h',toks:=t'}:=I.un (Un.write mu he k A') (I.hok.write mu he k A' new)
def Inv.pins_of{JF:List (KF×R_)}(I:Inv X pins σ H s)(h:∀p∈JF,s.heap.get? p.1=be p.2/\H p.1=B_/\p.1≠X.env.locals/\p.1∉X.fs/\∀v,p.2.data≠.cell v):Inv X JF σ H s:=
 #[I.ok,I.os,I.bare,I.base,I.loc,I.cell,I.free,I.freeC,λp hp=>(Go.mp hp).elim (λz=>I.pin p (G8 _ z)) (h p),I.hok,I.len]
variable{x:Jj}{i:Nat}
def jt{N:List Jj}(hN:N.Nodup){j:Nat}(a:N[i]?=be x)(b:N[j]?=be x):i=j:=by
 obtain⟨h1,e1⟩:=F7.mp a;obtain⟨h2,e2⟩:=F7.mp b;exact(List.getElem_inj hN).mp (e1.trans e2.symm)
variable{E:KB->KM->Prop}{Q:Unit->KM->Prop}
def pE{M:TU}{A:RV}{v:V}{u:KB}(I:Inv X pins σ H s)(hN:X.N.Nodup)(hi:X.N[i]?=be x)(hx:Loc X.env.scope x)(r:RelV v u)
  (h:∀s',Inv X pins (σ.set i (be v)) H s'->(∃a,Heap.SameBut a s.heap s'.heap/\(a=X.env.locals\/X.env.cells.lookup x=be a))->Q () s') (hf:autoParam (zFN X x) zA3):RT M A (storeName X.env x u) Q E s:=by
 obtain⟨m,hn,hl⟩:=id I.loc;have v8:(X.env.scope.kind== .class||(X.env.scope.kind== .module&&X.env.locals !=X.env.globals))=false:=by rw[I.ok.kind];rfl
 have hiσ:i<σ.length:=by rw[I.len];exact(F7.mp hi).1
 have cne:=I.cne;have e9:∀{a:KF} {h':Heap},(∃o,s.heap.get? a=be o/\H a=B_)->Heap.SameBut a s.heap h'->HOk X.prog X.w H h':=λ{a h'} ha hs b ob e=>by
  obtain⟨_,_,j5⟩:=ha;refine(I.hok b ob e).stay (λc w' hc q=>(hs.2 c ?_).trans q) (λ_ q=>q) λ_ _ q=>q;rintro rfl;rcases hc with rfl|hc
  .rw[j5]at e;cases e
  .rw[j5]at hc;cases hc
 rcases hx with hk|hk
 .refine wpAny_storeName_local hk hn (λh' f_ hs=>?_) v8;obtain⟨oL,_,_,OM,_⟩:=id hn;refine h _ #[I.ok,I.os,I.bare,#[λb o e n hb hx=>?_,λb o e n hb hx=>?_,I.base.free,λb o e hx=>?_,I.base.tups,I.base.frzs,I.base.tbls],#[_,f_,λj y v' e1 e2 e3=>?_],λy c e=>?_,I.free,I.freeC,λp hp=>?_,e9 #[oL,OM,I.free] hs,by simpa using I.len] #[_,hs,.inl rfl]
  .exact(hs.2 b (FU (Gd (Heap.lt_size e) I.ok.above))).trans (I.base.keep b o e n hb hx)
  .obtain⟨sl,e1⟩:=I.base.slot b o e n hb hx;exact#[sl,(hs.2 b (FU (Gd (Heap.lt_size e) I.ok.above))).trans e1]
  .obtain⟨o',e1⟩:=I.base.there b o e hx;exact#[o',(hs.2 b (FU (Gd (Heap.lt_size e) I.ok.above))).trans e1]
  .by_cases hj:j=i
   .subst hj;rw[hi]at e1;cases e1;rw[Gs hiσ]at e2;cases e2;exact#[u,r,.inl #[hk,J8]]
   .rw[F5 (Ne.symm hj)]at e2;obtain⟨u',r',q⟩:=hl j y v' e1 e2 e3;refine#[u',r',?_];rcases q with⟨k,e⟩|⟨k,c,e,z⟩
    .refine .inl #[k,?_];have:y≠x:=λe=>hj (jt hN e1 (e ▸ hi));simp[this,e]
    .exact .inr #[k,c,e,z.sameBut hs (cne y c e)]
  .obtain⟨w',z⟩:=I.cell y c e;exact#[w',z.sameBut hs (cne y c e)]
  .obtain⟨e,n,ne,nf,d⟩:=I.pin p hp;exact#[(hs.2 p.1 ne).trans e,n,ne,nf,d]
 .have KY:X.fn x=true:=by
   rcases hf with z|z
   .exact z
   .rw[z]at hk;cases hk
  obtain⟨c,hc⟩:=I.ok.has x (.inl hk);obtain⟨w',z⟩:=I.cell x c hc;refine wpAny_storeName_cell I.ok.kind hk hc z (λh' JG hs=>?_);obtain⟨oc,ON,MB⟩:=id z;refine h {s with heap:=h'} #[I.ok,I.os,I.bare,#[λb o e n hb hx=>?_,λb o e n hb hx=>?_,I.base.free,λb o e hx=>?_,I.base.tups,I.base.frzs,I.base.tbls],#[m,hn.sameBut hs (Ne.symm (cne x c hc)),λj y v' e1 e2 e3=>?_],λy c' e=>?_,I.free,I.freeC,λp hp=>?_,e9 #[oc,ON,I.freeC x c hc] hs,by simpa using I.len] #[c,hs,.inr hc]
  .exact(hs.2 b (FU (Gd (Heap.lt_size e) (I.ok.cab x c KY hc)))).trans (I.base.keep b o e n hb hx)
  .obtain⟨sl,e1⟩:=I.base.slot b o e n hb hx;exact#[sl,(hs.2 b (FU (Gd (Heap.lt_size e) (I.ok.cab x c KY hc)))).trans e1]
  .obtain⟨o',e1⟩:=I.base.there b o e hx;exact#[o',(hs.2 b (FU (Gd (Heap.lt_size e) (I.ok.cab x c KY hc)))).trans e1]
  .by_cases hj:j=i
   .subst hj;rw[hi]at e1;cases e1;rw[Gs hiσ]at e2;cases e2;exact#[u,r,.inr #[.inl hk,c,hc,JG]]
   .rw[F5 (Ne.symm hj)]at e2;obtain⟨u',r',q⟩:=hl j y v' e1 e2 e3;refine#[u',r',?_];rcases q with q|⟨k,c',e,z'⟩
    .exact .inl q
    .refine .inr #[k,c',e,z'.sameBut hs ?_];rintro rfl;exact hj (jt hN e1 (I.ok.inj _ _ _ e hc ▸ hi))
  .by_cases OO:c'=c
   .subst OO;exact#[_,JG]
   .obtain⟨w2,z2⟩:=I.cell y c' e;exact#[w2,z2.sameBut hs OO]
  .obtain⟨e,n,ne,nf,d⟩:=I.pin p hp;refine#[(hs.2 p.1 ?_).trans e,n,ne,nf,d];intro q;rw[q,ON]at e;have q':oc=p.2:=Option.some.inj e;exact d w' (by rw[<-q'];exact MB)
def fV{M:TU}{A:RV}{v:V}{u:KB}(I:Inv X pins σ H s)(hN:X.N.Nodup)(hi:X.N[i]?=be x)(hx:Loc X.env.scope x)(r:RelV v u)
  (h:∀s',Inv X pins (σ.set i (be v)) H s'->Q () s') (hf:autoParam (zFN X x) zA3):RT M A (storeName X.env x u) Q E s:=
 pE I hN hi hx r (λs' I' _=>h s' I') hf
def Inv.call'{s':KM}(I:Inv X pins σ H s)(ho:s'.os=s.os)(u:Un (frs X.stack) ch H H' s.heap s'.heap)(hok:HOk X.prog X.w H' s'.heap)(hg:SQ s'.gens)
  (A_:∀b∈ch,(b∈X.ex\/X.s₀.heap.objs.size<=b)/\b≠X.env.locals/\(∀x c,X.env.cells.lookup x=be c->c≠b)/\∀p∈X.pn++pins,p.1≠b):Inv X pins σ H' s':=by
 obtain⟨h',g',d',t',o'⟩:=s';have e:o'=s.os:=ho;subst e;exact I.call (g':=g') (t':=t') (d':=d') u hok hg A_
end
abbrev XK:=KB->Option KF->Hp->Prop
abbrev St:=List (Option V)
abbrev VK:=V->Hp->Prop
abbrev TE:=St->Hp->VK->Prop
abbrev TT:=St->Hp->(Bool->Hp->Prop)->Prop
abbrev TA:=St->Hp->(List V->Hp->Prop)->Prop
structure Ends where
 nx:St->Hp->Prop
 rt:VK
 bk:St->Hp->Prop:=λ_ _=>False
 ct:St->Hp->Prop:=λ_ _=>False
abbrev TS:=Ends->St->Hp->Prop
def EP(X:Cx)(pins:List (KF×R_))(σ:St)(Q:VK)(u:KB)(s':KM):Prop:=∃v H',Inv X pins σ H' s'/\RelV v u/\Q v H'
def TP(X:Cx)(pins:List (KF×R_))(σ:St)(Q:Bool->Hp->Prop)(b:Bool)(s':KM):Prop:=∃H',Inv X pins σ H' s'/\Q b H'
def AP(X:Cx)(pins:List (KF×R_))(σ:St)(Q:List V->Hp->Prop)(us:List KB)(s':KM):Prop:=∃vs H',Inv X pins σ H' s'/\Vals vs us/\Q vs H'
def SP(X:Cx)(pins:List (KF×R_))(D:Ends)(f:Flow)(s':KM):Prop:=
 match f with
 |.next=>∃σ' H',Inv X pins σ' H' s'/\D.nx σ' H'
 |.brk=>∃σ' H',Inv X pins σ' H' s'/\D.bk σ' H'
 |.cont=>∃σ' H',Inv X pins σ' H' s'/\D.ct σ' H'
 |.ret u=>∃v σ' H',Inv X pins σ' H' s'/\RelV v u/\D.rt v H'
def PE(X:Cx)(e:P3)(t:TE):Prop:=
 ∀(pins:List (KF×R_)) (s:KM) (σ:St) (H:Hp) (Q:VK),Inv X pins σ H s->t σ H Q->RT (RR X.prog X.w) X.A (R1 e X.env) (EP X pins σ Q) X.xe s
def PT(X:Cx)(e:P3)(t:TT):Prop:=
 ∀(pins:List (KF×R_)) (s:KM) (σ:St) (H:Hp) (Q:Bool->Hp->Prop),Inv X pins σ H s->t σ H Q->RT (RR X.prog X.w) X.A (isTrue e X.env (R1 e X.env)) (TP X pins σ Q) X.xe s
def PW(X:Cx)(e:P3)(t:TT):Prop:=
 ∀(d8:TJ KB) (pins:List (KF×R_)) (s:KM) (σ:St) (H:Hp) (Q:Bool->Hp->Prop),Inv X pins σ H s->t σ H Q->RT (RR X.prog X.w) X.A (isTrue e X.env d8) (TP X pins σ Q) X.xe s
variable{X:Cx}
def PW.pt{e:P3}{t:TT}(h:PW X e t):PT X e t:=h _
def PA(X:Cx)(es:List P3)(t:TA):Prop:=
 ∀(pos:R4) (pins:List (KF×R_)) (s:KM) (σ:St) (H:Hp) (Q:List V->Hp->Prop),Inv X pins σ H s->t σ H Q->RT (RR X.prog X.w) X.A (spliced (Su pos (RW es X.env))) (AP X pins σ Q) X.xe s
def PS(X:Cx)(st:RS)(t:TS):Prop:=
 ∀(pins:List (KF×R_)) (s:KM) (σ:St) (H:Hp) (D:Ends),Inv X pins σ H s->t D σ H->RT (RR X.prog X.w) X.A (exec st X.env) (SP X pins D) X.xe s
def PSs(X:Cx)(st:List RS)(t:TS):Prop:=
 ∀(pins:List (KF×R_)) (s:KM) (σ:St) (H:Hp) (D:Ends),Inv X pins σ H s->t D σ H->RT (RR X.prog X.w) X.A (execs st X.env) (SP X pins D) X.xe s
variable{A:RV}{E:KB->KM->Prop}{s:KM}
def thn{α:Type}{t:TJ α}{Q Q':α->KM->Prop}{M:TU}(h:RT M A t Q E s)(hQ:∀a s,Q a s->Q' a s):RT M A t Q' E s:=R7 h hQ λ_ _ x=>x
section
variable {X:Cx}
def tVar(i:Nat):TE:=λσ H Q=>∃v,σ[i]?=be (be v)/\Q v H
def tC(v:V):TE:=λ_ H Q=>Q v H
variable{x:Jj}{pos:R4}
def cG{i:Nat}(hN:X.N[i]?=be x)(hv:Vis X.env.scope x)(hd:autoParam (zND x) zA1)(e_:autoParam (zNC x) zA1):PE X (.Name x pos) (tVar i):=by
 intro pins s σ H Q I h;obtain⟨v,e,h⟩:=h;obtain⟨m,hn,hl⟩:=I.loc;obtain⟨u,r,l⟩:=hl i x v hN e hv;have ge:EP X pins σ Q u s:=#[v,H,I,r,h];rcases l with⟨hk,hm⟩|⟨hk,c,hc,l6⟩
 .exact T3 (wpAny_loadName_local I.ok.kind hk hn hm ge) hd
 .rcases hk with hk|hk
  .exact T3 (wpAny_loadName_cell I.ok.kind hk hc l6 ge) hd
  .exact T3 (wpAny_loadName_free I.ok.kind hk hc l6 ge e_) hd
def vI{i j pos}:PE X (.Constant (.int i) j pos) (tC (.int i)):=λ_ _ _ H _ I h=>wpAny_Constant_int #[.int i,H,I.tok _,#[_,rfl],h]
def vJ{b j pos}:PE X (.Constant (.bool b) j pos) (tC (.bl b)):=λ_ _ _ H _ I h=>Constant_bool #[.bl b,H,I,rfl,h]
def vK{j pos}:PE X (.Constant .none j pos) (tC .non):=λ_ _ _ H _ I h=>Constant_none #[.non,H,I,rfl,h]
def pF{x j pos}:PE X (.Constant (.str x) j pos) (tC (.str x)):=λ_ _ _ H _ I h=>Calls.Constant_str #[.str x,H,I.tok _,#[_,rfl],h]
def Gl(X:Cx)(x:Jj):Prop:=X.env.kindOf x=be .globalImplicit
variable{E Q:KB->KM->Prop}{pins:List (KF×R_)}{u:KB}
def cn{s:KM}{σ:St}{H:Hp}(I:Inv X pins σ H s)(hg:Gl X x)(hm:X.mg x=be u)(h:Q u s)
  (hd:autoParam (zND x) zA1):RT (RR X.prog X.w) X.A (R1 (.Name x pos) X.env) Q E s:=
 Calls.Name_function_global I.ok.kind hg (Calls.loadGlobal_global (by rw[I.ok.glob];exact I.mod.glob.keeps I.bk) hm h) hd
def cY{s:KM}{σ:St}{H:Hp}(I:Inv X pins σ H s)(hg:Gl X x)(hm:X.mg x=B_)(hv:R9 x=be u)(h:Q u s)
  (hn:autoParam (x≠"__name__") zA1) (hd:autoParam (zND x) zA1):RT (RR X.prog X.w) X.A (R1 (.Name x pos) X.env) Q E s:=by
 obtain⟨mb,h1,h2⟩:=I.mod.blt;exact Calls.Name_function_global I.ok.kind hg (Calls.loadGlobal_builtin (by rw[I.ok.glob];exact I.mod.glob.keeps I.bk) hm (by rw[I.ok.blt];exact h1.keeps I.bk) ((h2 x hn).trans hv) h) hd
def vL{v:V}(hg:Gl X x)(hm:X.mg x=be u)(r:RelV v u)(hd:autoParam (zND x) zA1):PE X (.Name x pos) (tC v):=
 λ_ _ _ H _ I h=>cn I hg hm #[v,H,I,r,h] hd
def pG{v:V}(hg:Gl X x)(hm:X.mg x=B_)(hv:R9 x=be u)(r:RelV v u)(hn:autoParam (x≠"__name__") zA1)(hd:autoParam (zND x) zA1):PE X (.Name x pos) (tC v):=
 λ_ _ _ H _ I h=>cY I hg hm hv #[v,H,I,r,h] hn hd
variable {a b:P3}{ta tb:TE}{pos:R4}
variable {tA H_:TT}{rest:List P3}
def tAnd(t u:TT):TT:=λσ H Q=>t σ H λc H1=>if c=true then u σ H1 Q else Q false H1
def tOr(t u:TT):TT:=λσ H Q=>t σ H λc H1=>if c=true then Q true H1 else u σ H1 Q
def tNot(t:TT):TT:=λσ H Q=>t σ H λc H1=>Q (!c) H1
def pH(ha:PT X a tA):PW X (.BoolOp .And [a] pos) tA:=by
 intro wh pins s σ H Q I h;refine isTrue_and (thn (ha pins s σ H Q I h) λc s1 e=>?_);cases c with
 |true=>exact isTrue_and_nil e
 |false=>exact e
def pI(ha:PT X a tA):PW X (.BoolOp .Or [a] pos) tA:=by
 intro wh pins s σ H Q I h;refine isTrue_or (thn (ha pins s σ H Q I h) λc s1 e=>?_);cases c with
 |false=>exact isTrue_or_nil e
 |true=>exact e
def pJ(ha:PT X a tA)(hb:PW X (.BoolOp .And (b::rest) pos) H_):PW X (.BoolOp .And (a::b::rest) pos) (tAnd tA H_):=by
 intro wh pins s σ H Q I h;refine isTrue_and (thn (ha pins s σ H _ I h) λc s1 b9=>?_);obtain⟨H1,I1,q1⟩:=b9;cases c with
 |true=>exact hb wh pins s1 σ H1 Q I1 q1
 |false=>exact#[H1,I1,q1]
def pK(ha:PT X a tA)(hb:PW X (.BoolOp .Or (b::rest) pos) H_):PW X (.BoolOp .Or (a::b::rest) pos) (tOr tA H_):=by
 intro wh pins s σ H Q I h;refine isTrue_or (thn (ha pins s σ H _ I h) λc s1 b9=>?_);obtain⟨H1,I1,q1⟩:=b9;cases c with
 |true=>exact#[H1,I1,q1]
 |false=>exact hb wh pins s1 σ H1 Q I1 q1
def pL(ha:PT X a tA):PT X (.UnaryOp .Not a pos) (tNot tA):=by
 intro pins s σ H Q I h;exact isTrue_not (ha pins s σ H (λc H1=>Q (!c) H1) I h)
def vM(ta tb:TE):TE:=λσ H Q=>ta σ H λx H1=>∃c,x=.bl c/\if c=true then tb σ H1 Q else Q (.bl false) H1
def vN(ta:TE):TE:=λσ H Q=>ta σ H λx H1=>∃c,x=.bl c/\Q (.bl (!c)) H1
def vO{op}{t:TE}(h:PE X a t):PE X (.BoolOp op [a] pos) t:=λpins s σ H Q I hw=>BoolOp_one (h pins s σ H Q I hw)
def vP(ha:PE X a ta)(hb:PE X (.BoolOp .And (b::rest) pos) tb):PE X (.BoolOp .And (a::b::rest) pos) (vM ta tb):=by
 intro pins s σ H Q I h;refine BoolOp_and (thn (ha pins s σ H _ I h) λv s1 b9=>?_);obtain⟨x,H1,I1,r1,q1⟩:=b9;obtain⟨c,rfl,q1⟩:=q1;cases r1;refine SM ?_;cases c with
 |true=>exact hb pins s1 σ H1 Q I1 q1
 |false=>exact#[.bl false,H1,I1,rfl,q1]
def vQ(ha:PE X a ta):PE X (.UnaryOp .Not a pos) (vN ta):=by
 intro pins s σ H Q I h;refine UnaryOp_ (thn (ha pins s σ H _ I h) λv s1 b9=>?_);obtain⟨x,H1,I1,r1,q1⟩:=b9;obtain⟨c,rfl,q1⟩:=q1;cases r1;exact not_of (SM #[.bl (!c),H1,I1,rfl,q1])
def tIf(t:TT)(ta tb:TE):TE:=λσ H Q=>t σ H λc H1=>if c=true then ta σ H1 Q else tb σ H1 Q
def vR{c:P3}(hc:PT X c tA)(ha:PE X a ta)(hb:PE X b tb):PE X (.IfExp c a b pos) (tIf tA ta tb):=by
 intro pins s σ H Q I h;refine wpAny_IfExp (thn (hc pins s σ H _ I h) λd s1 b9=>?_);obtain⟨H1,I1,q1⟩:=b9;cases d with
 |true=>exact ha pins s1 σ H1 Q I1 q1
 |false=>exact hb pins s1 σ H1 Q I1 q1
end
def SqL(K:Ex)(H:Hp)(a:KF)(xs:List V):Prop:=
 Rd H a (.lst xs)\/
  ∃(o:R_) (its:Array KB) (n:Nat),K.lookup a=be o/\o.cls=.type "list"/\o.dict=B_/\o.data=.seq its n/\its.size<=sizeLine/\Vals xs its.toList
def SqT(K:Ex)(H:Hp)(a:KF)(xs:List V):Prop:=
 Rd H a (.tup xs)\/
  ∃(o:R_) (its:Array KB) (n:Nat),K.lookup a=be o/\o.cls=.type "tuple"/\o.data=.seq its n/\its.size<=sizeLine/\Vals xs its.toList
def absV:KB->Option V
 |.none=>be .non
 |.bool b=>be (.bl b)
 |.int i _=>be (.int i)
 |.str x _=>be (.str x)
 |.bytes b _=>be (.byt b)
 |.float b _=>be (.flt b)
 |.ref a=>be (.ref a)
 |.type n=>be (.ty n)
 |_=>B_
variable{u:KB}
def RelV.abs{x:V}(r:RelV x u):absV u=be x:=by
 cases x with
 |non=>cases r;rfl
 |bl _=>cases r;rfl
 |int _=>obtain⟨t,rfl⟩:=r;rfl
 |str _=>obtain⟨t,rfl⟩:=r;rfl
 |byt _=>obtain⟨t,rfl⟩:=r;rfl
 |flt _=>obtain⟨t,rfl⟩:=r;rfl
 |ref _=>cases r;rfl
 |ty _=>cases r;rfl
def RelV.inj{x y:V}(r:RelV x u)(q:RelV y u):x=y:=Option.some.inj (r.abs.symm.trans q.abs)
def Vals.inj:∀{xs ys:List V} {us:List KB},Vals xs us->Vals ys us->xs=ys:=by
 intro xs ys us h;induction h generalizing ys with
 |nil=>intro g;cases g;rfl
 |cons r _ e=>
  intro g;cases g with
  |cons r' t'=>rw[r.inj r',e t']
section
variable {X:Cx}{pins:List (KF×R_)}{σ:St}{H:Hp}{s:KM}{a:KF}{xs ys:List V}
def SqL.of{K:Ex}(h:H a=be (.lst xs)):SqL K H a xs:=.inl (.inl h)
def SqT.of{K:Ex}(h:H a=be (.tup xs)):SqT K H a xs:=.inl (.inl h)
def Inv.list(I:Inv X pins σ H s)(h:SqL X.K H a xs):∃its:List KB,Vals xs its/\PlainL s.heap a its.toArray/\xs.length<=sizeLine:=by
 rcases h with h|⟨o,its,n,hk,hc,hd,hs,hz,r⟩
 .obtain⟨z,its,n,r,e⟩:=h.ok I.hok;exact#[its,r,#[_,n,e,rfl,rfl,rfl],z]
 .refine#[its.toList,r,#[o,n,I.kIn a o hk,hc,hd,by simpa using hs],?_];have e:=r.length;simp only[Hl]at e;lia
def Inv.tuple(I:Inv X pins σ H s)(h:SqT X.K H a xs):∃its:List KB,Vals xs its/\IsTup s.heap a its.toArray/\xs.length<=sizeLine:=by
 rcases h with h|⟨o,its,n,hk,hc,hs,hz,r⟩
 .obtain⟨z,its,r,p⟩:=h.ok I.hok;exact#[its,r,p,z]
 .refine#[its.toList,r,#[o,I.kIn a o hk,hc,n,by simpa using hs],?_];have e:=r.length;simp only[Hl]at e;lia
def Inv.list_inj(I:Inv X pins σ H s)(h:SqL X.K H a xs)(h':SqL X.K H a ys):xs=ys:=by
 obtain⟨its,r,⟨o,n,e,_,_,d⟩,_⟩:=I.list h;obtain⟨its',r',⟨o',n',e',_,_,d'⟩,_⟩:=I.list h';rw[e]at e';cases e';rw[d]at d';injection d' with d1 _;have:its=its':=by simpa using congrArg Array.toList d1
 subst this;exact r.inj r'
end
abbrev Cx.wish(X:Cx)(E:KB->KM->Prop):Cx:={X with xe:=E}
abbrev Cx.nox(X:Cx):Cx:=X.wish λ_ _=>False
def Cx.Ok.wish(ok:X.Ok)(E:KB->KM->Prop):(X.wish E).Ok:=
 #[ok.mod,ok.kind,ok.glob,ok.blt,ok.above,ok.inj,ok.has,ok.cab,ok.hd,ok.frames,ok.stk,ok.exf,ok.bs,ok.bsz,ok.noex,ok.exfs,ok.funs,ok.frf]
def Cx.Ok.unwish(ok:(X.wish E).Ok):X.Ok:=
 #[ok.mod,ok.kind,ok.glob,ok.blt,ok.above,ok.inj,ok.has,ok.cab,ok.hd,ok.frames,ok.stk,ok.exf,ok.bs,ok.bsz,ok.noex,ok.exfs,ok.funs,ok.frf]
section
variable {X:Cx}{pins:List (KF×R_)}{σ:St}{H:Hp}{s:KM}{E:KB->KM->Prop}
def Inv.wish(I:Inv X pins σ H s)(E:KB->KM->Prop):Inv (X.wish E) pins σ H s:=#[I.ok.wish E,I.os,I.bare,I.base,I.loc,I.cell,I.free,I.freeC,I.pin,I.hok,I.len]
def Inv.unwish(I:Inv (X.wish E) pins σ H s):Inv X pins σ H s:=#[I.ok.unwish,I.os,I.bare,I.base,I.loc,I.cell,I.free,I.freeC,I.pin,I.hok,I.len]
def SP.unwish{D:Ends}{f:Flow}{s':KM}(h:SP (X.wish E) pins D f s'):SP X pins D f s':=by
 cases f with
 |next=>obtain⟨σ',H',I,q⟩:=h;exact#[σ',H',I.unwish,q]
 |brk=>obtain⟨σ',H',I,q⟩:=h;exact#[σ',H',I.unwish,q]
 |cont=>obtain⟨σ',H',I,q⟩:=h;exact#[σ',H',I.unwish,q]
 |ret u=>obtain⟨v,σ',H',I,r,q⟩:=h;exact#[v,σ',H',I.unwish,r,q]
def PSs.nox{st:List RS}{t:TS}(h:PSs X.nox st t):PSs X st t:=λpins s σ H D I hw=>
 R7 (h pins s σ H D (I.wish _) hw) (λ_ _ q=>q.unwish) λ_ _ z=>False.elim z
end
section
variable {X:Cx}{st:RS}{rest:List RS}{t u:TS}{e:P3}{te:TE}{pos:R4}
def vS:TS:=λD σ H=>D.nx σ H
def tSeq(t u:TS):TS:=λD σ H=>t {D with nx:=u D} σ H
def pss_nil:PSs X [] vS:=λ_ _ σ H _ I h=>SJ #[σ,H,I,h]
def dM(h1:PS X st t)(h2:PSs X rest u):PSs X (st::rest) (tSeq t u):=by
 intro pins s σ H D I h;refine wpAny_execs_cons (thn (h1 pins s σ H {D with nx:=u D} I h) λf s1 q=>?_);cases f with
 |next=>
  obtain⟨σ',H',I',q⟩:=q;exact h2 pins s1 σ' H' D I' q
 |ret v=>exact q
 |brk=>exact q
 |cont=>exact q
def pM(h1:PS X st t):PSs X [st] t:=by
 intro pins s σ H D I h;refine wpAny_execs_cons (thn (h1 pins s σ H D I h) λf s1 q=>?_);cases f with
 |next=>exact SJ q
 |ret v=>exact q
 |brk=>exact q
 |cont=>exact q
def Inv.quiet{pins:List (KF×R_)}{σ:St}{H:Hp}{s:KM}(I:Inv X pins σ H s):interactive X.env=false:=by simp[interactive,I.ok.kind]
def vT(te:TE):TS:=λD σ H=>te σ H λ_ H1=>D.nx σ H1
def ju(he:PE X e te)(hs:autoParam (Sd e B_ pos.line X.env=pure false) zA0):PS X (.Expr e pos) (vT te):=by
 intro pins s σ H D I h;exact wpAny_Expr_any (thn (he pins s σ H _ I h) λv s1 ⟨x,H1,I1,r1,q1⟩=>#[σ,H1,I1,q1]) I.quiet hs
def tRet(te:TE):TS:=λD σ H=>te σ H D.rt
def pN(he:PE X e te):PS X (.Return (be e) pos) (tRet te):=by
 intro pins s σ H D I h;exact wpAny_Return_some (thn (he pins s σ H _ I h) λv s1 ⟨x,H1,I1,r1,q1⟩=>#[x,σ,H1,I1,r1,q1])
def tIfS(c:TT)(t u:TS):TS:=λD σ H=>c σ H λb H1=>if b=true then t D σ H1 else u D σ H1
def pO{c:P3}{a b:List RS}{tc:TT}(hc:PT X c tc)(ha:PSs X a t)(hb:PSs X b u):PS X (.If c a b pos) (tIfS tc t u):=by
 intro pins s σ H D I h;refine wpAny_If (thn (hc pins s σ H _ I h) λd s1 b9=>?_);obtain⟨H1,I1,q1⟩:=b9;cases d with
 |true=>exact ha pins s1 σ H1 D I1 q1
 |false=>exact hb pins s1 σ H1 D I1 q1
def vU:TS:=λ_ _ _=>False
def ps_never:PS X st vU:=λ_ _ _ _ _ _ h=>h.elim
end
abbrev TG:=V->St->Hp->(St->Hp->Prop)->Prop
abbrev TGs:=List V->St->Hp->(St->Hp->Prop)->Prop
def PG(X:Cx)(f8:P3)(t:TG):Prop:=
 ∀(pins:List (KF×R_)) (s:KM) (σ:St) (H:Hp) (v:V) (u:KB) (Q:St->Hp->Prop),Inv X pins σ H s->RelV v u->t v σ H Q->
  RT (RR X.prog X.w) X.A (So f8 X.env u) (λ_ s'=>∃σ' H',Inv X pins σ' H' s'/\Q σ' H') X.xe s
def PGs(X:Cx)(ts:List P3)(t:TGs):Prop:=
 ∀(pins:List (KF×R_)) (s:KM) (σ:St) (H:Hp) (vs:List V) (us:List KB) (Q:St->Hp->Prop),Inv X pins σ H s->Vals vs us->t vs σ H Q->
  RT (RR X.prog X.w) X.A (assignInOrder ((RY ts X.env).map (·.2)) us) (λ_ s'=>∃σ' H',Inv X pins σ' H' s'/\Q σ' H') X.xe s
abbrev TSet:=V->V->V->Hp->(Hp->Prop)->Prop
def PSet(X:Cx)(t:TSet):Prop:=
 ∀(pins:List (KF×R_)) (s:KM) (σ:St) (H:Hp) (o i v:V) (ov iv u:KB) (Q:Hp->Prop),Inv X pins σ H s->RelV o ov->RelV i iv->RelV v u->t o i v H Q->
  RT (RR X.prog X.w) X.A (Tf ov iv u) (λ_ s'=>∃H',Inv X pins σ H' s'/\Q H') X.xe s
abbrev TIp:=V->V->Hp->VK->Prop
def PIp(X:Cx)(op:Tp)(t:TIp):Prop:=
 ∀(pins:List (KF×R_)) (s:KM) (σ:St) (H:Hp) (x y:V) (v u:KB) (Q:VK),Inv X pins σ H s->RelV x v->RelV y u->t x y H Q->
  RT (RR X.prog X.w) X.A (inplaceOp op v u) (EP X pins σ Q) X.xe s
section
variable {X:Cx}{pos:R4}
def fW(i:Nat):TG:=λv σ H Q=>Q (σ.set i (be v)) H
def cZ{i:Nat}{x:Jj}(hN:X.N.Nodup)(hi:X.N[i]?=be x)(hx:Loc X.env.scope x)(hf:autoParam (zFN X x) zA3):PG X (.Name x pos) (fW i):=by
 intro pins s σ H v u Q I r h;exact S6 (fV I hN hi hx r (λs' I'=>#[_,H,I',h]) hf)
def gNil:TGs:=λvs σ H Q=>vs=[]/\Q σ H
def vV(t:TG)(u:TGs):TGs:=λvs σ H Q=>∃v r,vs=v::r/\t v σ H λσ' H'=>u r σ' H' Q
def vW:PGs X [] gNil:=by
 intro pins s σ H vs us Q I r h;obtain⟨e,h⟩:=h;subst e;cases r;exact assignInOrder_nil #[σ,H,I,h]
variable{e:P3}{es:List P3}
def vX{t:TG}{u:TGs}(h1:PG X e t)(h2:PGs X es u)
  (hs:autoParam ((RY (e::es) X.env).map (·.2)=So e X.env::(RY es X.env).map (·.2)) zA0):PGs X (e::es) (vV t u):=by
 intro pins s σ H vs us Q I r h;obtain⟨v,vr,e1,h⟩:=h;subst e1;cases r with
 |cons r rr=>
  rw[hs];refine assignInOrder_cons (thn (h1 pins s σ H _ _ _ I r h) λ_ s1 b9=>?_);obtain⟨σ1,H1,I1,q1⟩:=b9;exact h2 pins s1 σ1 H1 _ _ Q I1 rr q1
def gTup(K:Ex)(n:Nat)(t:TGs):TG:=λv σ H Q=>∃a xs,v=.ref a/\SqT K H a xs/\xs.length=n/\t xs σ H Q
def fX{k:Nat}{t:TGs}{n:Nat}(hc:X.calm=true)(h:PGs X es t)
  (hn:autoParam ((RY es X.env).length=n) zA0) (j8:autoParam ((RY es X.env).findIdx? (·.1)=none) zA0):PG X (.Tuple es k pos) (gTup X.K n t):=by
 intro pins s σ H v u Q I r hw;obtain⟨a,xs,e1,hq,hl,hw⟩:=hw;subst e1;cases r;obtain⟨its,rv,ht,hz⟩:=I.tuple hq;refine assign_Tuple_tuple (I.ok.hd hc) ht (by simp[hn,<-hl,rv.length]) j8 λh' hx=>?_;have I1:Inv X pins σ H {s with heap:=h'}:=I.kept (t':=s.toks) λb o e=>hx b o (FU (Heap.lt_size e)) e;exact h pins _ σ H xs _ Q I1 (by simpa using rv) hw
def gSub(to ti:TE)(t:TSet):TG:=λv σ H Q=>to σ H λo H1=>ti σ H1 λi H2=>t o i v H2 λH3=>Q σ H3
def pP{o i:P3}{to ti:TE}{t:TSet}(ho:PE X o to)(hi:PE X i ti)(hs:PSet X t)
  (ha:∀v,So (.Subscript o i pos) X.env v=(do
   let ov <-Si [v] (R1 o X.env)
   let iv <-Si [v,ov] (R1 i X.env)
   SA pos
   Si [v,ov,iv] (Tf ov iv v)
   Tw [v,ov,iv] []):=by intro _;rfl):PG X (.Subscript o i pos) (gSub to ti t):=by
 intro pins s σ H v u Q I r h;rw[ha];refine Os (Sg (thn (ho pins s σ H _ I h) λov s1 b9=>?_));obtain⟨x,H1,I1,r1,q1⟩:=b9;refine Os (Sg (thn (hi pins s1 σ H1 _ I1 q1) λiv s2 b9=>?_));obtain⟨y,H2,I2,r2,q2⟩:=b9;refine Os (Sx (Os (Sg (thn (hs pins s2 σ H2 x y v ov iv u _ I2 r1 r2 r q2) λ_ s3 b9=>?_))));obtain⟨H3,I3,q3⟩:=b9;exact wpAny_release #[σ,H3,I3,q3]
def tAsg(te:TE)(g:TG):TS:=λD σ H=>te σ H λx H1=>g x σ H1 D.nx
variable{te:TE}
def eY{tg:P3}{g:TG}(he:PE X e te)(hg:PG X tg g)(hs:autoParam (Sy [tg] e pos.line X.env=pure false) zA0)(hw:autoParam (Sz [tg] e X.env=pure none) zA0)
  (h1:autoParam ((RY [tg] X.env).map (·.2)=[So tg X.env]) zA0):PS X (.Assign [tg] e pos) (tAsg te g):=by
 intro pins s σ H D I h;refine wpAny_Assign_stores (thn (he pins s σ H _ I h) λv s1 hh=>?_) hs hw;obtain⟨x,H1,I1,r1,q1⟩:=hh;rw[h1];exact thn (hg pins s1 σ H1 x v _ I1 r1 q1) λ_ s2 q=>q
def jv{i:Nat}{x:Jj}{c7:R4}(hN:X.N.Nodup)(hi:X.N[i]?=be x)(hx:Loc X.env.scope x)(he:PE X e te)(hs:autoParam (Sd e (be (.Name x c7)) pos.line X.env=pure false) zA0)(hf:autoParam (zFN X x) zA3):
  PS X (.Assign [.Name x c7] e pos) (tAsg te (fW i)):=by
 intro pins s σ H D I h;refine wpAny_Assign_Name (thn (he pins s σ H _ I h) λv s1 hh=>?_) hs;obtain⟨y,H1,I1,r1,q1⟩:=hh;exact fV I1 hN hi hx r1 (λs2 I2=>#[_,H1,I2,q1]) hf
def vY(to ti te:TE)(I_:V->V->Hp->VK->Prop)(LX:TIp)(Ji:TSet):TS:=λD σ H=>to σ H λo H1=>ti σ H1 λi H2=>I_ o i H2 λx H3=>te σ H3 λy H4=>LX x y H4 λz H5=>Ji o i z H5 λH6=>D.nx σ H6
def PGet(X:Cx)(t:V->V->Hp->VK->Prop):Prop:=
 ∀(pins:List (KF×R_)) (s:KM) (σ:St) (H:Hp) (o i:V) (ov iv:KB) (Q:VK),Inv X pins σ H s->RelV o ov->RelV i iv->t o i H Q->
  RT (RR X.prog X.w) X.A (Tg ov iv) (EP X pins σ Q) X.xe s
def vZ{o i:P3}{to ti:TE}{I_:V->V->Hp->VK->Prop}{LX:TIp}{Ji:TSet}{op:Tp}{KZ:R4}(ho:PE X o to)(hi:PE X i ti)(hg:PGet X I_)(he:PE X e te)(hp:PIp X op LX)(hs:PSet X Ji)
  (ha:autoParam (∀ov iv new,augStore i ov iv new=(do Si [new,ov,iv] (Tf ov iv new);Tw [new,ov,iv] [];pure .next)) zA7):PS X (.AugAssign (.Subscript o i KZ) op e pos) (vY to ti te I_ LX Ji):=by
 intro pins s σ H D I h;refine wpAny_AugAssign_SubscriptAny (thn (ho pins s σ H _ I h) λov s1 hh=>?_) ha;obtain⟨x1,H1,I1,r1,q1⟩:=hh;refine thn (hi pins s1 σ H1 _ I1 q1) λiv s2 b9=>?_;obtain⟨x2,H2,I2,r2,q2⟩:=b9;refine thn (hg pins s2 σ H2 x1 x2 ov iv _ I2 r1 r2 q2) λl7 s3 b9=>?_;obtain⟨x3,H3,I3,r3,q3⟩:=b9;refine thn (he pins s3 σ H3 _ I3 q3) λv s4 b9=>?_;obtain⟨x4,H4,I4,r4,q4⟩:=b9;refine thn (hp pins s4 σ H4 x3 x4 l7 v _ I4 r3 r4 q4) λnew s5 b9=>?_;obtain⟨x5,H5,I5,r5,q5⟩:=b9;exact thn (hs pins s5 σ H5 x1 x2 x5 ov iv new _ I5 r1 r2 r5 q5) λ_ s6 ⟨H6,I6,q6⟩=>#[σ,H6,I6,q6]
def ipI(f:Int->Int->Int):TIp:=λx y H Q=>∃i j,x=.int i/\y=.int j/\Q (.int (f i j)) H
def wa:PIp X .Add (ipI λi j=>i+j):=by
 intro pins s σ H x y v u Q I r1 r2 h;obtain⟨i,j,e1,e2,q⟩:=h;subst e1;subst e2;obtain⟨t,rfl⟩:=r1;obtain⟨t',rfl⟩:=r2;exact iadd_int #[.int _,H,I.tok _,#[_,rfl],q]
def wb(c:TT)(tb:TS):TS:=λD σ H=>∃W:Nat->St->Hp->Prop,(∃m,W m σ H)/\∀m σ H,W m σ H->
 c σ H λb H1=>if b=true then ∃N:St->Hp->Prop,(∀σ' H',N σ' H'->∃m',m'<m/\W m' σ' H')/\tb {D with nx:=N,ct:=N,bk:=D.nx} σ H1 else D.nx σ H1
def pQ{c:P3}{body:List RS}{tc:TT}{tb:TS}(hp:Se (RR X.prog X.w) X.A X.env X.xe)(hc:PT X c tc)(hb:PSs X body tb):PS X (.While c body [] pos) (wb tc tb):=by
 intro pins s σ H D I h;obtain⟨W,⟨m0,w0⟩,c3⟩:=h;refine wpAny_While (codeAny_whileLoop (λn s'=>∃σ' H',Inv X pins σ' H' s'/\W n σ' H') ?_ m0 #[σ,H,I,w0]);rintro n s1⟨σ1,H1,I1,w1⟩;refine Sk hp (thn (hc pins s1 σ1 H1 _ I1 (c3 n σ1 H1 w1)) λb s2 b9=>?_);obtain⟨H2,I2,q2⟩:=b9;cases b with
 |true=>
  obtain⟨N,hN,q2⟩:=q2;rw[if_pos rfl];refine Sk hp (thn (hb pins s2 σ1 H2 _ I2 q2) λf s3 q3=>?_);cases f with
  |next=>
   obtain⟨σ3,H3,I3,n3⟩:=q3;obtain⟨m',hm,w3⟩:=hN σ3 H3 n3;exact#[m',hm,σ3,H3,I3,w3]
  |cont=>
   obtain⟨σ3,H3,I3,n3⟩:=q3;obtain⟨m',hm,w3⟩:=hN σ3 H3 n3;exact#[m',hm,σ3,H3,I3,w3]
  |brk=>exact q3
  |ret v=>exact q3
 |false=>
  rw[if_neg F8];exact SJ #[σ1,H2,I2,q2]
end
structure It where
 go:Nat->Hp->Prop
 yld:Nat->Hp->V->Hp->Prop
 stop:Nat->Hp->Prop
def FpOk(X:Cx)(pins:List (KF×R_))(H:Hp)(b:KF):Prop:=
 H b=B_/\b≠X.env.locals/\b∉X.fs/\(b∈X.ex\/X.s₀.heap.objs.size<=b)/\(∀x c,X.env.cells.lookup x=be c->c≠b)/\∀p∈X.pn++pins,p.1≠b
variable{σ:St}
def Inv.fpOk{pins:List (KF×R_)}{H':Hp}(I:Inv X pins σ H s)(hb:s.heap.objs.size<=b)(hn:H' b=B_):FpOk X pins H' b:=by
 refine#[hn,GF (Gd I.lt hb),I.nofs hb,.inr (FY I.sz hb),λx c e z=>?_,λp hp z=>?_]
 .obtain⟨v,q⟩:=I.cell x c e;exact absurd (Gd q.lt (by rw[z];exact hb)) (GJ _)
 .exact absurd (Gd (Heap.lt_size (I.pin p hp).1) (by rw[z];exact hb)) (GJ _)
structure Turn(P:RP)(w:RU)(K:Ex)(tg:P3)(J:It)(fp:List KF)(it:KF)(tn:Nat->Heap->Prop):Prop where
 mem:it∈fp
 obj:∀i h,tn i h->∀b∈fp,∃o,h.get? b=be o/\∀v,o.data≠.cell v
 keep:∀i h h',tn i h->(∀b∈fp,∀o,h.get? b=be o->h'.get? b=be o)->tn i h'
 item:∀(X:Cx),X.prog=P->X.w=w->X.K=K->X.calm=true->∀(i:Nat) (pins:List (KF×R_)) (s:KM) (σ:St) (H:Hp) (E:KB->KM->Prop),Inv X pins σ H s->(∀b∈fp,FpOk X pins H b)->tn i s.heap->J.go i H->
  RT (RR P w) X.A (pyNext (.ref it)) (λr s1=>∃u,r=be u/\
   RT (RR P w) X.A (SY tg (.ref it) u) (λ_ s2=>∃x H',Inv X pins σ H' s2/\RelV x u/\J.yld i H x H'/\tn (i+1) s2.heap/\∀b∈fp,H' b=B_) E s1) E s
 done:∀(X:Cx),X.prog=P->X.w=w->X.K=K->X.calm=true->∀(i:Nat) (pins:List (KF×R_)) (s:KM) (σ:St) (H:Hp) (E:KB->KM->Prop),Inv X pins σ H s->(∀b∈fp,FpOk X pins H b)->tn i s.heap->J.stop i H->
  RT (RR P w) X.A (pyNext (.ref it)) (λr s1=>r=B_/\Inv X pins σ H s1) E s
 self:∀(A:RV) (i:Nat) (s:KM) (Q:KB->KM->Prop) (E:KB->KM->Prop),tn i s.heap->Q (.ref it) s->RT (RR P w) A (pyIter (.ref it)) Q E s
abbrev TI:=St->Hp->(It->Hp->Prop)->Prop
def PIE(X:Cx)(pins:List (KF×R_))(σ:St)(tg:P3)(R:It->Hp->Prop)(LY:KB)(s2:KM):Prop:=
 ∃(it:KF) (fp:List KF) (tn:Nat->Heap->Prop) (J:It) (H':Hp),LY=.ref it/\Inv X pins σ H' s2/\Turn X.prog X.w X.K tg J fp it tn/\tn 0 s2.heap/\(∀b∈fp,FpOk X pins H' b)/\R J H'
def PI(X:Cx)(tg iter:P3)(wi:TI):Prop:=
 ∀(pins:List (KF×R_)) (s:KM) (σ:St) (H:Hp) (R:It->Hp->Prop),Inv X pins σ H s->wi σ H R->
  RT (RR X.prog X.w) X.A (R1 iter X.env) (λv s1=>RT (RR X.prog X.w) X.A (pyIter v) (PIE X pins σ tg R) X.xe s1) X.xe s
variable{tg:P3}
def jw{M:TU}{it:KF}{o:R_}{n:String}{vs:Array KB}{Q:Unit->KM->Prop}(ho:s.heap.get? it=be o)(hc:o.cls=.type n)(hd:o.data=.fields vs)
    (hn:["enumerate","zip","dict_itemiterator","dict_reverseitemiterator","odict_iterator","itertools.zip_longest","itertools.pairwise"].contains n=false) (hQ:Q () s):RT M A (SY tg (.ref it) u) Q E s:=by
  unfold SY;cases tg<;>first
    |exact RQ hQ
    |(cases u<;>first
        |exact RQ hQ
        |( refine Os (wpAny_load ho ?_)
           rw[hc,hd];show RT M A (if(["enumerate","zip","dict_itemiterator","dict_reverseitemiterator","odict_iterator","itertools.zip_longest","itertools.pairwise"].contains n&&vs[0]?==be (SV _))=true then _ else _) Q E s;rw[if_neg (by intro h;rw[hn,Bool.false_and]at h;cases h)];exact RQ hQ))
def Itl(K:Ex)(a:KF):It:=
 #[λi H=>∃xs x,SqL K H a xs/\xs[i]?=be x,λi H x H'=>H'=H/\∀xs,SqL K H a xs->xs[i]?=be x,λi H=>∃xs,SqL K H a xs/\xs.length<=i]
def Itr(lo:Int)(n:Nat):It:=#[λi _=>i<n,λi H x H'=>H'=H/\x=.int (lo+i),λi _=>n<=i]
variable{K:Ex}
def wc(a it:KF):Turn P w K tg (Itl K a) [it] it (λi h=>h.IsListIter it a i) where
 mem:=J8
 obj:=λi h st b hb=>by
  have e:b=it:=by simpa using hb
  subst e;obtain⟨o,e,c,d⟩:=st;exact#[o,e,λv z=>by rw[d]at z;cases z]
 keep:=λi h h' st k=>st.at λo e=>k it J8 o e
 item:=by
  intro X hP hw hK hc i pins s σ H E I hf st hg;subst hP hw hK;obtain⟨xs,x,hq,hx⟩:=hg;obtain⟨its,rv,p,hz⟩:=I.list hq;obtain⟨u,hu,ru⟩:=rv.get hx;obtain⟨f0,f1,f2,f3,f4,f5⟩:=hf it J8;refine wpAny_pyNext_list_item st p.isList (x:=u) (by simpa using hu) λh' t_ sb=>?_;have I1:Inv X pins σ H {s with heap:=h'}:=I.turned (t':=s.toks) (λb o hb e=>(sb.2 b hb).trans e) f0 f1 f3 f4 f5;obtain⟨o,e,c,d⟩:=id t_;exact#[u,rfl,jw (s:={s with heap:=h'}) e c d J7 #[x,H,I1,ru,#[rfl,λys hy=>by rw[I.list_inj hy hq];exact hx],t_,λb hb=>(hf b hb).1]]
 done:=by
  intro X hP hw hK hc i pins s σ H E I hf st hg;subst hP hw hK;obtain⟨xs,hq,hx⟩:=hg;obtain⟨its,rv,p,hz⟩:=I.list hq;obtain⟨f0,f1,f2,f3,f4,f5⟩:=hf it J8;have hl:=rv.length;exact wpAny_pyNext_list_end (I.ok.hd hc) st p.isList Sc λh' eb=>#[rfl,I.turned (t':=s.toks) (λb o hb e=>eb b o hb e) f0 f1 f3 f4 f5]
 self:=λ_ _ _ _ _ st h=>wpAny_pyIter_listiter st h
def we(it:KF)(lo:Int)(n:Nat):Turn P w K tg (Itr lo n) [it] it (λi h=>IsRangeIter h it (lo+(i:Nat)*1) ((n:Int)-(i:Nat)) 1) where
 mem:=J8
 obj:=λi h st b hb=>by
  have e:b=it:=by simpa using hb
  subst e;exact⟨_,st,λv z=>by
   have z':Data.fields _=Data.cell v:=z;cases z'⟩
 keep:=λi h h' st k=>k it J8 _ st
 item:=by
  intro X hP hw hK hc i pins s σ H E I hf st hg;subst hP hw hK;obtain⟨f0,f1,f2,f3,f4,f5⟩:=hf it J8;have W:=Walks.range (prog:=X.prog) (w:=X.w) (I.ok.hd hc) it lo 1 n;refine W.item i s _ _ hg st λv h' tk hv t_ kk=>?_;obtain⟨t,rfl⟩:=hv;have I1:Inv X pins σ H {s with heap:=h',toks:=tk}:=I.turned (λb o hb e=>kk b o (by simpa using hb) e) f0 f1 f3 f4 f5;refine#[_,rfl,jw (s:={s with heap:=h',toks:=tk}) (n:="range_iterator") t_ rfl rfl J7 #[.int (lo+i),H,I1,#[t,?_],#[rfl,rfl],t_,λb hb=>(hf b hb).1]];rw[Int.mul_one]
 done:=by
  intro X hP hw hK hc i pins s σ H E I hf st hg;subst hP hw hK;obtain⟨f0,f1,f2,f3,f4,f5⟩:=hf it J8;exact wpAny_pyNext_range_end (I.ok.hd hc) st (by have:n<=i:=hg;lia) λh' eb=>#[rfl,I.turned (t':=s.toks) (λb o hb e=>eb b o hb e) f0 f1 f3 f4 f5]
 self:=λ_ _ _ _ _ st h=>wpAny_pyIter_rangeiter st h
section
variable {X:Cx}{tg:P3}
def pR(K:Ex)(tl:TE):TI:=λσ H R=>tl σ H λx H1=>∃a,x=.ref a/\(∃xs,SqL K H1 a xs)/\R (Itl K a) H1
def jx{l:P3}{tl:TE}(hl:PE X l tl):PI X tg l (pR X.K tl):=by
 intro pins s σ H R I h;refine thn (hl pins s σ H _ I h) λv s1 b9=>?_;obtain⟨x,H1,I1,r1,q1⟩:=b9;obtain⟨a,e,⟨xs,hq⟩,q⟩:=q1;subst e;cases r1;obtain⟨its,rv,p,hz⟩:=I1.list hq;refine wpAny_pyIter_list p.isList ?_;refine#[s1.heap.objs.size,[s1.heap.objs.size],_,_,H1,rfl,I1.kept (t':=s1.toks) λb o e=>Heap.get?_push_of_some _ e,wc a _,#[_,Heap.get?_push_size _ rfl,rfl,rfl],λb hb=>?_,q];have e:b=s1.heap.objs.size:=by simpa using hb
 subst e;exact I1.fpOk (FR _) (I1.hok.fresh (FR _))
variable{pins:List (KF×R_)}{σ:St}{H:Hp}{s:KM}
def pS{R:It->Hp->Prop}{E:KB->KM->Prop}{lo hi:Int}{t u v:Ub}{tk:Nat}(I:Inv X pins σ H s)(h1:-(2^62)<=lo)(h2:lo<2^62)(h3:-(2^62)<=hi)(h4:hi<2^62)
  (q:R (Itr lo (hi-lo).toNat) H):RT (RR X.prog X.w) X.A (pyIter (.ref s.heap.objs.size)) (PIE X pins σ tg R) E {s with heap:=s.heap.push {cls:=.type "range",data:=.fields [.int lo t,.int hi u,.int 1 v].toArray},toks:=tk}:=by
 refine wpAny_pyIter_range (IsRange.new ..) (small_one h1 h2 h3 h4) ?_;have I1:Inv X pins σ H {s with heap:=s.heap.push {cls:=.type "range",data:=.fields [.int lo t,.int hi u,.int 1 v].toArray},toks:=tk}:=I.kept λb o e=>Heap.get?_push_of_some _ e;refine⟨(s.heap.push {cls:=.type "range",data:=.fields [.int lo t,.int hi u,.int 1 v].toArray}).objs.size,[(s.heap.push {cls:=.type "range",data:=.fields [.int lo t,.int hi u,.int 1 v].toArray}).objs.size],_,_,H,rfl,
  I1.kept (t':=tk) λb o e=>Heap.get?_push_of_some _ e,we _ lo (hi-lo).toNat,?_,λb hb=>?_,q⟩
 .have e1:lo+((0:Nat):Int)*1=lo:=by simp
  have e2:(((hi-lo).toNat:Nat):Int)-((0:Nat):Int)=Builtin.Range.rangeSize lo hi 1:=by rw[rangeSize_one];split<;>lia
  show IsRangeIter _ _ (lo+((0:Nat):Int)*1) ((((hi-lo).toNat:Nat):Int)-((0:Nat):Int)) 1;rw[e1,e2];exact Heap.get?_push_size _ rfl
 .have e:b=(s.heap.push {cls:=.type "range",data:=.fields [.int lo t,.int hi u,.int 1 v].toArray}).objs.size:=by simpa using hb
  subst e;exact I1.fpOk (FR _) (I1.hok.fresh (FR _))
def pT(ta:TA):TI:=λσ H R=>ta σ H λvs H1=>∃j:Int,vs=[.int j]/\-(2^62)<=j/\j<2^62/\R (Itr 0 j.toNat) H1
def wg(ta:TA):TI:=λσ H R=>ta σ H λvs H1=>∃i j:Int,vs=[.int i,.int j]/\(-(2^62)<=i/\i<2^62/\-(2^62)<=j/\j<2^62)/\R (Itr i (j-i).toNat) H1
variable{pos:R4}
def jy{a:P3}{ta:TA}{p:R4}(hg:Gl X "range")(hm:X.mg "range"=B_)(ha:PA X [a] ta)(hs:autoParam (RW [a] X.env=[(false,R1 a X.env)]) zA0):PI X tg (.Call (.Name "range" p) [a] [] pos) (pT ta):=by
 intro pins s σ H R I h;refine Call_ (cY I hg hm boot_range (PyProof.Rows.callWith_type1 (thn (ha pos pins s σ H _ I h) λus s1 hh=>?_) hs rfl));obtain⟨vs,H1,I1,r1,q1⟩:=hh;obtain⟨j,e,q1,q2,q⟩:=q1;subst e;cases r1 with
 |cons r rr=>
  cases rr;obtain⟨t,rfl⟩:=r;exact call_range_1 (pS I1 JZ JZ q1 q2 (by simpa using q))
def wj{a b:P3}{ta:TA}{p:R4}(hg:Gl X "range")(hm:X.mg "range"=B_)(ha:PA X [a,b] ta)(hs:autoParam (RW [a,b] X.env=[(false,R1 a X.env),(false,R1 b X.env)]) zA0)(l8:autoParam (RW [b] X.env=[(false,R1 b X.env)]) zA0):
  PI X tg (.Call (.Name "range" p) [a,b] [] pos) (wg ta):=by
 intro pins s σ H R I h;refine Call_ (cY I hg hm boot_range (PyProof.Rows.callWith_type1 (thn (ha pos pins s σ H _ I h) λus s1 hh=>?_) (by rw[hs,l8]) (by rw[l8];rfl)));obtain⟨vs,H1,I1,r1,q1⟩:=hh;obtain⟨i,j,e,⟨q1,q2,q3,q4⟩,q⟩:=q1;subst e;cases r1 with
 |cons r rr=>
  cases rr with
  |cons r' rr=>
   cases rr;obtain⟨t,rfl⟩:=r;obtain⟨t',rfl⟩:=r';exact call_range_2 (pS I1 q1 q2 q3 q4 q)
def tFor(wi:TI)(g:TG)(tb:TS):TS:=λD σ H=>wi σ H λJ H1=>∃W:Nat->Nat->St->Hp->Prop,(∃m,W 0 m σ H1)/\∀i m σ H,W i m σ H->
 (J.stop i H/\D.nx σ H)\/(J.go i H/\∃N:St->Hp->Prop,(∀σ' H',N σ' H'->∃m',m'<m/\W (i+1) m' σ' H')/\∀x H',J.yld i H x H'->g x σ H' λσ2 H2=>tb {D with nx:=N,ct:=N,bk:=D.nx} σ2 H2)
def fY(fp:List KF)(h:Heap):List (KF×R_):=fp.filterMap λb=>(h.get? b).map λo=>(b,o)
variable{fp:List KF}
def dN{h:Heap}{b:KF}{o:R_}(hb:b∈fp)(e:h.get? b=be o):(b,o)∈fY fp h:=Ij.mpr #[b,hb,by rw[e];rfl]
def wk{h:Heap}{p:KF×R_}(hp:p∈fY fp h):p.1∈fp/\h.get? p.1=be p.2:=by
 obtain⟨b,hb,e⟩:=Ij.mp hp;cases q:h.get? b with
 |none=>rw[q]at e;cases e
 |some o=>
  rw[q]at e;have e':(b,o)=p:=Option.some.inj e;subst e';exact#[hb,q]
def Inv.pinned(I:Inv X pins σ H s)(hf:∀b∈fp,FpOk X pins H b)(ho:∀b∈fp,∃o,s.heap.get? b=be o/\∀v,o.data≠.cell v):Inv X (pins++fY fp s.heap) σ H s:=
 I.pins_of λp hp=>(Go.mp hp).elim (λz=>I.pin p (Ge _ z)) λz=>by
  obtain⟨hb,e⟩:=wk z;obtain⟨f0,f1,f2,_⟩:=hf p.1 hb;obtain⟨o,e',d⟩:=ho p.1 hb;rw[e]at e';cases e';exact#[e,f0,f1,f2,d]
def Inv.unpinned{pl:List (KF×R_)}(I:Inv X (pins++pl) σ H s):Inv X pins σ H s:=I.pins_of λp hp=>I.pin p (Ge _ (G8 _ hp))
def cH{iter:P3}{body:List RS}{wi:TI}{g:TG}{tb:TS}(hp:Se (RR X.prog X.w) X.A X.env X.xe)(hc:X.calm=true)(hi:PI X tg iter wi)(hg:PG X tg g)(hb:PSs X body tb)
  (hs:∀x,Ua iter X.env x=pure x:=by intro _;rfl):PS X (.For tg iter body [] pos) (tFor wi g tb):=by
 intro pins s σ H D I h;refine wpAny_For (thn (hi pins s σ H _ I h) λv s1 h1=>thn h1 λLY s2 h2=>?_) hs;obtain⟨it,fp,tn,J,H2,e,I2,T,q9,f2,W,⟨m0,w0⟩,c3⟩:=h2;subst e;have n4:∀{H':Hp},(∀b∈fp,H' b=B_)->∀b∈fp,FpOk X pins H' b:=λhn b hb=>#[hn b hb,(f2 b hb).2];refine codeAny_forLoop_any (λn s'=>∃i σ' H',Inv X pins σ' H' s'/\tn i s'.heap/\(∀b∈fp,H' b=B_)/\W i n σ' H') ?_ m0 #[0,σ,H2,I2,q9,λb hb=>(f2 b hb).1,w0];rintro n s3⟨i,σ3,H3,I3,C_,OQ,w3⟩;rcases c3 i n σ3 H3 w3 with⟨stop,qn⟩|⟨go,N,hN,step⟩
 .refine Sk hp (thn (T.done X rfl rfl rfl hc i pins s3 σ3 H3 X.xe I3 (n4 OQ) C_ stop) λr s4 b9=>?_);obtain⟨hr,I4⟩:=b9;subst hr;exact SJ #[σ3,H3,I4,qn]
 .refine Sk hp (thn (T.item X rfl rfl rfl hc i pins s3 σ3 H3 X.xe I3 (n4 OQ) C_ go) λr s4 b9=>?_);obtain⟨u,hr,h4⟩:=b9;subst hr;refine Sk hp (thn h4 λ_ s5 b9=>?_);obtain⟨x,H5,I5,r5,y5,Jk,MC⟩:=b9;have PU:=I5.pinned (n4 MC) (T.obj _ _ Jk);refine Sk hp (thn (hg _ s5 σ3 H5 x u _ PU r5 (step x H5 y5)) λ_ s6 b9=>?_);obtain⟨σ6,H6,I6,q6⟩:=b9;refine Sk hp (thn (hb _ s6 σ6 H6 _ I6 q6) λf s7 q7=>?_);have again:∀{σ7:St} {H7:Hp},Inv X (pins++fY fp s5.heap) σ7 H7 s7->N σ7 H7->∃m,m<n/\∃i σ' H',Inv X pins σ' H' s7/\tn i s7.heap/\(∀b∈fp,H' b=B_)/\W i m σ' H':=λ{σ7 H7} I7 n7=>by
   obtain⟨m',hm,w7⟩:=hN σ7 H7 n7;refine#[m',hm,i+1,σ7,H7,I7.unpinned,T.keep _ _ _ Jk λb hb o e=>(I7.pin (b,o) (Ge _ (Ge _ (dN hb e)))).1,λb hb=>?_,w7];obtain⟨o,e,d⟩:=T.obj _ _ Jk b hb;exact(I7.pin (b,o) (Ge _ (Ge _ (dN hb e)))).2.1
  cases f with
  |next=>obtain⟨σ7,H7,I7,n7⟩:=q7;exact again I7 n7
  |cont=>obtain⟨σ7,H7,I7,n7⟩:=q7;exact again I7 n7
  |brk=>obtain⟨σ7,H7,I7,q7⟩:=q7;exact#[σ7,H7,I7.unpinned,q7]
  |ret v=>obtain⟨x7,σ7,H7,I7,r7,q7⟩:=q7;exact#[x7,σ7,H7,I7.unpinned,r7,q7]
end
def jz{g:TG}{tb:TS}{D:Ends}(Pv:Nat->St->Hp->Prop)(h0:Pv 0 σ H)(hl:∀i σ H,i<=xs.length->Pv i σ H->SqL K H a xs)
  (hs:∀i x σ H,xs[i]?=be x->Pv i σ H->g x σ H λσ2 H2=>tb {D with nx:=Pv (i+1),ct:=Pv (i+1),bk:=D.nx} σ2 H2) (hd:∀σ H,Pv xs.length σ H->D.nx σ H):
  ∃W:Nat->Nat->St->Hp->Prop,(∃m,W 0 m σ H)/\∀i m σ H,W i m σ H->
   ((Itl K a).stop i H/\D.nx σ H)\/((Itl K a).go i H/\∃N:St->Hp->Prop,(∀σ' H',N σ' H'->∃m',m'<m/\W (i+1) m' σ' H')/\∀x H',(Itl K a).yld i H x H'->g x σ H' λσ2 H2=>tb {D with nx:=N,ct:=N,bk:=D.nx} σ2 H2):=by
 refine#[λi m σ H=>m=xs.length-i/\i<=xs.length/\Pv i σ H,#[xs.length,J8,Gh _,h0],?_];rintro i m σ H ⟨rfl,hi,p⟩;have q:=hl i σ H hi p;by_cases d9:i<xs.length
 .refine .inr #[#[xs,xs[i],q,by simp[d9]],Pv (i+1),λσ' H' p'=>#[xs.length-(i+1),JZ,rfl,d9,p'],λx H' y=>?_];obtain⟨e,y⟩:=y;subst e;exact hs i x σ _ (y xs q) p
 .have e:i=xs.length:=by lia
  subst e;exact .inl #[#[xs,q,FR _],hd σ H p]
def jA{lo:Int}{n:Nat}{g:TG}{tb:TS}{D:Ends}(Pv:Nat->St->Hp->Prop)(h0:Pv 0 σ H)
  (hs:∀i σ H,i<n->Pv i σ H->g (.int (lo+i)) σ H λσ2 H2=>tb {D with nx:=Pv (i+1),ct:=Pv (i+1),bk:=D.nx} σ2 H2) (hd:∀σ H,Pv n σ H->D.nx σ H):
  ∃W:Nat->Nat->St->Hp->Prop,(∃m,W 0 m σ H)/\∀i m σ H,W i m σ H->
   ((Itr lo n).stop i H/\D.nx σ H)\/((Itr lo n).go i H/\∃N:St->Hp->Prop,(∀σ' H',N σ' H'->∃m',m'<m/\W (i+1) m' σ' H')/\∀x H',(Itr lo n).yld i H x H'->g x σ H' λσ2 H2=>tb {D with nx:=N,ct:=N,bk:=D.nx} σ2 H2):=by
 refine#[λi m σ H=>m=n-i/\i<=n/\Pv i σ H,#[n,J8,Gh _,h0],?_];rintro i m σ H ⟨rfl,hi,p⟩;by_cases d9:i<n
 .refine .inr #[d9,Pv (i+1),λσ' H' p'=>#[n-(i+1),JZ,rfl,d9,p'],λx H' y=>?_];obtain⟨e,y⟩:=y;subst e y;exact hs i σ _ d9 p
 .have e:i=n:=by lia
  subst e;exact .inl #[FR _,hd σ H p]
abbrev R2:=V->V->Hp->VK->Prop
def OpR(X:Cx)(f:KB->KB->TJ KB)(r:R2):Prop:=
 ∀(pins:List (KF×R_)) (s:KM) (σ:St) (H:Hp) (x y:V) (v u:KB) (Q:VK),Inv X pins σ H s->RelV x v->RelV y u->r x y H Q->
  RT (RR X.prog X.w) X.A (f v u) (EP X pins σ Q) X.xe s
def UnR(X:Cx)(f:KB->TJ KB)(r:V->Hp->VK->Prop):Prop:=
 ∀(pins:List (KF×R_)) (s:KM) (σ:St) (H:Hp) (x:V) (v:KB) (Q:VK),Inv X pins σ H s->RelV x v->r x H Q->
  RT (RR X.prog X.w) X.A (f v) (EP X pins σ Q) X.xe s
def bO(X:Cx)(f:KB)(r:List V->Hp->VK->Prop):Prop:=
 ∀(pins:List (KF×R_)) (s:KM) (σ:St) (H:Hp) (xs:List V) (us:List KB) (Q:VK),Inv X pins σ H s->Vals xs us->r xs H Q->
  RT (RR X.prog X.w) X.A (call f us) (EP X pins σ Q) X.xe s
def TruR(X:Cx)(r:V->Hp->(Bool->Hp->Prop)->Prop):Prop:=
 ∀(pins:List (KF×R_)) (s:KM) (σ:St) (H:Hp) (x:V) (v:KB) (Q:Bool->Hp->Prop),Inv X pins σ H s->RelV x v->r x H Q->
  RT (RR X.prog X.w) X.A (truthy v) (TP X pins σ Q) X.xe s
def tOp(r:R2)(ta tb:TE):TE:=λσ H Q=>ta σ H λx H1=>tb σ H1 λy H2=>r x y H2 Q
def tUn(r:V->Hp->VK->Prop)(ta:TE):TE:=λσ H Q=>ta σ H λx H1=>r x H1 Q
def rI(C:Int->Int->Prop)(g:Int->Int->V):R2:=λx y H Q=>∃i j,x=.int i/\y=.int j/\C i j/\Q (g i j) H
def rI0(g:Int->Int->V):R2:=λx y H Q=>∃i j,x=.int i/\y=.int j/\Q (g i j) H
def rU(g:Int->V):V->Hp->VK->Prop:=λx H Q=>∃i,x=.int i/\Q (g i) H
section
variable {X:Cx}{a b c:P3}{ta tb tc:TE}{pos:R4}
variable{f:KB->KB->TJ KB}
def binT(ha:PE X a ta)(hb:PE X b tb){pins:List (KF×R_)}{s:KM}{σ:St}{H:Hp}{R:V->V->Hp->Prop}(I:Inv X pins σ H s)
  (h:ta σ H λx H1=>tb σ H1 λy H2=>R x y H2) {Q:KB->KM->Prop} 
  (hf:∀v u s2 x y H2,Inv X pins σ H2 s2->RelV x v->RelV y u->R x y H2->RT (RR X.prog X.w) X.A (f v u) Q X.xe s2):
  RT (RR X.prog X.w) X.A (R1 a X.env) (λv s₁=>RT (RR X.prog X.w) X.A (R1 b X.env) (λu s₂=>RT (RR X.prog X.w) X.A (f v u) Q X.xe s₂) X.xe s₁) X.xe s:=by
 refine thn (ha pins s σ H _ I h) λv s1 b9=>?_;obtain⟨x,H1,I1,r1,q1⟩:=b9;refine thn (hb pins s1 σ H1 _ I1 q1) λu s2 b9=>?_;obtain⟨y,H2,I2,r2,q2⟩:=b9;exact hf v u s2 x y H2 I2 r1 r2 q2
def jB{op:Tp}{r:R2}(ho:OpR X (Sj op) r)(ha:PE X a ta)(hb:PE X b tb):PE X (.BinOp a op b pos) (tOp r ta tb):=by
 intro pins s σ H Q I h;exact wpAny_BinOp (binT ha hb I h λv u s2 x y H2 I2 rx ry q=>ho pins s2 σ H2 x y v u Q I2 rx ry q)
def wl{op:UnaryOp}{r:V->Hp->VK->Prop}(ho:UnR X (unaryOp op) r)(ha:PE X a ta):PE X (.UnaryOp op a pos) (tUn r ta):=by
 intro pins s σ H Q I h;exact UnaryOp_ (thn (ha pins s σ H _ I h) λv s1 ⟨x,H1,I1,r1,q1⟩=>ho pins s1 σ H1 x v Q I1 r1 q1)
variable{g:Int->Int->Int}
def opI{C:Int->Int->Prop}
  (rule:∀(i j:Int) (t u:Ub) (s:KM) (Q:KB->KM->Prop) (E:KB->KM->Prop),C i j->Q (.int (g i j) s.toks) {s with toks:=s.toks+1}->RT (RR X.prog X.w) X.A (f (.int i t) (.int j u)) Q E s):
  OpR X f (rI C λi j=>.int (g i j)):=by
 intro pins s σ H x y v u Q I rx ry h;obtain⟨i,j,rfl,rfl,hc,q⟩:=h;obtain⟨t,rfl⟩:=rx;obtain⟨t',rfl⟩:=ry;exact rule i j t t' s _ _ hc #[.int (g i j),H,I.tok _,#[_,rfl],q]
def opI0
  (rule:∀(i j:Int) (t u:Ub) (s:KM) (Q:KB->KM->Prop) (E:KB->KM->Prop),Q (.int (g i j) s.toks) {s with toks:=s.toks+1}->RT (RR X.prog X.w) X.A (f (.int i t) (.int j u)) Q E s):
  OpR X f (rI0 λi j=>.int (g i j)):=by
 intro pins s σ H x y v u Q I rx ry h;obtain⟨i,j,rfl,rfl,q⟩:=h;obtain⟨t,rfl⟩:=rx;obtain⟨t',rfl⟩:=ry;exact rule i j t t' s _ _ #[.int (g i j),H,I.tok _,#[_,rfl],q]
def opB0{g:Int->Int->Bool}
  (rule:∀(i j:Int) (t u:Ub) (s:KM) (Q:KB->KM->Prop) (E:KB->KM->Prop),Q (.bool (g i j)) s->RT (RR X.prog X.w) X.A (f (.int i t) (.int j u)) Q E s):
  OpR X f (rI0 λi j=>.bl (g i j)):=by
 intro pins s σ H x y v u Q I rx ry h;obtain⟨i,j,rfl,rfl,q⟩:=h;obtain⟨t,rfl⟩:=rx;obtain⟨t',rfl⟩:=ry;exact rule i j t t' s _ _ #[.bl (g i j),H,I,rfl,q]
def CDiv(i j:Int):Prop:=0<j/\j<1073741824
def CMul(i j:Int):Prop:=(-(2^64)<i/\i<2^64)\/(-(2^64)<j/\j<2^64)
def CMul.ok{i j:Int}(h:CMul i j):IntMulOk i j:=by
 rcases h with⟨h1,h2⟩|⟨h1,h2⟩
 .exact .of_left (intBits_le_64 h1 h2)
 .exact .of_right (intBits_le_64 h1 h2)
def wm:OpR X (Sj .Add) (rI0 λi j=>.int (i+j)):=opI0 λ_ _ _ _ _ _ _ q=>add_int q
def pU:OpR X (Sj .Sub) (rI0 λi j=>.int (i-j)):=opI0 λ_ _ _ _ _ _ _ q=>sub_int q
def wn:OpR X (Sj .Mult) (rI CMul λi j=>.int (i*j)):=opI λ_ _ _ _ _ _ _ hc q=>mul_int q hc.ok
def wo:OpR X (Sj .FloorDiv) (rI CDiv λi j=>.int (i/j)):=opI λi j _ _ _ _ _ hc q=>by
 have h1:(0:Int)<j:=hc.1;have h2:j<1073741824:=hc.2;exact floordiv_int JZ (by rw[Int.fdiv_eq_ediv_of_nonneg i JZ];exact q) (.inl (PyProof.noPylong_small JZ))
def wp:OpR X (Sj .Mod) (rI (λ_ j=>0<j) λi j=>.int (i%j)):=opI λi j _ _ _ _ _ hc q=>by
 have h1:(0:Int)<j:=hc;exact mod_int' JZ (by rw[Int.fmod_eq_emod_of_nonneg i JZ];exact q)
def wq:OpR X (Sj .Mod) (rI (λ_ j=>j≠0) λi j=>.int (i.fmod j)):=opI λ_ _ _ _ _ _ _ hc q=>mod_int' hc q
def unI{f:KB->TJ KB}{g:Int->Int}
  (rule:∀(i:Int) (t:Ub) (s:KM) (Q:KB->KM->Prop) (E:KB->KM->Prop),Q (.int (g i) s.toks) {s with toks:=s.toks+1}->RT (RR X.prog X.w) X.A (f (.int i t)) Q E s):
  UnR X f (rU λi=>.int (g i)):=by
 intro pins s σ H x v Q I rx h;obtain⟨i,rfl,q⟩:=h;obtain⟨t,rfl⟩:=rx;exact rule i t s _ _ #[.int (g i),H,I.tok _,#[_,rfl],q]
def wr:UnR X (unaryOp .USub) (rU λi=>.int (-i)):=unI λ_ _ _ _ _ q=>neg_int q
end
def scal:V->V->Bool
 |.non,.non=>true|.non,.int _=>true|.int _,.non=>true|.non,.bl _=>true|.bl _,.non=>true|.non,.str _=>true|.str _,.non=>true
 |.int _,.int _=>true|.bl _,.bl _=>true|.str _,.str _=>true|.byt _,.byt _=>true
 |.int _,.str _=>true|.str _,.int _=>true|.bl _,.str _=>true|.str _,.bl _=>true
 |_,_=>false
def rEq:R2:=λx y H Q=>scal x y=true/\Q (.bl (decide (x=y))) H
def rNe:R2:=λx y H Q=>scal x y=true/\Q (.bl (!decide (x=y))) H
def pV{i j:Int}:decide (V.int i=V.int j)=(i==j):=by
 rw[Hm];simp
def pW{i j:Bool}:decide (V.bl i=V.bl j)=(i==j):=by
 rw[Hm];simp
def pX{i j:Jj}:decide (V.str i=V.str j)=(i==j):=by
 rw[Hm];simp
def pY{i j:Array UInt8}:decide (V.byt i=V.byt j)=(i.toList==j.toList):=by
 rw[Hm];cases i;cases j;simp
section
variable {X:Cx}{a b c:P3}{ta tb tc:TE}{pos:R4}
def aQ{pins:List (KF×R_)}{σ:St}{H:Hp}{s:KM}{Q:VK}{k k':Bool}(I:Inv X pins σ H s)(q:Q (.bl k) H)(e:k=k'):EP X pins σ Q (.bool k') s:=by
 subst e;exact#[.bl k,H,I,rfl,q]
def jC:OpR X (R8 .Eq) rEq:=by
 intro pins s σ H x y v u Q I rx ry h;obtain⟨hs,q⟩:=h;cases x with
 |non=>
  cases rx;cases y with
  |non=>cases ry;exact PySem.EqNone.eq_none_none (aQ I q J8)
  |bl j=>cases ry;exact PySem.EqNone.eq_none_bool (aQ I q J8)
  |int j=>obtain⟨t',rfl⟩:=ry;exact PySem.EqNone.eq_none_int (aQ I q J8)
  |str j=>obtain⟨t',rfl⟩:=ry;exact PySem.EqNone.eq_none_str (aQ I q J8)
  |_=>exact absurd (show false=true from hs) F8
 |bl i=>
  cases rx;cases y with
  |non=>cases ry;exact PySem.EqNone.eq_bool_none (aQ I q J8)
  |bl j=>cases ry;exact eq_bool (aQ I q pW)
  |str j=>obtain⟨t',rfl⟩:=ry;exact PySem.EqMixed.eq_bool_str (aQ I q J8)
  |_=>exact absurd (show false=true from hs) F8
 |int i=>
  obtain⟨t,rfl⟩:=rx;cases y with
  |non=>cases ry;exact PySem.EqNone.eq_int_none (aQ I q J8)
  |int j=>obtain⟨t',rfl⟩:=ry;exact eq_int (aQ I q pV)
  |str j=>obtain⟨t',rfl⟩:=ry;exact PySem.EqMixed.eq_int_str (aQ I q J8)
  |_=>exact absurd (show false=true from hs) F8
 |str i=>
  obtain⟨t,rfl⟩:=rx;cases y with
  |non=>cases ry;exact PySem.EqNone.eq_str_none (aQ I q J8)
  |bl j=>cases ry;exact PySem.EqMixed.eq_str_bool (aQ I q J8)
  |int j=>obtain⟨t',rfl⟩:=ry;exact PySem.EqMixed.eq_str_int (aQ I q J8)
  |str j=>obtain⟨t',rfl⟩:=ry;exact eq_str (aQ I q pX)
  |_=>exact absurd (show false=true from hs) F8
 |byt i=>
  obtain⟨t,rfl⟩:=rx;cases y with
  |byt j=>obtain⟨t',rfl⟩:=ry;exact eq_bytes (aQ I q pY)
  |_=>exact absurd (show false=true from hs) F8
 |_=>cases y<;>exact absurd (show false=true from hs) F8
def pZ:OpR X (R8 .NotEq) rNe:=by
 intro pins s σ H x y v u Q I rx ry h;obtain⟨hs,q⟩:=h;cases x with
 |non=>
  cases rx;cases y with
  |non=>cases ry;exact PySem.EqNone.ne_none_none (aQ I q J8)
  |bl j=>cases ry;exact PySem.EqNone.ne_none_bool (aQ I q J8)
  |int j=>obtain⟨t',rfl⟩:=ry;exact PySem.EqNone.ne_none_int (aQ I q J8)
  |str j=>obtain⟨t',rfl⟩:=ry;exact PySem.EqNone.ne_none_str (aQ I q J8)
  |_=>exact absurd (show false=true from hs) F8
 |bl i=>
  cases rx;cases y with
  |non=>cases ry;exact PySem.EqNone.ne_bool_none (aQ I q J8)
  |bl j=>cases ry;exact ne_bool (aQ I q (congrArg not pW))
  |str j=>obtain⟨t',rfl⟩:=ry;exact PySem.EqMixed.ne_bool_str (aQ I q J8)
  |_=>exact absurd (show false=true from hs) F8
 |int i=>
  obtain⟨t,rfl⟩:=rx;cases y with
  |non=>cases ry;exact PySem.EqNone.ne_int_none (aQ I q J8)
  |int j=>obtain⟨t',rfl⟩:=ry;exact ne_int (aQ I q (congrArg not pV))
  |str j=>obtain⟨t',rfl⟩:=ry;exact PySem.EqMixed.ne_int_str (aQ I q J8)
  |_=>exact absurd (show false=true from hs) F8
 |str i=>
  obtain⟨t,rfl⟩:=rx;cases y with
  |non=>cases ry;exact PySem.EqNone.ne_str_none (aQ I q J8)
  |bl j=>cases ry;exact PySem.EqMixed.ne_str_bool (aQ I q J8)
  |int j=>obtain⟨t',rfl⟩:=ry;exact PySem.EqMixed.ne_str_int (aQ I q J8)
  |str j=>obtain⟨t',rfl⟩:=ry;exact ne_str (aQ I q (congrArg not pX))
  |_=>exact absurd (show false=true from hs) F8
 |byt i=>
  obtain⟨t,rfl⟩:=rx;cases y with
  |byt j=>obtain⟨t',rfl⟩:=ry;exact ne_bytes (aQ I q (congrArg not pY))
  |_=>exact absurd (show false=true from hs) F8
 |_=>cases y<;>exact absurd (show false=true from hs) F8
def qa:OpR X (R8 .Lt) (rI0 λi j=>.bl (decide (i<j))):=opB0 λ_ _ _ _ _ _ _ q=>lt_int q
def jD:OpR X (R8 .Gt) (rI0 λi j=>.bl (decide (j<i))):=opB0 λ_ _ _ _ _ _ _ q=>gt_int q
def qc:OpR X (R8 .Is) (λx y H Q=>y=.non/\Q (.bl (decide (x=.non))) H):=by
 intro pins s σ H x y v u Q I rx ry h;obtain⟨rfl,q⟩:=h;cases ry;refine is_none_gen (aQ I q ?_);cases x<;>first
  |(cases rx;rfl)
  |(obtain⟨t,rfl⟩:=rx;rfl)
def wt:OpR X (R8 .IsNot) (λx y H Q=>y=.non/\Q (.bl (!decide (x=.non))) H):=by
 intro pins s σ H x y v u Q I rx ry h;obtain⟨rfl,q⟩:=h;cases ry;refine isnot_none_gen (aQ I q ?_);cases x<;>first
  |(cases rx;rfl)
  |(obtain⟨t,rfl⟩:=rx;rfl)
variable{r:R2}
def OpR.or{f:KB->KB->TJ KB}{r':R2}(h:OpR X f r)(h':OpR X f r'):OpR X f (λx y H Q=>r x y H Q\/r' x y H Q):=by
 intro pins s σ H x y v u Q I rx ry q;rcases q with q|q
 .exact h pins s σ H x y v u Q I rx ry q
 .exact h' pins s σ H x y v u Q I rx ry q
variable{op:TX}
def nomark(b:P3)(h:autoParam (op≠.In) zA1)(h2:autoParam (op≠.NotIn) zA1):Sh op b=false:=by
 have e1:(op==CmpOp.In)=false:=by cases op<;>first|rfl|exact absurd rfl h
 have e2:(op==CmpOp.NotIn)=false:=by cases op<;>first|rfl|exact absurd rfl h2
 cases b<;>simp[Sh,e1,e2]
def qd(ho:OpR X (R8 op) r)(ha:PE X a ta)(hb:PE X b tb)(hm:Sh op b=false):PE X (.Compare a [op] [b] pos) (tOp r ta tb):=by
 intro pins s σ H Q I h;exact wpAny_Compare1 (binT ha hb I h λv u s2 x y H2 I2 rx ry q=>ho pins s2 σ H2 x y v u Q I2 rx ry q) hm
def wu(t:TE):TT:=λσ H Q=>t σ H λx H'=>∃k,x=.bl k/\Q k H'
def qe(ho:OpR X (R8 op) r)(ha:PE X a ta)(hb:PE X b tb)(hm:Sh op b=false):PT X (.Compare a [op] [b] pos) (wu (tOp r ta tb)):=by
 intro pins s σ H Q I h;refine wpAny_isTrue_Compare1 (thn (ha pins s σ H _ I h) λv s1 ⟨x,H1,I1,r1,q1⟩=>thn (hb pins s1 σ H1 _ I1 q1) λu s2 ⟨y,H2,I2,r2,q2⟩=>
  thn (ho pins s2 σ H2 x y v u _ I2 r1 r2 q2) λc s3 hh=>?_) hm
 obtain⟨z,H3,I3,r3,k,e,q3⟩:=hh;subst e;cases r3;exact SM #[H3,I3,q3]
def TruV(K:Ex)(x:V)(H:Hp)(k:Bool):Prop:=
 match x with
 |.non=>k=false
 |.bl b=>k=b
 |.int i=>k=(i !=0)
 |.str y=>y.length<=sizeLine/\k=((y.length:Int) !=0)
 |.byt y=>y.size<=sizeLine/\k=((y.size:Int) !=0)
 |.ref p=>(∃xs,SqL K H p xs/\k=!xs.isEmpty)\/(∃xs,SqT K H p xs/\k=!xs.isEmpty)\/∃a9,H p=be (.dK a9)/\k=!a9.isEmpty
 |_=>False
def wv{κ:Type}{a9:List (κ×V)}{vs:List (κ×KB)}(r:KV a9 vs):(!vs.isEmpty)=!a9.isEmpty:=by
 cases r<;>rfl
def isEmpty_of{xs:List V}{its:List KB}(r:Vals xs its):(!its.toArray.isEmpty)=!xs.isEmpty:=by
 cases r<;>simp
def line63:(sizeLine:Nat)<2^63:=by rw[SO];decide
def ww:TruR X (λx H Q=>∃k,TruV X.K x H k/\Q k H):=by
 intro pins s σ H x v Q I rx h;obtain⟨k,e,q⟩:=h;have hl:=line63;have hs:sizeLine=16777216:=SO;cases x with
 |non=>
  cases rx;have e':k=false:=e;subst e';exact truthy_none #[H,I,q]
 |bl b=>
  cases rx;have e':k=b:=e;subst e';exact SM #[H,I,q]
 |int i=>
  obtain⟨t,rfl⟩:=rx;have e':k=(i !=0):=e;subst e';exact PySem.P.truthy_int #[H,I,q]
 |str y=>
  obtain⟨t,rfl⟩:=rx;obtain⟨hy,e'⟩:y.length<=sizeLine/\k=((y.length:Int) !=0):=e;subst e';exact PySem.P.truthy_str JZ #[H,I.tok _,q]
 |byt y=>
  obtain⟨t,rfl⟩:=rx;obtain⟨hy,e'⟩:y.size<=sizeLine/\k=((y.size:Int) !=0):=e;subst e';exact truthy_bytes JZ #[H,I.tok _,q]
 |ref p=>
  cases rx;have e':(∃xs,SqL X.K H p xs/\k=!xs.isEmpty)\/(∃xs,SqT X.K H p xs/\k=!xs.isEmpty)\/∃a9,H p=be (.dK a9)/\k=!a9.isEmpty:=e;rcases e' with⟨xs,hx,e'⟩|⟨xs,hx,e'⟩|⟨a9,hx,e'⟩
  .subst e';obtain⟨its,r,pl,hz⟩:=I.list hx;have b8:=r.length;exact wpAny_truthy_list pl.isList (by simp only[FX];lia) #[H,I.tok _,by rw[isEmpty_of r];exact q]
  .subst e';obtain⟨its,r,pl,hz⟩:=I.tuple hx;have b8:=r.length;exact truthy_tuple pl (by simp only[FX];lia) #[H,I.tok _,by rw[isEmpty_of r];exact q]
  .subst e';obtain⟨hz,hS,vs,r,m⟩:a9.length<=sizeLine/\(p==Sl)=false/\∃vs,KV a9 vs/\s.heap.DictOf (bF X.prog X.w) p vs:=I.hok p _ hx;have b8:a9.length=vs.length:=Paired.length r;exact wpAny_truthy_dict hS m JZ #[H,I.tok _,by rw[wv r];exact q]
 |_=>exact(show False from e).elim
def qf(ha:PE X a ta)(he:∀d8,isTrue a X.env d8=(do let v <-d8;SA a.pos;Si [v] (truthy v))):
  PT X a (λσ H Q=>ta σ H λx H'=>∃k,TruV X.K x H' k/\Q k H'):=by
 intro pins s σ H Q I h;exact isTrue_plain (thn (ha pins s σ H _ I h) λv s1 ⟨x,H1,I1,r1,q1⟩=>ww pins s1 σ H1 x v Q I1 r1 q1) (he _)
def wx:OpR X (Sj .Add) (λx y H Q=>∃i j,x=.str i/\y=.str j/\i.length+j.length<=sizeLine/\Q (.str (i++j)) H):=by
 intro pins s σ H x y v u Q I rx ry h;obtain⟨i,j,rfl,rfl,hz,q⟩:=h;obtain⟨t,rfl⟩:=rx;obtain⟨t',rfl⟩:=ry;exact add_str (λt' tk=>#[.str (i++j),H,I.tok _,#[_,rfl],q]) hz
variable{us:List KB}
def bZ{x:V}(r:Vals [x] us):∃u,us=[u]/\RelV x u:=by
 cases r with
 |cons r1 r2=>cases r2;exact#[_,rfl,r1]
def eZ{x y:V}(r:Vals [x,y] us):∃u w',us=[u,w']/\RelV x u/\RelV y w':=by
 cases r with
 |cons r1 r2=>
  cases r2 with
  |cons r3 r4=>cases r4;exact#[_,_,rfl,r1,r3]
def wy:bO X (.builtin "abs") (λxs H Q=>∃i,xs=[.int i]/\Q (.int (if i<0 then -i else i)) H):=by
 intro pins s σ H xs us Q I r h;obtain⟨i,rfl,q⟩:=h;obtain⟨u,rfl,t,rfl⟩:=bZ r;exact call_abs_int λu tk=>#[.int (if i<0 then -i else i),H,I.tok _,#[_,rfl],q]
def wz(hc:X.calm=true):bO X (.builtin "max") (λxs H Q=>∃i j,xs=[.int i,.int j]/\Q (.int (if j>i then j else i)) H):=by
 intro pins s σ H xs us Q I r h;obtain⟨i,j,rfl,q⟩:=h;obtain⟨u,w',rfl,⟨t,rfl⟩,⟨t',rfl⟩⟩:=eZ r;refine max_two_ints (I.ok.hd hc) λh' tk k=>#[_,H,I.kept k,?_,q];by_cases hj:j>i
 .rw[if_pos hj,if_pos hj];exact#[_,rfl]
 .rw[if_neg hj,if_neg hj];exact#[_,rfl]
def wA(hc:X.calm=true):bO X (.builtin "min") (λxs H Q=>∃i j,xs=[.int i,.int j]/\Q (.int (if j<i then j else i)) H):=by
 intro pins s σ H xs us Q I r h;obtain⟨i,j,rfl,q⟩:=h;obtain⟨u,w',rfl,⟨t,rfl⟩,⟨t',rfl⟩⟩:=eZ r;refine min_two_ints (I.ok.hd hc) λh' tk k=>#[_,H,I.kept k,?_,q];by_cases hj:j<i
 .rw[if_pos hj,if_pos hj];exact#[_,rfl]
 .rw[if_neg hj,if_neg hj];exact#[_,rfl]
def wB:bO X (.type "int") (λxs H Q=>(∃i,xs=[.int i]/\Q (.int i) H)\/∃k,xs=[.bl k]/\Q (.int (if k then 1 else 0)) H):=by
 intro pins s σ H xs us Q I r h;rcases h with⟨i,rfl,q⟩|⟨k,rfl,q⟩
 .obtain⟨u,rfl,t,rfl⟩:=bZ r;exact call_int_int #[.int i,H,I,#[_,rfl],q]
 .obtain⟨u,rfl,r1⟩:=bZ r;cases r1;exact call_int_bool #[.int (if k then 1 else 0),H,I.tok _,#[_,rfl],q]
def wC:bO X (.type "str") (λxs H Q=>∃i,xs=[.int i]/\i.natAbs.log2<1920/\Q (.str (toString i)) H):=by
 intro pins s σ H xs us Q I r h;obtain⟨i,rfl,hz,q⟩:=h;obtain⟨u,rfl,t,rfl⟩:=bZ r;exact PySem.P.str_of_int hz #[.str _,H,I.tok _,#[_,rfl],q]
def LenV(K:Ex)(x:V)(H:Hp)(n:Nat):Prop:=
 match x with
 |.str y=>y.length<=sizeLine/\n=y.length
 |.byt y=>y.size<=sizeLine/\n=y.size
 |.ref p=>(∃xs,SqL K H p xs/\n=xs.length)\/∃xs,SqT K H p xs/\n=xs.length
 |_=>False
def jE:bO X (.builtin "len") (λxs H Q=>∃x n,xs=[x]/\LenV X.K x H n/\Q (.int n) H):=by
 intro pins s σ H xs us Q I r h;obtain⟨x,n,rfl,e,q⟩:=h;obtain⟨u,rfl,rx⟩:=bZ r;have hl:=line63;have hs:sizeLine=16777216:=SO;cases x with
 |str y=>
  obtain⟨t,rfl⟩:=rx;obtain⟨hy,e'⟩:y.length<=sizeLine/\n=y.length:=e;subst e';exact len_str JZ #[.int _,H,I.tok _,#[_,rfl],q]
 |byt y=>
  obtain⟨t,rfl⟩:=rx;obtain⟨hy,e'⟩:y.size<=sizeLine/\n=y.size:=e;subst e';exact len_bytes JZ #[.int _,H,I.tok _,#[_,rfl],q]
 |ref p=>
  cases rx;have e':(∃xs,SqL X.K H p xs/\n=xs.length)\/∃xs,SqT X.K H p xs/\n=xs.length:=e;rcases e' with⟨xs,hx,e'⟩|⟨xs,hx,e'⟩
  .subst e';obtain⟨its,r',pl,hz⟩:=I.list hx;have b8:=r'.length;exact Calls.call_len_list pl.isList (by simp only[FX];lia) #[.int xs.length,H,I.tok _,#[_,by simp only[FX];rw[b8]],q]
  .subst e';obtain⟨its,r',pl,hz⟩:=I.tuple hx;have b8:=r'.length;exact len_tuple pl (by simp only[FX];lia) #[.int xs.length,H,I.tok _,#[_,by simp only[FX];rw[b8]],q]
 |_=>exact(show False from e).elim
end
structure ObjM(h:Heap)(x dx C:KF)(mA:Str->Option KB):Prop where
 obj:h.get? x=be (instObj C dx)
 ns:h.Ns1 dx mA
 ne:dx≠x
variable{mA:Jj->Option KB}
def qg{dx:KF}(n:h.Ns1 dx mA):∃od,h.get? dx=be od/\∀name,lookIn name od=be (mA name):=by
 obtain⟨o,es,ep,ho,hd,hk,_,hm⟩:=n;refine#[o,ho,λname=>?_];have e:=hm name;unfold nsFind findBy at e;rw[<-Array.find?_toList]at e;unfold lookIn;rw[hd];dsimp only;split
 .rename_i y q;rw[q]at e;exact congrArg be e
 .rename_i q;rw[q]at e;have a:es.toList.any (·.refKey)=false:=by
   rw[List.any_eq_false];intro y hy;obtain⟨z,t,n5⟩:=hk y (Array.mem_toList_iff.mp hy);simp[DictEntry.refKey,n5]
  have a':¬es.toList.any (·.refKey)=true:=by rw[a];exact F8
  rw[if_neg a'];exact congrArg be e
variable{C:KF}
def ObjM.look{x dx:KF}(I:ObjM h x dx C mA):∃od,PySem.W.InstAt h x (instObj C dx) C (be od)/\∀name,lookIn name od=be (mA name):=
 let ⟨od,ho,hl⟩:=qg I.ns
 #[od,#[I.obj,rfl,rfl,ho],hl]
section
variable {prog:RP}{w:RU}{A:RV}{E:KB->KM->Prop}{s:KM}{K:Ex}{x dx C f:KF}{mA:Jj->Option KB}{name:Jj}{v:KB}
def wD{v9:Bool}{Q:KB->KM->Prop}(X:K.In s.heap)(I:ObjM s.heap x dx C mA)(hg:plainGet K C name=true)(hh:hasDictIn K C=true)
  (ha:FS K (.ref C) name=be B_) (hv:mA name=be v) (PV:Ik v=true) (h:Q v {s with toks:=s.toks+1}):
  RT (RR prog w) A (TB (.ref x) name v9) Q E s:=by
 obtain⟨od,J,hl⟩:=I.look;exact get_value X J (plainGet_of hg).1 (findObj_own hh ha rfl (by rw[hl,hv])) PV h
def wE{pl:TJ Bool}{Q:KB×List KB->KM->Prop}(X:K.In s.heap)(I:ObjM s.heap x dx C mA)(hg:plainGet K C name=true)
  (hf:FS K (.ref C) name=be (be (.ref f))) (ht:isFn K (.ref f)=true) (hv:mA name=B_) (h:Q (.ref f,[.ref x]) s):
  RT (RR prog w) A (S2 (.ref x) name pl) Q E s:=by
 obtain⟨od,J,hl⟩:=I.look;exact method_fn X J (plainGet_of hg).1 (plainGet_of hg).2 hf (beq_iff_eq.mp ht) (by show(lookIn name od).map (·.isSome)=be false;rw[hl,hv];rfl) h
def wF{ns:List Jj}{Q:Unit->KM->Prop}(X:K.In s.heap)(I:ObjM s.heap x dx C mA)
  (hs:FS K (.ref C) "__setattr__"=be (be (.builtin "object.__setattr__"))) (hp:plainOver K C=true) (ht:takerIn K C name=be B_) (hh:hasDictIn K C=true)
  (hw:PySem.Within mA ns) (i_:ns.length<=sizeLine)
  (h:∀h',ObjM h' x dx C (λy=>if y=name then be v else mA y)->Heap.SameBut dx s.heap h'->Q () {s with heap:=h',toks:=s.toks+2}):
  RT (RR prog w) A (T9 (.ref x) name v) Q E s:=by
 obtain⟨od,J,hl⟩:=I.look;refine PySem.W.set_plain X J hs (osa_open (s:={s with toks:=s.toks+1}) (r:=B_) X J hp ht λb=>?_);obtain⟨cd,hc,d7⟩:=any_some hh;have hx:s.heap.get? x=be #[.ref C,be dx,.plain,[].toArray]:=I.obj;refine Os (RQ (Os (Os (Th hx (Os (PySem.W.Looks.here (s:={s with toks:=s.toks+1}) (PySem.W.looks_clsIn X hc) ?_))))));rw[d7];refine RQ (a:=be dx) (Os (RQ (Os ?_)));refine Tt (s:={s with toks:=s.toks+1}) I.ns λh' J0 l8=>?_;obtain⟨oD,OR,OS,K1,K2,K3⟩:=J0.count (PySem.Within.cons name v hw);refine Os (S8 K1 (by rw[K2];exact S' (FY K3 (by rw[FV];lia))) ?_);exact RQ (h _ #[(l8.2 _ (Ne.symm I.ne)).trans I.obj,J0,I.ne] l8)
def wG{R:Result->KM->Prop}{vs:List KB}{kw:List (Jj×KB)}(X:K.In s.heap)(hm:makesIn K C=true)
  (hi:FS K (.ref C) "__init__"=be (be (.ref f))) (hf:PySem.W.typeIn K (.ref f)=be (.type "function"))
  (h:S3 (RR prog w) (A.under (.builtin "type.__call__" #[.ref C::vs,kw])) (.call (.ref f) #[.ref (s.heap.objs.size+1)::vs,kw]) (InitBack (s.heap.objs.size+1) R)
   {s with heap:=(s.heap.push emptyDict).push (instObj C s.heap.objs.size)}):
  S3 (RR prog w) A (.call (.ref C) #[vs,kw]) R s:=by
 obtain⟨hh,g,d,t,os⟩:=s;exact make_core (makes_of X hm) (PySem.W.looks_findIn X hi) (λself=>PySem.W.bind_fn X self hf) (.inl rfl) h
end
def putF(f:Jj)(v:V):List (Jj×V)->List (Jj×V)
 |[]=>[(f,v)]
 |(g,x)::r=>if g=f then(g,v)::r else(g,x)::putF f v r
def qh(f g:Jj)(v:V):∀fs:List (Jj×V),(putF f v fs).lookup g=if g=f then be v else fs.lookup g
 |[]=>by
  show GK g [(f,v)]=_;by_cases h:g=f
  .have hb:(g==f)=true:=beq_iff_eq.mpr h;simp only[GK,hb,if_pos h]
  .have hb:(g==f)=false:=beq_eq_false_iff_ne.mpr h;simp only[GK,hb,if_neg h]
 |(k,x)::r=>by
  have ih:=qh f g v r;rw[show putF f v ((k,x)::r)=(if k=f then(k,v)::r else(k,x)::putF f v r)from rfl];by_cases hk:k=f
  .rw[if_pos hk];by_cases h:g=k
   .have hb:(g==k)=true:=beq_iff_eq.mpr h;simp only[GK,hb,if_pos (h.trans hk)]
   .have hb:(g==k)=false:=beq_eq_false_iff_ne.mpr h;simp only[GK,hb,if_neg (λe:g=f=>h (e.trans hk.symm))]
  .rw[if_neg hk];by_cases h:g=k
   .have hb:(g==k)=true:=beq_iff_eq.mpr h;simp only[GK,hb,if_neg (λe:g=f=>hk (h.symm.trans e))]
   .have hb:(g==k)=false:=beq_eq_false_iff_ne.mpr h;simp only[GK,hb];exact ih
def jF(f:Jj)(v:V):∀fs:List (Jj×V),f∈(putF f v fs).map (·.1)/\∀g,g∈fs.map (·.1)->g∈(putF f v fs).map (·.1)
 |[]=>#[by simp[putF],λg h=>by simp at h]
 |(k,x)::r=>by
  obtain⟨i1,i2⟩:=jF f v r;rw[show putF f v ((k,x)::r)=(if k=f then(k,v)::r else(k,x)::putF f v r)from rfl];by_cases hk:k=f
  .rw[if_pos hk];subst hk;exact#[J8,λg h=>by simpa using h]
  .rw[if_neg hk];refine#[?_,λg h=>?_]
   .rw[Gi];exact FW _ i1
   .rw[Gi]at h ⊢;rcases FT.mp h with e|e
    .exact FT.mpr (.inl e)
    .exact FW _ (i2 g e)
def qi(f:Jj)(v:V):∀fs:List (Jj×V),(putF f v fs).length<=fs.length+1
 |[]=>by simp[putF]
 |(k,x)::r=>by
  have ih:=qi f v r;rw[show putF f v ((k,x)::r)=(if k=f then(k,v)::r else(k,x)::putF f v r)from rfl];by_cases hk:k=f
  .rw[if_pos hk,FV,FV];lia
  .rw[if_neg hk,FV,FV];lia
def RelO.some_of{v:V}{o:Option KB}(r:RelO (be v) o):∃u,o=be u/\RelV v u:=by
 cases o with
 |none=>exact(show False from r).elim
 |some u=>exact#[u,rfl,r]
def RelO.none_of{o:Option KB}(r:RelO B_ o):o=none:=by
 cases o with
 |none=>rfl
 |some u=>exact(show False from r).elim
def qj{v:V}(r:RelV v u):Ik u=true:=by
 cases v with
 |non=>cases(show u=Value.none from r);rfl
 |bl b=>cases(show u=Value.bool b from r);rfl
 |int i=>obtain⟨t,e⟩:=(show ∃t,u=Value.int i t from r);cases e;rfl
 |str x=>obtain⟨t,e⟩:=(show ∃t,u=Value.str x t from r);cases e;rfl
 |byt b=>obtain⟨t,e⟩:=(show ∃t,u=Value.bytes b t from r);cases e;rfl
 |flt b=>obtain⟨t,e⟩:=(show ∃t,u=Value.float b t from r);cases e;rfl
 |ref a=>cases(show u=Value.ref a from r);rfl
 |ty n=>cases(show u=Value.type n from r);rfl
section
variable {P:RP}{w:RU}{H H':Hp}{h h':Heap}{a C dx:KF}{fs k8:List (Jj×V)}
def fZ(hok:HOk P w H h)(e:H a=be (.ins C dx fs)):∃mA,ObjM h a dx C mA/\(∀f,RelO (fs.lookup f) (mA f))/\PySem.Within mA (fs.map (·.1))/\fs.length<=1000/\H dx=be (.own a):=by
 obtain⟨d,z,ne,ob,mA,n,r,q⟩:=(show ObjOk P w H h a (.ins C dx fs)from hok a _ e);exact#[mA,#[ob,n,ne],r,q,z,d]
end
structure Cls(K:Ex)(C:KF):Prop where
 pg:plainGet K C Str.empty=true
 hd:hasDictIn K C=true
 po:plainOver K C=true
 sa:FS K (.ref C) "__setattr__"=be (be (.builtin "object.__setattr__"))
def Cls.get(c:Cls K C)(f:Jj):plainGet K C f=true:=c.pg
def NoAttr(K:Ex)(C:KF)(f:Jj):Prop:=FS K (.ref C) f=be B_
def NoAttr.taker{f:Jj}(n:NoAttr K C f):takerIn K C f=be none:=by
 unfold takerIn;rw[show FS K (.ref C) f=be B_ from n];rfl
structure Meth(K:Ex)(C:KF)(m:Str)(f:KF):Prop where
 at_:FS K (.ref C) m=be (be (.ref f))
 fn:isFn K (.ref f)=true
 kp:keepIn K (.ref f)=true
section
variable {X:Cx}{pins:List (KF×R_)}{σ:St}{H:Hp}{s:KM}{a C dx:KF}{fs:List (Jj×V)}{f:Jj}{v:V}{A:RV}{E:KB->KM->Prop}
variable{Q:KB->KM->Prop}
def wH{b:Bool}(I:Inv X pins σ H s)(e:H a=be (.ins C dx fs))(c:Cls X.K C)(n:NoAttr X.K C f)(l:fs.lookup f=be v)
  (h:∀u s',Inv X pins σ H s'->RelV v u->Q u s'):RT (RR X.prog X.w) A (TB (.ref a) f b) Q E s:=by
 obtain⟨mA,O,r,_,_,_⟩:=fZ I.hok e;obtain⟨u,hu,ru⟩:=RelO.some_of (v:=v) (o:=mA f) (by rw[<-l];exact r f);exact wD I.kIn O (c.get f) c.hd n hu (qj ru) (h u _ (I.tok _) ru)
def jG{m:Jj}{g:KF}{pl:TJ Bool}{Q:KB×List KB->KM->Prop}(I:Inv X pins σ H s)(e:H a=be (.ins C dx fs))(c:Cls X.K C)(k:Meth X.K C m g)(l:fs.lookup m=B_)
  (h:Q (.ref g,[.ref a]) s):RT (RR X.prog X.w) A (S2 (.ref a) m pl) Q E s:=by
 obtain⟨mA,O,r,_,_,_⟩:=fZ I.hok e;have hn:mA m=none:=RelO.none_of (by rw[<-l];exact r m);exact wE I.kIn O (c.get m) k.at_ k.fn hn h
def wI{y:V}{u:KB}{Q:Unit->KM->Prop}(I:Inv X pins σ H s)(e:H a=be (.ins C dx fs))(c:Cls X.K C)(n:NoAttr X.K C f)(hl:fs.length<1000)(ry:RelV y u)
  (h:∀s',Inv X pins σ (upd H a (.ins C dx (putF f y fs))) s'->Q () s'):RT (RR X.prog X.w) A (T9 (.ref a) f u) Q E s:=by
 obtain⟨mA,O,r,wi,_,ho⟩:=fZ I.hok e;have hz:(fs.map (·.1)).length<=sizeLine:=by rw[F4,SO];lia
 refine wF I.kIn O c.sa c.po n.taker c.hd wi hz λh' O' sb=>h _ ?_;have hd:∃o,h'.get? dx=be o:=let ⟨o,_,_,e',_⟩:=O'.ns;#[o,e']
 refine I.write (x:=a) (e:=dx) (by rw[e];exact True.intro) (.inr ho) (λb q hb z=>(sb.2 b hb).trans z) hd ?_;refine#[by rw[aj O.ne];exact ho,?_,O.ne,O'.obj,_,O'.ns,λg=>?_,λg hg=>?_]
 .have:=qi f y fs;lia
 .show RelO ((putF f y fs).lookup g) (if g=f then be u else mA g);rw[qh];by_cases q:g=f
  .rw[if_pos q,if_pos q];exact ry
  .rw[if_neg q,if_neg q];exact r g
 .by_cases q:g=f
  .rw[q];exact(jF f y fs).1
  .refine(jF f y fs).2 g (wi g λz=>hg ?_);show(if g=f then be u else mA g)=B_;rw[if_neg q];exact z
def Inv.made(I:Inv X pins σ H s):Inv X pins σ (upd (upd H s.heap.objs.size (.own (s.heap.objs.size+1))) (s.heap.objs.size+1) (.ins C s.heap.objs.size []))
  {s with heap:=(s.heap.push emptyDict).push (instObj C s.heap.objs.size)}:=by
 have e1:(s.heap.push emptyDict).get? s.heap.objs.size=be emptyDict:=Heap.get?_push_size s.heap rfl;have e2:((s.heap.push emptyDict).push (instObj C s.heap.objs.size)).get? (s.heap.objs.size+1)=be (instObj C s.heap.objs.size):=by
  have:=Heap.get?_push_size (s.heap.push emptyDict) (o:=instObj C s.heap.objs.size) rfl;rwa [Heap.size_push]at this
 have e3:(s.heap.push emptyDict).Ns s.heap.objs.size (λ_=>B_):=#[emptyDict,[].toArray,_,e1,rfl,(λe he=>absurd he J8),λ_=>rfl];have I1:=I.laid (a:=s.heap.objs.size) (o:=.own (s.heap.objs.size+1)) (h':=s.heap.push emptyDict) (t':=s.toks) (λb u q=>Heap.get?_push_of_some _ q) (FR _) #[_,e1];refine I1.laid (a:=s.heap.objs.size+1) (o:=.ins C s.heap.objs.size []) (t':=s.toks) (λb u q=>Heap.get?_push_of_some _ q) (Hn (Heap.size_push _ _)) ?_;have ne:s.heap.objs.size≠s.heap.objs.size+1:=FU (Il _);refine#[by rw[aj ne,ax],Gh _,ne,e2,λ_=>B_,(Heap.Ns1.of_empty e3).at λo q=>Heap.get?_push_of_some _ q,λ_=>True.intro,λy hy=>absurd rfl hy]
def attr_of{prog:RP}{w:RU}{env:SL}{e:P3}{f:Jj}{pos:R4}{s:KM}(hb:RZ e f env (R1 e env)=R1 e env)
  (h:RT (RR prog w) A (R1 e env) (λo s₁=>RT (RR prog w) A (TB o f true) Q E s₁) E s):RT (RR prog w) A (R1 (.Attribute e f pos) env) Q E s:=
 Attribute_any_ h (by rw[arm_eval_Attribute,hb])
end
def tFld(K:Ex)(ta:TE)(f:Jj):TE:=λσ H Q=>ta σ H λx H1=>∃a C dx fs v,x=.ref a/\H1 a=be (.ins C dx fs)/\Cls K C/\NoAttr K C f/\fs.lookup f=be v/\Q v H1
def sFld(K:Ex)(ta tv:TE)(f:Jj):TS:=λD σ H=>tv σ H λy H1=>ta σ H1 λx H2=>∃a C dx fs,x=.ref a/\H2 a=be (.ins C dx fs)/\Cls K C/\NoAttr K C f/\fs.length<1000/\
 D.nx σ (upd H2 a (.ins C dx (putF f y fs)))
section
variable {X:Cx}{o e value:P3}{f:Jj}{pos c7 KZ:R4}{ta tv:TE}
def qk(he:PE X e ta)(hb:RZ e f X.env (R1 e X.env)=R1 e X.env):PE X (.Attribute e f pos) (tFld X.K ta f):=by
 intro pins s σ H Q I h;refine attr_of hb (thn (he pins s σ H _ I h) λu s1 b9=>?_);obtain⟨x,H1,I1,rx,a,C,dx,fs,v,ex,ea,c,n,l,q⟩:=b9;subst ex;obtain rfl:u=Value.ref a:=rx;exact wH I1 ea c n l λu' s2 I2 ru=>#[v,H1,I2,ru,q]
def ql(ha:PE X o ta)(hv:PE X value tv)(hs:Sd value (be (.Attribute o f c7)) pos.line X.env=pure false):PS X (.Assign [.Attribute o f c7] value pos) (sFld X.K ta tv f):=by
 intro pins s σ H D I h;refine Sv (thn (hv pins s σ H _ I h) λu s1 ⟨y,H1,I1,ry,q⟩=>thn (ha pins s1 σ H1 _ I1 q) λov s2 hh=>?_) hs;obtain⟨x,H2,I2,rx,a,C,dx,fs,ex,ea,c,n,l,q2⟩:=hh;subst ex;obtain rfl:ov=Value.ref a:=rx;exact wI I2 ea c n l ry λs3 I3=>#[σ,_,I3,q2]
end
section
variable {X:Cx}{pins:List (KF×R_)}{σ:St}{H:Hp}{s:KM}{A:RV}{E:KB->KM->Prop}{Q:KB->KM->Prop}{c:KB}{b:Bool}
inductive TyOf(K:Ex)(H:Hp):V->KB->Prop where
 |non:TyOf K H .non (.type "NoneType")
 |bl (x:Bool):TyOf K H (.bl x) (.type "bool")
 |int (i:Int):TyOf K H (.int i) (.type "int")
 |str (x:Str):TyOf K H (.str x) (.type "str")
 |flt (x:UInt64):TyOf K H (.flt x) (.type "float")
 |lst {a:KF} {xs:List V} (e:H a=some (.lst xs)):TyOf K H (.ref a) (.type "list")
 |frz {a:KF} {o:R_} {xs:List V} (e:H a=some (.frz o (.lst xs))):TyOf K H (.ref a) (.type "list")
 |tup {a:KF} {xs:List V} (e:H a=some (.tup xs)):TyOf K H (.ref a) (.type "tuple")
 |dK {a:KF} {a9:List (Key×V)} (e:H a=some (.dK a9)):TyOf K H (.ref a) (.type "dict")
 |dT {a:KF} {a9:List (List Key×V)} (e:H a=some (.dT a9)):TyOf K H (.ref a) (.type "dict")
 |ins {a C dx:KF} {fs:List (Str×V)} (e:H a=some (.ins C dx fs)) (cl:Cls K C) (ha:FS K (.ref C) "__class__"=some (some (.builtin "object.__class__")))
   (hn:GL K (.builtin "object.__class__") "__get__"=be (be (.builtin "getset_descriptor.__get__"))) (htk:Ho K (.builtin "object.__class__")=be true)
   (hm:Gx K C (.type "object")=be true):TyOf K H (.ref a) (.ref C)
def wJ{x:V}{u t:KB}(I:Inv X pins σ H s)(rx:RelV x u)(ty:TyOf X.K H x t)(e:kitOne X.K t c=be b)(h:∀tk,Q (.bool b) {s with toks:=tk}):
  RT (RR X.prog X.w) A (call (.builtin "isinstance") [u,c]) Q E s:=by
 cases ty with
 |non=>cases(show u=Value.none from rx);exact kia_one kitx_none I.kIn True.intro e (λz=>nomatch z) h
 |bl y=>cases(show u=Value.bool y from rx);exact kia_one kitx_bool I.kIn True.intro e (λz=>nomatch z) h
 |int i=>obtain⟨t,q⟩:=(show ∃t,u=Value.int i t from rx);cases q;exact kia_one kitx_int I.kIn True.intro e (λz=>nomatch z) h
 |str y=>obtain⟨t,q⟩:=(show ∃t,u=Value.str y t from rx);cases q;exact kia_one kitx_str I.kIn True.intro e (λz=>nomatch z) h
 |flt y=>obtain⟨t,q⟩:=(show ∃t,u=Value.float y t from rx);cases q;exact kia_one kitx_float I.kIn True.intro e (λz=>nomatch z) h
 |@lst a xs ea=>
  cases(show u=Value.ref a from rx);obtain⟨_,_,n,_,h1⟩:=(show ObjOk X.prog X.w H s.heap a (.lst xs)from I.hok a _ ea);exact kia_one kitx_list I.kIn #[_,h1,rfl] e (λz=>nomatch z) h
 |@frz a ob xs ea=>
  cases(show u=Value.ref a from rx);obtain⟨_,_,_,n,_,h1⟩:=(show ObjOk X.prog X.w H s.heap a (.frz ob (.lst xs))from I.hok a _ ea);exact kia_one kitx_list I.kIn #[_,h1,rfl] e (λz=>nomatch z) h
 |@tup a xs ea=>
  cases(show u=Value.ref a from rx);obtain⟨_,_,_,p⟩:=(show ObjOk X.prog X.w H s.heap a (.tup xs)from I.hok a _ ea);obtain⟨o,h1,h2,_⟩:=p;exact kia_one kitx_tuple I.kIn #[o,h1,h2] e (λz=>nomatch z) h
 |@dK a a9 ea=>
  cases(show u=Value.ref a from rx);obtain⟨_,_,vs,_,p⟩:=(show ObjOk X.prog X.w H s.heap a (.dK a9)from I.hok a _ ea);obtain⟨o,es,ep,h1,h2,_⟩:=p;exact kia_one kitx_dict I.kIn #[o,h1,h2.1] e (λz=>nomatch z) h
 |@dT a a9 ea=>
  cases(show u=Value.ref a from rx);obtain⟨_,_,xs,_,o,es,ep,h1,h2,_⟩:=(show ObjOk X.prog X.w H s.heap a (.dT a9)from I.hok a _ ea);exact kia_one kitx_dict I.kIn #[o,h1,h2.1] e (λz=>nomatch z) h
 |@ins a C dx fs ea cl ha hn htk hm=>
  cases(show u=Value.ref a from rx);obtain⟨mA,O,_⟩:=fZ I.hok ea;obtain⟨od,J,_⟩:=O.look;exact kia_one (kitx_own (cl.get _) cl.hd ha hn htk hm) I.kIn J e (λz=>nomatch z) h
end
structure Room(k:Nat)(A:RV):Prop where
 hd:A.handled=B_
 dp:A.depth+3*k+5<recursionLimit
 un:A.units+16*k+200<SZ
variable{k:Nat}
def Room.mono{j:Nat}(r:Room k A)(h:j<=k):Room j A:=#[r.hd,by have:=r.dp;lia,by have:=r.un;lia]
def Room.deeper(r:Room (k+1) A)(env:SL):Room k (A.deeper env):=
 #[r.hd,by have:=r.dp;show A.depth+1+3*k+5<_;lia,by have:=r.un;show A.units+3+16*k+200<_;lia]
variable{kw:List (Jj×KB)}
def wK:(A.under (.builtin "type.__call__" #[.ref C::us,kw])).depth=A.depth+1:=by
 first|rfl|simp[Around.under,Code.weight,Code.isCreation,Code.isGuard,Code.isCaller,Code.frames,Code.isFrame,guardIds]
def wL:(A.under (.builtin "type.__call__" #[.ref C::us,kw])).units=A.units+1:=by
 first|rfl|simp[Around.under,Code.cUnits,Code.frames,Code.isFrame]
def Room.make(r:Room (k+1) A)(C:KF)(us:List KB)(kw:List (Jj×KB)):Room k (A.under (.builtin "type.__call__" #[.ref C::us,kw])):=
 #[r.hd,by have:=r.dp;rw[wK];lia,by have:=r.un;rw[wL];lia]
def Room.depth(r:Room k A):A.depth<recursionLimit:=by have:=r.dp;lia
def Room.units(r:Room k A):A.units+64<SZ:=by have:=r.un;lia
def tNil:TA:=λ_ H Q=>Q [] H
def qm(ta:TE)(tr:TA):TA:=λσ H Q=>ta σ H λx H1=>tr σ H1 λxs H2=>Q (x::xs) H2
section
variable {X:Cx}{e:P3}{es:List P3}{te:TE}{t:TA}{pos:R4}
def pa_nil:PA X [] tNil:=λ_ _ _ _ H Q I h=>Calls.spliced_nil #[[],H,I,.nil,h]
def bn(ha:PE X e te)(hr:PA X es t)(hs:autoParam (zSE X e es) zA0):PA X (e::es) (qm te t):=by
 intro pos pins s σ H Q I h;rw[hs];show RT _ _ (spliced ((false,R1 e X.env)::Su pos (RW es X.env))) _ _ s;refine Calls.spliced_cons (thn (ha pins s σ H _ I h) λu s1 b9=>?_);obtain⟨x,H1,I1,r1,q1⟩:=b9;exact thn (hr pos pins s1 σ H1 _ I1 q1) λus s2 ⟨xs,H2,I2,r2,q2⟩=>#[x::xs,H2,I2,.cons r1 r2,q2]
def tTup(t:TA):TE:=λσ H Q=>t σ H λxs H1=>xs.length<=sizeLine/\∀p,H1 p=B_->Q (.ref p) (upd H1 p (.tup xs))
def tLst(t:TA):TE:=λσ H Q=>t σ H λxs H1=>xs.length<=sizeLine/\∀p,H1 p=B_->Q (.ref p) (upd H1 p (.lst xs))
def qo{x1}(h:PA X es t):PE X (.Tuple es x1 pos) (tTup t):=by
 intro pins s σ H Q I hq;refine wpAny_Tuple_spliced (thn (h pos pins s σ H _ I hq) λus s1 ⟨xs,H1,I1,r,z,q⟩=>#[by rw[<-r.length];exact z,?_]);have hf:H1 s1.heap.objs.size=none:=I1.hok.fresh (FR _);refine#[.ref s1.heap.objs.size,upd H1 s1.heap.objs.size (.tup xs),I1.laid (t':=s1.toks) (λb u e=>Heap.get?_push_of_some _ e) (FR _) ?_,rfl,q _ hf];exact#[z,us,r,#[_,Heap.get?_push_size _ rfl,rfl,_,rfl]]
def gc(h:PA X es t):PE X (.List es pos) (tLst t):=by
 intro pins s σ H Q I hq;refine wpAny_List_spliced (thn (h pos pins s σ H _ I hq) λus s1 ⟨xs,H1,I1,r,z,q⟩=>#[by rw[<-r.length];exact z,?_]);have hf:H1 s1.heap.objs.size=none:=I1.hok.fresh (FR _);refine#[.ref s1.heap.objs.size,upd H1 s1.heap.objs.size (.lst xs),I1.laid (t':=s1.toks) (λb u e=>Heap.get?_push_of_some _ e) (FR _) ?_,rfl,q _ hf];exact#[z,us,0,r,Heap.get?_push_size _ rfl]
end
abbrev Sp:=List V->Hp->VK->XK->Prop
abbrev CXT:=List SL->Hp->KM->XK->KB->KM->Prop
structure Env0(P:RP)(w:RU)(K:Ex)(mg:Str->Option KB)(base:Heap)(A:RV)(outer:List SL)(s:KM)(H:Hp):Prop where
 frames:A.frames=be outer
 mod:Mod K mg base
 bs:∀b o,base.get? b=be o->s.heap.get? b=be o/\H b=B_
 bsz:base.objs.size<=s.heap.objs.size
 funs:s.heap.FunFrames base outer
 frf:∀b∈frs outer,H b=B_
 hok:HOk P w H s.heap
 bare:SQ s.gens
def CE(outer:List SL)(P:RP)(w:RU)(H:Hp)(s:KM)(Q:VK)(u:KB)(s':KM):Prop:=
 ∃v H',s'.os=s.os/\SQ s'.gens/\Un (frs outer) [] H H' s.heap s'.heap/\HOk P w H' s'.heap/\RelV v u/\Q v H'
def CR(CX:CXT)(outer:List SL)(P:RP)(w:RU)(H:Hp)(s:KM)(Q:VK)(E:XK)(r:Result)(s':KM):Prop:=
 match r with
 |.ok (.ret u)=>CE outer P w H s Q u s'
 |.ok _=>False
 |.error e=>CX outer H s E e s'
structure FnOk(P:RP)(w:RU)(K:Ex)(mg:Str->Option KB)(base:Heap)(CX:CXT)(k:Nat)(f:KF)(fd:R3)(ps:List Str)(sp:Sp):Prop where
 len:∀vs H Q E,sp vs H Q E->vs.length=ps.length
 run:∀(A:RV) (outer:List SL) (s:KM) (H:Hp) (args:Args) (us:List KB) (vs:List V) (Q:VK) (E:XK),Room k A->Env0 P w K mg base A outer s H->SW s fd args (ps.zip us)->Vals vs us->sp vs H Q E->
  S3 (RR P w) A (.call (.ref f) args) (CR CX outer P w H s Q E) s
variable{f:KF}{mg:Jj->Option KB}{base:Heap}{CX:CXT}{fd:R3}{ps:List Jj}{sp:Sp}
def FnOk.mono{j:Nat}(F:FnOk P w K mg base CX j f fd ps sp)(h:j<=k):
  FnOk P w K mg base CX k f fd ps sp:=#[F.len,λA outer s H args us vs Q E hr=>F.run A outer s H args us vs Q E (hr.mono h)]
def FnOk.imp{JH:Sp}(F:FnOk P w K mg base CX k f fd ps sp)
  (h:∀vs H Q E,JH vs H Q E->sp vs H Q E):FnOk P w K mg base CX k f fd ps JH:=
 #[λvs H Q E q=>F.len vs H Q E (h _ _ _ _ q),λA outer s H args us vs Q E hr he hb hv hs=>F.run A outer s H args us vs Q E hr he hb hv (h _ _ _ _ hs)]
variable{outer:List SL}
def Env0.make(e:Env0 P w K mg base A outer s H)(C:KF)(us:List KB)(kw:List (Jj×KB)):
  Env0 P w K mg base (A.under (.builtin "type.__call__" #[.ref C::us,kw])) outer s H:=#[by first|exact e.frames|(simpa[Around.under,Code.envs,Code.isFrame,pushEnvs]using e.frames),e.mod,e.bs,e.bsz,e.funs,e.frf,e.hok,e.bare]
section
variable {X:Cx}{pins:List (KF×R_)}{σ:St}{H:Hp}{s s':KM}
def Inv.env0(I:Inv X pins σ H s):Env0 X.prog X.w X.K X.mg X.base X.A X.stack s H:=
 #[I.ok.frames,I.ok.mod,I.bs,FY I.ok.bsz I.sz,I.stack,I.stkFree,I.hok,I.bare]
def Inv.after{Q:VK}{u:KB}(I:Inv X pins σ H s)(h:CE X.stack X.prog X.w H s Q u s'):EP X pins σ Q u s':=by
 obtain⟨v,H',os,bare,un,hok,r,q⟩:=h;obtain⟨hh,g,d,t,PX⟩:=s';obtain rfl:PX=s.os:=os;exact#[v,H',I.call (h':=hh) (g':=g) (d':=d) (t':=t) (ch:=[]) un hok bare (λb z=>absurd z J8),r,q]
end
def qp(sp:Sp)(d_:List V)(E:XK)(t:TA):TE:=λσ H Q=>t σ H λvs H1=>sp (vs++d_) H1 Q E
def wM(C:KF)(sp:Sp)(d_:List V)(E:XK)(t:TA):TE:=λσ H Q=>t σ H λvs H1=>∀x dx,H1 x=B_->H1 dx=B_->dx≠x->
 sp (.ref x::(vs++d_)) (upd (upd H1 dx (.own x)) x (.ins C dx [])) (λv H2=>v=.non/\Q (.ref x) H2) E
def Binds(K:Ex)(fd:R3)(ps:List Jj)(ds:List KB):Prop:=
 ∀(s:KM) (us:List KB),K.In s.heap->(us++ds).length=ps.length->SW s fd #[us,[]] (ps.zip (us++ds))
def Binds.all(h:∀us:List KB,us.length=ps.length->SH fd #[us,[]]=pure (ps.zip us)):Binds K fd ps []:=λs us _ hl=>by
 rw[Gk]at hl ⊢;exact .of_eq (h us hl)
def fb(CX:CXT)(X:Cx)(E:XK):Prop:=∀(pins:List (KF×R_)) (σ:St) (H:Hp) (s:KM) (e:KB) (s':KM),Inv X pins σ H s->CX X.stack H s E e s'->X.xe e s'
section
variable {X:Cx}{CX:CXT}{k:Nat}{f C:KF}{fd:R3}{ps:List Jj}{sp:Sp}{d_:List V}{ds:List KB}{E:XK}{x m:Jj}{p pos apos:R4}{e o:P3}{es:List P3}{ta:TE}{t:TA}
variable{pins:List (KF×R_)}{us:List KB}{vs:List V}
def wO{σ:St}{H:Hp}{s:KM}{Q:VK}(F:FnOk X.prog X.w X.K X.mg X.base CX k f fd ps sp)(hr:Room k X.A)(hb:Binds X.K fd ps ds)(hd:Vals d_ ds)(hx:fb CX X E)
  (I:Inv X pins σ H s) (r:Vals vs us) (h:sp (vs++d_) H Q E):RT (RR X.prog X.w) X.A (call (.ref f) us) (EP X pins σ Q) X.xe s:=by
 have r2:Vals (vs++d_) (us++ds):=r.append hd;have hl:(us++ds).length=ps.length:=by rw[<-r2.length];exact F.len _ _ _ _ h
 refine Sw (Ss (F.run X.A X.stack s H #[us,[]] (us++ds) (vs++d_) Q E hr I.env0 (hb s us I.kIn hl) r2 h) λr s' hq=>?_);cases r with
 |error e=>exact hx pins σ H s e s' I hq
 |ok fl=>
  cases fl with
  |ret u=>exact I.after hq
  |next=>exact False.elim hq
  |brk=>exact False.elim hq
  |cont=>exact False.elim hq
def wP(F:FnOk X.prog X.w X.K X.mg X.base CX k f fd ps sp)(hr:Room k X.A)(hg:Gl X x)(hm:X.mg x=be (.ref f))(hk:keepIn X.K (.ref f)=true)(hb:Binds X.K fd ps ds)(hd:Vals d_ ds)(hx:fb CX X E)
  (ha:PA X (e::es) t) (c_:autoParam (zND x) zA1) (he:autoParam (zSE X e es) zA0) (c5:autoParam (zPL X pos es) zA0):
  PE X (.Call (.Name x p) (e::es) [] pos) (qp sp d_ E t):=by
 intro pins s σ H Q I h;refine R5 (cn I hg hm ?_ c_);refine callWith_K (h₀:=X.base) I.ok.mod.kin hk (thn (ha pos pins s σ H _ I h) λus s1 ⟨vs,H1,I1,r,q⟩=>#[I1.kIn,?_]) he c5;exact wO F hr hb hd hx I1 r q
structure Mk(K:Ex)(C f:KF):Prop where
 makes:makesIn K C=true
 init:FS K (.ref C) "__init__"=be (be (.ref f))
 fn:isFn K (.ref f)=true
 kp:keepIn K (.ref C)=true
def wQ{σ:St}{H:Hp}{s:KM}{Q:VK}(M:Mk X.K C f)(F:FnOk X.prog X.w X.K X.mg X.base CX k f fd ps sp)(hr:Room (k+1) X.A)(hb:Binds X.K fd ps ds)(hd:Vals d_ ds)
  (hx:fb CX X E) (I:Inv X pins σ H s) (r:Vals vs us)
  (h:∀x dx,H x=B_->H dx=B_->dx≠x->sp (.ref x::(vs++d_)) (upd (upd H dx (.own x)) x (.ins C dx [])) (λv H2=>v=.non/\Q (.ref x) H2) E):
  RT (RR X.prog X.w) X.A (call (.ref C) us) (EP X pins σ Q) X.xe s:=by
 have hq:=h (s.heap.objs.size+1) s.heap.objs.size (I.hok.fresh (GM _)) (I.hok.fresh (FR _)) (FU (Il _));have I2:=Inv.made (C:=C) I;have r2:Vals (V.ref (s.heap.objs.size+1)::(vs++d_)) (Value.ref (s.heap.objs.size+1)::(us++ds)):=.cons rfl (r.append hd);have hl:(Value.ref (s.heap.objs.size+1)::us++ds).length=ps.length:=by
  have e:=r2.length;rw[F.len _ _ _ _ hq]at e;exact e.symm
 refine Sw (wG (f:=f) I.kIn M.makes M.init (beq_iff_eq.mp M.fn) (Ss (F.run _ X.stack _ _ #[Value.ref (s.heap.objs.size+1)::us,[]] (Value.ref (s.heap.objs.size+1)::(us++ds)) _ _ E (hr.make C us [])
  (I2.env0.make C us []) (hb _ (Value.ref (s.heap.objs.size+1)::us) I2.kIn hl) r2 hq) λr s' m9=>?_))
 cases r with
 |error e=>exact hx pins σ _ _ e s' I2 m9
 |ok fl=>
  cases fl with
  |ret u=>
   obtain⟨v,H',I3,rv,ev,q3⟩:=I2.after m9;subst ev;exact#[rv,#[V.ref (s.heap.objs.size+1),H',I3,rfl,q3]]
  |next=>exact False.elim m9
  |brk=>exact False.elim m9
  |cont=>exact False.elim m9
def gd(M:Mk X.K C f)(F:FnOk X.prog X.w X.K X.mg X.base CX k f fd ps sp)(hr:Room (k+1) X.A)(hg:Gl X x)(hm:X.mg x=be (.ref C))(hb:Binds X.K fd ps ds)(hd:Vals d_ ds)(hx:fb CX X E)
  (ha:PA X (e::es) t) (c_:autoParam (zND x) zA1) (he:autoParam (zSE X e es) zA0) (c5:autoParam (zPL X pos es) zA0):
  PE X (.Call (.Name x p) (e::es) [] pos) (wM C sp d_ E t):=by
 intro pins s σ H Q I h;refine R5 (cn I hg hm ?_ c_);refine callWith_K (h₀:=X.base) I.ok.mod.kin M.kp (thn (ha pos pins s σ H _ I h) λus s1 ⟨vs,H1,I1,r,q⟩=>#[I1.kIn,?_]) he c5;exact wQ M F hr hb hd hx I1 r q
end
structure FnScope(N P:List Str)(sc:Sm):Prop where
 kind:sc.kind=.function
 co:sc.isCoroutine=false
 gen:sc.isGenerator=false
 nd:N.Nodup
 pre:N.take P.length=P
 par:∀x∈P,sc.names.lookup x=be .local\/sc.names.lookup x=be .cell
 nofree:∀y∈sc.names,y.2≠.free
def qq{kindOf:Jj->Option SI}{x:Jj}:∀{binds:List (Jj×KB)} {m:Jj->Option KB},(∀v,(x,v)∉binds)->Tr kindOf binds m x=m x
 |[],_,_=>rfl
 |(n,v)::r,m,h=>by
  unfold Tr;rw[qq λw hw=>h w (FW _ hw)];split
  .have:x≠n:=by rintro rfl;exact h v FZ
   simp[this]
  .rfl
def bindC_out{kindOf:Jj->Option SI}{x:Jj}:∀{binds:List (Jj×KB)} {m:Jj->Option KB},(∀v,(x,v)∉binds)->Ts kindOf binds m x=m x
 |[],_,_=>rfl
 |(n,v)::r,m,h=>by
  unfold Ts;rw[bindC_out λw hw=>h w (FW _ hw)];split
  .rfl
  .have:x≠n:=by rintro rfl;exact h v FZ
   simp[this]
def bindL_get{kindOf:Jj->Option SI}{x:Jj}{v:KB}:∀{P:List Jj} {vs:List KB} {i:Nat} {m:Jj->Option KB},P.Nodup->P[i]?=be x->vs[i]?=be v->kindOf x=be .local->
  Tr kindOf (P.zip vs) m x=be v
 |[],_,_,_,_,h,_,_=>by simp at h
 |_::_,[],_,_,_,_,h,_=>by simp at h
 |p::P,w::vs,0,m,nd,h1,h2,hk=>by
  simp at h1 h2;subst h1;subst h2;show Tr kindOf ((p,w)::P.zip vs) m p=_;unfold Tr;rw[qq λv hv=>(Gp.mp nd).1 (HJ hv).1,if_pos hk];simp
 |p::P,w::vs,i+1,m,nd,h1,h2,hk=>by
  show Tr kindOf ((p,w)::P.zip vs) m x=_;unfold Tr;exact bindL_get (i:=i) (Gp.mp nd).2 (by simpa using h1) (by simpa using h2) hk
def qr{kindOf:Jj->Option SI}{x:Jj}{v:KB}:∀{P:List Jj} {vs:List KB} {i:Nat} {m:Jj->Option KB},P.Nodup->P[i]?=be x->vs[i]?=be v->kindOf x≠be .local->
  Ts kindOf (P.zip vs) m x=be v
 |[],_,_,_,_,h,_,_=>by simp at h
 |_::_,[],_,_,_,_,h,_=>by simp at h
 |p::P,w::vs,0,m,nd,h1,h2,hk=>by
  simp at h1 h2;subst h1;subst h2;show Ts kindOf ((p,w)::P.zip vs) m p=_;unfold Ts;rw[bindC_out λv hv=>(Gp.mp nd).1 (HJ hv).1,if_neg hk];simp
 |p::P,w::vs,i+1,m,nd,h1,h2,hk=>by
  show Ts kindOf ((p,w)::P.zip vs) m x=_;unfold Ts;exact qr (i:=i) (Gp.mp nd).2 (by simpa using h1) (by simpa using h2) hk
def start(N:List Jj)(vs:List V):St:=vs.map be++Gu (N.length-vs.length) B_
def cxOf(CX:CXT)(P:RP)(w:RU)(K:Ex)(mg:Jj->Option KB)(base:Heap)(N:List Jj)(qual:Jj)(scope:Sm)(f:KF)(cd:KB)(A:RV)(outer:List SL)(s:KM)(H:Hp)(E:XK):Cx where
 prog:=P
 w:=w
 K:=K
 mg:=mg
 base:=base
 A:=A.deeper (R6 qual scope s.heap.objs.size f cd)
 N:=N
 s₀:=s
 H₀:=H
 env:=R6 qual scope s.heap.objs.size f cd
 outer:=outer
 stack:=R6 qual scope s.heap.objs.size f cd::outer
 ex:=[]
 calm:=true
 fn:=λ_=>true
 pn:=[]
 xe:=λe s'=>RT (RR P w) (A.deeper (R6 qual scope s.heap.objs.size f cd)) (Tz (R6 qual scope s.heap.objs.size f cd) e) (λ_ MD=>CX outer H s E e MD) (λe' MD=>CX outer H s E e' MD) s'
def cell_has{sc:Sm}{n:Nat}{x:Jj}(h:sc.names.lookup x=be .cell):∃c,(cellsFrom n sc.names []).lookup x=be c:=by
 have q:=cellsFrom_some sc.names n [] (.inl h);exact Option.isSome_iff_exists.mp q
variable{N:List Jj}{scope:Sm}
def wR{qual:Jj}{cd:KB}{s1:KM}{E:XK}{vs:List V}
  (S:FnScope N ps scope) (hd:A.handled=B_) (e0:Env0 P w K mg base A outer s H) (hl:vs.length=ps.length) (r:Vals vs us)
  (x:InCallC s s.heap.objs.size (Tr (R6 qual scope s.heap.objs.size f cd).kindOf (ps.zip us) λ_=>B_) (cellsFrom (s.heap.objs.size+1) scope.names []) (Ts (R6 qual scope s.heap.objs.size f cd).kindOf (ps.zip us) λ_=>B_) s1):
  Inv (cxOf CX P w K mg base N qual scope f cd A outer s H E) [] (start N vs) H s1:=by
 have c5:ps.length<=N.length:=by have:=congrArg Hq S.pre;rw[Hr]at this;lia
 obtain⟨h1,tk,rfl,hk⟩:=x.done;have K4:∀b:KF,b∉(cxOf CX P w K mg base N qual scope f cd A outer s H E).ex:=λb z=>absurd (show b∈([]:List KF)from z) J8;refine⟨#[e0.mod,S.kind,rfl,rfl,FR _,λy z c h1 h2=>?_,λy hy=>?_,λy c _ h=>?_,λ_=>hd,Around.frames_deeper e0.frames,.inr #[rfl,rfl],λb z=>absurd z (K4 b),e0.bs,e0.bsz,λb _ _=>K4 b,λb z=>absurd z (K4 b),e0.funs,e0.frf],
  rfl,e0.bare,Un.kept hk,#[_,x.toInCall.ns,λi y v h1 h2 h3=>?_],λy c h=>#[_,x.cell y c h],e0.hok.fresh (FR _),λy c h=>?_,λp hp=>absurd (show p∈([]:List (KF×R_))from hp) J8,e0.hok.kept hk,?_⟩
 .exact name_of_addr x.apart (PySem.mem_of_lookup h1) (PySem.mem_of_lookup h2)
 .have hy:scope.names.lookup y=be .cell\/scope.names.lookup y=be .free:=hy;rcases hy with hy|hy
  .exact cell_has hy
  .exact absurd rfl (S.nofree _ (PySem.mem_of_lookup hy))
 .exact Hj (x.above y c (PySem.mem_of_lookup h))
 .have hi:i<vs.length:=by
   unfold start at h2;by_cases hi:i<vs.length
   .exact hi
   .rw[GN (by simpa using hi)]at h2;rw[HK]at h2;split at h2<;>cases h2
  have ha:vs[i]?=be v:=by
   unfold start at h2;rw[Gy (by simpa using hi),F6]at h2;cases e:vs[i]? with
   |none=>rw[e]at h2;cases h2
   |some a=>rw[e]at h2;cases h2;rfl
  obtain⟨u,hu,rv⟩:=r.get ha;have hp:ps[i]?=be y:=by
   rw[<-S.pre,HL JZ];exact h1
  have OT:ps.Nodup:=by rw[<-S.pre];exact S.nd.sublist (List.take_sublist _ _)
  refine#[u,rv,?_];rcases S.par y (GS hp)with k|k
  .exact .inl #[k,bindL_get OT hp hu k]
  .obtain⟨c,e⟩:=cell_has (n:=s.heap.objs.size+1) k;refine .inr #[.inl k,c,e,?_];have q:=x.cell y c e;rw[qr OT hp hu (by show scope.names.lookup y≠_;rw[k];decide)]at q;exact q
 .exact e0.hok.fresh (Hj (x.above y c (PySem.mem_of_lookup h)))
 .unfold start;show _=N.length;rw[F9,F4,List.length_replicate];lia
def wS{name qual:Jj}{params:Arguments}{body:List RS}{dV kV doc pm cdv ct oc:KB}{an od:Option KF}
  {osl:Array (Option KB)}   (lk:K.lookup f=be #[oc,od,.func (fnOf name qual params body scope dV kV doc pm an cdv ct),osl]) (e_:codeIn K cdv qual=true) (S:FnScope N ps scope)
  (len:∀vs H Q E,sp vs H Q E->vs.length=ps.length)
  (a8:∀(A:RV) (outer:List SL) (s:KM) (H:Hp) (vs:List V) (Q:VK) (E:XK),Room k (A.deeper (R6 qual scope s.heap.objs.size f cdv))->sp vs H Q E->
   ∃t,PSs (cxOf CX P w K mg base N qual scope f cdv A outer s H E) body t/\t {nx:=λ_ H'=>Q .non H',rt:=Q} (start N vs) H):
  FnOk P w K mg base CX (k+1) f (fnOf name qual params body scope dV kV doc pm an cdv ct) ps sp:=by
 refine#[len,λA outer s H args us vs Q E hr e0 hb r v_=>?_];have hl:=len _ _ _ _ v_;have KX:K.In s.heap:=e0.mod.kin.keeps λb o e=>(e0.bs b o e).1;have PY:s.heap.NoLimit:=e0.mod.nolimit.keeps λb o e=>(e0.bs b o e).1;have K5:∀y∈ps.zip us,scope.names.lookup y.1=be .local\/(scope.names.lookup y.1=be .cell/\((cellsFrom (s.heap.objs.size+1) scope.names []).lookup y.1).isSome=true):=λ⟨n,v⟩ hy=>by
  rcases S.par n (HJ hy).1 with q|q
  .exact .inl q
  .exact .inr #[q,cellsFrom_some _ _ _ (.inl q)]
 refine codeAny_call_function hr.depth (KX _ _ lk) rfl S.co S.gen rfl (codeRec_of KX e_) (hb _ _ _ _ ?_);refine wpAny_newFunctionEnv_cells S.kind K5 λenv he s1 x=>?_;subst he;refine#[PY.keeps x.toInCall.keep,codeAny_func ?_];obtain⟨t,ht,hq⟩:=a8 A outer s H vs Q E (hr.deeper _) v_;have I:Inv (cxOf CX P w K mg base N qual scope f cdv A outer s H E) [] (start N vs) H s1:=wR S hr.hd e0 hl r x;refine R7 (ht [] s1 (start N vs) H _ I hq) (λfl s' hs=>?_) λe s' hs=>hs;have ge:∀{σ':St} {H':Hp} {v:V} {u:KB},Inv (cxOf CX P w K mg base N qual scope f cdv A outer s H E) [] σ' H' s'->RelV v u->Q v H'->CE outer P w H s Q u s':=
  λ{σ' H' v u} J rv q=>#[v,H',J.os,J.bare,J.base,J.hok,rv,q]
 cases fl with
 |ret u=>
  obtain⟨v,σ',H',J,rv,q⟩:=hs;exact ge J rv q
 |next=>
  obtain⟨σ',H',J,q⟩:=hs;exact ge (v:=V.non) (u:=Value.none) J rfl q
 |brk=>
  obtain⟨_,_,_,q⟩:=hs;exact False.elim q
 |cont=>
  obtain⟨_,_,_,q⟩:=hs;exact False.elim q
section
variable {X:Cx}{x:Jj}{p pos:R4}{e:P3}{es:List P3}{t:TA}{id T:String}{r:List V->Hp->VK->Prop}
def tCB(r:List V->Hp->VK->Prop)(t:TA):TE:=λσ H Q=>t σ H λvs H1=>r vs H1 Q
def fg(hc:bO X (.builtin id) r)(hg:Gl X x)(hm:X.mg x=B_)(hv:R9 x=be (.builtin id))(ha:PA X (e::es) t)(hn:autoParam (x≠"__name__") zA1)(c_:autoParam (zND x) zA1)
  (he:autoParam (zSE X e es) zA0) (c5:autoParam (zPL X pos es) zA0):PE X (.Call (.Name x p) (e::es) [] pos) (tCB r t):=by
 intro pins s σ H Q I h;refine R5 (cY I hg hm hv ?_ hn c_);exact PyProof.Rows.callWith_builtin1 (thn (ha pos pins s σ H _ I h) λus s1 ⟨vs,H1,I1,r1,q1⟩=>hc pins s1 σ H1 vs us Q I1 r1 q1) he c5
def qt(hc:bO X (.type T) r)(hg:Gl X x)(hm:X.mg x=B_)(hv:R9 x=be (.type T))(ha:PA X (e::es) t)(hn:autoParam (x≠"__name__") zA1)(c_:autoParam (zND x) zA1)
  (he:autoParam (zSE X e es) zA0) (c5:autoParam (zPL X pos es) zA0):PE X (.Call (.Name x p) (e::es) [] pos) (tCB r t):=by
 intro pins s σ H Q I h;refine R5 (cY I hg hm hv ?_ hn c_);exact PyProof.Rows.callWith_type1 (thn (ha pos pins s σ H _ I h) λus s1 ⟨vs,H1,I1,r1,q1⟩=>hc pins s1 σ H1 vs us Q I1 r1 q1) he c5
end
end L2
namespace HT
open PySem PyProof.Rows
section
variable {prog:RP}{w:RU}{A:RV}{E:KB->KM->Prop}{s:KM}
variable{Q:KB->KM->Prop}
def cat_tup{t b:KF}{vs ws:List KB}(ht:IsTup s.heap t vs.toArray)(hb:IsTup s.heap b ws.toArray)(hv:vs≠[])
  (h1:ws=[]->Q (.ref t) s) (h2:ws≠[]->Q (.ref s.heap.objs.size) {s with heap:=s.heap.push {cls:=.type "tuple",data:=.seq (vs++ws).toArray} })
  (i_:vs.length+ws.length<=sizeLine):RT (RR prog w) A (Sj .Add (.ref t) (.ref b)) Q E s:=by
 obtain⟨⟨cls,dd,data,sl⟩,ho,hc,n,hd⟩:=id ht;obtain⟨⟨PZ,OU,data2,OV⟩,LZ,OW,n2,Ks⟩:=id hb;simp only at hc hd OW Ks;subst hc hd OW Ks;have e:vs.toArray++ws.toArray=(vs++ws).toArray:=J8
 by_cases hw:ws=[]
 .exact concat_meets #[_,ho,rfl] #[_,LZ,rfl] noFill_tuple_add seq_tuple_add PySem.F.slot_tuple_add PySem.F.entry_tuple_add (PySem.F.args_tuple_add_2 _ _)
   (tuple_addW1 t b vs.toArray ws.toArray n n2 dd OU sl OV (by simpa using hv) (by simp[hw])) #[ho,LZ,h1 hw]
 .refine concat_meets #[_,ho,rfl] #[_,LZ,rfl] noFill_tuple_add seq_tuple_add PySem.F.slot_tuple_add PySem.F.entry_tuple_add (PySem.F.args_tuple_add_2 _ _)
   (tuple_addW2 t b vs.toArray ws.toArray n n2 dd OU sl OV (by simpa using hv) (by simpa using hw) (by rw[FX,FX];exact i_)) #[ho,LZ,?_]
  rw[e];exact h2 hw
def sIx(n d:Nat):Option Int->Nat
 |none=>d
 |some v=>if v<0 then(v+(n:Int)).toNat else min v.toNat n
def sIx_le(n d:Nat)(hd:d<=n)(o:Option Int):sIx n d o<=n:=by
 cases o with
 |none=>exact hd
 |some v=>
  show(if v<0 then(v+(n:Int)).toNat else min v.toNat n)<=n;by_cases hv:v<0
  .rw[if_pos hv];lia
  .rw[if_neg hv];exact Nat.min_le_right _ _
def qu(v:Int)(n d:Nat):(if v<0 then max (v+(n:Int)) 0 else min v (n:Int))=((sIx n d (be v):Nat):Int):=by
 show(if v<0 then max (v+(n:Int)) 0 else min v (n:Int))=(((if v<0 then(v+(n:Int)).toNat else min v.toNat n):Nat):Int);by_cases hv:v<0
 .simp only[if_pos hv];lia
 .simp only[if_neg hv];lia
def wT(lo hi:Option Int)(n:Nat):Builtin.Slice.sliceAdjust lo hi 1 (n:Int)=(((sIx n 0 lo:Nat):Int),((sIx n n hi:Nat):Int)):=by
 have h1:¬((1:Int)<0):=JZ
 unfold Builtin.Slice.sliceAdjust;simp only[h1,if_false];refine Prod.ext ?_ ?_
 .cases lo with
  |none=>rfl
  |some v=>exact qu v n 0
 .cases hi with
  |none=>rfl
  |some v=>exact qu v n n
def wU(i j:Nat):Builtin.Slice.slicePlaces (i:Int) (j:Int) 1=j-i:=by
 unfold Builtin.Slice.slicePlaces;have h1:(1:Int)>0:=JZ
 simp only[h1,if_true,Int.ediv_one];split<;>lia
def qv{v:KB}{o:Option Int}{Q:Option Int->KM->Prop}(p:S_ v o)(h:Q o s):RT (RR prog w) A (Builtin.Slice.slicePartIndex v) Q E s:=by
 cases p with
 |none=>exact slicePart_none h
 |int i t=>exact slicePart_int h
variable{lo hi:Option Int}
def wV{sl:KF}{vl vu:KB}{n:Nat}{Q:Int×Int×Nat->KM->Prop}(hs:s.heap.IsSliceOf sl vl vu .none)(pl:S_ vl lo)(pu:S_ vu hi)
  (h:Q (((sIx n 0 lo:Nat):Int),1,sIx n n hi-sIx n 0 lo) s):RT (RR prog w) A (Builtin.Slice.sliceApplied (.ref sl) (pure (n:Int))) Q E s:=by
 obtain⟨os,Jl,OX,L4⟩:=id hs;unfold Builtin.Slice.sliceApplied Builtin.Slice.sliceFields;refine Os (Os (SB Jl L4 (x:=vl) rfl (Os (SB Jl L4 (x:=vu) rfl (Os (SB Jl L4 (x:=.none) rfl (RQ ?_)))))));refine Os (slicePart_none ?_);show RT _ _ (if((1:Int)==0)=true then _ else _) _ _ s;rw[if_neg J7];refine Os (qv pl (Os (qv pu (Os (RQ ?_)))));show RT _ _ (match Builtin.Slice.sliceAdjust lo hi 1 (n:Int)with|(lo,hi)=>pure (lo,(1:Int),Builtin.Slice.slicePlaces lo hi 1)) _ _ s;rw[wT lo hi n];show RT _ _ (pure (((sIx n 0 lo:Nat):Int),(1:Int),Builtin.Slice.slicePlaces ((sIx n 0 lo:Nat):Int) ((sIx n n hi:Nat):Int) 1)) _ _ s;rw[wU];exact RQ h
def wW(xs:Array KB)(i k:Nat):((FQ k).filterMap λ(m:Nat)=>xs[((i:Int)+(m:Int)*1).toNat]?).toArray=((xs.toList.drop i).take k).toArray:=by
 have e:(λ(m:Nat)=>xs[((i:Int)+(m:Int)*1).toNat]?)=λm=>xs[i+m]?:=by
  funext m;have:((i:Int)+(m:Int)*1).toNat=i+m:=JZ
  rw[this]
 rw[e];have:=pick_run xs i k;rw[Im]at this;have e2:((λx=>xs[x]?) ∘ λx=>i+x)=λm=>xs[i+m]?:=rfl;rw[e2]at this;rw[this]
def getItem_tuple_cut{t sl:KF}{items:Array KB}{vl vu:KB}(ht:IsTup s.heap t items)(hs:s.heap.IsSliceOf sl vl vu .none)(pl:S_ vl lo)(pu:S_ vu hi)
  (hw:¬(sIx items.size 0 lo=0/\sIx items.size items.size hi=items.size))
  (h:Q (.ref s.heap.objs.size) {s with heap:=s.heap.push {cls:=.type "tuple",data:=.seq ((items.toList.drop (sIx items.size 0 lo)).take (sIx items.size items.size hi-sIx items.size 0 lo)).toArray} })
  (i_:items.size<=sizeLine):RT (RR prog w) A (Tg (.ref t) (.ref sl)) Q E s:=by
 have p8:sizeOk (.seq ((items.toList.drop (sIx items.size 0 lo)).take (sIx items.size items.size hi-sIx items.size 0 lo)).toArray):=by
  show((items.toList.drop (sIx items.size 0 lo)).take (sIx items.size items.size hi-sIx items.size 0 lo)).toArray.size<=sizeLine;rw[FX,Hr,GO,Hl];lia
 have hj:sIx items.size items.size hi<=items.size:=sIx_le _ _ (FR _) hi;obtain⟨os,Jl,OX,L4⟩:=id hs;have P0:s.TypeIs (.ref sl) "slice":=#[os,Jl,OX];unfold Tg
 try with_reducible refine Sg ?_
 first|refine Os (RQ ?_)|skip
 refine Os (wpAny_sequenceKey ht.typeIs J7 ?_);refine Os (wpAny_callSpecial?_slot (name:=Str.ofString "__getitem__") ht.typeIs PyProof.Rows.slot_tuple_getitem
  (wpAny_call_entry PyProof.Rows.slot_tuple_getitem ht.typeIs entry_tuple_getitem ?_ (args_tuple_getitem _ _)))
 show RT _ _ (Builtin.Tuple.tupleItemsOf (.ref t)>>=_) _ _ s;refine Os (tupleItemsOf_ ht ?_);refine Os (wpAny_typeOf P0 ?_);rw[if_pos J7];refine Os (wV hs pl pu ?_);have Kt:¬((((sIx items.size 0 lo:Nat):Int)==0&&(1:Int)==1&&(sIx items.size items.size hi-sIx items.size 0 lo)==items.size)=true):=by
  intro q;rw[Gj,Gj]at q;have q1:((sIx items.size 0 lo:Nat):Int)=0:=eq_of_beq q.1.1;have q2:sIx items.size items.size hi-sIx items.size 0 lo=items.size:=eq_of_beq q.2;exact hw #[JZ,JZ]
 show RT _ _ (if(((sIx items.size 0 lo:Nat):Int)==0&&(1:Int)==1&&(sIx items.size items.size hi-sIx items.size 0 lo)==items.size)=true then _ else _) _ _ s;rw[if_neg Kt,wW]
 first
  |exact Os (m:=Builtin.Tuple.tupleExact _) (Sa (RQ ⟨_,rfl,RQ h⟩) p8)
  |exact Os (m:=Builtin.Tuple.tupleExact _) (Sa (Os (RQ (RQ ⟨_,rfl,RQ h⟩))) p8)
  |exact Os (Os (m:=Builtin.Tuple.tupleExact _) (Sa (RQ (RQ ⟨_,rfl,RQ h⟩)) p8))
  |exact Os (Os (m:=Builtin.Tuple.tupleExact _) (Sa (RQ ⟨_,rfl,RQ h⟩) p8))
end
end HT
namespace L2
open PySem PySem.Spec PyProof.Rows
abbrev TO:=St->Hp->(Option Int->Hp->Prop)->Prop
def PO(X:Cx)(e:Option P3)(t:TO):Prop:=
 ∀(pins:List (KF×R_)) (s:KM) (σ:St) (H:Hp) (Q:Option Int->Hp->Prop),Inv X pins σ H s->t σ H Q->
  RT (RR X.prog X.w) X.A (evalPart e X.env) (λu s'=>∃o H',Inv X pins σ H' s'/\S_ u o/\Q o H') X.xe s
def wX:TO:=λ_ H Q=>Q B_ H
def wY(t:TE):TO:=λσ H Q=>t σ H λx H1=>∃i,x=.int i/\Q (be i) H1
section
variable {X:Cx}{e:P3}{te:TE}{lo hi:Option P3}{tl th:TO}{pos p2:R4}
def qw:PO X B_ wX:=by
 intro pins s σ H Q I h;rw[evalPart_none];exact RQ #[B_,H,I,.none,h]
def qy(h:PE X e te):PO X (be e) (wY te):=by
 intro pins s σ H Q I hw;rw[evalPart_some];refine thn (h pins s σ H _ I hw) λu s1 b9=>?_;obtain⟨x,H1,I1,r1,q1⟩:=b9;obtain⟨i,rfl,q⟩:=q1;obtain⟨t,rfl⟩:=r1;exact#[be i,H1,I1,.int i t,q]
def SlR(X:Cx)(r:V->Option Int->Option Int->Hp->VK->Prop):Prop:=
 ∀(pins:List (KF×R_)) (s:KM) (σ:St) (H:Hp) (x:V) (v vl vu:KB) (lo hi:Option Int) (sl:KF) (Q:VK),Inv X pins σ H s->RelV x v->s.heap.IsSliceOf sl vl vu .none->S_ vl lo->S_ vu hi->r x lo hi H Q->
  ∃T id,typeLookup (.type T) "__getitem__"=pure (be (.builtin id))/\s.TypeIs v T/\RT (RR X.prog X.w) X.A (Tg v (.ref sl)) (EP X pins σ Q) X.xe s
variable{r:V->Option Int->Option Int->Hp->VK->Prop}
def SlR.or{r':V->Option Int->Option Int->Hp->VK->Prop}(h:SlR X r)(h':SlR X r'):SlR X (λx lo hi H Q=>r x lo hi H Q\/r' x lo hi H Q):=by
 intro pins s σ H x v vl vu lo hi sl Q I rx hs pl pu q;rcases q with q|q
 .exact h pins s σ H x v vl vu lo hi sl Q I rx hs pl pu q
 .exact h' pins s σ H x v vl vu lo hi sl Q I rx hs pl pu q
def tSl(r:V->Option Int->Option Int->Hp->VK->Prop)(te:TE)(tl th:TO):TE:=λσ H Q=>te σ H λx H1=>tl σ H1 λl H2=>th σ H2 λu H3=>r x l u H3 Q
def jH(hr:SlR X r)(he:PE X e te)(hl:PO X lo tl)(hu:PO X hi th):PE X (.Subscript e (.Slice lo hi B_ p2) pos) (tSl r te tl th):=by
 intro pins s σ H Q I h;refine Subscript_ (thn (he pins s σ H _ I h) λv s1 b9=>?_);obtain⟨x,H1,I1,r1,q1⟩:=b9;refine wpAny_Slice (thn (hl pins s1 σ H1 _ I1 q1) λvl s2 ⟨l,H2,I2,pl,q2⟩=>thn (hu pins s2 σ H2 _ I2 q2) λvu s3 b9=>?_);obtain⟨u,H3,I3,pu,q3⟩:=b9;rw[evalPart_none];refine RQ ?_;have I4:Inv X pins σ H3 {s3 with heap:=s3.heap.push {cls:=.type "slice",data:=.fields [vl,vu,.none].toArray} }:=I3.kept (t':=s3.toks) λb ob q=>Heap.get?_push_of_some _ q;obtain⟨T,id,hT,ht,hg⟩:=hr pins {s3 with heap:=s3.heap.push {cls:=.type "slice",data:=.fields [vl,vu,.none].toArray} } σ H3 x v vl vu l u s3.heap.objs.size Q I4 r1 (Heap.IsSliceOf.new ..) pl pu q3;show RT (RR X.prog X.w) X.A (subscriptTail e (.Slice lo hi B_ p2) v (.ref s3.heap.objs.size)) (EP X pins σ Q) X.xe {s3 with heap:=s3.heap.push {cls:=.type "slice",data:=.fields [vl,vu,.none].toArray} };exact tail_any (ops:=[.ref s3.heap.objs.size,v]) ht hT hg (by with_unfolding_all rfl)
def cutV(xs:List V)(lo hi:Option Int):List V:=(xs.drop (HT.sIx xs.length 0 lo)).take (HT.sIx xs.length xs.length hi-HT.sIx xs.length 0 lo)
def qz(xs:List V)(lo hi:Option Int):(cutV xs lo hi).length<=xs.length:=by
 unfold cutV;rw[Hr,GO];lia
def rSlT(K:Ex):V->Option Int->Option Int->Hp->VK->Prop:=λx lo hi H Q=>∃a xs,x=.ref a/\SqT K H a xs/\
 ¬(HT.sIx xs.length 0 lo=0/\HT.sIx xs.length xs.length hi=xs.length)/\∀p,H p=B_->Q (.ref p) (upd H p (.tup (cutV xs lo hi)))
def qA:SlR X (rSlT X.K):=by
 intro pins s σ H x v vl vu lo hi sl Q I rx hs pl pu h;obtain⟨a,xs,rfl,hx,hw,q⟩:=h;cases rx;obtain⟨its,r,ht,hz⟩:=I.tuple hx;have b8:its.toArray.size=xs.length:=by rw[FX];exact r.length.symm
 refine#["tuple",_,PyProof.Rows.slot_tuple_getitem.lookup,ht.typeIs,?_];refine HT.getItem_tuple_cut ht hs pl pu (by rw[b8];exact hw) ?_ (by rw[b8];exact hz);rw[b8];refine#[.ref s.heap.objs.size,_,I.laid (t':=s.toks) (o:=.tup (cutV xs lo hi)) (λb ob q=>Heap.get?_push_of_some _ q) (FR _) ?_,rfl,q _ (I.hok.fresh (FR _))];exact#[FY (qz xs lo hi) hz,_,(r.drop (HT.sIx xs.length 0 lo)).take (HT.sIx xs.length xs.length hi-HT.sIx xs.length 0 lo),IsTup.new _ _]
def qB(K:Ex):R2:=λx y H Q=>∃a b xs ys,x=.ref a/\y=.ref b/\SqT K H a xs/\SqT K H b ys/\xs≠[]/\xs.length+ys.length<=sizeLine/\
 (ys=[]->Q (.ref a) H)/\(ys≠[]->∀p,H p=B_->Q (.ref p) (upd H p (.tup (xs++ys))))
def Vals.nil_iff{xs:List V}{us:List KB}(r:Vals xs us):us=[]↔xs=[]:=by
 cases r with
 |nil=>simp
 |cons _ _=>simp
def wZ:OpR X (Sj .Add) (qB X.K):=by
 intro pins s σ H x y v u Q I rx ry h;obtain⟨a,b,xs,ys,rfl,rfl,ha,hb,hx,hz,q1,q2⟩:=h;cases rx;cases ry;obtain⟨its,r1,p1,_⟩:=I.tuple ha;obtain⟨g_,r2,p2,_⟩:=I.tuple hb;refine HT.cat_tup p1 p2 (λz=>hx (r1.nil_iff.mp z)) (λz=>#[.ref a,H,I,rfl,q1 (r2.nil_iff.mp z)]) (λz=>?_) (by rw[<-r1.length,<-r2.length];exact hz);refine#[.ref s.heap.objs.size,_,I.laid (t':=s.toks) (o:=.tup (xs++ys)) (λb ob q=>Heap.get?_push_of_some _ q) (FR _) ?_,rfl,q2 (λw=>z (r2.nil_iff.mpr w)) _ (I.hok.fresh (FR _))];exact#[by rw[F9];exact hz,_,r1.append r2,IsTup.new _ _]
end
def ixN(n:Nat)(i:Int):Option Nat:=if 0<=i then(if i<n then be i.toNat else B_)else if -(n:Int)<=i then be (i+n).toNat else B_
def atI{α:Type}(xs:List α)(i:Int):Option α:=(ixN xs.length i).bind λj=>xs[j]?
def qC{n:Nat}{i:Int}{j:Nat}(h:ixN n i=be j):seqIndex? i n=be j/\j<n/\-(n:Int)<=i/\i<n:=by
 unfold ixN at h;by_cases h0:0<=i
 .rw[if_pos h0]at h;by_cases h1:i<n
  .rw[if_pos h1]at h;have e:i.toNat=j:=Option.some.inj h;exact#[by rw[TQ h0 h1,e],JZ,JZ,h1]
  .rw[if_neg h1]at h;cases h
 .rw[if_neg h0]at h;by_cases h1:-(n:Int)<=i
  .rw[if_pos h1]at h;have e:(i+n).toNat=j:=Option.some.inj h;exact#[by rw[Tv JZ h1,e],JZ,h1,JZ]
  .rw[if_neg h1]at h;cases h
def atI_get{α:Type}{xs:List α}{i:Int}{v:α}(h:atI xs i=be v):∃j,seqIndex? i xs.length=be j/\xs[j]?=be v/\j<xs.length/\-(xs.length:Int)<=i/\i<xs.length:=by
 unfold atI at h;cases e:ixN xs.length i with
 |none=>rw[e]at h;cases h
 |some j=>
  rw[e]at h;obtain⟨h1,h2,h3,h4⟩:=qC e;exact#[j,h1,h,h2,h3,h4]
def bP{α:Type}{xs:List α}{j:Nat}{v:α}(h:xs[j]?=be v):atI xs (j:Int)=be v:=by
 have hj:j<xs.length:=(F7.mp h).1;have e:ixN xs.length (j:Int)=be j:=by
  unfold ixN;rw[if_pos JZ,if_pos JZ];simp
 unfold atI;rw[e];exact h
def dO(b:P3):Prop:=∀o i,subscripted b false o i=operate [o,i] (Tg o i)
def IxR(X:Cx)(r:R2):Prop:=
 ∀(value slice:P3) (pins:List (KF×R_)) (s:KM) (σ:St) (H:Hp) (x y:V) (v u:KB) (Q:VK),Inv X pins σ H s->RelV x v->RelV y u->r x y H Q->
  subscripted slice false v u=operate [v,u] (Tg v u)->RT (RR X.prog X.w) X.A (subscriptTail value slice v u) (EP X pins σ Q) X.xe s
def MtR(X:Cx)(id:String)(r:V->List V->Hp->VK->Prop):Prop:=
 ∀(pins:List (KF×R_)) (s:KM) (σ:St) (H:Hp) (x:V) (xs:List V) (v:KB) (us:List KB) (Q:VK),Inv X pins σ H s->RelV x v->Vals xs us->r x xs H Q->
  RT (RR X.prog X.w) X.A (call (.builtin id) (v::us)) (EP X pins σ Q) X.xe s
section
variable {X:Cx}{a b:P3}{ta tb:TE}{pos:R4}
def IxR.or{r r':R2}(h:IxR X r)(h':IxR X r'):IxR X (λx y H Q=>r x y H Q\/r' x y H Q):=by
 intro value slice pins s σ H x y v u Q I rx ry q hs;rcases q with q|q
 .exact h value slice pins s σ H x y v u Q I rx ry q hs
 .exact h' value slice pins s σ H x y v u Q I rx ry q hs
def pe_ix{r:R2}(hr:IxR X r)(ha:PE X a ta)(hb:PE X b tb)(hs:dO b):PE X (.Subscript a b pos) (tOp r ta tb):=by
 intro pins s σ H Q I h;exact Subscript_ (binT ha hb I h λv u s2 x y H2 I2 rx ry q=>hr a b pins s2 σ H2 x y v u Q I2 rx ry q (hs _ _))
def rIxL(K:Ex):R2:=λx y H Q=>∃p xs i v,x=.ref p/\y=.int i/\SqL K H p xs/\atI xs i=be v/\Q v H
def rIxT(K:Ex):R2:=λx y H Q=>∃p xs i v,x=.ref p/\y=.int i/\SqT K H p xs/\atI xs i=be v/\Q v H
def rIxS:R2:=λx y H Q=>∃z i c,x=.str z/\y=.int i/\z.length<=sizeLine/\atI z.cps.toList i=be c/\Q (.str #[[c].toArray]) H
def ix_list:IxR X (rIxL X.K):=by
 intro value slice pins s σ H x y v u Q I rx ry h hs;obtain⟨p,xs,i,z,rfl,rfl,hq,he,q⟩:=h;cases rx;obtain⟨t,rfl⟩:=ry;obtain⟨its,r,pl,hz⟩:=I.list hq;obtain⟨j,h1,h2,h3,h4,h5⟩:=atI_get he;obtain⟨w,ew,h_⟩:=r.get h2;have hl:=r.length;have hn:=line63;have ge:EP X pins σ Q w s:=#[z,H,I,h_,q];by_cases h0:0<=i
 .have hj:i.toNat=j:=by
   rw[TQ h0 h5]at h1;exact Option.some.inj h1
  exact item_listR pl.isList h0 JZ (by rw[hj];simpa using ew) ge hs
 .have hj:(i+(its.toArray.size:Int)).toNat=j:=by
   rw[Tv JZ h4]at h1;rw[FX,<-hl];exact Option.some.inj h1
  exact Tu (x:=w) pl.isList.typeIs slot_list_getitem.lookup
   (wpAny_getItem_list_neg (Q:=λr s'=>r=w/\EP X pins σ Q r s') pl.isList JZ (by rw[FX]<;>lia) JZ (by rw[hj];simpa using ew) #[rfl,ge]) hs
def ix_tup:IxR X (rIxT X.K):=by
 intro value slice pins s σ H x y v u Q I rx ry h hs;obtain⟨p,xs,i,z,rfl,rfl,hq,he,q⟩:=h;cases rx;obtain⟨t,rfl⟩:=ry;obtain⟨its,r,pl,hz⟩:=I.tuple hq;obtain⟨j,h1,h2,h3,h4,h5⟩:=atI_get he;obtain⟨w,ew,h_⟩:=r.get h2;have hl:=r.length;have hn:=line63;have ge:EP X pins σ Q w s:=#[z,H,I,h_,q];exact Tu (x:=w) pl.typeIs slot_tuple_getitem.lookup
  (getItem_tuple (j:=j) (Q:=λr s'=>r=w/\EP X pins σ Q r s') pl JZ JZ (by rw[FX,<-hl];exact h1) (by simpa using ew) #[rfl,ge]) hs
def xa:IxR X rIxS:=by
 intro value slice pins s σ H x y v u Q I rx ry h hs;obtain⟨z,i,c,rfl,rfl,hz,he,q⟩:=h;obtain⟨t,rfl⟩:=rx;obtain⟨t',rfl⟩:=ry;obtain⟨j,h1,h2,h3,h4,h5⟩:=atI_get he;have hl:z.cps.toList.length=z.length:=by simp[Str.length]
 rw[hl]at h1 h4 h5;have hn:=line63;exact tail_any (T4 s z t) slot_str_getitem.lookup (getItem_str (c:=c) (by
  have e1:decide (i< -(2^63:Int))=false:=decide_eq_false JZ;have e2:decide (i>=2^63)=false:=decide_eq_false JZ;rw[e1,e2,Bool.or_false]) (by rw[h1];simpa using h2) #[.str #[[c].toArray],H,I.tok _,#[_,rfl],q]) hs
def rIx(K:Ex):R2:=λx y H Q=>rIxL K x y H Q\/rIxT K x y H Q\/rIxS x y H Q
def qD:IxR X (rIx X.K):=ix_list.or (ix_tup.or xa)
def xb(its:List KB)(n j:Nat)(u:KB):Obj.mapSeq (·.setIfInBounds j u) {cls:=.type "list",data:=.seq its.toArray n}={cls:=.type "list",data:=.seq (its.set j u).toArray n}:=by
 simp[Obj.mapSeq]
def Inv.lst{pins:List (KF×R_)}{σ:St}{H:Hp}{s:KM}{p:KF}{xs:List V}(I:Inv X pins σ H s)(h:H p=be (.lst xs)):
  ∃(its:List KB) (n:Nat),Vals xs its/\s.heap.get? p=be {cls:=.type "list",data:=.seq its.toArray n}/\xs.length<=sizeLine:=by
 obtain⟨z,its,n,r,e⟩:=I.hok p _ h;exact#[its,n,r,e,z]
variable{pins:List (KF×R_)}{s:KM}
def Inv.lstUpd{σ:St}{H:Hp}{p:KF}{xs ys:List V}{its its':List KB}{n n':Nat}{f:R_->R_}(I:Inv X pins σ H s)(h:H p=be (.lst xs))
  (ho:s.heap.get? p=be {cls:=.type "list",data:=.seq its.toArray n}) (hf:f {cls:=.type "list",data:=.seq its.toArray n}={cls:=.type "list",data:=.seq its'.toArray n'}) (r:Vals ys its') (hz:ys.length<=sizeLine) (t:Nat):
  Inv X pins σ (upd H p (.lst ys)) {s with heap:=s.heap.update p f,toks:=t}:=by
 have e:(s.heap.update p f).get? p=be {cls:=.type "list",data:=.seq its'.toArray n'}:=by
  rw[Heap.get?_update_self f ho (by rw[hf]<;>rfl),hf]
 refine I.write (x:=p) (e:=p) (by rw[h];trivial) (.inl rfl) (λb u hb q=>(Heap.get?_update_other _ _ (Ne.symm hb)).trans q) #[_,e] ?_;exact#[hz,its',n',r,e]
def xc:V->V->V->Hp->(Hp->Prop)->Prop:=λo i v H Q=>∃p xs k j,o=.ref p/\i=.int k/\H p=be (.lst xs)/\ixN xs.length k=be j/\Q (upd H p (.lst (xs.set j v)))
def jI:PSet X xc:=by
 intro pins s σ H o i v ov iv u Q I ro ri rv h;obtain⟨p,xs,k,j,rfl,rfl,hp,hj,q⟩:=h;cases ro;obtain⟨t,rfl⟩:=ri;obtain⟨its,n,r,ho,hz⟩:=I.lst hp;obtain⟨h1,h2,h3,h4⟩:=qC hj;have hl:=r.length;have hn:=line63;have I':Inv X pins σ (upd H p (.lst (xs.set j v))) {s with heap:=s.heap.update p (Obj.mapSeq (·.setIfInBounds j u))}:=
  I.lstUpd hp ho (xb its n j u) (r.set rv j) (by rw[GH];exact hz) s.toks
 by_cases h0:0<=k
 .have hk:k.toNat=j:=by
   rw[TQ h0 h4]at h1;exact Option.some.inj h1
  exact ki_setAt ho h0 JZ (by rw[FX,<-hl];exact h4) (by rw[hk];exact#[_,I',q])
 .have hk:(k+(its.toArray.size:Int)).toNat=j:=by
   rw[Tv JZ h3]at h1;rw[FX,<-hl];exact Option.some.inj h1
  exact ki_setBack ho JZ (by rw[FX,<-hl];exact h3) JZ (by rw[hk];exact#[_,I',q])
def xg(lo hi:Option Int)(n:Nat):(SE lo hi B_ n).1=((HT.sIx n 0 lo:Nat):Int)/\(SE lo hi B_ n).2.1=((HT.sIx n n hi:Nat):Int)/\(SE lo hi B_ n).2.2=1:=by
 refine#[?_,?_,rfl]
 .cases lo with
  |none=>simp[SE,HT.sIx]
  |some i=>
   simp only[SE,HT.sIx,Io,show(1:Int)>0 by decide,if_true];by_cases h:i<0
   .simp only[h,if_true]<;>lia
   .simp only[h,if_false]<;>lia
 .cases hi with
  |none=>simp[SE,HT.sIx]
  |some i=>
   simp only[SE,HT.sIx,Io,show(1:Int)>0 by decide,if_true];by_cases h:i<0
   .simp only[h,if_true]<;>lia
   .simp only[h,if_false]<;>lia
def xh(its:List KB)(lo hi:Option Int):slicePick its.toArray lo hi B_=((its.drop (HT.sIx its.length 0 lo)).take (HT.sIx its.length its.length hi-HT.sIx its.length 0 lo)).toArray:=by
 obtain⟨h1,h2,h3⟩:=xg lo hi its.toArray.size;unfold slicePick;rw[h1,h2,h3];simp only[sliceRange_one,pick_run,FX]<;>rfl
def rSlL(K:Ex):V->Option Int->Option Int->Hp->VK->Prop:=λx lo hi H Q=>∃a xs,x=.ref a/\SqL K H a xs/\∀p,H p=B_->Q (.ref p) (upd H p (.lst (cutV xs lo hi)))
def jJ:SlR X (rSlL X.K):=by
 intro pins s σ H x v vl vu lo hi sl Q I rx hs pl pu h;obtain⟨a,xs,rfl,hx,q⟩:=h;cases rx;obtain⟨its,r,ht,hz⟩:=I.list hx;have b8:=r.length;refine#["list",_,slot_list_getitem.lookup,ht.isList.typeIs,?_];refine wpAny_getItem_list_slice ht.isList hs pl pu .none J8 ?_ (by rw[FX]<;>lia);rw[xh,<-b8];refine#[.ref s.heap.objs.size,_,I.laid (t':=s.toks) (o:=.lst (cutV xs lo hi)) (λb ob q=>Heap.get?_push_of_some _ q) (FR _) ?_,rfl,q _ (I.hok.fresh (FR _))];exact#[FY (qz xs lo hi) hz,_,0,(r.drop (HT.sIx xs.length 0 lo)).take (HT.sIx xs.length xs.length hi-HT.sIx xs.length 0 lo),Heap.get?_push_size _ rfl]
def bG:V->Bool
 |.non=>true
 |.bl _=>true
 |.int _=>true
 |.str _=>true
 |_=>false
def eqV:V->V->Bool
 |.non,.non=>true
 |.bl a,.bl b=>a==b
 |.bl a,.int b=>(if a then 1 else 0)==b
 |.int a,.bl b=>a==(if b then 1 else 0)
 |.int a,.int b=>a==b
 |.str a,.str b=>a==b
 |_,_=>false
variable{x:V}
def eqAt_V{A:RV}{y:V}{u v:KB}(ry:RelV y u)(rx:RelV x v)(fy:bG y=true)(fx:bG x=true):SeqAt.EqAt A s u v (eqV y x):=by
 cases y with
 |non=>
  cases ry;cases x with
  |non=>cases rx;exact SeqAt.EqAt.same _
  |bl b=>cases rx;exact SeqAt.EqAt.none_bool b
  |int b=>obtain⟨t,rfl⟩:=rx;exact SeqAt.EqAt.none_int b t
  |str b=>obtain⟨t,rfl⟩:=rx;exact SeqAt.EqAt.none_str b t
  |_=>exact absurd (show false=true from fx) F8
 |bl a=>
  cases ry;cases x with
  |non=>cases rx;exact SeqAt.EqAt.bool_none a
  |bl b=>cases rx;exact SeqAt.EqAt.bool_bool a b
  |int b=>obtain⟨t,rfl⟩:=rx;exact SeqAt.EqAt.bool_int a b t
  |str b=>obtain⟨t,rfl⟩:=rx;exact SeqAt.EqAt.bool_str a b t
  |_=>exact absurd (show false=true from fx) F8
 |int a=>
  obtain⟨t',rfl⟩:=ry;cases x with
  |non=>cases rx;exact SeqAt.EqAt.int_none a t'
  |bl b=>cases rx;exact SeqAt.EqAt.int_bool a t' b
  |int b=>obtain⟨t,rfl⟩:=rx;exact SeqAt.EqAt.int_int a t' b t
  |str b=>obtain⟨t,rfl⟩:=rx;exact SeqAt.EqAt.int_str a t' b t
  |_=>exact absurd (show false=true from fx) F8
 |str a=>
  obtain⟨t',rfl⟩:=ry;cases x with
  |non=>cases rx;exact SeqAt.EqAt.str_none a t'
  |bl b=>cases rx;exact SeqAt.EqAt.str_bool a t' b
  |int b=>obtain⟨t,rfl⟩:=rx;exact SeqAt.EqAt.str_int a t' b t
  |str b=>obtain⟨t,rfl⟩:=rx;exact SeqAt.EqAt.str_str a t' b t
  |_=>exact absurd (show false=true from fx) F8
 |_=>exact absurd (show false=true from fy) F8
def eqU(x:V)(u:KB):Bool:=match u with
 |.none=>eqV .non x
 |.bool b=>eqV (.bl b) x
 |.int i _=>eqV (.int i) x
 |.str z _=>eqV (.str z) x
 |_=>false
def qE{y:V}{u:KB}(r:RelV y u)(f:bG y=true):eqU x u=eqV y x:=by
 cases y with
 |non=>cases r;rfl
 |bl b=>cases r;rfl
 |int i=>obtain⟨t,rfl⟩:=r;rfl
 |str z=>obtain⟨t,rfl⟩:=r;rfl
 |_=>exact absurd (show false=true from f) F8
def jK{x:V}:∀{xs:List V} {us:List KB},Vals xs us->xs.all bG=true->us.any (eqU x)=xs.any λy=>eqV y x
 |_,_,.nil,_=>rfl
 |y::xs,u::us,.cons r t,f=>by
  rw[GT,Gj]at f;rw[Hs,Hs,qE r f.1,jK t f.2]
def mem_eqAt{A:RV}{s:KM}{x:V}{v:KB}(rx:RelV x v)(fx:bG x=true):∀{xs:List V} {us:List KB},Vals xs us->xs.all bG=true->∀u∈us,SeqAt.EqAt A s u v (eqU x u)
 |_,_,.nil,_=>λu hu=>by cases hu
 |y::xs,u::us,.cons r t,f=>λu' hu=>by
  rw[GT,Gj]at f;rcases FT.mp hu with rfl|hu
  .rw[qE r f.1];exact eqAt_V r rx f.1 fx
  .exact mem_eqAt rx fx t f.2 u' hu
def inV(x:V)(xs:List V):Bool:=xs.any λy=>eqV y x
def rIn(K:Ex)(neg:Bool):R2:=λx y H Q=>∃p xs,y=.ref p/\(SqL K H p xs\/SqT K H p xs)/\bG x=true/\xs.all bG=true/\Q (.bl (if neg then !inV x xs else inV x xs)) H
def xi:OpR X (R8 .NotIn) (rIn X.K true):=by
 intro pins s σ H x y v u Q I rx ry h;obtain⟨p,xs,rfl,hq,fx,fs,q⟩:=h;cases ry;rcases hq with hq|hq
 .obtain⟨its,r,pl,hz⟩:=I.list hq;refine SeqAt.notIn_listAt (eqU x) pl.isList (λw hw=>mem_eqAt rx fx r fs w (by simpa using hw)) #[.bl _,H,I,rfl,?_];rw[show its.toArray.any (eqU x)=its.any (eqU x)by simp,jK r fs];exact q
 .obtain⟨its,r,pl,hz⟩:=I.tuple hq;refine SeqAt.notIn_tupleAt (eqU x) pl (λw hw=>mem_eqAt rx fx r fs w (by simpa using hw)) #[.bl _,H,I,rfl,?_];rw[show its.toArray.any (eqU x)=its.any (eqU x)by simp,jK r fs];exact q
def xj:OpR X (R8 .NotIn) (λx y H Q=>∃i j,x=.str i/\y=.str j/\Q (.bl (!(!(Builtin.Str.occurrences j i 0 j.length 1).isEmpty))) H):=by
 intro pins s σ H x y v u Q I rx ry h;obtain⟨i,j,rfl,rfl,q⟩:=h;obtain⟨t,rfl⟩:=rx;obtain⟨t',rfl⟩:=ry;exact notIn_str #[.bl _,H,I,rfl,q]
def tyV(K:Ex)(T:String)(x:V)(H:Hp):Prop:=match x with
 |.str _=>T="str"
 |.int _=>T="int"
 | .ref p=>(T="list"/\∃xs,SqL K H p xs)\/(T="tuple"/\∃o,K.lookup p=be o/\o.cls=.type "tuple"/\o.dict=B_)\/
   (T="dict"/\((∃a9,H p=be (.dK a9))\/∃a9,H p=be (.dT a9)))\/(T="set"/\∃S n,H p=be (.set S n))
 |_=>False
def qF{σ:St}{H:Hp}{T:String}{v:KB}(I:Inv X pins σ H s)(r:RelV x v)(ty:tyV X.K T x H):
  s.TypeIs v T/\∀a,v=.ref a->∃ob,s.heap.get? a=be ob/\ob.dict=none:=by
 cases x with
 |str z=>
  obtain⟨t,rfl⟩:=r;cases(show T="str" from ty);exact#[T4 s z t,λ_ e=>nomatch e]
 |int i=>
  obtain⟨t,rfl⟩:=r;cases(show T="int" from ty);exact#[typeIs_int s i t,λ_ e=>nomatch e]
 |ref p=>
  cases r;rcases ty with⟨rfl,xs,hq⟩|⟨rfl,o,hk,hc,hd⟩|⟨rfl,hk⟩|⟨rfl,S,n,hk⟩
  .obtain⟨its,_,pl,_⟩:=I.list hq;refine#[pl.isList.typeIs,λa e=>?_];cases e;obtain⟨o,n,e,c,hd,_⟩:=pl;exact#[o,e,hd]
  .refine#[#[o,I.kIn p o hk,hc],λa e=>?_];cases e;exact#[o,I.kIn _ o hk,hd]
  .have z:∃o,s.heap.get? p=be o/\o.ExactDict:=by
    rcases hk with⟨a9,hk⟩|⟨a9,hk⟩
    .obtain⟨_,_,_,_,o,_,_,e,ex,_⟩:=I.hok p _ hk;exact#[o,e,ex]
    .obtain⟨_,_,_,_,o,_,_,e,ex,_⟩:=I.hok p _ hk;exact#[o,e,ex]
   obtain⟨o,e,ex⟩:=z;refine#[#[o,e,ex.1],λa e2=>?_];cases e2;exact#[o,e,ex.2.1]
  .obtain⟨o,_,_,_,e,ex,_⟩:=I.hok p _ hk;refine#[#[o,e,ex.1],λa e2=>?_];cases e2;exact#[o,e,ex.2.1]
 |_=>exact False.elim ty
def tBM0(K:Ex)(T:String)(r:V->List V->Hp->VK->Prop)(to:TE):TE:=λσ H Q=>to σ H λx H1=>tyV K T x H1/\r x [] H1 Q
def tBM(K:Ex)(T:String)(r:V->List V->Hp->VK->Prop)(to:TE)(t:TA):TE:=λσ H Q=>to σ H λx H1=>tyV K T x H1/\t σ H1 λxs H2=>r x xs H2 Q
variable {o e:P3}{es:List P3}{to:TE}{t:TA}{name:Jj}{apos cpos:R4}{T id:String}{r:V->List V->Hp->VK->Prop}
def xk(pa:PlainAttrs T)(slot:Slot T name id)(K6:typeOf (.builtin id)=pure (.type "method_descriptor"))(hm:MtR X id r)(ho:PE X o to)
  (b7:autoParam (RZ o name X.env (R1 o X.env)=R1 o X.env) zA0) (b_:autoParam ((apos.endLine==cpos.line)=true) zA0):PE X (.Call (.Attribute o name apos) [] [] cpos) (tBM0 X.K T r to):=by
 intro pins s σ H Q I h;refine wpAny_Call_method0_late b7 b_ (thn (ho pins s σ H _ I h) λv s1 b9=>?_);obtain⟨x,H1,I1,r1,ty,q1⟩:=b9;obtain⟨h1,h2⟩:=qF I1 r1 ty;exact#[T,id,pa,slot,K6,h1,h2,Calls.callWith_builtin rfl (PySem.evalArgs_none (hm pins s1 σ H1 x [] v [] Q I1 r1 .nil q1))]
def dP(pa:PlainAttrs T)(slot:Slot T name id)(K6:typeOf (.builtin id)=pure (.type "method_descriptor"))(hm:MtR X id r)(ho:PE X o to)(ha:PA X (e::es) t)
  (b7:autoParam (RZ o name X.env (R1 o X.env)=R1 o X.env) zA0)
  (d3:((Su cpos (RW (e::es) X.env)).all (λx=>!x.1)&&(SU cpos (Sr [] X.env)).all (λx=>x.1.isSome)
   && decide ((e::es).length+([]:List S4).length+(if([]:List S4).isEmpty then 0 else 1)<30))=true:=by rfl)
  (b_:autoParam ((apos.endLine==cpos.line)=true) zA0) (hs:autoParam (zSE X e es) zA0) (n6:autoParam (zPL X cpos es) zA0):
  PE X (.Call (.Attribute o name apos) (e::es) [] cpos) (tBM X.K T r to t):=by
 intro pins s σ H Q I h;refine wpAny_Call_method_late b7 d3 b_ rfl (thn (ho pins s σ H _ I h) λv s1 b9=>?_);obtain⟨x,H1,I1,r1,ty,q1⟩:=b9;obtain⟨h1,h2⟩:=qF I1 r1 ty;refine#[T,id,pa,slot,K6,h1,h2,?_];have hA:=ha cpos pins s1 σ H1 _ I1 q1;rw[hs]at hA ⊢;refine Calls.callWith_builtin (by show(false||(Su cpos (RW es X.env)).any (·.1))=false;rw[n6]<;>rfl) (Calls.evalArgs_plain ?_);exact thn hA λus s2 ⟨vs,H2,I2,r2,q2⟩=>hm pins s2 σ H2 x vs v us Q I2 r1 r2 q2
end
def MtM(X:Cx)(id:String)(r:V->List V->Hp->VK->Prop):Prop:=
 ∀(pins:List (KF×R_)) (s:KM) (σ:St) (H:Hp) (x:V) (xs:List V) (v:KB) (us:List KB) (Q:VK),Inv X pins σ H s->RelV x v->Vals xs us->r x xs H Q->
  RT (RR X.prog X.w) X.A (call (.builtin id) (v::us)) (EP X pins σ Q) X.xe s
def Vals.one:∀{x:V} {us:List KB},Vals [x] us->∃u,us=[u]/\RelV x u:=by
 intro x us h;cases h with
 |cons r h=>cases h;exact#[_,rfl,r]
def Vals.zero:∀{us:List KB},Vals [] us->us=[]
 |_,.nil=>rfl
def Vals.dropLast{xs:List V}{us:List KB}(h:Vals xs us):Vals xs.dropLast us.dropLast:=by
 induction h with
 |nil=>exact .nil
 |cons r t ih=>
  cases t with
  |nil=>exact .nil
  |cons q t'=>exact .cons r ih
def xm{α:Type}(l:List α):l.eraseIdx (l.length-1)=l.dropLast:=by
 induction l with
 |nil=>rfl
 |cons a r ih=>
  cases r with
  |nil=>rfl
  |cons b r=>
   have e:(a::b::r).length-1=((b::r).length-1)+1:=by
    have h1:(a::b::r).length=r.length+2:=rfl;have h2:(b::r).length=r.length+1:=rfl;lia
   rw[e,List.eraseIdx_cons_succ,ih]
   all_goals rfl
section
variable {X:Cx}{pins:List (KF×R_)}{σ:St}{H:Hp}{s:KM}{l b:KF}{xs ys zs:List V}
variable{its:List KB}
def Inv.lset{its':List KB}{n:Nat}{f:Array KB->Array KB}{t':Nat}(I:Inv X pins σ H s)(hH:H l=be (.lst xs))
  (e:s.heap.get? l=be {cls:=.type "list",data:=.seq its.toArray n}) (hf:f its.toArray=its'.toArray) (hv:Vals ys its') (hz:ys.length<=sizeLine):
  Inv X pins σ (upd H l (.lst ys)) {s with heap:=s.heap.update l (Obj.mapSeq f),toks:=t'}:=by
 have q:=PySem.IsL.update e f;rw[hf]at q;refine I.write (x:=l) (e:=l) (by rw[hH];exact trivial) (.inl rfl) (λb' u hb hu=>(Heap.get?_update_other s.heap (Obj.mapSeq f) (Ne.symm hb)).trans hu) #[_,q] ?_;exact#[hz,its',_,hv,q]
def Inv.lnew{t':Nat}(I:Inv X pins σ H s)(hv:Vals ys its)(hz:ys.length<=sizeLine):
  Inv X pins σ (upd H s.heap.objs.size (.lst ys)) {s with heap:=s.heap.push {cls:=.type "list",data:=.seq its.toArray},toks:=t'}:=
 I.laid (λ_ _ q=>Heap.get?_push_of_some _ q) (FR _) #[hz,its,0,hv,Heap.get?_push_size _ rfl]
def Inv.fresh(I:Inv X pins σ H s):H s.heap.objs.size=none:=I.hok.fresh (FR _)
def Inv.lstM(I:Inv X pins σ H s)(hH:H l=be (.lst xs)):xs.length<=sizeLine/\∃(its:List KB) (n:Nat),Vals xs its/\xs.length=its.length/\s.heap.get? l=be {cls:=.type "list",data:=.seq its.toArray n}:=by
 obtain⟨z,its,n,r,e⟩:=I.hok l _ hH;exact#[z,its,n,r,r.length,e]
def xn{n:Nat}(h:n<=sizeLine):Builtin.List.listTooLong n=false:=by
 unfold Builtin.List.listTooLong;exact decide_eq_false JZ
end
section
variable {X:Cx}
def xo:V->List V->Hp->VK->Prop:=λx vs H Q=>∃l xs y,x=.ref l/\vs=[y]/\H l=be (.lst xs)/\xs.length<sizeLine/\Q .non (upd H l (.lst (xs++[y])))
def jL:MtM X "list.append" xo:=by
 intro pins s σ H x vs v us Q I rx rv h;obtain⟨l,xs,y,rfl,rfl,hH,hz,q⟩:=h;cases rx;obtain⟨u,rfl,ru⟩:=rv.one;obtain⟨z,its,n,r,hl,e⟩:=I.lstM hH;refine T6 F.slot_list_append #[_,e,rfl] F.entry_list_append (F.args_list_append_2 _ _) (PySem.list_append l its.toArray n u (by rw[FX];lia)) #[e,?_];refine#[.non,_,I.lset (its':=its++[u]) hH e J8 (r.append (.cons ru .nil)) ?_,rfl,q];rw[F9,G9];lia
def xp:V->List V->Hp->VK->Prop:=λx vs H Q=>∃l b xs zs,x=.ref l/\vs=[.ref b]/\H l=be (.lst xs)/\H b=be (.lst zs)/\xs.length+zs.length<=sizeLine/\Q .non (upd H l (.lst (xs++zs)))
def FJ:MtM X "list.extend" xp:=by
 intro pins s σ H x vs v us Q I rx rv h;obtain⟨l,b,xs,zs,rfl,rfl,hH,hB,hz,q⟩:=h;cases rx;obtain⟨u,rfl,ru⟩:=rv.one;cases ru;obtain⟨z,its,n,r,hl,e⟩:=I.lstM hH;obtain⟨z2,g_,n2,r2,L5,e2⟩:=I.lstM hB;have i_:its.toArray.size+g_.toArray.size<=sizeLine:=by rw[FX,FX];lia
 have K7:¬(!its.toArray.isEmpty&&Builtin.List.listTooLong (its.toArray.size+g_.toArray.size))=true:=by
  rw[xn i_,Bool.and_false];exact F8
 refine T6 F.slot_list_extend #[_,e,rfl] F.entry_list_extend (F.args_list_extend_2 _ _)
  (AutoSeq1.list_extend_list_list_0 l its.toArray n b g_.toArray n2 K7 (by rw[FX];lia) JZ) #[e,e2,?_]
 refine#[.non,_,I.lset (its':=its++g_) hH e J8 (r.append r2) ?_,rfl,q];rw[F9];lia
def rPop:V->List V->Hp->VK->Prop:=λx vs H Q=>∃l xs y,x=.ref l/\vs=[]/\H l=be (.lst xs)/\xs[xs.length-1]?=be y/\Q y (upd H l (.lst xs.dropLast))
def xq:MtM X "list.pop" rPop:=by
 intro pins s σ H x vs v us Q I rx rv h;obtain⟨l,xs,y,rfl,rfl,hH,hy,q⟩:=h;cases rx;have P1:=rv.zero;subst P1;obtain⟨z,its,n,r,hl,e⟩:=I.lstM hH;obtain⟨u,hu,ru⟩:=r.get hy;have MF:its.toArray[its.toArray.size-1]?=be u:=by
  show its.toArray[its.length-1]?=be u;rw[<-Ip,<-hl];exact hu
 refine T6 F.slot_list_pop #[_,e,rfl] F.entry_list_pop (F.args_list_pop_1 _) (MeetsSeq.list_pop_last l its.toArray n u MF (by rw[FX];lia)) #[e,?_];refine#[y,_,I.lset (its':=its.dropLast) hH e ?_ r.dropLast ?_,ru,q]
 .show its.toArray.eraseIdxIfInBounds (its.toArray.size-1)=its.dropLast.toArray;rw[FX,List.eraseIdxIfInBounds_toArray,xm]
 .rw[List.length_dropLast];lia
def rCat:R2:=λx y H Q=>∃l b xs zs,x=.ref l/\y=.ref b/\H l=be (.lst xs)/\H b=be (.lst zs)/\xs.length+zs.length<=sizeLine/\∀p,H p=B_->Q (.ref p) (upd H p (.lst (xs++zs)))
def qG:OpR X (Sj .Add) rCat:=by
 intro pins s σ H x y v u Q I rx ry h;obtain⟨l,b,xs,zs,rfl,rfl,hH,hB,hz,q⟩:=h;cases rx;cases ry;obtain⟨z,its,n,r,hl,e⟩:=I.lstM hH;obtain⟨z2,g_,n2,r2,L5,e2⟩:=I.lstM hB;refine PySem.P.add_list e e2 ?_ (by rw[FX,FX];lia);have ea:its.toArray++g_.toArray=(its++g_).toArray:=J8
 rw[ea];exact#[.ref _,_,I.lnew (t':=s.toks) (r.append r2) (by rw[F9];lia),rfl,q _ I.fresh]
end
end L2
namespace OY
open PySem PySem.W PySem.Calls PyProof.Rows
variable{P:Params}
def xr{h:Heap}:∀(ns:List Int) (vs:List KB),WellAll P h vs (ns.map WData.int)->TK vs ns:=by
 intro ns;induction ns with
 |nil=>
  intro vs w;rw[Ht]at w;cases w;exact .nil
 |cons n ns ih=>
  intro vs w;rw[Gi]at w;cases w with
  |cons a b=>
   cases a;exact .cons _ _ (ih _ b)
variable{l:OpenLaw}
def xt{n:Nat}(hn:l.most=be n){h:Heap}{args:List WData}{J1:List KB}
  (Jn:l.row.toRowW.claim.pre args=true) (MG:WellAll P h J1 args):
  ∃a vs ns,J1=[Value.ref a]/\args=[WData.list (ns.map WData.int)]/\h.get? a=be {cls:=.type "list",data:=.seq vs.toArray}/\TK vs ns/\ns.length<=n:=by
 have P2:WShape.hasAll [] args [.list .int]=true:=(pre_splitW Jn).1;have hc:l.pre.holds [] {args:=args}=true:=(pre_splitW Jn).2;obtain⟨d,r,rfl,h1,h2⟩:=hasAllW_cons P2;obtain rfl:=hasAllW_nil h2;obtain⟨xs,rfl,h3⟩:=hasW_list h1;obtain⟨ns,rfl⟩:=items_int h3;have b8:ns.length<=n:=by
  unfold OpenLaw.pre at hc;have h4:(WTm.not (.lt (.lit (.int (n:Int))) (.len (.arg 0)))).holds [] {args:=[.list (ns.map .int)]}=true:=by
   have h4:=(holds_andW hc).1;rw[hn]at h4;exact h4
  have h5:=condW_of h4 (w_not (w_lt w_lit (w_len_list (w_arg rfl))));rw[F4]at h5;refine Hu λq=>?_;have q':(n:Int)<((ns.length:Nat):Int):=JZ
  first
   |(rw[decide_eq_true q']at h5;exact absurd h5 J7)
   |(simp at h5;lia)
 cases MG with
 |cons w1 w2=>
  cases w2;cases w1 with
  |list ho MH=>exact#[_,_,ns,rfl,rfl,ho,xr ns _ MH,b8]
def xu(l:OpenLaw)(args:List WData):l.row.toRowW.claim.post args (.bool true) args=true:=
 postW_of (r:=l.row.toRowW) (X:=(true==true))
  (show WShape.has [] (.bool true) .bool=true by first|rfl|decide|simp[WShape.has,WShape.arms,WShape.armsAll])
  (show(WTm.eq .res (.lit (.bool true))).value [] {args:=args,res:=be (.bool true),after:=args}=be (.bool (true==true))from w_eq_bool (w_res rfl) w_lit) rfl
def attach_call{n:Nat}{q:RP}{j6:List Jj}{XP:(Jj->Option KB)->Heap->Prop}{YP:RU->Heap->Prop}{d:DefRec}
  (hn:l.most=be n) (K8:d.params.defaults=[])
  (call:∀(w:RU) (s₀ s₁:KM) (mg mb:Jj->Option KB) (fa:KF) (o:R_) (pm cd doc:KB) (a:KF) (vs:List KB) (ns:List Int),
   Ground q j6 [] XP w s₀ mg mb s₁.heap->YP w s₁.heap->
   s₁.heap.get? fa=be o->o.data=.func (docDef d.name d.params d.body d.scope pm cd doc)->s₁.heap.CodeRec cd d.name->mg d.name=be (.ref fa)->
   s₁.heap.get? a=be {cls:=.type "list",data:=.seq vs.toArray}->TK vs ns->ns.length<=n->s₁.gens=[].toArray->
   S3 (RR l.prog w) S7 (.call (.ref fa) #[[.ref a],[]]) (λr s'=>r=.ok (.ret (.bool true))/\OldK s₁.heap s'.heap/\s'.os=s₁.os/\SQ s'.gens) s₁):
  WalkO q j6 XP YP l.row.toRowW d [] (λf vs=>PySem.call f vs):=by
 intro w s₀ s₁ mg mb G Y fa o pm cd doc dV kV ho hd e_ hD j4 hg args J1 as Jn P4 Ro MG Rp;obtain rfl:dV=.none:=Dflts.none hD K8;obtain rfl:kV=.none:=Dflts.noKw hD;obtain⟨a,vs,ns,rfl,rfl,J2,w6,b8⟩:=xt hn Jn MG;refine enter_call (Ss (call w s₀ s₁ mg mb fa o pm cd doc a vs ns G Y ho (fd_plain hd) e_ j4 J2 w6 b8 hg) λr s' hq=>?_);obtain⟨rfl,h2,h3,h4⟩:=hq;exact#[.inl #[.bool true,.bool true,[],rfl,λ_=>rfl,.bool true,xu l _,λ_=>#[List.Pairwise.nil,λ_ hm=>(nomatch hm)]],h2,h3,h4]
end OY
namespace L2
open PySem PySem.Spec PyProof.Rows
def qH:∀{vs:List KB} {ns:List Int},TK vs ns->Vals (ns.map V.int) vs
 |_,_,.nil=>.nil
 |_,_,.cons n t h=>.cons #[t,rfl] (qH h)
def Only(H:Hp):Prop:=∀b,H b=B_\/∃o xs,H b=be (.frz o (.lst xs))
variable{P:RP}{w:RU}{k:Nat}{a:KF}
def xw{K:Ex}{mg mb:Jj->Option KB}{CX:CXT}{fa:KF}{fd:R3}{x:Jj}{sp:Sp}{s₁:KM}{vs:List KB}{ns:List Int}
  (KX:K.In s₁.heap) (hns:s₁.heap.Ns Pi mg) (hb:s₁.heap.Ns T7 mb) (P5:∀x:Jj,x≠"__name__"->mb x=R9 x) (MI:s₁.heap.NoLimit) (hg:s₁.gens=[].toArray)
  (ha:s₁.heap.get? a=be {cls:=.type "list",data:=.seq vs.toArray}) (hi:TK vs ns) (hl:ns.length<=sizeLine) (hr:Room k S7)
  (F:∀base:Heap,K.In base->base.Ns Pi mg->FnOk P w K mg base CX k fa fd [x] sp) (K9:∀(s:KM) (u:KB),SW s fd #[[u],[]] [(x,u)])
  (v_:∀H:Hp,Only H->SqL K H a (ns.map V.int)->sp [.ref a] H (λv _=>v=.bl true) λ_ _ _=>False)
  (MJ:∀H e s',CX [] H s₁ (λ_ _ _=>False) e s'->False):
  S3 (RR P w) S7 (.call (.ref fa) #[[.ref a],[]]) (λr s'=>r=.ok (.ret (.bool true))/\OldK s₁.heap s'.heap/\s'.os=s₁.os/\SQ s'.gens) s₁:=by
 have rv:=qH hi;have MK:=hi.length;have K_:∀H:Hp,Only H->SqL K H a (ns.map V.int)->HOk P w H s₁.heap->(∀b,H b≠B_->b=a)->(H a≠B_->K.lookup a=B_)->
   S3 (RR P w) S7 (.call (.ref fa) #[[.ref a],[]]) (λr s'=>r=.ok (.ret (.bool true))/\OldK s₁.heap s'.heap/\s'.os=s₁.os/\SQ s'.gens) s₁:=by
  intro H hO hS hok hA hK;have p9:∀{b:KF} {o:R_},s₁.heap.get? b=be o->H b=B_->(hidT s₁.heap H).get? b=be o:=λe n=>vG e n;have K4:∀{b:KF} {o:R_} {es:Array DictEntry} {ep:Nat},s₁.heap.get? b=be o->o.data=.dict es ep->H b=none:=λ{b o es ep} e d=>by
   cases q:H b with
   |none=>rfl
   |some u=>
    have e':b=a:=hA b (by rw[q];simp);subst e';rw[ha]at e;cases e;have d':Data.seq vs.toArray _=Data.dict es ep:=d;cases d'
  have L7:∀{b:KF} {m:Jj->Option KB},s₁.heap.Ns b m->(hidT s₁.heap H).Ns b m:=λ{b m} ⟨o,es,ep,e,d,r⟩=>#[o,es,ep,p9 e (K4 e d),d,r];have O0:K.In (hidT s₁.heap H):=λb o e=>p9 (KX b o e) (by
   cases q:H b with
   |none=>rfl
   |some u=>
    have e':b=a:=hA b (by rw[q];simp);subst e';rw[hK (by rw[q];simp)]at e;cases e)
  have hM:Mod K mg (hidT s₁.heap H):=#[O0,L7 hns,#[mb,L7 hb,P5],let ⟨mc,h1,h2⟩:=MI;#[mc,L7 h1,h2]];have e0:Env0 P w K mg (hidT s₁.heap H) S7 [] s₁ H:=#[rfl,hM,λb o e=>vH e,Hn (vF _ _),trivial,λb hb=>absurd (show b∈([]:List KF)from hb) J8,hok,.of_eq hg];refine Ss ((F _ O0 (L7 hns)).run S7 [] s₁ H #[[.ref a],[]] [.ref a] [.ref a] _ _ hr e0 (K9 s₁ (.ref a)) (.cons rfl .nil) (v_ H hO hS)) λr s' h=>?_;cases r with
  |error e=>exact(MJ H e s' h).elim
  |ok fl=>
   cases fl with
   |next=>exact False.elim h
   |brk=>exact False.elim h
   |cont=>exact False.elim h
   |ret u=>
    obtain⟨v,H',os,bare,un,ML,r',q⟩:=h;have q':v=.bl true:=q;subst q';obtain rfl:u=Value.bool true:=r';refine#[rfl,OldK.of_keep λb o e=>?_,os,bare];cases q:H b with
    |none=>exact un.keep b o e q (by intro z;exact absurd (show b∈([]:List KF)from z) J8) J8
    |some u=>
     rcases hO b with z|⟨ob,xs,z⟩
     .rw[q]at z;cases z
     .have z2:=un.frzs b ob _ z;obtain⟨e1,_⟩:=hok b _ z;obtain⟨e2,_⟩:=ML b _ z2;rw[e]at e1;cases e1;exact e2
 cases hk:K.lookup a with
 |some o=>
  have e:=KX a o hk;rw[ha]at e;cases e;refine K_ (λ_=>B_) (λ_=>.inl rfl) (.inr #[_,vs.toArray,_,hk,rfl,rfl,rfl,by rw[FX,MK];exact hl,by simpa using rv]) (λb u z=>by have z':(B_:Option HO)=be u:=z;cases z') (λb z=>absurd rfl z) λz=>absurd rfl z
 |none=>
  refine K_ (λb=>if b=a then be (.frz {cls:=.type "list",data:=.seq vs.toArray} (.lst (ns.map V.int)))else B_) (λb=>?_) (.inl (.inr #[{cls:=.type "list",data:=.seq vs.toArray},if_pos rfl])) (λb u z=>?_) (λb z=>?_) λ_=>hk
  .by_cases hb:b=a
   .exact .inr #[_,_,if_pos hb]
   .exact .inl (if_neg hb)
  .by_cases hb:b=a
   .have z':=(if_pos hb).symm.trans z;cases z';subst hb;exact#[ha,by rw[F4];exact hl,vs,_,rv,ha]
   .have z':=(if_neg hb).symm.trans z;cases z'
  .by_cases hb:b=a
   .exact hb
   .exact absurd (if_neg hb) z
def walk_of{l:HM}{n:Nat}{q:RP}{j6:List Jj}{XP:(Jj->Option KB)->Heap->Prop}{YP:RU->Heap->Prop}{d:DefRec}{K:Params->Ex}{CX:RU->CXT}{sp:RU->Sp}{x:Jj}
  (hn:l.most=be n) (J0:n<=sizeLine) (K8:d.params.defaults=[]) (hr:Room k S7)
  (hY:∀(w:RU) (h:Heap),YP w h->(K w.params).In h)
  (F:∀(w:RU) (mg:Jj->Option KB) (fa:KF) (h:Heap),(K w.params).In h->h.Ns Pi mg->mg d.name=be (.ref fa)->
   ∃fd:R3,(∀(s:KM) (u:KB),SW s fd #[[u],[]] [(x,u)])/\
    ∀base:Heap,(K w.params).In base->base.Ns Pi mg->FnOk l.prog w (K w.params) mg base (CX w) k fa fd [x] (sp w))
  (v_:∀(w:RU) (H:Hp) (a:KF) (ns:List Int),ns.length<=n->Only H->SqL (K w.params) H a (ns.map V.int)->sp w [.ref a] H (λv _=>v=.bl true) λ_ _ _=>False)
  (MJ:∀(w:RU) (H:Hp) (s:KM) (e:KB) (s':KM),CX w [] H s (λ_ _ _=>False) e s'->False):
  Iq q j6 XP YP l.row.toRowW d [] (λf vs=>PySem.call f vs):=by
 refine OY.attach_call hn K8 λw s₀ s₁ mg mb fa o pm cd doc a vs ns G Y ho hd e_ j4 J2 w6 b8 hg=>?_;have KX:=hY w _ Y;obtain⟨fd,hb,hF⟩:=F w mg fa _ KX G.T.g j4;exact xw KX G.T.g G.T.b G.T.builtins G.T.nolimit hg J2 w6 (FY b8 J0) hr hF hb (λH hO hS=>v_ w H a ns b8 hO hS) λH e s'=>MJ w H s₁ e s'
def aM(s:RS)(j:Nat):RS:=match s with
 |.ClassDef _ _ _ body _ _ _ _ _ _ _=>body.getD j (.Pass #[0,0,0,0])
 |_=>.Pass #[0,0,0,0]
def bo(s:RS):Arguments:=match s with
 |.FunctionDef _ a _ _ _ _ _ _ _ _=>a
 |_=>{posonlyargs:=[],args:=[],vararg:=B_,kwonlyargs:=[],kw_defaults:=[],kwarg:=B_,defaults:=[]}
def aG(s:RS):List RS:=match s with
 |.FunctionDef _ _ b _ _ _ _ _ _ _=>b
 |_=>[]
def ag(s:RS):Sm:=match s with
 |.FunctionDef _ _ _ _ _ _ sc _ _ _=>sc
 |_=>{kind:=.function,names:=[],isGenerator:=false,isCoroutine:=false}
abbrev E0:XK:=λ_ _ _=>False
structure FunG(K:Ex)(dV:KB)(x qual:Str)(st:RS)(f:KF)(fd:R3):Prop where
 ex:∃(oc:KB) (od:Option KF) (kV doc pm:KB) (an:Option KF) (cdv ct:KB) (osl:Array (Option KB)),
  fd=fnOf x qual (bo st) (aG st) (ag st) dV kV doc pm an cdv ct/\K.lookup f=be #[oc,od,.func fd,osl]/\codeIn K cdv qual=true
 kp:keepIn K (.ref f)=true
abbrev Fun(K:Ex):Jj->Jj->RS->KF->R3->Prop:=FunG K .none
section
variable {P:RP}{w:RU}{K:Ex}{mg:Jj->Option KB}{base:Heap}
def Fun.binds{x qual:Jj}{st:RS}{f:KF}{fd:R3}{ps:List Jj}(F:Fun K x qual st f fd)
  (h:∀(kV doc pm:KB) (an:Option KF) (cdv ct:KB) (us:List KB),us.length=ps.length->SH (fnOf x qual (bo st) (aG st) (ag st) .none kV doc pm an cdv ct) #[us,[]]=pure (ps.zip us)):Binds K fd ps []:=by
 obtain⟨oc,od,kV,doc,pm,an,cdv,ct,osl,rfl,lk,e_⟩:=F.ex;exact .all (h kV doc pm an cdv ct)
def gf{x qual:Jj}{st:RS}{f:KF}{oc:KB}{od an:Option KF}{osl:Array (Option KB)}{kV doc pm cdv ct:KB}(l:K.lookup f=be #[oc,od,.func (fnOf x qual (bo st) (aG st) (ag st) .none kV doc pm an cdv ct),osl])
  (c:codeIn K cdv qual=true) (k:keepIn K (.ref f)=true):Fun K x qual st f (fnOf x qual (bo st) (aG st) (ag st) .none kV doc pm an cdv ct):=#[#[oc,od,kV,doc,pm,an,cdv,ct,osl,rfl,l,c],k]
end
def dQ{A:RV}(hr:Room k A):A.units+1<SZ:=Ir (Nat.add_le_add_left (J7:1<=64) _) hr.units
def xx{n:Nat}(h:n<=1000):n<sizeLine:=Ir h J7
def ite2{c A B:Prop}[Decidable c](h1:c->A)(h2:¬c->B):if c then A else B:=by
 by_cases h:c
 .rw[if_pos h];exact h1 h
 .rw[if_neg h];exact h2 h
def Same(H H':Hp):Prop:=∀b o,H b=be o->H' b=be o
def Same.refl(H:Hp):Same H H:=λ_ _ h=>h
variable{H:Hp}
def Same.trans{H1 H2:Hp}(a:Same H H1)(b:Same H1 H2):Same H H2:=λc o h=>b c o (a c o h)
variable{H':Hp}
def Same.free(e:Same H H'){l:KF}(h:H' l=Option.none):H l=Option.none:=by
 cases q:H l with
 |none=>rfl
 |some o=>
  rw[e l o q]at h;cases h
def Same.seq{K:Ex}{xs:List V}(e:Same H H')(h:SqL K H a xs):SqL K H' a xs:=by
 rcases h with(h|⟨o,h⟩)|h
 .exact .inl (.inl (e _ _ h))
 .exact .inl (.inr #[o,e _ _ h])
 .exact .inr h
section
variable {κ:Type}[DecidableEq κ]
def valV(a9:List (κ×V))(k:κ):Option V:=(a9.find? λkv=>decide (kv.1=k)).map (·.2)
def jM{p:κ×V}{r:List (κ×V)}{k:κ}(e:p.1=k):valV (p::r) k=be p.2:=by simp[valV,GU,e]
def jN{p:κ×V}{r:List (κ×V)}{k:κ}(e:¬p.1=k):valV (p::r) k=valV r k:=by simp[valV,GU,e]
def RelO.getD{o:Option V}{u:Option KB}{d:V}{d':KB}(r:RelO o u)(rd:RelV d d'):RelV (o.getD d) (u.getD d'):=by
 cases o with
 |none=>cases u with
  |none=>exact rd
  |some _=>exact(show False from r).elim
 |some _=>cases u with
  |none=>exact(show False from r).elim
  |some _=>exact r
def KV.val{a9:List (κ×V)}{vs:List (κ×KB)}(r:KV a9 vs)(k:κ):RelO (valV a9 k) (Tc vs k):=by
 unfold KV at r;induction r with
 |nil=>exact True.intro
 |@cons p q ps qs h t ih=>
  obtain⟨h1,h2⟩:=h;by_cases e:p.1=k
  .have e':q.1=k:=h1.symm.trans e;have b:Tc (q::qs) k=be q.2:=by simp[Tc,GU,e']
   rw[jM e,b];exact h2
  .have e':¬q.1=k:=λz=>e (h1.trans z);have b:Tc (q::qs) k=Tc qs k:=by simp[Tc,GU,e']
   rw[jN e,b];exact ih
end
def qI{k:Key}{u:KB}(r:RelV (kV k) u):(bF P w).is k u=true:=by
 cases k with
 |inl i=>obtain⟨t,e⟩:=(show ∃t,u=Value.int i t from r);subst e;exact mixKind_int P w i t
 |inr x=>obtain⟨t,e⟩:=(show ∃t,u=Value.str x t from r);subst e;exact vD P w x t
def qJ{P:RP}{w:RU}:∀{ks:List Key} {us:List KB},Vals (ks.map kV) us->ItemsAre (bF P w) ks us
 |[],_,r=>by rw[Ht]at r;cases r;exact .nil
 |k::ks,_,r=>by
  rw[Gi]at r;cases r with
  |cons h t=>exact .cons (qI h) (qJ t)
abbrev KT(H:Hp):List (List Key×V)->List (List Key×KF×KB)->Prop:=Paired λp q=>p.1=q.1/\H q.2.1=be (.tup (p.1.map kV))/\RelV p.2 q.2.2
variable{xs:List (List Key×KF×KB)}{a9:List (List Key×V)}
def KT.val(r:KT H a9 xs)(k:List Key):RelO (valV a9 k) ((Tb xs k).map (·.2)):=by
 induction r with
 |nil=>exact True.intro
 |@cons p q ps qs h t ih=>
  obtain⟨h1,_,h2⟩:=h;by_cases e:p.1=k
  .have e':q.1=k:=h1.symm.trans e;have b:Tb (q::qs) k=be q.2:=by simp[Tb,GU,e']
   rw[jM e,b];exact h2
  .have e':¬q.1=k:=λz=>e (h1.trans z);have b:Tb (q::qs) k=Tb qs k:=by simp[Tb,GU,e']
   rw[jN e,b];exact ih
def KT.keeps(r:KT H a9 xs)(ht:∀b ys,H b=be (.tup ys)->H' b=be (.tup ys)):KT H' a9 xs:=
 Paired.mapP r λ_ _ z=>#[z.1,ht _ _ z.2.1,z.2.2]
section
variable {P:RP}{w:RU}{H:Hp}{h:Heap}{a:KF}
def qK{u:HO}(ok:HOk P w H h)(e:Rd H a u):ObjOk P w H h a u:=e.ok ok
def xy{a9:List (Key×V)}(ok:HOk P w H h)(e:Rd H a (.dK a9)):a9.length<=sizeLine/\(a==Sl)=false/\∃vs,KV a9 vs/\h.DictOf (bF P w) a vs:=
 show ObjOk P w H h a (.dK a9)from qK ok e
def key_of{ks:List Key}(ok:HOk P w H h)(e:H a=be (.tup (ks.map kV))):(SR (bF P w)).is h ks a:=by
 obtain⟨_,its,r,o,h1,h2,n,h3⟩:=(show ObjOk P w H h a (.tup (ks.map kV))from ok a _ e);exact#[o,its.toArray,n,h1,h2,h3,by simpa using qJ r]
variable{a9:List (List Key×V)}
def qL(ok:HOk P w H h)(e:Rd H a (.dT a9)):a9.length<=sizeLine/\(a==Sl)=false/\
  ∃xs,KT H a9 xs/\h.DictOfH (SR (bF P w)) a xs:=by
 obtain⟨z,y,xs,r,o,es,ep,h1,h2,h3,h4,h5⟩:=(show ObjOk P w H h a (.dT a9)from qK ok e);refine#[z,y,xs,r,o,es,ep,h1,h2,h3,h4,λx hx=>?_,h5];have all:∀{l:List (List Key×V)} {m:List (List Key×KF×KB)},KT H l m->∀x∈m,(SR (bF P w)).is h x.1 x.2.1:=by
  intro l m q;induction q with
  |nil=>intro x hx;exact nomatch hx
  |@cons p q ps qs hq t ih=>
   intro x hx;rcases FT.mp hx with e|hx
   .subst e;exact key_of ok (by rw[<-hq.1];exact hq.2.1)
   .exact ih x hx
 exact all r x hx
def xz(ok:HOk P w H h)(e:H a=be (.dT a9)):a9.length<=sizeLine/\(a==Sl)=false/\
  ∃xs,KT H a9 xs/\h.DictOfH (SR (bF P w)) a xs:=qL ok (.inl e)
end
def DGet(H:Hp)(a:KF)(y:V)(r:Option V):Prop:=
 (∃a9 k,Rd H a (.dK a9)/\y=kV k/\r=valV a9 k)\/∃a9 k b,Rd H a (.dT a9)/\y=.ref b/\H b=be (.tup (k.map kV))/\r=valV a9 k
def DGet.t{b:KF}{k:List Key}(e:H a=be (.dT a9))(eb:H b=be (.tup (k.map kV))):DGet H a (.ref b) (valV a9 k):=.inr #[a9,k,b,.inl e,rfl,eb,rfl]
section
variable {X:Cx}{pins:List (KF×R_)}{σ:St}{H:Hp}{s:KM}{a:KF}{y v:V}{u r:KB}{o:Option V}{A:RV}{E:KB->KM->Prop}
def Inv.big(I:Inv X pins σ H s):Sl<s.heap.objs.size:=by
 have h:Pi<s.heap.objs.size:=(I.mod.glob.keeps I.bk).lt;exact Iu J7 h
def xA{h':Heap}{t':Nat}{ob:HO}(I:Inv X pins σ H s)(mu:Mut (H a))(hs:Heap.SameBut a s.heap h')(he:∃q,h'.get? a=be q)(new:ObjOk X.prog X.w (upd H a ob) h' a ob):
  Inv X pins σ (upd H a ob) {s with heap:=h',toks:=t'}:=
 I.write (x:=a) (e:=a) mu (.inl rfl) (λb q hb z=>(hs.2 b hb).trans z) he new
end
def xB(h:Heap)(hb:Sl<h.objs.size):ObjOk P w H (h.push {cls:=.type "dict",data:=.dict [].toArray}) h.objs.size (.dT []):=
 #[Gh _,beq_eq_false_iff_ne.mpr (Ne.symm (FU hb)),[],.nil,_,[].toArray,0,Heap.get?_push_size _ rfl,#[rfl,rfl,rfl],rfl,rfl,Iv]
def xC:TE:=λ_ H Q=>∀p,H p=B_->Q (.ref p) (upd H p (.dT []))
section
variable {X:Cx}{pos:R4}
def pe_dnewT:PE X (.Dict [] [] pos) xC:=λpins s σ H Q I h=>
 wpAny_Dict_empty #[.ref s.heap.objs.size,_,I.laid (a:=s.heap.objs.size) (o:=.dT []) (t':=s.toks) (λ_ _ q=>Heap.get?_push_of_some _ q) (FR _) (xB s.heap I.big),rfl,h _ (I.hok.fresh (FR _))]
end
structure M1(X:Cx)(o:P3)(m:Str)(apos:R4)(e:P3)(cpos:R4):Prop where
 base:RZ o m X.env (R1 o X.env)=R1 o X.env
 few:((Su cpos (RW [e] X.env)).all (λx=>!x.1)&&(SU cpos (Sr [] X.env)).all (λx=>x.1.isSome)
  && decide (([e]:List P3).length+([]:List S4).length+(if([]:List S4).isEmpty then 0 else 1)<30))=true
 line:(apos.endLine==cpos.line)=true
 trees:Su cpos (RW [e] X.env)=[(false,R1 e X.env)]
structure M2(X:Cx)(o:P3)(m:Str)(apos:R4)(e f:P3)(cpos:R4):Prop where
 base:RZ o m X.env (R1 o X.env)=R1 o X.env
 few:((Su cpos (RW [e,f] X.env)).all (λx=>!x.1)&&(SU cpos (Sr [] X.env)).all (λx=>x.1.isSome)
  && decide (([e,f]:List P3).length+([]:List S4).length+(if([]:List S4).isEmpty then 0 else 1)<30))=true
 line:(apos.endLine==cpos.line)=true
 trees:Su cpos (RW [e,f] X.env)=[(false,R1 e X.env),(false,R1 f X.env)]
section
variable {X:Cx}{pins:List (KF×R_)}{σ:St}{H:Hp}{s:KM}{a:KF}{y d:V}{u r:KB}{o:Option V}{A:RV}{E:KB->KM->Prop}
def xD{Q:KB->KM->Prop}(hu:A.units+1<SZ)(I:Inv X pins σ H s)(g:DGet H a y o)(ry:RelV y u)(rd:RelV d r)(h:∀w' s',Inv X pins σ H s'->RelV (o.getD d) w'->Q w' s'):
  RT (RR X.prog X.w) A (call (.builtin "dict.get") [.ref a,u,r]) Q E s:=by
 rcases g with⟨a9,k,e,ey,l⟩|⟨a9,k,b,e,ey,eb,l⟩
 .subst ey;obtain⟨z,hd,vs,u6,dd⟩:=xy I.hok e;refine TF PySem.F.slot_dict_get dd.typeIs PySem.F.entry_dict_get (PySem.F.args_dict_get_3 _ _ _) (meets_dict_get_default (bF X.prog X.w) a (qI ry) hd r) #[_,dd.mapOf,h _ _ (I.tok _) ?_];rw[l];exact(u6.val k).getD rd
 .subst ey;cases(show u=Value.ref b from ry);obtain⟨z,hd,xs,u6,dd⟩:=qL I.hok e;refine TF PySem.F.slot_dict_get dd.typeIs PySem.F.entry_dict_get (PySem.F.args_dict_get_3 _ _ _) (meetsH_dict_get_default (SR (bF X.prog X.w)) a b hd r) #[T5 hu,k,xs,key_of I.hok eb,dd,h _ _ (I.tok _) ?_];rw[l];exact(u6.val k).getD rd
end
end L2
end
section
open PySem PySem.Spec PyProof.Rows L2
namespace Exc
open PySem PySem.Spec PyProof.Rows PySem.W L2
def aK:List KB->Bool
 |.ref _::r=>aK r
 |l=>l==[.type "ValueError",.type "Exception",.type "BaseException",.type "object"]
def jO(self:KB):∀{l:List KB},aK l=true->refuseLoop self "__setattr__" l=pure ()
 |.ref c::r,e=>by rw[refuseLoop_ref];exact jO self (by unfold aK at e;exact e)
 |[],e=>by simp[aK]at e
 |.type n::r,e=>by
  have e':(Value.type n::r)=[.type "ValueError",.type "Exception",.type "BaseException",.type "object"]:=by simpa[aK]using e
  rw[e'];exact PySem.F.store_ValueError.passes self
 |.none::r,e=>by simp[aK]at e
 |.bool _::r,e=>by simp[aK]at e
 |.int _ _::r,e=>by simp[aK]at e
 |.float _ _::r,e=>by simp[aK]at e
 |.str _ _::r,e=>by simp[aK]at e
 |.bytes _ _::r,e=>by simp[aK]at e
 |.builtin _::r,e=>by simp[aK]at e
def dR{T:String}(hT:[Value.type "ValueError",.type "Exception",.type "BaseException",.type "object"].contains (.type T)=true):∀{l:List KB},aK l=true->l.contains (.type T)=true
 |.ref c::r,e=>by rw[HN,dR hT (l:=r) (by unfold aK at e;exact e),Hv]
 |[],e=>by simp[aK]at e
 |.type n::r,e=>by
  have e':(Value.type n::r)=[.type "ValueError",.type "Exception",.type "BaseException",.type "object"]:=by simpa[aK]using e
  rw[e'];exact hT
 |.none::r,e=>by simp[aK]at e
 |.bool _::r,e=>by simp[aK]at e
 |.int _ _::r,e=>by simp[aK]at e
 |.float _ _::r,e=>by simp[aK]at e
 |.str _ _::r,e=>by simp[aK]at e
 |.bytes _ _::r,e=>by simp[aK]at e
 |.builtin _::r,e=>by simp[aK]at e
section
variable {prog:RP}{w:RU}{A:RV}{E:KB->KM->Prop}{s:KM}{K:Ex}{x C:KF}{ox:R_}{cd:Ta}{name:Jj}{v:KB}{vs:Array KB}
def xE{Q:Unit->KM->Prop}(X:K.In s.heap)(hx:s.heap.get? x=be ox)(gt:ox.cls=.ref C)(w9:ox.data=.fields vs)(hd:ox.dict=B_)(hc:clsIn K C=be cd)(hm:aK cd.mro=true)(hh:cd.hasDict=true)
  (hs:findIn K (.ref C) "__setattr__"=be (be (.builtin "object.__setattr__"))) (hf:findIn K (.ref C) name=be B_)
  (h:∀h',h'.get? x=be {ox with dict:=be s.heap.objs.size}->h'.Ns1 s.heap.objs.size (λy=>if y=name then be v else B_)->(∀b o,b≠x->s.heap.get? b=be o->h'.get? b=be o)->∀tk,Q () {s with heap:=h',toks:=tk}):
  RT (RR prog w) A (T9 (.ref x) name v) Q E s:=by
 have hn:notCls ox=true:=by unfold notCls;rw[w9]
 have I:InstAt s.heap x ox C none:=#[hx,gt,hn,by rw[hd];trivial];refine set_plain X I hs ?_;have SF:=PySem.F.store_object;have ne:cd.mro.isEmpty=false:=OZ
 have sub:Looks (RR prog w) s.heap (S5 (.ref x) (.type "object")) true:=I.type.andThen (looks_mroIn X Tk);refine SG SF.slot.plain SF.entry (@check_slot (RR prog w) _ _ _ "object.__setattr__" "object" "__setattr__" (.ref x) [.str name s.toks,v] [] _ SF.kind SF.split sub (SF.args (.ref x) (.str name s.toks) v) ?_);have J4:Looks (RR prog w) s.heap (mroOf (.ref C)) cd.mro:=(looks_clsIn X hc).andThen .now;rw[osa_eq,refuse_eq];refine Os (Os (I.type.here (s:={s with toks:=s.toks+1}) (Os (J4.here (s:={s with toks:=s.toks+1}) ?_))));rw[jO _ hm];refine RQ (Os (I.type.here (s:={s with toks:=s.toks+1}) (Os ((looks_findIn X hf).here (s:={s with toks:=s.toks+1}) (Os (Looks.now.here (s:={s with toks:=s.toks+1}) ?_))))));obtain⟨oc,O1,O2,osl⟩:=ox;dsimp only at gt hd w9;subst gt hd w9;refine Os (RQ (Os (Os (Th hx (Os ((looks_clsIn X hc).here (s:={s with toks:=s.toks+1}) ?_))))));rw[hh];rw[if_neg J7];have hx₁:(s.heap.push {cls:=.type "dict",data:=.dict [].toArray}).get? x=be #[.ref C,B_,.fields vs,osl]:=Heap.get?_push_of_some _ hx;have O3:x≠s.heap.objs.size:=FU (Heap.lt_size hx);show RT _ _ (do
  let d <-alloc {cls:=Value.type "dict",data:=Data.dict [].toArray}
  update x λo=>{cls:=o.cls,dict:=be d,data:=o.data,slots:=o.slots}
  dictMade (.ref C) x d) _ _ _
 refine Os (wpAny_alloc' ?_);refine Os (wpAny_update' hx₁ ?_);refine RQ ?_;have P6:((s.heap.push {cls:=.type "dict",data:=.dict [].toArray}).update x λo=>{cls:=o.cls,dict:=be s.heap.objs.size,data:=o.data,slots:=o.slots}).get? s.heap.objs.size
   =be {cls:=.type "dict",data:=.dict [].toArray}:=
  (Heap.get?_update_ne _ _ _ _ O3.symm).trans (Heap.get?_push_at rfl rfl)
 have P7:((s.heap.push {cls:=.type "dict",data:=.dict [].toArray}).update x λo=>{cls:=o.cls,dict:=be s.heap.objs.size,data:=o.data,slots:=o.slots}).Ns s.heap.objs.size (λ_=>B_):=
  #[_,[].toArray,_,P6,rfl,λe he=>absurd he J8,λ_=>rfl]
 show RT _ _ (Builtin.ObjectAttr.storeInDict s.heap.objs.size (.str name s.toks) name v) _ _ _;unfold Builtin.ObjectAttr.storeInDict Builtin.ObjectAttr.newKeyGuard;refine Os (RQ (Os (Tt (Heap.Ns1.of_empty P7) λh' f_ hs=>?_)));obtain⟨oD,OR,OS,K1,K2,K3⟩:=f_.count (Within.cons name v Within.nil);refine Os (S8 K1 (by rw[K2];exact S' (FY K3 (by rw[FV,List.length_nil,SO];lia))) ?_);refine RQ (h h' ?_ f_ (λb o hb q=>?_) _)
 .exact(hs.2 x O3).trans (Heap.get?_update_self _ hx₁ rfl)
 .exact(hs.2 b (FU (Heap.lt_size q))).trans ((Heap.get?_update_ne _ _ _ _ hb).trans (Heap.get?_push_of_some _ q))
variable{Q:KB->KM->Prop}
def xF{od:R_}{v9:Bool}(X:K.In s.heap)(I:InstAt s.heap x ox C (be od))(hc:clsIn K C=be cd)(hm:aK cd.mro=true)
  (P8:findIn K (.ref C) "__getattribute__"=be (be (.builtin "BaseException.__getattribute__"))) (P9:findIn K (.ref C) "__getattr__"=be B_)
  (hf:findObj K C (be od) name=be (.value v)) (hh:handedIn v=true) (h:∀tk,Q v {s with toks:=tk}):RT (RR prog w) A (TB (.ref x) name v9) Q E s:=by
 have FB:=PySem.F.attr_ValueError;obtain⟨hp,g,d,t,os⟩:=s;have L0:=I.type (M:=RR prog w);have L1:=looks_findIn (M:=RR prog w) X P8;have L2:=looks_findIn (M:=RR prog w) X P9;have L3:=looks_find (M:=RR prog w) X I hf;have f3:=FB.ga.bind (.ref x);have ne:cd.mro.isEmpty=false:=OZ
 have sub:Looks (RR prog w) hp (S5 (.ref x) (.type "BaseException")) true:=I.type.andThen (looks_mroIn X Tk);unfold TB getAttrBy;refine Os (wpAny_mkText (Sg (Os (L0.at (Os (L1.at ?_))))));dsimp only;have JI:(onTheHeap (Value.ref C)&&Value.builtin "BaseException.__getattribute__"==Value.builtin "object.__getattribute__")=false:=by
  have m_:(Value.builtin "BaseException.__getattribute__"==Value.builtin "object.__getattribute__")=false:=J3
  rw[m_];rfl
 have P':(v9&&onTheHeap (Value.builtin "BaseException.__getattribute__"))=false:=by cases v9<;>rfl
 rw[JI,if_neg F8];unfold getAttrByItsOwn hookBefore;rw[show onTheHeap (Value.ref C)=true from rfl,if_pos rfl];refine Os (L2.at ?_);unfold callGetattribute;rw[P',if_neg F8];unfold boundAndCalled;refine Os (wpAny_attempt (Sg (Os (TM f3 ?_))));refine Sw (SG FB.ga.plain PySem.F.entry_bexc_ga (@check_slot (RR prog w) _ _ _ "BaseException.__getattribute__" "BaseException" "__getattribute__" (.ref x) [.str name t] [] _ J3 J3 sub (PySem.F.args_bexc_ga _ _) ?_));unfold Builtin.«object.__getattribute__»;refine Os (TM (a:=(Value.ref x,[Value.str name t])) rfl ?_);refine Os (TM (a:=name) rfl ?_);refine Os (L0.at (Os (L3.at ?_)));refine RQ ?_;show RT _ _ (handedOut v) _ _ _;rw[handedOut_of hh];exact RQ (h _)
def xG{rest:List KB}{t0:KF}{a1 a2 a3 a4 a5:KB}(X:K.In s.heap)(hx:s.heap.get? x=be ox)(gt:ox.cls=.ref C)(w9:ox.data=.fields [.ref t0,a1,a2,a3,a4,a5].toArray)(hc:clsIn K C=be cd)(hm:aK cd.mro=true)(hl:rest.length<=sizeLine)
  (h:∀h',h'.get? x=be {ox with data:=.fields [.ref s.heap.objs.size,a1,a2,a3,a4,a5].toArray}->(∀b o,b≠x->s.heap.get? b=be o->h'.get? b=be o)->Q .none {s with heap:=h'}):
  RT (RR prog w) A (call (.builtin "ValueError.__init__") (.ref x::rest)) Q E s:=by
 have F:=PySem.F.excBase_ValueError;have hn:notCls ox=true:=by unfold notCls;rw[w9]
 have ht:Looks (RR prog w) s.heap (typeOf (.ref x)) (.ref C):=gt ▸ (Looks.ld hx).andThen .now;have ne:cd.mro.isEmpty=false:=OZ
 have sub:Looks (RR prog w) s.heap (S5 (.ref x) (.type "ValueError")) true:=ht.andThen (looks_mroIn X Tk);have P_:∀{Q:Unit->KM->Prop} {E:KB->KM->Prop} {A:RV},Q () s->RT (RR prog w) A (checkBuiltinCall "ValueError.__init__" #[.ref x::rest,[]]) Q E s:=λ{Q E A} hq=>by
  have MN:=F.noStar;simp only[checkBuiltinCall,F.initKind,F.initSplit,F.initRow];refine Os (sub.here ?_);obtain⟨hp,g,d,t,os⟩:=s;have Lc:=looks_clsIn (M:=RR prog w) X hc
  repeat(first|(with_reducible refine Sb hx ?_;rw[gt])|(with_reducible refine Lc.here ?_)|wp_step)
  refine wpAny_onRaise ?_;rw[show ∀(a b:String) (n:Nat),Bind.check #[.positional,"*","ValueError",.self,[#["args",.varPos,false]]] a b n (Hw (λx=>x.fst) ({pos:=Value.ref x::rest}:Args).kw)=pure ()from
   λa b n=>check_star_args _ _ _ _ _ _]
  exact RQ hq
 refine Sw (SG F.init.plain F.initEntry (P_ ?_));obtain⟨hp,g,d,t,os⟩:=s;obtain⟨oc,O1,O2,osl⟩:=ox;dsimp only at gt w9 hx h;subst gt w9
 wp_walk
 have hx₁:=Heap.get?_push_of_some {cls:=Value.type "tuple",data:=Data.seq rest.toArray} hx;refine h _ ?_ (λb o hb q=>?_)
 .rw[Heap.get?_update_self _ hx₁ rfl];rfl
 .rw[Heap.get?_update_other _ _ (Ne.symm hb)];exact Heap.get?_push_of_some _ q
end
abbrev veLine:List KB:=[.type "ValueError",.type "Exception",.type "BaseException",.type "object"]
section
variable {prog:RP}{w:RU}{A:RV}{E:KB->KM->Prop}{h:Heap}{g:Array TV}{d:Drawn}{t:Nat}{os:OsState}{K:Ex}
variable {nm q:Jj}{C N fI:KF}{bs bm:List KB}{hdct:Bool}{sn:List Jj}{sub:List KB}{ab:Bool}{col:Option Bool}{dd:Option KF}{k0 k1 k2 k3 k5:Option KB}{rest:List KB}
def xH{Q:Fin->KM->Prop}(X:K.In h)(T:OwnTail h veLine bm)(hC:h.get? C=be (Sf nm q C N bs bm hdct sn sub ab col dd k0 k1 k2 k3 k5 "ValueError.__new__"))
  (hi:findIn K (.ref C) "__init__"=be (be (.ref fI))) (hf:typeIn K (.ref fI)=be (.type "function"))
  (hq:∀h' e,Heap.MadeExcOf h h' e (.ref C) rest->RT (RR prog w) A (call (.ref fI) (.ref e::rest)) (λr s'=>r=.none/\Q (.done (.ret (.ref e))) s') E #[h',g,d,t,os]) (hl:rest.length<=sizeLine):
  RT (RR prog w) A (Builtin.«type.__call__» #[.ref C::rest,[]]) Q E #[h,g,d,t,os]:=by
 have F:=PySem.F.excBase_ValueError
 repeat(first|(with_reducible refine Sb hC ?_)|(with_reducible refine wpAny_madeBy_exc hC ?_)|wp_step)
 refine codeAny_call_builtin_code (Code.quiet_builtin _ F.quiet) (wpAny_check_new_subT F T hC (codeAny_exc_new_subT F T hC ?_ hl));have kp:∀b o,h.get? b=be o->((h.push {cls:=.type "tuple",data:=.seq rest.toArray}).push {cls:=.ref C,data:=.fields [.ref h.objs.size,.none,.none,.none,.bool false,.none].toArray}).get? b=be o:=λb o e=>Heap.get?_push_of_some _ (Heap.get?_push_of_some _ e);have Qa:=kp _ _ hC;have X1:K.In _:=X.keeps kp;have he:((h.push {cls:=.type "tuple",data:=.seq rest.toArray}).push {cls:=.ref C,data:=.fields [.ref h.objs.size,.none,.none,.none,.bool false,.none].toArray}).get? (h.objs.size+1)=be {cls:=.ref C,data:=.fields [.ref h.objs.size,.none,.none,.none,.bool false,.none].toArray}:=by heap_get
 have Qb:(Value.ref C::bm).contains (.ref C)=true:=J8
 have L1:=looks_findIn (M:=RR prog w) X1 hi;have L2:=bind_fn (M:=RR prog w) X1 (.ref (h.objs.size+1)) hf;show RT _ _ _ _ _ _;unfold S5
 repeat(first|(with_reducible refine Sb he ?_)|(with_reducible refine SK Qa ?_;rw[Qb])|wp_step)
 refine L1.at ?_;refine Sg (Os (L2.at ?_));refine Os (R7 (hq _ (h.objs.size+1) #[kp,Heap.get?_none_of_le (GM _),h.objs.size,he,Heap.get?_none_of_le (FR _),Heap.get?_push_of_some _ (Heap.get?_push_at rfl rfl)]) (λr s' hr=>?_) λ_ _ x=>x);obtain⟨rfl,hQ⟩:=hr;refine RQ ?_;exact RQ hQ
def xI{Q:KB->KM->Prop}(X:K.In h)(T:OwnTail h veLine bm)(hC:h.get? C=be (Sf nm q C N bs bm hdct sn sub ab col dd k0 k1 k2 k3 k5 "ValueError.__new__"))
  (hi:findIn K (.ref C) "__init__"=be (be (.ref fI))) (hf:typeIn K (.ref fI)=be (.type "function"))
  (hq:∀h' e,Heap.MadeExcOf h h' e (.ref C) rest->RT (RR prog w) (A.under (.builtin "type.__call__" #[.ref C::rest,[]])) (call (.ref fI) (.ref e::rest)) (λr s'=>r=.none/\Q (.ref e) s') E #[h',g,d,t,os]) (hl:rest.length<=sizeLine):
  RT (RR prog w) A (call (.ref C) rest) Q E #[h,g,d,t,os]:=by
 have f1:=tc_lookup;have f2:=tc_bind (.ref C);have hT:(#[h,g,d,t,os]:KM).TypeIs (.ref C) "type":=#[_,hC,rfl];refine Sw (codeAny_of_tree ?_);show RT _ _ (callAny (.ref C) _) _ _ _
 repeat(any_goals (first|(with_reducible refine Sb hC ?_)|assumption|wp_step))
 exact#[rfl,codeAny_call_builtin_at (Code.quiet_builtin _ J3) entry_typeCall (wpAny_check_type_call_sub hC (xH X T hC hi hf (λh' e hm=>hq h' e hm) hl))]
end
section
variable {prog:RP}{w:RU}{A:RV}{E:KB->KM->Prop}{s:KM}{env:SL}
variable {nm q:Jj}{C N:KF}{bs bm:List KB}{hdct:Bool}{sn:List Jj}{sub:List KB}{ab:Bool}{col:Option Bool}{dd:Option KF}{k0 k1 k2 k3 k5:Option KB}{newId:String}
variable{Q:Flow->KM->Prop}
def xJ{x:TJ KB}(b7:bm.contains (.type "BaseException")=true)(hh:A.handled=B_)
  (h:RT (RR prog w) A x (λv s₁=>∃e t od sl,v=.ref e/\s₁.heap.get? C=be (Sf nm q C N bs bm hdct sn sub ab col dd k0 k1 k2 k3 k5 newId)/\
   s₁.heap.get? e=be #[.ref C,od,.fields [.ref t,.none,.none,.none,.bool false,.none].toArray,sl]/\E (.ref e) s₁) E s):
  RT (RR prog w) A (raiseStmt env (be x) B_) Q E s:=by
 have MP:(Value.ref C::bm).contains (.type "BaseException")=true:=by rw[HN,b7,Hv]
 unfold raiseStmt;refine Os (R7 h (λv s₁ h₁=>?_) λ_ _ x=>x);obtain⟨e,t,od,sl,rfl,hC,he,hE⟩:=h₁;obtain⟨hp,g,d,tk,os⟩:=s₁
 repeat(first|(with_reducible refine Sb he ?_)|(with_reducible refine Sb hC ?_)|(with_reducible refine SK hC ?_;rw[MP])|wp_step)
 exact wpAny_raiseNew_none hh hE
def jP{x:P3}{pos:R4}(b7:bm.contains (.type "BaseException")=true)(hh:A.handled=B_)
  (h:RT (RR prog w) A (R1 x env) (λv s₁=>∃e t od sl,v=.ref e/\s₁.heap.get? C=be (Sf nm q C N bs bm hdct sn sub ab col dd k0 k1 k2 k3 k5 newId)/\
   s₁.heap.get? e=be #[.ref C,od,.fields [.ref t,.none,.none,.none,.bool false,.none].toArray,sl]/\E (.ref e) s₁) E s):
  RT (RR prog w) A (exec (.Raise (be x) B_ pos) env) Q E s:=by
 rw[arm_exec_Raise];show RT (RR prog w) A (do SA pos;raiseStmt env (be (do let v <-R1 x env;SA pos;pure v)) B_) Q E s;exact Os (Sx (xJ b7 hh (Os (R7 h (λv s₁ h₁=>Os (Sx (RQ h₁))) λ_ _ x=>x))))
end
def ExAt(h:Heap)(e C:KF)(od:Option KF)(T:KF)(fl:KB):Prop:=
 ∃sl vs oT ts,h.get? e=be #[.ref C,od,.fields vs,sl]/\vs[1]?=be (.ref T)/\T≠e/\h.get? T=be oT/\oT.data=.fields ts/\ts[3]?=be fl
structure Stay(fs ex:List KF)(h h':Heap):Prop where
 keep:∀b o,h.get? b=be o->b∉ex->b∉fs->h'.get? b=be o
 slot:∀b o,h.get? b=be o->b∉ex->∃sl,h'.get? b=be {o with slots:=sl}
 there:∀b o,h.get? b=be o->∃o',h'.get? b=be o'
section
variable {M:TU}{A:RV}{E:KB->KM->Prop}{s:KM}{env:SL}{outer:List SL}{base:Heap}{L e C T:KF}{od:Option KF}
variable{Q:Unit->KM->Prop}
def qM{sl:Array (Option KB)}{vs:Array KB}(k9:A.frames=be (env::outer))(hl:s.heap.FunFrames base (env::outer))(hf:env.frame=be L)
  (he:s.heap.get? e=be #[.ref C,od,.fields vs,sl]) (h1:vs[1]?=be .none)
  (h:∀h' T,ExAt h' e C od T (SV L)->s.heap.objs.size<=T->Stay (frs (env::outer)) [e] s.heap h'->Q () {s with heap:=h'}):RT M A (SS (.ref e) env) Q E s:=by
 have i_:1<vs.size:=(Hx.mp h1).1;have J5:e∉(env::outer).filterMap (·.frame):=λhm=>by
  obtain⟨_,o,ho,hnf⟩:=hl.mem hm;rw[he]at ho;injection ho with ho;subst ho;exact hnf vs rfl
 unfold SS;simp only[hf];refine Os (SB he rfl h1 ?_);rw[if_neg J7];refine Os (T8 k9 hl hf λh₁ hs₁=>Os (T1 λpl c5=>?_));unfold EntryCells.newEntry newFields;refine Os (Sa ?_ (c5.sizeOk5 _ _ _ _ _));have he₁:h₁.get? e=be #[.ref C,od,.fields vs,sl]:=(hs₁.2.1 e J5).trans he;have fresh:h₁.get? h₁.objs.size=none:=Heap.get?_none_of_le (FR _);generalize Lb:({cls:=.type "traceback",dict:=B_,data:=.fields ([Value.none,.ref L,.none,SV L,.none]++(if pl.isEmpty then Gu 6 Value.none else pl)).toArray}:R_)=oT;have he₂:=Heap.get?_push_of_some (h:=h₁) oT he₁;have u8:h₁.objs.size≠e:=GF (Heap.lt_size he₁);refine S1 he₂ rfl i_ (h _ h₁.objs.size ?_ ?_ ?_)
 .refine#[sl,vs.setIfInBounds 1 (.ref h₁.objs.size),oT,([Value.none,.ref L,.none,SV L,.none]++(if pl.isEmpty then Gu 6 Value.none else pl)).toArray,?_,by simp[i_],u8,?_,by rw[<-Lb],J8]
  .rw[Heap.get?_update_self _ he₂ rfl];rfl
  .rw[Heap.get?_update_other _ _ (Ne.symm u8)];exact Heap.get?_push_size h₁ (by rw[<-Lb];rfl)
 .exact Hn hs₁.1.symm
 .have kp:∀b o,b≠e->h₁.get? b=be o->((h₁.push oT).update e (Obj.mapFields (·.setIfInBounds 1 (Value.ref h₁.objs.size)))).get? b=be o:=λb o hb z=>by
   rw[Heap.get?_update_other _ _ (Ne.symm hb)];exact Heap.get?_push_of_some _ z
  refine#[λb o q n m=>kp b o (λz=>n (by simp[z])) ((hs₁.2.1 b m).trans q),λb o q n=>?_,λb o q=>?_]
  .obtain⟨t9,z⟩:=hs₁.2.2 b o q;exact#[t9,kp b _ (λz=>n (by simp[z])) z]
  .by_cases hb:b=e
   .subst hb;exact#[_,Heap.get?_update_self _ he₂ rfl]
   .obtain⟨t9,z⟩:=hs₁.2.2 b o q;exact#[_,kp b _ hb z]
def qN(k9:A.frames=be (env::outer))(hl:s.heap.FunFrames base (env::outer))(hf:env.frame=be L)(hx:ExAt s.heap e C od T .none)
  (h:∀h' T',ExAt h' e C od T' (SV L)->s.heap.objs.size<=T'->Stay (frs (env::outer)) [T,e] s.heap h'->Q () {s with heap:=h'}):RT M A (SS (.ref e) env) Q E s:=by
 obtain⟨sl,vs,oT,ts,he,h1,u8,hT,j9,h3⟩:=hx;have i_:1<vs.size:=(Hx.mp h1).1;have L8:3<ts.size:=(Hx.mp h3).1;have J5:e∉(env::outer).filterMap (·.frame):=λhm=>by
  obtain⟨_,o,ho,hnf⟩:=hl.mem hm;rw[he]at ho;injection ho with ho;subst ho;exact hnf vs rfl
 unfold SS;simp only[hf];refine Os (SB he rfl h1 ?_);rw[if_pos (show(Value.ref T !=Value.none)=true from J8)];refine Os (SB hT j9 h3 ?_);rw[if_neg (show¬((Value.none==SV L)=true)from by simp[SV])];refine Os (S1 hT j9 L8 ?_);have other:∀b,b≠T->(s.heap.update T (Obj.mapFields (·.setIfInBounds 3 Value.none))).get? b=s.heap.get? b:=λb hb=>Heap.get?_update_other _ _ (Ne.symm hb);have nT:∀b o,s.heap.get? b=be o->(∀vs,o.data≠.fields vs)->b≠T:=λb o hb hnf q=>by
  rw[q,hT]at hb;injection hb with hb;subst hb;exact hnf ts j9
 have MQ:(s.heap.update T (Obj.mapFields (·.setIfInBounds 3 Value.none))).FunFrames base (env::outer):=hl.of_keeps λb o hb hnf=>#[o,(other b (nT b o hb hnf)).trans hb,rfl];have Qc:∃o',(s.heap.update T (Obj.mapFields (·.setIfInBounds 3 Value.none))).get? T=be o':=#[_,Heap.get?_update_self _ hT (Obj.isFreed_of_fields (Obj.data_mapFields j9 _))];refine Os (T8 k9 MQ hf λh₁ hs₁=>Os (T1 λpl c5=>?_));unfold EntryCells.newEntry newFields;refine Os (Sa ?_ (c5.sizeOk5 _ _ _ _ _));have he₁:h₁.get? e=be #[.ref C,od,.fields vs,sl]:=(hs₁.2.1 e J5).trans ((other e (Ne.symm u8)).trans he);have fresh:h₁.get? h₁.objs.size=none:=Heap.get?_none_of_le (FR _);generalize Lb:({cls:=.type "traceback",dict:=B_,data:=.fields ([Value.ref T,.ref L,.none,SV L,.none]++(if pl.isEmpty then Gu 6 Value.none else pl)).toArray}:R_)=MU;have he₂:=Heap.get?_push_of_some (h:=h₁) MU he₁;have Ld:h₁.objs.size≠e:=GF (Heap.lt_size he₁);refine S1 he₂ rfl i_ (h _ h₁.objs.size ?_ ?_ ?_)
 .refine#[sl,vs.setIfInBounds 1 (.ref h₁.objs.size),MU,([Value.ref T,.ref L,.none,SV L,.none]++(if pl.isEmpty then Gu 6 Value.none else pl)).toArray,?_,by simp[i_],Ld,?_,by rw[<-Lb],J8]
  .rw[Heap.get?_update_self _ he₂ rfl];rfl
  .rw[Heap.get?_update_other _ _ (Ne.symm Ld)];exact Heap.get?_push_size h₁ (by rw[<-Lb];rfl)
 .exact Hn (hs₁.1.trans (Heap.size_after_update _ _ _)).symm
 .have kp:∀b o,b≠e->h₁.get? b=be o->((h₁.push MU).update e (Obj.mapFields (·.setIfInBounds 1 (Value.ref h₁.objs.size)))).get? b=be o:=λb o hb z=>by
   rw[Heap.get?_update_other _ _ (Ne.symm hb)];exact Heap.get?_push_of_some _ z
  refine#[λb o q n m=>kp b o (λz=>n (by simp[z])) ((hs₁.2.1 b m).trans ((other b (λz=>n (by simp[z]))).trans q)),λb o q n=>?_,λb o q=>?_]
  .obtain⟨t9,z⟩:=hs₁.2.2 b o ((other b (λz=>n (by simp[z]))).trans q);exact#[t9,kp b _ (λz=>n (by simp[z])) z]
  .by_cases hb:b=e
   .subst hb;exact#[_,Heap.get?_update_self _ he₂ rfl]
   .have:∃o',(s.heap.update T (Obj.mapFields (·.setIfInBounds 3 Value.none))).get? b=be o':=by
     by_cases hb:b=T
     .rw[hb];exact Qc
     .exact#[o,(other _ hb).trans q]
    obtain⟨o',q'⟩:=this;obtain⟨t9,z⟩:=hs₁.2.2 b o' q';exact#[_,kp b _ hb z]
def flight_none{fl:KB}(hx:ExAt s.heap e C od T fl)(h:∀h',ExAt h' e C od T .none->Stay [] [T] s.heap h'->Q () {s with heap:=h'}):RT M A (S9 (.ref e) B_) Q E s:=by
 obtain⟨sl,vs,oT,ts,he,h1,u8,hT,j9,h3⟩:=hx;have L8:3<ts.size:=(Hx.mp h3).1;unfold S9;refine Os (SB he rfl h1 ?_);rw[if_pos (show(Value.ref T !=Value.none)=true from J8)];refine S1 hT j9 L8 (h _ ?_ ?_)
 .exact#[sl,vs,_,_,(Heap.get?_update_other _ _ u8).trans he,h1,u8,Heap.get?_update_self _ hT (Obj.isFreed_of_fields (Obj.data_mapFields j9 _)),Obj.data_mapFields j9 _,by simp[L8]]
 .have other:∀b o,b∉[T]->s.heap.get? b=be o->(s.heap.update T (Obj.mapFields (·.setIfInBounds 3 ((B_:Option KF).elim Value.none λf=>SV f)))).get? b=be o:=λb o hb q=>(Heap.get?_update_other _ _ (λz=>hb (by simp[z]))).trans q;refine#[λb o q n _=>other b o n q,λb o q n=>#[o.slots,other b o n q],λb o q=>?_];by_cases hb:b=T
  .subst hb;exact#[_,Heap.get?_update_self _ hT (Obj.isFreed_of_fields (Obj.data_mapFields j9 _))]
  .exact#[o,other b o (by simp[hb]) q]
end
def CX1(P:RP)(w:RU):CXT:=λouter H s E ev s'=>∃e C od T H',ev=.ref e/\s'.os=s.os/\SQ s'.gens/\Un (frs outer) [] H H' s.heap s'.heap/\HOk P w H' s'.heap/\ExAt s'.heap e C od T .none/\s.heap.get? e=B_/\s.heap.get? T=B_/\H' e=B_/\H' T=B_/\E (.ref C) od H'
variable{fs ex:List KF}
def fj{P:RP}{w:RU}{H:Hp}{h h':Heap}(x:HOk P w H h)(st:Stay fs ex h h')(hf:∀b∈fs,H b=B_)(he:∀b∈ex,H b=B_):HOk P w H h':=λa o q=>
 (x a o q).stay (λb u hb r=>by
  have hn:H b≠none:=by
   rcases hb with rfl|hb
   .rw[q];exact λz=>nomatch z
   .rw[hb];exact λz=>nomatch z
  exact st.keep b u r (λz=>hn (he b z)) (λz=>hn (hf b z))) (λ_ q=>q) λ_ _ q=>q
def gh{k8:List KF}{H H':Hp}{h h1 h2:Heap}(u:Un fs [] H H' h h1)(st:Stay k8 ex h1 h2)(d4:∀b∈ex,h.get? b=B_)(L9:∀b∈k8,b∈fs\/h.get? b=B_):Un fs [] H H' h h2 where
 keep:=λb o q n hb hx=>st.keep b o (u.keep b o q n hb hx) (λz=>by rw[d4 b z]at q;cases q) (λz=>(L9 b z).elim hb λy=>by rw[y]at q;cases q)
 slot:=λb o q n hb hx=>by
  obtain⟨sl,e1⟩:=u.slot b o q n hb hx;obtain⟨t9,e2⟩:=st.slot b _ e1 (λz=>by rw[d4 b z]at q;cases q);exact#[t9,e2]
 free:=u.free
 there:=λb o q hx=>by
  obtain⟨o1,e1⟩:=u.there b o q hx;exact st.there b o1 e1
 tups:=u.tups
 frzs:=u.frzs
 tbls:=u.tbls
section
variable {P:RP}{w:RU}{K:Ex}{mg:Jj->Option KB}{base:Heap}{N:List Jj}{qual:Jj}{scope:Sm}{f:KF}{cd:KB}{A:RV}{outer:List SL}{s:KM}{H:Hp}{E E':XK}
def qO{b:KF}(hb:b∈frs (R6 qual scope s.heap.objs.size f cd::outer)):b∈frs outer\/s.heap.get? b=none:=by
 unfold frs at hb;rw[Hk]at hb;rcases FT.mp (show b∈s.heap.objs.size::outer.filterMap (·.frame)from hb)with e|e
 .rw[e];exact .inr (Heap.get?_none_of_le (FR _))
 .exact .inl e
def qP{pins:List (KF×R_)}{σ:L2.St}{H1:Hp}{s1:KM}{e C:KF}{od:Option KF}{sl:Array (Option KB)}{vs:Array KB}(I:Inv (cxOf (CX1 P w) P w K mg base N qual scope f cd A outer s H E') pins σ H1 s1)
  (he:s1.heap.get? e=be #[.ref C,od,.fields vs,sl]) (h1:vs[1]?=be .none) (He:H1 e=B_) (ne:s.heap.get? e=B_) (hE:E' (.ref C) od H1):(cxOf (CX1 P w) P w K mg base N qual scope f cd A outer s H E').xe (.ref e) s1:=by
 show RT _ _ (Tz _ _) _ _ _;unfold Tz;refine Os (qM I.ok.frames I.stack rfl he h1 λh2 T2 m_ w_ q9=>flight_none (s:={s1 with heap:=h2}) m_ λh3 Le C_=>?_);have Jo:s1.heap.get? T2=none:=Heap.get?_none_of_le w_;have f1:∀b,s1.heap.get? b=B_->s.heap.get? b=none:=λb q=>by
  cases z:s.heap.get? b with
  |none=>rfl
  |some o=>
   obtain⟨o',z'⟩:=I.base.there b o z (by exact λy=>absurd (show b∈([]:List KF)from y) J8);rw[q]at z';cases z'
 have hok:HOk P w H1 s1.heap:=I.hok;have JJ:H1 T2=none:=hok.fresh w_;have u2:Un (frs outer) [] H H1 s.heap h2:=gh (show Un (frs outer) [] H H1 s.heap s1.heap from I.base) q9 (λb hb=>by rw[FP.mp hb];exact ne) λb hb=>qO hb;have u3:Un (frs outer) [] H H1 s.heap h3:=gh u2 C_ (λb hb=>by rw[FP.mp hb];exact f1 T2 Jo) λb hb=>by cases hb
 have k2:=fj hok q9 (λb hb=>I.stkFree b hb) (λb hb=>by rw[FP.mp hb];exact He);have k3:=fj k2 C_ (λb hb=>by cases hb) (λb hb=>by rw[FP.mp hb];exact JJ);exact#[e,C,od,T2,H1,rfl,I.os,I.bare,u3,k3,Le,ne,f1 T2 Jo,He,JJ,hE]
end
end Exc
namespace L2
def Same.tup{K:Ex}{H H':Hp}{a:KF}{xs:List V}(e:Same H H')(h:SqT K H a xs):SqT K H' a xs:=by
 rcases h with(h|⟨o,h⟩)|h
 .exact .inl (.inl (e _ _ h))
 .exact .inl (.inr #[o,e _ _ h])
 .exact .inr h
end L2
namespace My
def dS{X:Cx}:fb (Exc.CX1 X.prog X.w) X E0:=λ_ _ _ _ _ _ _ h=>by
 obtain⟨e,C,od,T,H',_,_,_,_,_,_,_,_,_,_,h⟩:=h;exact h.elim
def Fun.okC{P:RP}{w:RU}{K:Ex}{mg:Jj->Option KB}{base:Heap}{CX:CXT}{x qual:Jj}{st:RS}{f:KF}{fd:R3}{N ps:List Jj}{k:Nat}{sp:Sp}{dV:KB}(F:FunG K dV x qual st f fd)(S:FnScope N ps (ag st))(len:∀vs H Q E,sp vs H Q E->vs.length=ps.length)
  (a8:∀(cdv:KB) (A:RV) (outer:List SL) (s:KM) (H:Hp) (vs:List V) (Q:VK) (E:XK),Room k (A.deeper (R6 qual (ag st) s.heap.objs.size f cdv))->sp vs H Q E->
   ∃t,PSs (cxOf CX P w K mg base N qual (ag st) f cdv A outer s H E) (aG st) t/\t {nx:=λ_ H'=>Q .non H',rt:=Q} (start N vs) H):FnOk P w K mg base CX (k+1) f fd ps sp:=by
 obtain⟨oc,od,kV,doc,pm,an,cdv,ct,osl,rfl,lk,e_⟩:=F.ex;refine wS lk e_ S len λA outer s H vs Q E hr v_=>?_;exact a8 cdv A outer s H vs Q E hr v_
def Cal(P:RP)(w:RU)(K:Ex)(mg:Jj->Option KB)(base:Heap)(n:Nat)(x:Jj)(ps:List Jj)(sp:Sp):Prop:=
 ∃f fd,FnOk P w K mg base (Exc.CX1 P w) n f fd ps sp/\Binds K fd ps []/\keepIn K (.ref f)=true/\mg x=be (.ref f)
def Tx(K:Ex)(mg:Jj->Option KB)(x:Jj)(st:RS)(ps:List Jj):Prop:=
 ∃f fd,Fun K x x st f fd/\Binds K fd ps []/\mg x=be (.ref f)
section
variable {X:Cx}{n m:Nat}{ps:List Jj}{sp:Sp}{x:Jj}{p pos:R4}{e:P3}{es:List P3}{t:TA}
def xK(C:Cal X.prog X.w X.K X.mg X.base n x ps sp)(hr:Room m X.A)(ha:PA X (e::es) t)(hg:autoParam (Gl X x) zA0)(hn:autoParam (n<=m) zA1)(c_:autoParam (zND x) zA1)
  (he:autoParam (zSE X e es) zA0) (c5:autoParam (zPL X pos es) zA0):
  PE X (.Call (.Name x p) (e::es) [] pos) (qp sp [] E0 t):=by
 obtain⟨f,fd,F,hb,hk,hm⟩:=C;exact wP F (hr.mono hn) hg hm hk hb .nil dS ha c_ he c5
end
def aS{H:Hp}{p:KF}(h:H p=B_)(o:HO):Same H (upd H p o):=λb u q=>by rw[aj (bC q h)];exact q
def sz{n:Nat}(h:n<=1000):n<=sizeLine:=Hj (xx h)
end My
namespace L2
section
variable {X:Cx}
variable{e:P3}
def PE.anti{t t':TE}(h:PE X e t)(a:∀s H Q,t' s H Q->t s H Q):PE X e t':=λpins s σ H Q I q=>h pins s σ H Q I (a _ _ _ q)
def PT.anti{t t':TT}(h:PT X e t)(a:∀s H Q,t' s H Q->t s H Q):PT X e t':=λpins s σ H Q I q=>h pins s σ H Q I (a _ _ _ q)
def PW.anti{t t':TT}(h:PW X e t)(a:∀s H Q,t' s H Q->t s H Q):PW X e t':=λwh pins s σ H Q I q=>h wh pins s σ H Q I (a _ _ _ q)
def PA.anti{e:List P3}{t t':TA}(h:PA X e t)(a:∀s H Q,t' s H Q->t s H Q):PA X e t':=λp pins s σ H Q I q=>h p pins s σ H Q I (a _ _ _ q)
def PS.anti{e:RS}{t t':TS}(h:PS X e t)(a:∀E s H,t' E s H->t E s H):PS X e t':=λpins s σ H Q I q=>h pins s σ H Q I (a _ _ _ q)
def PSs.anti{e:List RS}{t t':TS}(h:PSs X e t)(a:∀E s H,t' E s H->t E s H):PSs X e t':=λpins s σ H Q I q=>h pins s σ H Q I (a _ _ _ q)
end
end L2
namespace My
inductive D where
 |non|bl (b:Bool)|int (i:Int)|str (x:Str)|tup (xs:List D)|lst (xs:List D)
  |rol (xs:List D)
  |obj (x:Jj) (fs:List (Jj×D))
  |exc (x:Jj) (fs:List (Jj×D))
  |own (xs:List D)
  |ptr (a:KF)
  |dti (a9:List ((Int×Int)×Int))
def dtiV(a9:List ((Int×Int)×Int)):List (List Key×V):=a9.map λe=>([.inl e.1.1,.inl e.1.2],.int e.2)
def XO(e C:KF)(od:Option KF):HO:=.ext λh=>∃vs sl,h.get? e=be #[.ref C,od,.fields vs,sl]
mutual
def Rep(K:Ex)(H:Hp):D->V->Prop
 |.non,v=>v=.non
 |.bl b,v=>v=.bl b
 |.int i,v=>v=.int i
 |.str x,v=>v=.str x
 |.tup ds,v=>∃a vs,v=.ref a/\H a=be (.tup vs)/\Reps K H ds vs
 |.lst ds,v=>∃a vs,v=.ref a/\H a=be (.lst vs)/\Reps K H ds vs
 |.rol ds,v=>∃a vs,v=.ref a/\SqL K H a vs/\Reps K H ds vs
 |.obj x fs,v=>∃a C dx vs,v=.ref a/\nsIn K Pi x=be (be (.ref C))/\H a=be (.ins C dx vs)/\RepF K H fs vs
 |.exc x fs,v=>∃a C od vs,v=.ref a/\nsIn K Pi x=be (be (.ref C))/\H a=be (XO a C od)/\RepF K H fs vs/\((od=B_/\vs=[])\/∃b,od=be b/\H b=be (.xd vs))
 |.own _,_=>False
 |.ptr a,v=>v=.ref a
 |.dti a9,v=>∃a,v=.ref a/\H a=be (.dT (dtiV a9))
def RepF(K:Ex)(H:Hp):List (Jj×D)->List (Jj×V)->Prop
 |[],vs=>vs=[]
 |(f,d)::ds,vs=>∃v r,vs=(f,v)::r/\Rep K H d v/\RepF K H ds r
def Reps(K:Ex)(H:Hp):List D->List V->Prop
 |[],vs=>vs=[]
 |d::ds,vs=>∃v r,vs=v::r/\Rep K H d v/\Reps K H ds r
end
mutual
def Rep.mono{K:Ex}{H H':Hp}(g:Same H H'):∀(d:D) (v:V),Rep K H d v->Rep K H' d v
 |.non,v,h=>by unfold Rep at h ⊢;exact h
 |.bl b,v,h=>by unfold Rep at h ⊢;exact h
 |.int b,v,h=>by unfold Rep at h ⊢;exact h
 |.str b,v,h=>by unfold Rep at h ⊢;exact h
 |.tup ds,v,h=>by
  unfold Rep at h ⊢;obtain⟨a,vs,e,q,r⟩:=h;exact#[a,vs,e,g _ _ q,Reps.mono g ds vs r]
 |.lst ds,v,h=>by
  unfold Rep at h ⊢;obtain⟨a,vs,e,q,r⟩:=h;exact#[a,vs,e,g _ _ q,Reps.mono g ds vs r]
 |.rol ds,v,h=>by
  unfold Rep at h ⊢;obtain⟨a,vs,e,q,r⟩:=h;exact#[a,vs,e,g.seq q,Reps.mono g ds vs r]
 |.obj C fs,v,h=>by
  unfold Rep at h ⊢;obtain⟨a,C,dx,vs,e,n,q,r⟩:=h;exact#[a,C,dx,vs,e,n,g _ _ q,RepF.mono g fs vs r]
 |.exc C fs,v,h=>by
  unfold Rep at h ⊢;obtain⟨a,C,od,vs,e,n,q,r,d⟩:=h;exact#[a,C,od,vs,e,n,g _ _ q,RepF.mono g fs vs r,d.imp id λ⟨b,h1,h2⟩=>#[b,h1,g _ _ h2]]
 |.own ds,v,h=>by
  unfold Rep at h ⊢;exact h
 |.ptr a,v,h=>by unfold Rep at h ⊢;exact h
 |.dti a9,v,h=>by
  unfold Rep at h ⊢;obtain⟨a,e,q⟩:=h;exact#[a,e,g _ _ q]
def RepF.mono{K:Ex}{H H':Hp}(g:Same H H'):∀(ds:List (Jj×D)) (vs:List (Jj×V)),RepF K H ds vs->RepF K H' ds vs
 |[],vs,h=>by unfold RepF at h ⊢;exact h
 |(f,d)::ds,vs,h=>by
  unfold RepF at h ⊢;obtain⟨v,r,e,q1,q2⟩:=h;exact#[v,r,e,Rep.mono g d v q1,RepF.mono g ds r q2]
def Reps.mono{K:Ex}{H H':Hp}(g:Same H H'):∀(ds:List D) (vs:List V),Reps K H ds vs->Reps K H' ds vs
 |[],vs,h=>by unfold Reps at h ⊢;exact h
 |d::ds,vs,h=>by
  unfold Reps at h ⊢;obtain⟨v,r,e,q1,q2⟩:=h;exact#[v,r,e,Rep.mono g d v q1,Reps.mono g ds r q2]
end
section
variable {K:Ex}{H:Hp}
variable{v:V}
def rep_non:Rep K H .non v↔v=.non:=by unfold Rep;exact Iff.rfl
def rep_bl{b:Bool}:Rep K H (.bl b) v↔v=.bl b:=by unfold Rep;exact Iff.rfl
def rep_int{i:Int}:Rep K H (.int i) v↔v=.int i:=by unfold Rep;exact Iff.rfl
variable{x:Jj}
def rep_str:Rep K H (.str x) v↔v=.str x:=by unfold Rep;exact Iff.rfl
variable{ds:List My.D}
def rep_tupS:Rep K H (.tup ds) v↔∃a vs,v=.ref a/\H a=be (.tup vs)/\Reps K H ds vs:=by
 constructor
 .intro h;unfold Rep at h;exact h
 .intro h;unfold Rep;exact h
def rep_tup_mp(h:Rep K H (.tup ds) v):∃a vs,v=.ref a/\SqT K H a vs/\Reps K H ds vs:=by
 obtain⟨a,vs,e,q,r⟩:=rep_tupS.mp h;exact#[a,vs,e,SqT.of q,r]
def rep_ptr{a:KF}:Rep K H (.ptr a) v↔v=.ref a:=by unfold Rep;exact Iff.rfl
def rep_dti{a9:List ((Int×Int)×Int)}:Rep K H (.dti a9) v↔∃a,v=.ref a/\H a=be (.dT (dtiV a9)):=by
 constructor
 .intro h;unfold Rep at h;exact h
 .intro h;unfold Rep;exact h
def rep_lst:Rep K H (.lst ds) v↔∃a vs,v=.ref a/\H a=be (.lst vs)/\Reps K H ds vs:=by
 constructor
 .intro h;unfold Rep at h;exact h
 .intro h;unfold Rep;exact h
def rep_rol:Rep K H (.rol ds) v↔∃a vs,v=.ref a/\SqL K H a vs/\Reps K H ds vs:=by
 constructor
 .intro h;unfold Rep at h;exact h
 .intro h;unfold Rep;exact h
variable{fs:List (Jj×My.D)}
def rep_obj:Rep K H (.obj x fs) v↔∃a C dx vs,v=.ref a/\nsIn K Pi x=be (be (.ref C))/\H a=be (.ins C dx vs)/\RepF K H fs vs:=by
 constructor
 .intro h;unfold Rep at h;exact h
 .intro h;unfold Rep;exact h
def rep_exc:Rep K H (.exc x fs) v↔∃a C od vs,v=.ref a/\nsIn K Pi x=be (be (.ref C))/\H a=be (XO a C od)/\RepF K H fs vs/\((od=B_/\vs=[])\/∃b,od=be b/\H b=be (.xd vs)):=by
 constructor
 .intro h;unfold Rep at h;exact h
 .intro h;unfold Rep;exact h
def rep_own:¬Rep K H (.own ds) v:=by intro h;unfold Rep at h;exact h
variable{vs:List (Jj×V)}
def repf_nil:RepF K H [] vs↔vs=[]:=by unfold RepF;exact Iff.rfl
def repf_cons{f:Jj}{d:D}{ds:List (Jj×D)}:RepF K H ((f,d)::ds) vs↔∃v r,vs=(f,v)::r/\Rep K H d v/\RepF K H ds r:=by
 constructor
 .intro h;unfold RepF at h;exact h
 .intro h;unfold RepF;exact h
def RepF.look{f:Jj}{d:D}:∀{fs:List (Jj×D)} {vs:List (Jj×V)},RepF K H fs vs->fs.lookup f=be d->∃v,vs.lookup f=be v/\Rep K H d v
 |[],_,_,e=>by cases e
 |(g,x)::fs,vs,h,e=>by
  obtain⟨v,r,rfl,h1,h2⟩:=repf_cons.mp h;rw[Ga]at e ⊢;split at e
  .cases e;exact#[v,rfl,h1]
  .exact RepF.look h2 e
def RepF.none{f:Jj}:∀{fs:List (Jj×D)} {vs:List (Jj×V)},RepF K H fs vs->fs.lookup f=Option.none->vs.lookup f=Option.none
 |[],vs,h,_=>by rw[repf_nil.mp h];rfl
 |(g,x)::fs,vs,h,e=>by
  obtain⟨v,r,rfl,h1,h2⟩:=repf_cons.mp h;rw[Ga]at e ⊢;split at e
  .cases e
  .exact RepF.none h2 e
def reps_nil{vs:List V}:Reps K H [] vs↔vs=[]:=by unfold Reps;exact Iff.rfl
def reps_cons{d:D}{vs:List V}:Reps K H (d::ds) vs↔∃v r,vs=v::r/\Rep K H d v/\Reps K H ds r:=by
 constructor
 .intro h;unfold Reps at h;exact h
 .intro h;unfold Reps;exact h
def Reps.length:∀{ds:List D} {vs:List V},Reps K H ds vs->vs.length=ds.length
 |[],vs,h=>by rw[reps_nil.mp h];rfl
 |d::ds,vs,h=>by
  obtain⟨v,r,rfl,_,h2⟩:=reps_cons.mp h;rw[FV,FV,Reps.length h2]
def Reps.get:∀{ds:List D} {vs:List V} {i:Nat} {d:D},Reps K H ds vs->ds[i]?=be d->∃v,vs[i]?=be v/\Rep K H d v
 |[],_,_,_,_,e=>by simp at e
 |x::ds,vs,0,d,h,e=>by
  obtain⟨v,r,rfl,h1,_⟩:=reps_cons.mp h;simp at e;subst e;exact#[v,rfl,h1]
 |x::ds,vs,i+1,d,h,e=>by
  obtain⟨v,r,rfl,_,h2⟩:=reps_cons.mp h;obtain⟨u,q1,q2⟩:=Reps.get (i:=i) h2 (by simpa using e);exact#[u,by simpa using q1,q2]
def Reps.ints:∀{ns:List Int} {vs:List V},Reps K H (ns.map D.int) vs↔vs=ns.map V.int
 |[],vs=>reps_nil
 |n::ns,vs=>by
  rw[Gi,reps_cons,Gi];constructor
  .rintro⟨v,r,rfl,h1,h2⟩;rw[rep_int.mp h1,Reps.ints.mp h2]
  .rintro rfl;exact#[_,_,rfl,rep_int.mpr rfl,Reps.ints.mpr rfl]
end
abbrev SD:=List (Option D)
def gj:D->Bool|.own _=>true|_=>false
structure RepS(K:Ex)(B F H:Hp)(t:SD)(s:L2.St):Prop where
 len:s.length=t.length
 val:∀(i:Nat) d,t[i]?=be (be d)->gj d=false->∃v,s[i]?=be (be v)/\Rep K F d v
 own:∀(i:Nat) ds,t[i]?=be (be (.own ds))->∃a vs,s[i]?=be (be (.ref a))/\H a=be (.lst vs)/\B a=B_/\F a=B_/\Reps K F ds vs
 apart:∀(i j:Nat) di dj a,t[i]?=be (be (.own di))->t[j]?=be (be (.own dj))->s[i]?=be (be (.ref a))->s[j]?=be (be (.ref a))->i=j
structure Grow(F H F' H':Hp):Prop where
 ff:Same F F'
 fh:Same F' H'
 hh:Same H H'
 out:∀b,F b=B_->H b≠B_->F' b=B_
variable{F H:Hp}
def Grow.refl(h:Same F H):Grow F H F H:=#[Same.refl F,h,Same.refl H,λ_ h _=>h]
def Grow.trans{F1 H1 F2 H2:Hp}(g:Grow F H F1 H1)(k:Grow F1 H1 F2 H2):Grow F H F2 H2:=
 ⟨g.ff.trans k.ff,k.fh,g.hh.trans k.hh,λb h1 h2=>k.out b (g.out b h1 h2) (by
  cases e:H b with
  |none=>exact absurd e h2
  |some o=>rw[g.hh b o e];exact λz=>nomatch z)⟩
def Grow.new{p:KF}(h:Same F H)(hp:H p=B_)(o:HO):Grow F H (upd F p o) (upd H p o):=by
 have fp:F p=none:=h.free hp;refine#[aS fp o,λb u e=>?_,aS hp o,λb h1 h2=>?_]
 .by_cases hb:b=p
  .subst hb;rw[ax]at e ⊢;exact e
  .rw[aj hb]at e ⊢;exact h b u e
 .by_cases hb:b=p
  .subst hb;exact absurd hp h2
  .rw[aj hb];exact h1
class Jx where
 B:Hp
 F0:Hp
 RX:SD->Jj->List (Jj×D)->Prop
structure Kept[J:Jx](B F0 F H:Hp):Prop where
 bh:Same B H
 fh:Same F H
 f0:Same F0 F
 out:∀b,F0 b=B_->B b≠B_->F b=B_
 eb:B=J.B
 jf:Same J.F0 F0
 jo:∀b,J.F0 b=B_->B b≠B_->F0 b=B_
variable{B:Hp}
def Kept.kf[J:Jx]{F0:Hp}(k:Kept B F0 F H):Kept B J.F0 F H:=#[k.bh,k.fh,k.jf.trans k.f0,λb h1 h2=>k.out b (k.jo b h1 h2) h2,k.eb,Same.refl _,λ_ h _=>h]
def Kept.grow[Jx]{F0 F' H':Hp}(k:Kept B F0 F H)(g:Grow F H F' H'):Kept B F0 F' H':=
 ⟨k.bh.trans g.hh,g.fh,k.f0.trans g.ff,λb h1 h2=>g.out b (k.out b h1 h2) (by
  cases e:B b with
  |none=>exact absurd e h2
  |some o=>rw[k.bh b o e];exact λz=>nomatch z),k.eb,k.jf,k.jo⟩
section
variable {K:Ex}{B F H F' H':Hp}{t:SD}{s:L2.St}
def RepS.grow(g:Grow F H F' H')(h:RepS K B F H t s):RepS K B F' H' t s where
 len:=h.len
 val:=λi d e no=>let ⟨v,q1,q2⟩:=h.val i d e no;#[v,q1,q2.mono g.ff]
 own:=λi ds e=>by
  obtain⟨a,vs,q1,q2,q3,q4,q5⟩:=h.own i ds e;exact#[a,vs,q1,g.hh a _ q2,q3,g.out a q4 (by rw[q2];exact λz=>nomatch z),q5.mono g.ff]
 apart:=h.apart
variable{i:Nat}
def RepS.set{d:D}{v:V}(h:RepS K B F H t s)(r:Rep K F d v):RepS K B F H (t.set i (be d)) (s.set i (be v)):=by
 have no:gj d=false:=by
  cases d with
  |own ds=>exact absurd r rep_own
  |_=>rfl
 have get:∀{j:Nat} {x:D},(t.set i (be d))[j]?=be (be x)->(j=i/\x=d/\i<t.length)\/(j≠i/\t[j]?=be (be x)):=λ{j x} e=>by
  by_cases hj:i=j
  .subst hj;rw[GI]at e;simp at e;exact .inl #[rfl,e.2.symm,e.1]
  .rw[F5 hj]at e;exact .inr #[λz=>hj z.symm,e]
 refine#[by rw[GH,GH];exact h.len,λj x e nx=>?_,λj ds e=>?_,λj k dj dk a e1 e2 e3 e4=>?_]
 .rcases get e with⟨rfl,rfl,hl⟩|⟨hj,e⟩
  .exact#[v,by rw[Gs (by rw[h.len];exact hl)],r]
  .obtain⟨u,q1,q2⟩:=h.val j x e nx;exact#[u,by rw[F5 (λz=>hj z.symm)];exact q1,q2]
 .rcases get e with⟨rfl,rfl,hl⟩|⟨hj,e⟩
  .cases no
  .obtain⟨a,vs,q1,q⟩:=h.own j ds e;exact#[a,vs,by rw[F5 (λz=>hj z.symm)];exact q1,q]
 .rcases get e1 with⟨rfl,rfl,hl⟩|⟨hj,e1⟩
  .cases no
  .rcases get e2 with⟨rfl,rfl,hl⟩|⟨hk,e2⟩
   .cases no
   .rw[F5 (λz=>hj z.symm)]at e3;rw[F5 (λz=>hk z.symm)]at e4;exact h.apart j k dj dk a e1 e2 e3 e4
variable{ds:List My.D}
def RepS.setOwn{a:KF}{vs:List V}(h:RepS K B F H t s)(hB:B a=B_)(hF:F a=B_)(r:Reps K F ds vs)
  (free:∀(j:Nat) dj,j≠i->t[j]?=be (be (.own dj))->s[j]?≠be (be (.ref a))):RepS K B F (upd H a (.lst vs)) (t.set i (be (.own ds))) (s.set i (be (.ref a))):=by
 have get:∀{j:Nat} {x:D},(t.set i (be (.own ds)))[j]?=be (be x)->(j=i/\x=.own ds/\i<t.length)\/(j≠i/\t[j]?=be (be x)):=λ{j x} e=>by
  by_cases hj:i=j
  .subst hj;rw[GI]at e;simp at e;exact .inl #[rfl,e.2.symm,e.1]
  .rw[F5 hj]at e;exact .inr #[λz=>hj z.symm,e]
 refine#[by rw[GH,GH];exact h.len,λj x e nx=>?_,λj dj e=>?_,λj k dj dk b e1 e2 e3 e4=>?_]
 .rcases get e with⟨rfl,rfl,hl⟩|⟨hj,e⟩
  .cases nx
  .obtain⟨u,q1,q2⟩:=h.val j x e nx;exact#[u,by rw[F5 (λz=>hj z.symm)];exact q1,q2]
 .rcases get e with⟨rfl,e,hl⟩|⟨hj,e⟩
  .cases e;exact#[a,vs,by rw[Gs (by rw[h.len];exact hl)],ax,hB,hF,r]
  .obtain⟨b,us,q1,q2,q⟩:=h.own j dj e;have ne:b≠a:=λz=>free j dj hj e (z ▸ q1);exact#[b,us,by rw[F5 (λz=>hj z.symm)];exact q1,by rw[aj ne];exact q2,q]
 .rcases get e1 with⟨hj,c1,hl⟩|⟨hj,f1⟩
  .rcases get e2 with⟨hk,c2,L5⟩|⟨hk,f2⟩
   .rw[hj,hk]
   .rw[hj,Gs (by rw[h.len];exact hl)]at e3;rw[F5 (λz=>hk z.symm)]at e4;cases e3;exact absurd e4 (free k dk hk f2)
  .rcases get e2 with⟨hk,c2,L5⟩|⟨hk,f2⟩
   .rw[hk,Gs (by rw[h.len];exact L5)]at e4;rw[F5 (λz=>hj z.symm)]at e3;cases e4;exact absurd e3 (free j dj hj f1)
   .rw[F5 (λz=>hj z.symm)]at e3;rw[F5 (λz=>hk z.symm)]at e4;exact h.apart j k dj dk b f1 f2 e3 e4
def RepS.freeze[Jx]{F0:Hp}(h:RepS K B F H t s)(k:Kept B F0 F H)(e:t[i]?=be (be (.own ds))):∃F',Kept B F0 F' H/\RepS K B F' H (t.set i (be (.lst ds))) s:=by
 obtain⟨a,vs,q1,q2,q3,q4,q5⟩:=h.own i ds e;have hl:i<t.length:=(F7.mp e).1;have g:Same F (upd F a (.lst vs)):=aS q4 _;have get:∀{j:Nat} {x:D},(t.set i (be (.lst ds)))[j]?=be (be x)->(j=i/\x=.lst ds)\/(j≠i/\t[j]?=be (be x)):=λ{j x} e=>by
  by_cases hj:i=j
  .subst hj;rw[GI]at e;simp at e;exact .inl #[rfl,e.2.symm]
  .rw[F5 hj]at e;exact .inr #[λz=>hj z.symm,e]
 refine#[upd F a (.lst vs),#[k.bh,λb o z=>?_,k.f0.trans g,λb h1 h2=>?_,k.eb,k.jf,k.jo],#[by rw[GH];exact h.len,λj x e' nx=>?_,λj dj e'=>?_,λj l dj dl b e1 e2 e3 e4=>?_]]
 .by_cases hb:b=a
  .subst hb;rw[ax]at z;cases z;exact q2
  .rw[aj hb]at z;exact k.fh b o z
 .by_cases hb:b=a
  .subst hb;exact absurd q3 h2
  .rw[aj hb];exact k.out b h1 h2
 .rcases get e' with⟨rfl,rfl⟩|⟨hj,e'⟩
  .exact#[.ref a,q1,rep_lst.mpr #[a,vs,rfl,ax,q5.mono g]]
  .obtain⟨u,p1,p2⟩:=h.val j x e' nx;exact#[u,p1,p2.mono g]
 .rcases get e' with⟨rfl,c⟩|⟨hj,e'⟩
  .cases c
  .obtain⟨b,us,p1,p2,p3,p4,p5⟩:=h.own j dj e';have ne:b≠a:=λz=>hj (h.apart j i dj ds a e' e (z ▸ p1) q1);exact#[b,us,p1,p2,p3,by rw[aj ne];exact p4,p5.mono g]
 .rcases get e1 with⟨rfl,c⟩|⟨hj,e1⟩
  .cases c
  .rcases get e2 with⟨rfl,c⟩|⟨hk,e2⟩
   .cases c
   .exact h.apart j l dj dl b e1 e2 e3 e4
end
def startD(N:List Jj)(ds:List D):SD:=ds.map be++Gu (N.length-ds.length) B_
variable{K:Ex}
def Rep.noown{d:D}{v:V}(r:Rep K F d v):gj d=false:=by
 cases d with
 |own ds=>exact absurd r rep_own
 |_=>rfl
def da{N:List Jj}{ds:List D}{vs:List V}(h:Reps K F ds vs):RepS K B F H (startD N ds) (L2.start N vs):=by
 have hl:=h.length;have get:∀(i:Nat) d,(startD N ds)[i]?=be (be d)->∃v,(L2.start N vs)[i]?=be (be v)/\Rep K F d v:=λi d e=>by
  unfold startD at e;unfold L2.start;by_cases hi:i<ds.length
  .rw[Gy (by simpa using hi),F6]at e;cases q:ds[i]? with
   |none=>rw[q]at e;cases e
   |some x=>
    rw[q]at e;cases e;obtain⟨v,q1,q2⟩:=h.get q;exact#[v,by rw[Gy (by simpa[hl]using hi),F6,q1];rfl,q2]
  .rw[GN (by simpa using hi),HK]at e;split at e<;>cases e
 refine#[by unfold startD L2.start;simp[hl],λi d e _=>get i d e,λi d e=>?_,λi j di dj a e=>?_]
 .obtain⟨v,_,r⟩:=get i _ e;exact absurd r rep_own
 .obtain⟨v,_,r⟩:=get i _ e;exact absurd r rep_own
abbrev TD:=SD->(D->Prop)->Prop
abbrev TDT:=SD->(Bool->Prop)->Prop
abbrev TDA:=SD->(List D->Prop)->Prop
structure EndsD where
 nx:SD->Prop
 rt:D->Prop
 bk:SD->Prop:=λ_=>False
 ct:SD->Prop:=λ_=>False
abbrev TSD:=EndsD->SD->Prop
def lE(K:Ex)[J:Jx](t:TD):TE:=λs H Q=>∃B F z,Kept B J.F0 F H/\RepS K B F H z s/\∃R:D->Prop,t z R/\∀d v F' H',Grow F H F' H'->R d->Rep K F' d v->Q v H'
def lT(K:Ex)[J:Jx](t:TDT):TT:=λs H Q=>∃B F z,Kept B J.F0 F H/\RepS K B F H z s/\∃R:Bool->Prop,t z R/\∀b F' H',Grow F H F' H'->R b->Q b H'
def lA(K:Ex)[J:Jx](t:TDA):TA:=λs H Q=>∃B F z,Kept B J.F0 F H/\RepS K B F H z s/\∃R:List D->Prop,t z R/\∀ds vs F' H',Grow F H F' H'->R ds->Reps K F' ds vs->Q vs H'
structure EndsOk[Jx](K:Ex)(B F0:Hp)(ED:EndsD)(E:Ends):Prop where
 nx:∀z' s' F' H',Kept B F0 F' H'->ED.nx z'->RepS K B F' H' z' s'->E.nx s' H'
 rt:∀d v F' H',Kept B F0 F' H'->ED.rt d->Rep K F' d v->E.rt v H'
 bk:∀z' s' F' H',Kept B F0 F' H'->ED.bk z'->RepS K B F' H' z' s'->E.bk s' H'
 ct:∀z' s' F' H',Kept B F0 F' H'->ED.ct z'->RepS K B F' H' z' s'->E.ct s' H'
def lS(K:Ex)[Jx](t:TSD):TS:=λE s H=>∃B F0 F z,Kept B F0 F H/\RepS K B F H z s/\∃ED:EndsD,t ED z/\EndsOk K B F0 ED E
abbrev DE(X:Cx)[Jx](e:P3)(t:TD):Prop:=PE X e (lE X.K t)
abbrev DT(X:Cx)[Jx](e:P3)(t:TDT):Prop:=PT X e (lT X.K t)
abbrev DW(X:Cx)[Jx](e:P3)(t:TDT):Prop:=PW X e (lT X.K t)
abbrev DA(X:Cx)[Jx](es:List P3)(t:TDA):Prop:=PA X es (lA X.K t)
abbrev DS(X:Cx)[Jx](st:RS)(t:TSD):Prop:=PS X st (lS X.K t)
abbrev DSs(X:Cx)[Jx](st:List RS)(t:TSD):Prop:=PSs X st (lS X.K t)
structure WDE(X:Cx)[Jx](e:P3)(t:TD):Prop where
 out:DE X e t
structure WDT(X:Cx)[Jx](e:P3)(t:TDT):Prop where
 out:DT X e t
structure WDW(X:Cx)[Jx](e:P3)(t:TDT):Prop where
 out:DW X e t
structure WDA(X:Cx)[Jx](es:List P3)(t:TDA):Prop where
 out:DA X es t
structure WDS(X:Cx)[Jx](st:RS)(t:TSD):Prop where
 out:DS X st t
structure WDSs(X:Cx)[Jx](st:List RS)(t:TSD):Prop where
 out:DSs X st t
section
variable {X:Cx}
def okR(R:D->Prop):D->Prop|.own _=>False|d=>R d
def dVar(i:Nat):TD:=λz R=>match z[i]? with|some (be d)=>okR R d|_=>False
def dC(d:D):TD:=λ_ R=>R d
variable{x:Jj}
def aa[Jx](i:Nat){pos:R4}(hN:autoParam (X.N[i]?=be x) zA0)(hv:autoParam (Vis X.env.scope x) zA5)(hd:autoParam (zND x) zA1)
  (e_:autoParam (zNC x) zA1):WDE X (.Name x pos) (dVar i):=⟨(cG hN hv hd e_).anti λs H Q h=>by
 obtain⟨B,F,z,kf,r,R,h1,h2⟩:=h;have fh:=kf.fh;unfold dVar at h1;split at h1
 .rename_i d e;have no:gj d=false:=by
   cases d with
   |own ds=>exact False.elim h1
   |_=>rfl
  have Qe:R d:=by
   cases d with
   |own ds=>exact False.elim h1
   |_=>exact h1
  obtain⟨v,q1,q2⟩:=r.val i d e no;exact#[v,q1,h2 d v F H (Grow.refl fh) Qe q2]
 .exact h1.elim⟩
variable{e:P3}{d:My.D}
def de_c[Jx]{v:V}(h:PE X e (tC v))(r:∀H,Rep X.K H d v):DE X e (dC d):=h.anti λs H Q q=>by
 obtain⟨B,F,z,kf,_,R,h1,h2⟩:=q;have fh:=kf.fh;exact h2 d v F H (Grow.refl fh) h1 (r F)
def ad[Jx]{i j pos}:WDE X (.Constant (.int i) j pos) (dC (.int i)):=#[de_c vI λ_=>rep_int.mpr rfl]
def bt[Jx]{b j pos}:WDE X (.Constant (.bool b) j pos) (dC (.bl b)):=#[de_c vJ λ_=>rep_bl.mpr rfl]
def bH[Jx]{j pos}:WDE X (.Constant .none j pos) (dC .non):=#[de_c vK λ_=>rep_non.mpr rfl]
def aC[Jx]{x j pos}:WDE X (.Constant (.str x) j pos) (dC (.str x)):=#[de_c pF λ_=>rep_str.mpr rfl]
abbrev RD2:=D->D->(D->Prop)->Prop
def dOp(r:RD2)(ta tb:TD):TD:=λz R=>ta z λx=>tb z λy=>r x y R
def aW(K:Ex)(r:R2)(rd:RD2):Prop:=∀x y u v F H R Q,Same F H->rd x y R->Rep K F x u->Rep K F y v->(∀d w F' H',Grow F H F' H'->R d->Rep K F' d w->Q w H')->r u v H Q
variable{r:R2}{rd:RD2}
def jQ[Jx]{ta tb:TD}(L:aW X.K r rd)(h:PE X e (tOp r (lE X.K ta) (lE X.K tb))):DE X e (dOp rd ta tb):=h.anti λs H Q q=>by
 obtain⟨B,F,z,kf,rs,R,h1,h2⟩:=q;have fh:=kf.fh;refine#[B,F,z,kf,rs,_,h1,λx u F1 H1 g1 hx rx=>?_];refine#[B,F1,z,kf.grow g1,rs.grow g1,_,hx,λy v F2 H2 g2 hy ry=>?_];exact L x y u v F2 H2 R Q g2.fh hy (rx.mono g2.ff) ry λd w F' H' g3=>h2 d w F' H' (g1.trans (g2.trans g3))
variable {a b c:P3}{ta tb tc:TD}{pos:R4}
def db[Jx]{op:Tp}(ho:OpR X (Sj op) r)(L:aW X.K r rd)(ha:DE X a ta)(hb:DE X b tb):DE X (.BinOp a op b pos) (dOp rd ta tb):=jQ L (jB ho ha hb)
def gk[Jx]{op:TX}(ho:OpR X (R8 op) r)(L:aW X.K r rd)(ha:DE X a ta)(hb:DE X b tb)(hm:Sh op b=false):DE X (.Compare a [op] [b] pos) (dOp rd ta tb):=jQ L (qd ho ha hb hm)
def xL[Jx](hr:IxR X r)(L:aW X.K r rd)(ha:DE X a ta)(hb:DE X b tb)(hs:autoParam (dO b) zA6):DE X (.Subscript a b pos) (dOp rd ta tb):=jQ L (pe_ix hr ha hb hs)
def kdI(d:D)(k:Int->Prop):Prop:=match d with|.int i=>k i|_=>False
def kdB(d:D)(k:Bool->Prop):Prop:=match d with|.bl i=>k i|_=>False
def kdS(d:D)(k:Jj->Prop):Prop:=match d with|.str i=>k i|_=>False
def kdL(d:D)(k:List D->Prop):Prop:=match d with|.lst i=>k i|_=>False
def kdT(d:D)(k:List D->Prop):Prop:=match d with|.tup i=>k i|_=>False
def kdN(d:D)(p:Prop):Prop:=match d with|.non=>p|_=>False
def kd1(ds:List D)(k:D->Prop):Prop:=match ds with|[x]=>k x|_=>False
def kd2(ds:List D)(k:D->D->Prop):Prop:=match ds with|[x,y]=>k x y|_=>False
def kdI.of{k:Int->Prop}(h:kdI d k):∃i,d=.int i/\k i:=La
def kdB.of{k:Bool->Prop}(h:kdB d k):∃i,d=.bl i/\k i:=La
def kdS.of{k:Jj->Prop}(h:kdS d k):∃i,d=.str i/\k i:=La
variable{k:List My.D->Prop}
def kdL.of(h:kdL d k):∃i,d=.lst i/\k i:=La
def kdT.of(h:kdT d k):∃i,d=.tup i/\k i:=La
def kdP(d:D)(k:KF->Prop):Prop:=match d with|.ptr i=>k i|_=>False
def kdP.of{k:KF->Prop}(h:kdP d k):∃i,d=.ptr i/\k i:=La
def kdN.of{p:Prop}(h:kdN d p):d=.non/\p:=by cases d<;>first|exact#[rfl,h]|exact False.elim h
variable{ds:List My.D}
def kd1.of{k:D->Prop}(h:kd1 ds k):∃x,ds=[x]/\k x:=by
 cases ds with
 |nil=>exact False.elim h
 |cons x r=>cases r with
  |nil=>exact#[x,rfl,h]
  |cons=>exact False.elim h
def kd2.of{k:D->D->Prop}(h:kd2 ds k):∃x y,ds=[x,y]/\k x y:=by
 cases ds with
 |nil=>exact False.elim h
 |cons x r=>cases r with
  |nil=>exact False.elim h
  |cons y r=>cases r with
   |nil=>exact#[x,y,rfl,h]
   |cons=>exact False.elim h
def rdI0(f:Int->Int->D):RD2:=λx y R=>kdI x λi=>kdI y λj=>R (f i j)
def rdI1(C:Int->Int->Prop)(f:Int->Int->D):RD2:=λx y R=>kdI x λi=>kdI y λj=>C i j/\R (f i j)
variable{K:Ex}{f:Int->Int->My.D}{g:Int->Int->V}
def jR(k:∀F i j,Rep K F (f i j) (g i j)):aW K (rI0 g) (rdI0 f):=by
 intro x y u v F H R Q fh h rx ry q;replace h:=kdI.of h;obtain⟨i,rfl,h⟩:=h;replace h:=kdI.of h;obtain⟨j,rfl,h⟩:=h;exact#[i,j,rep_int.mp rx,rep_int.mp ry,q _ _ F H (Grow.refl fh) h (k F i j)]
def fk{C:Int->Int->Prop}(k:∀F i j,Rep K F (f i j) (g i j)):aW K (rI C g) (rdI1 C f):=by
 intro x y u v F H R Q fh h rx ry q;replace h:=kdI.of h;obtain⟨i,rfl,h⟩:=h;replace h:=kdI.of h;obtain⟨j,rfl,h⟩:=h;exact#[i,j,rep_int.mp rx,rep_int.mp ry,h.1,q _ _ F H (Grow.refl fh) h.2 (k F i j)]
def jS:RD2:=λx y R=>match x with
 |.int i=>kdI y λj=>R (.int (i+j))
 |.str i=>kdS y λj=>i.length+j.length<=1000000/\R (.str (i++j))
 |.lst xs=>kdL y λys=>xs.length+ys.length<=1000000/\R (.lst (xs++ys))
 |.tup xs=>kdT y λys=>(xs≠[]/\ys≠[]/\xs.length+ys.length<=1000000)/\R (.tup (xs++ys))
 |_=>False
def qQ(K:Ex):R2:=λx y H Q=>rI0 (λi j=>.int (i+j)) x y H Q\/((λx y H Q=>∃i j,x=.str i/\y=.str j/\i.length+j.length<=sizeLine/\Q (.str (i++j)) H) x y H Q\/(rCat x y H Q\/qB K x y H Q))
def qR:OpR X (Sj .Add) (qQ X.K):=OpR.or wm (OpR.or wx (OpR.or qG wZ))
def Reps.append{K:Ex}{F:Hp}:∀{xs ys:List D} {us vs:List V},Reps K F xs us->Reps K F ys vs->Reps K F (xs++ys) (us++vs)
 |[],ys,us,vs,r1,r2=>by rw[reps_nil.mp r1];exact r2
 |x::xs,ys,us,vs,r1,r2=>by
  obtain⟨u,ur,rfl,a1,a2⟩:=reps_cons.mp r1;exact reps_cons.mpr #[u,ur++vs,rfl,a1,Reps.append a2 r2]
def Reps.ne_nil{F:Hp}{xs:List D}{us:List V}(r:Reps K F xs us)(h:xs≠[]):us≠[]:=by
 cases xs with
 |nil=>exact absurd rfl h
 |cons x xs=>obtain⟨u,ur,rfl,_⟩:=reps_cons.mp r;exact λz=>nomatch z
def qS:aW K (qQ K) jS:=by
 intro x y u v F H R Q fh h rx ry q;cases x with
 |int i=>
  replace h:=kdI.of h;obtain⟨j,rfl,h⟩:=h;exact .inl #[_,_,rep_int.mp rx,rep_int.mp ry,q _ _ F H (Grow.refl fh) h (rep_int.mpr rfl)]
 |str i=>
  replace h:=kdS.of h;obtain⟨j,rfl,h⟩:=h;exact .inr (.inl #[_,_,rep_str.mp rx,rep_str.mp ry,FY h.1 J7,q _ _ F H (Grow.refl fh) h.2 (rep_str.mpr rfl)])
 |lst xs=>
  replace h:=kdL.of h;obtain⟨ys,rfl,h⟩:=h;obtain⟨a,us,rfl,hq,rr⟩:=rep_lst.mp rx;obtain⟨b,vs,rfl,m9,u9⟩:=rep_lst.mp ry;refine .inr (.inr (.inl #[a,b,us,vs,rfl,rfl,fh _ _ hq,fh _ _ m9,by rw[rr.length,u9.length];exact FY h.1 J7,λp hp=>?_]));exact q _ _ _ _ (Grow.new fh hp _) h.2 (rep_lst.mpr #[p,_,rfl,ax,(rr.append u9).mono (aS (fh.free hp) _)])
 |tup xs=>
  replace h:=kdT.of h;obtain⟨ys,rfl,h⟩:=h;obtain⟨a,us,rfl,hq,rr⟩:=rep_tup_mp rx;obtain⟨b,vs,rfl,m9,u9⟩:=rep_tup_mp ry;obtain⟨⟨n1,n2,hz⟩,h⟩:=h;refine .inr (.inr (.inr #[a,b,us,vs,rfl,rfl,fh.tup hq,fh.tup m9,rr.ne_nil n1,by rw[rr.length,u9.length];exact FY hz J7,λz=>absurd z (u9.ne_nil n2),λ_ p hp=>?_]));exact q _ _ _ _ (Grow.new fh hp _) h (rep_tupS.mpr #[p,_,rfl,ax,(rr.append u9).mono (aS (fh.free hp) _)])
 |_=>exact False.elim h
def aB[Jx](ha:WDE X a ta)(hb:WDE X b tb):WDE X (.BinOp a .Add b pos) (dOp jS ta tb):=#[have ha:=ha.out;have hb:=hb.out;db qR qS ha hb]
def jT:RD2:=rdI0 λi j=>.int (i-j)
def qT:aW K (rI0 λi j=>.int (i-j)) jT:=jR λ_ _ _=>rep_int.mpr rfl
def bw[Jx](ha:WDE X a ta)(hb:WDE X b tb):WDE X (.BinOp a .Sub b pos) (dOp jT ta tb):=#[have ha:=ha.out;have hb:=hb.out;db pU qT ha hb]
def qU:RD2:=λx y R=>kdI x λi=>kdI y λj=>CMul i j/\R (.int (i*j))
def xM:aW K (rI CMul λi j=>.int (i*j)) qU:=fk λ_ _ _=>rep_int.mpr rfl
def aL[Jx](ha:WDE X a ta)(hb:WDE X b tb):WDE X (.BinOp a .Mult b pos) (dOp qU ta tb):=#[have ha:=ha.out;have hb:=hb.out;db wn xM ha hb]
def qV:RD2:=λx y R=>kdI x λi=>kdI y λj=>(0<j/\j<1073741824)/\R (.int (i/j))
def xN:aW K (rI CDiv λi j=>.int (i/j)) qV:=fk λ_ _ _=>rep_int.mpr rfl
def bx[Jx](ha:WDE X a ta)(hb:WDE X b tb):WDE X (.BinOp a .FloorDiv b pos) (dOp qV ta tb):=#[have ha:=ha.out;have hb:=hb.out;db wo xN ha hb]
def qW(i j:Int):Prop:=j≠0/\j.natAbs<4611686018427387904
def xO:OpR X (Sj .FloorDiv) (rI qW λi j=>.int (i.fdiv j)):=opI λ_ j _ _ _ _ _ hc q=>floordiv_int hc.1 q (.inl (PyProof.noPylong_of_log2 (Iu ((Iw (λz=>hc.1 (Int.natAbs_eq_zero.mp z))).mpr (show j.natAbs<2^62 from hc.2)) J7)))
def qX:RD2:=λx y R=>kdI x λi=>kdI y λj=>(j≠0/\j.natAbs<4611686018427387904)/\R (.int (i.fdiv j))
def xP:aW K (rI qW λi j=>.int (i.fdiv j)) qX:=fk λ_ _ _=>rep_int.mpr rfl
def xQ[Jx](ha:WDE X a ta)(hb:WDE X b tb):WDE X (.BinOp a .FloorDiv b pos) (dOp qX ta tb):=#[have ha:=ha.out;have hb:=hb.out;db xO xP ha hb]
def qY:RD2:=λx y R=>kdI x λi=>kdI y λj=>0<j/\R (.int (i%j))
def xR:aW K (rI (λ_ j=>0<j) λi j=>.int (i%j)) qY:=fk λ_ _ _=>rep_int.mpr rfl
def aH[Jx](ha:WDE X a ta)(hb:WDE X b tb):WDE X (.BinOp a .Mod b pos) (dOp qY ta tb):=#[have ha:=ha.out;have hb:=hb.out;db wp xR ha hb]
def qZ:RD2:=λx y R=>kdI x λi=>kdI y λj=>j≠0/\R (.int (i.fmod j))
def xS:aW K (rI (λ_ j=>j≠0) λi j=>.int (i.fmod j)) qZ:=fk λ_ _ _=>rep_int.mpr rfl
def ra[Jx](ha:WDE X a ta)(hb:WDE X b tb):WDE X (.BinOp a .Mod b pos) (dOp qZ ta tb):=#[have ha:=ha.out;have hb:=hb.out;db wq xS ha hb]
def rdLt:RD2:=rdI0 λi j=>.bl (decide (i<j))
def rb:aW K (rI0 λi j=>.bl (decide (i<j))) rdLt:=jR λ_ _ _=>rep_bl.mpr rfl
def rdGt:RD2:=rdI0 λi j=>.bl (decide (j<i))
def jU:aW K (rI0 λi j=>.bl (decide (j<i))) rdGt:=jR λ_ _ _=>rep_bl.mpr rfl
def xT[Jx](ha:WDE X a ta)(hb:WDE X b tb):WDE X (.Compare a [.Gt] [b] pos) (dOp rdGt ta tb):=#[have ha:=ha.out;have hb:=hb.out;gk jD jU ha hb (nomark _)]
def rdEq:RD2:=λx y R=>match x with
 |.int i=>kdI y λj=>R (.bl (decide (i=j)))
 |.bl i=>kdB y λj=>R (.bl (decide (i=j)))
 |.str i=>kdS y λj=>R (.bl (decide (i=j)))
 |.non=>kdN y (R (.bl true))
 |_=>False
def rdNe:RD2:=λx y R=>match x with
 |.int i=>kdI y λj=>R (.bl (!decide (i=j)))
 |.bl i=>kdB y λj=>R (.bl (!decide (i=j)))
 |.str i=>kdS y λj=>R (.bl (!decide (i=j)))
 |.non=>kdN y (R (.bl false))
 |_=>False
def jV:aW K rEq rdEq:=by
 intro x y u v F H R Q fh h rx ry q;cases x with
 |int i=>
  replace h:=kdI.of h;obtain⟨j,rfl,h⟩:=h;rw[rep_int.mp rx,rep_int.mp ry];exact#[rfl,q _ _ F H (Grow.refl fh) h (rep_bl.mpr J8)]
 |bl i=>
  replace h:=kdB.of h;obtain⟨j,rfl,h⟩:=h;rw[rep_bl.mp rx,rep_bl.mp ry];exact#[rfl,q _ _ F H (Grow.refl fh) h (rep_bl.mpr J8)]
 |str i=>
  replace h:=kdS.of h;obtain⟨j,rfl,h⟩:=h;rw[rep_str.mp rx,rep_str.mp ry];exact#[rfl,q _ _ F H (Grow.refl fh) h (rep_bl.mpr J8)]
 |non=>
  replace h:=kdN.of h;obtain⟨rfl,h⟩:=h;rw[rep_non.mp rx,rep_non.mp ry];exact#[rfl,q _ _ F H (Grow.refl fh) h (rep_bl.mpr J8)]
 |_=>exact False.elim h
def re:aW K rNe rdNe:=by
 intro x y u v F H R Q fh h rx ry q;cases x with
 |int i=>
  replace h:=kdI.of h;obtain⟨j,rfl,h⟩:=h;rw[rep_int.mp rx,rep_int.mp ry];exact#[rfl,q _ _ F H (Grow.refl fh) h (rep_bl.mpr J8)]
 |bl i=>
  replace h:=kdB.of h;obtain⟨j,rfl,h⟩:=h;rw[rep_bl.mp rx,rep_bl.mp ry];exact#[rfl,q _ _ F H (Grow.refl fh) h (rep_bl.mpr J8)]
 |str i=>
  replace h:=kdS.of h;obtain⟨j,rfl,h⟩:=h;rw[rep_str.mp rx,rep_str.mp ry];exact#[rfl,q _ _ F H (Grow.refl fh) h (rep_bl.mpr J8)]
 |non=>
  replace h:=kdN.of h;obtain⟨rfl,h⟩:=h;rw[rep_non.mp rx,rep_non.mp ry];exact#[rfl,q _ _ F H (Grow.refl fh) h (rep_bl.mpr J8)]
 |_=>exact False.elim h
def fm[Jx](ha:WDE X a ta)(hb:WDE X b tb):WDE X (.Compare a [.Eq] [b] pos) (dOp rdEq ta tb):=#[have ha:=ha.out;have hb:=hb.out;gk jC jV ha hb (nomark _)]
def jW:D->Bool|.non=>true|_=>false
def rdIs(f:Bool->Bool):RD2:=λx y R=>kdN y (R (.bl (f (jW x))))
def rg{H:Hp}{x:D}{u:V}(r:Rep K H x u):decide (u=.non)=jW x:=by
 cases x with
 |non=>rw[rep_non.mp r];rfl
 |bl b=>rw[rep_bl.mp r];rfl
 |int b=>rw[rep_int.mp r];rfl
 |str b=>rw[rep_str.mp r];rfl
 |tup b=>obtain⟨a,vs,rfl,_⟩:=rep_tup_mp r;rfl
 |lst b=>obtain⟨a,vs,rfl,_⟩:=rep_lst.mp r;rfl
 |rol b=>obtain⟨a,vs,rfl,_⟩:=rep_rol.mp r;rfl
 |obj C b=>obtain⟨a,C,dx,vs,rfl,_⟩:=rep_obj.mp r;rfl
 |exc C b=>obtain⟨a,C,od,vs,rfl,_⟩:=rep_exc.mp r;rfl
 |own b=>exact absurd r rep_own
 |ptr b=>rw[rep_ptr.mp r];rfl
 |dti b=>obtain⟨a,rfl,_⟩:=rep_dti.mp r;rfl
def rh:aW K (λx y H Q=>y=.non/\Q (.bl (decide (x=.non))) H) (rdIs id):=by
 intro x y u v F H R Q fh h rx ry q;replace h:=kdN.of h;obtain⟨rfl,h⟩:=h;exact#[rep_non.mp ry,q _ _ F H (Grow.refl fh) h (rep_bl.mpr (by rw[rg rx];rfl))]
def xU:aW K (λx y H Q=>y=.non/\Q (.bl (!decide (x=.non))) H) (rdIs not):=by
 intro x y u v F H R Q fh h rx ry q;replace h:=kdN.of h;obtain⟨rfl,h⟩:=h;exact#[rep_non.mp ry,q _ _ F H (Grow.refl fh) h (rep_bl.mpr (by rw[rg rx]))]
def xV[Jx](ha:WDE X a ta)(hb:WDE X b tb):WDE X (.Compare a [.Is] [b] pos) (dOp (rdIs id) ta tb):=#[have ha:=ha.out;have hb:=hb.out;gk qc rh ha hb (nomark _)]
def rdIx:RD2:=λx y R=>kdI y λi=>match x with
 |.tup ds=>∃d,atI ds i=be d/\R d
 |.lst ds=>∃d,atI ds i=be d/\R d
 |.rol ds=>∃d,atI ds i=be d/\R d
 |.str x=>∃c,(x.length<=1000000/\atI x.cps.toList i=be c)/\R (.str #[[c].toArray])
 |_=>False
def Reps.at{H:Hp}{vs:List V}{i:Int}(r:Reps K H ds vs)(e:atI ds i=be d):∃v,atI vs i=be v/\Rep K H d v:=by
 unfold atI at e ⊢;rw[r.length];cases q:ixN ds.length i with
 |none=>rw[q]at e;cases e
 |some j=>
  rw[q]at e;exact r.get e
def rj:aW K (rIx K) rdIx:=by
 intro x y u v F H R Q fh h rx ry q;replace h:=kdI.of h;obtain⟨i,rfl,h⟩:=h;cases x with
 |tup ds=>
  obtain⟨d,e,h⟩:=h;obtain⟨a,vs,e1,hq,rs⟩:=rep_tup_mp rx;obtain⟨w,e2,h_⟩:=rs.at e;exact .inr (.inl #[a,vs,_,w,e1,rep_int.mp ry,fh.tup hq,e2,q d w F H (Grow.refl fh) h h_])
 |lst ds=>
  obtain⟨d,e,h⟩:=h;obtain⟨a,vs,e1,hq,rs⟩:=rep_lst.mp rx;obtain⟨w,e2,h_⟩:=rs.at e;exact .inl #[a,vs,_,w,e1,rep_int.mp ry,fh.seq (SqL.of hq),e2,q d w F H (Grow.refl fh) h h_]
 |rol ds=>
  obtain⟨d,e,h⟩:=h;obtain⟨a,vs,e1,hq,rs⟩:=rep_rol.mp rx;obtain⟨w,e2,h_⟩:=rs.at e;exact .inl #[a,vs,_,w,e1,rep_int.mp ry,fh.seq hq,e2,q d w F H (Grow.refl fh) h h_]
 |str x=>
  obtain⟨c,⟨hz,e⟩,h⟩:=h;exact .inr (.inr #[_,_,c,rep_str.mp rx,rep_int.mp ry,FY hz J7,e,q _ _ F H (Grow.refl fh) h (rep_str.mpr rfl)])
 |_=>exact False.elim h
def ah[Jx](ha:WDE X a ta)(hb:WDE X b tb)(hs:autoParam (dO b) zA6):WDE X (.Subscript a b pos) (dOp rdIx ta tb):=#[have ha:=ha.out;have hb:=hb.out;xL qD rj ha hb hs]
def dUn(r:D->(D->Prop)->Prop)(ta:TD):TD:=λz R=>ta z λx=>r x R
def rk:D->(D->Prop)->Prop:=λx R=>match x with|.int i=>R (.int (-i))|_=>False
def cq[Jx](ha:WDE X a ta):WDE X (.UnaryOp .USub a pos) (dUn rk ta):=⟨have ha:=ha.out;(wl wr ha).anti λs H Q h=>by
 obtain⟨B,F,z,kf,rs,R,h1,h2⟩:=h;have fh:=kf.fh;refine#[B,F,z,kf,rs,_,h1,λx u F1 H1 g1 hx rx=>?_];unfold rk at hx;split at hx
 .exact#[_,rep_int.mp rx,h2 _ _ F1 H1 g1 hx (rep_int.mpr rfl)]
 .exact hx.elim⟩
def dNil:TDA:=λ_ R=>R []
def xW(ta:TD)(tr:TDA):TDA:=λz R=>ta z λx=>tr z λxs=>R (x::xs)
def af[Jx]:WDA X [] dNil:=⟨pa_nil.anti λs H Q h=>by
 obtain⟨B,F,z,kf,rs,R,h1,h2⟩:=h;have fh:=kf.fh;exact h2 [] [] F H (Grow.refl fh) h1 (reps_nil.mpr rfl)⟩
variable{es:List P3}{t:TDA}
def ac[Jx]{te:TD}(ha:WDE X e te)(hr:WDA X es t)(hs:autoParam (zSE X e es) zA0):WDA X (e::es) (xW te t):=⟨have ha:=ha.out;have hr:=hr.out;(bn ha hr hs).anti λs H Q h=>by
 obtain⟨B,F,z,kf,rs,R,h1,h2⟩:=h;have fh:=kf.fh;refine#[B,F,z,kf,rs,_,h1,λx u F1 H1 g1 hx rx=>?_];refine#[B,F1,z,kf.grow g1,rs.grow g1,_,hx,λxs us F2 H2 g2 hy ry=>?_];exact h2 _ _ F2 H2 (g1.trans g2) hy (reps_cons.mpr #[_,_,rfl,rx.mono g2.ff,ry])⟩
def dTup(t:TDA):TD:=λz R=>t z λxs=>xs.length<=1000/\R (.tup xs)
def dLst(t:TDA):TD:=λz R=>t z λxs=>xs.length<=1000/\R (.lst xs)
def aN[Jx]{x1}(h:WDA X es t):WDE X (.Tuple es x1 pos) (dTup t):=⟨have h:=h.out;(qo h).anti λs H Q q=>by
 obtain⟨B,F,z,kf,rs,R,h1,h2⟩:=q;have fh:=kf.fh;refine#[B,F,z,kf,rs,_,h1,λds vs F1 H1 g1 hx rx=>?_];have hl:=rx.length;refine#[sz (by rw[hl];exact hx.1),λp hp=>?_];exact h2 _ _ _ _ (g1.trans (Grow.new g1.fh hp _)) hx.2 (rep_tupS.mpr #[p,vs,rfl,ax,rx.mono (aS (g1.fh.free hp) _)])⟩
def bp[Jx](h:WDA X es t):WDE X (.List es pos) (dLst t):=⟨have h:=h.out;(gc h).anti λs H Q q=>by
 obtain⟨B,F,z,kf,rs,R,h1,h2⟩:=q;have fh:=kf.fh;refine#[B,F,z,kf,rs,_,h1,λds vs F1 H1 g1 hx rx=>?_];have hl:=rx.length;refine#[sz (by rw[hl];exact hx.1),λp hp=>?_];exact h2 _ _ _ _ (g1.trans (Grow.new g1.fh hp _)) hx.2 (rep_lst.mpr #[p,vs,rfl,ax,rx.mono (aS (g1.fh.free hp) _)])⟩
abbrev SpD:=List D->(D->Prop)->Prop
def lSp(K:Ex)(S:SpD):Sp:=λvs H Q _=>∃F ds,Same F H/\Reps K F ds vs/\∃R:D->Prop,S ds R/\∀d v F' H',Grow F H F' H'->R d->Rep K F' d v->Q v H'
def xX(S:SpD)(t:TDA):TD:=λz R=>t z λds=>S ds R
abbrev CalD(P:RP)(w:RU)(K:Ex)(mg:Jj->Option KB)(base:Heap)(n:Nat)(x:Jj)(ps:List Jj)(S:SpD):Prop:=Cal P w K mg base n x ps (lSp K S)
variable{p:R4}
def aI[Jx]{n m:Nat}{ps:List Jj}{S:SpD}(C:CalD X.prog X.w X.K X.mg X.base n x ps S)(hr:Room m X.A)(ha:WDA X (e::es) t)(hg:autoParam (Gl X x) zA0)(hn:autoParam (n<=m) zA1)(c_:autoParam (zND x) zA1)
  (he:autoParam (zSE X e es) zA0) (c5:autoParam (zPL X pos es) zA0):WDE X (.Call (.Name x p) (e::es) [] pos) (xX S t):=⟨have ha:=ha.out;(xK C hr ha hg hn c_ he c5).anti λs H Q h=>by
 obtain⟨B,F,z,kf,rs,R,h1,h2⟩:=h;have fh:=kf.fh;refine#[B,F,z,kf,rs,_,h1,λds vs F1 H1 g1 hx rx=>?_];exact#[F1,ds,g1.fh,by rw[Gk];exact rx,R,hx,λd v F' H' g=>h2 d v F' H' (g1.trans g)]⟩
abbrev RDn:=List D->(D->Prop)->Prop
def cz(K:Ex)(r:List V->Hp->VK->Prop)(rd:RDn):Prop:=∀ds vs F H R Q,Same F H->rd ds R->Reps K F ds vs->(∀d w F' H',Grow F H F' H'->R d->Rep K F' d w->Q w H')->r vs H Q
def dCB(r:RDn)(t:TDA):TD:=λz R=>t z λds=>r ds R
def gl[Jx]{id:String}{r:List V->Hp->VK->Prop}{rd:RDn}(hc:bO X (.builtin id) r)(L:cz X.K r rd)(hm:X.mg x=B_)(hv:R9 x=be (.builtin id))(ha:DA X (e::es) t)(hg:autoParam (Gl X x) zA0)(hn:autoParam (x≠"__name__") zA1)(c_:autoParam (zND x) zA1)
  (he:autoParam (zSE X e es) zA0) (c5:autoParam (zPL X pos es) zA0):DE X (.Call (.Name x p) (e::es) [] pos) (dCB rd t):=(fg hc hg hm hv ha hn c_ he c5).anti λs H Q h=>by
 obtain⟨B,F,z,kf,rs,R,h1,h2⟩:=h;have fh:=kf.fh;refine#[B,F,z,kf,rs,_,h1,λds vs F1 H1 g1 hx rx=>?_];exact L ds vs F1 H1 R Q g1.fh hx rx λd w F' H' g=>h2 d w F' H' (g1.trans g)
def jX:RDn:=λds R=>kd1 ds λx=>match x with
 |.tup xs=>R (.int xs.length)
 |.lst xs=>R (.int xs.length)
 |.rol xs=>R (.int xs.length)
 |.str x=>x.length<=1000000/\R (.int x.length)
 |_=>False
def rl:cz K (λxs H Q=>∃x n,xs=[x]/\LenV K x H n/\Q (.int n) H) jX:=by
 intro ds vs F H R Q fh h rx q;replace h:=kd1.of h;obtain⟨x,rfl,h⟩:=h;obtain⟨v,r,rfl,h1,h2⟩:=reps_cons.mp rx;rw[reps_nil.mp h2];cases x with
 |tup xs=>
  obtain⟨a,us,rfl,hq,rs⟩:=rep_tup_mp h1;exact#[.ref a,us.length,rfl,.inr #[us,fh.tup hq,rfl],q _ _ F H (Grow.refl fh) h (rep_int.mpr (by rw[rs.length]))]
 |lst xs=>
  obtain⟨a,us,rfl,hq,rs⟩:=rep_lst.mp h1;exact#[.ref a,us.length,rfl,.inl #[us,fh.seq (SqL.of hq),rfl],q _ _ F H (Grow.refl fh) h (rep_int.mpr (by rw[rs.length]))]
 |rol xs=>
  obtain⟨a,us,rfl,hq,rs⟩:=rep_rol.mp h1;exact#[.ref a,us.length,rfl,.inl #[us,fh.seq hq,rfl],q _ _ F H (Grow.refl fh) h (rep_int.mpr (by rw[rs.length]))]
 |str x=>
  rw[rep_str.mp h1];exact#[.str _,_,rfl,#[FY h.1 J7,rfl],q _ _ F H (Grow.refl fh) h.2 (rep_int.mpr rfl)]
 |_=>exact False.elim h
def bQ[Jx](hm:X.mg "len"=B_)(ha:WDA X [e] t)(hg:autoParam (Gl X "len") zA0)(he:autoParam (zSE X e []) zA0):WDE X (.Call (.Name "len" p) [e] [] pos) (dCB jX t):=#[have ha:=ha.out;gl jE rl hm PySem.boot_len ha hg J7 J7 he]
def rn:RDn:=λds R=>kd1 ds λx=>kdI x λi=>R (.int (if i<0 then -i else i))
def xY:cz K (λxs H Q=>∃i,xs=[.int i]/\Q (.int (if i<0 then -i else i)) H) rn:=by
 intro ds vs F H R Q fh h rx q;replace h:=kd1.of h;obtain⟨x,rfl,h⟩:=h;replace h:=kdI.of h;obtain⟨i,rfl,h⟩:=h;obtain⟨v,r,rfl,h1,h2⟩:=reps_cons.mp rx;rw[reps_nil.mp h2,rep_int.mp h1];exact#[_,rfl,q _ _ F H (Grow.refl fh) h (rep_int.mpr rfl)]
def jY[Jx](hm:X.mg "abs"=B_)(ha:WDA X [e] t)(hg:autoParam (Gl X "abs") zA0)(he:autoParam (zSE X e []) zA0):WDE X (.Call (.Name "abs" p) [e] [] pos) (dCB rn t):=#[have ha:=ha.out;gl wy xY hm PyProof.Rows.boot_abs ha hg J7 J7 he]
end
section
variable {X:Cx}{a b c e:P3}{ta tb tc te:TD}{pos:R4}
def dTst(t:TD):TDT:=λz R=>t z λx=>match x with|.bl k=>R k|_=>False
def dU[Jx]{op:TX}{r:R2}{rd:RD2}(ho:OpR X (R8 op) r)(L:aW X.K r rd)(ha:DE X a ta)(hb:DE X b tb)(hm:Sh op b=false):DT X (.Compare a [op] [b] pos) (dTst (dOp rd ta tb)):=(qe ho ha hb hm).anti λs H Q q=>by
 obtain⟨B,F,z,kf,rs,R,h1,h2⟩:=q;have fh:=kf.fh;refine#[B,F,z,kf,rs,_,h1,λx u F1 H1 g1 hx rx=>?_];refine#[B,F1,z,kf.grow g1,rs.grow g1,_,hx,λy v F2 H2 g2 hy ry=>?_];refine L x y u v F2 H2 _ _ g2.fh hy (rx.mono g2.ff) ry λd w F' H' g3 hd rd=>?_;split at hd
 .exact#[_,rep_bl.mp rd,h2 _ F' H' (g1.trans (g2.trans g3)) hd]
 .exact hd.elim
def gm[Jx](ha:WDE X a ta)(hb:WDE X b tb):WDT X (.Compare a [.Lt] [b] pos) (dTst (dOp rdLt ta tb)):=#[have ha:=ha.out;have hb:=hb.out;dU qa rb ha hb (nomark _)]
def rq[Jx](ha:WDE X a ta)(hb:WDE X b tb):WDT X (.Compare a [.Gt] [b] pos) (dTst (dOp rdGt ta tb)):=#[have ha:=ha.out;have hb:=hb.out;dU jD jU ha hb (nomark _)]
def bD[Jx](ha:WDE X a ta)(hb:WDE X b tb):WDT X (.Compare a [.Eq] [b] pos) (dTst (dOp rdEq ta tb)):=#[have ha:=ha.out;have hb:=hb.out;dU jC jV ha hb (nomark _)]
def cr[Jx](ha:WDE X a ta)(hb:WDE X b tb):WDT X (.Compare a [.NotEq] [b] pos) (dTst (dOp rdNe ta tb)):=#[have ha:=ha.out;have hb:=hb.out;dU pZ re ha hb (nomark _)]
def xZ[Jx](ha:WDE X a ta)(hb:WDE X b tb):WDT X (.Compare a [.IsNot] [b] pos) (dTst (dOp (rdIs not) ta tb)):=#[have ha:=ha.out;have hb:=hb.out;dU wt xU ha hb (nomark _)]
def dTru(t:TD):TDT:=λz R=>t z λx=>match x with
 |.non=>R false
 |.bl k=>R k
 |.int i=>R (i !=0)
 |.str y=>y.length<=1000/\R ((y.length:Int) !=0)
 |.tup xs=>R (!xs.isEmpty)
 |.lst xs=>R (!xs.isEmpty)
 |.rol xs=>R (!xs.isEmpty)
 |_=>False
variable{K:Ex}
def Reps.isEmpty{H:Hp}{ds:List D}{vs:List V}(r:Reps K H ds vs):vs.isEmpty=ds.isEmpty:=by
 cases ds with
 |nil=>rw[reps_nil.mp r];rfl
 |cons d ds=>obtain⟨v,r',rfl,_⟩:=reps_cons.mp r;rfl
def cI[Jx](ha:WDE X a ta)(he:autoParam (∀d8,isTrue a X.env d8=(do let v <-d8;SA a.pos;Si [v] (truthy v))) zA2):WDT X a (dTru ta):=⟨have ha:=ha.out;(qf ha he).anti λs H Q q=>by
 obtain⟨B,F,z,kf,rs,R,h1,h2⟩:=q;have fh:=kf.fh;refine#[B,F,z,kf,rs,_,h1,λx u F1 H1 g1 hx rx=>?_];split at hx
 .rw[rep_non.mp rx];exact#[false,rfl,h2 _ F1 H1 g1 hx]
 .rw[rep_bl.mp rx];exact#[_,rfl,h2 _ F1 H1 g1 hx]
 .rw[rep_int.mp rx];exact#[_,rfl,h2 _ F1 H1 g1 hx]
 .rw[rep_str.mp rx];exact#[_,#[sz hx.1,rfl],h2 _ F1 H1 g1 hx.2]
 .obtain⟨p,vs,rfl,hq,rr⟩:=rep_tup_mp rx;exact#[_,.inr (.inl #[vs,g1.fh.tup hq,by rw[rr.isEmpty]]),h2 _ F1 H1 g1 hx]
 .obtain⟨p,vs,rfl,hq,rr⟩:=rep_lst.mp rx;exact#[_,.inl #[vs,g1.fh.seq (SqL.of hq),by rw[rr.isEmpty]],h2 _ F1 H1 g1 hx]
 .obtain⟨p,vs,rfl,hq,rr⟩:=rep_rol.mp rx;exact#[_,.inl #[vs,g1.fh.seq hq,by rw[rr.isEmpty]],h2 _ F1 H1 g1 hx]
 .exact hx.elim⟩
variable {tA H_:TDT}{rest:List P3}
def dAnd(t u:TDT):TDT:=λz R=>t z λc=>if c=true then u z R else R false
def dOr(t u:TDT):TDT:=λz R=>t z λc=>if c=true then R true else u z R
def dNot(t:TDT):TDT:=λz R=>t z λc=>R (!c)
def rA[Jx](ha:WDT X a tA):WDW X (.BoolOp .And [a] pos) tA:=#[have ha:=ha.out;pH ha]
def gq[Jx](ha:WDT X a tA):WDW X (.BoolOp .Or [a] pos) tA:=#[have ha:=ha.out;pI ha]
def rB[Jx](ha:WDT X a tA)(hb:WDW X (.BoolOp .And (b::rest) pos) H_):WDW X (.BoolOp .And (a::b::rest) pos) (dAnd tA H_):=⟨have ha:=ha.out;have hb:=hb.out;(pJ ha hb).anti λs H Q q=>by
 obtain⟨B,F,z,kf,rs,R,h1,h2⟩:=q;have fh:=kf.fh;refine#[B,F,z,kf,rs,_,h1,λk F1 H1 g1 hx=>?_];cases k with
 |true=>exact#[B,F1,z,kf.grow g1,rs.grow g1,R,hx,λb F' H' g=>h2 b F' H' (g1.trans g)]
 |false=>exact h2 _ F1 H1 g1 hx⟩
def gu[Jx](ha:WDT X a tA)(hb:WDW X (.BoolOp .Or (b::rest) pos) H_):WDW X (.BoolOp .Or (a::b::rest) pos) (dOr tA H_):=⟨have ha:=ha.out;have hb:=hb.out;(pK ha hb).anti λs H Q q=>by
 obtain⟨B,F,z,kf,rs,R,h1,h2⟩:=q;have fh:=kf.fh;refine#[B,F,z,kf,rs,_,h1,λk F1 H1 g1 hx=>?_];cases k with
 |false=>exact#[B,F1,z,kf.grow g1,rs.grow g1,R,hx,λb F' H' g=>h2 b F' H' (g1.trans g)]
 |true=>exact h2 _ F1 H1 g1 hx⟩
def dW[Jx](h:WDW X a tA):WDT X a tA:=#[have h:=h.out;PW.pt h]
def fo[Jx](ha:WDT X a tA):WDT X (.UnaryOp .Not a pos) (dNot tA):=⟨have ha:=ha.out;(pL ha).anti λs H Q q=>by
 obtain⟨B,F,z,kf,rs,R,h1,h2⟩:=q;have fh:=kf.fh;exact#[B,F,z,kf,rs,_,h1,λk F1 H1 g1 hx=>h2 _ F1 H1 g1 hx]⟩
def ya(ta tb:TD):TD:=λz R=>ta z λx=>match x with|.bl k=>if k=true then tb z R else R (.bl false)|_=>False
def yb(ta:TD):TD:=λz R=>ta z λx=>match x with|.bl k=>R (.bl (!k))|_=>False
def gv[Jx]{op}(h:WDE X a ta):WDE X (.BoolOp op [a] pos) ta:=#[have h:=h.out;vO h]
def gw[Jx](ha:WDE X a ta)(hb:WDE X (.BoolOp .And (b::rest) pos) tb):WDE X (.BoolOp .And (a::b::rest) pos) (ya ta tb):=⟨have ha:=ha.out;have hb:=hb.out;(vP ha hb).anti λs H Q q=>by
 obtain⟨B,F,z,kf,rs,R,h1,h2⟩:=q;have fh:=kf.fh;refine#[B,F,z,kf,rs,_,h1,λx u F1 H1 g1 hx rx=>?_];split at hx
 .rename_i k;refine#[k,rep_bl.mp rx,?_];cases k with
  |true=>exact#[B,F1,z,kf.grow g1,rs.grow g1,R,hx,λd v F' H' g=>h2 d v F' H' (g1.trans g)]
  |false=>exact h2 _ _ F1 H1 g1 hx (rep_bl.mpr rfl)
 .exact hx.elim⟩
def yc[Jx](ha:WDE X a ta):WDE X (.UnaryOp .Not a pos) (yb ta):=⟨have ha:=ha.out;(vQ ha).anti λs H Q q=>by
 obtain⟨B,F,z,kf,rs,R,h1,h2⟩:=q;have fh:=kf.fh;refine#[B,F,z,kf,rs,_,h1,λx u F1 H1 g1 hx rx=>?_];split at hx
 .exact#[_,rep_bl.mp rx,h2 _ _ F1 H1 g1 hx (rep_bl.mpr rfl)]
 .exact hx.elim⟩
def tyD:D->String
 |.non=>"NoneType"|.bl _=>"bool"|.int _=>"int"|.str _=>"str"|.tup _=>"tuple"|.lst _=>"list"|.rol _=>"list"|.obj _ _=>"object"|.exc _ _=>"object"|.own _=>"list"|.ptr _=>"object"|.dti _=>"dict"
def cJ(t:String)(x:D):Bool:=tyD x==t||(tyD x=="bool" && t=="int")
def TyQ(K:Ex)(H:Hp)(x:V)(t:String):Prop:=TyOf K H x (.type t)\/(t="tuple"/\∃a xs,x=.ref a/\SqT K H a xs)\/(t="list"/\∃a xs,x=.ref a/\SqL K H a xs)
def rC:bO X (.builtin "isinstance") (λxs H Q=>∃x t c k,xs=[x,.ty c]/\TyQ X.K H x t/\kitOne X.K (.type t) (.type c)=be k/\Q (.bl k) H):=by
 intro pins s σ H xs us Q I r h;obtain⟨x,t,c,k,rfl,ty,e,q⟩:=h;obtain⟨u,u',rfl,rx,rc⟩:=eZ r;cases(show u'=Value.type c from rc);rcases ty with ty|⟨rfl,a,ys,rfl,hq⟩|⟨rfl,a,ys,rfl,hq⟩
 .exact wJ I rx ty e λtk=>#[.bl k,H,I.tok _,rfl,q]
 .cases(show u=Value.ref a from rx);obtain⟨its,_,⟨o,h1,h2,_⟩,_⟩:=I.tuple hq;exact kia_one kitx_tuple I.kIn #[o,h1,h2] e (λz=>nomatch z) λtk=>#[.bl k,H,I.tok _,rfl,q]
 .cases(show u=Value.ref a from rx);obtain⟨its,_,pl,_⟩:=I.list hq;obtain⟨o,n,h1,h2,_⟩:=pl;exact kia_one kitx_list I.kIn #[o,h1,h2] e (λz=>nomatch z) λtk=>#[.bl k,H,I.tok _,rfl,q]
def cK:D->Bool|.obj _ _=>false|.exc _ _=>false|.ptr _=>false|.dti _=>false|_=>true
def rD{F H:Hp}{x:D}{u:V}(fh:Same F H)(r:Rep K F x u)(no:cK x=true):TyQ K H u (tyD x):=by
 cases x with
 |non=>rw[rep_non.mp r];exact .inl .non
 |bl b=>rw[rep_bl.mp r];exact .inl (.bl b)
 |int b=>rw[rep_int.mp r];exact .inl (.int b)
 |str b=>rw[rep_str.mp r];exact .inl (.str b)
 |tup b=>obtain⟨a,vs,rfl,hq,_⟩:=rep_tup_mp r;exact .inr (.inl #[rfl,a,vs,rfl,fh.tup hq])
 |lst b=>obtain⟨a,vs,rfl,hq,_⟩:=rep_lst.mp r;exact .inr (.inr #[rfl,a,vs,rfl,fh.seq (SqL.of hq)])
 |rol b=>obtain⟨a,vs,rfl,hq,_⟩:=rep_rol.mp r;exact .inr (.inr #[rfl,a,vs,rfl,fh.seq hq])
 |obj C b=>cases no
 |exc C b=>cases no
 |ptr b=>cases no
 |dti b=>cases no
 |own b=>exact absurd r rep_own
def jZ(t:String):D->(D->Prop)->Prop:=λx R=>match x with|.obj _ _=>False|.exc _ _=>False|.ptr _=>False|.dti _=>False|x=>R (.bl (cJ t x))
def fq[Jx]{p p2:R4}{y:Jj}{t:String}(hm:X.mg "isinstance"=B_)(MV:X.mg y=B_)(ha:WDE X a ta)(hv:R9 y=be (.type t))
  (hk:∀x:D,cK x=true->kitOne X.K (.type (tyD x)) (.type t)=be (cJ t x)) (hg:autoParam (Gl X "isinstance") zA0) (MX:autoParam (Gl X y) zA0) (hn:autoParam (y≠"__name__") zA1) (c_:autoParam (zND y) zA1)
  (k_:autoParam (RW [a,.Name y p2] X.env=(false,R1 a X.env)::RW [.Name y p2] X.env) zA0) (l8:autoParam (RW [.Name y p2] X.env=(false,R1 (.Name y p2) X.env)::RW [] X.env) zA0) (c5:autoParam ((Su pos (RW [.Name y p2] X.env)).any (·.1)=false) zA0):WDE X (.Call (.Name "isinstance" p) [a,.Name y p2] [] pos) (dUn (jZ t) ta):=⟨have ha:=ha.out;(fg rC hg hm PyProof.Rows.boot_isinstance (bn ha (bn (pG (v:=.ty t) MX MV hv rfl hn c_) pa_nil l8) k_) J7 J7 k_ c5).anti λs H Q q=>by
 obtain⟨B,F,z,kf,rs,R,h1,h2⟩:=q;have fh:=kf.fh;refine#[B,F,z,kf,rs,_,h1,λx u F1 H1 g1 hx rx=>?_];have no:cK x=true:=by
  cases x with
  |obj C b=>exact False.elim hx
  |exc C b=>exact False.elim hx
  |ptr b=>exact False.elim hx
  |dti b=>exact False.elim hx
  |_=>rfl
 have e8:R (.bl (cJ t x)):=by
  cases x with
  |obj C b=>exact False.elim hx
  |exc C b=>exact False.elim hx
  |ptr b=>exact False.elim hx
  |dti b=>exact False.elim hx
  |_=>exact hx
 exact#[u,tyD x,t,_,rfl,rD g1.fh rx no,hk x no,h2 _ _ F1 H1 g1 e8 (rep_bl.mpr rfl)]⟩
def yd:∀x:D,cK x=true->kitOne K (.type (tyD x)) (.type "int")=be (cJ "int" x):=by intro x no;cases x<;>first|rfl|cases no
def kit_bool:∀x:D,cK x=true->kitOne K (.type (tyD x)) (.type "bool")=be (cJ "bool" x):=by intro x no;cases x<;>first|rfl|cases no
def kit_list:∀x:D,cK x=true->kitOne K (.type (tyD x)) (.type "list")=be (cJ "list" x):=by intro x no;cases x<;>first|rfl|cases no
def kit_str:∀x:D,cK x=true->kitOne K (.type (tyD x)) (.type "str")=be (cJ "str" x):=by intro x no;cases x<;>first|rfl|cases no
def toV:D->Option V
 |.non=>be .non|.bl b=>be (.bl b)|.int i=>be (.int i)|.str x=>be (.str x)|_=>B_
def bu(d:D):Bool:=(toV d).isSome
def eqF:D->D->Bool
 |.non,.non=>true
 |.bl a,.bl b=>a==b
 |.bl a,.int b=>(if a then 1 else 0)==b
 |.int a,.bl b=>a==(if b then 1 else 0)
 |.int a,.int b=>a==b
 |.str a,.str b=>a==b
 |_,_=>false
def eqFs:List D->List D->Bool
 |[],[]=>true
 |x::xs,y::ys=>eqF x y&&eqFs xs ys
 |_,_=>false
end
section
variable {X:Cx}{a b:P3}{ta tb:TD}{pos:R4}
def eqVs:List V->List V->Bool
 |[],[]=>true
 |x::xs,y::ys=>eqV x y&&eqVs xs ys
 |_,_=>false
def rE:∀(xs ys:List V),((FQ (min xs.length ys.length)).all (λj=>eqV (xs.getD j .non) (ys.getD j .non))&&xs.length==ys.length)=eqVs xs ys
 |[],[]=>rfl
 |[],_::_=>by simp[eqVs]
 |_::_,[]=>by simp[eqVs]
 |x::xs,y::ys=>by
  have ih:=rE xs ys;rw[eqVs,<-ih];have e:min (x::xs).length (y::ys).length=min xs.length ys.length+1:=by simp only[FV];lia
  rw[e,List.range_succ_eq_map,GT,List.all_map];have e2:((x::xs).length==(y::ys).length)=(xs.length==ys.length):=J8
  rw[e2,Bool.and_assoc];rfl
variable{xs:List V}
def Vals.getD{us:List KB}{j:Nat}(r:Vals xs us)(h:j<us.length):RelV (xs.getD j .non) us[j]:=by
 have hl:=L2.Vals.length r;obtain⟨u,q1,q2⟩:=L2.Vals.get (i:=j) (x:=xs.getD j .non) r (by rw[Gb JZ];simp[Gv,Gb (show j<xs.length by lia)]);rw[Gb h]at q1;cases q1;exact q2
def flat_getD{j:Nat}(h:xs.all bG=true):bG (xs.getD j .non)=true:=by
 by_cases hj:j<xs.length
 .have q:=Gz.mp h xs[j] (GA hj);simpa[Gv,Gb hj]using q
 .simp[Gv,GB (Hu hj),bG]
def rEqT(K:Ex):R2:=λx y H Q=>∃a b xs ys,x=.ref a/\y=.ref b/\SqT K H a xs/\SqT K H b ys/\xs.all bG=true/\ys.all bG=true/\Q (.bl (eqVs xs ys)) H
def ye(hu:X.A.units+1<SZ):OpR X (R8 .Eq) (rEqT X.K):=by
 intro pins s σ H x y v u Q I rx ry h;obtain⟨a,b,xs,ys,rfl,rfl,ha,hb,fx,fy,q⟩:=h;cases rx;cases ry;obtain⟨its,r1,p1,_⟩:=I.tuple ha;obtain⟨g_,r2,p2,_⟩:=I.tuple hb;refine SeqAt.eq_tupleAt (e:=λj=>eqV (xs.getD j .non) (ys.getD j .non)) p1 p2 JZ (λj h1 h2=>?_) #[.bl (eqVs xs ys),H,I,?_,q]
 .rw[FX]at h1 h2;simp only[List.getElem_toArray];exact eqAt_V (Vals.getD r1 h1) (Vals.getD r2 h2) (flat_getD fx) (flat_getD fy)
 .rw[<-rE,FX,FX,<-L2.Vals.length r1,<-L2.Vals.length r2];rfl
variable{K:Ex}
def rF{H:Hp}{x y:D}{u v:V}(rx:Rep K H x u)(ry:Rep K H y v)(fx:bu x=true)(fy:bu y=true):eqV u v=eqF x y:=by
 cases x with
 |tup _=>cases fx
 |lst _=>cases fx
 |rol _=>cases fx
 |obj _ _=>cases fx
 |exc _ _=>cases fx
 |ptr _=>cases fx
 |dti _=>cases fx
 |own _=>cases fx
 |non=>rw[rep_non.mp rx];cases y with
  |tup _=>cases fy
  |lst _=>cases fy
  |rol _=>cases fy
  |obj _ _=>cases fy
  |exc _ _=>cases fy
  |ptr _=>cases fy
  |dti _=>cases fy
  |own _=>cases fy
  |non=>rw[rep_non.mp ry];rfl
  |bl _=>rw[rep_bl.mp ry];rfl
  |int _=>rw[rep_int.mp ry];rfl
  |str _=>rw[rep_str.mp ry];rfl
 |bl _=>rw[rep_bl.mp rx];cases y with
  |tup _=>cases fy
  |lst _=>cases fy
  |rol _=>cases fy
  |obj _ _=>cases fy
  |exc _ _=>cases fy
  |ptr _=>cases fy
  |dti _=>cases fy
  |own _=>cases fy
  |non=>rw[rep_non.mp ry];rfl
  |bl _=>rw[rep_bl.mp ry];rfl
  |int _=>rw[rep_int.mp ry];rfl
  |str _=>rw[rep_str.mp ry];rfl
 |int _=>rw[rep_int.mp rx];cases y with
  |tup _=>cases fy
  |lst _=>cases fy
  |rol _=>cases fy
  |obj _ _=>cases fy
  |exc _ _=>cases fy
  |ptr _=>cases fy
  |dti _=>cases fy
  |own _=>cases fy
  |non=>rw[rep_non.mp ry];rfl
  |bl _=>rw[rep_bl.mp ry];rfl
  |int _=>rw[rep_int.mp ry];rfl
  |str _=>rw[rep_str.mp ry];rfl
 |str _=>rw[rep_str.mp rx];cases y with
  |tup _=>cases fy
  |lst _=>cases fy
  |rol _=>cases fy
  |obj _ _=>cases fy
  |exc _ _=>cases fy
  |ptr _=>cases fy
  |dti _=>cases fy
  |own _=>cases fy
  |non=>rw[rep_non.mp ry];rfl
  |bl _=>rw[rep_bl.mp ry];rfl
  |int _=>rw[rep_int.mp ry];rfl
  |str _=>rw[rep_str.mp ry];rfl
def gx{H:Hp}{x:D}{u:V}(rx:Rep K H x u)(fx:bu x=true):bG u=true:=by
 cases x with
 |tup _=>cases fx
 |lst _=>cases fx
 |rol _=>cases fx
 |obj _ _=>cases fx
 |exc _ _=>cases fx
 |ptr _=>cases fx
 |dti _=>cases fx
 |own _=>cases fx
 |non=>rw[rep_non.mp rx];rfl
 |bl _=>rw[rep_bl.mp rx];rfl
 |int _=>rw[rep_int.mp rx];rfl
 |str _=>rw[rep_str.mp rx];rfl
def dX{K:Ex}{H:Hp}:∀{xs:List D} {us:List V},Reps K H xs us->xs.all bu=true->us.all bG=true
 |[],us,r,_=>by rw[reps_nil.mp r];rfl
 |x::xs,us,r,f=>by
  obtain⟨v,vr,rfl,r1,r2⟩:=reps_cons.mp r;rw[GT,Gj]at f ⊢;exact#[gx r1 f.1,dX r2 f.2]
def rG{K:Ex}{H:Hp}:∀{xs ys:List D} {us vs:List V},Reps K H xs us->Reps K H ys vs->xs.all bu=true->ys.all bu=true->eqVs us vs=eqFs xs ys
 |[],[],us,vs,r1,r2,_,_=>by rw[reps_nil.mp r1,reps_nil.mp r2];rfl
 |[],y::ys,us,vs,r1,r2,_,_=>by
  obtain⟨v,vr,rfl,_,_⟩:=reps_cons.mp r2;rw[reps_nil.mp r1];rfl
 |x::xs,[],us,vs,r1,r2,_,_=>by
  obtain⟨v,vr,rfl,_,_⟩:=reps_cons.mp r1;rw[reps_nil.mp r2];rfl
 |x::xs,y::ys,us,vs,r1,r2,f1,f2=>by
  obtain⟨u,ur,rfl,a1,a2⟩:=reps_cons.mp r1;obtain⟨v,vr,rfl,b1,b2⟩:=reps_cons.mp r2;rw[GT,Gj]at f1 f2;rw[eqVs,eqFs,rF a1 b1 f1.1 f2.1,rG a2 b2 f1.2 f2.2]
def yf:RD2:=λx y R=>kdT x λxs=>kdT y λys=>(xs.all bu=true/\ys.all bu=true)/\R (.bl (eqFs xs ys))
def yg:aW K (rEqT K) yf:=by
 intro x y u v F H R Q fh h rx ry q;obtain⟨xs,rfl,h2⟩:=kdT.of h;obtain⟨ys,rfl,⟨f1,f2⟩,h3⟩:=kdT.of h2;obtain⟨a,us,rfl,hq,rr⟩:=rep_tup_mp rx;obtain⟨b,vs,rfl,m9,u9⟩:=rep_tup_mp ry;exact#[a,b,us,vs,rfl,rfl,fh.tup hq,fh.tup m9,dX rr f1,dX u9 f2,q _ _ F H (Grow.refl fh) h3 (rep_bl.mpr (by rw[rG rr u9 f1 f2]))]
end
section
variable {X:Cx}{a b c e:P3}{ta tb tc te:TD}{pos:R4}{st:RS}{rest:List RS}{t u:TSD}
def yh:TSD:=λE z=>E.nx z
def dSeq(t u:TSD):TSD:=λE z=>t {E with nx:=u E} z
def bz[Jx]:WDSs X [] yh:=⟨pss_nil.anti λE s H q=>by
 obtain⟨B,F0,F,z,k,rs,ED,h,e⟩:=q;exact e.nx z s F H k h rs⟩
def aq[Jx](h1:WDS X st t)(h2:WDSs X rest u):WDSs X (st::rest) (dSeq t u):=⟨have h1:=h1.out;have h2:=h2.out;(dM h1 h2).anti λE s H q=>by
 obtain⟨B,F0,F,z,k,rs,ED,h,e⟩:=q;exact#[B,F0,F,z,k,rs,{ED with nx:=u ED},h,#[λz' s' F' H' k' hz r'=>#[B,F0,F',z',k',r',ED,hz,e],e.rt,e.bk,e.ct]]⟩
def ar[Jx](h1:WDS X st t):WDSs X [st] t:=#[have h1:=h1.out;pM h1]
def dFrz(i:Nat)(t:TSD):TSD:=λE z=>match z[i]? with|some (be (.own ds))=>t E (z.set i (be (.lst ds)))|_=>False
def dY[Jx](i:Nat){Lf:List RS}(h:WDSs X Lf t):WDSs X Lf (dFrz i t):=⟨have h:=h.out;PSs.anti h λE s H q=>by
 obtain⟨B,F0,F,z,k,rs,ED,h,e⟩:=q;unfold dFrz at h;split at h
 .rename_i ds ez;obtain⟨F',k',r'⟩:=rs.freeze k ez;exact#[B,F0,F',_,k',r',ED,h,e]
 .exact h.elim⟩
def dRet(te:TD):TSD:=λE z=>te z E.rt
def aE[Jx](he:WDE X e te):WDS X (.Return (be e) pos) (dRet te):=⟨have he:=he.out;(pN he).anti λE s H q=>by
 obtain⟨B,F0,F,z,k,rs,ED,h,e⟩:=q;exact#[B,F,z,k.kf,rs,_,h,λd v F' H' g hd rd=>e.rt d v F' H' (k.grow g) hd rd]⟩
def yi(te:TD):TSD:=λE z=>te z λ_=>E.nx z
def rH[Jx](he:WDE X e te)(hs:autoParam (Sd e B_ pos.line X.env=pure false) zA0):WDS X (.Expr e pos) (yi te):=⟨have he:=he.out;(ju he hs).anti λE s H q=>by
 obtain⟨B,F0,F,z,k,rs,ED,h,e⟩:=q;exact#[B,F,z,k.kf,rs,_,h,λd v F' H' g hd rd=>e.nx z s F' H' (k.grow g) hd (rs.grow g)]⟩
def dIfS(c:TDT)(t u:TSD):TSD:=λE z=>c z λb=>if b=true then t E z else u E z
variable{l r:List RS}
def rJ[Jx]{c:P3}{tc:TDT}(hc:DT X c tc)(ha:DSs X l t)(hb:DSs X r u):DS X (.If c l r pos) (dIfS tc t u):=(pO hc ha hb).anti λE s H q=>by
 obtain⟨B,F0,F,z,k,rs,ED,h,e⟩:=q;refine#[B,F,z,k.kf,rs,_,h,λb F1 H1 g hk=>?_];cases b with
 |true=>exact#[B,F0,F1,z,k.grow g,rs.grow g,ED,hk,e]
 |false=>exact#[B,F0,F1,z,k.grow g,rs.grow g,ED,hk,e]
def dIfJ(c:TDT)(t u:TSD):TSD:=λE z=>∃J:SD->Prop,(c z λb=>if b=true then t {E with nx:=J} z else u {E with nx:=J} z)/\∀z',J z'->E.nx z'
def rK[Jx]{c:P3}{tc:TDT}(hc:WDT X c tc)(ha:WDSs X l t)(hb:WDSs X r u):WDS X (.If c l r pos) (dIfJ tc t u):=⟨have hc:=hc.out;have ha:=ha.out;have hb:=hb.out;(rJ hc ha hb).anti λE s H q=>by
 obtain⟨B,F0,F,z,k,rs,ED,⟨J,h,j⟩,e⟩:=q;exact#[B,F0,F,z,k,rs,{ED with nx:=J},h,#[λz' s' F' H' k' hz r'=>e.nx z' s' F' H' k' (j z' hz) r',e.rt,e.bk,e.ct]]⟩
def dSet(i:Nat)(te:TD):TSD:=λE z=>∃P:D->Prop,te z P/\∀d,P d->E.nx (z.set i (be d))
variable{x:Jj}
def aA[Jx](i:Nat){c7:R4}(hN:X.N.Nodup)(he:WDE X e te)(hi:autoParam (X.N[i]?=be x) zA0)(hx:autoParam (Loc X.env.scope x) zA4)(hs:autoParam (Sd e (be (.Name x c7)) pos.line X.env=pure false) zA0)
  (hf:autoParam (zFN X x) zA3):WDS X (.Assign [.Name x c7] e pos) (dSet i te):=⟨have he:=he.out;(jv hN hi hx he hs hf).anti λE s H q=>by
 obtain⟨B,F0,F,z,k,rs,ED,⟨P,h,j⟩,e⟩:=q;exact#[B,F,z,k.kf,rs,P,h,λd v F' H' g hd rd=>e.nx _ _ F' H' (k.grow g) (j d hd) ((rs.grow g).set rd)]⟩
def dNew(i:Nat)(ta:TDA):TSD:=λE z=>ta z λds=>ds.length<=1000/\E.nx (z.set i (be (.own ds)))
variable{es:List P3}
def gy[Jx](i:Nat){c7 p2:R4}{ta:TDA}(hN:X.N.Nodup)(he:WDA X es ta)(hi:autoParam (X.N[i]?=be x) zA0)(hx:autoParam (Loc X.env.scope x) zA4)(hs:autoParam (Sd (.List es p2) (be (.Name x c7)) pos.line X.env=pure false) zA0)
  (hf:autoParam (zFN X x) zA3):WDS X (.Assign [.Name x c7] (.List es p2) pos) (dNew i ta):=⟨have he:=he.out;(jv hN hi hx (gc he) hs hf).anti λE s H q=>by
 obtain⟨B,F0,F,z,k,rs,ED,h,e⟩:=q;refine#[B,F,z,k.kf,rs,_,h,λds vs F1 H1 g hd rd=>?_];have hl:=rd.length;refine#[sz (by rw[hl];exact hd.1),λp hp=>?_];have k1:=k.grow g;have r1:=rs.grow g;have hB:B p=none:=k1.bh.free hp;have hF:F1 p=none:=k1.fh.free hp;refine e.nx _ _ F1 _ #[k1.bh.trans (aS hp _),k1.fh.trans (aS hp _),k1.f0,k1.out,k1.eb,k1.jf,k1.jo] hd.2 (r1.setOwn hB hF rd λj dj hj e1 e2=>?_);obtain⟨a,us,q1,q2,_⟩:=r1.own j dj e1;rw[e2]at q1;cases q1;rw[hp]at q2;cases q2⟩
def dApp(i:Nat)(te:TD):TSD:=λE z=>match z[i]? with|some (be (.own ds))=>(te z λd=>ds.length<=100000/\E.nx (z.set i (be (.own (ds++[d])))))|_=>False
def dZ{K:Ex}{F:Hp}{d:D}{v:V}(r:Rep K F d v):Reps K F [d] [v]:=reps_cons.mpr #[v,[],rfl,r,reps_nil.mpr rfl]
def gz[Jx](i:Nat){p1 apos cpos:R4}(he:WDE X e te)(hN:autoParam (X.N[i]?=be x) zA0)(hv:autoParam (Vis X.env.scope x) zA5)(hd:autoParam (zND x) zA1)
  (e_:autoParam (zNC x) zA1) (k_:autoParam (zSE X e []) zA0)
  (b7:autoParam (RZ (.Name x p1) "append" X.env (R1 (.Name x p1) X.env)=R1 (.Name x p1) X.env) zA0)
  (d3:autoParam (zHF X cpos [e]) zA0)
  (b_:autoParam ((apos.endLine==cpos.line)=true) zA0) (J6:autoParam (Sd (.Call (.Attribute (.Name x p1) "append" apos) [e] [] cpos) B_ pos.line X.env=pure false) zA0):WDS X (.Expr (.Call (.Attribute (.Name x p1) "append" apos) [e] [] cpos) pos) (dApp i te):=⟨have he:=he.out;(ju (dP PySem.F.plainAttrs_list PySem.F.slot_list_append PySem.F.type_list_append jL (cG hN hv hd e_) (bn he pa_nil k_) b7 d3 b_ k_) J6).anti λE s H q=>by
 obtain⟨B,F0,F,z,k,rs,ED,h,e⟩:=q;unfold dApp at h;split at h
 .rename_i ds ez;obtain⟨a,vs,q1,q2,q3,q4,q5⟩:=rs.own i ds ez;refine#[.ref a,q1,.inl #[rfl,vs,SqL.of q2],?_];refine#[B,F,z,k.kf,rs,_,h,λd v F1 H1 g hd rd=>?_];have k1:=k.grow g;have r1:=rs.grow g;have a1:H1 a=be (.lst vs):=g.hh a _ q2;have f1:F1 a=none:=g.out a q4 (by rw[q2];exact λz=>nomatch z);have hl:vs.length=ds.length:=q5.length;have hz:vs.length<sizeLine:=by
   have h1:ds.length<=100000:=hd.1;have h2:(100000:Nat)<sizeLine:=J7
   lia
  refine#[a,vs,v,rfl,rfl,a1,hz,?_];have same:∀{G:Hp},G a=B_->Same G H1->Same G (upd H1 a (.lst (vs++[v]))):=λ{G} ga gs b o eb=>by
   have ne:b≠a:=λz=>by rw[z,ga]at eb;cases eb
   rw[aj ne];exact gs b o eb
  have r2:=r1.setOwn (i:=i) (a:=a) (vs:=vs++[v]) (ds:=ds++[d]) q3 f1 ((q5.mono g.ff).append (dZ rd)) (λj dj hj e1 e2=>hj (rs.apart j i dj ds a e1 ez e2 q1));have es:s.set i (be (.ref a))=s:=by
   apply GP;intro n;by_cases hn:i=n
   .subst hn;rw[Gs (F7.mp q1).1,q1]
   .rw[F5 hn]
  rw[es]at r2;exact e.nx _ s F1 _ #[same q3 k1.bh,same f1 k1.fh,k1.f0,k1.out,k1.eb,k1.jf,k1.jo] hd.2 r2
 .exact h.elim⟩
def bU:List Nat->List D->SD->SD
 |i::is,d::ds,z=>bU is ds (z.set i (be d))
 |_,_,z=>z
def DGs(X:Cx)(ts:List P3)(is:List Nat):Prop:=∃u:TGs,PGs X ts u/\∀(ds:List D) (vs:List V) (z:SD) (s:L2.St) (B F H:Hp) (Q:L2.St->Hp->Prop),ds.length=is.length->Reps X.K F ds vs->RepS X.K B F H z s->(∀s',RepS X.K B F H (bU is ds z) s'->Q s' H)->u vs s H Q
def df[Jx]:DGs X [] []:=⟨_,vW,λds vs z s B F H Q hl r rs q=>by
 cases ds with
 |nil=>exact#[reps_nil.mp r,q s rs]
 |cons _ _=>cases hl⟩
variable{p:R4}{is:List Nat}
def dg_cons[Jx](i:Nat)(hN:X.N.Nodup)(h2:DGs X es is)(hi:autoParam (X.N[i]?=be x) zA0)(hx:autoParam (Loc X.env.scope x) zA4)(hf:autoParam (zFN X x) zA3)
  (hs:autoParam ((RY (.Name x p::es) X.env).map (·.2)=So (.Name x p) X.env::(RY es X.env).map (·.2)) zA0):DGs X (.Name x p::es) (i::is):=by
 obtain⟨u,hu,k⟩:=h2;refine#[_,vX (cZ hN hi hx hf) hu hs,λds vs z s B F H Q hl r rs q=>?_];cases ds with
 |nil=>cases hl
 |cons d ds=>
  obtain⟨v,vr,rfl,r1,r2⟩:=reps_cons.mp r;exact#[v,vr,rfl,k ds vr _ _ B F H Q (Nat.succ.inj hl) r2 (rs.set r1) q]
def yj(is:List Nat)(te:TD):TSD:=λE z=>te z λx=>match x with|.tup ds=>ds.length=is.length/\E.nx (bU is ds z)|_=>False
def yk[Jx]{k:Nat}(hc:X.calm=true)(he:WDE X e te)(hg:DGs X es is)(hn:autoParam ((RY es X.env).length=is.length) zA0)(j8:autoParam ((RY es X.env).findIdx? (·.1)=none) zA0)
  (hs:autoParam (Sy [.Tuple es k p] e pos.line X.env=pure false) zA0) (hw:autoParam (Sz [.Tuple es k p] e X.env=pure none) zA0) (h1:autoParam ((RY [.Tuple es k p] X.env).map (·.2)=[So (.Tuple es k p) X.env]) zA0):WDS X (.Assign [.Tuple es k p] e pos) (yj is te):=⟨by
 have he:=he.out;obtain⟨u,hu,kk⟩:=hg;refine(eY he (fX hc hu hn j8) hs hw h1).anti λE s H q=>?_;obtain⟨B,F0,F,z,k,rs,ED,h,e⟩:=q;refine#[B,F,z,k.kf,rs,_,h,λd v F' H' g hd rd=>?_];split at hd
 .obtain⟨p,vs,rfl,hq,rr⟩:=rep_tup_mp rd;exact#[p,vs,rfl,g.fh.tup hq,by rw[rr.length];exact hd.1,kk _ vs z s B F' H' _ hd.1 rr (rs.grow g) λs' r'=>e.nx _ _ F' H' (k.grow g) hd.2 r']
 .exact hd.elim⟩
def yl(c:TDT)(tb:TSD):TSD:=λE z=>∃W:Nat->SD->Prop,(∃m,W m z)/\∀m z,W m z->
 c z λb=>if b=true then tb {E with nx:=λz'=>∃m',m'<m/\W m' z',ct:=λz'=>∃m',m'<m/\W m' z',bk:=E.nx} z else E.nx z
variable{body:List RS}
def ym[Jx]{c:P3}{tc:TDT}{tb:TSD}(hp:Se (RR X.prog X.w) X.A X.env X.xe)(hc:WDT X c tc)(hb:WDSs X body tb):WDS X (.While c body [] pos) (yl tc tb):=⟨have hc:=hc.out;have hb:=hb.out;(pQ hp hc hb).anti λE s H q=>by
 obtain⟨B,F0,F,z,k,rs,ED,⟨W,⟨m0,w0⟩,c3⟩,e⟩:=q;refine#[λm s' H'=>∃F' z',Kept B F0 F' H'/\RepS X.K B F' H' z' s'/\W m z',#[m0,F,z,k,rs,w0],?_];rintro m s1 H1⟨F1,z1,k1,r1,w1⟩;refine#[B,F1,z1,k1.kf,r1,_,c3 m z1 w1,λb F2 H2 g2 hk=>?_];cases b with
 |true=>
  refine#[λs3 H3=>∃F3 z3,Kept B F0 F3 H3/\RepS X.K B F3 H3 z3 s3/\∃m',m'<m/\W m' z3,λs3 H3 ⟨F3,z3,k3,r3,m',l,w3⟩=>#[m',l,F3,z3,k3,r3,w3],?_];exact#[B,F0,F2,z1,k1.grow g2,r1.grow g2,_,hk,#[λz3 s3 F3 H3 k3 h3 r3=>#[F3,z3,k3,r3,h3],e.rt,e.nx,λz3 s3 F3 H3 k3 h3 r3=>#[F3,z3,k3,r3,h3]]]
 |false=>exact e.nx z1 s1 F2 H2 (k1.grow g2) hk (r1.grow g2)⟩
abbrev TDI:=SD->(List D->Prop)->Prop
def dItL(t:TD):TDI:=λz R=>t z λx=>match x with|.lst ds=>R ds|.rol ds=>R ds|_=>False
def dItR(t:TD):TDI:=λz R=>t z λx=>match x with|.int n=>(0<=n/\n<2^62)/\R ((FQ n.toNat).map λk=>D.int ((k:Nat):Int))|_=>False
def dFor(i:Nat)(ti:TDI)(tb:TSD):TSD:=λE z=>ti z λds=>∃W:Nat->SD->Prop,W 0 z/\(∀k x z,ds[k]?=be x->W k z->tb {E with nx:=W (k+1),ct:=W (k+1),bk:=E.nx} (z.set i (be x)))/\∀z,W ds.length z->E.nx z
def Reps.get'{K:Ex}{H:Hp}{ds:List D}{vs:List V}{k:Nat}{v:V}(r:Reps K H ds vs)(e:vs[k]?=be v):∃d,ds[k]?=be d/\Rep K H d v:=by
 have hk:k<ds.length:=by rw[<-r.length];exact(F7.mp e).1
 obtain⟨u,q1,q2⟩:=r.get (Gb hk);rw[e]at q1;cases q1;exact#[_,Gb hk,q2]
def rL[Jx](i:Nat){tb:TSD}(hp:Se (RR X.prog X.w) X.A X.env X.xe)(hc:X.calm=true)(hN:X.N.Nodup)(he:WDE X e te)(hb:WDSs X body tb)(hi:autoParam (X.N[i]?=be x) zA0)(hx:autoParam (Loc X.env.scope x) zA4)
  (hf:autoParam (zFN X x) zA3) (hs:autoParam (∀y,zFS X e y) zA2):WDS X (.For (.Name x p) e body [] pos) (dFor i (dItL te) tb):=⟨have he:=he.out;have hb:=hb.out;(cH hp hc (jx he) (cZ hN hi hx hf) hb hs).anti λE s H q=>by
 obtain⟨B,F0,F,z,kp,rs,ED,h,e⟩:=q;refine#[B,F,z,kp.kf,rs,_,h,λd v F1 H1 g1 hd rd=>?_];split at hd
 .obtain⟨p,vs,rfl,hq,rr⟩:=rep_lst.mp rd;obtain⟨W,w0,c3,out⟩:=hd;refine#[p,rfl,#[vs,g1.fh.seq (SqL.of hq)],jz (K:=X.K) (a:=p) (xs:=vs) (λk s' H'=>∃F' z',Kept B F0 F' H'/\Same F1 F'/\RepS X.K B F' H' z' s'/\W k z') #[F1,z,kp.grow g1,Same.refl F1,rs.grow g1,w0] (λk s' H' _ ⟨F',z',k',g',r',w'⟩=>k'.fh.seq (g'.seq (SqL.of hq))) ?_ ?_]
  .rintro k y s' H' hk⟨F',z',k',g',r',w'⟩;obtain⟨d,hd,ry⟩:=rr.get' hk;refine#[B,F',F',_,#[k'.bh,k'.fh,Same.refl F',λb h1 _=>h1,k'.eb,k'.jf.trans k'.f0,λb h1 h2=>k'.out b (k'.jo b h1 h2) h2],r'.set (ry.mono g'),_,c3 k d z' hd w',?_];have up:∀{F2 H2:Hp},Kept B F' F2 H2->Kept B F0 F2 H2:=λk2=>#[k2.bh,k2.fh,k'.f0.trans k2.f0,λb h1 h2=>k2.out b (k'.out b h1 h2) h2,k'.eb,k'.jf,k'.jo];exact#[λz3 s3 F3 H3 k3 h3 r3=>#[F3,z3,up k3,g'.trans k3.f0,r3,h3],λd v F3 H3 k3=>e.rt d v F3 H3 (up k3),λz3 s3 F3 H3 k3=>e.nx z3 s3 F3 H3 (up k3),λz3 s3 F3 H3 k3 h3 r3=>#[F3,z3,up k3,g'.trans k3.f0,r3,h3]]
  .rintro s' H'⟨F',z',k',g',r',w'⟩;exact e.nx z' s' F' H' k' (out z' (by rw[<-rr.length];exact w')) r'
 .obtain⟨p,vs,rfl,hq,rr⟩:=rep_rol.mp rd;obtain⟨W,w0,c3,out⟩:=hd;refine#[p,rfl,#[vs,g1.fh.seq hq],jz (K:=X.K) (a:=p) (xs:=vs) (λk s' H'=>∃F' z',Kept B F0 F' H'/\Same F1 F'/\RepS X.K B F' H' z' s'/\W k z') #[F1,z,kp.grow g1,Same.refl F1,rs.grow g1,w0] (λk s' H' _ ⟨F',z',k',g',r',w'⟩=>k'.fh.seq (g'.seq hq)) ?_ ?_]
  .rintro k y s' H' hk⟨F',z',k',g',r',w'⟩;obtain⟨d,hd,ry⟩:=rr.get' hk;refine#[B,F',F',_,#[k'.bh,k'.fh,Same.refl F',λb h1 _=>h1,k'.eb,k'.jf.trans k'.f0,λb h1 h2=>k'.out b (k'.jo b h1 h2) h2],r'.set (ry.mono g'),_,c3 k d z' hd w',?_];have up:∀{F2 H2:Hp},Kept B F' F2 H2->Kept B F0 F2 H2:=λk2=>#[k2.bh,k2.fh,k'.f0.trans k2.f0,λb h1 h2=>k2.out b (k'.out b h1 h2) h2,k'.eb,k'.jf,k'.jo];exact#[λz3 s3 F3 H3 k3 h3 r3=>#[F3,z3,up k3,g'.trans k3.f0,r3,h3],λd v F3 H3 k3=>e.rt d v F3 H3 (up k3),λz3 s3 F3 H3 k3=>e.nx z3 s3 F3 H3 (up k3),λz3 s3 F3 H3 k3 h3 r3=>#[F3,z3,up k3,g'.trans k3.f0,r3,h3]]
  .rintro s' H'⟨F',z',k',g',r',w'⟩;exact e.nx z' s' F' H' k' (out z' (by rw[<-rr.length];exact w')) r'
 .exact hd.elim⟩
def bV[Jx](i:Nat){p1 p2:R4}{tb:TSD}(hp:Se (RR X.prog X.w) X.A X.env X.xe)(hc:X.calm=true)(hN:X.N.Nodup)(hm:X.mg "range"=B_)(he:WDE X e te)(hb:WDSs X body tb)(hg:autoParam (Gl X "range") zA0)(hi:autoParam (X.N[i]?=be x) zA0)(hx:autoParam (Loc X.env.scope x) zA4)
  (hf:autoParam (zFN X x) zA3) (hs:autoParam (∀y,zFS X (.Call (.Name "range" p1) [e] [] p2) y) zA2) (r_:autoParam (zSE X e []) zA0) (f9:autoParam (RW [e] X.env=[(false,R1 e X.env)]) zA0):WDS X (.For (.Name x p) (.Call (.Name "range" p1) [e] [] p2) body [] pos) (dFor i (dItR te) tb):=⟨have he:=he.out;have hb:=hb.out;(cH hp hc (jy hg hm (bn he pa_nil r_) f9) (cZ hN hi hx hf) hb hs).anti λE s H q=>by
 obtain⟨B,F0,F,z,kp,rs,ED,h,e⟩:=q;refine#[B,F,z,kp.kf,rs,_,h,λd v F1 H1 g1 hd rd=>?_];split at hd
 .rename_i n;obtain⟨⟨b1,b2⟩,W,w0,c3,out⟩:=hd;have hl:((FQ n.toNat).map λk=>D.int ((k:Nat):Int)).length=n.toNat:=by simp
  refine#[n,by rw[rep_int.mp rd],JZ,b2,jA (lo:=0) (n:=n.toNat) (λk s' H'=>∃F' z',Kept B F0 F' H'/\RepS X.K B F' H' z' s'/\W k z') #[F1,z,kp.grow g1,rs.grow g1,w0] ?_ ?_]
  .rintro k s' H' hk⟨F',z',k',r',w'⟩;have e1:(0:Int)+(k:Int)=(k:Int):=by lia
   exact#[B,F0,F',_,k',r'.set (d:=.int (k:Int)) (rep_int.mpr (by rw[e1])),_,c3 k (.int (k:Int)) z' (by simp[hk]) w',#[λz3 s3 F3 H3 k3 h3 r3=>#[F3,z3,k3,r3,h3],e.rt,e.nx,λz3 s3 F3 H3 k3 h3 r3=>#[F3,z3,k3,r3,h3]]]
  .rintro s' H'⟨F',z',k',r',w'⟩;exact e.nx z' s' F' H' k' (out z' (by rw[hl];exact w')) r'
 .exact hd.elim⟩
end
section
variable {P:RP}{w:RU}{K:Ex}{mg:Jj->Option KB}{base:Heap}
variable{N ps:List Jj}
def _root_.L2.Fun.okD{x qual:Jj}{st:RS}{f:KF}{fd:R3}{k:Nat}{S:SpD}(T:Fun K x qual st f fd)(F:FnScope N ps (ag st))(len:∀ds R,S ds R->ds.length=ps.length)
  (a8:∀(cdv:KB) (A:RV) (outer:List SL) (s:KM) (H:Hp) (E:XK) (J:Jx),Room k (A.deeper (R6 qual (ag st) s.heap.objs.size f cdv))->
   ∃t,DSs (cxOf (Exc.CX1 P w) P w K mg base N qual (ag st) f cdv A outer s H E).nox (aG st) t/\∀ds R,S ds R->t {nx:=λ_=>R .non,rt:=R} (startD N ds)):FnOk P w K mg base (Exc.CX1 P w) (k+1) f fd ps (lSp K S):=by
 refine Fun.okC T F (λvs H Q E h=>?_) (λcdv A outer s H vs Q E hr h=>?_)
 .obtain⟨F,ds,fh,rs,R,h,_⟩:=h;rw[rs.length];exact len ds R h
 .obtain⟨F,ds,fh,rs,R,h,q⟩:=h
  letI:Jx:=#[H,F,λ_ _ _=>False]
  obtain⟨t,ht,hq⟩:=a8 cdv A outer s H E inferInstance hr;refine#[_,ht.nox,H,F,F,startD N ds,#[Same.refl H,fh,Same.refl F,λ_ h _=>h,rfl,Same.refl F,λ_ h _=>h],da rs,_,hq ds R h,#[λz' s' F' H' k hn _=>q _ _ F' H' #[k.f0,k.fh,k.bh,k.out] hn (rep_non.mpr rfl),λd v F' H' k hd rd=>q d v F' H' #[k.f0,k.fh,k.bh,k.out] hd rd,λ_ _ _ _ _ h _=>h.elim,λ_ _ _ _ _ h _=>h.elim]]
def Tx.okD{x:Jj}{st:RS}{k:Nat}{S:SpD}(T:Tx K mg x st ps)(F:FnScope N ps (ag st))(len:∀ds R,S ds R->ds.length=ps.length)
  (a8:∀(f:KF) (cdv:KB) (A:RV) (outer:List SL) (s:KM) (H:Hp) (E:XK) (J:Jx),Room k (A.deeper (R6 x (ag st) s.heap.objs.size f cdv))->
   ∃t,DSs (cxOf (Exc.CX1 P w) P w K mg base N x (ag st) f cdv A outer s H E).nox (aG st) t/\∀ds R,S ds R->t {nx:=λ_=>R .non,rt:=R} (startD N ds)):CalD P w K mg base (k+1) x ps S:=by
 obtain⟨f,fd,T,hb,hm⟩:=T;exact#[f,fd,T.okD F len λcdv A outer s H E J hr=>a8 f cdv A outer s H E J hr,hb,T.kp,hm]
end
def eg:SpD:=λds R=>∃ns:List Int,ds=[.rol (ns.map D.int)]/\ns.length<=63/\R (.bl true)
def yn{a:KF}{ns:List Int}(hl:ns.length<=63)(hS:SqL K H a (ns.map V.int)){E:XK}:lSp K eg [.ref a] H (λv _=>v=.bl true) E:=
 #[H,[.rol (ns.map D.int)],Same.refl H,reps_cons.mpr #[_,_,rfl,rep_rol.mpr #[a,_,rfl,hS,Reps.ints.mpr rfl],reps_nil.mpr rfl],λd=>d=.bl true,#[ns,rfl,hl,rfl],λd v F' H' _ hd rd=>by subst hd;exact rep_bl.mp rd]
section
variable {X:Cx}{a b c e:P3}{ta tb tc te:TD}{pos:R4}
variable{p:R4}{es:List P3}{t:TDA}
def rM[Jx]{x:Jj}{T:String}{r:List V->Hp->VK->Prop}{rd:RDn}(hc:bO X (.type T) r)(L:cz X.K r rd)(hm:X.mg x=B_)(hv:R9 x=be (.type T))(ha:DA X (e::es) t)(hg:autoParam (Gl X x) zA0)(hn:autoParam (x≠"__name__") zA1)(c_:autoParam (zND x) zA1)
  (he:autoParam (zSE X e es) zA0) (c5:autoParam (zPL X pos es) zA0):DE X (.Call (.Name x p) (e::es) [] pos) (dCB rd t):=(qt hc hg hm hv ha hn c_ he c5).anti λs H Q h=>by
 obtain⟨B,F,z,kf,rs,R,h1,h2⟩:=h;have fh:=kf.fh;refine#[B,F,z,kf,rs,_,h1,λds vs F1 H1 g1 hx rx=>?_];exact L ds vs F1 H1 R Q g1.fh hx rx λd w F' H' g=>h2 d w F' H' (g1.trans g)
def rdStr:RDn:=λds R=>match ds with|[.int i]=>i.natAbs<18446744073709551616/\R (.str (toString i))|_=>False
variable{K:Ex}
def yo:cz K (λxs H Q=>∃i,xs=[.int i]/\i.natAbs.log2<1920/\Q (.str (toString i)) H) rdStr:=by
 intro ds vs F H R Q fh h rx q;unfold rdStr at h;split at h
 .obtain⟨v,r,rfl,h1,h2⟩:=reps_cons.mp rx;rw[reps_nil.mp h2,rep_int.mp h1];refine#[_,rfl,?_,q _ _ F H (Grow.refl fh) h.2 (rep_str.mpr rfl)];rename_i i;by_cases h0:i.natAbs=0
  .rw[h0];decide
  .have:=(Iw h0).mpr (show i.natAbs<2^64 from h.1);lia
 .exact h.elim
def gA[Jx](hm:X.mg "str"=B_)(ha:WDA X [e] t)(hg:autoParam (Gl X "str") zA0)(he:autoParam (zSE X e []) zA0):WDE X (.Call (.Name "str" p) [e] [] pos) (dCB rdStr t):=#[have ha:=ha.out;rM wC yo hm PyProof.Rows.boot_str ha hg J7 J7 he]
def kd:RDn:=λds R=>kd1 ds λx=>match x with
 |.int i=>R (.int i)
 |.bl k=>R (.int (if k then 1 else 0))
 |.str x=>∃n,(PySem.intText? x=be n/\x.length<=640)/\R (.int n)
 |_=>False
def rN:bO X (.type "int") (λxs H Q=>((∃i,xs=[.int i]/\Q (.int i) H)\/∃k,xs=[.bl k]/\Q (.int (if k then 1 else 0)) H)\/∃x n,xs=[.str x]/\PySem.intText? x=be n/\x.length<=640/\Q (.int n) H):=by
 intro pins s σ H xs us Q I r h;rcases h with h|⟨x,n,rfl,h1,h2,q⟩
 .exact wB pins s σ H xs us Q I r h
 .obtain⟨u,rfl,t,rfl⟩:=bZ r;exact PySem.W.KIN.call_text h1 h2 #[.int n,H,I.tok _,#[_,rfl],q]
def rO:cz K (λxs H Q=>((∃i,xs=[.int i]/\Q (.int i) H)\/∃k,xs=[.bl k]/\Q (.int (if k then 1 else 0)) H)\/∃x n,xs=[.str x]/\PySem.intText? x=be n/\x.length<=640/\Q (.int n) H) kd:=by
 intro ds vs F H R Q fh h rx q;replace h:=kd1.of h;obtain⟨x,rfl,h⟩:=h;obtain⟨v,r,rfl,h1,h2⟩:=reps_cons.mp rx;rw[reps_nil.mp h2];cases x with
 |int i=>
  rw[rep_int.mp h1];exact .inl (.inl #[_,rfl,q _ _ F H (Grow.refl fh) h (rep_int.mpr rfl)])
 |bl k=>
  rw[rep_bl.mp h1];exact .inl (.inr #[_,rfl,q _ _ F H (Grow.refl fh) h (rep_int.mpr rfl)])
 |str x=>
  rw[rep_str.mp h1];obtain⟨n,⟨e1,e2⟩,h⟩:=h;exact .inr #[_,n,rfl,e1,e2,q _ _ F H (Grow.refl fh) h (rep_int.mpr rfl)]
 |_=>exact False.elim h
def ke[Jx](hm:X.mg "int"=B_)(ha:WDA X [e] t)(hg:autoParam (Gl X "int") zA0)(he:autoParam (zSE X e []) zA0):WDE X (.Call (.Name "int" p) [e] [] pos) (dCB kd t):=#[have ha:=ha.out;rM rN rO hm PyProof.Rows.boot_int ha hg J7 J7 he]
def rP:RDn:=λds R=>kd2 ds λx y=>kdI x λi=>kdI y λj=>R (.int (if j>i then j else i))
def rQ:RDn:=λds R=>kd2 ds λx y=>kdI x λi=>kdI y λj=>R (.int (if j<i then j else i))
def yp:cz K (λxs H Q=>∃i j,xs=[.int i,.int j]/\Q (.int (if j>i then j else i)) H) rP:=by
 intro ds vs F H R Q fh h rx q;replace h:=kd2.of h;obtain⟨x,y,rfl,h⟩:=h;replace h:=kdI.of h;obtain⟨i,rfl,h⟩:=h;replace h:=kdI.of h;obtain⟨j,rfl,h⟩:=h;obtain⟨v,r,rfl,h1,h2⟩:=reps_cons.mp rx;obtain⟨v',r',rfl,h3,h4⟩:=reps_cons.mp h2;rw[reps_nil.mp h4,rep_int.mp h1,rep_int.mp h3];exact#[_,_,rfl,q _ _ F H (Grow.refl fh) h (rep_int.mpr rfl)]
def yq:cz K (λxs H Q=>∃i j,xs=[.int i,.int j]/\Q (.int (if j<i then j else i)) H) rQ:=by
 intro ds vs F H R Q fh h rx q;replace h:=kd2.of h;obtain⟨x,y,rfl,h⟩:=h;replace h:=kdI.of h;obtain⟨i,rfl,h⟩:=h;replace h:=kdI.of h;obtain⟨j,rfl,h⟩:=h;obtain⟨v,r,rfl,h1,h2⟩:=reps_cons.mp rx;obtain⟨v',r',rfl,h3,h4⟩:=reps_cons.mp h2;rw[reps_nil.mp h4,rep_int.mp h1,rep_int.mp h3];exact#[_,_,rfl,q _ _ F H (Grow.refl fh) h (rep_int.mpr rfl)]
def kg[Jx](hc:X.calm=true)(hm:X.mg "max"=B_)(ha:WDA X [e,a] t)(hg:autoParam (Gl X "max") zA0)(he:autoParam (zSE X e [a]) zA0)(c5:autoParam (zPL X pos [a]) zA0):WDE X (.Call (.Name "max" p) [e,a] [] pos) (dCB rP t):=#[have ha:=ha.out;gl (wz hc) yp hm PyProof.Rows.boot_max ha hg J7 J7 he c5]
def yr[Jx](hc:X.calm=true)(hm:X.mg "min"=B_)(ha:WDA X [e,a] t)(hg:autoParam (Gl X "min") zA0)(he:autoParam (zSE X e [a]) zA0)(c5:autoParam (zPL X pos [a]) zA0):WDE X (.Call (.Name "min" p) [e,a] [] pos) (dCB rQ t):=#[have ha:=ha.out;gl (wA hc) yq hm PyProof.Rows.boot_min ha hg J7 J7 he c5]
def cL:List D->Option (List Jj)
 |[]=>be []
 |.str x::r=>(cL r).map (x::·)
 |_=>B_
def rR{K:Ex}{F:Hp}:∀{ds:List D} {xs:List Jj} {vs:List V} {us:List KB},cL ds=be xs->Reps K F ds vs->Vals vs us->StrsAre us xs
 |[],xs,vs,us,e,r,q=>by
  cases e;rw[reps_nil.mp r]at q;cases q;exact .nil
 | .str x::ds,xs,vs,us,e,r,q=>by
  obtain⟨v,r',rfl,h1,h2⟩:=reps_cons.mp r;rw[rep_str.mp h1]at q;cases q with
  |cons q1 q2=>
   obtain⟨t,rfl⟩:=q1;cases e2:cL ds with
   |none=>simp[cL,e2]at e
   |some ys=>
    simp[cL,e2]at e;subst e;exact .cons x t (rR e2 h2 q2)
def yt:V->List V->Hp->VK->Prop:=λx vs H Q=>∃p_ l xs ys,x=.str p_/\vs=[.ref l]/\H l=be (.lst xs)/\(∀us,Vals xs us->StrsAre us ys)/\(ys.map (·.length)).sum+ys.length*p_.length<=16777216/\Q (.str (Txt.join p_ ys)) H
def yu:MtR X "str.join" yt:=by
 intro pins s σ H x vs v us Q I rx rv h;obtain⟨p_,l,xs,ys,rfl,rfl,hl,hs,hz,q⟩:=h;obtain⟨t,rfl⟩:=rx;obtain⟨u,rfl,ru⟩:=bZ rv;cases ru;obtain⟨its,r,pl,_⟩:=I.list (SqL.of hl);exact PyProof.Rows.join_list pl.isList (by simpa using hs its r) hz λt' k=>#[.str _,H,I.tok _,#[_,rfl],q]
def yw(p_:Jj)(te:TD):TD:=λz R=>te z λx=>match x with
 |.lst ds=>∃ys,cL ds=be ys/\(ys.map (·.length)).sum+ys.length*p_.length<=1000000/\R (.str (Txt.join p_ ys))
 |_=>False
variable{k:Nat}
def kh[Jx]{p_:Jj}{p1 apos cpos:R4}(he:WDE X e te)(k_:autoParam (zSE X e []) zA0)
  (b7:autoParam (RZ (.Constant (.str p_) k p1) "join" X.env (R1 (.Constant (.str p_) k p1) X.env)=R1 (.Constant (.str p_) k p1) X.env) zA0)
  (d3:autoParam (zHF X cpos [e]) zA0)
  (b_:autoParam ((apos.endLine==cpos.line)=true) zA0):WDE X (.Call (.Attribute (.Constant (.str p_) k p1) "join" apos) [e] [] cpos) (yw p_ te):=⟨have he:=he.out;(dP PySem.F.plainAttrs_str PySem.F.slot_str_join PySem.F.type_str_join yu pF (bn he pa_nil k_) b7 d3 b_ k_).anti λs H Q q=>by
 obtain⟨B,F,z,kf,rs,R,h1,h2⟩:=q;have fh:=kf.fh;refine#[rfl,?_];refine#[B,F,z,kf,rs,_,h1,λx u F1 H1 g1 hx rx=>?_];split at hx
 .obtain⟨ys,e1,e2,hx⟩:=hx;obtain⟨l,vs,rfl,hq,rr⟩:=rep_lst.mp rx;exact#[p_,l,vs,ys,rfl,rfl,g1.fh _ _ hq,λus q=>rR e1 rr q,FY e2 J7,h2 _ _ F1 H1 g1 hx (rep_str.mpr rfl)]
 .exact hx.elim⟩
def dOix(i:Nat)(tb:TD):TD:=λz R=>match z[i]? with
 |some (be (.own ds))=>tb z λy=>match y with|.int k=>∃d,atI ds k=be d/\R d|_=>False
 |_=>False
def yx[Jx](i:Nat){x:Jj}(hb:WDE X b tb)(hN:autoParam (X.N[i]?=be x) zA0)(hv:autoParam (Vis X.env.scope x) zA5)(hd:autoParam (zND x) zA1)
  (e_:autoParam (zNC x) zA1) (hs:autoParam (dO b) zA6):WDE X (.Subscript (.Name x p) b pos) (dOix i tb):=⟨have hb:=hb.out;(pe_ix ix_list (cG hN hv hd e_) hb hs).anti λs H Q q=>by
 obtain⟨B,F,z,kf,rs,R,h1,h2⟩:=q;have fh:=kf.fh;unfold dOix at h1;split at h1
 .rename_i ds ez;obtain⟨a,vs,q1,q2,q3,q4,q5⟩:=rs.own i ds ez;refine#[.ref a,q1,B,F,z,kf,rs,_,h1,λy v F1 H1 g1 hy ry=>?_];split at hy
  .obtain⟨d,e1,hR⟩:=hy;obtain⟨w,e2,h_⟩:=(q5.mono g1.ff).at e1;exact#[a,vs,_,w,rfl,rep_int.mp ry,SqL.of (g1.hh _ _ q2),e2,h2 d w F1 H1 g1 hR h_]
  .exact hy.elim
 .exact h1.elim⟩
def cutD(xs:List D)(lo hi:Option Int):List D:=(xs.drop (HT.sIx xs.length 0 lo)).take (HT.sIx xs.length xs.length hi-HT.sIx xs.length 0 lo)
def Reps.drop{K:Ex}{F:Hp}:∀(n:Nat) {xs:List D} {us:List V},Reps K F xs us->Reps K F (xs.drop n) (us.drop n)
 |0,_,_,r=>r
 |n+1,[],us,r=>by rw[reps_nil.mp r];exact reps_nil.mpr rfl
 |n+1,x::xs,us,r=>by
  obtain⟨u,ur,rfl,_,a2⟩:=reps_cons.mp r;exact Reps.drop n a2
def Reps.take{K:Ex}{F:Hp}:∀(n:Nat) {xs:List D} {us:List V},Reps K F xs us->Reps K F (xs.take n) (us.take n)
 |0,_,_,_=>reps_nil.mpr rfl
 |n+1,[],us,r=>by rw[reps_nil.mp r];exact reps_nil.mpr rfl
 |n+1,x::xs,us,r=>by
  obtain⟨u,ur,rfl,a1,a2⟩:=reps_cons.mp r;exact reps_cons.mpr #[u,_,rfl,a1,Reps.take n a2]
def Reps.cut{F:Hp}{xs:List D}{us:List V}(r:Reps K F xs us)(lo hi:Option Int):Reps K F (cutD xs lo hi) (cutV us lo hi):=by
 unfold cutD cutV;rw[r.length];exact(r.drop _).take _
def rS{t:TGs}{n:Nat}(hc:X.calm=true)(h:PGs X es t)(hn:autoParam ((RY es X.env).length=n) zA0)(j8:autoParam ((RY es X.env).findIdx? (·.1)=none) zA0):
  PG X (.Tuple es k pos) (λv σ H Q=>∃a xs,v=.ref a/\SqL X.K H a xs/\xs.length=n/\t xs σ H Q):=by
 intro pins s σ H v u Q I r hw;obtain⟨a,xs,e1,hq,hl,hw⟩:=hw;subst e1;cases r;obtain⟨its,rv,pl,hz⟩:=I.list hq;have e2:(RY es X.env).length=its.toArray.size:=by simp[hn,<-hl,rv.length]
 rw[PyProof.Rows.assign_Tuple];refine Os (Sx ?_);unfold unpack;rw[e2,j8];refine Os (Sg (kun_itemsOf (I.ok.hd hc) pl.isList λh' hx=>?_));have I1:Inv X pins σ H {s with heap:=h'}:=I.kept (t':=s.toks) λb o e=>hx b o (FU (Heap.lt_size e)) e;exact h pins _ σ H xs _ Q I1 (by simpa using rv) hw
def yy(is:List Nat)(te:TD):TSD:=λE z=>te z λx=>match x with|.lst ds=>ds.length=is.length/\E.nx (bU is ds z)|_=>False
def rT[Jx]{is:List Nat}(hc:X.calm=true)(he:WDE X e te)(hg:DGs X es is)(hn:autoParam ((RY es X.env).length=is.length) zA0)(j8:autoParam ((RY es X.env).findIdx? (·.1)=none) zA0)
  (hs:autoParam (Sy [.Tuple es k p] e pos.line X.env=pure false) zA0) (hw:autoParam (Sz [.Tuple es k p] e X.env=pure none) zA0) (h1:autoParam ((RY [.Tuple es k p] X.env).map (·.2)=[So (.Tuple es k p) X.env]) zA0):WDS X (.Assign [.Tuple es k p] e pos) (yy is te):=⟨by
 have he:=he.out;obtain⟨u,hu,kk⟩:=hg;refine(eY he (rS hc hu hn j8) hs hw h1).anti λE s H q=>?_;obtain⟨B,F0,F,z,k,rs,ED,h,e⟩:=q;refine#[B,F,z,k.kf,rs,_,h,λd v F' H' g hd rd=>?_];split at hd
 .obtain⟨p,vs,rfl,hq,rr⟩:=rep_lst.mp rd;exact#[p,vs,rfl,SqL.of (g.fh _ _ hq),by rw[rr.length];exact hd.1,kk _ vs z s B F' H' _ hd.1 rr (rs.grow g) λs' r'=>e.nx _ _ F' H' (k.grow g) hd.2 r']
 .exact hd.elim⟩
end
end My
namespace L2
def ki{env:SL}:∀(names:List (Jj×SI)) (u_:List (Jj×KF)),(∀n,(n,NameKind.free)∈names->∃c,env.cells.lookup n=be c)->
  ∃cl,(forIn (m:=TJ) names u_ λx r=>match x with
     |(name,kind)=>if(kind==NameKind.free)=true then(do let a <-cellOf env name;pure (ForInStep.yield ((name,a)::r)))else pure (ForInStep.yield r))=(pure cl:TJ (List (Jj×KF)))/\
   (∀n c,cl.lookup n=be c->env.cells.lookup n=be c\/u_.lookup n=be c)/\(∀n,(n,NameKind.free)∈names->∃c,cl.lookup n=be c)/\∀n c,u_.lookup n=be c->∃c',cl.lookup n=be c'
 |[],u_,_=>#[u_,rfl,(λ_ _ h=>.inr h),(λ_ h=>by cases h),(λ_ c h=>#[c,h])]
 |(name,kind)::r,u_,h=>by
  by_cases hk:(kind==NameKind.free)=true
  .have ek:kind=.free:=by simpa using hk
   subst ek;obtain⟨c,hc⟩:=h name FZ;obtain⟨cl,e,p1,p2,p3⟩:=ki r ((name,c)::u_) λn q=>h n (FW _ q);refine#[cl,?_,λn c' q=>?_,λn q=>?_,λn c' q=>?_]
   .rw[HP];have ec:cellOf env name=pure c:=by unfold cellOf;rw[hc]
    simp only[hk,if_true,ec];exact e
   .rcases p1 n c' q with z|z
    .exact .inl z
    .rw[Ga]at z;split at z
     .rename_i q2;have en:n=name:=by simpa using q2
      cases z;exact .inl (en ▸ hc)
     .exact .inr z
   .rcases FT.mp q with z|z
    .cases z;exact p3 _ c (by rw[Ga];simp)
    .exact p2 n z
   .by_cases hn:n=name
    .subst hn;exact p3 n c (by rw[Ga];simp)
    .exact p3 n c' (by rw[Ga,beq_eq_false_iff_ne.mpr hn];exact q)
  .obtain⟨cl,e,p1,p2,p3⟩:=ki r u_ λn q=>h n (FW _ q);refine#[cl,?_,p1,λn q=>?_,p3]
   .rw[HP];simp only[hk];exact e
   .rcases FT.mp q with z|z
    .cases z;exact absurd rfl hk
    .exact p2 n z
def closure_is{env:SL}{scope:Sm}(h:∀n,(n,NameKind.free)∈scope.names->∃c,env.cells.lookup n=be c):
  ∃cl,closureFor scope env=pure cl/\(∀n c,cl.lookup n=be c->env.cells.lookup n=be c)/\∀n,(n,NameKind.free)∈scope.names->∃c,cl.lookup n=be c:=by
 obtain⟨cl,e,p1,p2,_⟩:=ki scope.names [] h;refine#[cl,?_,λn c q=>(p1 n c q).elim id (λz=>nomatch z),p2];unfold closureFor;show(forIn (m:=TJ) scope.names [] _>>=λs=>pure s)=pure cl;rw[e];rfl
def gB{env:SL}:∀{names:List (Jj×SI)} {n:Jj} {k:SI},(∀y∈names,y.2≠.cell)->k=.cell\/k=.free->
  (names.map λ(n,k)=>if(k==NameKind.free&&env.scope.kind== .function&&env.kindOf n==be .cell)then(n,NameKind.cell)else(n,k)).lookup n=be k->(n,NameKind.free)∈names
 |[],_,_,_,_,h=>by simp at h
 |(a,b)::r,n,k,hc,hk,h=>by
  rw[Gi]at h;by_cases hb:(b==NameKind.free&&env.scope.kind== .function&&env.kindOf a==be .cell)=true
  .have eb:b=.free:=by
    have:=(Gj _ _ ▸ ((Gj _ _ ▸ hb).1)).1;simpa using this
   simp only[hb,if_true]at h;rw[Ga]at h;split at h
   .rename_i q;have en:n=a:=by simpa using q
    subst en eb;exact FZ
   .exact FW _ (gB (λy q=>hc y (FW _ q)) hk h)
  .simp only[hb]at h;rw[if_neg J8,Ga]at h;split at h
   .rename_i q;have en:n=a:=by simpa using q
    cases h;subst en;rcases hk with z|z
    .exact absurd z (hc _ FZ)
    .rw[z];exact FZ
   .exact FW _ (gB (λy q=>hc y (FW _ q)) hk h)
section
variable {prog:RP}{w:RU}{A:RV}{R:Result->KM->Prop}{s:KM}
abbrev rV(j3:List P3)(env:SL):TJ Bool:=forIn j3 true λc r=>if r=true then do let ok <-isTrue c env (R1 c env);pure (ForInStep.yield ok)else pure (ForInStep.yield r)
def yz{gV f8 iter:P3}{j3:List P3}{scope:Sm}{pos:R4}{it u_:KB}{env:SL}(I:Nat->KM->Prop)
  (c3:∀n s,I n s->RT (RR prog w) A (pyNext it) (λr s₁=>match r with
   |none=>R (.ok .next) s₁
   |some v=>RT (RR prog w) A (SY f8 it v) (λ_ s₁'=>RT (RR prog w) A (So f8 env v) (λ_ s₂=>RT (RR prog w) A (rV j3 env) (λok s₂'=>if ok=true then RT (RR prog w) A (R1 gV env) (λx s₃=>
     RT (RR prog w) A (call (.builtin "list.append") [u_,x]) (λ_ s₄=>∃m,m<n/\I m s₄) (λ_ _=>False) s₃)
     (λ_ _=>False) s₂' else ∃m,m<n/\I m s₂') (λ_ _=>False) s₂) (λ_ _=>False) s₁') (λ_ _=>False) s₁) (λ_ _=>False) s)
  (n:Nat) (h:I n s):
  S3 (RR prog w) A (.compLoop (.ListComp gV [#[f8,iter,j3,0]] scope pos) 0 it u_ env) R s:=by
 refine codeAny_loop rfl I (λn s hI=>?_) n h;show RT _ _ ((compTurn (.ListComp gV [#[f8,iter,j3,0]] scope pos) 0 it u_ env).onRaise (λx=>do SS x env;theTreesLotGoes x)) _ _ s;refine wpAny_noted ?_;rw[compTurn_list];refine Os (Sx (Os (R7 (c3 n s hI) (λr s₁ h₁=>?_) λ_ _ h'=>h'.elim)));cases r with
 |none=>exact RQ h₁
 |some v=>
  refine Os (R7 h₁ (λ_ s₁' h₁'=>Os (R7 h₁' (λ_ s₂ h₂=>Os (R7 h₂ (λok s₃ h₃=>?_) λ_ _ h'=>h'.elim)) λ_ _ h'=>h'.elim)) λ_ _ h'=>h'.elim);cases ok with
  |false=>exact RQ #[rfl,h₃]
  |true=>
   exact Os (Os (R7 h₃ (λx s₄ h₄=>Os (R7 h₄ (λ_ s₅ h₅=>RQ (RQ #[rfl,h₅])) λ_ _ h'=>h'.elim)) λ_ _ h'=>h'.elim))
end
def bW(X:Cx)(scope:Sm)(cl:List (Jj×KF))(x:Jj)(s₀:KM)(H₀:Hp)(fp:List KF):Cx where
 prog:=X.prog
 w:=X.w
 K:=X.K
 mg:=X.mg
 base:=X.base
 A:=X.A
 N:=X.N.map (λn=>if n=x then("":Jj)else n)++[x]
 s₀:=s₀
 H₀:=H₀
 env:=compEnvC scope cl s₀.heap.objs.size X.env
 outer:=X.stack
 stack:=X.stack
 ex:=fp
 fn:=λ_=>false
 calm:=X.calm
 pn:=[]
 xe:=λ_ _=>False
structure CompScope(X:Cx)(scope:Sm)(x:Str):Prop where
 kind:scope.kind=.function
 nocell:∀y∈scope.names,y.2≠.cell
 names:∀y∈scope.names,y.2=.local->scope.names.lookup y.1=be .local
 own:scope.names.lookup x=be .local
 free:∀n,(n,NameKind.free)∈scope.names->X.env.kindOf n=be .cell
 vis:∀n∈X.N,n≠x->Vis (T_ scope X.env) n->(n,NameKind.free)∈scope.names
 empty:¬Vis (T_ scope X.env) ("":Jj)
 cells:∀n,(n,NameKind.free)∈scope.names->(T_ scope X.env).names.lookup n=be .cell
 nd:(X.N.map (λn=>if n=x then("":Jj)else n)++[x]).Nodup
section
variable {X:Cx}{pins:List (KF×R_)}{σ:St}{H:Hp}{s:KM}{scope:Sm}{cl:List (Jj×KF)}{x:Jj}{fp:List KF}
def rW(I:Inv X pins σ H s)(S:CompScope X scope x)(c1:∀n c,cl.lookup n=be c->X.env.cells.lookup n=be c)(c2:∀n,(n,NameKind.free)∈scope.names->∃c,cl.lookup n=be c)
  (hf:∀b∈fp,FpOk X pins H b) (hl:∀b∈fp,b<s.heap.objs.size):(bW X scope cl x s H fp).Ok where
 mod:=I.ok.mod
 kind:=S.kind
 glob:=I.ok.glob
 blt:=I.ok.blt
 above:=FR _
 inj:=λy z c h1 h2=>I.ok.inj y z c (c1 y c h1) (c1 z c h2)
 has:=λn hn=>by
  rcases hn with hn|hn
  .exact c2 n (gB S.nocell (.inl rfl) hn)
  .exact c2 n (gB S.nocell (.inr rfl) hn)
 cab:=λ_ _ h=>nomatch h
 hd:=I.ok.hd
 frames:=I.ok.frames
 stk:=.inl rfl
 exf:=λb hb=>#[FU (hl b hb),λy c h=>(hf b hb).2.2.2.2.1 y c (c1 y c h)]
 bs:=I.bs
 bsz:=FY I.ok.bsz I.sz
 noex:=λb o e hb=>by
  have h1:=I.ok.noex b o e;rcases(hf b hb).2.2.2.1 with z|z
  .exact h1 z
  .exact absurd (Gd (Heap.lt_size e) (FY I.ok.bsz z)) (GJ _)
 exfs:=λb hb hs=>by
  rcases FT.mp (I.stkSub b hs)with z|z
  .exact(hf b hb).2.1 z
  .exact(hf b hb).2.2.1 z
 funs:=I.stack
 frf:=I.stkFree
def rX{h':Heap}{t':Nat}(I:Inv X pins σ H s)(S:CompScope X scope x)(c1:∀n c,cl.lookup n=be c->X.env.cells.lookup n=be c)(c2:∀n,(n,NameKind.free)∈scope.names->∃c,cl.lookup n=be c)
  (hf:∀b∈fp,FpOk X pins H b) (hl:∀b∈fp,b<s.heap.objs.size) {m:Jj->Option KB} (hn:h'.Ns s.heap.objs.size m) (k:∀b o,s.heap.get? b=be o->h'.get? b=be o):
  Inv (bW X scope cl x s H fp) [] (σ++[B_]) H {s with heap:=h',toks:=t'}:=by
 refine#[rW I S c1 c2 hf hl,rfl,I.bare,Un.kept k,#[m,hn,λi n v e1 e2 e3=>?_],λn c e=>?_,I.hok.fresh (FR _),λn c e=>I.freeC n c (c1 n c e),λp hp=>absurd (show p∈([]:List (KF×R_))from hp) J8,I.hok.kept k,?_]
 .have hi:i<σ.length:=by
   rcases Hy i σ.length with q|q
   .exact q
   .rw[GN q]at e2;cases hz:i-σ.length with
    |zero=>rw[hz]at e2;simp at e2
    |succ z=>rw[hz]at e2;simp at e2
  rw[Gy hi]at e2;have L_:i<X.N.length:=by rw[<-I.len];exact hi
  have Ku:(X.N.map (λn=>if n=x then("":Jj)else n)++[x])[i]?=be n:=e1;rw[Gy (by simpa using L_),F6,Gb L_]at Ku;simp only[Option.map_some,Option.some.injEq]at Ku;by_cases hx:X.N[i]=x
  .rw[if_pos hx]at Ku;subst Ku;exact absurd e3 S.empty
  .rw[if_neg hx]at Ku;subst Ku;have j5:=S.vis _ (GA L_) hx e3;have l6:=S.free _ j5;obtain⟨c,hc⟩:=c2 _ j5;obtain⟨mX,Rs,Qf⟩:=I.loc;obtain⟨u,ru,lk⟩:=Qf i X.N[i] v (Gb L_) e2 (.inr (.inl l6));refine#[u,ru,.inr #[?_,c,hc,?_]]
   .exact .inl (S.cells _ j5)
   .rcases lk with⟨kl,_⟩|⟨_,c',JG,gt⟩
    .rw[l6]at kl;cases kl
    .have:c=c':=by
      have:=c1 _ c hc;rw[JG]at this;exact(Option.some.inj this).symm
     subst this;obtain⟨o,ho,hd⟩:=gt;exact#[o,k _ _ ho,hd]
 .obtain⟨v,o,ho,hd⟩:=I.cell n c (c1 n c e);exact#[v,o,k _ _ ho,hd]
 .show(σ++[B_]).length=(X.N.map _++[x]).length;rw[F9,F9,F4,I.len];rfl
end
def gC(wi:TI)(tt:TT)(g7:TE):TE:=λσ H Q=>wi σ H λJ H1=>∀D,H1 D=B_->∃W:Nat->Nat->Hp->Prop,(∃m,W 0 m (upd H1 D (.lst [])))/\∀i m H,W i m H->
 (J.stop i H/\Q (.ref D) H)\/(J.go i H/\∀x H',J.yld i H x H'->tt (σ++[be x]) H' λb H1=>if b=true then g7 (σ++[be x]) H1 λy H''=>∃vs,H'' D=be (.lst vs)/\vs.length<sizeLine/\∃m',m'<m/\W (i+1) m' (upd H'' D (.lst (vs++[y])))else ∃m',m'<m/\W (i+1) m' H1)
def PIf(X:Cx)(j3:List P3)(t:TT):Prop:=
 ∀(pins:List (KF×R_)) (s:KM) (σ:St) (H:Hp) (Q:Bool->Hp->Prop),Inv X pins σ H s->t σ H Q->RT (RR X.prog X.w) X.A (rV j3 X.env) (TP X pins σ Q) X.xe s
def pif_nil{X:Cx}:PIf X [] (λ_ H Q=>Q true H):=λpins s σ H Q I q=>wpAny_tests_nil #[H,I,q]
def PIf.anti{X:Cx}{e:List P3}{t t':TT}(h:PIf X e t)(a:∀s H Q,t' s H Q->t s H Q):PIf X e t':=λpins s σ H Q I q=>h pins s σ H Q I (a _ _ _ q)
section
variable {X:Cx}
variable{gV iter:P3}{j3:List P3}{x:Jj}{px pos:R4}{scope:Sm}{tt:TT}{g7:TE}
def rY{pins:List (KF×R_)}{s2:KM}{σ:St}{H1:Hp}{cl:List (Jj×KF)}{it:KF}{fp:List KF}{tn:Nat->Heap->Prop}{J:It}{Qs:Hp->Prop}{R:Result->KM->Prop}{W:Nat->Nat->Hp->Prop}{m0:Nat}{h₁:Heap}(hc:X.calm=true)(S:CompScope X scope x)
  (hq:∀cl s₀ H₀ fp,PIf (bW X scope cl x s₀ H₀ fp) j3 tt) (he:∀cl s₀ H₀ fp,PE (bW X scope cl x s₀ H₀ fp) gV g7) (c1:∀n c,cl.lookup n=be c->X.env.cells.lookup n=be c) (c2:∀n,(n,NameKind.free)∈scope.names->∃c,cl.lookup n=be c)
  (I1:Inv X pins σ H1 s2) (T:Turn X.prog X.w X.K (.Name x px) J fp it tn) (st:tn 0 s2.heap) (f1:∀b∈fp,FpOk X pins H1 b) (w0:W 0 m0 (upd H1 s2.heap.objs.size (.lst [])))
  (step:∀i m H,W i m H->(J.stop i H/\Qs H)\/(J.go i H/\∀x H',J.yld i H x H'->tt (σ++[be x]) H' λb H1=>if b=true then g7 (σ++[be x]) H1 λy H''=>∃vs,H'' s2.heap.objs.size=be (.lst vs)/\vs.length<sizeLine/\∃m',m'<m/\W (i+1) m' (upd H'' s2.heap.objs.size (.lst (vs++[y])))else ∃m',m'<m/\W (i+1) m' H1))
  (I4:Inv (bW X scope cl x {s2 with heap:=s2.heap.push {cls:=.type "list",data:=.seq ([]:List KB).toArray},toks:=s2.toks} (upd H1 s2.heap.objs.size (.lst [])) fp) [] (σ++[B_]) (upd H1 s2.heap.objs.size (.lst [])) {s2 with heap:=h₁,toks:=s2.toks+([]:List (Jj×KB)).length}) (t0:tn 0 h₁)
  (MZ:∀H' s4 m,Inv X pins σ H' s4->s4.heap.Ns (s2.heap.push {cls:=.type "list",data:=.seq ([]:List KB).toArray}).objs.size m->H' (s2.heap.push {cls:=.type "list",data:=.seq ([]:List KB).toArray}).objs.size=B_->Qs H'->R (.ok .next) s4):
  S3 (RR X.prog X.w) X.A (.compLoop (.ListComp gV [#[.Name x px,iter,j3,0]] scope pos) 0 (.ref it) (.ref s2.heap.objs.size) (compEnvC scope cl (s2.heap.push {cls:=.type "list",data:=.seq ([]:List KB).toArray}).objs.size X.env)) R {s2 with heap:=h₁,toks:=s2.toks+([]:List (Jj×KB)).length}:=by
 have d9:∀b∈fp,b<s2.heap.objs.size:=λb hb=>by
  obtain⟨o,ho,_⟩:=T.obj _ _ st b hb;exact Heap.lt_size ho
 have I3:Inv X pins σ (upd H1 s2.heap.objs.size (.lst [])) {s2 with heap:=s2.heap.push {cls:=.type "list",data:=.seq ([]:List KB).toArray},toks:=s2.toks}:=I1.lnew (its:=[]) (ys:=[]) .nil (Gh _);have i_:∀b∈fp,b<(s2.heap.push {cls:=.type "list",data:=.seq ([]:List KB).toArray}).objs.size:=λb hb=>by
  rw[Heap.size_push];exact HQ (d9 b hb)
 have D':∀b∈fp,FpOk X pins (upd H1 s2.heap.objs.size (.lst [])) b:=λb hb=>#[by rw[aj (FU (d9 b hb))];exact(f1 b hb).1,(f1 b hb).2];have Ma:=rW (x:=x) (fp:=fp) I3 S c1 c2 D' i_;generalize hY:bW X scope cl x {s2 with heap:=s2.heap.push {cls:=.type "list",data:=.seq ([]:List KB).toArray},toks:=s2.toks} (upd H1 s2.heap.objs.size (.lst [])) fp=Y at I4 Ma;have yP:Y.prog=X.prog:=Rr
 have yW:Y.w=X.w:=Rr
 have yK:Y.K=X.K:=Rr
 have yA:Y.A=X.A:=Rr
 have yN:Y.N=X.N.map (λn=>if n=x then("":Jj)else n)++[x]:=Rr
 have yE:Y.env=compEnvC scope cl (s2.heap.push {cls:=.type "list",data:=.seq ([]:List KB).toArray}).objs.size X.env:=Rr
 have yX:Y.xe=λ_ _=>False:=Rr
 have yC:Y.calm=true:=by rw[<-hY];exact hc
 have O4:Y.ex=fp:=Rr
 have Qg:Y.pn=[]:=Rr
 have Qh:Y.fs=frs X.stack:=Rr
 have Qi:Y.H₀=upd H1 s2.heap.objs.size (.lst []):=Rr
 have O5:Y.s₀={s2 with heap:=s2.heap.push {cls:=.type "list",data:=.seq ([]:List KB).toArray},toks:=s2.toks}:=Rr
 have Qj:PE Y gV g7:=by rw[<-hY];exact he _ _ _ _
 have Qk:PIf Y j3 tt:=by rw[<-hY];exact hq _ _ _ _
 have n4:∀{H':Hp},(∀b∈fp,H' b=B_)->∀b∈fp,FpOk Y [] H' b:=λ{H'} hn b hb=>by
  have f6:b∈Y.ex:=by rw[O4];exact hb
  exact#[hn b hb,(Ma.exf b f6).1,Ma.exfs b f6,.inl f6,λn c e=>(Ma.exf b f6).2 n c e,by rw[Qg];simp]
 have Lh:Y.env.scope.names.lookup x=be .local:=by rw[yE];exact lookup_relabel_local S.own
 have M0:Y.N[X.N.length]?=be x:=by rw[yN];simp
 have Ql:Y.N.Nodup:=by rw[yN];exact S.nd
 have M4:Y.env.locals=(s2.heap.push {cls:=.type "list",data:=.seq ([]:List KB).toArray}).objs.size:=by rw[yE];rfl
 have ge:∀(o:Option V) (H':Hp) (s':KM),Inv Y [] (σ++[o]) H' s'->Inv X pins σ H' s':=λo H' s' I'=>by
  have bs:=I'.base;rw[Qh,O4,Qi,O5]at bs;refine I3.call' (ch:=fp) ?_ bs ?_ I'.bare ?_
  .have:=I'.os;rw[O5]at this;exact this
  .have:=I'.hok;rw[yP,yW]at this;exact this
  .exact λb hb=>#[(D' b hb).2.2.2.1,(D' b hb).2.1,(D' b hb).2.2.2.2.1,(D' b hb).2.2.2.2.2]
 refine yz (λn s'=>∃i o H',Inv Y [] (σ++[o]) H' s'/\tn i s'.heap/\(∀b∈fp,H' b=B_)/\W i n H') ?_ m0 #[0,B_,_,I4,t0,λb hb=>(D' b hb).1,w0];rintro n s3⟨i,o,H3,I5,t3,f3,w3⟩;rcases step i n H3 w3 with⟨stop,q⟩|⟨go,q⟩
 .have dn:=T.done Y yP yW yK yC i [] s3 _ H3 (λ_ _=>False) I5 (n4 f3) t3 stop;rw[yA]at dn;refine thn dn λr s4 b9=>?_;obtain⟨hr,I6⟩:=b9;subst hr;obtain⟨m,hn,_⟩:=I6.loc;have k9:=I6.free;rw[M4]at hn k9;exact MZ H3 s4 m (ge o H3 s4 I6) hn k9 q
 .have O7:=T.item Y yP yW yK yC i [] s3 _ H3 (λ_ _=>False) I5 (n4 f3) t3 go;rw[yA]at O7;refine thn O7 λr s4 b9=>?_;obtain⟨u,hr,h4⟩:=b9;subst hr;refine thn h4 λ_ s5 b9=>?_;obtain⟨xv,H5,I6,r5,y5,Jk,MC⟩:=b9;have Qm:=I6.pinned (n4 MC) (T.obj _ _ Jk);rw[<-yE];refine S6 (fV Qm Ql M0 (.inl Lh) r5 (λs6 I7=>?_) (.inr Lh));have M5:(σ++[o]).set X.N.length (be xv)=σ++[be xv]:=by
   rw[<-I1.len];simp
  rw[M5]at I7;have tv:=Qk _ s6 _ H5 _ I7 (q xv H5 y5);rw[yP,yW,yA,yX]at tv;refine thn tv λb Qn b9=>?_;obtain⟨Qo,Mb,qb⟩:=b9;cases b with
  |false=>
   obtain⟨m',hm,w7⟩:=qb;refine#[m',hm,i+1,be xv,_,Mb.unpinned,T.keep _ _ _ Jk λb hb ob e=>(Mb.pin (b,ob) (Ge _ (Ge _ (dN hb e)))).1,λb hb=>?_,w7];obtain⟨ob,e,d⟩:=T.obj _ _ Jk b hb;exact(Mb.pin (b,ob) (Ge _ (Ge _ (dN hb e)))).2.1
  |true=>
  have ev:=Qj _ Qn _ Qo _ Mb qb;rw[yP,yW,yA,yX]at ev;refine thn ev λyv s7 b9=>?_;obtain⟨y,H6,I8,ry,vs,Qp,b8,m',hm,w7⟩:=b9;have ap:=jL (X:=Y) _ s7 _ H6 (.ref s2.heap.objs.size) [y] (.ref s2.heap.objs.size) [yv] (λ_ H7=>H7=upd H6 s2.heap.objs.size (.lst (vs++[y]))) I8 rfl (.cons ry .nil) #[_,vs,y,rfl,rfl,Qp,b8,rfl];rw[yP,yW,yA,yX]at ap;refine thn ap λ_ s8 b9=>?_;obtain⟨_,H7,I9,_,e7⟩:=b9;subst e7;refine#[m',hm,i+1,be xv,_,I9.unpinned,T.keep _ _ _ Jk λb hb ob e=>(I9.pin (b,ob) (Ge _ (Ge _ (dN hb e)))).1,λb hb=>?_,w7];obtain⟨ob,e,d⟩:=T.obj _ _ Jk b hb;exact(I9.pin (b,ob) (Ge _ (Ge _ (dN hb e)))).2.1
def rZ{wi:TI}(hc:X.calm=true)(S:CompScope X scope x)(hi:PI X (.Name x px) iter wi)
  (hq:∀cl s₀ H₀ fp,PIf (bW X scope cl x s₀ H₀ fp) j3 tt) (he:∀cl s₀ H₀ fp,PE (bW X scope cl x s₀ H₀ fp) gV g7) (hs:autoParam (∀y,zFS X iter y) zA2):
  PE X (.ListComp gV [#[.Name x px,iter,j3,0]] scope pos) (gC wi tt g7):=by
 intro pins s σ H Q I h;obtain⟨cl,gt,c1,c2⟩:=closure_is (env:=X.env) (scope:=scope) (λn q=>I.ok.has n (.inl (S.free n q)));rw[eval_ListComp];refine Tq (use:=B_) rfl hs gt S.kind S.names (thn (hi pins s σ H _ I h) λv s1 h1=>thn h1 λLY s2 h2=>?_);obtain⟨it,fp,tn,J,H1,e,I1,T,st,f1,hr⟩:=h2;subst e;have d9:∀b∈fp,b<s2.heap.objs.size:=λb hb=>by
  obtain⟨o,ho,_⟩:=T.obj _ _ st b hb;exact Heap.lt_size ho
 have hD:H1 s2.heap.objs.size=none:=I1.hok.fresh (FR _);obtain⟨W,⟨m0,w0⟩,step⟩:=hr _ hD;refine Sa (TN S.nocell (by intro y hy;simp at hy) (λh₁ hns₁ hsb₁=>?_) S.kind);have I3:Inv X pins σ (upd H1 s2.heap.objs.size (.lst [])) {s2 with heap:=s2.heap.push {cls:=.type "list",data:=.seq ([]:List KB).toArray},toks:=s2.toks}:=I1.lnew (its:=[]) (ys:=[]) .nil (Gh _);have i_:∀b∈fp,b<(s2.heap.push {cls:=.type "list",data:=.seq ([]:List KB).toArray}).objs.size:=λb hb=>by
  rw[Heap.size_push];exact HQ (d9 b hb)
 have D':∀b∈fp,FpOk X pins (upd H1 s2.heap.objs.size (.lst [])) b:=λb hb=>#[by rw[aj (FU (d9 b hb))];exact(f1 b hb).1,(f1 b hb).2];have kp:∀b o,(s2.heap.push {cls:=.type "list",data:=.seq ([]:List KB).toArray}).get? b=be o->h₁.get? b=be o:=λb o e=>
  (hsb₁.2 b (FU (Heap.lt_size e))).trans (Heap.get?_push_of_some _ e)
 have I4:=rX (x:=x) (fp:=fp) (t':=s2.toks+([]:List (Jj×KB)).length) I3 S c1 c2 D' i_ hns₁ kp;have Jp:(s2.heap.push {cls:=.type "list",data:=.seq ([]:List KB).toArray}).objs.size≠X.env.locals:=GF I3.lt;have Jq:∀z c,X.env.cells.lookup z=be c->c≠(s2.heap.push {cls:=.type "list",data:=.seq ([]:List KB).toArray}).objs.size:=λz c e=>by
  obtain⟨vv,oo,ho,_⟩:=I3.cell z c e;exact FU (Heap.lt_size ho)
 have J9:∀p∈X.pn++pins,p.1≠(s2.heap.push {cls:=.type "list",data:=.seq ([]:List KB).toArray}).objs.size:=λp hp=>FU (Heap.lt_size (I3.pin p hp).1);have q_:=rY (pos:=pos) (iter:=iter) (R:=compPost (RR X.prog X.w) X.A X.xe B_ (EP X pins σ Q) (.ref s2.heap.objs.size) (s2.heap.push {cls:=.type "list",data:=.seq ([]:List KB).toArray}).objs.size) hc S hq he c1 c2 I1 T st f1 w0 step I4 (T.keep _ _ _ st (λb hb ob e=>kp b ob (Heap.get?_push_of_some _ e))) λH' s4 m IX hn k9 q=>
  #[m,hn,λh' hsb=>#[.ref s2.heap.objs.size,H',IX.turned (t':=s4.toks) (it:=(s2.heap.push {cls:=.type "list",data:=.seq ([]:List KB).toArray}).objs.size) (λb ob hb e=>(hsb.2 b hb).trans e) k9 Jp (.inr I3.sz) Jq J9,rfl,q]]
 exact TC q_ (T.self _ _ _ _ _ (T.keep _ _ _ st (λb hb ob e=>kp b ob (Heap.get?_push_of_some _ e))) q_)
def yB{y:Jj}{py x8:R4}{wi:TI}{ix:Nat}(hc:X.calm=true)(S:CompScope X scope x)(hi:PI X (.Name x px) iter wi)
  (hq:∀cl s₀ H₀ fp,PIf (bW X scope cl x s₀ H₀ fp) j3 tt) (he:∀cl s₀ H₀ fp,PE (bW X scope cl x s₀ H₀ fp) gV g7) (hN:X.N.Nodup) (M6:X.N[ix]?=be y) (hy:Loc X.env.scope y) (hf:zFN X y)
  (J6:Sd (.ListComp gV [#[.Name x px,iter,j3,0]] scope pos) (be (.Name y py)) x8.line X.env=pure true) (hs:autoParam (∀y,zFS X iter y) zA2):
  PS X (.Assign [.Name y py] (.ListComp gV [#[.Name x px,iter,j3,0]] scope pos) x8) (tAsg (gC wi tt g7) (fW ix)):=by
 intro pins s σ H DE I h;have h:wi σ H λJ H1=>∀D,H1 D=B_->∃W:Nat->Nat->Hp->Prop,(∃m,W 0 m (upd H1 D (.lst [])))/\∀i m H,W i m H->
  (J.stop i H/\DE.nx (σ.set ix (be (.ref D))) H)\/(J.go i H/\∀x H',J.yld i H x H'->tt (σ++[be x]) H' λb H1=>if b=true then g7 (σ++[be x]) H1 λy H''=>∃vs,H'' D=be (.lst vs)/\vs.length<sizeLine/\∃m',m'<m/\W (i+1) m' (upd H'' D (.lst (vs++[y])))else ∃m',m'<m/\W (i+1) m' H1):=h
 obtain⟨cl,gt,c1,c2⟩:=closure_is (env:=X.env) (scope:=scope) (λn q=>I.ok.has n (.inl (S.free n q)));rw[exec_Assign_Name_used _ _ _ _ J6];refine Os (Sx (Os ?_));show RT _ X.A (do let _ <-comprehension (.ListComp gV [#[.Name x px,iter,j3,0]] scope pos) scope X.env _ (newList []) false (R1 iter X.env) (be (So (.Name y py) X.env))) _ _ s;refine Os (R7 (Tq (use:=be (So (.Name y py) X.env)) (Q:=λ_ s'=>SP X pins DE .next s') rfl hs gt S.kind S.names
  (thn (hi pins s σ H _ I h) λv s1 h1=>thn h1 λLY s2 h2=>?_)) (λ_ s' hq=>RQ (RQ hq)) λ_ _ e=>e)
 obtain⟨it,fp,tn,J,H1,e,I1,T,st,f1,hr⟩:=h2;subst e;have d9:∀b∈fp,b<s2.heap.objs.size:=λb hb=>by
  obtain⟨o,ho,_⟩:=T.obj _ _ st b hb;exact Heap.lt_size ho
 have hD:H1 s2.heap.objs.size=none:=I1.hok.fresh (FR _);obtain⟨W,⟨m0,w0⟩,step⟩:=hr _ hD;refine Sa (TN S.nocell (by intro y hy;simp at hy) (λh₁ hns₁ hsb₁=>?_) S.kind);have I3:Inv X pins σ (upd H1 s2.heap.objs.size (.lst [])) {s2 with heap:=s2.heap.push {cls:=.type "list",data:=.seq ([]:List KB).toArray},toks:=s2.toks}:=I1.lnew (its:=[]) (ys:=[]) .nil (Gh _);have i_:∀b∈fp,b<(s2.heap.push {cls:=.type "list",data:=.seq ([]:List KB).toArray}).objs.size:=λb hb=>by
  rw[Heap.size_push];exact HQ (d9 b hb)
 have D':∀b∈fp,FpOk X pins (upd H1 s2.heap.objs.size (.lst [])) b:=λb hb=>#[by rw[aj (FU (d9 b hb))];exact(f1 b hb).1,(f1 b hb).2];have kp:∀b o,(s2.heap.push {cls:=.type "list",data:=.seq ([]:List KB).toArray}).get? b=be o->h₁.get? b=be o:=λb o e=>
  (hsb₁.2 b (FU (Heap.lt_size e))).trans (Heap.get?_push_of_some _ e)
 have I4:=rX (x:=x) (fp:=fp) (t':=s2.toks+([]:List (Jj×KB)).length) I3 S c1 c2 D' i_ hns₁ kp;have Jp:(s2.heap.push {cls:=.type "list",data:=.seq ([]:List KB).toArray}).objs.size≠X.env.locals:=GF I3.lt;have Jq:∀z c,X.env.cells.lookup z=be c->c≠(s2.heap.push {cls:=.type "list",data:=.seq ([]:List KB).toArray}).objs.size:=λz c e=>by
  obtain⟨vv,oo,ho,_⟩:=I3.cell z c e;exact FU (Heap.lt_size ho)
 have J9:∀p∈X.pn++pins,p.1≠(s2.heap.push {cls:=.type "list",data:=.seq ([]:List KB).toArray}).objs.size:=λp hp=>FU (Heap.lt_size (I3.pin p hp).1);have q_:=rY (pos:=pos) (iter:=iter) (R:=compPost (RR X.prog X.w) X.A X.xe (be (So (.Name y py) X.env)) (λ_ s'=>SP X pins DE .next s') (.ref s2.heap.objs.size) (s2.heap.push {cls:=.type "list",data:=.seq ([]:List KB).toArray}).objs.size) hc S hq he c1 c2 I1 T st f1 w0 step I4 (T.keep _ _ _ st (λb hb ob e=>kp b ob (Heap.get?_push_of_some _ e))) λH' s4 m IX hn k9 q=>by
  show RT _ X.A (So (.Name y py) X.env (.ref s2.heap.objs.size)) _ _ s4;refine S6 (pE IX hN M6 hy (v:=.ref s2.heap.objs.size) rfl (λs5 I7 ⟨a,hsb,ha⟩=>?_) hf);have M7:(s2.heap.push {cls:=.type "list",data:=.seq ([]:List KB).toArray}).objs.size≠a:=by
   rcases ha with e|e
   .rw[e];exact Jp
   .exact λz=>Jq y a e z.symm
  exact#[m,hn.sameBut hsb M7,λh' i6=>#[_,H',I7.turned (t':=s5.toks) (it:=(s2.heap.push {cls:=.type "list",data:=.seq ([]:List KB).toArray}).objs.size) (λb ob hb e=>(i6.2 b hb).trans e) k9 Jp (.inr I3.sz) Jq J9,q]]
 exact TC q_ (T.self _ _ _ _ _ (T.keep _ _ _ st (λb hb ob e=>kp b ob (Heap.get?_push_of_some _ e))) q_)
end
end L2
namespace My
def RepS.snoc{K:Ex}{B F H:Hp}{z:SD}{s:L2.St}{d:D}{v:V}(h:RepS K B F H z s)(r:Rep K F d v):RepS K B F H (z++[be d]) (s++[be v]):=by
 have no:=r.noown;have get:∀{j:Nat} {x:D},(z++[be d])[j]?=be (be x)->(j<z.length/\z[j]?=be (be x))\/(j=z.length/\x=d):=λ{j x} e=>by
  rcases Hy j z.length with q|q
  .rw[Gy q]at e;exact .inl #[q,e]
  .rw[GN q]at e;cases hz:j-z.length with
   |zero=>rw[hz]at e;simp at e;exact .inr #[JZ,e.symm]
   |succ n=>rw[hz]at e;simp at e
 have lt:∀{j:Nat},j<z.length->(s++[be v])[j]?=s[j]?:=λ{j} q=>Gy (by rw[h.len];exact q);refine#[by rw[F9,F9,h.len];rfl,λj x e nx=>?_,λj ds e=>?_,λj k dj dk a e1 e2 e3 e4=>?_]
 .rcases get e with⟨q,e⟩|⟨q,rfl⟩
  .rw[lt q];exact h.val j x e nx
  .exact#[v,by rw[q,GN (by rw[h.len];exact FR _),h.len];simp,r]
 .rcases get e with⟨q,e⟩|⟨q,e⟩
  .rw[lt q];exact h.own j ds e
  .rw[<-e]at no;cases no
 .rcases get e1 with⟨q,e1⟩|⟨q,e1⟩
  .rcases get e2 with⟨q2,e2⟩|⟨q2,e2⟩
   .rw[lt q]at e3;rw[lt q2]at e4;exact h.apart j k dj dk a e1 e2 e3 e4
   .rw[<-e2]at no;cases no
  .rw[<-e1]at no;cases no
def okB:Bool->Bool->Prop->Prop->Prop
 |_,true,A,_=>A
 |false,false,_,B=>B
 |true,false,_,_=>False
def cmpG(nf:Bool)(tt:TDT)(te:TD)(z:SD)(R:D->Prop)(items:List D):Prop:=items.length<=100000/\∃W:Nat->List D->Prop,W 0 []/\(∀k x ys,items[k]?=be x->(nf=true->ys.length=k)->W k ys->tt (z++[be x]) λb=>okB nf b (te (z++[be x]) λy=>W (k+1) (ys++[y])) (W (k+1) ys))/\∀ys,(nf=true->ys.length=items.length)->W items.length ys->R (.lst ys)
def cmpP(te:TD)(z:SD)(R:D->Prop)(items:List D):Prop:=items.length<=100000/\∃W:Nat->List D->Prop,W 0 []/\(∀k x ys,items[k]?=be x->ys.length=k->W k ys->te (z++[be x]) λy=>W (k+1) (ys++[y]))/\∀ys,ys.length=items.length->W items.length ys->R (.lst ys)
def se(ti:TDI)(te:TD):TD:=λz R=>ti z (cmpP te z R)
def dT1:TDT:=λ_ R=>R true
abbrev DIf(X:Cx)[Jx](j3:List P3)(t:TDT):Prop:=PIf X j3 (lT X.K t)
variable{X:Cx}
def kj[Jx]:DIf X [] dT1:=pif_nil.anti λs H Q q=>by
 obtain⟨B,F,z,kf,rs,R,h1,h2⟩:=q;exact h2 true F H (Grow.refl kf.fh) h1
structure ItIs(K:Ex)(J:It)(F1 H1:Hp)(items:List D):Prop where
 go:∀k F' H',Grow F1 H1 F' H'->k<items.length->J.go k H'
 yld:∀k F' H' x H'',Grow F1 H1 F' H'->k<items.length->J.yld k H' x H''->H''=H'/\∃d,items[k]?=be d/\Rep K F' d x
 stop:∀F' H',Grow F1 H1 F' H'->J.stop items.length H'
def ItOk[Jx](K:Ex)(wi:TI)(ti:TDI):Prop:=∀{s:L2.St} {H B F:Hp} {z:SD} {P:List D->Prop} {Q:It->Hp->Prop},Kept B Jx.F0 F H->RepS K B F H z s->ti z P->(∀items J F1 H1,Grow F H F1 H1->P items->ItIs K J F1 H1 items->Q J H1)->wi s H Q
section
variable {X:Cx}
variable{K:Ex}{H:Hp}{R:My.D->Prop}{items:List My.D}
def sf[Jx]{B F F1 H1:Hp}{z:SD}{s:L2.St}{Q:VK}{nf:Bool}{tt:TDT}{te:TD}{J:It}(kf:Kept B Jx.F0 F H)(g1:Grow F H F1 H1)(rs:RepS K B F H z s)(h2:∀D ys us F' H',H D=B_->F' D=B_->Grow F H F' H'->H' D=be (.lst us)->Reps K F' ys us->R (.lst ys)->Q (.ref D) H')
    (it:ItIs K J F1 H1 items) (hd:cmpG nf tt te z R items):
    ∀D,H1 D=B_->∃W:Nat->Nat->Hp->Prop,(∃m,W 0 m (upd H1 D (.lst [])))/\∀i m H,W i m H->
      (J.stop i H/\Q (.ref D) H)\/(J.go i H/\∀x H',J.yld i H x H'->lT K tt (s++[be x]) H' λb H1=>if b=true then lE K te (s++[be x]) H1 λy H''=>∃vs,H'' D=be (.lst vs)/\vs.length<sizeLine/\∃m',m'<m/\W (i+1) m' (upd H'' D (.lst (vs++[y])))else ∃m',m'<m/\W (i+1) m' H1):=by
  intro D hD;obtain⟨hz,W,w0,c3,out⟩:=hd;have Qq:F1 D=none:=g1.fh.free hD;have hH:H D=none:=g1.hh.free hD;refine⟨λk m H'=>m=items.length-k/\k<=items.length/\∃F' ys us,Grow F1 H1 F' H'/\H' D=be (.lst us)/\F' D=B_/\Reps K F' ys us/\(ys.length<=k/\(nf=true->ys.length=k))/\W k ys,
    #[items.length,J8,Gh _,F1,[],[],#[Same.refl F1,g1.fh.trans (aS hD _),aS hD _,λb h _=>h],ax,Qq,reps_nil.mpr rfl,#[FR _,λ_=>rfl],w0],?_⟩
  rintro k m H'⟨rfl,hk,F',ys,us,G,hu,hF,ry,hl,w⟩;by_cases d9:k<items.length
  . refine .inr #[it.go k F' H' G d9,λx H'' hy=>?_];obtain⟨e,d,hd,rd⟩:=it.yld k F' H' x H'' G d9 hy;subst e;refine#[B,F',z++[be d],kf.grow (g1.trans G),(rs.grow (g1.trans G)).snoc rd,_,c3 k d ys hd hl.2 w,λb F3 H3 g3 hb=>?_];have M8:H3 D=be (.lst us):=g3.hh D _ hu;have Mc:F3 D=none:=g3.out D hF (by rw[hu];exact λq=>nomatch q);cases b with
    |false=>
      cases nf with
      |true=>exact hb.elim
      |false=>exact#[items.length-(k+1),JZ,rfl,JZ,F3,ys,us,G.trans g3,M8,Mc,ry.mono g3.ff,#[JZ,λz=>nomatch z],hb]
    |true=>
    refine#[B,F3,z++[be d],(kf.grow (g1.trans G)).grow g3,((rs.grow (g1.trans G)).snoc rd).grow g3,_,(show te _ _ from by cases nf<;>exact hb),λy yv F2 H2 g2 hw rv=>?_];have Qr:H2 D=be (.lst us):=g2.hh D _ M8;have Jr:F2 D=none:=g2.out D Mc (by rw[M8];exact λq=>nomatch q);have Rt:us.length<=k:=by rw[ry.length];exact hl.1
    refine⟨us,Qr,by     have:(100000:Nat)<sizeLine:=by decide
                        lia,items.length-(k+1),JZ,rfl,JZ,F2,ys++[y],us++[yv],?_,ax,Jr,((ry.mono g3.ff).mono g2.ff).append (dZ rv),#[Sc,λz=>by simp[hl.2 z]],hw⟩
    have GG:=(G.trans g3).trans g2;refine#[GG.ff,λb o e=>?_,λb o e=>?_,GG.out]
    . have ne:b≠D:=λq=>by rw[q,Jr]at e;cases e
      rw[aj ne];exact GG.fh b o e
    . have ne:b≠D:=λq=>by rw[q,hD]at e;cases e
      rw[aj ne];exact GG.hh b o e
  . have ek:k=items.length:=by lia
    subst ek;exact .inl #[it.stop F' H' G,h2 D ys us F' H' hH hF (g1.trans G) hu ry (out ys hl.2 w)]
def yD{F F' H':Hp}{D:KF}{us:List V}(GG:Grow F H F' H')(hu:H' D=be (.lst us))(hF:F' D=B_)(hH:H D=B_):Grow F H (upd F' D (.lst us)) H':=by
 refine#[GG.ff.trans (aS hF _),λb o e=>?_,GG.hh,λb h1 h3=>?_]
 .by_cases hb:b=D
  .subst hb;rw[ax]at e;cases e;exact hu
  .rw[aj hb]at e;exact GG.fh b o e
 .have ne:b≠D:=λq=>h3 (q ▸ hH);rw[aj ne];exact GG.out b h1 h3
variable {gV iter:P3}{j3:List P3}{x:Jj}{px pos:R4}{scope:Sm}{ti te:TD}{tt:TDT}{wi:TI}{J_:TDI}
def si[Jx]{nf:Bool}{G:SD->(D->Prop)->List D->Prop}(hG:∀z R items,G z R items->cmpG nf tt te z R items)(hI:ItOk K wi J_){s:L2.St}{Q:VK}(q:lE K (λz R=>J_ z (G z R)) s H Q):gC wi (lT K tt) (lE K te) s H Q:=by
 obtain⟨B,F,z,kf,rs,R,h1,h2⟩:=q;exact hI kf rs h1 λitems J F1 H1 g1 hg it=>sf kf g1 rs (λD ys us F' H' hH hF GG hu ry hR=>h2 (.lst ys) (.ref D) _ H' (yD GG hu hF hH) hR (rep_lst.mpr #[D,us,rfl,ax,ry.mono (aS hF _)])) it (hG _ _ _ hg)
def cmpP.g{z:SD}(h:cmpP te z R items):cmpG true dT1 te z R items:=
 let ⟨hz,W,w0,c3,out⟩:=h
 #[hz,W,w0,λk x ys e l w=>c3 k x ys e (l rfl) w,λys l w=>out ys (l rfl) w]
def itL[Jx]:ItOk K (pR K (lE K ti)) (dItL ti):=λ{s H B F z P Q} kf rs h1 h2=>by
 refine#[B,F,z,kf,rs,_,h1,λd v F1 H1 g1 hd rd=>?_];have key:∀(items:List D) (p:KF) (vs:List V),SqL K F1 p vs->Reps K F1 items vs->P items->∃a,V.ref p=.ref a/\(∃xs,SqL K H1 a xs)/\Q (Itl K a) H1:=λitems p vs hq rr hd=>by
  refine#[p,rfl,#[vs,g1.fh.seq hq],h2 items _ F1 H1 g1 hd #[λk F' H' G hk=>?_,λk F' H' x H'' G hk hy=>?_,λF' H' G=>?_]]
  .have Ka:k<vs.length:=by rw[rr.length];exact hk
   exact#[vs,vs[k],G.hh.seq (g1.fh.seq hq),by simp[Ka]]
  .obtain⟨e,hy⟩:=hy;obtain⟨d,e2,r2⟩:=rr.get' (hy vs (G.hh.seq (g1.fh.seq hq)));exact#[e,d,e2,r2.mono G.ff]
  .exact#[vs,G.hh.seq (g1.fh.seq hq),by rw[rr.length];exact FR _]
 split at hd
 .obtain⟨p,vs,rfl,hq,rr⟩:=rep_lst.mp rd;exact key _ p vs (SqL.of hq) rr hd
 .obtain⟨p,vs,rfl,hq,rr⟩:=rep_rol.mp rd;exact key _ p vs hq rr hd
 .exact hd.elim
def itR[Jx]:ItOk K (pT (qm (lE K ti) tNil)) (dItR ti):=λ{s H B F z P Q} kf rs h1 h2=>by
 refine#[B,F,z,kf,rs,_,h1,λd v F1 H1 g1 hd rd=>?_];split at hd
 .rename_i n;obtain⟨⟨b1,b2⟩,hd⟩:=hd;have hl:((FQ n.toNat).map λk=>D.int ((k:Nat):Int)).length=n.toNat:=by simp
  refine#[n,by rw[rep_int.mp rd],JZ,b2,h2 _ _ F1 H1 g1 hd #[λk F' H' G hk=>by rw[hl]at hk;exact hk,λk F' H' x H'' G hk hy=>?_,λF' H' G=>by show n.toNat<=_;rw[hl];exact FR _]];rw[hl]at hk;obtain⟨e,rfl⟩:=hy;exact#[e,.int (k:Int),by simp[hk],rep_int.mpr (by congr 1;lia)]
 .exact hd.elim
def yF[Jx](hc:X.calm=true)(S:CompScope X scope x)(hi:WDE X iter ti)(he:∀cl s₀ H₀ fp,WDE (bW X scope cl x s₀ H₀ fp) gV te)(hs:autoParam (∀y,zFS X iter y) zA2):WDE X (.ListComp gV [#[.Name x px,iter,[],0]] scope pos) (se (dItL ti) te):=#[have hi:=hi.out;have he:=λcl s₀ H₀ fp=>(he cl s₀ H₀ fp).out;(rZ hc S (jx hi) (λ_ _ _ _=>kj) he hs).anti λs H Q q=>si (λ_ _ _=>cmpP.g) itL q]
def gD[Jx]{p1 p2:R4}(hc:X.calm=true)(S:CompScope X scope x)(hm:X.mg "range"=B_)(hi:WDE X iter ti)(he:∀cl s₀ H₀ fp,WDE (bW X scope cl x s₀ H₀ fp) gV te)(hg:autoParam (Gl X "range") zA0)
  (hs:autoParam (∀y,zFS X (.Call (.Name "range" p1) [iter] [] p2) y) zA2) (r_:autoParam (zSE X iter []) zA0) (f9:autoParam (RW [iter] X.env=[(false,R1 iter X.env)]) zA0):WDE X (.ListComp gV [#[.Name x px,.Call (.Name "range" p1) [iter] [] p2,[],0]] scope pos) (se (dItR ti) te):=#[have hi:=hi.out;have he:=λcl s₀ H₀ fp=>(he cl s₀ H₀ fp).out;(rZ hc S (jy hg hm (bn hi pa_nil r_) f9) (λ_ _ _ _=>kj) he hs).anti λs H Q q=>si (λ_ _ _=>cmpP.g) itR q]
end
def eo(scope fsc:Sm):List (Jj×SI):=scope.names.map λ(n,k)=>if(k==NameKind.free&&fsc.kind== .function&&fsc.names.lookup n==be .cell)then(n,NameKind.cell)else(n,k)
def visB(l:List (Jj×SI))(n:Jj):Bool:=l.lookup n==be .local||l.lookup n==be .cell||l.lookup n==be .free
def cN(scope fsc:Sm)(N:List Jj)(x:Jj):Bool:=
 scope.kind== .function&&scope.names.all (λy=>!(y.2== .cell))&&scope.names.all (λy=>!(y.2== .local)||scope.names.lookup y.1==be .local)&&scope.names.lookup x==be .local &&
 scope.names.all (λy=>!(y.2== .free)||fsc.names.lookup y.1==be .cell)&&N.all (λn=>decide (n=x)||!visB (eo scope fsc) n||scope.names.any (λy=>decide (y=(n,NameKind.free))))&&!visB (eo scope fsc) "" &&
 scope.names.all (λy=>!(y.2== .free)||(eo scope fsc).lookup y.1==be .cell)&&decide (N.map (λn=>if n=x then("":Jj)else n)++[x]).Nodup
def sj{l:List (Jj×SI)}{n:Jj}(h:l.lookup n=be .local\/l.lookup n=be .cell\/l.lookup n=be .free):visB l n=true:=by
 unfold visB;rcases h with h|h|h<;>rw[h]<;>rfl
def compScope{scope:Sm}{x:Jj}(h:cN scope X.env.scope X.N x=true):CompScope X scope x:=by
 unfold cN at h;simp only[Gj]at h;obtain⟨⟨⟨⟨⟨⟨⟨⟨h1,h2⟩,h3⟩,h4⟩,h5⟩,h6⟩,h7⟩,h8⟩,h9⟩:=h;have er:(T_ scope X.env).names=eo scope X.env.scope:=rfl;refine#[by simpa using h1,λy hy=>?_,λy hy e=>?_,by simpa using h4,λn hn=>?_,λn hn ne v=>?_,λv=>?_,λn hn=>?_,of_decide_eq_true h9]
 .have:=Gz.mp h2 y hy;simpa using this
 .have:=Gz.mp h3 y hy;rw[e]at this;simpa using this
 .have:=Gz.mp h5 _ hn;show X.env.scope.names.lookup n=be .cell;simpa using this
 .have:=Gz.mp h6 n hn;have v':visB (eo scope X.env.scope) n=true:=sj v;rw[v']at this;simp[ne]at this;exact this
 .have v':visB (eo scope X.env.scope) ""=true:=sj v;rw[v']at h7;cases h7
 .have:=Gz.mp h8 _ hn;rw[er];simpa using this
def putD(f:Jj)(v:D):List (Jj×D)->List (Jj×D)
 |[]=>[(f,v)]
 |(g,x)::r=>if g=f then(g,v)::r else(g,x)::putD f v r
def RepF.put{K:Ex}{F:Hp}{f:Jj}{d:D}{v:V}(r:Rep K F d v):∀{fs:List (Jj×D)} {ws:List (Jj×V)},RepF K F fs ws->RepF K F (putD f d fs) (putF f v ws)
 |[],ws,h=>by
  rw[repf_nil.mp h];exact repf_cons.mpr #[v,[],rfl,r,repf_nil.mpr rfl]
 |(g,x)::fs,ws,h=>by
  obtain⟨w,Kb,rfl,h1,h2⟩:=repf_cons.mp h;unfold putD putF;by_cases e:g=f
  .rw[if_pos e,if_pos e];exact repf_cons.mpr #[v,Kb,rfl,r,h2]
  .rw[if_neg e,if_neg e];exact repf_cons.mpr #[w,_,rfl,h1,RepF.put r h2]
def RepF.length{K:Ex}{F:Hp}:∀{fs:List (Jj×D)} {ws:List (Jj×V)},RepF K F fs ws->ws.length=fs.length
 |[],ws,h=>by rw[repf_nil.mp h];rfl
 |(g,x)::fs,ws,h=>by
  obtain⟨w,Kb,rfl,h1,h2⟩:=repf_cons.mp h;rw[FV,FV,RepF.length h2]
def ClsA(K:Ex)(x f:Jj):Prop:=∃C,nsIn K Pi x=be (be (.ref C))/\Cls K C/\NoAttr K C f
section
variable {X:Cx}{a b c e:P3}{ta tb tc te:TD}{pos:R4}
def dFld(x f:Jj)(te:TD):TD:=λz R=>te z λd=>match d with|.obj y fs=>y=x/\∃d,fs.lookup f=be d/\R d|_=>False
variable{x:Jj}
def et[Jx]{f:Jj}(h:ClsA X.K x f)(he:WDE X e te)(hb:autoParam (RZ e f X.env (R1 e X.env)=R1 e X.env) zA0):WDE X (.Attribute e f pos) (dFld x f te):=⟨have he:=he.out;(qk he hb).anti λs H Q q=>by
 obtain⟨C,hn,hc,hf⟩:=h;obtain⟨B,F,z,kf,rs,R,h1,h2⟩:=q;have fh:=kf.fh;refine#[B,F,z,kf,rs,_,h1,λd u F1 H1 g1 hx rx=>?_];split at hx
 .obtain⟨rfl,d,hl,hR⟩:=hx;obtain⟨a,C',dx,vs,rfl,f_,q,r⟩:=rep_obj.mp rx;rw[hn]at f_;cases f_;obtain⟨v,l,rv⟩:=r.look hl;exact#[a,C,dx,vs,v,rfl,g1.fh _ _ q,hc,hf,l,h2 d v F1 H1 g1 hR rv]
 .exact hx.elim⟩
def sk[Jx]{d:D}{v:V}{u:KB}(hm:X.mg x=be u)(r:RelV v u)(rd:∀H,Rep X.K H d v)(hg:autoParam (Gl X x) zA0)(hd:autoParam (zND x) zA1):DE X (.Name x pos) (dC d):=de_c (vL hg hm r hd) rd
def eA[Jx]{i:Int}(h:∃t,X.mg x=be (.int i t))(hg:autoParam (Gl X x) zA0)(hd:autoParam (zND x) zA1):WDE X (.Name x pos) (dC (.int i)):=⟨by
 obtain⟨t,h⟩:=h;exact sk (v:=.int i) h #[t,rfl] (λ_=>rep_int.mpr rfl) hg hd⟩
def eB[Jx]{y:Jj}(h:∃t,X.mg x=be (.str y t))(hg:autoParam (Gl X x) zA0)(hd:autoParam (zND x) zA1):WDE X (.Name x pos) (dC (.str y)):=⟨by
 obtain⟨t,h⟩:=h;exact sk (v:=.str y) h #[t,rfl] (λ_=>rep_str.mpr rfl) hg hd⟩
structure ClsI(K:Ex)(mg:Str->Option KB)(x:Str)(C:KF):Prop where
 ns:nsIn K Pi x=be (be (.ref C))
 mg:mg x=be (.ref C)
 cl:Cls K C
 ha:FS K (.ref C) "__class__"=be (be (.builtin "object.__class__"))
 hn:GL K (.builtin "object.__class__") "__get__"=be (be (.builtin "getset_descriptor.__get__"))
 htk:Ho K (.builtin "object.__class__")=be true
 hm:Gx K C (.type "object")=be true
 self:kitOne K (.ref C) (.ref C)=be true
end
abbrev SiD:=List D->(List (Jj×D)->Prop)->Prop
def lSi(K:Ex)(C:KF)(S:SiD):Sp:=λvs H Q _=>∃a dx us H1 F ds,vs=.ref a::us/\H=upd (upd H1 dx (.own a)) a (.ins C dx [])/\H1 a=B_/\H1 dx=B_/\dx≠a/\Same F H1/\Reps K F ds us/\
 ∃R:List (Jj×D)->Prop,S ds R/\∀fs ws Js F' H',Grow F H1 F' H'->R fs->H' a=be (.ins C Js ws)->F' a=B_->RepF K F' fs ws->Q .non H'
def CalM(P:RP)(w:RU)(K:Ex)(mg:Jj->Option KB)(base:Heap)(n:Nat)(x:Jj)(ps:List Jj)(S:SiD):Prop:=
 ∃C f fd,nsIn K Pi x=be (be (.ref C))/\mg x=be (.ref C)/\Mk K C f/\FnOk P w K mg base (Exc.CX1 P w) n f fd ps (lSi K C S)/\Binds K fd ps []
def yG(x:Jj)(S:SiD)(t:TDA):TD:=λz R=>t z λds=>S ds λfs=>R (.obj x fs)
def km[Jx]{pos:R4}{n m:Nat}{ps:List Jj}{S:SiD}{x:Jj}{p:R4}{e:P3}{es:List P3}{t:TDA}(M:CalM X.prog X.w X.K X.mg X.base n x ps S)(hr:Room m X.A)(ha:WDA X (e::es) t)(hg:autoParam (Gl X x) zA0)(hn:autoParam (n+1<=m) zA1)(c_:autoParam (zND x) zA1)
  (he:autoParam (zSE X e es) zA0) (c5:autoParam (zPL X pos es) zA0):WDE X (.Call (.Name x p) (e::es) [] pos) (yG x S t):=⟨by
 have ha:=ha.out;obtain⟨C,f,fd,hns,j4,mk,F,hb⟩:=M;refine(gd mk F (hr.mono hn) hg j4 hb .nil dS ha c_ he c5).anti λs H Q q=>?_;obtain⟨B,F,z,kf,rs,R,h1,h2⟩:=q;have fh:=kf.fh;refine#[B,F,z,kf,rs,_,h1,λds vs F1 H1 g1 hx rx=>?_];intro a dx ha n8 j7;refine#[a,dx,vs,H1,F1,ds,by rw[Gk],rfl,ha,n8,j7,g1.fh,rx,_,hx,λfs ws Js F' H' g hR d5 g8 rf=>#[rfl,?_]];have s1:Same F' (upd F' a (.ins C Js ws)):=aS g8 _;refine h2 (.obj x fs) (.ref a) (upd F' a (.ins C Js ws)) H' #[(g1.ff.trans g.ff).trans s1,λb o q=>?_,g1.hh.trans g.hh,λb q1 q2=>?_] hR (rep_obj.mpr #[a,C,Js,ws,rfl,hns,ax,RepF.mono s1 fs ws rf])
 .by_cases hb:b=a
  .subst hb;rw[ax]at q;cases q;exact d5
  .rw[aj hb]at q;exact g.fh b o q
 .by_cases hb:b=a
  .subst hb;exact absurd (g1.hh.free ha) q2
  .rw[aj hb];exact(g1.trans g).out b q1 q2⟩
abbrev TID:=SD->List (Jj×D)->(List (Jj×D)->Prop)->Prop
def lI(K:Ex)[J:Jx](x:Jj)(t:TID):TS:=λE σ H=>∃C a dx ws F z fs,nsIn K Pi x=be (be (.ref C))/\σ[0]?=be (be (.ref a))/\H a=be (.ins C dx ws)/\J.B a=B_/\F a=B_/\Kept J.B J.F0 F H/\RepS K J.B F H z σ/\RepF K F fs ws/\
 ∃R:List (Jj×D)->Prop,t z fs R/\∀k8 Kb F' H',Kept J.B J.F0 F' H'->R k8->H' a=be (.ins C dx Kb)->F' a=B_->RepF K F' k8 Kb->E.nx σ H'
abbrev DI(X:Cx)[Jx](x:Jj)(st:List RS)(t:TID):Prop:=PSs X st (lI X.K x t)
structure WDI(X:Cx)[Jx](x:Str)(st:List RS)(t:TID):Prop where
 out:DI X x st t
section
variable {X:Cx}{x f:Jj}{e:P3}{te:TD}{pos c7 p:R4}{rest:List RS}{tr:TID}
def so:TID:=λ_ fs R=>R fs
def yH(f:Jj)(te:TD)(tr:TID):TID:=λz fs R=>te z λd=>fs.length<1000/\tr z (putD f d fs) R
def dg[Jx]:WDI X x [] so:=⟨pss_nil.anti λE s H q=>by
 obtain⟨C,a,dx,ws,F,z,fs,hn,h0,d5,l9,g8,g,rs,rf,R,hR,k⟩:=q;exact k fs ws F H g hR d5 g8 rf⟩
def RepS.other{K:Ex}{B F H:Hp}{z:SD}{σ:L2.St}{a:KF}{o o':HO}(rs:RepS K B F H z σ)(h:H a=be o)(hl:∀vs,o≠.lst vs):RepS K B F (upd H a o') z σ:=
 ⟨rs.len,rs.val,λi ds e=>by
  obtain⟨b,vs,q1,q2,q⟩:=rs.own i ds e;have ne:b≠a:=by
   rintro rfl;rw[h]at q2;cases q2;exact hl vs rfl
  exact#[b,vs,q1,by rw[aj ne];exact q2,q],rs.apart⟩
def bI[J:Jx]{ps:R4}{sx:Jj}(hA:ClsA X.K x f)(he:WDE X e te)(hr:WDI X x rest tr)(hN:autoParam (X.N[0]?=be sx) zA0)(hv:autoParam (Vis X.env.scope sx) zA5)(hd:autoParam (zND sx) zA1)
  (e_:autoParam (zNC sx) zA1) (hs:autoParam (Sd e (be (.Attribute (.Name sx ps) f c7)) pos.line X.env=pure false) zA0):WDI X x (.Assign [.Attribute (.Name sx ps) f c7] e pos::rest) (yH f te tr):=⟨have he:=he.out;have hr:=hr.out;(dM (ql (cG (i:=0) hN hv hd e_) he hs) hr).anti λE s H q=>by
 obtain⟨C,a,dx,ws,F,z,fs,hn,h0,d5,l9,g8,g,rs,rf,R,hR,k⟩:=q;obtain⟨C',f_,hc,hf⟩:=hA;rw[hn]at f_;cases f_;refine#[_,F,z,g,rs,_,hR,λd v F2 H2 g2 hx rv=>?_];have k2:=g.grow g2;have O8:=g2.hh a _ d5;have Jr:F2 a=none:=g2.out a g8 (by rw[d5];exact λz=>nomatch z);refine#[.ref a,h0,a,C,dx,ws,rfl,O8,hc,hf,by rw[rf.length];exact hx.1,?_];have Qt:Same F2 (upd H2 a (.ins C dx (putF f v ws))):=λb o q=>by
  have ne:b≠a:=by rintro rfl;rw[Jr]at q;cases q
  rw[aj ne];exact g2.fh b o q
 have JK:Same J.B (upd H2 a (.ins C dx (putF f v ws))):=λb o q=>by
  have ne:b≠a:=by rintro rfl;rw[l9]at q;cases q
  rw[aj ne];exact k2.bh b o q
 exact#[C,a,dx,putF f v ws,F2,z,putD f d fs,hn,h0,ax,l9,Jr,#[JK,Qt,k2.f0,k2.out,k2.eb,k2.jf,k2.jo],(rs.grow g2).other O8 (λ_ z=>nomatch z),RepF.put rv (RepF.mono g2.ff fs ws rf),R,hx.2,k]⟩
end
section
variable {P:RP}{w:RU}{K:Ex}{mg:Jj->Option KB}{base:Heap}
def sq{K:Ex}{B F H:Hp}{z:SD}{σ:L2.St}{v:V}(rs:RepS K B F H z σ):RepS K B F H (B_::z) (be v::σ):=
  ⟨by rw[FV,FV,rs.len],λi d e no=>by
    cases i with
    |zero=>cases e
    |succ i=>exact rs.val i d e no,λi ds e=>by
    cases i with
    |zero=>cases e
    |succ i=>exact rs.own i ds e,λi j di dj a e1 e2 e3 e4=>by
    cases i with
    |zero=>cases e1
    |succ i=>
      cases j with
      |zero=>cases e2
      |succ j=>rw[rs.apart i j di dj a e1 e2 e3 e4]⟩
def Cls.okI{x qual:Jj}{st:RS}{f C:KF}{fd:R3}{N:List Jj}{p0:Jj}{ps:List Jj}{k:Nat}{S:SiD}(T:Fun K "__init__" qual st f fd)(hb:Binds K fd (p0::ps) [])(F:FnScope (p0::N) (p0::ps) (ag st))(len:∀ds R,S ds R->ds.length=ps.length)
  (hns:nsIn K Pi x=be (be (.ref C))) (j4:mg x=be (.ref C)) (mk:Mk K C f)
  (a8:∀(cdv:KB) (A:RV) (outer:List SL) (s:KM) (H:Hp) (E:XK) (J:Jx),Room k (A.deeper (R6 qual (ag st) s.heap.objs.size f cdv))->
   ∃t,DI (cxOf (Exc.CX1 P w) P w K mg base (p0::N) qual (ag st) f cdv A outer s H E).nox x (aG st) t/\∀ds R,S ds R->t (B_::startD N ds) [] R):CalM P w K mg base (k+1) x (p0::ps) S:=by
 refine#[C,f,fd,hns,j4,mk,Fun.okC T F (λvs H Q E h=>?_) (λcdv A outer s H vs Q E hr h=>?_),hb]
 .obtain⟨a,dx,us,H1,F,ds,rfl,_,_,_,_,_,rs,R,h,_⟩:=h;rw[FV,FV,rs.length,len ds R h]
 .obtain⟨a,dx,us,H1,F1,ds,rfl,rfl,ha,n8,j7,fh,rs,R,h,q⟩:=h
  letI:Jx:=#[H1,F1,λ_ _ _=>False]
  obtain⟨t,ht,hq⟩:=a8 cdv A outer s _ E inferInstance hr;have Fa:F1 a=none:=fh.free ha;have hl:L2.start (p0::N) (.ref a::us)=be (.ref a)::L2.start N us:=by
   unfold L2.start;rw[Gi,FV,FV,Ix];rfl
  have s1:Same H1 (upd (upd H1 dx (.own a)) a (.ins C dx [])):=(aS n8 _).trans (aS (by rw[aj (Ne.symm j7)];exact ha) _);refine#[_,ht.nox,C,a,dx,[],F1,B_::startD N ds,[],hns,by rw[hl];rfl,ax,ha,Fa,#[s1,fh.trans s1,Same.refl F1,λ_ h _=>h,rfl,Same.refl F1,λ_ h _=>h],?_,repf_nil.mpr rfl,R,hq ds R h,λk8 Kb F' H' g hR d5 g8 rf=>q k8 Kb dx F' H' #[g.f0,g.fh,g.bh,g.out] hR d5 g8 rf];rw[hl];exact sq (da rs)
end
section
variable {X:Cx}{a b c e:P3}{ta tb tc te:TD}{pos:R4}
def yI(t u:TD):TDI:=λz R=>t z λx=>u z λy=>match x,y with|.int i,.int j=>(-(2^62)<=i/\i<2^62/\-(2^62)<=j/\j<2^62)/\R ((FQ (j-i).toNat).map λk=>D.int (i+((k:Nat):Int)))|_,_=>False
def yJ[Jx](i:Nat){x:Jj}{p p1 p2:R4}{body:List RS}{O9:TSD}(hp:Se (RR X.prog X.w) X.A X.env X.xe)(hc:X.calm=true)(hN:X.N.Nodup)(hm:X.mg "range"=B_)(ha:WDE X a ta)(f6:WDE X b tb)(hb:WDSs X body O9)(hg:autoParam (Gl X "range") zA0)(hi:autoParam (X.N[i]?=be x) zA0)(hx:autoParam (Loc X.env.scope x) zA4)
  (hf:autoParam (zFN X x) zA3) (hs:autoParam (∀y,zFS X (.Call (.Name "range" p1) [a,b] [] p2) y) zA2) (r_:autoParam (zSE X a [b]) zA0) (M9:autoParam (zSE X b []) zA0) (f9:autoParam (RW [a,b] X.env=[(false,R1 a X.env),(false,R1 b X.env)]) zA0) (M_:autoParam (RW [b] X.env=[(false,R1 b X.env)]) zA0):WDS X (.For (.Name x p) (.Call (.Name "range" p1) [a,b] [] p2) body [] pos) (dFor i (yI ta tb) O9):=⟨have ha:=ha.out;have f6:=f6.out;have hb:=hb.out;(cH hp hc (wj hg hm (bn ha (bn f6 pa_nil M9) r_) f9 M_) (cZ hN hi hx hf) hb hs).anti λE s H q=>by
 obtain⟨B,F0,F,z,kp,rs,ED,h,e⟩:=q;refine#[B,F,z,kp.kf,rs,_,h,λd1 v1 F1 H1 g1 h1 r1=>?_];refine#[B,F1,z,kp.kf.grow g1,rs.grow g1,_,h1,λd2 v2 F2 H2 g2 h2 r2=>?_];split at h2
 .rename_i lo g9;obtain⟨bd,W,w0,c3,out⟩:=h2;have hl:((FQ (g9-lo).toNat).map λk=>D.int (lo+((k:Nat):Int))).length=(g9-lo).toNat:=by simp
  refine#[lo,g9,by rw[rep_int.mp r1,rep_int.mp r2],bd,jA (lo:=lo) (n:=(g9-lo).toNat) (λk s' H'=>∃F' z',Kept B F0 F' H'/\RepS X.K B F' H' z' s'/\W k z') #[F2,z,(kp.grow g1).grow g2,(rs.grow g1).grow g2,w0] ?_ ?_]
  .rintro k s' H' hk⟨F',z',k',r',w'⟩;exact#[B,F0,F',_,k',r'.set (d:=.int (lo+(k:Int))) (rep_int.mpr rfl),_,c3 k (.int (lo+(k:Int))) z' (by simp[hk]) w',#[λz3 s3 F3 H3 k3 h3 r3=>#[F3,z3,k3,r3,h3],e.rt,e.nx,λz3 s3 F3 H3 k3 h3 r3=>#[F3,z3,k3,r3,h3]]]
  .rintro s' H'⟨F',z',k',r',w'⟩;exact e.nx z' s' F' H' k' (out z' (by rw[hl];exact w')) r'
 .exact h2.elim⟩
def RepS.change[Jx]{K:Ex}{B F0 F H:Hp}{z:SD}{s:L2.St}{i:Nat}{ds Na:List D}{a:KF}{l_:List V}(rs:RepS K B F H z s)(k:Kept B F0 F H)(ez:z[i]?=be (be (.own ds)))(q1:s[i]?=be (be (.ref a)))(hB:B a=B_)(hF:F a=B_)(r:Reps K F Na l_):
  Kept B F0 F (upd H a (.lst l_))/\RepS K B F (upd H a (.lst l_)) (z.set i (be (.own Na))) s:=by
 have same:∀{G:Hp},G a=B_->Same G H->Same G (upd H a (.lst l_)):=λ{G} ga gs b o eb=>by
  have ne:b≠a:=λz=>by rw[z,ga]at eb;cases eb
  rw[aj ne];exact gs b o eb
 have r2:=rs.setOwn (i:=i) (a:=a) (vs:=l_) (ds:=Na) hB hF r (λj dj hj e1 e2=>hj (rs.apart j i dj ds a e1 ez e2 q1));have es:s.set i (be (.ref a))=s:=by
  apply GP;intro n;by_cases hn:i=n
  .subst hn;rw[Gs (F7.mp q1).1,q1]
  .rw[F5 hn]
 rw[es]at r2;exact#[#[same hB k.bh,same hF k.fh,k.f0,k.out,k.eb,k.jf,k.jo],r2]
def Reps.put{K:Ex}{F:Hp}{d:D}{v:V}(r:Rep K F d v):∀{ds:List D} {vs:List V} (j:Nat),Reps K F ds vs->Reps K F (ds.set j d) (vs.set j v)
 |[],vs,j,h=>by rw[reps_nil.mp h];exact reps_nil.mpr rfl
 |x::ds,vs,0,h=>by
  obtain⟨u,us,rfl,h1,h2⟩:=reps_cons.mp h;exact reps_cons.mpr #[v,us,rfl,r,h2]
 |x::ds,vs,j+1,h=>by
  obtain⟨u,us,rfl,h1,h2⟩:=reps_cons.mp h;exact reps_cons.mpr #[u,_,rfl,h1,Reps.put r j h2]
def sr(i:Nat)(te ti:TD):TSD:=λE z=>match z[i]? with
 |some (be (.own ds))=>te z λd=>ti z λy=>match y with|.int k=>∃j,ixN ds.length k=be j/\E.nx (z.set i (be (.own (ds.set j d))))|_=>False
 |_=>False
def yL[Jx](i:Nat){x:Jj}{p1 p2:R4}(he:WDE X e te)(hb:WDE X b tb)(hN:autoParam (X.N[i]?=be x) zA0)(hv:autoParam (Vis X.env.scope x) zA5)(hd:autoParam (zND x) zA1)
  (e_:autoParam (zNC x) zA1)
  (ha:∀v,So (.Subscript (.Name x p1) b p2) X.env v=(do
   let ov <-Si [v] (R1 (.Name x p1) X.env)
   let iv <-Si [v,ov] (R1 b X.env)
   SA p2
   Si [v,ov,iv] (Tf ov iv v)
   Tw [v,ov,iv] []):=by intro _;rfl)
  (hs:autoParam (Sy [.Subscript (.Name x p1) b p2] e pos.line X.env=pure false) zA0) (hw:autoParam (Sz [.Subscript (.Name x p1) b p2] e X.env=pure none) zA0)
  (h1:autoParam ((RY [.Subscript (.Name x p1) b p2] X.env).map (·.2)=[So (.Subscript (.Name x p1) b p2) X.env]) zA0):WDS X (.Assign [.Subscript (.Name x p1) b p2] e pos) (sr i te tb):=⟨have he:=he.out;have hb:=hb.out;(eY he (pP (cG hN hv hd e_) hb jI ha) hs hw h1).anti λE s H q=>by
 obtain⟨B,F0,F,z,k,rs,ED,h,e⟩:=q;unfold sr at h;split at h
 .rename_i ds ez;refine#[B,F,z,k.kf,rs,_,h,λd v F1 H1 g1 hx rv=>?_];obtain⟨a,vs,q1,q2,q3,q4,q5⟩:=(rs.grow g1).own i ds ez;refine#[.ref a,q1,B,F1,z,k.kf.grow g1,rs.grow g1,_,hx,λy w F2 H2 g2 hy ry=>?_];split at hy
  .obtain⟨j,ej,hn⟩:=hy;have r2:=(rs.grow g1).grow g2;have k2:=(k.grow g1).grow g2;have Jr:F2 a=none:=g2.out a q4 (by rw[q2];exact λz=>nomatch z);refine#[a,vs,_,j,rfl,rep_int.mp ry,g2.hh _ _ q2,by rw[q5.length];exact ej,?_];obtain⟨k3,r3⟩:=r2.change k2 ez q1 q3 Jr (Reps.put (rv.mono g2.ff) j (q5.mono g2.ff));exact e.nx _ s F2 _ k3 hn r3
  .exact hy.elim
 .exact h.elim⟩
end
end My
namespace My
open Exc
abbrev XD:=Jj->List (Jj×D)->Prop
def ErrD(K:Ex)(F:Hp)(x:Jj)(fs:List (Jj×D))(C:KF)(od:Option KF):Prop:=
 nsIn K Pi x=be (be (.ref C))/\∃vs,RepF K F fs vs/\((od=B_/\vs=[])\/∃b,od=be b/\F b=be (.xd vs))
abbrev SpX:=List D->(D->Prop)->XD->Prop
def lSpX(K:Ex)(S:SpX):Sp:=λvs H Q E=>∃F ds,Same F H/\Reps K F ds vs/\∃(R:D->Prop) (RX:XD),S ds R RX/\(∀d v F' H',Grow F H F' H'->R d->Rep K F' d v->Q v H')/\
 ∀x fs C od F' H',Grow F H F' H'->RX x fs->ErrD K F' x fs C od->E (.ref C) od H'
def Exd(X:Cx)(H:Hp)(s:KM)(e C:KF)(od:Option KF):Prop:=
  H e=B_/\X.s₀.heap.get? e=B_/\(∀p∈X.pn,p.1≠e)/\
  ((∃sl vs,s.heap.get? e=be #[.ref C,od,.fields vs,sl]/\vs[1]?=be .none)\/
    ∃T,ExAt s.heap e C od T .none/\X.s₀.heap.get? T=B_/\H T=B_/\∀p∈X.pn,p.1≠T)
def XOk(X:Cx)[J:Jx]:Prop:=∀(σ:L2.St) (z:SD) (F H:Hp) (s:KM) (e C:KF) (od:Option KF) (x:Jj) (fs:List (Jj×D)),Inv X [] σ H s->Kept J.B J.F0 F H->RepS X.K J.B F H z σ->J.RX z x fs->ErrD X.K F x fs C od->Exd X H s e C od->X.xe (.ref e) s
variable{X:Cx}{pins:List (KF×R_)}{σ:L2.St}{H:Hp}{s:KM}
def Inv.nopins(I:Inv X pins σ H s):Inv X [] σ H s:=I.pins_of λp hp=>by cases hp
section
variable {X:Cx}{k:Nat}{f:KF}{fd:R3}{ps:List Jj}{sp:Sp}{E:XK}
def gE{pins:List (KF×R_)}{σ:L2.St}{H:Hp}{s:KM}{Q:VK}{us:List KB}{vs:List V}(F:FnOk X.prog X.w X.K X.mg X.base (CX1 X.prog X.w) k f fd ps sp)(hr:Room k X.A)(hb:Binds X.K fd ps [])
  (hx:∀e s',CX1 X.prog X.w X.stack H s E e s'->X.xe e s') (I:Inv X pins σ H s) (r:Vals vs us) (h:sp vs H Q E):RT (RR X.prog X.w) X.A (call (.ref f) us) (EP X pins σ Q) X.xe s:=by
 have hl:us.length=ps.length:=by rw[<-L2.Vals.length r];exact F.len _ _ _ _ h
 have f6:=hb s us I.kIn (by rw[Gk];exact hl);rw[Gk]at f6;refine Sw (Ss (F.run X.A X.stack s H #[us,[]] us vs Q E hr I.env0 f6 r h) λr s' hq=>?_);cases r with
 |error e=>exact hx e s' hq
 |ok fl=>
  cases fl with
  |ret u=>exact I.after hq
  |next=>exact False.elim hq
  |brk=>exact False.elim hq
  |cont=>exact False.elim hq
end
variable{b:KF}
def cA(I:Inv X pins σ H s)(d4:X.ex=[])(q:s.heap.get? b=B_):X.s₀.heap.get? b=none:=by
 cases z:X.s₀.heap.get? b with
 |none=>rfl
 |some o=>
  obtain⟨o',z'⟩:=I.base.there b o z (by rw[d4];simp);rw[q]at z';cases z'
def pn_free(I:Inv X pins σ H s)(q:s.heap.get? b=B_):∀p∈X.pn,p.1≠b:=λp hp z=>by
 have:=(I.pin p (G8 _ hp)).1;rw[z,q]at this;cases this
def XOk.out[J:Jx](hx:XOk X)(d4:X.ex=[]){z:SD}{s':KM}{ev:KB}(I:Inv X pins σ H s)
  (h:CX1 X.prog X.w X.stack H s (λCv od H'=>∃x fs C F',Cv=.ref C/\Kept J.B J.F0 F' H'/\RepS X.K J.B F' H' z σ/\J.RX z x fs/\ErrD X.K F' x fs C od) ev s'):X.xe ev s':=by
 obtain⟨e,C,od,T,H',rfl,Jl,hb,un,hok,Nb,ne,nT,He,HT,x,fs,C',F',hC,kk,rr,hR,er⟩:=h;cases hC;have I':Inv X pins σ H' s':=I.call' Jl un hok hb (λb z=>absurd z J8);exact hx σ z F' H' s' e C od x fs (Inv.nopins I') kk rr hR er #[He,cA I d4 ne,pn_free I ne,.inr #[T,Nb,cA I d4 nT,HT,pn_free I nT]]
abbrev CalX(P:RP)(w:RU)(K:Ex)(mg:Jj->Option KB)(base:Heap)(n:Nat)(x:Jj)(ps:List Jj)(S:SpX):Prop:=Cal P w K mg base n x ps (lSpX K S)
def yM[J:Jx](S:SpX)(t:TDA):TD:=λz R=>t z λds=>S ds R (J.RX z)
variable{ps:List Jj}{x:Jj}
def ss[J:Jx]{pos:R4}{n m:Nat}{S:SpX}{p:R4}{e:P3}{es:List P3}{t:TDA}(C:CalX X.prog X.w X.K X.mg X.base n x ps S)(hx:XOk X)(hr:Room m X.A)(ha:WDA X (e::es) t)(d4:autoParam (X.ex=[]) zA0)(hg:autoParam (Gl X x) zA0)(hn:autoParam (n<=m) zA1)(c_:autoParam (zND x) zA1)
  (he:autoParam (zSE X e es) zA0) (c5:autoParam (zPL X pos es) zA0):WDE X (.Call (.Name x p) (e::es) [] pos) (yM S t):=⟨by
 have ha:=ha.out;obtain⟨f,fd,F,hb,hk,hm⟩:=C;intro pins s σ H Q I h;obtain⟨B,Fr,z,kf,rs,R,h1,h2⟩:=h;obtain rfl:B=J.B:=kf.eb;refine R5 (cn I hg hm ?_ c_);refine callWith_K (h₀:=X.base) I.ok.mod.kin hk (thn (ha pos pins s σ H (λvs H1=>lSpX X.K S vs H1 Q (λCv od H'=>∃x fs C F',Cv=.ref C/\Kept J.B J.F0 F' H'/\RepS X.K J.B F' H' z σ/\J.RX z x fs/\ErrD X.K F' x fs C od)) I #[_,Fr,z,kf,rs,_,h1,λds vs F1 H1 g1 hx rx=>?_]) λus s1 ⟨vs,H1,I1,r,q⟩=>#[I1.kIn,?_]) he c5
 .exact#[F1,ds,g1.fh,rx,R,J.RX z,hx,λd v F' H' g=>h2 d v F' H' (g1.trans g),λx fs C od F' H' g hR er=>#[x,fs,C,F',rfl,(kf.grow g1).grow g,(rs.grow g1).grow g,hR,er]]
 .exact gE F (hr.mono hn) hb (λe s' hq=>hx.out d4 I1 hq) I1 r q⟩
section
variable {P:RP}{w:RU}{K:Ex}{mg:Jj->Option KB}{base:Heap}
variable{N:List Jj}
def su{qual:Jj}{scope:Sm}{f:KF}{cd:KB}{A:RV}{outer:List SL}{s:KM}{H:Hp}{E':XK}{pins:List (KF×R_)}{σ:L2.St}{H':Hp}{s':KM}{e C T:KF}{od:Option KF}
  (I':Inv (cxOf (CX1 P w) P w K mg base N qual scope f cd A outer s H E') pins σ H' s') (hx:ExAt s'.heap e C od T .none) (ne:s.heap.get? e=B_) (nT:s.heap.get? T=B_) (He:H' e=B_) (HT:H' T=B_) (hE:E' (.ref C) od H'):
  (cxOf (CX1 P w) P w K mg base N qual scope f cd A outer s H E').xe (.ref e) s':=by
 show RT _ _ (Tz _ _) _ _ _;unfold Tz;refine Os (qN I'.ok.frames I'.stack rfl hx λh2 T2 m_ w_ q9=>flight_none (s:={s' with heap:=h2}) m_ λh3 Le C_=>?_);have Jo:s'.heap.get? T2=none:=Heap.get?_none_of_le w_;have f1:∀b,s'.heap.get? b=B_->s.heap.get? b=none:=λb q=>cA I' rfl q;have hok:HOk P w H' s'.heap:=I'.hok;have JJ:H' T2=none:=hok.fresh w_;have Qu:∀b∈[T,e],s.heap.get? b=none:=λb hb=>by
  rcases FT.mp hb with z|z
  .rw[z];exact nT
  .rw[FP.mp z];exact ne
 have u2:Un (frs outer) [] H H' s.heap h2:=gh (show Un (frs outer) [] H H' s.heap s'.heap from I'.base) q9 Qu λb hb=>qO hb;have u3:Un (frs outer) [] H H' s.heap h3:=gh u2 C_ (λb hb=>by rw[FP.mp hb];exact f1 T2 Jo) λb hb=>by cases hb
 have k2:=fj hok q9 (λb hb=>I'.stkFree b hb) (λb hb=>by
  rcases FT.mp hb with z|z
  .rw[z];exact HT
  .rw[FP.mp z];exact He)
 have k3:=fj k2 C_ (λb hb=>by cases hb) (λb hb=>by rw[FP.mp hb];exact JJ);exact#[e,C,od,T2,H',rfl,I'.os,I'.bare,u3,k3,Le,ne,f1 T2 Jo,He,JJ,hE]
variable{ps:List Jj}
def _root_.L2.Fun.okX{x:Jj}{st:RS}{f:KF}{fd:R3}{k:Nat}{S:SpX}(T:Fun K x x st f fd)(F:FnScope N ps (ag st))(len:∀ds R RX,S ds R RX->ds.length=ps.length)
  (a8:∀(cdv:KB) (A:RV) (outer:List SL) (s:KM) (H:Hp) (E:XK) (J:Jx),Room k (A.deeper (R6 x (ag st) s.heap.objs.size f cdv))->XOk (cxOf (CX1 P w) P w K mg base N x (ag st) f cdv A outer s H E)->
   ∃t,DSs (cxOf (CX1 P w) P w K mg base N x (ag st) f cdv A outer s H E) (aG st) t/\∀ds R RX,(∀z,J.RX z=RX)->S ds R RX->t {nx:=λ_=>R .non,rt:=R} (startD N ds)):FnOk P w K mg base (CX1 P w) (k+1) f fd ps (lSpX K S):=by
 refine Fun.okC T F (λvs H Q E h=>?_) (λcdv A outer s H vs Q E hr h=>?_)
 .obtain⟨F,ds,fh,rs,R,RX,h,_⟩:=h;rw[rs.length];exact len ds R RX h
 .obtain⟨F,ds,fh,rs,R,RX,h,q,qx⟩:=h
  letI:Jx:=#[H,F,λ_=>RX]
  have hx:XOk (cxOf (CX1 P w) P w K mg base N x (ag st) f cdv A outer s H E):=by
   intro σ z F' H' s' e C od y fs I kk rr hR er ⟨He,ne,_,hx⟩;have hE:E (.ref C) od H':=qx y fs C od F' H' #[kk.f0,kk.fh,kk.bh,kk.out] hR er;rcases hx with⟨sl,vs,h1,h2⟩|⟨T,h1,h2,h3,_⟩
   .exact qP I h1 h2 He ne hE
   .exact su I h1 ne h2 He h3 hE
  obtain⟨t,ht,hq⟩:=a8 cdv A outer s H E inferInstance hr hx;refine#[_,ht,H,F,F,startD N ds,#[Same.refl H,fh,Same.refl F,λ_ h _=>h,rfl,Same.refl F,λ_ h _=>h],da rs,_,hq ds R RX (λ_=>rfl) h,#[λz' s' F' H' k hn _=>q _ _ F' H' #[k.f0,k.fh,k.bh,k.out] hn (rep_non.mpr rfl),λd v F' H' k hd rd=>q d v F' H' #[k.f0,k.fh,k.bh,k.out] hd rd,λ_ _ _ _ _ h _=>h.elim,λ_ _ _ _ _ h _=>h.elim]]
def Tx.okX{x:Jj}{st:RS}{k:Nat}{S:SpX}(T:Tx K mg x st ps)(F:FnScope N ps (ag st))(len:∀ds R RX,S ds R RX->ds.length=ps.length)
  (a8:∀(f:KF) (cdv:KB) (A:RV) (outer:List SL) (s:KM) (H:Hp) (E:XK) (J:Jx),Room k (A.deeper (R6 x (ag st) s.heap.objs.size f cdv))->XOk (cxOf (CX1 P w) P w K mg base N x (ag st) f cdv A outer s H E)->
   ∃t,DSs (cxOf (CX1 P w) P w K mg base N x (ag st) f cdv A outer s H E) (aG st) t/\∀ds R RX,(∀z,J.RX z=RX)->S ds R RX->t {nx:=λ_=>R .non,rt:=R} (startD N ds)):CalX P w K mg base (k+1) x ps S:=by
 obtain⟨f,fd,T,hb,hm⟩:=T;exact#[f,fd,T.okX F len λcdv A outer s H E J hr hx=>a8 f cdv A outer s H E J hr hx,hb,T.kp,hm]
end
variable{P:RP}{w:RU}{h:Heap}
def ObjOk.there{a:KF}{o:HO}(x:ObjOk P w H h a o):∃u,h.get? a=be u:=by
 cases o with
 |lst xs=>obtain⟨_,_,_,_,e⟩:=x;exact#[_,e]
 |tup xs=>obtain⟨_,_,_,o,e,_⟩:=x;exact#[_,e]
 |dK a9=>obtain⟨_,_,_,_,o,_,_,e,_⟩:=x;exact#[_,e]
 |dT a9=>obtain⟨_,_,_,_,o,_,_,e,_⟩:=x;exact#[_,e]
 |set S n=>obtain⟨o,_,_,_,e,_⟩:=x;exact#[_,e]
 |ins C dx fs=>obtain⟨_,_,_,e,_⟩:=x;exact#[_,e]
 |own y=>exact x
 |xd fs=>obtain⟨_,⟨_,_,_,e,_⟩,_⟩:=x;exact#[_,e]
 |rng lo hi=>obtain⟨_,_,_,e⟩:=x;exact#[_,e]
 |frz ob u=>obtain⟨e,_⟩:=x;exact#[_,e]
 |tbl ps=>exact#[_,(show h.get? a=be _ from x)]
 |met f y=>exact#[_,(show h.get? a=be _ from x)]
 |ext φ=>obtain⟨_,e,_⟩:=x;exact e
def ft{a:KF}(x:HOk P w H h)(e:h.get? a=B_):H a=none:=by
 cases q:H a with
 |none=>rfl
 |some o=>
  obtain⟨u,hu⟩:=ObjOk.there (x a o q);rw[e]at hu;cases hu
def del(H:Hp)(a:KF):Hp:=λb=>if b=a then B_ else H b
def fu{a:KF}:del H a a=none:=by unfold del;rw[if_pos rfl]
def ca{a:KF}(h:b≠a):del H a b=H b:=by unfold del;rw[if_neg h]
section
variable {X:Cx}{pins:List (KF×R_)}{σ:L2.St}{H:Hp}{s:KM}{e:KF}
variable{φ:Heap->Prop}
def Inv.drop(I:Inv X pins σ H s)(h:H e=be (.ext φ))(ne:X.s₀.heap.get? e=B_):Inv X pins σ (del H e) s:=by
 have nx:∀b o,H b=be o->(∀φ,o≠.ext φ)->b≠e:=λb o q n z=>by rw[z,h]at q;cases q;exact n φ rfl
 refine#[I.ok,I.os,I.bare,#[I.base.keep,I.base.slot,λb o q n hx=>?_,I.base.there,λb xs q=>?_,λb o u q=>?_,λb ps q=>?_],I.loc,I.cell,?_,λx c q=>?_,λp hp=>?_,λa o q=>?_,I.len]
 .have:b≠e:=λz=>by rw[z,ne]at q;cases q
  rw[ca this];exact I.base.free b o q n hx
 .have:=I.base.tups b xs q;rw[ca (nx b _ this λφ z=>nomatch z)];exact this
 .have:=I.base.frzs b o u q;rw[ca (nx b _ this λφ z=>nomatch z)];exact this
 .obtain⟨m,this⟩:=I.base.tbls b ps q;exact#[m,by rw[ca (nx b _ this λφ z=>nomatch z)];exact this]
 .by_cases z:X.env.locals=e
  .rw[z];exact fu
  .rw[ca z];exact I.free
 .by_cases z:c=e
  .rw[z];exact fu
  .rw[ca z];exact I.freeC x c q
 .obtain⟨h1,h2,h3⟩:=I.pin p hp;refine#[h1,?_,h3];by_cases z:p.1=e
  .rw[z];exact fu
  .rw[ca z];exact h2
 .by_cases z:a=e
  .rw[z,fu]at q;cases q
  .rw[ca z]at q;exact(I.hok a o q).stay (λb u _ r=>r) (λb r=>by rw[ca (nx b _ r λφ z=>nomatch z)];exact r) λb xs r=>by rw[ca (nx b _ r λφ z=>nomatch z)];exact r
def Inv.adopt(I:Inv X pins σ H s)(He:H e=B_)(ok:ObjOk X.prog X.w H s.heap e (.ext φ))(ne:X.s₀.heap.get? e=B_)(hl:e≠X.env.locals)(hc:∀x c,X.env.cells.lookup x=be c->c≠e)(hp:∀p∈X.pn++pins,p.1≠e):Inv X pins σ (upd H e (.ext φ)) s:=by
 refine#[I.ok,I.os,I.bare,#[I.base.keep,I.base.slot,λb o q n hx=>?_,I.base.there,λb xs q=>?_,λb o u q=>?_,λb ps q=>?_],I.loc,I.cell,?_,λx c q=>?_,λp Kv=>?_,λa o q=>?_,I.len]
 .have:b≠e:=λz=>by rw[z,ne]at q;cases q
  rw[aj this];exact I.base.free b o q n hx
 .have:=I.base.tups b xs q;rw[aj (bC this He)];exact this
 .have:=I.base.frzs b o u q;rw[aj (bC this He)];exact this
 .obtain⟨m,this⟩:=I.base.tbls b ps q;exact#[m,by rw[aj (bC this He)];exact this]
 .rw[aj (Ne.symm hl)];exact I.free
 .rw[aj (hc x c q)];exact I.freeC x c q
 .obtain⟨h1,h2,h3⟩:=I.pin p Kv;refine#[h1,?_,h3];rw[aj (hp p Kv)];exact h2
 .by_cases z:a=e
  .rw[z,ax]at q;cases q;rw[z];exact ok
  .rw[aj z]at q;exact(I.hok a o q).stay (λb u _ r=>r) (λb r=>by rw[aj (bC r He)];exact r) λb xs r=>by rw[aj (bC r He)];exact r
end
structure ErrK(K:Ex)(mg:Str->Option KB)(x:Str)(C N:KF)(bm:List KB):Prop where
 ns:nsIn K Pi x=be (be (.ref C))
 mg:mg x=be (.ref C)
 kp:keepIn K (.ref C)=true
 obj:∃nm q bs sn sub ab col dd k0 k1 k2 k3 k5,K.lookup C=be (Sf nm q C N bs bm true sn sub ab col dd k0 k1 k2 k3 k5 "ValueError.__new__")
 tail:tailIn K veLine bm=true
structure ErrN(K:Ex)(N:KF):Prop where
 ok:nsOkIn K N=true
 no:nsIn K N "__init__"=be B_
def ko{K:Ex}:∀{l:List KB},tailIn K veLine l=true->aK l=true
 |[],e=>by simp[tailIn,veLine]at e
 |v::r,e=>by
  unfold tailIn at e;rcases Bool.or_eq_true_iff.mp e with q|q
  .rw[beq_iff_eq.mp q];decide+kernel
  .split at q
   .split at q
    .simp only[Gj,beq_iff_eq]at q;unfold aK;exact ko q.2
    .cases q
   .cases q
variable{K:Ex}{mg:Jj->Option KB}{C N:KF}{bm:List KB}
def ErrK.base(k:ErrK K mg x C N bm):bm.contains (.type "BaseException")=true:=dR J3 (ko k.tail)
section
variable {X:Cx}[J:Jx]{x:Jj}{C N:KF}{bm:List KB}{e:P3}{es:List P3}{t:TDA}{p cpos pos:R4}
def yO(x:Jj)(t:TDA):TSD:=λ_ z=>t z λds=>ds.length<=1000/\J.RX z x []
def yQ(h:∃C N bm,ErrK X.K X.mg x C N bm/\ErrN X.K N)(hx:XOk X)(hc:X.calm=true)(ha:WDA X (e::es) t)(d4:autoParam (X.ex=[]) zA0)(hg:autoParam (Gl X x) zA0)(c_:autoParam (zND x) zA1)
  (he:autoParam (zSE X e es) zA0) (c5:autoParam (zPL X cpos es) zA0):WDS X (.Raise (be (.Call (.Name x p) (e::es) [] cpos)) B_ pos) (yO x t):=⟨by
 have ha:=ha.out;obtain⟨C,N,bm,k,kn⟩:=h;intro pins s σ H D I h;obtain⟨B,F0,F,z,kf,rs,ED,h,ee⟩:=h;obtain rfl:B=J.B:=kf.eb;obtain⟨nm,q,bs,sn,sub,ab,col,dd,k0,k1,k2,k3,k5,lk⟩:=k.obj;refine jP (nm:=nm) (q:=q) (C:=C) (N:=N) (bs:=bs) (bm:=bm) (hdct:=true) (sn:=sn) (sub:=sub) (ab:=ab) (col:=col) (dd:=dd) (k0:=k0) (k1:=k1) (k2:=k2) (k3:=k3) (k5:=k5) (newId:="ValueError.__new__") k.base (I.ok.hd hc) ?_;refine R5 (cn I hg k.mg ?_ c_);refine callWith_K (h₀:=X.base) I.ok.mod.kin k.kp (thn (ha cpos pins s σ H (λvs H1=>∃F1,vs.length<=1000/\Grow F H F1 H1/\J.RX z x []) I #[_,F,z,kf.kf,rs,_,h,λds vs F1 H1 g1 hx rx=>#[F1,by rw[rx.length];exact hx.1,g1,hx.2]]) λus s1 hh=>#[hh.elim λ_ h=>h.elim λ_ h=>h.1.kIn,?_]) he c5;obtain⟨vs,H1,I1,r,F1,hl,g1,hR⟩:=hh;have hC:=I1.kIn _ _ lk;obtain⟨hp,gg,dr,tk,os⟩:=s1;refine TZ PySem.F.excBase_ValueError (tail_of_in I1.kIn k.tail) hC (.of_isNs (isNs_of_in I1.kIn kn.ok)) (nsMap_none_of_in I1.kIn kn.ok kn.no) (λh' ea hm=>?_) (by show us.length<=_;rw[<-L2.Vals.length r];exact sz hl);obtain⟨ta,h1,h2,h3⟩:=hm.there;have I2:Inv X pins σ H1 #[h',gg,dr,tk,os]:=I1.kept (t':=tk) hm.keeps;refine#[ea,ta,B_,[].toArray,rfl,hm.keeps _ _ hC,h1,?_];exact hx σ z F1 H1 _ ea C B_ x [] (Inv.nopins I2) (kf.kf.grow g1) (rs.grow g1) hR #[k.ns,[],repf_nil.mpr rfl,.inl #[rfl,rfl]] #[ft I1.hok hm.new,cA I1 d4 hm.new,pn_free I1 hm.new,.inl #[[].toArray,_,h1,rfl]]⟩
end
def XN(e C:KF)(od:Option KF):HO:=.ext λh=>∃t sl,h.get? e=be #[.ref C,od,.fields [.ref t,.none,.none,.none,.bool false,.none].toArray,sl]
variable{e:KF}{od:Option KF}{sl:Array (Option KB)}
def XN.ok{t:KF}(q:h.get? e=be #[.ref C,od,.fields [.ref t,.none,.none,.none,.bool false,.none].toArray,sl]):ObjOk P w H h e (XN e C od):=
 #[#[t,sl,q],#[_,q],λh1 h2 ⟨t,sl,q⟩ k=>#[t,sl,k _ q]]
def XN.get(x:HOk P w H h)(q:H e=be (XN e C od)):∃t sl,h.get? e=be #[.ref C,od,.fields [.ref t,.none,.none,.none,.bool false,.none].toArray,sl]:=(x e _ q).1
def ErrF(K:Ex)(F:Hp)(fs:List (Jj×D))(od:Option KF):Prop:=∃vs,RepF K F fs vs/\((od=B_/\vs=[])\/∃b,od=be b/\F b=be (.xd vs))
def lEi(K:Ex)(C:KF)(S:SiD):Sp:=λvs H Q _=>∃e us H1 F ds,vs=.ref e::us/\H=upd H1 e (XN e C B_)/\H1 e=B_/\Same F H1/\Reps K F ds us/\
 ∃R:List (Jj×D)->Prop,S ds R/\∀fs od F' H',Grow F H1 F' H'->R fs->H' e=be (XN e C od)->F' e=B_->ErrF K F' fs od->Q .non H'
def CalE(P:RP)(w:RU)(K:Ex)(mg:Jj->Option KB)(base:Heap)(n:Nat)(x:Jj)(ps:List Jj)(S:SiD):Prop:=
 ∃C N bm f fd,ErrK K mg x C N bm/\FS K (.ref C) "__init__"=be (be (.ref f))/\isFn K (.ref f)=true/\FnOk P w K mg base (CX1 P w) n f fd ps (lEi K C S)/\Binds K fd ps []
section
variable {X:Cx}{pins:List (KF×R_)}{σ:L2.St}{H:Hp}{s:KM}{e:KF}
def Inv.newx{C:KF}{h':Heap}{us:List KB}(I:Inv X pins σ H s)(d4:X.ex=[])(hm:Heap.MadeExcOf s.heap h' e (.ref C) us):Inv X pins σ (upd H e (XN e C B_)) {s with heap:=h'}:=by
 obtain⟨ta,h1,h2,h3⟩:=hm.there;have I2:Inv X pins σ H {s with heap:=h'}:=I.kept (t':=s.toks) hm.keeps;refine Inv.adopt I2 (ft I.hok hm.new) (XN.ok h1) (cA I d4 hm.new) (λz=>?_) (λx c q z=>?_) λp hp z=>?_
 .obtain⟨m,⟨o,_,_,ho,_⟩,_⟩:=I.loc;rw[<-z,hm.new]at ho;cases ho
 .obtain⟨v,o,ho,_⟩:=I.cell x c q;rw[z,hm.new]at ho;cases ho
 .have:=(I.pin p hp).1;rw[z,hm.new]at this;cases this
end
structure BaseK(K:Ex)(mg:Str->Option KB)(y:Str)(M:KF):Prop where
 mg:mg y=be (.ref M)
 rd:readsIn K M (.type "type")=true
 fc:findCls K (.ref M) (.type "type") "__init__"=be (.val (.builtin "ValueError.__init__"))
 sp:GL K (.ref M) "__getattribute__"=be (be (.builtin "type.__getattribute__"))
structure ErrA(K:Ex)(x:Str)(C:KF)(cd:Ta):Prop where
 ns:nsIn K Pi x=be (be (.ref C))
 cl:HR K C=be cd
 mro:aK cd.mro=true
 hd:cd.hasDict=true
 sa:FS K (.ref C) "__setattr__"=be (be (.builtin "object.__setattr__"))
def ErrK.a(k:ErrK K mg x C N bm)(sa:FS K (.ref C) "__setattr__"=be (be (.builtin "object.__setattr__"))):∃cd,ErrA K x C cd:=by
 obtain⟨nm,q,bs,sn,sub,ab,col,dd,k0,k1,k2,k3,k5,lk⟩:=k.obj;exact⟨_,k.ns,by unfold HR;rw[lk],by
  show aK (.ref C::bm)=true;unfold aK;exact ko k.tail,rfl,sa⟩
def lX(K:Ex)[J:Jx](x:Jj)(t:TID):TS:=λE σ H=>∃C e od ws F z fs,nsIn K Pi x=be (be (.ref C))/\σ[0]?=be (be (.ref e))/\H e=be (XN e C od)/\J.B e=B_/\F e=B_/\Kept J.B J.F0 F H/\RepS K J.B F H z σ/\RepF K F fs ws/\
 ((od=B_/\ws=[])\/∃b,od=be b/\H b=be (.xd ws)/\J.B b=B_/\F b=B_/\b≠e/\ws≠[])/\
 ∃R:List (Jj×D)->Prop,t z fs R/\∀k8 Md F' H',Kept J.B J.F0 F' H'->R k8->H' e=be (XN e C Md)->F' e=B_->ErrF K F' k8 Md->E.nx σ H'
abbrev DX(X:Cx)[Jx](x:Jj)(st:List RS)(t:TID):Prop:=PSs X st (lX X.K x t)
structure WDX(X:Cx)[Jx](x:Str)(st:List RS)(t:TID):Prop where
 out:DX X x st t
def sv{a:KF}{o:HO}(h:H a=be o):upd H a o=H:=by
 funext b;unfold upd;by_cases q:b=a
 .rw[if_pos q,q,h]
 .rw[if_neg q]
section
variable {X:Cx}[J:Jx]{x f:Jj}{e:P3}{te:TD}{ta:TDA}{pos c7 p:R4}{rest:List RS}{tr:TID}
def yR:WDX X x [] so:=⟨pss_nil.anti λE s H q=>by
 obtain⟨C,a,od,ws,F,z,fs,hn,h0,d5,hB,g8,k,rs,rf,hd,R,hR,kk⟩:=q;rcases hd with⟨rfl,rfl⟩|⟨b,rfl,hb,Me,Kc,ne,_⟩
 .exact kk fs B_ F H k hR d5 g8 #[[],rf,.inl #[rfl,rfl]]
 .have s1:Same F (upd F b (.xd ws)):=aS Kc _;refine kk fs (be b) (upd F b (.xd ws)) H #[k.bh,λc o q=>?_,k.f0.trans s1,λc h1 h2=>?_,k.eb,k.jf,k.jo] hR d5 (by rw[aj (Ne.symm ne)];exact g8) #[ws,RepF.mono s1 fs ws rf,.inr #[b,rfl,ax]]
  .by_cases hc:c=b
   .subst hc;rw[ax]at q;cases q;exact hb
   .rw[aj hc]at q;exact k.fh c o q
  .have:c≠b:=λz=>h2 (z ▸ Me);rw[aj this];exact k.out c h1 h2⟩
def yS(ta:TDA)(tr:TID):TID:=λz fs R=>ta z λds=>ds.length<=1000/\tr z fs R
def yT{y sx:Jj}{ps py apos cpos:R4}{es:List P3}{pl:TJ Bool}(hb:∃M,BaseK X.K X.mg y M)(hA:∃C cd,ErrA X.K x C cd)(ha:WDA X es ta)(hr:WDX X x rest tr)(hg:autoParam (Gl X y) zA0)(hN:autoParam (X.N[0]?=be sx) zA0)(hv:autoParam (Vis X.env.scope sx) zA5)(hd:autoParam (zND sx) zA1)
  (e_:autoParam (zNC sx) zA1) (Qv:autoParam (zND y) zA1)
  (he:autoParam (RW (.Name sx ps::es) X.env=(false,R1 (.Name sx ps) X.env)::RW es X.env) zA0) (c5:autoParam (zPL X cpos es) zA0)
  (ht:R1 (.Call (.Attribute (.Name y py) "__init__" apos) (.Name sx ps::es) [] cpos) X.env=(do
   let ov <-R1 (.Name y py) X.env
   SA apos.atName
   let (f,first) <-Si [ov] (S2 ov "__init__" pl)
   TR cpos f first (Su cpos (RW (.Name sx ps::es) X.env)) (SU cpos (Sr [] X.env))):=by rfl)
  (hs:autoParam (Sd (.Call (.Attribute (.Name y py) "__init__" apos) (.Name sx ps::es) [] cpos) B_ pos.line X.env=pure false) zA0):WDX X x (.Expr (.Call (.Attribute (.Name y py) "__init__" apos) (.Name sx ps::es) [] cpos) pos::rest) (yS ta tr):=⟨by
 have ha:=ha.out;have hr:=hr.out;obtain⟨M,bk⟩:=hb;obtain⟨C,cd,er⟩:=hA;have step:PS X (.Expr (.Call (.Attribute (.Name y py) "__init__" apos) (.Name sx ps::es) [] cpos) pos) (λE σ H=>∃C' e od,nsIn X.K Pi x=be (be (.ref C'))/\σ[0]?=be (be (.ref e))/\
   lA X.K ta σ H (λvs H1=>H1 e=be (XN e C' od)/\vs.length<=1000/\E.nx σ H1)):=by
  intro pins s σ H D I h;obtain⟨C',ea,od,hn,h0,h⟩:=h;rw[er.ns]at hn;cases hn;refine wpAny_Expr_any (methodCall_KW (pl:=pl) (cn I hg bk.mg ?_ Qv) ht) I.quiet hs;refine method_cls I.kIn bk.sp (cls_value I.kIn bk.rd bk.fc J3 ?_);have I0:Inv X pins σ H {s with toks:=s.toks+1}:=I.tok _;obtain⟨B,F,z,kf,rs,R,h1,h2⟩:=h;refine PyProof.Rows.callWith_builtin1 (thn (bn (cG (i:=0) hN hv hd e_) ha he cpos pins _ σ H (λvs H1=>∃us,vs=.ref ea::us/\H1 ea=be (XN ea C od)/\us.length<=1000/\D.nx σ H1) I0 #[.ref ea,h0,#[B,F,z,kf,rs,R,h1,λds vs F' H' g hx rx=>#[vs,rfl,h2 ds vs F' H' g hx rx]]]) λus s1 hh=>?_) he c5;obtain⟨vs,H1,I1,r,Ru,ev,s9,hl,Kd⟩:=hh;subst ev;cases r with
  |cons r1 r2=>
   rename_i u0 Rv;obtain rfl:u0=Value.ref ea:=r1;obtain⟨t0,sl,i8⟩:=XN.get I1.hok s9;refine xG (K:=X.K) (C:=C) (cd:=cd) I1.kIn i8 rfl rfl er.cl er.mro (by rw[<-L2.Vals.length r2];exact sz hl) λh' g1 g2=>?_;refine#[σ,H1,?_,Kd];have w:=I1.write (x:=ea) (e:=ea) (o:=XN ea C od) (h':=h') (t':=s1.toks) (by rw[s9];exact True.intro) (.inl rfl) (λb u hb q=>g2 b u hb q) #[_,g1] (XN.ok g1);rw[sv s9]at w;exact w
 refine(dM step hr).anti λE s H q=>?_;obtain⟨C',a,od,ws,F,z,fs,hn,h0,d5,hB,g8,k,rs,rf,d7,R,hR,kk⟩:=q;refine#[C',a,od,hn,h0,_,F,z,k,rs,_,hR,λds vs F1 H1 g hx rx=>#[g.hh a _ d5,by rw[rx.length];exact hx.1,?_]];refine#[C',a,od,ws,F1,z,fs,hn,h0,g.hh a _ d5,hB,g.out a g8 (by rw[d5];exact λz=>nomatch z),k.grow g,rs.grow g,RepF.mono g.ff fs ws rf,?_,R,hx.2,kk];rcases d7 with d7|⟨b,h1,h2,h3,h4,h5⟩
 .exact .inl d7
 .exact .inr #[b,h1,g.hh b _ h2,h3,g.out b h4 (by rw[h2];exact λz=>nomatch z),h5]⟩
def yU(f:Jj)(te:TD)(tr:TID):TID:=λz fs R=>fs=[]/\te z λd=>tr z [(f,d)] R
def yV{sx:Jj}{ps:R4}(hA:∃C cd,ErrA X.K x C cd)(hf:∀C,nsIn X.K Pi x=be (be (.ref C))->FS X.K (.ref C) f=be B_)(he:WDE X e te)(hr:WDX X x rest tr)(hN:autoParam (X.N[0]?=be sx) zA0)(hv:autoParam (Vis X.env.scope sx) zA5)(hd:autoParam (zND sx) zA1)
  (e_:autoParam (zNC sx) zA1) (hs:autoParam (Sd e (be (.Attribute (.Name sx ps) f c7)) pos.line X.env=pure false) zA0):WDX X x (.Assign [.Attribute (.Name sx ps) f c7] e pos::rest) (yU f te tr):=⟨by
 have he:=he.out;have hr:=hr.out;obtain⟨C,cd,er⟩:=hA;have Ke:=hf C er.ns;have step:PS X (.Assign [.Attribute (.Name sx ps) f c7] e pos) (λE σ H=>∃e,σ[0]?=be (be (.ref e))/\
   lE X.K te σ H (λv H1=>H1 e=be (XN e C B_)/\∀b,H1 b=B_->b≠e->E.nx σ (upd (upd H1 b (.xd [(f,v)])) e (XN e C (be b))))):=by
  intro pins s σ H D I h;obtain⟨ea,h0,h⟩:=h;refine Sv (thn (he pins s σ H _ I h) λu s1 ⟨y,H1,I1,ry,s9,Kd⟩=>thn (cG (i:=0) hN hv hd e_ pins s1 σ H1 (λv H'=>v=.ref ea/\H'=H1) I1 #[.ref ea,h0,rfl,rfl]) λov s2 hh=>?_) hs;obtain⟨v0,H2,I2,r0,e1,e2⟩:=hh;subst e1 e2;obtain rfl:ov=Value.ref ea:=r0;obtain⟨t0,sl,i8⟩:=XN.get I2.hok s9;refine xE (K:=X.K) (C:=C) (cd:=cd) I2.kIn i8 rfl rfl rfl er.cl er.mro er.hd er.sa Ke λh' g1 g2 g3 tk=>?_;have k9:H2 s2.heap.objs.size=none:=I2.hok.fresh (FR _);have j7:s2.heap.objs.size≠ea:=GF (Heap.lt_size i8);have Nd:∀b o,s2.heap.get? b=be o->b≠s2.heap.objs.size:=λb o q=>FU (Heap.lt_size q);have Nf:∀b,H2 b=B_->b≠ea:=λb q z=>by rw[z,s9]at q;cases q
  refine#[σ,_,?_,Kd _ k9 j7];have x9:∀b o,H2 b=be o->(∀φ,o≠.ext φ)->upd (upd H2 s2.heap.objs.size (.xd [(f,y)])) ea (XN ea C (be s2.heap.objs.size)) b=be o:=λb o q n=>by
   have n1:b≠ea:=λz=>by rw[z,s9]at q;cases q;exact n _ rfl
   rw[aj n1,aj (bC q k9)];exact q
  refine I2.un (h':=h') (t':=tk) #[λb o q n _ _=>g3 b o (Nf b n) q,λb o q n _ _=>#[o.slots,g3 b o (Nf b n) q],λb o q n _=>?_,λb o q _=>?_,λb xs q=>x9 b _ q (λφ z=>nomatch z),λb o u q=>x9 b _ q (λφ z=>nomatch z),λb ps q=>#[[].toArray,by rw[x9 b _ q (λφ z=>nomatch z)];simp]] λa o q=>?_
  .rw[aj (Nf b n),aj (Nd b o q)];exact n
  .by_cases hb:b=ea
   .rw[hb];exact#[_,g1]
   .exact#[o,g3 b o hb q]
  .by_cases ha:a=ea
   .subst ha;rw[ax]at q;cases q;exact XN.ok g1
   .rw[aj ha]at q;by_cases hb:a=s2.heap.objs.size
    .subst hb;rw[ax]at q;cases q;refine#[_,g2,λg=>?_];rw[Ga];by_cases hg:g=f
     .subst hg;simp;exact ry
     .have:(g==f)=false:=by simpa using hg
      rw[this,if_neg hg];exact True.intro
    .rw[aj hb]at q;refine(I2.hok a o q).stay (λb u f6 r=>?_) (λb r=>x9 b _ r (λφ z=>nomatch z)) λb xs r=>x9 b _ r (λφ z=>nomatch z);refine g3 b u (λz=>?_) r;rcases f6 with e1|e1
     .exact ha (e1 ▸ z)
     .rw[z,s9]at e1;cases e1
 refine(dM step hr).anti λE s H q=>?_;obtain⟨C',a,od,ws,F,z,fs,hn,h0,d5,hB,g8,k,rs,rf,d7,R,⟨rfl,hR⟩,kk⟩:=q;rw[er.ns]at hn;cases hn;have Qw:ws=[]:=repf_nil.mp rf;subst Qw;refine#[a,h0,_,F,z,k,rs,_,hR,λd v F1 H1 g hx rv=>?_];have Jt:F1 a=none:=g.out a g8 (by rw[d5];exact λz=>nomatch z);have k1:=k.grow g;rcases d7 with⟨rfl,_⟩|⟨b,rfl,h1,h2,h3,h4⟩
 .refine#[g.hh a _ d5,λb hb j7=>?_];have Me:J.B b=none:=k1.bh.free hb;have Kc:F1 b=none:=k1.fh.free hb;have same:∀{G:Hp},G a=B_->G b=B_->Same G H1->Same G (upd (upd H1 b (.xd [(f,v)])) a (XN a C (be b))):=λ{G} ga gb gs c o q=>by
   have n1:c≠a:=λz=>by rw[z,ga]at q;cases q
   have n2:c≠b:=λz=>by rw[z,gb]at q;cases q
   rw[aj n1,aj n2];exact gs c o q
  have m4:=rs.grow g;refine#[C,a,be b,[(f,v)],F1,z,[(f,d)],er.ns,h0,ax,hB,Jt,#[same hB Me k1.bh,same Jt Kc k1.fh,k1.f0,k1.out,k1.eb,k1.jf,k1.jo],?_,repf_cons.mpr #[v,[],rfl,rv,repf_nil.mpr rfl],.inr #[b,rfl,by rw[aj j7];exact ax,Me,Kc,j7,λz=>nomatch z],R,hx,kk];refine#[m4.len,m4.val,λi ds e'=>?_,m4.apart];obtain⟨c,vs,q1,q2,q⟩:=m4.own i ds e';have n1:c≠a:=λz=>by rw[z,g.hh a _ d5]at q2;cases q2
  have n2:c≠b:=λz=>by rw[z,hb]at q2;cases q2
  exact#[c,vs,q1,by rw[aj n1,aj n2];exact q2,q]
 .exact absurd rfl h4.2⟩
end
section
variable {P:RP}{w:RU}{K:Ex}{mg:Jj->Option KB}{base:Heap}
def Cls.okE{x qual:Jj}{st:RS}{f C N0:KF}{bm:List KB}{fd:R3}{N:List Jj}{p0:Jj}{ps:List Jj}{k:Nat}{S:SiD}(T:Fun K "__init__" qual st f fd)(hb:Binds K fd (p0::ps) [])(F:FnScope (p0::N) (p0::ps) (ag st))(len:∀ds R,S ds R->ds.length=ps.length)
  (ek:ErrK K mg x C N0 bm) (hi:FS K (.ref C) "__init__"=be (be (.ref f))) (hf:isFn K (.ref f)=true)
  (a8:∀(cdv:KB) (A:RV) (outer:List SL) (s:KM) (H:Hp) (E:XK) (J:Jx),Room k (A.deeper (R6 qual (ag st) s.heap.objs.size f cdv))->
   ∃t,DX (cxOf (CX1 P w) P w K mg base (p0::N) qual (ag st) f cdv A outer s H E).nox x (aG st) t/\∀ds R,S ds R->t (B_::startD N ds) [] R):CalE P w K mg base (k+1) x (p0::ps) S:=by
 refine#[C,N0,bm,f,fd,ek,hi,hf,Fun.okC T F (λvs H Q E h=>?_) (λcdv A outer s H vs Q E hr h=>?_),hb]
 .obtain⟨a,us,H1,F,ds,rfl,_,_,_,rs,R,h,_⟩:=h;rw[FV,FV,rs.length,len ds R h]
 .obtain⟨a,us,H1,F1,ds,rfl,rfl,ha,fh,rs,R,h,q⟩:=h
  letI:Jx:=#[H1,F1,λ_ _ _=>False]
  obtain⟨t,ht,hq⟩:=a8 cdv A outer s _ E inferInstance hr;have Fa:F1 a=none:=fh.free ha;have hl:L2.start (p0::N) (.ref a::us)=be (.ref a)::L2.start N us:=by
   unfold L2.start;rw[Gi,FV,FV,Ix];rfl
  have s1:Same H1 (upd H1 a (XN a C B_)):=aS ha _;refine#[_,ht.nox,C,a,B_,[],F1,B_::startD N ds,[],ek.ns,by rw[hl];rfl,ax,ha,Fa,#[s1,fh.trans s1,Same.refl F1,λ_ h _=>h,rfl,Same.refl F1,λ_ h _=>h],?_,repf_nil.mpr rfl,.inl #[rfl,rfl],R,hq ds R h,λk8 Md F' H' g hR d5 g8 er=>q k8 Md F' H' #[g.f0,g.fh,g.bh,g.out] hR d5 g8 er];rw[hl];exact sq (da rs)
end
section
variable {M:TU}{A:RV}{E:KB->KM->Prop}{h:Heap}{g:Array TV}{d:Drawn}{t:Nat}{os:OsState}
variable {nm q:Jj}{C N:KF}{bs bm:List KB}{hdct:Bool}{sn:List Jj}{sub:List KB}{ab:Bool}{col:Option Bool}{dd:Option KF}{k0 k1 k2 k3 k5:Option KB}{newId:String}
variable {Ng q':Jj}{C' N':KF}{Nh Li:List KB}{Lj:Bool}{Ni:List Jj}{Kf:List KB}{Nj:Bool}{Kg:Option Bool}{Lk:Option KF}{Nk Nl Nm Nn No:Option KB}{Kh:String}
def sy{e:KF}{oe:R_}{b:Bool}{Q:Bool->KM->Prop}(hC:h.get? C=be (Sf nm q C N bs bm hdct sn sub ab col dd k0 k1 k2 k3 k5 newId))(hD:h.get? C'=be (Sf Ng q' C' N' Nh Li Lj Ni Kf Nj Kg Lk Nk Nl Nm Nn No Kh))
  (he:h.get? e=be oe) (v8:oe.cls=.ref C) (b7:Li.contains (.type "BaseException")=true) (hb:(Value.ref C::bm).contains (.ref C')=b) (hq:Q b #[h,g,d,t,os]):RT M A (excMatches (.ref e) (.ref C')) Q E #[h,g,d,t,os]:=by
 have MP:(Value.ref C'::Li).contains (.type "BaseException")=true:=by rw[HN,b7,Hv]
 have f:=tc_notTuple;unfold excMatches
 repeat(first|(with_reducible refine Sb he ?_;rw[v8])|with_reducible refine Sb hD ?_|(with_reducible refine SK hD ?_;rw[MP])|(with_reducible refine SK hC ?_;rw[hb])|wp_step)
 cases b with
 |true=>wp_walk;exact hq
 |false=>wp_walk;exact hq
end
abbrev _root_.L2.Cx.held(X:Cx)(e:KF):Cx:={X with A:=X.A.mark (be (.ref e)),calm:=false,xe:=λ_ _=>False}
section
variable {X:Cx}{pins:List (KF×R_)}{σ:L2.St}{H:Hp}{s:KM}{e:KF}
def Cx.Ok.held(ok:X.Ok):(X.held e).Ok:=
 #[ok.mod,ok.kind,ok.glob,ok.blt,ok.above,ok.inj,ok.has,ok.cab,(λz=>nomatch z),ok.frames,ok.stk,ok.exf,ok.bs,ok.bsz,ok.noex,ok.exfs,ok.funs,ok.frf]
def Inv.held(I:Inv X pins σ H s):Inv (X.held e) pins σ H s:=#[Cx.Ok.held I.ok,I.os,I.bare,I.base,I.loc,I.cell,I.free,I.freeC,I.pin,I.hok,I.len]
def Inv.unheld(ok:X.Ok)(I:Inv (X.held e) pins σ H s):Inv X pins σ H s:=#[ok,I.os,I.bare,I.base,I.loc,I.cell,I.free,I.freeC,I.pin,I.hok,I.len]
def SP.unheld{D:Ends}{f:Flow}{s':KM}(ok:X.Ok)(h:SP (X.held e) pins D f s'):SP X pins D f s':=by
 cases f with
 |next=>obtain⟨σ',H',I,q⟩:=h;exact#[σ',H',Inv.unheld ok I,q]
 |brk=>obtain⟨σ',H',I,q⟩:=h;exact#[σ',H',Inv.unheld ok I,q]
 |cont=>obtain⟨σ',H',I,q⟩:=h;exact#[σ',H',Inv.unheld ok I,q]
 |ret u=>obtain⟨v,σ',H',I,r,q⟩:=h;exact#[v,σ',H',Inv.unheld ok I,r,q]
def gG{M:TU}{A:RV}{E:KB->KM->Prop}{i:Nat}{x:Jj}{pos:R4}{Q:Unit->KM->Prop}(I:Inv X pins σ H s)(hN:X.N.Nodup)(hi:X.N[i]?=be x)(hk:X.env.scope.names.lookup x=be .local)
  (h:∀s',Inv X pins (σ.set i B_) H s'->Q () s'):RT M A (do bindName X.env x .none;unbindBehindTheSuite X.env x pos) Q E s:=by
 obtain⟨m,hn,hl⟩:=id I.loc;have v8:(X.env.scope.kind== .class||(X.env.scope.kind== .module&&X.env.locals !=X.env.globals))=false:=by rw[I.ok.kind];rfl
 have hiσ:i<σ.length:=by rw[I.len];exact(F7.mp hi).1
 have cne:=I.cne;refine wpAny_nameGoes_keeps hk hn v8 λh' v f_ hs=>?_;obtain⟨oL,_,_,OM,_⟩:=id hn;have e9:HOk X.prog X.w H h':=λb ob e=>by
  refine(I.hok b ob e).stay (λc w' hc q=>(hs.2 c ?_).trans q) (λ_ q=>q) λ_ _ q=>q;rintro rfl;rcases hc with rfl|hc
  .rw[I.free]at e;cases e
  .rw[I.free]at hc;cases hc
 refine h _ #[I.ok,I.os,I.bare,#[λb o e n hb hx=>?_,λb o e n hb hx=>?_,I.base.free,λb o e hx=>?_,I.base.tups,I.base.frzs,I.base.tbls],#[_,f_,λj y v' e1 e2 e3=>?_],λy c e=>?_,I.free,I.freeC,λp hp=>?_,e9,by simpa using I.len]
 .exact(hs.2 b (FU (Gd (Heap.lt_size e) I.ok.above))).trans (I.base.keep b o e n hb hx)
 .obtain⟨sl,e1⟩:=I.base.slot b o e n hb hx;exact#[sl,(hs.2 b (FU (Gd (Heap.lt_size e) I.ok.above))).trans e1]
 .obtain⟨o',e1⟩:=I.base.there b o e hx;exact#[o',(hs.2 b (FU (Gd (Heap.lt_size e) I.ok.above))).trans e1]
 .by_cases hj:j=i
  .subst hj;rw[Gs hiσ]at e2;cases e2
  .rw[F5 (Ne.symm hj)]at e2;obtain⟨u',r',q⟩:=hl j y v' e1 e2 e3;refine#[u',r',?_];rcases q with⟨k,e⟩|⟨k,c,e,z⟩
   .refine .inl #[k,?_];have:y≠x:=λe=>hj (jt hN e1 (e ▸ hi));simp[this,e]
   .exact .inr #[k,c,e,z.sameBut hs (cne y c e)]
 .obtain⟨w',z⟩:=I.cell y c e;exact#[w',z.sameBut hs (cne y c e)]
 .obtain⟨e,n,ne,nf,d⟩:=I.pin p hp;exact#[(hs.2 p.1 ne).trans e,n,ne,nf,d]
def Inv.stay{h':Heap}{k8 ex:List KF}(I:Inv X pins σ H s)(st:Stay k8 ex s.heap h')(L9:∀b∈k8,b∈frs X.stack)(hH:∀b∈ex,H b=B_)(h0:∀b∈ex,X.s₀.heap.get? b=B_)(hL:∀b∈ex,b≠X.env.locals)(hc:∀b∈ex,∀x c,X.env.cells.lookup x=be c->c≠b)
  (hp:∀b∈ex,∀p∈X.pn++pins,p.1≠b):Inv X pins σ H {s with heap:=h'}:=by
 have hok:HOk X.prog X.w H h':=fj I.hok st (λb hb=>I.stkFree b (L9 b hb)) hH;have sub:∀b∈k8,b=X.env.locals\/b∈X.fs:=λb hb=>FT.mp (I.stkSub b (L9 b hb));have nL:∀b o,X.s₀.heap.get? b=be o->b≠X.env.locals:=λb o q=>FU (Gd (Heap.lt_size q) I.ok.above);have O_:∀b o,X.s₀.heap.get? b=be o->b∉ex:=λb o q z=>by rw[h0 b z]at q;cases q
 have l5:∀x c v,X.env.cells.lookup x=be c->s.heap.IsCell c v->h'.IsCell c v:=λx c v e ⟨o,ho,hd⟩=>by
  obtain⟨sl,z⟩:=st.slot c o ho (λz=>hc c z x c e rfl);exact#[_,z,hd]
 refine#[I.ok,I.os,I.bare,#[λb o e n hb hx=>?_,λb o e n hb hx=>?_,I.base.free,λb o e hx=>?_,I.base.tups,I.base.frzs,I.base.tbls],?_,λy c e=>?_,I.free,I.freeC,λp Kv=>?_,hok,I.len]
 .exact st.keep b o (I.base.keep b o e n hb hx) (O_ b o e) (λz=>(sub b z).elim (nL b o e) hb)
 .obtain⟨sl,e1⟩:=I.base.slot b o e n hb hx;obtain⟨t9,e2⟩:=st.slot b _ e1 (O_ b o e);exact#[t9,e2]
 .obtain⟨o',e1⟩:=I.base.there b o e hx;exact st.there b o' e1
 .obtain⟨m,⟨o,es,ep,ho,r⟩,hl⟩:=I.loc;obtain⟨sl,z⟩:=st.slot _ o ho (λz=>hL _ z rfl);refine#[m,#[_,es,ep,z,r],λj y v' e1 e2 e3=>?_];obtain⟨u',r',q⟩:=hl j y v' e1 e2 e3;refine#[u',r',?_];rcases q with q|⟨k,c,e,z⟩
  .exact .inl q
  .exact .inr #[k,c,e,l5 y c _ e z]
 .obtain⟨w',z⟩:=I.cell y c e;exact#[w',l5 y c _ e z]
 .obtain⟨e,n,ne,nf,d⟩:=I.pin p Kv;exact#[st.keep _ _ e (λz=>hp _ z p Kv rfl) (λz=>(sub _ z).elim ne nf),n,ne,nf,d]
end
def subE(x c:Jj):Bool:=x==c||c=="MotifError"
structure ErrsK(K:Ex)(mg:Str->Option KB)(es:List Str):Prop where
 cls:∀x∈es,∃C N bm,ErrK K mg x C N bm
 sub:∀x∈es,∀y∈es,∀C C',nsIn K Pi x=be (be (.ref C))->nsIn K Pi y=be (be (.ref C'))->Gx K C (.ref C')=be (subE x y)
def ErrsK.has{es:List Jj}(k:ErrsK K mg es){y:Jj}{C' N':KF}{Li:List KB}(hx:x∈es)(hy:y∈es)(a:ErrK K mg x C N bm)(b:ErrK K mg y C' N' Li):(Value.ref C::bm).contains (.ref C')=subE x y:=by
 have h:=k.sub x hx y hy C C' a.ns b.ns;obtain⟨nm,q,bs,sn,sub,ab,col,dd,k0,k1,k2,k3,k5,lk⟩:=a.obj;unfold Gx HR at h;rw[lk]at h;simp only[Ha,List.isEmpty_cons,Bool.false_eq_true,if_false,Option.some.injEq]at h;exact h
structure Held(X:Cx)(pins:List (KF×R_))(H:Hp)(s:KM)(e C:KF)(od:Option KF)(T:KF):Prop where
 ex:ExAt s.heap e C od T .none
 He:H e=B_
 HT:H T=B_
 e0:X.s₀.heap.get? e=B_
 T0:X.s₀.heap.get? T=B_
 eP:∀p∈X.pn++pins,p.1≠e
 TP:∀p∈X.pn++pins,p.1≠T
section
variable {X:Cx}{pins:List (KF×R_)}{σ:L2.St}{H:Hp}{s:KM}
variable{vs:Array KB}
def gH{b:KF}{o:R_}(I:Inv X pins σ H s)(h:s.heap.get? b=be o)(hd:o.data=.fields vs):b≠X.env.locals:=λz=>by
 obtain⟨m,⟨o',es,ep,ho,d7,_⟩,_⟩:=I.loc;rw[<-z,h]at ho;cases ho;rw[hd]at d7;cases d7
def fld_cell{b:KF}{o:R_}(I:Inv X pins σ H s)(h:s.heap.get? b=be o)(hd:o.data=.fields vs):∀x c,X.env.cells.lookup x=be c->c≠b:=λx c q z=>by
 obtain⟨v,o',ho,d7⟩:=I.cell x c q;rw[z,h]at ho;cases ho;rw[hd]at d7;cases d7
variable{od:Option KF}
def Held.flight{e C T:KF}{h':Heap}(I:Inv X pins σ H s)(k:Held X pins H s e C od T)(hx:ExAt h' e C od T .none)(st:Stay [] [T] s.heap h'):Inv X pins σ H {s with heap:=h'}/\Held X pins H {s with heap:=h'} e C od T:=by
 obtain⟨sl,vs,oT,ts,he,h1,u8,hT,j9,h3⟩:=k.ex;refine#[Inv.stay I st (λb hb=>by cases hb) (λb hb=>?_) (λb hb=>?_) (λb hb=>?_) (λb hb=>?_) (λb hb=>?_),#[hx,k.He,k.HT,k.e0,k.T0,k.eP,k.TP]]<;>rw[FP.mp hb]
 .exact k.HT
 .exact k.T0
 .exact gH I hT j9
 .exact fld_cell I hT j9
 .exact k.TP
def XO.ok{P:RP}{w:RU}{h:Heap}{e C:KF}{sl:Array (Option KB)}(q:h.get? e=be #[.ref C,od,.fields vs,sl]):ObjOk P w H h e (XO e C od):=
 #[#[vs,sl,q],#[_,q],λh1 h2 ⟨vs,sl,q⟩ k=>#[vs,sl,k _ q]]
end
def RepS.unset{B F:Hp}{z:SD}{s:L2.St}{i:Nat}(h:RepS K B F H z s):RepS K B F H (z.set i B_) (s.set i B_):=by
 have get:∀{j:Nat} {x:D},(z.set i B_)[j]?=be (be x)->j≠i/\z[j]?=be (be x):=λ{j x} e=>by
  by_cases hj:i=j
  .subst hj;rw[GI]at e;simp at e
  .rw[F5 hj]at e;exact#[λz=>hj z.symm,e]
 refine#[by rw[GH,GH];exact h.len,λj x e nx=>?_,λj ds e=>?_,λj k dj dk a e1 e2 e3 e4=>?_]
 .obtain⟨hj,e⟩:=get e;rw[F5 (λz=>hj z.symm)];exact h.val j x e nx
 .obtain⟨hj,e⟩:=get e;rw[F5 (λz=>hj z.symm)];exact h.own j ds e
 .obtain⟨hj,e1⟩:=get e1;obtain⟨hk,e2⟩:=get e2;rw[F5 (λz=>hj z.symm)]at e3;rw[F5 (λz=>hk z.symm)]at e4;exact h.apart j k dj dk a e1 e2 e3 e4
abbrev TH:=Jj->List (Jj×D)->TSD
def DH(X:Cx)[J:Jx](hs:List Sn)(th:TH):Prop:=
 ∀(pins:List (KF×R_)) (s:KM) (σ:L2.St) (H:Hp) (D:Ends) (e C:KF) (od:Option KF) (T:KF) (x:Jj) (fs:List (Jj×My.D)) (B F0 F:Hp) (z:SD) (ED:EndsD),Inv X pins σ H s->Held X pins H s e C od T->Kept B F0 F H->RepS X.K B F H z σ->ErrD X.K F x fs C od->
  th x fs ED z->EndsOk X.K B F0 ED D->RT (RR X.prog X.w) X.A (Tn (.ref e) X.env hs) (SP X pins D) X.xe s
structure WDH(X:Cx)[Jx](hs:List Sn)(th:TH):Prop where
 out:DH X hs th
section
variable {X:Cx}[J:Jx]{es:List Jj}{c:Jj}{b₀:RS}{q8:List RS}{pos pc:R4}{rest:List Sn}{t:TSD}{r:TH}
def yY:TH:=λ_ _ _ _=>False
def yZ(es:List Jj)(c:Jj)(t:TSD)(r:TH):TH:=λx fs E z=>(x∈es/\c∈es)/\if subE x c=true then t E z else r x fs E z
def dHas(es:List Jj)(c:Jj)(i:Nat)(t:TSD)(r:TH):TH:=λx fs E z=>(x∈es/\c∈es)/\if subE x c=true then t {nx:=λz'=>E.nx (z'.set i B_),rt:=E.rt,bk:=λz'=>E.bk (z'.set i B_),ct:=λz'=>E.ct (z'.set i B_)} (z.set i (be (.exc x fs)))else r x fs E z
def kq:WDH X [] yY:=#[λ_ _ _ _ _ _ _ _ _ _ _ _ _ _ _ _ _ _ _ _ _ h _=>h.elim]
def sA(hE:ErrsK X.K X.mg es)(hs:∀e,WDSs (X.held e) (b₀::q8) t)(hr:WDH X rest r)(hg:autoParam (Gl X c) zA0)(c_:autoParam (zND c) zA1):WDH X (.ExceptHandler (be (.Name c pc)) B_ (b₀::q8) pos::rest) (yZ es c t r):=⟨by
 have hs:=λe=>(hs e).out;have hr:=hr.out;intro pins s σ H D e C od T x fs B F0 F z ED I hd k rs er ht ee;obtain⟨⟨Ll,Lm⟩,ht⟩:=ht;obtain⟨Cc,Nc,Qx,kc⟩:=hE.cls c Lm;obtain⟨Ju,Nx,Qy,kx⟩:=hE.cls x Ll;obtain rfl:Ju=C:=by have h1:=kx.ns;rw[er.1]at h1;cases h1;rfl
 have hb:=hE.has Ll Lm kx kc;obtain⟨nm,q,bs,sn,sub,ab,col,dd,k0,k1,k2,k3,k5,lk⟩:=kx.obj;obtain⟨Ng,q',Nh,Ni,Kf,Nj,Kg,Lk,Nk,Nl,Nm,Nn,No,Np⟩:=kc.obj;refine TY (TL (cn (X:=X.held e) (Inv.held I) hg kc.mg ?_ c_)) (by intro q;cases q);obtain⟨sl,vs,oT,ts,he,h1,u8,hT,j9,h3⟩:=id hd.ex;refine sy (g:=s.gens) (d:=s.drawn) (t:=s.toks) (os:=s.os) (I.kIn _ _ lk) (I.kIn _ _ Np) he rfl kc.base hb ?_;cases x_:subE x c with
 |true=>
  rw[x_,if_pos rfl]at ht;refine codeAny_handlers_suite (flight_none hd.ex λh' e8 t_=>?_);obtain⟨I',_⟩:=Held.flight I hd e8 t_;exact R7 (hs e pins _ σ H D (Inv.held I') #[B,F0,F,z,k,rs,ED,ht,ee]) (λf s1 q=>SP.unheld I.ok q) λ_ _ z=>False.elim z
 |false=>
  rw[x_,if_neg F8]at ht;exact hr pins s σ H D e Ju od T x fs B F0 F z ED I hd k rs er ht ee⟩
def za(i:Nat){n:Jj}(hE:ErrsK X.K X.mg es)(hN:X.N.Nodup)(hs:∀e,WDSs (X.held e) (b₀::q8) t)(hr:WDH X rest r)(hg:autoParam (Gl X c) zA0)(hi:autoParam (X.N[i]?=be n) zA0)(hk:autoParam (X.env.scope.names.lookup n=be .local) zA0)(c_:autoParam (zND c) zA1):WDH X (.ExceptHandler (be (.Name c pc)) (be n) (b₀::q8) pos::rest) (dHas es c i t r):=⟨by
 have hs:=λe=>(hs e).out;have hr:=hr.out;intro pins s σ H D e C od T x fs B F0 F z ED I hd k rs er ht ee;obtain⟨⟨Ll,Lm⟩,ht⟩:=ht;obtain⟨Cc,Nc,Qx,kc⟩:=hE.cls c Lm;obtain⟨Ju,Nx,Qy,kx⟩:=hE.cls x Ll;obtain rfl:Ju=C:=by have h1:=kx.ns;rw[er.1]at h1;cases h1;rfl
 have hb:=hE.has Ll Lm kx kc;obtain⟨nm,q,bs,sn,sub,ab,col,dd,k0,k1,k2,k3,k5,lk⟩:=kx.obj;obtain⟨Ng,q',Nh,Ni,Kf,Nj,Kg,Lk,Nk,Nl,Nm,Nn,No,Np⟩:=kc.obj;refine TY (TL (cn (X:=X.held e) (Inv.held I) hg kc.mg ?_ c_)) (by intro q;cases q);obtain⟨sl,vs,oT,ts,he,h1,u8,hT,j9,h3⟩:=id hd.ex;refine sy (g:=s.gens) (d:=s.drawn) (t:=s.toks) (os:=s.os) (I.kIn _ _ lk) (I.kIn _ _ Np) he rfl kc.base hb ?_;cases x_:subE x c with
 |true=>
  rw[x_,if_pos rfl]at ht;refine codeAny_handlers_suite_as (flight_none hd.ex λh' e8 t_=>?_);obtain⟨I',d7⟩:=Held.flight I hd e8 t_;obtain⟨t9,l_,_,_,Nq,_⟩:=id e8;have I2:Inv X pins σ (upd H e (XO e Ju od)) {s with heap:=h'}:=Inv.adopt I' hd.He (XO.ok Nq) hd.e0 (gH I' Nq rfl) (fld_cell I' Nq rfl) hd.eP;refine fV (X:=X.held e) (v:=.ref e) (Inv.held I2) hN hi (.inl hk) rfl (λs2 I3=>?_) (.inr hk);have g:=Grow.new k.fh hd.He (XO e Ju od);obtain⟨ns,ws,rf,Nr⟩:=er;have Qz:Rep X.K (upd F e (XO e Ju od)) (.exc x fs) (.ref e):=rep_exc.mpr #[e,Ju,od,ws,rfl,ns,ax,RepF.mono g.ff fs ws rf,Nr.imp id λ⟨b,q1,q2⟩=>#[b,q1,g.ff _ _ q2]];have QA:EndsOk X.K B F0 {nx:=λz'=>ED.nx (z'.set i B_),rt:=ED.rt,bk:=λz'=>ED.bk (z'.set i B_),ct:=λz'=>ED.ct (z'.set i B_)} {nx:=λσ' H'=>D.nx (σ'.set i B_) H',rt:=D.rt,bk:=λσ' H'=>D.bk (σ'.set i B_) H',ct:=λσ' H'=>D.ct (σ'.set i B_) H'}:=
   #[λz' s' F' H' k hz r=>ee.nx _ _ F' H' k hz (RepS.unset r),ee.rt,λz' s' F' H' k hz r=>ee.bk _ _ F' H' k hz (RepS.unset r),λz' s' F' H' k hz r=>ee.ct _ _ F' H' k hz (RepS.unset r)]
  refine R7 (hs e pins s2 _ _ _ I3 #[B,F0,_,_,k.grow g,(rs.grow g).set Qz,_,ht,QA]) (λf s3 q=>?_) λ_ _ z=>False.elim z;have q':=SP.unheld I.ok q;cases f with
  |next=>obtain⟨σ',H',I4,q4⟩:=q';exact gG I4 hN hi hk λs5 I5=>#[_,H',I5,q4]
  |brk=>obtain⟨σ',H',I4,q4⟩:=q';exact gG I4 hN hi hk λs5 I5=>#[_,H',I5,q4]
  |cont=>obtain⟨σ',H',I4,q4⟩:=q';exact gG I4 hN hi hk λs5 I5=>#[_,H',I5,q4]
  |ret u=>obtain⟨v,σ',H',I4,rv,q4⟩:=q';exact gG I4 hN hi hk λs5 I5=>#[v,_,H',I5,rv,q4]
 |false=>
  rw[x_,if_neg F8]at ht;exact hr pins s σ H D e Ju od T x fs B F0 F z ED I hd k rs er ht ee⟩
end
abbrev _root_.L2.Cx.tried(X:Cx)(pn:List (KF×R_))(xe:KB->KM->Prop):Cx:={X with pn:=pn,xe:=xe}
section
variable {X:Cx}{pn pins:List (KF×R_)}{xe:KB->KM->Prop}{σ:L2.St}{H:Hp}{s:KM}
def Cx.Ok.tried(ok:X.Ok):(X.tried pn xe).Ok:=#[ok.mod,ok.kind,ok.glob,ok.blt,ok.above,ok.inj,ok.has,ok.cab,ok.hd,ok.frames,ok.stk,ok.exf,ok.bs,ok.bsz,ok.noex,ok.exfs,ok.funs,ok.frf]
def Inv.tried(I:Inv X pins σ H s):Inv (X.tried (X.pn++pins) xe) [] σ H s:=#[Cx.Ok.tried I.ok,I.os,I.bare,I.base,I.loc,I.cell,I.free,I.freeC,λp hp=>I.pin p (by simpa using hp),I.hok,I.len]
def Inv.untried(ok:X.Ok)(I:Inv (X.tried (X.pn++pins) xe) [] σ H s):Inv X pins σ H s:=#[ok,I.os,I.bare,I.base,I.loc,I.cell,I.free,I.freeC,λp hp=>I.pin p (by simpa using hp),I.hok,I.len]
def SP.untried{D:Ends}{f:Flow}{s':KM}(ok:X.Ok)(h:SP (X.tried (X.pn++pins) xe) [] D f s'):SP X pins D f s':=by
 cases f with
 |next=>obtain⟨σ',H',I,q⟩:=h;exact#[σ',H',Inv.untried ok I,q]
 |brk=>obtain⟨σ',H',I,q⟩:=h;exact#[σ',H',Inv.untried ok I,q]
 |cont=>obtain⟨σ',H',I,q⟩:=h;exact#[σ',H',Inv.untried ok I,q]
 |ret u=>obtain⟨v,σ',H',I,r,q⟩:=h;exact#[v,σ',H',Inv.untried ok I,r,q]
end
def zb{h₀:Sn}{hs:List Sn}{σ':L2.St}{H':Hp}{s':KM}{D:Ends}{xe:KB->KM->Prop}(I2:Inv X pins σ' H' s')
  (hd:Exd (X.tried (X.pn++pins) xe) H' s' e C od) (d4:X.ex=[]) (y7:X.stack=X.env::X.outer) (k9:X.env.frame=be X.env.locals)
  (hh:∀s4 T2,Inv X pins σ' H' s4->Held X pins H' s4 e C od T2->RT (RR X.prog X.w) X.A (Tn (.ref e) X.env (h₀::hs)) (SP X pins D) X.xe s4):
  RT (RR X.prog X.w) X.A (SS (.ref e) X.env) (λ_ s₂=>RT (RR X.prog X.w) X.A (S9 (.ref e) B_) (λ_ s₃=>RT (RR X.prog X.w) X.A (Tn (.ref e) X.env (h₀::hs)) (SP X pins D) X.xe s₃) X.xe s₂) X.xe s':=by
 obtain⟨He,e0,eP,hd⟩:=hd;have stk:s'.heap.FunFrames X.base (X.env::X.outer):=by rw[<-y7];exact I2.stack
 have Pa:X.A.frames=be (X.env::X.outer):=by rw[<-y7];exact I2.ok.frames
 have ge:∀(s_:Heap) (T2:KF) (ex:List KF),(∀b∈ex,H' b=B_/\X.s₀.heap.get? b=B_/\(∃o vs,s'.heap.get? b=be o/\o.data=.fields vs)/\∀p∈X.pn++pins,p.1≠b)->ExAt s_ e C od T2 (SV X.env.locals)->s'.heap.objs.size<=T2->Stay (frs (X.env::X.outer)) ex s'.heap s_->
   RT (RR X.prog X.w) X.A (S9 (.ref e) B_) (λ_ s₃=>RT (RR X.prog X.w) X.A (Tn (.ref e) X.env (h₀::hs)) (SP X pins D) X.xe s₃) X.xe {s' with heap:=s_}:=by
  intro s_ T2 ex y8 m_ w_ q9;have Jo:s'.heap.get? T2=none:=Heap.get?_none_of_le w_;have I3:Inv X pins σ' H' {s' with heap:=s_}:=Inv.stay I2 q9 (λb hb=>by rw[y7];exact hb) (λb hb=>(y8 b hb).1) (λb hb=>(y8 b hb).2.1) (λb hb=>let ⟨_,_,q1,q2⟩:=(y8 b hb).2.2.1;gH I2 q1 q2) (λb hb=>let ⟨_,_,q1,q2⟩:=(y8 b hb).2.2.1;fld_cell I2 q1 q2) (λb hb=>(y8 b hb).2.2.2);obtain⟨sl,vs,oT,ts,he,g1,u8,hT,j9,g3⟩:=id m_;have JJ:H' T2=none:=ft I2.hok Jo;have T0:X.s₀.heap.get? T2=none:=cA I2 d4 Jo;have TP:∀p∈X.pn++pins,p.1≠T2:=λp hp z=>by
   have:=(I2.pin p hp).1;rw[z,Jo]at this;cases this
  refine flight_none (s:={s' with heap:=s_}) m_ λh3 Le C_=>?_;have I4:Inv X pins σ' H' {s' with heap:=h3}:=Inv.stay (s:={s' with heap:=s_}) I3 C_ (λb hb=>by cases hb) (λb hb=>by rw[FP.mp hb];exact JJ) (λb hb=>by rw[FP.mp hb];exact T0) (λb hb=>by rw[FP.mp hb];exact gH I3 hT j9) (λb hb=>by rw[FP.mp hb];exact fld_cell I3 hT j9) (λb hb=>by rw[FP.mp hb];exact TP);exact hh _ T2 I4 #[Le,He,JJ,e0,T0,eP,TP]
 rcases hd with⟨sl,vs,he,hv⟩|⟨T,JI,T0,HT,TP⟩
 .refine qM Pa stk k9 he hv λs_ T2 m_ w_ q9=>ge s_ T2 [e] (λb hb=>?_) m_ w_ q9;rw[FP.mp hb];exact#[He,e0,#[_,_,he,rfl],eP]
 .obtain⟨sl,vs,oT,ts,he,g1,u8,hT,j9,g3⟩:=id JI;refine qN Pa stk k9 JI λs_ T2 m_ w_ q9=>ge s_ T2 [T,e] (λb hb=>?_) m_ w_ q9;rcases FT.mp hb with z|z
  .rw[z];exact#[HT,T0,#[_,_,hT,j9],TP]
  .rw[FP.mp z];exact#[He,e0,#[_,_,he,rfl],eP]
def ErrG(K:Ex)(f y:Jj):Prop:=∃C cd,ErrA K y C cd/\FS K (.ref C) "__getattribute__"=be (be (.builtin "BaseException.__getattribute__"))/\FS K (.ref C) "__getattr__"=be B_/\FS K (.ref C) f=be B_
def zc(ys:List Jj)(f:Jj)(te:TD):TD:=λz R=>te z λd=>match d with|.exc y fs=>y∈ys/\∃d,fs.lookup f=be d/\R d|_=>False
def sB[J:Jx]{e:P3}{te:TD}{pos:R4}{ys:List Jj}{f:Jj}(hG:∀y∈ys,ErrG X.K f y)(he:WDE X e te)(hb:autoParam (RZ e f X.env (R1 e X.env)=R1 e X.env) zA0):WDE X (.Attribute e f pos) (zc ys f te):=⟨by
 have he:=he.out;intro pins s σ H Q I h;obtain⟨B,F,z,kf,rs,R,h1,h2⟩:=h;refine attr_of hb (thn (he pins s σ H (λv H1=>∃F1 x fs,Grow F H F1 H1/\Rep X.K F1 (.exc x fs) v/\x∈ys/\∃d,fs.lookup f=be d/\R d) I #[B,F,z,kf,rs,_,h1,λd v F1 H1 g1 hx rx=>?_]) λu s1 ⟨v,H1,I1,rv,F1,x,fs,g1,rx,hy,d,hl,hR⟩=>?_)
 .split at hx
  .obtain⟨hy,d,hl,hR⟩:=hx;exact#[F1,_,_,g1,rx,hy,d,hl,hR]
  .exact hx.elim
 .obtain⟨a,C,od,vs,rfl,hn,QB,rf,Nr⟩:=rep_exc.mp rx;obtain rfl:u=Value.ref a:=rv;obtain⟨C',cd,ea,ga,gb,hf⟩:=hG x hy;have f_:=ea.ns;rw[hn]at f_;cases f_;obtain⟨l_,sl,i8⟩:=(I1.hok a _ (g1.fh _ _ QB)).1;obtain⟨w',hw,h_⟩:=rf.look hl;rcases Nr with⟨_,e2⟩|⟨b,rfl,f6⟩
  .rw[e2]at hw;cases hw
  .obtain⟨mA,hns,u6⟩:=(show ObjOk X.prog X.w H1 s1.heap b (.xd vs)from I1.hok b _ (g1.fh _ _ f6));obtain⟨uv,hu,ru⟩:=RelO.some_of (v:=w') (o:=mA f) (by rw[<-hw];exact u6 f);obtain⟨QC,ho,look⟩:=qg hns;have Nt:hasDictIn X.K C=true:=by unfold hasDictIn;rw[ea.cl];exact ea.hd
   exact xF (K:=X.K) (ox:=#[.ref C,be b,.fields l_,sl]) (od:=QC) I1.kIn #[i8,rfl,rfl,ho] ea.cl ea.mro ga gb (findObj_own Nt hf rfl (by rw[look,hu])) (qj ru) λtk=>#[w',H1,I1.tok tk,ru,h2 d w' F1 H1 g1 hR h_]⟩
def zd:tailIn K veLine veLine=true:=by
 unfold tailIn;rfl
def sC{c:KB}{d:Option KF}{es:Array DictEntry}{ep:Nat}(l:K.lookup N=be #[c,d,.dict es ep,sl])(h:es.toList.all (λe=>match e.key with|.str _ _=>true|_=>false)=true):nsOkIn K N=true:=by
 unfold nsOkIn;rw[l];dsimp only;rw[<-HS];exact h
def ze{M:KF}{c0:KB}{dd:Option KF}{cd:Ta}(l:K.lookup M=be #[c0,dd,.cls cd,sl])(hn:cd.ns=N)(h1:nsOkIn K N=true)(h2:nsIn K N "__init__"=be B_):tailIn K veLine (.ref M::veLine)=true:=by
 unfold tailIn;subst hn;dsimp only;rw[l];dsimp only;rw[h1,h2,zd];simp
def zf(S:SpX):SpD:=λds R=>S ds R λ_ _=>False
def CalX.no{base:Heap}{n:Nat}{S:SpX}(C:CalX P w K mg base n x ps S):CalD P w K mg base n x ps (zf S):=by
 obtain⟨f,fd,F,hb,hk,hm⟩:=C;refine#[f,fd,F.imp λvs H Q E h=>?_,hb,hk,hm];obtain⟨F,ds,fh,rs,R,h,q⟩:=h;exact#[F,ds,fh,rs,R,_,h,q,λ_ _ _ _ _ _ _ z=>z.elim]
end My
namespace My
def repS(x:Jj)(n:Nat):Str:=#[(Gu n x.cps.toList).flatten.toArray]
def sD{α:Type}(l:List α):∀m:Nat,(FQ m).filterMap (λk=>l[k]?)=l.take m
 |0=>by simp
 |m+1=>by
  rw[GV,List.filterMap_append,sD l m,List.take_succ];cases h:l[m]?<;>simp[h]
def zg(lo hi:Option Int)(n:Nat):Builtin.Str.strSliceIndices lo hi 1 n=(FQ (HT.sIx n n hi-HT.sIx n 0 lo)).map λk=>HT.sIx n 0 lo+k:=by
 have Jv:∀(i:Int) (d:Nat),max 0 (min (if i<0 then i+(n:Int)else i) (n:Int))=((HT.sIx n d (be i):Nat):Int):=by
  intro i d;show max 0 (min (if i<0 then i+(n:Int)else i) (n:Int))=(((if i<0 then(i+(n:Int)).toNat else min i.toNat n):Nat):Int);by_cases h:i<0
  .rw[if_pos h,if_pos h];lia
  .rw[if_neg h,if_neg h];lia
 have h1:Builtin.Str.strSliceIndices lo hi 1 n=sliceRange ((HT.sIx n 0 lo:Nat):Int) ((HT.sIx n n hi:Nat):Int) 1:=by
  unfold Builtin.Str.strSliceIndices;simp only[show(1:Int)>0 by decide,if_true];cases lo with
  |none=>cases hi with
   |none=>rfl
   |some j=>rw[<-Jv j n];rfl
  |some i=>cases hi with
   |none=>rw[<-Jv i 0];rfl
   |some j=>rw[<-Jv i 0,<-Jv j n]
 rw[h1];unfold sliceRange;simp only[show(1:Int)>0 by decide,if_true];have e3:(if((HT.sIx n 0 lo:Nat):Int)<((HT.sIx n n hi:Nat):Int)then(((HT.sIx n n hi:Nat):Int)-((HT.sIx n 0 lo:Nat):Int)+1-1)/1 else 0).toNat=HT.sIx n n hi-HT.sIx n 0 lo:=by
  split<;>lia
 rw[e3];apply GC;intro k _;lia
def slice_cps(y:Jj)(lo hi:Option Int):Txt.slice y lo hi=#[((y.cps.toList.drop (HT.sIx y.length 0 lo)).take (HT.sIx y.length y.length hi-HT.sIx y.length 0 lo)).toArray]:=by
 have la:HT.sIx y.length 0 lo<=y.length:=HT.sIx_le _ _ (Gh _) lo;have lb:HT.sIx y.length y.length hi<=y.length:=HT.sIx_le _ _ (FR _) hi;unfold Txt.slice;rw[zg];split
 .rename_i h;have hl:HT.sIx y.length y.length hi-HT.sIx y.length 0 lo=y.length:=by simpa using h
  have ha:HT.sIx y.length 0 lo=0\/y.length=0:=JZ
  rw[hl];obtain⟨cp⟩:=y;have e:(GW (HT.sIx (Str.mk cp).length 0 lo) cp.toList)=cp.toList:=by
   rcases ha with ha|ha
   .rw[ha];rfl
   .have:cp=[].toArray:=Array.eq_empty_of_size_eq_zero ha;subst this;simp
  show(#[cp]:Jj)=#[((GW (HT.sIx (Str.mk cp).length 0 lo) cp.toList).take cp.size).toArray];rw[e,GX J8]
 .congr 2;rw[Im];have:=sD (y.cps.toList.drop (HT.sIx y.length 0 lo)) (HT.sIx y.length y.length hi-HT.sIx y.length 0 lo);rw[<-this];congr 1;funext k;simp
section
variable {X:Cx}[J:Jx]{a b c e:P3}{ta tb tc te:TD}{pos:R4}
def FK:RD2:=λx y R=>match x,y with
 |.int i,.int j=>CMul i j/\R (.int (i*j))
 |.str i,.int n=>(-(2^62)<=n/\n<=1000000/\i.length*n.toNat<=1000000)/\R (.str (repS i n.toNat))
 |.lst xs,.int n=>(-(2^62)<=n/\n<=1000000/\xs.length*n.toNat<=1000000)/\R (.lst (Gu n.toNat xs).flatten)
 |_,_=>False
def sE:SlR X (λx lo hi H Q=>∃y,x=.str y/\y.length<=sizeLine/\Q (.str (Txt.slice y lo hi)) H):=by
 intro pins s σ H x v vl vu lo hi sl Q I rx hs pl pu h;obtain⟨y,rfl,hz,q⟩:=h;obtain⟨t,rfl⟩:=rx;have ge:∀t' k,EP X pins σ Q (.str (Txt.slice y lo hi) t') {s with toks:=k}:=λt' k=>#[.str _,H,I.tok k,#[_,rfl],q];have le:=FY (Txt.slice_le y lo hi) hz;refine#["str",_,PySem.F.slot_str_getitem.lookup,T4 _ _ _,?_];cases pl with
 |none=>cases pu with
  |none=>exact Sq (l:=B_) (u:=B_) (st:=B_) hs rfl (SX #[le,ge])
  |int j tj=>exact Sq (l:=B_) (u:=be (j,tj)) (st:=B_) hs rfl (SX #[le,ge])
 |int i ti=>cases pu with
  |none=>exact Sq (l:=be (i,ti)) (u:=B_) (st:=B_) hs rfl (SX #[le,ge])
  |int j tj=>exact Sq (l:=be (i,ti)) (u:=be (j,tj)) (st:=B_) hs rfl (SX #[le,ge])
abbrev TDO:=SD->(Option Int->Prop)->Prop
def zh:TDO:=λ_ R=>R B_
def zi(te:TD):TDO:=λz R=>te z λx=>match x with|.int i=>R (be i)|_=>False
def lO(K:Ex)[J:Jx](t:TDO):TO:=λs H Q=>∃B F z,Kept B J.F0 F H/\RepS K B F H z s/\∃R:Option Int->Prop,t z R/\∀o F' H',Grow F H F' H'->R o->Q o H'
abbrev DPO(X:Cx)[Jx](e:Option P3)(t:TDO):Prop:=PO X e (lO X.K t)
structure WDPO(X:Cx)[Jx](e:Option P3)(t:TDO):Prop where
 out:DPO X e t
def PO.anti{X:Cx}{e:Option P3}{t t':TO}(h:PO X e t)(a:∀s H Q,t' s H Q->t s H Q):PO X e t':=λpins s σ H Q I q=>h pins s σ H Q I (a _ _ _ q)
def dh:WDPO X B_ zh:=⟨PO.anti qw λs H Q q=>by
 obtain⟨B,F,z,kf,rs,R,h1,h2⟩:=q;exact h2 B_ F H (Grow.refl kf.fh) h1⟩
def dm(he:WDE X e te):WDPO X (be e) (zi te):=⟨have he:=he.out;PO.anti (qy he) λs H Q q=>by
 obtain⟨B,F,z,kf,rs,R,h1,h2⟩:=q;refine#[B,F,z,kf,rs,_,h1,λx u F1 H1 g1 hx rx=>?_];split at hx
 .exact#[_,rep_int.mp rx,h2 _ F1 H1 g1 hx]
 .exact hx.elim⟩
def rdSl:D->Option Int->Option Int->(D->Prop)->Prop:=λx lo hi R=>match x with
 |.str y=>y.length<=1000000/\R (.str (Txt.slice y lo hi))
 |.lst xs=>R (.lst (cutD xs lo hi))
 |.rol xs=>R (.lst (cutD xs lo hi))
 |.tup xs=>¬(HT.sIx xs.length 0 lo=0/\HT.sIx xs.length xs.length hi=xs.length)/\R (.tup (cutD xs lo hi))
 |_=>False
def dSl(ta:TD)(tl th:TDO):TD:=λz R=>ta z λx=>tl z λlo=>th z λhi=>rdSl x lo hi R
def dq{lo hi:Option P3}{tl th:TDO}{p2:R4}(ha:WDE X a ta)(hl:WDPO X lo tl)(hu:WDPO X hi th):WDE X (.Subscript a (.Slice lo hi B_ p2) pos) (dSl ta tl th):=⟨have ha:=ha.out;have hl:=hl.out;have hu:=hu.out;(jH (SlR.or sE (SlR.or jJ qA)) ha hl hu).anti λs H Q q=>by
 obtain⟨B,F,z,kf,rs,R,h1,h2⟩:=q;refine#[B,F,z,kf,rs,_,h1,λx u F1 H1 g1 hx rx=>?_];refine#[B,F1,z,kf.grow g1,rs.grow g1,_,hx,λlo F2 H2 g2 hy=>?_];refine#[B,F2,z,(kf.grow g1).grow g2,(rs.grow g1).grow g2,_,hy,λhi F3 H3 g3 hw=>?_];have g:=g1.trans (g2.trans g3);have Jw:=(rx.mono g2.ff).mono g3.ff;unfold rdSl at hw;split at hw
 .exact .inl #[_,rep_str.mp Jw,FY hw.1 J7,h2 _ _ F3 H3 g hw.2 (rep_str.mpr rfl)]
 .obtain⟨l,vs,rfl,hq,rr⟩:=rep_lst.mp Jw;refine .inr (.inl #[l,vs,rfl,SqL.of (g3.fh _ _ hq),λp hp=>?_]);exact h2 _ _ _ _ (g.trans (Grow.new g3.fh hp _)) hw (rep_lst.mpr #[p,_,rfl,ax,(rr.cut _ _).mono (aS (g3.fh.free hp) _)])
 .obtain⟨l,vs,rfl,hq,rr⟩:=rep_rol.mp Jw;refine .inr (.inl #[l,vs,rfl,g3.fh.seq hq,λp hp=>?_]);exact h2 _ _ _ _ (g.trans (Grow.new g3.fh hp _)) hw (rep_lst.mpr #[p,_,rfl,ax,(rr.cut _ _).mono (aS (g3.fh.free hp) _)])
 .obtain⟨l,vs,rfl,hq,rr⟩:=rep_tup_mp Jw;refine .inr (.inr #[l,vs,rfl,g3.fh.tup hq,by rw[rr.length];exact hw.1,λp hp=>?_]);exact h2 _ _ _ _ (g.trans (Grow.new g3.fh hp _)) hw.2 (rep_tupS.mpr #[p,_,rfl,ax,(rr.cut _ _).mono (aS (g3.fh.free hp) _)])
 .exact hw.elim⟩
def rdIn(neg:Bool):RD2:=λx y R=>match y with
 |.str j=>kdS x λi=>R (.bl (if neg then !(!(Builtin.Str.occurrences j i 0 j.length 1).isEmpty)else !(Builtin.Str.occurrences j i 0 j.length 1).isEmpty))
 |.lst ys=>(bu x=true/\ys.all bu=true)/\R (.bl (if neg then !(ys.any λy=>eqF y x)else ys.any λy=>eqF y x))
 |.rol ys=>(bu x=true/\ys.all bu=true)/\R (.bl (if neg then !(ys.any λy=>eqF y x)else ys.any λy=>eqF y x))
 |.tup ys=>(bu x=true/\ys.all bu=true)/\R (.bl (if neg then !(ys.any λy=>eqF y x)else ys.any λy=>eqF y x))
 |_=>False
def gI{K:Ex}{H:Hp}{x:D}{u:V}(rx:Rep K H x u)(fx:bu x=true):∀{ys:List D} {vs:List V},Reps K H ys vs->ys.all bu=true->inV u vs=ys.any λy=>eqF y x
 |[],vs,r,_=>by rw[reps_nil.mp r];rfl
 |y::ys,vs,r,f=>by
  obtain⟨v,vr,rfl,r1,r2⟩:=reps_cons.mp r;rw[GT,Gj]at f;have ih:=gI rx fx r2 f.2;unfold inV at ih ⊢;rw[Hs,Hs,ih,rF r1 rx f.1 fx]
def rInV(K:Ex)(neg:Bool):R2:=λx y H Q=>(∃i j,x=.str i/\y=.str j/\Q (.bl (if neg then !(!(Builtin.Str.occurrences j i 0 j.length 1).isEmpty)else !(Builtin.Str.occurrences j i 0 j.length 1).isEmpty)) H)\/rIn K neg x y H Q
def zj{K:Ex}{neg:Bool}:aW K (rInV K neg) (rdIn neg):=by
 intro x y u v F H R Q fh h rx ry q;cases y with
 |str j=>
  replace h:=kdS.of h;obtain⟨i,rfl,h⟩:=h;exact .inl #[_,_,rep_str.mp rx,rep_str.mp ry,q _ _ F H (Grow.refl fh) h (rep_bl.mpr rfl)]
 |lst ys=>
  obtain⟨⟨f1,f2⟩,h⟩:=h;obtain⟨l,vs,rfl,hq,rr⟩:=rep_lst.mp ry;exact .inr #[l,vs,rfl,.inl (fh.seq (SqL.of hq)),gx rx f1,dX rr f2,q _ _ F H (Grow.refl fh) h (rep_bl.mpr (by rw[gI rx f1 rr f2]))]
 |rol ys=>
  obtain⟨⟨f1,f2⟩,h⟩:=h;obtain⟨l,vs,rfl,hq,rr⟩:=rep_rol.mp ry;exact .inr #[l,vs,rfl,.inl (fh.seq hq),gx rx f1,dX rr f2,q _ _ F H (Grow.refl fh) h (rep_bl.mpr (by rw[gI rx f1 rr f2]))]
 |tup ys=>
  obtain⟨⟨f1,f2⟩,h⟩:=h;obtain⟨l,vs,rfl,hq,rr⟩:=rep_tup_mp ry;exact .inr #[l,vs,rfl,.inr (fh.tup hq),gx rx f1,dX rr f2,q _ _ F H (Grow.refl fh) h (rep_bl.mpr (by rw[gI rx f1 rr f2]))]
 |_=>exact False.elim h
def zk:OpR X (R8 .NotIn) (rInV X.K true):=OpR.or xj xi
end
end My
namespace L2
def Its(x:Jj):It:=#[λi _=>i<x.length,λi H v H'=>H'=H/\∃c,x.cps[i]?=be c/\v=.str #[[c].toArray],λi _=>x.length<=i]
def zl{P:RP}{w:RU}{K:Ex}{tg:P3}(x:Jj)(t:Ub)(it:KF):Turn P w K tg (Its x) [it] it (λi h=>h.IsStrIter it "str_ascii_iterator" x t i) where
 mem:=J8
 obj:=λi h st b hb=>by
  have e:b=it:=by simpa using hb
  subst e;obtain⟨o,e,c,d⟩:=st;exact#[o,e,λv z=>by rw[d]at z;cases z]
 keep:=λi h h' st k=>by
  obtain⟨o,e,r⟩:=st;exact#[o,k it J8 o e,r]
 item:=by
  intro X hP hw hK hc i pins s σ H E I hf st hg;subst hP hw hK;have hi:i<x.cps.size:=hg;obtain⟨f0,f1,f2,f3,f4,f5⟩:=hf it J8;refine wpAny_pyNext_ascii_item st (c:=x.cps[i]) (Iy hi) λh' t_ sb=>?_;have I1:Inv X pins σ H {s with heap:=h',toks:=s.toks+1}:=I.turned (t':=s.toks+1) (λb o hb e=>(sb.2 b hb).trans e) f0 f1 f3 f4 f5;obtain⟨o,e,c,d⟩:=id t_;exact#[_,rfl,jw (s:={s with heap:=h',toks:=s.toks+1}) e c d J7 #[.str #[[x.cps[i]].toArray],H,I1,#[_,rfl],#[rfl,_,Iy hi,rfl],t_,λb hb=>(hf b hb).1]]
 done:=by
  intro X hP hw hK hc i pins s σ H E I hf st hg;subst hP hw hK;have hi:x.cps.size<=i:=hg;obtain⟨f0,f1,f2,f3,f4,f5⟩:=hf it J8;exact wpAny_pyNext_ascii_end (I.ok.hd hc) st (Array.getElem?_eq_none hi) λh' eb=>#[rfl,I.turned (t':=s.toks) (λb o hb e=>eb b o hb e) f0 f1 f3 f4 f5]
 self:=λA i s Q E st hQ=>wpAny_pyIter_striter_ascii st hQ
def iStr(tl:TE):TI:=λσ H R=>tl σ H λv H1=>∃x,v=.str x/\x.cps.all (·<128)=true/\R (Its x) H1
def sF{X:Cx}{tg l:P3}{tl:TE}(hl:PE X l tl):PI X tg l (iStr tl):=by
 intro pins s σ H R I h;refine thn (hl pins s σ H _ I h) λv s1 b9=>?_;obtain⟨v1,H1,I1,r1,q1⟩:=b9;obtain⟨x,rfl,ha,q⟩:=q1;obtain⟨t,rfl⟩:=r1;refine wpAny_pyIter_ascii ha ?_;refine#[s1.heap.objs.size,[s1.heap.objs.size],_,_,H1,rfl,I1.kept (t':=s1.toks) λb o e=>Heap.get?_push_of_some _ e,zl x t _,#[_,Heap.get?_push_size _ rfl,rfl,rfl],λb hb=>?_,q];have e:b=s1.heap.objs.size:=by simpa using hb
 subst e;exact I1.fpOk (FR _) (I1.hok.fresh (FR _))
def zm{x:Jj}{g:TG}{tb:TS}{D:Ends}{σ:St}{H:Hp}(Pv:Nat->St->Hp->Prop)(h0:Pv 0 σ H)
  (hs:∀i c σ H,x.cps[i]?=be c->Pv i σ H->g (.str #[[c].toArray]) σ H λσ2 H2=>tb {D with nx:=Pv (i+1),ct:=Pv (i+1),bk:=D.nx} σ2 H2) (hd:∀σ H,Pv x.length σ H->D.nx σ H):
  ∃W:Nat->Nat->St->Hp->Prop,(∃m,W 0 m σ H)/\∀i m σ H,W i m σ H->
   ((Its x).stop i H/\D.nx σ H)\/((Its x).go i H/\∃N:St->Hp->Prop,(∀σ' H',N σ' H'->∃m',m'<m/\W (i+1) m' σ' H')/\∀v H',(Its x).yld i H v H'->g v σ H' λσ2 H2=>tb {D with nx:=N,ct:=N,bk:=D.nx} σ2 H2):=by
 refine#[λi m σ H=>m=x.length-i/\i<=x.length/\Pv i σ H,#[x.length,J8,Gh _,h0],?_];rintro i m σ H ⟨rfl,hi,p⟩;by_cases d9:i<x.length
 .refine .inr #[d9,Pv (i+1),λσ' H' p'=>#[x.length-(i+1),JZ,rfl,d9,p'],λv H' y=>?_];obtain⟨e,c,hc,rfl⟩:=y;subst e;exact hs i c σ _ hc p
 .have e:i=x.length:=by lia
  subst e;exact .inl #[FR _,hd σ H p]
end L2
namespace My
section
variable {X:Cx}[J:Jx]{a b c e:P3}{ta tb tc te:TD}{pos:R4}
def bJ(x:Jj):List D:=x.cps.toList.map λc=>D.str #[[c].toArray]
def dItS(t:TD):TDI:=λz R=>t z λy=>match y with|.str x=>x.cps.all (·<128)=true/\R (bJ x)|_=>False
def gJ{x:Jj}{k c:Nat}(h:x.cps[k]?=be c):(bJ x)[k]?=be (.str #[[c].toArray]):=by
 unfold bJ;rw[F6,Ip,h];rfl
def eD(x:Jj):(bJ x).length=x.length:=by unfold bJ;rw[F4];simp[Str.length]
def zn(i:Nat){x:Jj}{p:R4}{body:List RS}{tb:TSD}(hp:Se (RR X.prog X.w) X.A X.env X.xe)(hc:X.calm=true)(hN:X.N.Nodup)(he:WDE X e te)(hb:WDSs X body tb)(hi:autoParam (X.N[i]?=be x) zA0)(hx:autoParam (Loc X.env.scope x) zA4)
  (hf:autoParam (zFN X x) zA3) (hs:autoParam (∀y,zFS X e y) zA2):WDS X (.For (.Name x p) e body [] pos) (dFor i (dItS te) tb):=⟨have he:=he.out;have hb:=hb.out;(cH hp hc (sF he) (cZ hN hi hx hf) hb hs).anti λE s H q=>by
 obtain⟨B,F0,F,z,kp,rs,ED,h,e⟩:=q;refine#[B,F,z,kp.kf,rs,_,h,λd v F1 H1 g1 hd rd=>?_];split at hd
 .rename_i y;obtain⟨ha,W,w0,c3,out⟩:=hd;refine#[y,rep_str.mp rd,ha,zm (λk s' H'=>∃F' z',Kept B F0 F' H'/\RepS X.K B F' H' z' s'/\W k z') #[F1,z,kp.grow g1,rs.grow g1,w0] ?_ ?_]
  .rintro k c s' H' hk⟨F',z',k',r',w'⟩;exact#[B,F0,F',_,k',r'.set (d:=.str #[[c].toArray]) (rep_str.mpr rfl),_,c3 k (.str #[[c].toArray]) z' (gJ hk) w',#[λz3 s3 F3 H3 k3 h3 r3=>#[F3,z3,k3,r3,h3],e.rt,e.nx,λz3 s3 F3 H3 k3 h3 r3=>#[F3,z3,k3,r3,h3]]]
  .rintro s' H'⟨F',z',k',r',w'⟩;exact e.nx z' s' F' H' k' (out z' (by rw[eD];exact w')) r'
 .exact hd.elim⟩
variable {gV iter:P3}{x:Jj}{px:R4}{scope:Sm}{ti:TD}
def itS{K:Ex}:ItOk K (iStr (lE K ti)) (dItS ti):=λ{s H B F z P Q} kf rs h1 h2=>by
 refine#[B,F,z,kf,rs,_,h1,λd v F1 H1 g1 hd rd=>?_];split at hd
 .rename_i y;obtain⟨ha,hd⟩:=hd;have hl:=eD y;refine#[y,rep_str.mp rd,ha,h2 _ _ F1 H1 g1 hd #[λk F' H' G hk=>by rw[hl]at hk;exact hk,λk F' H' v H'' G hk hy=>?_,λF' H' G=>by show y.length<=_;rw[hl];exact FR _]];obtain⟨e,c,hc,rfl⟩:=hy;exact#[e,.str #[[c].toArray],gJ hc,rep_str.mpr rfl]
 .exact hd.elim
end
section
variable {X:Cx}[J:Jx]{a b c e o:P3}{es:List P3}{ta tb tc te to:TD}{t:TDA}{pos:R4}
abbrev RTx:=Jj->List D->(D->Prop)->Prop
def dTx(r:RTx)(to:TD)(t:TDA):TD:=λz R=>to z λx=>match x with|.str y=>t z λds=>r y ds R|_=>False
def MtS(X:Cx)(id:String)(r:RTx):Prop:=∃rv:V->List V->Hp->VK->Prop,MtR X id rv/\∀(y:Jj) (ds:List D) (vs:List V) (F H:Hp) (R:D->Prop) (Q:VK),Reps X.K F ds vs->r y ds R->(∀d v,(∀G,Rep X.K G d v)->R d->Q v H)->rv (.str y) vs H Q
variable{apos cpos:R4}
def kr{name:Jj}{id:String}{r:RTx}(slot:Slot "str" name id)(K6:typeOf (.builtin id)=pure (.type "method_descriptor"))(hm:MtS X id r)(ho:DE X o to)(ha:DA X (e::es) t)
  (b7:autoParam (RZ o name X.env (R1 o X.env)=R1 o X.env) zA0)
  (d3:autoParam (zHF X cpos (e::es)) zA0)
  (b_:autoParam ((apos.endLine==cpos.line)=true) zA0) (hs:autoParam (zSE X e es) zA0) (n6:autoParam (zPL X cpos es) zA0):
  DE X (.Call (.Attribute o name apos) (e::es) [] cpos) (dTx r to t):=by
 obtain⟨rv,hm,L⟩:=hm;refine(dP PySem.F.plainAttrs_str slot K6 hm ho ha b7 d3 b_ hs n6).anti λs H Q q=>?_;obtain⟨B,F,z,kf,rs,R,h1,h2⟩:=q;refine#[B,F,z,kf,rs,_,h1,λx u F1 H1 g1 hx rx=>?_];split at hx
 .rename_i y;rw[rep_str.mp rx];refine#[rfl,B,F1,z,kf.grow g1,rs.grow g1,_,hx,λds vs F2 H2 g2 hy ry=>?_];exact L y ds vs F2 H2 R Q ry hy λd v rd hR=>h2 d v F2 H2 (g1.trans g2) hR (rd F2)
 .exact hx.elim
def FL:RTx:=λy ds R=>match ds with|[.str p]=>R (.bl (Txt.startswith y p))|_=>False
def rEnds:RTx:=λy ds R=>match ds with|[.str p]=>R (.bl (Txt.endswith y p))|_=>False
def ms_ends:MtS X "str.endswith" rEnds:=by
 refine#[λx vs H Q=>∃y p,x=.str y/\vs=[.str p]/\Q (.bl (Txt.endswith y p)) H,?_,?_]
 .intro pins s σ H x vs v us Q I rx rv h;obtain⟨y,p,rfl,rfl,q⟩:=h;obtain⟨t,rfl⟩:=rx;obtain⟨u,rfl,t',rfl⟩:=bZ rv;exact SC.endswith #[.bl _,H,I,rfl,q]
 .intro y ds vs F H R Q r h q;unfold rEnds at h;split at h
  .obtain⟨v,vr,rfl,h1,h2⟩:=reps_cons.mp r;rw[reps_nil.mp h2,rep_str.mp h1];exact#[_,_,rfl,rfl,q _ _ (λ_=>rep_bl.mpr rfl) h]
  .exact h.elim
def zo(ho:WDE X o to)(ha:WDA X [e] t)(b7:autoParam (RZ o "endswith" X.env (R1 o X.env)=R1 o X.env) zA0)
  (d3:autoParam (zHF X cpos [e]) zA0)
  (b_:autoParam ((apos.endLine==cpos.line)=true) zA0) (hs:autoParam (zSE X e []) zA0):WDE X (.Call (.Attribute o "endswith" apos) [e] [] cpos) (dTx rEnds to t):=#[have ho:=ho.out;have ha:=ha.out;kr PySem.F.slot_str_endswith PySem.F.type_str_endswith ms_ends ho ha b7 d3 b_ hs]
def rSIndex:RTx:=λy ds R=>match ds with|[.str p]=>∃i rest,Builtin.Str.occurrences y p 0 y.length 1=i::rest/\R (.int (i:Nat))|_=>False
def zp:MtS X "str.index" rSIndex:=by
 refine#[λx vs H Q=>∃y p i rest,x=.str y/\vs=[.str p]/\Builtin.Str.occurrences y p 0 y.length 1=i::rest/\Q (.int (i:Nat)) H,?_,?_]
 .intro pins s σ H x vs v us Q I rx rv h;obtain⟨y,p,i,rest,rfl,rfl,ho,q⟩:=h;obtain⟨t,rfl⟩:=rx;obtain⟨u,rfl,t',rfl⟩:=bZ rv;exact SC.index ho #[.int _,H,I.tok _,#[_,rfl],q]
 .intro y ds vs F H R Q r h q;unfold rSIndex at h;split at h
  .obtain⟨i,rest,ho,h⟩:=h;obtain⟨v,vr,rfl,h1,h2⟩:=reps_cons.mp r;rw[reps_nil.mp h2,rep_str.mp h1];exact#[_,_,i,rest,rfl,rfl,ho,q _ _ (λ_=>rep_int.mpr rfl) h]
  .exact h.elim
def sG(ho:WDE X o to)(ha:WDA X [e] t)(b7:autoParam (RZ o "index" X.env (R1 o X.env)=R1 o X.env) zA0)
  (d3:autoParam (zHF X cpos [e]) zA0)
  (b_:autoParam ((apos.endLine==cpos.line)=true) zA0) (hs:autoParam (zSE X e []) zA0):WDE X (.Call (.Attribute o "index" apos) [e] [] cpos) (dTx rSIndex to t):=#[have ho:=ho.out;have ha:=ha.out;kr PySem.F.slot_str_index PySem.F.type_str_index zp ho ha b7 d3 b_ hs]
def Reps.init{K:Ex}{F:Hp}:∀{ds:List D} {vs:List V},Reps K F ds vs->Reps K F ds.dropLast vs.dropLast
 |[],vs,r=>by rw[reps_nil.mp r];exact reps_nil.mpr rfl
 |[d],vs,r=>by
  obtain⟨v,vr,rfl,_,h2⟩:=reps_cons.mp r;rw[reps_nil.mp h2];exact reps_nil.mpr rfl
 |d::d2::ds,vs,r=>by
  obtain⟨v,vr,rfl,h1,h2⟩:=reps_cons.mp r;obtain⟨v2,Rw,rfl,h3,h4⟩:=reps_cons.mp h2;rw[Iz,Iz];exact reps_cons.mpr #[v,_,rfl,h1,Reps.init h2]
end
end My
namespace My
open Exc
section
variable {X:Cx}{a b c e:P3}{ta tb tc te:TD}{pos:R4}{st:RS}{rest:List RS}{t u:TSD}
def bK[Jx]{c:P3}{l r:List RS}{tc:TDT}(hc:WDT X c tc)(ha:WDSs X l t)(hb:WDSs X r u):WDS X (.If c l r pos) (dIfS tc t u):=#[rJ (c:=c) (l:=l) (r:=r) (tc:=tc) (hc:=hc.out) (ha:=ha.out) (hb:=hb.out)]
end
section
variable {P:RP}{w:RU}{K:Ex}{mg:Jj->Option KB}{base:Heap}
variable{x qual:Jj}{st:RS}{f:KF}{fd:R3}{N ps:List Jj}{k:Nat}
def _root_.L2.Fun.okDW{S:SpD}(T:Fun K x qual st f fd)(F:FnScope N ps (ag st))(len:∀ds R,S ds R->ds.length=ps.length)
  (a8:∀(cdv:KB) (A:RV) (outer:List SL) (s:KM) (H:Hp) (E:XK) (J:Jx),Room k (A.deeper (R6 qual (ag st) s.heap.objs.size f cdv))->
   ∃t,WDSs (cxOf (Exc.CX1 P w) P w K mg base N qual (ag st) f cdv A outer s H E).nox (aG st) t/\∀ds R,S ds R->t {nx:=λ_=>R .non,rt:=R} (startD N ds)):FnOk P w K mg base (Exc.CX1 P w) (k+1) f fd ps (lSp K S):=
 T.okD F len λcdv A outer s H E J hr=>let ⟨t,h,q⟩:=a8 cdv A outer s H E J hr;#[t,h.out,q]
def Tx.okDW{S:SpD}(T:Tx K mg x st ps)(F:FnScope N ps (ag st))(len:∀ds R,S ds R->ds.length=ps.length)
  (a8:∀(f:KF) (cdv:KB) (A:RV) (outer:List SL) (s:KM) (H:Hp) (E:XK) (J:Jx),Room k (A.deeper (R6 x (ag st) s.heap.objs.size f cdv))->
   ∃t,WDSs (cxOf (Exc.CX1 P w) P w K mg base N x (ag st) f cdv A outer s H E).nox (aG st) t/\∀ds R,S ds R->t {nx:=λ_=>R .non,rt:=R} (startD N ds)):CalD P w K mg base (k+1) x ps S:=
 Tx.okD T F len λf cdv A outer s H E J hr=>let ⟨t,h,q⟩:=a8 f cdv A outer s H E J hr;#[t,h.out,q]
def Tx.okXW{S:SpX}(T:Tx K mg x st ps)(F:FnScope N ps (ag st))(len:∀ds R RX,S ds R RX->ds.length=ps.length)
  (a8:∀(f:KF) (cdv:KB) (A:RV) (outer:List SL) (s:KM) (H:Hp) (E:XK) (J:Jx),Room k (A.deeper (R6 x (ag st) s.heap.objs.size f cdv))->XOk (cxOf (CX1 P w) P w K mg base N x (ag st) f cdv A outer s H E)->
   ∃t,WDSs (cxOf (CX1 P w) P w K mg base N x (ag st) f cdv A outer s H E) (aG st) t/\∀ds R RX,(∀z,J.RX z=RX)->S ds R RX->t {nx:=λ_=>R .non,rt:=R} (startD N ds)):CalX P w K mg base (k+1) x ps S:=
 Tx.okX T F len λf cdv A outer s H E J hr hx=>let ⟨t,h,q⟩:=a8 f cdv A outer s H E J hr hx;#[t,h.out,q]
def Cls.okIW{C:KF}{p0:Jj}{S:SiD}(T:Fun K "__init__" qual st f fd)(hb:Binds K fd (p0::ps) [])(F:FnScope (p0::N) (p0::ps) (ag st))(len:∀ds R,S ds R->ds.length=ps.length)
  (hns:nsIn K Pi x=be (be (.ref C))) (j4:mg x=be (.ref C)) (mk:Mk K C f)
  (a8:∀(cdv:KB) (A:RV) (outer:List SL) (s:KM) (H:Hp) (E:XK) (J:Jx),Room k (A.deeper (R6 qual (ag st) s.heap.objs.size f cdv))->
   ∃t,WDI (cxOf (Exc.CX1 P w) P w K mg base (p0::N) qual (ag st) f cdv A outer s H E).nox x (aG st) t/\∀ds R,S ds R->t (B_::startD N ds) [] R):CalM P w K mg base (k+1) x (p0::ps) S:=
 Cls.okI T hb F len hns j4 mk λcdv A outer s H E J hr=>let ⟨t,h,q⟩:=a8 cdv A outer s H E J hr;#[t,h.out,q]
def Cls.okEW{C N0:KF}{bm:List KB}{p0:Jj}{S:SiD}(T:Fun K "__init__" qual st f fd)(hb:Binds K fd (p0::ps) [])(F:FnScope (p0::N) (p0::ps) (ag st))(len:∀ds R,S ds R->ds.length=ps.length)
  (ek:ErrK K mg x C N0 bm) (hi:FS K (.ref C) "__init__"=be (be (.ref f))) (hf:isFn K (.ref f)=true)
  (a8:∀(cdv:KB) (A:RV) (outer:List SL) (s:KM) (H:Hp) (E:XK) (J:Jx),Room k (A.deeper (R6 qual (ag st) s.heap.objs.size f cdv))->
   ∃t,WDX (cxOf (CX1 P w) P w K mg base (p0::N) qual (ag st) f cdv A outer s H E).nox x (aG st) t/\∀ds R,S ds R->t (B_::startD N ds) [] R):CalE P w K mg base (k+1) x (p0::ps) S:=
 Cls.okE T hb F len ek hi hf λcdv A outer s H E J hr=>let ⟨t,h,q⟩:=a8 cdv A outer s H E J hr;#[t,h.out,q]
end
inductive MO where
 |ins (x:Str) (fs:List (Str×D))|lst (ds:List D)|dti (a9:List ((Int×Int)×Int))
abbrev MS:=List (KF×MO)
def MRep(K:Ex)(F H:Hp)(a:KF):MO->Prop
 |.ins x fs=>∃C dx ws,nsIn K Pi x=be (be (.ref C))/\H a=be (.ins C dx ws)/\RepF K F fs ws
 |.lst ds=>∃vs,H a=be (.lst vs)/\Reps K F ds vs
 |.dti a9=>H a=be (.dT (dtiV a9))
def am(M:MS):List KF:=M.map (·.1)
def mget:MS->KF->Option MO
 |[],_=>B_
 |(b,o)::r,a=>if b=a then be o else mget r a
def mput:MS->KF->MO->MS
 |[],_,_=>[]
 |(b,p)::r,a,o=>if b=a then(b,o)::r else(b,p)::mput r a o
def mdel:MS->KF->MS
 |[],_=>[]
 |(b,p)::r,a=>if b=a then r else(b,p)::mdel r a
def bf:∀{M:MS} {a:KF} {o:MO},mget M a=be o->(a,o)∈M
 |[],_,_,h=>by cases h
 |(b,p)::r,a,o,h=>by
  unfold mget at h;split at h
  .rename_i e;subst e;cases h;exact FZ
  .exact FW _ (bf h)
variable{M:MS}{a:KF}{o:MO}
def bA(h:(a,o)∈M):a∈am M:=Gm.mpr #[_,h,rfl]
def gK:∀(M:MS) (a:KF) (o:MO),am (mput M a o)=am M
 |[],_,_=>rfl
 |(b,p)::r,a,o=>by
  unfold mput;split
  .rfl
  .show b::am (mput r a o)=b::am r;rw[gK r a o]
def mem_put:∀{M:MS} {a b:KF} {o q:MO},(am M).Nodup->(b,q)∈mput M a o->(b=a/\q=o/\a∈am M)\/(b≠a/\(b,q)∈M)
 |[],_,_,_,_,_,h=>by cases h
 |(c,p)::r,a,b,o,q,nd,h=>by
  have m5:c∉am r/\(am r).Nodup:=Gp.mp nd;unfold mput at h;split at h
  .rename_i e;subst e;rcases FT.mp h with z|z
   .cases z;exact .inl #[rfl,rfl,FZ]
   .have:b∈am r:=bA z;exact .inr #[λe=>m5.1 (e ▸ this),FW _ z]
  .rename_i ne;rcases FT.mp h with z|z
   .cases z;exact .inr #[ne,FZ]
   .rcases mem_put m5.2 z with⟨e1,e2,e3⟩|⟨e1,e2⟩
    .exact .inl #[e1,e2,FW _ e3]
    .exact .inr #[e1,FW _ e2]
def kt:∀{M:MS} {a b:KF} {q:MO},(am M).Nodup->(b,q)∈mdel M a->b≠a/\(b,q)∈M
 |[],_,_,_,_,h=>by cases h
 |(c,p)::r,a,b,q,nd,h=>by
  have m5:c∉am r/\(am r).Nodup:=Gp.mp nd;unfold mdel at h;split at h
  .rename_i e;subst e;exact#[λe=>m5.1 (e ▸ bA h),FW _ h]
  .rename_i ne;rcases FT.mp h with z|z
   .cases z;exact#[ne,FZ]
   .obtain⟨e1,e2⟩:=kt m5.2 z;exact#[e1,FW _ e2]
def del_sub:∀{M:MS} {a:KF},(am (mdel M a)).Sublist (am M)
 |[],_=>.slnil
 |(c,p)::r,a=>by
  unfold mdel;split
  .exact IA _ _
  .exact List.Sublist.cons_cons _ del_sub
variable{K:Ex}{F H F' H':Hp}
def MRep.mono(ff:Same F F')(hh:∀o,H a=be o->H' a=be o):∀{o:MO},MRep K F H a o->MRep K F' H' a o
 |.ins x fs,⟨C,dx,ws,n,h,r⟩=>#[C,dx,ws,n,hh _ h,RepF.mono ff fs ws r]
 |.lst ds,⟨vs,h,r⟩=>#[vs,hh _ h,Reps.mono ff ds vs r]
 |.dti a9,h=>hh _ h
def MRep.there:∀{o:MO},MRep K F H a o->H a≠B_
 |.ins x fs,⟨C,dx,ws,n,h,r⟩=>by rw[h];exact λz=>nomatch z
 |.lst ds,⟨vs,h,r⟩=>by rw[h];exact λz=>nomatch z
 |.dti a9,h=>by rw[show H a=_ from h];exact λz=>nomatch z
structure RepM(K:Ex)(F H:Hp)(M:MS):Prop where
 nd:(am M).Nodup
 ok:∀a o,(a,o)∈M->MRep K F H a o
 fr:∀a,a∈am M->F a=B_
def RepM.nil:RepM K F H []:=#[Iv,(λ_ _ h=>nomatch h),(λ_ h=>nomatch h)]
def RepM.here(r:RepM K F H M)(h:a∈am M):H a≠none:=by
 obtain⟨⟨b,o⟩,h1,rfl⟩:=Gm.mp h;exact(r.ok _ _ h1).there
structure GrowM(M M':MS)(F H F' H':Hp):Prop where
 ff:Same F F'
 fh:Same F' H'
 hh:∀b o,b∉am M->H b=be o->H' b=be o
 out:∀b,b∉am M->F b=B_->H b≠B_->F' b=B_
 ks:∀b,b∈am M'->b∈am M\/H b=B_
def Grow.toM(g:Grow F H F' H'):GrowM M M F H F' H':=#[g.ff,g.fh,λb o _ h=>g.hh b o h,λb _ h1 h2=>g.out b h1 h2,λb h=>.inl h]
def GrowM.refl(h:Same F H):GrowM M M F H F H:=(Grow.refl h).toM
def GrowM.trans{M1 M2:MS}{F1 H1 F2 H2:Hp}(g:GrowM M M1 F H F1 H1)(k:GrowM M1 M2 F1 H1 F2 H2):GrowM M M2 F H F2 H2 where
  ff:=g.ff.trans k.ff
  fh:=k.fh
  hh:=λb o nb h=>k.hh b o (λz=>by rcases g.ks b z with q|q;exact nb q;rw[q]at h;cases h) (g.hh b o nb h)
  out:=λb nb h1 h2=>k.out b (λz=>by rcases g.ks b z with q|q;exact nb q;exact h2 q) (g.out b nb h1 h2) (by
    cases e:H b with
    |none=>exact absurd e h2
    |some o=>rw[g.hh b o nb e];exact λz=>nomatch z)
  ks :=λb h=>by
    rcases k.ks b h with q|q
    . exact g.ks b q
    . by_cases nb:b∈am M
      . exact .inl nb
      . right;cases e:H b with
        |none=>rfl
        |some o=>rw[g.hh b o nb e]at q;cases q
def RepM.grow(r:RepM K F H M)(g:Grow F H F' H'):RepM K F' H' M:=
 #[r.nd,λa o h=>(r.ok a o h).mono g.ff λo e=>g.hh a o e,λa h=>g.out a (r.fr a h) (r.here h)]
variable{ho:HO}
def RepM.put{o':MO}(r:RepM K F H M)(e:mget M a=be o)(h:MRep K F (upd H a ho) a o'):RepM K F (upd H a ho) (mput M a o'):=
 ⟨by rw[gK];exact r.nd,λb q hb=>by
  rcases mem_put r.nd hb with⟨rfl,rfl,_⟩|⟨ne,hb⟩
  .exact h
  .exact(r.ok b q hb).mono (Same.refl F) λu z=>by rw[aj ne];exact z,λb hb=>r.fr b (by rw[gK]at hb;exact hb)⟩
def GrowM.put{o':MO}(fh:Same F H)(fa:F a=B_)(e:mget M a=be o):GrowM M (mput M a o') F H F (upd H a ho) where
 ff:=Same.refl F
 fh:=λb u z=>by
  have ne:b≠a:=by rintro rfl;rw[fa]at z;cases z
  rw[aj ne];exact fh b u z
 hh:=λb u nb z=>by
  have ne:b≠a:=by rintro rfl;exact nb (bA (bf e))
  rw[aj ne];exact z
 out:=λb _ h _=>h
 ks:=λb h=>.inl (by rw[gK]at h;exact h)
def RepM.new{p:KF}(r:RepM K F H M)(fh:Same F H)(hp:H p=B_)(h:MRep K F (upd H p ho) p o):RepM K F (upd H p ho) ((p,o)::M):=by
 have np:p∉am M:=λz=>r.here z hp;refine#[Gp.mpr #[np,r.nd],λb q hb=>?_,λb hb=>?_]
 .rcases FT.mp hb with z|z
  .cases z;exact h
  .exact(r.ok b q z).mono (Same.refl F) λu z'=>by rw[aj (λe:b=p=>np (e ▸ bA z))];exact z'
 .rcases FT.mp hb with z|z
  .rw[z];exact fh.free hp
  .exact r.fr b z
def GrowM.new{p:KF}(fh:Same F H)(hp:H p=B_):GrowM M ((p,o)::M) F H F (upd H p ho) where
 ff:=Same.refl F
 fh:=fh.trans (aS hp _)
 hh:=λb u _ z=>aS hp _ b u z
 out:=λb _ h _=>h
 ks:=λb h=>by
  rcases FT.mp h with z|z
  .exact .inr (by rw[z];exact hp)
  .exact .inl z
structure RepZ(K:Ex)(B F H:Hp)(z:SD)(s:L2.St)(M:MS):Prop where
 rs:RepS K B F H z s
 no:∀(i:Nat) ds,z[i]?≠be (be (.own ds))
 rm:RepM K F H M
 mb:∀a,a∈am M->B a=B_
variable{B:Hp}{M':MS}
def Kept.growM[Jx]{F0:Hp}(k:Kept B F0 F H)(mb:∀a,a∈am M->B a=B_)(g:GrowM M M' F H F' H'):Kept B F0 F' H' where
 bh:=λb o e=>g.hh b o (λz=>by rw[mb b z]at e;cases e) (k.bh b o e)
 fh:=g.fh
 f0:=k.f0.trans g.ff
 out:=λb h1 h2=>g.out b (λz=>h2 (mb b z)) (k.out b h1 h2) (by
  cases e:B b with
  |none=>exact absurd e h2
  |some o=>rw[k.bh b o e];exact λz=>nomatch z)
 eb:=k.eb
 jf:=k.jf
 jo:=k.jo
variable{z:SD}{s:L2.St}
def RepS.growM(r:RepS K B F H z s)(no:∀(i:Nat) ds,z[i]?≠be (be (.own ds)))(g:GrowM M M' F H F' H'):RepS K B F' H' z s where
 len:=r.len
 val:=λi d e n=>let ⟨v,q1,q2⟩:=r.val i d e n;#[v,q1,q2.mono g.ff]
 own:=λi ds e=>absurd e (no i ds)
 apart:=r.apart
def RepZ.growM(r:RepZ K B F H z s M)(bh:Same B H)(g:GrowM M M' F H F' H')(rm:RepM K F' H' M'):RepZ K B F' H' z s M':=
 ⟨r.rs.growM r.no g,r.no,rm,λa h=>by
  rcases g.ks a h with q|q
  .exact r.mb a q
  .exact bh.free q⟩
def RepZ.set{i:Nat}{d:D}{v:V}(r:RepZ K B F H z s M)(rd:Rep K F d v):RepZ K B F H (z.set i (be d)) (s.set i (be v)) M:=
 ⟨r.rs.set rd,λj ds e=>by
  by_cases hj:i=j
  .subst hj;rw[GI]at e;simp at e;have:=rd.noown;rw[e.2]at this;cases this
  .rw[F5 hj]at e;exact r.no j ds e,r.rm,r.mb⟩
class Jm extends Jx where
 RM:SD->MS->XD
abbrev TME:=SD->MS->(D->MS->Prop)->Prop
abbrev TMT:=SD->MS->(Bool->MS->Prop)->Prop
abbrev TMA:=SD->MS->(List D->MS->Prop)->Prop
structure EndsM where
 nx:SD->MS->Prop
 rt:D->MS->Prop
 bk:SD->MS->Prop:=λ_ _=>False
 ct:SD->MS->Prop:=λ_ _=>False
abbrev TMS:=EndsM->SD->MS->Prop
def mE(K:Ex)[J:Jm](t:TME):TE:=λs H Q=>∃F z M,Kept J.B J.F0 F H/\RepZ K J.B F H z s M/\∃R:D->MS->Prop,t z M R/\∀d v M' F' H',GrowM M M' F H F' H'->R d M'->Rep K F' d v->RepM K F' H' M'->Q v H'
def mT(K:Ex)[J:Jm](t:TMT):TT:=λs H Q=>∃F z M,Kept J.B J.F0 F H/\RepZ K J.B F H z s M/\∃R:Bool->MS->Prop,t z M R/\∀b M' F' H',GrowM M M' F H F' H'->R b M'->RepM K F' H' M'->Q b H'
def mA(K:Ex)[J:Jm](t:TMA):TA:=λs H Q=>∃F z M,Kept J.B J.F0 F H/\RepZ K J.B F H z s M/\∃R:List D->MS->Prop,t z M R/\∀ds vs M' F' H',GrowM M M' F H F' H'->R ds M'->Reps K F' ds vs->RepM K F' H' M'->Q vs H'
structure EndsOkM[J:Jm](K:Ex)(F0:Hp)(ED:EndsM)(E:Ends):Prop where
 nx:∀z' s' M' F' H',Kept J.B F0 F' H'->ED.nx z' M'->RepZ K J.B F' H' z' s' M'->E.nx s' H'
 rt:∀d v M' F' H',Kept J.B F0 F' H'->ED.rt d M'->Rep K F' d v->RepM K F' H' M'->(∀a,a∈am M'->J.B a=B_)->E.rt v H'
 bk:∀z' s' M' F' H',Kept J.B F0 F' H'->ED.bk z' M'->RepZ K J.B F' H' z' s' M'->E.bk s' H'
 ct:∀z' s' M' F' H',Kept J.B F0 F' H'->ED.ct z' M'->RepZ K J.B F' H' z' s' M'->E.ct s' H'
def mS(K:Ex)[J:Jm](t:TMS):TS:=λE s H=>∃F0 F z M,Kept J.B F0 F H/\RepZ K J.B F H z s M/\∃ED:EndsM,t ED z M/\EndsOkM K F0 ED E
structure ME(X:Cx)[Jm](e:P3)(t:TME):Prop where
 out:PE X e (mE X.K t)
structure MT(X:Cx)[Jm](e:P3)(t:TMT):Prop where
 out:PT X e (mT X.K t)
structure MW(X:Cx)[Jm](e:P3)(t:TMT):Prop where
 out:PW X e (mT X.K t)
structure MA(X:Cx)[Jm](es:List P3)(t:TMA):Prop where
 out:PA X es (mA X.K t)
structure MSt(X:Cx)[Jm](st:RS)(t:TMS):Prop where
 out:PS X st (mS X.K t)
structure MSs(X:Cx)[Jm](st:List RS)(t:TMS):Prop where
 out:PSs X st (mS X.K t)
section
variable {X:Cx}{a b c e:P3}{ta tb:TME}{pos:R4}
def mP(t:TD):TME:=λz M R=>t z λd=>R d M
def mPT(t:TDT):TMT:=λz M R=>t z λd=>R d M
def mPA(t:TDA):TMA:=λz M R=>t z λd=>R d M
def ae[J:Jm]{t:TD}(h:WDE X e t):ME X e (mP t):=⟨PE.anti h.out λs H Q q=>by
 obtain⟨F,z,M,k,r,R,h1,h2⟩:=q;exact#[J.B,F,z,k,r.rs,_,h1,λd v F' H' g hd rd=>h2 d v M F' H' g.toM hd rd (r.rm.grow g)]⟩
def bj[J:Jm]{t:TDT}(h:WDT X e t):MT X e (mPT t):=⟨PT.anti h.out λs H Q q=>by
 obtain⟨F,z,M,k,r,R,h1,h2⟩:=q;exact#[J.B,F,z,k,r.rs,_,h1,λd F' H' g hd=>h2 d M F' H' g.toM hd (r.rm.grow g)]⟩
variable{es:List P3}
def au[J:Jm]{t:TDA}(h:WDA X es t):MA X es (mPA t):=⟨PA.anti h.out λs H Q q=>by
 obtain⟨F,z,M,k,r,R,h1,h2⟩:=q;exact#[J.B,F,z,k,r.rs,_,h1,λd v F' H' g hd rd=>h2 d v M F' H' g.toM hd rd (r.rm.grow g)]⟩
def mOp(r:RD2)(ta tb:TME):TME:=λz M R=>ta z M λx M1=>tb z M1 λy M2=>r x y λd=>R d M2
variable{r:R2}{rd:RD2}
def ku[J:Jm]{e:P3}{ta tb:TME}(L:aW X.K r rd)(h:PE X e (tOp r (mE X.K ta) (mE X.K tb))):ME X e (mOp rd ta tb):=⟨h.anti λs H Q q=>by
 obtain⟨F,z,M,k,rs,R,h1,h2⟩:=q;refine#[F,z,M,k,rs,_,h1,λx u M1 F1 H1 g1 hx rx m1=>?_];refine#[F1,z,M1,k.growM rs.mb g1,rs.growM k.bh g1 m1,_,hx,λy v M2 F2 H2 g2 hy ry m2=>?_];exact L x y u v F2 H2 _ Q g2.fh hy (rx.mono g2.ff) ry λd w F3 H3 g3 hd rd=>h2 d w M2 F3 H3 ((g1.trans g2).trans g3.toM) hd rd (m2.grow g3)⟩
def sH[J:Jm]{op:Tp}(ho:OpR X (Sj op) r)(L:aW X.K r rd)(ha:ME X a ta)(hb:ME X b tb):ME X (.BinOp a op b pos) (mOp rd ta tb):=ku L (jB ho ha.out hb.out)
def zq[J:Jm]{op:TX}(ho:OpR X (R8 op) r)(L:aW X.K r rd)(ha:ME X a ta)(hb:ME X b tb)(hm:Sh op b=false):ME X (.Compare a [op] [b] pos) (mOp rd ta tb):=ku L (qd ho ha.out hb.out hm)
def fv[J:Jm](ha:ME X a ta)(hb:ME X b tb)(hs:autoParam (dO b) zA6):ME X (.Subscript a b pos) (mOp rdIx ta tb):=ku rj (pe_ix qD ha.out hb.out hs)
def fw[Jm](ha:ME X a ta)(hb:ME X b tb):ME X (.BinOp a .Add b pos) (mOp jS ta tb):=sH qR qS ha hb
def cO[Jm](ha:ME X a ta)(hb:ME X b tb):ME X (.BinOp a .Sub b pos) (mOp jT ta tb):=sH pU qT ha hb
def mTst(t:TME):TMT:=λz M R=>t z M λx M1=>match x with|.bl k=>R k M1|_=>False
def eE[J:Jm]{op:TX}(ho:OpR X (R8 op) r)(L:aW X.K r rd)(ha:ME X a ta)(hb:ME X b tb)(hm:Sh op b=false):MT X (.Compare a [op] [b] pos) (mTst (mOp rd ta tb)):=⟨(qe ho ha.out hb.out hm).anti λs H Q q=>by
 obtain⟨F,z,M,k,rs,R,h1,h2⟩:=q;refine#[F,z,M,k,rs,_,h1,λx u M1 F1 H1 g1 hx rx m1=>?_];refine#[F1,z,M1,k.growM rs.mb g1,rs.growM k.bh g1 m1,_,hx,λy v M2 F2 H2 g2 hy ry m2=>?_];refine L x y u v F2 H2 _ _ g2.fh hy (rx.mono g2.ff) ry λd w F3 H3 g3 hd rd=>?_;dsimp only at hd;split at hd
 .exact#[_,rep_bl.mp rd,h2 _ M2 F3 H3 ((g1.trans g2).trans g3.toM) hd (m2.grow g3)]
 .exact hd.elim⟩
def sI[Jm](ha:ME X a ta)(hb:ME X b tb):MT X (.Compare a [.Lt] [b] pos) (mTst (mOp rdLt ta tb)):=eE qa rb ha hb (nomark _)
def zr[Jm](ha:ME X a ta)(hb:ME X b tb):MT X (.Compare a [.Gt] [b] pos) (mTst (mOp rdGt ta tb)):=eE jD jU ha hb (nomark _)
def fz[Jm](ha:ME X a ta)(hb:ME X b tb):MT X (.Compare a [.Eq] [b] pos) (mTst (mOp rdEq ta tb)):=eE jC jV ha hb (nomark _)
def fA[Jm](ha:ME X a ta)(hb:ME X b tb):MT X (.Compare a [.NotEq] [b] pos) (mTst (mOp rdNe ta tb)):=eE pZ re ha hb (nomark _)
def gM[Jm](ha:ME X a ta)(hb:ME X b tb):MT X (.Compare a [.Is] [b] pos) (mTst (mOp (rdIs id) ta tb)):=eE qc rh ha hb (nomark _)
def zt[Jm](ha:ME X a ta)(hb:ME X b tb)(hm:autoParam (Sh .NotIn b=false) zA0):MT X (.Compare a [.NotIn] [b] pos) (mTst (mOp (rdIn true) ta tb)):=eE zk zj ha hb hm
variable {tA tB:TMT}{rest:List P3}
def mt_w[Jm](h:MW X a tA):MT X a tA:=#[PW.pt h.out]
def zu[Jm](ha:MT X a tA):MW X (.BoolOp .And [a] pos) tA:=#[pH ha.out]
def gN[Jm](ha:MT X a tA):MW X (.BoolOp .Or [a] pos) tA:=#[pI ha.out]
def mAnd(tA tB:TMT):TMT:=λz M R=>tA z M λk M1=>if k=true then tB z M1 R else R false M1
def mOr(tA tB:TMT):TMT:=λz M R=>tA z M λk M1=>if k=true then R true M1 else tB z M1 R
def zv[J:Jm](ha:MT X a tA)(hb:MW X (.BoolOp .And (b::rest) pos) tB):MW X (.BoolOp .And (a::b::rest) pos) (mAnd tA tB):=⟨(pJ ha.out hb.out).anti λs H Q q=>by
 obtain⟨F,z,M,k,rs,R,h1,h2⟩:=q;refine#[F,z,M,k,rs,_,h1,λx M1 F1 H1 g1 hx m1=>?_];cases x with
 |true=>exact#[F1,z,M1,k.growM rs.mb g1,rs.growM k.bh g1 m1,R,hx,λy M2 F2 H2 g2 hy m2=>h2 y M2 F2 H2 (g1.trans g2) hy m2]
 |false=>exact h2 _ M1 F1 H1 g1 hx m1⟩
def gO[J:Jm](ha:MT X a tA)(hb:MW X (.BoolOp .Or (b::rest) pos) tB):MW X (.BoolOp .Or (a::b::rest) pos) (mOr tA tB):=⟨(pK ha.out hb.out).anti λs H Q q=>by
 obtain⟨F,z,M,k,rs,R,h1,h2⟩:=q;refine#[F,z,M,k,rs,_,h1,λx M1 F1 H1 g1 hx m1=>?_];cases x with
 |false=>exact#[F1,z,M1,k.growM rs.mb g1,rs.growM k.bh g1 m1,R,hx,λy M2 F2 H2 g2 hy m2=>h2 y M2 F2 H2 (g1.trans g2) hy m2]
 |true=>exact h2 _ M1 F1 H1 g1 hx m1⟩
def mIf(tc:TMT)(ta tb:TME):TME:=λz M R=>tc z M λk M1=>if k=true then ta z M1 R else tb z M1 R
def fB[J:Jm]{tc:TMT}(hc:MT X c tc)(ha:ME X a ta)(hb:ME X b tb):ME X (.IfExp c a b pos) (mIf tc ta tb):=⟨(vR hc.out ha.out hb.out).anti λs H Q q=>by
 obtain⟨F,z,M,k,rs,R,h1,h2⟩:=q;refine#[F,z,M,k,rs,_,h1,λx M1 F1 H1 g1 hx m1=>?_];cases x with
 |true=>exact#[F1,z,M1,k.growM rs.mb g1,rs.growM k.bh g1 m1,R,hx,λd v M2 F2 H2 g2 hy rd m2=>h2 d v M2 F2 H2 (g1.trans g2) hy rd m2]
 |false=>exact#[F1,z,M1,k.growM rs.mb g1,rs.growM k.bh g1 m1,R,hx,λd v M2 F2 H2 g2 hy rd m2=>h2 d v M2 F2 H2 (g1.trans g2) hy rd m2]⟩
def mNil:TMA:=λ_ M R=>R [] M
def zw(ta:TME)(tr:TMA):TMA:=λz M R=>ta z M λx M1=>tr z M1 λxs M2=>R (x::xs) M2
def aU[J:Jm]:MA X [] mNil:=⟨pa_nil.anti λs H Q q=>by
 obtain⟨F,z,M,k,rs,R,h1,h2⟩:=q;exact h2 [] [] M F H (GrowM.refl k.fh) h1 (reps_nil.mpr rfl) rs.rm⟩
variable{t:TMA}
def av[J:Jm]{e:P3}{te:TME}(ha:ME X e te)(hr:MA X es t)(hs:autoParam (zSE X e es) zA0):MA X (e::es) (zw te t):=⟨(bn ha.out hr.out hs).anti λs H Q q=>by
 obtain⟨F,z,M,k,rs,R,h1,h2⟩:=q;refine#[F,z,M,k,rs,_,h1,λx u M1 F1 H1 g1 hx rx m1=>?_];refine#[F1,z,M1,k.growM rs.mb g1,rs.growM k.bh g1 m1,_,hx,λxs us M2 F2 H2 g2 hy ry m2=>?_];exact h2 _ _ M2 F2 H2 (g1.trans g2) hy (reps_cons.mpr #[_,_,rfl,rx.mono g2.ff,ry]) m2⟩
def mTup(t:TMA):TME:=λz M R=>t z M λxs M1=>xs.length<=1000/\R (.tup xs) M1
def sJ[J:Jm]{x1}(h:MA X es t):ME X (.Tuple es x1 pos) (mTup t):=⟨(qo h.out).anti λs H Q q=>by
 obtain⟨F,z,M,k,rs,R,h1,h2⟩:=q;refine#[F,z,M,k,rs,_,h1,λds vs M1 F1 H1 g1 hx rx m1=>?_];have hl:=rx.length;refine#[sz (by rw[hl];exact hx.1),λp hp=>?_];have gn:=Grow.new g1.fh hp (.tup vs);exact h2 _ _ M1 _ _ (g1.trans gn.toM) hx.2 (rep_tupS.mpr #[p,vs,rfl,ax,rx.mono (aS (g1.fh.free hp) _)]) (m1.grow gn)⟩
def mLst(t:TMA):TME:=λz M R=>t z M λxs M1=>xs.length<=1000/\∀p,p∉am M1->R (.ptr p) ((p,.lst xs)::M1)
def du[J:Jm](h:MA X es t):ME X (.List es pos) (mLst t):=⟨(gc h.out).anti λs H Q q=>by
 obtain⟨F,z,M,k,rs,R,h1,h2⟩:=q;refine#[F,z,M,k,rs,_,h1,λds vs M1 F1 H1 g1 hx rx m1=>?_];have hl:=rx.length;refine#[sz (by rw[hl];exact hx.1),λp hp=>?_];exact h2 _ _ _ F1 _ (g1.trans (GrowM.new g1.fh hp)) (hx.2 p λz=>m1.here z hp) (rep_ptr.mpr rfl) (m1.new g1.fh hp #[vs,ax,rx])⟩
def mCB(r:RDn)(t:TMA):TME:=λz M R=>t z M λds M1=>r ds λd=>R d M1
variable{x:Jj}{p:R4}
def zx[J:Jm]{e:P3}{id:String}{r:List V->Hp->VK->Prop}{rd:RDn}(hc:bO X (.builtin id) r)(L:cz X.K r rd)(hm:X.mg x=B_)(hv:R9 x=be (.builtin id))(ha:MA X (e::es) t)(hg:autoParam (Gl X x) zA0)(hn:autoParam (x≠"__name__") zA1)(c_:autoParam (zND x) zA1)
  (he:autoParam (zSE X e es) zA0) (c5:autoParam (zPL X pos es) zA0):ME X (.Call (.Name x p) (e::es) [] pos) (mCB rd t):=⟨(fg hc hg hm hv ha.out hn c_ he c5).anti λs H Q h=>by
 obtain⟨F,z,M,k,rs,R,h1,h2⟩:=h;refine#[F,z,M,k,rs,_,h1,λds vs M1 F1 H1 g1 hx rx m1=>?_];exact L ds vs F1 H1 _ Q g1.fh hx rx λd w F' H' g hd rd=>h2 d w M1 F' H' (g1.trans g.toM) hd rd (m1.grow g)⟩
def sK[Jm]{e:P3}(hm:X.mg "len"=B_)(ha:MA X [e] t)(hg:autoParam (Gl X "len") zA0)(he:autoParam (zSE X e []) zA0):ME X (.Call (.Name "len" p) [e] [] pos) (mCB jX t):=zx jE rl hm PySem.boot_len ha hg J7 J7 he
def zy[J:Jm]{e:P3}{T:String}{r:List V->Hp->VK->Prop}{rd:RDn}(hc:bO X (.type T) r)(L:cz X.K r rd)(hm:X.mg x=B_)(hv:R9 x=be (.type T))(ha:MA X (e::es) t)(hg:autoParam (Gl X x) zA0)(hn:autoParam (x≠"__name__") zA1)(c_:autoParam (zND x) zA1)
  (he:autoParam (zSE X e es) zA0) (c5:autoParam (zPL X pos es) zA0):ME X (.Call (.Name x p) (e::es) [] pos) (mCB rd t):=⟨(qt hc hg hm hv ha.out hn c_ he c5).anti λs H Q h=>by
 obtain⟨F,z,M,k,rs,R,h1,h2⟩:=h;refine#[F,z,M,k,rs,_,h1,λds vs M1 F1 H1 g1 hx rx m1=>?_];exact L ds vs F1 H1 _ Q g1.fh hx rx λd w F' H' g hd rd=>h2 d w M1 F' H' (g1.trans g.toM) hd rd (m1.grow g)⟩
def sL[Jm](hm:X.mg "int"=B_)(ha:MA X [e] t)(hg:autoParam (Gl X "int") zA0)(he:autoParam (zSE X e []) zA0):ME X (.Call (.Name "int" p) [e] [] pos) (mCB kd t):=zy rN rO hm PyProof.Rows.boot_int ha hg J7 J7 he
def cP(M:MS)(d:D)(x:Jj)(fs:List (Jj×D)):Prop:=match d with|.ptr a=>mget M a=be (.ins x fs)|.obj y gs=>y=x/\gs=fs|_=>False
def mFld(x f:Jj)(te:TME):TME:=λz M R=>te z M λd M1=>∃fs,cP M1 d x fs/\∃d',fs.lookup f=be d'/\R d' M1
def gP{K:Ex}{F H:Hp}{M:MS}{d:D}{v:V}{fs:List (Jj×D)}(fh:Same F H)(rm:RepM K F H M)(rd:Rep K F d v)(h:cP M d x fs):∃a C dx ws,v=.ref a/\nsIn K Pi x=be (be (.ref C))/\H a=be (.ins C dx ws)/\RepF K F fs ws:=by
 unfold cP at h;split at h
 .rename_i a;obtain⟨C,dx,ws,n,h1,h2⟩:=rm.ok _ _ (bf h);exact#[a,C,dx,ws,rep_ptr.mp rd,n,h1,h2]
 .obtain⟨rfl,rfl⟩:=h;obtain⟨a,C,dx,ws,e,n,h1,h2⟩:=rep_obj.mp rd;exact#[a,C,dx,ws,e,n,fh _ _ h1,h2]
 .exact h.elim
def az[J:Jm]{f:Jj}(hA:ClsA X.K x f)(he:ME X e ta)(hb:autoParam (RZ e f X.env (R1 e X.env)=R1 e X.env) zA0):ME X (.Attribute e f pos) (mFld x f ta):=⟨(qk he.out hb).anti λs H Q q=>by
 obtain⟨C,hn,hc,hf⟩:=hA;obtain⟨F,z,M,k,rs,R,h1,h2⟩:=q;refine#[F,z,M,k,rs,_,h1,λd u M1 F1 H1 g1 hx rx m1=>?_];obtain⟨fs,hi,d',hl,hR⟩:=hx;obtain⟨a,C',dx,ws,rfl,f_,hH,rf⟩:=gP g1.fh m1 rx hi;rw[hn]at f_;cases f_;obtain⟨v,l,rv⟩:=rf.look hl;exact#[a,C,dx,ws,v,rfl,hH,hc,hf,l,h2 d' v M1 F1 H1 g1 hR rv m1]⟩
end
abbrev XDM:=Jj->List (Jj×D)->MS->Prop
abbrev SpM:=List D->MS->(D->MS->Prop)->XDM->Prop
def lSpM(K:Ex)(S:SpM):Sp:=λvs H Q E=>∃F ds M,Same F H/\Reps K F ds vs/\RepM K F H M/\∃(R:D->MS->Prop) (RX:XDM),S ds M R RX/\(∀d v M' F' H',GrowM M M' F H F' H'->R d M'->Rep K F' d v->RepM K F' H' M'->Q v H')/\
 ∀x fs C od M' F' H',GrowM M M' F H F' H'->RX x fs M'->ErrD K F' x fs C od->RepM K F' H' M'->E (.ref C) od H'
abbrev CalMM(P:RP)(w:RU)(K:Ex)(mg:Jj->Option KB)(base:Heap)(n:Nat)(x:Jj)(ps:List Jj)(S:SpM):Prop:=Cal P w K mg base n x ps (lSpM K S)
def ofX(S:SpX):SpM:=λds M R RX=>S ds (λd=>R d M) λx fs=>RX x fs M
def ofD(S:SpD):SpM:=λds M R _=>S ds λd=>R d M
variable{vs:List V}
def zz{S:SpX}{Q:VK}{E:XK}(h:lSpM K (ofX S) vs H Q E):lSpX K S vs H Q E:=by
 obtain⟨F,ds,M,fh,rs,rm,R,RX,hS,q,qx⟩:=h;exact#[F,ds,fh,rs,_,_,hS,λd v F' H' g hd rd=>q d v M F' H' g.toM hd rd (rm.grow g),λx fs C od F' H' g hR er=>qx x fs C od M F' H' g.toM hR er (rm.grow g)]
def zA{S:SpD}{Q:VK}{E:XK}(h:lSpM K (ofD S) vs H Q E):lSp K S vs H Q E:=by
 obtain⟨F,ds,M,fh,rs,rm,R,RX,hS,q,qx⟩:=h;exact#[F,ds,fh,rs,_,hS,λd v F' H' g hd rd=>q d v M F' H' g.toM hd rd (rm.grow g)]
section
variable {P:RP}{w:RU}{K:Ex}{mg:Jj->Option KB}{base:Heap}{n:Nat}{x:Jj}{ps:List Jj}
def CalX.toM{S:SpX}(C:CalX P w K mg base n x ps S):CalMM P w K mg base n x ps (ofX S):=by
 obtain⟨f,fd,F,hb,hk,hm⟩:=C;exact#[f,fd,F.imp λvs H Q E h=>zz h,hb,hk,hm]
def CalD.toM{S:SpD}(C:CalD P w K mg base n x ps S):CalMM P w K mg base n x ps (ofD S):=by
 obtain⟨f,fd,F,hb,hk,hm⟩:=C;exact#[f,fd,F.imp λvs H Q E h=>zA h,hb,hk,hm]
def CalMth(P:RP)(w:RU)(K:Ex)(mg:Jj->Option KB)(base:Heap)(n:Nat)(x m:Jj)(ps:List Jj)(sp:Sp):Prop:=
 ∃C f fd,nsIn K Pi x=be (be (.ref C))/\Cls K C/\Meth K C m f/\FnOk P w K mg base (CX1 P w) n f fd ps sp/\Binds K fd ps []
variable{sp:Sp}
def Cal.mono{n':Nat}(h:Cal P w K mg base n x ps sp)(hn:n<=n'):Cal P w K mg base n' x ps sp:=by
 obtain⟨f,fd,F,h⟩:=h;exact#[f,fd,F.mono hn,h]
def Cal.imp{JH:Sp}(h:Cal P w K mg base n x ps sp)(i:∀vs H Q E,JH vs H Q E->sp vs H Q E):Cal P w K mg base n x ps JH:=by
 obtain⟨f,fd,F,h⟩:=h;exact#[f,fd,F.imp i,h]
def CalMth.imp{m:Jj}{JH:Sp}(h:CalMth P w K mg base n x m ps sp)(i:∀vs H Q E,JH vs H Q E->sp vs H Q E):CalMth P w K mg base n x m ps JH:=by
 obtain⟨C,f,fd,h1,h2,h3,h4,h5⟩:=h;exact#[C,f,fd,h1,h2,h3,h4.imp i,h5]
end
def XOkM(X:Cx)[J:Jm]:Prop:=∀(σ:L2.St) (z:SD) (M:MS) (F H:Hp) (s:KM) (e C:KF) (od:Option KF) (x:Jj) (fs:List (Jj×D)),Inv X [] σ H s->Kept J.B J.F0 F H->RepZ X.K J.B F H z σ M->J.RM z M x fs->ErrD X.K F x fs C od->Exd X H s e C od->X.xe (.ref e) s
def EX(X:Cx)[J:Jm](z:SD)(σ:L2.St):XK:=λCv od H'=>∃x fs C M' F',Cv=.ref C/\Kept J.B J.F0 F' H'/\RepZ X.K J.B F' H' z σ M'/\J.RM z M' x fs/\ErrD X.K F' x fs C od
def XOkM.out{X:Cx}[J:Jm](hx:XOkM X)(d4:X.ex=[]){pins:List (KF×R_)}{σ:L2.St}{s s':KM}{ev:KB}(I:Inv X pins σ H s)
  (h:CX1 X.prog X.w X.stack H s (EX X z σ) ev s'):X.xe ev s':=by
 obtain⟨e,C,od,T,H',rfl,Jl,hb,un,hok,Nb,ne,nT,He,HT,x,fs,C',M',F',hC,kk,rr,hR,er⟩:=h;cases hC;have I':Inv X pins σ H' s':=I.call' Jl un hok hb (λb z=>absurd z J8);exact hx σ z M' F' H' s' e C od x fs (Inv.nopins I') kk rr hR er #[He,cA I d4 ne,pn_free I ne,.inr #[T,Nb,cA I d4 nT,HT,pn_free I nT]]
section
variable {X:Cx}[J:Jm]{a b c e o:P3}{ta tb te:TME}{pos p apos cpos:R4}{n m:Nat}{ps:List Jj}{S:SpM}{x:Jj}{es:List P3}{t:TMA}
def zB(S:SpM)(t:TMA):TME:=λz M R=>t z M λds M1=>S ds M1 R λx fs M'=>J.RM z M' x fs
variable{ds:List My.D}{vs:List V}
def gQ{σ:L2.St}{z:SD}{M M1:MS}{F H F1 H1:Hp}{Q:VK}{R:D->MS->Prop}(k:Kept J.B J.F0 F H)(rs:RepZ X.K J.B F H z σ M)(g1:GrowM M M1 F H F1 H1)(m1:RepM X.K F1 H1 M1)(rx:Reps X.K F1 ds vs)
  (hS:S ds M1 R λx fs M'=>J.RM z M' x fs) (h2:∀d v M' F' H',GrowM M M' F H F' H'->R d M'->Rep X.K F' d v->RepM X.K F' H' M'->Q v H'):lSpM X.K S vs H1 Q (EX X z σ):=
 #[F1,ds,M1,g1.fh,rx,m1,R,_,hS,λd v M' F' H' g hd rd m'=>h2 d v M' F' H' (g1.trans g) hd rd m',λy fs C od M' F' H' g hR er m'=>#[y,fs,C,M',F',rfl,(k.growM rs.mb g1).growM (rs.growM k.bh g1 m1).mb g,(rs.growM k.bh g1 m1).growM (k.growM rs.mb g1).bh g m',hR,er]]
def aJ(C:CalMM X.prog X.w X.K X.mg X.base n x ps S)(hx:XOkM X)(hr:Room m X.A)(ha:MA X (e::es) t)(d4:autoParam (X.ex=[]) zA0)(hg:autoParam (Gl X x) zA0)(hn:autoParam (n<=m) zA1)(c_:autoParam (zND x) zA1)
  (he:autoParam (zSE X e es) zA0) (c5:autoParam (zPL X pos es) zA0):
  ME X (.Call (.Name x p) (e::es) [] pos) (zB S t):=by
 obtain⟨f,fd,F,hb,hk,hm⟩:=C;refine#[λpins s σ H Q I h=>?_];obtain⟨Fr,z,M,k,rs,R,h1,h2⟩:=h;refine R5 (cn I hg hm ?_ c_);refine callWith_K (h₀:=X.base) I.ok.mod.kin hk (thn (ha.out pos pins s σ H (λvs H1=>lSpM X.K S vs H1 Q (EX X z σ)) I #[Fr,z,M,k,rs,_,h1,λds vs M1 F1 H1 g1 hx rx m1=>gQ k rs g1 m1 rx hx h2]) λus s1 hh=>#[hh.elim λ_ h=>h.elim λ_ h=>h.1.kIn,?_]) he c5;obtain⟨vs,H1,I1,r,q⟩:=hh;exact gE F (hr.mono hn) hb (λe s' hq=>hx.out d4 I1 hq) I1 r q
def sM(cs:List Jj)(m:Jj)(S:Jj->SpM)(to:TME)(t:TMA):TME:=λz M R=>to z M λd M1=>∃x,x∈cs/\∃fs,cP M1 d x fs/\fs.lookup m=B_/\t z M1 λds M2=>S x (d::ds) M2 R λx fs M'=>J.RM z M' x fs
variable{cs:List Jj}{pl:TJ Bool}
def aR{nm:Jj}{S:Jj->SpM}(C:∀x,x∈cs->CalMth X.prog X.w X.K X.mg X.base n x nm ps (lSpM X.K (S x)))(hx:XOkM X)(hr:Room m X.A)(ho:ME X o te)(ha:MA X (e::es) t)(d4:autoParam (X.ex=[]) zA0)(hn:autoParam (n<=m) zA1)
  (j8:autoParam (zSE X e es) zA0) (c5:autoParam (zPL X pos es) zA0)
  (ht:R1 (.Call (.Attribute o nm apos) (e::es) [] pos) X.env=(do
   let ov <-R1 o X.env
   SA apos.atName
   let (f,first) <-Si [ov] (S2 ov nm pl)
   TR pos f first (Su pos (RW (e::es) X.env)) (SU pos (Sr [] X.env))):=by rfl):
  ME X (.Call (.Attribute o nm apos) (e::es) [] pos) (sM cs nm S te t):=by
 refine#[λpins s σ H Q I h=>?_];obtain⟨Fr,z,M,k,rs,R,h1,h2⟩:=h;refine methodCall_KW (pl:=pl) (thn (ho.out pins s σ H (λv H1=>∃d M1 F1,GrowM M M1 Fr H F1 H1/\Rep X.K F1 d v/\RepM X.K F1 H1 M1/\∃x,x∈cs/\∃fs,cP M1 d x fs/\fs.lookup nm=B_/\t z M1 λds M2=>S x (d::ds) M2 R λx fs M'=>J.RM z M' x fs) I #[Fr,z,M,k,rs,_,h1,λd v M1 F1 H1 g1 hd rd m1=>#[d,M1,F1,g1,rd,m1,hd]]) λu s1 hh=>?_) ht;obtain⟨v,H1,I1,rv,d,M1,F1,g1,rd,m1,x,Nu,fs,hi,hl,hq⟩:=hh;obtain⟨C',f,fd,hns,gt,JL,F,hb⟩:=C x Nu;obtain⟨a,C2,dx,ws,rfl,m6,hH,rf⟩:=gP g1.fh m1 rd hi;rw[hns]at m6;cases m6;obtain rfl:u=Value.ref a:=rv;refine jG I1 hH gt JL (rf.none hl) ?_;refine callWith_K (first:=[.ref a]) (h₀:=X.base) I.ok.mod.kin JL.kp (thn (ha.out pos pins s1 σ H1 (λvs H2=>lSpM X.K (S x) (.ref a::vs) H2 Q (EX X z σ)) I1 #[F1,z,M1,k.growM rs.mb g1,rs.growM k.bh g1 m1,_,hq,λds vs M2 F2 H2 g2 hx rx m2=>gQ k rs (g1.trans g2) m2 (reps_cons.mpr #[_,_,rfl,rd.mono g2.ff,rx]) hx h2]) λus s2 hh=>#[hh.elim λ_ h=>h.elim λ_ h=>h.1.kIn,?_]) j8 c5;obtain⟨vs,H2,I2,r,q2⟩:=hh;exact gE (us:=.ref a::us) (vs:=.ref a::vs) F (hr.mono hn) hb (λe s' hq=>hx.out d4 I2 hq) I2 (.cons rfl r) q2
def bX{nm:Jj}{S:Jj->SpM}(C:∀x,x∈cs->CalMth X.prog X.w X.K X.mg X.base n x nm ps (lSpM X.K (S x)))(hx:XOkM X)(hr:Room m X.A)(ho:ME X o te)(d4:autoParam (X.ex=[]) zA0)(hn:autoParam (n<=m) zA1)
  (ht:R1 (.Call (.Attribute o nm apos) [] [] pos) X.env=(do
   let ov <-R1 o X.env
   SA apos.atName
   let (f,first) <-Si [ov] (S2 ov nm pl)
   TR pos f first (Su pos (RW [] X.env)) (SU pos (Sr [] X.env))):=by rfl):
  ME X (.Call (.Attribute o nm apos) [] [] pos) (sM cs nm S te mNil):=by
 refine#[λpins s σ H Q I h=>?_];obtain⟨Fr,z,M,k,rs,R,h1,h2⟩:=h;refine methodCall_KW (pl:=pl) (thn (ho.out pins s σ H (λv H1=>∃d M1 F1,GrowM M M1 Fr H F1 H1/\Rep X.K F1 d v/\RepM X.K F1 H1 M1/\∃x,x∈cs/\∃fs,cP M1 d x fs/\fs.lookup nm=B_/\S x [d] M1 R λx fs M'=>J.RM z M' x fs) I #[Fr,z,M,k,rs,_,h1,λd v M1 F1 H1 g1 hd rd m1=>#[d,M1,F1,g1,rd,m1,hd]]) λu s1 hh=>?_) ht;obtain⟨v,H1,I1,rv,d,M1,F1,g1,rd,m1,x,Nu,fs,hi,hl,hq⟩:=hh;obtain⟨C',f,fd,hns,gt,JL,F,hb⟩:=C x Nu;obtain⟨a,C2,dx,ws,rfl,m6,hH,rf⟩:=gP g1.fh m1 rd hi;rw[hns]at m6;cases m6;obtain rfl:u=Value.ref a:=rv;refine jG I1 hH gt JL (rf.none hl) ?_;refine callWith_K0 (first:=[.ref a]) I1.kIn JL.kp (gE (E:=EX X z σ) (us:=[.ref a]) (vs:=[.ref a]) F (hr.mono hn) hb (λe s' hq=>hx.out d4 I1 hq) I1 (.cons rfl .nil) ?_);exact gQ k rs g1 m1 (dZ rd) hq h2
def make_of{C:KF}{S:SiD}{x:Jj}{σ:L2.St}{z:SD}{M M1:MS}{F H F1 H1:Hp}{a dx:KF}{Q:VK}{E:XK}{T:List (Jj×D)->Prop}(g1:GrowM M M1 F H F1 H1)(m1:RepM X.K F1 H1 M1)(rx:Reps X.K F1 ds vs)(hS:S ds T)
  (ha:H1 a=B_) (n8:H1 dx=B_) (j7:dx≠a) (q:∀fs ws dx F' H',Grow F1 H1 F' H'->T fs->H' a=be (.ins C dx ws)->F' a=B_->RepF X.K F' fs ws->Q (.ref a) H'):
  lSi X.K C S (.ref a::(vs++[])) (upd (upd H1 dx (.own a)) a (.ins C dx [])) (λv H2=>v=.non/\Q (.ref a) H2) E:=
 #[a,dx,vs,H1,F1,ds,by rw[Gk],rfl,ha,n8,j7,g1.fh,rx,_,hS,λfs ws Js F' H' g hR d5 g8 rf=>#[rfl,q fs ws Js F' H' g hR d5 g8 rf]]
def zC(x:Jj)(S:SiD)(t:TMA):TME:=λz M R=>t z M λds M1=>S ds λfs=>R (.obj x fs) M1
def gR{S:SiD}(M:CalM X.prog X.w X.K X.mg X.base n x ps S)(hr:Room m X.A)(ha:MA X (e::es) t)(hg:autoParam (Gl X x) zA0)(hn:autoParam (n+1<=m) zA1)(c_:autoParam (zND x) zA1)
  (he:autoParam (zSE X e es) zA0) (c5:autoParam (zPL X pos es) zA0):
  ME X (.Call (.Name x p) (e::es) [] pos) (zC x S t):=by
 obtain⟨C,f,fd,hns,j4,mk,F,hb⟩:=M;refine#[(gd mk F (hr.mono hn) hg j4 hb .nil dS ha.out c_ he c5).anti λs H Q q=>?_];obtain⟨F,z,M,k,rs,R,h1,h2⟩:=q;refine#[F,z,M,k,rs,_,h1,λds vs M1 F1 H1 g1 hx rx m1=>?_];intro a dx ha n8 j7;refine make_of (σ:=s) (z:=z) (x:=x) g1 m1 rx hx ha n8 j7 λfs ws dx F' H' g hR d5 g8 rf=>?_;have s1:Same F' (upd F' a (.ins C dx ws)):=aS g8 _;have g2:Grow F1 H1 (upd F' a (.ins C dx ws)) H':=⟨g.ff.trans s1,λb o q=>by
  by_cases hb:b=a
  .subst hb;rw[ax]at q;cases q;exact d5
  .rw[aj hb]at q;exact g.fh b o q,g.hh,λb q1 q2=>by
  by_cases hb:b=a
  .subst hb;exact absurd ha q2
  .rw[aj hb];exact g.out b q1 q2⟩
 exact h2 (.obj x fs) (.ref a) M1 (upd F' a (.ins C dx ws)) H' (g1.trans g2.toM) hR (rep_obj.mpr #[a,C,dx,ws,rfl,hns,ax,RepF.mono s1 fs ws rf]) (m1.grow g2)
def zD(x:Jj)(S:SiD)(t:TMA):TME:=λz M R=>t z M λds M1=>S ds λfs=>∀a,a∉am M1->R (.ptr a) ((a,.ins x fs)::M1)
def zE{S:SiD}(M:CalM X.prog X.w X.K X.mg X.base n x ps S)(hr:Room m X.A)(ha:MA X (e::es) t)(hg:autoParam (Gl X x) zA0)(hn:autoParam (n+1<=m) zA1)(c_:autoParam (zND x) zA1)
  (he:autoParam (zSE X e es) zA0) (c5:autoParam (zPL X pos es) zA0):
  ME X (.Call (.Name x p) (e::es) [] pos) (zD x S t):=by
 obtain⟨C,f,fd,hns,j4,mk,F,hb⟩:=M;refine#[(gd mk F (hr.mono hn) hg j4 hb .nil dS ha.out c_ he c5).anti λs H Q q=>?_];obtain⟨F,z,M,k,rs,R,h1,h2⟩:=q;refine#[F,z,M,k,rs,_,h1,λds vs M1 F1 H1 g1 hx rx m1=>?_];intro a dx ha n8 j7;refine make_of (σ:=s) (z:=z) (x:=x) g1 m1 rx hx ha n8 j7 λfs ws dx F' H' g hR d5 g8 rf=>?_;have na:a∉am M1:=λz=>m1.here z ha;have m2:=m1.grow g;refine h2 (.ptr a) (.ref a) _ F' H' (g1.trans #[g.ff,g.fh,λb o _ q=>g.hh b o q,λb _ q1 q2=>g.out b q1 q2,λb q=>?_]) (hR a na) (rep_ptr.mpr rfl) #[Gp.mpr #[na,m2.nd],λb o q=>?_,λb q=>?_]
 .rcases FT.mp q with q|q
  .exact .inr (by rw[q];exact ha)
  .exact .inl q
 .rcases FT.mp q with q|q
  .cases q;exact#[C,dx,ws,hns,d5,rf]
  .exact m2.ok b o q
 .rcases FT.mp q with q|q
  .rw[q];exact g8
  .exact m2.fr b q
end
section
variable {X:Cx}{x:Jj}{e:P3}{es:List P3}{t:TA}{p cpos pos:R4}{n m:Nat}{ps:List Jj}{S:SiD}
def gT(X:Cx)(σ:L2.St)(F1 H1:Hp)(x:Jj)(fs:List (Jj×D)):Prop:=∀F' H' s' e C od,Inv X [] σ H' s'->Grow F1 H1 F' H'->ErrD X.K F' x fs C od->Exd X H' s' e C od->X.xe (.ref e) s'
def zF(M:CalE X.prog X.w X.K X.mg X.base n x ps S)(hr:Room m X.A)(hc:X.calm=true)(ha:PA X (e::es) t)(d4:autoParam (X.ex=[]) zA0)(hg:autoParam (Gl X x) zA0)(hn:autoParam (n+1<=m) zA1)(c_:autoParam (zND x) zA1)
  (he:autoParam (zSE X e es) zA0) (c5:autoParam (zPL X cpos es) zA0):
  PS X (.Raise (be (.Call (.Name x p) (e::es) [] cpos)) B_ pos) (λ_ σ H=>t σ H λvs H1=>vs.length<=1000/\∃F1 ds,Same F1 H1/\Reps X.K F1 ds vs/\∃T:List (Jj×D)->Prop,S ds T/\∀fs,T fs->gT X σ F1 H1 x fs):=by
 obtain⟨C,N,bm,f,fd,k,hi,KY,Fn,hb⟩:=M;intro pins s σ H D I h;obtain⟨nm,q,bs,sn,sub,ab,col,dd,k0,k1,k2,k3,k5,lk⟩:=k.obj;refine jP (nm:=nm) (q:=q) (C:=C) (N:=N) (bs:=bs) (bm:=bm) (hdct:=true) (sn:=sn) (sub:=sub) (ab:=ab) (col:=col) (dd:=dd) (k0:=k0) (k1:=k1) (k2:=k2) (k3:=k3) (k5:=k5) (newId:="ValueError.__new__") k.base (I.ok.hd hc) ?_;refine R5 (cn I hg k.mg ?_ c_);refine callWith_K (h₀:=X.base) I.ok.mod.kin k.kp (thn (ha cpos pins s σ H _ I h) λus s1 hh=>#[hh.elim λ_ h=>h.elim λ_ h=>h.1.kIn,?_]) he c5;obtain⟨vs,H1,I1,r,hl,F1,ds,Nv,rx,T,hS,hT⟩:=hh;have hC:=I1.kIn _ _ lk;have QE:us.length<=sizeLine:=by rw[<-L2.Vals.length r];exact sz hl
 refine xI (g:=s1.gens) (d:=s1.drawn) (t:=s1.toks) (os:=s1.os) (rest:=us) I1.kIn (tail_of_in I1.kIn k.tail) hC hi (beq_iff_eq.mp KY) (λh' ea hm=>?_) QE;have I2:=Inv.newx I1 d4 hm;have r2:Vals (V.ref ea::vs) (Value.ref ea::us):=.cons rfl r;have He:H1 ea=none:=ft I1.hok hm.new;have v_:lEi X.K C S (V.ref ea::vs) (upd H1 ea (XN ea C B_)) (λv H'=>v=.non/\∃fs od F',Grow F1 H1 F' H'/\gT X σ F1 H1 x fs/\H' ea=be (XN ea C od)/\F' ea=B_/\ErrF X.K F' fs od) (λ_ _ _=>False):=
  #[ea,vs,H1,F1,ds,rfl,rfl,He,Nv,rx,_,hS,λfs od F' H' g hR h1 h2 h3=>#[rfl,fs,od,F',g,hT fs hR,h1,h2,h3]]
 have b8:(Value.ref ea::us).length=ps.length:=by rw[<-L2.Vals.length r2];exact Fn.len _ _ _ _ v_
 have f6:=hb {s1 with heap:=h'} (Value.ref ea::us) I2.kIn (by rw[Gk];exact b8);rw[Gk]at f6;refine Sw (Ss (Fn.run _ X.stack _ _ #[Value.ref ea::us,[]] (Value.ref ea::us) _ _ _ ((hr.mono hn).make C us []) (I2.env0.make C us []) f6 r2 v_) λrr s' hq=>?_);cases rr with
 |error e'=>exact(dS (X:=X) pins σ _ _ e' s' I2 hq:X.xe e' s')
 |ok fl=>
  cases fl with
  |next=>exact False.elim hq
  |brk=>exact False.elim hq
  |cont=>exact False.elim hq
  |ret u=>
   obtain⟨v,H',I3,rv,rfl,fs,od,F',g,hR,s9,QF,er⟩:=I2.after hq;obtain rfl:u=Value.none:=rv;refine#[rfl,?_];have e0:X.s₀.heap.get? ea=none:=cA I1 d4 hm.new;have I4:=Inv.drop I3 s9 e0;obtain⟨ta,sl,i8⟩:=XN.get I3.hok s9;have g4:Grow F1 H1 F' (del H' ea):=⟨g.ff,λb o q=>by
    have:b≠ea:=λz=>by rw[z,QF]at q;cases q
    rw[ca this];exact g.fh b o q,λb o q=>by
    have:b≠ea:=λz=>by rw[z,He]at q;cases q
    rw[ca this];exact g.hh b o q,g.out⟩
   refine#[ea,ta,od,sl,rfl,I3.kIn _ _ lk,i8,?_];exact hR F' (del H' ea) s' ea C od (Inv.nopins I4) g4 #[k.ns,er] #[fu,e0,pn_free I1 hm.new,.inl #[sl,_,i8,rfl]]
def zG(h:∃C N bm,ErrK X.K X.mg x C N bm/\ErrN X.K N)(hc:X.calm=true)(ha:PA X (e::es) t)(d4:autoParam (X.ex=[]) zA0)(hg:autoParam (Gl X x) zA0)(c_:autoParam (zND x) zA1)
  (he:autoParam (zSE X e es) zA0) (c5:autoParam (zPL X cpos es) zA0):
  PS X (.Raise (be (.Call (.Name x p) (e::es) [] cpos)) B_ pos) (λ_ σ H=>t σ H λvs H1=>vs.length<=1000/\∃F1,Same F1 H1/\gT X σ F1 H1 x []):=by
 obtain⟨C,N,bm,k,kn⟩:=h;intro pins s σ H D I h;obtain⟨nm,q,bs,sn,sub,ab,col,dd,k0,k1,k2,k3,k5,lk⟩:=k.obj;refine jP (nm:=nm) (q:=q) (C:=C) (N:=N) (bs:=bs) (bm:=bm) (hdct:=true) (sn:=sn) (sub:=sub) (ab:=ab) (col:=col) (dd:=dd) (k0:=k0) (k1:=k1) (k2:=k2) (k3:=k3) (k5:=k5) (newId:="ValueError.__new__") k.base (I.ok.hd hc) ?_;refine R5 (cn I hg k.mg ?_ c_);refine callWith_K (h₀:=X.base) I.ok.mod.kin k.kp (thn (ha cpos pins s σ H _ I h) λus s1 hh=>#[hh.elim λ_ h=>h.elim λ_ h=>h.1.kIn,?_]) he c5;obtain⟨vs,H1,I1,r,hl,F1,Nv,hR⟩:=hh;have hC:=I1.kIn _ _ lk;obtain⟨hp,gg,dr,tk,os⟩:=s1;refine TZ PySem.F.excBase_ValueError (tail_of_in I1.kIn k.tail) hC (.of_isNs (isNs_of_in I1.kIn kn.ok)) (nsMap_none_of_in I1.kIn kn.ok kn.no) (λh' ea hm=>?_) (by show us.length<=_;rw[<-L2.Vals.length r];exact sz hl);obtain⟨ta,h1,h2,h3⟩:=hm.there;have I2:Inv X pins σ H1 #[h',gg,dr,tk,os]:=I1.kept (t':=tk) hm.keeps;refine#[ea,ta,B_,[].toArray,rfl,hm.keeps _ _ hC,h1,?_];exact hR F1 H1 _ ea C B_ (Inv.nopins I2) (Grow.refl Nv) #[k.ns,[],repf_nil.mpr rfl,.inl #[rfl,rfl]] #[ft I1.hok hm.new,cA I1 d4 hm.new,pn_free I1 hm.new,.inl #[[].toArray,_,h1,rfl]]
end
section
variable {X:Cx}[J:Jm]{x:Jj}{e:P3}{es:List P3}{t:TMA}{p cpos pos:R4}{n m:Nat}{ps:List Jj}{S:SiD}
def zH(x:Jj)(S:SiD)(t:TMA):TMS:=λ_ z M=>t z M λds M1=>ds.length<=1000/\S ds λfs=>J.RM z M1 x fs
def sN{σ:L2.St}{z:SD}{M M1:MS}{F H F1 H1:Hp}{fs:List (Jj×D)}(hx:XOkM X)(k:Kept J.B J.F0 F H)(rs:RepZ X.K J.B F H z σ M)(g1:GrowM M M1 F H F1 H1)(m1:RepM X.K F1 H1 M1)(hR:J.RM z M1 x fs):gT X σ F1 H1 x fs:=λF' H' s' e C od I g er ex=>
 hx σ z M1 F' H' s' e C od x fs I ((k.growM rs.mb g1).grow g) ((rs.growM k.bh g1 m1).growM (k.growM rs.mb g1).bh g.toM (m1.grow g)) hR er ex
def zI(M:CalE X.prog X.w X.K X.mg X.base n x ps S)(hr:Room m X.A)(hx:XOkM X)(hc:X.calm=true)(ha:MA X (e::es) t)(d4:autoParam (X.ex=[]) zA0)(hg:autoParam (Gl X x) zA0)(hn:autoParam (n+1<=m) zA1)(c_:autoParam (zND x) zA1)
  (he:autoParam (zSE X e es) zA0) (c5:autoParam (zPL X cpos es) zA0):
  MSt X (.Raise (be (.Call (.Name x p) (e::es) [] cpos)) B_ pos) (zH x S t):=⟨(zF M hr hc ha.out d4 hg hn c_ he c5).anti λE s H q=>by
 obtain⟨F0,F,z,M,k,rs,ED,h,ee⟩:=q;exact#[F,z,M,k.kf,rs,_,h,λds vs M1 F1 H1 g1 e8 rx m1=>#[by rw[rx.length];exact e8.1,F1,ds,g1.fh,rx,_,e8.2,λfs hR=>sN hx k.kf rs g1 m1 hR]]⟩
def zJ(x:Jj)(t:TMA):TMS:=λ_ z M=>t z M λds M1=>ds.length<=1000/\J.RM z M1 x []
def sO(h:∃C N bm,ErrK X.K X.mg x C N bm/\ErrN X.K N)(hx:XOkM X)(hc:X.calm=true)(ha:MA X (e::es) t)(d4:autoParam (X.ex=[]) zA0)(hg:autoParam (Gl X x) zA0)(c_:autoParam (zND x) zA1)
  (he:autoParam (zSE X e es) zA0) (c5:autoParam (zPL X cpos es) zA0):
  MSt X (.Raise (be (.Call (.Name x p) (e::es) [] cpos)) B_ pos) (zJ x t):=⟨(zG h hc ha.out d4 hg c_ he c5).anti λE s H q=>by
 obtain⟨F0,F,z,M,k,rs,ED,h,ee⟩:=q;exact#[F,z,M,k.kf,rs,_,h,λds vs M1 F1 H1 g1 e8 rx m1=>#[by rw[rx.length];exact e8.1,F1,g1.fh,sN hx k.kf rs g1 m1 e8.2]]⟩
end
section
variable {X:Cx}[J:Jm]{a b c e:P3}{ta tb tc te:TME}{pos:R4}{st:RS}{rest:List RS}{t u:TMS}
def zK:TMS:=λE z M=>E.nx z M
def mSeq(t u:TMS):TMS:=λE z M=>t {E with nx:=u E} z M
def aO:MSs X [] zK:=⟨pss_nil.anti λE s H q=>by
 obtain⟨F0,F,z,M,k,rs,ED,h,e⟩:=q;exact e.nx z s M F H k h rs⟩
def ai(h1:MSt X st t)(h2:MSs X rest u):MSs X (st::rest) (mSeq t u):=⟨(dM h1.out h2.out).anti λE s H q=>by
 obtain⟨F0,F,z,M,k,rs,ED,h,e⟩:=q;exact#[F0,F,z,M,k,rs,{ED with nx:=u ED},h,#[λz' s' M' F' H' k' hz r'=>#[F0,F',z',M',k',r',ED,hz,e],e.rt,e.bk,e.ct]]⟩
def ao(h1:MSt X st t):MSs X [st] t:=#[pM h1.out]
def mRet(te:TME):TMS:=λE z M=>te z M E.rt
def ay(he:ME X e te):MSt X (.Return (be e) pos) (mRet te):=⟨(pN he.out).anti λE s H q=>by
 obtain⟨F0,F,z,M,k,rs,ED,h,e⟩:=q;exact#[F,z,M,k.kf,rs,_,h,λd v M' F' H' g hd rd m'=>e.rt d v M' F' H' (k.growM rs.mb g) hd rd m' (rs.growM k.bh g m').mb]⟩
def zL(te:TME):TMS:=λE z M=>te z M λ_ M1=>E.nx z M1
def bq(he:ME X e te)(hs:autoParam (Sd e B_ pos.line X.env=pure false) zA0):MSt X (.Expr e pos) (zL te):=⟨(ju he.out hs).anti λE s H q=>by
 obtain⟨F0,F,z,M,k,rs,ED,h,e⟩:=q;exact#[F,z,M,k.kf,rs,_,h,λd v M' F' H' g hd rd m'=>e.nx z s M' F' H' (k.growM rs.mb g) hd (rs.growM k.bh g m')]⟩
def mIfS(c:TMT)(t u:TMS):TMS:=λE z M=>c z M λb M1=>if b=true then t E z M1 else u E z M1
variable{l r:List RS}
def aT{c:P3}{tc:TMT}(hc:MT X c tc)(ha:MSs X l t)(hb:MSs X r u):MSt X (.If c l r pos) (mIfS tc t u):=⟨(pO hc.out ha.out hb.out).anti λE s H q=>by
 obtain⟨F0,F,z,M,k,rs,ED,h,e⟩:=q;refine#[F,z,M,k.kf,rs,_,h,λb M1 F1 H1 g hk m1=>?_];cases b with
 |true=>exact#[F0,F1,z,M1,k.growM rs.mb g,rs.growM k.bh g m1,ED,hk,e]
 |false=>exact#[F0,F1,z,M1,k.growM rs.mb g,rs.growM k.bh g m1,ED,hk,e]⟩
def mIfJ(c:TMT)(t u:TMS):TMS:=λE z M=>∃J:SD->MS->Prop,(c z M λb M1=>if b=true then t {E with nx:=J} z M1 else u {E with nx:=J} z M1)/\∀z' M',J z' M'->E.nx z' M'
def gU{c:P3}{tc:TMT}(hc:MT X c tc)(ha:MSs X l t)(hb:MSs X r u):MSt X (.If c l r pos) (mIfJ tc t u):=⟨(aT hc ha hb).out.anti λE s H q=>by
 obtain⟨F0,F,z,M,k,rs,ED,⟨J,h,j⟩,e⟩:=q;exact#[F0,F,z,M,k,rs,{ED with nx:=J},h,#[λz' s' M' F' H' k' hz r'=>e.nx z' s' M' F' H' k' (j z' M' hz) r',e.rt,e.bk,e.ct]]⟩
def mSet(i:Nat)(te:TME):TMS:=λE z M=>∃P:D->MS->Prop,te z M P/\∀d M',P d M'->E.nx (z.set i (be d)) M'
def aD(i:Nat){x:Jj}{c7:R4}(hN:X.N.Nodup)(he:ME X e te)(hi:autoParam (X.N[i]?=be x) zA0)(hx:autoParam (Loc X.env.scope x) zA4)(hs:autoParam (Sd e (be (.Name x c7)) pos.line X.env=pure false) zA0)
  (hf:autoParam (zFN X x) zA3):MSt X (.Assign [.Name x c7] e pos) (mSet i te):=⟨(jv hN hi hx he.out hs hf).anti λE s H q=>by
 obtain⟨F0,F,z,M,k,rs,ED,⟨P,h,j⟩,e⟩:=q;exact#[F,z,M,k.kf,rs,P,h,λd v M' F' H' g hd rd m'=>e.nx _ _ M' F' H' (k.growM rs.mb g) (j d M' hd) ((rs.growM k.bh g m').set rd)]⟩
def zM(x f:Jj)(to te:TME):TMS:=λE z M=>te z M λd M1=>to z M1 λo M2=>match o with|.ptr a=>∃fs,mget M2 a=be (.ins x fs)/\fs.length<1000/\E.nx z (mput M2 a (.ins x (putD f d fs)))|_=>False
def bL{x f:Jj}{o:P3}{to:TME}{c7:R4}(hA:ClsA X.K x f)(ho:ME X o to)(he:ME X e te)(hs:autoParam (Sd e (be (.Attribute o f c7)) pos.line X.env=pure false) zA0):
  MSt X (.Assign [.Attribute o f c7] e pos) (zM x f to te):=⟨(ql ho.out he.out hs).anti λE s H q=>by
 obtain⟨C,hn,hc,hf⟩:=hA;obtain⟨F0,F,z,M,k,rs,ED,h,ee⟩:=q;refine#[F,z,M,k.kf,rs,_,h,λd v M1 F1 H1 g1 hx rd m1=>?_];have k1:=k.growM rs.mb g1;have m4:=rs.growM k.bh g1 m1;refine#[F1,z,M1,k1.kf,m4,_,hx,λo' v' M2 F2 H2 g2 hy ro m2=>?_];have k2:=k1.growM m4.mb g2;have Kw:=m4.growM k1.bh g2 m2;split at hy
 .rename_i a;obtain⟨fs,hm,hl,Kd⟩:=hy;obtain⟨C',dx,ws,f_,hH,rf⟩:=m2.ok _ _ (bf hm);rw[hn]at f_;cases f_;have fa:=m2.fr a (bA (bf hm));refine#[a,C,dx,ws,rep_ptr.mp ro,hH,hc,hf,by rw[rf.length];exact hl,?_];have m3:RepM X.K F2 (upd H2 a (.ins C dx (putF f v ws))) (mput M2 a (.ins x (putD f d fs))):=m2.put hm #[C,dx,_,hn,ax,RepF.put (rd.mono g2.ff) rf];have g3:GrowM M2 (mput M2 a (.ins x (putD f d fs))) F2 H2 F2 (upd H2 a (.ins C dx (putF f v ws))):=GrowM.put k2.fh fa hm;exact ee.nx z s _ F2 _ (k2.growM Kw.mb g3) Kd (Kw.growM k2.bh g3 m3)
 .exact hy.elim⟩
def zN(c:TMT)(tb:TMS):TMS:=λE z M=>∃W:Nat->SD->MS->Prop,(∃m,W m z M)/\∀m z M,W m z M->
 c z M λb M1=>if b=true then tb {E with nx:=λz' M'=>∃m',m'<m/\W m' z' M',ct:=λz' M'=>∃m',m'<m/\W m' z' M',bk:=E.nx} z M1 else E.nx z M1
def zO{c:P3}{body:List RS}{tc:TMT}{tb:TMS}(hp:Se (RR X.prog X.w) X.A X.env X.xe)(hc:MT X c tc)(hb:MSs X body tb):MSt X (.While c body [] pos) (zN tc tb):=⟨(pQ hp hc.out hb.out).anti λE s H q=>by
 obtain⟨F0,F,z,M,k,rs,ED,⟨W,⟨m0,w0⟩,c3⟩,e⟩:=q;refine#[λm s' H'=>∃F' z' M',Kept J.B F0 F' H'/\RepZ X.K J.B F' H' z' s' M'/\W m z' M',#[m0,F,z,M,k,rs,w0],?_];rintro m s1 H1⟨F1,z1,M1,k1,r1,w1⟩;refine#[F1,z1,M1,k1.kf,r1,_,c3 m z1 M1 w1,λb M2 F2 H2 g2 hk m2=>?_];cases b with
 |true=>
  refine#[λs3 H3=>∃F3 z3 M3,Kept J.B F0 F3 H3/\RepZ X.K J.B F3 H3 z3 s3 M3/\∃m',m'<m/\W m' z3 M3,λs3 H3 ⟨F3,z3,M3,k3,r3,m',l,w3⟩=>#[m',l,F3,z3,M3,k3,r3,w3],?_];exact#[F0,F2,z1,M2,k1.growM r1.mb g2,r1.growM k1.bh g2 m2,_,hk,#[λz3 s3 M3 F3 H3 k3 h3 r3=>#[F3,z3,M3,k3,r3,h3],e.rt,e.nx,λz3 s3 M3 F3 H3 k3 h3 r3=>#[F3,z3,M3,k3,r3,h3]]]
 |false=>exact e.nx z1 s1 M2 F2 H2 (k1.growM r1.mb g2) hk (r1.growM k1.bh g2 m2)⟩
end
section
variable {X:Cx}[J:Jm]{a b c e o:P3}{ta tb tc te to:TME}{pos:R4}{st:RS}{rest:List RS}{t u:TMS}
abbrev TMI:=SD->MS->(List D->MS->Prop)->Prop
def mItR(t:TME):TMI:=λz M R=>t z M λx M1=>match x with|.int n=>(0<=n/\n<2^62)/\R ((FQ n.toNat).map λk=>D.int ((k:Nat):Int)) M1|_=>False
def mFor(i:Nat)(ti:TMI)(tb:TMS):TMS:=λE z M=>ti z M λds M1=>∃W:Nat->SD->MS->Prop,W 0 z M1/\(∀k x z M,ds[k]?=be x->W k z M->tb {E with nx:=W (k+1),ct:=W (k+1),bk:=E.nx} (z.set i (be x)) M)/\∀z M,W ds.length z M->E.nx z M
def ky(i:Nat){x:Jj}{p p1 p2:R4}{body:List RS}{tb:TMS}(hp:Se (RR X.prog X.w) X.A X.env X.xe)(hc:X.calm=true)(hN:X.N.Nodup)(hm:X.mg "range"=B_)(he:ME X e te)(hb:MSs X body tb)(hg:autoParam (Gl X "range") zA0)(hi:autoParam (X.N[i]?=be x) zA0)(hx:autoParam (Loc X.env.scope x) zA4)
  (hf:autoParam (zFN X x) zA3) (hs:autoParam (∀y,zFS X (.Call (.Name "range" p1) [e] [] p2) y) zA2) (r_:autoParam (zSE X e []) zA0) (f9:autoParam (RW [e] X.env=[(false,R1 e X.env)]) zA0):
  MSt X (.For (.Name x p) (.Call (.Name "range" p1) [e] [] p2) body [] pos) (mFor i (mItR te) tb):=⟨(cH hp hc (jy hg hm (bn he.out pa_nil r_) f9) (cZ hN hi hx hf) hb.out hs).anti λE s H q=>by
 obtain⟨F0,F,z,M,kp,rs,ED,h,e⟩:=q;refine#[F,z,M,kp.kf,rs,_,h,λd v M1 F1 H1 g1 hd rd m1=>?_];split at hd
 .rename_i n;obtain⟨⟨b1,b2⟩,W,w0,c3,out⟩:=hd;have hl:((FQ n.toNat).map λk=>D.int ((k:Nat):Int)).length=n.toNat:=by simp
  refine#[n,by rw[rep_int.mp rd],JZ,b2,jA (lo:=0) (n:=n.toNat) (λk s' H'=>∃F' z' M',Kept J.B F0 F' H'/\RepZ X.K J.B F' H' z' s' M'/\W k z' M') #[F1,z,M1,kp.growM rs.mb g1,rs.growM kp.bh g1 m1,w0] ?_ ?_]
  .rintro k s' H' hk⟨F',z',M',k',r',w'⟩;have e1:(0:Int)+(k:Int)=(k:Int):=by lia
   exact#[F0,F',_,M',k',r'.set (d:=.int (k:Int)) (rep_int.mpr (by rw[e1])),_,c3 k (.int (k:Int)) z' M' (by simp[hk]) w',#[λz3 s3 M3 F3 H3 k3 h3 r3=>#[F3,z3,M3,k3,r3,h3],e.rt,e.nx,λz3 s3 M3 F3 H3 k3 h3 r3=>#[F3,z3,M3,k3,r3,h3]]]
  .rintro s' H'⟨F',z',M',k',r',w'⟩;exact e.nx z' s' M' F' H' k' (out z' M' (by rw[hl];exact w')) r'
 .exact hd.elim⟩
def zP(te:TME):TME:=λz M R=>te z M λd M1=>match d with|.ptr a=>∃ds,mget M1 a=be (.lst ds)/\R (.int ds.length) M1|_=>False
def kz{p:R4}(hm:X.mg "len"=B_)(ha:ME X e te)(hg:autoParam (Gl X "len") zA0)(he:autoParam (zSE X e []) zA0):ME X (.Call (.Name "len" p) [e] [] pos) (zP te):=⟨(fg jE hg hm PySem.boot_len (bn ha.out pa_nil he) J7 J7 he).anti λs H Q h=>by
 obtain⟨F,z,M,k,rs,R,h1,h2⟩:=h;refine#[F,z,M,k,rs,_,h1,λd v M1 F1 H1 g1 hx rx m1=>?_];split at hx
 .rename_i a;obtain⟨ds,hm,hR⟩:=hx;obtain⟨vs,hH,rr⟩:=m1.ok _ _ (bf hm);exact#[.ref a,vs.length,by rw[rep_ptr.mp rx],.inl #[vs,SqL.of hH,rfl],h2 _ _ M1 F1 H1 g1 hR (rep_int.mpr (by rw[rr.length])) m1]
 .exact hx.elim⟩
def mIxP(ta tb:TME):TME:=λz M R=>ta z M λx M1=>tb z M1 λy M2=>kdP x λa=>kdI y λi=>∃ds,mget M2 a=be (.lst ds)/\∃d,atI ds i=be d/\R d M2
def cQ(ha:ME X a ta)(hb:ME X b tb)(hs:autoParam (dO b) zA6):ME X (.Subscript a b pos) (mIxP ta tb):=⟨(pe_ix ix_list ha.out hb.out hs).anti λs H Q h=>by
 obtain⟨F,z,M,k,rs,R,h1,h2⟩:=h;refine#[F,z,M,k,rs,_,h1,λx u M1 F1 H1 g1 hx rx m1=>?_];refine#[F1,z,M1,k.growM rs.mb g1,rs.growM k.bh g1 m1,_,hx,λy v M2 F2 H2 g2 hy ry m2=>?_];obtain⟨p,rfl,Ki⟩:=kdP.of hy;obtain⟨i,rfl,ds,hm,d,hd,hR⟩:=kdI.of Ki;obtain⟨vs,hH,rr⟩:=m2.ok _ _ (bf hm);obtain⟨w,e2,h_⟩:=rr.at hd;exact#[p,vs,_,w,rep_ptr.mp rx,rep_int.mp ry,SqL.of hH,e2,h2 d w M2 F2 H2 (g1.trans g2) hR h_ m2]⟩
def zQ(to te:TME):TME:=λz M R=>to z M λo M1=>match o with|.ptr a=>(∃ds,mget M1 a=be (.lst ds))/\te z M1 λd M2=>∃ds,mget M2 a=be (.lst ds)/\ds.length<=100000/\R .non (mput M2 a (.lst (ds++[d])))|_=>False
def fC{apos cpos:R4}(ho:ME X o to)(he:ME X e te)(k_:autoParam (zSE X e []) zA0)
  (b7:autoParam (RZ o "append" X.env (R1 o X.env)=R1 o X.env) zA0)
  (d3:autoParam (zHF X cpos [e]) zA0)
  (b_:autoParam ((apos.endLine==cpos.line)=true) zA0):
  ME X (.Call (.Attribute o "append" apos) [e] [] cpos) (zQ to te):=⟨(dP PySem.F.plainAttrs_list PySem.F.slot_list_append PySem.F.type_list_append jL ho.out (bn he.out pa_nil k_) b7 d3 b_ k_).anti λs H Q h=>by
 obtain⟨F,z,M,k,rs,R,h1,h2⟩:=h;refine#[F,z,M,k,rs,_,h1,λx u M1 F1 H1 g1 hx rx m1=>?_];split at hx
 .rename_i a;obtain⟨⟨Rx,Nw⟩,hx⟩:=hx;obtain⟨QG,QH,Ry⟩:=m1.ok _ _ (bf Nw);rw[rep_ptr.mp rx];refine#[.inl #[rfl,QG,SqL.of QH],?_];refine#[F1,z,M1,k.growM rs.mb g1,rs.growM k.bh g1 m1,_,hx,λd v M2 F2 H2 g2 hd rd m2=>?_];obtain⟨ds,hm,hl,hR⟩:=hd;obtain⟨vs,hH,rr⟩:=m2.ok _ _ (bf hm);have hz:vs.length<sizeLine:=by
   rw[rr.length];have h2:(100000:Nat)<sizeLine:=J7
   lia
  refine#[a,vs,v,rfl,rfl,hH,hz,?_];exact h2 _ _ _ F2 _ (g1.trans (g2.trans (GrowM.put g2.fh (m2.fr a (bA (bf hm))) hm))) hR (rep_non.mpr rfl) (m2.put hm #[_,ax,rr.append (dZ rd)])
 .exact hx.elim⟩
def frzD:MO->D|.ins x fs=>.obj x fs|.lst ds=>.lst ds|.dti a9=>.dti a9
def mFrz(i:Nat)(t:TMS):TMS:=λE z M=>match z[i]? with|some (be (.ptr a))=>∃o,mget M a=be o/\t E (z.set i (be (frzD o))) (mdel M a)|_=>False
def gW(i:Nat){Lf:List RS}(h:MSs X Lf t):MSs X Lf (mFrz i t):=⟨PSs.anti h.out λE s H q=>by
 obtain⟨F0,F,z,M,k,rs,ED,h,e⟩:=q;unfold mFrz at h;split at h
 .rename_i a ez;obtain⟨o,hm,h⟩:=h;have mem:=bf hm;have fa:=rs.rm.fr a (bA mem);have ba:=rs.mb a (bA mem);obtain⟨v,hv,rv⟩:=rs.rs.val i _ ez rfl;have QI:=rep_ptr.mp rv;subst QI;have hok:=rs.rm.ok a o mem;obtain⟨ho,d5,Ny⟩:∃ho,H a=be ho/\∀F',Same F F'->F' a=be ho->Rep X.K F' (frzD o) (.ref a):=by
   cases o with
   |ins x fs=>obtain⟨C,dx,ws,n,h1,h2⟩:=hok;exact#[_,h1,λF' s' hF=>rep_obj.mpr #[a,C,dx,ws,rfl,n,hF,RepF.mono s' fs ws h2]]
   |lst ds=>obtain⟨vs,h1,h2⟩:=hok;exact#[_,h1,λF' s' hF=>rep_lst.mpr #[a,vs,rfl,hF,h2.mono s']]
   |dti a9=>exact#[_,hok,λF' s' hF=>rep_dti.mpr #[a,rfl,hF]]
  have s1:Same F (upd F a ho):=aS fa _;have hs:s.set i (be (.ref a))=s:=by
   apply GP;intro n;by_cases hn:i=n
   .subst hn;rw[Gs (F7.mp hv).1,hv]
   .rw[F5 hn]
  have k1:Kept J.B F0 (upd F a ho) H:=⟨k.bh,λb u q=>by
   by_cases hb:b=a
   .subst hb;rw[ax]at q;cases q;exact d5
   .rw[aj hb]at q;exact k.fh b u q,k.f0.trans s1,λb h1 h2=>by
   by_cases hb:b=a
   .subst hb;exact absurd ba h2
   .rw[aj hb];exact k.out b h1 h2,k.eb,k.jf,k.jo⟩
  have r0:RepS X.K J.B (upd F a ho) H z s:=#[rs.rs.len,λi d e n=>let ⟨v,q1,q2⟩:=rs.rs.val i d e n;#[v,q1,q2.mono s1],λi ds e=>absurd e (rs.no i ds),rs.rs.apart];have QJ:RepM X.K (upd F a ho) H (mdel M a):=⟨rs.rm.nd.sublist del_sub,λb q hb=>by
   obtain⟨ne,hb⟩:=kt rs.rm.nd hb;exact(rs.rm.ok b q hb).mono s1 λ_ z=>z,λb hb=>by
   obtain⟨⟨b',q⟩,f6,rfl⟩:=Gm.mp hb;obtain⟨ne,Pb⟩:=kt rs.rm.nd f6;rw[aj ne];exact rs.rm.fr _ (bA Pb)⟩
  have z0:RepZ X.K J.B (upd F a ho) H z s (mdel M a):=#[r0,rs.no,QJ,λb hb=>rs.mb b (del_sub.subset hb)];have z1:=z0.set (i:=i) (Ny _ s1 ax);rw[hs]at z1;exact#[F0,_,_,_,k1,z1,ED,h,e]
 .exact h.elim⟩
end
def kA{N:List Jj}{ds:List D}(rs:Reps K F ds vs):∀(i:Nat) d,(startD N ds)[i]?≠be (be (.own d)):=by
 intro i d e;unfold startD at e;by_cases hi:i<ds.length
 .rw[Gy (by simpa using hi),F6]at e;cases q:ds[i]? with
  |none=>rw[q]at e;cases e
  |some x=>
   rw[q]at e;cases e;obtain⟨v,_,q2⟩:=rs.get q;exact rep_own q2
 .rw[GN (by simpa using hi),HK]at e;split at e
  .cases e
  .cases e
def growM_nil(g:GrowM [] M' F H F' H'):Grow F H F' H':=#[g.ff,g.fh,λb o h=>g.hh b o (λz=>nomatch z) h,λb h1 h2=>g.out b (λz=>nomatch z) h1 h2]
section
variable {P:RP}{w:RU}{K:Ex}{mg:Jj->Option KB}{base:Heap}
variable{x:Jj}{ps:List Jj}{S:SpM}
def CalMM.toX{n:Nat}{S0:SpX}(C:CalMM P w K mg base n x ps S)(h:∀ds R RX,S0 ds R RX->S ds [] (λd _=>R d) λx fs _=>RX x fs):CalX P w K mg base n x ps S0:=by
 obtain⟨f,fd,F,hb,hk,hm⟩:=C;refine#[f,fd,F.imp λvs H Q E q=>?_,hb,hk,hm];obtain⟨F,ds,fh,rs,R,RX,hS,q1,q2⟩:=q;exact#[F,ds,[],fh,rs,RepM.nil,_,_,h ds R RX hS,λd v M' F' H' g hd rd _=>q1 d v F' H' (growM_nil g) hd rd,λy fs C od M' F' H' g hR er _=>q2 y fs C od F' H' (growM_nil g) hR er]
open Classical in
def Fun.okM{x qual:Jj}{st:RS}{f:KF}{fd:R3}{N ps:List Jj}{k:Nat}{S:SpM}{dV:KB}(T:FunG K dV x qual st f fd)(F:FnScope N ps (ag st))(len:∀ds M R RX,S ds M R RX->ds.length=ps.length)
  (a8:∀(cdv:KB) (A:RV) (outer:List SL) (s:KM) (H:Hp) (E:XK) (J:Jm),Room k (A.deeper (R6 qual (ag st) s.heap.objs.size f cdv))->XOkM (cxOf (CX1 P w) P w K mg base N qual (ag st) f cdv A outer s H E)->
   ∃t,MSs (cxOf (CX1 P w) P w K mg base N qual (ag st) f cdv A outer s H E) (aG st) t/\∀ds M R RX,(∀z,J.RM z=λM' x fs=>RX x fs M')->S ds M R RX->t {nx:=λ_ M'=>R .non M',rt:=R} (startD N ds) M):FnOk P w K mg base (CX1 P w) (k+1) f fd ps (lSpM K S):=by
 refine Fun.okC T F (λvs H Q E h=>?_) (λcdv A outer s H vs Q E hr h=>?_)
 .obtain⟨F,ds,M,fh,rs,rm,R,RX,h,_⟩:=h;rw[rs.length];exact len ds M R RX h
 .obtain⟨F,ds,M,fh,rs,rm,R,RX,h,q,qx⟩:=h
  let B:Hp:=λb=>if b∈am M then B_ else H b
  have Pc:∀{b:KF},b∈am M->B b=none:=λ{b} h=>if_pos h;have Mf:∀{b:KF},b∉am M->B b=H b:=λ{b} h=>if_neg h
  letI:Jm:={B:=B,F0:=F,RX:=λ_ _ _=>False,RM:=λ_ M' x fs=>RX x fs M'}
  have gr:∀{M':MS} {F' H':Hp},Kept B F F' H'->(∀a,a∈am M'->B a=B_)->GrowM M M' F H F' H':=λ{M' F' H'} k mb=>⟨k.f0,k.fh,λb o nb e=>k.bh b o (by rw[Mf nb];exact e),λb nb h1 h2=>k.out b h1 (by rw[Mf nb];exact h2),λb hb=>by
   by_cases nb:b∈am M
   .exact .inl nb
   .right;rw[<-Mf nb];exact mb b hb⟩
  have hx:XOkM (cxOf (CX1 P w) P w K mg base N qual (ag st) f cdv A outer s H E):=by
   intro σ z M' F' H' s' e C od y fs I kk rr hR er ⟨He,ne,_,hx⟩;have hE:E (.ref C) od H':=qx y fs C od M' F' H' (gr kk rr.mb) hR er rr.rm;rcases hx with⟨sl,vs,h1,h2⟩|⟨T,h1,h2,h3,_⟩
   .exact qP I h1 h2 He ne hE
   .exact su I h1 ne h2 He h3 hE
  obtain⟨t,ht,hq⟩:=a8 cdv A outer s H E inferInstance hr hx;have k0:Kept B F F H:=⟨λb o e=>by
   by_cases nb:b∈am M
   .rw[Pc nb]at e;cases e
   .rw[Mf nb]at e;exact e,fh,Same.refl F,λ_ h _=>h,rfl,Same.refl F,λ_ h _=>h⟩
  have r0:RepZ K B F H (startD N ds) (L2.start N vs) M:=#[da rs,kA rs,rm,λa h=>Pc h];exact#[_,ht.out,F,F,startD N ds,M,k0,r0,_,hq ds M R RX (λ_=>rfl) h,#[λz' s' M' F' H' k hn r=>q _ _ M' F' H' (gr k r.mb) hn (rep_non.mpr rfl) r.rm,λd v M' F' H' k hd rd Nz mb=>q d v M' F' H' (gr k mb) hd rd Nz,λ_ _ _ _ _ _ h _=>h.elim,λ_ _ _ _ _ _ h _=>h.elim]]
variable{N:List Jj}
def Tx.okM{st:RS}{k:Nat}(T:Tx K mg x st ps)(F:FnScope N ps (ag st))(len:∀ds M R RX,S ds M R RX->ds.length=ps.length)
  (a8:∀(f:KF) (cdv:KB) (A:RV) (outer:List SL) (s:KM) (H:Hp) (E:XK) (J:Jm),Room k (A.deeper (R6 x (ag st) s.heap.objs.size f cdv))->XOkM (cxOf (CX1 P w) P w K mg base N x (ag st) f cdv A outer s H E)->
   ∃t,MSs (cxOf (CX1 P w) P w K mg base N x (ag st) f cdv A outer s H E) (aG st) t/\∀ds M R RX,(∀z,J.RM z=λM' x fs=>RX x fs M')->S ds M R RX->t {nx:=λ_ M'=>R .non M',rt:=R} (startD N ds) M):CalMM P w K mg base (k+1) x ps S:=by
 obtain⟨f,fd,T,hb,hm⟩:=T;exact#[f,fd,Fun.okM T F len λcdv A outer s H E J hr hx=>a8 f cdv A outer s H E J hr hx,hb,T.kp,hm]
def Txm(K:Ex)(x m:Jj)(qual:Jj)(st:RS)(ps:List Jj):Prop:=
 ∃C f fd,nsIn K Pi x=be (be (.ref C))/\Cls K C/\Meth K C m f/\Fun K m qual st f fd/\Binds K fd ps []
def Txm.okM{m qual:Jj}{st:RS}{k:Nat}(T:Txm K x m qual st ps)(F:FnScope N ps (ag st))(len:∀ds M R RX,S ds M R RX->ds.length=ps.length)
  (a8:∀(f:KF) (cdv:KB) (A:RV) (outer:List SL) (s:KM) (H:Hp) (E:XK) (J:Jm),Room k (A.deeper (R6 qual (ag st) s.heap.objs.size f cdv))->XOkM (cxOf (CX1 P w) P w K mg base N qual (ag st) f cdv A outer s H E)->
   ∃t,MSs (cxOf (CX1 P w) P w K mg base N qual (ag st) f cdv A outer s H E) (aG st) t/\∀ds M R RX,(∀z,J.RM z=λM' x fs=>RX x fs M')->S ds M R RX->t {nx:=λ_ M'=>R .non M',rt:=R} (startD N ds) M):CalMth P w K mg base (k+1) x m ps (lSpM K S):=by
 obtain⟨C,f,fd,h1,h2,h3,T,hb⟩:=T;exact#[C,f,fd,h1,h2,h3,Fun.okM T F len λcdv A outer s H E J hr hx=>a8 f cdv A outer s H E J hr hx,hb]
end
end My
namespace L2
section
variable {X:Cx}{pins:List (KF×R_)}{σ:St}{H:Hp}{s:KM}{h':Heap}
def Inv.turned2{t':Nat}{e it:KF}(I:Inv X pins σ H s)(k:∀b o,b≠e->b≠it->s.heap.get? b=be o->h'.get? b=be o)(he:FpOk X pins H e)(hi:FpOk X pins H it):Inv X pins σ H {s with heap:=h',toks:=t'}:=by
 obtain⟨e0,e1,e2,e3,e4,e5⟩:=he;obtain⟨i0,i1,i2,i3,i4,i5⟩:=hi;have JY:∀b u,H b=be u->b≠e/\b≠it:=λb u q=>#[(λz=>by rw[z,e0]at q;cases q),(λz=>by rw[z,i0]at q;cases q)];have nc:∀{b:KF},b∉[e,it]->b≠e/\b≠it:=λ{b} h=>#[λz=>h (by simp[z]),λz=>h (by simp[z])];refine I.step (g':=s.gens) (d':=s.drawn) (ch:=[e,it]) (λb hb=>?_) (λb o _ _ hc q _=>k b o (nc hc).1 (nc hc).2 q) (λb o _ _ hc q _=>#[o.slots,k b o (nc hc).1 (nc hc).2 q]) (λ_ _ _ _ n=>n)
  (λb o hc q=>#[o,k b o (nc hc).1 (nc hc).2 q]) (λ_ _ q=>q) (λ_ _ _ q=>q) (λb ps q=>#[[].toArray,by rw[q];simp]) (λm hm=>?_) (λb u q=>?_) I.bare
 .rcases FT.mp hb with z|z
  .rw[z];exact#[e3,e1,e4,e5]
  .rw[FP.mp z];exact#[i3,i1,i4,i5]
 .obtain⟨o,es,ep,ho,r⟩:=hm;exact#[o,es,ep,k _ o (Ne.symm e1) (Ne.symm i1) ho,r]
 .refine(I.hok b u q).stay (λc v hc q'=>k c v ?_ ?_ q') (λ_ q=>q) λ_ _ q=>q
  .rcases hc with z|z
   .rw[z];exact(JY b u q).1
   .exact(JY c _ z).1
  .rcases hc with z|z
   .rw[z];exact(JY b u q).2
   .exact(JY c _ z).2
end
def Itel(K:Ex)(a:KF):It:=
 #[λi H=>∃xs x,SqL K H a xs/\xs[i]?=be x,λi H x H'=>∃T v,H T=B_/\x=.ref T/\H'=upd H T (.tup [.int i,v])/\∀xs,SqL K H a xs->xs[i]?=be v,λi H=>∃xs,SqL K H a xs/\xs.length<=i]
def Ites(x:Jj):It:=#[λi _=>i<x.length,λi H v H'=>∃T c,H T=B_/\v=.ref T/\H'=upd H T (.tup [.int i,.str #[[c].toArray]])/\x.cps[i]?=be c,λi _=>i=x.length]
variable{P:RP}{w:RU}
def zR{H:Hp}{h:Heap}{T:KF}{i:Int}{t:Ub}{v:V}{u:KB}(r:RelV v u)(q:h.get? T=be {cls:=.type "tuple",data:=.seq [.int i t,u].toArray}):ObjOk P w H h T (.tup [.int i,v]):=
 #[by show 2<=sizeLine;decide,[.int i t,u],.cons #[t,rfl] (.cons r .nil),#[_,q,rfl,_,rfl]]
def sP{X:Cx}{pins:List (KF×R_)}{σ:St}{H:Hp}{s:KM}{h':Heap}{t':Nat}{e it:KF}{i:Int}{t:Ub}{v:V}{u:KB}(I:Inv X pins σ H s)(he:FpOk X pins H e)(hi:FpOk X pins H it)(le:e<s.heap.objs.size)(li:it<s.heap.objs.size)(r:RelV v u)
  (hT:h'.get? s.heap.objs.size=be {cls:=.type "tuple",data:=.seq [.int i t,u].toArray}) (hk:∀b o,b≠e->b≠it->s.heap.get? b=be o->h'.get? b=be o):Inv X pins σ (upd H s.heap.objs.size (.tup [.int i,v])) {s with heap:=h',toks:=t'}:=by
 have I1:Inv X pins σ (upd H s.heap.objs.size (.tup [.int i,v])) {s with heap:=s.heap.push {cls:=.type "tuple",data:=.seq [.int i t,u].toArray},toks:=t'}:=
  I.laid (λb o q=>Heap.get?_push_of_some _ q) (FR _) (zR r (Heap.get?_push_size _ rfl))
 have fp:∀{b:KF},FpOk X pins H b->b<s.heap.objs.size->FpOk X pins (upd H s.heap.objs.size (.tup [.int i,v])) b:=λ{b} h l=>#[by rw[aj (FU l)];exact h.1,h.2];refine I1.turned2 (h':=h') (t':=t') (λb o h1 h2 q=>?_) (fp he le) (fp hi li);rcases Heap.get?_push_cases (show(s.heap.push {cls:=.type "tuple",data:=.seq [.int i t,u].toArray}).get? b=be o from q)with⟨rfl,rfl⟩|q2
 .exact hT
 .exact hk b o h1 h2 q2
variable{t6:List P3}
def zS{K:Ex}{x1:Nat}{tp:R4}(a e it:KF)(Kx:e≠it):Turn P w K (.Tuple t6 x1 tp) (Itel K a) [e,it] e (λi h=>(∃l7,IsEnum h e it i l7)/\h.IsListIter it a i) where
 mem:=J8
 obj:=λi h st b hb=>by
  obtain⟨⟨l7,he⟩,hit⟩:=st;rcases FT.mp hb with z|z
  .rw[z];exact#[_,he,λv z=>by cases z]
  .rw[FP.mp z];obtain⟨o,ho,c,d⟩:=hit;exact#[o,ho,λv z=>by rw[d]at z;cases z]
 keep:=λi h h' st k=>#[let ⟨l7,he⟩:=st.1;#[l7,k e J8 _ he],st.2.at λo q=>k it J8 o q]
 item:=by
  intro X hP hw hK hc i pins s σ H E I hf st hg;subst hP hw hK;obtain⟨xs,x,hq,hx⟩:=hg;obtain⟨its,rv,p,hz⟩:=I.list hq;obtain⟨u,hu,ru⟩:=rv.get hx;obtain⟨⟨l7,he⟩,hit⟩:=st;have fe:=hf e J8;have fi:=hf it J8;have le:e<s.heap.objs.size:=Heap.lt_size he;have li:it<s.heap.objs.size:=by obtain⟨o,ho,_⟩:=hit;exact Heap.lt_size ho
  refine wpAny_pyNext_enum_item he hit p.isList (x:=u) (by simpa using hu) Kx λh' A' Kj hT i_ hk=>?_;refine#[_,rfl,Tj A' λh2 NA l8=>?_];have n9:Heap.SameBut e h' h2:=l8;have nT:s.heap.objs.size≠e:=GF le;have I1:Inv X pins σ (upd H s.heap.objs.size (.tup [.int i,x])) {s with heap:=h2,toks:=s.toks+1}:=sP I fe fi le li ru ((n9.2 _ nT).trans hT) λb o h1 h3 q=>(n9.2 b h1).trans (hk b o h1 h3 q);refine#[.ref s.heap.objs.size,_,I1,rfl,#[_,x,I.hok.fresh (FR _),rfl,rfl,λys hy=>by rw[I.list_inj hy hq];exact hx],#[#[u,by simpa using NA],Kj.at λo q=>(n9.2 it (Ne.symm Kx)).trans q],λb hb=>?_];rcases FT.mp hb with z|z
  .rw[z,aj (FU le)];exact fe.1
  .rw[FP.mp z,aj (FU li)];exact fi.1
 done:=by
  intro X hP hw hK hc i pins s σ H E I hf st hg;subst hP hw hK;obtain⟨xs,hq,hx⟩:=hg;obtain⟨its,rv,p,hz⟩:=I.list hq;obtain⟨⟨l7,he⟩,hit⟩:=st;have hl:=rv.length;obtain⟨f0,f1,f2,f3,f4,f5⟩:=hf it J8;exact wpAny_pyNext_enum_end (I.ok.hd hc) he hit p.isList Sc λh' eb=>#[rfl,I.turned (t':=s.toks) (λb o hb q=>eb b o hb q) f0 f1 f3 f4 f5]
 self:=λ_ _ _ _ _ st h=>let ⟨⟨l7,he⟩,_⟩:=st;SN he h
def zT{K:Ex}{x1:Nat}{tp:R4}(x:Jj)(t:Ub)(e it:KF)(Kx:e≠it):Turn P w K (.Tuple t6 x1 tp) (Ites x) [e,it] e (λi h=>(∃l7,IsEnum h e it i l7)/\h.IsStrIter it "str_ascii_iterator" x t i) where
 mem:=J8
 obj:=λi h st b hb=>by
  obtain⟨⟨l7,he⟩,hit⟩:=st;rcases FT.mp hb with z|z
  .rw[z];exact#[_,he,λv z=>by cases z]
  .rw[FP.mp z];obtain⟨o,ho,c,d⟩:=hit;exact#[o,ho,λv z=>by rw[d]at z;cases z]
 keep:=λi h h' st k=>#[let ⟨l7,he⟩:=st.1;#[l7,k e J8 _ he],let ⟨o,ho,r⟩:=st.2;#[o,k it J8 o ho,r]]
 item:=by
  intro X hP hw hK hc i pins s σ H E I hf st hg;subst hP hw hK;have hi:i<x.cps.size:=hg;obtain⟨⟨l7,he⟩,hit⟩:=st;have fe:=hf e J8;have fi:=hf it J8;have le:e<s.heap.objs.size:=Heap.lt_size he;have li:it<s.heap.objs.size:=by obtain⟨o,ho,_⟩:=hit;exact Heap.lt_size ho
  refine wpAny_pyNext_enum_itemD (Draws.strAscii (A:=X.A.in1) (by exact I.ok.hd hc) it x t) he hit hi Kx (by simp[Kx]) λu h' tk hP A' Kj hT i_ hk=>?_;obtain⟨c,tu,JG,rfl⟩:=hP;refine#[_,rfl,Tj A' λh2 NA l8=>?_];have n9:Heap.SameBut e h' h2:=l8;have nT:s.heap.objs.size≠e:=GF le;have I1:Inv X pins σ (upd H s.heap.objs.size (.tup [.int i,.str #[[c].toArray]])) {s with heap:=h2,toks:=tk+1}:=sP I fe fi le li #[tu,rfl] ((n9.2 _ nT).trans hT) λb o h1 h3 q=>(n9.2 b h1).trans (hk b o h1 h3 q);refine#[.ref s.heap.objs.size,_,I1,rfl,#[_,c,I.hok.fresh (FR _),rfl,rfl,JG],#[#[_,by simpa using NA],let ⟨o,ho,r⟩:=Kj;#[o,(n9.2 it (Ne.symm Kx)).trans ho,r]],λb hb=>?_];rcases FT.mp hb with z|z
  .rw[z,aj (FU le)];exact fe.1
  .rw[FP.mp z,aj (FU li)];exact fi.1
 done:=by
  intro X hP hw hK hc i pins s σ H E I hf st hg;subst hP hw hK;have hi:i=x.cps.size:=hg;subst hi;obtain⟨⟨l7,he⟩,hit⟩:=st;obtain⟨f0,f1,f2,f3,f4,f5⟩:=hf it J8;exact wpAny_pyNext_enum_endD (Draws.strAscii (A:=X.A.in1) (by exact I.ok.hd hc) it x t) he hit λh' eb=>#[rfl,I.turned (t':=s.toks) (λb o hb q=>eb b o hb q) f0 f1 f3 f4 f5]
 self:=λ_ _ _ _ _ st h=>let ⟨⟨l7,he⟩,_⟩:=st;SN he h
def iEnL(K:Ex)(ta:TA):TI:=λσ H R=>ta σ H λvs H1=>∃a,vs=[.ref a]/\(∃xs,SqL K H1 a xs)/\R (Itel K a) H1
def iEnS(ta:TA):TI:=λσ H R=>ta σ H λvs H1=>∃x,vs=[.str x]/\x.cps.all (·<128)=true/\R (Ites x) H1
section
variable {X:Cx}{t6:List P3}{x1:Nat}{tp p pos:R4}{l:P3}{ta:TA}
def zU(hg:Gl X "enumerate")(hm:X.mg "enumerate"=B_)(ha:PA X [l] ta)(hs:autoParam (RW [l] X.env=[(false,R1 l X.env)]) zA0):PI X (.Tuple t6 x1 tp) (.Call (.Name "enumerate" p) [l] [] pos) (iEnL X.K ta):=by
 intro pins s σ H R I h;refine Call_ (cY I hg hm PyProof.Rows.boot_enumerate (PyProof.Rows.callWith_type1 (thn (ha pos pins s σ H _ I h) λus s1 ⟨vs,H1,I1,r1,q1⟩=>?_) hs rfl));obtain⟨a,rfl,⟨xs,hq⟩,q⟩:=q1;obtain⟨u,rfl,ru⟩:=bZ r1;cases ru;obtain⟨its,rv,pl,hz⟩:=I1.list hq;refine call_enumerate_list pl.isList λh' he hit i_ hk=>?_;have I2:Inv X pins σ H1 {s1 with heap:=h'}:=I1.kept (t':=s1.toks) hk;refine SN he ?_;have ne:s1.heap.objs.size+1≠s1.heap.objs.size:=IB _;refine#[s1.heap.objs.size+1,[s1.heap.objs.size+1,s1.heap.objs.size],_,_,H1,rfl,I2,zS a _ _ ne,#[#[_,he],hit],λb hb=>?_,q];rcases FT.mp hb with z|z
 .rw[z];exact I1.fpOk (GM _) (I1.hok.fresh (GM _))
 .rw[FP.mp z];exact I1.fpOk (FR _) (I1.hok.fresh (FR _))
def sQ(hg:Gl X "enumerate")(hm:X.mg "enumerate"=B_)(ha:PA X [l] ta)(hs:autoParam (RW [l] X.env=[(false,R1 l X.env)]) zA0):PI X (.Tuple t6 x1 tp) (.Call (.Name "enumerate" p) [l] [] pos) (iEnS ta):=by
 intro pins s σ H R I h;refine Call_ (cY I hg hm PyProof.Rows.boot_enumerate (PyProof.Rows.callWith_type1 (thn (ha pos pins s σ H _ I h) λus s1 ⟨vs,H1,I1,r1,q1⟩=>?_) hs rfl));obtain⟨x,rfl,NB,q⟩:=q1;obtain⟨u,rfl,t,rfl⟩:=bZ r1;refine call_enumerate_str λh' he hit i_ hk=>?_;have I2:Inv X pins σ H1 {s1 with heap:=h'}:=I1.kept (t':=s1.toks) hk;refine SN he ?_;have ne:s1.heap.objs.size+1≠s1.heap.objs.size:=IB _;have QK:strIterType x="str_ascii_iterator":=by unfold strIterType;rw[NB];rfl
 rw[QK]at hit;refine#[s1.heap.objs.size+1,[s1.heap.objs.size+1,s1.heap.objs.size],_,_,H1,rfl,I2,zT x t _ _ ne,#[#[_,he],hit],λb hb=>?_,q];rcases FT.mp hb with z|z
 .rw[z];exact I1.fpOk (GM _) (I1.hok.fresh (GM _))
 .rw[FP.mp z];exact I1.fpOk (FR _) (I1.hok.fresh (FR _))
end
end L2
namespace My
open Exc
section
variable {X:Cx}[J:Jm]{a b c e o:P3}{ta tb tc te to:TME}{pos:R4}{st:RS}{rest:List RS}{t u:TMS}
def kB{K:Ex}{F:Hp}:∀(is:List Nat) (ds:List D) (vs:List V) (z:SD),Reps K F ds vs->(∀(i:Nat) d,z[i]?≠be (be (.own d)))->∀(i:Nat) d,(bU is ds z)[i]?≠be (be (.own d))
 |[],_,_,z,_,h=>h
 |_::_,[],_,z,_,h=>h
 |i::is,d::ds,vs,z,r,h=>by
  obtain⟨v,vr,rfl,r1,r2⟩:=reps_cons.mp r;refine kB is ds vr _ r2 λj q e=>?_;by_cases hj:i=j
  .subst hj;rw[GI]at e;simp at e;have:=r1.noown;rw[e.2]at this;cases this
  .rw[F5 hj]at e;exact h j q e
def mItE(t:TME):TMI:=λz M R=>t z M λx M1=>match x with|.lst ds=>R ds M1|_=>False
def zV(t:TME):TMI:=λz M R=>t z M λx M1=>match x with|.str x=>x.cps.all (·<128)=true/\R (bJ x) M1|_=>False
def sR(is:List Nat)(ti:TMI)(tb:TMS):TMS:=λE z M=>ti z M λds M1=>∃W:Nat->SD->MS->Prop,W 0 z M1/\(∀(k:Nat) x z M,ds[k]?=be x->W k z M->tb {E with nx:=W (k+1),ct:=W (k+1),bk:=E.nx} (bU is [.int k,x] z) M)/\∀z M,W ds.length z M->E.nx z M
variable{is:List Nat}
def sS{K:Ex}{F0 F1 H1:Hp}{z:SD}{s:L2.St}{M1:MS}{E:Ends}{ED:EndsM}{It':It}{g:TG}{tb:TMS}{Ln:TS}{ds:List D}(hK:K=X.K)(k1:Kept J.B F0 F1 H1)(m4:RepZ K J.B F1 H1 z s M1)(e:EndsOkM K F0 ED E)(b8:is.length=2)
  (go:∀k F' H',Same F1 F'->Same F' H'->k<ds.length->It'.go k H') (stop:∀F' H',Same F1 F'->Same F' H'->It'.stop ds.length H')
  (yld:∀k F' H' x H'',Same F1 F'->Same F' H'->k<ds.length->It'.yld k H' x H''->∃T d v,H' T=B_/\x=.ref T/\H''=upd H' T (.tup [.int k,v])/\ds[k]?=be d/\Rep K F' d v)
  (hg:∀(dd:List D) (vs:List V) (T:KF) (z:SD) (s:L2.St) (F H:Hp) (Q:L2.St->Hp->Prop),dd.length=2->H T=be (.tup vs)->Reps K F dd vs->RepS K J.B F H z s->(∀s',RepS K J.B F H (bU is dd z) s'->Q s' H)->g (.ref T) s H Q)
  (NC:∀E s H,mS K tb E s H->Ln E s H)
  (hd:∃W:Nat->SD->MS->Prop,W 0 z M1/\(∀(k:Nat) x z M,ds[k]?=be x->W k z M->tb {ED with nx:=W (k+1),ct:=W (k+1),bk:=ED.nx} (bU is [.int k,x] z) M)/\∀z M,W ds.length z M->ED.nx z M):
  ∃W:Nat->Nat->L2.St->Hp->Prop,(∃m,W 0 m s H1)/\∀i m σ H,W i m σ H->
   (It'.stop i H/\E.nx σ H)\/(It'.go i H/\∃N:L2.St->Hp->Prop,(∀σ' H',N σ' H'->∃m',m'<m/\W (i+1) m' σ' H')/\∀x H',It'.yld i H x H'->g x σ H' λσ2 H2=>Ln {E with nx:=N,ct:=N,bk:=E.nx} σ2 H2):=by
 obtain⟨W,w0,c3,out⟩:=hd;refine#[λk m s' H'=>m=ds.length-k/\k<=ds.length/\∃F' z' M',Kept J.B F0 F' H'/\Same F1 F'/\RepZ K J.B F' H' z' s' M'/\W k z' M',#[ds.length,J8,Gh _,F1,z,M1,k1,Same.refl F1,m4,w0],?_];rintro k m s' H'⟨rfl,hk,F',z',M',k',g',r',w'⟩;by_cases d9:k<ds.length
 .refine .inr #[go k F' H' g' k'.fh d9,λs3 H3=>∃F3 z3 M3,Kept J.B F0 F3 H3/\Same F1 F3/\RepZ K J.B F3 H3 z3 s3 M3/\W (k+1) z3 M3,λs3 H3 h3=>#[ds.length-(k+1),JZ,rfl,d9,h3],λx H'' hy=>?_];obtain⟨T,d,v,hT,rfl,rfl,hd,rd⟩:=yld k F' H' x H'' g' k'.fh d9 hy;have gn:=Grow.new k'.fh hT (.tup [.int k,v]);have k2:=k'.grow gn;have r2:=r'.growM k'.bh gn.toM (r'.rm.grow gn);have rp:Reps K (upd F' T (.tup [.int k,v])) [.int k,d] [.int k,v]:=reps_cons.mpr #[_,_,rfl,rep_int.mpr rfl,dZ (rd.mono gn.ff)];refine hg [.int k,d] _ T z' s' _ _ _ rfl ax rp r2.rs λs2 Kw=>NC _ _ _ ?_;have gF:Same F1 (upd F' T (.tup [.int k,v])):=g'.trans gn.ff;refine#[upd F' T (.tup [.int k,v]),upd F' T (.tup [.int k,v]),_,M',#[k2.bh,k2.fh,Same.refl _,λb h1 _=>h1,k2.eb,k2.jf.trans k2.f0,λb h1 h2=>k2.out b (k2.jo b h1 h2) h2],#[Kw,kB is _ _ z' rp r2.no,r2.rm,r2.mb],_,c3 k d z' M' hd w',?_];have up:∀{F3 H3:Hp},Kept J.B (upd F' T (.tup [.int k,v])) F3 H3->Kept J.B F0 F3 H3:=λk3=>#[k3.bh,k3.fh,k2.f0.trans k3.f0,λb h1 h2=>k3.out b (k2.out b h1 h2) h2,k2.eb,k2.jf,k2.jo];exact#[λz3 s3 M3 F3 H3 k3 h3 r3=>#[F3,z3,M3,up k3,gF.trans k3.f0,r3,h3],λd v M3 F3 H3 k3=>e.rt d v M3 F3 H3 (up k3),λz3 s3 M3 F3 H3 k3=>e.nx z3 s3 M3 F3 H3 (up k3),λz3 s3 M3 F3 H3 k3 h3 r3=>#[F3,z3,M3,up k3,gF.trans k3.f0,r3,h3]]
 .have ek:k=ds.length:=by lia
  subst ek;exact .inl #[stop F' H' g' k'.fh,e.nx z' s' M' F' H' k' (out z' M' w') r']
variable{es:List P3}{body:List RS}
def zW{x1:Nat}{tp p1 p2:R4}{tb:TMS}(hp:Se (RR X.prog X.w) X.A X.env X.xe)(hc:X.calm=true)(hm:X.mg "enumerate"=B_)(he:ME X e te)(hG:DGs X es is)(hb:MSs X body tb)(b8:autoParam (is.length=2) zA0)(hg:autoParam (Gl X "enumerate") zA0)
  (hn:autoParam ((RY es X.env).length=2) zA0) (j8:autoParam ((RY es X.env).findIdx? (·.1)=none) zA0)
  (hs:autoParam (∀y,zFS X (.Call (.Name "enumerate" p1) [e] [] p2) y) zA2) (r_:autoParam (zSE X e []) zA0) (f9:autoParam (RW [e] X.env=[(false,R1 e X.env)]) zA0):
  MSt X (.For (.Tuple es x1 tp) (.Call (.Name "enumerate" p1) [e] [] p2) body [] pos) (sR is (mItE te) tb):=by
 obtain⟨ug,Lo,kk⟩:=hG;refine#[(cH hp hc (zU hg hm (bn he.out pa_nil r_) f9) (fX hc Lo hn j8) hb.out hs).anti λE s H q=>?_];obtain⟨F0,F,z,M,kp,rs,ED,h,e⟩:=q;refine#[F,z,M,kp.kf,rs,_,h,λd v M1 F1 H1 g1 hd rd m1=>?_];split at hd
 .rename_i ds;obtain⟨p,vs,rfl,hq,rr⟩:=rep_lst.mp rd;refine#[p,rfl,#[vs,SqL.of (g1.fh _ _ hq)],sS (It':=Itel X.K p) rfl (kp.growM rs.mb g1) (rs.growM kp.bh g1 m1) e b8 (λk F' H' s1 s2 hk=>?_) (λF' H' s1 s2=>?_) (λk F' H' x H'' s1 s2 hk hy=>?_) (λdd l_ T z s F H Q hl hT rp y9 hQ=>?_) (λ_ _ _ h=>h) hd]
  .have Ka:k<vs.length:=by rw[rr.length];exact hk
   exact#[vs,vs[k],SqL.of (s2 _ _ (s1 _ _ hq)),by simp[Ka]]
  .exact#[vs,SqL.of (s2 _ _ (s1 _ _ hq)),by rw[rr.length];exact FR _]
  .obtain⟨T,v,hT,e1,e2,hv⟩:=hy;obtain⟨d,hd,rd⟩:=rr.get' (hv vs (SqL.of (s2 _ _ (s1 _ _ hq))));exact#[T,d,v,hT,e1,e2,hd,rd.mono s1]
  .exact#[T,l_,rfl,SqT.of hT,by rw[rp.length];exact hl,kk dd l_ z s J.B F H Q (by rw[hl,b8]) rp y9 hQ]
 .exact hd.elim
def zX{x1:Nat}{tp p1 p2:R4}{tb:TMS}(hp:Se (RR X.prog X.w) X.A X.env X.xe)(hc:X.calm=true)(hm:X.mg "enumerate"=B_)(he:ME X e te)(hG:DGs X es is)(hb:MSs X body tb)(b8:autoParam (is.length=2) zA0)(hg:autoParam (Gl X "enumerate") zA0)
  (hn:autoParam ((RY es X.env).length=2) zA0) (j8:autoParam ((RY es X.env).findIdx? (·.1)=none) zA0)
  (hs:autoParam (∀y,zFS X (.Call (.Name "enumerate" p1) [e] [] p2) y) zA2) (r_:autoParam (zSE X e []) zA0) (f9:autoParam (RW [e] X.env=[(false,R1 e X.env)]) zA0):
  MSt X (.For (.Tuple es x1 tp) (.Call (.Name "enumerate" p1) [e] [] p2) body [] pos) (sR is (zV te) tb):=by
 obtain⟨ug,Lo,kk⟩:=hG;refine#[(cH hp hc (sQ hg hm (bn he.out pa_nil r_) f9) (fX hc Lo hn j8) hb.out hs).anti λE s H q=>?_];obtain⟨F0,F,z,M,kp,rs,ED,h,e⟩:=q;refine#[F,z,M,kp.kf,rs,_,h,λd v M1 F1 H1 g1 hd rd m1=>?_];split at hd
 .rename_i x;obtain⟨ha,hd⟩:=hd;have hl:=eD x;refine#[x,by rw[rep_str.mp rd],ha,sS (It':=Ites x) rfl (kp.growM rs.mb g1) (rs.growM kp.bh g1 m1) e b8 (λk F' H' s1 s2 hk=>?_) (λF' H' s1 s2=>?_) (λk F' H' x H'' s1 s2 hk hy=>?_) (λdd l_ T z s F H Q hl hT rp y9 hQ=>?_) (λ_ _ _ h=>h) hd]
  .rw[hl]at hk;exact hk
  .exact hl
  .obtain⟨T,c,hT,e1,e2,hc⟩:=hy;exact#[T,.str #[[c].toArray],.str #[[c].toArray],hT,e1,e2,gJ hc,rep_str.mpr rfl]
  .exact#[T,l_,rfl,SqT.of hT,by rw[rp.length];exact hl,kk dd l_ z s J.B F H Q (by rw[hl,b8]) rp y9 hQ]
 .exact hd.elim
end
end My
namespace L2
section
variable {prog:RP}{w:RU}{K:Type}[DecidableEq K]{j_:HeapKind prog w K}{A:RV}{E:KB->KM->Prop}{s:KM}{d a:KF}{k:K}{xs:List (K×KF×KB)}
def zY{v:KB}{Q:KB->KM->Prop}(hu:j_.room A)(n5:j_.is s.heap k a)(hm:s.heap.DictOfH j_ d xs)
  (h1:∀p,Tb xs k=be p->Q p.2 {s with toks:=s.toks+j_.draws k})
  (h2:Tb xs k=B_->∀h',h'.DictOfH j_ d (xs++[(k,a,v)])->Heap.SameBut d s.heap h'->Q v {s with heap:=h',toks:=s.toks+j_.draws k})
  (i_:xs.length<=sizeLine):RT (RR prog w) A (To d (.ref a) v) Q E s:=by
 obtain⟨o,es,ep,ho,hc,hd,he,Pd,hn⟩:=hm;unfold To
 try with_reducible refine Sg ?_
 refine Os (j_.pyHash hu n5 ?_);refine Os (wpAny_dictFind_heap (s:={s with toks:=s.toks+j_.draws k}) hu n5 ho hd he Pd hn ?_ ?_)
 .intro Kt;have ND:k∉xs.map (·.1):=not_mem_keys_of_get Kt;refine Os (wpAny_rule (Os (wpAny_updateDictKeys (hz:=by have e:=size_of_entries he;lia) (s:={s with toks:=s.toks+j_.draws k}) ho hd (RQ (h2 (atKey_none_of_get Kt) _ ⟨_,_,ep+1,Heap.get?_update_self _ ho (Obj.isFreed_of_dict (Obj.data_mapDictKeys hd _)),
   hc.mapDictKeys _,Obj.data_mapDictKeys hd _,?_,?_,?_⟩ (Heap.SameBut.update ..))))))
  .simp[he,entryOfKey]
  .intro x hx;rcases Go.mp hx with hx|hx
   .exact j_.keeps (Pd x hx) ho hd (Heap.SameBut.update ..)
   .simp only[FP]at hx;subst hx;exact j_.keeps n5 ho hd (Heap.SameBut.update ..)
  .rw[Gc,GY];refine#[hn,J8,?_];intro x hx y hy;simp only[Gi,Ht,FP]at hy;subst hy;exact λe=>ND (e ▸ hx)
 .intro j p hj;refine Os (wpAny_dictEntries (s:={s with toks:=s.toks+j_.draws k}) ho hd ?_);rw[entry_at he j,hj];exact Os (wpAny_rule (RQ (h1 p (atKey_of_get hn hj))))
def zZ(j_:HeapKind prog w K)(d a:KF)(hd:(d==Sl)=false)(v:KB):
  MeetsIn prog w (Builtin.«dict.setdefault» #[[.ref d,.ref a,v],[]]) (λA R s=>j_.room A.in1/\∃k xs,j_.is s.heap k a/\s.heap.DictOfH j_ d xs/\xs.length<=sizeLine/\
   (∀p,Tb xs k=be p->R (.ok (.ret p.2)) {s with toks:=s.toks+j_.draws k})/\
   (Tb xs k=B_->∀h',h'.DictOfH j_ d (xs++[(k,a,v)])->Heap.SameBut d s.heap h'->R (.ok (.ret v)) {s with heap:=h',toks:=s.toks+j_.draws k})):=
 .of_wp λA R s hh=>by
  obtain⟨hu,k,xs,n5,hm,hz,h1,h2⟩:=hh;unfold Builtin.«dict.setdefault»;refine Os ?_;unfold Builtin.Dict.keyAndDefault;refine Os (wpAny_notOrdered_dict hm.typeIs ?_);show RT _ _ (pure (d,Value.ref a,be v)) _ _ s;refine RQ ?_;show RT _ _ (if(d==Sl)=true then _ else(To d (.ref a) v>>=_)) _ _ s;rw[if_neg (by rw[hd];exact F8)];exact Os (zY hu n5 hm (λp hp=>RQ #[p.2,rfl,h1 p hp]) (λhn h' J4 i6=>RQ #[v,rfl,h2 hn h' J4 i6]) hz)
end
end L2
namespace My
open Exc
def lookD:List ((Int×Int)×Int)->Int->Int->Option Int
 |[],_,_=>B_
 |((a,b),h)::r,x,y=>if a=x/\b=y then be h else lookD r x y
def kC(x y:Int):∀a9:List ((Int×Int)×Int),valV (dtiV a9) [.inl x,.inl y]=(lookD a9 x y).map V.int
 |[]=>rfl
 |((a,b),h)::r=>by
  show valV (([.inl a,.inl b],V.int h)::dtiV r) _=_;unfold lookD;by_cases e:a=x/\b=y
  .rw[if_pos e,jM (by rw[e.1,e.2])];rfl
  .rw[if_neg e,jN (λz=>e (by
    have z':([Sum.inl a,Sum.inl b]:List Key)=[.inl x,.inl y]:=z;injection z' with z1 z2;injection z2 with z2 _;exact#[Sum.inl.inj z1,Sum.inl.inj z2])),kC x y r]
def sdD(a9:List ((Int×Int)×Int))(x y v:Int):List ((Int×Int)×Int):=if(lookD a9 x y).isSome then a9 else a9++[((x,y),v)]
def Aa:V->List V->Hp->VK->Prop:=λx vs H Q=>∃a b i j d a9,x=.ref a/\vs=[.ref b,.int d]/\H a=be (.dT (dtiV a9))/\H b=be (.tup [.int i,.int j])/\Q (.int ((lookD a9 i j).getD d)) H
def Ab{X:Cx}(hu:X.A.units+1<SZ):MtR X "dict.get" Aa:=by
 intro pins s σ H x vs v us Q I rx rv h;obtain⟨a,b,i,j,d,a9,rfl,rfl,ha,hb,q⟩:=h;obtain⟨u,u',rfl,ru,rd⟩:=eZ rv;cases(show v=Value.ref a from rx);refine xD hu I (DGet.t (k:=[.inl i,.inl j]) ha hb) ru rd λw' s' I' h_=>#[.int ((lookD a9 i j).getD d),H,I',?_,q];rw[kC]at h_;cases e:lookD a9 i j with
 |none=>rw[e]at h_;exact h_
 |some z=>rw[e]at h_;exact h_
def rSdT:V->List V->Hp->VK->Prop:=λx vs H Q=>∃a b i j d a9,x=.ref a/\vs=[.ref b,.int d]/\H a=be (.dT (dtiV a9))/\H b=be (.tup [.int i,.int j])/\a9.length<100000/\∀w,Q (.int w) (upd H a (.dT (dtiV (sdD a9 i j d))))
variable{H:Hp}{a:KF}
def Ac{o:HO}(h:H a=be o):upd H a o=H:=by
 funext b;by_cases e:b=a
 .subst e;rw[ax,h]
 .rw[aj e]
def Ad{X:Cx}(hu:X.A.units+1<SZ):MtR X "dict.setdefault" rSdT:=by
 intro pins s σ H x vs v us Q I rx rv h;obtain⟨a,b,i,j,d,a9,rfl,rfl,ha,hb,hl,q⟩:=h;obtain⟨u,u',rfl,ru,t,rfl⟩:=eZ rv;cases(show v=Value.ref a from rx);cases(show u=Value.ref b from ru);obtain⟨z,hd,xs,u6,dd⟩:=xz I.hok ha;have b8:xs.length=a9.length:=by rw[<-Paired.length u6];simp[dtiV]
 have big:(100000:Nat)<sizeLine:=J7
 have f6:H b=be (.tup (([.inl i,.inl j]:List Key).map kV)):=hb;have k6:=u6.val [.inl i,.inl j];rw[kC]at k6;refine TF PySem.F.slot_dict_setdefault dd.typeIs PySem.F.entry_dict_setdefault (PySem.F.args_dict_setdefault_3 _ _ _) (zZ (SR (bF X.prog X.w)) a b hd (.int d t)) #[T5 hu,[.inl i,.inl j],xs,key_of I.hok f6,dd,JZ,λp hp=>?_,λhn h' Lk hs=>?_]
 .rw[hp]at k6;cases e:lookD a9 i j with
  |none=>rw[e]at k6;exact k6.elim
  |some w=>
   rw[e]at k6;have:=q w;unfold sdD at this;rw[e]at this;have e2:(if(be w:Option Int).isSome then a9 else a9++[((i,j),d)])=a9:=rfl;rw[e2,Ac ha]at this;exact#[.int w,H,I.tok _,k6,this]
 .rw[hn]at k6;cases e:lookD a9 i j with
  |some w=>rw[e]at k6;exact k6.elim
  |none=>
   have e2:sdD a9 i j d=a9++[((i,j),d)]:=by unfold sdD;rw[e];rfl
   have e3:dtiV (sdD a9 i j d)=dtiV a9++[([.inl i,.inl j],.int d)]:=by rw[e2];simp[dtiV]
   obtain⟨o,es,ep,ho,hx,h3,h4,_,h5⟩:=Lk;have new:ObjOk X.prog X.w (upd H a (.dT (dtiV (sdD a9 i j d)))) h' a (.dT (dtiV (sdD a9 i j d))):=by
    refine#[by rw[e3,F9];simp[dtiV];lia,hd,_,?_,o,es,ep,ho,hx,h3,h4,h5];rw[e3];refine KT.keeps (H:=H) (Paired.snoc (a:=(([.inl i,.inl j]:List Key),V.int d)) (b:=(([.inl i,.inl j]:List Key),b,Value.int d t)) u6 #[rfl,f6,#[t,rfl]]) λc ys ec=>?_;rw[aj (vE ec ha (λz=>nomatch z))];exact ec
   exact#[.int d,_,xA I (by rw[ha];exact True.intro) hs #[o,ho] new,#[t,rfl],q d]
section
variable {X:Cx}[J:Jm]{a b c e o f:P3}{ta tb tc te to:TME}{pos apos cpos:R4}{t:TMA}
def mD0:TME:=λ_ M R=>R (.dti []) M
def Ae:ME X (.Dict [] [] pos) mD0:=⟨pe_dnewT.anti λs H Q q=>by
 obtain⟨F,z,M,k,rs,R,h1,h2⟩:=q;intro p hp;have gn:=Grow.new k.fh hp (.dT []);exact h2 _ _ M _ _ gn.toM h1 (rep_dti.mpr #[p,rfl,ax]) (rs.rm.grow gn)⟩
def mDN:TME:=λ_ M R=>∀p,p∉am M->R (.ptr p) ((p,.dti [])::M)
def Af:ME X (.Dict [] [] pos) mDN:=⟨pe_dnewT.anti λs H Q q=>by
 obtain⟨F,z,M,k,rs,R,h1,h2⟩:=q;intro p hp;exact h2 _ _ _ F _ (GrowM.new k.fh hp) (h1 p λz=>rs.rm.here z hp) (rep_ptr.mpr rfl) (rs.rm.new k.fh hp ax)⟩
def kdK(ds:List D)(k:Int->Int->Int->Prop):Prop:=kd2 ds λa b=>kdT a λl=>kd2 l λx y=>kdI x λi=>kdI y λj=>kdI b (k i j)
def kdK.of{ds:List D}{k:Int->Int->Int->Prop}(h:kdK ds k):∃i j x,ds=[.tup [.int i,.int j],.int x]/\k i j x:=by
 obtain⟨a,b,rfl,h2⟩:=kd2.of h;obtain⟨l,rfl,h3⟩:=kdT.of h2;obtain⟨x,y,rfl,h4⟩:=kd2.of h3;obtain⟨i,rfl,h5⟩:=kdI.of h4;obtain⟨j,rfl,h6⟩:=kdI.of h5;obtain⟨v,rfl,h7⟩:=kdI.of h6;exact#[i,j,v,rfl,h7]
def Ag(to:TME)(t:TMA):TME:=λz M R=>to z M λd M1=>match d with|.dti a9=>(t z M1 λds M2=>kdK ds λi j x=>R (.int ((lookD a9 i j).getD x)) M2)|_=>False
def Ah(hu:X.A.units+1<SZ)(ho:ME X o to)(ha:MA X [e,f] t)(b7:autoParam (RZ o "get" X.env (R1 o X.env)=R1 o X.env) zA0)
  (d3:autoParam (zHF X cpos [e,f]) zA0)
  (b_:autoParam ((apos.endLine==cpos.line)=true) zA0) (k_:autoParam (zSE X e [f]) zA0) (c5:autoParam (zPL X cpos [f]) zA0):
  ME X (.Call (.Attribute o "get" apos) [e,f] [] cpos) (Ag to t):=⟨(dP PySem.F.plainAttrs_dict PySem.F.slot_dict_get PySem.F.type_dict_get (Ab hu) ho.out ha.out b7 d3 b_ k_ c5).anti λs H Q h=>by
 obtain⟨F,z,M,k,rs,R,h1,h2⟩:=h;refine#[F,z,M,k,rs,_,h1,λx u M1 F1 H1 g1 hx rx m1=>?_];split at hx
 .rename_i a9;obtain⟨p,rfl,hp⟩:=rep_dti.mp rx;refine#[.inr (.inr (.inl #[rfl,.inr #[_,g1.fh _ _ hp]])),?_];refine#[F1,z,M1,k.growM rs.mb g1,rs.growM k.bh g1 m1,_,hx,λds vs M2 F2 H2 g2 hd rd m2=>?_];obtain⟨i,j,x,rfl,hd⟩:=kdK.of hd
  focus
   obtain⟨v1,r1,rfl,q1,q2⟩:=reps_cons.mp rd;obtain⟨v2,r2,rfl,q3,q4⟩:=reps_cons.mp q2;rw[reps_nil.mp q4,rep_int.mp q3];obtain⟨b,us,rfl,hb,ru⟩:=rep_tupS.mp q1;have NE:us=[.int i,.int j]:=(Reps.ints (ns:=[i,j])).mp ru;subst NE;exact#[p,b,i,j,x,a9,rfl,rfl,g2.fh _ _ (g2.ff _ _ hp),g2.fh _ _ hb,h2 _ _ M2 F2 H2 (g1.trans g2) hd (rep_int.mpr rfl) m2]
 .exact hx.elim⟩
def mDsd(to:TME)(t:TMA):TME:=λz M R=>to z M λd M1=>match d with|.ptr a=>(∃a9,mget M1 a=be (.dti a9))/\(t z M1 λds M2=>kdK ds λi j x=>∃a9,mget M2 a=be (.dti a9)/\a9.length<100000/\∀w,R (.int w) (mput M2 a (.dti (sdD a9 i j x))))|_=>False
def Ai(hu:X.A.units+1<SZ)(ho:ME X o to)(ha:MA X [e,f] t)(b7:autoParam (RZ o "setdefault" X.env (R1 o X.env)=R1 o X.env) zA0)
  (d3:autoParam (zHF X cpos [e,f]) zA0)
  (b_:autoParam ((apos.endLine==cpos.line)=true) zA0) (k_:autoParam (zSE X e [f]) zA0) (c5:autoParam (zPL X cpos [f]) zA0):
  ME X (.Call (.Attribute o "setdefault" apos) [e,f] [] cpos) (mDsd to t):=⟨(dP PySem.F.plainAttrs_dict PySem.F.slot_dict_setdefault PySem.F.type_dict_setdefault (Ad hu) ho.out ha.out b7 d3 b_ k_ c5).anti λs H Q h=>by
 obtain⟨F,z,M,k,rs,R,h1,h2⟩:=h;refine#[F,z,M,k,rs,_,h1,λx u M1 F1 H1 g1 hx rx m1=>?_];split at hx
 .rename_i a;obtain⟨⟨Rz,Nw⟩,hx⟩:=hx;rw[rep_ptr.mp rx];refine#[.inr (.inr (.inl #[rfl,.inr #[_,m1.ok _ _ (bf Nw)]])),?_];refine#[F1,z,M1,k.growM rs.mb g1,rs.growM k.bh g1 m1,_,hx,λds vs M2 F2 H2 g2 hd rd m2=>?_];obtain⟨i,j,x,rfl,a9,hm,hl,hR⟩:=kdK.of hd
  focus
   obtain⟨v1,r1,rfl,q1,q2⟩:=reps_cons.mp rd;obtain⟨v2,r2,rfl,q3,q4⟩:=reps_cons.mp q2;rw[reps_nil.mp q4,rep_int.mp q3];obtain⟨b,us,rfl,hb,ru⟩:=rep_tupS.mp q1;have NE:us=[.int i,.int j]:=(Reps.ints (ns:=[i,j])).mp ru;subst NE;refine#[a,b,i,j,x,a9,rfl,rfl,m2.ok _ _ (bf hm),g2.fh _ _ hb,hl,λw=>?_];exact h2 _ _ _ F2 _ (g1.trans (g2.trans (GrowM.put g2.fh (m2.fr a (bA (bf hm))) hm))) (hR w) (rep_int.mpr rfl) (m2.put hm ax)
 .exact hx.elim⟩
end
section
variable {P:RP}{w:RU}{K:Ex}{mg:Jj->Option KB}{base:Heap}
open Classical in
def Cls.okIM{x qual:Jj}{st:RS}{f C:KF}{fd:R3}{N:List Jj}{p0:Jj}{ps:List Jj}{k:Nat}{S:SiD}(T:Fun K "__init__" qual st f fd)(hb:Binds K fd (p0::ps) [])(F:FnScope N (p0::ps) (ag st))(len:∀ds R,S ds R->ds.length=ps.length)
  (hns:nsIn K Pi x=be (be (.ref C))) (j4:mg x=be (.ref C)) (mk:Mk K C f)
  (a8:∀(cdv:KB) (A:RV) (outer:List SL) (s:KM) (H:Hp) (E:XK) (J:Jm),Room k (A.deeper (R6 qual (ag st) s.heap.objs.size f cdv))->XOkM (cxOf (CX1 P w) P w K mg base N qual (ag st) f cdv A outer s H E).nox->
   ∃t,MSs (cxOf (CX1 P w) P w K mg base N qual (ag st) f cdv A outer s H E).nox (aG st) t/\∀a ds R,(∀z M x fs,¬J.RM z M x fs)->S ds R->t {nx:=λ_ M'=>∃fs,M'=[(a,.ins x fs)]/\R fs,rt:=λ_ _=>False} (startD N (.ptr a::ds)) [(a,.ins x [])]):CalM P w K mg base (k+1) x (p0::ps) S:=by
 refine#[C,f,fd,hns,j4,mk,Fun.okC T F (λvs H Q E h=>?_) (λcdv A outer s H vs Q E hr h=>?_),hb]
 .obtain⟨a,dx,us,H1,F,ds,rfl,_,_,_,_,_,rs,R,h,_⟩:=h;rw[FV,FV,rs.length,len ds R h]
 .obtain⟨a,dx,us,H1,F1,ds,rfl,rfl,ha,n8,j7,fh,rs,R,h,q⟩:=h
  let H:Hp:=upd (upd H1 dx (.own a)) a (.ins C dx [])
  let B:Hp:=λb=>if b=a then B_ else H b
  have Lp:B a=none:=if_pos rfl;have hB:∀{b:KF},b≠a->B b=H b:=λ{b} h=>if_neg h;have l9:∀{b:KF} {o:HO},H1 b=be o->b≠a/\H b=be o:=λ{b o} e=>by
   have n1:b≠a:=bC e ha;exact#[n1,by show upd _ _ _ b=_;rw[aj n1,aj (bC e n8)];exact e]
  letI:Jm:={B:=B,F0:=F1,RX:=λ_ _ _=>False,RM:=λ_ _ _ _=>False}
  have hx:XOkM (cxOf (CX1 P w) P w K mg base N qual (ag st) f cdv A outer s H E).nox:=λσ z M' F' H' s' e C od y fs I kk rr hR er _=>hR.elim;obtain⟨t,ht,hq⟩:=a8 cdv A outer s H E inferInstance hr hx;have Fa:F1 a=none:=fh.free ha;have k0:Kept B F1 F1 H:=⟨λb o e=>by
   by_cases n:b=a
   .rw[n,Lp]at e;cases e
   .rw[hB n]at e;exact e,λb o e=>(l9 (fh b o e)).2,Same.refl F1,λ_ h _=>h,rfl,Same.refl F1,λ_ h _=>h⟩
  have y9:Reps K F1 (.ptr a::ds) (.ref a::us):=reps_cons.mpr #[_,_,rfl,rep_ptr.mpr rfl,rs];have NF:RepM K F1 H [(a,.ins x [])]:=⟨by simp[am],λb o hb=>by
   have e:=FP.mp hb;cases e;exact#[C,dx,[],hns,ax,repf_nil.mpr rfl],λb hb=>by
   have e:b=a:=by simpa[am]using hb
   rw[e];exact Fa⟩
  have r0:RepZ K B F1 H (startD N (.ptr a::ds)) (L2.start N (.ref a::us)) [(a,.ins x [])]:=⟨da y9,kA y9,NF,λb hb=>by
   have e:b=a:=by simpa[am]using hb
   rw[e];exact Lp⟩
  refine#[_,ht.out.nox,F1,F1,_,_,k0,r0,_,hq a ds R (λ_ _ _ _ z=>z) h,#[λz' s' M' F' H' kk hn r=>?_,λd v M' F' H' kk hd rd Nz mb=>hd.elim,λ_ _ _ _ _ _ h _=>h.elim,λ_ _ _ _ _ _ h _=>h.elim]];obtain⟨fs,rfl,hR⟩:=hn;obtain⟨C',Js,ws,f_,d5,rf⟩:=r.rm.ok a _ (FP.mpr rfl);have J0:nsIn K Pi x=be (be (.ref C')):=f_;rw[hns]at J0;cases J0;exact q fs ws Js F' H' ⟨kk.f0,kk.fh,λb o e=>kk.bh b o (by show B b=be o;rw[hB (l9 e).1];exact(l9 e).2),λb h1 h2=>kk.out b h1 (by
   show B b≠B_;cases e:H1 b with
   |none=>exact absurd e h2
   |some o=>rw[hB (l9 e).1,(l9 e).2];exact λz=>nomatch z)⟩ hR d5 (r.rm.fr a (by simp[am])) rf
end
section
variable {P:RP}{w:RU}{K:Ex}{mg:Jj->Option KB}{base:Heap}{n:Nat}{x m:Jj}{ps:List Jj}
variable{S:SpM}
def CalMth.one(h:CalMth P w K mg base n x m ps (lSpM K S)):∀y,y∈[x]->CalMth P w K mg base n y m ps (lSpM K ((λ_=>S) y)):=λy hy=>by
 rw[FP.mp hy];exact h
def sT{f:KF}{fd:R3}{sp:Sp}(h:∀vs H Q E,¬sp vs H Q E):FnOk P w K mg base (CX1 P w) n f fd ps sp:=#[λvs H Q E q=>(h _ _ _ _ q).elim,λA outer s H args us vs Q E _ _ _ _ q=>(h _ _ _ _ q).elim]
def sU(h:∀ds M R RX,¬S ds M R RX):∀vs H Q E,¬lSpM K S vs H Q E:=by
 rintro vs H Q E⟨F,ds,M,_,_,_,R,RX,q,_⟩;exact h ds M R RX q
def CalMth.never{qual:Jj}{st:RS}(T:Txm K x m qual st ps)(h:∀ds M R RX,¬S ds M R RX):CalMth P w K mg base n x m ps (lSpM K S):=by
 obtain⟨C,f,fd,h1,h2,h3,T,hb⟩:=T;exact#[C,f,fd,h1,h2,h3,sT (sU h),hb]
def CalMM.never{st:RS}(T:Tx K mg x st ps)(h:∀ds M R RX,¬S ds M R RX):CalMM P w K mg base n x ps S:=by
 obtain⟨f,fd,T,hb,hm⟩:=T;exact#[f,fd,sT (sU h),hb,T.kp,hm]
end
section
variable {X:Cx}[J:Jm]{a b c e:P3}{ta tb:TME}{pos:R4}
def mUn(r:D->(D->Prop)->Prop)(ta:TME):TME:=λz M R=>ta z M λx M1=>r x λd=>R d M1
end
def kD(S:SpM):SpM:=λds M R RX=>∃M1 M2,M=M1++M2/\S ds M2 (λd M'=>R d (M1++M')) λx fs M'=>RX x fs (M1++M')
def keys_app{M1 M2:MS}:a∈am (M1++M2)↔a∈am M1\/a∈am M2:=by unfold am;rw[Gc,Go]
variable{K:Ex}{vs:List V}
def kE{S:SpM}{Q:VK}{E:XK}(h:lSpM K (kD S) vs H Q E):lSpM K S vs H Q E:=by
 obtain⟨F,ds,M,fh,rs,rm,R,RX,⟨M1,M2,rfl,hS⟩,q,qx⟩:=h;have nd:(am M1++am M2).Nodup:=by have:=rm.nd;unfold am at this ⊢;rw[Gc]at this;exact this
 have NG:∀{a:KF},a∈am M1->a∉am M2:=λ{a} h1 h2=>(GY.mp nd).2.2 a h1 a h2 rfl;have QL:RepM K F H M2:=#[(GY.mp nd).2.1,λa o h=>rm.ok a o (Ge _ h),λa h=>rm.fr a (keys_app.mpr (.inr h))];have up:∀{M':MS} {F' H':Hp},GrowM M2 M' F H F' H'->RepM K F' H' M'->GrowM (M1++M2) (M1++M') F H F' H'/\RepM K F' H' (M1++M'):=λ{M' F' H'} g r=>by
  have Pe:∀{a:KF},a∈am M1->H a≠none:=λ{a} h=>rm.here (keys_app.mpr (.inl h));have NH:∀{a:KF},a∈am M1->a∉am M':=λ{a} h1 h2=>by
   rcases g.ks a h2 with z|z
   .exact NG h1 z
   .exact Pe h1 z
  refine#[#[g.ff,g.fh,λb o nb e=>g.hh b o (λz=>nb (keys_app.mpr (.inr z))) e,λb nb h1 h2=>g.out b (λz=>nb (keys_app.mpr (.inr z))) h1 h2,λb hb=>?_],#[?_,λa o h=>?_,λa h=>?_]]
  .rcases keys_app.mp hb with z|z
   .exact .inl (keys_app.mpr (.inl z))
   .exact(g.ks b z).imp (λz=>keys_app.mpr (.inr z)) id
  .unfold am;rw[Gc];exact GY.mpr #[(GY.mp nd).1,r.nd,λa h1 b h2 e=>NH h1 (e ▸ h2)]
  .rcases Go.mp h with z|z
   .have ka:a∈am M1:=bA z;exact(rm.ok a o (G8 _ z)).mono g.ff λo e=>g.hh a o (NG ka) e
   .exact r.ok a o z
  .rcases keys_app.mp h with z|z
   .exact g.out a (NG z) (rm.fr a (keys_app.mpr (.inl z))) (Pe z)
   .exact r.fr a z
 exact#[F,ds,M2,fh,rs,QL,_,_,hS,λd v M' F' H' g hd rd m'=>q d v _ F' H' (up g m').1 hd rd (up g m').2,λx fs C od M' F' H' g hR er m'=>qx x fs C od _ F' H' (up g m').1 hR er (up g m').2]
section
variable {P:RP}{w:RU}{K:Ex}{mg:Jj->Option KB}{base:Heap}{n:Nat}{x m:Jj}{ps:List Jj}{S:SpM}
def CalMM.frame(C:CalMM P w K mg base n x ps S):CalMM P w K mg base n x ps (kD S):=C.imp λ_ _ _ _ h=>kE h
def CalMth.frame(C:CalMth P w K mg base n x m ps (lSpM K S)):CalMth P w K mg base n x m ps (lSpM K (kD S)):=C.imp λ_ _ _ _ h=>kE h
end
def nilX(S:SpX):SpM:=λds M R RX=>M=[]/\∃(R0:D->Prop) (Jy:XD),S ds R0 Jy/\(∀d M',R0 d->R d M')/\∀x fs M',Jy x fs->RX x fs M'
def CalMM.nilX{P:RP}{w:RU}{mg:Jj->Option KB}{base:Heap}{n:Nat}{x:Jj}{ps:List Jj}{S:SpX}(C:CalMM P w K mg base n x ps (nilX S)):CalX P w K mg base n x ps S:=C.toX λ_ R RX h=>#[rfl,R,RX,h,λ_ _ h=>h,λ_ _ _ h=>h]
mutual
def cb:D->Bool
 |.non=>true|.bl _=>true|.int _=>true|.str _=>true|.ptr _=>true
 |.tup ds=>flats ds
 |.lst ds=>flats ds
 |_=>false
def flats:List D->Bool
 |[]=>true
 |d::ds=>cb d&&flats ds
end
def cutF(F:Hp)(a:KF):Hp:=λb=>if b=a then B_ else F b
variable{F:Hp}
def fD{b:KF}(h:b≠a):cutF F a b=F b:=if_neg h
mutual
def Rep.cutF{K:Ex}{F:Hp}{a:KF}{C:KF}{dx:KF}{ws:List (Jj×V)}(ea:F a=be (.ins C dx ws)):∀(d:D) (v:V),cb d=true->Rep K F d v->Rep K (My.cutF F a) d v
 |.non,v,_,h=>by unfold Rep at h ⊢;exact h
 |.bl b,v,_,h=>by unfold Rep at h ⊢;exact h
 |.int b,v,_,h=>by unfold Rep at h ⊢;exact h
 |.str b,v,_,h=>by unfold Rep at h ⊢;exact h
 |.ptr b,v,_,h=>by unfold Rep at h ⊢;exact h
 |.tup ds,v,n,h=>by
  unfold Rep at h ⊢;obtain⟨p,vs,e,q,r⟩:=h;have ne:p≠a:=λz=>by rw[z,ea]at q;cases q
  exact#[p,vs,e,by rw[fD ne];exact q,Reps.cutF ea ds vs (by unfold cb at n;exact n) r]
 |.lst ds,v,n,h=>by
  unfold Rep at h ⊢;obtain⟨p,vs,e,q,r⟩:=h;have ne:p≠a:=λz=>by rw[z,ea]at q;cases q
  exact#[p,vs,e,by rw[fD ne];exact q,Reps.cutF ea ds vs (by unfold cb at n;exact n) r]
 |.rol _,_,n,_=>by unfold cb at n;cases n
 |.obj _ _,_,n,_=>by unfold cb at n;cases n
 |.exc _ _,_,n,_=>by unfold cb at n;cases n
 |.own _,_,n,_=>by unfold cb at n;cases n
 |.dti _,_,n,_=>by unfold cb at n;cases n
def Reps.cutF{K:Ex}{F:Hp}{a:KF}{C:KF}{dx:KF}{ws:List (Jj×V)}(ea:F a=be (.ins C dx ws)):∀(ds:List D) (vs:List V),flats ds=true->Reps K F ds vs->Reps K (My.cutF F a) ds vs
 |[],vs,_,h=>by unfold Reps at h ⊢;exact h
 |d::ds,vs,n,h=>by
  unfold flats at n;rw[Gj]at n;unfold Reps at h ⊢;obtain⟨v,r,e,q1,q2⟩:=h;exact#[v,r,e,Rep.cutF ea d v n.1 q1,Reps.cutF ea ds r n.2 q2]
end
def lendD(a:KF)(o:D)(d:D):D:=match d with|.ptr b=>if b=a then o else .ptr b|d=>d
def lend(S:SpX):SpM:=λds M R _=>∃a x fs,mget M a=be (.ins x fs)/\S (ds.map (lendD a (.obj x fs))) (λd=>cb d=true/\R d M) λ_ _=>False
def Aj{F2:Hp}{o d:D}{v:V}(g:Same F F2)(ro:Rep K F2 o (.ref a))(h:Rep K F d v):Rep K F2 (lendD a o d) v:=by
 unfold lendD;split
 .rename_i b;split
  .rename_i e;rw[rep_ptr.mp h,e];exact ro
  .exact rep_ptr.mpr (rep_ptr.mp h)
 .exact h.mono g
def Ak{F2:Hp}{o:D}(g:Same F F2)(ro:Rep K F2 o (.ref a)){ds:List D}:∀{vs:List V},Reps K F ds vs->Reps K F2 (ds.map (lendD a o)) vs:=by
 induction ds with
 |nil=>intro vs h;rw[reps_nil.mp h];exact reps_nil.mpr rfl
 |cons d ds ih=>
  intro vs h;obtain⟨v,r,rfl,q1,q2⟩:=reps_cons.mp h;exact reps_cons.mpr #[v,r,rfl,Aj g ro q1,ih q2]
def Al{S:SpX}{Q:VK}{E:XK}(h:lSpM K (lend S) vs H Q E):lSpX K S vs H Q E:=by
 obtain⟨F,ds,M,fh,rs,rm,R,RX,⟨a,x,fs,hm,hS⟩,q,qx⟩:=h;have ma:=bf hm;obtain⟨C,dx,ws,n,hH,rf⟩:=rm.ok _ _ ma;have fa:=rm.fr a (bA ma);have g:Same F (upd F a (.ins C dx ws)):=aS fa _;have g2:Same (upd F a (.ins C dx ws)) H:=λb o e=>by
  by_cases hb:b=a
  .subst hb;rw[ax]at e;cases e;exact hH
  .rw[aj hb]at e;exact fh b o e
 have ro:Rep K (upd F a (.ins C dx ws)) (.obj x fs) (.ref a):=by
  unfold Rep;exact#[a,C,dx,ws,rfl,n,ax,RepF.mono g fs ws rf]
 refine#[upd F a (.ins C dx ws),_,g2,Ak g ro rs,_,_,hS,λd v F' H' g' hd rd=>?_,λ_ _ _ _ _ _ _ z=>z.elim];have ea:F' a=be (.ins C dx ws):=g'.ff a _ ax;have ff:Same F (cutF F' a):=λb o e=>by
  have ne:b≠a:=λz=>by rw[z,fa]at e;cases e
  rw[fD ne];exact g'.ff b o (by rw[aj ne];exact e)
 have QM:Same (cutF F' a) H':=λb o e=>by
  by_cases hb:b=a
  .subst hb;unfold cutF at e;rw[if_pos rfl]at e;cases e
  .rw[fD hb]at e;exact g'.fh b o e
 have out:∀b,F b=B_->H b≠B_->cutF F' a b=none:=λb h1 h2=>by
  by_cases hb:b=a
  .subst hb;exact if_pos rfl
  .rw[fD hb];exact g'.out b (by rw[aj hb];exact h1) h2
 exact q d v M (cutF F' a) H' #[ff,QM,λb o _ e=>g'.hh b o e,λb _ h1 h2=>out b h1 h2,λb z=>.inl z] hd.2 (Rep.cutF ea d v hd.1 rd)
  #[rm.nd,λb o hb=>(rm.ok b o hb).mono ff λo e=>g'.hh b o e,λb hb=>out b (rm.fr b hb) (rm.here hb)]
def NoOwn(z:SD):Prop:=∀(i:Nat) ds,z[i]?≠be (be (.own ds))
def ofB(B H:Hp)(M:MS):Hp:=λb=>if b∈am M then H b else B b
def jOf(B H F:Hp)(M:MS):Jx:=#[ofB B H M,F,λ_ _ _=>False]
def endD(E:EndsM)(M:MS):EndsD:=#[λz=>E.nx z M/\NoOwn z,λd=>E.rt d M,λz=>E.bk z M/\NoOwn z,λz=>E.ct z M/\NoOwn z]
def mPS(t:TSD):TMS:=λE z M=>t (endD E M) z
section
variable {X:Cx}[J:Jm]
variable{B H:Hp}{M:MS}
def kF{b:KF}(h:b∈am M):ofB B H M b=H b:=if_pos h
def kG{b:KF}(h:b∉am M):ofB B H M b=B b:=if_neg h
variable{K:Ex}{F0 F:Hp}{z:SD}{s:L2.St}
def cR{F' H':Hp}(k:Kept J.B F0 F H)(rz:RepZ K J.B F H z s M)(k':@Kept (jOf J.B H F M) (ofB J.B H M) F F' H'):Kept J.B F0 F' H'/\RepM K F' H' M:=by
 have nk:∀b,J.B b≠B_->b∉am M:=λb e z=>e (rz.mb b z);obtain⟨bh,fh,f0,out,_,_,_⟩:=k';refine#[#[λb o e=>?_,fh,k.f0.trans f0,λb h1 h2=>?_,k.eb,k.jf,k.jo],rz.rm.nd,λb o hb=>(rz.rm.ok b o hb).mono f0 λo e=>?_,λb hb=>?_]
 .exact bh b o (by rw[kG (nk b (by rw[e];exact λz=>nomatch z))];exact e)
 .exact out b (k.out b h1 h2) (by rw[kG (nk b h2)];exact h2)
 .exact bh b o (by rw[kF (bA hb)];exact e)
 .exact out b (rz.rm.fr b hb) (by rw[kF hb];exact rz.rm.here hb)
def fE{B':Hp}(r:RepS K B F H z s)(no:NoOwn z):RepS K B' F H z s:=#[r.len,r.val,λi ds e=>absurd e (no i ds),r.apart]
def sV(k:Kept J.B F0 F H):@Kept (jOf J.B H F M) (ofB J.B H M) F F H:=
 @Kept.mk (jOf J.B H F M) _ _ _ _ (λb o e=>by
  by_cases hb:b∈am M
  .rw[kF hb]at e;exact e
  .rw[kG hb]at e;exact k.bh b o e) k.fh (Same.refl F) (λ_ h _=>h) rfl (Same.refl F) (λ_ h _=>h)
def sW{ED:EndsM}{D:Ends}(k:Kept J.B F0 F H)(rz:RepZ K J.B F H z s M)(e:EndsOkM K F0 ED D):@EndsOk (jOf J.B H F M) K (ofB J.B H M) F (endD ED M) D:=
 @EndsOk.mk (jOf J.B H F M) _ _ _ _ _ (λz' s' F' H' k' hz r'=>e.nx z' s' M F' H' (cR k rz k').1 hz.1 #[fE r' hz.2,hz.2,(cR k rz k').2,rz.mb])
  (λd v F' H' k' hd rd=>e.rt d v M F' H' (cR k rz k').1 hd rd (cR k rz k').2 rz.mb)
  (λz' s' F' H' k' hz r'=>e.bk z' s' M F' H' (cR k rz k').1 hz.1 #[fE r' hz.2,hz.2,(cR k rz k').2,rz.mb])
  (λz' s' F' H' k' hz r'=>e.ct z' s' M F' H' (cR k rz k').1 hz.1 #[fE r' hz.2,hz.2,(cR k rz k').2,rz.mb])
def sX{st:RS}{t:TSD}(h:∀J':Jx,@WDS X J' st t):MSt X st (mPS t):=⟨λpins s σ H D I q=>by
 obtain⟨F0,F,z,M,k,rz,ED,ht,e⟩:=q;exact @WDS.out X (jOf J.B H F M) st t (h _) pins s σ H D I #[ofB J.B H M,F,F,z,sV k,fE rz.rs rz.no,_,ht,sW k rz e]⟩
def mTry(tb:Jm->TMS)(th:TH):TMS:=λE z M=>∃RM:SD->MS->XD,(∀J':Jm,J'.RM=RM->tb J' E z M)/\∀z' M' x fs,RM z' M' x fs->th x fs (endD E M') z'
def jTry(B F0:Hp)(RM:SD->MS->XD):Jm:={B:=B,F0:=F0,RX:=λ_ _ _=>False,RM:=RM}
variable{RM:SD->MS->XD}
def Kept.reM(k:Kept J.B F0 F H):@Kept (jTry J.B F0 RM).toJx J.B F0 F H:=@Kept.mk (jTry J.B F0 RM).toJx J.B F0 F H k.bh k.fh k.f0 k.out rfl (Same.refl F0) (λ_ h _=>h)
def Kept.unM{F' H':Hp}(k:Kept J.B F0 F H)(k':@Kept (jTry J.B F0 RM).toJx J.B F0 F' H'):Kept J.B F0 F' H':=by
 obtain⟨a,b,c,d,_,_,_⟩:=k';exact#[a,b,c,d,k.eb,k.jf,k.jo]
def kH{body:List RS}{h₀:Sn}{hs:List Sn}{pos:R4}{tb:Jm->TMS}{th:TH}
  (hb:∀(pn:List (KF×R_)) (xe:KB->KM->Prop) (J':Jm),Se (RR X.prog X.w) X.A X.env xe->@XOkM (X.tried pn xe) J'->@MSs (X.tried pn xe) J' body (tb J'))
  (hh:∀J':Jx,@WDH X J' (h₀::hs) th) (d4:autoParam (X.ex=[]) zA0) (y7:autoParam (X.stack=X.env::X.outer) zA0) (k9:autoParam (X.env.frame=be X.env.locals) zA0):MSt X (.Try body (h₀::hs) [] [] pos) (mTry tb th):=⟨by
 intro pins s σ H D I h;obtain⟨F0,F,z,M,k,rz,ED,⟨RM,h1,h2⟩,ee⟩:=h;have ok:=I.ok;have hx:@XOkM (X.tried (X.pn++pins) (λe s₁=>RT (RR X.prog X.w) X.A (SS e X.env) (λ_ s₂=>RT (RR X.prog X.w) X.A (S9 e B_) (λ_ s₃=>RT (RR X.prog X.w) X.A (Tn e X.env (h₀::hs)) (SP X pins D) X.xe s₃) X.xe s₂) X.xe s₁)) (jTry J.B F0 RM):=by
  intro σ' z' M' F' H' s' e C od x fs I1 kk rr hR er hd;have k2:Kept J.B F0 F' H':=Kept.unM k kk;exact zb (Inv.untried ok I1) hd d4 y7 k9 λs4 T2 I4 hl=>@WDH.out X (jOf J.B H' F' M') _ _ (hh _) pins s4 σ' H' D e C od T2 x fs (ofB J.B H' M') F' F' z' (endD ED M') I4 hl (sV k2) (fE rr.rs rr.no) er (h2 z' M' x fs hR) (sW k2 rr ee)
 refine wpAny_Try_except (R7 (@MSs.out _ (jTry J.B F0 RM) _ _ (hb (X.pn++pins) _ (jTry J.B F0 RM) PassesOwn.looking hx) [] s σ H D (Inv.tried I) ?_) (λf s1 q=>?_) λe s1 q=>q)
 .exact#[F0,F,z,M,Kept.reM k,rz,ED,h1 (jTry J.B F0 RM) rfl,@EndsOkM.mk (jTry J.B F0 RM) _ _ _ _ (λz' s' M' F' H' k'=>ee.nx z' s' M' F' H' (Kept.unM k k')) (λd v M' F' H' k'=>ee.rt d v M' F' H' (Kept.unM k k')) (λz' s' M' F' H' k'=>ee.bk z' s' M' F' H' (Kept.unM k k')) (λz' s' M' F' H' k'=>ee.ct z' s' M' F' H' (Kept.unM k k'))]
 .have q:=SP.untried ok q;cases f with
  |next=>exact SJ q
  |ret v=>exact q
  |brk=>exact q
  |cont=>exact q⟩
end
end My
namespace My
section
variable {K:Ex}{h:Heap}{mg:Jj->Option KB}{x y m q f:Jj}{st:RS}{ps:List Jj}
abbrev NsC(K:Ex)(x:Jj)(C:KF):Prop:=nsIn K Pi x=be (be (.ref C))
variable{C:KF}
def NsC.uniq{D:KF}(a:NsC K x C)(b:NsC K x D):C=D:=by
 have e:=a.symm.trans b;cases e;rfl
abbrev BindA(x q:Jj)(st:RS)(ps:List Jj):Prop:=∀(kV doc pm:KB) (an:Option KF) (cdv ct:KB) (us:List KB),us.length=ps.length->SH (fnOf x q (bo st) (aG st) (ag st) .none kV doc pm an cdv ct) #[us,[]]=pure (ps.zip us)
def FnIn(K:Ex)(x:Jj)(st:RS):Prop:=∃f fd,NsC K x f/\Fun K x x st f fd
variable{oc kV dc pm cd ct:KB}{od an:Option KF}{sl:Array (Option KB)}
def fnIn_mk{f:KF}(a:nsIn K Pi x=be (be (.ref f)))(l:K.lookup f=be #[oc,od,.func (fnOf x x (bo st) (aG st) (ag st) .none kV dc pm an cd ct),sl])(c:codeIn K cd x=true)(k:keepIn K (.ref f)=true):FnIn K x st:=#[f,_,a,gf l c k]
def FnIn.tx(T:FnIn K x st)(X:K.In h)(G:h.Ns Pi mg)(b:BindA x x st ps):Tx K mg x st ps:=by
 obtain⟨f,fd,a,F⟩:=T;exact#[f,fd,F,F.binds b,mg_of X G a]
def FnIn.law{p:Jj}(T:FnIn K x st)(X:K.In h)(G:h.Ns Pi mg){fa:KF}(Ke:mg x=be (.ref fa))(b:∀(kV doc pm:KB) (an:Option KF) (cdv ct v:KB),SH (fnOf x x (bo st) (aG st) (ag st) .none kV doc pm an cdv ct) #[[v],[]]=pure [(p,v)]):∃fd,(∀(s:KM) (v:KB),SW s fd #[[v],[]] [(p,v)])/\Fun K x x st fa fd:=by
 obtain⟨f,fd,a,F⟩:=T;have e:=Ke.symm.trans (mg_of X G a);cases e;refine#[fd,λs v=>?_,F];obtain⟨oc,od,kV,doc,pm,an,cdv,ct,osl,rfl,lk,e_⟩:=F.ex;exact .of_eq (b _ _ _ _ _ _ v)
variable{us:List KB}
def bc{x:Jj}{xs:List Jj}(h:us.length=(x::xs).length):∃u t,us=u::t/\t.length=xs.length:=by
 cases us with
 |nil=>cases h
 |cons u t=>exact#[u,t,rfl,Nat.succ.inj h]
def len_0(h:us.length=([]:List Jj).length):us=[]:=GZ h
variable{x0:Jj}
def Am(b:∀(kV doc pm:KB) (an:Option KF) (cdv ct u0:KB),SH (fnOf x q (bo st) (aG st) (ag st) .none kV doc pm an cdv ct) #[[u0],[]]=pure [(x0,u0)]):BindA x q st [x0]:=λkV doc pm an cdv ct us hl=>by
 obtain⟨u0,t0,rfl,h0⟩:=bc hl;cases len_0 h0;exact b kV doc pm an cdv ct u0
variable{x1:Jj}
def bind2(b:∀(kV doc pm:KB) (an:Option KF) (cdv ct u0 u1:KB),SH (fnOf x q (bo st) (aG st) (ag st) .none kV doc pm an cdv ct) #[[u0,u1],[]]=pure [(x0,u0),(x1,u1)]):BindA x q st [x0,x1]:=λkV doc pm an cdv ct us hl=>by
 obtain⟨u0,t0,rfl,h0⟩:=bc hl;obtain⟨u1,t1,rfl,h1⟩:=bc h0;cases len_0 h1;exact b kV doc pm an cdv ct u0 u1
variable{x2:Jj}
def bind3(b:∀(kV doc pm:KB) (an:Option KF) (cdv ct u0 u1 u2:KB),SH (fnOf x q (bo st) (aG st) (ag st) .none kV doc pm an cdv ct) #[[u0,u1,u2],[]]=pure [(x0,u0),(x1,u1),(x2,u2)]):BindA x q st [x0,x1,x2]:=λkV doc pm an cdv ct us hl=>by
 obtain⟨u0,t0,rfl,h0⟩:=bc hl;obtain⟨u1,t1,rfl,h1⟩:=bc h0;obtain⟨u2,t2,rfl,h2⟩:=bc h1;cases len_0 h2;exact b kV doc pm an cdv ct u0 u1 u2
variable{x3:Jj}
def bind4(b:∀(kV doc pm:KB) (an:Option KF) (cdv ct u0 u1 u2 u3:KB),SH (fnOf x q (bo st) (aG st) (ag st) .none kV doc pm an cdv ct) #[[u0,u1,u2,u3],[]]=pure [(x0,u0),(x1,u1),(x2,u2),(x3,u3)]):BindA x q st [x0,x1,x2,x3]:=λkV doc pm an cdv ct us hl=>by
 obtain⟨u0,t0,rfl,h0⟩:=bc hl;obtain⟨u1,t1,rfl,h1⟩:=bc h0;obtain⟨u2,t2,rfl,h2⟩:=bc h1;obtain⟨u3,t3,rfl,h3⟩:=bc h2;cases len_0 h3;exact b kV doc pm an cdv ct u0 u1 u2 u3
def bind5{x4:Jj}(b:∀(kV doc pm:KB) (an:Option KF) (cdv ct u0 u1 u2 u3 u4:KB),SH (fnOf x q (bo st) (aG st) (ag st) .none kV doc pm an cdv ct) #[[u0,u1,u2,u3,u4],[]]=pure [(x0,u0),(x1,u1),(x2,u2),(x3,u3),(x4,u4)]):BindA x q st [x0,x1,x2,x3,x4]:=λkV doc pm an cdv ct us hl=>by
 obtain⟨u0,t0,rfl,h0⟩:=bc hl;obtain⟨u1,t1,rfl,h1⟩:=bc h0;obtain⟨u2,t2,rfl,h2⟩:=bc h1;obtain⟨u3,t3,rfl,h3⟩:=bc h2;obtain⟨u4,t4,rfl,h4⟩:=bc h3;cases len_0 h4;exact b kV doc pm an cdv ct u0 u1 u2 u3 u4
def bind6{x4 x5:Jj}(b:∀(kV doc pm:KB) (an:Option KF) (cdv ct u0 u1 u2 u3 u4 u5:KB),SH (fnOf x q (bo st) (aG st) (ag st) .none kV doc pm an cdv ct) #[[u0,u1,u2,u3,u4,u5],[]]=pure [(x0,u0),(x1,u1),(x2,u2),(x3,u3),(x4,u4),(x5,u5)]):BindA x q st [x0,x1,x2,x3,x4,x5]:=λkV doc pm an cdv ct us hl=>by
 obtain⟨u0,t0,rfl,h0⟩:=bc hl;obtain⟨u1,t1,rfl,h1⟩:=bc h0;obtain⟨u2,t2,rfl,h2⟩:=bc h1;obtain⟨u3,t3,rfl,h3⟩:=bc h2;obtain⟨u4,t4,rfl,h4⟩:=bc h3;obtain⟨u5,t5,rfl,h5⟩:=bc h4;cases len_0 h5;exact b kV doc pm an cdv ct u0 u1 u2 u3 u4 u5
structure ClF(K:Ex)(x:Str)(C:KF):Prop where
 ns:NsC K x C
 cl:Cls K C
 ha:FS K (.ref C) "__class__"=be (be (.builtin "object.__class__"))
 hn:GL K (.builtin "object.__class__") "__get__"=be (be (.builtin "getset_descriptor.__get__"))
 ht:Ho K (.builtin "object.__class__")=be true
 hm:Gx K C (.type "object")=be true
def ClIn(K:Ex)(x:Jj):Prop:=∃C,ClF K x C
def clIn_mk(a:nsIn K Pi x=be (be (.ref C)))(pg:plainGet K C Str.empty=true)(hd:hasDictIn K C=true)(po:plainOver K C=true)(sa:FS K (.ref C) "__setattr__"=be (be (.builtin "object.__setattr__")))
  (ha:FS K (.ref C) "__class__"=be (be (.builtin "object.__class__"))) (hn:GL K (.builtin "object.__class__") "__get__"=be (be (.builtin "getset_descriptor.__get__"))) (ht:Ho K (.builtin "object.__class__")=be true) (hm:Gx K C (.type "object")=be true):ClIn K x:=#[C,a,#[pg,hd,po,sa],ha,hn,ht,hm]
def NoIn(K:Ex)(x f:Jj):Prop:=∃C,NsC K x C/\FS K (.ref C) f=be B_
def noIn_mk(a:nsIn K Pi x=be (be (.ref C)))(b:FS K (.ref C) f=be B_):NoIn K x f:=#[C,a,b]
def ClIn.a(c:ClIn K x)(n:NoIn K x f):ClsA K x f:=by
 obtain⟨C,k⟩:=c;obtain⟨D,a,b⟩:=n;cases NsC.uniq k.ns a;exact#[C,a,k.cl,b]
def NoIn.all(n:NoIn K x f):∀C,nsIn K Pi x=be (be (.ref C))->FS K (.ref C) f=be none:=λC hC=>by
 obtain⟨D,a,b⟩:=n;cases NsC.uniq hC a;exact b
def MtIn(K:Ex)(x m q:Jj)(st:RS):Prop:=∃C f fd,NsC K x C/\Meth K C m f/\Fun K m q st f fd
def mtIn_mk{f:KF}(a:nsIn K Pi x=be (be (.ref C)))(b:FS K (.ref C) m=be (be (.ref f)))(i:isFn K (.ref f)=true)(l:K.lookup f=be #[oc,od,.func (fnOf m q (bo st) (aG st) (ag st) .none kV dc pm an cd ct),sl])(c:codeIn K cd q=true)(k:keepIn K (.ref f)=true):MtIn K x m q st:=#[C,f,_,a,#[b,i,k],gf l c k]
def MtIn.txm(T:MtIn K x m q st)(c:ClIn K x)(b:BindA m q st ps):Txm K x m q st ps:=by
 obtain⟨C,k⟩:=c;obtain⟨D,f,fd,a,mt,F⟩:=T;cases NsC.uniq k.ns a;exact#[C,f,fd,a,k.cl,mt,F,F.binds b]
def InIn(K:Ex)(x q:Jj)(st:RS):Prop:=∃C f fd,NsC K x C/\Mk K C f/\Fun K "__init__" q st f fd
def inIn_mk{f:KF}(a:nsIn K Pi x=be (be (.ref C)))(mk:makesIn K C=true)(b:FS K (.ref C) "__init__"=be (be (.ref f)))(i:isFn K (.ref f)=true)(kp:keepIn K (.ref C)=true)(l:K.lookup f=be #[oc,od,.func (fnOf "__init__" q (bo st) (aG st) (ag st) .none kV dc pm an cd ct),sl])(c:codeIn K cd q=true)(k:keepIn K (.ref f)=true):InIn K x q st:=#[C,f,_,a,#[mk,b,i,kp],gf l c k]
def Txi(K:Ex)(mg:Jj->Option KB)(x q:Jj)(st:RS)(ps:List Jj):Prop:=∃C f fd,NsC K x C/\mg x=be (.ref C)/\Mk K C f/\Fun K "__init__" q st f fd/\Binds K fd ps []
def InIn.txi(T:InIn K x q st)(X:K.In h)(G:h.Ns Pi mg)(b:BindA "__init__" q st ps):Txi K mg x q st ps:=by
 obtain⟨C,f,fd,a,mk,F⟩:=T;exact#[C,f,fd,a,mg_of X G a,mk,F,F.binds b]
def CiIn(K:Ex)(x:Jj)(i:Int):Prop:=∃t,nsIn K Pi x=be (be (.int i t))
def CsIn(K:Ex)(x y:Jj):Prop:=∃t,nsIn K Pi x=be (be (.str y t))
def ciIn_mk{i:Int}{t:Ub}(a:nsIn K Pi x=be (be (.int i t))):CiIn K x i:=#[t,a]
def csIn_mk{t:Ub}(a:nsIn K Pi x=be (be (.str y t))):CsIn K x y:=#[t,a]
def CiIn.g{i:Int}(c:CiIn K x i)(X:K.In h)(G:h.Ns Pi mg):∃t,mg x=be (.int i t):=let ⟨t,a⟩:=c;#[t,mg_of X G a]
def CsIn.g(c:CsIn K x y)(X:K.In h)(G:h.Ns Pi mg):∃t,mg x=be (.str y t):=let ⟨t,a⟩:=c;#[t,mg_of X G a]
def NnIn(K:Ex)(x:Jj):Prop:=nsIn K Pi x=be B_
def nnIn_mk(a:nsIn K Pi x=be B_):NnIn K x:=a
structure ErF(K:Ex)(x:Str)(bm:List KB)(C N:KF):Prop where
 ns:NsC K x C
 kp:keepIn K (.ref C)=true
 ob:∃nm q bs sn sub ab col dd k0 k1 k2 k3 k5,K.lookup C=be (Sf nm q C N bs bm true sn sub ab col dd k0 k1 k2 k3 k5 "ValueError.__new__")
structure ErN(K:Ex)(N:KF):Prop where
 ok:nsOkIn K N=true
 no:nsIn K N "__init__"=be B_
def EbIn(K:Ex):Prop:=∃C N,ErF K "MotifError" Exc.veLine C N/\ErN K N
def EdIn(K:Ex)(x:Jj)(C N:KF):Prop:=∃B,NsC K "MotifError" B/\ErF K x (.ref B::Exc.veLine) C N
def E0In(K:Ex)(x:Jj):Prop:=∃C N,EdIn K x C N/\ErN K N
def E1In(K:Ex)(x q:Jj)(st:RS):Prop:=∃C N f fd,EdIn K x C N/\FS K (.ref C) "__init__"=be (be (.ref f))/\isFn K (.ref f)=true/\Fun K "__init__" q st f fd
def EaIn(K:Ex)(x:Jj):Prop:=∃C,NsC K x C/\FS K (.ref C) "__setattr__"=be (be (.builtin "object.__setattr__"))
def EgIn(K:Ex)(x:Jj):Prop:=∃C,NsC K x C/\FS K (.ref C) "__getattribute__"=be (be (.builtin "BaseException.__getattribute__"))/\FS K (.ref C) "__getattr__"=be B_
def EiIn(K:Ex)(x:Jj):Prop:=∃M,NsC K x M/\readsIn K M (.type "type")=true/\findCls K (.ref M) (.type "type") "__init__"=be (.val (.builtin "ValueError.__init__"))/\GL K (.ref M) "__getattribute__"=be (be (.builtin "type.__getattribute__"))
def EmIn(K:Ex)(x y:Jj):Prop:=∃C D,NsC K x C/\NsC K y D/\Gx K C (.ref D)=be (subE x y)
section
variable {B C D N:KF}{nm qn:Jj}{bs:List KB}{sn:List Jj}{sub:List KB}{ab:Bool}{col:Option Bool}{dd:Option KF}{k0 k1 k2 k3 k5:Option KB}{nc:KB}{nd:Option KF}{ne:Array DictEntry}{np:Nat}{nl:Array (Option KB)}
def ebIn_mk(a:nsIn K Pi "MotifError"=be (be (.ref C)))(kp:keepIn K (.ref C)=true)(o:K.lookup C=be (Sf nm qn C N bs Exc.veLine true sn sub ab col dd k0 k1 k2 k3 k5 "ValueError.__new__"))(nk:K.lookup N=be #[nc,nd,.dict ne np,nl])(al:ne.toList.all (λe=>match e.key with|.str _ _=>true|_=>false)=true)(ni:nsIn K N "__init__"=be B_):EbIn K:=#[C,N,#[a,kp,_,_,_,_,_,_,_,_,_,_,_,_,_,o],sC nk al,ni]
def e0In_mk(b:nsIn K Pi "MotifError"=be (be (.ref B)))(a:nsIn K Pi x=be (be (.ref C)))(kp:keepIn K (.ref C)=true)(o:K.lookup C=be (Sf nm qn C N bs (.ref B::Exc.veLine) true sn sub ab col dd k0 k1 k2 k3 k5 "ValueError.__new__"))(nk:K.lookup N=be #[nc,nd,.dict ne np,nl])(al:ne.toList.all (λe=>match e.key with|.str _ _=>true|_=>false)=true)(ni:nsIn K N "__init__"=be B_):E0In K x:=#[C,N,#[B,b,a,kp,_,_,_,_,_,_,_,_,_,_,_,_,_,o],sC nk al,ni]
def e1In_mk{f:KF}{oc:KB}{od an:Option KF}{sl:Array (Option KB)}{kV dc pm cd ct:KB}(b:nsIn K Pi "MotifError"=be (be (.ref B)))(a:nsIn K Pi x=be (be (.ref C)))(kp:keepIn K (.ref C)=true)(o:K.lookup C=be (Sf nm qn C N bs (.ref B::Exc.veLine) true sn sub ab col dd k0 k1 k2 k3 k5 "ValueError.__new__"))
  (j:FS K (.ref C) "__init__"=be (be (.ref f))) (i:isFn K (.ref f)=true) (l:K.lookup f=be #[oc,od,.func (fnOf "__init__" q (bo st) (aG st) (ag st) .none kV dc pm an cd ct),sl]) (c:codeIn K cd q=true) (k:keepIn K (.ref f)=true):E1In K x q st:=#[C,N,f,_,#[B,b,a,kp,_,_,_,_,_,_,_,_,_,_,_,_,_,o],j,i,gf l c k]
def eaIn_mk(a:nsIn K Pi x=be (be (.ref C)))(b:FS K (.ref C) "__setattr__"=be (be (.builtin "object.__setattr__"))):EaIn K x:=#[C,a,b]
def egIn_mk(a:nsIn K Pi x=be (be (.ref C)))(b:FS K (.ref C) "__getattribute__"=be (be (.builtin "BaseException.__getattribute__")))(c:FS K (.ref C) "__getattr__"=be B_):EgIn K x:=#[C,a,b,c]
def eiIn_mk(a:nsIn K Pi x=be (be (.ref C)))(b:readsIn K C (.type "type")=true)(c:findCls K (.ref C) (.type "type") "__init__"=be (.val (.builtin "ValueError.__init__")))(d:GL K (.ref C) "__getattribute__"=be (be (.builtin "type.__getattribute__"))):EiIn K x:=#[C,a,b,c,d]
def emIn_mkT(e:subE x y=true)(a:nsIn K Pi x=be (be (.ref C)))(c:nsIn K Pi y=be (be (.ref D)))(d:Gx K C (.ref D)=be true):EmIn K x y:=#[C,D,a,c,e ▸ d]
def emIn_mkF(e:subE x y=false)(a:nsIn K Pi x=be (be (.ref C)))(c:nsIn K Pi y=be (be (.ref D)))(d:Gx K C (.ref D)=be false):EmIn K x y:=#[C,D,a,c,e ▸ d]
end
def EdIn.k{N:KF}(e:EdIn K x C N)(b:EbIn K)(X:K.In h)(G:h.Ns Pi mg):∃bm,ErrK K mg x C N bm:=by
 obtain⟨B,hB,k⟩:=e;obtain⟨B',N',kb,n⟩:=b;cases NsC.uniq kb.ns hB;obtain⟨_,_,_,_,_,_,_,_,_,_,_,_,_,o⟩:=kb.ob;exact#[_,k.ns,mg_of X G k.ns,k.kp,k.ob,ze o rfl n.ok n.no]
def E0In.k(e:E0In K x)(b:EbIn K)(X:K.In h)(G:h.Ns Pi mg):∃C N bm,ErrK K mg x C N bm/\ErrN K N:=by
 obtain⟨C,N,k,n⟩:=e;obtain⟨bm,z⟩:=k.k b X G;exact#[C,N,bm,z,n.ok,n.no]
def Txe(K:Ex)(mg:Jj->Option KB)(x q:Jj)(st:RS)(ps:List Jj):Prop:=∃C N bm f fd,ErrK K mg x C N bm/\FS K (.ref C) "__init__"=be (be (.ref f))/\isFn K (.ref f)=true/\Fun K "__init__" q st f fd/\Binds K fd ps []
def E1In.txe(e:E1In K x q st)(b:EbIn K)(X:K.In h)(G:h.Ns Pi mg)(bi:BindA "__init__" q st ps):Txe K mg x q st ps:=by
 obtain⟨C,N,f,fd,k,i,j,F⟩:=e;obtain⟨bm,z⟩:=k.k b X G;exact#[C,N,bm,f,fd,z,i,j,F,F.binds bi]
def ErrK.a'{N:KF}{bm:List KB}(k:ErrK K mg x C N bm)(a:EaIn K x):∃C cd,ErrA K x C cd:=by
 obtain⟨D,hD,sa⟩:=a;cases NsC.uniq k.ns hD;exact#[C,k.a sa]
def E1In.a(e:E1In K x q st)(b:EbIn K)(a:EaIn K x)(X:K.In h)(G:h.Ns Pi mg):∃C cd,ErrA K x C cd:=by
 obtain⟨C,N,f,fd,k,_⟩:=e;obtain⟨bm,z⟩:=k.k b X G;exact z.a' a
def E1In.c(e:E1In K x q st)(b:EbIn K)(X:K.In h)(G:h.Ns Pi mg):∃C N bm,ErrK K mg x C N bm:=by
 obtain⟨C,N,f,fd,k,_⟩:=e;obtain⟨bm,z⟩:=k.k b X G;exact#[C,N,bm,z]
def EiIn.b(e:EiIn K x)(X:K.In h)(G:h.Ns Pi mg):∃M,BaseK K mg x M:=by
 obtain⟨M,a,b,c,d⟩:=e;exact#[M,mg_of X G a,b,c,d]
def EgIn.g(e:EgIn K x)(a:∃C cd,ErrA K x C cd)(n:NoIn K x f):ErrG K f x:=by
 obtain⟨C,h1,h2,h3⟩:=e;obtain⟨D,cd,ea⟩:=a;cases NsC.uniq ea.ns h1;exact#[C,cd,ea,h2,h3,n.all C h1]
def AllP(p:Jj->Prop):List Jj->Prop
 |[]=>True
 |a::l=>p a/\AllP p l
def AllP.mem{p:Jj->Prop}:∀{l:List Jj},AllP p l->∀x∈l,p x
 |_::_,h,_,.head _=>h.1
 |_::_,h,_,.tail _ m=>AllP.mem h.2 _ m
def An{es:List Jj}(c:AllP (λx=>∃C N bm,ErrK K mg x C N bm) es)(s:AllP (λx=>AllP (λy=>EmIn K x y) es) es):ErrsK K mg es:=by
 refine#[c.mem,λx hx y hy C C' h1 h2=>?_];obtain⟨A,B,a,b,m⟩:=(s.mem x hx).mem y hy;cases NsC.uniq a h1;cases NsC.uniq b h2;exact m
end
structure Bx where
 P:RP
 w:RU
 K:Ex
 mg:Jj->Option KB
 base:Heap
abbrev Bx.T(V:Bx)(x:Jj)(st:RS)(ps:List Jj):Prop:=Tx V.K V.mg x st ps
abbrev Bx.Tm(V:Bx)(x m q:Jj)(st:RS)(ps:List Jj):Prop:=Txm V.K x m q st ps
abbrev Bx.Ti(V:Bx)(x q:Jj)(st:RS)(ps:List Jj):Prop:=Txi V.K V.mg x q st ps
abbrev Bx.Te(V:Bx)(x q:Jj)(st:RS)(ps:List Jj):Prop:=Txe V.K V.mg x q st ps
abbrev Bx.Ek(V:Bx)(es:List Jj):Prop:=ErrsK V.K V.mg es
abbrev Bx.m(V:Bx)(x:Jj):Prop:=V.mg x=B_
abbrev Bx.gi(V:Bx)(x:Jj)(i:Int):Prop:=∃t,V.mg x=be (.int i t)
abbrev Bx.gs(V:Bx)(x y:Jj):Prop:=∃t,V.mg x=be (.str y t)
abbrev Bx.a(V:Bx)(x f:Jj):Prop:=ClsA V.K x f
abbrev Bx.D(V:Bx)(n:Nat)(x:Jj)(ps:List Jj)(S:SpD):Prop:=CalD V.P V.w V.K V.mg V.base n x ps S
abbrev Bx.X(V:Bx)(n:Nat)(x:Jj)(ps:List Jj)(S:SpX):Prop:=CalX V.P V.w V.K V.mg V.base n x ps S
abbrev Bx.MM(V:Bx)(n:Nat)(x:Jj)(ps:List Jj)(S:SpM):Prop:=CalMM V.P V.w V.K V.mg V.base n x ps S
abbrev Bx.M(V:Bx)(n:Nat)(x:Jj)(ps:List Jj)(S:SiD):Prop:=CalM V.P V.w V.K V.mg V.base n x ps S
abbrev Bx.E(V:Bx)(n:Nat)(x:Jj)(ps:List Jj)(S:SiD):Prop:=CalE V.P V.w V.K V.mg V.base n x ps S
abbrev Bx.Q(V:Bx)(n:Nat)(x m:Jj)(ps:List Jj)(S:SpM):Prop:=CalMth V.P V.w V.K V.mg V.base n x m ps (lSpM V.K S)
abbrev Bx.n(V:Bx)(x:Jj):Prop:=∃C N bm,ErrK V.K V.mg x C N bm/\ErrN V.K N
abbrev Bx.b(V:Bx)(x:Jj):Prop:=∃M,BaseK V.K V.mg x M
abbrev Bx.ea(V:Bx)(x:Jj):Prop:=∃C cd,ErrA V.K x C cd
abbrev Bx.xf(V:Bx)(x f:Jj):Prop:=∀C,nsIn V.K Pi x=be (be (.ref C))->FS V.K (.ref C) f=be B_
abbrev Bx.x(V:Bx)(f:Jj)(ys:List Jj):Prop:=∀y∈ys,ErrG V.K f y
section
variable {P:RP}{w:RU}{K:Ex}{mg:Jj->Option KB}{base:Heap}
variable{x qual p0:Jj}{st:RS}{N ps:List Jj}{k:Nat}{S:SiD}
def Txi.okI(T:Txi K mg x qual st (p0::ps))(F:FnScope (p0::N) (p0::ps) (ag st))(len:∀ds R,S ds R->ds.length=ps.length)
  (a8:∀(f:KF) (cdv:KB) (A:RV) (outer:List SL) (s:KM) (H:Hp) (E:XK) (J:Jx),Room k (A.deeper (R6 qual (ag st) s.heap.objs.size f cdv))->
   ∃t,WDI (cxOf (Exc.CX1 P w) P w K mg base (p0::N) qual (ag st) f cdv A outer s H E).nox x (aG st) t/\∀ds R,S ds R->t (B_::startD N ds) [] R):CalM P w K mg base (k+1) x (p0::ps) S:=by
 obtain⟨C,f,fd,a,b,c,d,e⟩:=T;exact Cls.okIW d e F len a b c (a8 f)
def Txi.okIM(T:Txi K mg x qual st (p0::ps))(F:FnScope N (p0::ps) (ag st))(len:∀ds R,S ds R->ds.length=ps.length)
  (a8:∀(f:KF) (cdv:KB) (A:RV) (outer:List SL) (s:KM) (H:Hp) (E:XK) (J:Jm),Room k (A.deeper (R6 qual (ag st) s.heap.objs.size f cdv))->XOkM (cxOf (Exc.CX1 P w) P w K mg base N qual (ag st) f cdv A outer s H E).nox->
   ∃t,MSs (cxOf (Exc.CX1 P w) P w K mg base N qual (ag st) f cdv A outer s H E).nox (aG st) t/\∀a ds R,(∀z M x fs,¬J.RM z M x fs)->S ds R->t {nx:=λ_ M'=>∃fs,M'=[(a,.ins x fs)]/\R fs,rt:=λ_ _=>False} (startD N (.ptr a::ds)) [(a,.ins x [])]):CalM P w K mg base (k+1) x (p0::ps) S:=by
 obtain⟨C,f,fd,a,b,c,d,e⟩:=T;exact Cls.okIM d e F len a b c (a8 f)
def Txe.okE(T:Txe K mg x qual st (p0::ps))(F:FnScope (p0::N) (p0::ps) (ag st))(len:∀ds R,S ds R->ds.length=ps.length)
  (a8:∀(f:KF) (cdv:KB) (A:RV) (outer:List SL) (s:KM) (H:Hp) (E:XK) (J:Jx),Room k (A.deeper (R6 qual (ag st) s.heap.objs.size f cdv))->
   ∃t,WDX (cxOf (Exc.CX1 P w) P w K mg base (p0::N) qual (ag st) f cdv A outer s H E).nox x (aG st) t/\∀ds R,S ds R->t (B_::startD N ds) [] R):CalE P w K mg base (k+1) x (p0::ps) S:=by
 obtain⟨C,N',bm,f,fd,a,b,c,d,e⟩:=T;exact Cls.okEW d e F len a b c (a8 f)
end
section
variable {X:Cx}[J:Jx]{a b c e o gV iter:P3}{es:List P3}{ta tb tc te to ti tj:TD}{tt:TDT}{t:TDA}{pos px:R4}{x:Jj}{scope:Sm}
def sY(ix:Nat)(J_:TDI)(te:TD):TSD:=λE z=>J_ z (cmpP te z λd=>match d with|.lst ys=>E.nx (z.set ix (be (.own ys)))|_=>False)
def Ao{K:Ex}{E:Ends}{s:L2.St}{H:Hp}{ix:Nat}{wi:TI}{J_:TDI}(hI:ItOk K wi J_)(q:lS K (sY ix J_ te) E s H):tAsg (gC wi (lT K dT1) (lE K te)) (fW ix) E s H:=by
 obtain⟨B,F0,F,z,k,rs,ED,h,e⟩:=q;refine hI k.kf rs h λitems J F1 H1 g1 hg it=>sf (Q:=λv H=>E.nx (s.set ix (be v)) H) k.kf g1 rs (λD ys us F' H' hH hF GG hu ry hR=>?_) it (cmpP.g hg);have r2:=(rs.grow GG).setOwn (i:=ix) (a:=D) (k.bh.free hH) hF ry λj dj _ q1 q2=>by
  obtain⟨a,vs,p1,p2,_⟩:=rs.own j dj q1;rw[p1]at q2;cases q2;rw[hH]at p2;cases p2
 rw[sv hu]at r2;exact e.nx _ _ F' H' (k.grow GG) hR r2
def Ap(ix:Nat){y:Jj}{py x8:R4}(hc:X.calm=true)(S:CompScope X scope x)(hN:X.N.Nodup)(hi:WDE X iter ti)(he:∀cl s₀ H₀ fp,WDE (bW X scope cl x s₀ H₀ fp) gV te)(M6:autoParam (X.N[ix]?=be y) zA0)(hy:autoParam (Loc X.env.scope y) zA4)
  (hf:autoParam (zFN X y) zA3) (J6:autoParam (Sd (.ListComp gV [#[.Name x px,iter,[],0]] scope pos) (be (.Name y py)) x8.line X.env=pure true) zA0) (hs:autoParam (∀y,zFS X iter y) zA2):
  WDS X (.Assign [.Name y py] (.ListComp gV [#[.Name x px,iter,[],0]] scope pos) x8) (sY ix (dItS ti) te):=#[(yB hc S (sF hi.out) (λ_ _ _ _=>kj) (λa b c d=>(he a b c d).out) hN M6 hy hf J6 hs).anti λE s H q=>Ao itS q]
def FM:RDn:=λds R=>match ds with|[.lst xs]=>∃ns:List Int,xs=ns.map D.int/\0<ns.length/\∀m,m∈ns->(∀a∈ns,m<=a)->R (.int m)|_=>False
def rSCount:RTx:=λy ds R=>match ds with|[.str p]=>R (.int (Builtin.Str.occurrences y p 0 y.length (y.length+1)).length)|_=>False
def Aq:MtS X "str.count" rSCount:=by
 refine#[λx vs H Q=>∃y p,x=.str y/\vs=[.str p]/\Q (.int (Builtin.Str.occurrences y p 0 y.length (y.length+1)).length) H,?_,?_]
 .intro pins s σ H x vs v us Q I rx rv h;obtain⟨y,p,rfl,rfl,q⟩:=h;obtain⟨t,rfl⟩:=rx;obtain⟨u,rfl,t',rfl⟩:=bZ rv;exact SC.count #[.int _,H,I.tok _,#[_,rfl],q]
 .intro y ds vs F H R Q r h q;unfold rSCount at h;split at h
  .obtain⟨v,vr,rfl,h1,h2⟩:=reps_cons.mp r;rw[reps_nil.mp h2,rep_str.mp h1];exact#[_,_,rfl,rfl,q _ _ (λ_=>rep_int.mpr rfl) h]
  .exact h.elim
def sZ{apos cpos:R4}(ho:WDE X o to)(ha:WDA X [e] t)(b7:autoParam (RZ o "count" X.env (R1 o X.env)=R1 o X.env) zA0)
  (d3:autoParam (zHF X cpos [e]) zA0)
  (b_:autoParam ((apos.endLine==cpos.line)=true) zA0) (hs:autoParam (zSE X e []) zA0):WDE X (.Call (.Attribute o "count" apos) [e] [] cpos) (dTx rSCount to t):=#[kr PySem.F.slot_str_count PySem.F.type_str_count Aq ho.out ha.out b7 d3 b_ hs]
def Ar(is:List Nat)(ti:TDI)(tb:TSD):TSD:=λE z=>ti z λds=>∃W:Nat->SD->Prop,W 0 z/\(∀(k:Nat) x z,ds[k]?=be x->W k z->tb {E with nx:=W (k+1),ct:=W (k+1),bk:=E.nx} (bU is [.int k,x] z))/\∀z,W ds.length z->E.nx z
variable{is:List Nat}
def As{K:Ex}{B F0 F1 H1:Hp}{z:SD}{s:L2.St}{E:Ends}{ED:EndsD}{It':It}{g:TG}{tb:TSD}{Ln:TS}{ds:List D}(k1:Kept B F0 F1 H1)(m4:RepS K B F1 H1 z s)(e:EndsOk K B F0 ED E)
  (go:∀k F' H',Same F1 F'->Same F' H'->k<ds.length->It'.go k H') (stop:∀F' H',Same F1 F'->Same F' H'->It'.stop ds.length H')
  (yld:∀k F' H' x H'',Same F1 F'->Same F' H'->k<ds.length->It'.yld k H' x H''->∃T d v,H' T=B_/\x=.ref T/\H''=upd H' T (.tup [.int k,v])/\ds[k]?=be d/\Rep K F' d v)
  (hg:∀(dd:List D) (vs:List V) (T:KF) (z:SD) (s:L2.St) (F H:Hp) (Q:L2.St->Hp->Prop),dd.length=2->H T=be (.tup vs)->Reps K F dd vs->RepS K B F H z s->(∀s',RepS K B F H (bU is dd z) s'->Q s' H)->g (.ref T) s H Q)
  (NC:∀E s H,lS K tb E s H->Ln E s H)
  (hd:∃W:Nat->SD->Prop,W 0 z/\(∀(k:Nat) x z,ds[k]?=be x->W k z->tb {ED with nx:=W (k+1),ct:=W (k+1),bk:=ED.nx} (bU is [.int k,x] z))/\∀z,W ds.length z->ED.nx z):
  ∃W:Nat->Nat->L2.St->Hp->Prop,(∃m,W 0 m s H1)/\∀i m σ H,W i m σ H->
   (It'.stop i H/\E.nx σ H)\/(It'.go i H/\∃N:L2.St->Hp->Prop,(∀σ' H',N σ' H'->∃m',m'<m/\W (i+1) m' σ' H')/\∀x H',It'.yld i H x H'->g x σ H' λσ2 H2=>Ln {E with nx:=N,ct:=N,bk:=E.nx} σ2 H2):=by
 obtain⟨W,w0,c3,out⟩:=hd;refine#[λk m s' H'=>m=ds.length-k/\k<=ds.length/\∃F' z',Kept B F0 F' H'/\Same F1 F'/\RepS K B F' H' z' s'/\W k z',#[ds.length,J8,Gh _,F1,z,k1,Same.refl F1,m4,w0],?_];rintro k m s' H'⟨rfl,hk,F',z',k',g',r',w'⟩;by_cases d9:k<ds.length
 .refine .inr #[go k F' H' g' k'.fh d9,λs3 H3=>∃F3 z3,Kept B F0 F3 H3/\Same F1 F3/\RepS K B F3 H3 z3 s3/\W (k+1) z3,λs3 H3 h3=>#[ds.length-(k+1),JZ,rfl,d9,h3],λx H'' hy=>?_];obtain⟨T,d,v,hT,rfl,rfl,hd,rd⟩:=yld k F' H' x H'' g' k'.fh d9 hy;have gn:=Grow.new k'.fh hT (.tup [.int k,v]);have k2:=k'.grow gn;have rp:Reps K (upd F' T (.tup [.int k,v])) [.int k,d] [.int k,v]:=reps_cons.mpr #[_,_,rfl,rep_int.mpr rfl,dZ (rd.mono gn.ff)];refine hg [.int k,d] _ T z' s' _ _ _ rfl ax rp (r'.grow gn) λs2 Kw=>NC _ _ _ ?_;have gF:Same F1 (upd F' T (.tup [.int k,v])):=g'.trans gn.ff;refine#[B,upd F' T (.tup [.int k,v]),upd F' T (.tup [.int k,v]),_,#[k2.bh,k2.fh,Same.refl _,λb h1 _=>h1,k2.eb,k2.jf.trans k2.f0,λb h1 h2=>k2.out b (k2.jo b h1 h2) h2],Kw,_,c3 k d z' hd w',?_];have up:∀{F3 H3:Hp},Kept B (upd F' T (.tup [.int k,v])) F3 H3->Kept B F0 F3 H3:=λk3=>#[k3.bh,k3.fh,k2.f0.trans k3.f0,λb h1 h2=>k3.out b (k2.out b h1 h2) h2,k2.eb,k2.jf,k2.jo];exact#[λz3 s3 F3 H3 k3 h3 r3=>#[F3,z3,up k3,gF.trans k3.f0,r3,h3],λd v F3 H3 k3=>e.rt d v F3 H3 (up k3),λz3 s3 F3 H3 k3=>e.nx z3 s3 F3 H3 (up k3),λz3 s3 F3 H3 k3 h3 r3=>#[F3,z3,up k3,gF.trans k3.f0,r3,h3]]
 .have ek:k=ds.length:=by lia
  subst ek;exact .inl #[stop F' H' g' k'.fh,e.nx z' s' F' H' k' (out z' w') r']
def Au{es:List P3}{x1:Nat}{tp p1 p2:R4}{body:List RS}{tb:TSD}(hp:Se (RR X.prog X.w) X.A X.env X.xe)(hc:X.calm=true)(hm:X.mg "enumerate"=B_)(he:WDE X e te)(hG:DGs X es is)(hb:WDSs X body tb)(b8:autoParam (is.length=2) zA0)(hg:autoParam (Gl X "enumerate") zA0)
  (hn:autoParam ((RY es X.env).length=2) zA0) (j8:autoParam ((RY es X.env).findIdx? (·.1)=none) zA0)
  (hs:autoParam (∀y,zFS X (.Call (.Name "enumerate" p1) [e] [] p2) y) zA2) (r_:autoParam (zSE X e []) zA0) (f9:autoParam (RW [e] X.env=[(false,R1 e X.env)]) zA0):
  WDS X (.For (.Tuple es x1 tp) (.Call (.Name "enumerate" p1) [e] [] p2) body [] pos) (Ar is (dItS te) tb):=by
 obtain⟨ug,Lo,kk⟩:=hG;refine#[(cH hp hc (sQ hg hm (bn he.out pa_nil r_) f9) (fX hc Lo hn j8) hb.out hs).anti λE s H q=>?_];obtain⟨B,F0,F,z,kp,rs,ED,h,e⟩:=q;refine#[B,F,z,kp.kf,rs,_,h,λd v F1 H1 g1 hd rd=>?_];split at hd
 .rename_i x;obtain⟨ha,hd⟩:=hd;have hl:=eD x;refine#[x,by rw[rep_str.mp rd],ha,As (It':=Ites x) (kp.grow g1) (rs.grow g1) e (λk F' H' s1 s2 hk=>?_) (λF' H' s1 s2=>?_) (λk F' H' x H'' s1 s2 hk hy=>?_) (λdd l_ T z s F H Q hl hT rp y9 hQ=>?_) (λ_ _ _ h=>h) hd]
  .rw[hl]at hk;exact hk
  .exact hl
  .obtain⟨T,c,hT,e1,e2,hc⟩:=hy;exact#[T,.str #[[c].toArray],.str #[[c].toArray],hT,e1,e2,gJ hc,rep_str.mpr rfl]
  .exact#[T,l_,rfl,SqT.of hT,by rw[rp.length];exact hl,kk dd l_ z s B F H Q (by rw[hl,b8]) rp y9 hQ]
 .exact hd.elim
def Av(K:Ex):R2:=λx y H Q=>∃p xs i z,x=.ref p/\y=.int i/\0<=i/\SqL K H p xs/\xs[i.toNat]?=be z/\Q z H
def Aw:PGet X (Av X.K):=by
 intro pins s σ H x y v u Q I rx ry h;obtain⟨p,xs,i,z,rfl,rfl,h0,hq,he,q⟩:=h;cases rx;obtain⟨t,rfl⟩:=ry;obtain⟨its,r,pl,hz⟩:=I.list hq;obtain⟨w,ew,h_⟩:=r.get he;have hl:=r.length;have hn:=line63;have hi:=(F7.mp he).1;exact wpAny_getItem_list pl.isList h0 JZ (by simpa using ew) #[z,H,I,h_,q]
def tf(i:Nat)(ti te:TD):TSD:=λE z=>match z[i]? with
 |some (be (.own ds))=>ti z λy=>(match y with|.int k=>∃n,0<=k/\ds[k.toNat]?=be (.int n)/\te z λd=>(match d with|.int m=>E.nx (z.set i (be (.own (ds.set k.toNat (.int (n+m))))))|_=>False)|_=>False)
 |_=>False
def Ax(i:Nat){x:Jj}{p1 p2:R4}(hb:WDE X b tb)(he:WDE X e te)(hN:autoParam (X.N[i]?=be x) zA0)(hv:autoParam (Vis X.env.scope x) zA5)(hd:autoParam (zND x) zA1)
  (e_:autoParam (zNC x) zA1)
  (ha:autoParam (∀ov iv new,augStore b ov iv new=(do Si [new,ov,iv] (Tf ov iv new);Tw [new,ov,iv] [];pure .next)) zA7):
  WDS X (.AugAssign (.Subscript (.Name x p1) b p2) .Add e pos) (tf i tb te):=⟨(vZ (cG hN hv hd e_) hb.out Aw he.out wa jI ha).anti λE s H q=>by
 obtain⟨B,F0,F,z,k,rs,ED,h,e⟩:=q;unfold tf at h;split at h
 .rename_i ds ez;obtain⟨a,vs,q1,q2,q3,q4,q5⟩:=rs.own i ds ez;refine#[.ref a,q1,B,F,z,k.kf,rs,_,h,λy w F2 H2 g2 hy ry=>?_];split at hy
  .rename_i k';obtain⟨n,k0,en,hn⟩:=hy;have Jr:F2 a=none:=g2.out a q4 (by rw[q2];exact λz=>nomatch z);obtain⟨v,ev,rv⟩:=q5.get en;refine#[a,vs,_,v,rfl,rep_int.mp ry,k0,SqL.of (g2.hh _ _ q2),ev,B,F2,z,k.kf.grow g2,rs.grow g2,_,hn,λd u F3 H3 g3 hd rd=>?_];split at hd
   .have r2:=(rs.grow g2).grow g3;have k2:=(k.grow g2).grow g3;have Mc:F3 a=none:=g3.out a Jr (by rw[g2.hh _ _ q2];exact λz=>nomatch z);rw[rep_int.mp rv,rep_int.mp rd];have d9:=(F7.mp en).1;refine#[_,_,rfl,rfl,a,vs,_,k'.toNat,rfl,rep_int.mp ry,g3.hh _ _ (g2.hh _ _ q2),by unfold ixN;rw[q5.length,if_pos k0,if_pos JZ],?_];obtain⟨k3,r3⟩:=r2.change k2 ez q1 q3 Mc (Reps.put (d:=.int _) (v:=.int _) (rep_int.mpr rfl) k'.toNat ((q5.mono g2.ff).mono g3.ff));exact e.nx _ s F3 _ k3 hd r3
   .exact hd.elim
  .exact hy.elim
 .exact h.elim⟩
end
mutual
def noL:D->Bool
 |.non=>true|.bl _=>true|.int _=>true|.str _=>true|.ptr _=>true|.dti _=>true
 |.tup ds=>noLs ds
 |.obj _ fs=>noLF fs
 |_=>false
def noLs:List D->Bool
 |[]=>true
 |d::ds=>noL d&&noLs ds
def noLF:List (Jj×D)->Bool
 |[]=>true
 |(_,d)::ds=>noL d&&noLF ds
end
def nlF(F:Hp):Hp:=λb=>match F b with|some (.lst _)=>B_|o=>o
def kI{F:Hp}{b:KF}{o:HO}(e:F b=be o)(h:∀vs,o≠.lst vs):nlF F b=be o:=by
 unfold nlF;rw[e];cases o with
 |lst vs=>exact absurd rfl (h vs)
 |_=>rfl
mutual
def Rep.nl{K:Ex}{F:Hp}:∀(d:D) (v:V),noL d=true->Rep K F d v->Rep K (nlF F) d v
 |.non,v,_,h=>by unfold Rep at h ⊢;exact h
 |.bl b,v,_,h=>by unfold Rep at h ⊢;exact h
 |.int b,v,_,h=>by unfold Rep at h ⊢;exact h
 |.str b,v,_,h=>by unfold Rep at h ⊢;exact h
 |.ptr b,v,_,h=>by unfold Rep at h ⊢;exact h
 |.dti a9,v,_,h=>by
  unfold Rep at h ⊢;obtain⟨a,e,q⟩:=h;exact#[a,e,kI q λ_ z=>nomatch z]
 |.tup ds,v,n,h=>by
  unfold Rep at h ⊢;obtain⟨a,vs,e,q,r⟩:=h;exact#[a,vs,e,kI q (λ_ z=>nomatch z),Reps.nl ds vs (by unfold noL at n;exact n) r]
 |.obj x fs,v,n,h=>by
  unfold Rep at h ⊢;obtain⟨a,C,dx,vs,e,n1,q,r⟩:=h;exact#[a,C,dx,vs,e,n1,kI q (λ_ z=>nomatch z),RepF.nl fs vs (by unfold noL at n;exact n) r]
 |.lst _,_,n,_=>by unfold noL at n;cases n
 |.rol _,_,n,_=>by unfold noL at n;cases n
 |.exc _ _,_,n,_=>by unfold noL at n;cases n
 |.own _,_,n,_=>by unfold noL at n;cases n
def RepF.nl{K:Ex}{F:Hp}:∀(ds:List (Jj×D)) (vs:List (Jj×V)),noLF ds=true->RepF K F ds vs->RepF K (nlF F) ds vs
 |[],vs,_,h=>by unfold RepF at h ⊢;exact h
 |(f,d)::ds,vs,n,h=>by
  unfold noLF at n;rw[Gj]at n;unfold RepF at h ⊢;obtain⟨v,r,e,q1,q2⟩:=h;exact#[v,r,e,Rep.nl d v n.1 q1,RepF.nl ds r n.2 q2]
def Reps.nl{K:Ex}{F:Hp}:∀(ds:List D) (vs:List V),noLs ds=true->Reps K F ds vs->Reps K (nlF F) ds vs
 |[],vs,_,h=>by unfold Reps at h ⊢;exact h
 |d::ds,vs,n,h=>by
  unfold noLs at n;rw[Gj]at n;unfold Reps at h ⊢;obtain⟨v,r,e,q1,q2⟩:=h;exact#[v,r,e,Rep.nl d v n.1 q1,Reps.nl ds r n.2 q2]
end
end My
end
section
namespace My
open PySem PySem.Spec PyProof.Rows L2
variable{w:Int}
def b64B(h:0<w)(h':w<=33554432):-(2^64)<w/\w<2^64:=JZ
variable{s:Int}
def s64B(h:0<=s)(h':s<w)(RA:w<=33554432):-(2^64)<s/\s<2^64:=JZ
def d30B(h:0<w)(h':w<=33554432):0<w/\w<1073741824:=JZ
def sq0(a:Int):0<=a*a:=(Int.le_total 0 a).elim (λq=>IC q q) (λq=>Int.mul_nonneg_of_nonpos_of_nonpos q q)
def n64{k:Nat}(h:w.natAbs<=k)(hk:autoParam (k<=1073741823) zA1):-(2^64)<w/\w<2^64:=JZ
variable{a b:Int}
def i64(h:a<=w)(h':w<=b)(ha:autoParam ( -1000000000001<=a) zA1)(hb:autoParam (b<=1000000000001) zA1):-(2^64)<w/\w<2^64:=JZ
def Ay{X Y Z A B r:Nat}(h1:X<=Y)(h2:X=Z+2*B)(h3:1*A<=Z)(h5:Y<=A+r)(h6:r<B):False:=KK
def fdm(a b:Int)(hb:b≠0):(a-a.fdiv b*b).natAbs<b.natAbs/\(a.fdiv b).natAbs<=a.natAbs+1:=by
 have e:=Int.fmod_def a b;have e2:a-a.fdiv b*b=a.fmod b:=by rw[e,GD]
 rw[e2];have r:(a.fmod b).natAbs<b.natAbs:=by
  rcases(JZ:0<b\/b<0)with h|h
  .have h1:=ID a h;have h2:=IE a h;lia
  .have h1:=ID (-a) (show 0< -b by lia);have h2:=IE (-a) (show 0< -b by lia);rw[Int.neg_fmod_neg]at h1 h2;lia
 refine#[r,?_];have e3:(b*a.fdiv b).natAbs=b.natAbs*(a.fdiv b).natAbs:=Hz _ _;have e4:=Int.mul_fdiv_self a b;rcases Hy (a.natAbs+1) (a.fdiv b).natAbs with c|c
 .have h1:b.natAbs*(a.natAbs+2)<=b.natAbs*(a.fdiv b).natAbs:=Nat.mul_le_mul_left _ c;have h2:b.natAbs*(a.natAbs+2)=b.natAbs*a.natAbs+2*b.natAbs:=by rw[Nat.mul_add,Nat.mul_comm _ 2]
  have h3:1*a.natAbs<=b.natAbs*a.natAbs:=Nat.mul_le_mul_right _ JZ;have h5:(b*a.fdiv b).natAbs<=a.natAbs+(a.fmod b).natAbs:=by rw[e4];exact Int.natAbs_sub_le a _
  rw[e3]at h5;exact(Ay h1 h2 h3 h5 r).elim
 .exact c
def Uni(a b c d p0 p1 q0 q1:Int):Prop:=∃m n k l:Int,(m*l-n*k=1\/m*l-n*k=-1)/\p0=m*a+n*c/\p1=m*b+n*d/\q0=k*a+l*c/\q1=k*b+l*d
def Uni.refl(a b c d:Int):Uni a b c d a b c d:=#[1,0,0,1,.inl J7,JZ,JZ,JZ,JZ]
variable{c d p0 p1 q0 q1:Int}
def Uni.step(t:Int)(h:Uni a b c d p0 p1 q0 q1):Uni a b c d q0 q1 (p0-t*q0) (p1-t*q1):=by
 obtain⟨m,n,k,l,hd,rfl,rfl,rfl,rfl⟩:=h;refine#[k,l,m-t*k,n-t*l,?_,rfl,rfl,K',K'];rcases hd with h|h
 .right;grind
 .left;grind
def Uni.neg(h:Uni a b c d p0 p1 q0 q1):Uni a b c d (-p0) (-p1) q0 q1:=by
 obtain⟨m,n,k,l,hd,rfl,rfl,rfl,rfl⟩:=h;refine#[-m,-n,k,l,?_,K',K',rfl,rfl];rcases hd with h|h
 .right;grind
 .left;grind
def Uni.inv(h:Uni a b c d p0 p1 q0 q1):Uni p0 p1 q0 q1 a b c d:=by
 obtain⟨m,n,k,l,hd,rfl,rfl,rfl,rfl⟩:=h;rcases hd with h|h
 .exact#[l,-n,-k,m,.inl K',K',K',K',K']
 .exact#[-l,n,k,-m,.inr K',K',K',K',K']
def Uni.det(h:Uni a b c d p0 p1 q0 q1):p0*q1-p1*q0=a*d-b*c\/p0*q1-p1*q0=-(a*d-b*c):=by
 obtain⟨m,n,k,l,hd,rfl,rfl,rfl,rfl⟩:=h;rcases hd with h|h
 .left;grind
 .right;grind
def Lev(a b c d p0 p1 q0:Int):Prop:=0<=p1/\Uni a b c d p0 p1 q0 0
def FamOf(a b c d w h s:Int):Prop:=0<w/\0<h/\0<=s/\s<w/\Uni a b c d w 0 s h
def Az(x:Int):(if x<0 then -x else x)=x\/(if x<0 then -x else x)=-x:=by
 split<;>simp
variable{x:Int}
def AA(h:x≠0):0<(if x<0 then -x else x):=by split<;>lia
def gX(hn:¬a*d=b*c)(h:Lev a b c d p0 p1 q0):FamOf a b c d (if q0<0 then -q0 else q0) p1 (p0%(if q0<0 then -q0 else q0)):=by
 obtain⟨hp,hu⟩:=h;have dt:=hu.det;have QN:q0≠0:=by
  rintro rfl;simp at dt;lia
 have RB:p1≠0:=by
  rintro rfl;simp at dt;lia
 have hw:=AA QN;have hs:=Az q0;generalize (if q0<0 then -q0 else q0)=w at hw hs;refine#[hw,JZ,G0 _ JZ,G1 _ hw,?_];have em:=Hb p0 w;generalize p0%w=s at em;generalize p0/w=t at em;obtain⟨m,n,k,l,hd,e1,e2,e3,e4⟩:=hu;rcases hs with e|e
 .refine#[k,l,m-t*k,n-t*l,?_,K',K',K',K'];rcases hd with h|h
  .right;grind
  .left;grind
 .refine#[-k,-l,m+t*k,n+t*l,?_,K',K',K',K'];rcases hd with h|h
  .left;grind
  .right;grind
variable{u v j:Int}
def on_of{i:Int}(eu:u=i*a+j*c)(ev:v=i*b+j*d):(u*d-v*c).fmod (a*d-b*c)=0/\(a*v-b*u).fmod (a*d-b*c)=0:=by
 subst eu ev;refine#[HU #[i,K'],HU #[j,K']]
variable{h:Int}
def FamOf.cells(f:FamOf a b c d w h s):w*h=a*d-b*c\/w*h=-(a*d-b*c):=by
 have:=f.2.2.2.2.det;simpa using this
def ce{A B:Nat}(h1:a.natAbs<=A)(h2:d.natAbs<=B):(a*d).natAbs<=A*B:=by
 rw[Hz];exact Hc h1 h2
variable{g:Int}
def AB{gap:Int}{N:Nat}(hg:0<g)(c0:0<=c)(cg:c<=g)(h:gap.natAbs<=N):(c*gap/g).natAbs<=N:=by
 have h1:(c*gap).natAbs<=g.natAbs*N:=by rw[Hz];exact Hc KK h
 have e:((g.natAbs*N:Nat):Int)=N*g:=by rw[IF,Int.natAbs_of_nonneg KK,GD]
 have l1:=Int.le_ediv_of_mul_le (a:=-(N:Int)) (b:=c*gap) hg (by rw[IG];omega);have l2:=Int.ediv_le_of_le_mul (a:=c*gap) (b:=(N:Int)) hg KK;omega
def fF(hw:0<w)(hh:0<h):w<=w*h/\h<=w*h:=by
 have h1:=Int.mul_le_mul_of_nonneg_left (show 1<=h by lia) (show 0<=w by lia);have h2:=Gq (show 1<=w by lia) (show 0<=h by lia);lia
def FamOf.bd(f:FamOf a b c d w h s){N:Nat}(hN:(a*d-b*c).natAbs<=N):w<=N/\h<=N/\s<N:=by
 obtain⟨h1,h2⟩:=fF f.1 f.2.1;have h3:w*h<=N:=by
  rcases f.cells with e|e<;>rw[e]
  .exact Gw IH (II.mpr hN)
  .exact Gw IH (II.mpr (by rw[IJ];exact hN))
 exact#[Gw h1 h3,Gw h2 h3,Int.lt_of_lt_of_le f.2.2.2.1 (Gw h1 h3)]
def Meas(x y g u:Int):Prop:=0<=g/\(∃i,x=i*g)/\(∃j,y=j*g)/\∃n,g=u*x+n*y
variable{y q:Int}
def tm(h:0<=g/\∃m n k l:Int,(m*l-n*k=1\/m*l-n*k=-1)/\u=m*1+n*0/\g=m*x+n*y/\q=k*1+l*0/\0=k*x+l*y):Meas x y g u:=by
 obtain⟨h0,m,n,k,l,hd,e1,e2,e3,e4⟩:=h;refine#[h0,?_,?_,n,K']
 .rcases hd with h|h
  .exact#[l,K']
  .exact#[-l,K']
 .rcases hd with h|h
  .exact#[-k,K']
  .exact#[k,K']
def Meas.pos(h:Meas x y g u)(hx:0<x):0<g:=by
 obtain⟨h0,⟨i,hi⟩,_⟩:=h;rcases(JZ:g=0\/0<g)with e|e
 .subst e;simp at hi;lia
 .exact e
def Meas.le(h:Meas x y g u)(hx:0<x):g<=x:=by
 have hg:=h.pos hx;obtain⟨h0,⟨i,hi⟩,_⟩:=h;have RC:0<i:=by
  rcases(JZ:i<=0\/0<i)with e|e
  .have:=Hd e h0;lia
  .exact e
 have:=Gq (show 1<=i by lia) h0;lia
structure MetR(w1 h1 s1 w2 h2 s2 w h s A:Int):Prop where
 w0:0<w
 h0:0<h
 s0:0<=s
 sw:s<w
 in1:∃i,w=i*w1
 in2:∃i,w=i*w2
 up1:∃i j,s=i*w1+j*s1/\h=j*h1
 up2:∃i j,s=i*w2+j*s2/\h=j*h2
 A0:0<A
 cells:w*h*A=w1*h1*w2*h2
 d11:A∣w1*h1
 d12:A∣w1*h2
 d21:A∣w2*h1
 d22:A∣w2*h2
 ds:A∣s1*h2-h1*s2
 all:∀x y:Int,(∃i j,x=i*w1+j*s1/\y=j*h1)->(∃i j,x=i*w2+j*s2/\y=j*h2)->∃i j,x=i*w+j*s/\y=j*h
 comb:∀G:Int,G∣w1*h1->G∣w1*h2->G∣w2*h1->G∣w2*h2->G∣s1*h2-h1*s2->G∣A
def dv(h:0<x*y)(hy:0<y):0<x:=by
 rcases(JZ:x<=0\/0<x)with e|e
 .have:=Hd e (show 0<=y by lia);lia
 .exact e
def kJ(ha:0<a)(h:a*b=a*c):b=c:=HV JZ h
def r1(k j c:Int):k*(j*c)=j*(c*k):=K'
def r2(j u c n d:Int):j*(u*c+n*d)=u*(j*c)+n*d*j:=K'
def r3(u j d n j1:Int):u*(j*d)+n*d*j1=d*(u*j+n*j1):=K'
def r4(j u c n d:Int):j*(u*c+n*d)=u*c*j+n*(j*d):=K'
def r5(u c j n j1:Int):u*c*j+n*(j1*c)=c*(u*j+n*j1):=K'
def r6(g e i1 a i2 b d T s1 c s2:Int)(q:i1*(a*(e*g))+d*T*s1=i2*(b*(e*g))+c*T*s2):g*(e*(i1*a-i2*b))=T*(c*s2-d*s1):=K'
def r7(g T f:Int):g*(T*f)=T*(f*g):=K'
def r8(T v e q f:Int):T*(v*e+q*f)=v*T*e+q*(T*f):=K'
def r9(v T e q m:Int):v*T*e+q*(e*m)=e*(v*T+q*m):=K'
def r10(e r f:Int):e*r*f=e*(r*f):=K'
def r11(i u a n b:Int):i*(u*a+n*b)=u*(i*a)+n*b*i:=K'
def r12(u r f i2 b n i1:Int):u*(r*f+i2*b)+n*b*i1=u*(r*f)+b*(u*i2+n*i1):=K'
def r13(u r f b M a e g d s1 t:Int):(u*(r*f)+b*M)*(a*(e*g))+d*(e*r)*s1=(M+r*t)*(a*b*(e*g))+r*(e*(d*s1)+f*u*(a*(e*g))-a*b*(e*g)*t):=K'
def r14(d e r c k:Int):d*(e*r)*(c*k)=r*(c*d*k*e):=K'
variable{k e f gg u' s1 s2:Int}
def AC{n n' t i1 j1 i2 j2:Int}(hk:0<k)(Jz:0<gg)(he:0<e)
  (t7:u*a+n*b=1) (n_:u'*c+n'*d=1) (gap:c*s2-d*s1=f*gg) (t8:v*e+q*f=1)
  (hs:s=e*(d*s1)+f*u*(a*(e*gg))-a*b*(e*gg)*t) (x1:x=i1*(a*(e*gg))+j1*s1) (y1:y=j1*(c*k)) (x2:x=i2*(b*(e*gg))+j2*s2) (y2:y=j2*(d*k)):
  ∃i j,x=i*(a*b*(e*gg))+j*s/\y=j*(c*d*k*e):=by
 have h1:j1*c=j2*d:=kJ hk (by rw[r1 k j1 c,r1 k j2 d,<-y1,<-y2]);have Mg:j1=d*(u'*j2+n'*j1):=by
  have p:=r2 j1 u' c n' d;rw[n_,h1,r3]at p;lia
 have Pf:j2=c*(u'*j2+n'*j1):=by
  have p:=r4 j2 u' c n' d;rw[n_,<-h1,r5]at p;lia
 generalize u'*j2+n'*j1=T at Mg Pf;have q1:i1*(a*(e*gg))+d*T*s1=i2*(b*(e*gg))+c*T*s2:=by rw[<-Mg,<-Pf,<-x1,<-x2]
 have h2:e*(i1*a-i2*b)=T*f:=kJ Jz (by rw[r6 gg e i1 a i2 b d T s1 c s2 q1,r7,gap]);have eT:T=e*(v*T+q*(i1*a-i2*b)):=by
  have p:=r8 T v e q f;rw[t8,<-h2,r9]at p;lia
 generalize hr:v*T+q*(i1*a-i2*b)=r at eT;have h3:i1*a-i2*b=r*f:=kJ he (by rw[h2,eT,r10]);have h4:i1=u*(r*f)+b*(u*i2+n*i1):=by
  have p:=r11 i1 u a n b;have q3:i1*a=r*f+i2*b:=JZ
  rw[t7,q3,r12]at p;lia
 generalize u*i2+n*i1=M at h4;refine#[M+r*t,r,?_,?_]
 .rw[hs,x1,Mg,eT,<-r13,<-h4]
 .rw[y1,Mg,eT,r14]
def AD{n n' t:Int}(ha:0<a)(hb:0<b)(hc:0<c)(hd:0<d)(he:0<e)(hk:0<k)(Jz:0<gg)
  (t7:u*a+n*b=1) (n_:u'*c+n'*d=1) (gap:c*s2-d*s1=f*gg) (t8:v*e+q*f=1)
  (hs:s=e*(d*s1)+f*u*(a*(e*gg))-a*b*(e*gg)*t) (m1:0<=s) (m2:s<a*b*(e*gg)):
  MetR (a*(e*gg)) (c*k) s1 (b*(e*gg)) (d*k) s2 (a*b*(e*gg)) (c*d*k*e) s (k*gg):=by
 have hg:0<e*gg:=Gf he Jz;have hW:0<a*b*(e*gg):=Gf (Gf ha hb) hg;have NI:d*s1=c*s2-f*gg:=JZ
 have ua:u*a=1-n*b:=JZ
 refine#[hW,Gf (Gf (Gf hc hd) hk) he,m1,m2,#[b,?_],#[a,?_],#[f*u-t*b,d*e,?_,?_],#[-(f*n)-t*a,c*e,?_,?_],Gf hk Jz,?_,#[a*e*c,?_],#[a*e*d,?_],#[b*e*c,?_],#[b*e*d,?_],#[-f,?_],?_,?_]
 .grind
 .grind
 .grind
 .grind
 .rw[hs,NI];have x2:f*u*(a*(e*gg))=f*(u*a)*(e*gg):=by grind
  rw[x2,ua];grind
 .grind
 .grind
 .grind
 .grind
 .grind
 .grind
 .have:s1*(d*k)-c*k*s2=-(k*(c*s2-d*s1)):=by grind
  rw[this,gap];grind
 .rintro x y⟨i1,j1,x1,z1⟩ ⟨i2,j2,x2,z2⟩;exact AC hk Jz he t7 n_ gap t8 hs x1 z1 x2 z2
 .rintro G⟨y1,z1⟩ ⟨y2,z2⟩ ⟨y3,z3⟩ ⟨y4,z4⟩ ⟨y5,z5⟩;refine#[v*(u'*u*y1+n'*u*y2+u'*n*y3+n'*n*y4)-q*y5,?_];have k1:k*(e*gg)=G*(u'*u*y1+n'*u*y2+u'*n*y3+n'*n*y4):=by
   have p1:k*(e*gg)=(u'*c+n'*d)*(u*a+n*b)*(k*(e*gg)):=by rw[t7,n_];grind
   have p2:(u'*c+n'*d)*(u*a+n*b)*(k*(e*gg))=u'*u*(a*(e*gg)*(c*k))+n'*u*(a*(e*gg)*(d*k))+u'*n*(b*(e*gg)*(c*k))+n'*n*(b*(e*gg)*(d*k)):=K'
   rw[p1,p2,z1,z2,z3,z4];grind
  have k2:k*(f*gg)=-(G*y5):=by
   rw[<-z5,<-gap];grind
  have k3:k*gg=(v*e+q*f)*(k*gg):=by rw[t8];grind
  have k4:(v*e+q*f)*(k*gg)=v*(k*(e*gg))+q*(k*(f*gg)):=K'
  rw[k3,k4,k1,k2];grind
variable{w1 h1 w2 h2:Int}
def tw{y_:Int}(Mh:0<w1)(Lq:0<w2)(Pg:0<h1)(JK:0<h2)
  (M1:Meas w1 w2 g u) (M2:Meas h1 h2 k u')
  (M3:Meas g (h1*h2/k/h2*s2-h1*h2/k/h1*s1) gg y_):
  MetR w1 h1 s1 w2 h2 s2 (w1*w2/g) (h1*h2/k*(g/gg)) ((g/gg*(h1*h2/k/h1*s1)+g/gg*(h1*h2/k/h2*s2-h1*h2/k/h1*s1)/g*u*w1)%(w1*w2/g)) (k*gg):=by
 have hg:=M1.pos Mh;have hk:=M2.pos Pg;have Jz:=M3.pos hg;obtain⟨_,⟨a,ea⟩,⟨b,eb⟩,n,en⟩:=M1;obtain⟨_,⟨c,ec⟩,⟨d,ed⟩,n',RD⟩:=M2;have ha:0<a:=dv (ea ▸ Mh) hg;have hb:0<b:=dv (eb ▸ Lq) hg;have hc:0<c:=dv (ec ▸ Pg) hk;have hd:0<d:=dv (ed ▸ JK) hk;have t7:u*a+n*b=1:=by
  have p:(u*a+n*b)*g=1*g:=by
   have:(u*a+n*b)*g=u*(a*g)+n*(b*g):=by grind
   rw[this,<-ea,<-eb];lia
  exact G2 JZ p
 have n_:u'*c+n'*d=1:=by
  have p:(u'*c+n'*d)*k=1*k:=by
   have:(u'*c+n'*d)*k=u'*(c*k)+n'*(d*k):=by grind
   rw[this,<-ec,<-ed];lia
  exact G2 JZ p
 have eW:w1*w2/g=a*b*g:=by
  have:w1*w2=(a*b*g)*g:=by rw[ea,eb];grind
  rw[this];exact GE _ JZ
 have eR:h1*h2/k=c*d*k:=by
  have:h1*h2=(c*d*k)*k:=by rw[ec,ed];grind
  rw[this];exact GE _ JZ
 have QO:h1*h2/k/h1=d:=by
  rw[eR];have:c*d*k=d*h1:=by rw[ec];grind
  rw[this];exact GE _ JZ
 have QP:h1*h2/k/h2=c:=by
  rw[eR];have:c*d*k=c*h2:=by rw[ed];grind
  rw[this];exact GE _ JZ
 rw[QO,QP]at M3 ⊢;obtain⟨_,⟨e,ee⟩,⟨f,ef⟩,q,eq⟩:=M3;have he:0<e:=dv (ee ▸ hg) Jz;have t8:y_*e+q*f=1:=by
  have p:(y_*e+q*f)*gg=1*gg:=by
   have:(y_*e+q*f)*gg=y_*(e*gg)+q*(f*gg):=by grind
   rw[this,<-ee,<-ef];lia
  exact G2 JZ p
 have eC:g/gg=e:=by rw[ee];exact GE _ JZ
 have eS:e*(c*s2-d*s1)/g=f:=by
  have:e*(c*s2-d*s1)=f*g:=by rw[ef,ee];grind
  rw[this];exact GE _ JZ
 rw[eC,eS,eW,eR];have hW:0<a*b*g:=Gf (Gf ha hb) hg;have em:=Hb (e*(d*s1)+f*u*w1) (a*b*g);have m1:=G0 (e*(d*s1)+f*u*w1) (show a*b*g≠0 by lia);have m2:=G1 (e*(d*s1)+f*u*w1) hW;generalize (e*(d*s1)+f*u*w1)%(a*b*g)=s at em m1 m2 ⊢;generalize (e*(d*s1)+f*u*w1)/(a*b*g)=t at em;subst ea eb ec ed;subst ee;exact AD ha hb hc hd he hk Jz t7 n_ ef t8 em m1 m2
def tz(hx:0<x)(hy:0<y)(M:Meas x y g u):0<x*y/g/\x*y/g<=x*y/\x*y/g/x*1<=y/\0<=x*y/g/x/\x*y/g/y<=x/\0<=x*y/g/y:=by
 have hg:=M.pos hx;obtain⟨_,⟨a,ea⟩,⟨b,eb⟩,_⟩:=M;have ha:0<a:=dv (ea ▸ hx) hg;have hb:0<b:=dv (eb ▸ hy) hg;have e1:x*y/g=a*b*g:=by
  have:x*y=(a*b*g)*g:=by rw[ea,eb];grind
  rw[this];exact GE _ JZ
 have e2:a*b*g/x=b:=by
  have:a*b*g=b*x:=by rw[ea];grind
  rw[this];exact GE _ JZ
 have e3:a*b*g/y=a:=by
  have:a*b*g=a*y:=by rw[eb];grind
  rw[this];exact GE _ JZ
 have p1:0<a*b*g:=Gf (Gf ha hb) hg;have q1:=(fF (w:=b) (h:=g) hb hg).1;have q2:=(fF (w:=a) (h:=g) ha hg).1;have q3:x*y=a*b*g*g:=by rw[ea,eb];grind
 have q4:=(fF (w:=a*b*g) (h:=g) p1 hg).1;rw[e1,e2,e3];lia
def cell(ns:List Int)(k:Int):Int:=ns.getD k.toNat 0
variable{ns:List Int}
def tD(h0:0<=k)(h1:k<(ns.length:Int)):atI (ns.map D.int) k=be (.int (cell ns k)):=by
 obtain⟨j,rfl⟩:∃j:Nat,k=(j:Int):=#[k.toNat,JZ];have hk:j<ns.length:=JZ
 refine bP ?_;rw[F6,Gb hk];simp[cell,Gv,Gb hk]
def AE(h1:(ns.length:Int)<=k):cell ns k=0:=by
 have hk:ns.length<=k.toNat:=JZ
 simp[cell,Gv,GB hk]
def FN(k:Int):∃m,atI [D.int 12,D.int 720] (k%2)=be (.int m)/\(m=12\/m=720):=by
 rcases(JZ:k%2=0\/k%2=1)with e|e
 .rw[e];exact#[12,rfl,.inl rfl]
 .rw[e];exact#[720,rfl,.inr rfl]
def eF(h:0<b):0<=a%b:=G0 a JZ
def eG(h:0<b):a%b<b:=G1 a h
def AF:SpD:=λds R=>∃(ns:List Int) (k:Int),ds=[.rol (ns.map D.int),.int k]/\0<=k/\R (.int (cell ns k))
def AG:SpD:=λds R=>∃i:Int,ds=[.int i]/\R (.bl true)
def AH:SpD:=λds R=>∃a b c d u v:Int,ds=[.tup [.int a,.int b],.tup [.int c,.int d],.int u,.int v]/\a.natAbs<1073741824/\b.natAbs<1073741824/\c.natAbs<1073741824/\d.natAbs<1073741824/\
 ¬a*d=b*c/\R (.bl (decide ((u*d-v*c).fmod (a*d-b*c)=0/\(a*v-b*u).fmod (a*d-b*c)=0)))
def AI:SpD:=λds R=>∃w h s x y:Int,ds=[.tup [.int w,.int h,.int s],.int x,.int y]/\0<w/\0<h/\h<1073741824/\0<=s/\s<1073741824/\
 R (.tup [.int ((x-y/h*s)%w),.int (y%h)])
def AJ:SpD:=λds R=>∃a b c d:Int,ds=[.tup [.int a,.int b],.tup [.int c,.int d]]/\b.natAbs<4611686018427387904/\d.natAbs<4611686018427387904/\
 ∀p0 p1 q0,Lev a b c d p0 p1 q0->R (.tup [.tup [.int p0,.int p1],.tup [.int q0,.int 0]])
def AK:SpD:=λds R=>∃a b c d:Int,ds=[.tup [.int a,.int b],.tup [.int c,.int d]]/\a.natAbs<4611686018427387904/\b.natAbs<4611686018427387904/\c.natAbs<4611686018427387904/\d.natAbs<4611686018427387904/\
 (a*d=b*c->R .non)/\(¬a*d=b*c->∀w h s,FamOf a b c d w h s->R (.tup [.int w,.int h,.int s]))
def AL:SpD:=λds R=>∃w h s:Int,ds=[.tup [.int w,.int h,.int s]]/\0<w/\R (.tup [.int w,.int h,.int (-s%w)])
def AM:SpD:=λds R=>∃w h s:Int,ds=[.tup [.int w,.int h,.int s]]/\0<w/\0<h/\w<4611686018427387904/\h<4611686018427387904/\0<=s/\s<4611686018427387904/\
 ∀w' h' s',FamOf 0 w (-h) s w' h' s'->R (.tup [.int w',.int h',.int s'])
def AN:SpD:=λds R=>∃x y:Int,ds=[.int x,.int y]/\x.natAbs<4611686018427387904/\y.natAbs<4611686018427387904/\∀g u,Meas x y g u->R (.tup [.int g,.int u])
def AO:SpD:=λds R=>∃w1 h1 s1 w2 h2 s2:Int,ds=[.tup [.int w1,.int h1,.int s1],.tup [.int w2,.int h2,.int s2]]/\0<w1/\w1<=33554432/\0<h1/\h1<=33554432/\0<=s1/\s1<w1/\0<w2/\w2<=33554432/\0<h2/\h2<=33554432/\0<=s2/\s2<w2/\
 ∀w h s A,MetR w1 h1 s1 w2 h2 s2 w h s A->R (.tup [.int w,.int h,.int s])
def Drawn(xs:List Int):Prop:=∀x∈xs,0<=x/\x<5040
variable{xs:List Int}
def Drawn.at(h:Drawn xs)(k:Int):0<=cell xs k/\cell xs k<5040:=by
 by_cases hk:k.toNat<xs.length
 .have:cell xs k=xs[k.toNat]:=by simp[cell,Gv,Gb hk]
  rw[this];exact h _ (GA hk)
 .have:cell xs k=0:=by simp[cell,Gv,GB (Hu hk)]
  lia
def dw(h0:0<=k)(h:k.toNat<xs.length):atI (xs.map D.int) k=be (.int (cell xs k)):=tD h0 JZ
def tE:xs.map D.int++[D.int v]=(xs++[v]).map D.int:=J8
def tF(h:Drawn xs)(h1:0<=v)(h2:v<5040):Drawn (xs++[v]):=by
 intro x hx;rcases Go.mp hx with q|q
 .exact h x q
 .rw[FP.mp q];exact#[h1,h2]
def AQ:SpD:=λds R=>∃(ns:List Int) (k:Int) (n:Nat),ds=[.rol (ns.map D.int),.int k,.int n]/\0<=k/\n<=100/\∀xs:List Int,xs.length=n->Drawn xs->R (.lst (xs.map D.int))
def AR:SpD:=λds R=>∃xs:List Int,ds=[.lst (xs.map D.int)]/\8<=xs.length/\Drawn xs/\
 ∀a b c d:Int,(-12<=a/\a<=12)->(-12<=b/\b<=12)->(-12<=c/\c<=12)->(-12<=d/\d<=12)->¬a*d=b*c->R (.lst [.tup [.int a,.int b],.tup [.int c,.int d]])
abbrev cs(x:Jj):List Nat:=x.cps.toList
def br(x:Jj):(cs x).length=x.length:=by simp[Str.length]
def tG:cs ""=[]:=rfl
def bv(x y:Jj):cs (x++y)=cs x++cs y:=by
 show((x++y:Jj)).cps.toList=_;rw[show(x++y:Jj).cps=x.cps++y.cps from rfl,Array.toList_append]
def aV(x y:Jj):(x++y).length=x.length+y.length:=by rw[<-br,bv,F9,br,br]
def bb(c:Nat):Prop:=c=46\/(49<=c/\c<=54)
def kK:∀(L:List Jj),cL (L.map D.str)=be L
 |[]=>rfl
 |x::L=>by simp[cL,kK L]
def eH(x:Jj):Prop:=0<x.length/\x.length<=7/\∀c∈cs x,bb c
def AS{x:Jj}(h:eH x)(v:Int):∃c,(x.length<=1000000/\atI (cs x) (v%(x.length:Int))=be c)/\bb c:=by
 have h1:=eF (a:=v) (show 0<(x.length:Int)by have:=h.1;lia);have h2:=eG (a:=v) (show 0<(x.length:Int)by have:=h.1;lia);obtain⟨j,ej⟩:∃j:Nat,v%(x.length:Int)=(j:Int):=#[(v%(x.length:Int)).toNat,JZ];have hj:j<(cs x).length:=by rw[br];lia
 refine#[(cs x)[j],#[by have:=h.2.1;lia,?_],h.2.2 _ (GA hj)];rw[ej];exact bP (Gb hj)
def AT:eH "1.23456":=#[J3,J3,by unfold bb;decide+kernel]
def AU:eH "12":=#[J3,J3,by unfold bb;decide+kernel]
def AV:eH "1.":=#[J3,J3,by unfold bb;decide+kernel]
def AW:eH "...2":=#[J3,J3,by unfold bb;decide+kernel]
def AX(k:Int):∃x,atI [D.str "1.23456",D.str "12",D.str "1.",D.str "...2"] (k%4)=be (.str x)/\eH x:=by
 rcases(JZ:k%4=0\/k%4=1\/k%4=2\/k%4=3)with e|e|e|e<;>rw[e]
 .exact#[_,rfl,AT]
 .exact#[_,rfl,AU]
 .exact#[_,rfl,AV]
 .exact#[_,rfl,AW]
def AY(k:Int):∃m,atI [D.int 1,D.int 70] (k%2)=be (.int m)/\(m=1\/m=70):=by
 rcases(JZ:k%2=0\/k%2=1)with e|e<;>rw[e]
 .exact#[1,rfl,.inl rfl]
 .exact#[70,rfl,.inr rfl]
structure Rows(L:List Str):Prop where
 many:1<=L.length/\L.length<=8
 wide:∃w,(1<=w/\w<=8)/\∀l∈L,l.length=w/\∀c∈cs l,bb c
variable{L:List Jj}
def Rows.of{w t:Nat}(h1:1<=t)(h2:t<=8)(hl:L.length=t)(w1:1<=w)(w2:w<=8)(h:∀l∈L,l.length=w/\∀c∈cs l,bb c):Rows L:=#[JZ,w,#[w1,w2],h]
def AZ{x:Jj}{c:Nat}{i:Nat}(h1:x.length=i)(h2:∀c∈cs x,bb c)(hc:bb c):(x++#[[c].toArray]:Jj).length=i+1/\∀c'∈cs (x++#[[c].toArray]),bb c':=by
 refine#[by rw[aV,h1];rfl,λc' q=>?_];rw[bv]at q;rcases Go.mp q with q|q
 .exact h2 _ q
 .have:c'=c:=by simpa[cs]using q
  rw[this];exact hc
def A1{x:Jj}:L.map D.str++[D.str x]=(L++[x]).map D.str:=J8
def cS(L:List Jj)(a b c d:Int):Str:=("["++Txt.join "/" L)++((((((((";":Jj)++(toString a:String))++",")++(toString b:String))++";")++(toString c:String))++",")++(toString d:String))++"]"
def cf(h:-12<=a/\a<=12):((toString a:String):Jj).length<=3:=by
 have key:∀k:Fin 25,((toString (((k.val:Nat):Int)-12):String):Jj).length<=3:=J3
 have:=key #[(a+12).toNat,JZ];have e:(((a+12).toNat:Nat):Int)-12=a:=JZ
 rw[e]at this;exact this
def B12(a:Int):Prop:=-12<=a/\a<=12
def B12.lt(h:B12 a):a.natAbs<1073741824:=by unfold B12 at h;lia
def tH{w:Nat}(h:∀l∈L,l.length=w):(L.map (·.length)).sum=L.length*w:=by
 induction L with
 |nil=>simp
 |cons x L ih=>
  rw[Gi,List.sum_cons,ih (λl hl=>h l (FW _ hl)),h x FZ,FV,Nat.succ_mul,HW]
def tI(h:Rows L):(L.map (·.length)).sum+L.length*("/":Jj).length<=72:=by
 obtain⟨h1,w,hw,h2⟩:=h;rw[tH (λl hl=>(h2 l hl).1)];have e:("/":Jj).length=1:=rfl;rw[e];have:=Hc h1.2 hw.2;lia
def A2:SpD:=λds R=>∃xs:List Int,ds=[.lst (xs.map D.int)]/\40<=xs.length/\Drawn xs/\∀L:List Jj,Rows L->R (.lst (L.map D.str))
def A3:SpD:=λds R=>∃(L:List Jj) (a b c d:Int),ds=[.lst (L.map D.str),.tup [.int a,.int b],.tup [.int c,.int d]]/\Rows L/\B12 a/\B12 b/\B12 c/\B12 d/\R (.str (cS L a b c d))
structure Leaf where
 rows:List Jj
 a:Int
 b:Int
 c:Int
 d:Int
 w0:Int
 w1:Int
 w2:Int
 w3:Int
 w4:Int
 w5:Int
 hues:List Int
def Leaf.D(l:Leaf):My.D:=.tup [.lst (l.rows.map D.str),.tup [.int l.a,.int l.b],.tup [.int l.c,.int l.d],.tup [.int l.w0,.int l.w1,.int l.w2,.int l.w3,.int l.w4,.int l.w5],.lst (l.hues.map D.int)]
structure Leaf.Ok(l:Leaf):Prop where
 rows:Rows l.rows
 a:B12 l.a
 b:B12 l.b
 c:B12 l.c
 d:B12 l.d
 ne:¬l.a*l.d=l.b*l.c
 w0:l.w0.natAbs<=1
 w1:l.w1.natAbs<=1
 w2:l.w2.natAbs<=1
 w3:l.w3.natAbs<=1
 w4:l.w4.natAbs<=1000
 w5:l.w5.natAbs<=1000
 many:l.hues.length=7
 hue:∀h∈l.hues,0<=h/\h<=6
def onB(a b c d u v:Int):Bool:=decide ((u*d-v*c).fmod (a*d-b*c)=0/\(a*v-b*u).fmod (a*d-b*c)=0)
def scanRow(f:Int->Bool):Nat->List Nat->Option Nat
 |_,[]=>B_
 |i,c::r=>if c≠46/\f i=true then be c else scanRow f (i+1) r
def bM(f:Int->Int->Bool):Nat->List Jj->Option Nat
 |_,[]=>B_
 |j,l::r=>match scanRow (λi=>f i j) 0 (cs l)with|some c=>be c|none=>bM f (j+1) r
def Leaf.hit(l:Leaf)(x y:Int):Option Nat:=bM (λi j=>onB l.a l.b l.c l.d (l.w0*x+l.w1*y+l.w4-i) (l.w2*x+l.w3*y+l.w5-j)) 0 l.rows
def Leaf.shows(l:Leaf)(x y:Int):Int:=match l.hit x y with|some c=>cell l.hues ((c:Int)-48)|none=>0
def one_sign{c:Nat}:(#[[c].toArray]:Jj)="."↔c=46:=by
 constructor
 .intro h;have:([c].toArray:Array Nat)=(".":Jj).cps:=congrArg Str.cps h;have e:([c].toArray:Array Nat).toList=(".":Jj).cps.toList:=by rw[this]
  have e2:(".":Jj).cps.toList=[46]:=rfl;rw[e2]at e;simpa using e
 .rintro rfl;rfl
def digit_of{c:Nat}(h:49<=c/\c<=54):PySem.intText? (#[[c].toArray]:Jj)=be ((c:Int)-48):=by
 rcases(JZ:c=49\/c=50\/c=51\/c=52\/c=53\/c=54)with e|e|e|e|e|e<;>subst e<;>decide+kernel
def at_str{j:Nat}{x:Jj}(h:L[j]?=be x):atI (L.map D.str) (j:Int)=be (.str x):=bP (by rw[F6,h];rfl)
def bE{n:Int}{k:Nat}{x:D}(h:((FQ n.toNat).map λk=>D.int ((k:Nat):Int))[k]?=be x):k<n.toNat/\x=.int (k:Int):=by
 have hk:k<n.toNat:=by simpa using(F7.mp h).1
 refine#[hk,?_];simp[hk]at h;exact h.symm
def bB{n:Int}:((FQ n.toNat).map λk=>D.int ((k:Nat):Int)).length=n.toNat:=J8
def aX:List Leaf->Int->Int->Int
 |[],_,_=>0
 |l::r,x,y=>if l.shows x y≠0 then l.shows x y else aX r x y
variable{hs:List Int}
def A5(h:∀h∈hs,0<=h/\h<=6)(k:Int):0<=cell hs k/\cell hs k<=6:=by
 by_cases hk:k.toNat<hs.length
 .have:cell hs k=hs[k.toNat]:=by simp[cell,Gv,Gb hk]
  rw[this];exact h _ (GA hk)
 .have:cell hs k=0:=by simp[cell,Gv,GB (Hu hk)]
  lia
variable{l:Leaf}
def Leaf.shows_le(h:l.Ok)(x y:Int):0<=l.shows x y/\l.shows x y<=6:=by
 unfold Leaf.shows;split
 .exact A5 h.hue _
 .lia
def tJ:∀{ls:List Leaf} (x y:Int),(∀l∈ls,l.Ok)->0<=aX ls x y/\aX ls x y<=6
 |[],_,_,_=>by simp[aX]
 |l::r,x,y,h=>by
  unfold aX;split
  .exact Leaf.shows_le (h l FZ) x y
  .exact tJ x y λl' q=>h l' (FW _ q)
def cu(L:List Jj)(a b c d:Int):Leaf:=#[L,a,b,c,d,1,0,0,1,0,0,[0,1,2,3,4,5,6]]
def A6:SpD:=λds R=>∃(ns:List Int) (k:Int),ds=[.rol (ns.map D.int),.int k]/\0<=k/\
 ∀(L:List Jj) (a b c d:Int),Rows L->B12 a->B12 b->B12 c->B12 d->¬a*d=b*c->R (.lst [.str (cS L a b c d),.int 0,.lst [(cu L a b c d).D]])
def A7:SpD:=λds R=>∃(l:Leaf) (x y:Int),ds=[l.D,.int x,.int y]/\l.Ok/\R (.int (l.shows x y))
def A8:SpD:=λds R=>∃(ls:List Leaf) (x y:Int),ds=[.lst (ls.map Leaf.D),.int x,.int y]/\(∀l∈ls,l.Ok)/\R (.int (aX ls x y))
inductive Pat where
 |mot (L:List Str) (a b c d:Int)
 |over (p q:Pat)
 |sh (a b:Int) (p:Pat)
 |mir (p:Pat)
 |tur (p:Pat)
 |hue (f g:Int) (p:Pat)
def Pat.text:Pat->Jj
 |.mot L a b c d=>cS L a b c d
 |.over p q=>(((("(":Jj)++p.text)++"|")++q.text)++")"
 |.sh a b p=>((((("s":Jj)++(toString a:String))++",")++(toString b:String))++":")++p.text
 |.mir p=>("m":Jj)++p.text
 |.tur p=>("t":Jj)++p.text
 |.hue f g p=>((("h":Jj)++(toString f:String))++(toString g:String))++p.text
def Pat.depth:Pat->Nat
 |.mot ..=>0
 |.over p q=>1+max p.depth q.depth
 |.sh _ _ p=>p.depth+1
 |.mir p=>p.depth+1
 |.tur p=>p.depth+1
 |.hue _ _ p=>p.depth+1
def Leaf.by(l:Leaf)(b0 b1 b2 b3 b4 b5:Int):Leaf:=
 {l with w0:=l.w0*b0+l.w1*b2,w1:=l.w0*b1+l.w1*b3,w2:=l.w2*b0+l.w3*b2,w3:=l.w2*b1+l.w3*b3,w4:=l.w4+l.w0*b4+l.w1*b5,w5:=l.w5+l.w2*b4+l.w3*b5}
def cj(f g h:Int):Int:=if h=f then g else h
def Leaf.dye(l:Leaf)(f g:Int):Leaf:={l with hues:=l.hues.map (cj f g)}
def Pat.leaves:Pat->List Leaf
 |.mot L a b c d=>[cu L a b c d]
 |.over p q=>p.leaves++q.leaves
 |.sh a b p=>p.leaves.map (λl=>l.by 1 0 0 1 (-a) (-b))
 |.mir p=>p.leaves.map (λl=>l.by (-1) 0 0 1 0 0)
 |.tur p=>p.leaves.map (λl=>l.by 0 1 (-1) 0 0 0)
 |.hue f g p=>p.leaves.map (λl=>(l.by 1 0 0 1 0 0).dye f g)
def Pat.show:Pat->Int->Int->Int
 |.mot L a b c d,x,y=>(cu L a b c d).shows x y
 |.over p q,x,y=>if p.show x y≠0 then p.show x y else q.show x y
 |.sh a b p,x,y=>p.show (x-a) (y-b)
 |.mir p,x,y=>p.show (-x) y
 |.tur p,x,y=>p.show y (-x)
 |.hue f g p,x,y=>cj f g (p.show x y)
def Pat.Wf:Pat->Prop
 |.mot L a b c d=>Rows L/\B12 a/\B12 b/\B12 c/\B12 d/\¬a*d=b*c
 |.over p q=>p.Wf/\q.Wf
 |.sh a b p=>B12 a/\B12 b/\p.Wf
 |.mir p=>p.Wf
 |.tur p=>p.Wf
 |.hue f g p=>(1<=f/\f<=6)/\(1<=g/\g<=6)/\p.Wf
def Leaf.by_shows(l:Leaf)(b0 b1 b2 b3 b4 b5 x y:Int):(l.by b0 b1 b2 b3 b4 b5).shows x y=l.shows (b0*x+b1*y+b4) (b2*x+b3*y+b5):=by
 have e1:(l.w0*b0+l.w1*b2)*x+(l.w0*b1+l.w1*b3)*y+(l.w4+l.w0*b4+l.w1*b5)=l.w0*(b0*x+b1*y+b4)+l.w1*(b2*x+b3*y+b5)+l.w4:=K'
 have e2:(l.w2*b0+l.w3*b2)*x+(l.w2*b1+l.w3*b3)*y+(l.w5+l.w2*b4+l.w3*b5)=l.w2*(b0*x+b1*y+b4)+l.w3*(b2*x+b3*y+b5)+l.w5:=K'
 simp only[Leaf.shows,Leaf.hit,Leaf.by,e1,e2]
def fG(b0 b1 b2 b3 b4 b5 x y:Int):∀ls:List Leaf,aX (ls.map (λl=>l.by b0 b1 b2 b3 b4 b5)) x y=aX ls (b0*x+b1*y+b4) (b2*x+b3*y+b5)
 |[]=>rfl
 |l::r=>by
  rw[Gi,aX,aX,Leaf.by_shows,fG b0 b1 b2 b3 b4 b5 x y r]
def scanRow_sign{f:Int->Bool}:∀{cs:List Nat} {i c:Nat},(∀c∈cs,bb c)->scanRow f i cs=be c->49<=c/\c<=54
 |[],_,_,_,h=>by cases h
 |a::r,i,c,hs,h=>by
  rw[scanRow]at h;split at h
  .rename_i q;cases h;have:=hs a FZ;unfold bb at this;have:=q.1;lia
  .exact scanRow_sign (λc q=>hs c (FW _ q)) h
def kL{f:Int->Int->Bool}:∀{L:List Jj} {j c:Nat},(∀l∈L,∀c∈cs l,bb c)->bM f j L=be c->49<=c/\c<=54
 |[],_,_,_,h=>by cases h
 |a::r,j,c,hs,h=>by
  rw[bM]at h;split at h
  .rename_i q;cases h;exact scanRow_sign (hs a FZ) q
  .exact kL (λl q=>hs l (FW _ q)) h
def A9(h:k.toNat<hs.length):cell (hs.map (cj f g)) k=cj f g (cell hs k):=by
 simp[cell,Gv,F6,Gb h]
def Leaf.dye_shows(ok:l.Ok)(hf:1<=f)(x y:Int):(l.dye f g).shows x y=cj f g (l.shows x y):=by
 have e:(l.dye f g).hit x y=l.hit x y:=rfl;unfold Leaf.shows;rw[e];cases h:l.hit x y with
 |none=>simp[cj];lia
 |some c=>
  have hc:49<=c/\c<=54:=kL (λl' q=>let ⟨_,_,_,h⟩:=ok.rows;(h l' q).2) h;exact A9 (by rw[ok.many];lia)
def tK(hf:1<=f)(hg:1<=g):cj f g h=0↔h=0:=by
 unfold cj;split<;>lia
def tL{f g:Int}(hf:1<=f)(hg:1<=g)(x y:Int):∀ls:List Leaf,(∀l∈ls,l.Ok)->aX (ls.map (λl=>l.dye f g)) x y=cj f g (aX ls x y)
 |[],_=>by simp[aX,cj];lia
 |l::r,h=>by
  rw[Gi,aX,aX,Leaf.dye_shows (h l FZ) hf,tL hf hg x y r λl q=>h l (FW _ q)];by_cases z:l.shows x y=0
  .rw[if_neg (λq=>q ((tK hf hg).mpr z)),if_neg (λq=>q z)]
  .rw[if_pos (λq=>z ((tK hf hg).mp q)),if_pos z]
def tM(x y:Int):∀(a b:List Leaf),aX (a++b) x y=if aX a x y≠0 then aX a x y else aX b x y
 |[],b=>by simp[aX]
 |l::r,b=>by
  rw[IK,aX,aX];by_cases z:l.shows x y≠0
  .rw[if_pos z,if_pos z,if_pos z]
  .rw[if_neg z,if_neg z,tM x y r b]
structure Leaf.Near(l:Leaf)(n:Nat):Prop where
 u0:(l.w0.natAbs=1/\l.w1=0/\l.w2=0/\l.w3.natAbs=1)\/(l.w0=0/\l.w1.natAbs=1/\l.w2.natAbs=1/\l.w3=0)
 w4:l.w4.natAbs<=24*n
 w5:l.w5.natAbs<=24*n
variable{n:Nat}
def Leaf.Near.mono{m:Nat}(h:l.Near n)(k:n<=m):l.Near m:=#[h.u0,by have:=h.w4;lia,by have:=h.w5;lia]
def Leaf.Near.unit(h:l.Near n):(l.w0=1\/l.w0=-1\/l.w0=0)/\(l.w1=1\/l.w1=-1\/l.w1=0)/\(l.w2=1\/l.w2=-1\/l.w2=0)/\(l.w3=1\/l.w3=-1\/l.w3=0):=by
 have k:∀{w:Int},w.natAbs=1->w=1\/w=-1\/w=0:=λ{w} e=>(Int.natAbs_eq w).imp (λz=>by rw[z,e];rfl) λz=>.inl (by rw[z,e];rfl);rcases h.u0 with⟨p,q,r,t⟩|⟨p,q,r,t⟩
 .exact#[k p,.inr (.inr q),.inr (.inr r),k t]
 .exact#[.inr (.inr p),k q,k r,.inr (.inr t)]
def Ba(h:w=1\/w=-1\/w=0):w.natAbs<=1:=by rcases h with rfl|rfl|rfl<;>decide
def near_add(h:e.natAbs<=24*n)(hw:w=1\/w=-1\/w=0)(hv:v=1\/v=-1\/v=0)(ha:B12 a)(hb:B12 b):(e+w* -a+v* -b).natAbs<=24*(n+1):=by
 have m:∀{w a:Int},(w=1\/w=-1\/w=0)->B12 a->(w* -a).natAbs<=12:=λ{w a} hw ha=>by
  rw[Hz,IJ];exact Hc (Ba hw) (show a.natAbs<=12 by unfold B12 at ha;clear hw;lia)
 rw[show 24*(n+1)=24*n+12+12 from rfl];exact FY (IL _ _) (IM (FY (IL _ _) (IM h (m hw ha))) (m hv hb))
def Bb(h:l.Near n)(ha:B12 a)(hb:B12 b):(l.by 1 0 0 1 (-a) (-b)).Near (n+1):=by
 obtain⟨h0,h1,h2,h3⟩:=h.unit;exact#[by simpa[Leaf.by]using h.u0,near_add h.w4 h0 h1 ha hb,near_add h.w5 h2 h3 ha hb]
def Bc(h:l.Near n):(l.by (-1) 0 0 1 0 0).Near (n+1):=by
 have p:=h.w4;have q:=h.w5;exact#[by simpa[Leaf.by]using h.u0,by simp[Leaf.by];lia,by simp[Leaf.by];lia]
def Bd(h:l.Near n):(l.by 0 1 (-1) 0 0 0).Near (n+1):=by
 have p:=h.w4;have q:=h.w5;refine#[?_,by simp[Leaf.by];lia,by simp[Leaf.by];lia];rcases h.u0 with⟨a,b,c,d⟩|⟨a,b,c,d⟩
 .exact .inr (by simp[Leaf.by,a,b,c,d])
 .exact .inl (by simp[Leaf.by,a,b,c,d])
def tN(h:l.Near n):((l.by 1 0 0 1 0 0).dye f g).Near (n+1):=by
 have p:=h.w4;have q:=h.w5;exact#[by simpa[Leaf.by,Leaf.dye]using h.u0,by simp[Leaf.by,Leaf.dye];lia,by simp[Leaf.by,Leaf.dye];lia]
structure Leaf.Good(l:Leaf):Prop where
 rows:Rows l.rows
 a:B12 l.a
 b:B12 l.b
 c:B12 l.c
 d:B12 l.d
 ne:¬l.a*l.d=l.b*l.c
 many:l.hues.length=7
 hue:∀h∈l.hues,0<=h/\h<=6
def Leaf.ok_of(g:l.Good)(h:l.Near n)(hn:n<=40):l.Ok:=by
 have:=h.u0;have:=h.w4;have:=h.w5;exact#[g.rows,g.a,g.b,g.c,g.d,g.ne,JZ,JZ,JZ,JZ,JZ,JZ,g.many,g.hue]
def Pat.leaf_good:∀{p:Pat},p.Wf->∀l∈p.leaves,l.Good/\l.Near p.depth
 |.mot L a b c d,h,l,q=>by
  have:l=cu L a b c d:=by simpa[Pat.leaves]using q
  subst this;obtain⟨h1,h2,h3,h4,h5,h6⟩:=h;exact#[#[h1,h2,h3,h4,h5,h6,rfl,by intro h q;simp[cu]at q;lia],#[by simp[cu],by simp[cu],by simp[cu]]]
 |.over p r,h,l,q=>by
  rcases Go.mp q with q|q
  .obtain⟨g,n⟩:=Pat.leaf_good h.1 l q;exact#[g,n.mono (by simp only[Pat.depth];lia)]
  .obtain⟨g,n⟩:=Pat.leaf_good h.2 l q;exact#[g,n.mono (by simp only[Pat.depth];lia)]
 |.sh a b p,h,l,q=>by
  obtain⟨l',q',rfl⟩:=Gm.mp q;obtain⟨g,n⟩:=Pat.leaf_good h.2.2 l' q';exact#[#[g.rows,g.a,g.b,g.c,g.d,g.ne,g.many,g.hue],Bb n h.1 h.2.1]
 |.mir p,h,l,q=>by
  obtain⟨l',q',rfl⟩:=Gm.mp q;obtain⟨g,n⟩:=Pat.leaf_good (p:=p) h l' q';exact#[#[g.rows,g.a,g.b,g.c,g.d,g.ne,g.many,g.hue],Bc n]
 |.tur p,h,l,q=>by
  obtain⟨l',q',rfl⟩:=Gm.mp q;obtain⟨g,n⟩:=Pat.leaf_good (p:=p) h l' q';exact#[#[g.rows,g.a,g.b,g.c,g.d,g.ne,g.many,g.hue],Bd n]
 |.hue f k p,h,l,q=>by
  obtain⟨l',q',rfl⟩:=Gm.mp q;obtain⟨g,n⟩:=Pat.leaf_good (p:=p) h.2.2 l' q';refine#[#[g.rows,g.a,g.b,g.c,g.d,g.ne,?_,λv hv=>?_],tN n]
  .show(l'.hues.map _).length=7;rw[F4];exact g.many
  .obtain⟨u,hu,rfl⟩:=Gm.mp hv;have:=g.hue u hu;have:=h.2.1;unfold cj;split<;>lia
variable{p:Pat}
def Pat.leaf_ok(h:p.Wf)(hd:p.depth<=40):∀l∈p.leaves,l.Ok:=λl q=>Leaf.ok_of (Pat.leaf_good h l q).1 (Pat.leaf_good h l q).2 hd
def Pat.show_leaves:∀{p:Pat},p.Wf->p.depth<=40->∀x y,aX p.leaves x y=p.show x y
 |.mot L a b c d,_,_,x,y=>by
  simp only[Pat.leaves,Pat.show,aX];split
  .rfl
  .lia
 |.over p q,h,hd,x,y=>by
  simp only[Pat.depth]at hd;rw[Pat.leaves,tM,Pat.show_leaves h.1 JZ,Pat.show_leaves h.2 JZ,Pat.show]
 |.sh a b p,h,hd,x,y=>by
  simp only[Pat.depth]at hd;rw[Pat.leaves,fG,Pat.show_leaves h.2.2 JZ,Pat.show];congr 1<;>lia
 |.mir p,h,hd,x,y=>by
  simp only[Pat.depth]at hd;rw[Pat.leaves,fG,Pat.show_leaves (p:=p) h JZ,Pat.show];congr 1<;>lia
 |.tur p,h,hd,x,y=>by
  simp only[Pat.depth]at hd;rw[Pat.leaves,fG,Pat.show_leaves (p:=p) h JZ,Pat.show];congr 1<;>lia
 |.hue f g p,h,hd,x,y=>by
  simp only[Pat.depth]at hd;have e:p.leaves.map (λl=>(l.by 1 0 0 1 0 0).dye f g)=(p.leaves.map (λl=>l.by 1 0 0 1 0 0)).map (λl=>l.dye f g):=by rw[Hf];rfl
  rw[Pat.leaves,e,tL h.1.1 h.2.1.1,fG,Pat.show_leaves h.2.2 JZ,Pat.show]
  .congr 2<;>lia
  .intro l q;obtain⟨l',q',rfl⟩:=Gm.mp q;obtain⟨g',n⟩:=Pat.leaf_good h.2.2 l' q';have n':=tN (f:=f) (g:=g) n;have:(l'.by 1 0 0 1 0 0).Near (p.depth+1):=#[n'.u0,n'.w4,n'.w5];exact Leaf.ok_of #[g'.rows,g'.a,g'.b,g'.c,g'.d,g'.ne,g'.many,g'.hue] this JZ
def Pat.D(p:Pat):My.D:=.lst [.str p.text,.int p.depth,.lst (p.leaves.map Leaf.D)]
def tO(h:1<=a/\a<=6):((toString a:String):Jj).length<=3:=cf JZ
def Be(hn:¬a*d=b*c)(h:(u*d-v*c).fmod (a*d-b*c)=0/\(a*v-b*u).fmod (a*d-b*c)=0):∃i j,u=i*a+j*c/\v=i*b+j*d:=by
 have hz:a*d-b*c≠0:=KK
 obtain⟨i,ei⟩:(a*d-b*c)∣(u*d-v*c):=#[_,(IN h.1).symm];obtain⟨j,ej⟩:(a*d-b*c)∣(a*v-b*u):=#[_,(IN h.2).symm];refine#[i,j,?_,?_]
 .have:(a*d-b*c)*u=(a*d-b*c)*(i*a+j*c):=by
   have q1:(a*d-b*c)*u=a*(u*d-v*c)+c*(a*v-b*u):=K'
   rw[q1,ei,ej];grind
  exact HV hz this
 .have:(a*d-b*c)*v=(a*d-b*c)*(i*b+j*d):=by
   have q1:(a*d-b*c)*v=b*(u*d-v*c)+d*(a*v-b*u):=K'
   rw[q1,ei,ej];grind
  exact HV hz this
def Uni.trans{x0 x1 y0 y1:Int}(h:Uni a b c d p0 p1 q0 q1)(k:Uni p0 p1 q0 q1 x0 x1 y0 y1):Uni a b c d x0 x1 y0 y1:=by
 obtain⟨m,n,k1,l,hd,rfl,rfl,rfl,rfl⟩:=h;obtain⟨m',n',k',l',d7,rfl,rfl,rfl,rfl⟩:=k;have dt:(m'*m+n'*k1)*(k'*n+l'*l)-(m'*n+n'*l)*(k'*m+l'*k1)=(m'*l'-n'*k')*(m*l-n*k1):=K'
 refine#[m'*m+n'*k1,m'*n+n'*l,k'*m+l'*k1,k'*n+l'*l,?_,K',K',K',K'];rw[dt];rcases hd with e|e<;>rcases d7 with e'|e'<;>rw[e,e']<;>decide
def fH:∀(n:Nat) (a b c d:Int),d.natAbs<=n->∃p0 p1 q0,Lev a b c d p0 p1 q0
 |n,a,b,c,d,hn=>by
  by_cases hd:d=0
  .subst hd;by_cases hb:0<=b
   .exact#[a,b,c,hb,Uni.refl a b c 0]
   .exact#[-a,-b,c,JZ,(Uni.refl a b c 0).neg]
  .match n,hn with
   |0,hn=>exact absurd (JZ:d=0) hd
   |n+1,hn=>
    have lt:=(fdm b d hd).1;obtain⟨p0,p1,q0,h0,hu⟩:=fH n c d (a-b.fdiv d*c) (b-b.fdiv d*d) JZ;exact#[p0,p1,q0,h0,((Uni.refl a b c d).step (b.fdiv d)).trans hu]
def FO(hn:¬a*d=b*c)(g0:0<=g)(g1:g∣b)(g2:g∣d)(g3:∀e,e∣b->e∣d->e∣g):
  ∃w s,FamOf a b c d w g s:=by
 obtain⟨p0,p1,q0,hL⟩:=fH d.natAbs a b c d (FR _);have hF:=gX hn hL;have hp:=hF.2.1;obtain⟨m,n,k,l,_,e1,e2,e3,e4⟩:=hL.2;obtain⟨m',n',k',l',_,f1,f2,f3,f4⟩:=hL.2.inv;have d1:p1∣g:=g3 p1 #[m',by rw[f2];grind] #[k',by rw[f4];grind];have d2:g∣p1:=by
  rw[e2];exact Int.dvd_add (IP g1) (IP g2)
 have:p1=g:=Int.dvd_antisymm JZ g0 d1 d2;subst this;exact#[_,_,hF]
def FamOf.uniq_lean{i:Int}(f:FamOf a b c d w h s)(e1:x=i*a+j*c)(e2:h=i*b+j*d)(h0:0<=x)(h1:x<=s):x=s:=by
 obtain⟨hw,hh,hs,J6,hu⟩:=f;obtain⟨m,n,k,l,_,f1,f2,f3,f4⟩:=hu.inv;have ex:x=(i*m+j*k)*w+(i*n+j*l)*s:=by rw[e1,f1,f3];grind
 have eh:h=(i*n+j*l)*h:=by
  have:i*b+j*d=(i*n+j*l)*h:=by rw[f2,f4];grind
  rw[<-this];exact e2
 have one:i*n+j*l=1:=by
  have:(i*n+j*l)*h=1*h:=by lia
  exact G2 JZ this
 rw[one]at ex;generalize i*m+j*k=t at ex;have:t*w=x-s:=JZ
 rcases(JZ:t<=-1\/t=0\/1<=t)with z|z|z
 .have:=Gq z (show 0<=w by lia);lia
 .subst z;lia
 .have:=Gq z (show 0<=w by lia);lia
def kM(x y:Int):∃g u,Meas x y g u:=by
 obtain⟨p0,p1,q0,hL⟩:=fH y.natAbs 1 x 0 y (FR _);exact#[p1,p0,tm #[hL.1,hL.2]]
structure Fm(w h s:Int):Prop where
 w0:0<w
 w1:w<=720
 h0:0<h
 h1:h<=720
 s0:0<=s
 sw:s<w
variable{A:Int}
def MetR.high(M:MetR w1 h1 s1 w2 h2 s2 w h s A)(hh:0<h1)(hj:1<=j)(e1:∃i,x=i*w1+j*s1)(e2:∃i k,x=i*w2+k*s2/\j*h1=k*h2):h<=j*h1/\(j*h1=h->0<=x->x<w->x=s):=by
 obtain⟨i,e1⟩:=e1;obtain⟨i',k,e3,e4⟩:=e2;obtain⟨a,b,e5,e6⟩:=M.all x (j*h1) #[i,j,e1,rfl] #[i',k,e3,e4];have hp:0<j*h1:=Gf JZ hh;have hb:1<=b:=by
  rcases(JZ:b<=0\/1<=b)with z|z
  .have:=Hd z (show 0<=h by have:=M.h0;lia);lia
  .exact z
 refine#[?_,λe x0 x1=>?_]
 .have:=Gq hb (show 0<=h by have:=M.h0;lia);lia
 .have ob:b=1:=by
   have:b*h=1*h:=by lia
   exact G2 (by have:=M.h0;lia) this
  rw[ob]at e5;have s0:=M.s0;have sw:=M.sw;have:a*w=x-s:=JZ
  rcases(JZ:a<=-1\/a=0\/1<=a)with z|z|z
  .have:=Gq z (show 0<=w by lia);lia
  .subst z;lia
  .have:=Gq z (show 0<=w by lia);lia
def InF(w h s x y:Int):Prop:=∃i j,x=i*w+j*s/\y=j*h
def FamOf.lat(f:FamOf a b c d w h s)(x y:Int):InF w h s x y↔∃i j,x=i*a+j*c/\y=i*b+j*d:=by
 obtain⟨_,_,_,_,hu⟩:=f;obtain⟨m,n,k,l,_,e1,e2,e3,e4⟩:=id hu;obtain⟨m',n',k',l',_,f1,f2,f3,f4⟩:=hu.inv;constructor
 .rintro⟨i,j,rfl,rfl⟩;refine#[i*m+j*k,i*n+j*l,by rw[e1,e3];grind,?_];have z:i*0+j*h=(i*m+j*k)*b+(i*n+j*l)*d:=by rw[e2,e4];grind
  lia
 .rintro⟨i,j,rfl,rfl⟩;refine#[i*m'+j*k',i*n'+j*l',by rw[f1,f3];grind,by rw[f2,f4];grind]
def MetR.lat(M:MetR w1 h1 s1 w2 h2 s2 w h s A)(x y:Int):InF w h s x y↔InF w1 h1 s1 x y/\InF w2 h2 s2 x y:=by
 constructor
 .rintro⟨i,j,rfl,rfl⟩;obtain⟨a1,e1⟩:=M.in1;obtain⟨a2,e2⟩:=M.in2;obtain⟨b1,c1,e3,e4⟩:=M.up1;obtain⟨b2,c2,e5,e6⟩:=M.up2;refine#[#[i*a1+j*b1,j*c1,?_,?_],#[i*a2+j*b2,j*c2,?_,?_]]
  .rw[e1,e3];grind
  .rw[e4];grind
  .rw[e2,e5];grind
  .rw[e6];grind
 .rintro⟨h1,h2⟩;exact M.all x y h1 h2
variable{w' h' s':Int}
def InF.le(hw:0<w)(hh:0<h)(NJ:0<w')(Lr:0<h')(sub:∀x y,InF w' h' s' x y->InF w h s x y):w*h<=w'*h'/\w<=w'/\h<=h':=by
 obtain⟨i,j,e1,e2⟩:=sub w' 0 #[1,0,JZ,JZ];have j0:j=0:=by
  rcases HX.mp e2.symm with z|z
  .exact z
  .lia
 subst j0;have i1:1<=i:=by
  rcases(JZ:i<=0\/1<=i)with z|z
  .have:=Hd z (show 0<=w by lia);lia
  .exact z
 obtain⟨i',j',e3,e4⟩:=sub s' h' #[0,1,JZ,JZ];have j1:1<=j':=by
  rcases(JZ:j'<=0\/1<=j')with z|z
  .have:=Hd z (show 0<=h by lia);lia
  .exact z
 have a1:=Gq i1 (show 0<=w by lia);have a2:=Gq j1 (show 0<=h by lia);have b1:w<=w':=JZ
 have b2:h<=h':=JZ
 exact#[Int.mul_le_mul b1 b2 JZ JZ,b1,b2]
def InF.uniq(hw:0<w)(hh:0<h)(hs:0<=s)(J6:s<w)(NJ:0<w')(Lr:0<h')(i6:0<=s')(QQ:s'<w')(e:∀x y,InF w h s x y↔InF w' h' s' x y):w=w'/\h=h'/\s=s':=by
 obtain⟨_,a1,a2⟩:=InF.le hw hh NJ Lr (λx y q=>(e x y).mpr q);obtain⟨_,b1,b2⟩:=InF.le NJ Lr hw hh (λx y q=>(e x y).mp q);have ew:w=w':=JZ
 have eh:h=h':=JZ
 subst ew eh;refine#[rfl,rfl,?_];obtain⟨i,j,e1,e2⟩:=(e s h).mp #[0,1,JZ,JZ];have j1:j=1:=by
  have:j*h=1*h:=by lia
  exact G2 JZ this
 subst j1;have:i*w=s-s':=JZ
 rcases(JZ:i<=-1\/i=0\/1<=i)with z|z|z
 .have:=Gq z (show 0<=w by lia);lia
 .subst z;lia
 .have:=Gq z (show 0<=w by lia);lia
structure Fam0(w h s:Int):Prop where
 w0:0<w
 h0:0<h
 s0:0<=s
 sw:s<w
def Bf(f:Fam0 w1 h1 s1)(k:Fam0 w2 h2 s2):∃w h s,Fam0 w h s/\∀x y,InF w h s x y↔InF w1 h1 s1 x y/\InF w2 h2 s2 x y:=by
 obtain⟨g,u,M1⟩:=kM w1 w2;obtain⟨k',u',M2⟩:=kM h1 h2;obtain⟨gg,y_,M3⟩:=kM g (h1*h2/k'/h2*s2-h1*h2/k'/h1*s1);have M:=tw f.w0 k.w0 f.h0 k.h0 M1 M2 M3;exact#[_,_,_,#[M.w0,M.h0,M.s0,M.sw],M.lat]
def Pat.Lat:Pat->Int->Int->Prop
 |.mot _ a b c d,x,y=>∃i j,x=i*a+j*c/\y=i*b+j*d
 |.over p q,x,y=>p.Lat x y/\q.Lat x y
 |.sh _ _ p,x,y=>p.Lat x y
 |.mir p,x,y=>p.Lat (-x) y
 |.tur p,x,y=>p.Lat y (-x)
 |.hue _ _ p,x,y=>p.Lat x y
structure Pat.Fam(p:Pat)(w h s:Int):Prop where
 f:Fam0 w h s
 lat:∀x y,InF w h s x y↔p.Lat x y
def Pat.Fam.uniq(a:p.Fam w h s)(b:p.Fam w' h' s'):w=w'/\h=h'/\s=s':=
 InF.uniq a.f.w0 a.f.h0 a.f.s0 a.f.sw b.f.w0 b.f.h0 b.f.s0 b.f.sw λx y=>(a.lat x y).trans (b.lat x y).symm
def Pat.Fam.mot(k:FamOf a b c d w h s):(Pat.mot L a b c d).Fam w h s:=#[#[k.1,k.2.1,k.2.2.1,k.2.2.2.1],k.lat]
def Pat.Fam.sh(a b:Int)(k:p.Fam w h s):(Pat.sh a b p).Fam w h s:=#[k.f,k.lat]
def Pat.Fam.hue(a b:Int)(k:p.Fam w h s):(Pat.hue a b p).Fam w h s:=#[k.f,k.lat]
def Pat.Fam.mir(k:p.Fam w h s):(Pat.mir p).Fam w h (-s%w):=by
 refine#[#[k.f.w0,k.f.h0,eF k.f.w0,eG k.f.w0],λx y=>?_];show _↔p.Lat (-x) y;rw[<-k.lat];have e:=Hb (-s) w;generalize -s%w=r at e;generalize -s/w=t at e;constructor
 .rintro⟨i,j,rfl,rfl⟩;exact#[j*t-i,j,by rw[e];grind,rfl]
 .rintro⟨i,j,ex,rfl⟩;exact#[j*t-i,j,by rw[e];grind,rfl]
def Pat.Fam.tur(k:p.Fam w h s)(f:FamOf 0 w (-h) s w' h' s'):(Pat.tur p).Fam w' h' s':=by
 refine#[#[f.1,f.2.1,f.2.2.1,f.2.2.2.1],λx y=>?_];show _↔p.Lat y (-x);rw[<-k.lat,f.lat];constructor
 .rintro⟨i,j,rfl,rfl⟩;exact#[i,j,K',K']
 .rintro⟨i,j,ex,ey⟩;exact#[i,j,K',K']
def Pat.Fam.over{q:Pat}(k1:p.Fam w1 h1 s1)(k2:q.Fam w2 h2 s2)(M:MetR w1 h1 s1 w2 h2 s2 w h s A):(Pat.over p q).Fam w h s:=by
 refine#[#[M.w0,M.h0,M.s0,M.sw],λx y=>?_];rw[M.lat,k1.lat,k2.lat];exact Iff.rfl
def tP(hw:0<w)(hh:0<h):∃w' h' s',FamOf 0 w (-h) s w' h' s'/\w'*h'=w*h:=by
 have hp:0<w*h:=Gf hw hh;have hn:¬0*s=w* -h:=by rw[HA];lia
 obtain⟨p0,p1,q0,hL⟩:=fH s.natAbs 0 w (-h) s (FR _);have f:=gX hn hL;refine#[_,_,_,f,?_];have Kv:=Gf f.1 f.2.1;have c:=f.cells;rw[HA]at c;lia
def tQ(hn:¬a*d=b*c):∃w h s,FamOf a b c d w h s/\(Pat.mot L a b c d).Fam w h s:=by
 obtain⟨p0,p1,q0,hL⟩:=fH d.natAbs a b c d (FR _);have f:=gX hn hL;exact#[_,_,_,f,.mot f]
def Pat.fam_ex:∀{p:Pat},p.Wf->∃w h s,p.Fam w h s
 |.mot L a b c d,h=>by
  obtain⟨w,k,s,_,f⟩:=tQ (L:=L) h.2.2.2.2.2;exact#[w,k,s,f]
 |.over p q,h=>by
  obtain⟨w1,h1,s1,f1⟩:=Pat.fam_ex h.1;obtain⟨w2,h2,s2,f2⟩:=Pat.fam_ex h.2;obtain⟨w,k,s,f,e⟩:=Bf f1.f f2.f;refine#[w,k,s,f,λx y=>?_];rw[e,f1.lat,f2.lat];exact Iff.rfl
 |.sh a b p,h=>by
  obtain⟨w,k,s,f⟩:=Pat.fam_ex h.2.2;exact#[w,k,s,f.sh a b]
 |.mir p,h=>by
  obtain⟨w,k,s,f⟩:=Pat.fam_ex (p:=p) h;exact#[w,k,_,f.mir]
 |.tur p,h=>by
  obtain⟨w,k,s,f⟩:=Pat.fam_ex (p:=p) h;obtain⟨w',k',s',f',_⟩:=tP (s:=s) f.f.w0 f.f.h0;exact#[w',k',s',f.tur f']
 |.hue a b p,h=>by
  obtain⟨w,k,s,f⟩:=Pat.fam_ex h.2.2;exact#[w,k,s,f.hue a b]
def Pat.Fits(p:Pat):Prop:=∃w h s,p.Fam w h s/\w*h<=720
def Pat.fits_mot(ha:B12 a)(hb:B12 b)(hc:B12 c)(hd:B12 d)(hn:¬a*d=b*c):(Pat.mot L a b c d).Fits:=by
 obtain⟨w,h,s,k,f⟩:=tQ (L:=L) hn;refine#[w,h,s,f,?_];have kc:=k.cells;unfold B12 at*;have m1:=ce (a:=a) (d:=d) (A:=12) (B:=12) JZ JZ;have m2:=ce (a:=b) (d:=c) (A:=12) (B:=12) JZ JZ;lia
def Pat.Fits.mir(k:p.Fits):(Pat.mir p).Fits:=by
 obtain⟨w,h,s,f,q⟩:=k;exact#[w,h,_,f.mir,q]
def Bg(hL:Rows L)(ha:B12 a)(hb:B12 b)(hc:B12 c)(hd:B12 d):(cS L a b c d).length<=100:=by
 have la:=cf ha;have lb:=cf hb;have lc:=cf hc;have ld:=cf hd;have l1:(";":Jj).length=1:=rfl;have l2:(",":Jj).length=1:=rfl;have l3:("[":Jj).length=1:=rfl;have l4:("]":Jj).length=1:=rfl;have ls:=tI hL;have lj:=StrLaws.join_length_le "/" L;have lg:(Txt.join "/" L).length<=72:=by
  have e:Txt.join "/" L=Str.join "/" L:=StrLaws.glued_eq_join _ _;rw[e];exact FY lj ls
 unfold cS
 repeat rw[aV]
 lia
def Pat.text_len:∀{p:Pat},p.Wf->p.text.length+10<=110*2^p.depth
 |.mot L a b c d,h=>by
  have:=Bg h.1 h.2.1 h.2.2.1 h.2.2.2.1 h.2.2.2.2.1;show(cS L a b c d).length+10<=110*2^0;lia
 |.over p q,h=>by
  have h1:=Pat.text_len h.1;have h2:=Pat.text_len h.2;have m1:2^p.depth<=2^(max p.depth q.depth):=HY J7 (Nat.le_max_left _ _);have m2:2^q.depth<=2^(max p.depth q.depth):=HY J7 (Nat.le_max_right _ _);have l1:("(":Jj).length=1:=rfl;have l2:("|":Jj).length=1:=rfl;have l3:(")":Jj).length=1:=rfl;rw[Pat.text,Pat.depth,Nat.pow_add]
  repeat rw[aV]
  lia
 |.sh a b p,h=>by
  have h1:=Pat.text_len h.2.2;have la:=cf h.1;have lb:=cf h.2.1;have l1:("s":Jj).length=1:=rfl;have l2:(",":Jj).length=1:=rfl;have l3:(":":Jj).length=1:=rfl;have:0<2^p.depth:=HB J7;rw[Pat.text,Pat.depth,HC]
  repeat rw[aV]
  lia
 |.mir p,h=>by
  have h1:=Pat.text_len (p:=p) h;have l1:("m":Jj).length=1:=rfl;have:0<2^p.depth:=HB J7;rw[Pat.text,Pat.depth,HC,aV];lia
 |.tur p,h=>by
  have h1:=Pat.text_len (p:=p) h;have l1:("t":Jj).length=1:=rfl;have:0<2^p.depth:=HB J7;rw[Pat.text,Pat.depth,HC,aV];lia
 |.hue f g p,h=>by
  have h1:=Pat.text_len h.2.2;have la:=tO h.1;have lb:=tO h.2.1;have l1:("h":Jj).length=1:=rfl;have:0<2^p.depth:=HB J7;rw[Pat.text,Pat.depth,HC]
  repeat rw[aV]
  lia
def Pat.text_short(h:p.Wf)(hd:p.depth<=5):p.text.length<=3510:=by
 have h1:=Pat.text_len h;have h2:2^p.depth<=2^5:=HY J7 hd;lia
structure Pat.Ok(p:Pat):Prop where
 wf:p.Wf
 deep:p.depth<=5
 fits:p.Fits
end My
end
section
open PySem PySem.Spec PyProof.Rows L2
namespace My
def Bh:TMS:=λ_ _ _=>False
def gY{X:Cx}[Jm]{st:RS}:MSt X st Bh:=⟨ps_never.anti λE s H q=>by
 obtain⟨F0,F,z,M,k,rs,ED,h,e⟩:=q;exact h.elim⟩
end My
end
section
namespace My
open PySem PySem.Spec PyProof.Rows L2
abbrev isSg(c:Nat):Bool:=c==46||(49<=c&&c<=54)
def numL(a:Int):List Nat:=cs (toString a:String)
variable{a:Int}
def tR(h:B12 a){P:Int->Prop}(hP:∀k:Fin 25,P (((k.val:Nat):Int)-12)):P a:=by
 unfold B12 at h;have:=hP #[(a+12).toNat,JZ];have e:(((a+12).toNat:Nat):Int)-12=a:=JZ
 rw[e]at this;exact this
def isNumL(l:List Nat):Prop:=(∃c,(48<=c/\c<=57)/\l=[c])\/(∃c,(48<=c/\c<=50)/\l=[49,c])\/(∃c,(49<=c/\c<=57)/\l=[45,c])\/∃c,(48<=c/\c<=50)/\l=[45,49,c]
def numL_is(h:B12 a):isNumL (numL a):=by
 have key:∀k:Fin 25,(numL (((k.val:Nat):Int)-12))∈([[45,49,50],[45,49,49],[45,49,48],[45,57],[45,56],[45,55],[45,54],[45,53],[45,52],[45,51],[45,50],[45,49],[48],[49],[50],[51],[52],[53],[54],[55],[56],[57],[49,48],[49,49],[49,50]]:List (List Nat)):=J3
 have h1:=tR (P:=λa=>numL a∈([[45,49,50],[45,49,49],[45,49,48],[45,57],[45,56],[45,55],[45,54],[45,53],[45,52],[45,51],[45,50],[45,49],[48],[49],[50],[51],[52],[53],[54],[55],[56],[57],[49,48],[49,49],[49,50]]:List (List Nat))) h key;revert h1;generalize numL a=l;intro h1;unfold isNumL;simp only[FT,G3,or_false]at h1;rcases h1 with e|e|e|e|e|e|e|e|e|e|e|e|e|e|e|e|e|e|e|e|e|e|e|e|e<;>subst e
 all_goals first
  |exact .inl ⟨_,J7,rfl⟩
  |exact .inr (.inl ⟨_,J7,rfl⟩)
  |exact .inr (.inr (.inl ⟨_,J7,rfl⟩))
  |exact .inr (.inr (.inr ⟨_,J7,rfl⟩))
def endS(c:Nat):Prop:=c=44\/c=59\/c=58\/c=93
def rowsL:List (List Nat)->List Nat
 |[]=>[]
 |[x]=>x
 |x::y::r=>x++47::rowsL (y::r)
variable{c:Nat}
def Bi(h:bb c):isSg c=true:=by
 unfold bb at h;unfold isSg;rcases h with h|h
 .subst h;rfl
 .have:(decide (49<=c)&&decide (c<=54))=true:=by simp[h]
  rw[this,Hv]
def motL(L:List (List Nat))(a b c d:Int):List Nat:=91::(rowsL L++59::(numL a++44::(numL b++59::(numL c++44::(numL d++[93])))))
def Pat.tl:Pat->List Nat
 |.mot L a b c d=>motL (L.map cs) a b c d
 |.over p q=>40::(p.tl++124::(q.tl++[41]))
 |.sh a b p=>115::(numL a++44::(numL b++58::p.tl))
 |.mir p=>109::p.tl
 |.tur p=>116::p.tl
 |.hue f g p=>104::(numL f++(numL g++p.tl))
def tS:∀L:List Jj,cs (Str.join "/" L)=rowsL (L.map cs)
 |[]=>rfl
 |[x]=>rfl
 |x::y::L=>by
  show cs (x++"/"++Str.join "/" (y::L))=cs x++47::rowsL ((y::L).map cs);rw[bv,bv,tS (y::L),Gn];rfl
def cT:∀p:Pat,cs p.text=p.tl
 |.mot L a b c d=>by
  show cs (cS L a b c d)=motL (L.map cs) a b c d;unfold cS motL;have e:Txt.join "/" L=Str.join "/" L:=StrLaws.glued_eq_join _ _;rw[e]
  repeat rw[bv]
  rw[tS];simp only[Gn];rfl
 |.over p q=>by
  rw[Pat.text,Pat.tl]
  repeat rw[bv]
  rw[cT p,cT q];simp only[Gn];rfl
 |.sh a b p=>by
  rw[Pat.text,Pat.tl]
  repeat rw[bv]
  rw[cT p];simp only[Gn];rfl
 |.mir p=>by
  rw[Pat.text,Pat.tl,bv,cT p];rfl
 |.tur p=>by
  rw[Pat.text,Pat.tl,bv,cT p];rfl
 |.hue f g p=>by
  rw[Pat.text,Pat.tl]
  repeat rw[bv]
  rw[cT p];simp only[Gn];rfl
def hueL{f:Int}(h:1<=f/\f<=6):numL f=[(48+f).toNat]:=by
 have key:∀k:Fin 6,numL (((k.val:Nat):Int)+1)=[49+k.val]:=J3
 have:=key #[(f-1).toNat,JZ];have e:(((f-1).toNat:Nat):Int)+1=f:=JZ
 rw[e]at this;rw[this];congr 1;show 49+(f-1).toNat=(48+f).toNat;lia
def rowsT(L:List (List Nat)):List Nat:=L.flatMap λy=>47::y
def tT:∀(x:List Nat) (L:List (List Nat)),rowsL (x::L)=x++rowsT L
 |x,[]=>by simp[rowsL,rowsT]
 |x,y::L=>by
  rw[rowsL,tT y L];simp[rowsT]
def fJ{x y:Jj}(h:cs x=cs y):x=y:=by
 obtain⟨a⟩:=x;obtain⟨b⟩:=y;have:a=b:=IQ.mp h;rw[this]
variable{x:Int}
def numS(h:B12 x):numL x=[48]\/∃pre c y,(pre=[]\/pre=[45])/\(49<=c/\c<=57)/\numL x=pre++c::y/\(y=[]\/(c=49/\∃d,(48<=d/\d<=50)/\y=[d])):=by
 rcases numL_is h with⟨c,hc,e⟩|⟨c,hc,e⟩|⟨c,hc,e⟩|⟨c,hc,e⟩
 .by_cases z:c=48
  .exact .inl (by rw[e,z])
  .exact .inr #[[],c,[],.inl rfl,JZ,e,.inl rfl]
 .exact .inr #[[],49,[c],.inl rfl,J7,e,.inr #[rfl,c,hc,rfl]]
 .exact .inr #[[45],c,[],.inr rfl,hc,e,.inl rfl]
 .exact .inr #[[45],49,[c],.inr rfl,J7,e,.inr #[rfl,c,hc,rfl]]
variable{A B:Prop}
def ifT{c:Prop}[Decidable c](h:c)(a:A):if c then A else B:=by rw[if_pos h];exact a
def ifdT{p:Prop}[Decidable p](h:p)(a:A):if decide p=true then A else B:=by rw[if_pos (decide_eq_true h)];exact a
def ifdF{p:Prop}[Decidable p](h:¬p)(b:B):if decide p=true then A else B:=by rw[if_neg (by simpa using h)];exact b
def rdF(t:Jj)(k:Nat):List (Jj×D):=[("text",.str t),("place",.int k)]
def RdM(a:KF)(t:Jj)(k:Nat):MS:=[(a,.ins "Reading" (rdF t k))]
variable{o:MO}
def dz{a:KF}:mget [(a,o)] a=be o:=by unfold mget;rw[if_pos rfl]
def gZ{a:KF}{o':MO}:mput [(a,o)] a o'=[(a,o')]:=by unfold mput;rw[if_pos rfl]
variable{t:Jj}{k:Nat}
def aY{a:KF}:mget (RdM a t k) a=be (.ins "Reading" (rdF t k)):=dz
def kN:(rdF t k).lookup ("text":Jj)=be (.str t):=rfl
def eI:(rdF t k).lookup ("place":Jj)=be (.int k):=by
 unfold rdF;rw[Ga,show(("place":Jj)==("text":Jj))=false by decide+kernel];rfl
def Bj:putD ("place":Jj) (.int ((k:Int)+1)) (rdF t k)=rdF t (k+1):=by
 unfold rdF putD;rw[if_neg J3];unfold putD;rw[if_pos rfl];rfl
def cU:(rdF t k).lookup ("may_take":Jj)=none:=by
 unfold rdF;rw[Ga,show(("may_take":Jj)==("text":Jj))=false by decide+kernel,Ga,show(("may_take":Jj)==("place":Jj))=false by decide+kernel];rfl
def ck:(rdF t k).lookup ("take":Jj)=none:=by
 unfold rdF;rw[Ga,show(("take":Jj)==("text":Jj))=false by decide+kernel,Ga,show(("take":Jj)==("place":Jj))=false by decide+kernel];rfl
structure At(t:Str)(k:Nat)(l:List Nat):Prop where
 eq:(cs t).drop k=l
 le:k<=t.length
 sz:t.length<=100000
def At.nil(h:At t k []):k=t.length:=by
 have h1:=congrArg Hq h.eq;rw[GO,br]at h1;have:=h.le;simp at h1;lia
variable{l:List Nat}
def At.lt(h:At t k (c::l)):k<t.length:=by
 have h1:=congrArg Hq h.eq;rw[GO,br]at h1;simp at h1;lia
def At.get(h:At t k (c::l)):(cs t)[k]?=be c:=by
 have h1:=congrArg (·[0]?) h.eq;simpa using h1
def At.next(h:At t k (c::l)):At t (k+1) l:=by
 refine#[?_,h.lt,h.sz];have h1:=congrArg (GW 1) h.eq;rw[List.drop_drop]at h1;simpa using h1
def At.app{t:Jj}:∀{x l:List Nat} {k:Nat},At t k (x++l)->At t (k+x.length) l
 |[],_,_,h=>h
 |c::x,l,k,h=>by
  have h1:At t (k+1+x.length) l:=At.app (At.next h);have e:k+1+x.length=k+(c::x).length:=by rw[FV];lia
  rw[e]at h1;exact h1
variable{al:Jj}
def tU:(!(!(Builtin.Str.occurrences al #[[c].toArray] 0 al.length 1).isEmpty))=!decide (c∈cs al):=by
 rw[StrLaws.found_one]
def mayS(al:Jj):List Nat->Jj|c::_=>if c∈cs al then#[[c].toArray]else ""|[]=>""
def mayN(al:Jj):List Nat->Nat|c::_=>if c∈cs al then 1 else 0|[]=>0
def eJ(h:c∈cs al):mayS al (c::l)=#[[c].toArray]:=if_pos h
def eK(h:c∈cs al):mayN al (c::l)=1:=if_pos h
def dA(h:c∉cs al):mayS al (c::l)="":=if_neg h
def dB(h:c∉cs al):mayN al (c::l)=0:=if_neg h
def Bk:SiD:=λds R=>∃t:Jj,ds=[.str t]/\R (rdF t 0)
def Bl:SpM:=λds M R RX=>∃(a:KF) (t:Jj) (k:Nat) (l:List Nat) (al:Jj),ds=[.ptr a,.str al]/\M=RdM a t k/\At t k l/\R (.str (mayS al l)) (RdM a t (k+mayN al l))
def Bm:SpM:=λds M R _=>∃(a:KF) (t:Jj) (k c:Nat) (l:List Nat) (al:Jj),ds=[.ptr a,.str al]/\M=RdM a t k/\At t k (c::l)/\c∈cs al/\R (.str #[[c].toArray]) (RdM a t (k+1))
def Bn(h:B12 x):PySem.intText? #[(numL x).toArray]=be x:=
 tR (P:=λx=>PySem.intText? #[(numL x).toArray]=be x) h J3
def fK(x y:List Nat):((#[x.toArray]:Jj)++#[y.toArray]:Jj)=#[(x++y).toArray]:=by
 apply fJ;rw[bv]
def digits19:c∈cs "123456789"↔49<=c/\c<=57:=by
 refine#[λh=>?_,λ⟨h1,h2⟩=>?_]
 .exact(show ∀c∈cs "123456789",49<=c/\c<=57 by decide+kernel) c h
 .obtain⟨k,rfl⟩:=Nat.le.dest h1;exact(show ∀k,k<9->49+k∈cs "123456789" by decide+kernel) k JZ
def digits02:c∈cs "012"↔48<=c/\c<=50:=by
 have e:cs "012"=[48,49,50]:=rfl;rw[e];simp;lia
def Bo(w:List Nat)(c:Nat):Txt.endswith #[(w++[c]).toArray] "1"=decide (c=49):=by
 unfold Txt.endswith;have e1:("1":Jj).length=1:=rfl;have e2:(#[(w++[c]).toArray]:Jj).length=w.length+1:=by simp[Str.length]
 rw[e1,e2];have e3:decide (0+1<=w.length+1)=true:=J8
 rw[e3,Bool.true_and,Nat.add_sub_cancel];unfold Builtin.Str.subAt;have e4:(#[(w++[c]).toArray]:Jj).cps.extract w.length (w.length+("1":Jj).length)=[c].toArray:=by
  apply IQ.mp;simp[Array.toList_extract,e1]
 rw[e4];have e5:("1":Jj).cps=[49].toArray:=rfl;rw[e5];by_cases h:c=49
 .subst h;rfl
 .simp[h]
def Bp:SpM:=λds M R _=>∃(a:KF) (t:Jj) (k:Nat) (x:Int) (e:Nat) (l:List Nat),ds=[.ptr a]/\M=RdM a t k/\B12 x/\endS e/\At t k (numL x++e::l)/\R (.int x) (RdM a t (k+(numL x).length))
def Bq:SpM:=λds M R _=>∃(a:KF) (t:Jj) (k:Nat) (x y:Int) (e:Nat) (l:List Nat),ds=[.ptr a]/\M=RdM a t k/\B12 x/\B12 y/\endS e/\At t k (numL x++44::(numL y++e::l))/\R (.tup [.int x,.int y]) (RdM a t (k+(numL x).length+1+(numL y).length))
def signs_is:c∈cs ".123456"↔isSg c=true:=by
 have e:cs ".123456"=[46,49,50,51,52,53,54]:=rfl;rw[e];simp;lia
def eL(x:List Nat):(#[x.toArray]:Jj).length=x.length:=by simp[Str.length]
def tV(h:isSg c=false):c∉cs ".123456":=λz=>by rw[signs_is.mp z]at h;cases h
def S_line_from:SpM:=λds M R _=>∃(a:KF) (t:Jj) (k n m:Nat) (x l:List Nat),ds=[.ptr a,.int n,.int m]/\M=RdM a t k/\At t k (x++l)/\(∀c∈x,bb c)/\n<=x.length/\x.length<=m/\m<=8/\(x.length=m\/∃c l',l=c::l'/\isSg c=false)/\R (.str #[x.toArray]) (RdM a t (k+x.length))
def Br{p a:KF}(h:p≠a):mget ((p,o)::RdM a t k) a=be (.ins "Reading" (rdF t k)):=by
 unfold mget;rw[if_neg h];exact dz
variable{M:MS}
def bR{p:KF}:mget ((p,o)::M) p=be o:=by unfold mget;rw[if_pos rfl]
def kO{p:KF}{o':MO}:mput ((p,o)::M) p o'=(p,o')::M:=by unfold mput;rw[if_pos rfl]
def hU{p:KF}:mdel ((p,o)::M) p=M:=by unfold mdel;rw[if_pos rfl]
structure RowsL(L:List (List Nat))(w:Nat):Prop where
 many:1<=L.length/\L.length<=8
 w1:1<=w
 w8:w<=8
 each:∀x∈L,x.length=w/\∀c∈x,bb c
def lstD(L:List (List Nat)):List D:=L.map λx=>D.str #[x.toArray]
def Bs:SpM:=λds M R _=>∃(a:KF) (t:Jj) (k:Nat) (L:List (List Nat)) (w:Nat) (l:List Nat),ds=[.ptr a]/\M=RdM a t k/\RowsL L w/\At t k (rowsL L++59::l)/\R (.lst (lstD L)) (RdM a t (k+(rowsL L).length))
def hmX(w h s:Int)(i j:Int):Int:=(i-j/h*s)%w
def hRow(w h s:Int)(j:Nat):Nat->List Nat->List ((Int×Int)×Int)->List ((Int×Int)×Int)
 |_,[],kv=>kv
 |i,c::r,kv=>hRow w h s j (i+1) r (if c=46 then kv else sdD kv (hmX w h s i j) ((j:Int)%h) ((c:Int)-48))
def hAll(w h s:Int):Nat->List (List Nat)->List ((Int×Int)×Int)->List ((Int×Int)×Int)
 |_,[],kv=>kv
 |j,x::r,kv=>hAll w h s (j+1) r (hRow w h s j 0 x kv)
def tW(kv:List ((Int×Int)×Int))(x y v:Int):(sdD kv x y v).length<=kv.length+1:=by
 unfold sdD;split
 .lia
 .rw[F9];simp
def Bt(h:49<=c/\c<=54):∃i rest,Builtin.Str.occurrences ".123456" #[[c].toArray] 0 (".123456":Jj).length 1=i::rest/\((i:Nat):Int)=(c:Int)-48:=by
 rcases(JZ:c=49\/c=50\/c=51\/c=52\/c=53\/c=54)with e|e|e|e|e|e<;>subst e
 .exact#[1,[],J3,J7]
 .exact#[2,[],J3,J7]
 .exact#[3,[],J3,J7]
 .exact#[4,[],J3,J7]
 .exact#[5,[],J3,J7]
 .exact#[6,[],J3,J7]
def Bu{x:List Nat}(h:∀c∈x,bb c):(#[x.toArray]:Jj).cps.all (·<128)=true:=by
 rw[<-HS,Gz];intro c hc;have:=h c hc;unfold bb at this;simp;lia
def Bv{L:List (List Nat)}{j:Nat}{d:D}(h:(lstD L)[j]?=be d):∃x,L[j]?=be x/\d=.str #[x.toArray]:=by
 unfold lstD at h;rw[F6]at h;cases e:L[j]? with
 |none=>rw[e]at h;cases h
 |some x=>rw[e]at h;cases h;exact#[x,rfl,rfl]
variable{i:Nat}
def Bw{x:List Nat}{d:D}(h:(bJ #[x.toArray])[i]?=be d):∃c,x[i]?=be c/\d=.str #[[c].toArray]:=by
 unfold bJ at h;rw[F6]at h;cases e:x[i]? with
 |none=>simp[e]at h
 |some c=>simp[e]at h;exact#[c,rfl,h.symm]
def tX{α:Type}{l:List α}{x:α}(h:l[i]?=be x):l.drop i=x::l.drop (i+1):=by
 have hi:i<l.length:=(F7.mp h).1;rw[G4 hi];congr 1;rw[Gb hi]at h;exact Option.some.inj h
def By:SpM:=λds M R RX=>∃(L:List (List Nat)) (wd:Nat) (w h s:Int),ds=[.lst (lstD L),.tup [.int w,.int h,.int s]]/\RowsL L wd/\0<w/\0<h/\h<1073741824/\0<=s/\s<1073741824/\R (.dti (hAll w h s 0 L [])) M
def moF(k:Nat)(sh:D)(hu:List ((Int×Int)×Int)):List (Jj×D):=[("place",.int k),("shifts",sh),("hues",.dti hu)]
def Bz:SiD:=λds R=>∃(k:Nat) (L:List (List Nat)) (wd:Nat) (a b c d:Int),ds=[.int k,.lst (lstD L),.tup [.int a,.int b],.tup [.int c,.int d]]/\RowsL L wd/\B12 a/\B12 b/\B12 c/\B12 d/\¬a*d=b*c/\
 ∀w h s,FamOf a b c d w h s->R (moF k (.tup [.int w,.int h,.int s]) (hAll w h s 0 L []))
variable{v:My.D}
def BA:putD ("place":Jj) v []=([("place",v)]:List (Jj×D)):=rfl
variable{u:My.D}
def BB:putD ("shifts":Jj) v [("place",u)]=([("place",u),("shifts",v)]:List (Jj×D)):=by
 unfold putD;rw[if_neg J3];rfl
def BC{t:D}:putD ("hues":Jj) v [("place",t),("shifts",u)]=([("place",t),("shifts",u),("hues",v)]:List (Jj×D)):=by
 unfold putD;rw[if_neg J3];unfold putD;rw[if_neg J3];rfl
def tY:([("place",u),("shifts",v)]:List (Jj×D)).lookup ("shifts":Jj)=be v:=by
 rw[Ga,show(("shifts":Jj)==("place":Jj))=false by decide+kernel];rfl
def BD:SiD:=λds R=>∃(x y:Jj) (fs gs:List (Jj×D)),ds=[.obj x fs,.obj y gs]/\R [("above",.obj x fs),("below",.obj y gs)]
def BE:SiD:=λds R=>∃(x:Jj) (fs:List (Jj×D)) (a b:Int),ds=[.obj x fs,.int a,.int b]/\R [("form",.obj x fs),("x",.int a),("y",.int b)]
def BF:SiD:=λds R=>∃(x:Jj) (fs:List (Jj×D)),ds=[.obj x fs]/\R [("form",.obj x fs)]
def BG:SiD:=λds R=>∃(x:Jj) (fs:List (Jj×D)),ds=[.obj x fs]/\R [("form",.obj x fs)]
def BH:SiD:=λds R=>∃(x:Jj) (fs:List (Jj×D)) (a b:Int),ds=[.obj x fs,.int a,.int b]/\R [("form",.obj x fs),("old",.int a),("new",.int b)]
def FormOf:Pat->D->Prop
 |.mot L a b c d,v=>∃(k:Nat) (w h s:Int),v=.obj "Motif" (moF k (.tup [.int w,.int h,.int s]) (hAll w h s 0 (L.map cs) []))/\FamOf a b c d w h s
 |.over p q,v=>∃u u',v=.obj "Over" [("above",u),("below",u')]/\FormOf p u/\FormOf q u'
 |.sh a b p,v=>∃u,v=.obj "Shifted" [("form",u),("x",.int a),("y",.int b)]/\FormOf p u
 |.mir p,v=>∃u,v=.obj "Mirror" [("form",u)]/\FormOf p u
 |.tur p,v=>∃u,v=.obj "Turn" [("form",u)]/\FormOf p u
 |.hue f g p,v=>∃u,v=.obj "Rehue" [("form",u),("old",.int f),("new",.int g)]/\FormOf p u
def Pat.cls:Pat->Jj
 |.mot ..=>"Motif"|.over ..=>"Over"|.sh ..=>"Shifted"|.mir ..=>"Mirror"|.tur ..=>"Turn"|.hue ..=>"Rehue"
variable{f g:Jj}{r:List (Jj×My.D)}
def bN(h:(f==g)=false)(hr:r.lookup f=B_):(((g,v)::r:List (Jj×D))).lookup f=none:=by
 rw[Ga,h];exact hr
structure ObjM(p:Pat)(fs:List (Str×D)):Prop where
 nl:noLF fs=true
 fam:fs.lookup ("family":Jj)=B_
 shw:fs.lookup ("shows":Jj)=B_
variable{p:Pat}
def FormOf.objm:∀{v:D},FormOf p v->∃fs,v=.obj p.cls fs/\ObjM p fs:=by
 have n1 {g:Jj} {u:D} {f:Jj} (h:(f==g)=false):([(g,u)]:List (Jj×D)).lookup f=none:=bN h rfl;have nn {fs:List (Jj×D)} {x:Jj} (h:noLF fs=true):noL (.obj x fs)=true:=by simp[noL,h]
 induction p with
 |mot L a b c d=>
  rintro _⟨k,w,h,s,rfl,_⟩;exact#[_,rfl,by simp[noL,noLF,noLs,moF],bN J3 (bN J3 (n1 J3)),bN J3 (bN J3 (n1 J3))]
 |over p q i j=>
  rintro _⟨u,u',rfl,h1,h2⟩;obtain⟨fs,rfl,o1⟩:=i h1;obtain⟨gs,rfl,o2⟩:=j h2;exact#[_,rfl,by simp[noLF,nn o1.nl,nn o2.nl],bN J3 (n1 J3),bN J3 (n1 J3)]
 |sh a b p i=>
  rintro _⟨u,rfl,h1⟩;obtain⟨fs,rfl,o1⟩:=i h1;exact#[_,rfl,by simp[noL,noLF,o1.nl],bN J3 (bN J3 (n1 J3)),bN J3 (bN J3 (n1 J3))]
 |mir p i=>
  rintro _⟨u,rfl,h1⟩;obtain⟨fs,rfl,o1⟩:=i h1;exact#[_,rfl,by simp[noLF,nn o1.nl],n1 J3,n1 J3]
 |tur p i=>
  rintro _⟨u,rfl,h1⟩;obtain⟨fs,rfl,o1⟩:=i h1;exact#[_,rfl,by simp[noLF,nn o1.nl],n1 J3,n1 J3]
 |hue f g p i=>
  rintro _⟨u,rfl,h1⟩;obtain⟨fs,rfl,o1⟩:=i h1;exact#[_,rfl,by simp[noL,noLF,o1.nl],bN J3 (bN J3 (n1 J3)),bN J3 (bN J3 (n1 J3))]
variable{L:List Jj}
def BI(h:Rows L):∃w,RowsL (L.map cs) w:=by
 obtain⟨h1,w,h2,h3⟩:=h;refine#[w,by rw[F4];exact h1,h2.1,h2.2,λx hx=>?_];obtain⟨l,hl,rfl⟩:=Gm.mp hx;rw[br];exact h3 l hl
def tZ{f:Int}(h:1<=f/\f<=6):(48+f).toNat∈cs "123456":=by
 have e:cs "123456"=[49,50,51,52,53,54]:=rfl;rw[e];simp;lia
def BJ:SpM:=λds M R _=>∃(g:KF) (t:Jj) (k:Nat) (L:List Jj) (a b c d:Int) (l:List Nat),ds=[.ptr g]/\M=RdM g t k/\At t k (motL (L.map cs) a b c d++l)/\(Pat.mot L a b c d).Wf/\∀v,FormOf (.mot L a b c d) v->R v (RdM g t (k+(motL (L.map cs) a b c d).length))
def cV(j:Nat):SpM:=λds M R _=>∃(a:KF) (t:Jj) (k:Nat) (p:Pat) (l:List Nat) (d:Nat),ds=[.ptr a,.int d]/\M=RdM a t k/\At t k (p.tl++l)/\d+j=6/\1<=j/\p.Wf/\p.depth+d<=5/\∀v,FormOf p v->R v (RdM a t (k+p.tl.length))
variable{ds:List My.D}{R:My.D->MS->Prop}{RX:XDM}
def BK:¬cV 0 ds M R RX:=by
 rintro⟨_,_,_,_,_,_,_,_,_,_,h,_⟩;exact absurd h J7
def ub(j:Nat):SpM:=λds M R _=>∃(a:KF) (t:Jj) (k:Nat) (p q:Pat) (l:List Nat) (d:Nat),ds=[.ptr a,.int d]/\M=RdM a t k/\At t k (p.tl++124::(q.tl++41::l))/\d+j=6/\1<=j/\p.Wf/\q.Wf/\p.depth+d<=5/\q.depth+d<=5/\∀u u',FormOf p u->FormOf q u'->R (.obj "Over" [("above",u),("below",u')]) (RdM a t (k+p.tl.length+1+q.tl.length+1))
def uc(j:Nat):SpM:=λds M R _=>∃(a:KF) (t:Jj) (k:Nat) (x y:Int) (p:Pat) (l:List Nat) (d:Nat),ds=[.ptr a,.int d]/\M=RdM a t k/\At t k (numL x++44::(numL y++58::(p.tl++l)))/\d+j=6/\1<=j/\B12 x/\B12 y/\p.Wf/\p.depth+d<=5/\∀u,FormOf p u->R (.obj "Shifted" [("form",u),("x",.int x),("y",.int y)]) (RdM a t (k+(numL x).length+1+(numL y).length+1+p.tl.length))
def ud(j:Nat):SpM:=λds M R _=>∃(a:KF) (t:Jj) (k:Nat) (f g:Int) (p:Pat) (l:List Nat) (d:Nat),ds=[.ptr a,.int d]/\M=RdM a t k/\At t k ((48+f).toNat::(48+g).toNat::(p.tl++l))/\d+j=6/\1<=j/\(1<=f/\f<=6)/\(1<=g/\g<=6)/\p.Wf/\p.depth+d<=5/\∀u,FormOf p u->R (.obj "Rehue" [("form",u),("old",.int f),("new",.int g)]) (RdM a t (k+2+p.tl.length))
def Pat.cls_mem(p:Pat):p.cls∈(["Motif","Over","Shifted","Mirror","Turn","Rehue"]:List Jj):=by
 cases p<;>simp[Pat.cls]
variable{hu:List ((Int×Int)×Int)}
def mo_shifts{sh:D}:(moF k sh hu).lookup ("shifts":Jj)=be sh:=by
 unfold moF;rw[Ga,show(("shifts":Jj)==("place":Jj))=false by decide+kernel];rfl
def BL{sh:D}:(moF k sh hu).lookup ("hues":Jj)=be (.dti hu):=by
 unfold moF;rw[Ga,show(("hues":Jj)==("place":Jj))=false by decide+kernel,Ga,show(("hues":Jj)==("shifts":Jj))=false by decide+kernel];rfl
def eN(h:(g==f)=false):(((f,u)::(g,v)::r:List (Jj×D))).lookup g=be v:=by
 rw[Ga,h,Ga,beq_self_eq_true]
def kP{e:Jj}{t:D}(h1:(g==e)=false)(h2:(g==f)=false):(((e,t)::(f,u)::(g,v)::r:List (Jj×D))).lookup g=be v:=by
 rw[Ga,h1];exact eN h2
variable{w s:Int}
def Pat.Fits.small(h:p.Fits){k:Int}(f:p.Fam w k s):0<w/\w<=720/\0<k/\k<=720/\0<=s/\s<w:=by
 obtain⟨w',k',s',f',hb⟩:=h;obtain⟨rfl,rfl,rfl⟩:=f.uniq f';obtain⟨h1,h2⟩:=fF f.f.w0 f.f.h0;exact#[f.f.w0,JZ,f.f.h0,JZ,f.f.s0,f.f.sw]
def Pat.Fits.over_parts{q:Pat}(hp:p.Wf)(hq:q.Wf)(h:(Pat.over p q).Fits):p.Fits/\q.Fits:=by
 obtain⟨w,k,s,f,hb⟩:=h;obtain⟨w1,k1,s1,f1⟩:=Pat.fam_ex hp;obtain⟨w2,k2,s2,f2⟩:=Pat.fam_ex hq;have l1:=(InF.le f1.f.w0 f1.f.h0 f.f.w0 f.f.h0 (λx y z=>(f1.lat x y).mpr ((f.lat x y).mp z).1)).1;have l2:=(InF.le f2.f.w0 f2.f.h0 f.f.w0 f.f.h0 (λx y z=>(f2.lat x y).mpr ((f.lat x y).mp z).2)).1;exact#[#[w1,k1,s1,f1,JZ],#[w2,k2,s2,f2,JZ]]
variable{b:Int}
def Pat.Fits.of_sh(h:(Pat.sh a b p).Fits):p.Fits:=by
 obtain⟨w,k,s,f,hb⟩:=h;exact#[w,k,s,#[f.f,f.lat],hb]
def Pat.Fits.of_hue(h:(Pat.hue a b p).Fits):p.Fits:=by
 obtain⟨w,k,s,f,hb⟩:=h;exact#[w,k,s,#[f.f,f.lat],hb]
def Pat.Fits.of_mir(hp:p.Wf)(h:(Pat.mir p).Fits):p.Fits:=by
 obtain⟨w,k,s,f,hb⟩:=h;obtain⟨w1,k1,s1,f1⟩:=Pat.fam_ex hp;obtain⟨rfl,rfl,_⟩:=f.uniq f1.mir;exact#[_,_,_,f1,hb]
def Pat.Fits.of_tur(hp:p.Wf)(h:(Pat.tur p).Fits):p.Fits:=by
 obtain⟨w,k,s,f,hb⟩:=h;obtain⟨w1,k1,s1,f1⟩:=Pat.fam_ex hp;obtain⟨w',k',s',f',e⟩:=tP (s:=s1) f1.f.w0 f1.f.h0;obtain⟨rfl,rfl,_⟩:=f.uniq (f1.tur f');exact#[_,_,_,f1,JZ]
def bS(j:Nat)(x:Jj):SpX:=λds R _=>∃(p:Pat) (v:D),ds=[v]/\FormOf p v/\p.Wf/\p.depth<j/\p.cls=x/\p.Fits/\∀w h s,p.Fam w h s->R (.tup [.int w,.int h,.int s])
def eO{x:Jj}:¬ofX (bS 0 x) ds M R RX:=by
 rintro⟨_,_,_,_,_,h,_⟩;exact absurd h (HE _)
def lookD_app(x y v X Y:Int):∀kv:List ((Int×Int)×Int),lookD (kv++[((x,y),v)]) X Y=match lookD kv X Y with|some u=>be u|none=>if x=X/\y=Y then be v else B_
 |[]=>rfl
 |((a,b),h)::r=>by
  show lookD (((a,b),h)::(r++[((x,y),v)])) X Y=_;unfold lookD;by_cases e:a=X/\b=Y
  .rw[if_pos e,if_pos e]
  .rw[if_neg e,if_neg e];exact lookD_app x y v X Y r
def BM(kv:List ((Int×Int)×Int))(x y v X Y:Int):lookD (sdD kv x y v) X Y=match lookD kv X Y with|some u=>be u|none=>if x=X/\y=Y then be v else none:=by
 unfold sdD;split
 .rename_i hs;cases e:lookD kv X Y with
  |some u=>rfl
  |none=>
   show B_=_;rw[if_neg];rintro⟨rfl,rfl⟩;rw[e]at hs;cases hs
 .exact lookD_app x y v X Y kv
def look_row(w h s:Int)(j:Nat)(X Y:Int):∀(x:List Nat) (i:Nat) (kv:List ((Int×Int)×Int)),lookD (hRow w h s j i x kv) X Y=match lookD kv X Y with|some u=>be u|none=>(scanRow (λi=>decide (hmX w h s i j=X/\(j:Int)%h=Y)) i x).map λc=>(c:Int)-48
 |[],i,kv=>by
  rw[hRow,scanRow];cases lookD kv X Y<;>rfl
 |c::r,i,kv=>by
  rw[hRow,look_row w h s j X Y r (i+1),scanRow];by_cases v3:c=46
  .rw[if_pos v3,if_neg (c:=c≠46/\_) (λz=>z.1 v3)]
  .rw[if_neg v3,BM];cases lookD kv X Y with
   |some u=>rfl
   |none=>
    by_cases e:hmX w h s i j=X/\(j:Int)%h=Y
    .rw[if_pos (c:=c≠46/\_) #[v3,decide_eq_true e]];show(match (if hmX w h s i j=X/\(j:Int)%h=Y then be ((c:Int)-48)else B_)with|some u=>be u|none=>_)=_;rw[if_pos e];rfl
    .rw[if_neg (c:=c≠46/\_) (λz=>e (of_decide_eq_true z.2))];show(match (if hmX w h s i j=X/\(j:Int)%h=Y then be ((c:Int)-48)else B_)with|some u=>be u|none=>_)=_;rw[if_neg e]
def ue(w h s X Y:Int):∀(L:List Jj) (j:Nat) (kv:List ((Int×Int)×Int)),lookD (hAll w h s j (L.map cs) kv) X Y=match lookD kv X Y with|some u=>be u|none=>(bM (λi j=>decide (hmX w h s i j=X/\j%h=Y)) j L).map λc=>(c:Int)-48
 |[],j,kv=>by
  rw[Ht,hAll,bM];cases lookD kv X Y<;>rfl
 |x::r,j,kv=>by
  rw[Gi,hAll,ue w h s X Y r (j+1),look_row,bM];cases lookD kv X Y with
  |some u=>rfl
  |none=>
   show(match (scanRow (λi=>decide (hmX w h s i j=X/\(j:Int)%h=Y)) 0 (cs x)).map (λc=>(c:Int)-48)with|some u=>be u|none=>_)=_;cases scanRow (λi=>decide (hmX w h s i j=X/\(j:Int)%h=Y)) 0 (cs x)<;>rfl
variable{h:Int}
def BN{c d:Int}(F:FamOf a b c d w h s)(hn:¬a*d=b*c)(x y i j:Int):decide (hmX w h s i j=hmX w h s x y/\j%h=y%h)=onB a b c d (x-i) (y-j):=by
 have hw:=F.1;have hh:=F.2.1;have key:(hmX w h s i j=hmX w h s x y/\j%h=y%h)↔InF w h s (x-i) (y-j):=by
  unfold hmX;constructor
  .rintro⟨e1,e2⟩;have dy:=HF y h;have dj:=HF j h;have m1:=HF (x-y/h*s) w;have m2:=HF (i-j/h*s) w;refine#[(x-y/h*s)/w-(i-j/h*s)/w,y/h-j/h,?_,?_]
   .rw[HZ,HZ,GD ((x-y/h*s)/w) w,GD ((i-j/h*s)/w) w];lia
   .rw[HZ,GD (y/h) h,GD (j/h) h];lia
  .rintro⟨m,q,ex,ey⟩;have QR:y=j+q*h:=by lia
   have OK:x=i+(m*w+q*s):=JZ
   subst OK QR;rw[IR,IS _ _ JZ];refine#[?_,rfl];have e:i+(m*w+q*s)-(j/h+q)*s=i-j/h*s+m*w:=by rw[H8];lia
   rw[e,IR]
 unfold onB;congr 1;apply propext;rw[key,F.lat];constructor
 .rintro⟨m,q,eu,ev⟩;exact on_of eu ev
 .exact λz=>Be hn z
def BO(h:49<=c/\c<=54):cell [0,1,2,3,4,5,6] ((c:Int)-48)=(c:Int)-48:=by
 rcases(JZ:c=49\/c=50\/c=51\/c=52\/c=53\/c=54)with e|e|e|e|e|e<;>subst e<;>rfl
def motif_shows{c d:Int}(hL:Rows L)(F:FamOf a b c d w h s)(hn:¬a*d=b*c)(x y:Int):(lookD (hAll w h s 0 (L.map cs) []) (hmX w h s x y) (y%h)).getD 0=(cu L a b c d).shows x y:=by
 rw[ue];show((bM (λi j=>decide (hmX w h s i j=hmX w h s x y/\j%h=y%h)) 0 L).map λc=>(c:Int)-48).getD 0=_;have e:(λi j=>decide (hmX w h s i j=hmX w h s x y/\j%h=y%h))=λi j=>onB a b c d (1*x+0*y+0-i) (0*x+1*y+0-j):=by
  funext i j;rw[BN F hn];congr 1<;>lia
 rw[e];show _=match bM (λi j=>onB a b c d (1*x+0*y+0-i) (0*x+1*y+0-j)) 0 L with|some c=>cell [0,1,2,3,4,5,6] ((c:Int)-48)|none=>0
 cases q:bM (λi j=>onB a b c d (1*x+0*y+0-i) (0*x+1*y+0-j)) 0 L with
 |none=>rfl
 |some c=>
  have hc:49<=c/\c<=54:=kL (λl' q=>let ⟨_,_,_,h⟩:=hL;(h l' q).2) q;exact(BO hc).symm
def bT(j:Nat)(x:Jj):SpX:=λds R _=>∃(p:Pat) (v:D) (X Y:Int),ds=[v,.int X,.int Y]/\FormOf p v/\p.Wf/\p.depth<j/\p.cls=x/\R (.int (p.show X Y))
def eQ{x:Jj}:¬ofX (bT 0 x) ds M R RX:=by
 rintro⟨_,_,_,_,_,_,_,h,_⟩;exact absurd h (HE _)
structure PatOf(p:Pat)(w h s:Int)(fs:List (Str×D)):Prop extends Pat.Fam p w h s where
 form:∃v,fs.lookup ("form":Jj)=be v/\FormOf p v
 nl:noLF fs=true
def bg(p:Pat)(d:D):Prop:=∃w h s fs,d=.obj "Pattern" fs/\fs.lookup ("text":Jj)=be (.str p.text)/\fs.lookup ("shifts":Jj)=be (.tup [.int w,.int h,.int s])/\PatOf p w h s fs
def aZ(x:Int):Prop:=-1000000000000<=x/\x<=1000000000000
def Pat.show_le(h:p.Wf)(hd:p.depth<=40)(x y:Int):0<=p.show x y/\p.show x y<=6:=by
 rw[<-Pat.show_leaves h hd];exact tJ x y (Pat.leaf_ok h hd)
def aP(h:Int):Nat:=if h=0 then 46 else(48+h).toNat
def aF(p:Pat)(x y:Int)(n:Nat):Str:=#[((FQ n).map λ(k:Nat)=>aP (p.show (x+(k:Int)) y)).toArray]
def cv(p:Pat)(x y:Int)(n:Nat):(aF p x y n).length=n:=by simp[aF,Str.length]
def uf(h0:0<=h)(h6:h<=6):atI (cs ".123456") h=be (aP h):=by
 rcases(JZ:h=0\/h=1\/h=2\/h=3\/h=4\/h=5\/h=6)with e|e|e|e|e|e|e<;>subst e<;>decide+kernel
def range2_int{i j:Int}{x:D}(h:((FQ (j-i).toNat).map λk=>D.int (i+((k:Nat):Int)))[k]?=be x):k<(j-i).toNat/\x=.int (i+(k:Int)):=by
 have hk:k<(j-i).toNat:=by simpa using(F7.mp h).1
 refine#[hk,?_];simp[hk]at h;exact h.symm
def uh:∀L:List Jj,cs (Str.join "" L)=L.flatMap cs
 |[]=>rfl
 |[x]=>by simp[Str.join]
 |x::y::r=>by
  show cs (x++""++Str.join "" (y::r))=_;rw[bv,bv,uh (y::r),tG];simp
def BP(f:Nat->Nat)(n:Nat):Str.join "" ((FQ n).map λi=>(#[[f i].toArray]:Jj))=#[((FQ n).map f).toArray]:=by
 apply fJ;rw[uh,List.flatMap_map];show(FQ n).flatMap (λi=>[f i])=(FQ n).map f;rw[List.map_eq_flatMap]
def BQ:SiD:=λds R=>∃(t:Jj) (w h s:Int) (x:Jj) (fs:List (Jj×D)),ds=[.str t,.tup [.int w,.int h,.int s],.obj x fs]/\R [("text",.str t),("shifts",.tup [.int w,.int h,.int s]),("form",.obj x fs)]
def S_read:SpX:=λds R _=>∃p:Pat,ds=[.str p.text]/\p.Ok/\∀d,bg p d->R d
def S_read.mono{R R':D->Prop}{RX RX':XD}(h:S_read ds R RX)(hR:∀d,R d->R' d):S_read ds R' RX':=by
 obtain⟨p,e,ok,h⟩:=h;exact#[p,e,ok,λd i=>hR d (h d i)]
def ui{R:D->Prop}{RX:XD}(ok:p.Ok)(h:∀d,bg p d->R d):S_read [.str p.text] R RX:=#[p,rfl,ok,h]
def BR:SpX:=λds R RX=>∃x y:Int,ds=[.int x,.int y]/\(aZ x/\aZ y->R .non)/\(¬(aZ x/\aZ y)->RX "TooFar" [])
def BS:SpX:=λds R RX=>∃(p:Pat) (d:D) (x y:Int),ds=[d,.int x,.int y]/\bg p d/\p.Ok/\(aZ x/\aZ y->R (.int (p.show x y)))/\(¬(aZ x/\aZ y)->RX "TooFar" [])
def BT:SpD:=λds R=>∃(p:Pat) (d:D) (x y:Int) (n:Nat),ds=[d,.int x,.int y,.int n]/\bg p d/\p.Ok/\n<=1000/\aZ x/\aZ (x+n-1)/\aZ y/\R (.str (aF p x y n))
def rowD(p:Pat)(x y:Int)(n:Nat):List D:=(FQ n).map λ(i:Nat)=>D.str #[[aP (p.show (x+(i:Int)) y)].toArray]
def uk(p:Pat)(x y:Int)(k:Nat):rowD p x y k++[D.str #[[aP (p.show (x+(k:Int)) y)].toArray]]=rowD p x y (k+1):=by
 unfold rowD;rw[GV,Gc];rfl
variable{n:Nat}
def ul(p:Pat)(x y:Int)(hn:n<=1000):∃ys,cL (rowD p x y n)=be ys/\(ys.map (·.length)).sum+ys.length*("":Jj).length<=1000000/\Txt.join "" ys=aF p x y n:=by
 have e1:rowD p x y n=((FQ n).map λ(i:Nat)=>(#[[aP (p.show (x+(i:Int)) y)].toArray]:Jj)).map D.str:=by unfold rowD;rw[Hf];rfl
 rw[e1];refine#[_,kK _,?_,(StrLaws.glued_eq_join _ _).trans (BP (λi=>aP (p.show (x+(i:Int)) y)) n)];rw[tH (w:=1) (λl hl=>by obtain⟨i,_,rfl⟩:=Gm.mp hl;rfl),F4,GQ,show("":Jj).length=0 from rfl];lia
def BU{n:Int}:x.fmod n=0↔n∣x:=#[Int.dvd_of_fmod_eq_zero,HU]
def BV(a b c d u v i j:Int):onB a b c d (u+(i*a+j*c)) (v+(i*b+j*d))=onB a b c d u v:=by
 unfold onB;have e1:(u+(i*a+j*c))*d-(v+(i*b+j*d))*c=(u*d-v*c)+(a*d-b*c)*i:=K'
 have e2:a*(v+(i*b+j*d))-b*(u+(i*a+j*c))=(a*v-b*u)+(a*d-b*c)*j:=K'
 rw[e1,e2];simp only[BU];have h1:(a*d-b*c∣u*d-v*c+(a*d-b*c)*i)↔a*d-b*c∣u*d-v*c:=IT (IU _ _);have h2:(a*d-b*c∣a*v-b*u+(a*d-b*c)*j)↔a*d-b*c∣a*v-b*u:=IT (IU _ _);simp only[h1,h2]
def Pat.Keeps(p:Pat)(X Y:Int):Prop:=∀x y,p.show (x+X) (y+Y)=p.show x y
def Pat.lat_keeps:∀{p:Pat} {X Y:Int},p.Lat X Y->p.Keeps X Y
 | .mot L a b c d,_,_,⟨i,j,rfl,rfl⟩,x,y=>by
  have e:∀u v:Int,onB a b c d (1*(x+(i*a+j*c))+0*(y+(i*b+j*d))+0-u) (0*(x+(i*a+j*c))+1*(y+(i*b+j*d))+0-v)=onB a b c d (1*x+0*y+0-u) (0*x+1*y+0-v):=λu v=>by
   rw[<-BV a b c d (1*x+0*y+0-u) (0*x+1*y+0-v) i j];congr 1<;>lia
  show Leaf.shows _ _ _=Leaf.shows _ _ _;unfold Leaf.shows Leaf.hit;simp only[cu,e]
 |.over p q,X,Y,h,x,y=>by
  simp only[Pat.show];rw[Pat.lat_keeps h.1 x y,Pat.lat_keeps h.2 x y]
 |.sh a b p,X,Y,h,x,y=>by
  have:=Pat.lat_keeps (p:=p) h (x-a) (y-b);simp only[Pat.show];rw[<-this];congr 1<;>lia
 |.mir p,X,Y,h,x,y=>by
  have:=Pat.lat_keeps (p:=p) h (-x) y;simp only[Pat.show];rw[<-this];congr 1;lia
 |.tur p,X,Y,h,x,y=>by
  have:=Pat.lat_keeps (p:=p) h y (-x);simp only[Pat.show];rw[<-this];congr 1;lia
 |.hue f g p,X,Y,h,x,y=>by
  simp only[Pat.show];rw[Pat.lat_keeps (p:=p) h x y]
def InF.one(w h s:Int):InF w h s w 0:=#[1,0,JZ,JZ]
def Pat.Fam.keeps{y:Int}(f:p.Fam w h s)(q:InF w h s x y):p.Keeps x y:=Pat.lat_keeps ((f.lat x y).mp q)
structure Pat.Kfam(p:Pat)(w h s:Int):Prop where
 f:Fam0 w h s
 keeps:∀{x y},InF w h s x y->p.Keeps x y
structure Pat.Least(p:Pat)(w h s:Int):Prop where
 f:Fam0 w h s
 lat:∀x y,InF w h s x y↔p.Keeps x y
def BW(hw:0<w)(hh:0<h)(x y:Int):InF w h s (x-hmX w h s x y) (y-y%h):=by
 have e1:=Hb y h;have e2:=Hb (x-y/h*s) w;refine#[(x-y/h*s)/w,y/h,?_,by rw[e1,GD];lia];unfold hmX;rw[e2,GD w];lia
def Pat.show_home(hw:0<w)(hh:0<h)(k:∀x y,InF w h s x y->p.Keeps x y)(x y:Int):p.show (hmX w h s x y) (y%h)=p.show x y:=by
 have:=k _ _ (BW (s:=s) hw hh x y) (hmX w h s x y) (y%h);rw[<-this];congr 1<;>lia
def BX(f:Nat->Nat){w:Nat}(h:c<w):((FQ w).map f).drop c++((FQ w).map f).take c=(FQ w).map λk=>f ((c+k)%w):=by
 apply GP;intro i;by_cases h1:i<w-c
 .rw[Gy (by simp;exact h1),IV,F6,F6,Gr JZ,Gr JZ];simp[IW (show c+i<w by lia)]
 .rw[GN Sc];simp only[GO,F4,GQ];by_cases h2:i<w
  .rw[HL JZ,F6,F6,Gr JZ,Gr JZ];have e:(c+i)%w=i-(w-c):=by
    rw[show c+i=(i-(w-c))+w by lia,Nat.add_mod_right,IW JZ]
   simp[e]
  .rw[GB Sc,GB Sc]
def fL(l:List Nat):cs (#[l.toArray]:Jj)=l:=J8
def BY{c:Int}(ht:cs t=l)(c0:0<=c)(cl:c<l.length):Txt.slice t (be c) B_++Txt.slice t B_ (be c)=(#[(l.drop c.toNat++l.take c.toNat).toArray]:Jj):=by
 have hl:t.length=l.length:=by rw[<-ht,br]
 apply fJ;rw[bv,slice_cps,slice_cps,fL,fL,fL,show t.cps.toList=l from ht,hl];have e1:HT.sIx l.length 0 (be c)=c.toNat:=by show(if c<0 then _ else min c.toNat l.length)=_;rw[if_neg JZ];lia
 have e2:HT.sIx l.length l.length B_=l.length:=rfl;have e3:HT.sIx l.length 0 B_=0:=rfl;have e4:HT.sIx l.length l.length (be c)=c.toNat:=by show(if c<0 then _ else min c.toNat l.length)=_;rw[if_neg JZ];lia
 rw[e1,e2,e3,e4,H9,GX J8];rfl
def cM(p:Pat)(x y:Int)(n:Nat):cs (aF p x y n)=(FQ n).map λ(k:Nat)=>aP (p.show (x+(k:Int)) y):=fL _
def BZ(hw:0<w)(hh:0<h)(k:∀x y,InF w h s x y->p.Keeps x y)(x y:Int):
  Txt.slice (aF p 0 (y%h) w.toNat) (be (hmX w h s x y)) B_++Txt.slice (aF p 0 (y%h) w.toNat) B_ (be (hmX w h s x y))=aF p x y w.toNat:=by
 have c0:0<=hmX w h s x y:=G0 _ JZ;have c1:hmX w h s x y<w:=G1 _ hw;rw[BY (cM p 0 (y%h) w.toNat) c0 Sc,BX _ JZ];unfold aF;congr 2;apply GC;intro i _;have e:=Pat.show_home hw hh k (x+(i:Int)) y;rw[<-e];congr 2;have q:hmX w h s (x+(i:Int)) y=(hmX w h s x y+i)%w:=by
  unfold hmX;rw[Int.emod_add_emod];congr 1;lia
 rw[q,G5,IY,Hg,Gg c0,Gg JZ]
def fM(p:Pat)(w h:Int):D:=.lst ((FQ h.toNat).map λ(y:Nat)=>D.str (aF p 0 (y:Int) w.toNat))
def B0:SpD:=λds R=>∃(p:Pat) (d:D),ds=[d]/\bg p d/\p.Ok/\∀w h s,p.Fam w h s->w*h<=720->w<=720->h<=720->R (fM p w h)
def B1:SpD:=λds R=>∃(p:Pat) (w h s x y:Int),ds=[.tup [.int w,.int h,.int s],fM p w h,.int x,.int y]/\p.Fam w h s/\w<=720/\h<=720/\R (.str (aF p x y w.toNat))
def B2(a0:0<=a)(a6:a<=6)(b0:0<=b)(b6:b<=6)(e:aP a=aP b):a=b:=by
 unfold aP at e;split at e<;>split at e<;>lia
structure Pat.LeastW(p:Pat)(w m:Int):Prop where
 lo:1<=m
 hi:m<=w
 md:w%m=0
 k:p.Keeps m 0
 l:∀d,1<=d->d<=w->w%d=0->p.Keeps d 0->m<=d
def sumN(g:Nat->Int):Nat->Int
 |0=>0
 |n+1=>sumN g n+g n
def dD{g f:Nat->Int}:∀{n:Nat},(∀k,k<n->g k=f k)->sumN g n=sumN f n
 |0,_=>rfl
 |n+1,h=>by rw[sumN,sumN,dD λk hk=>h k JZ,h n JZ]
def hV(g:Nat->Int)(n:Nat):∀m:Nat,sumN g (n+m)=sumN g n+sumN (λk=>g (n+k)) m
 |0=>by simp[sumN]
 |m+1=>by rw[<-Nat.add_assoc,sumN,sumN,hV g n m];lia
def um(g f:Nat->Int):∀n:Nat,sumN (λk=>g k+f k) n=sumN g n+sumN f n
 |0=>rfl
 |n+1=>by simp only[sumN,um g f n];lia
variable{N:Nat}
def B3{g:Nat->Int}(hN:0<N)(Ky:∀k,g (k+N)=g k)(n:Nat):sumN (λj=>(((n:Int)-1-j)/N+1)*g j) (min n N)=sumN g n:=by
 induction n using Nat.strongRecOn with
 |ind n ih=>
  by_cases h:n<=N
  .rw[G6 h];refine dD λk hk=>?_;rw[IZ JZ JZ];simp
  .have e1:n=N+(n-N):=by lia
   have i:=ih (n-N) JZ;have NK:sumN (λk=>g (N+k)) (n-N)=sumN g (n-N):=dD λk _=>by rw[HW];exact Ky k
   rw[HG JZ];have e2:sumN g n=sumN g N+sumN g (n-N):=by
    conv=>lhs;rw[e1]
    rw[hV,NK]
   rw[e2,<-i];have e3:min (n-N) N+(N-min (n-N) N)=N:=JZ
   have split:∀f:Nat->Int,sumN f N=sumN f (min (n-N) N)+sumN (λk=>f (min (n-N) N+k)) (N-min (n-N) N):=λf=>by
    conv=>lhs;rw[<-e3]
    exact hV _ _ _
   rw[split,split g];have a:sumN (λj=>(((n:Int)-1-j)/N+1)*g j) (min (n-N) N)=sumN g (min (n-N) N)+sumN (λj=>((((n-N:Nat):Int)-1-j)/N+1)*g j) (min (n-N) N):=by
    rw[<-um];refine dD λk hk=>?_;have q:((n:Int)-1-k)/N=(((n-N:Nat):Int)-1-k)/N+1:=by
     rw[show((n:Int)-1-k)=(((n-N:Nat):Int)-1-k)+1*N by lia,IS _ _ JZ]
    rw[q,H8];lia
   have b:sumN (λk=>(((n:Int)-1-((min (n-N) N+k:Nat):Int))/N+1)*g (min (n-N) N+k)) (N-min (n-N) N)=sumN (λk=>g (min (n-N) N+k)) (N-min (n-N) N):=by
    refine dD λk hk=>?_;rw[IZ JZ JZ];simp
   rw[a,b];lia
def cntN(f:Nat->Int)(v:Int)(n:Nat):Int:=sumN (λk=>if f k=v then 1 else 0) n
def uo(f:Nat->Int)(v:Int):∀n,0<=cntN f v n/\cntN f v n<=n
 |0=>by simp[cntN,sumN]
 |n+1=>by
  have:=uo f v n;unfold cntN at this ⊢;rw[sumN];split<;>lia
def B4{f:Nat->Int}{w:Nat}(hw:0<w)(Ky:∀k,f (k+w)=f k)(v:Int)(m:Nat):((m/w:Nat):Int)*cntN f v w+cntN f v (m%w)=cntN f v m:=by
 have key:∀q r:Nat,cntN f v (w*q+r)=(q:Int)*cntN f v w+cntN f v r:=λq=>by
  have sh:∀q k,f (w*q+k)=f k:=λq=>by
   induction q with
   |zero=>intro k;rw[Nat.mul_zero,Ja]
   |succ q ih=>intro k;rw[Jb,show w*q+w+k=w*q+k+w by lia,Ky];exact ih k
  induction q with
  |zero=>intro r;simp
  |succ q ih=>
   intro r;rw[Jb,show w*q+w+r=w*q+(w+r)by lia,ih,Hg,H8];have e:cntN f v (w+r)=cntN f v w+cntN f v r:=by
    unfold cntN;rw[hV];congr 1;refine dD λk _=>?_;rw[HW w k,Ky]
   rw[e];simp;lia
 have:=key (m/w) (m%w);rw[Nat.div_add_mod]at this;exact this.symm
def hZ(y:Jj)(c:Nat):∀(m a:Nat) (st:Array Nat×Nat),a+m=y.length+1->st.2<=a->st.1.size<=a->(forIn (List.range' a m) st (StrLaws.occBody y #[[c].toArray] y.length (y.length+1))).run.fst.size=st.1.size+(((cs y).drop a).filter (·==c)).length
 |0,a,st,h,_,_=>by
  rw[Ia (by rw[br];lia)];rfl
 |m+1,a,st,h,h1,h2=>by
  have l1:(#[[c].toArray]:Jj).length=1:=rfl;have q:=StrLaws.subAt_eq y #[[c].toArray] a;rw[List.range'_succ,HP];by_cases ha:a<y.length
  .have hd:(cs y).drop a=(cs y)[a]'(by rw[br];exact ha)::(cs y).drop (a+1):=G4 (by rw[br];exact ha);rw[show y.cps.toList.drop a=_ from hd,l1]at q;rw[hd,List.filter_cons];by_cases e:(cs y)[a]'(by rw[br];exact ha)=c
   .have eb:StrLaws.occBody y #[[c].toArray] y.length (y.length+1) a st=pure (.yield (st.1.push a,a+1)):=by
     unfold StrLaws.occBody;rw[if_pos #[#[#[JZ,h1],by rw[l1];lia],by rw[q];simp[e]],l1]
    rw[eb];have:=hZ y c m (a+1) (st.1.push a,a+1) JZ (FR _) Sc;simp only[e,beq_self_eq_true,if_true,FV];refine Eq.trans this ?_;simp only[Array.size_push];lia
   .have eb:StrLaws.occBody y #[[c].toArray] y.length (y.length+1) a st=pure (.yield (st.1,st.2)):=by
     unfold StrLaws.occBody;rw[if_neg];rintro⟨_,z⟩;rw[q]at z;simp at z;exact e z
    rw[eb];have:=hZ y c m (a+1) st JZ JZ JZ;rw[if_neg (by simpa using e)];exact this
  .have eb:StrLaws.occBody y #[[c].toArray] y.length (y.length+1) a st=pure (.yield (st.1,st.2)):=by
    unfold StrLaws.occBody;rw[if_neg];rintro⟨⟨_,z⟩,_⟩;rw[l1]at z;lia
   rw[eb];have:=hZ y c m (a+1) st JZ JZ JZ;rw[Ia (by rw[br];lia)];rw[Ia (by rw[br];lia)]at this;exact this
def B5(y:Jj)(c:Nat):(Builtin.Str.occurrences y #[[c].toArray] 0 y.length (y.length+1)).length=((cs y).filter (·==c)).length:=by
 rw[StrLaws.occ_eq,Hl,hZ y c _ 0 _ JZ (FR _) (FR _)];simp
def uq(f:Nat->Int)(b:∀k,0<=f k/\f k<=6){v:Int}(v0:0<=v)(v6:v<=6):∀n:Nat,(((((FQ n).map λk=>aP (f k)).filter (·==aP v)).length:Nat):Int)=cntN f v n
 |0=>rfl
 |n+1=>by
  rw[GV,Gc,List.filter_append,F9,Hg,uq f b v0 v6 n];show _=cntN f v n+_;congr 1;by_cases e:f n=v
  .simp[e]
  .have:¬aP (f n)=aP v:=λz=>e (B2 (b n).1 (b n).2 v0 v6 z);simp[this,e]
def B6(ok:p.Ok)(x y:Int){v:Int}(v0:0<=v)(v6:v<=6)(n:Nat):(((cs (aF p x y n)).filter (·==aP v)).length:Int)=cntN (λk=>p.show (x+k) y) v n:=by
 rw[cM];exact uq _ (λk=>Pat.show_le ok.wf (by have:=ok.deep;lia) _ _) v0 v6 n
def B7(p:Pat)(x y:Int){r:Nat}(h:r<=n):Txt.slice (aF p x y n) B_ (be (r:Int))=aF p x y r:=by
 apply fJ;rw[slice_cps,fL,cM,show(aF p x y n).cps.toList=_ from cM p x y n,cv];have e1:HT.sIx n 0 B_=0:=rfl;have e2:HT.sIx n n (be (r:Int))=r:=by show(if(r:Int)<0 then((r:Int)+n).toNat else min (r:Int).toNat n)=r;rw[if_neg JZ];lia
 rw[e1,e2,H9,Jc,<-Jd,Je,G6 h]
def occC(t:Jj)(c:Nat):Int:=((Builtin.Str.occurrences t #[[c].toArray] 0 t.length (t.length+1)).length:Nat)
def ut(ok:p.Ok)(x y:Int){v:Int}(v0:0<=v)(v6:v<=6)(n:Nat):occC (aF p x y n) (aP v)=cntN (λk=>p.show (x+k) y) v n:=by
 unfold occC;rw[B5,B6 ok x y v0 v6]
def cB(p:Pat)(v left top:Int)(m n:Nat):Int:=sumN (λj=>cntN (λk=>p.show (left+k) (top+j)) v m) n
def cC(p:Pat)(left top:Int)(m n:Nat):List Int:=(FQ 7).map λ(v:Nat)=>cB p v left top m n
def B8:SpD:=λds R=>∃(p:Pat) (x y v m:Int) (w:Nat),ds=[.str (aF p x y w),.str #[[aP v].toArray],.int m]/\p.Ok/\0<=v/\v<=6/\0<w/\w<=720/\0<=m/\m<2^63/\p.Keeps w 0/\R (.int (cntN (λk=>p.show (x+k) y) v m.toNat))
def Pat.Fam.across(F:p.Fam w h s):p.Keeps w 0:=F.keeps (InF.one w h s)
def Pat.Fam.down(F:p.Fam w h s):p.Keeps 0 (w*h):=F.keeps #[-s,w,by rw[IG,GD w s];lia,rfl]
def B9(hN:0<N)(k:p.Keeps 0 N)(v left top:Int)(m n:Nat):sumN (λj=>(((n:Int)-1-j)/N+1)*cntN (λk=>p.show (left+k) (top+j)) v m) (min n N)=cB p v left top m n:=by
 refine B3 (g:=λj=>cntN (λk=>p.show (left+k) (top+j)) v m) hN (λj=>?_) n;unfold cntN;refine dD λi _=>?_;have e:p.show (left+i) (top+((j+N:Nat):Int))=p.show (left+i) (top+j):=by
  have:=k (left+i) (top+j);rw[Hh]at this;rw[<-this,Hg,Ib]
 simp only[e]
def uu{α:Type}(f g:Nat->α)(h:∀v,v<n->v≠i->g v=f v):((FQ n).map f).set i (g i)=(FQ n).map g:=by
 apply GP;intro k;rw[GI];by_cases hk:i=k
 .subst hk;simp only[if_true,F4,GQ];by_cases hi:i<n
  .simp[hi]
  .simp[hi]
 .rw[if_neg hk];by_cases hi:k<n
  .simp[hi,h k hi (Ne.symm hk)]
  .simp[hi]
def Ca:bJ ".123456"=(FQ 7).map λ(v:Nat)=>D.str #[[aP (v:Int)].toArray]:=by
 unfold bJ;rw[show(".123456":Jj).cps.toList=[46,49,50,51,52,53,54]by decide+kernel];rfl
def bY(p:Pat)(left top:Int)(m n N k:Nat)(v:Int):Int:=sumN (λj=>(((n:Int)-1-j)/N+1)*cntN (λi=>p.show (left+i) (top+j)) v m) k
variable{top a_:Int}
def Cb{W:Int}(hn:(a_-top+1).toNat=n)(wN:W=(N:Int)):((if top+W<a_+1 then top+W else a_+1)-top).toNat=min n N:=by split<;>lia
def Cd{W:Int}(a:-1000000000000<=top/\top<=1000000000000)(c:-1000000000000<=a_/\a_<=1000000000000)(w0:0<W)(w1:W<=720):-(2^62)<=top/\top<2^62/\-(2^62)<=(if top+W<a_+1 then top+W else a_+1)/\(if top+W<a_+1 then top+W else a_+1)<2^62:=by split<;>lia
def Ce(hn:(a_-top+1).toNat=n)(hk:k<min n N):a_-(top+k)=(n:Int)-1-k:=JZ
def uw{l r:Int}{m:Nat}(a:-1000000000000<=l/\l<=1000000000000)(b:-1000000000000<=r/\r<=1000000000000)(h:(r-l+1).toNat=m):m<=2000000000001:=JZ
def Cf(x:Int):(if 0>x then 0 else x)=(x.toNat:Int):=by split<;>lia
def Cg:SpX:=λds R RX=>∃(p:Pat) (d:D) (left top right a_:Int),ds=[d,.int left,.int top,.int right,.int a_]/\bg p d/\p.Ok/\(aZ left/\aZ top/\aZ right/\aZ a_->R (.lst ((cC p left top (right-left+1).toNat (a_-top+1).toNat).map D.int)))/\(¬(aZ left/\aZ top/\aZ right/\aZ a_)->RX "TooFar" [])
structure Mv(p q:Pat)(b0 b1 b2 b3:Int):Prop where
 keeps:∀X Y,q.Keeps X Y↔p.Keeps (b0*X+b1*Y) (b2*X+b3*Y)
 leaf:∀l ls,p.leaves=l::ls->∃l' ls',q.leaves=l'::ls'/\l'.w0=l.w0*b0+l.w1*b2/\l'.w1=l.w0*b1+l.w1*b3/\l'.w2=l.w2*b0+l.w3*b2/\l'.w3=l.w2*b1+l.w3*b3
 area:∀w h s,p.Least w h s->∃w' h' s',q.Least w' h' s'/\w'*h'=w*h
structure Side(a w:Int)(A t:Nat):Prop where
 n:aZ a
 A4:A<=4000000000000
 t1:t<=1000
 e:aZ (a+A*w+t-1)
end My
end
section
open PySem PySem.Spec PyProof.Rows L2
namespace My
open Exc
section
variable {X:Cx}[J:Jm]{a b c e:P3}{ta tb te:TME}{pos:R4}
def mTru(te:TME):TMT:=λz M R=>te z M λd M1=>match d with|.bl k=>R k M1|_=>False
abbrev TMO:=SD->MS->(Option Int->MS->Prop)->Prop
def Ch:TMO:=λ_ M R=>R B_ M
def Ci(te:TME):TMO:=λz M R=>te z M λx M1=>match x with|.int i=>R (be i) M1|_=>False
def mO(K:Ex)[J:Jm](t:TMO):TO:=λs H Q=>∃F z M,Kept J.B J.F0 F H/\RepZ K J.B F H z s M/\∃R:Option Int->MS->Prop,t z M R/\∀o M' F' H',GrowM M M' F H F' H'->R o M'->RepM K F' H' M'->Q o H'
structure MPO(X:Cx)[Jm](e:Option P3)(t:TMO):Prop where
 out:PO X e (mO X.K t)
def ux:MPO X B_ Ch:=⟨PO.anti qw λs H Q q=>by
 obtain⟨F,z,M,k,rs,R,h1,h2⟩:=q;exact h2 B_ M F H (GrowM.refl k.fh) h1 rs.rm⟩
def uy(he:ME X e te):MPO X (be e) (Ci te):=⟨PO.anti (qy he.out) λs H Q q=>by
 obtain⟨F,z,M,k,rs,R,h1,h2⟩:=q;refine#[F,z,M,k,rs,_,h1,λx u M1 F1 H1 g1 hx rx m1=>?_];split at hx
 .exact#[_,rep_int.mp rx,h2 _ M1 F1 H1 g1 hx m1]
 .exact hx.elim⟩
def mSl(ta:TME)(tl th:TMO):TME:=λz M R=>ta z M λx M1=>tl z M1 λlo M2=>th z M2 λhi M3=>rdSl x lo hi λd=>R d M3
def Cj{lo hi:Option P3}{tl th:TMO}{p2:R4}(ha:ME X a ta)(hl:MPO X lo tl)(hu:MPO X hi th):ME X (.Subscript a (.Slice lo hi B_ p2) pos) (mSl ta tl th):=⟨(jH (SlR.or sE (SlR.or jJ qA)) ha.out hl.out hu.out).anti λs H Q q=>by
 obtain⟨F,z,M,k,rs,R,h1,h2⟩:=q;refine#[F,z,M,k,rs,_,h1,λx u M1 F1 H1 g1 hx rx m1=>?_];have k1:=k.growM rs.mb g1;have r1:=rs.growM k.bh g1 m1;refine#[F1,z,M1,k1,r1,_,hx,λlo M2 F2 H2 g2 hy m2=>?_];refine#[F2,z,M2,k1.growM r1.mb g2,r1.growM k1.bh g2 m2,_,hy,λhi M3 F3 H3 g3 hw m3=>?_];have g:=g1.trans (g2.trans g3);have Jw:=(rx.mono g2.ff).mono g3.ff;unfold rdSl at hw;split at hw
 .exact .inl #[_,rep_str.mp Jw,FY hw.1 J7,h2 _ _ M3 F3 H3 g hw.2 (rep_str.mpr rfl) m3]
 .obtain⟨l,vs,rfl,hq,rr⟩:=rep_lst.mp Jw;refine .inr (.inl #[l,vs,rfl,SqL.of (g3.fh _ _ hq),λp hp=>?_]);exact h2 _ _ M3 _ _ (g.trans (Grow.new g3.fh hp _).toM) hw (rep_lst.mpr #[p,_,rfl,ax,(rr.cut _ _).mono (aS (g3.fh.free hp) _)]) (m3.grow (Grow.new g3.fh hp _))
 .obtain⟨l,vs,rfl,hq,rr⟩:=rep_rol.mp Jw;refine .inr (.inl #[l,vs,rfl,g3.fh.seq hq,λp hp=>?_]);exact h2 _ _ M3 _ _ (g.trans (Grow.new g3.fh hp _).toM) hw (rep_lst.mpr #[p,_,rfl,ax,(rr.cut _ _).mono (aS (g3.fh.free hp) _)]) (m3.grow (Grow.new g3.fh hp _))
 .obtain⟨l,vs,rfl,hq,rr⟩:=rep_tup_mp Jw;refine .inr (.inr #[l,vs,rfl,g3.fh.tup hq,by rw[rr.length];exact hw.1,λp hp=>?_]);exact h2 _ _ M3 _ _ (g.trans (Grow.new g3.fh hp _).toM) hw.2 (rep_tupS.mpr #[p,_,rfl,ax,(rr.cut _ _).mono (aS (g3.fh.free hp) _)]) (m3.grow (Grow.new g3.fh hp _))
 .exact hw.elim⟩
end
end My
namespace Exc
open PySem PySem.Spec PyProof.Rows PySem.W L2
section
variable {prog:RP}{w:RU}{A:RV}{E:KB->KM->Prop}{s:KM}{K:Ex}{x C dx:KF}{ox:R_}{cd:Ta}{name:Jj}{v:KB}{vs:Array KB}{mA:Jj->Option KB}{ns:List Jj}
def Ck{Q:Unit->KM->Prop}(X:K.In s.heap)(hx:s.heap.get? x=be ox)(gt:ox.cls=.ref C)(w9:ox.data=.fields vs)(hd:ox.dict=be dx)(Ph:s.heap.Ns1 dx mA)(hw:PySem.Within mA ns)(hz:ns.length<=1000)(hc:clsIn K C=be cd)(hm:aK cd.mro=true)(hh:cd.hasDict=true)
  (hs:findIn K (.ref C) "__setattr__"=be (be (.builtin "object.__setattr__"))) (hf:findIn K (.ref C) name=be B_)
  (h:∀h',h'.Ns1 dx (λy=>if y=name then be v else mA y)->Heap.SameBut dx s.heap h'->∀tk,Q () {s with heap:=h',toks:=tk}):
  RT (RR prog w) A (T9 (.ref x) name v) Q E s:=by
 have hn:notCls ox=true:=by unfold notCls;rw[w9]
 obtain⟨od,es,ep,NL,Pj⟩:=id Ph;have I:InstAt s.heap x ox C (be od):=#[hx,gt,hn,by rw[hd];exact NL];refine set_plain X I hs ?_;have SF:=PySem.F.store_object;have ne:cd.mro.isEmpty=false:=OZ
 have sub:Looks (RR prog w) s.heap (S5 (.ref x) (.type "object")) true:=I.type.andThen (looks_mroIn X Tk);refine SG SF.slot.plain SF.entry (@check_slot (RR prog w) _ _ _ "object.__setattr__" "object" "__setattr__" (.ref x) [.str name s.toks,v] [] _ SF.kind SF.split sub (SF.args (.ref x) (.str name s.toks) v) ?_);have J4:Looks (RR prog w) s.heap (mroOf (.ref C)) cd.mro:=(looks_clsIn X hc).andThen .now;rw[osa_eq,refuse_eq];refine Os (Os (I.type.here (s:={s with toks:=s.toks+1}) (Os (J4.here (s:={s with toks:=s.toks+1}) ?_))));rw[jO _ hm];refine RQ (Os (I.type.here (s:={s with toks:=s.toks+1}) (Os ((looks_findIn X hf).here (s:={s with toks:=s.toks+1}) (Os (Looks.now.here (s:={s with toks:=s.toks+1}) ?_))))));obtain⟨oc,O1,O2,osl⟩:=ox;dsimp only at gt hd w9;subst gt hd w9;refine Os (RQ (Os (Os (Th hx (Os ((looks_clsIn X hc).here (s:={s with toks:=s.toks+1}) ?_))))));rw[hh];rw[if_neg J7];refine RQ ?_;show RT _ _ (Builtin.ObjectAttr.storeInDict dx (.str name s.toks) name v) _ _ _;unfold Builtin.ObjectAttr.storeInDict Builtin.ObjectAttr.newKeyGuard;refine Os (RQ (Os (Tt Ph λh' f_ hs=>?_)));obtain⟨oD,OR,OS,K1,K2,K3⟩:=f_.count (PySem.Within.cons name v hw);refine Os (S8 K1 (by rw[K2];exact S' (FY K3 (by rw[FV,SO];lia))) ?_);exact RQ (h h' f_ hs _)
end
end Exc
namespace My
open Exc
section
variable {X:Cx}[J:Jx]{x f:Jj}{e:P3}{te:TD}{pos c7 p:R4}{rest:List RS}{tr:TID}
def uz{β:Type}{y:Jj}{z:β}:∀{ws:List (Jj×β)},ws.lookup y=be z->y∈ws.map (·.1)
 |[],h=>nomatch h
 |(g,d)::ws,h=>by
  rw[Ga]at h;split at h
  .rename_i hg;rw[Gi,show y=g by simpa using hg];exact FZ
  .exact FW _ (uz h)
def Cl(f:Jj)(te:TD)(tr:TID):TID:=λz fs R=>(fs≠[]/\fs.length<=100)/\te z λd=>tr z ((f,d)::fs) R
def Cm{sx:Jj}{ps:R4}(hA:∃C cd,ErrA X.K x C cd)(hf:∀C,nsIn X.K Pi x=be (be (.ref C))->FS X.K (.ref C) f=be B_)(he:WDE X e te)(hr:WDX X x rest tr)(hN:autoParam (X.N[0]?=be sx) zA0)(hv:autoParam (Vis X.env.scope sx) zA5)(hd:autoParam (zND sx) zA1)
  (e_:autoParam (zNC sx) zA1) (hs:autoParam (Sd e (be (.Attribute (.Name sx ps) f c7)) pos.line X.env=pure false) zA0):WDX X x (.Assign [.Attribute (.Name sx ps) f c7] e pos::rest) (Cl f te tr):=⟨by
 have he:=he.out;have hr:=hr.out;obtain⟨C,cd,er⟩:=hA;have Ke:=hf C er.ns;have step:PS X (.Assign [.Attribute (.Name sx ps) f c7] e pos) (λE σ H=>∃e b ws,σ[0]?=be (be (.ref e))/\
   lE X.K te σ H (λv H1=>H1 e=be (XN e C (be b))/\H1 b=be (.xd ws)/\ws.length<=100/\E.nx σ (upd H1 b (.xd ((f,v)::ws))))):=by
  intro pins s σ H D I h;obtain⟨ea,b,ws,h0,h⟩:=h;refine Sv (thn (he pins s σ H _ I h) λu s1 ⟨y,H1,I1,ry,s9,hb,hl,Kd⟩=>thn (cG (i:=0) hN hv hd e_ pins s1 σ H1 (λv H'=>v=.ref ea/\H'=H1) I1 #[.ref ea,h0,rfl,rfl]) λov s2 hh=>?_) hs;obtain⟨v0,H2,I2,r0,e1,e2⟩:=hh;subst e1 e2;obtain rfl:ov=Value.ref ea:=r0;obtain⟨t0,sl,i8⟩:=XN.get I2.hok s9;obtain⟨mA,hns,u6⟩:=(show ObjOk X.prog X.w H2 s2.heap b (.xd ws)from I2.hok b _ hb);have hw:PySem.Within mA (ws.map (·.1)):=λy' hy=>by
   have:=u6 y';cases hq:ws.lookup y' with
   |none=>
    rw[hq]at this;cases hm:mA y' with
    |none=>exact absurd hm hy
    |some z=>rw[hm]at this;exact this.elim
   |some z=>exact uz hq
  refine Ck (K:=X.K) (C:=C) (cd:=cd) I2.kIn i8 rfl rfl rfl hns hw (by rw[F4];lia) er.cl er.mro er.hd er.sa Ke λh' g1 g2 tk=>?_;obtain⟨od,es,ep,NL,RE⟩:=id g1;have NM:∀c,H2 c=B_->c≠b:=λc q z=>by rw[z,hb]at q;cases q
  have x9:∀c o,H2 c=be o->(∀fs,o≠.xd fs)->upd H2 b (.xd ((f,y)::ws)) c=be o:=λc o q n=>by
   have n1:c≠b:=λz=>by rw[z,hb]at q;cases q;exact n _ rfl
   rw[aj n1];exact q
  refine#[σ,_,?_,Kd];refine I2.un (h':=h') (t':=tk) #[λc o q n _ _=>(g2.2 c (NM c n)).trans q,λc o q n _ _=>#[o.slots,(g2.2 c (NM c n)).trans q],λc o q n _=>?_,λc o q _=>?_,λc xs q=>x9 c _ q (λφ z=>nomatch z),λc o u q=>x9 c _ q (λφ z=>nomatch z),λc ps q=>#[[].toArray,by rw[x9 c _ q (λφ z=>nomatch z)];simp]] λa o q=>?_
  .rw[aj (NM c n)];exact n
  .by_cases hc:c=b
   .rw[hc];exact#[od,NL]
   .exact#[o,(g2.2 c hc).trans q]
  .by_cases hc:a=b
   .subst hc;rw[ax]at q;cases q;refine#[_,g1,λg=>?_];rw[Ga];by_cases hg:g=f
    .subst hg;simp;exact ry
    .have:(g==f)=false:=by simpa using hg
     rw[this,if_neg hg];exact u6 g
   .rw[aj hc]at q;refine(I2.hok a o q).stay (λc u f6 r=>?_) (λc r=>x9 c _ r (λφ z=>nomatch z)) λc xs r=>x9 c _ r (λφ z=>nomatch z);refine(g2.2 c λz=>?_).trans r;rcases f6 with e1|e1
    .exact hc (e1 ▸ z)
    .rw[z,hb]at e1;cases e1
 refine(dM step hr).anti λE s H q=>?_;obtain⟨C',a,od,ws,F,z,fs,hn,h0,d5,hB,g8,k,rs,rf,d7,R,⟨⟨j7,hl⟩,hR⟩,kk⟩:=q;rw[er.ns]at hn;cases hn;rcases d7 with⟨_,rfl⟩|⟨b,rfl,h1,h2,h3,h4,h5⟩
 .cases fs with
  |nil=>exact absurd rfl j7
  |cons c fs=>obtain⟨g,d⟩:=c;obtain⟨v,r,h,_⟩:=repf_cons.mp rf;cases h
 refine#[a,b,ws,h0,_,F,z,k,rs,_,hR,λd v F1 H1 g hx rv=>#[g.hh a _ d5,g.hh b _ h1,?_,?_]]
 .have:∀{fs:List (Jj×D)} {ws:List (Jj×V)},RepF X.K F fs ws->ws.length=fs.length:=λ{fs}=>by
   induction fs with
   |nil=>intro ws r;rw[repf_nil.mp r];rfl
   |cons c fs ih=>obtain⟨g,d⟩:=c;intro ws r;obtain⟨v,r',rfl,_,h⟩:=repf_cons.mp r;rw[FV,FV,ih h]
  rw[this rf];exact hl
 .have QS:=g.hh b _ h1;have Kc:F1 b=none:=g.out b h3 (by rw[h1];exact λz=>nomatch z);have Jt:F1 a=none:=g.out a g8 (by rw[d5];exact λz=>nomatch z);have k1:=k.grow g;have m4:=rs.grow g;have same:∀{G:Hp},G b=B_->Same G H1->Same G (upd H1 b (.xd ((f,v)::ws))):=λ{G} gb gs c o q=>by
   have n2:c≠b:=λz=>by rw[z,gb]at q;cases q
   rw[aj n2];exact gs c o q
  refine#[C,a,be b,(f,v)::ws,F1,z,(f,d)::fs,er.ns,h0,by rw[aj (Ne.symm h4)];exact g.hh a _ d5,hB,Jt,#[same h2 k1.bh,same Kc k1.fh,k1.f0,k1.out,k1.eb,k1.jf,k1.jo],?_,repf_cons.mpr #[v,ws,rfl,rv,RepF.mono g.ff fs ws rf],.inr #[b,rfl,ax,h2,Kc,h4,λz=>nomatch z],R,hx,kk];refine#[m4.len,m4.val,λi ds e'=>?_,m4.apart];obtain⟨c,vs,q1,q2,q⟩:=m4.own i ds e';have n2:c≠b:=λz=>by rw[z,QS]at q2;cases q2
  exact#[c,vs,q1,by rw[aj n2];exact q2,q]⟩
end
def subM(N M:MS):Prop:=(∀e,e∈N->e∈M)/\(am N).Nodup
variable{M:MS}
def subM.keys{N:MS}(s:subM N M){a:KF}(h:a∈am N):a∈am M:=by
 obtain⟨⟨b,o⟩,h1,rfl⟩:=Gm.mp h;exact bA (s.1 _ h1)
variable{F H:Hp}
def RepM.sub{K:Ex}{N:MS}(r:RepM K F H M)(s:subM N M):RepM K F H N:=#[s.2,λa o h=>r.ok a o (s.1 _ h),λa h=>r.fr a (s.keys h)]
def GrowM.sub{F' H':Hp}{N M':MS}(g:GrowM M M' F H F' H')(s:subM N M'):GrowM M N F H F' H':=#[g.ff,g.fh,g.hh,g.out,λb h=>g.ks b (s.keys h)]
def GrowM.sub0{F' H':Hp}{N M':MS}(g:GrowM N M' F H F' H')(s:subM N M):GrowM M M' F H F' H':=#[g.ff,g.fh,λb o h=>g.hh b o λz=>h (s.keys z),λb h=>g.out b λz=>h (s.keys z),λb h=>(g.ks b h).imp s.keys id]
def fN(S:SpM):SpM:=λds M R RX=>∃(R0:D->MS->Prop) (Jy:XDM),S ds M R0 Jy/\R=(λd M'=>∃N,subM N M'/\R0 d N)/\RX=λx fs M'=>∃N,subM N M'/\Jy x fs N
def va{K:Ex}{S:SpM}{vs:List V}{Q:VK}{E:XK}(h:lSpM K S vs H Q E):lSpM K (fN S) vs H Q E:=by
 obtain⟨F,ds,M,fh,rs,rm,R,RX,hS,q,qx⟩:=h;refine#[F,ds,M,fh,rs,rm,_,_,#[R,RX,hS,rfl,rfl],λd v M' F' H' g hd rd m'=>?_,λx fs C od M' F' H' g hR er m'=>?_]
 .obtain⟨N,s,hd⟩:=hd;exact q d v N F' H' (g.sub s) hd rd (m'.sub s)
 .obtain⟨N,s,hR⟩:=hR;exact qx x fs C od N F' H' (g.sub s) hR er (m'.sub s)
section
variable {P:RP}{w:RU}{K:Ex}{mg:Jj->Option KB}{base:Heap}{n:Nat}{x m:Jj}{ps:List Jj}{S:SpM}
def CalMth.drop(C:CalMth P w K mg base n x m ps (lSpM K (fN S))):CalMth P w K mg base n x m ps (lSpM K S):=C.imp λ_ _ _ _ h=>va h
def CalMth.lendD{S:SpD}(C:CalMth P w K mg base n x m ps (lSp K S)):CalMth P w K mg base n x m ps (lSpM K (My.lend λds R _=>S ds R)):=C.imp λ_ _ _ _ h=>by
 obtain⟨F,ds,fh,rs,R,RX,hS,q,_⟩:=Al h;exact#[F,ds,fh,rs,R,hS,q]
def Txm.okDW{qual:Jj}{st:RS}{N:List Jj}{k:Nat}{S:SpD}(T:Txm K x m qual st ps)(F:FnScope N ps (ag st))(len:∀ds R,S ds R->ds.length=ps.length)
  (a8:∀(f:KF) (cdv:KB) (A:RV) (outer:List SL) (s:KM) (H:Hp) (E:XK) (J:Jx),Room k (A.deeper (R6 qual (ag st) s.heap.objs.size f cdv))->
   ∃t,WDSs (cxOf (CX1 P w) P w K mg base N qual (ag st) f cdv A outer s H E).nox (aG st) t/\∀ds R,S ds R->t {nx:=λ_=>R .non,rt:=R} (startD N ds)):CalMth P w K mg base (k+1) x m ps (lSp K S):=by
 obtain⟨C,f,fd,h1,h2,h3,T,hb⟩:=T;exact#[C,f,fd,h1,h2,h3,L2.Fun.okDW T F len (a8 f),hb]
end
def ia(P:RP)(w:RU)(K:Ex)(mg:Jj->Option KB)(base:Heap)(n:Nat)(x m:Jj)(ps:List Jj)(dd:List D)(sp:Sp):Prop:=
 ∃C f fd d_ o0,nsIn K Pi x=be (be (.ref C))/\Cls K C/\Meth K C m f/\FnOk P w K mg base (CX1 P w) n f fd ps sp/\Binds K fd ps o0/\Vals d_ o0/\∀F,Reps K F dd d_
section
variable {X:Cx}{k:Nat}{f:KF}{fd:R3}{ps:List Jj}{sp:Sp}{E:XK}
def Cn{pins:List (KF×R_)}{σ:L2.St}{H:Hp}{s:KM}{Q:VK}{us o0:List KB}{vs d_:List V}(F:FnOk X.prog X.w X.K X.mg X.base (CX1 X.prog X.w) k f fd ps sp)(hr:Room k X.A)(hb:Binds X.K fd ps o0)(hd:Vals d_ o0)
  (hx:∀e s',CX1 X.prog X.w X.stack H s E e s'->X.xe e s') (I:Inv X pins σ H s) (r:Vals vs us) (h:sp (vs++d_) H Q E):RT (RR X.prog X.w) X.A (call (.ref f) us) (EP X pins σ Q) X.xe s:=by
 have r2:=r.append hd;have hl:(us++o0).length=ps.length:=by rw[<-L2.Vals.length r2];exact F.len _ _ _ _ h
 have f6:=hb s us I.kIn hl;refine Sw (Ss (F.run X.A X.stack s H #[us,[]] (us++o0) (vs++d_) Q E hr I.env0 f6 r2 h) λr s' hq=>?_);cases r with
 |error e=>exact hx e s' hq
 |ok fl=>
  cases fl with
  |ret u=>exact I.after hq
  |next=>exact False.elim hq
  |brk=>exact False.elim hq
  |cont=>exact False.elim hq
end
section
variable {X:Cx}[J:Jm]{a b c e o:P3}{ta tb te:TME}{pos p apos cpos:R4}{n m:Nat}{ps:List Jj}{S:SpM}{x:Jj}{es:List P3}{t:TMA}
def Co(x m:Jj)(dd:List D)(S:SpM)(to:TME):TME:=λz M R=>to z M λd M1=>∃fs,cP M1 d x fs/\fs.lookup m=B_/\S (d::dd) M1 R λx fs M'=>J.RM z M' x fs
def Cp{nm:Jj}{dd:List D}{pl:TJ Bool}(C:ia X.prog X.w X.K X.mg X.base n x nm ps dd (lSpM X.K S))(hx:XOkM X)(hr:Room m X.A)(ho:ME X o te)(d4:autoParam (X.ex=[]) zA0)(hn:autoParam (n<=m) zA1)
  (ht:R1 (.Call (.Attribute o nm apos) [] [] pos) X.env=(do
   let ov <-R1 o X.env
   SA apos.atName
   let (f,first) <-Si [ov] (S2 ov nm pl)
   TR pos f first (Su pos (RW [] X.env)) (SU pos (Sr [] X.env))):=by rfl):
  ME X (.Call (.Attribute o nm apos) [] [] pos) (Co x nm dd S te):=by
 refine#[λpins s σ H Q I h=>?_];obtain⟨Fr,z,M,k,rs,R,h1,h2⟩:=h;refine methodCall_KW (pl:=pl) (thn (ho.out pins s σ H (λv H1=>∃d M1 F1,GrowM M M1 Fr H F1 H1/\Rep X.K F1 d v/\RepM X.K F1 H1 M1/\∃fs,cP M1 d x fs/\fs.lookup nm=B_/\S (d::dd) M1 R λx fs M'=>J.RM z M' x fs) I #[Fr,z,M,k,rs,_,h1,λd v M1 F1 H1 g1 hd rd m1=>#[d,M1,F1,g1,rd,m1,hd]]) λu s1 hh=>?_) ht;obtain⟨v,H1,I1,rv,d,M1,F1,g1,rd,m1,fs,hi,hl,hq⟩:=hh;obtain⟨C',f,fd,d_,o0,hns,gt,JL,F,hb,hd,QT⟩:=C;obtain⟨a,C2,dx,ws,rfl,m6,hH,rf⟩:=gP g1.fh m1 rd hi;rw[hns]at m6;cases m6;obtain rfl:u=Value.ref a:=rv;refine jG I1 hH gt JL (rf.none hl) ?_;refine callWith_K0 (first:=[.ref a]) I1.kIn JL.kp (Cn (E:=EX X z σ) (us:=[.ref a]) (vs:=[.ref a]) F (hr.mono hn) hb hd (λe s' hq=>hx.out d4 I1 hq) I1 (.cons rfl .nil) ?_);exact gQ k rs g1 m1 (reps_cons.mpr #[_,_,rfl,rd,QT F1]) hq h2
def Cq(ta tb:TME):TME:=λz M R=>ta z M λx M1=>tb z M1 λy M2=>kdP x λa=>kdP y λb=>∃ds es,mget M2 a=be (.lst ds)/\mget M2 b=be (.lst es)/\ds.length+es.length<=100000/\∀p,p∉am M2->R (.ptr p) ((p,.lst (ds++es))::M2)
def Cr(ha:ME X a ta)(hb:ME X b tb):ME X (.BinOp a .Add b pos) (Cq ta tb):=⟨(jB qG ha.out hb.out).anti λs H Q h=>by
 obtain⟨F,z,M,k,rs,R,h1,h2⟩:=h;refine#[F,z,M,k,rs,_,h1,λx u M1 F1 H1 g1 hx rx m1=>?_];refine#[F1,z,M1,k.growM rs.mb g1,rs.growM k.bh g1 m1,_,hx,λy v M2 F2 H2 g2 hy ry m2=>?_];obtain⟨p,rfl,Ki⟩:=kdP.of hy;obtain⟨q,rfl,ds,es,hm,J4,hl,hR⟩:=kdP.of Ki
 focus
  obtain⟨us,hH,ru⟩:=m2.ok _ _ (bf hm);obtain⟨vs,QU,rv⟩:=m2.ok _ _ (bf J4);refine#[p,q,us,vs,rep_ptr.mp rx,rep_ptr.mp ry,hH,QU,by rw[ru.length,rv.length];exact FY hl J7,λr hr=>?_];exact h2 _ _ _ F2 _ ((g1.trans g2).trans (GrowM.new g2.fh hr)) (hR r λz=>m2.here z hr) (rep_ptr.mpr rfl) (m2.new g2.fh hr #[_,ax,ru.append rv])⟩
def mSlP(ta:TME)(tl th:TMO):TME:=λz M R=>ta z M λx M1=>tl z M1 λlo M2=>th z M2 λhi M3=>match x with|.ptr a=>∃ds,mget M3 a=be (.lst ds)/\∀p,p∉am M3->R (.ptr p) ((p,.lst (cutD ds lo hi))::M3)|_=>False
def Cs{lo hi:Option P3}{tl th:TMO}{p2:R4}(ha:ME X a ta)(hl:MPO X lo tl)(hu:MPO X hi th):ME X (.Subscript a (.Slice lo hi B_ p2) pos) (mSlP ta tl th):=⟨(jH jJ ha.out hl.out hu.out).anti λs H Q q=>by
 obtain⟨F,z,M,k,rs,R,h1,h2⟩:=q;refine#[F,z,M,k,rs,_,h1,λx u M1 F1 H1 g1 hx rx m1=>?_];have k1:=k.growM rs.mb g1;have r1:=rs.growM k.bh g1 m1;refine#[F1,z,M1,k1,r1,_,hx,λlo M2 F2 H2 g2 hy m2=>?_];refine#[F2,z,M2,k1.growM r1.mb g2,r1.growM k1.bh g2 m2,_,hy,λhi M3 F3 H3 g3 hw m3=>?_];have g:=g1.trans (g2.trans g3);split at hw
 .rename_i l;obtain⟨ds,hm,hR⟩:=hw;obtain⟨us,hH,ru⟩:=m3.ok _ _ (bf hm);refine#[l,us,rep_ptr.mp rx,SqL.of hH,λr hr=>?_];exact h2 _ _ _ F3 _ (g.trans (GrowM.new g3.fh hr)) (hR r λz=>m3.here z hr) (rep_ptr.mpr rfl) (m3.new g3.fh hr #[_,ax,ru.cut _ _])
 .exact hw.elim⟩
def Ct(to:TME):TME:=λz M R=>to z M λo M1=>match o with|.ptr a=>∃ds d,mget M1 a=be (.lst ds)/\ds[ds.length-1]?=be d/\R d (mput M1 a (.lst ds.dropLast))|_=>False
def Cu(ho:ME X o ta)(b7:autoParam (RZ o "pop" X.env (R1 o X.env)=R1 o X.env) zA0)(b_:autoParam ((apos.endLine==cpos.line)=true) zA0):ME X (.Call (.Attribute o "pop" apos) [] [] cpos) (Ct ta):=⟨(xk PySem.F.plainAttrs_list PySem.F.slot_list_pop PySem.F.type_list_pop xq ho.out b7 b_).anti λs H Q q=>by
 obtain⟨F,z,M,k,rs,R,h1,h2⟩:=q;refine#[F,z,M,k,rs,_,h1,λx u M1 F1 H1 g1 hx rx m1=>?_];split at hx
 .rename_i l;obtain⟨ds,d,hm,hl,hR⟩:=hx;obtain⟨us,hH,ru⟩:=m1.ok _ _ (bf hm);obtain⟨v,hv,rv⟩:=ru.get hl;rw[rep_ptr.mp rx];exact#[.inl #[rfl,us,SqL.of hH],l,us,v,rfl,rfl,hH,by rw[ru.length];exact hv,h2 _ _ _ F1 _ (g1.trans (GrowM.put g1.fh (m1.fr l (bA (bf hm))) hm)) hR rv (m1.put hm #[_,ax,ru.init])]
 .exact hx.elim⟩
end
abbrev SiM:=KF->List D->(MS->Prop)->Prop
def lSiM(K:Ex)(C:KF)(S:SiM):Sp:=λvs H Q _=>∃a dx us H1 F ds,vs=.ref a::us/\H=upd (upd H1 dx (.own a)) a (.ins C dx [])/\H1 a=B_/\H1 dx=B_/\dx≠a/\Same F H1/\Reps K F ds us/\
 ∃R:MS->Prop,S a ds R/\∀M' F' H',GrowM [] M' F H1 F' H'->R M'->RepM K F' H' M'->Q .non H'
def CalN(P:RP)(w:RU)(K:Ex)(mg:Jj->Option KB)(base:Heap)(n:Nat)(x:Jj)(ps:List Jj)(S:SiM):Prop:=
 ∃C f fd,nsIn K Pi x=be (be (.ref C))/\mg x=be (.ref C)/\Mk K C f/\FnOk P w K mg base (Exc.CX1 P w) n f fd ps (lSiM K C S)/\Binds K fd ps []
section
variable {P:RP}{w:RU}{K:Ex}{mg:Jj->Option KB}{base:Heap}
open Classical in
def Txi.okIN{x qual:Jj}{st:RS}{N:List Jj}{p0:Jj}{ps:List Jj}{k:Nat}{S:SiM}(T:Txi K mg x qual st (p0::ps))(F:FnScope N (p0::ps) (ag st))(len:∀a ds R,S a ds R->ds.length=ps.length)
  (a8:∀(f:KF) (cdv:KB) (A:RV) (outer:List SL) (s:KM) (H:Hp) (E:XK) (J:Jm),Room k (A.deeper (R6 qual (ag st) s.heap.objs.size f cdv))->XOkM (cxOf (CX1 P w) P w K mg base N qual (ag st) f cdv A outer s H E).nox->
   ∃t,MSs (cxOf (CX1 P w) P w K mg base N qual (ag st) f cdv A outer s H E).nox (aG st) t/\∀a ds R,(∀z M x fs,¬J.RM z M x fs)->S a ds R->t {nx:=λ_ M'=>R M',rt:=λ_ _=>False} (startD N (.ptr a::ds)) [(a,.ins x [])]):CalN P w K mg base (k+1) x (p0::ps) S:=by
 obtain⟨C,f,fd,hns,j4,mk,T,hb⟩:=T;refine#[C,f,fd,hns,j4,mk,Fun.okC T F (λvs H Q E h=>?_) (λcdv A outer s H vs Q E hr h=>?_),hb]
 .obtain⟨a,dx,us,H1,F,ds,rfl,_,_,_,_,_,rs,R,h,_⟩:=h;rw[FV,FV,rs.length,len a ds R h]
 .obtain⟨a,dx,us,H1,F1,ds,rfl,rfl,ha,n8,j7,fh,rs,R,h,q⟩:=h
  let H:Hp:=upd (upd H1 dx (.own a)) a (.ins C dx [])
  let B:Hp:=λb=>if b=a then B_ else H b
  have Lp:B a=none:=if_pos rfl;have hB:∀{b:KF},b≠a->B b=H b:=λ{b} h=>if_neg h;have l9:∀{b:KF} {o:HO},H1 b=be o->b≠a/\H b=be o:=λ{b o} e=>by
   have n1:b≠a:=bC e ha;exact#[n1,by show upd _ _ _ b=_;rw[aj n1,aj (bC e n8)];exact e]
  letI:Jm:={B:=B,F0:=F1,RX:=λ_ _ _=>False,RM:=λ_ _ _ _=>False}
  have hx:XOkM (cxOf (CX1 P w) P w K mg base N qual (ag st) f cdv A outer s H E).nox:=λσ z M' F' H' s' e C od y fs I kk rr hR er _=>hR.elim;obtain⟨t,ht,hq⟩:=a8 f cdv A outer s H E inferInstance hr hx;have Fa:F1 a=none:=fh.free ha;have k0:Kept B F1 F1 H:=⟨λb o e=>by
   by_cases n:b=a
   .rw[n,Lp]at e;cases e
   .rw[hB n]at e;exact e,λb o e=>(l9 (fh b o e)).2,Same.refl F1,λ_ h _=>h,rfl,Same.refl F1,λ_ h _=>h⟩
  have y9:Reps K F1 (.ptr a::ds) (.ref a::us):=reps_cons.mpr #[_,_,rfl,rep_ptr.mpr rfl,rs];have NF:RepM K F1 H [(a,.ins x [])]:=⟨by simp[am],λb o hb=>by
   have e:=FP.mp hb;cases e;exact#[C,dx,[],hns,ax,repf_nil.mpr rfl],λb hb=>by
   have e:b=a:=by simpa[am]using hb
   rw[e];exact Fa⟩
  have r0:RepZ K B F1 H (startD N (.ptr a::ds)) (L2.start N (.ref a::us)) [(a,.ins x [])]:=⟨da y9,kA y9,NF,λb hb=>by
   have e:b=a:=by simpa[am]using hb
   rw[e];exact Lp⟩
  refine#[_,ht.out.nox,F1,F1,_,_,k0,r0,_,hq a ds R (λ_ _ _ _ z=>z) h,#[λz' s' M' F' H' kk hn r=>?_,λd v M' F' H' kk hd rd Nz mb=>hd.elim,λ_ _ _ _ _ _ h _=>h.elim,λ_ _ _ _ _ _ h _=>h.elim]];refine q M' F' H' ⟨kk.f0,kk.fh,λb o _ e=>kk.bh b o (by show B b=be o;rw[hB (l9 e).1];exact(l9 e).2),λb _ h1 h2=>kk.out b h1 (by
   show B b≠B_;cases e:H1 b with
   |none=>exact absurd e h2
   |some o=>rw[hB (l9 e).1,(l9 e).2];exact λz=>nomatch z),λb hb=>?_⟩ hn r.rm
  cases e:H1 b with
  |none=>exact .inr rfl
  |some o=>
   have h0:B b=none:=r.mb b hb;rw[hB (l9 e).1,(l9 e).2]at h0;cases h0
end
section
variable {X:Cx}[J:Jm]{e:P3}{es:List P3}{pos p:R4}{n m:Nat}{ps:List Jj}{S:SiM}{x:Jj}{t:TMA}
def Cw(S:SiM)(t:TMA):TME:=λz M R=>t z M λds M1=>∀a,a∉am M1->S a ds λM'=>R (.ptr a) (M'++M1)
def Cy(M:CalN X.prog X.w X.K X.mg X.base n x ps S)(hr:Room m X.A)(ha:MA X (e::es) t)(hg:autoParam (Gl X x) zA0)(hn:autoParam (n+1<=m) zA1)(c_:autoParam (zND x) zA1)
  (he:autoParam (zSE X e es) zA0) (c5:autoParam (zPL X pos es) zA0):
  ME X (.Call (.Name x p) (e::es) [] pos) (Cw S t):=by
 obtain⟨C,f,fd,hns,j4,mk,F,hb⟩:=M;refine#[(gd mk F (hr.mono hn) hg j4 hb .nil dS ha.out c_ he c5).anti λs H Q q=>?_];obtain⟨F,z,M,k,rs,R,h1,h2⟩:=q;refine#[F,z,M,k,rs,_,h1,λds vs M1 F1 H1 g1 hx rx m1=>?_];intro a dx ha n8 j7;have na:a∉am M1:=λz=>m1.here z ha;refine#[a,dx,vs,H1,F1,ds,by rw[Gk],rfl,ha,n8,j7,g1.fh,rx,_,hx a na,λM' F' H' g hR m'=>#[rfl,?_]];have hh:∀b o,H1 b=be o->H' b=be o:=λb o e=>g.hh b o (λz=>nomatch z) e;have nk:∀b,b∈am M'->H1 b=none:=λb hb=>(g.ks b hb).elim (λz=>nomatch z) id;refine h2 (.ptr a) (.ref a) _ F' H' (g1.trans #[g.ff,g.fh,λb o _ e=>hh b o e,λb _=>g.out b (λz=>nomatch z),λb hb=>?_]) hR (rep_ptr.mpr rfl) #[?_,λb o hb=>?_,λb hb=>?_]
 .rcases keys_app.mp hb with z|z
  .exact .inr (nk b z)
  .exact .inl z
 .unfold am;rw[Gc];exact GY.mpr #[m'.nd,m1.nd,λb h1 c h2 e=>m1.here (e ▸ h2) (nk b h1)]
 .rcases Go.mp hb with z|z
  .exact m'.ok b o z
  .exact(m1.ok b o z).mono g.ff λo e=>hh b o e
 .rcases keys_app.mp hb with z|z
  .exact m'.fr b z
  .exact g.out b (λz=>nomatch z) (m1.fr b z) (m1.here z)
end
section
variable {K:Ex}{x m q:Jj}{st:RS}{ps:List Jj}
def MdIn(K:Ex)(x m q:Jj)(st:RS)(i:Int):Prop:=∃C f fd T,NsC K x C/\Meth K C m f/\FunG K (.ref T) m q st f fd/\∃tc td n ts t,K.lookup T=be #[tc,td,.seq [.int i t].toArray n,ts]
def mdIn_mk{C f T:KF}{i:Int}{oc tc:KB}{od an td:Option KF}{sl ts:Array (Option KB)}{n:Nat}{t:Ub}{kV dc pm cd ct:KB}(a:nsIn K Pi x=be (be (.ref C)))(b:FS K (.ref C) m=be (be (.ref f)))(j:isFn K (.ref f)=true)(l:K.lookup f=be #[oc,od,.func (fnOf m q (bo st) (aG st) (ag st) (.ref T) kV dc pm an cd ct),sl])(c:codeIn K cd q=true)(k:keepIn K (.ref f)=true)
  (d:K.lookup T=be #[tc,td,.seq [.int i t].toArray n,ts]):MdIn K x m q st i:=#[C,f,_,T,a,#[b,j,k],#[#[_,_,_,_,_,_,_,_,_,rfl,l,c],k],_,_,_,_,_,d]
def Cz(m q:Jj)(st:RS)(x0 x1:Jj):Prop:=∀(s:KM) (T:KF) (o:R_) (its:Array KB) (n:Nat) (v:KB) (kV doc pm:KB) (an:Option KF) (cdv ct u0 u1:KB),s.heap.get? T=be o->o.data=.seq [v].toArray n->
 SW s (fnOf m q (bo st) (aG st) (ag st) (.ref T) kV doc pm an cdv ct) #[[u0,u1],[]] [(x0,u0),(x1,u1)]/\SW s (fnOf m q (bo st) (aG st) (ag st) (.ref T) kV doc pm an cdv ct) #[[u0],[]] [(x0,u0),(x1,v)]
def Txd(K:Ex)(x m qual:Jj)(st:RS)(ps:List Jj)(dd:List D):Prop:=
 ∃C f fd dV d_ o0,nsIn K Pi x=be (be (.ref C))/\Cls K C/\Meth K C m f/\FunG K dV m qual st f fd/\Binds K fd ps []/\Binds K fd ps o0/\Vals d_ o0/\∀F,Reps K F dd d_
def MdIn.txd{i:Int}{x0 x1:Jj}(T:MdIn K x m q st i)(c:ClIn K x)(b:Cz m q st x0 x1):Txd K x m q st [x0,x1] [.int i]:=by
 obtain⟨C,k⟩:=c;obtain⟨D,f,fd,T,a,mt,F,tc,td,n,ts,t,hT⟩:=T;cases NsC.uniq k.ns a;have F':=F;obtain⟨oc,od,kV,doc,pm,an,cdv,ct,osl,rfl,lk,e_⟩:=F'.ex;refine#[C,f,_,_,[.int i],[.int i t],a,k.cl,mt,F,λs us hK hl=>?_,λs us hK hl=>?_,.cons #[t,rfl] .nil,λF=>reps_cons.mpr #[_,_,rfl,rep_int.mpr rfl,reps_nil.mpr rfl]]
 .rw[Gk]at hl ⊢;obtain⟨u0,t0,rfl,h0⟩:=bc hl;obtain⟨u1,t1,rfl,h1⟩:=bc h0;cases len_0 h1;exact(b s T _ [].toArray n (.int i t) kV doc pm an cdv ct u0 u1 (hK _ _ hT) rfl).1
 .rw[F9]at hl;have MQ:us.length=[x0].length:=Nat.succ.inj hl;obtain⟨u0,t0,rfl,h0⟩:=bc MQ;cases len_0 h0;exact(b s T _ [].toArray n (.int i t) kV doc pm an cdv ct u0 u0 (hK _ _ hT) rfl).2
end
section
variable {P:RP}{w:RU}{K:Ex}{mg:Jj->Option KB}{base:Heap}
variable{N ps:List Jj}{dd:List My.D}
def Txd.okM{x m qual:Jj}{st:RS}{k:Nat}{S:SpM}(T:Txd K x m qual st ps dd)(F:FnScope N ps (ag st))(len:∀ds M R RX,S ds M R RX->ds.length=ps.length)
  (a8:∀(f:KF) (cdv:KB) (A:RV) (outer:List SL) (s:KM) (H:Hp) (E:XK) (J:Jm),Room k (A.deeper (R6 qual (ag st) s.heap.objs.size f cdv))->XOkM (cxOf (CX1 P w) P w K mg base N qual (ag st) f cdv A outer s H E)->
   ∃t,MSs (cxOf (CX1 P w) P w K mg base N qual (ag st) f cdv A outer s H E) (aG st) t/\∀ds M R RX,(∀z,J.RM z=λM' x fs=>RX x fs M')->S ds M R RX->t {nx:=λ_ M'=>R .non M',rt:=R} (startD N ds) M):CalMth P w K mg base (k+1) x m ps (lSpM K S)/\ia P w K mg base (k+1) x m ps dd (lSpM K S):=by
 obtain⟨C,f,fd,dV,d_,o0,h1,h2,h3,T,hb,f6,hv,hd⟩:=T;have ok:=Fun.okM (P:=P) (w:=w) (mg:=mg) (base:=base) T F len λcdv A outer s H E J hr hx=>a8 f cdv A outer s H E J hr hx;exact#[#[C,f,fd,h1,h2,h3,ok,hb],C,f,fd,d_,o0,h1,h2,h3,ok,f6,hv,hd]
def Txd.okMd{x m qual:Jj}{st:RS}{k:Nat}{S:SpM}(T:Txd K x m qual st ps dd)(F:FnScope N ps (ag st))(len:∀ds M R RX,fN S ds M R RX->ds.length=ps.length)
  (a8:∀(f:KF) (cdv:KB) (A:RV) (outer:List SL) (s:KM) (H:Hp) (E:XK) (J:Jm),Room k (A.deeper (R6 qual (ag st) s.heap.objs.size f cdv))->XOkM (cxOf (CX1 P w) P w K mg base N qual (ag st) f cdv A outer s H E)->
   ∃t,MSs (cxOf (CX1 P w) P w K mg base N qual (ag st) f cdv A outer s H E) (aG st) t/\∀ds M R RX,(∀z,J.RM z=λM' x fs=>RX x fs M')->fN S ds M R RX->t {nx:=λ_ M'=>R .non M',rt:=R} (startD N ds) M):CalMth P w K mg base (k+1) x m ps (lSpM K S)/\ia P w K mg base (k+1) x m ps dd (lSpM K S):=by
 obtain⟨a,C,f,fd,d_,o0,h1,h2,h3,ok,hb,hv,hd⟩:=Txd.okM (S:=fN S) T F len a8;exact#[a.drop,C,f,fd,d_,o0,h1,h2,h3,ok.imp λ_ _ _ _ h=>va h,hb,hv,hd]
def nilD(S:SpD):SpM:=λds M R _=>M=[]/\∃R0:D->Prop,S ds R0/\R=λd _=>R0 d
def CA{n:Nat}{f:KF}{fd:R3}{S:SpD}(F:FnOk P w K mg base (CX1 P w) n f fd ps (lSpM K (nilD S))):FnOk P w K mg base (CX1 P w) n f fd ps (lSp K S):=F.imp λvs H Q E q=>by
 obtain⟨F,ds,fh,rs,R,hS,q1⟩:=q;exact#[F,ds,[],fh,rs,RepM.nil,_,λ_ _ _=>False,#[rfl,R,hS,rfl],λd v M' F' H' g hd rd _=>q1 d v F' H' (growM_nil g) hd rd,λ_ _ _ _ _ _ _ _ z=>z.elim]
end
section
variable {X:Cx}[J:Jm]{a:P3}{ta:TME}{tA:TMT}{pos:R4}
def dE(ha:ME X a ta)(he:autoParam (∀d8,isTrue a X.env d8=(do let v <-d8;SA a.pos;Si [v] (truthy v))) zA2):MT X a (mTru ta):=⟨(qf ha.out he).anti λs H Q q=>by
 obtain⟨F,z,M,k,rs,R,h1,h2⟩:=q;refine#[F,z,M,k,rs,_,h1,λx u M1 F1 H1 g1 hx rx m1=>?_];split at hx
 .rw[rep_bl.mp rx];exact#[_,rfl,h2 _ M1 F1 H1 g1 hx m1]
 .exact hx.elim⟩
def mNot(tA:TMT):TMT:=λz M R=>tA z M λk M1=>R (!k) M1
def dF(ha:MT X a tA):MT X (.UnaryOp .Not a pos) (mNot tA):=⟨(pL ha.out).anti λs H Q q=>by
 obtain⟨F,z,M,k,rs,R,h1,h2⟩:=q;exact#[F,z,M,k,rs,_,h1,λk M1 F1 H1 g1 hx m1=>h2 _ M1 F1 H1 g1 hx m1]⟩
end
abbrev Bx.N(V:Bx)(n:Nat)(x:Jj)(ps:List Jj)(S:SiM):Prop:=CalN V.P V.w V.K V.mg V.base n x ps S
abbrev Bx.QD(V:Bx)(n:Nat)(x m:Jj)(ps:List Jj)(S:SpD):Prop:=CalMth V.P V.w V.K V.mg V.base n x m ps (lSp V.K S)
abbrev Bx.Qd(V:Bx)(n:Nat)(x m:Jj)(ps:List Jj)(dd:List My.D)(S:SpM):Prop:=ia V.P V.w V.K V.mg V.base n x m ps dd (lSpM V.K S)
abbrev Bx.Td(V:Bx)(x m q:Jj)(st:RS)(ps:List Jj)(dd:List My.D):Prop:=Txd V.K x m q st ps dd
section
variable {X:Cx}[J:Jm]{a b c e o:P3}{ta tb te:TME}{pos:R4}
variable{p:R4}
def CB{p2:R4}{y:Jj}{t:String}(hm:X.mg "isinstance"=B_)(MV:X.mg y=B_)(ha:ME X a ta)(hv:R9 y=be (.type t))
  (hk:∀x:D,cK x=true->kitOne X.K (.type (tyD x)) (.type t)=be (cJ t x)) (hg:autoParam (Gl X "isinstance") zA0) (MX:autoParam (Gl X y) zA0) (hn:autoParam (y≠"__name__") zA1) (c_:autoParam (zND y) zA1)
  (k_:autoParam (RW [a,.Name y p2] X.env=(false,R1 a X.env)::RW [.Name y p2] X.env) zA0) (l8:autoParam (RW [.Name y p2] X.env=(false,R1 (.Name y p2) X.env)::RW [] X.env) zA0) (c5:autoParam ((Su pos (RW [.Name y p2] X.env)).any (·.1)=false) zA0):ME X (.Call (.Name "isinstance" p) [a,.Name y p2] [] pos) (mUn (jZ t) ta):=⟨(fg rC hg hm PyProof.Rows.boot_isinstance (bn ha.out (bn (pG (v:=.ty t) MX MV hv rfl hn c_) pa_nil l8) k_) J7 J7 k_ c5).anti λs H Q q=>by
 obtain⟨F,z,M,k,rs,R,h1,h2⟩:=q;refine#[F,z,M,k,rs,_,h1,λx u M1 F1 H1 g1 hx rx m1=>?_];have no:cK x=true/\R (.bl (cJ t x)) M1:=by
  cases x with
  |obj C b=>exact False.elim hx
  |exc C b=>exact False.elim hx
  |ptr b=>exact False.elim hx
  |dti b=>exact False.elim hx
  |_=>exact#[rfl,hx]
 exact#[u,tyD x,t,_,rfl,rD g1.fh rx no.1,hk x no.1,h2 _ _ M1 F1 H1 g1 no.2 (rep_bl.mpr rfl) m1]⟩
def mItL(t:TME):TMI:=λz M R=>t z M λx M1=>match x with|.lst ds=>R ds M1|_=>False
def CC(i:Nat){x:Jj}{body:List RS}{tb:TMS}(hp:Se (RR X.prog X.w) X.A X.env X.xe)(hc:X.calm=true)(hN:X.N.Nodup)(he:ME X e te)(hb:MSs X body tb)(hi:autoParam (X.N[i]?=be x) zA0)(hx:autoParam (Loc X.env.scope x) zA4)
  (hf:autoParam (zFN X x) zA3) (hs:autoParam (∀y,zFS X e y) zA2):MSt X (.For (.Name x p) e body [] pos) (mFor i (mItL te) tb):=⟨(cH hp hc (jx he.out) (cZ hN hi hx hf) hb.out hs).anti λE s H q=>by
 obtain⟨F0,F,z,M,kp,rs,ED,h,e⟩:=q;refine#[F,z,M,kp.kf,rs,_,h,λd v M1 F1 H1 g1 hd rd m1=>?_];split at hd
 .obtain⟨p,vs,rfl,hq,rr⟩:=rep_lst.mp rd;obtain⟨W,w0,c3,out⟩:=hd;refine#[p,rfl,#[vs,g1.fh.seq (SqL.of hq)],jz (K:=X.K) (a:=p) (xs:=vs) (λk s' H'=>∃F' z' M',Kept J.B F0 F' H'/\Same F1 F'/\RepZ X.K J.B F' H' z' s' M'/\W k z' M') #[F1,z,M1,kp.growM rs.mb g1,Same.refl F1,rs.growM kp.bh g1 m1,w0] (λk s' H' _ hh=>?_) ?_ ?_]
  .obtain⟨F',z',M',k',g',r',w'⟩:=hh;exact k'.fh.seq (g'.seq (SqL.of hq))
  .rintro k y s' H' hk⟨F',z',M',k',g',r',w'⟩;obtain⟨d,hd,ry⟩:=rr.get' hk;refine#[F',F',_,M',#[k'.bh,k'.fh,Same.refl F',λb h1 _=>h1,k'.eb,k'.jf.trans k'.f0,λb h1 h2=>k'.out b (k'.jo b h1 h2) h2],r'.set (ry.mono g'),_,c3 k d z' M' hd w',?_];have up:∀{F2 H2:Hp},Kept J.B F' F2 H2->Kept J.B F0 F2 H2:=λk2=>#[k2.bh,k2.fh,k'.f0.trans k2.f0,λb h1 h2=>k2.out b (k'.out b h1 h2) h2,k'.eb,k'.jf,k'.jo];exact#[λz3 s3 M3 F3 H3 k3 h3 r3=>#[F3,z3,M3,up k3,g'.trans k3.f0,r3,h3],λd v M3 F3 H3 k3=>e.rt d v M3 F3 H3 (up k3),λz3 s3 M3 F3 H3 k3=>e.nx z3 s3 M3 F3 H3 (up k3),λz3 s3 M3 F3 H3 k3 h3 r3=>#[F3,z3,M3,up k3,g'.trans k3.f0,r3,h3]]
  .rintro s' H'⟨F',z',M',k',g',r',w'⟩;exact e.nx z' s' M' F' H' k' (out z' M' (by rw[<-rr.length];exact w')) r'
 .exact hd.elim⟩
def CD(is:List Nat)(te:TME):TMS:=λE z M=>te z M λx M1=>match x with|.lst ds=>ds.length=is.length/\E.nx (bU is ds z) M1|_=>False
def CF{es:List P3}{k:Nat}{is:List Nat}(hc:X.calm=true)(he:ME X e te)(hg:DGs X es is)(hn:autoParam ((RY es X.env).length=is.length) zA0)(j8:autoParam ((RY es X.env).findIdx? (·.1)=none) zA0)
  (hs:autoParam (Sy [.Tuple es k p] e pos.line X.env=pure false) zA0) (hw:autoParam (Sz [.Tuple es k p] e X.env=pure none) zA0) (h1:autoParam ((RY [.Tuple es k p] X.env).map (·.2)=[So (.Tuple es k p) X.env]) zA0):MSt X (.Assign [.Tuple es k p] e pos) (CD is te):=⟨by
 obtain⟨u,hu,kk⟩:=hg;refine(eY he.out (rS hc hu hn j8) hs hw h1).anti λE s H q=>?_;obtain⟨F0,F,z,M,k,rs,ED,h,e⟩:=q;refine#[F,z,M,k.kf,rs,_,h,λd v M1 F1 H1 g hd rd m1=>?_];have r1:=rs.growM k.bh g m1;split at hd
 .obtain⟨p,vs,rfl,hq,rr⟩:=rep_lst.mp rd;exact#[p,vs,rfl,SqL.of (g.fh _ _ hq),by rw[rr.length];exact hd.1,kk _ vs z s J.B F1 H1 _ hd.1 rr r1.rs λs' r'=>e.nx _ _ M1 F1 H1 (k.growM rs.mb g) hd.2 #[r',kB is _ _ z rr r1.no,m1,r1.mb]]
 .exact hd.elim⟩
end
end My
namespace My
section
variable {X:Cx}[J:Jm]{b o e:P3}{tb to te:TME}{pos p2:R4}
def CG(to ti te:TME):TMS:=λE z M=>te z M λd M1=>to z M1 λx M2=>ti z M2 λy M3=>kdP x λa=>kdI y λk=>∃ds j,mget M3 a=be (.lst ds)/\ixN ds.length k=be j/\E.nx z (mput M3 a (.lst (ds.set j d)))
def CH(he:ME X e te)(ho:ME X o to)(hb:ME X b tb)
  (ha:∀v,So (.Subscript o b p2) X.env v=(do
   let ov <-Si [v] (R1 o X.env)
   let iv <-Si [v,ov] (R1 b X.env)
   SA p2
   Si [v,ov,iv] (Tf ov iv v)
   Tw [v,ov,iv] []):=by intro _;rfl)
  (hs:autoParam (Sy [.Subscript o b p2] e pos.line X.env=pure false) zA0) (hw:autoParam (Sz [.Subscript o b p2] e X.env=pure none) zA0)
  (h1:autoParam ((RY [.Subscript o b p2] X.env).map (·.2)=[So (.Subscript o b p2) X.env]) zA0):MSt X (.Assign [.Subscript o b p2] e pos) (CG to tb te):=⟨(eY he.out (pP ho.out hb.out jI ha) hs hw h1).anti λE s H q=>by
 obtain⟨F0,F,z,M,k,rs,ED,h,e⟩:=q;refine#[F,z,M,k.kf,rs,_,h,λd v M1 F1 H1 g1 hd rd m1=>?_];refine#[F1,z,M1,(k.growM rs.mb g1).kf,rs.growM k.bh g1 m1,_,hd,λx u M2 F2 H2 g2 hx rx m2=>?_];have NN:=g1.trans g2;refine#[F2,z,M2,(k.growM rs.mb NN).kf,rs.growM k.bh NN m2,_,hx,λy w M3 F3 H3 g3 hy ry m3=>?_];have g:=NN.trans g3;obtain⟨a,rfl,Ki⟩:=kdP.of hy;obtain⟨i,rfl,ds,j,hm,hj,hn⟩:=kdI.of Ki
 focus
  obtain⟨us,hH,ru⟩:=m3.ok _ _ (bf hm);have gp:=g.trans (GrowM.put (o':=.lst (ds.set j d)) (ho:=.lst (us.set j v)) g3.fh (m3.fr a (bA (bf hm))) hm);have mp:=m3.put (o':=.lst (ds.set j d)) (ho:=.lst (us.set j v)) hm #[_,ax,Reps.put ((rd.mono g2.ff).mono g3.ff) j ru];refine#[a,us,i,j,rep_ptr.mp rx,rep_int.mp ry,hH,by rw[ru.length];exact hj,?_];exact e.nx z s _ F3 _ (k.growM rs.mb gp) hn (rs.growM k.bh gp mp)⟩
end
open Exc PySem.W in
structure IsE(K:Ex)(C:KF)(cd:Ta):Prop where
 cl:clsIn K C=be cd
 mro:aK cd.mro=true
 ga:findIn K (.ref C) "__getattribute__"=be (be (.builtin "BaseException.__getattribute__"))
 gb:findIn K (.ref C) "__getattr__"=be B_
 ha:findIn K (.ref C) "__class__"=be (be (.builtin "object.__class__"))
 hn:specialIn K (.builtin "object.__class__") "__get__"=be (be (.builtin "getset_descriptor.__get__"))
 ht:takesIn K (.builtin "object.__class__")=be true
open Exc PySem.W in
section
variable {X:Cx}{a b:P3}{ta tb:TD}{pos p2:R4}
def vb(K:Ex):R2:=λx y H Q=>∃a b xs,x=.ref a/\y=.ref b/\SqL K H a xs/\SqL K H b []/\Q (.bl xs.isEmpty) H
def vc(hu:X.A.units<SZ):OpR X (R8 .Eq) (vb X.K):=by
 intro pins s σ H x y v u Q I rx ry h;obtain⟨a,b,xs,rfl,rfl,ha,hb,q⟩:=h;cases rx;cases ry;obtain⟨its,r1,p1,_⟩:=I.list ha;obtain⟨g_,r2,p2,_⟩:=I.list hb;have e2:g_=[]:=GZ (L2.Vals.length r2).symm;have e1:=L2.Vals.length r1;subst e2;cases xs with
 |nil=>
  have e3:its=[]:=GZ e1.symm;subst e3;exact SeqAt.RcAt.lists (e:=λ_=>true) p1.isList p2.isList rfl hu (λj h1 _=>absurd h1 (HE j)) _ _ _ _ #[.bl true,H,I,rfl,q]
 |cons x xs=>
  refine SeqAt.RcAt.lists_lengths p1.isList p2.isList ?_ hu _ _ _ _ #[.bl false,H,I,rfl,q];rw[FX,FX,<-e1];rfl
def kQ:RD2:=λx y R=>kdL x λxs=>kdL y λys=>ys=[]/\R (.bl xs.isEmpty)
def vd{K:Ex}:aW K (vb K) kQ:=by
 intro x y u v F H R Q fh h rx ry q;obtain⟨xs,rfl,h2⟩:=kdL.of h;obtain⟨ys,rfl,rfl,h3⟩:=kdL.of h2;obtain⟨a,us,rfl,hq,rr⟩:=rep_lst.mp rx;obtain⟨b,vs,rfl,m9,u9⟩:=rep_lst.mp ry;rw[reps_nil.mp u9]at m9;have e:us.isEmpty=xs.isEmpty:=by have:=rr.length;cases us<;>cases xs<;>simp at this ⊢
 exact#[a,b,us,rfl,rfl,SqL.of (fh _ _ hq),SqL.of (fh _ _ m9),q _ _ F H (Grow.refl fh) h3 (rep_bl.mpr (by rw[e]))]
def CI[J:Jx](hu:X.A.units+1<SZ)(ha:WDE X a ta)(hb:WDE X (.List [] p2) tb):WDE X (.Compare a [.Eq] [.List [] p2] pos) (dOp kQ ta tb):=#[have ha:=ha.out;have hb:=hb.out;gk (vc JZ) vd ha hb (nomark _)]
def CJ[J:Jx](hu:X.A.units+1<SZ)(ha:WDE X a ta)(hb:WDE X (.List [] p2) tb):WDT X (.Compare a [.Eq] [.List [] p2] pos) (dTst (dOp kQ ta tb)):=#[have ha:=ha.out;have hb:=hb.out;dU (vc JZ) vd ha hb (nomark _)]
def ve(K:Ex):R2:=λx y H Q=>rEqT K x y H Q\/∃i b ys,x=.str i/\y=.ref b/\SqT K H b ys/\Q (.bl false) H
def CK(hu:X.A.units+1<SZ):OpR X (R8 .Eq) (ve X.K):=OpR.or (ye hu) (by
 intro pins s σ H x y v u Q I rx ry h;obtain⟨i,b,ys,rfl,rfl,hb,q⟩:=h;obtain⟨t,rfl⟩:=(show ∃t,v=Value.str i t from rx);cases ry;obtain⟨its,r1,p1,_⟩:=I.tuple hb;exact SeqAt.RcAt.str_tuple i t p1 JZ _ _ _ _ #[.bl false,H,I,rfl,q])
def vf:RD2:=λx y R=>match x with|.str _=>kdT y λ_=>R (.bl false)|.tup xs=>kdT y λys=>(xs.all bu=true/\ys.all bu=true)/\R (.bl (eqFs xs ys))|_=>False
def CL{K:Ex}:aW K (ve K) vf:=by
 intro x y u v F H R Q fh h rx ry q;cases x with
 |str i=>
  obtain⟨ys,rfl,h2⟩:=kdT.of h;obtain⟨b,vs,rfl,m9,u9⟩:=rep_tup_mp ry;exact .inr #[i,b,vs,rep_str.mp rx,rfl,fh.tup m9,q _ _ F H (Grow.refl fh) h2 (rep_bl.mpr rfl)]
 |tup xs=>exact .inl (yg (.tup xs) y u v F H R Q fh h rx ry q)
 |_=>exact False.elim h
end
section
variable {X:Cx}[J:Jm]{a b:P3}{ta tb:TME}{pos:R4}
def vg(hu:X.A.units+1<SZ)(ha:ME X a ta)(hb:ME X b tb):ME X (.Compare a [.Eq] [b] pos) (mOp vf ta tb):=zq (CK hu) CL ha hb (nomark _)
end
def CM(t:TMA):TME:=λz M R=>t z M λxs M1=>xs.length<=1000/\R (.lst xs) M1
variable{X:Cx}
def CN[J:Jm]{pos:R4}{es:List P3}{t:TMA}(h:MA X es t):ME X (.List es pos) (CM t):=⟨(gc h.out).anti λs H Q q=>by
 obtain⟨F,z,M,k,rs,R,h1,h2⟩:=q;refine#[F,z,M,k,rs,_,h1,λds vs M1 F1 H1 g1 hx rx m1=>?_];have hl:=rx.length;refine#[sz (by rw[hl];exact hx.1),λp hp=>?_];have gn:=Grow.new g1.fh hp (.lst vs);exact h2 _ _ M1 _ _ (g1.trans gn.toM) hx.2 (rep_lst.mpr #[p,vs,rfl,ax,rx.mono (aS (g1.fh.free hp) _)]) (m1.grow gn)⟩
def splitN(S:SpM):SpM:=λds M R RX=>∃M1 M2,subM (M1++M2) M/\S ds M2 (λd M'=>(am (M1++M')).Nodup->R d (M1++M')) λx fs M'=>(am (M1++M')).Nodup->RX x fs (M1++M')
def CO{K:Ex}{S:SpM}{vs:List V}{H:Hp}{Q:VK}{E:XK}(h:lSpM K (splitN S) vs H Q E):lSpM K S vs H Q E:=by
 obtain⟨F,ds,M,fh,rs,rm,R,RX,⟨M1,M2,s,hS⟩,q,qx⟩:=h;exact kE #[F,ds,M1++M2,fh,rs,rm.sub s,λd N=>(am N).Nodup->R d N,λx fs N=>(am N).Nodup->RX x fs N,#[M1,M2,rfl,hS],λd v M' F' H' g hR hd hm=>q d v M' F' H' (g.sub0 s) (hR hm.nd) hd hm,λx fs C od M' F' H' g hR er hm=>qx x fs C od M' F' H' (g.sub0 s) (hR hm.nd) er hm]
section
variable {P:RP}{w:RU}{K:Ex}{mg:Jj->Option KB}{base:Heap}{n:Nat}{x m:Jj}{ps:List Jj}{S:SpM}
def CalMM.splitN(C:CalMM P w K mg base n x ps S):CalMM P w K mg base n x ps (splitN S):=C.imp λ_ _ _ _ h=>CO h
end
def mNod(t:TMS):TMS:=λE z M=>(am M).Nodup->t E z M
def ib[J:Jm]{l:List RS}{t:TMS}(h:MSs X l t):MSs X l (mNod t):=⟨PSs.anti h.out λE s H q=>by
 obtain⟨F0,F,z,M,k,rs,ED,h,e⟩:=q;exact#[F0,F,z,M,k,rs,ED,h rs.rm.nd,e]⟩
def CP(t:TME):TME:=λz M R=>t z M λd M'=>(am M').Nodup->R d M'
def CQ[J:Jm]{e:P3}{t:TME}(h:ME X e t):ME X e (CP t):=⟨h.out.anti λs H Q q=>by
 obtain⟨F,z,M,k,rs,R,h1,h2⟩:=q;exact#[F,z,M,k,rs,_,h1,λd v M' F' H' g hR rd m'=>h2 d v M' F' H' g (hR m'.nd) rd m']⟩
def eU{a:KF}{o:MO}:∀{M:MS},(am M).Nodup->(a,o)∈M->mget M a=be o:=λ{M}=>by
 induction M with
 |nil=>intro _ h;cases h
 |cons e M ih=>
  intro nd h;obtain⟨b,p⟩:=e;have m5:=Gp.mp nd;rcases FT.mp h with h|h
  .cases h;exact if_pos rfl
  .have:b≠a:=λz=>m5.1 (by subst z;exact bA h);exact(if_neg this).trans (ih m5.2 h)
end My
end
section
namespace My
local macro_rules | `(tactic| k_memK) => `(tactic| exact⟨rfl, rfl, rfl, by decide +kernel, rfl, by decide +kernel, by decide +kernel⟩)
local macro_rules | `(tactic| k_places) => `(tactic| try simp only[List.set_cons_succ, List.set_cons_zero, My.bU])
open PySem PySem.Spec PyProof.Rows L2
def top(i:Nat):Stmt:=PySem.Challenge.pw_motiffield_k35_floors_apart.main.body.getD i (.Pass #[0,0,0,0])
abbrev kR:RS:=top 58
abbrev kS:List Str:=["_law_script","_law_k"]
def CS:FnScope ["_law_script","_law_k"] kS (ag kR):=K0
abbrev kT:RS:=top 60
abbrev kU:List Str:=["_law_script","_law_k","_law_many"]
def sc__law_draws:FnScope ["_law_script","_law_k","_law_many","_law_left","_law_drawn","_law_turn","_law_seed"] kU (ag kT):=K0
abbrev kW:RS:=top 63
abbrev kX:List Str:=["_law_draws_here"]
def sc__law_lines:FnScope ["_law_draws_here","_law_wide","_law_tall","_law_signs","_law_lines_here","_law_j","_law_line","_law_i","_law_place","_law_value"] kX (ag kW):=K0
abbrev kY:RS:=top 61
abbrev kZ:List Str:=["_law_draws_here"]
def sc__law_shift_pair:FnScope ["_law_draws_here","_law_a","_law_b","_law_c","_law_d"] kZ (ag kY):=K0
abbrev lf:RS:=top 62
abbrev lh:List Str:=["_law_lines_here","_law_one","_law_two"]
def sc__law_motif_text:FnScope ["_law_lines_here","_law_one","_law_two","_law_tail"] lh (ag lf):=K0
abbrev ll:RS:=top 64
abbrev lm:List Str:=["_law_script","_law_k"]
def sc__law_motif:FnScope ["_law_script","_law_k","_law_draws_here","_law_lines_here","_law_one","_law_two","_law_leaf"] lm (ag ll):=K0
abbrev lq:RS:=top 65
abbrev lr:List Str:=["_law_one","_law_two","_law_u","_law_v"]
def sc__law_on:FnScope ["_law_one","_law_two","_law_u","_law_v","_law_size"] lr (ag lq):=K0
abbrev lu:RS:=top 66
abbrev lv:List Str:=["_law_leaf","_law_x","_law_y"]
def sc__law_leaf_shows:FnScope ["_law_leaf","_law_x","_law_y","_law_way","_law_u","_law_v","_law_j","_law_i"] lv (ag lu):=K0
abbrev lw:RS:=top 67
abbrev lx:List Str:=["_law_leaves","_law_x","_law_y"]
def sc__law_shows:FnScope ["_law_leaves","_law_x","_law_y","_law_leaf","_law_hue"] lx (ag lw):=K0
abbrev ic:RS:=top 70
abbrev ly:List Str:=["_law_leaves","_law_wide","_law_high"]
def sc__law_floor_rows:FnScope ["_law_leaves","_law_wide","_law_high","_law_lines_here","_law_y"] ly (ag ic):=K0
abbrev lz:RS:=aM (top 56) 1
abbrev lB:List Str:=["self","word"]
def CT:FnScope ["self","word"] lB (ag lz):=K0
abbrev lC:RS:=top 31
abbrev lD:List Str:=["x","y"]
def CU:FnScope ["x","y"] lD (ag lC):=K0
abbrev lF:RS:=top 13
abbrev lG:List Str:=["family","x","y"]
def sc_home:FnScope ["family","x","y","width","height","slant"] lG (ag lF):=K0
abbrev ie:RS:=aM (top 20) 2
abbrev cw:List Str:=["self","x","y"]
def CV:FnScope ["self","x","y"] cw (ag ie):=K0
abbrev ig:RS:=aM (top 21) 2
abbrev ii:List Str:=["self","x","y"]
def sc_Over_shows:FnScope ["self","x","y","hue"] ii (ag ig):=K0
abbrev ij:RS:=aM (top 22) 2
abbrev ik:List Str:=["self","x","y"]
def CW:FnScope ["self","x","y"] ik (ag ij):=K0
abbrev il:RS:=aM (top 23) 2
abbrev im:List Str:=["self","x","y"]
def CY:FnScope ["self","x","y"] im (ag il):=K0
abbrev io:RS:=aM (top 24) 2
abbrev ip:List Str:=["self","x","y"]
def CZ:FnScope ["self","x","y"] ip (ag io):=K0
abbrev iq:RS:=aM (top 25) 2
abbrev ir:List Str:=["self","x","y"]
def sc_Rehue_shows:FnScope ["self","x","y","hue"] ir (ag iq):=K0
abbrev lH:RS:=top 32
abbrev lJ:List Str:=["pattern","x","y"]
def C0:FnScope ["pattern","x","y"] lJ (ag lH):=K0
abbrev iu:RS:=top 33
abbrev lK:List Str:=["pattern","x","y","many"]
def C1:FnScope ["pattern","x","y","many"] lK (ag iu):=K0
abbrev iw:RS:=aM (top 56) 7
abbrev lL:List Str:=["self"]
def C3:FnScope ["self"] lL (ag iw):=K0
abbrev lM:RS:=aM (top 56) 3
abbrev iy:List Str:=["self","many"]
def sc_Floor_lay:FnScope ["self","many","ahead"] iy (ag lM):=K0
abbrev lN:RS:=top 73
abbrev lP:List Str:=["_law_floor","_law_many","_law_bare"]
def sc__law_lay:FnScope ["_law_floor","_law_many","_law_bare","_law_found","_law_refused"] lP (ag lN):=K0
abbrev lQ:RS:=top 76
abbrev lR:List Str:=["_law_laid","_law_lines_here"]
def sc__law_parted:FnScope ["_law_laid","_law_lines_here","_law_y","_law_x"] lR (ag lQ):=K0
abbrev lU:RS:=aM (top 44) 1
abbrev lV:List Str:=["self","allowed"]
def C4:FnScope ["self","allowed"] lV (ag lU):=K0
abbrev lW:RS:=aM (top 44) 2
abbrev lY:List Str:=["self","allowed"]
def sc_Reading_take:FnScope ["self","allowed","sign"] lY (ag lW):=K0
abbrev lZ:RS:=top 47
abbrev me:List Str:=["reading","least","most"]
def sc_line_from:FnScope ["reading","least","most","line","column"] me (ag lZ):=K0
abbrev mf:RS:=top 48
abbrev mh:List Str:=["reading"]
def sc_lines_from:FnScope ["reading","lines","width"] mh (ag mf):=K0
abbrev mi:RS:=top 45
abbrev mj:List Str:=["reading"]
def sc_number_from:FnScope ["reading","written"] mj (ag mi):=K0
abbrev ml:RS:=top 46
abbrev mn:List Str:=["reading"]
def sc_shift_from:FnScope ["reading","x"] mn (ag ml):=K0
abbrev mo:RS:=top 10
abbrev ms:List Str:=["first","second"]
def sc_levelled:FnScope ["first","second","times","rest"] ms (ag mo):=K0
abbrev mv:RS:=top 12
abbrev mw:List Str:=["first","second"]
def sc_spread:FnScope ["first","second","pair","width"] mw (ag mv):=K0
abbrev mx:RS:=top 19
abbrev my:List Str:=["lines","family"]
def sc_hues_by_home:FnScope ["lines","family","hues","row","line","column","sign"] my (ag mx):=K0
abbrev mz:RS:=aM (top 20) 0
abbrev mB:List Str:=["self","place","lines","first","second"]
def C5:FnScope ["self","place","lines","first","second"] mB (ag mz):=K0
abbrev mC:RS:=top 49
abbrev mD:List Str:=["reading"]
def sc_motif_from:FnScope ["reading","place","lines","first","second"] mD (ag mC):=K0
abbrev mF:RS:=aM (top 23) 0
abbrev mG:List Str:=["self","form"]
def C6:FnScope ["self","form"] mG (ag mF):=K0
abbrev mH:RS:=aM (top 24) 0
abbrev mI:List Str:=["self","form"]
def C7:FnScope ["self","form"] mI (ag mH):=K0
abbrev mJ:RS:=aM (top 21) 0
abbrev mK:List Str:=["self","above","below"]
def C8:FnScope ["self","above","below"] mK (ag mJ):=K0
abbrev mL:RS:=aM (top 22) 0
abbrev mM:List Str:=["self","form","x","y"]
def C9:FnScope ["self","form","x","y"] mM (ag mL):=K0
abbrev mN:RS:=aM (top 25) 0
abbrev mQ:List Str:=["self","form","old","new"]
def Da:FnScope ["self","form","old","new"] mQ (ag mN):=K0
abbrev iz:RS:=top 50
abbrev fO:List Str:=["reading","around"]
def sc_over_from:FnScope ["reading","around","above","below"] fO (ag iz):=K0
abbrev iA:RS:=top 51
abbrev fP:List Str:=["reading","around"]
def sc_shifted_from:FnScope ["reading","around","shift"] fP (ag iA):=K0
abbrev iB:RS:=top 52
abbrev fQ:List Str:=["reading","around"]
def sc_rehue_from:FnScope ["reading","around","old","new"] fQ (ag iB):=K0
abbrev iC:RS:=top 53
abbrev cD:List Str:=["reading","around"]
def sc_form_from:FnScope ["reading","around","sign"] cD (ag iC):=K0
abbrev mR:RS:=aM (top 44) 0
abbrev mU:List Str:=["self","text"]
def Db:FnScope ["self","text"] mU (ag mR):=K0
abbrev mV:RS:=aM (top 43) 0
abbrev mW:List Str:=["self","text","shifts","form"]
def Dc:FnScope ["self","text","shifts","form"] mW (ag mV):=K0
abbrev mY:RS:=top 11
abbrev mZ:List Str:=["one","two"]
def sc_measure:FnScope ["one","two","last"] mZ (ag mY):=K0
abbrev ng:RS:=top 14
abbrev nh:List Str:=["one","two"]
def sc_met:FnScope ["one","two","common","width","rise","start","gap","climbs","steps"] nh (ag ng):=K0
abbrev nj:RS:=top 15
abbrev nq:List Str:=["family"]
def Dd:FnScope ["family"] nq (ag nj):=K0
abbrev nr:RS:=top 16
abbrev nt:List Str:=["family"]
def De:FnScope ["family"] nt (ag nr):=K0
abbrev iD:RS:=aM (top 20) 1
abbrev cx:List Str:=["self"]
def Df:FnScope ["self"] cx (ag iD):=K0
abbrev iE:RS:=aM (top 21) 1
abbrev iF:List Str:=["self"]
def sc_Over_family:FnScope ["self","first"] iF (ag iE):=K0
abbrev iG:RS:=aM (top 22) 1
abbrev iH:List Str:=["self"]
def Dg:FnScope ["self"] iH (ag iG):=K0
abbrev iI:RS:=aM (top 23) 1
abbrev iJ:List Str:=["self"]
def Dh:FnScope ["self"] iJ (ag iI):=K0
abbrev iK:RS:=aM (top 24) 1
abbrev iL:List Str:=["self"]
def Di:FnScope ["self"] iL (ag iK):=K0
abbrev iM:RS:=aM (top 25) 1
abbrev iN:List Str:=["self"]
def Dj:FnScope ["self"] iN (ag iM):=K0
abbrev nu:RS:=top 54
abbrev nv:List Str:=["text"]
def sc_read:FnScope ["text","reading","form","family"] nv (ag nu):=K0
abbrev nw:RS:=top 37
abbrev ny:List Str:=["one","two","width","height"]
def sc_first_unlike:FnScope ["one","two","width","height","y","x"] ny (ag nw):=K0
abbrev nz:RS:=aM (top 7) 0
abbrev nA:List Str:=["self","x","y"]
def Dk:FnScope ["self","x","y"] nA (ag nz):=K0
abbrev nB:RS:=aM (top 56) 2
abbrev nC:List Str:=["self","pattern"]
def Dl:FnScope ["self","pattern"] nC (ag nB):=K0
abbrev nD:RS:=aM (top 56) 4
abbrev nE:List Str:=["self","text"]
def sc_Floor_change:FnScope ["self","text","pattern","cell"] nE (ag nD):=K0
abbrev nF:RS:=top 74
abbrev nG:List Str:=["_law_floor","_law_text"]
def sc__law_change:FnScope ["_law_floor","_law_text","_law_found","e"] nG (ag nF):=K0
abbrev nH:RS:=aM (top 56) 5
abbrev nI:List Str:=["self"]
def sc_Floor_undo:FnScope ["self","deed"] nI (ag nH):=K0
abbrev nJ:RS:=top 75
abbrev nK:List Str:=["_law_floor"]
def sc__law_undo:FnScope ["_law_floor","_law_found"] nK (ag nJ):=K0
abbrev nM:RS:=top 77
abbrev nN:List Str:=["_law_floor","_law_draw","_law_state","_law_texts_here"]
def sc__law_next:FnScope ["_law_floor","_law_draw","_law_state","_law_texts_here","_law_size","_law_stands","_law_laid","_law_past","_law_many","_law_refused","_law_new","_law_fits"] nN (ag nM):=K0
abbrev nO:RS:=top 59
abbrev nP:List Str:=["_law_found"]
def Dm:FnScope ["_law_found"] nP (ag nO):=K0
abbrev nQ:RS:=top 69
abbrev nR:List Str:=["_law_found","_law_due"]
def sc__law_texts:FnScope ["_law_found","_law_due","_law_k"] nR (ag nQ):=K0
abbrev nS:RS:=top 68
abbrev nU:List Str:=["_law_found","_law_due"]
def sc__law_seven:FnScope ["_law_found","_law_due","_law_k"] nU (ag nS):=K0
abbrev nV:RS:=top 71
abbrev nW:List Str:=["_law_lines_here"]
def sc__law_counts:FnScope ["_law_lines_here","_law_found","_law_line","_law_sign"] nW (ag nV):=K0
abbrev iO:RS:=top 34
abbrev nX:List Str:=["pattern"]
def Dn:FnScope ["pattern"] nX (ag iO):=K0
abbrev nY:RS:=top 35
abbrev nZ:List Str:=["family","rows","x","y"]
def sc_round_row:FnScope ["family","rows","x","y","cell","row"] nZ (ag nY):=K0
abbrev oa:RS:=top 39
abbrev og:List Str:=["row","sign","many"]
def Do:FnScope ["row","sign","many"] og (ag oa):=K0
abbrev iP:RS:=top 40
abbrev oh:List Str:=["pattern","left","top","right","bottom"]
def sc_count_all:FnScope ["pattern","left","top","right","bottom","family","rows","many","again","counts","y","times","row","hue","sign"] oh (ag iP):=K0
abbrev oi:RS:=aM (top 56) 8
abbrev oj:List Str:=["self"]
def Dp:FnScope ["self"] oj (ag oi):=K0
abbrev ol:RS:=aM (top 56) 9
abbrev om:List Str:=["self"]
def Dq:FnScope ["self"] om (ag ol):=K0
abbrev oq:RS:=aM (top 56) 6
abbrev ot:List Str:=["self"]
def Dr:FnScope ["self"] ot (ag oq):=K0
abbrev ou:RS:=top 72
abbrev ow:List Str:=["_law_floor","_law_text","_law_size","_law_laid","_law_rest","_law_many"]
def sc__law_view:FnScope ["_law_floor","_law_text","_law_size","_law_laid","_law_rest","_law_many","_law_found"] ow (ag ou):=K0
abbrev oy:RS:=aM (top 56) 0
abbrev oz:List Str:=["self","text","width","height"]
def Ds:FnScope ["self","text","width","height"] oz (ag oy):=K0
abbrev fR:RS:=top 78
abbrev oA:List Str:=["_law_script"]
def sc_law:FnScope ["_law_script","_law_parts","_law_floors","_law_states","_law_texts_here","_law_k","_law_size","_law_first","_law_draw","_law_j","_law_stands","_law_laid","_law_past","_law_text","_law_lines_here"] oA (ag fR):=K0
structure ComF(p q:Pat)(w h s:Int):Prop where
 f:Fam0 w h s
 lat:∀x y,InF w h s x y↔p.Keeps x y/\q.Keeps x y
def nown(z:SD):Bool:=z.all λo=>match o with|some (.own _)=>false|_=>true
def NoOwn.of{z:SD}(h:nown z=true):NoOwn z:=λi ds e=>by
 have:=Gz.mp h _ (GS e);cases this
structure Deed where
 w:Jj
 p:Pat
 d:D
 l:Int
def Deed.D(e:Deed):My.D:=.tup [.str e.w,e.d,.int e.l]
structure Fl where
 p:Pat
 d:D
 w:Int
 h:Int
 l:Int
 ds:List Deed
def Fl.fs(f:Fl)(q:KF):List (Jj×D):=[("pattern",f.d),("text",.str f.p.text),("width",.int f.w),("height",.int f.h),("laid",.int f.l),("deeds",.ptr q)]
def Fl.M(f:Fl)(a q:KF):MS:=[(q,.lst (f.ds.map Deed.D)),(a,.ins "Floor" (f.fs q))]
variable{a:KF}{o:MO}
def dG{p:KF}{M:MS}(h:p≠a):mget ((p,o)::M) a=mget M a:=if_neg h
def cy{M:MS}:mget ((a,o)::M) a=be o:=if_pos rfl
def dH{p:KF}{o':MO}{M:MS}(h:p≠a):mput ((p,o)::M) a o'=(p,o)::mput M a o':=if_neg h
def cE{o':MO}{M:MS}:mput ((a,o)::M) a o'=(a,o')::M:=if_pos rfl
variable{f:Fl}{q:KF}
def Fl.ma(h:a≠q):mget (f.M a q) a=be (.ins "Floor" (f.fs q)):=(dG (Ne.symm h)).trans cy
def Fl.mq:mget (f.M a q) q=be (.lst (f.ds.map Deed.D)):=cy
def Fl.put(h:a≠q):mput (f.M a q) a o=[(q,.lst (f.ds.map Deed.D)),(a,o)]:=(dH (Ne.symm h)).trans (congrArg _ cE)
def fS:(f.fs q).lookup ("pattern":Jj)=be f.d:=rfl
def vh:(f.fs q).lookup ("text":Jj)=be (.str f.p.text):=rfl
def eV:(f.fs q).lookup ("width":Jj)=be (.int f.w):=rfl
def iQ:(f.fs q).lookup ("height":Jj)=be (.int f.h):=rfl
def dI:(f.fs q).lookup ("laid":Jj)=be (.int f.l):=rfl
def iR:(f.fs q).lookup ("deeds":Jj)=be (.ptr q):=rfl
structure Fl.Ok(f:Fl):Prop where
 is:bg f.p f.d
 ok:f.p.Ok
 w1:1<=f.w
 w2:f.w<=30
 h1:1<=f.h
 h2:f.h<=30
 l0:0<=f.l
 l1:f.l<=f.h
 de:f.ds.length<=20
 dd:∀e∈f.ds,bg e.p e.d/\e.p.Ok/\0<=e.l/\e.l<=f.h
def Fl.keep(f:Fl)(w:Jj):Fl:={f with ds:=(f.ds++[Deed.mk w f.p f.d f.l]).drop (f.ds.length+1-20)}
def Fl.lay(f:Fl)(n:Int):Fl:={f.keep "lay" with l:=f.l+n}
def Fl.stand(f:Fl)(p:Pat)(d:D):Fl:={f with p:=p,d:=d}
def subM.refl{M:MS}(h:(am M).Nodup):subM M M:=#[λ_ h=>h,h]
def Fl.nd(h:a≠q):(am (f.M a q)).Nodup:=by
 show[q,a].Nodup;simp[Ne.symm h]
def Fl.sub(h:a≠q):subM (f.M a q) (f.M a q):=subM.refl (Fl.nd h)
def Dt(xs:List D):cutD xs (be (-20)) B_=xs.drop (xs.length-20):=by
 have e:HT.sIx xs.length 0 (be (-20))=xs.length-20:=by
  unfold HT.sIx;simp;lia
 unfold cutD;rw[e,show HT.sIx xs.length xs.length B_=xs.length from rfl];exact GX J8
def aw(p:Pat)(w lo:Int)(n:Nat):List D:=(FQ n).map λ(j:Nat)=>D.str (aF p 0 (lo+(j:Int)) w.toNat)
def oB(p:Pat)(w lo:Int)(n:Nat):aw p w lo n++[D.str (aF p 0 (lo+(n:Int)) w.toNat)]=aw p w lo (n+1):=by
 unfold aw;rw[GV,Gc];rfl
def Du(p:Pat)(w lo:Int)(n:Nat):cb (.lst (aw p w lo n))=true:=by
 unfold cb;induction n with
 |zero=>rfl
 |succ n ih=>
  rw[<-oB];have:∀xs:List D,flats xs=true->flats (xs++[D.str (aF p 0 (lo+(n:Int)) w.toNat)])=true:=λxs=>by
   induction xs with
   |nil=>intro _;rfl
   |cons x xs ih=>intro h;unfold flats at h;rw[Gj]at h;show flats (x::(xs++_))=true;unfold flats;rw[h.1,ih h.2];rfl
  exact this _ ih
def vi(p:Pat)(w:Int){l:Int}(n:Nat)(l0:0<=l):cutD (aw p w 0 (l.toNat+n)) (be l) B_=aw p w l n:=by
 have hl:(aw p w 0 (l.toNat+n)).length=l.toNat+n:=by unfold aw;simp
 have e:HT.sIx (l.toNat+n) 0 (be l)=l.toNat:=by
  unfold HT.sIx;simp only;rw[if_neg JZ];lia
 unfold cutD;rw[hl,e,show HT.sIx (l.toNat+n) (l.toNat+n) B_=l.toNat+n from rfl];unfold aw;apply GP;intro i;by_cases h:i<n
 .rw[HL JZ,IV,F6,F6,Gr JZ,Gr h];simp;congr 1;lia
 .rw[GB Sc,GB Sc]
def cW(p q:Pat)(w h:Int):Prop:=∀x y:Int,0<=x->x<w->0<=y->y<h->p.show x y=q.show x y
def First2(p q:Pat)(w h x y:Int):Prop:=(0<=x/\x<w/\0<=y/\y<h)/\p.show x y≠q.show x y/\∀x' y':Int,0<=x'->x'<w->0<=y'->(y'<y\/(y'=y/\x'<x))->p.show x' y'=q.show x' y'
def due7(p:Pat)(left top:Int)(m:Nat)(n k:Nat):List Int:=(FQ 7).map λ(v:Nat)=>cB p v left top m n+cntN (λi=>p.show (left+i) (top+n)) v k
variable{p:Pat}
def Dv(ok:p.Ok)(left top:Int)(m n k:Nat):∃u:Nat,u<7/\p.show (left+k) (top+n)=(u:Int)/\(due7 p left top m n k)[u]?=be (cB p u left top m n+cntN (λi=>p.show (left+i) (top+n)) u k)/\((due7 p left top m n k).map D.int).set u (D.int (cB p u left top m n+cntN (λi=>p.show (left+i) (top+n)) u k+1))=(due7 p left top m n (k+1)).map D.int:=by
 have b:=Pat.show_le ok.wf (by have:=ok.deep;lia) (left+k) (top+n);obtain⟨u,hu⟩:∃u:Nat,p.show (left+k) (top+n)=(u:Int):=#[(p.show (left+k) (top+n)).toNat,JZ];have u7:u<7:=JZ
 have cs:∀v:Int,cntN (λi=>p.show (left+i) (top+n)) v (k+1)=cntN (λi=>p.show (left+i) (top+n)) v k+if p.show (left+k) (top+n)=v then 1 else 0:=λv=>rfl
 refine#[u,u7,hu,by unfold due7;simp[u7],?_];unfold due7;rw[Hf,Hf];have:=uu (n:=7) (i:=u) (λ(v:Nat)=>D.int (cB p v left top m n+cntN (λi=>p.show (left+i) (top+n)) v k)) (λ(v:Nat)=>D.int (cB p v left top m n+cntN (λi=>p.show (left+i) (top+n)) v (k+1))) (λv hv ne=>by
  show D.int _=D.int _;rw[cs,hu,if_neg JZ,Hh])
 refine Eq.trans ?_ this;show List.set _ u _=List.set _ u _;rw[cs,hu,if_pos rfl,Ib];rfl
def Dw(p:Pat)(left top:Int)(m n:Nat):due7 p left top m n m=due7 p left top m (n+1) 0:=by
 unfold due7;apply GC;intro v _;show _=(cB p v left top m n+_)+0;rw[Hh]
def Dx(p:Pat)(left top:Int)(m n:Nat):due7 p left top m n 0=cC p left top m n:=by
 unfold due7 cC;apply GC;intro v _;show _+0=_;rw[Hh]
variable{w lo:Int}{n k:Nat}
def Dy{v:D}(h:(aw p w lo n)[k]?=be v):k<n/\v=.str (aF p 0 (lo+(k:Int)) w.toNat):=by
 have hk:k<n:=by have:=(F7.mp h).1;unfold aw at this;simpa using this
 unfold aw at h;simp[hk]at h;exact#[hk,h.symm]
def Dz{h:Int}(h0:0<=h)(h6:h<=6):aP h<128:=by unfold aP;split<;>lia
def DB(ok:p.Ok)(x y:Int)(n:Nat):(aF p x y n).cps.all (·<128)=true:=by
 rw[<-HS,Gz];intro c hc;have hc:c∈cs (aF p x y n):=hc;rw[cM]at hc;obtain⟨k,_,rfl⟩:=Gm.mp hc;have b:=Pat.show_le ok.wf (by have:=ok.deep;lia) (x+(k:Int)) y;exact decide_eq_true (Dz b.1 b.2)
variable{y:Int}
def DC{v:D}(h:(bJ (aF p 0 y n))[k]?=be v):k<n/\v=.str #[[aP (p.show (0+(k:Int)) y)].toArray]:=by
 unfold bJ at h;have hk:k<n:=by have:=(F7.mp h).1;rwa [F4,show(aF p 0 y n).cps.toList.length=n by show(cs (aF p 0 y n)).length=n;rw[cM];simp]at this
 rw[F6,show(aF p 0 y n).cps.toList=(FQ n).map λ(k:Nat)=>aP (p.show (0+(k:Int)) y)from cM p 0 y n]at h;simp[hk]at h;exact#[hk,by rw[<-h,G5]]
def DD{u:Nat}(h:u<7):∃rest,Builtin.Str.occurrences ".123456" #[[aP (u:Int)].toArray] 0 (".123456":Jj).length 1=u::rest:=by
 rcases(JZ:u=0\/u=1\/u=2\/u=3\/u=4\/u=5\/u=6)with e|e|e|e|e|e|e<;>subst e<;>exact#[[],J3]
def oC(h:k<n):atI (aw p w lo n) (k:Int)=be (.str (aF p 0 (lo+(k:Int)) w.toNat)):=bP (by unfold aw;simp[h])
def vj(h:k<n):atI (cs (aF p 0 y n)) (k:Int)=be (aP (p.show k y)):=bP (by rw[cM];simp[h])
def vk(h:k<=n):cutD (aw p w lo n) B_ (be (k:Int))=aw p w lo k:=by
 have hl:(aw p w lo n).length=n:=by unfold aw;simp
 have e:HT.sIx n n (be (k:Int))=k:=by
  unfold HT.sIx;simp only;rw[if_neg JZ];lia
 unfold cutD;rw[hl,e,show HT.sIx n 0 B_=0 from rfl,H9];unfold aw;rw[<-Jd,Je,Jc,G6 h]
def DF{a b:Int}(a0:0<=a)(b0:0<=b)(h:aP a=aP b):a=b:=by
 unfold aP at h;split at h<;>split at h<;>lia
def DG{a b:Nat}(h:(#[[a].toArray]:Jj)=#[[b].toArray]):a=b:=by cases h;rfl
def First2.not{q:Pat}{h x:Int}(a:First2 p q w h x y)(s:cW p q w h):False:=a.2.1 (s x y a.1.1 a.1.2.1 a.1.2.2.1 a.1.2.2.2)
def fT{α:Type}{ps:List α}{s:Nat}{r:α}(f:α->D)(h:ps[s]?=be r):atI (ps.map f) (s:Int)=be (f r):=bP (by rw[F6,h];rfl)
variable{d:My.D}
def NoOwn.set{z:SD}(h:NoOwn z)(i:Nat)(hd:nown [be d]=true):NoOwn (z.set i (be d)):=λj ds e=>by
 by_cases hj:i=j
 .subst hj;rw[List.getElem?_set_self']at e;cases q:z[i]? with
  |none=>rw[q]at e;cases e
  |some x=>rw[q]at e;cases e;cases hd
 .rw[F5 hj]at e;exact h j ds e
def keep_ds{w:Jj}(h:f.ds.length<=19):(f.keep w).ds=f.ds++[Deed.mk w f.p f.d f.l]:=by
 show(f.ds++[_]).drop _=_;rw[show f.ds.length+1-20=0 by lia];rfl
def EntD(w h:Int)(r:Pat):D:=.tup [.str r.text,.lst (aw r w 0 h.toNat)]
def HD(h:Nat×Int):D:=.tup [.int h.1,.int h.2]
def StD(f:Fl)(s:Nat)(hs:List (Nat×Int)):D:=.lst [.tup [.int f.w,.int f.h],.int s,.int f.l,.lst (hs.map HD)]
def Hist(ps:List Pat)(ds:List Deed)(hs:List (Nat×Int)):Prop:=ds.map (λe=>(be e.p,e.l))=hs.map λh=>(ps[h.1]?,h.2)
variable{ps:List Pat}{ds:List Deed}{hs:List (Nat×Int)}
def iS(h:Hist ps ds hs):hs.length=ds.length:=by simpa using(congrArg Hq h).symm
def vm{w:Jj}{s:Nat}(h:Hist ps f.ds hs)(e:ps[s]?=be f.p)(k:f.ds.length<=19):Hist ps (f.keep w).ds (hs++[(s,f.l)]):=by
 unfold Hist at h ⊢;rw[keep_ds k,Gc,Gc,h,Jf,Jf,e]
def DJ{es:List Deed}{e:Deed}(h:Hist ps ds hs)(he:ds=es++[e]):∃i6 x,hs=i6++[x]/\ps[x.1]?=be e.p/\x.2=e.l/\Hist ps es i6:=by
 unfold Hist at h;rw[he,Gc]at h;obtain⟨l1,l2,rfl,h1,h2⟩:=List.map_eq_append_iff.mp h.symm;obtain⟨x,rfl,hx⟩:=List.map_eq_singleton_iff.mp h2;exact#[l1,x,rfl,congrArg Prod.fst hx,congrArg Prod.snd hx,h1.symm]
variable{xs:List My.D}
def DK:atI (xs++[d]) (-1)=be d:=by
 have e:ixN (xs++[d]).length (-1)=be xs.length:=by
  rw[F9,G9];unfold ixN;simp;lia
 unfold atI;rw[e];simp
def DL:cutD (xs++[d]) B_ (be (-1))=xs:=by
 have e:HT.sIx (xs++[d]).length (xs++[d]).length (be (-1))=xs.length:=by
  rw[F9,G9];unfold HT.sIx;simp;lia
 unfold cutD;rw[e,show HT.sIx (xs++[d]).length 0 B_=0 from rfl];simp
def vn(f:Fl)(w:Jj):(f.keep w).ds.length<=f.ds.length+1:=by
 show(GW _ _).length<=_;rw[GO,F9,G9];exact Nat.sub_le _ _
def DM(m:Pat):("mm":Jj)++m.text=(Pat.mir (.mir m)).text:=by
 apply fJ;rw[Pat.text,Pat.text,bv,bv,bv];rfl
def mir2(w lo:Int)(n:Nat):aw (.mir (.mir p)) w lo n=aw p w lo n:=by
 unfold aw;refine GC λj _=>?_;congr 1;unfold aF;simp only[Pat.show,Int.neg_neg]
def mapp{A B:MS}{p:KF}(nd:(am (A++(p,o)::B)).Nodup):mget (A++(p,o)::B) p=be o/\∀o',mput (A++(p,o)::B) p o'=A++(p,o')::B/\(am (A++(p,o')::B)).Nodup:=by
 refine#[eU nd J8,λo'=>#[?_,by simpa[am]using nd]];induction A with
 |nil=>exact if_pos rfl
 |cons e A ih=>
  obtain⟨b,x⟩:=e;have m5:=Gp.mp nd;have:b≠p:=λz=>m5.1 (by subst z;simp);exact(if_neg this).trans (congrArg _ (ih m5.2))
def DN{A B:MS}{p:KF}(nd:(am (A++(p,o)::B)).Nodup):mdel (A++(p,o)::B) p=A++B:=by
 induction A with
 |nil=>exact if_pos rfl
 |cons e A ih=>
  obtain⟨b,x⟩:=e;have m5:=Gp.mp nd;have:b≠p:=λz=>m5.1 (by subst z;simp);exact(if_neg this).trans (congrArg _ (ih m5.2))
def DO{α:Type}{a b:α}{x y:List α}:Hi (a::b::(x++y)) ((y++x)++[b,a]):=(HH (l₁:=[a,b])).trans (List.perm_append_comm.append (List.Perm.swap b a []))
def subM.perm{N N' M:MS}(s:subM N M)(p:N'.Perm N):subM N' M:=#[λe h=>s.1 e (p.subset h),(p.map _).nodup_iff.mpr s.2]
def iT{α:Type}{g g':Nat->α}(h:∀n,n<k->g' n=g n):(FQ (k+1)).map g'=(FQ k).map g++[g' k]:=by
 rw[GV,Gc];exact congrArg (·++_) (GC λn hn=>h n (Ii.mp hn))
variable{g:Nat->My.D}
def dJ(h:k<n):atI ((FQ n).map g) (k:Int)=be (g k):=bP (by simp[h])
def DP(d:D):((FQ n).map g).set k d=(FQ n).map λj=>if j=k then d else g j:=by
 apply GP;intro i;rw[GI,F6];by_cases hi:i<n
 .rw[Gr hi];by_cases e:k=i
  .simp[e,hi]
  .simp[e,hi,Ne.symm e,Gr hi]
 .simp[hi];omega
section
variable {V:Bx}
abbrev iU(V:Bx):Prop:=V.D 1 "_law_at" kS AF
def DQ(T:V.T "_law_at" kR kS)(uB:V.m "len"):iU V:=by
 refine Tx.okDW T CS (λds R h=>?_) (λf cdv A outer s H E J hr=>⟨_,((aq (bK (gm (aa 1) (bQ uB (ac (aa 0) af))) (ar (aE (ah (aa 0) (aa 1)))) bz)
   (ar (aE ad)))),λds R h=>?_⟩)
 .obtain⟨ns,k,rfl,_⟩:=h;rfl
 .obtain⟨ns,k,rfl,hk,hR⟩:=h;refine ite2 (λc=>?_) (λc=>?_)
  .have c':=of_decide_eq_true c;rw[F4]at c';exact#[_,tD hk c',hR]
  .have c':=of_decide_eq_false (G7.mpr c);rw[F4]at c';rw[AE JZ]at hR;exact hR
abbrev iV(V:Bx):Prop:=V.D 2 "_law_draws" kU AQ
def DR(T:V.T "_law_draws" kT kU)(uA:V.m "range")(z6:iU V):iV V:=by
 refine Tx.okDW T sc__law_draws (λds R h=>?_) (λf cdv A outer s H E J hr=>⟨_,((aq (aA 3 sc__law_draws.nd (aI z6 hr (ac (aa 0) (ac (aa 1) af))))
   (aq (gy 4 sc__law_draws.nd af)
   (aq (bK (bD (aH (aI z6 hr (ac (aa 0) (ac (aB (aa 1) ad) af))) ad) ad) (aq (bV 5 PassesOwn.never rfl sc__law_draws.nd uA (aa 2) (aq (gz 4 (aH (aa 3) ad))
     (ar (aA 3 sc__law_draws.nd (bx (aa 3) ad)))))
    (dY 4 (ar (aE (aa 4))))) bz)
   (aq (aA 6 sc__law_draws.nd (aH (aB (aa 3) ad) ad))
   (aq (bV 5 PassesOwn.never rfl sc__law_draws.nd uA (aa 2) (aq (aA 6 sc__law_draws.nd (aH (aB (aB (aL (aa 6) ad) (aI z6 hr (ac (aa 0) (ac (aB (aB (aa 1) ad) (aH (aa 5) ad)) af)))) (aa 5)) ad))
    (ar (gz 4 (aH (aH (aL (aa 6) ad) ad) ad)))))
   (dY 4 (ar (aE (aa 4)))))))))),λds R h=>?_⟩)
 .obtain⟨_,_,_,rfl,_⟩:=h;rfl
 .obtain⟨ns,k,n,rfl,hk,hn,hR⟩:=h;refine#[λd=>∃v:Int,d=.int v,#[ns,k,rfl,hk,_,rfl],?_];rintro _⟨left,rfl⟩;k_places;refine#[J8,?_];refine#[ns,k+1,rfl,JZ,J7,ite2 (λ_=>?_) (λ_=>?_)]
  .refine#[#[JZ,JZ],λi z=>∃(xs:List Int) (l:Int) (o p:Option D),z=[be (.rol (ns.map D.int)),be (.int k),be (.int n),be (.int l),be (.own (xs.map D.int)),o,p]/\xs.length=i/\Drawn xs,#[[],left,_,_,rfl,rfl,(λx hx=>by cases hx)],?_,?_]
   .rintro i x z hi⟨xs,l,o,p,rfl,hl,hd⟩;k_places;have g9:i<n:=by simpa using(F7.mp hi).1
    refine#[J7,Sc,?_];refine#[λd=>∃v:Int,d=.int v,#[#[J7,J7],_,rfl],?_];rintro _⟨l',rfl⟩;k_places;rw[tE];exact#[_,l',_,_,rfl,by simp[hl],tF hd (eF J7) (eG J7)]
   .rintro z⟨xs,l,o,p,rfl,hl,hd⟩;k_places;exact hR xs (by simpa using hl) hd
  .refine#[λd=>∃v:Int,d=.int v/\0<=v/\v<2147483647,#[J7,_,rfl,eF J7,eG J7],?_];rintro _⟨NO,rfl,s1,s2⟩;k_places;refine#[#[JZ,JZ],λi z=>∃(xs:List Int) (sd:Int) (o:Option D),z=[be (.rol (ns.map D.int)),be (.int k),be (.int n),be (.int left),be (.own (xs.map D.int)),o,be (.int sd)]/\xs.length=i/\Drawn xs/\0<=sd/\sd<2147483647,#[[],NO,_,rfl,rfl,(λx hx=>by cases hx),s1,s2],?_,?_]
   .rintro i x z hi⟨xs,sd,o,rfl,hl,hd,s1,s2⟩;k_places;have g9:i<n:=by simpa using(F7.mp hi).1
    have ex:x=.int (i:Int):=by simp[g9]at hi;exact hi.symm
    subst ex;refine#[λd=>∃v:Int,d=.int v/\0<=v/\v<2147483647,#[.inr #[J7,J7],J7,ns,_,rfl,JZ,J7,_,rfl,eF J7,eG J7],?_];rintro _⟨QV,rfl,t1,t2⟩;k_places;refine#[.inr #[J7,J7],J7,J7,Sc,?_];rw[tE];exact#[_,QV,_,rfl,by simp[hl],tF hd (eF J7) (eG J7),t1,t2]
   .rintro z⟨xs,sd,o,rfl,hl,hd,_⟩;k_places;exact hR xs (by simpa using hl) hd
abbrev oE(V:Bx):Prop:=V.D 1 "_law_lines" kX A2
def DU(T:V.T "_law_lines" kW kX)(uA:V.m "range")(uB:V.m "len"):oE V:=by
 refine Tx.okDW T sc__law_lines (λds R h=>?_) (λf cdv A outer s H E J hr=>⟨_,((aq (aA 1 sc__law_lines.nd (aB ad (aH (ah (aa 0) ad) ad)))
   (aq (aA 2 sc__law_lines.nd (aB ad (aH (ah (aa 0) ad) ad)))
   (aq (rK (bD (aH (ah (aa 0) ad) ad) ad) (aq (aA 1 sc__law_lines.nd (aB ad (aH (ah (aa 0) ad) ad)))
    (ar (aA 2 sc__law_lines.nd (aB ad (aH (ah (aa 0) ad) ad))))) bz)
   (aq (aA 3 sc__law_lines.nd (ah (bp (ac aC (ac aC (ac aC (ac aC af))))) (aH (ah (aa 0) ad) ad)))
   (aq (gy 4 sc__law_lines.nd af)
   (aq (bV 5 PassesOwn.never rfl sc__law_lines.nd uA (aa 2) (aq (aA 6 sc__law_lines.nd aC)
    (aq (bV 7 PassesOwn.never rfl sc__law_lines.nd uA (aa 1) (aq (aA 8 sc__law_lines.nd (aB (aL (aa 5) (aa 1)) (aa 7)))
     (aq (aA 9 sc__law_lines.nd (aH (bx (ah (aa 0) (aB ad (bx (aa 8) ad))) (ah (bp (ac ad (ac ad af))) (aH (aa 8) ad))) ad))
     (ar (aA 6 sc__law_lines.nd (aB (aa 6) (ah (aa 3) (aH (aa 9) (bQ uB (ac (aa 3) af))))))))))
    (ar (gz 4 (aa 6))))))
   (dY 4 (ar (aE (aa 4))))))))))),λds R h=>?_⟩)
 .obtain⟨_,rfl,_⟩:=h;rfl
 .obtain⟨xs,rfl,hl,hd,hR⟩:=h;have z7:∀k:Nat,k<40->atI (xs.map D.int) (k:Int)=be (.int (cell xs k)):=λk hk=>dw JZ (by simpa using(JZ:k<xs.length));have a0:atI (xs.map D.int) 0=be (.int (cell xs 0)):=z7 0 J7;have a1:atI (xs.map D.int) 1=be (.int (cell xs 1)):=z7 1 J7;have a2:atI (xs.map D.int) 2=be (.int (cell xs 2)):=z7 2 J7;have a3:atI (xs.map D.int) 3=be (.int (cell xs 3)):=z7 3 J7;clear hl;refine#[λd=>∃v:Int,d=.int v/\1<=v/\v<=8,#[_,a0,J7,_,rfl,JZ],?_];rintro _⟨w0,rfl,RF⟩;k_places;refine#[λd=>∃v:Int,d=.int v/\1<=v/\v<=8,#[_,a1,J7,_,rfl,JZ],?_];rintro _⟨t0,rfl,RG⟩;k_places;refine#[λz=>∃w t:Nat,z=[be (.lst (xs.map D.int)),be (.int w),be (.int t),B_,B_,B_,B_,B_,B_,B_]/\(1<=w/\w<=8)/\(1<=t/\t<=8),#[_,a2,J7,ite2 (λ_=>?_) (λ_=>?_)],?_]
  .refine#[λd=>∃v:Nat,d=.int v/\1<=v/\v<=8,#[_,a0,J7,(1+cell xs 0%8).toNat,by rw[Gg JZ],JZ],?_];rintro _⟨w,rfl,hw⟩;k_places;refine#[λd=>∃v:Nat,d=.int v/\1<=v/\v<=8,#[_,a1,J7,(1+cell xs 1%8).toNat,by rw[Gg JZ],JZ],?_];rintro _⟨t,rfl,ht⟩;k_places;exact#[w,t,rfl,hw,ht]
  .obtain⟨w,rfl⟩:∃w:Nat,w0=(w:Int):=#[w0.toNat,JZ];obtain⟨t,rfl⟩:∃t:Nat,t0=(t:Int):=#[t0.toNat,JZ];exact#[w,t,rfl,JZ,JZ]
  rintro _⟨w,t,rfl,hw,ht⟩;k_places;obtain⟨sg,es,hs⟩:=AX (cell xs 3);refine#[λd=>d=.str sg,#[J8,_,a3,J7,_,es,rfl],?_];rintro _ rfl;k_places;refine#[J8,?_];refine#[#[JZ,JZ],λk z=>∃(L:List Jj) (o1 o2 o3 o4 o5:Option D),z=[be (.lst (xs.map D.int)),be (.int w),be (.int t),be (.str sg),be (.own (L.map D.str)),o1,o2,o3,o4,o5]/\L.length=k/\∀l∈L,l.length=w/\∀c∈cs l,bb c,#[[],_,_,_,_,_,rfl,rfl,(λx hx=>by cases hx)],?_,?_]
  .rintro j x z hj⟨L,o1,o2,o3,o4,o5,rfl,hL,Ls⟩;k_places;have Kz:j<t:=by simpa using(F7.mp hj).1
   have ex:x=.int (j:Int):=by simp[Kz]at hj;exact hj.symm
   subst ex;refine#[λd=>d=.str "",rfl,?_];rintro _ rfl;k_places;refine#[#[JZ,JZ],λi z=>∃(ln:Jj) (o3 o4 o5:Option D),z=[be (.lst (xs.map D.int)),be (.int w),be (.int t),be (.str sg),be (.own (L.map D.str)),be (.int j),be (.str ln),o3,o4,o5]/\ln.length=i/\∀c∈cs ln,bb c,#[_,_,_,_,rfl,rfl,(λc hc=>by rw[tG]at hc;cases hc)],?_,?_]
   .rintro i y z hi⟨ln,o3,o4,o5,rfl,Mi,NP⟩;k_places;have g9:i<w:=by simpa using(F7.mp hi).1
    have ey:y=.int (i:Int):=by simp[g9]at hi;exact hi.symm
    subst ey;have pb:=ce (a:=(j:Int)) (d:=(w:Int)) (A:=7) (B:=8) JZ JZ;have pn:0<=(j:Int)*(w:Int):=IC JZ JZ;refine#[λd=>∃p:Nat,d=.int p/\p<=63,#[.inl #[JZ,JZ],((j:Int)*w+i).toNat,by rw[Gg JZ],JZ],?_];rintro _⟨p,rfl,hp⟩;k_places;obtain⟨m,em,hm⟩:=AY (p:Int);have ap:=z7 (8+p/2) JZ;have ec:((8+p/2:Nat):Int)=8+(p:Int)/2:=JZ
    rw[ec]at ap;refine#[λd=>∃v:Int,d=.int v,#[#[J7,J7],_,ap,J8,J7,_,em,#[JZ,JZ],J7,_,rfl],?_];rintro _⟨v,rfl⟩;k_places;obtain⟨c,⟨h1,h2⟩,h3⟩:=AS hs v;refine#[λd=>∃x:Jj,d=.str x/\x.length=i+1/\∀c∈cs x,bb c,#[h1,by have:=hs.1;lia,c,#[h1,h2],?_,_,rfl,AZ Mi NP h3],?_]
    .rw[Mi];show i+1<=1000000;lia
    rintro _⟨x,rfl,g1,g2⟩;k_places;exact#[x,_,_,_,rfl,g1,g2]
   .rintro z⟨ln,o3,o4,o5,rfl,Mi,NP⟩;k_places;have NQ:ln.length=w:=by simpa using Mi
    refine#[by simp[hL];lia,?_];rw[A1];refine#[_,_,_,_,_,_,rfl,by simp[hL],λl hl=>?_];rcases Go.mp hl with q|q
    .exact Ls l q
    .rw[FP.mp q];exact#[NQ,NP]
  .rintro z⟨L,o1,o2,o3,o4,o5,rfl,hL,Ls⟩;k_places;exact hR L (Rows.of ht.1 ht.2 (by simpa using hL) hw.1 hw.2 Ls)
abbrev oF(V:Bx):Prop:=V.D 1 "_law_shift_pair" kZ AR
def DV(T:V.T "_law_shift_pair" kY kZ)(uK:V.m "int"):oF V:=by
 refine Tx.okDW T sc__law_shift_pair (λds R h=>?_) (λf cdv A outer s H E J hr=>⟨_,((aq (bK (bD (aH (bx (ah (aa 0) ad) ad) ad) ad) (ar (aE (bp (ac (aN (ac (aB ad (aH (ah (aa 0) ad) ad)) (ac ad af))) (ac (aN (ac ad (ac (aB ad (aH (ah (aa 0) ad) ad)) af))) af))))) bz)
   (aq (bK (bD (aH (bx (ah (aa 0) ad) ad) ad) ad) (ar (aE (bp (ac (aN (ac (aB ad (aH (ah (aa 0) ad) ad)) (ac ad af))) (ac (aN (ac (bw (aH (ah (aa 0) ad) ad) ad) (ac (aB ad (aH (ah (aa 0) ad) ad)) af))) af))))) bz)
   (aq (aA 1 sc__law_shift_pair.nd (bw (aH (ah (aa 0) ad) ad) ad))
   (aq (aA 2 sc__law_shift_pair.nd (bw (aH (ah (aa 0) ad) ad) ad))
   (aq (aA 3 sc__law_shift_pair.nd (bw (aH (ah (aa 0) ad) ad) ad))
   (aq (aA 4 sc__law_shift_pair.nd (bw (aH (ah (aa 0) ad) ad) ad))
   (aq (aA 1 sc__law_shift_pair.nd (aB (aa 1) (ke uK (ac (gw (fm (aa 1) ad) (gv (fm (aa 2) ad))) af))))
   (aq (bK (bD (aL (aa 1) (aa 4)) (aL (aa 2) (aa 3))) (ar (aE (bp (ac (aN (ac (aa 1) (ac (aa 2) af))) (ac (aN (ac (cq (aa 2)) (ac (aa 1) af))) af))))) bz)
   (ar (aE (bp (ac (aN (ac (aa 1) (ac (aa 2) af))) (ac (aN (ac (aa 3) (ac (aa 4) af))) af)))))))))))))),λds R h=>?_⟩)
 .obtain⟨_,rfl,_⟩:=h;rfl
 .obtain⟨xs,rfl,hl,hd,hR⟩:=h;have a3:=dw (xs:=xs) (k:=3) J7 (show 3<xs.length by lia);have a4:=dw (xs:=xs) (k:=4) J7 (show 4<xs.length by lia);have a5:=dw (xs:=xs) (k:=5) J7 (show 5<xs.length by lia);have a6:=dw (xs:=xs) (k:=6) J7 (show 6<xs.length by lia);have a7:=dw (xs:=xs) (k:=7) J7 (show 7<xs.length by lia);generalize cell xs 3=x3 at*;generalize cell xs 4=x4 at*;generalize cell xs 5=x5 at*;generalize cell xs 6=x6 at*;generalize cell xs 7=x7 at*;clear hl hd;refine#[_,a3,#[J7,J7],J7,ite2 (λ_=>?_) (λ_=>?_)]
  .refine#[_,a4,J7,J8,_,a5,J7,J8,J8,hR _ _ _ _ JZ JZ JZ JZ ?_];have p:0<(1+x4%6)*(1+x5%6):=Gf JZ JZ;lia
  refine#[_,a3,#[J7,J7],J7,ite2 (λ_=>?_) (λ_=>?_)]
  .refine#[_,a4,J7,J8,_,a6,J7,_,a5,J7,J8,J8,hR _ _ _ _ JZ JZ JZ JZ ?_];have p:0<(1+x4%6)*(1+x5%4):=Gf JZ JZ;lia
  refine#[λd=>∃v:Int,d=.int v/\-12<=v/\v<=12,#[_,a4,J7,_,rfl,JZ],?_];rintro _⟨a,rfl,ha⟩;k_places;refine#[λd=>∃v:Int,d=.int v/\-12<=v/\v<=12,#[_,a5,J7,_,rfl,JZ],?_];rintro _⟨b,rfl,hb⟩;k_places;refine#[λd=>∃v:Int,d=.int v/\-12<=v/\v<=12,#[_,a6,J7,_,rfl,JZ],?_];rintro _⟨c,rfl,hc⟩;k_places;refine#[λd=>∃v:Int,d=.int v/\-12<=v/\v<=12,#[_,a7,J7,_,rfl,JZ],?_];rintro _⟨d,rfl,d7⟩;k_places;refine#[λx=>∃v:Int,x=.int v/\(-12<=v/\v<=12)/\¬(v=0/\b=0),ite2 (λe=>?_) (λe=>?_),?_]
  .have e':=of_decide_eq_true e;by_cases Pk:b=0
   .refine#[_,rfl,?_];subst e' Pk;simp
   .refine#[_,rfl,?_];subst e';simp[Pk]
  .have e':=of_decide_eq_false (G7.mpr e);refine#[_,rfl,?_];simp;lia
  rintro _⟨a,rfl,ha,QW⟩;k_places;refine#[.inl (i64 ha.1 ha.2),.inl (i64 hb.1 hb.2),ite2 (λe=>?_) (λe=>?_)]
  .refine#[J8,J8,J8,hR a b (-b) a ha hb JZ ha ?_];rw[HA];intro z;have s1:0<=a*a:=sq0 a;have s2:0<=b*b:=sq0 b;have z1:a*a=0:=by omega
   have z2:b*b=0:=KK
   exact QW #[(HX.mp z1).elim id id,(HX.mp z2).elim id id]
  .have e':=of_decide_eq_false (G7.mpr e);exact#[J8,J8,J8,hR a b c d ha hb hc d7 e']
abbrev oG(V:Bx):Prop:=V.D 1 "_law_motif_text" lh A3
def DY(T:V.T "_law_motif_text" lf lh)(uY:V.m "str"):oG V:=by
 refine Tx.okDW T sc__law_motif_text (λds R h=>?_) (λf cdv A outer s H E J hr=>⟨_,((aq (aA 3 sc__law_motif_text.nd (aB (aB (aB (aB (aB (aB (aB aC (gA uY (ac (ah (aa 1) ad) af))) aC) (gA uY (ac (ah (aa 1) ad) af))) aC) (gA uY (ac (ah (aa 2) ad) af))) aC) (gA uY (ac (ah (aa 2) ad) af))))
   (ar (aE (aB (aB (aB aC (kh (aa 0))) (aa 3)) aC))))),λds R h=>?_⟩)
 .obtain⟨_,_,_,_,_,rfl,_⟩:=h;rfl
 .obtain⟨L,a,b,c,d,rfl,hL,ha,hb,hc,hd,hR⟩:=h;have la:=cf ha;have lb:=cf hb;have lc:=cf hc;have ld:=cf hd;have l1:(";":Jj).length=1:=rfl;have l2:(",":Jj).length=1:=rfl;have l3:("[":Jj).length=1:=rfl;have l4:("]":Jj).length=1:=rfl;have ls:=tI hL;have lj:=StrLaws.join_length_le "/" L;unfold B12 at ha hb hc hd;refine#[λx=>x=.str ((((((((";":Jj)++(toString a:String))++",")++(toString b:String))++";")++(toString c:String))++",")++(toString d:String)),#[_,rfl,JZ,?_,?_,_,rfl,JZ,?_,?_,_,rfl,JZ,?_,?_,_,rfl,JZ,?_,rfl],?_]
  .lia
  .rw[aV];lia
  .rw[aV,aV];lia
  .rw[aV,aV,aV];lia
  .rw[aV,aV,aV,aV];lia
  .rw[aV,aV,aV,aV,aV];lia
  .rw[aV,aV,aV,aV,aV,aV];lia
  rintro _ rfl;k_places;have lg:(Txt.join "/" L).length<=72:=by
   have e:Txt.join "/" L=Str.join "/" L:=StrLaws.glued_eq_join _ _;rw[e];exact FY lj ls
  refine#[L,kK L,JZ,?_,?_,?_,hR]
  .lia
  .repeat rw[aV]
   lia
  .repeat rw[aV]
   lia
abbrev oH(V:Bx):Prop:=V.D 3 "_law_motif" lm A6
def DZ(T:V.T "_law_motif" ll lm)(KA:iV V)(NR:oE V)(NS:oF V)(NT:oG V):oH V:=by
 refine Tx.okDW T sc__law_motif (λds R h=>?_) (λf cdv A outer s H E J hr=>⟨_,((aq (aA 2 sc__law_motif.nd (aI KA hr (ac (aa 0) (ac (aa 1) (ac ad af)))))
   (aq (aA 3 sc__law_motif.nd (aI NR hr (ac (aa 2) af)))
   (aq (rT rfl (aI NS hr (ac (aa 2) af)) (dg_cons 4 sc__law_motif.nd (dg_cons 5 sc__law_motif.nd df)))
   (aq (aA 6 sc__law_motif.nd (aN (ac (aa 3) (ac (aa 4) (ac (aa 5) (ac (aN (ac ad (ac ad (ac ad (ac ad (ac ad (ac ad af))))))) (ac (bp (ac ad (ac ad (ac ad (ac ad (ac ad (ac ad (ac ad af)))))))) af)))))))
   (ar (aE (bp (ac (aI NT hr (ac (aa 3) (ac (aa 4) (ac (aa 5) af)))) (ac ad (ac (bp (ac (aa 6) af)) af))))))))))),λds R h=>?_⟩)
 .obtain⟨_,_,rfl,_⟩:=h;rfl
 .obtain⟨ns,k,rfl,hk,hR⟩:=h;refine#[λx=>∃xs:List Int,x=.lst (xs.map D.int)/\xs.length=40/\Drawn xs,#[ns,k,40,rfl,hk,J7,λxs h1 h2=>#[xs,rfl,h1,h2]],?_];rintro _⟨xs,rfl,hl,hd⟩;k_places;refine#[λx=>∃L:List Jj,x=.lst (L.map D.str)/\Rows L,#[xs,rfl,JZ,hd,λL h=>#[L,rfl,h]],?_];rintro _⟨L,rfl,hL⟩;k_places;refine#[xs,rfl,JZ,hd,λa b c d ha hb hc d7 hn=>#[rfl,?_]];refine#[λx=>x=(cu L a b c d).D,#[J8,J8,J8,rfl],?_];rintro _ rfl;k_places;exact#[L,a,b,c,d,rfl,hL,ha,hb,hc,d7,J8,J8,hR L a b c d hL ha hb hc d7 hn]
abbrev oI(V:Bx):Prop:=V.D 1 "_law_on" lr AH
def D0(T:V.T "_law_on" lq lr):oI V:=by
 refine Tx.okDW T sc__law_on (λds R h=>?_) (λf cdv A outer s H E J hr=>⟨_,((aq (aA 4 sc__law_on.nd (bw (aL (ah (aa 0) ad) (ah (aa 1) ad)) (aL (ah (aa 0) ad) (ah (aa 1) ad))))
   (ar (aE (gw (fm (ra (bw (aL (aa 2) (ah (aa 1) ad)) (aL (aa 3) (ah (aa 1) ad))) (aa 4)) ad) (gv (fm (ra (bw (aL (ah (aa 0) ad) (aa 3)) (aL (ah (aa 0) ad) (aa 2))) (aa 4)) ad))))))),λds R h=>?_⟩)
 .obtain⟨a,b,c,d,u,v,rfl,_⟩:=h;rfl
 .obtain⟨a,b,c,d,u,v,rfl,ha,hb,hc,hd,hn,hR⟩:=h;have KC:∀{x:Int},x.natAbs<1073741824->-(2^64)<x/\x<2^64:=λh=>n64 (Nat.le_of_lt_succ h);refine#[λx=>x=.int (a*d-b*c),#[_,rfl,_,rfl,.inl (KC ha),_,rfl,_,rfl,.inl (KC hb),rfl],?_];rintro _ rfl;k_places;refine#[_,rfl,.inr (KC hd),_,rfl,.inr (KC hc),KK,ite2 (λe=>?_) (λe=>?_)]
  .have e':=of_decide_eq_true e;refine#[_,rfl,.inl (KC ha),_,rfl,.inl (KC hb),KK,?_];have q:decide ((a*v-b*u).fmod (a*d-b*c)=0)=decide ((u*d-v*c).fmod (a*d-b*c)=0/\(a*v-b*u).fmod (a*d-b*c)=0):=by simp[e']
   have g:R (.bl (decide ((a*v-b*u).fmod (a*d-b*c)=0))):=by rw[q];exact hR
   exact g
  .have e':=of_decide_eq_false (G7.mpr e);have q:decide ((u*d-v*c).fmod (a*d-b*c)=0/\(a*v-b*u).fmod (a*d-b*c)=0)=false:=by simp[e']
   rw[q]at hR;exact hR
abbrev oJ(V:Bx):Prop:=V.D 2 "_law_leaf_shows" lv A7
def D1(T:V.T "_law_leaf_shows" lu lv)(uA:V.m "range")(uB:V.m "len")(uK:V.m "int")(NU:oI V):oJ V:=by
 refine Tx.okDW T sc__law_leaf_shows (λds R h=>?_) (λf cdv A outer s H E J hr=>⟨_,((aq (aA 3 sc__law_leaf_shows.nd (ah (aa 0) ad))
   (aq (aA 4 sc__law_leaf_shows.nd (aB (aB (aL (ah (aa 3) ad) (aa 1)) (aL (ah (aa 3) ad) (aa 2))) (ah (aa 3) ad)))
   (aq (aA 5 sc__law_leaf_shows.nd (aB (aB (aL (ah (aa 3) ad) (aa 1)) (aL (ah (aa 3) ad) (aa 2))) (ah (aa 3) ad)))
   (aq (bV 6 PassesOwn.never rfl sc__law_leaf_shows.nd uA (bQ uB (ac (ah (aa 0) ad) af)) (ar (bV 7 PassesOwn.never rfl sc__law_leaf_shows.nd uA (bQ uB (ac (ah (ah (aa 0) ad) (aa 6)) af)) (ar (bK (dW (rB (cr (ah (ah (ah (aa 0) ad) (aa 6)) (aa 7)) aC) (rA (cI (aI NU hr (ac (ah (aa 0) ad) (ac (ah (aa 0) ad) (ac (bw (aa 4) (aa 7)) (ac (bw (aa 5) (aa 6)) af))))))))) (ar (aE (ah (ah (aa 0) ad) (ke uK (ac (ah (ah (ah (aa 0) ad) (aa 6)) (aa 7)) af))))) bz)))))
   (ar (aE ad))))))),λds R h=>?_⟩)
 .obtain⟨_,_,_,rfl,_⟩:=h;rfl
 .obtain⟨l,x,y,rfl,ok,hR⟩:=h;obtain⟨hm,wd,QX,Ls⟩:=id ok.rows;refine#[λd=>d=.tup [.int l.w0,.int l.w1,.int l.w2,.int l.w3,.int l.w4,.int l.w5],#[_,rfl,rfl],?_];rintro _ rfl;k_places;refine#[λd=>d=.int (l.w0*x+l.w1*y+l.w4),#[_,rfl,.inl (n64 ok.w0),_,rfl,.inl (n64 ok.w1),_,rfl,rfl],?_];rintro _ rfl;k_places;refine#[λd=>d=.int (l.w2*x+l.w3*y+l.w5),#[_,rfl,.inl (n64 ok.w2),_,rfl,.inl (n64 ok.w3),_,rfl,rfl],?_];rintro _ rfl;k_places;have JM:R (.int (match l.hit x y with|some c=>cell l.hues ((c:Int)-48)|none=>0)):=hR;unfold Leaf.hit at JM;generalize l.w0*x+l.w1*y+l.w4=U at JM ⊢;generalize l.w2*x+l.w3*y+l.w5=V at JM ⊢;generalize ef:(λi j=>onB l.a l.b l.c l.d (U-i) (V-j))=f at JM;have e0:∀i j,f i j=onB l.a l.b l.c l.d (U-i) (V-j):=λi j=>by rw[<-ef]
  have b8:((l.rows.map D.str).length:Int).toNat=l.rows.length:=J8
  refine#[_,rfl,#[JZ,Sc],λk z=>∃o1 o2:Option D,z=[be l.D,be (.int x),be (.int y),be (.tup [.int l.w0,.int l.w1,.int l.w2,.int l.w3,.int l.w4,.int l.w5]),be (.int U),be (.int V),o1,o2]/\bM f 0 l.rows=bM f k (l.rows.drop k),#[_,_,rfl,rfl],?_,?_]
  .rintro j v z hj⟨o1,o2,rfl,hs⟩;k_places;obtain⟨Kz,rfl⟩:=bE hj;rw[b8]at Kz;have Lu:l.rows[j]?=be l.rows[j]:=Gb Kz;have z8:l.rows.drop j=l.rows[j]::l.rows.drop (j+1):=G4 Kz;obtain⟨Mh,Lq⟩:=Ls l.rows[j] (GA Kz);generalize l.rows[j]=row at Lu z8 Mh Lq;have Kk:=at_str Lu;have gt:=br row;refine#[_,rfl,_,Kk,JZ,#[JZ,JZ],λi z=>∃o2:Option D,z=[be l.D,be (.int x),be (.int y),be (.tup [.int l.w0,.int l.w1,.int l.w2,.int l.w3,.int l.w4,.int l.w5]),be (.int U),be (.int V),be (.int j),o2]/\scanRow (λi=>f i j) 0 (cs row)=scanRow (λi=>f i j) i ((cs row).drop i),#[_,rfl,rfl],?_,?_]
   .rintro i v z hi⟨o2,rfl,KD⟩;k_places;obtain⟨g9,rfl⟩:=bE hi;have NV:i<(cs row).length:=by lia
    have JA:(cs row).drop i=(cs row)[i]::(cs row).drop (i+1):=G4 NV;have Lv:=Lq (cs row)[i] (GA NV);have NW:atI (cs row) (i:Int)=be (cs row)[i]:=bP (Gb NV);generalize (cs row)[i]=c at JA Lv NW;refine#[_,rfl,_,Kk,c,#[JZ,NW],ite2 (λq=>?_) (λq=>?_)]
    .have v3:¬c=46:=by
      intro z;have:(#[[c].toArray]:Jj)=".":=one_sign.mpr z;simp[this]at q
     refine#[_,rfl,_,rfl,l.a,l.b,l.c,l.d,U-i,V-j,rfl,ok.a.lt,ok.b.lt,ok.c.lt,ok.d.lt,ok.ne,?_];refine ite2 (λq2=>?_) (λq2=>?_)
     .have ge:f i j=true:=by rw[e0];exact q2
      have QY:49<=c/\c<=54:=by unfold bb at Lv;lia
      refine#[_,rfl,_,rfl,_,Kk,c,#[JZ,NW],_,#[digit_of QY,by show 1<=640;decide],_,dw JZ (by rw[ok.many];lia),?_];rw[hs,z8,bM,KD,JA,scanRow,if_pos #[v3,ge]]at JM;exact JM
     .have ge:¬f i j=true:=by rw[e0];exact q2
      refine#[_,rfl,?_];rw[KD,JA,scanRow,if_neg (λz=>ge z.2)]
    .have v3:c=46:=by
      rcases Classical.em (c=46)with z|z
      .exact z
      .exact absurd (by
        have:¬(#[[c].toArray]:Jj)=".":=λw=>z (one_sign.mp w);simp[this]) q
     refine#[_,rfl,?_];rw[KD,JA,scanRow,if_neg (λz=>z.1 v3)]
   .rintro z⟨o2,rfl,KD⟩;k_places;refine#[_,_,rfl,?_];have hn:((row.length:Int).toNat)=(cs row).length:=by lia
    rw[bB,hn,Ic (FR _),scanRow]at KD;rw[hs,z8,bM,KD]
  .rintro z⟨o1,o2,rfl,hs⟩;k_places;rw[bB,b8,Ic (FR _),bM]at hs;rw[hs]at JM;exact JM
abbrev oK(V:Bx):Prop:=V.D 3 "_law_shows" lx A8
def D2(T:V.T "_law_shows" lw lx)(NX:oJ V):oK V:=by
 refine Tx.okDW T sc__law_shows (λds R h=>?_) (λf cdv A outer s H E J hr=>⟨_,((aq (rL 3 PassesOwn.never rfl sc__law_shows.nd (aa 0) (aq (aA 4 sc__law_shows.nd (aI NX hr (ac (aa 3) (ac (aa 1) (ac (aa 2) af)))))
    (ar (bK (cr (aa 4) ad) (ar (aE (aa 4))) bz))))
   (ar (aE ad)))),λds R h=>?_⟩)
 .obtain⟨_,_,_,rfl,_⟩:=h;rfl
 .obtain⟨ls,x,y,rfl,ok,hR⟩:=h;refine#[λk z=>∃o1 o2:Option D,z=[be (.lst (ls.map Leaf.D)),be (.int x),be (.int y),o1,o2]/\aX ls x y=aX (ls.drop k) x y,#[_,_,rfl,rfl],?_,?_]
  .rintro k v z hk⟨o1,o2,rfl,hs⟩;k_places;rw[F6]at hk;have Ka:k<ls.length:=by
    rcases Hy k ls.length with q|q
    .exact q
    .rw[GB q]at hk;cases hk
   rw[Gb Ka]at hk;cases hk;have ed:ls.drop k=ls[k]::ls.drop (k+1):=G4 Ka;have Pl:=ok ls[k] (GA Ka);generalize ls[k]=l at ed Pl;refine#[λd=>d=.int (l.shows x y),#[l,x,y,rfl,Pl,rfl],?_];rintro _ rfl;k_places;refine ite2 (λq=>?_) (λq=>?_)
   .have q':¬l.shows x y=0:=by simpa using q
    rw[hs,ed,aX,if_pos q']at hR;exact hR
   .have q':l.shows x y=0:=by simpa using q
    refine#[_,_,rfl,?_];rw[hs,ed,aX,if_neg (λz=>z q')]
  .rintro z⟨o1,o2,rfl,hs⟩;k_places;rw[F4,Ic (FR _),aX]at hs;rw[hs]at hR;exact hR
def D3:SpD:=λds R=>∃(p:Pat) (w h:Int),ds=[.lst (p.leaves.map Leaf.D),.int w,.int h]/\p.Ok/\0<=w/\w<=30/\0<=h/\h<=30/\R (.lst (aw p w 0 h.toNat))
abbrev oM(V:Bx):Prop:=V.D 4 "_law_floor_rows" ly D3
def D4(T:V.T "_law_floor_rows" ic ly)(uA:V.m "range")(NY:oK V):oM V:=by
 refine Tx.okDW T sc__law_floor_rows (λds R h=>?_) (λf cdv A outer s H E J hr=>⟨_,((aq (gy 3 sc__law_floor_rows.nd af)
   (aq (bV 4 PassesOwn.never rfl sc__law_floor_rows.nd uA (aa 2) (ar (gz 3 (kh (gD rfl (compScope (by change cN _ (ag ic) ["_law_leaves","_law_wide","_law_high","_law_lines_here","_law_y"] _=true;decide+kernel)) uA (aa 1) (λcl s0 H0 fp=>(ah aC (aI NY hr (ac (aa 0) (ac (aa 5) (ac (aa 4) af)))))))))))
   (dY 3 (ar (aE (aa 3))))))),λds R h=>?_⟩)
 .obtain⟨_,_,_,rfl,_⟩:=h;rfl
 .obtain⟨p,w,h,rfl,ok,w0,w7,h0,h7,hR⟩:=h;have dp:=ok.deep;refine#[J8,?_];refine#[#[JZ,JZ],λk z=>∃o,z=[be (.lst (p.leaves.map Leaf.D)),be (.int w),be (.int h),be (.own (aw p w 0 k)),o],#[_,rfl],?_,?_]
  .rintro k v z hk⟨o,rfl⟩;k_places;obtain⟨m8,rfl⟩:=bE hk;refine#[#[JZ,JZ],by rw[bB];lia,λi ys=>ys=rowD p 0 k i,rfl,?_,?_]
   .rintro i v ys hi hl rfl;obtain⟨v4,rfl⟩:=bE hi;refine#[p.leaves,i,k,rfl,Pat.leaf_ok ok.wf JZ,?_];rw[Pat.show_leaves ok.wf JZ];obtain⟨b0,b6⟩:=Pat.show_le ok.wf JZ (i:Int) k;refine#[_,#[J7,uf b0 b6],?_];show rowD p 0 k i++_=rowD p 0 k (i+1);rw[<-uk,G5]
   .rintro ys hl rfl;rw[bB];obtain⟨ys,e1,e2,e3⟩:=ul p 0 (k:Int) (n:=w.toNat) JZ;refine#[ys,e1,e2,?_];rw[e3];refine#[by unfold aw;simp;lia,be (.int k),?_];rw[<-oB,G5];rfl
  .rintro z⟨o,rfl⟩;k_places;rw[bB];exact hR
def D5:SpM:=λds M R _=>∃a q f w,ds=[.ptr a,.str w]/\a≠q/\M=Fl.M f a q/\f.ds.length<=20/\∀q',a≠q'->R .non ((f.keep w).M a q')
abbrev iW(V:Bx):Prop:=V.Q 1 "Floor" "keep" lB D5
def D6(T:V.Tm "Floor" "keep" "Floor.keep" lz lB)(NZ:V.gi "KEPT" 20)(uO:V.a "Floor" "deeds")(uD:V.a "Floor" "laid")(uE:V.a "Floor" "pattern"):iW V:=by
 refine CalMth.drop (Txm.okM T CT (λds M R RX h=>?_) (λf cdv A outer s H E J hr hx=>#[_,((ao (bL uO (ae (aa 0)) (Cs (Cr (az uO (ae (aa 0))) (du (av (sJ (av (ae (aa 1)) (av (az uE (ae (aa 0))) (av (az uD (ae (aa 0))) aU)))) aU))) (uy (ae (cq (eA NZ)))) ux)))),λds M R RX d0 h=>?_]))
 .obtain⟨_,_,⟨_,_,_,_,rfl,_⟩,_⟩:=h;rfl
 .obtain⟨R,RX,⟨a,q,f,w,rfl,ne,rfl,hl,hR⟩,rfl,rfl⟩:=h;have nk:∀{p:KF},p∉am (f.M a q)->p≠a/\p≠q:=λ{p} h=>#[λe=>h (e ▸ FW _ FZ),λe=>h (e ▸ FZ)];refine#[_,Fl.ma ne,_,iR,_,Fl.ma ne,_,fS,_,Fl.ma ne,_,dI,by show(3:Nat)<=1000;decide,Lg,λp1 h1=>?_];obtain⟨n1,m1⟩:=nk h1;refine#[_,_,(dG m1).trans Fl.mq,cy,by rw[F4];show _+1<=_;lia,λp2 h2=>?_];have s_:p2≠p1/\p2∉am (f.M a q):=#[λe=>h2 (e ▸ FZ),λz=>h2 (FW _ z)];obtain⟨n2,m2⟩:=nk s_.2;refine#[_,cy,λp3 h3=>?_];have QZ:p3≠p2/\p3∉am ((p1,.lst [])::f.M a q):=#[λe=>h3 (e ▸ FZ),λz=>h3 (FW _ z)];obtain⟨n3,m3⟩:=nk λz=>QZ.2 (FW _ z);refine#[_,(dG n3).trans ((dG n2).trans ((dG n1).trans (Fl.ma ne))),by show(6:Nat)<1000;decide,_,#[?_,?_],hR p3 (Ne.symm n3)]
  .rw[dH n3,dH n2,dH n1,show f.M a q=[(q,.lst (f.ds.map Deed.D)),(a,.ins "Floor" (f.fs q))]from rfl,dH (Ne.symm ne),cE];have e1:cutD (f.ds.map Deed.D++[D.tup [.str w,f.d,.int f.l]]) (be (-20)) B_=(f.keep w).ds.map Deed.D:=by
    rw[Dt];show _=Hw Deed.D (GW _ _);rw[List.map_drop,Gc,F9,F4];rfl
   have e2:putD ("deeds":Jj) (.ptr p3) (f.fs q)=(f.keep w).fs p3:=rfl;rw[e1,e2];intro e he;rcases FT.mp he with rfl|he
   .exact FZ
   .rw[FP.mp he];simp
  .exact Fl.nd (Ne.symm n3)
abbrev iX(V:Bx):Prop:=V.X 1 "refuse_far" lD BR
def D7(T:V.T "refuse_far" lC lD)(JB:V.m "max")(Kl:V.m "abs")(N1:V.gi "FAR" 1000000000000)(N2:V.n "TooFar"):iX V:=by
 refine Tx.okXW T CU (λds R RX h=>?_) (λf cdv A outer s H E J hr hx=>#[_,((ar (bK (rq (kg rfl JB (ac (jY Kl (ac (aa 0) af)) (ac (jY Kl (ac (aa 1) af)) af))) (eA N1)) (ar (yQ N2 hx rfl (ac aC af))) bz))),λds R RX d0 h=>?_])
 .obtain⟨_,_,rfl,_⟩:=h;rfl
 .obtain⟨x,y,rfl,h1,h2⟩:=h;refine ite2 (λc=>?_) (λc=>?_)
  .have c':=of_decide_eq_true c;refine#[Lg,?_];rw[d0];refine h2 λ⟨⟨a1,a2⟩,a3,a4⟩=>?_;split at c'<;>split at c'<;>split at c'<;>lia
  .have c':¬_:=λz=>c (decide_eq_true z);refine h1 ?_;unfold aZ;split at c'<;>split at c'<;>split at c'<;>lia
abbrev eX(V:Bx):Prop:=V.D 1 "home" lG AI
def D8(T:V.T "home" lF lG):eX V:=by
 refine Tx.okDW T sc_home (λds R h=>?_) (λf cdv A outer s H E J hr=>⟨_,((aq (aA 3 sc_home.nd (ah (aa 0) ad))
   (aq (aA 4 sc_home.nd (ah (aa 0) ad))
   (aq (aA 5 sc_home.nd (ah (aa 0) ad))
   (ar (aE (aN (ac (aH (bw (aa 1) (aL (bx (aa 2) (aa 4)) (aa 5))) (aa 3)) (ac (aH (aa 2) (aa 4)) af))))))))),λds R h=>?_⟩)
 .obtain⟨w,h,s,x,y,rfl,_⟩:=h;rfl
 .obtain⟨w,h,s,x,y,rfl,hw,hh,JK,hs,l8,hR⟩:=h;refine#[λd=>d=.int w,#[_,rfl,rfl],?_];rintro _ rfl;k_places;refine#[λd=>d=.int h,#[_,rfl,rfl],?_];rintro _ rfl;k_places;refine#[λd=>d=.int s,#[_,rfl,rfl],?_];rintro _ rfl;k_places;exact#[#[hh,JK],.inr #[JZ,JZ],hw,hh,J8,hR]
variable{n j:Nat}
def ok_Motif_shows(hL:1<=n)(T:V.Tm "Motif" "shows" "Motif.shows" ie cw)(uZ:eX V)(JN:V.a "Motif" "hues")(uM:V.a "Motif" "shifts"):V.Q (n+1) "Motif" "shows" cw (ofX (bT (j+1) "Motif")):=by
 refine Txm.okM T CV (λds M R RX h=>?_) (λf cdv A outer s H E J hr hx=>#[_,((ao (ay (Ah (dQ hr) (az JN (ae (aa 0))) (av (aJ (hn:=KK) (CalD.toM uZ) hx hr (av (az uM (ae (aa 0))) (av (ae (aa 1)) (av (ae (aa 2)) aU)))) (av (ae ad) aU)))))),λds M R RX d0 h=>?_])
 .obtain⟨_,_,_,_,rfl,_⟩:=h;rfl
 .obtain⟨p,v,X,Y,rfl,hv,v5,hd,hc,hR⟩:=h;cases p<;>simp only[Pat.cls]at hc<;>try exact absurd hc J3
  rename_i L a b c d;obtain⟨k,w,h,s,rfl,F⟩:=hv;obtain⟨hL,ha,hb,JG,d7,hn⟩:=v5;unfold B12 at ha hb JG d7;obtain⟨b1,b2,b3⟩:=F.bd (N:=288) (by
   have m1:=ce (a:=a) (d:=d) (A:=12) (B:=12) JZ JZ;have m2:=ce (a:=b) (d:=c) (A:=12) (B:=12) JZ JZ;lia)
  rw[Pat.show,<-motif_shows hL F hn X Y]at hR;exact#[_,#[rfl,rfl],_,BL,_,#[rfl,rfl],_,mo_shifts,w,h,s,X,Y,rfl,F.1,F.2.1,JZ,F.2.2.1,JZ,hR]
def D9(hL:1<=n)(T:V.Tm "Over" "shows" "Over.shows" ig ii)(uW:V.a "Over" "above")(uV:V.a "Over" "below")(uG:∀x,x∈(["Motif","Over","Shifted","Mirror","Turn","Rehue"]:List Jj)->V.Q n x "shows" cw (ofX (bT j x))):V.Q (n+1) "Over" "shows" ii (ofX (bT (j+1) "Over")):=by
 refine Txm.okM T sc_Over_shows (λds M R RX h=>?_) (λf cdv A outer s H E J hr hx=>⟨_,((ai (aD 3 sc_Over_shows.nd (aR (hn:=KK) uG hx hr (az uW (ae (aa 0))) (au (ac (aa 1) (ac (aa 2) af)))))
   (ao (ay (fB (bj (bD (aa 3) ad)) (aR (hn:=KK) uG hx hr (az uV (ae (aa 0))) (au (ac (aa 1) (ac (aa 2) af)))) (ae (aa 3))))))),λds M R RX d0 h=>?_⟩)
 .obtain⟨_,_,_,_,rfl,_⟩:=h;rfl
 .obtain⟨p,v,X,Y,rfl,hv,v5,hd,hc,hR⟩:=h;cases p<;>simp only[Pat.cls]at hc<;>try exact absurd hc J3
  rename_i p q;obtain⟨u,u',rfl,hu,Lw⟩:=hv;obtain⟨fs,rfl,o1⟩:=hu.objm;obtain⟨gs,rfl,o2⟩:=Lw.objm;rw[Pat.depth]at hd;refine#[λd M'=>d=.int (p.show X Y)/\M'=M,#[_,#[rfl,rfl],_,rfl,p.cls,p.cls_mem,fs,#[rfl,rfl],o1.shw,p,_,X,Y,rfl,hu,v5.1,JZ,rfl,rfl,rfl],?_];rintro _ _⟨rfl,rfl⟩;k_places;rw[Pat.show]at hR;show if decide (p.show X Y=0)=true then _ else _
  refine ite2 (λe=>?_) (λe=>?_)
  .have e':=of_decide_eq_true e;rw[if_neg (λz=>z e')]at hR;exact#[_,#[rfl,rfl],_,eN J3,q.cls,q.cls_mem,gs,#[rfl,rfl],o2.shw,q,_,X,Y,rfl,Lw,v5.2,JZ,rfl,hR]
  .have e':p.show X Y≠0:=λz=>e (decide_eq_true z);rw[if_pos e']at hR;exact hR
def Ea(hL:1<=n)(T:V.Tm "Shifted" "shows" "Shifted.shows" ij ik)(uU:V.a "Shifted" "form")(JO:V.a "Shifted" "y")(JP:V.a "Shifted" "x")(uG:∀x,x∈(["Motif","Over","Shifted","Mirror","Turn","Rehue"]:List Jj)->V.Q n x "shows" cw (ofX (bT j x))):V.Q (n+1) "Shifted" "shows" ik (ofX (bT (j+1) "Shifted")):=by
 refine Txm.okM T CW (λds M R RX h=>?_) (λf cdv A outer s H E J hr hx=>#[_,((ao (ay (aR (hn:=KK) uG hx hr (az uU (ae (aa 0))) (av (cO (ae (aa 1)) (az JP (ae (aa 0)))) (av (cO (ae (aa 2)) (az JO (ae (aa 0)))) aU)))))),λds M R RX d0 h=>?_])
 .obtain⟨_,_,_,_,rfl,_⟩:=h;rfl
 .obtain⟨p,v,X,Y,rfl,hv,v5,hd,hc,hR⟩:=h;cases p<;>simp only[Pat.cls]at hc<;>try exact absurd hc J3
  rename_i a b p;obtain⟨u,rfl,hu⟩:=hv;obtain⟨fs,rfl,o1⟩:=hu.objm;rw[Pat.depth]at hd;exact#[_,#[rfl,rfl],_,rfl,p.cls,p.cls_mem,fs,#[rfl,rfl],o1.shw,_,#[rfl,rfl],_,eN J3,_,#[rfl,rfl],_,kP J3 J3,p,_,X-a,Y-b,rfl,hu,v5.2.2,JZ,rfl,hR]
def Eb(hL:1<=n)(T:V.Tm "Mirror" "shows" "Mirror.shows" il im)(uR:V.a "Mirror" "form")(uG:∀x,x∈(["Motif","Over","Shifted","Mirror","Turn","Rehue"]:List Jj)->V.Q n x "shows" cw (ofX (bT j x))):V.Q (n+1) "Mirror" "shows" im (ofX (bT (j+1) "Mirror")):=by
 refine Txm.okM T CY (λds M R RX h=>?_) (λf cdv A outer s H E J hr hx=>#[_,((ao (ay (aR (hn:=KK) uG hx hr (az uR (ae (aa 0))) (au (ac (cq (aa 1)) (ac (aa 2) af))))))),λds M R RX d0 h=>?_])
 .obtain⟨_,_,_,_,rfl,_⟩:=h;rfl
 .obtain⟨p,v,X,Y,rfl,hv,v5,hd,hc,hR⟩:=h;cases p<;>simp only[Pat.cls]at hc<;>try exact absurd hc J3
  rename_i p;obtain⟨u,rfl,hu⟩:=hv;obtain⟨fs,rfl,o1⟩:=hu.objm;rw[Pat.depth]at hd;exact#[_,#[rfl,rfl],_,rfl,p.cls,p.cls_mem,fs,#[rfl,rfl],o1.shw,p,_,-X,Y,rfl,hu,v5,JZ,rfl,hR]
def Ec(hL:1<=n)(T:V.Tm "Turn" "shows" "Turn.shows" io ip)(uT:V.a "Turn" "form")(uG:∀x,x∈(["Motif","Over","Shifted","Mirror","Turn","Rehue"]:List Jj)->V.Q n x "shows" cw (ofX (bT j x))):V.Q (n+1) "Turn" "shows" ip (ofX (bT (j+1) "Turn")):=by
 refine Txm.okM T CZ (λds M R RX h=>?_) (λf cdv A outer s H E J hr hx=>#[_,((ao (ay (aR (hn:=KK) uG hx hr (az uT (ae (aa 0))) (au (ac (aa 2) (ac (cq (aa 1)) af))))))),λds M R RX d0 h=>?_])
 .obtain⟨_,_,_,_,rfl,_⟩:=h;rfl
 .obtain⟨p,v,X,Y,rfl,hv,v5,hd,hc,hR⟩:=h;cases p<;>simp only[Pat.cls]at hc<;>try exact absurd hc J3
  rename_i p;obtain⟨u,rfl,hu⟩:=hv;obtain⟨fs,rfl,o1⟩:=hu.objm;rw[Pat.depth]at hd;exact#[_,#[rfl,rfl],_,rfl,p.cls,p.cls_mem,fs,#[rfl,rfl],o1.shw,p,_,Y,-X,rfl,hu,v5,JZ,rfl,hR]
def Ed(hL:1<=n)(T:V.Tm "Rehue" "shows" "Rehue.shows" iq ir)(uS:V.a "Rehue" "form")(JQ:V.a "Rehue" "old")(JR:V.a "Rehue" "new")(uG:∀x,x∈(["Motif","Over","Shifted","Mirror","Turn","Rehue"]:List Jj)->V.Q n x "shows" cw (ofX (bT j x))):V.Q (n+1) "Rehue" "shows" ir (ofX (bT (j+1) "Rehue")):=by
 refine Txm.okM T sc_Rehue_shows (λds M R RX h=>?_) (λf cdv A outer s H E J hr hx=>⟨_,((ai (aD 3 sc_Rehue_shows.nd (aR (hn:=KK) uG hx hr (az uS (ae (aa 0))) (au (ac (aa 1) (ac (aa 2) af)))))
   (ao (ay (fB (fz (ae (aa 3)) (az JQ (ae (aa 0)))) (az JR (ae (aa 0))) (ae (aa 3))))))),λds M R RX d0 h=>?_⟩)
 .obtain⟨_,_,_,_,rfl,_⟩:=h;rfl
 .obtain⟨p,v,X,Y,rfl,hv,v5,hd,hc,hR⟩:=h;cases p<;>simp only[Pat.cls]at hc<;>try exact absurd hc J3
  rename_i f g p;obtain⟨u,rfl,hu⟩:=hv;obtain⟨fs,rfl,o1⟩:=hu.objm;rw[Pat.depth]at hd;refine#[λd M'=>d=.int (p.show X Y)/\M'=M,#[_,#[rfl,rfl],_,rfl,p.cls,p.cls_mem,fs,#[rfl,rfl],o1.shw,p,_,X,Y,rfl,hu,v5.2.2,JZ,rfl,rfl,rfl],?_];rintro _ _⟨rfl,rfl⟩;k_places;rw[Pat.show]at hR;unfold cj at hR;refine#[_,#[rfl,rfl],_,eN J3,ite2 (λe=>?_) (λe=>?_)]
  .rw[if_pos (of_decide_eq_true e)]at hR;exact#[_,#[rfl,rfl],_,kP J3 J3,hR]
  .rw[if_neg (λz=>e (decide_eq_true z))]at hR;exact hR
def Ee(Pm:V.Tm "Motif" "shows" "Motif.shows" ie cw)(Pn:V.Tm "Over" "shows" "Over.shows" ig ii)(Po:V.Tm "Shifted" "shows" "Shifted.shows" ij ik)(Pp:V.Tm "Mirror" "shows" "Mirror.shows" il im)(Pq:V.Tm "Turn" "shows" "Turn.shows" io ip)(Pr:V.Tm "Rehue" "shows" "Rehue.shows" iq ir)(uZ:eX V)(JN:V.a "Motif" "hues")(uM:V.a "Motif" "shifts")(uW:V.a "Over" "above")(uV:V.a "Over" "below")(uU:V.a "Shifted" "form")(JO:V.a "Shifted" "y")(JP:V.a "Shifted" "x")(uR:V.a "Mirror" "form")(uT:V.a "Turn" "form")(uS:V.a "Rehue" "form")(JQ:V.a "Rehue" "old")(JR:V.a "Rehue" "new"):∀j x,x∈(["Motif","Over","Shifted","Mirror","Turn","Rehue"]:List Jj)->V.Q (1+j) x "shows" cw (ofX (bT j x)):=by
 intro j;induction j with
 |zero=>
  intro x hx;simp only[FT,G3,or_false]at hx;rcases hx with rfl|rfl|rfl|rfl|rfl|rfl
  .exact CalMth.never Pm (λds M R RX=>eQ)
  .exact CalMth.never Pn (λds M R RX=>eQ)
  .exact CalMth.never Po (λds M R RX=>eQ)
  .exact CalMth.never Pp (λds M R RX=>eQ)
  .exact CalMth.never Pq (λds M R RX=>eQ)
  .exact CalMth.never Pr (λds M R RX=>eQ)
 |succ j Lx=>
  intro x hx;simp only[FT,G3,or_false]at hx;rcases hx with rfl|rfl|rfl|rfl|rfl|rfl
  .exact ok_Motif_shows (n:=1+j) (j:=j) KK Pm uZ JN uM
  .exact D9 (n:=1+j) (j:=j) KK Pn uW uV Lx
  .exact Ea (n:=1+j) (j:=j) KK Po uU JO JP Lx
  .exact Eb (n:=1+j) (j:=j) KK Pp uR Lx
  .exact Ec (n:=1+j) (j:=j) KK Pq uT Lx
  .exact Ed (n:=1+j) (j:=j) KK Pr uS JQ JR Lx
abbrev vo(V:Bx):Prop:=∀x,x∈(["Motif","Over","Shifted","Mirror","Turn","Rehue"]:List Jj)->V.Q 7 x "shows" cw (ofX (bT 6 x))
abbrev iY(V:Bx):Prop:=V.X 8 "cell_at" lJ BS
def Ef(T:V.T "cell_at" lH lJ)(Km:iX V)(KE:V.a "Pattern" "form")(uG:vo V):iY V:=by
 refine CalMM.nilX (Tx.okM T C0 (λds M R RX h=>?_) (λf cdv A outer s H E J hr hx=>⟨_,((ai (bq (aJ (CalX.toM Km) hx hr (au (ac (aa 1) (ac (aa 2) af)))))
   (ao (ay (aR uG hx hr (az KE (ae (aa 0))) (au (ac (aa 1) (ac (aa 2) af)))))))),λds M R RX d0 h=>?_⟩))
 .obtain⟨_,R0,Jy,⟨_,_,_,_,rfl,_⟩,_⟩:=h;rfl
 .obtain⟨rfl,R0,Jy,⟨p,d,x,y,rfl,⟨w,h,s,fs,rfl,e1,e2,hp⟩,ok,h1,h2⟩,hR,hX⟩:=h;obtain⟨v,e3,hv⟩:=hp.form;obtain⟨gs,rfl,o1⟩:=hv.objm;have Q0:=ok.deep;refine#[x,y,rfl,λhn=>?_,λhn=>?_]
  .exact#[_,#[rfl,rfl],_,e3,p.cls,p.cls_mem,gs,#[rfl,rfl],o1.shw,p,_,x,y,rfl,hv,ok.wf,JZ,rfl,hR _ _ (h1 hn)]
  .rw[d0];exact hX _ _ _ (h2 hn)
abbrev iZ(V:Bx):Prop:=V.D 9 "row_from" lK BT
def Eg(T:V.T "row_from" iu lK)(uA:V.m "range")(Kn:iY V)(uP:V.gs "SIGNS" ".123456"):iZ V:=by
 refine Tx.okDW T C1 (λds R h=>?_) (λf cdv A outer s H E J hr=>#[_,((ar (aE (kh (gD rfl (compScope (by change cN _ (ag iu) ["pattern","x","y","many"] _=true;decide+kernel)) uA (aa 3) (λcl s0 H0 fp=>(ah (eB uP) (aI (CalX.no Kn) hr (ac (aa 0) (ac (aB (aa 1) (aa 4)) (ac (aa 2) af))))))))))),λds R h=>?_])
 .obtain⟨_,_,_,_,_,rfl,_⟩:=h;rfl
 .obtain⟨p,d,x,y,n,rfl,hd,ok,hn,JI,m_,hy,hR⟩:=h;obtain⟨w,h,s,fs,rfl,_⟩:=id hd;refine#[#[JZ,JZ],by rw[bB];lia,λk ys=>ys=rowD p x y k,rfl,?_,?_]
  .rintro k v ys hk hl rfl;obtain⟨m8,rfl⟩:=bE hk;obtain⟨b0,b6⟩:=Pat.show_le ok.wf (by have:=ok.deep;lia) (x+(k:Int)) y;unfold aZ at JI m_;exact#[p,.obj "Pattern" fs,x+(k:Int),y,rfl,hd,ok,λ_=>#[_,#[J7,uf b0 b6],uk p x y k],λz=>z #[#[JZ,JZ],hy]]
  .rintro ys hl rfl;rw[bB,GR];obtain⟨ys,e1,e2,e3⟩:=ul p x y hn;refine#[ys,e1,e2,?_];rw[e3];exact hR
def vp:SpD:=λds R=>∃f q,ds=[.obj "Floor" (Fl.fs f q)]/\f.Ok/\R (.lst (aw f.p f.w 0 f.l.toNat))
variable{f:Fl}
def vq{a q:KF}(ne:a≠q)(ok:f.Ok){R:D->MS->Prop}{RX:XDM}(h:R (.lst (aw f.p f.w 0 f.l.toNat)) (f.M a q)):lend (λds R _=>vp ds R) [.ptr a] (f.M a q) R RX:=by
 refine#[a,_,_,Fl.ma ne,f,q,?_,ok,Du _ _ _ _,h];show[lendD a _ (.ptr a)]=_;unfold lendD;simp
abbrev ja(V:Bx):Prop:=V.QD 10 "Floor" "rows" lL vp
def Eh(T:V.Tm "Floor" "rows" "Floor.rows" iw lL)(uA:V.m "range")(KG:iZ V)(uD:V.a "Floor" "laid")(uH:V.a "Floor" "width")(uE:V.a "Floor" "pattern"):ja V:=by
 refine Txm.okDW T C3 (λds R h=>?_) (λf cdv A outer s H E J hr=>#[_,((ar (aE (gD rfl (compScope (by change cN _ (ag iw) ["self"] _=true;decide+kernel)) uA (et uD (aa 0)) (λcl s0 H0 fp=>(aI KG hr (ac (et uE (aa 0)) (ac ad (ac (aa 1) (ac (et uH (aa 0)) af)))))))))),λds R h=>?_])
 .obtain⟨_,_,rfl,_⟩:=h;rfl
 .obtain⟨f,q,rfl,ok,hR⟩:=h;have l0:=ok.l0;have l1:=ok.l1;have h2:=ok.h2;have w1:=ok.w1;have w2:=ok.w2;refine#[rfl,_,dI,#[JZ,JZ],by rw[bB];lia,λk ys=>ys=aw f.p f.w 0 k,rfl,?_,?_]
  .rintro k v ys hk hl rfl;obtain⟨m8,rfl⟩:=bE hk;refine#[rfl,_,fS,rfl,_,eV,f.p,f.d,0,k,f.w.toNat,by rw[Gg JZ],ok.is,ok.ok,JZ,#[JZ,JZ],#[JZ,JZ],#[JZ,JZ],?_];show aw f.p f.w 0 k++_=aw f.p f.w 0 (k+1);rw[<-oB,G5]
  .rintro ys hl rfl;rw[bB];exact hR
def S_Floor_lay:SpM:=λds M R RX=>∃a q f n,ds=[.ptr a,.int n]/\a≠q/\M=Fl.M f a q/\f.Ok/\1<=n/\n<=1000/\(f.h-f.l<n->RX "NoRow" [] (f.M a q))/\(n<=f.h-f.l->∀q',a≠q'->R (.lst (aw f.p f.w f.l n.toNat)) ((f.lay n).M a q'))
def Fl.ok_new{p:Pat}{d:D}{w h:Int}(is:bg p d)(ok:p.Ok)(w1:1<=w)(w2:w<=30)(h1:1<=h)(h2:h<=30):(Fl.mk p d w h 0 []).Ok:=#[is,ok,w1,w2,h1,h2,Int.le_refl 0,Gw (show(0:Int)<=1 by decide) h1,Gh _,λ_ h=>nomatch h]
def Fl.Ok.keep(ok:f.Ok)(w:Jj):(f.keep w).Ok:=by
 refine#[ok.is,ok.ok,ok.w1,ok.w2,ok.h1,ok.h2,ok.l0,ok.l1,?_,λe he=>?_]
 .show(GW _ _).length<=20;rw[GO,F9,G9];have:=ok.de;lia
 .rcases Go.mp (List.mem_of_mem_drop he)with z|z
  .exact ok.dd e z
  .rw[FP.mp z];exact#[ok.is,ok.ok,ok.l0,ok.l1]
def Fl.Ok.stand{p:Pat}{d:D}(ok:f.Ok)(is:bg p d)(z9:p.Ok):(f.stand p d).Ok:=#[is,z9,ok.w1,ok.w2,ok.h1,ok.h2,ok.l0,ok.l1,ok.de,ok.dd]
def Fl.Ok.lay{n:Int}(ok:f.Ok)(n0:0<=n)(hn:n<=f.h-f.l):(f.lay n).Ok:=by
 have l0:=ok.l0;have k:=ok.keep "lay";exact#[ok.is,ok.ok,ok.w1,ok.w2,ok.h1,ok.h2,by show 0<=f.l+n;lia,by show f.l+n<=f.h;lia,k.de,k.dd]
abbrev oN(V:Bx):Prop:=V.Q 11 "Floor" "lay" iy S_Floor_lay/\V.Qd 11 "Floor" "lay" iy [.int 1] S_Floor_lay
def Ei(T:V.Td "Floor" "lay" "Floor.lay" lM iy [.int 1])(JB:V.m "max")(uX:V.a "Floor" "height")(uD:V.a "Floor" "laid")(KH:iW V)(KI:ja V)(N3:V.n "NoRow"):oN V:=by
 refine Txd.okMd T sc_Floor_lay (λds M R RX h=>?_) (λf cdv A outer s H E J hr hx=>⟨_,((ai (aT (zr (ae (aa 1)) (cO (az uX (ae (aa 0))) (az uD (ae (aa 0))))) (ao (sO N3 hx rfl (au (ac aC af)))) aO)
   (ai (bq (aR (CalMth.one KH) hx hr (ae (aa 0)) (au (ac aC af))))
   (ai (aD 2 sc_Floor_lay.nd (az uD (ae (aa 0))))
   (ai (bL uD (ae (aa 0)) (ae (aB (aa 2) (kg rfl JB (ac (aa 1) (ac ad af))))))
   (ao (ay (Cj (bX (CalMth.one (CalMth.lendD KI)) hx hr (ae (aa 0))) (uy (ae (aa 2))) ux)))))))),λds M R RX d0 h=>?_⟩)
 .obtain⟨_,_,⟨_,_,_,_,rfl,_⟩,_⟩:=h;rfl
 .obtain⟨R,RX,⟨a,q,f,n,rfl,ne,rfl,ok,n1,n2,hX,hR⟩,rfl,rfl⟩:=h;have l0:=ok.l0;have l1:=ok.l1;refine#[_,Fl.ma ne,_,iQ,_,Fl.ma ne,_,dI,ite2 (λc=>?_) (λc=>?_)]
  .have c':=of_decide_eq_true c;refine#[Lg,?_];rw[d0];exact#[_,Fl.sub ne,hX c']
  have hc:n<=f.h-f.l:=by have:¬(f.h-f.l<n):=λz=>c (decide_eq_true z);lia
  refine#[_,FP.mpr rfl,_,Fl.ma ne,rfl,a,q,f,"lay",rfl,ne,rfl,ok.de,λq' d6=>?_];refine#[λd M'=>d=.int f.l/\M'=(f.keep "lay").M a q',#[_,Fl.ma d6,_,dI,rfl,rfl],?_];rintro _ _⟨rfl,rfl⟩;k_places;have eM:mput ((f.keep "lay").M a q') a (.ins "Floor" (putD "laid" (.int (f.l+if 0>n then 0 else n)) ((f.keep "lay").fs q')))=(f.lay n).M a q':=by
   rw[Fl.put d6,if_neg JZ];rfl
  refine#[_,Fl.ma d6,by show(6:Nat)<1000;decide,?_];rw[eM];have el:(f.lay n).l.toNat=f.l.toNat+n.toNat:=by show(f.l+n).toNat=_;lia
  refine#[_,FP.mpr rfl,_,Fl.ma d6,rfl,?_];dsimp only[mNil];refine vq d6 (ok.lay JZ hc) ?_;rw[el];show ∃N,subM N _/\R (.lst (cutD (aw f.p f.w 0 _) (be f.l) B_)) N;rw[vi _ _ _ l0];exact#[_,Fl.sub d6,hR hc q' d6]
def Ej:SpM:=λds M R _=>∃a q f n b,ds=[.ptr a,.int n,.bl b]/\a≠q/\M=Fl.M f a q/\f.Ok/\1<=n/\n<=1000/\(f.h-f.l<n->R (.lst [.bl true,.non]) (f.M a q))/\(n<=f.h-f.l->∀q',a≠q'->R (.lst [.bl false,.lst (aw f.p f.w f.l n.toNat)]) ((f.lay n).M a q'))
abbrev jb(V:Bx):Prop:=V.Ek ["TooFar","NoRow","Parted","NothingKept"]
abbrev oO(V:Bx):Prop:=V.MM 12 "_law_lay" lP Ej
def El(T:V.T "_law_lay" lN lP)(Mj:oN V)(ek:jb V):oO V:=by
 refine Tx.okM T sc__law_lay (λds M R RX h=>?_) (λf cdv A outer s H E J hr hx=>⟨_,((ai (aD 3 sc__law_lay.nd (ae bH))
   (ai (aD 4 sc__law_lay.nd (ae bt))
   (ai (kH (λpn xe J hp hx=>(ao (gU (bj (dW (rB (bD (aa 1) ad) (rA (cI (aa 2)))))) (ao (aD 3 sc__law_lay.nd (Cp Mj.2 hx hr (ae (aa 0))))) (ao (aD 3 sc__law_lay.nd (aR (CalMth.one Mj.1) hx hr (ae (aa 0)) (au (ac (aa 1) af)))))))) (λ_=>(sA ek (λe=>(ar (aA 4 sc__law_lay.nd bt))) kq)))
   (ao (ay (ae (bp (ac (aa 4) (ac (aa 3) af)))))))))),λds M R RX d0 h=>?_⟩)
 .obtain⟨_,_,_,_,_,rfl,_⟩:=h;rfl
 .obtain⟨a,q,f,n,b,rfl,ne,rfl,ok,n1,n2,hX,hR⟩:=h;refine#[λd M'=>d=.non/\M'=f.M a q,#[rfl,rfl],?_];rintro _ _⟨rfl,rfl⟩;k_places;refine#[λd M'=>d=.bl false/\M'=f.M a q,#[rfl,rfl],?_];rintro _ _⟨rfl,rfl⟩;k_places;refine#[λz M' x fs=>z=[be (.ptr a),be (.int n),be (.bl b),be .non,be (.bl false)]/\M'=f.M a q/\x="NoRow"/\f.h-f.l<n,λJ hJ=>?_,?_]
  .let P:D->MS->Prop:=λd M'=>n<=f.h-f.l/\∃q',a≠q'/\d=.lst (aw f.p f.w f.l n.toNat)/\M'=(f.lay n).M a q'
   have lay:S_Floor_lay [.ptr a,.int n] (f.M a q) P (λx fs M'=>J.RM [be (.ptr a),be (.int n),be (.bl b),be .non,be (.bl false)] M' x fs):=
    #[a,q,f,n,rfl,ne,rfl,ok,n1,n2,λc=>by rw[hJ];exact#[rfl,rfl,rfl,c],λc q' d6=>#[c,q',d6,rfl,rfl]]
   refine#[λz M'=>n<=f.h-f.l/\∃q',a≠q'/\z=[be (.ptr a),be (.int n),be (.bl b),be (.lst (aw f.p f.w f.l n.toNat)),be (.bl false)]/\M'=(f.lay n).M a q',ite2 (λc=>ite2 (λ_=>?_) (λ_=>?_)) (λ_=>?_),λz M' ⟨c,q',d6,e1,e2⟩=>?_]
   .have c':n=1:=of_decide_eq_true c;subst c';exact#[P,#[_,Fl.ma ne,rfl,lay],λd M' ⟨c,q',d6,e1,e2⟩=>#[c,q',d6,by rw[e1];rfl,e2]]
   .exact#[P,#[_,FP.mpr rfl,_,Fl.ma ne,rfl,lay],λd M' ⟨c,q',d6,e1,e2⟩=>#[c,q',d6,by rw[e1];rfl,e2]]
   .exact#[P,#[_,FP.mpr rfl,_,Fl.ma ne,rfl,lay],λd M' ⟨c,q',d6,e1,e2⟩=>#[c,q',d6,by rw[e1];rfl,e2]]
   .subst e1 e2;exact#[OP,hR c q' d6]
  .rintro z M' x fs⟨rfl,rfl,rfl,c⟩;k_places;refine#[#[J8,J8],?_];rw[if_pos J3];exact#[λd=>d=.bl true,rfl,λd e=>by subst e;exact#[#[OP,hX c],NoOwn.of rfl]]
def Em:SpD:=λds R=>∃(p q:Pat) (w:Int) (n m:Nat),ds=[.lst (aw p w 0 n),.lst (aw q w 0 m)]/\p.Ok/\q.Ok/\0<=w/\w<=30/\n<=m/\m<=30/\(cW p q w n->R .non)/\∀x y,First2 p q w n x y->R (.tup [.int x,.int y])
abbrev oP(V:Bx):Prop:=V.D 1 "_law_parted" lR Em
def En(T:V.T "_law_parted" lQ lR)(uA:V.m "range")(uB:V.m "len"):oP V:=by
 refine Tx.okDW T sc__law_parted (λds R h=>?_) (λf cdv A outer s H E J hr=>⟨_,((aq (bV 2 PassesOwn.never rfl sc__law_parted.nd uA (bQ uB (ac (aa 0) af)) (ar (bV 3 PassesOwn.never rfl sc__law_parted.nd uA (bQ uB (ac (ah (aa 0) (aa 2)) af)) (ar (bK (cr (ah (ah (aa 0) (aa 2)) (aa 3)) (ah (ah (aa 1) (aa 2)) (aa 3))) (ar (aE (aN (ac (aa 3) (ac (aa 2) af))))) bz)))))
   (ar (aE bH)))),λds R h=>?_⟩)
 .obtain⟨_,_,_,_,_,rfl,_⟩:=h;rfl
 .obtain⟨p,q,w,n,m,rfl,z9,Ml,w0,w7,nm,m7,hN,hS⟩:=h;have lp:∀{p:Pat} {n:Nat},(aw p w 0 n).length=n:=λ{p n}=>by unfold aw;simp
  refine#[#[JZ,by rw[lp];lia],λk z=>∃o2 o3,z=[be (.lst (aw p w 0 n)),be (.lst (aw q w 0 m)),o2,o3]/\cW p q w k,#[_,_,rfl,λx y _ _ a b=>JZ],?_,?_]
  .rintro k v z hk⟨o2,o3,rfl,hj⟩;k_places;obtain⟨m8,rfl⟩:=bE hk;rw[lp]at m8;have a1:=oC (p:=p) (w:=w) (lo:=0) (show k<n by lia);have a2:=oC (p:=q) (w:=w) (lo:=0) (show k<m by lia);rw[G5]at a1 a2;refine#[_,a1,by rw[cv];lia,#[by rw[cv];lia,by rw[cv];lia],λi z=>∃o3,z=[be (.lst (aw p w 0 n)),be (.lst (aw q w 0 m)),be (.int k),o3]/\∀x:Int,0<=x->x<i->p.show x k=q.show x k,#[_,rfl,λx a b=>JZ],?_,?_]
   .rintro i v z hi⟨o3,rfl,g9⟩;k_places;obtain⟨v4,rfl⟩:=bE hi;rw[cv]at v4;have b1:=vj (p:=p) (y:=(k:Int)) (show i<w.toNat by lia);have b2:=vj (p:=q) (y:=(k:Int)) (show i<w.toNat by lia);refine#[_,a1,_,#[by rw[cv];lia,b1],_,a2,_,#[by rw[cv];lia,b2],ite2 (λc=>?_) (λc=>?_)]
    .refine#[OP,hS i k #[#[JZ,JZ,JZ,JZ],λz=>by simp[z]at c,λx' y' a b c d=>?_]];rcases d with d|⟨rfl,d⟩
     .exact hj x' y' a b c JZ
     .exact g9 x' a JZ
    .have c':(#[[aP (p.show i k)].toArray]:Jj)=#[[aP (q.show i k)].toArray]:=by simpa using c
     have c2:=DF (Pat.show_le z9.wf (by have:=z9.deep;lia) _ _).1 (Pat.show_le Ml.wf (by have:=Ml.deep;lia) _ _).1 (DG c');refine#[_,rfl,λx a b=>?_];by_cases e:x=i
     .rw[e];exact c2
     .exact g9 x a JZ
   .rintro z⟨o3,rfl,g9⟩;k_places;rw[bB,GR,cv]at g9;refine#[_,_,rfl,λx y a b c d=>?_];by_cases e:y=k
    .rw[e];exact g9 x a JZ
    .exact hj x y a b c JZ
  .rintro z⟨o2,o3,rfl,hj⟩;k_places;rw[bB,lp,GR]at hj;exact hN hj
abbrev cX(V:Bx):Prop:=V.Q 1 "Reading" "may_take" lV Bl
def Eo(T:V.Tm "Reading" "may_take" "Reading.may_take" lU lV)(uB:V.m "len")(JS:V.a "Reading" "text")(uL:V.a "Reading" "place"):cX V:=by
 refine Txm.okM T C4 (λds M R RX h=>?_) (λf cdv A outer s H E J hr hx=>⟨_,((ai (aT (mt_w (gO (fz (az uL (ae (aa 0))) (sK uB (av (az JS (ae (aa 0))) aU))) (gN (zt (fv (az JS (ae (aa 0))) (az uL (ae (aa 0)))) (ae (aa 1)))))) (ao (ay (ae aC))) aO)
   (ai (bL uL (ae (aa 0)) (fw (az uL (ae (aa 0))) (ae ad)))
   (ao (ay (fv (az JS (ae (aa 0))) (cO (az uL (ae (aa 0))) (ae ad)))))))),λds M R RX d0 h=>?_⟩)
 .obtain⟨_,_,_,_,_,rfl,_⟩:=h;rfl
 .obtain⟨a,t,k,l,al,rfl,rfl,c8,hR⟩:=h;refine#[_,aY,_,eI,_,aY,_,kN,FY c8.sz J7,?_];cases l with
  |nil=>
   refine ifdT (by rw[c8.nil]) (ifT rfl ?_);exact hR
  |cons c l=>
   have lt:=c8.lt;refine ifdF JZ ?_;refine#[_,aY,_,kN,_,aY,_,eI,c,#[FY c8.sz J7,bP c8.get],?_];refine ite2 (λe=>?_) (λe=>?_)
   .have e2:(!(!(Builtin.Str.occurrences al #[[c].toArray] 0 al.length 1).isEmpty))=true:=e;rw[tU]at e2;have nc:c∉cs al:=by simpa using e2
    rw[dA nc,dB nc]at hR;exact hR
   .have e2:¬(!(!(Builtin.Str.occurrences al #[[c].toArray] 0 al.length 1).isEmpty))=true:=e;rw[tU]at e2;have nc:c∈cs al:=by simpa using e2
    rw[eJ nc,eK nc]at hR;refine#[_,aY,_,eI,_,aY,by show(2:Nat)<1000;decide,?_];rw[show mput (RdM a t k) a (.ins "Reading" (putD ("place":Jj) (.int ((k:Int)+1)) (rdF t k)))=RdM a t (k+1)by rw[Bj];exact gZ];refine#[_,aY,_,kN,_,aY,_,eI,c,#[FY c8.sz J7,?_],hR];rw[show((k+1:Nat):Int)-1=(k:Int)by lia];exact bP c8.get
abbrev cF(V:Bx):Prop:=V.Q 2 "Reading" "take" lY Bm
def Ep(T:V.Tm "Reading" "take" "Reading.take" lW lY)(uI:cX V):cF V:=by
 refine Txm.okM T sc_Reading_take (λds M R RX h=>?_) (λf cdv A outer s H E J hr hx=>⟨_,((ai (aD 2 sc_Reading_take.nd (aR (CalMth.one uI) hx hr (ae (aa 0)) (au (ac (aa 1) af))))
   (ai (aT (bj (bD (aa 2) aC)) (ao gY) aO)
   (ao (ay (ae (aa 2))))))),λds M R RX d0 h=>?_⟩)
 .obtain⟨_,_,_,_,_,_,rfl,_⟩:=h;rfl
 .obtain⟨a,t,k,c,l,al,rfl,rfl,c8,hc,hR⟩:=h;refine#[λd M'=>d=.str #[[c].toArray]/\M'=RdM a t (k+1),#[_,FP.mpr rfl,_,aY,cU,a,t,k,_,al,rfl,rfl,c8,by rw[eJ hc,eK hc];exact#[rfl,rfl]],?_];rintro _ _⟨rfl,rfl⟩;k_places;exact hR
abbrev oQ(V:Bx):Prop:=V.MM 3 "line_from" me S_line_from
def Er(T:V.T "line_from" lZ me)(uA:V.m "range")(uP:V.gs "SIGNS" ".123456")(uC:cF V)(uI:cX V):oQ V:=by
 refine Tx.okM T sc_line_from (λds M R RX h=>?_) (λf cdv A outer s H E J hr hx=>⟨_,((ai (aD 3 sc_line_from.nd (ae aC))
   (ai (ky 4 PassesOwn.leaving rfl sc_line_from.nd uA (ae (aa 2)) (ao (aD 3 sc_line_from.nd (fw (ae (aa 3)) (fB (bj (gm (aa 4) (aa 1))) (aR (CalMth.one uC) hx hr (ae (aa 0)) (au (ac (eB uP) af))) (aR (CalMth.one uI) hx hr (ae (aa 0)) (au (ac (eB uP) af))))))))
   (ao (ay (ae (aa 3))))))),λds M R RX d0 h=>?_⟩)
 .obtain⟨_,_,_,_,_,_,_,rfl,_⟩:=h;rfl
 .obtain⟨a,t,k,n,m,x,l,rfl,rfl,c8,hs,hn,hm,RH,j8,hR⟩:=h;refine#[λd M'=>d=.str ""/\M'=RdM a t k,#[rfl,rfl],?_];rintro _ _⟨rfl,rfl⟩;k_places;refine#[#[JZ,JZ],λi z M'=>i<=m/\∃col,z=[be (.ptr a),be (.int n),be (.int m),be (.str #[(x.take i).toArray]),col]/\M'=RdM a t (k+min i x.length),#[Gh _,B_,rfl,by rw[Nat.zero_min];rfl],?_,?_]
  .rintro i d z M' hi⟨RI,col,rfl,rfl⟩;k_places;obtain⟨v4,rfl⟩:=bE hi;have v4:i<m:=by lia
   have b8:=List.length_take_le i x;refine#[λd M'=>d=.str #[(x.take (i+1)).toArray]/\M'=RdM a t (k+min (i+1) x.length),?_,?_]
   .by_cases e8:i<x.length
    .have e1:x.take (i+1)=x.take i++[x[i]]:=List.take_succ_eq_append_getElem e8;have c9:At t (k+i) (x[i]::(x.drop (i+1)++l)):=by
      have:=c8;rw[<-List.take_append_drop i x,Gn,G4 e8]at this;have:=this.app;rw[Hr,G6 JZ]at this;exact this
     have hc:=signs_is.mpr (Bi (hs x[i] (GA e8)));have e2:(#[(x.take i).toArray]:Jj)++#[[x[i]].toArray]=#[(x.take (i+1)).toArray]:=by rw[show(#[[x[i]].toArray]:Jj)=#[[x[i]].toArray]from rfl,fK,e1]
     rw[G6 JZ,G6 JZ];refine ite2 (λ_=>?_) (λ_=>?_)
     .exact#[_,FP.mpr rfl,_,aY,ck,a,t,_,_,_,".123456",rfl,rfl,c9,hc,by rw[eL,show(#[[x[i]].toArray]:Jj).length=1 from rfl];lia,congrArg D.str e2,rfl]
     .refine#[_,FP.mpr rfl,_,aY,cU,a,t,_,_,".123456",rfl,rfl,c9,?_];rw[eJ hc,eK hc];exact#[by rw[eL,show(#[[x[i]].toArray]:Jj).length=1 from rfl];lia,congrArg D.str e2,rfl]
    .obtain⟨c,l',rfl,hc⟩:=j8.resolve_left JZ;have c9:=c8.app;rw[HG JZ,HG JZ,GX JZ,GX JZ];refine ite2 (λc=>absurd (of_decide_eq_true c) JZ) (λ_=>?_);refine#[_,FP.mpr rfl,_,aY,cU,a,t,_,_,".123456",rfl,rfl,c9,?_];rw[dA (tV hc),dB (tV hc)];refine#[by rw[eL,show("":Jj).length=0 from rfl];lia,?_,rfl];rw[show("":Jj)=#[([]:List Nat).toArray]from rfl,fK,Gk]
   .rintro _ _⟨rfl,rfl⟩;k_places;exact#[v4,_,rfl,trivial]
  .intro z M' hz;rw[bB,GR]at hz;obtain⟨_,col,rfl,rfl⟩:=hz;rw[GX hm,HG hm];exact hR
abbrev oR(V:Bx):Prop:=V.MM 4 "lines_from" mh Bs
def Es(T:V.T "lines_from" mf mh)(uB:V.m "len")(Mm:oQ V)(Mn:V.gi "LONGEST" 8)(uI:cX V):oR V:=by
 refine Tx.okM T sc_lines_from (λds M R RX h=>?_) (λf cdv A outer s H E J hr hx=>⟨_,((ai (aD 1 sc_lines_from.nd (du (av (aJ (CalMM.frame Mm) hx hr (au (ac (aa 0) (ac ad (ac (eA Mn) af))))) aU)))
   (ai (aD 2 sc_lines_from.nd (sK uB (av (cQ (ae (aa 1)) (ae ad)) aU)))
   (ai (zO PassesOwn.leaving (mt_w (zv (sI (kz uB (ae (aa 1))) (ae (eA Mn))) (zu (fz (aR (CalMth.one (CalMth.frame uI)) hx hr (ae (aa 0)) (au (ac aC af))) (ae aC))))) (ao (bq (fC (ae (aa 1)) (aJ (CalMM.frame Mm) hx hr (au (ac (aa 0) (ac (aa 2) (ac (aa 2) af)))))))))
   (gW 1 (ao (ay (ae (aa 1))))))))),λds M R RX d0 h=>?_⟩)
 .obtain⟨_,_,_,_,_,_,rfl,_⟩:=h;rfl
 .obtain⟨a,t,k,L,w,l,rfl,rfl,hL,c8,hR⟩:=h;have hw:=hL.w1;have Q1:=hL.w8;have z_:=hL.many;cases L with
  |nil=>exact absurd z_.1 J7
  |cons x L=>
   obtain⟨JI,m_⟩:=hL.each x FZ;rw[tT]at c8 hR;rw[Gn]at c8;rw[FV]at z_;have stop:∀N:List (List Nat),∃c l',rowsT N++59::l=c::l'/\isSg c=false:=λN=>by
    cases N with
    |nil=>exact#[59,l,rfl,rfl]
    |cons y N=>exact#[47,_,rfl,rfl]
   refine#[λd M'=>∃p,p≠a/\d=.ptr p/\M'=(p,.lst [.str #[x.toArray]])::RdM a t (k+x.length),#[[],RdM a t k,rfl,a,t,k,1,8,x,_,rfl,rfl,c8,m_,JZ,JZ,J7,.inr (stop L),by show 1<=1000;decide,λp hp=>#[p,λe=>hp (by rw[e];exact FP.mpr rfl),rfl,rfl]],?_];rintro _ _⟨p,Q2,rfl,rfl⟩;k_places;refine#[λd M'=>d=.int w/\M'=(p,.lst [.str #[x.toArray]])::RdM a t (k+x.length),#[_,bR,_,rfl,by rw[eL];lia,by rw[eL,JI],rfl],?_];rintro _ _⟨rfl,rfl⟩;k_places;refine#[λm z M'=>∃L1 L2 k',L=L1++L2/\m=L2.length/\At t k' (rowsT L2++59::l)/\k'+(rowsT L2).length=k+(x++rowsT L).length/\z=[be (.ptr a),be (.ptr p),be (.int w)]/\M'=(p,.lst (lstD (x::L1)))::RdM a t k',#[_,[],L,_,rfl,rfl,c8.app,by rw[F9];lia,rfl,rfl],?_];rintro m z M'⟨L1,L2,k',rfl,rfl,i9,hk,rfl,rfl⟩;k_places;rw[F9]at z_;have Ly:(lstD (x::L1)).length=L1.length+1:=by simp[lstD]
   have done:L2=[]->R (.lst (lstD (x::L1))) (RdM a t k'):=λe=>by
    subst e;rw[show k'=k+(x++rowsT (L1++[])).length from hk,show lstD (x::L1)=lstD (x::(L1++[]))by rw[Gk]];exact hR
   refine#[_,bR,?_];rw[Ly];refine ite2 (λc=>?_) (λc=>?_)
   .refine#[_,FP.mpr rfl,_,Br Q2,cU,[(p,_)],RdM a t _,rfl,a,t,_,_,"/",rfl,rfl,i9,?_];cases L2 with
    |nil=>
     rw[show rowsT []++59::l=59::l from rfl,dA J7,dB J7];refine#[_,bR,?_];rw[show mdel ([(p,MO.lst (lstD (x::L1)))]++RdM a t (k'+0)) p=RdM a t k' from hU];exact done rfl
    |cons y N=>
     have e1:rowsT (y::N)++59::l=47::(y++(rowsT N++59::l)):=by simp[rowsT]
     have Ps:(47:Nat)∈cs "/":=J7
     rw[e1]at i9 ⊢;rw[eJ Ps,eK Ps];obtain⟨Q3,Ki⟩:=hL.each y (FW _ (Ge _ FZ));have o_:=i9.next;refine#[#[_,bR],[(p,_)],RdM a t _,rfl,a,t,_,w,w,y,_,rfl,rfl,o_,Ki,JZ,JZ,Q1,.inl Q3,?_];refine#[_,bR,by rw[Ly];lia,N.length,by rw[FV];lia,L1++[y],N,_,J8,rfl,o_.app,?_,rfl,?_]
     .rw[<-hk];simp[rowsT];lia
     .show mput ((p,MO.lst (lstD (x::L1)))::RdM a t _) p _=_;rw[kO];simp[lstD]
   .have c':L1.length+1=8:=by
     have:¬((L1.length+1:Nat):Int)<8:=λz=>c (decide_eq_true z);lia
    refine#[_,bR,?_];rw[hU];exact done (GZ JZ)
abbrev oS(V:Bx):Prop:=V.MM 3 "number_from" mj Bp
def Et(T:V.T "number_from" mi mj)(uK:V.m "int")(uI:cX V)(uC:cF V):oS V:=by
  refine Tx.okM T sc_number_from (λds M R RX h=>?_) (λf cdv A outer s H E J hr hx=>⟨_,((ai (aT (fz (aR (CalMth.one uI) hx hr (ae (aa 0)) (au (ac aC af))) (ae aC)) (ao (ay (ae ad))) aO)
      (ai (aD 1 sc_number_from.nd (fw (aR (CalMth.one uI) hx hr (ae (aa 0)) (au (ac aC af))) (aR (CalMth.one uC) hx hr (ae (aa 0)) (au (ac aC af)))))
      (ai (gU (bj (cI (zo (aa 1) (ac aC af)))) (ao (aD 1 sc_number_from.nd (fw (ae (aa 1)) (aR (CalMth.one uI) hx hr (ae (aa 0)) (au (ac aC af)))))) aO)
      (ao (ay (ae (ke uK (ac (aa 1) af))))))))),λds M R RX d0 h=>?_⟩)
  . obtain⟨_,_,_,_,_,_,rfl,_⟩:=h;rfl
  . obtain⟨a,t,k,x,e,l,rfl,rfl,e8,he,c8,hR⟩:=h;have hi:=Bn e8;have hl:=cf e8;rw[<-br]at hl;change (numL x).length<=3 at hl;refine#[_,FP.mpr rfl,_,aY,cU,a,t,k,_,"0",rfl,rfl,c8,?_];rcases numS e8 with e0|⟨pre,c,y,hp,hc,ev,hy⟩
    . rw[e0]at hR hi ⊢;have e1:x=0:=Option.some.inj (hi.symm.trans J3);subst e1;have e2:(48:Nat)∈cs "0":=by decide
      rw[show([48]++e::l:List Nat)=48::e::l from rfl,eJ e2,eK e2];exact hR
    rw[ev]at c8 hR hi hl ⊢;have h0:mayS "0" (pre++c::y++e::l)=""/\mayN "0" (pre++c::y++e::l)=0:=by
      have n:c∉cs "0":=λq=>by have:=FP.mp q;lia
      rcases hp with rfl|rfl
      . exact#[dA n,dB n]
      . exact#[dA J7,dB J7]
    have hm:mayS "-" (pre++c::y++e::l)=#[pre.toArray]/\mayN "-" (pre++c::y++e::l)=pre.length:=by
      have n:c∉cs "-":=λq=>by have:=FP.mp q;lia
      rcases hp with rfl|rfl
      . exact#[dA n,dB n]
      . exact#[rfl,rfl]
    rw[h0.1,h0.2];have c9:At t (k+pre.length) (c::(y++e::l)):=by rw[Gn]at c8;exact c8.app
    have i9:=c9.next;refine#[λd M'=>d=.str #[(pre++[c]).toArray]/\M'=RdM a t (k+pre.length+1),?_,?_]
    . refine#[_,FP.mpr rfl,_,aY,cU,a,t,k,_,"-",rfl,rfl,c8,?_];rw[hm.1,hm.2];refine#[_,FP.mpr rfl,_,aY,ck,a,t,k+pre.length,c,_,"123456789",rfl,rfl,c9,digits19.mpr hc,?_,?_,rfl]
      . rcases hp with rfl|rfl<;>simp[Str.length]
      . rw[show(#[[c].toArray]:Jj)=#[[c].toArray]from rfl,fK]
    . rintro _ _⟨rfl,rfl⟩;k_places;refine#[λz M'=>z=[be (.ptr a),be (.str #[(pre++c::y).toArray])]/\M'=RdM a t (k+(pre++c::y).length),?_,?_]
      . show if Txt.endswith #[(pre++[c]).toArray] "1"=true then _ else _
        rw[Bo];refine ite2 (λz=>?_) (λz=>?_)
        . obtain⟨e1,e2,e3⟩:(⟨(pre++[c]).toArray⟩:Jj)++mayS "012" (y++e::l)=⟨(pre++c::y).toArray⟩/\mayN "012" (y++e::l)=y.length/\(mayS "012" (y++e::l)).length<=1:=by
            rcases hy with rfl|⟨_,d,hd,rfl⟩
            . have n:e∉cs "012":=λq=>by have:=digits02.mp q;unfold endS at he;lia
              rw[Jg,dA n,dB n];refine#[?_,rfl,J7];rw[show("":Jj)=#[([]:List Nat).toArray]from rfl,fK];simp
            . rw[show([d]++e::l:List Nat)=d::e::l from rfl,eJ (digits02.mpr hd),eK (digits02.mpr hd)];refine#[?_,rfl,FR 1];rw[show(#[[d].toArray]:Jj)=#[[d].toArray]from rfl,fK];simp
          refine#[λv M'=>v=.str #[(pre++c::y).toArray]/\M'=RdM a t (k+(pre++c::y).length),#[_,FP.mpr rfl,_,aY,cU,a,t,_,_,"012",rfl,rfl,i9,?_],?_]
          . refine#[?_,congrArg D.str e1,?_]
            . rcases hp with rfl|rfl<;>simp[Str.length]at e3 ⊢<;>lia
            . rw[e2];congr 1;simp;lia
          . rintro _ _⟨rfl,rfl⟩;k_places;exact#[rfl,trivial]
        . have MF:y=[]:=hy.resolve_right λq=>z (decide_eq_true q.1);subst MF;exact#[rfl,by rw[F9];rfl]
      . rintro _ _⟨rfl,rfl⟩;k_places;exact#[x,#[hi,by show(pre++c::y).length<=640;lia],hR]
abbrev fU(V:Bx):Prop:=V.MM 4 "shift_from" mn Bq
def Eu(T:V.T "shift_from" ml mn)(Mo:oS V)(uC:cF V):fU V:=by
 refine Tx.okM T sc_shift_from (λds M R RX h=>?_) (λf cdv A outer s H E J hr hx=>⟨_,((ai (aD 1 sc_shift_from.nd (aJ Mo hx hr (au (ac (aa 0) af))))
   (ai (bq (aR (CalMth.one uC) hx hr (ae (aa 0)) (au (ac aC af))))
   (ao (ay (sJ (av (ae (aa 1)) (av (aJ Mo hx hr (au (ac (aa 0) af))) aU)))))))),λds M R RX d0 h=>?_⟩)
 .obtain⟨_,_,_,_,_,_,_,rfl,_⟩:=h;rfl
 .obtain⟨a,t,k,x,y,e,l,rfl,rfl,e8,hy,he,c8,hR⟩:=h;refine#[λd M'=>d=.int x/\M'=RdM a t (k+(numL x).length),#[a,t,k,x,44,_,rfl,rfl,e8,.inl rfl,c8,rfl,rfl],?_];rintro _ _⟨rfl,rfl⟩;k_places;have c9:=c8.app;exact#[_,FP.mpr rfl,_,aY,ck,a,t,_,44,_,",",rfl,rfl,c9,J7,a,t,_,y,e,l,rfl,rfl,hy,he,c9.next,J8,hR]
abbrev jc(V:Bx):Prop:=V.D 1 "levelled" ms AJ
def Ev(T:V.T "levelled" mo ms):jc V:=by
 refine Tx.okDW T sc_levelled (λds R h=>?_) (λf cdv A outer s H E J hr=>⟨_,((aq (ym PassesOwn.never (cr (ah (aa 1) ad) ad) (aq (aA 2 sc_levelled.nd (xQ (ah (aa 0) ad) (ah (aa 1) ad)))
    (aq (aA 3 sc_levelled.nd (aN (ac (bw (ah (aa 0) ad) (aL (aa 2) (ah (aa 1) ad))) (ac (bw (ah (aa 0) ad) (aL (aa 2) (ah (aa 1) ad))) af))))
    (aq (aA 0 sc_levelled.nd (aa 1))
    (ar (aA 1 sc_levelled.nd (aa 3)))))))
   (aq (rK (gm (ah (aa 0) ad) ad) (ar (aA 0 sc_levelled.nd (aN (ac (cq (ah (aa 0) ad)) (ac (cq (ah (aa 0) ad)) af))))) bz)
   (ar (aE (aN (ac (aa 0) (ac (aa 1) af)))))))),λds R h=>?_⟩)
 .obtain⟨a,b,c,d,rfl,_⟩:=h;rfl
 .obtain⟨a,b,c,d,rfl,hb,hd,hR⟩:=h;refine#[λm z=>∃(f0 f1 s0 s1:Int) (t r:Option D),z=[be (.tup [.int f0,.int f1]),be (.tup [.int s0,.int s1]),t,r]/\Uni a b c d f0 f1 s0 s1/\f1.natAbs<4611686018427387904/\s1.natAbs<4611686018427387904/\m=s1.natAbs,#[_,a,b,c,d,B_,B_,rfl,Uni.refl a b c d,hb,hd,rfl],?_];rintro m z⟨f0,f1,s0,s1,t,r,rfl,hu,hf,hs,rfl⟩;k_places;refine#[_,rfl,ite2 (λcc=>?_) (λcc=>?_)]
  .have c':¬s1=0:=by simpa using cc
   obtain⟨g1,g2⟩:=fdm f1 s1 c';refine#[λd=>d=.int (f1.fdiv s1),#[_,rfl,_,rfl,#[c',hs],rfl],?_];rintro _ rfl;k_places;refine#[λd=>d=.tup [.int (f0-f1.fdiv s1*s0),.int (f1-f1.fdiv s1*s1)],#[_,rfl,_,rfl,.inl #[JZ,JZ],_,rfl,_,rfl,.inl #[JZ,JZ],J8,rfl],?_];rintro _ rfl;k_places;refine#[λd=>d=.tup [.int s0,.int s1],rfl,?_];rintro _ rfl;k_places;refine#[λd=>d=.tup [.int (f0-f1.fdiv s1*s0),.int (f1-f1.fdiv s1*s1)],rfl,?_];rintro _ rfl;k_places;exact#[_,g1,s0,s1,_,_,_,_,rfl,hu.step _,hs,JZ,rfl]
  .have c':s1=0:=by simpa using cc
   subst c';refine#[λz=>∃p0 p1:Int,z=[be (.tup [.int p0,.int p1]),be (.tup [.int s0,.int 0]),t,r]/\Lev a b c d p0 p1 s0,#[_,rfl,ite2 (λe=>?_) (λe=>?_)],?_]
   .have e':=of_decide_eq_true e;refine#[λd=>d=.tup [.int (-f0),.int (-f1)],#[_,rfl,_,rfl,J8,rfl],?_];rintro _ rfl;k_places;exact#[_,_,rfl,JZ,hu.neg]
   .have e':=of_decide_eq_false (G7.mpr e);exact#[_,_,rfl,JZ,hu]
   .rintro _⟨p0,p1,rfl,hL⟩;k_places;exact#[J8,hR p0 p1 s0 hL]
abbrev jd(V:Bx):Prop:=V.D 2 "spread" mw AK
def Ew(T:V.T "spread" mv mw)(Kl:V.m "abs")(KJ:jc V):jd V:=by
 refine Tx.okDW T sc_spread (λds R h=>?_) (λf cdv A outer s H E J hr=>⟨_,((aq (bK (bD (aL (ah (aa 0) ad) (ah (aa 1) ad)) (aL (ah (aa 0) ad) (ah (aa 1) ad))) (ar (aE bH)) bz)
   (aq (aA 2 sc_spread.nd (aI KJ hr (ac (aa 0) (ac (aa 1) af))))
   (aq (aA 3 sc_spread.nd (jY Kl (ac (ah (ah (aa 2) ad) ad) af)))
   (ar (aE (aN (ac (aa 3) (ac (ah (ah (aa 2) ad) ad) (ac (aH (ah (ah (aa 2) ad) ad) (aa 3)) af)))))))))),λds R h=>?_⟩)
 .obtain⟨a,b,c,d,rfl,_⟩:=h;rfl
 .obtain⟨a,b,c,d,rfl,ha,hb,hc,hd,hN,hR⟩:=h;refine#[_,rfl,_,rfl,.inl #[JZ,JZ],_,rfl,_,rfl,.inl #[JZ,JZ],ite2 (λe=>?_) (λe=>?_)]
  .exact hN (of_decide_eq_true e)
  .have e':=of_decide_eq_false (G7.mpr e);refine#[λx=>∃p0 p1 q0:Int,x=.tup [.tup [.int p0,.int p1],.tup [.int q0,.int 0]]/\Lev a b c d p0 p1 q0,#[a,b,c,d,rfl,hb,hd,λp0 p1 q0 hL=>#[p0,p1,q0,rfl,hL]],?_];rintro _⟨p0,p1,q0,rfl,hL⟩;k_places;have hF:=gX e' hL;refine#[λx=>x=.int (if q0<0 then -q0 else q0),#[_,rfl,_,rfl,rfl],?_];rintro _ rfl;k_places;exact#[_,rfl,_,rfl,_,rfl,_,rfl,hF.1,J8,hR e' _ _ _ hF]
abbrev oU(V:Bx):Prop:=V.MM 2 "hues_by_home" my By
def Ey(T:V.T "hues_by_home" mx my)(Ko:V.m "enumerate")(uZ:eX V)(uP:V.gs "SIGNS" ".123456"):oU V:=by
 refine Tx.okM T sc_hues_by_home (λds M R RX h=>?_) (λf cdv A outer s H E J hr hx=>⟨_,((ai (aD 2 sc_hues_by_home.nd Af)
   (ai (zW PassesOwn.leaving rfl Ko (ae (aa 0)) (dg_cons 3 sc_hues_by_home.nd (dg_cons 4 sc_hues_by_home.nd df)) (ao (zX PassesOwn.leaving rfl Ko (ae (aa 4)) (dg_cons 5 sc_hues_by_home.nd (dg_cons 6 sc_hues_by_home.nd df)) (ao (gU (bj (cr (aa 6) aC)) (ao (bq (Ai (dQ hr) (ae (aa 2)) (au (ac (aI uZ hr (ac (aa 1) (ac (aa 5) (ac (aa 3) af)))) (ac (sG (eB uP) (ac (aa 6) af)) af)))))) aO)))))
   (gW 2 (ao (ay (ae (aa 2)))))))),λds M R RX d0 h=>?_⟩)
 .obtain⟨_,_,_,_,_,rfl,_⟩:=h;rfl
 .obtain⟨L,wd,w,h,s,rfl,hL,hw,hh,JK,hs,l8,hR⟩:=h;have QX:=hL.w8;refine#[λd M'=>∃p,p∉am M/\d=.ptr p/\M'=(p,.dti [])::M,λp hp=>#[p,hp,rfl,rfl],?_];rintro _ _⟨p,hp,rfl,rfl⟩;k_places;refine#[λj z M'=>∃(kv:List ((Int×Int)×Int)) (x3 x4 x5 x6:Option D),hAll w h s j (L.drop j) kv=hAll w h s 0 L []/\kv.length<=8*j/\z=[be (.lst (lstD L)),be (.tup [.int w,.int h,.int s]),be (.ptr p),x3,x4,x5,x6]/\M'=(p,.dti kv)::M,#[[],B_,B_,B_,B_,rfl,J8,rfl,rfl],?_,?_]
  .rintro j d z M' hd⟨kv,x3,x4,x5,x6,e1,Q4,rfl,rfl⟩;k_places;obtain⟨x,e8,rfl⟩:=Bv hd;have hj:j<L.length:=(F7.mp e8).1;have RJ:=hL.many;obtain⟨xl,xs⟩:=hL.each x (GS e8);rw[tX e8]at e1;refine#[Bu xs,λi z M'=>∃(JC:List ((Int×Int)×Int)) (x5 x6:Option D),hRow w h s j i (x.drop i) JC=hRow w h s j 0 x kv/\JC.length<=8*j+i/\i<=x.length/\z=[be (.lst (lstD L)),be (.tup [.int w,.int h,.int s]),be (.ptr p),be (.int j),be (.str #[x.toArray]),x5,x6]/\M'=(p,.dti JC)::M,#[kv,x5,x6,rfl,JZ,Gh _,rfl,rfl],?_,?_]
   .rintro i d z M' Ks⟨JC,y5,y6,e2,N4,hi,rfl,rfl⟩;k_places;obtain⟨c,hc,rfl⟩:=Bw Ks;have v4:i<x.length:=(F7.mp hc).1;have sc:=xs c (GS hc);rw[tX hc,hRow]at e2;refine#[λz M'=>∃Lz:List ((Int×Int)×Int),hRow w h s j (i+1) (x.drop (i+1)) Lz=hRow w h s j 0 x kv/\Lz.length<=8*j+(i+1)/\z=[be (.lst (lstD L)),be (.tup [.int w,.int h,.int s]),be (.ptr p),be (.int j),be (.str #[x.toArray]),be (.int i),be (.str #[[c].toArray])]/\M'=(p,.dti Lz)::M,?_,?_]
    .show if(!decide ((#[[c].toArray]:Jj)="."))=true then _ else _;by_cases v3:c=46
     .subst v3;rw[if_pos rfl]at e2;exact#[JC,e2,JZ,rfl,rfl]
     .rw[if_neg v3]at e2;refine ifT (by simp[one_sign,v3]) ?_;have c6:49<=c/\c<=54:=by unfold bb at sc;lia
      obtain⟨ix,rest,ho,M0⟩:=Bt c6;refine#[#[_,bR],w,h,s,i,j,rfl,hw,hh,JK,hs,l8,ix,rest,ho,_,bR,by have:=tW JC (hmX w h s i j) ((j:Int)%h) ((c:Int)-48);lia,λv=>?_];rw[kO,M0];exact#[_,e2,by have:=tW JC (hmX w h s i j) ((j:Int)%h) ((c:Int)-48);lia,rfl,rfl]
    .rintro z M'⟨Lz,e3,h3,rfl,rfl⟩;k_places;exact#[Lz,_,_,e3,h3,v4,rfl,rfl]
   .rintro z M' hz;rw[eD,eL]at hz;obtain⟨JC,y5,y6,e2,N4,hi,rfl,rfl⟩:=hz;rw[Jh]at e2;refine#[JC,_,_,_,_,?_,JZ,rfl,rfl];rw[<-e1,hAll,<-e2];rfl
  .rintro z M' hz;rw[show(lstD L).length=L.length by simp[lstD]]at hz;obtain⟨kv,x3,x4,x5,x6,e1,Q4,rfl,rfl⟩:=hz;rw[Jh]at e1;refine#[_,bR,?_];rw[hU];have e2:kv=hAll w h s 0 L []:=e1;rw[<-e2]at hR;exact hR
abbrev oV(V:Bx):Prop:=V.M 3 "Motif" mB Bz
def Ez(T:V.Ti "Motif" "Motif.__init__" mz mB)(KL:jd V)(N5:oU V)(N6:V.a "Motif" "place")(uM:V.a "Motif" "shifts")(JN:V.a "Motif" "hues"):oV V:=by
 refine Txi.okIM T C5 (λds R h=>?_) (λf cdv A outer s H E J hr hx=>⟨_,((ai (bL N6 (ae (aa 0)) (ae (aa 1)))
   (ai (bL uM (ae (aa 0)) (ae (aI KL hr (ac (aa 3) (ac (aa 4) af)))))
   (ao (bL JN (ae (aa 0)) (fB (gM (az uM (ae (aa 0))) (ae bH)) Ae (aJ N5 hx hr (av (ae (aa 2)) (av (az uM (ae (aa 0))) aU))))))))),λa ds R Kt h=>?_⟩)
 .obtain⟨_,_,_,_,_,_,_,rfl,_⟩:=h;rfl
 .obtain⟨k,L,wd,x,y,u,v,rfl,hL,e8,hy,hu,hv,hn,h1⟩:=h;unfold B12 at e8 hy hu hv;refine#[_,dz,by show(0:Nat)<1000;decide,?_];rw[gZ,BA];refine#[x,y,u,v,rfl,JZ,JZ,JZ,JZ,λe=>absurd e hn,λe w h s F=>?_];refine#[_,dz,Rq,?_];rw[gZ,BB];refine#[_,dz,_,tY,?_];obtain⟨b1,b2,b3⟩:=F.bd (N:=288) (by
   have m1:=ce (a:=x) (d:=v) (A:=12) (B:=12) JZ JZ;have m2:=ce (a:=y) (d:=u) (A:=12) (B:=12) JZ JZ;lia)
  refine#[_,dz,_,tY,L,wd,w,h,s,rfl,hL,F.1,F.2.1,JZ,F.2.2.1,JZ,?_];refine#[_,dz,by show(2:Nat)<1000;decide,?_];rw[gZ,BC];exact#[_,rfl,h1 w h s F]
abbrev je(V:Bx):Prop:=V.MM 5 "motif_from" mD BJ
def EA(T:V.T "motif_from" mC mD)(N7:oR V)(JD:fU V)(uL:V.a "Reading" "place")(N8:oV V)(uC:cF V):je V:=by
 refine Tx.okM T sc_motif_from (λds M R RX h=>?_) (λf cdv A outer s H E J hr hx=>⟨_,((ai (aD 1 sc_motif_from.nd (az uL (ae (aa 0))))
   (ai (bq (aR (CalMth.one uC) hx hr (ae (aa 0)) (au (ac aC af))))
   (ai (aD 2 sc_motif_from.nd (aJ N7 hx hr (au (ac (aa 0) af))))
   (ai (bq (aR (CalMth.one uC) hx hr (ae (aa 0)) (au (ac aC af))))
   (ai (aD 3 sc_motif_from.nd (aJ JD hx hr (au (ac (aa 0) af))))
   (ai (bq (aR (CalMth.one uC) hx hr (ae (aa 0)) (au (ac aC af))))
   (ai (aD 4 sc_motif_from.nd (aJ JD hx hr (au (ac (aa 0) af))))
   (ai (bq (aR (CalMth.one uC) hx hr (ae (aa 0)) (au (ac aC af))))
   (ao (ay (ae (km N8 hr (ac (aa 1) (ac (aa 2) (ac (aa 3) (ac (aa 4) af))))))))))))))))),λds M R RX d0 h=>?_⟩)
 .obtain⟨_,_,_,_,_,_,_,_,_,rfl,_⟩:=h;rfl
 .obtain⟨g,t,k,L,a,b,c,d,l,rfl,rfl,c8,⟨LA,ha,hb,hc,hd,hn⟩,hR⟩:=h;obtain⟨w,hL⟩:=BI LA;have c8:At t k (91::(rowsL (L.map cs)++59::(numL a++44::(numL b++59::(numL c++44::(numL d++93::l)))))):=by simpa[motL]using c8
  have b8:k+(motL (L.map cs) a b c d).length=k+1+(rowsL (L.map cs)).length+1+(numL a).length+1+(numL b).length+1+(numL c).length+1+(numL d).length+1:=by simp[motL];lia
  rw[b8]at hR;have c9:=c8.next;have i9:=c9.app;have o_:=i9.next;have LB:At t (k+1+(rowsL (L.map cs)).length+1+(numL a).length+1+(numL b).length) _:=o_.app.next.app;have LC:=LB.next;have N9:At t (k+1+(rowsL (L.map cs)).length+1+(numL a).length+1+(numL b).length+1+(numL c).length+1+(numL d).length) _:=LC.app.next.app;refine#[λv M'=>v=.int k/\M'=RdM g t k,#[_,aY,_,eI,rfl,rfl],?_];rintro _ _⟨rfl,rfl⟩;k_places;refine#[_,FP.mpr rfl,_,aY,ck,g,t,_,91,_,"[",rfl,rfl,c8,J7,?_];refine#[λv M'=>v=.lst (lstD (L.map cs))/\M'=RdM g t (k+1+(rowsL (L.map cs)).length),#[g,t,_,_,w,_,rfl,rfl,hL,c9,rfl,rfl],?_];rintro _ _⟨rfl,rfl⟩;k_places;refine#[_,FP.mpr rfl,_,aY,ck,g,t,_,59,_,";",rfl,rfl,i9,J7,?_];refine#[λv M'=>v=.tup [.int a,.int b]/\M'=RdM g t (k+1+(rowsL (L.map cs)).length+1+(numL a).length+1+(numL b).length),#[g,t,_,a,b,59,_,rfl,rfl,ha,hb,.inr (.inl rfl),o_,rfl,rfl],?_];rintro _ _⟨rfl,rfl⟩;k_places;refine#[_,FP.mpr rfl,_,aY,ck,g,t,_,59,_,";",rfl,rfl,LB,J7,?_];refine#[λv M'=>v=.tup [.int c,.int d]/\M'=RdM g t (k+1+(rowsL (L.map cs)).length+1+(numL a).length+1+(numL b).length+1+(numL c).length+1+(numL d).length),#[g,t,_,c,d,93,_,rfl,rfl,hc,hd,.inr (.inr (.inr rfl)),LC,rfl,rfl],?_];rintro _ _⟨rfl,rfl⟩;k_places;exact#[_,FP.mpr rfl,_,aY,ck,g,t,_,93,_,"]",rfl,rfl,N9,J7,k,_,w,a,b,c,d,rfl,hL,ha,hb,hc,hd,hn,λw h s F=>hR _ #[k,w,h,s,rfl,F]]
abbrev jg(V:Bx):Prop:=V.M 1 "Mirror" mG BF
def EB(T:V.Ti "Mirror" "Mirror.__init__" mF mG)(uR:V.a "Mirror" "form"):jg V:=by
 refine Txi.okI T C6 (λds R h=>?_) (λf cdv A outer s H E J hr=>#[_,((bI uR (aa 1) dg)),λds R h=>?_])
 .obtain⟨_,_,rfl,_⟩:=h;rfl
 .obtain⟨x,fs,rfl,hR⟩:=h;exact#[J7,hR]
abbrev jh(V:Bx):Prop:=V.M 1 "Turn" mI BG
def EC(T:V.Ti "Turn" "Turn.__init__" mH mI)(uT:V.a "Turn" "form"):jh V:=by
 refine Txi.okI T C7 (λds R h=>?_) (λf cdv A outer s H E J hr=>#[_,((bI uT (aa 1) dg)),λds R h=>?_])
 .obtain⟨_,_,rfl,_⟩:=h;rfl
 .obtain⟨x,fs,rfl,hR⟩:=h;exact#[J7,hR]
abbrev ji(V:Bx):Prop:=V.M 1 "Over" mK BD
def EE(T:V.Ti "Over" "Over.__init__" mJ mK)(uW:V.a "Over" "above")(uV:V.a "Over" "below"):ji V:=by
 refine Txi.okI T C8 (λds R h=>?_) (λf cdv A outer s H E J hr=>#[_,((bI uW (aa 1) (bI uV (aa 2) dg))),λds R h=>?_])
 .obtain⟨_,_,_,_,rfl,_⟩:=h;rfl
 .obtain⟨x,y,fs,gs,rfl,hR⟩:=h;refine#[J7,Rq,?_];show R (putD _ _ (putD _ _ []));rw[putD,putD,if_neg J3];exact hR
abbrev jj(V:Bx):Prop:=V.M 1 "Shifted" mM BE
def EF(T:V.Ti "Shifted" "Shifted.__init__" mL mM)(uU:V.a "Shifted" "form")(JP:V.a "Shifted" "x")(JO:V.a "Shifted" "y"):jj V:=by
 refine Txi.okI T C9 (λds R h=>?_) (λf cdv A outer s H E J hr=>#[_,((bI uU (aa 1) (bI JP (aa 2) (bI JO (aa 3) dg)))),λds R h=>?_])
 .obtain⟨_,_,_,_,rfl,_⟩:=h;rfl
 .obtain⟨x,fs,a,b,rfl,hR⟩:=h;refine#[J7,Rq,by show(2:Nat)<1000;decide,?_];show R (putD _ _ (putD _ _ (putD _ _ [])));rw[show putD ("x":Jj) (.int a) (putD ("form":Jj) (.obj x fs) [])=([("form",.obj x fs),("x",.int a)]:List (Jj×D))by rw[putD,putD,if_neg J3];rfl,putD,if_neg J3,putD,if_neg J3];exact hR
abbrev jk(V:Bx):Prop:=V.M 1 "Rehue" mQ BH
def EG(T:V.Ti "Rehue" "Rehue.__init__" mN mQ)(uS:V.a "Rehue" "form")(JQ:V.a "Rehue" "old")(JR:V.a "Rehue" "new"):jk V:=by
 refine Txi.okI T Da (λds R h=>?_) (λf cdv A outer s H E J hr=>#[_,((bI uS (aa 1) (bI JQ (aa 2) (bI JR (aa 3) dg)))),λds R h=>?_])
 .obtain⟨_,_,_,_,rfl,_⟩:=h;rfl
 .obtain⟨x,fs,a,b,rfl,hR⟩:=h;refine#[J7,Rq,by show(2:Nat)<1000;decide,?_];show R (putD _ _ (putD _ _ (putD _ _ [])));rw[show putD ("old":Jj) (.int a) (putD ("form":Jj) (.obj x fs) [])=([("form",.obj x fs),("old",.int a)]:List (Jj×D))by rw[putD,putD,if_neg J3];rfl,putD,if_neg J3,putD,if_neg J3];exact hR
def EH(hL:5<=n)(T:V.T "over_from" iz fO)(uJ:V.MM n "form_from" cD (cV j))(LD:ji V)(uC:cF V):V.MM (n+1) "over_from" fO (ub j):=by
 refine Tx.okM T sc_over_from (λds M R RX h=>?_) (λf cdv A outer s H E J hr hx=>⟨_,((ai (aD 2 sc_over_from.nd (aJ (hn:=KK) uJ hx hr (au (ac (aa 0) (ac (aa 1) af)))))
   (ai (bq (aR (hn:=KK) (CalMth.one uC) hx hr (ae (aa 0)) (au (ac aC af))))
   (ai (aD 3 sc_over_from.nd (aJ (hn:=KK) uJ hx hr (au (ac (aa 0) (ac (aa 1) af)))))
   (ai (bq (aR (hn:=KK) (CalMth.one uC) hx hr (ae (aa 0)) (au (ac aC af))))
   (ao (ay (ae (km (hn:=KK) LD hr (ac (aa 2) (ac (aa 3) af))))))))))),λds M R RX d0 h=>?_⟩)
 .obtain⟨_,_,_,_,_,_,_,rfl,_⟩:=h;rfl
 .obtain⟨a,t,k,p,q,l,d,rfl,rfl,c8,Kp,Kq,hp,hq,v7,Q5,hR⟩:=h;have c9:=c8.app;have i9:=c9.next;have o_:=i9.app;refine#[λv M'=>FormOf p v/\M'=RdM a t (k+p.tl.length),#[a,t,k,p,_,d,rfl,rfl,c8,Kp,Kq,hp,v7,λv h=>#[h,rfl]],?_];rintro v _⟨hv,rfl⟩;k_places;obtain⟨fs,rfl,_⟩:=hv.objm;refine#[_,FP.mpr rfl,_,aY,ck,a,t,_,124,_,"|",rfl,rfl,c9,J7,?_];refine#[λv M'=>FormOf q v/\M'=RdM a t (k+p.tl.length+1+q.tl.length),#[a,t,_,q,_,d,rfl,rfl,i9,Kp,Kq,hq,Q5,λv h=>#[h,rfl]],?_];rintro v _⟨Pt,rfl⟩;k_places;obtain⟨gs,rfl,_⟩:=Pt.objm;exact#[_,FP.mpr rfl,_,aY,ck,a,t,_,41,_,")",rfl,rfl,o_,J7,_,_,_,_,rfl,hR _ _ hv Pt]
def EI(hL:5<=n)(T:V.T "shifted_from" iA fP)(JD:fU V)(uJ:V.MM n "form_from" cD (cV j))(LF:jj V)(uC:cF V):V.MM (n+1) "shifted_from" fP (uc j):=by
 refine Tx.okM T sc_shifted_from (λds M R RX h=>?_) (λf cdv A outer s H E J hr hx=>⟨_,((ai (aD 2 sc_shifted_from.nd (aJ (hn:=KK) JD hx hr (au (ac (aa 0) af))))
   (ai (bq (aR (hn:=KK) (CalMth.one uC) hx hr (ae (aa 0)) (au (ac aC af))))
   (ao (ay (gR (hn:=KK) LF hr (av (aJ (hn:=KK) uJ hx hr (au (ac (aa 0) (ac (aa 1) af)))) (av (ae (ah (aa 2) ad)) (av (ae (ah (aa 2) ad)) aU))))))))),λds M R RX d0 h=>?_⟩)
 .obtain⟨_,_,_,_,_,_,_,_,rfl,_⟩:=h;rfl
 .obtain⟨a,t,k,x,y,p,l,d,rfl,rfl,c8,Kp,Kq,e8,hy,hp,v7,hR⟩:=h;have c9:At t (k+(numL x).length+1+(numL y).length) _:=c8.app.next.app;refine#[λv M'=>v=.tup [.int x,.int y]/\M'=RdM a t (k+(numL x).length+1+(numL y).length),#[a,t,_,x,y,58,_,rfl,rfl,e8,hy,.inr (.inr (.inl rfl)),c8,rfl,rfl],?_];rintro _ _⟨rfl,rfl⟩;k_places;refine#[_,FP.mpr rfl,_,aY,ck,a,t,_,58,_,":",rfl,rfl,c9,J7,?_];refine#[a,t,_,p,l,d,rfl,rfl,c9.next,Kp,Kq,hp,v7,λv h=>?_];obtain⟨fs,rfl,_⟩:=h.objm;exact#[_,rfl,_,rfl,_,_,_,_,rfl,hR _ h]
def EJ(hL:5<=n)(T:V.T "rehue_from" iB fQ)(uK:V.m "int")(uJ:V.MM n "form_from" cD (cV j))(LG:jk V)(uC:cF V):V.MM (n+1) "rehue_from" fQ (ud j):=by
 refine Tx.okM T sc_rehue_from (λds M R RX h=>?_) (λf cdv A outer s H E J hr hx=>⟨_,((ai (aD 2 sc_rehue_from.nd (sL uK (av (aR (hn:=KK) (CalMth.one uC) hx hr (ae (aa 0)) (au (ac aC af))) aU)))
   (ai (aD 3 sc_rehue_from.nd (sL uK (av (aR (hn:=KK) (CalMth.one uC) hx hr (ae (aa 0)) (au (ac aC af))) aU)))
   (ao (ay (gR (hn:=KK) LG hr (av (aJ (hn:=KK) uJ hx hr (au (ac (aa 0) (ac (aa 1) af)))) (av (ae (aa 2)) (av (ae (aa 3)) aU))))))))),λds M R RX d0 h=>?_⟩)
 .obtain⟨_,_,_,_,_,_,_,_,rfl,_⟩:=h;rfl
 .obtain⟨a,t,k,f,g,p,l,d,rfl,rfl,c8,Kp,Kq,hf,hg,hp,v7,hR⟩:=h;have Pu:∀{f:Int},1<=f/\f<=6->PySem.intText? (#[[(48+f).toNat].toArray]:Jj)=be f:=λ{f} h=>by
   have:=digit_of (c:=(48+f).toNat) JZ;rw[show(((48+f).toNat:Nat):Int)-48=f by lia]at this;exact this
  refine#[λv M'=>v=.int f/\M'=RdM a t (k+1),#[_,FP.mpr rfl,_,aY,ck,a,t,_,_,_,"123456",rfl,rfl,c8,tZ hf,_,#[Pu hf,by show(1:Nat)<=640;decide],rfl,rfl],?_];rintro _ _⟨rfl,rfl⟩;k_places;refine#[λv M'=>v=.int g/\M'=RdM a t (k+2),#[_,FP.mpr rfl,_,aY,ck,a,t,_,_,_,"123456",rfl,rfl,c8.next,tZ hg,_,#[Pu hg,by show(1:Nat)<=640;decide],rfl,rfl],?_];rintro _ _⟨rfl,rfl⟩;k_places;refine#[a,t,_,p,l,d,rfl,rfl,c8.next.next,Kp,Kq,hp,v7,λv h=>?_];obtain⟨fs,rfl,_⟩:=h.objm;exact#[_,_,_,_,rfl,hR _ h]
def EK(hL:5<=n)(T:V.T "form_from" iC cD)(Q6:V.MM n "over_from" fO (ub j))(Q7:V.MM n "shifted_from" fP (uc j))(uJ:V.MM n "form_from" cD (cV j))(Q8:V.MM n "rehue_from" fQ (ud j))(LH:je V)(LI:V.gi "DEEP" 5)(LJ:jg V)(LK:jh V)(uI:cX V):V.MM (n+1) "form_from" cD (cV (j+1)):=by
 refine Tx.okM T sc_form_from (λds M R RX h=>?_) (λf cdv A outer s H E J hr hx=>⟨_,((ai (aD 2 sc_form_from.nd (fB (bj (gm (aa 1) (eA LI))) (aR (hn:=KK) (CalMth.one uI) hx hr (ae (aa 0)) (au (ac aC af))) (ae aC)))
   (ai (aT (bj (bD (aa 2) aC)) (ao (ay (aJ (hn:=KK) Q6 hx hr (au (ac (aa 0) (ac (aB (aa 1) ad) af)))))) aO)
   (ai (aT (bj (bD (aa 2) aC)) (ao (ay (aJ (hn:=KK) Q7 hx hr (au (ac (aa 0) (ac (aB (aa 1) ad) af)))))) aO)
   (ai (aT (bj (bD (aa 2) aC)) (ao (ay (gR (hn:=KK) LJ hr (av (aJ (hn:=KK) uJ hx hr (au (ac (aa 0) (ac (aB (aa 1) ad) af)))) aU)))) aO)
   (ai (aT (bj (bD (aa 2) aC)) (ao (ay (gR (hn:=KK) LK hr (av (aJ (hn:=KK) uJ hx hr (au (ac (aa 0) (ac (aB (aa 1) ad) af)))) aU)))) aO)
   (ai (aT (bj (bD (aa 2) aC)) (ao (ay (aJ (hn:=KK) Q8 hx hr (au (ac (aa 0) (ac (aB (aa 1) ad) af)))))) aO)
   (ao (ay (aJ (hn:=KK) LH hx hr (au (ac (aa 0) af)))))))))))),λds M R RX d0 h=>?_⟩)
 .obtain⟨_,_,_,_,_,_,rfl,_⟩:=h;rfl
 .obtain⟨a,t,k,p,l,d,rfl,rfl,c8,Kp,Kq,hp,v7,hR⟩:=h;refine#[λv M'=>v=.str (mayS "(smth" (p.tl++l))/\M'=RdM a t (k+mayN "(smth" (p.tl++l)),?_,?_]
  .show if decide ((d:Int)<5)=true then _ else _
   refine ite2 (λc=>?_) (λc=>?_)
   .exact#[_,FP.mpr rfl,_,aY,cU,a,t,_,_,"(smth",rfl,rfl,c8,rfl,rfl]
   .have c':¬((d:Int)<5):=λz=>c (decide_eq_true z);cases p with
    |mot L a b c d=>exact#[rfl,rfl]
    |_=>rw[Pat.depth]at v7;lia
  rintro _ _⟨rfl,rfl⟩;k_places;cases p with
  |mot L x y u v=>exact#[a,t,k,L,x,y,u,v,l,rfl,rfl,c8,hp,hR]
  |over p q=>
   rw[Pat.depth]at v7;have e:k+(Pat.over p q).tl.length=k+1+p.tl.length+1+q.tl.length+1:=by rw[Pat.tl];simp;lia
   have c9:At t (k+1) (p.tl++124::(q.tl++41::l)):=by have:=c8.next;simpa using this
   rw[e]at hR;exact#[a,t,k+1,p,q,l,d+1,rfl,rfl,c9,JZ,JZ,hp.1,hp.2,JZ,JZ,λu u' h1 h2=>hR _ #[u,u',rfl,h1,h2]]
  |sh x y p=>
   rw[Pat.depth]at v7;have e:k+(Pat.sh x y p).tl.length=k+1+(numL x).length+1+(numL y).length+1+p.tl.length:=by rw[Pat.tl];simp;lia
   have c9:At t (k+1) (numL x++44::(numL y++58::(p.tl++l))):=by have:=c8.next;simpa using this
   rw[e]at hR;exact#[a,t,k+1,x,y,p,l,d+1,rfl,rfl,c9,JZ,JZ,hp.1,hp.2.1,hp.2.2,JZ,λu h1=>hR _ #[u,rfl,h1]]
  |mir p=>
   rw[Pat.depth]at v7;have e:k+(Pat.mir p).tl.length=k+1+p.tl.length:=by rw[Pat.tl];simp;lia
   rw[e]at hR;refine#[a,t,k+1,p,l,d+1,rfl,rfl,c8.next,JZ,JZ,hp,JZ,λu h1=>?_];obtain⟨fs,rfl,_⟩:=h1.objm;exact#[_,_,rfl,hR _ #[_,rfl,h1]]
  |tur p=>
   rw[Pat.depth]at v7;have e:k+(Pat.tur p).tl.length=k+1+p.tl.length:=by rw[Pat.tl];simp;lia
   rw[e]at hR;refine#[a,t,k+1,p,l,d+1,rfl,rfl,c8.next,JZ,JZ,hp,JZ,λu h1=>?_];obtain⟨fs,rfl,_⟩:=h1.objm;exact#[_,_,rfl,hR _ #[_,rfl,h1]]
  |hue f g p=>
   rw[Pat.depth]at v7;have e:k+(Pat.hue f g p).tl.length=k+1+2+p.tl.length:=by rw[Pat.tl,hueL hp.1,hueL hp.2.1];simp;lia
   have c9:At t (k+1) ((48+f).toNat::(48+g).toNat::(p.tl++l)):=by
    have:=c8.next;rw[hueL hp.1,hueL hp.2.1]at this;simpa using this
   rw[e]at hR;exact#[a,t,k+1,f,g,p,l,d+1,rfl,rfl,c9,JZ,JZ,hp.1,hp.2.1,hp.2.2,JZ,λu h1=>hR _ #[u,rfl,h1]]
def EL(Q9:V.T "over_from" iz fO)(Q_:V.T "shifted_from" iA fP)(Ra:V.T "rehue_from" iB fQ)(Pw:V.T "form_from" iC cD)(LD:ji V)(uC:cF V)(JD:fU V)(LF:jj V)(uK:V.m "int")(LG:jk V)(LH:je V)(LI:V.gi "DEEP" 5)(LJ:jg V)(LK:jh V)(uI:cX V):∀j,V.MM (5+2*j) "form_from" cD (cV j):=by
 intro j;induction j with
 |zero=>exact CalMM.never Pw (λds M R RX=>BK)
 |succ j ih=>
  have LL:=ih;have N_:=EH (n:=5+2*j) (j:=j) KK Q9 LL LD uC;have Oa:=EI (n:=5+2*j) (j:=j) KK Q_ JD LL LF uC;have Ob:=EJ (n:=5+2*j) (j:=j) KK Ra uK LL LG uC;have LL:=Cal.mono ih (GM _);exact EK (n:=5+2*j+1) (j:=j) KK Pw N_ Oa LL Ob LH LI LJ LK uI
abbrev oW(V:Bx):Prop:=V.M 1 "Reading" mU Bk
def EM(T:V.Ti "Reading" "Reading.__init__" mR mU)(JS:V.a "Reading" "text")(uL:V.a "Reading" "place"):oW V:=by
 refine Txi.okI T Db (λds R h=>?_) (λf cdv A outer s H E J hr=>#[_,((bI JS (aa 1) (bI uL ad dg))),λds R h=>?_])
 .obtain⟨_,rfl,_⟩:=h;rfl
 .obtain⟨t,rfl,hR⟩:=h;refine#[J7,Rq,?_];show R (putD _ _ (putD _ _ []));rw[putD,putD,if_neg J3];exact hR
abbrev oX(V:Bx):Prop:=V.M 1 "Pattern" mW BQ
def EN(T:V.Ti "Pattern" "Pattern.__init__" mV mW)(KN:V.a "Pattern" "text")(D_:V.a "Pattern" "shifts")(KE:V.a "Pattern" "form"):oX V:=by
 refine Txi.okI T Dc (λds R h=>?_) (λf cdv A outer s H E J hr=>#[_,((bI KN (aa 1) (bI D_ (aa 2) (bI KE (aa 3) dg)))),λds R h=>?_])
 .obtain⟨_,_,_,_,_,_,rfl,_⟩:=h;rfl
 .obtain⟨t,w,h,s,x,fs,rfl,hR⟩:=h;refine#[J7,Rq,by show(2:Nat)<1000;decide,?_];show R (putD _ _ (putD _ _ (putD _ _ [])));rw[show putD ("shifts":Jj) (.tup [.int w,.int h,.int s]) (putD ("text":Jj) (.str t) [])=([("text",.str t),("shifts",.tup [.int w,.int h,.int s])]:List (Jj×D))by rw[putD,putD,if_neg J3];rfl,putD,if_neg J3,putD,if_neg J3];exact hR
abbrev oY(V:Bx):Prop:=V.D 2 "measure" mZ AN
def EO(T:V.T "measure" mY mZ)(KJ:jc V):oY V:=by
 refine Tx.okDW T sc_measure (λds R h=>?_) (λf cdv A outer s H E J hr=>⟨_,((aq (aA 2 sc_measure.nd (ah (aI KJ hr (ac (aN (ac ad (ac (aa 0) af))) (ac (aN (ac ad (ac (aa 1) af))) af))) ad))
   (ar (aE (aN (ac (ah (aa 2) ad) (ac (ah (aa 2) ad) af))))))),λds R h=>?_⟩)
 .obtain⟨x,y,rfl,_⟩:=h;rfl
 .obtain⟨x,y,rfl,hx,hy,hR⟩:=h;refine#[λd=>∃p0 p1:Int,d=.tup [.int p0,.int p1]/\Meas x y p1 p0,#[J8,J8,1,x,0,y,rfl,hx,hy,λp0 p1 q0 hL=>#[_,rfl,p0,p1,rfl,tm #[hL.1,hL.2]]],?_];rintro _⟨p0,p1,rfl,hM⟩;k_places;exact#[_,rfl,_,rfl,J8,hR p1 p0 hM]
abbrev jl(V:Bx):Prop:=V.D 3 "met" nh AO
def EQ(T:V.T "met" ng nh)(LM:oY V):jl V:=by
 refine Tx.okDW T sc_met (λds R h=>?_) (λf cdv A outer s H E J hr=>⟨_,((aq (aA 2 sc_met.nd (aI LM hr (ac (ah (aa 0) ad) (ac (ah (aa 1) ad) af))))
   (aq (aA 3 sc_met.nd (bx (aL (ah (aa 0) ad) (ah (aa 1) ad)) (ah (aa 2) ad)))
   (aq (aA 4 sc_met.nd (bx (aL (ah (aa 0) ad) (ah (aa 1) ad)) (ah (aI LM hr (ac (ah (aa 0) ad) (ac (ah (aa 1) ad) af))) ad)))
   (aq (aA 5 sc_met.nd (aL (bx (aa 4) (ah (aa 0) ad)) (ah (aa 0) ad)))
   (aq (aA 6 sc_met.nd (bw (aL (bx (aa 4) (ah (aa 1) ad)) (ah (aa 1) ad)) (aa 5)))
   (aq (aA 7 sc_met.nd (bx (ah (aa 2) ad) (ah (aI LM hr (ac (ah (aa 2) ad) (ac (aa 6) af))) ad)))
   (aq (aA 8 sc_met.nd (aL (bx (aL (aa 7) (aa 6)) (ah (aa 2) ad)) (ah (aa 2) ad)))
   (ar (aE (aN (ac (aa 3) (ac (aL (aa 4) (aa 7)) (ac (aH (aB (aL (aa 7) (aa 5)) (aL (aa 8) (ah (aa 0) ad))) (aa 3)) af)))))))))))))),λds R h=>?_⟩)
 .obtain⟨_,_,_,_,_,_,rfl,_⟩:=h;rfl
 .obtain⟨w1,h1,s1,w2,h2,s2,rfl,a1,a2,a3,a4,a5,a6,b1,b2,b3,b4,b5,b6,hR⟩:=h;refine#[λd=>∃g u:Int,d=.tup [.int g,.int u]/\Meas w1 w2 g u,#[_,rfl,_,rfl,w1,w2,rfl,KK,KK,λg u M=>#[g,u,rfl,M]],?_];rintro _⟨g,u,rfl,M1⟩;k_places;have hg:=M1.pos a1;have Px:=M1.le a1;refine#[λd=>d=.int (w1*w2/g),#[_,rfl,_,rfl,.inl (b64B a1 a2),_,rfl,d30B hg (Gw Px a2),rfl],?_];rintro _ rfl;k_places;refine#[λd=>∃k u':Int,d=.int (h1*h2/k)/\Meas h1 h2 k u',#[_,rfl,_,rfl,.inl (b64B a3 a4),_,rfl,_,rfl,h1,h2,rfl,KK,KK,λk u' M=>#[_,rfl,d30B (M.pos a3) (Gw (M.le a3) a4),k,u',rfl,M]],?_];rintro _⟨k,u',rfl,M2⟩;k_places;obtain⟨r0,r1,r2,r3,r4,r5⟩:=tz a3 b3 M2;have Rb:h1*h2<=1125899906842624:=by
   have:=ce (a:=h1) (d:=h2) (A:=33554432) (B:=33554432) KK KK;omega
  refine#[λd=>d=.int (h1*h2/k/h1*s1),#[_,rfl,d30B a3 a4,_,rfl,.inr (s64B a5 a6 a2),rfl],?_];rintro _ rfl;k_places;refine#[λd=>d=.int (h1*h2/k/h2*s2-h1*h2/k/h1*s1),#[_,rfl,d30B b3 b4,_,rfl,.inr (s64B b5 b6 b2),rfl],?_];rintro _ rfl;k_places;have t1:=ce (a:=h1*h2/k/h1) (d:=s1) (A:=33554432) (B:=33554432) KK KK;have t2:=ce (a:=h1*h2/k/h2) (d:=s2) (A:=33554432) (B:=33554432) KK KK;refine#[λd=>∃gg y_:Int,d=.int (g/gg)/\Meas g (h1*h2/k/h2*s2-h1*h2/k/h1*s1) gg y_,#[_,rfl,_,rfl,g,_,rfl,KK,KK,λgg y_ M=>#[_,rfl,d30B (M.pos hg) (Gw (M.le hg) (Gw Px a2)),gg,y_,rfl,M]],?_];rintro _⟨gg,y_,rfl,M3⟩;k_places;have Jz:=M3.pos hg;have c1:0<=g/gg:=Ie KK KK;have c2:g/gg<=g:=Ig _ KK;have c4:=AB (c:=g/gg) (gap:=h1*h2/k/h2*s2-h1*h2/k/h1*s1) (N:=2251799813685248) hg c1 c2 KK;have mr:=tw a1 b1 a3 b3 M1 M2 M3;refine#[λd=>d=.int (g/gg*(h1*h2/k/h2*s2-h1*h2/k/h1*s1)/g*u),#[.inl #[KK,KK],_,rfl,#[KK,KK],_,rfl,.inl #[KK,KK],rfl],?_];rintro _ rfl;k_places;obtain⟨w0,w3,_⟩:=tz a1 b1 M1;have Rc:w1*w2<=1125899906842624:=by
   have:=ce (a:=w1) (d:=w2) (A:=33554432) (B:=33554432) KK KK;omega
  have Pb:=ce (a:=h1*h2/k) (d:=g/gg) (A:=1125899906842624) (B:=33554432) KK KK;exact#[.inl #[KK,KK],.inl #[KK,KK],_,rfl,.inr #[KK,KK],w0,J8,hR _ _ _ _ mr]
abbrev jm(V:Bx):Prop:=V.D 1 "mirrored" nq AL
def ER(T:V.T "mirrored" nj nq):jm V:=by
 refine Tx.okDW T Dd (λds R h=>?_) (λf cdv A outer s H E J hr=>#[_,((ar (aE (aN (ac (ah (aa 0) ad) (ac (ah (aa 0) ad) (ac (aH (cq (ah (aa 0) ad)) (ah (aa 0) ad)) af))))))),λds R h=>?_])
 .obtain⟨w,h,s,rfl,_⟩:=h;rfl
 .obtain⟨w,h,s,rfl,hw,hR⟩:=h;exact#[_,rfl,_,rfl,_,rfl,_,rfl,hw,J8,hR]
abbrev jn(V:Bx):Prop:=V.D 3 "turned" nt AM
def ES(T:V.T "turned" nr nt)(KL:jd V):jn V:=by
 refine Tx.okDW T De (λds R h=>?_) (λf cdv A outer s H E J hr=>#[_,((ar (aE (aI KL hr (ac (aN (ac ad (ac (ah (aa 0) ad) af))) (ac (aN (ac (cq (ah (aa 0) ad)) (ac (ah (aa 0) ad) af))) af)))))),λds R h=>?_])
 .obtain⟨w,h,s,rfl,_⟩:=h;rfl
 .obtain⟨w,h,s,rfl,hw,hh,Lq,JK,hs,l8,hR⟩:=h;have hp:0<w*h:=Gf hw hh;have hn:¬0*s=w* -h:=by rw[HA];lia
  exact#[_,rfl,J8,_,rfl,_,rfl,J8,0,w,-h,s,rfl,JZ,JZ,JZ,JZ,λe=>absurd e hn,λ_ w' h' s' f=>hR w' h' s' f]
def ok_Motif_family(hL:3<=n)(T:V.Tm "Motif" "family" "Motif.family" iD cx)(uM:V.a "Motif" "shifts"):V.Q (n+1) "Motif" "family" cx (ofX (bS (j+1) "Motif")):=by
 refine Txm.okM T Df (λds M R RX h=>?_) (λf cdv A outer s H E J hr hx=>⟨_,((ai (aT (gM (az uM (ae (aa 0))) (ae bH)) (ao gY) aO)
   (ao (ay (az uM (ae (aa 0))))))),λds M R RX d0 h=>?_⟩)
 .obtain⟨_,_,rfl,_⟩:=h;rfl
 .obtain⟨p,v,rfl,hv,hp,hd,hc,hf,hR⟩:=h;cases p<;>simp only[Pat.cls]at hc<;>try exact absurd hc J3
  obtain⟨k,w,h,s,rfl,F⟩:=hv;exact#[_,#[rfl,rfl],_,mo_shifts,_,#[rfl,rfl],_,mo_shifts,hR w h s (Pat.Fam.mot F)]
def ET(hL:3<=n)(T:V.Tm "Over" "family" "Over.family" iE iF)(LN:jl V)(uW:V.a "Over" "above")(uV:V.a "Over" "below")(uF:∀x,x∈(["Motif","Over","Shifted","Mirror","Turn","Rehue"]:List Jj)->V.Q n x "family" cx (ofX (bS j x))):V.Q (n+1) "Over" "family" iF (ofX (bS (j+1) "Over")):=by
 refine Txm.okM T sc_Over_family (λds M R RX h=>?_) (λf cdv A outer s H E J hr hx=>⟨_,((ai (aD 1 sc_Over_family.nd (bX (hn:=KK) uF hx hr (az uW (ae (aa 0)))))
   (ao (ay (aJ (hn:=KK) (CalD.toM LN) hx hr (av (ae (aa 1)) (av (bX (hn:=KK) uF hx hr (az uV (ae (aa 0)))) aU))))))),λds M R RX d0 h=>?_⟩)
 .obtain⟨_,_,rfl,_⟩:=h;rfl
 .obtain⟨p,v,rfl,hv,hp,hd,hc,hf,hR⟩:=h;cases p<;>simp only[Pat.cls]at hc<;>try exact absurd hc J3
  rename_i p q;obtain⟨u,u',rfl,hu,Lw⟩:=hv;obtain⟨fs,rfl,o1⟩:=hu.objm;obtain⟨gs,rfl,o2⟩:=Lw.objm;obtain⟨f1,f2⟩:=Pat.Fits.over_parts hp.1 hp.2 hf;rw[Pat.depth]at hd;refine#[λd M'=>(∃w h s,p.Fam w h s/\d=.tup [.int w,.int h,.int s])/\M'=M,#[_,#[rfl,rfl],_,rfl,p.cls,p.cls_mem,fs,#[rfl,rfl],o1.fam,p,_,rfl,hu,hp.1,JZ,rfl,f1,λw h s F=>#[#[w,h,s,F,rfl],rfl]],?_];rintro _ _⟨⟨w1,h1,s1,F1,rfl⟩,rfl⟩;k_places;refine#[_,#[rfl,rfl],_,eN J3,q.cls,q.cls_mem,gs,#[rfl,rfl],o2.fam,q,_,rfl,Lw,hp.2,JZ,rfl,f2,λw2 h2 s2 F2=>?_];obtain⟨a1,a2,a3,a4,a5,a6⟩:=f1.small F1;obtain⟨b1,b2,b3,b4,b5,b6⟩:=f2.small F2;exact#[w1,h1,s1,w2,h2,s2,rfl,a1,JZ,a3,JZ,a5,a6,b1,JZ,b3,JZ,b5,b6,λw h s A MR=>hR w h s (Pat.Fam.over F1 F2 MR)]
def EU(hL:3<=n)(T:V.Tm "Shifted" "family" "Shifted.family" iG iH)(uU:V.a "Shifted" "form")(uF:∀x,x∈(["Motif","Over","Shifted","Mirror","Turn","Rehue"]:List Jj)->V.Q n x "family" cx (ofX (bS j x))):V.Q (n+1) "Shifted" "family" iH (ofX (bS (j+1) "Shifted")):=by
 refine Txm.okM T Dg (λds M R RX h=>?_) (λf cdv A outer s H E J hr hx=>#[_,((ao (ay (bX (hn:=KK) uF hx hr (az uU (ae (aa 0))))))),λds M R RX d0 h=>?_])
 .obtain⟨_,_,rfl,_⟩:=h;rfl
 .obtain⟨p,v,rfl,hv,hp,hd,hc,hf,hR⟩:=h;cases p<;>simp only[Pat.cls]at hc<;>try exact absurd hc J3
  rename_i a b p;obtain⟨u,rfl,hu⟩:=hv;obtain⟨fs,rfl,o1⟩:=hu.objm;rw[Pat.depth]at hd;refine#[_,#[rfl,rfl],_,rfl,p.cls,p.cls_mem,fs,#[rfl,rfl],o1.fam,p,_,rfl,hu,hp.2.2,JZ,rfl,hf.of_sh,λw h s F=>?_];exact hR w h s (F.sh a b)
def EV(hL:3<=n)(T:V.Tm "Mirror" "family" "Mirror.family" iI iJ)(LO:jm V)(uR:V.a "Mirror" "form")(uF:∀x,x∈(["Motif","Over","Shifted","Mirror","Turn","Rehue"]:List Jj)->V.Q n x "family" cx (ofX (bS j x))):V.Q (n+1) "Mirror" "family" iJ (ofX (bS (j+1) "Mirror")):=by
 refine Txm.okM T Dh (λds M R RX h=>?_) (λf cdv A outer s H E J hr hx=>#[_,((ao (ay (aJ (hn:=KK) (CalD.toM LO) hx hr (av (bX (hn:=KK) uF hx hr (az uR (ae (aa 0)))) aU))))),λds M R RX d0 h=>?_])
 .obtain⟨_,_,rfl,_⟩:=h;rfl
 .obtain⟨p,v,rfl,hv,hp,hd,hc,hf,hR⟩:=h;cases p<;>simp only[Pat.cls]at hc<;>try exact absurd hc J3
  rename_i p;obtain⟨u,rfl,hu⟩:=hv;obtain⟨fs,rfl,o1⟩:=hu.objm;rw[Pat.depth]at hd;refine#[_,#[rfl,rfl],_,rfl,p.cls,p.cls_mem,fs,#[rfl,rfl],o1.fam,p,_,rfl,hu,hp,JZ,rfl,Pat.Fits.of_mir (p:=p) hp hf,λw h s F=>?_];exact#[w,h,s,rfl,F.f.w0,hR w h _ F.mir]
def EW(hL:3<=n)(T:V.Tm "Turn" "family" "Turn.family" iK iL)(LP:jn V)(uT:V.a "Turn" "form")(uF:∀x,x∈(["Motif","Over","Shifted","Mirror","Turn","Rehue"]:List Jj)->V.Q n x "family" cx (ofX (bS j x))):V.Q (n+1) "Turn" "family" iL (ofX (bS (j+1) "Turn")):=by
 refine Txm.okM T Di (λds M R RX h=>?_) (λf cdv A outer s H E J hr hx=>#[_,((ao (ay (aJ (hn:=KK) (CalD.toM LP) hx hr (av (bX (hn:=KK) uF hx hr (az uT (ae (aa 0)))) aU))))),λds M R RX d0 h=>?_])
 .obtain⟨_,_,rfl,_⟩:=h;rfl
 .obtain⟨p,v,rfl,hv,hp,hd,hc,hf,hR⟩:=h;cases p<;>simp only[Pat.cls]at hc<;>try exact absurd hc J3
  rename_i p;obtain⟨u,rfl,hu⟩:=hv;obtain⟨fs,rfl,o1⟩:=hu.objm;rw[Pat.depth]at hd;refine#[_,#[rfl,rfl],_,rfl,p.cls,p.cls_mem,fs,#[rfl,rfl],o1.fam,p,_,rfl,hu,hp,JZ,rfl,Pat.Fits.of_tur (p:=p) hp hf,λw h s F=>?_];obtain⟨a1,a2,a3,a4,a5,a6⟩:=(Pat.Fits.of_tur (p:=p) hp hf).small F;exact#[w,h,s,rfl,a1,a3,JZ,JZ,a5,JZ,λw' h' s' F'=>hR w' h' s' (F.tur F')]
def EY(hL:3<=n)(T:V.Tm "Rehue" "family" "Rehue.family" iM iN)(uS:V.a "Rehue" "form")(uF:∀x,x∈(["Motif","Over","Shifted","Mirror","Turn","Rehue"]:List Jj)->V.Q n x "family" cx (ofX (bS j x))):V.Q (n+1) "Rehue" "family" iN (ofX (bS (j+1) "Rehue")):=by
 refine Txm.okM T Dj (λds M R RX h=>?_) (λf cdv A outer s H E J hr hx=>#[_,((ao (ay (bX (hn:=KK) uF hx hr (az uS (ae (aa 0))))))),λds M R RX d0 h=>?_])
 .obtain⟨_,_,rfl,_⟩:=h;rfl
 .obtain⟨p,v,rfl,hv,hp,hd,hc,hf,hR⟩:=h;cases p<;>simp only[Pat.cls]at hc<;>try exact absurd hc J3
  rename_i f g p;obtain⟨u,rfl,hu⟩:=hv;obtain⟨fs,rfl,o1⟩:=hu.objm;rw[Pat.depth]at hd;refine#[_,#[rfl,rfl],_,rfl,p.cls,p.cls_mem,fs,#[rfl,rfl],o1.fam,p,_,rfl,hu,hp.2.2,JZ,rfl,hf.of_hue,λw h s F=>?_];exact hR w h s (F.hue f g)
def EZ(Py:V.Tm "Motif" "family" "Motif.family" iD cx)(Pz:V.Tm "Over" "family" "Over.family" iE iF)(PB:V.Tm "Shifted" "family" "Shifted.family" iG iH)(PC:V.Tm "Mirror" "family" "Mirror.family" iI iJ)(PD:V.Tm "Turn" "family" "Turn.family" iK iL)(PF:V.Tm "Rehue" "family" "Rehue.family" iM iN)(uM:V.a "Motif" "shifts")(LN:jl V)(uW:V.a "Over" "above")(uV:V.a "Over" "below")(uU:V.a "Shifted" "form")(LO:jm V)(uR:V.a "Mirror" "form")(LP:jn V)(uT:V.a "Turn" "form")(uS:V.a "Rehue" "form"):∀j x,x∈(["Motif","Over","Shifted","Mirror","Turn","Rehue"]:List Jj)->V.Q (3+j) x "family" cx (ofX (bS j x)):=by
 intro j;induction j with
 |zero=>
  intro x hx;simp only[FT,G3,or_false]at hx;rcases hx with rfl|rfl|rfl|rfl|rfl|rfl
  .exact CalMth.never Py (λds M R RX=>eO)
  .exact CalMth.never Pz (λds M R RX=>eO)
  .exact CalMth.never PB (λds M R RX=>eO)
  .exact CalMth.never PC (λds M R RX=>eO)
  .exact CalMth.never PD (λds M R RX=>eO)
  .exact CalMth.never PF (λds M R RX=>eO)
 |succ j LQ=>
  intro x hx;simp only[FT,G3,or_false]at hx;rcases hx with rfl|rfl|rfl|rfl|rfl|rfl
  .exact ok_Motif_family (n:=3+j) (j:=j) KK Py uM
  .exact ET (n:=3+j) (j:=j) KK Pz LN uW uV LQ
  .exact EU (n:=3+j) (j:=j) KK PB uU LQ
  .exact EV (n:=3+j) (j:=j) KK PC LO uR LQ
  .exact EW (n:=3+j) (j:=j) KK PD LP uT LQ
  .exact EY (n:=3+j) (j:=j) KK PF uS LQ
abbrev vt(V:Bx):Prop:=V.MM 17 "form_from" cD (cV 6)
abbrev vw(V:Bx):Prop:=∀x,x∈(["Motif","Over","Shifted","Mirror","Turn","Rehue"]:List Jj)->V.Q 9 x "family" cx (ofX (bS 6 x))
abbrev jp(V:Bx):Prop:=V.X 18 "read" nv S_read
def E1(T:V.T "read" nu nv)(uB:V.m "len")(uJ:vt V)(Oc:V.gi "MOST" 720)(uL:V.a "Reading" "place")(Od:oW V)(Oe:oX V)(uF:vw V):jp V:=by
 refine CalMM.nilX (Tx.okM T sc_read (λds M R RX h=>?_) (λf cdv A outer s H E J hr hx=>⟨_,((ai (aD 1 sc_read.nd (zE Od hr (au (ac (aa 0) af))))
   (ai (aD 2 sc_read.nd (aJ uJ hx hr (au (ac (aa 1) (ac ad af)))))
   (ai (aT (sI (az uL (ae (aa 1))) (ae (bQ uB (ac (aa 0) af)))) (ao gY) aO)
   (ai (aD 3 sc_read.nd (bX uF hx hr (ae (aa 2))))
   (ai (aT (bj (rq (aL (ah (aa 3) ad) (ah (aa 3) ad)) (eA Oc))) (ao gY) aO)
   (ao (ay (ae (km Oe hr (ac (aa 0) (ac (aa 3) (ac (aa 2) af))))))))))))),λds M R RX d0 h=>?_⟩))
 .obtain⟨_,R0,Jy,⟨_,rfl,_⟩,_⟩:=h;rfl
 .obtain⟨rfl,R0,Jy,⟨p,rfl,ok,hG⟩,hR,hX⟩:=h;have b8:=Pat.text_short ok.wf ok.deep;have c8:At p.text 0 (p.tl++[]):=#[by rw[Gk];exact cT p,Gh _,JZ];have Q0:=ok.deep;have hl:p.text.length=p.tl.length:=by rw[<-br,cT]
  refine#[λd M'=>∃a,d=.ptr a/\M'=RdM a p.text 0,#[_,rfl,λa _=>#[a,rfl,rfl]],?_];rintro _ _⟨a,rfl,rfl⟩;k_places;refine#[λv M'=>FormOf p v/\M'=RdM a p.text p.tl.length,#[a,p.text,0,p,[],0,rfl,rfl,c8,rfl,J7,ok.wf,JZ,λv h=>#[h,by rw[Ja]]],?_];rintro v _⟨hv,rfl⟩;k_places;refine#[_,aY,_,eI,JZ,ite2 (λc=>absurd (of_decide_eq_true c) JZ) (λ_=>?_)];obtain⟨fs,rfl,o1⟩:=hv.objm;refine#[λd M'=>∃w h s,p.Fam w h s/\d=.tup [.int w,.int h,.int s],#[p.cls,p.cls_mem,fs,#[rfl,rfl],o1.fam,p,_,rfl,hv,ok.wf,JZ,rfl,ok.fits,λw h s F=>#[w,h,s,F,rfl]],?_];rintro _ M'⟨w,h,s,F,rfl⟩;k_places;have a1:=ok.fits.small F;obtain⟨w',h',s',F',hb⟩:=ok.fits;obtain⟨rfl,rfl,_⟩:=F.uniq F';refine#[_,rfl,_,rfl,.inl #[JZ,JZ],ite2 (λc=>absurd (of_decide_eq_true c) JZ) (λ_=>?_)];exact#[_,_,_,_,_,_,rfl,hR _ _ (hG _ #[_,_,s,_,rfl,rfl,eN J3,#[F,#[_,kP J3 J3,hv],by simp[noLF,noL,noLs,o1.nl]]])]
def E2:SpD:=λds R=>∃(p q:Pat) (d e:D) (w h:Int),ds=[d,e,.int w,.int h]/\bg p d/\bg q e/\p.Ok/\q.Ok/\0<=w/\w<=720/\0<=h/\h<=720/\((∀x y:Int,0<=x->x<w->0<=y->y<h->p.show x y=q.show x y)->R .non)/\∀x y:Int,0<=x->x<w->0<=y->y<h->p.show x y≠q.show x y->(∀x' y':Int,0<=x'->x'<w->0<=y'->(y'<y\/(y'=y/\x'<x))->p.show x' y'=q.show x' y')->R (.tup [.int x,.int y])
abbrev oZ(V:Bx):Prop:=V.D 9 "first_unlike" ny E2
def E3(T:V.T "first_unlike" nw ny)(uA:V.m "range")(Kn:iY V):oZ V:=by
 refine Tx.okDW T sc_first_unlike (λds R h=>?_) (λf cdv A outer s H E J hr=>⟨_,((aq (bV 4 PassesOwn.never rfl sc_first_unlike.nd uA (aa 3) (ar (bV 5 PassesOwn.never rfl sc_first_unlike.nd uA (aa 2) (ar (bK (cr (aI (CalX.no Kn) hr (ac (aa 0) (ac (aa 5) (ac (aa 4) af)))) (aI (CalX.no Kn) hr (ac (aa 1) (ac (aa 5) (ac (aa 4) af))))) (ar (aE (aN (ac (aa 5) (ac (aa 4) af))))) bz)))))
   (ar (aE bH)))),λds R h=>?_⟩)
 .obtain⟨_,_,_,_,_,_,rfl,_⟩:=h;rfl
 .obtain⟨p,q,d,e,w,h,rfl,hd,he,z9,Ml,w0,w7,h0,h7,hN,hS⟩:=h;obtain⟨wd,d7,sd,fs,rfl,q1,q2,fam⟩:=hd;have hd:bg p (.obj "Pattern" fs):=#[wd,d7,sd,fs,rfl,q1,q2,fam];obtain⟨Re,Ks,Rf,Mp,rfl,q3,q4,Of⟩:=he;have he:bg q (.obj "Pattern" Mp):=#[Re,Ks,Rf,Mp,rfl,q3,q4,Of];refine#[#[KK,KK],λk z=>∃o4 o5,z=[be (.obj "Pattern" fs),be (.obj "Pattern" Mp),be (.int w),be (.int h),o4,o5]/\∀x y:Int,0<=x->x<w->0<=y->y<k->p.show x y=q.show x y,#[_,_,rfl,λx y _ _ a b=>KK],?_,?_]
  .rintro k v z hk⟨o4,o5,rfl,hj⟩;k_places;obtain⟨m8,rfl⟩:=bE hk;refine#[#[KK,KK],λi z=>∃o5,z=[be (.obj "Pattern" fs),be (.obj "Pattern" Mp),be (.int w),be (.int h),be (.int k),o5]/\∀x:Int,0<=x->x<i->p.show x k=q.show x k,#[_,rfl,λx a b=>KK],?_,?_]
   .rintro i v z hi⟨o5,rfl,g9⟩;k_places;obtain⟨v4,rfl⟩:=bE hi;have nn:aZ (i:Int)/\aZ (k:Int):=#[#[KK,KK],KK,KK];refine#[p,_,i,k,rfl,hd,z9,λ_=>#[q,_,i,k,rfl,he,Ml,λ_=>?_,λn=>n nn],λn=>n nn];refine ite2 (λc=>?_) (λc=>?_)
    .refine#[OP,hS i k KK KK KK KK (λz=>by simp[z]at c) λx' y' a b c d=>?_];rcases d with d|⟨rfl,d⟩
     .exact hj x' y' a b c KK
     .exact g9 x' a KK
    .have c':p.show i k=q.show i k:=by simpa using c
     refine#[_,rfl,λx a b=>?_];by_cases e:x=i
     .rw[e];exact c'
     .exact g9 x a KK
   .rintro z⟨o5,rfl,g9⟩;k_places;rw[bB]at g9;refine#[_,_,rfl,λx y a b c d=>?_];by_cases e:y=k
    .rw[e];exact g9 x a KK
    .exact hj x y a b c KK
  .rintro z⟨o4,o5,rfl,hj⟩;k_places;rw[bB]at hj;exact hN λx y a b c d=>hj x y a b c KK
def E4:SiD:=λds R=>∃x y:Int,ds=[.int x,.int y]/\R [("y",.int y),("x",.int x)]
abbrev pd(V:Bx):Prop:=V.E 1 "Parted" nA E4
def E5(T:V.Te "Parted" "Parted.__init__" nz nA)(Og:V.b "MotifError")(uAF:V.ea "Parted")(Oh:V.xf "Parted" "x")(Oi:V.xf "Parted" "y"):pd V:=by
 refine Txe.okE T Dk (λds R h=>?_) (λf cdv A outer s H E J hr=>#[_,((yT Og uAF (ac (aa 1) (ac (aa 2) af)) (yV uAF Oh (aa 1) (Cm uAF Oi (aa 2) yR)))),λds R h=>?_])
 .obtain⟨_,_,rfl,_⟩:=h;rfl
 .obtain⟨x,y,rfl,hR⟩:=h;exact#[OP,rfl,#[(λz=>nomatch z),by show(1:Nat)<=100;decide],hR]
def E6:SpM:=λds M R _=>∃a q f p d,ds=[.ptr a,d]/\a≠q/\M=Fl.M f a q/\bg p d/\R .non ((f.stand p d).M a q)
abbrev jq(V:Bx):Prop:=V.Q 1 "Floor" "stand" nC E6
def E7(T:V.Tm "Floor" "stand" "Floor.stand" nB nC)(uE:V.a "Floor" "pattern")(E_:V.a "Floor" "text")(KN:V.a "Pattern" "text"):jq V:=by
 refine CalMth.drop (Txm.okM T Dl (λds M R RX h=>?_) (λf cdv A outer s H E J hr hx=>⟨_,((ai (bL uE (ae (aa 0)) (ae (aa 1)))
   (ao (bL E_ (ae (aa 0)) (az KN (ae (aa 1))))))),λds M R RX d0 h=>?_⟩))
 .obtain⟨_,_,⟨_,_,_,_,_,rfl,_⟩,_⟩:=h;rfl
 .obtain⟨R,RX,⟨a,q,f,p,d,rfl,ne,rfl,⟨wd,d7,sd,fs,rfl,e1,e2,fam⟩,hR⟩,rfl,rfl⟩:=h;refine#[_,Fl.ma ne,by show(6:Nat)<1000;decide,?_];rw[Fl.put ne];refine#[fs,#[rfl,rfl],_,e1,_,(dG (Ne.symm ne)).trans cy,by show(6:Nat)<1000;decide,_,?_,hR];rw[dH (Ne.symm ne),cE];exact Fl.sub (f:=f.stand p _) ne
def Fl.chg(f:Fl)(a:KF)(R:D->MS->Prop)(RX:XDM)(M:MS):D->Prop:=λd=>∃p,bg p d/\p.Ok/\(cW f.p p f.w f.l->∀q',a≠q'->R .non (((f.keep "change").stand p d).M a q'))/\∀x y,First2 f.p p f.w f.l x y->RX "Parted" [("y",.int y),("x",.int x)] M
def E8:SpM:=λds M R RX=>∃a q f t,ds=[.ptr a,.str t]/\a≠q/\M=Fl.M f a q/\f.Ok/\S_read [.str t] (f.chg a R RX M) (λx fs=>RX x fs M)
abbrev pe(V:Bx):Prop:=V.Q 19 "Floor" "change" nE E8
def E9(T:V.Tm "Floor" "change" "Floor.change" nD nE)(KO:jp V)(Oj:oZ V)(uD:V.a "Floor" "laid")(uH:V.a "Floor" "width")(uE:V.a "Floor" "pattern")(KH:iW V)(KP:jq V)(uAR:pd V):pe V:=by
 refine CalMth.drop (Txm.okM T sc_Floor_change (λds M R RX h=>?_) (λf cdv A outer s H E J hr hx=>⟨_,((ai (aD 2 sc_Floor_change.nd (aJ (CalX.toM KO) hx hr (au (ac (aa 1) af))))
   (ai (aD 3 sc_Floor_change.nd (aJ (CalD.toM Oj) hx hr (av (az uE (ae (aa 0))) (av (ae (aa 2)) (av (az uH (ae (aa 0))) (av (az uD (ae (aa 0))) aU))))))
   (ai (aT (bj (xZ (aa 3) bH)) (ao (zI uAR hr hx rfl (au (ac (ah (aa 3) ad) (ac (ah (aa 3) ad) af))))) aO)
   (ai (bq (aR (CalMth.one KH) hx hr (ae (aa 0)) (au (ac aC af))))
   (ao (bq (aR (CalMth.one KP) hx hr (ae (aa 0)) (au (ac (aa 2) af)))))))))),λds M R RX d0 h=>?_⟩))
 .obtain⟨_,_,⟨_,_,_,_,rfl,_⟩,_⟩:=h;rfl
 .obtain⟨R,RX,⟨a,q,f,t,rfl,ne,rfl,ok,hR⟩,rfl,rfl⟩:=h;have w1:=ok.w1;have w2:=ok.w2;have l0:=ok.l0;have l1:=ok.l1;have h2:=ok.h2;refine#[λd M'=>M'=f.M a q/\f.chg a R RX (f.M a q) d,S_read.mono (RX':=λ_ _=>True) hR (λd h=>#[rfl,h]),?_];rintro d _⟨rfl,p,hd,z9,hS,hP⟩;k_places;obtain⟨wd,d7,sd,fs,rfl,e1,e2,fam⟩:=hd;have hd:bg p (.obj "Pattern" fs):=#[wd,d7,sd,fs,rfl,e1,e2,fam];refine#[λc M'=>M'=f.M a q/\((c=.non/\cW f.p p f.w f.l)\/∃x y,c=.tup [.int x,.int y]/\First2 f.p p f.w f.l x y),?_,?_]
  .exact#[_,Fl.ma ne,_,fS,_,Fl.ma ne,_,eV,_,Fl.ma ne,_,dI,f.p,p,f.d,_,f.w,f.l,rfl,ok.is,hd,ok.ok,z9,JZ,JZ,l0,JZ,λh=>#[rfl,.inl #[rfl,h]],λx y h1 h2 h3 h4 h5 h6=>#[rfl,.inr #[x,y,rfl,#[h1,h2,h3,h4],h5,h6]]]
  rintro c _⟨rfl,⟨rfl,same⟩|⟨x,y,rfl,hf⟩⟩;k_places
  .refine#[_,FP.mpr rfl,_,Fl.ma ne,rfl,a,q,f,"change",rfl,ne,rfl,ok.de,λq' d6=>?_];exact#[_,FP.mpr rfl,_,Fl.ma d6,rfl,a,q',_,p,_,rfl,d6,rfl,hd,_,Fl.sub d6,hS same q' d6]
  .refine#[_,rfl,_,rfl,OP,x,y,rfl,?_];rw[d0];exact#[_,Fl.sub ne,hP x y hf]
def Fb:SpM:=λds M R _=>∃a q f p,ds=[.ptr a,.str (Pat.text p)]/\a≠q/\M=Fl.M f a q/\f.Ok/\p.Ok/\(cW f.p p f.w f.l->∀q' d,bg p d->a≠q'->R (.tup [.str "let in"]) (((f.keep "change").stand p d).M a q'))/\∀x y,First2 f.p p f.w f.l x y->R (.tup [.str "parted",.int x,.int y]) (f.M a q)
abbrev pf(V:Bx):Prop:=V.MM 20 "_law_change" nG Fb
def Fc(T:V.T "_law_change" nF nG)(Ol:pe V)(Om:V.x "y" ["Parted"])(On:V.x "x" ["Parted"])(ek:jb V):pf V:=by
 refine Tx.okM T sc__law_change (λds M R RX h=>?_) (λf cdv A outer s H E J hr hx=>⟨_,((ai (aD 2 sc__law_change.nd (ae bH))
   (ai (kH (λpn xe J hp hx=>(ao (gU (gM (aR (CalMth.one Ol) hx hr (ae (aa 0)) (au (ac (aa 1) af))) (ae bH)) (ao (aD 2 sc__law_change.nd (ae (aN (ac aC af))))) aO))) (λ_=>(za 3 ek sc__law_change.nd (λe=>(ar (aA 2 sc__law_change.nd (aN (ac aC (ac (sB On (aa 3)) (ac (sB Om (aa 3)) af))))))) kq)))
   (ao (ay (ae (aa 2))))))),λds M R RX d0 h=>?_⟩)
 .obtain⟨_,_,_,_,rfl,_⟩:=h;rfl
 .obtain⟨a,q,f,p,rfl,ne,rfl,ok,z9,hS,hP⟩:=h;refine#[λd M'=>d=.non/\M'=f.M a q,#[rfl,rfl],?_];rintro _ _⟨rfl,rfl⟩;k_places;refine#[λz M' x fs=>z=[be (.ptr a),be (.str p.text),be .non,B_]/\M'=f.M a q/\x="Parted"/\∃x y,fs=([("y",.int y),("x",.int x)]:List (Jj×D))/\First2 f.p p f.w f.l x y,λJ hJ=>?_,?_]
  .refine#[λz M'=>cW f.p p f.w f.l/\∃q' d,bg p d/\a≠q'/\z=[be (.ptr a),be (.str p.text),be (.tup [.str "let in"]),B_]/\M'=((f.keep "change").stand p d).M a q',?_,λz M' ⟨c,q',d,hd,d6,e1,e2⟩=>?_]
   .refine#[_,FP.mpr rfl,_,Fl.ma ne,rfl,a,q,f,p.text,rfl,ne,rfl,ok,ui (RX:=λ_ _=>True) z9 λd hd=>#[p,hd,z9,λc q' d6=>?_,λx y hf=>by rw[hJ];exact#[rfl,rfl,rfl,x,y,rfl,hf]]];dsimp only[mP,dC,rdIs,jW,id];rw[if_pos rfl];refine#[λe M'=>e=.tup [.str "let in"]/\M'=((f.keep "change").stand p d).M a q',#[Lg,rfl,rfl],?_];rintro _ _⟨rfl,rfl⟩;k_places;exact#[c,q',d,hd,d6,rfl,rfl]
   .subst e1 e2;exact hS c q' d hd d6
  .rintro z M' x fs⟨rfl,rfl,rfl,x,y,rfl,hf⟩;k_places;refine#[#[J8,J8],?_];rw[if_pos J3];refine#[λd=>d=.tup [.str "parted",.int x,.int y],#[FP.mpr rfl,_,rfl,FP.mpr rfl,_,rfl,by show(3:Nat)<=1000;decide,rfl],?_];rintro _ rfl;k_places;exact#[hP x y hf,NoOwn.of rfl]
def Fl.undone(f:Fl)(e:Deed)(es:List Deed):Fl:={f with p:=e.p,d:=e.d,l:=e.l,ds:=es}
def Fd:SpM:=λds M R RX=>∃a q f,ds=[.ptr a]/\a≠q/\M=Fl.M f a q/\(f.ds=[]->RX "NothingKept" [] (f.M a q))/\∀es e,f.ds=es++[e]->bg e.p e.d/\R (.str e.w) ((f.undone e es).M a q)
abbrev ph(V:Bx):Prop:=V.Q 2 "Floor" "undo" nI Fd
def Fe(T:V.Tm "Floor" "undo" "Floor.undo" nH nI)(uB:V.m "len")(uO:V.a "Floor" "deeds")(uD:V.a "Floor" "laid")(KP:jq V)(Oo:V.n "NothingKept"):ph V:=by
 refine CalMth.drop (Txm.okM T sc_Floor_undo (λds M R RX h=>?_) (λf cdv A outer s H E J hr hx=>⟨_,((ai (aT (fz (kz uB (az uO (ae (aa 0)))) (ae ad)) (ao (sO Oo hx rfl (au (ac aC af)))) aO)
   (ai (aD 1 sc_Floor_undo.nd (Cu (az uO (ae (aa 0)))))
   (ai (bq (aR (CalMth.one KP) hx hr (ae (aa 0)) (au (ac (ah (aa 1) ad) af))))
   (ai (bL uD (ae (aa 0)) (ae (ah (aa 1) ad)))
   (ao (ay (ae (ah (aa 1) ad))))))))),λds M R RX d0 h=>?_⟩))
 .obtain⟨_,_,⟨_,_,_,rfl,_⟩,_⟩:=h;rfl
 .obtain⟨R,RX,⟨a,q,f,rfl,ne,rfl,hX,hR⟩,rfl,rfl⟩:=h;refine#[_,Fl.ma ne,_,iR,_,Fl.mq,ite2 (λc=>?_) (λc=>?_)]
  .have c':=of_decide_eq_true c;rw[F4]at c';refine#[Lg,?_];rw[d0];exact#[_,Fl.sub ne,hX (GZ JZ)]
  have c':f.ds≠[]:=λz=>c (decide_eq_true (by rw[z];rfl));obtain⟨es,e,he⟩:∃es e,f.ds=es++[e]:=#[_,_,(List.dropLast_concat_getLast c').symm];obtain⟨hi,hR⟩:=hR es e he;have q1:f.ds.map Deed.D=es.map Deed.D++[e.D]:=by rw[he,Gc];rfl
  refine#[λd M'=>d=e.D/\M'=Fl.M {f with ds:=es} a q,#[_,Fl.ma ne,_,iR,_,e.D,Fl.mq,by rw[q1];simp,rfl,?_],?_]
  .rw[show f.M a q=[(q,.lst (f.ds.map Deed.D)),(a,.ins "Floor" (f.fs q))]from rfl,cE,q1,List.dropLast_concat];rfl
  rintro _ _⟨rfl,rfl⟩;k_places;refine#[_,FP.mpr rfl,_,Fl.ma ne,rfl,_,rfl,a,q,_,e.p,e.d,rfl,ne,rfl,hi,?_];refine#[_,rfl,_,Fl.ma ne,by show(6:Nat)<1000;decide,_,rfl,_,?_,hR];rw[Fl.put ne];exact Fl.sub (f:=f.undone e es) ne
def Ff:SpM:=λds M R _=>∃a q f,ds=[.ptr a]/\a≠q/\M=Fl.M f a q/\(f.ds=[]->R (.tup [.str "nothing"]) (f.M a q))/\∀es e,f.ds=es++[e]->bg e.p e.d/\R (.str e.w) ((f.undone e es).M a q)
def Fl.Ok.undone{e:Deed}{es:List Deed}(ok:f.Ok)(h:f.ds=es++[e]):(f.undone e es).Ok:=by
 have hl:=ok.de;rw[h,F9]at hl;obtain⟨i,o,a,b⟩:=ok.dd e (by rw[h];exact Ge _ (FP.mpr rfl));exact#[i,o,ok.w1,ok.w2,ok.h1,ok.h2,a,b,FY (Nat.le_add_right _ _) hl,λx hx=>ok.dd x (by rw[h];exact G8 _ hx)]
abbrev pi(V:Bx):Prop:=V.MM 3 "_law_undo" nK Ff
def Fg(T:V.T "_law_undo" nJ nK)(Op:ph V)(ek:jb V):pi V:=by
 refine Tx.okM T sc__law_undo (λds M R RX h=>?_) (λf cdv A outer s H E J hr hx=>⟨_,((ai (aD 1 sc__law_undo.nd (ae bH))
   (ai (kH (λpn xe J hp hx=>(ao (aD 1 sc__law_undo.nd (bX (CalMth.one Op) hx hr (ae (aa 0)))))) (λ_=>(sA ek (λe=>(ar (aA 1 sc__law_undo.nd (aN (ac aC af))))) kq)))
   (ao (ay (ae (aa 1))))))),λds M R RX d0 h=>?_⟩)
 .obtain⟨_,_,_,rfl,_⟩:=h;rfl
 .obtain⟨a,q,f,rfl,ne,rfl,hX,hR⟩:=h;refine#[λd M'=>d=.non/\M'=f.M a q,#[rfl,rfl],?_];rintro _ _⟨rfl,rfl⟩;k_places;refine#[λz M' x fs=>z=[be (.ptr a),be .non]/\M'=f.M a q/\x="NothingKept"/\f.ds=[],λJ hJ=>?_,?_]
  .refine#[λd M'=>∃es e,f.ds=es++[e]/\d=.str e.w/\M'=(f.undone e es).M a q,#[_,FP.mpr rfl,_,Fl.ma ne,rfl,a,q,f,rfl,ne,rfl,λc=>by rw[hJ];exact#[rfl,rfl,rfl,c],λes e h=>#[(hR es e h).1,es,e,h,rfl,rfl]],?_];rintro _ _⟨es,e,h,rfl,rfl⟩;k_places;exact(hR es e h).2
  .rintro z M' x fs⟨rfl,rfl,rfl,c⟩;k_places;refine#[#[J8,J8],?_];rw[if_pos J3];refine#[λd=>d=.tup [.str "nothing"],#[Lg,rfl],?_];rintro _ rfl;k_places;exact#[hX c,NoOwn.of rfl]
def S__law_next:SpM:=λds M R _=>∃(a q:KF) (f:Fl) (dr:Int) (ps:List Pat) (s:Nat) (hs:List (Nat×Int)),ds=[.ptr a,.int dr,StD f s hs,.lst (ps.map (EntD f.w f.h))]/\a≠q/\M=f.M a q/\f.Ok/\0<=dr/\ps.length=3/\(∀p∈ps,p.Ok)/\ps[s]?=be f.p/\Hist ps f.ds hs/\f.ds.length<=19/\
 ∀(g:Fl) q' s' i6,a≠q'->g.Ok->g.w=f.w->g.h=f.h->ps[s']?=be g.p->Hist ps g.ds i6->g.ds.length<=f.ds.length+1->R (StD g s' i6) (g.M a q')
abbrev pj(V:Bx):Prop:=V.MM 21 "_law_next" nN S__law_next
def ok__law_next(T:V.T "_law_next" nM nN)(Oq:oO V)(Ot:oP V)(Ou:pf V)(Ov:pi V):pj V:=by
 refine Tx.okM T sc__law_next (λds M R RX h=>?_) (λf cdv A outer s H E J hr hx=>⟨_,((ai (sX (λ_=>(rT rfl (aa 2) (dg_cons 4 sc__law_next.nd (dg_cons 5 sc__law_next.nd (dg_cons 6 sc__law_next.nd (dg_cons 7 sc__law_next.nd df)))))))
   (ai (aT (bj (bD (aH (aa 1) ad) ad)) (ai (aD 8 sc__law_next.nd (ae (aB ad (aH (bx (aa 1) ad) ad))))
    (ai (aD 9 sc__law_next.nd (fv (aJ Oq hx hr (au (ac (aa 0) (ac (aa 8) (ac bt af))))) (ae ad)))
    (ai (aT (bj (cr (aa 9) (xT (aa 8) (bw (ah (aa 4) ad) (aa 6))))) (ao (ay (ae bH))) aO)
    (ai (aT (bj (cI (aa 9))) (ao (ay (ae (aa 2)))) aO)
    (ao (ay (ae (bp (ac (aa 4) (ac (aa 5) (ac (aB (aa 6) (aa 8)) (ac (aB (aa 7) (bp (ac (aN (ac (aa 5) (ac (aa 6) af))) af))) af)))))))))))) aO)
   (ai (aT (bj (bD (aH (aa 1) ad) ad)) (ai (aD 10 sc__law_next.nd (ae (aH (bx (aa 1) ad) ad)))
    (ai (aD 11 sc__law_next.nd (ae (xV (aI Ot hr (ac (dq (ah (ah (aa 3) (aa 5)) ad) dh (dm (aa 6))) (ac (ah (ah (aa 3) (aa 10)) ad) af))) bH)))
    (ai (aT (fA (vg (dQ hr) (aJ Ou hx hr (au (ac (aa 0) (ac (ah (ah (aa 3) (aa 10)) ad) af)))) (ae (aN (ac aC af)))) (ae (aa 11))) (ao (ay (ae bH))) aO)
    (ai (aT (bj (fo (cI (aa 11)))) (ao (ay (ae (aa 2)))) aO)
    (ao (ay (ae (bp (ac (aa 4) (ac (aa 10) (ac (aa 6) (ac (aB (aa 7) (bp (ac (aN (ac (aa 5) (ac (aa 6) af))) af))) af)))))))))))) aO)
   (ai (aT (fA (vg (dQ hr) (aJ Ov hx hr (au (ac (aa 0) af))) (ae (aN (ac aC af)))) (ae (CI (dQ hr) (aa 7) (bp af)))) (ao (ay (ae bH))) aO)
   (ai (aT (bj (CJ (dQ hr) (aa 7) (bp af))) (ao (ay (ae (aa 2)))) aO)
   (ao (ay (ae (bp (ac (aa 4) (ac (ah (ah (aa 7) (cq ad)) ad) (ac (ah (ah (aa 7) (cq ad)) ad) (ac (dq (aa 7) dh (dm (cq ad))) af)))))))))))))),λds M R RX d0 h=>?_⟩)
 .obtain⟨_,_,_,_,_,_,_,rfl,_⟩:=h;rfl
 .obtain⟨a,q,f,dr,ps,s,hs,rfl,ne,rfl,ok,RK,p3,Kr,es,hh,PH,hR⟩:=h;have l0:=ok.l0;have l1:=ok.l1;have h2:=ok.h2;have w1:=ok.w1;have w2:=ok.w2;refine#[rfl,?_,NoOwn.of rfl];refine#[J7,ite2 (λ_=>?_) (λ_=>?_)]
  .refine#[λd M'=>M'=f.M a q/\∃n:Int,d=.int n/\1<=n/\n<=3,#[J7,J7,rfl,_,rfl,JZ,JZ],?_];rintro _ _⟨rfl,n,rfl,n1,n3⟩;k_places;refine#[λd M'=>(f.h-f.l<n/\d=.bl true/\M'=f.M a q)\/(n<=f.h-f.l/\d=.bl false/\∃q',a≠q'/\M'=(f.lay n).M a q'),#[a,q,f,n,true,rfl,ne,rfl,ok,n1,JZ,λc=>#[_,rfl,.inl #[c,rfl,rfl]],λc q' d6=>#[_,rfl,.inr #[c,rfl,q',d6,rfl]]],?_];rintro _ _ (⟨c,rfl,rfl⟩|⟨c,rfl,q',d6,rfl⟩);k_places
   .refine#[_,rfl,ite2 (λz=>absurd z (by simp[c])) (λ_=>?_)];exact hR f q s hs ne ok rfl rfl es hh JZ
   .refine#[_,rfl,ite2 (λz=>absurd z Sc) (λ_=>?_)];refine#[OP,Lg,by have:=iS hh;show(hs.map HD).length+1<=1000000;rw[F4];lia,by show(4:Nat)<=1000;decide,?_];have:=hR (f.lay n) q' s (hs++[(s,f.l)]) d6 (ok.lay JZ c) rfl rfl es (vm hh es PH) (vn f "lay");unfold StD at this;rw[Gc]at this;exact this
  obtain⟨r,er⟩:∃r,ps[(dr/3%3).toNat]?=be r:=#[_,Gb JZ];have JT:=Kr r (GS er);refine#[J7,ite2 (λ_=>?_) (λ_=>?_)]
  .refine#[λd M'=>M'=f.M a q/\d=.int (dr/3%3).toNat,#[J7,J7,rfl,by rw[Gg JZ]],?_];rintro _ _⟨rfl,rfl⟩;k_places;have LR:=vk (p:=f.p) (w:=f.w) (lo:=0) (n:=f.h.toNat) (k:=f.l.toNat) JZ;rw[Gg l0]at LR;refine#[λd M'=>M'=f.M a q/\((d=.bl true/\cW f.p r f.w f.l)\/(d=.bl false/\∃x y,First2 f.p r f.w f.l x y)),#[_,fT (EntD f.w f.h) es,_,rfl,_,fT (EntD f.w f.h) er,_,rfl,f.p,r,f.w,f.l.toNat,f.h.toNat,?_,ok.ok,JT,JZ,JZ,JZ,JZ,λsm=>#[rfl,.inl #[rfl,by rw[Gg l0]at sm;exact sm]],λx y f2=>#[rfl,.inr #[rfl,x,y,by rw[Gg l0]at f2;exact f2]]],?_]
   .show[D.lst (cutD (aw f.p f.w 0 f.h.toNat) B_ (be f.l)),_]=_;rw[LR]
   rintro _ _⟨rfl,⟨rfl,sm⟩|⟨rfl,x,y,f2⟩⟩;k_places
   .refine#[_,fT (EntD f.w f.h) er,_,rfl,a,q,f,r,rfl,ne,rfl,ok,JT,λ_ q' d is d6=>?_,λx y f2=>(First2.not f2 sm).elim];refine#[Lg,#[rfl,rfl],?_];refine#[OP,Lg,by have:=iS hh;show(hs.map HD).length+1<=1000000;rw[F4];lia,by show(4:Nat)<=1000;decide,?_];have:=hR ((f.keep "change").stand r d) q' (dr/3%3).toNat (hs++[(s,f.l)]) d6 ((ok.keep _).stand is JT) rfl rfl er (vm hh es PH) (vn f "change");unfold StD at this;rw[Gc]at this;exact this
   .refine#[_,fT (EntD f.w f.h) er,_,rfl,a,q,f,r,rfl,ne,rfl,ok,JT,λsm=>(First2.not f2 sm).elim,λx y f2=>?_];exact#[Lg,#[rfl,rfl],hR f q s hs ne ok rfl rfl es hh JZ]
  refine#[a,q,f,rfl,ne,rfl,λh0=>?_,λJE e he=>#[(ok.dd e (by rw[he];exact Ge _ (FP.mpr rfl))).1,?_]]
  .have e0:hs=[]:=GZ (by rw[iS hh,h0];rfl);subst e0;exact#[Lg,#[rfl,rfl],J7,rfl,J7,rfl,hR f q s [] ne ok rfl rfl es hh JZ]
  .obtain⟨i6,x,rfl,ex,el,Lr⟩:=DJ hh he;have hx:=ok.dd e (by rw[he];exact Ge _ (FP.mpr rfl));refine#[Lg,J7,rfl,?_];rw[show((i6++[x]).map HD).isEmpty=false by simp];refine#[J7,rfl,?_];rw[show((i6++[x]).map HD).isEmpty=false by simp];have JU:atI ((i6++[x]).map HD) (-1)=be (HD x):=by
    rw[Gc];exact DK
   have LS:cutD ((i6++[x]).map HD) B_ (be (-1))=i6.map HD:=by
    rw[Gc];exact DL
   refine#[_,JU,_,rfl,_,JU,_,rfl,by show(4:Nat)<=1000;decide,?_];have:=hR (f.undone e JE) q x.1 i6 ne (ok.undone he) rfl rfl ex Lr (by show JE.length<=_;rw[he,F9];lia);unfold StD at this;rw[<-LS]at this;rw[el];exact this
abbrev jr(V:Bx):Prop:=V.D 1 "_law_whole" nP AG
def Fh(T:V.T "_law_whole" nO nP)(uQ:V.m "isinstance")(Ow:V.m "bool")(uK:V.m "int"):jr V:=by
 refine Tx.okDW T Dm (λds R h=>?_) (λf cdv A outer s H E J hr=>#[_,((ar (aE (gw (fq uQ uK (aa 0) PyProof.Rows.boot_int yd) (gv (yc (fq uQ Ow (aa 0) PyProof.Rows.boot_bool kit_bool))))))),λds R h=>?_])
 .obtain⟨i,rfl,_⟩:=h;rfl
 .obtain⟨i,rfl,hR⟩:=h;exact hR
def Fi:SpD:=λds R=>∃(p:Pat) (w lo:Int) (n:Nat),ds=[.lst (aw p w lo n),.lst (aw p w lo n)]/\n<=1000/\R (.bl true)
abbrev pk(V:Bx):Prop:=V.D 1 "_law_texts" nR Fi
def Fj(T:V.T "_law_texts" nQ nR)(uB:V.m "len")(uQ:V.m "isinstance")(KQ:V.m "list")(uA:V.m "range")(uY:V.m "str"):pk V:=by
 refine Tx.okDW T sc__law_texts (λds R h=>?_) (λf cdv A outer s H E J hr=>⟨_,((aq (bK (dW (gu (fo (cI (fq uQ KQ (aa 0) PyProof.Rows.boot_list kit_list))) (gq (cr (bQ uB (ac (aa 0) af)) (bQ uB (ac (aa 1) af)))))) (ar (aE bt)) bz)
   (aq (bV 2 PassesOwn.never rfl sc__law_texts.nd uA (bQ uB (ac (aa 1) af)) (ar (bK (dW (gu (fo (cI (fq uQ uY (ah (aa 0) (aa 2)) PyProof.Rows.boot_str kit_str))) (gq (cr (ah (aa 0) (aa 2)) (ah (aa 1) (aa 2)))))) (ar (aE bt)) bz)))
   (ar (aE bt))))),λds R h=>?_⟩)
 .obtain⟨_,_,_,_,rfl,_⟩:=h;rfl
 .obtain⟨p,w,lo,n,rfl,n7,hR⟩:=h;have lp:(aw p w lo n).length=n:=by unfold aw;simp
  refine ite2 (λc=>absurd c J8) λ_=>?_;refine#[#[JZ,by rw[lp];lia],λk z=>∃o,z=[be (.lst (aw p w lo n)),be (.lst (aw p w lo n)),o],#[_,rfl],?_,?_]
  .rintro k v z hk⟨o,rfl⟩;k_places;obtain⟨m8,rfl⟩:=bE hk;rw[lp]at m8;have ak:=oC (p:=p) (w:=w) (lo:=lo) (show k<n by lia);exact#[_,ak,_,ak,_,ak,ite2 (λc=>absurd c J8) λ_=>#[_,rfl]]
  .rintro z⟨o,rfl⟩;k_places;exact hR
def Fk:SpD:=λds R=>∃xs:List Int,ds=[.lst (xs.map D.int),.lst (xs.map D.int)]/\xs.length=7/\R (.bl true)
abbrev pq(V:Bx):Prop:=V.D 2 "_law_seven" nU Fk
def Fo(T:V.T "_law_seven" nS nU)(uB:V.m "len")(uQ:V.m "isinstance")(KQ:V.m "list")(uA:V.m "range")(JV:jr V):pq V:=by
 refine Tx.okDW T sc__law_seven (λds R h=>?_) (λf cdv A outer s H E J hr=>⟨_,((aq (bK (dW (gu (fo (cI (fq uQ KQ (aa 0) PyProof.Rows.boot_list kit_list))) (gq (cr (bQ uB (ac (aa 0) af)) ad)))) (ar (aE bt)) bz)
   (aq (bV 2 PassesOwn.never rfl sc__law_seven.nd uA ad (ar (bK (dW (gu (fo (cI (aI JV hr (ac (ah (aa 0) (aa 2)) af)))) (gq (cr (ah (aa 0) (aa 2)) (ah (aa 1) (aa 2)))))) (ar (aE bt)) bz)))
   (ar (aE bt))))),λds R h=>?_⟩)
 .obtain⟨_,rfl,_⟩:=h;rfl
 .obtain⟨xs,rfl,x7,hR⟩:=h;refine ite2 (λc=>absurd c (by simp[x7])) λ_=>?_;refine#[#[J7,J7],λk z=>∃o,z=[be (.lst (xs.map D.int)),be (.lst (xs.map D.int)),o],#[_,rfl],?_,?_]
  .rintro k v z hk⟨o,rfl⟩;k_places;obtain⟨m8,rfl⟩:=bE hk;have k7:k<7:=m8;have ak:atI (xs.map D.int) (k:Int)=be (.int (xs[k]' KK)):=bP (by rw[F6,Gb KK];rfl);exact#[_,ak,_,rfl,_,ak,_,ak,ite2 (λc=>absurd c J8) λ_=>#[_,rfl]]
  .rintro z⟨o,rfl⟩;k_places;exact hR
def Fp:SpD:=λds R=>∃(p:Pat) (w lo:Int) (n:Nat),ds=[.lst (aw p w lo n)]/\p.Ok/\0<=w/\w<=30/\n<=30/\R (.lst ((cC p 0 lo w.toNat n).map D.int))
abbrev pr(V:Bx):Prop:=V.D 1 "_law_counts" nW Fp
def Fq(T:V.T "_law_counts" nV nW):pr V:=by
 refine Tx.okDW T sc__law_counts (λds R h=>?_) (λf cdv A outer s H E J hr=>⟨_,((aq (gy 1 sc__law_counts.nd (ac ad (ac ad (ac ad (ac ad (ac ad (ac ad (ac ad af))))))))
   (aq (rL 2 PassesOwn.never rfl sc__law_counts.nd (aa 0) (ar (zn 3 PassesOwn.never rfl sc__law_counts.nd (aa 2) (ar (Ax 1 (sG aC (ac (aa 3) af)) ad)))))
   (dY 1 (ar (aE (aa 1))))))),λds R h=>?_⟩)
 .obtain⟨_,_,_,_,rfl,_⟩:=h;rfl
 .obtain⟨p,w,lo,n,rfl,ok,w0,w7,n7,hR⟩:=h;have e0:([.int 0,.int 0,.int 0,.int 0,.int 0,.int 0,.int 0]:List D)=(due7 p 0 lo w.toNat 0 0).map D.int:=rfl;refine#[J7,?_];refine#[λk z=>∃o1 o2,z=[be (.lst (aw p w lo n)),be (.own ((due7 p 0 lo w.toNat k 0).map D.int)),o1,o2],#[_,_,rfl],?_,?_]
  .rintro k v z hk⟨o1,o2,rfl⟩;k_places;obtain⟨m8,rfl⟩:=Dy hk;refine#[DB ok 0 (lo+k) w.toNat,λi z=>∃o2,z=[be (.lst (aw p w lo n)),be (.own ((due7 p 0 lo w.toNat k i).map D.int)),be (.str (aF p 0 (lo+k) w.toNat)),o2],#[_,rfl],?_,?_]
   .rintro i v z hi⟨o2,rfl⟩;k_places;obtain⟨v4,rfl⟩:=DC hi;obtain⟨u,u7,eu,e3,e4⟩:=Dv ok 0 lo w.toNat k i;obtain⟨rest,ho⟩:=DD u7;rw[eu];refine#[u,rest,ho,_,JZ,by rw[F6,GR,e3];rfl,?_];rw[GR];exact#[_,by rw[<-e4];rfl]
   .rintro z⟨o2,rfl⟩;k_places;refine#[be (.str (aF p 0 (lo+k) w.toNat)),o2,?_];rw[eD,cv,Dw]
  .rintro z⟨o1,o2,rfl⟩;k_places;rw[show(aw p w lo n).length=n by unfold aw;simp,Dx];exact hR
abbrev pv(V:Bx):Prop:=V.D 10 "field_rows" nX B0
def Fs(T:V.T "field_rows" iO nX)(uA:V.m "range")(KG:iZ V)(D_:V.a "Pattern" "shifts"):pv V:=by
 refine Tx.okDW T Dn (λds R h=>?_) (λf cdv A outer s H E J hr=>#[_,((ar (aE (gD rfl (compScope (by change cN _ (ag iO) ["pattern"] _=true;decide+kernel)) uA (ah (et D_ (aa 0)) ad) (λcl s0 H0 fp=>(aI KG hr (ac (aa 0) (ac ad (ac (aa 1) (ac (ah (et D_ (aa 0)) ad) af)))))))))),λds R h=>?_])
 .obtain⟨_,_,rfl,_⟩:=h;rfl
 .obtain⟨p,d,rfl,hd,ok,hR⟩:=h;obtain⟨w,h,s,fs,rfl,e1,e2,hp⟩:=id hd;have F:=hp.toFam;have sm:=ok.fits.small F;have wh:w*h<=720:=by
   obtain⟨w',h',s',f',hb⟩:=ok.fits;obtain⟨rfl,rfl,_⟩:=F.uniq f';exact hb
  refine#[rfl,_,e2,_,rfl,#[JZ,JZ],by rw[bB];lia,λk ys=>ys=(FQ k).map λ(y:Nat)=>D.str (aF p 0 (y:Int) w.toNat),rfl,?_,?_]
  .rintro k v ys hk hl rfl;obtain⟨m8,rfl⟩:=bE hk;refine#[rfl,_,e2,_,rfl,p,.obj "Pattern" fs,0,k,w.toNat,by rw[Gg JZ],hd,ok,JZ,#[JZ,JZ],#[JZ,JZ],#[JZ,JZ],?_];show _=Hw _ (FQ (k+1));rw[GV,Gc];rfl
  .rintro ys hl rfl;rw[bB];exact hR w h s F wh sm.2.1 sm.2.2.2.1
abbrev C_round_row(V:Bx):Prop:=V.D 2 "round_row" nZ B1
def Ft(T:V.T "round_row" nY nZ)(uZ:eX V):C_round_row V:=by
 refine Tx.okDW T sc_round_row (λds R h=>?_) (λf cdv A outer s H E J hr=>⟨_,((aq (aA 4 sc_round_row.nd (aI uZ hr (ac (aa 0) (ac (aa 2) (ac (aa 3) af)))))
   (aq (aA 5 sc_round_row.nd (ah (aa 1) (ah (aa 4) ad)))
   (ar (aE (aB (dq (aa 5) (dm (ah (aa 4) ad)) dh) (dq (aa 5) dh (dm (ah (aa 4) ad))))))))),λds R h=>?_⟩)
 .obtain⟨_,_,_,_,_,_,rfl,_⟩:=h;rfl
 .obtain⟨p,w,h,s,x,y,rfl,F,w7,h7,hR⟩:=h;have f:=F.f;have y0:=G0 y (show h≠0 by have:=f.h0;lia);have y1:=G1 y f.h0;refine#[λd=>d=.tup [.int (hmX w h s x y),.int (y%h)],#[w,h,s,x,y,rfl,f.w0,f.h0,JZ,f.s0,by have:=f.sw;lia,rfl],?_];rintro _ rfl;k_places;refine#[λd=>d=.str (aF p 0 (y%h) w.toNat),#[_,rfl,_,?_,rfl],?_]
  .have e:y%h=(((y%h).toNat:Nat):Int):=by lia
   rw[e];exact bP (by rw[F6,Gr JZ];simp)
  rintro _ rfl;k_places;have l:=cv p 0 (y%h) w.toNat;refine#[_,rfl,JZ,_,rfl,JZ,?_];have e:=BZ f.w0 f.h0 (λ_ _ q=>F.keeps q) x y;refine#[?_,?_]
  .rw[<-br,<-br,<-F9,<-bv,e,cM];simp;lia
  .rw[e];exact hR
abbrev pw(V:Bx):Prop:=V.D 1 "count_sign" og B8
def Fu(T:V.T "count_sign" oa og)(uB:V.m "len"):pw V:=by
 refine Tx.okDW T Do (λds R h=>?_) (λf cdv A outer s H E J hr=>#[_,((ar (aE (aB (aL (bx (aa 2) (bQ uB (ac (aa 0) af))) (sZ (aa 0) (ac (aa 1) af))) (sZ (dq (aa 0) dh (dm (aH (aa 2) (bQ uB (ac (aa 0) af))))) (ac (aa 1) af)))))),λds R h=>?_])
 .obtain⟨_,_,_,_,_,_,rfl,_⟩:=h;rfl
 .obtain⟨p,x,y,v,m,w,rfl,ok,v0,v6,w0,w7,m0,m1,kw,hR⟩:=h;have l:=cv p x y w;have q0:0<=m/(w:Int):=Ie m0 JZ;have q1:m/(w:Int)<=m:=Ig _ m0;have r0:=G0 m (show(w:Int)≠0 by lia);have r1:=G1 m (show 0<(w:Int)by lia);have er:m%(w:Int)=(((m%(w:Int)).toNat:Nat):Int):=by lia
  have e2:Txt.slice (aF p x y w) B_ (be (m%(w:Int)))=aF p x y (m%(w:Int)).toNat:=by
   rw[er,B7 p x y JZ];rfl
  refine#[JZ,#[by rw[l];lia,by rw[l];lia],.inl #[by rw[l];lia,by rw[l];lia],JZ,by rw[l];lia,JZ,?_];show R (.int (m/((aF p x y w).length:Int)*occC (aF p x y w) (aP v)+occC (Txt.slice (aF p x y w) B_ (be (m%((aF p x y w).length:Int)))) (aP v)));rw[l,e2,ut ok x y v0 v6,ut ok x y v0 v6];have Ky:∀k:Nat,(λk:Nat=>p.show (x+k) y) (k+w)=(λk:Nat=>p.show (x+k) y) k:=λk=>by
   have:=kw (x+k) y;rw[Hh]at this;show p.show (x+((k+w:Nat):Int)) y=p.show (x+(k:Int)) y;rw[<-this,Hg,Ib]
  have:=B4 (f:=λk:Nat=>p.show (x+k) y) w0 Ky v m.toNat;have d1:m/(w:Int)=((m.toNat/w:Nat):Int):=by rw[Int.natCast_ediv,Gg m0]
  have d2:(m%(w:Int)).toNat=m.toNat%w:=by
   have:m%(w:Int)=((m.toNat%w:Nat):Int):=by rw[IY,Gg m0]
   lia
  rw[d1,d2,this];exact hR
abbrev js(V:Bx):Prop:=V.X 11 "count_all" oh Cg
def Fv(T:V.T "count_all" iP oh)(JB:V.m "max")(uA:V.m "range")(Ox:V.m "min")(Ko:V.m "enumerate")(Km:iX V)(Oy:pv V)(Oz:C_round_row V)(OA:pw V)(uP:V.gs "SIGNS" ".123456")(D_:V.a "Pattern" "shifts"):js V:=by
  refine Tx.okXW T sc_count_all (λds R RX h=>?_) (λf cdv A outer s H E J hr hx=>⟨_,((aq (rH (ss Km hx hr (ac (aa 1) (ac (aa 2) af))))
      (aq (rH (ss Km hx hr (ac (aa 3) (ac (aa 4) af))))
      (aq (aA 5 sc_count_all.nd (et D_ (aa 0)))
      (aq (aA 6 sc_count_all.nd (aI Oy hr (ac (aa 0) af)))
      (aq (aA 7 sc_count_all.nd (kg rfl JB (ac (aB (bw (aa 3) (aa 1)) ad) (ac ad af))))
      (aq (aA 8 sc_count_all.nd (aL (ah (aa 5) ad) (ah (aa 5) ad)))
      (aq (Ap 9 rfl (compScope (by change cN _ (ag iP) ["pattern","left","top","right","bottom","family","rows","many","again","counts","y","times","row","hue","sign"] _=true;decide+kernel)) sc_count_all.nd (eB uP) (λcl s0 H0 fp=>ad))
      (aq (yJ 10 PassesOwn.leaving rfl sc_count_all.nd uA (aa 2) (yr rfl Ox (ac (aB (aa 4) ad) (ac (aB (aa 2) (aa 8)) af))) (aq (aA 11 sc_count_all.nd (aB (bx (bw (aa 4) (aa 10)) (aa 8)) ad))
        (aq (aA 12 sc_count_all.nd (aI Oz hr (ac (aa 5) (ac (aa 6) (ac (aa 1) (ac (aa 10) af))))))
        (ar (Au PassesOwn.leaving rfl Ko (eB uP) (dg_cons 13 sc_count_all.nd (dg_cons 14 sc_count_all.nd df)) (ar (yL 9 (aB (yx 9 (aa 13)) (aL (aa 11) (aI OA hr (ac (aa 12) (ac (aa 14) (ac (aa 7) af)))))) (aa 13))))))))
      (dY 9 (ar (aE (aa 9))))))))))))),λds R RX d0 h=>?_⟩)
  . obtain⟨_,_,_,_,_,_,rfl,_⟩:=h;rfl
  . obtain⟨p,d,left,top,right,a_,rfl,hd,ok,hR,hX⟩:=h;obtain⟨w,h,s,fs,rfl,e1,e2,hp⟩:=id hd;have F:=hp.toFam;have sm:=ok.fits.small F;refine#[left,top,rfl,λn1=>?_,λn1=>by rw[d0];exact hX λz=>n1 #[z.1,z.2.1]];refine#[right,a_,rfl,λn2=>?_,λn2=>by rw[d0];exact hX λz=>n2 #[z.2.2.1,z.2.2.2]];have hR:=hR #[n1.1,n1.2,n2.1,n2.2];unfold aZ at n1 n2;refine#[λd=>d=.tup [.int w,.int h,.int s],#[rfl,_,e2,rfl],?_];rintro _ rfl;k_places;refine#[λd=>d=fM p w h/\w*h<=720,#[p,_,rfl,hd,ok,λw' h' s' F' hb _ _=>by obtain⟨rfl,rfl,rfl⟩:=F.uniq F';exact#[rfl,hb]],?_];rintro _⟨rfl,hb⟩;k_places;refine#[λd=>d=.int ((right-left+1).toNat:Nat),congrArg D.int (Cf _),?_];rintro _ rfl;k_places;have Rg:0<w*h:=Gf F.f.w0 F.f.h0;refine#[λd=>d=.int (w*h),#[_,rfl,_,rfl,.inl #[JZ,JZ],rfl],?_];rintro _ rfl;k_places;generalize hm:(right-left+1).toNat=m at*;generalize hn:(a_-top+1).toNat=n at*;generalize hN:(w*h).toNat=N at*;refine#[J3,J3,λk ys=>ys=Gu k (D.int 0),rfl,?_,?_]
    . rintro k v ys hk hl rfl;show _=Gu (k+1) _;rw[List.replicate_succ']
    rintro ys hl rfl;have wN:w*h=(N:Int):=JZ
    have v4:=Cb (top:=top) hn wN;have RL:=uw n1.1 n2.1 hm;have RN:=uw n1.2 n2.2 hn;refine#[Cd #[n1.2.1,n1.2.2] #[n2.2.1,n2.2.2] Rg hb,λk z=>∃F_ G' G_ p6 p7,z=[be (.obj "Pattern" fs),be (.int left),be (.int top),be (.int right),be (.int a_),be (.tup [.int w,.int h,.int s]),be (fM p w h),be (.int m),be (.int (w*h)),be (.own ((FQ 7).map λ(v:Nat)=>D.int (bY p left top m n N k v))),F_,G',G_,p6,p7],#[B_,B_,B_,B_,B_,?_],?_,?_]
    . have e7:(bJ (".123456":Jj)).length=7:=by decide+kernel
      rw[e7];rfl
    . rintro k v z hk⟨F_,G',G_,p6,p7,rfl⟩;k_places;obtain⟨m8,rfl⟩:=range2_int hk;rw[v4]at m8;refine#[λd=>d=.int (((n:Int)-1-k)/N+1),#[#[JZ,JZ],?_],?_]
      . rw[wN];congr 3;exact Ce hn m8
      rintro _ rfl;k_places;refine#[λd=>d=.str (aF p left (top+k) w.toNat),#[p,w,h,s,left,top+k,rfl,F,sm.2.1,sm.2.2.2.1,rfl],?_];rintro _ rfl;k_places;refine#[J3,λi z=>∃p6 p7,z=[be (.obj "Pattern" fs),be (.int left),be (.int top),be (.int right),be (.int a_),be (.tup [.int w,.int h,.int s]),be (fM p w h),be (.int m),be (.int (w*h)),be (.own ((FQ 7).map λ(v:Nat)=>D.int (if v<i then bY p left top m n N (k+1) v else bY p left top m n N k v))),be (.int (top+k)),be (.int (((n:Int)-1-k)/N+1)),be (.str (aF p left (top+k) w.toNat)),p6,p7],#[_,_,rfl],?_,?_]
      . rintro i v z hi⟨p6,p7,rfl⟩;k_places;rw[Ca]at hi;have i7:i<7:=by simpa using(F7.mp hi).1
        have ev:v=.str #[[aP (i:Int)].toArray]:=by
          rw[F6,Gr i7]at hi;exact(Option.some.inj hi).symm
        subst ev;have ci:=uo (λk'=>p.show (left+k') (top+k)) i m;have tq:0<=((n:Int)-1-k)/N/\((n:Int)-1-k)/N<=(n:Int)-1-k:=#[Ie JZ JZ,Ig _ JZ];refine#[_,bP (by rw[F6,Gr i7];rfl),p,left,top+k,i,m,w.toNat,rfl,ok,JZ,JZ,JZ,JZ,JZ,JZ,by rw[Gg JZ];exact F.across,?_];refine#[.inl #[JZ,JZ],i,?_,?_]
        . unfold ixN;rw[if_pos JZ,if_pos Sc];simp
        refine#[be (.int i),be (.str #[[aP (i:Int)].toArray]),?_];rw[GR,if_neg (GJ i)];have e:bY p left top m n N k i+(((n:Int)-1-k)/N+1)*cntN (λk'=>p.show (left+k') (top+k)) i m=bY p left top m n N (k+1) i:=rfl;rw[e];have q:=uu (n:=7) (i:=i) (λ(v:Nat)=>D.int (if v<i then bY p left top m n N (k+1) v else bY p left top m n N k v)) (λ(v:Nat)=>D.int (if v<i+1 then bY p left top m n N (k+1) v else bY p left top m n N k v)) (λv hv ne=>by
          by_cases c:v<i
          . rw[if_pos c,if_pos JZ]
          . rw[if_neg c,if_neg JZ])
        rw[if_pos (show i<i+1 by lia)]at q;rw[q];rfl
      . rintro z⟨p6,p7,rfl⟩;k_places;refine#[be (.int (top+k)),be (.int (((n:Int)-1-k)/N+1)),be (.str (aF p left (top+k) w.toNat)),p6,p7,?_];have:∀v∈FQ 7,D.int (if v<(bJ (".123456":Jj)).length then bY p left top m n N (k+1) v else bY p left top m n N k v)=D.int (bY p left top m n N (k+1) v):=λv hv=>by
          rw[if_pos (by  have e7:(bJ (".123456":Jj)).length=7:=by decide+kernel
                         rw[e7];simpa using hv)]
        rw[GC this]
    . rintro z⟨F_,G',G_,p6,p7,rfl⟩;k_places;have e:((FQ ((if top+w*h<a_+1 then top+w*h else a_+1)-top).toNat).map λ(k:Nat)=>D.int (top+(k:Int))).length=min n N:=by simp[v4]
      rw[e];have fold:∀v:Nat,bY p left top m n N (min n N) v=cB p v left top m n:=λv=>B9 JZ (by rw[<-wN];exact F.down) v left top m n;simp only[fold];have e2:((FQ 7).map λ(v:Nat)=>D.int (cB p v left top m n))=(cC p left top m n).map D.int:=by unfold cC;rw[Hf];rfl
      rw[e2];exact hR
def Fw:SpM:=λds M R _=>∃a q f,ds=[.ptr a]/\a≠q/\M=Fl.M f a q/\f.Ok/\R (.lst ((cC f.p 0 0 f.w.toNat f.l.toNat).map D.int)) (f.M a q)
abbrev pz(V:Bx):Prop:=V.Q 12 "Floor" "lies" oj Fw
def Fx(T:V.Tm "Floor" "lies" "Floor.lies" oi oj)(KR:js V)(uD:V.a "Floor" "laid")(uH:V.a "Floor" "width")(uE:V.a "Floor" "pattern"):pz V:=by
 refine Txm.okM T Dp (λds M R RX h=>?_) (λf cdv A outer s H E J hr hx=>#[_,((ao (ay (aJ (CalX.toM KR) hx hr (av (az uE (ae (aa 0))) (av (ae ad) (av (ae ad) (av (cO (az uH (ae (aa 0))) (ae ad)) (av (cO (az uD (ae (aa 0))) (ae ad)) aU))))))))),λds M R RX d0 h=>?_])
 .obtain⟨_,_,_,rfl,_⟩:=h;rfl
 .obtain⟨a,q,f,rfl,ne,rfl,ok,hR⟩:=h;have w1:=ok.w1;have w2:=ok.w2;have l0:=ok.l0;have l1:=ok.l1;have h2:=ok.h2;refine#[_,Fl.ma ne,_,fS,_,Fl.ma ne,_,eV,_,Fl.ma ne,_,dI,f.p,f.d,0,0,f.w-1,f.l-1,rfl,ok.is,ok.ok,λ_=>?_,λz=>absurd #[#[JZ,JZ],#[JZ,JZ],#[JZ,JZ],JZ,JZ] z];rw[show(f.w-1-0+1).toNat=f.w.toNat by lia,show(f.l-1-0+1).toNat=f.l.toNat by lia];exact hR
def Fy:SpM:=λds M R _=>∃a q f,ds=[.ptr a]/\a≠q/\M=Fl.M f a q/\f.Ok/\R (.lst ((cC f.p 0 f.l f.w.toNat (f.h-f.l).toNat).map D.int)) (f.M a q)
abbrev pA(V:Bx):Prop:=V.Q 12 "Floor" "still" om Fy
def Fz(T:V.Tm "Floor" "still" "Floor.still" ol om)(KR:js V)(uX:V.a "Floor" "height")(uH:V.a "Floor" "width")(uD:V.a "Floor" "laid")(uE:V.a "Floor" "pattern"):pA V:=by
 refine Txm.okM T Dq (λds M R RX h=>?_) (λf cdv A outer s H E J hr hx=>#[_,((ao (ay (aJ (CalX.toM KR) hx hr (av (az uE (ae (aa 0))) (av (ae ad) (av (az uD (ae (aa 0))) (av (cO (az uH (ae (aa 0))) (ae ad)) (av (cO (az uX (ae (aa 0))) (ae ad)) aU))))))))),λds M R RX d0 h=>?_])
 .obtain⟨_,_,_,rfl,_⟩:=h;rfl
 .obtain⟨a,q,f,rfl,ne,rfl,ok,hR⟩:=h;have w1:=ok.w1;have w2:=ok.w2;have l0:=ok.l0;have l1:=ok.l1;have h2:=ok.h2;refine#[_,Fl.ma ne,_,fS,_,Fl.ma ne,_,dI,_,Fl.ma ne,_,eV,_,Fl.ma ne,_,iQ,f.p,f.d,0,f.l,f.w-1,f.h-1,rfl,ok.is,ok.ok,λ_=>?_,λz=>absurd #[#[JZ,JZ],#[JZ,JZ],#[JZ,JZ],JZ,JZ] z];rw[show(f.w-1-0+1).toNat=f.w.toNat by lia,show(f.h-1-f.l+1).toNat=(f.h-f.l).toNat by lia];exact hR
def FA:SpM:=λds M R _=>∃a q f,ds=[.ptr a]/\a≠q/\M=Fl.M f a q/\R (.int f.ds.length) (f.M a q)
abbrev pB(V:Bx):Prop:=V.Q 1 "Floor" "kept" ot FA
def FC(T:V.Tm "Floor" "kept" "Floor.kept" oq ot)(uB:V.m "len")(uO:V.a "Floor" "deeds"):pB V:=by
 refine Txm.okM T Dr (λds M R RX h=>?_) (λf cdv A outer s H E J hr hx=>#[_,((ao (ay (kz uB (az uO (ae (aa 0))))))),λds M R RX d0 h=>?_])
 .obtain⟨_,_,_,rfl,_⟩:=h;rfl
 .obtain⟨a,q,f,rfl,ne,rfl,hR⟩:=h;refine#[_,Fl.ma ne,_,iR,_,Fl.mq,?_];rw[F4];exact hR
def FD:SpM:=λds M R _=>∃a q f,ds=[.ptr a,.str f.p.text,.tup [.int f.w,.int f.h],.lst (aw f.p f.w 0 f.l.toNat),.lst (aw f.p f.w f.l (f.h-f.l).toNat),.int f.ds.length]/\a≠q/\M=Fl.M f a q/\f.Ok/\R (.bl true) (f.M a q)
abbrev pC(V:Bx):Prop:=V.MM 13 "_law_view" ow FD
def FE(T:V.T "_law_view" ou ow)(uQ:V.m "isinstance")(uY:V.m "str")(JV:jr V)(OB:pk V)(Mq:pq V)(Mr:pr V)(E_:V.a "Floor" "text")(uH:V.a "Floor" "width")(uX:V.a "Floor" "height")(KI:ja V)(OC:pz V)(OD:pA V)(OE:pB V):pC V:=by
 refine Tx.okM T sc__law_view (λds M R RX h=>?_) (λf cdv A outer s H E J hr hx=>⟨_,((ai (aT (mt_w (gO (dF (dE (CB uQ uY (az E_ (ae (aa 0))) PyProof.Rows.boot_str kit_str))) (gN (fA (az E_ (ae (aa 0))) (ae (aa 1)))))) (ao (ay (ae bt))) aO)
   (ai (aT (mt_w (gO (dF (dE (aJ (CalD.toM JV) hx hr (av (az uH (ae (aa 0))) aU)))) (gN (fA (az uH (ae (aa 0))) (ae (ah (aa 2) ad)))))) (ao (ay (ae bt))) aO)
   (ai (aT (mt_w (gO (dF (dE (aJ (CalD.toM JV) hx hr (av (az uX (ae (aa 0))) aU)))) (gN (fA (az uX (ae (aa 0))) (ae (ah (aa 2) ad)))))) (ao (ay (ae bt))) aO)
   (ai (aT (dF (dE (aJ (CalD.toM OB) hx hr (av (bX (CalMth.one (CalMth.lendD KI)) hx hr (ae (aa 0))) (av (ae (aa 3)) aU))))) (ao (ay (ae bt))) aO)
   (ai (aT (dF (dE (aJ (CalD.toM Mq) hx hr (av (bX (CalMth.one OC) hx hr (ae (aa 0))) (av (ae (aI Mr hr (ac (aa 3) af))) aU))))) (ao (ay (ae bt))) aO)
   (ai (aT (dF (dE (aJ (CalD.toM Mq) hx hr (av (bX (CalMth.one OD) hx hr (ae (aa 0))) (av (ae (aI Mr hr (ac (aa 4) af))) aU))))) (ao (ay (ae bt))) aO)
   (ai (aD 6 sc__law_view.nd (bX (CalMth.one OE) hx hr (ae (aa 0))))
   (ao (ay (ae (gw (aI JV hr (ac (aa 6) af)) (gv (fm (aa 6) (aa 5))))))))))))))),λds M R RX d0 h=>?_⟩)
 .obtain⟨_,_,_,rfl,_⟩:=h;rfl
 .obtain⟨a,q,f,rfl,ne,rfl,ok,hR⟩:=h;have w1:=ok.w1;have w2:=ok.w2;have l0:=ok.l0;have l1:=ok.l1;have h2:=ok.h2;have ec:∀lo n,(cC f.p 0 lo f.w.toNat n).length=7:=λlo n=>by unfold cC;simp
  refine#[_,Fl.ma ne,_,vh,?_];dsimp only[jZ];refine ite2 (λc=>nomatch c) λ_=>#[_,Fl.ma ne,_,vh,ite2 (λc=>absurd c J8) λ_=>?_];refine#[_,Fl.ma ne,_,eV,_,rfl,ite2 (λc=>nomatch c) λ_=>#[_,Fl.ma ne,_,eV,_,rfl,ite2 (λc=>absurd c J8) λ_=>?_]];refine#[_,Fl.ma ne,_,iQ,_,rfl,ite2 (λc=>nomatch c) λ_=>#[_,Fl.ma ne,_,iQ,_,rfl,ite2 (λc=>absurd c J8) λ_=>?_]];refine#[_,FP.mpr rfl,_,Fl.ma ne,rfl,?_];dsimp only[mNil];refine vq ne ok #[f.p,f.w,0,_,rfl,JZ,ite2 (λc=>nomatch c) λ_=>?_];refine#[_,FP.mpr rfl,_,Fl.ma ne,rfl,a,q,f,rfl,ne,rfl,ok,f.p,f.w,0,_,rfl,ok.ok,JZ,w2,JZ,_,rfl,ec _ _,ite2 (λc=>nomatch c) λ_=>?_];refine#[_,FP.mpr rfl,_,Fl.ma ne,rfl,a,q,f,rfl,ne,rfl,ok,f.p,f.w,f.l,_,rfl,ok.ok,JZ,w2,JZ,_,rfl,ec _ _,ite2 (λc=>nomatch c) λ_=>?_];refine#[λd M'=>d=.int f.ds.length/\M'=f.M a q,#[_,FP.mpr rfl,_,Fl.ma ne,rfl,a,q,f,rfl,ne,rfl,rfl,rfl],?_];rintro _ _⟨rfl,rfl⟩;k_places;refine#[_,rfl,?_];show R (.bl (decide ((f.ds.length:Int)=f.ds.length))) (f.M a q);rw[decide_eq_true rfl];exact hR
def FF:SiM:=λa ds R=>∃p w h,ds=[.str (Pat.text p),.int w,.int h]/\p.Ok/\∀d q,bg p d->a≠q->R (Fl.M #[p,d,w,h,0,[]] a q)
abbrev pD(V:Bx):Prop:=V.N 19 "Floor" oz FF
def FG(T:V.Ti "Floor" "Floor.__init__" oy oz)(KO:jp V)(uE:V.a "Floor" "pattern")(E_:V.a "Floor" "text")(uH:V.a "Floor" "width")(uX:V.a "Floor" "height")(uD:V.a "Floor" "laid")(uO:V.a "Floor" "deeds"):pD V:=by
 refine Txi.okIN T Ds (λa ds R h=>?_) (λf cdv A outer s H E J hr hx=>⟨_,((ai (bL uE (ae (aa 0)) (aJ (CalX.toM KO) hx hr (au (ac (aa 1) af))))
   (ai (bL E_ (ae (aa 0)) (ae (aa 1)))
   (ai (bL uH (ae (aa 0)) (ae (aa 2)))
   (ai (bL uX (ae (aa 0)) (ae (aa 3)))
   (ai (bL uD (ae (aa 0)) (ae ad))
   (ao (bL uO (ae (aa 0)) (du (au af)))))))))),λa ds R Kt h=>?_⟩)
 .obtain⟨_,_,_,rfl,_⟩:=h;rfl
 .obtain⟨p,w,h,rfl,ok,hR⟩:=h;refine ui (RX:=λ_ _=>True) ok λd hd=>?_;refine#[_,cy,by show(0:Nat)<1000;decide,?_];rw[cE];refine#[_,cy,Rq,?_];rw[cE];refine#[_,cy,by show(2:Nat)<1000;decide,?_];rw[cE];refine#[_,cy,by show(3:Nat)<1000;decide,?_];rw[cE];refine#[_,cy,by show(4:Nat)<1000;decide,?_];rw[cE];refine#[by show(0:Nat)<=1000;decide,λq hq=>?_];have ne:a≠q:=λe=>hq (e ▸ FZ);refine#[_,(dG (Ne.symm ne)).trans cy,by show(5:Nat)<1000;decide,?_];rw[dH (Ne.symm ne),cE];exact hR d q hd ne
structure Two where
 a:Nat->KF
 q:Nat->KF
 f:Nat->Fl
 s:Nat->Nat
 h:Nat->List (Nat×Int)
def Two.put(t:Two)(k:Nat)(g:Fl)(q':KF)(s':Nat)(h':List (Nat×Int)):Two:=#[t.a,λn=>if n=k then q' else t.q n,λn=>if n=k then g else t.f n,λn=>if n=k then s' else t.s n,λn=>if n=k then h' else t.h n]
abbrev Two.L(t:Two)(p:KF)(n:Nat):KF×MO:=(p,.lst ((FQ n).map λk=>.ptr (t.a k)))
abbrev Two.S(t:Two)(p:KF)(n:Nat):KF×MO:=(p,.lst ((FQ n).map λk=>StD (t.f k) (t.s k) (t.h k)))
abbrev Two.F(t:Two)(k:Nat):MS:=(t.f k).M (t.a k) (t.q k)
structure Two.Ok(t:Two)(ps:List Pat)(w h:Nat->Int)(k:Nat):Prop where
 ne:t.a k≠t.q k
 ok:(t.f k).Ok
 ew:(t.f k).w=w k
 eh:(t.f k).h=h k
 es:ps[t.s k]?=be (t.f k).p
 hi:Hist ps (t.f k).ds (t.h k)
def FH{fa:KF}{fd:R3}(F:Fun V.K "law" "law" fR fa fd)(uA:V.m "range")(uB:V.m "len")(Ms:oH V)(z6:iU V)(OF:oM V)(KA:iV V)(OG:pj V)(OH:pC V)(OI:pD V):FnOk V.P V.w V.K V.mg V.base (Exc.CX1 V.P V.w) 22 fa fd oA (lSp V.K eg):=by
  refine CA (Fun.okM F sc_law (λds M R RX h=>?_) (λcdv A outer s H E J hr hx=>⟨_,((ai (aD 1 sc_law.nd (du (au (ac (aI Ms hr (ac (aa 0) (ac ad af))) (ac (aI Ms hr (ac (aa 0) (ac ad af))) af)))))
      (ai (bq (fC (ae (aa 1)) (CN (av (fw (ae aC) (fv (cQ (ae (aa 1)) (ae ad)) (ae ad))) (av (ae ad) (av (fv (cQ (ae (aa 1)) (ae ad)) (ae ad)) aU))))))
      (gW 1 (ai (aD 2 sc_law.nd (du (au af)))
      (ai (aD 3 sc_law.nd (du (au af)))
      (ai (aD 4 sc_law.nd (du (au af)))
      (ib (ai (ky 5 PassesOwn.leaving rfl sc_law.nd uA (ae ad) (ib (ai (aD 6 sc_law.nd (ae (aN (ac (aB ad (aH (aI z6 hr (ac (aa 0) (ac (aL ad (aa 5)) af))) ad)) (ac (aB ad (aH (aI z6 hr (ac (aa 0) (ac (aB (aL ad (aa 5)) ad) af))) ad)) af)))))
        (ai (aD 7 sc_law.nd (ae (aL (aa 5) (aH (aI z6 hr (ac (aa 0) (ac ad af))) ad))))
        (ai (bq (fC (ae (aa 4)) (ae (yF rfl (compScope (by change cN _ (ag fR) ["_law_script","_law_parts","_law_floors","_law_states","_law_texts_here","_law_k","_law_size","_law_first","_law_draw","_law_j","_law_stands","_law_laid","_law_past","_law_text","_law_lines_here"] _=true;decide+kernel)) (aa 1) (λcl s0 H0 fp=>(aN (ac (ah (aa 15) ad) (ac (aI OF hr (ac (ah (aa 15) ad) (ac (ah (aa 6) ad) (ac (ah (aa 6) ad) af)))) af))))))))
        (ai (bq (fC (ae (aa 3)) (ae (bp (ac (aa 6) (ac (aa 7) (ac ad (ac (bp af) af))))))))
        (ao (bq (fC (ae (aa 2)) (CQ (Cy OI hr (au (ac (ah (ah (aa 1) (aa 7)) ad) (ac (ah (aa 6) ad) (ac (ah (aa 6) ad) af)))))))))))))))
      (ib (gW 4 (ai (CC 8 PassesOwn.leaving rfl sc_law.nd (ae (aI KA hr (ac (aa 0) (ac ad (ac (aB ad (aH (aI z6 hr (ac (aa 0) (ac ad af))) ad)) af))))) (ib (ai (aD 5 sc_law.nd (ae (aH (aa 8) ad)))
        (ai (CH (aJ (CalMM.splitN OG) hx hr (av (cQ (ae (aa 2)) (ae (aa 5))) (av (ae (bx (aa 8) ad)) (av (cQ (ae (aa 3)) (ae (aa 5))) (av (ae (ah (aa 4) (aa 5))) aU))))) (ae (aa 3)) (ae (aa 5)))
        (ai (aT (gM (cQ (ae (aa 3)) (ae (aa 5))) (ae bH)) (ao (ay (ae bt))) aO)
        (ao (ky 9 PassesOwn.leaving rfl sc_law.nd uA (ae ad) (ai (CF rfl (cQ (ae (aa 3)) (ae (aa 9))) (dg_cons 6 sc_law.nd (dg_cons 10 sc_law.nd (dg_cons 11 sc_law.nd (dg_cons 12 sc_law.nd df)))))
         (ai (sX (λ_=>(yk rfl (ah (ah (aa 4) (aa 9)) (aa 10)) (dg_cons 13 sc_law.nd (dg_cons 14 sc_law.nd df)))))
         (ao (aT (dF (dE (aJ (CalMM.splitN OH) hx hr (av (cQ (ae (aa 2)) (ae (aa 9))) (av (ae (aa 13)) (av (ae (aa 6)) (av (ae (dq (aa 14) dh (dm (aa 11)))) (av (ae (dq (aa 14) (dm (aa 11)) dh)) (av (ae (bQ uB (ac (aa 12) af))) aU))))))))) (ao (ay (ae bt))) aO)))))))))))
      (ao (ay (ae bt))))))))))))))),λds M R RX d0 h=>?_⟩))
  . obtain⟨rfl,_,⟨ns,rfl,_⟩,rfl⟩:=h;rfl
  . obtain⟨rfl,R0,⟨ns,rfl,hl,hR⟩,rfl⟩:=h;refine#[λd M'=>∃pp p0 p1,d=.ptr pp/\M'=[(pp,.lst [Pat.D p0,Pat.D p1])]/\p0.Ok/\p1.Ok/\p0.depth=0,#[ns,6,rfl,J7,λL a b c d h1 h2 h3 h4 h5 h6=>#[ns,9,rfl,J7,λL' a' b' c' d' g1 g2 g3 g4 g5 g6=>#[OP,λpp _=>#[pp,.mot L a b c d,.mot L' a' b' c' d',rfl,rfl,#[#[h1,h2,h3,h4,h5,h6],by simp[Pat.depth],Pat.fits_mot h2 h3 h4 h5 h6],#[#[g1,g2,g3,g4,g5,g6],by simp[Pat.depth],Pat.fits_mot g2 g3 g4 g5 g6],rfl]]]],?_];rintro _ _⟨pp,p0,p1,rfl,rfl,KS,PJ,dp⟩;k_places
    let mm:Pat:=.mir (.mir p0)
    let ps:List Pat:=[p0,p1,mm]
    let PL:List D:=[p0.D,p1.D,.lst [.str mm.text,.int 2,.lst (p0.leaves.map Leaf.D)]]
    have Rh:mm.Ok:=#[KS.wf,by show p0.depth+1+1<=_;rw[dp];decide,KS.fits.mir.mir];have Kr:∀r∈ps,r.Ok:=λr hr=>by
      simp only[ps,FT,G3,or_false]at hr;rcases hr with rfl|rfl|rfl<;>assumption
    have PK:∀k v,PL[k]?=be v->∃r x OJ,ps[k]?=be r/\v=D.lst [.str r.text,OJ,.lst ((Pat.leaves x).map Leaf.D)]/\x.Ok/\r.Ok/\∀w lo n,aw x w lo n=aw r w lo n:=λk v e=>by
      have hk:k<3:=(F7.mp e).1;rcases(JZ:k=0\/k=1\/k=2)with rfl|rfl|rfl<;>cases e
      . exact#[p0,p0,_,rfl,rfl,KS,KS,λ_ _ _=>rfl]
      . exact#[p1,p1,_,rfl,rfl,PJ,PJ,λ_ _ _=>rfl]
      . exact#[mm,p0,_,rfl,rfl,KS,Rh,λw lo n=>(mir2 w lo n).symm]
    have b8:=Pat.text_len KS.wf;rw[dp]at b8;refine#[#[_,bR],_,bR,_,rfl,_,rfl,?_,_,bR,_,rfl,_,rfl,by show(3:Nat)<=1000;decide,_,bR,by show(2:Nat)<=100000;decide,?_]
    . show 2+p0.text.length<=1000000;lia
    rw[kO,DM];refine#[_,bR,?_];rw[hU];refine#[λd M'=>∃pl,d=.ptr pl/\M'=[(pl,.lst [])],#[J7,λpl _=>#[pl,rfl,rfl]],?_];rintro _ _⟨pl,rfl,rfl⟩;k_places;refine#[λd M'=>∃f7,d=.ptr f7/\M'=[(f7,.lst []),(pl,.lst [])],#[J7,λpl _=>#[pl,rfl,rfl]],?_];rintro _ _⟨f7,rfl,rfl⟩;k_places;refine#[λd M'=>∃pt,d=.ptr pt/\M'=[(pt,.lst []),(f7,.lst []),(pl,.lst [])],#[J7,λpl _=>#[pl,rfl,rfl]],?_];rintro _ _⟨pt,rfl,rfl⟩;k_places
    let w:Nat->Int:=λk=>1+cell ns (2*k)%6
    let h:Nat->Int:=λk=>1+cell ns (2*k+1)%8
    let s0:Nat->Nat:=λk=>k*(cell ns 4%2).toNat
    let T:Nat->D:=λk=>.lst (ps.map (EntD (w k) (h k)))
    let fl:Two->Nat->MS:=λt k=>((FQ k).map t.F).reverse.flatten
    let W1:Nat->SD->MS->Prop:=λk z M=>∃(t:Two) (o5 o6 o7:Option D),z=[be (.rol (ns.map D.int)),be (.lst PL),be (.ptr pl),be (.ptr f7),be (.ptr pt),o5,o6,o7,B_,B_,B_,B_,B_,B_,B_]/\M=fl t k++[(pt,.lst ((FQ k).map T)),t.S f7 k,t.L pl k]/\NoOwn z/\∀j,j<k->t.Ok ps w h j/\(t.f j).ds=[]/\(t.f j).l=0
    intro _;refine#[#[J7,J7],W1,#[#[λ_=>0,λ_=>0,λ_=>#[p0,.non,0,0,0,[]],λ_=>0,λ_=>[]],_,_,_,rfl,rfl,NoOwn.of rfl,λj hj=>absurd hj (HE j)],?_,?_]
    . rintro k v z M' hk⟨t,o5,o6,o7,rfl,rfl,hn,ht⟩;k_places;obtain⟨m8,rfl⟩:=bE hk;have m8:k<2:=m8;intro nd;obtain⟨g1,u1⟩:=mapp nd;obtain⟨Ri,PM⟩:=u1 (.lst ((FQ (k+1)).map T));rw[HI]at PM;obtain⟨g2,u2⟩:=mapp PM;obtain⟨Rj,LU⟩:=u2 (.lst ((FQ (k+1)).map λj=>if j=k then D.lst [.tup [.int (w k),.int (h k)],.int (s0 k),.int 0,.lst []]else StD (t.f j) (t.s j) (t.h j)));have cm:∀{i j:Int},-(2^64)<i/\i<2^64->CMul i j:=λh=>.inl h;have c4:=Int.emod_two_eq (cell ns 4);refine#[λd M'=>d=.tup [.int (w k),.int (h k)]/\M'=fl t k++[(pt,.lst ((FQ k).map T)),t.S f7 k,t.L pl k],#[cm #[J7,J7],ns,_,rfl,JZ,J7,cm #[J7,J7],ns,_,rfl,JZ,J7,OP,rfl,rfl],?_];rintro _ _⟨rfl,rfl⟩;k_places;refine#[λd M'=>d=.int (s0 k)/\M'=fl t k++[(pt,.lst ((FQ k).map T)),t.S f7 k,t.L pl k],#[ns,4,rfl,J7,J7,cm #[JZ,JZ],?_,rfl],?_]
      . show D.int ((k:Int)*(cell ns 4%2))=.int ((k*(cell ns 4%2).toNat:Nat):Int);rw[IF,Gg JZ]
      rintro _ _⟨rfl,rfl⟩;k_places;refine#[#[_,g1],by show(3:Nat)<=_;decide,λj ys=>ys=(ps.take j).map (EntD (w k) (h k)),rfl,?_,?_]
      . rintro j v ys hj hl rfl;obtain⟨r,x,OJ,er,rfl,PN,JT,ex⟩:=PK j v hj;refine#[_,rfl,_,rfl,_,rfl,_,rfl,x,w k,h k,rfl,PN,JZ,JZ,JZ,JZ,OP,?_];show _=Hw _ (List.take (j+1) ps);rw[List.take_add_one,er,Gc,ex];rfl
      rintro ys _ rfl;refine#[_,g1,by rw[F4,GQ];lia,?_];rw[show(FQ k).map T++[D.lst ((ps.take PL.length).map (EntD (w k) (h k)))]=(FQ (k+1)).map T from(iT λ_ _=>rfl).symm,Ri,HI];refine#[#[_,g2],J7,by show(4:Nat)<=1000;decide,_,g2,by rw[F4,GQ];lia,?_];rw[show(FQ k).map (λj=>StD (t.f j) (t.s j) (t.h j))++[D.lst [.tup [.int (w k),.int (h k)],.int (s0 k),.int 0,.lst []]]=(FQ (k+1)).map λj=>if j=k then D.lst [.tup [.int (w k),.int (h k)],.int (s0 k),.int 0,.lst []]else StD (t.f j) (t.s j) (t.h j)from by rw[iT (k:=k) (g:=λj=>StD (t.f j) (t.s j) (t.h j)) λn hn=>if_neg JZ,if_pos rfl],Rj,HI];rw[HI]at LU;obtain⟨g3,u3⟩:=mapp LU;have s3:s0 k<3:=by
        show k*_<3;have:(cell ns 4%2).toNat<=1:=JZ
        have:=Hc (show k<=1 by lia) this;lia
      obtain⟨v,hv⟩:∃v,PL[s0 k]?=be v:=#[_,Gb s3];obtain⟨r,x,OJ,er,rfl,PN,JT,ex⟩:=PK _ v hv;refine#[#[_,g3],_,bP hv,_,rfl,_,rfl,_,rfl,λa _=>#[r,w k,h k,rfl,JT,λd q is ne PP=>?_]];rw[<-Gn]at PP;obtain⟨g4,u4⟩:=mapp PP;obtain⟨Rk,RO⟩:=u4 (.lst ((FQ (k+1)).map λj=>.ptr (if j=k then a else t.a j)));refine#[_,by rw[<-Gn];exact g4,by rw[F4,GQ];lia,?_];rw[show(FQ k).map (λj=>D.ptr (t.a j))++[D.ptr a]=(FQ (k+1)).map λj=>D.ptr (if j=k then a else t.a j)from by rw[iT (k:=k) (g:=λj=>D.ptr (t.a j)) λn hn=>by rw[if_neg JZ],if_pos rfl],<-Gn,Rk]
      let t':Two:=#[λn=>if n=k then a else t.a n,λn=>if n=k then q else t.q n,λn=>if n=k then#[r,d,w k,h k,0,[]]else t.f n,λn=>if n=k then s0 k else t.s n,λn=>if n=k then[]else t.h n]
      refine#[t',_,_,_,rfl,?_,?_,?_]
      . have e0:fl t' (k+1)=t'.F k++fl t k:=by
          show((FQ (k+1)).map t'.F).reverse.flatten=_;rw[iT (k:=k) (g:=t.F) λn hn=>by
            show Fl.M (if n=k then _ else _) (if n=k then _ else _) (if n=k then _ else _)=_;rw[if_neg JZ,if_neg JZ,if_neg JZ],List.reverse_append]
          rfl
        have e1:t'.F k=Fl.M #[r,d,w k,h k,0,[]] a q:=by
          show Fl.M (if k=k then _ else _) (if k=k then _ else _) (if k=k then _ else _)=_;rw[if_pos rfl,if_pos rfl,if_pos rfl]
        have e2:t'.S f7 (k+1)=(f7,.lst ((FQ (k+1)).map λj=>if j=k then D.lst [.tup [.int (w k),.int (h k)],.int (s0 k),.int 0,.lst []]else StD (t.f j) (t.s j) (t.h j))):=by
          show(f7,MO.lst _)=_;congr 2;refine GC λj _=>?_;by_cases e:j=k<;>simp[t',e,StD]
        rw[e0,e1,e2];simp only[Gn,IK,Jg];rfl
      . exact NoOwn.of rfl
      . intro j hj;by_cases e:j=k
        . subst e;refine#[#[?_,?_,?_,?_,?_,?_],?_,?_]<;>simp only[t',if_true]
          . exact ne
          . exact Fl.ok_new is JT JZ JZ JZ JZ
          . exact er
          . rfl
        . have:=ht j JZ;refine#[#[?_,?_,?_,?_,?_,?_],?_,?_]<;>simp only[t',if_neg e]
          . exact this.1.ne
          . exact this.1.ok
          . exact this.1.ew
          . exact this.1.eh
          . exact this.1.es
          . exact this.1.hi
          . exact this.2.1
          . exact this.2.2
    rintro z M'⟨t,o5,o6,o7,rfl,rfl,hn,ht⟩;k_places;rw[bB];intro nd;rw[show(2:Int).toNat=2 from rfl]at nd ht ⊢;refine#[_,(mapp nd).1,?_];rw[DN nd]
    let C:Two->MS:=λt=>t.L pl 2::t.S f7 2::(t.F 0++t.F 1)
    have hC:subM (C t) (fl t 2++[t.S f7 2,t.L pl 2]):=by
      refine subM.perm (N:=fl t 2++[t.S f7 2,t.L pl 2]) #[λ_ h=>h,nd.sublist (List.Sublist.map _ ((List.Sublist.refl _).append (IA _ _)))] ?_;show Hi _ ((t.F 1++(t.F 0++[]))++[t.S f7 2,t.L pl 2]);rw[Gk];exact DO
    let W2:Nat->SD->MS->Prop:=λk z M=>∃(t:Two) (o5 o6 o7 o8 o9 F_ G' G_ p6 p7:Option D),z=[be (.rol (ns.map D.int)),be (.lst PL),be (.ptr pl),be (.ptr f7),be (.lst ((FQ 2).map T)),o5,o6,o7,o8,o9,F_,G',G_,p6,p7]/\subM (C t) M/\NoOwn z/\∀j,j<2->t.Ok ps w h j/\(t.f j).ds.length<=k
    refine#[ns,5,rfl,J7,J7,ns,12,(1+cell ns 5%16).toNat,?_,J7,JZ,λxs xl xd=>?_]
    . rw[Gg JZ]
    refine#[W2,#[t,_,_,_,_,_,_,_,_,_,_,rfl,hC,?_,λj hj=>#[(ht j hj).1,by rw[(ht j hj).2.1];exact FR 0]],?_,λz M' _=>hR]
    . exact hn.set 4 (d:=.lst ((FQ 2).map T)) rfl
    clear hC nd ht hn;rintro k v z M hk⟨t,o5,o6,o7,o8,o9,F_,G',G_,p6,p7,rfl,hC,hn,ht⟩ nd;obtain⟨x,rfl,x0,Rl⟩:∃x:Int,v=.int x/\0<=x/\k<16:=by
      have:=(F7.mp hk).1;rw[F4,xl]at this;rw[F6]at hk;obtain⟨x,hx,rfl⟩:=Option.map_eq_some_iff.mp hk;exact#[x,rfl,(xd x (GS hx)).1,JZ]
    refine#[λd M'=>M'=M/\∃c:Nat,d=.int c/\c<2,#[J7,rfl,(x%2).toNat,by rw[Gg JZ],JZ],?_];rintro _ _⟨rfl,c,rfl,hc⟩;k_places;have gL:=eU nd (hC.1 _ (FZ));have gS:=eU nd (hC.1 _ (FW _ FZ));have tc:=ht c hc;have hp:Hi (t.L pl 2::t.S f7 2::(t.F (1-c)++t.F c)) (C t):=by
      rcases(JZ:c=0\/c=1)with rfl|rfl
      . exact List.Perm.cons _ (List.Perm.cons _ HH)
      . exact List.Perm.refl _
    refine#[_,gL,_,dJ hc,J7,_,gS,_,dJ hc,_,dJ hc,?_];refine#[t.L pl 2::t.S f7 2::t.F (1-c),t.F c,subM.perm hC hp,t.a c,t.q c,t.f c,x/2,ps,t.s c,t.h c,?_,tc.1.ne,rfl,tc.1.ok,JZ,rfl,Kr,tc.1.es,tc.1.hi,JZ,λg q' s' i6 d6 Rm ew eh JE g9 le LU=>?_]
    . show[D.ptr (t.a c),D.int (x/2),StD (t.f c) (t.s c) (t.h c),T c]=_;rw[tc.1.ew,tc.1.eh]
    obtain⟨g5,u5⟩:=mapp (A:=[t.L pl 2]) (B:=t.F (1-c)++g.M (t.a c) q') LU;obtain⟨p5,LV⟩:=u5 (.lst ((FQ 2).map λj=>if j=c then StD g s' i6 else StD (t.f j) (t.s j) (t.h j)));refine#[_,c,g5,by rw[F4,GQ];unfold ixN;simp;lia,?_];rw[DP];show EndsM.nx _ _ (mput ([t.L pl 2]++t.S f7 2::(t.F (1-c)++g.M (t.a c) q')) f7 _);rw[p5]
    let u:Two:=t.put c g q' s' i6
    have hu:∀j,j<2->u.Ok ps w h j/\(u.f j).ds.length<=k+1:=λj hj=>by
      by_cases e:j=c
      . subst e;refine#[#[?_,?_,?_,?_,?_,?_],?_]<;>simp only[u,Two.put,if_true]
        . exact d6
        . exact Rm
        . rw[ew,tc.1.ew]
        . rw[eh,tc.1.eh]
        . exact JE
        . exact g9
        . lia
      . have:=ht j hj;refine#[#[?_,?_,?_,?_,?_,?_],?_]<;>simp only[u,Two.put,if_neg e]
        . exact this.1.ne
        . exact this.1.ok
        . exact this.1.ew
        . exact this.1.eh
        . exact this.1.es
        . exact this.1.hi
        . lia
    have Mt:subM (C u) ([t.L pl 2]++(f7,.lst ((FQ 2).map λj=>if j=c then StD g s' i6 else StD (t.f j) (t.s j) (t.h j)))::(t.F (1-c)++g.M (t.a c) q')):=by
      refine subM.perm (subM.refl LV) ?_;have eS:u.S f7 2=(f7,.lst ((FQ 2).map λj=>if j=c then StD g s' i6 else StD (t.f j) (t.s j) (t.h j))):=by
        show(f7,MO.lst _)=_;congr 2;refine GC λj _=>?_;by_cases e:j=c<;>simp[u,Two.put,e]
      show Hi (u.L pl 2::u.S f7 2::(u.F 0++u.F 1)) _;rw[eS];rcases(JZ:c=0\/c=1)with rfl|rfl
      . exact List.Perm.cons _ (List.Perm.cons _ (HH (l₁:=g.M (t.a 0) q')))
      . exact List.Perm.refl _
    generalize Rn:[t.L pl 2]++(f7,MO.lst ((FQ 2).map λj=>if j=c then StD g s' i6 else StD (t.f j) (t.s j) (t.h j)))::(t.F (1-c)++g.M (t.a c) q')=Mu at Mt LV ⊢;have PQ:=eU LV (Mt.1 _ (FW _ FZ));clear Rn p5 u5 g5 LU hp gL gS nd hC;refine#[_,PQ,_,dJ hc,?_]
    let W3:Nat->SD->MS->Prop:=λ_ z M=>∃(o5 o6 o7 o8 o9 F_ G' G_ p6 p7:Option D),z=[be (.rol (ns.map D.int)),be (.lst PL),be (.ptr pl),be (.ptr f7),be (.lst ((FQ 2).map T)),o5,o6,o7,o8,o9,F_,G',G_,p6,p7]/\subM (C u) M/\(am M).Nodup/\NoOwn z
    refine#[#[J7,J7],W3,#[_,_,_,_,_,_,_,_,_,_,rfl,Mt,LV,(hn.set 8 (d:=.int x) rfl).set 5 (d:=.int c) rfl],?_,?_]
    . clear Mt LV PQ hn tc ht;rintro j v z M' hj⟨o5,o6,o7,o8,o9,F_,G',G_,p6,p7,rfl,hM,PR,Mw⟩;k_places;obtain⟨KU,rfl⟩:=bE hj;have KU:j<2:=KU;have uj:=(hu j KU).1;have gL:=eU PR (hM.1 _ (FZ));have gS:=eU PR (hM.1 _ (FW _ FZ));refine#[_,gS,_,dJ KU,rfl,?_];refine#[_,dJ KU,_,fT (EntD (w j) (h j)) uj.es,rfl,?_,?_]
      rotate_left
      . exact((((((Mw.set 9 (d:=.int j) rfl).set 6 (d:=.tup [.int (u.f j).w,.int (u.f j).h]) rfl).set 10 (d:=.int (u.s j)) rfl).set 11 (d:=.int (u.f j).l) rfl).set 12 (d:=.lst ((u.h j).map HD)) rfl).set 13 (d:=.str (u.f j).p.text) rfl).set 14 (d:=.lst (aw (u.f j).p (w j) 0 (h j).toNat)) rfl
      have hp:Hi (u.L pl 2::u.S f7 2::(u.F (1-j)++u.F j)) (C u):=by
        rcases(JZ:j=0\/j=1)with rfl|rfl
        . exact List.Perm.cons _ (List.Perm.cons _ HH)
        . exact List.Perm.refl _
      refine#[_,gL,_,dJ KU,u.L pl 2::u.S f7 2::u.F (1-j),u.F j,subM.perm hM hp,u.a j,u.q j,u.f j,?_,uj.ne,rfl,uj.ok,λm5=>?_]
      . have q0:=uj.ok.l0;have q1:=uj.ok.l1;have e1:=vk (p:=(u.f j).p) (w:=(u.f j).w) (lo:=0) (n:=(u.f j).h.toNat) (k:=(u.f j).l.toNat) JZ;have e2:=vi (u.f j).p (u.f j).w ((u.f j).h-(u.f j).l).toNat q0;rw[show(u.f j).l.toNat+((u.f j).h-(u.f j).l).toNat=(u.f j).h.toNat by lia]at e2;rw[Gg q0]at e1;show[D.ptr (u.a j),D.str (u.f j).p.text,D.tup [D.int (u.f j).w,D.int (u.f j).h],D.lst (cutD (aw (u.f j).p (w j) 0 (h j).toNat) B_ (be (u.f j).l)),D.lst (cutD (aw (u.f j).p (w j) 0 (h j).toNat) (be (u.f j).l) B_),D.int ((u.h j).map HD).length]=_;rw[<-uj.ew,<-uj.eh,e1,e2,F4,iS uj.hi]
      . exact#[_,_,_,_,_,_,_,_,_,_,rfl,subM.perm (subM.refl m5) hp.symm,m5,((((((Mw.set 9 (d:=.int j) rfl).set 6 (d:=.tup [.int (u.f j).w,.int (u.f j).h]) rfl).set 10 (d:=.int (u.s j)) rfl).set 11 (d:=.int (u.f j).l) rfl).set 12 (d:=.lst ((u.h j).map HD)) rfl).set 13 (d:=.str (u.f j).p.text) rfl).set 14 (d:=.lst (aw (u.f j).p (w j) 0 (h j).toNat)) rfl]
    . rintro z M'⟨o5,o6,o7,o8,o9,F_,G',G_,p6,p7,rfl,hM,_,Mw⟩;k_places;exact#[u,_,_,_,_,_,_,_,_,_,_,rfl,hM,Mw,hu]
end
local macro_rules | `(tactic| walk_at "b1") => `(tactic| exact Am λ_ _ _ _ _ _ _ => rfl)
local macro_rules | `(tactic| walk_at "b2") => `(tactic| exact bind2 λ_ _ _ _ _ _ _ _ => rfl)
local macro_rules | `(tactic| walk_at "b3") => `(tactic| exact bind3 λ_ _ _ _ _ _ _ _ _ => rfl)
local macro_rules | `(tactic| walk_at "b4") => `(tactic| exact bind4 λ_ _ _ _ _ _ _ _ _ _ => rfl)
local macro_rules | `(tactic| walk_at "b5") => `(tactic| exact bind5 λ_ _ _ _ _ _ _ _ _ _ _ => rfl)
local macro_rules | `(tactic| walk_at "b6") => `(tactic| exact bind6 λ_ _ _ _ _ _ _ _ _ _ _ _ => rfl)
local macro_rules | `(tactic| walk_at "bd") => `(tactic| exact λ_ _ _ _ _ _ _ _ _ _ _ _ _ _ h hs => ⟨.of_defaults rfl h hs rfl rfl, .of_defaults rfl h hs rfl rfl⟩)
structure TopIn(K:Ex):Prop where
 uGI:FnIn K "_law_at" kR
 uHW:FnIn K "_law_draws" kT
 uFW:FnIn K "_law_lines" kW
 uFE:FnIn K "_law_shift_pair" kY
 uGJ:FnIn K "_law_motif_text" lf
 uJF:FnIn K "_law_motif" ll
 uFK:FnIn K "_law_on" lq
 uHB:FnIn K "_law_leaf_shows" lu
 uFS:FnIn K "_law_shows" lw
 uFL:FnIn K "_law_floor_rows" ic
 uGN:FnIn K "refuse_far" lC
 uIY:FnIn K "home" lF
 uGF:FnIn K "cell_at" lH
 uJC:FnIn K "row_from" iu
 uEQ:FnIn K "_law_lay" lN
 uFO:FnIn K "_law_parted" lQ
 uJI:FnIn K "line_from" lZ
 uEV:FnIn K "lines_from" mf
 uJB:FnIn K "number_from" mi
 uEP:FnIn K "shift_from" ml
 uJV:FnIn K "levelled" mo
 uFN:FnIn K "spread" mv
 uFZ:FnIn K "hues_by_home" mx
 uEW:FnIn K "motif_from" mC
 uGP:FnIn K "over_from" iz
 uFM:FnIn K "shifted_from" iA
 uJK:FnIn K "rehue_from" iB
 uHX:FnIn K "form_from" iC
 uGO:FnIn K "measure" mY
 uJE:FnIn K "met" ng
 uJL:FnIn K "mirrored" nj
 uJM:FnIn K "turned" nr
 uHQ:FnIn K "read" nu
 uIT:FnIn K "first_unlike" nw
 uIC:FnIn K "_law_change" nF
 uII:FnIn K "_law_undo" nJ
 uFP:FnIn K "_law_next" nM
 uGT:FnIn K "_law_whole" nO
 uHO:FnIn K "_law_texts" nQ
 uIQ:FnIn K "_law_seven" nS
 uFD:FnIn K "_law_counts" nV
 uIU:FnIn K "field_rows" iO
 uFF:FnIn K "round_row" nY
 uGW:FnIn K "count_sign" oa
 uFI:FnIn K "count_all" iP
 uEX:FnIn K "_law_view" ou
 uER:FnIn K "law" fR
 uJJ:NnIn K "len"
 uIZ:NnIn K "range"
 uHF:NnIn K "int"
 uHI:NnIn K "str"
 uET:NnIn K "max"
 uFX:NnIn K "abs"
 uHT:NnIn K "enumerate"
 uJT:NnIn K "isinstance"
 uIR:NnIn K "bool"
 uFR:NnIn K "list"
 uFU:NnIn K "min"
 uN:ClIn K "Floor"
 uBF:ClIn K "Motif"
 uBU:ClIn K "Over"
 uBI:ClIn K "Shifted"
 uCM:ClIn K "Mirror"
 uDV:ClIn K "Turn"
 uBE:ClIn K "Rehue"
 uCO:ClIn K "Pattern"
 uBW:ClIn K "Reading"
 uJY:InIn K "Motif" "Motif.__init__" mz
 uIX:InIn K "Mirror" "Mirror.__init__" mF
 uGS:InIn K "Turn" "Turn.__init__" mH
 uEU:InIn K "Over" "Over.__init__" mJ
 uFC:InIn K "Shifted" "Shifted.__init__" mL
 uGH:InIn K "Rehue" "Rehue.__init__" mN
 uHS:InIn K "Reading" "Reading.__init__" mR
 uIO:InIn K "Pattern" "Pattern.__init__" mV
 uHJ:InIn K "Floor" "Floor.__init__" oy
 uHU:MtIn K "Floor" "keep" "Floor.keep" lz
 uJU:MtIn K "Motif" "shows" "Motif.shows" ie
 uGL:MtIn K "Over" "shows" "Over.shows" ig
 uFG:MtIn K "Shifted" "shows" "Shifted.shows" ij
 uEZ:MtIn K "Mirror" "shows" "Mirror.shows" il
 uHG:MtIn K "Turn" "shows" "Turn.shows" io
 uJG:MtIn K "Rehue" "shows" "Rehue.shows" iq
 uEY:MtIn K "Floor" "rows" "Floor.rows" iw
 uHP:MdIn K "Floor" "lay" "Floor.lay" lM 1
 uGM:MtIn K "Reading" "may_take" "Reading.may_take" lU
 uJD:MtIn K "Reading" "take" "Reading.take" lW
 uIS:MtIn K "Motif" "family" "Motif.family" iD
 uJX:MtIn K "Over" "family" "Over.family" iE
 uHL:MtIn K "Shifted" "family" "Shifted.family" iG
 uFA:MtIn K "Mirror" "family" "Mirror.family" iI
 uGB:MtIn K "Turn" "family" "Turn.family" iK
 uES:MtIn K "Rehue" "family" "Rehue.family" iM
 uGA:MtIn K "Floor" "stand" "Floor.stand" nB
 uHV:MtIn K "Floor" "change" "Floor.change" nD
 uGU:MtIn K "Floor" "undo" "Floor.undo" nH
 uHA:MtIn K "Floor" "lies" "Floor.lies" oi
 uHY:MtIn K "Floor" "still" "Floor.still" ol
 uFY:MtIn K "Floor" "kept" "Floor.kept" oq
 uJQ:NoIn K "Floor" "deeds"
 uGV:NoIn K "Floor" "laid"
 uFQ:NoIn K "Floor" "pattern"
 uHC:NoIn K "Motif" "hues"
 uGK:NoIn K "Motif" "shifts"
 uJN:NoIn K "Over" "above"
 uGQ:NoIn K "Over" "below"
 uIB:NoIn K "Shifted" "form"
 uIL:NoIn K "Shifted" "y"
 uIF:NoIn K "Shifted" "x"
 uHD:NoIn K "Mirror" "form"
 uIM:NoIn K "Turn" "form"
 uIV:NoIn K "Rehue" "form"
 uJO:NoIn K "Rehue" "old"
 uHE:NoIn K "Rehue" "new"
 uFT:NoIn K "Pattern" "form"
 uJP:NoIn K "Floor" "width"
 uGR:NoIn K "Floor" "height"
 uGG:NoIn K "Reading" "text"
 uID:NoIn K "Reading" "place"
 uIN:NoIn K "Motif" "place"
 uFH:NoIn K "Pattern" "text"
 uIE:NoIn K "Pattern" "shifts"
 uHR:NoIn K "Floor" "text"
 uGE:CiIn K "KEPT" 20
 uIP:CiIn K "FAR" 1000000000000
 uHH:CsIn K "SIGNS" ".123456"
 uGD:CiIn K "LONGEST" 8
 uJA:CiIn K "DEEP" 5
 uJH:CiIn K "MOST" 720
 eb:EbIn K
 uDX:E0In K "TooFar"
 uEE:E0In K "NoRow"
 uAR:E1In K "Parted" "Parted.__init__" nz
 uAF:EaIn K "Parted"
 uEO:NoIn K "Parted" "x"
 uDZ:NoIn K "Parted" "y"
 uEL:EgIn K "Parted"
 uEB:E0In K "NothingKept"
 uHK:EiIn K "MotifError"
 uIW:EmIn K "TooFar" "TooFar"
 uIA:EmIn K "TooFar" "NoRow"
 uGX:EmIn K "TooFar" "Parted"
 uFV:EmIn K "TooFar" "NothingKept"
 uJS:EmIn K "NoRow" "TooFar"
 uGZ:EmIn K "NoRow" "NoRow"
 uIK:EmIn K "NoRow" "Parted"
 uJW:EmIn K "NoRow" "NothingKept"
 uIJ:EmIn K "Parted" "TooFar"
 uGC:EmIn K "Parted" "NoRow"
 uIG:EmIn K "Parted" "Parted"
 uHN:EmIn K "Parted" "NothingKept"
 uIH:EmIn K "NothingKept" "TooFar"
 uFJ:EmIn K "NothingKept" "NoRow"
 uFB:EmIn K "NothingKept" "Parted"
 uGY:EmIn K "NothingKept" "NothingKept"
def FI{V:Bx}{h:Heap}(t:TopIn V.K)(X:V.K.In h)(G:h.Ns Pi V.mg){fa:KF}{fd:R3}(F:Fun V.K "law" "law" fR fa fd):FnOk V.P V.w V.K V.mg V.base (Exc.CX1 V.P V.w) 22 fa fd oA (lSp V.K eg):=by
 have uB:=mg_none_of X G t.uJJ;have uA:=mg_none_of X G t.uIZ;have uK:=mg_none_of X G t.uHF;have uY:=mg_none_of X G t.uHI;have JB:=mg_none_of X G t.uET;have Kl:=mg_none_of X G t.uFX;have Ko:=mg_none_of X G t.uHT;have uQ:=mg_none_of X G t.uJT;have Ow:=mg_none_of X G t.uIR;have KQ:=mg_none_of X G t.uFR;have Ox:=mg_none_of X G t.uFU;have uO:=t.uN.a t.uJQ;have uD:=t.uN.a t.uGV;have uE:=t.uN.a t.uFQ;have JN:=t.uBF.a t.uHC;have uM:=t.uBF.a t.uGK;have uW:=t.uBU.a t.uJN;have uV:=t.uBU.a t.uGQ;have uU:=t.uBI.a t.uIB;have JO:=t.uBI.a t.uIL;have JP:=t.uBI.a t.uIF;have uR:=t.uCM.a t.uHD;have uT:=t.uDV.a t.uIM;have uS:=t.uBE.a t.uIV;have JQ:=t.uBE.a t.uJO;have JR:=t.uBE.a t.uHE;have KE:=t.uCO.a t.uFT;have uH:=t.uN.a t.uJP;have uX:=t.uN.a t.uGR;have JS:=t.uBW.a t.uGG;have uL:=t.uBW.a t.uID;have N6:=t.uBF.a t.uIN;have KN:=t.uCO.a t.uFH;have D_:=t.uCO.a t.uIE;have E_:=t.uN.a t.uHR;have NZ:=t.uGE.g X G;have N1:=t.uIP.g X G;have uP:=t.uHH.g X G;have Mn:=t.uGD.g X G;have LI:=t.uJA.g X G;have Oc:=t.uJH.g X G;have N2:=t.uDX.k t.eb X G;have N3:=t.uEE.k t.eb X G;have uAF:=t.uAR.a t.eb t.uAF X G;have Oh:=t.uEO.all;have Oi:=t.uDZ.all;have Oo:=t.uEB.k t.eb X G;have Og:=t.uHK.b X G;have Om:V.x "y" ["Parted"]:=AllP.mem #[t.uEL.g uAF t.uDZ,trivial];have On:V.x "x" ["Parted"]:=AllP.mem #[t.uEL.g uAF t.uEO,trivial];have ek:jb V:=An #[(let ⟨C,N,bm,k,_⟩:=t.uDX.k t.eb X G;#[C,N,bm,k]),(let ⟨C,N,bm,k,_⟩:=t.uEE.k t.eb X G;#[C,N,bm,k]),(t.uAR.c t.eb X G),(let ⟨C,N,bm,k,_⟩:=t.uEB.k t.eb X G;#[C,N,bm,k]),trivial] #[#[t.uIW,t.uIA,t.uGX,t.uFV,trivial],#[t.uJS,t.uGZ,t.uIK,t.uJW,trivial],#[t.uIJ,t.uGC,t.uIG,t.uHN,trivial],#[t.uIH,t.uFJ,t.uFB,t.uGY,trivial],trivial];have z6:iU V:=DQ (t.uGI.tx X G L6) uB;have KA:iV V:=DR (t.uHW.tx X G O6) uA z6;have NR:oE V:=DU (t.uFW.tx X G MY) uA uB;have NS:oF V:=DV (t.uFE.tx X G MY) uK;have NT:oG V:=DY (t.uGJ.tx X G O6) uY;have Ms:oH V:=DZ (t.uJF.tx X G L6) KA NR NS NT;have NU:oI V:=D0 (t.uFK.tx X G (by walk_at "b4"));have NX:oJ V:=D1 (t.uHB.tx X G O6) uA uB uK NU;have NY:oK V:=D2 (t.uFS.tx X G O6) NX;have OF:oM V:=D4 (t.uFL.tx X G O6) uA NY;have KH:iW V:=D6 (t.uHU.txm t.uN L6) NZ uO uD uE;have Km:iX V:=D7 (t.uGN.tx X G L6) JB Kl N1 N2;have uZ:eX V:=D8 (t.uIY.tx X G O6);have uG:vo V:=Ee (t.uJU.txm t.uBF O6) (t.uGL.txm t.uBU O6) (t.uFG.txm t.uBI O6) (t.uEZ.txm t.uCM O6) (t.uHG.txm t.uDV O6) (t.uJG.txm t.uBE O6) uZ JN uM uW uV uU JO JP uR uT uS JQ JR 6;have Kn:iY V:=Ef (t.uGF.tx X G O6) Km KE uG;have KG:iZ V:=Eg (t.uJC.tx X G (by walk_at "b4")) uA Kn uP;have KI:ja V:=Eh (t.uEY.txm t.uN MY) uA KG uD uH uE;have Mj:oN V:=Ei (t.uHP.txd t.uN (by walk_at "bd")) JB uX uD KH KI N3;have Oq:oO V:=El (t.uEQ.tx X G O6) Mj ek;have Ot:oP V:=En (t.uFO.tx X G L6) uA uB;have uI:cX V:=Eo (t.uGM.txm t.uBW L6) uB JS uL;have uC:cF V:=Ep (t.uJD.txm t.uBW L6) uI;have Mm:oQ V:=Er (t.uJI.tx X G O6) uA uP uC uI;have N7:oR V:=Es (t.uEV.tx X G MY) uB Mm Mn uI;have Mo:oS V:=Et (t.uJB.tx X G MY) uK uI uC;have JD:fU V:=Eu (t.uEP.tx X G MY) Mo uC;have KJ:jc V:=Ev (t.uJV.tx X G L6);have KL:jd V:=Ew (t.uFN.tx X G L6) Kl KJ;have N5:oU V:=Ey (t.uFZ.tx X G L6) Ko uZ uP;have N8:oV V:=Ez (t.uJY.txi X G (by walk_at "b5")) KL N5 N6 uM JN;have LH:je V:=EA (t.uEW.tx X G MY) N7 JD uL N8 uC;have LJ:jg V:=EB (t.uIX.txi X G L6) uR;have LK:jh V:=EC (t.uGS.txi X G L6) uT;have LD:ji V:=EE (t.uEU.txi X G O6) uW uV;have LF:jj V:=EF (t.uFC.txi X G (by walk_at "b4")) uU JP JO;have LG:jk V:=EG (t.uGH.txi X G (by walk_at "b4")) uS JQ JR;have uJ:vt V:=EL (t.uGP.tx X G L6) (t.uFM.tx X G L6) (t.uJK.tx X G L6) (t.uHX.tx X G L6) LD uC JD LF uK LG LH LI LJ LK uI 6;have Od:oW V:=EM (t.uHS.txi X G L6) JS uL;have Oe:oX V:=EN (t.uIO.txi X G (by walk_at "b4")) KN D_ KE;have LM:oY V:=EO (t.uGO.tx X G L6) KJ;have LN:jl V:=EQ (t.uJE.tx X G L6) LM;have LO:jm V:=ER (t.uJL.tx X G MY);have LP:jn V:=ES (t.uJM.tx X G MY) KL;have uF:vw V:=EZ (t.uIS.txm t.uBF MY) (t.uJX.txm t.uBU MY) (t.uHL.txm t.uBI MY) (t.uFA.txm t.uCM MY) (t.uGB.txm t.uDV MY) (t.uES.txm t.uBE MY) uM LN uW uV uU LO uR LP uT uS 6;have KO:jp V:=E1 (t.uHQ.tx X G MY) uB uJ Oc uL Od Oe uF;have Oj:oZ V:=E3 (t.uIT.tx X G (by walk_at "b4")) uA Kn;have uAR:pd V:=E5 (t.uAR.txe t.eb X G O6) Og uAF Oh Oi;have KP:jq V:=E7 (t.uGA.txm t.uN L6) uE E_ KN;have Ol:pe V:=E9 (t.uHV.txm t.uN L6) KO Oj uD uH uE KH KP uAR;have Ou:pf V:=Fc (t.uIC.tx X G L6) Ol Om On ek;have Op:ph V:=Fe (t.uGU.txm t.uN MY) uB uO uD KP Oo;have Ov:pi V:=Fg (t.uII.tx X G MY) Op ek;have OG:pj V:=ok__law_next (t.uFP.tx X G (by walk_at "b4")) Oq Ot Ou Ov;have JV:jr V:=Fh (t.uGT.tx X G MY) uQ Ow uK;have OB:pk V:=Fj (t.uHO.tx X G L6) uB uQ KQ uA uY;have Mq:pq V:=Fo (t.uIQ.tx X G L6) uB uQ KQ uA JV;have Mr:pr V:=Fq (t.uFD.tx X G MY);have Oy:pv V:=Fs (t.uIU.tx X G MY) uA KG D_;have Oz:C_round_row V:=Ft (t.uFF.tx X G (by walk_at "b4")) uZ;have OA:pw V:=Fu (t.uGW.tx X G O6) uB;have KR:js V:=Fv (t.uFI.tx X G (by walk_at "b5")) JB uA Ox Ko Km Oy Oz OA uP D_;have OC:pz V:=Fx (t.uHA.txm t.uN MY) KR uD uH uE;have OD:pA V:=Fz (t.uHY.txm t.uN MY) KR uX uH uD uE;have OE:pB V:=FC (t.uFY.txm t.uN MY) uB uO;have OH:pC V:=FE (t.uEX.tx X G (by walk_at "b6")) uQ uY JV OB Mq Mr E_ uH uX KI OC OD OE;have OI:pD V:=FG (t.uHJ.txi X G (by walk_at "b4")) KO uE E_ uH uX uD uO;exact FH F uA uB Ms z6 OF KA OG OH OI
def all_mk{l:HM}{w:RU}{K:Ex}{h:Heap}{mg:Jj->Option KB}{fa:KF}(X:K.In h)(G:h.Ns Pi mg)(Ke:mg "law"=be (.ref fa))(t:TopIn K):
  ∃fd:R3,(∀(s:KM) (v:KB),SW s fd #[[v],[]] [("_law_script",v)])/\∀base:Heap,K.In base->base.Ns Pi mg->FnOk l.prog w K mg base (Exc.CX1 l.prog w) 22 fa fd ["_law_script"] (lSp K eg):=by
 obtain⟨fd,b,F⟩:=t.uER.law X G Ke (λ_ _ _ _ _ _ _=>rfl);exact#[fd,b,λbase _ _=>FI (V:=#[l.prog,w,K,mg,base]) t X G F]
def law_walk{l:HM}{q:RP}{j6:List Jj}{XP:(Jj->Option KB)->Heap->Prop}{YP:RU->Heap->Prop}{d:DefRec}{K:Params->Ex}(hn:l.most=be 63)(K8:d.params.defaults=[])
  (hY:∀(w:RU) (h:Heap),YP w h->(K w.params).In h)
  (F:∀(w:RU) (mg:Jj->Option KB) (fa:KF) (h:Heap),(K w.params).In h->h.Ns Pi mg->mg d.name=be (.ref fa)->
   ∃fd:R3,(∀(s:KM) (u:KB),SW s fd #[[u],[]] [("_law_script",u)])/\∀base:Heap,(K w.params).In base->base.Ns Pi mg->FnOk l.prog w (K w.params) mg base (Exc.CX1 l.prog w) 22 fa fd ["_law_script"] (lSp (K w.params) eg)):
  Iq q j6 XP YP l.row.toRowW d [] (λf vs=>PySem.call f vs):=
 L2.walk_of (n:=63) (k:=22) (x:="_law_script") (CX:=λw=>Exc.CX1 l.prog w) (sp:=λw=>lSp (K w.params) eg) hn J7 K8 #[rfl,J7,J7] hY F (λ_ _ a ns hl _ hS=>yn hl hS) λ_ _ _ _ _ h=>by obtain⟨_,_,_,_,_,_,_,_,_,_,_,_,_,_,_,z⟩:=h;exact z
end My
open PySem PySem.W PyProof.Rows
set_option maxRecDepth 100000 in
set_option maxHeartbeats 0 in
theorem PySem.Challenge.cw_motiffield_k35_floors_apart_holds : PySem.Challenge.rw_motiffield_k35_floors_apart.Holds := by
  w_on;o_law;k_head;(case hw =>w_witness2)
  k_fill
  refine My.law_walk (l :=PySem.Challenge.rw_motiffield_k35_floors_apart) rfl rfl (λw h Y =>kIn_of Y) ?F
  case F =>
    intro w mg fa h KX G j4;refine My.all_mk KX G j4 ?_;constructor
    all_goals first|((with_reducible refine' My.fnIn_mk ?a ?l ?c ?k);(case a =>k_is);(case l =>k_is);(case c =>k_is);(case k =>k_is))|((with_reducible refine' My.nnIn_mk ?a);(case a =>k_is))|((with_reducible refine' My.noIn_mk ?a ?b);(case a =>k_is);(case b =>k_is))|((with_reducible refine' My.mtIn_mk ?a ?b ?i ?l ?c ?k);(case a =>k_is);(case b =>k_is);(case i =>k_is);(case l =>k_is);(case c =>k_is);(case k =>k_is))|((with_reducible refine' My.mdIn_mk ?a ?b ?i' ?l ?c ?k ?d);(case a =>k_is);(case b =>k_is);(case i' =>k_is);(case l =>k_is);(case c =>k_is);(case k =>k_is);(case d =>k_is))|((with_reducible refine' My.inIn_mk ?a ?mk ?b ?i ?kp ?l ?c ?k);(case a =>k_is);(case mk =>k_is);(case b =>k_is);(case i =>k_is);(case kp =>k_is);(case l =>k_is);(case c =>k_is);(case k =>k_is))|((with_reducible refine' My.clIn_mk ?a ?pg ?hd ?po ?sa ?ha ?hn ?ht ?hm);(case a =>k_is);(case pg =>k_is);(case hd =>k_is);(case po =>k_is);(case sa =>k_is);(case ha =>k_is);(case hn =>k_is);(case ht =>k_is);(case hm =>k_is))|((with_reducible refine' My.ciIn_mk ?a);(case a =>k_is))|((with_reducible refine' My.csIn_mk ?a);(case a =>k_is))|((with_reducible refine' My.ebIn_mk ?a ?kp ?o ?nk ?al ?ni);(case a =>k_is);(case kp =>k_is);(case o =>k_is);(case nk =>k_is);(case al =>rfl);(case ni =>k_is))|((with_reducible refine' My.e0In_mk ?b ?a ?kp ?o ?nk ?al ?ni);(case b =>k_is);(case a =>k_is);(case kp =>k_is);(case o =>k_is);(case nk =>k_is);(case al =>rfl);(case ni =>k_is))|((with_reducible refine' My.e1In_mk ?b ?a ?kp ?o ?j ?i ?l ?c ?k);(case b =>k_is);(case a =>k_is);(case kp =>k_is);(case o =>k_is);(case j =>k_is);(case i =>k_is);(case l =>k_is);(case c =>k_is);(case k =>k_is))|((with_reducible refine' My.eaIn_mk ?a ?b);(case a =>k_is);(case b =>k_is))|((with_reducible refine' My.egIn_mk ?a ?b ?c);(case a =>k_is);(case b =>k_is);(case c =>k_is))|((with_reducible refine' My.eiIn_mk ?a ?b ?c ?d);(case a =>k_is);(case b =>k_is);(case c =>k_is);(case d =>k_is))|((with_reducible refine' My.emIn_mkT ?e ?a ?c ?d);(case e =>decide);(case a =>k_is);(case c =>k_is);(case d =>k_is))|((with_reducible refine' My.emIn_mkF ?e ?a ?c ?d);(case e =>decide);(case a =>k_is);(case c =>k_is);(case d =>k_is))
end
