import PyProof.Rows.All
import Wide.All
import OpenK.AllK
import Wide.FinOn
import Lean
import PyProof.EqAt
import PyProof.EqKinds
import PyProof.TupleCall
import PySem.Challenge.RW_motiffield_k32_undo
set_option compiler.extract_closed false
set_option Elab.async false
set_option linter.all false
set_option maxRecDepth 100000
set_option maxHeartbeats 4000000
local macro_rules|`(command|def $x:declId $s:optDeclSig $v:declVal)=>`(command|noncomputable def $x:declId $s:optDeclSig $v:declVal)
local macro_rules|`(command|abbrev $x:declId $s:optDeclSig $v:declVal)=>`(command|noncomputable abbrev $x:declId $s:optDeclSig $v:declVal)
local macro_rules|`(#[$x,*])=>`(⟨$x,*⟩)
theorem KK{p:Prop}(h:p:=by lia):p:=h
theorem Mt{p:Prop}(h:p:=by decide+kernel):p:=h
theorem Mx{p:Prop}(h:p:=by decide):p:=h
theorem MC{p:Prop}(h:p:=by omega):p:=h
theorem MD{p:Prop}(h:p:=by simp):p:=h
theorem NB{p:Prop}(h:p:=by k_memK):p:=h
theorem NL{p:Prop}(h:p:=by show(2:Nat)<=1000;decide):p:=h
theorem NN{p:Prop}(h:p:=by walk_at "b2"):p:=h
theorem NS{p:Prop}(h:p:=by grind):p:=h
theorem OH{p:Prop}(h:p:=by walk_at "b1"):p:=h
theorem Pm{p:Prop}(h:p:=by cases d<;>first|exact#[_,rfl,h]|exact False.elim h):p:=h
theorem Qt{p:Prop}(h:p:=by cases q:cd.mro with|nil=>rw[q]at hm;simp[aN]at hm|cons _ _=>rfl):p:=h
theorem Rw{p:Prop}(h:p:=by show(1:Nat)<=1000;decide):p:=h
theorem RF{p:Prop}(h:p:=by walk_at "b3"):p:=h
theorem RN{p:Prop}(h:p:=by show(1:Nat)<1000;decide):p:=h
theorem Ty{p:Prop}(h:p:=by rw[<-hY];rfl):p:=h
theorem Uw{p:Prop}(h:p:=by simp;lia):p:=h
theorem Ux{p:Prop}(h:p:=by unfold mroIn;rw[hc,JB,if_neg (by rw[ne];decide),eK Mt hm]):p:=h
open PySem renaming Str->LB
open Option renaming some->be,none->v9
open PySem renaming Value->Os,Addr->Pi,wpAny_bind->P3,Shared->SB,mainGlobals->SL,wpAny_pure->SZ,Stmt->U7,Expr->U8,model->U9,Program->U',wpAny->U_,World->Va,Around->Vb,starEach->Vc,assignEach->Vd,attributeBase->Ve,eval->Vf,FuncData->Vg,Pos->Vh,compareOp->Vi,wpAny_Call_Name_kw->Vj,wpAny_newObj_type->Vl,wpAny_mono->Vm,swapsWith->Vn,bootBuiltins->Vo,Obj->Vp,wpAny_loadPart_at->Vq,PassesOwn->Vr,excClassObj->Vs,wpAny_holding->Vt,behindInMarks->Vu,binaryOp->Vv,wpAny_passesOwn->Vw,sysModules->Vx,holding->Vy,Scope->Vz,wpAny_standAt->VA,swapsWithSole->VB,swappedStores->VC,ExceptHandler->VD,wpAny_getItem_str_slice->VE,keywordEach->VF,codeAny_mono->VG,backTo->VH,plainObj_wpAny_Assign_Attribute->VI,wpAny_call->VJ,assign->VL,wpAny_field->VM,sliceBounds->VN,codeAny_call_builtin->VO,bindArgs->VP,NameKind->VQ,wpAny_execs_nil->VR,wpAny_isSubtype_exc->VS,standAt->VT,Env->VU,wpAny_truthy_bool->VV,wpAny_pyIter_enum->VW,sizeLine_eq->VX,tupleKind->VZ,noteFrame->V0,backToKw->V1,rawInt->V2,BindsTo->V3,post_val_or_str->V4,letOwnedTupleGo->V5,cLine->V6,wpAny_setField->V7,getMethod->V8,codeAny->V9,Keyword->V',isInstance->V_,wpAny_assign_Name->Wb,callerA->Wc,wpAny_lookBehind->Wd,setFlight->We,pastItsLine_dict->Wg,IsPart->Wh,atKey->Wi,valueAt->Wj,getItem->Wk,wpAny_loadPart->Wl,wpAny_letOwnedTupleGo_enum->Wm,handleBy->Wn,dictSetDefault->Wo,bindName->Wp,Operator->Wq,wpAny_comprehension_free->Wr,assignInOrder->Ws,bindL->Wt,bindC->Wu,ClassData->Wv,wpAny_nsSet1->Ww,setItem->Wy,seqIndex_neg->Wz,leaving->WA,getAttr->WB,codeAny_compStart_list->WC,call_meetsIn->WD,Sem->WE,codeAny_handlers_test->WH,wpAny_of_eq->WI,wpAny_newFunctionEnv->WJ,seqIndex_of->WK,callWith->WL,Model->WM,GenState->WN,CmpOp->WO,wpAny_handleBy_cons->WQ,wpAny_call_exc_subT->WR,wpAny_rule->WS,wpAny_entryPlaceOf->WT,wpAny_Name->WU,typeIs_str->WV,tupleKind_room_in1->WW,call_meets->WX,builtinsNs->WY,wpAny_frameOf_fun->WZ,setAttr->W0,release->W1,relabel->W2,foldedSetIterable->W3,Tok->W5
open PyProof.Rows renaming envOfC->Vk,AllBare->VY,assignInOrder_cons->Wa,subscriptTail_builtinR->Wx,IntsAre->WG,assignInOrder_nil->W4
open PySem.W renaming Frag->Ex,findIn->HW,mroIn->IK,OpenLaw->J5,clsIn->J9,handedIn->Kx,WalkO->KD
open List renaming mem_singleton->HN,mem_cons->HQ,length_map->HR,mem_cons_of_mem->HS,range->HU,mem_cons_self->HV,length_cons->HX,size_toArray->HY,getElem?_map->H9,length_append->Ia,getElem?_eq_some_iff->Ib,getElem?_set_ne->Ic,lookup_cons->Ig,getElem?_eq_getElem->Ih,set_cons_succ->Ij,mem_append_right->Ik,map_cons->Il,set_cons_zero->Im,map_append->Ip,mem_map->Ir,getElem_mem->Ix,mem_append->Iy,append_nil->IA,getElem?_eq_none->ID,getElem?_set_self->IE,replicate->IF,getElem?_append_left->IG,length_set->IH,getD->II,nodup_cons->IL,all_eq_true->IN,append_assoc->IQ,getElem?_range->IR,getElem?_append_right->IT,mem_of_getElem?->IU,mem_append_left->Ja,lookup->Jb,length_drop->Jd,getElem?_set->Je,drop->Jf,take_of_length_le->Jg,drop_eq_getElem_cons->Jj,length_take->Jk,all_cons->Jl,map_nil->Jn,find?_cons->Jo,ext_getElem?->Jp,nodup_append->Jr,not_mem_nil->Jw,length->JA,range_succ->JC,map_congr_left->JD,eq_nil_of_length_eq_zero->JE,map_map->JG,filterMap_cons->JL,any_cons->JP,map->JS,take_length->JW,drop_zero->JZ,of_mem_zip->J2,getElem?_replicate->J3,getElem?_take_of_lt->J4,contains_cons->J6,forIn_cons->J7,length_range->Kn,drop_of_length_le->Kp,mem_of_mem_drop->Ks,drop_eq_nil_of_le->Kt,mem_filter->Kv,mem_filterMap->Kw,filterMap_map->Kz,length_singleton->KB,nodup_nil->KG,getElem_toArray->KJ,take_succ->KM,dropLast_cons₂->KO,getElem?_drop->Lf,map_take->Lk,take_range->Ll,set_append_left->Lm,set_append_right->Ln,mem_or_eq_of_mem_set->Lo,map_set->Lp,take_append_drop->Lq,drop_length->Lr
open Nat renaming le_refl->HP,ne_of_lt->HZ,le_trans->H8,lt_of_lt_of_le->Io,zero_le->Iq,ne_of_gt->IS,pow_succ->IY,lt_irrefl->IZ,le_succ->Jc,lt_or_ge->Jq,mul_le_mul->Js,pow_le_pow_right->Ju,min_eq_left->Jz,succ_mul->JF,not_lt_zero->JH,le_of_lt->JK,le_of_eq->JO,le_of_not_lt->JQ,add_le_add->JU,pow_pos->JY,min_eq_right->J0,lt_succ_of_lt->J8,add_comm->Kj,zero_add->Ko,sub_zero->Kq,lt_succ_self->Ky,lt_of_le_of_lt->KE,lt_trans->KF,log2_lt->KH,add_sub_add_right->KL,succ_ne_self->KP,mul_le_mul_right->KS,le_max_left->K2,le_max_right->K3,pow_add->K4,add_sub_cancel->K8,mod_eq_of_lt->Lg,mul_succ->Lj,le_add_right->Ls
open Bool renaming false_ne_true->Ie,and_eq_true->Iw,eq_false_iff->IB,eq_iff_iff->JN,or_true->JR
open Int renaming mul_pos->Ii,mul_comm->Iu,toNat_of_nonneg->Iv,mul_le_mul_of_nonneg_right->Iz,mul_ediv_cancel->IC,le_trans->IJ,toNat_natCast->IM,natAbs_mul->IP,emod_nonneg->IV,emod_lt_of_pos->IW,emod_def->Jh,mul_nonpos_of_nonpos_of_nonneg->Ji,eq_of_mul_eq_mul_right->Jt,emod_add_mul_ediv->Jv,zero_add->Jy,natCast_add->JI,add_zero->JJ,dvd_mul_of_dvd_right->JV,mul_neg->JX,ediv_nonneg->J1,natAbs_add_le->Kb,mul_nonneg->Kc,fmod_eq_zero_of_dvd->Kd,natCast_mul->Ke,neg_mul->Kf,natAbs_neg->Kg,eq_of_mul_eq_mul_left->Kh,dvd_add->Ki,mul_eq_zero->Kk,sub_mul->Kl,add_mul->Km,add_assoc->Kr,ediv_le_self->Ku,natAbs_eq_zero->KI,fmod_nonneg_of_pos->KQ,fmod_lt_of_pos->KR,natAbs_sub_le->KU,mul_emod_left->KW,mul_le_mul_of_nonneg_left->KY,le_natAbs->KZ,ofNat_le->K0,dvd_mul_of_dvd_left->K1,mul_fdiv_cancel_of_fmod_eq_zero->K5,dvd_antisymm->K6,zero_mul->K7,add_mul_emod_self_right->La,add_mul_ediv_right->Lb,dvd_add_left->Ld,dvd_mul_right->Le,natCast_emod->Lh,ediv_eq_zero_of_lt->Li
open Option renaming bind_some->JB,getD_none->KA,map_eq_some_iff->Lu
open Array renaming length_toList->JM,getElem?_eq_some_iff->JT,all_toList->Ka,getElem?_toList->KC,getElem?_eq_getElem->KN,toList_inj->K9
open PySem.W (InitBack any_some callWith_K callWith_K0 cellsFrom_some cls_value codeIn codeRec_of emptyDict eq_bytes findCls findObj_own fnOf get_value hasDictIn hideAll hideAll_get hideAll_none hideAll_size instObj isFn isNs_of_in kIn_of keepIn ki_setAt ki_setBack kia_one kitOne kitx_bool kitx_dict kitx_float kitx_int kitx_list kitx_none kitx_own kitx_str kitx_tuple kun_itemsOf len_bytes lookIn make_core makesIn makes_of methodCall_KW methodObj method_cls method_fn mg_none_of mg_of ne_bytes nsIn nsMap_none_of_in nsOkIn of_hideAll osa_open plainGet plainGet_of plainOver readsIn specialIn tailIn tail_of_in takerIn takesIn truthy_bytes)
def qZ0(_:0=0:=by rfl):=0
nonrec def zA0:=qZ0._auto_1
def qZ1(_:0=0:=by decide):=0
nonrec def zA1:=qZ1._auto_1
def qZ2(_:0=0:=by first|exact .inl rfl|exact .inr rfl|assumption):=0
nonrec def zA2:=qZ2._auto_1
def qZ3(_:0=0:=by exact λ_=>rfl):=0
nonrec def zA3:=qZ3._auto_1
def qZ4(_:0=0:=by first|exact Or.inl rfl|exact Or.inr rfl):=0
nonrec def zA4:=qZ4._auto_1
def qZ5(_:0=0:=by first|exact Or.inl rfl|exact Or.inr (Or.inl rfl)|exact Or.inr (Or.inr rfl)):=0
nonrec def zA5:=qZ5._auto_1
def qZ6(_:0=0:=by exact λ_ _=>rfl):=0
nonrec def zA6:=qZ6._auto_1
def qZ7(_:0=0:=by intros;rfl):=0
nonrec def zA7:=qZ7._auto_1
namespace PySem.W.Fast
def tw10446750002128439947:=Nat
def tw7708166003881977653:=Nat
def tw9650274335668421670:=Nat
def tw9127502253231405942:=Nat
def tw5889936055803652917:=Nat
def tw756502084063398143:=Nat
def tw3205589118732658511:=Nat
def tw6261042437425334689:=Nat
def tw127992600544809937:=Nat
def tw1600467696907866855:=Nat
def tw14127358855846769684:=Nat
def tw5610530948920468421:=Nat
def tw15889338859932060432:=Nat
def tw9709313854970891810:=Nat
def tw11049178617065904465:=Nat
def tw456860219870169102:=Nat
def tw45078761476799233:=Nat
def tw8714508023605103324:=Nat
def tw14407863066391553462:=Nat
def tw7789320778255697759:=Nat
def tw12909054669746393719:=Nat
def tw1960107001665537294:=Nat
def tw16139089722888555535:=Nat
def tw3138088130683430417:=Nat
def tw4518540986616394987:=Nat
def tw995223281597187172:=Nat
def tw7878622553000596590:=Nat
def tw11733670659806830880:=Nat
def tw11772252453054404753:=Nat
def tw1077764975018236503:=Nat
def tw4572556746909579285:=Nat
def tw17175612968429591870:=Nat
def tw15447191787090430710:=Nat
def tw3063322742344199541:=Nat
def tw5915534898826705284:=Nat
def tw13134827306205161775:=Nat
def tw8529708181885762318:=Nat
def tw16672371846022632513:=Nat
def tw15398215120258450239:=Nat
def tw2594020129039007690:=Nat
def tw17112236119873350064:=Nat
def tw6670612390805204293:=Nat
def tw13692251203551285842:=Nat
def tw10707655145506144271:=Nat
def tw18101849478984902386:=Nat
def tw11215765736652094112:=Nat
def tw14782337252686645936:=Nat
def tw17176825563944499951:=Nat
def tw9867749680621544733:=Nat
def tw4604243934733292698:=Nat
def tw4287085955047176906:=Nat
def tw7952172467802268266:=Nat
def tw14546415021108022807:=Nat
def tw6221838858271438671:=Nat
def tw1680504494320139536:=Nat
def tw2774191624443870796:=Nat
def tw5710918725770494716:=Nat
def tw4726292169535983118:=Nat
def tw7602916368205119233:=Nat
def tw10398270394581461241:=Nat
def tw17378531916174002323:=Nat
def tw3118330220110824085:=Nat
def tw17040139427748348129:=Nat
def tw16497474416228343844:=Nat
def tw6310839056115436657:=Nat
def tw13819790946370189179:=Nat
def tw6849458108272254834:=Nat
def tw303544619450509536:=Nat
def tw15497558591072251355:=Nat
def tw9986169820651390475:=Nat
def tw12037123799963641144:=Nat
def tw3378761564718821579:=Nat
def tw4873696233359371842:=Nat
def tw8511920734121476829:=Nat
def tw2157883828268606465:=Nat
def tw14700487394990817855:=Nat
def tw8325065273246067179:=Nat
def tw11133128135281661933:=Nat
def tw495851681189728537:=Nat
def tw5011901221474245414:=Nat
def tw12648070312922211183:=Nat
def tw10707874000116169733:=Nat
def tw7039951690841094144:=Nat
def tw14124264891792305208:=Nat
def tw4079353110244462777:=Nat
def tw7250064061886932821:=Nat
def tw924709550623686127:=Nat
def tw12758748528968605736:=Nat
def tw14263934581848224854:=Nat
def tw16853790661790688152:=Nat
def tw955492144970245323:=Nat
def tw12603155254364031148:=Nat
def tw16832280168686558758:=Nat
def tw16531058824124907901:=Nat
def tw2220242414118911415:=Nat
def tw13991746002695752727:=Nat
def tw17692913844492308256:=Nat
def tw16892397040928611557:=Nat
def tw15864202678067482942:=Nat
def tw2444750058341044398:=Nat
def tw12498660074199596768:=Nat
def tw12727952423026651959:=Nat
def tw13429344953491825544:=Nat
def tw13038842991045654484:=Nat
def tw17421008507221286554:=Nat
def tw1521022295391626455:=Nat
def tw1566705990667507057:=Nat
def tw15924374561260867376:=Nat
def tw13433252861420612695:=Nat
def tw10082209816228070580:=Nat
def tw17881887543472519832:=Nat
def tw15808451503751197096:=Nat
def tw16461837155509737662:=Nat
def tw15486717275617558294:=Nat
def tw9860863916710638446:=Nat
def tw1577825578132616005:=Nat
def tw10677403795232413655:=Nat
def tw2769445239091350257:=Nat
def tw12864225655582062286:=Nat
def tw11482806851716682737:=Nat
def tw15574066096968061797:=Nat
def tw4845987149576522754:=Nat
def tw14954877082873633619:=Nat
def tw10530036458155618025:=Nat
def tw4840216053207866958:=Nat
def tw10740352276190578360:=Nat
def tw7656286228205796806:=Nat
def tw10397998680999916168:=Nat
def tw4765516068589533756:=Nat
def tw11775118787846386218:=Nat
def tw5967694198325627166:=Nat
def tw15261687227225019561:=Nat
def tw18325706259757284585:=Nat
def tw5537832876834214423:=Nat
def tw6861431207163191705:=Nat
def tw13261197670166228322:=Nat
def tw7085615431984261457:=Nat
def tw10193874405966829510:=Nat
def tw14725180113081050246:=Nat
def tw5196462971651695327:=Nat
def tw8533330751726594132:=Nat
def tw13767242499192777106:=Nat
def tw8183042595733750475:=Nat
def tw17110819010826713029:=Nat
def tw2327165853896755763:=Nat
def tw17828392768139743093:=Nat
def tw10078652253781940924:=Nat
def tw17140680697778424081:=Nat
def tw1894489469621006950:=Nat
def tw6370281414813781798:=Nat
def tw2779061785764010705:=Nat
def tw13805114705200103389:=Nat
def tw18427663646488585061:=Nat
def tw3007684637789410836:=Nat
def tw7213951441357431974:=Nat
def tw5616250100688466262:=Nat
def tw12829221630031077940:=Nat
def tw2708441685563970401:=Nat
def tw12534077685352514471:=Nat
def tw641327074489346078:=Nat
def tw13663896883260452463:=Nat
def tw17280923855579386486:=Nat
def tw7150262911525958270:=Nat
def tw10657595695340588979:=Nat
def tw16882592467243567693:=Nat
def tw14286434205030210203:=Nat
def tw4267885964587824563:=Nat
def tw13386255338147467873:=Nat
def tw9047679957544453329:=Nat
def tw5703037469311338442:=Nat
def tw12364414667346394073:=Nat
def tw1875913374010932497:=Nat
def tw9820558881489042914:=Nat
def tw11417083403621602544:=Nat
def tw12529647622564282805:=Nat
def tw1074890293122849727:=Nat
def tw1090716774370977271:=Nat
def tw3660877152764564136:=Nat
def tw4107765518543484748:=Nat
def tw7031044159563756023:=Nat
def tw16236473995352188095:=Nat
def tw11732859748324774530:=Nat
def tw17663517305225498159:=Nat
def tw2482521893734408615:=Nat
def tw18277712382747060384:=Nat
def tw2189366325250036215:=Nat
def tw433935475307186970:=Nat
def tw15223598430037886736:=Nat
def tw1130483755593469456:=Nat
def tw12162117394715867451:=Nat
def tw678062899824896439:=Nat
def tw18330563029725516483:=Nat
def tw17453852408763722421:=Nat
def tw4297599881639600902:=Nat
def tw16438572168925371814:=Nat
def tw14094662565366547888:=Nat
def tw9775781693357210696:=Nat
def tw8904349079179560748:=Nat
def tw15223808422516957899:=Nat
def tw161783194203368963:=Nat
def tw8581041741631020329:=Nat
def tw433809058340215850:=Nat
def tw1491937938069819180:=Nat
def tw2181589415118853313:=Nat
def tw18348214858938427271:=Nat
def tw16707631382620545694:=Nat
def tw5143492578797932557:=Nat
def tw12240561760319694297:=Nat
def tw10519144562241465384:=Nat
def tw18412565473313069554:=Nat
def tw17944719260202309384:=Nat
def tw7487507282473107415:=Nat
def tw8129215467057665982:=Nat
def tw9339240159542467855:=Nat
def tw13755576175257336293:=Nat
def tw9277130885162046594:=Nat
def tw15243092815063776722:=Nat
def tw803978835512295840:=Nat
def tw17254473939229117984:=Nat
def tw13525298883927765231:=Nat
def tw15088754166903227522:=Nat
def tw3752096922997644078:=Nat
def tw14519138602052478599:=Nat
def tw18191341352632785855:=Nat
def tw12986991016445636486:=Nat
def tw176624591645926998:=Nat
def tw8823739449225206870:=Nat
def tw12896732681927417337:=Nat
def tw5784898257205268961:=Nat
def tw4515313809994316954:=Nat
def tw12616692985520111951:=Nat
def tw13973255224633477820:=Nat
def tw15327423717149015448:=Nat
def tw15491294637259942368:=Nat
def tw3894981456447531368:=Nat
def tw17677302914708546336:=Nat
def tw10752095334443523041:=Nat
def tw1517421502611718155:=Nat
def tw8746565032084451999:=Nat
def tw10569153161070038997:=Nat
def tw887868358804239041:=Nat
def tw11423335720622626416:=Nat
def tw13854301975132570728:=Nat
def tw8404517991972895797:=Nat
def tw7382693130685812399:=Nat
def tw5296164030553529622:=Nat
def tw18065645460847828186:=Nat
def tw3946404487727944660:=Nat
def tw11728626878073758590:=Nat
def tw8720770292503956475:=Nat
def tw7846087276067743142:=Nat
def tw9045399053386132254:=Nat
def tw2023735790814475267:=Nat
def tw5340341745544358061:=Nat
def tw3552678629756488180:=Nat
def tw3316129041903048848:=Nat
def tw6429656895970810891:=Nat
def tw9799856285951411348:=Nat
def tw8075590228748293965:=Nat
def tw13812050794719330501:=Nat
def tw3227010154789149415:=Nat
def tw13714130790129152789:=Nat
def tw7034915444725912552:=Nat
def tw16921980100485595856:=Nat
def tw14317845319752573144:=Nat
def tw8057321393582848888:=Nat
def tw11291360210809780087:=Nat
def tw4568150699552433385:=Nat
def tw9168785880043092699:=Nat
def tw2476510256983390755:=Nat
def tw4001913691332074031:=Nat
def tw17982979747168529381:=Nat
def tw15134649221077440093:=Nat
def tw13350644446474491720:=Nat
def tw14283426836702587366:=Nat
def tw7479820833348645505:=Nat
def tw2916628968274199468:=Nat
def tw4863389152959116080:=Nat
def tw17519199361162579951:=Nat
def tw5854883002208206427:=Nat
def tw15680721761486052800:=Nat
def tw11989743103049978506:=Nat
def tw2734724986051281362:=Nat
def tw2974412175631737827:=Nat
def tw16591369107514726369:=Nat
def tw7665534343893234507:=Nat
def tw6408628254279859068:=Nat
def tw9118021507940880212:=Nat
def tw5377789246983251689:=Nat
def tw16796151142707645249:=Nat
def tw13227030512009226813:=Nat
def tw16288236413198857619:=Nat
def tw5113374590423714766:=Nat
def tw10506784926101278487:=Nat
def tw14727157693988634738:=Nat
def tw3846138104615757128:=Nat
def tw8761850960245833512:=Nat
def tw7178426717331966244:=Nat
def tw15688991277980981520:=Nat
def tw5229253215363275476:=Nat
def tw6726591721228329848:=Nat
def tw16807654736425035510:=Nat
def tw3848801058039844829:=Nat
def tw9725990069355011059:=Nat
def tw12523277085596360318:=Nat
def tw13066061031661388892:=Nat
def tw11629107189696940752:=Nat
def tw2037187310742035947:=Nat
def tw3890178338359365929:=Nat
def tw2137913720828108490:=Nat
def tw17168193526323381431:=Nat
def tw610350590597156115:=Nat
def tw16668746986316611188:=Nat
def tw6608051699940906515:=Nat
def tw9254693344491292870:=Nat
def tw87667301453960668:=Nat
def tw12677342048992692822:=Nat
def tw9330684852253505312:=Nat
def tw3815852167919108960:=Nat
def tw2269948132536318738:=Nat
def tw14169253394413055424:=Nat
def tw6738805850309812037:=Nat
def tw5833852229492102550:=Nat
def tw11409329234095681758:=Nat
def tw13713827896752104248:=Nat
def tw5768486869810008005:=Nat
def tw15812879509385707164:=Nat
def tw10277490086013287927:=Nat
def tw11710918506752539655:=Nat
def tw6961193133458915511:=Nat
def tw10306098810300794608:=Nat
def tw12223573559396435307:=Nat
def tw13937319533932423693:=Nat
def tw2601900693034119948:=Nat
def tw10057689728845311986:=Nat
def tw10298801765483530039:=Nat
def tw7348609264379427733:=Nat
def tw3427731659920488120:=Nat
def tw3359844604609052045:=Nat
def tw10526933082897515437:=Nat
def tw5098421463723490383:=Nat
def tw13814330684528400308:=Nat
def tw4694972742984126838:=Nat
def tw6713099019489432684:=Nat
def tw9699310199921621005:=Nat
def tw13264970127291481348:=Nat
def tw12634127369696821007:=Nat
def tw13461500384590694689:=Nat
def tw13254034488563763717:=Nat
def tw1555585197897337094:=Nat
def tw6308949987720485246:=Nat
def tw4787008641929768437:=Nat
def tw9808184088186289897:=Nat
def tw534346006691223252:=Nat
def tw18110925115502878135:=Nat
def tw14844025411381990046:=Nat
def tw7239903296439119841:=Nat
def tw12549418546568057011:=Nat
def tw3093582829503335390:=Nat
def tw7775702701273122:=Nat
def tw9867928096734505002:=Nat
def tw18373995977747742247:=Nat
def tw1147857518553537680:=Nat
def tw3413112112707033251:=Nat
def tw2925940353274771557:=Nat
def tw15397568360673413251:=Nat
def tw14589163005447433011:=Nat
def tw9552707742858425655:=Nat
def tw522831545756042089:=Nat
def tw5180317410897483996:=Nat
def tw15974852387748337507:=Nat
def tw11965688476477598536:=Nat
def tw17913627538140339022:=Nat
def tw8589987519152637661:=Nat
def tw12518867255474723773:=Nat
def tw16999639314627352833:=Nat
def tw4266248532731591305:=Nat
def tw8457262339798173904:=Nat
def tw16482791175717245952:=Nat
def tw10365931561520377626:=Nat
def tw1266662045167836775:=Nat
def tw6398224615088483181:=Nat
def tw13800512174294358359:=Nat
def tw16180228430614203163:=Nat
def tw7050856709765412590:=Nat
def tw1639088218393947543:=Nat
def tw18430062701131863143:=Nat
def tw2576626772354551211:=Nat
def tw5470247990144636909:=Nat
def tw10617603765260339673:=Nat
def tw12232846360356745410:=Nat
def tw6258259839455020194:=Nat
def tw17743678275350801602:=Nat
def tw10212942185952692193:=Nat
def tw6675155764925797945:=Nat
def tw3852636742620948503:=Nat
def tw4259899226152153382:=Nat
def tw6803318109627319247:=Nat
def tw5593492933883959493:=Nat
def tw1969598117403634038:=Nat
def tw8506271085204052090:=Nat
def tw3008070672688934565:=Nat
def tw17340215412454598419:=Nat
def tw1894275192857618086:=Nat
def tw5282094002410905595:=Nat
def tw3120015468203865602:=Nat
def tw7716940132156204529:=Nat
def tw10819458241974685456:=Nat
def tw11888197522299903561:=Nat
def tw18230994217188065119:=Nat
def tw9053445119256166998:=Nat
def tw10861710218785838620:=Nat
def tw5578717302311082880:=Nat
def tw5410419744152194770:=Nat
def tw1467319223829560984:=Nat
def tw11980130008315300820:=Nat
def tw12711792720407167545:=Nat
def tw15845149010193692720:=Nat
def tw2084658837134695445:=Nat
def tw7644279023319339793:=Nat
def tw12309977107069097125:=Nat
def tw8915640720640278215:=Nat
def tw9009746775049030829:=Nat
def tw14291597209437545289:=Nat
def tw2833137073641401413:=Nat
def tw7950586115292469101:=Nat
def tw13683501294716833239:=Nat
def tw7653886185628012800:=Nat
def tw10217852845252588057:=Nat
def tw10977852281863466150:=Nat
def tw11914942948358275372:=Nat
def tw15569491934372783422:=Nat
def tw15074161406894364056:=Nat
def tw1127773059471106667:=Nat
def tw11499024265515988486:=Nat
def tw516370524952568079:=Nat
def tw10926171070888939563:=Nat
def tw7895536174801002456:=Nat
def tw17119634468922977244:=Nat
def tw17531871467708238790:=Nat
def tw2495603993910644082:=Nat
def tw4622785231874544998:=Nat
def tw3444262385798666652:=Nat
def tw4004572446684288143:=Nat
def tw10888161744012362008:=Nat
def tw10138740960687516673:=Nat
def tw6126838779035395296:=Nat
def tw11770680978691011370:=Nat
def tw9608958570799309227:=Nat
def tw1035904139474109144:=Nat
def tw16710611526170290854:=Nat
def tw2532411475056537816:=Nat
def tw17854846460428829645:=Nat
def tw14170701164763247819:=Nat
def tw7776871493780023349:=Nat
def tw2129058945457972719:=Nat
def tw9652320459325025218:=Nat
def tw3574088778172641199:=Nat
def tw9861732970140662268:=Nat
def tw1681181684356914217:=Nat
def tw12820660036530243949:=Nat
def tw11520417434994896624:=Nat
def tw888358080973708783:=Nat
def tw12944324387734366420:=Nat
def tw6070893321186194030:=Nat
def tw5305872319929806440:=Nat
def tw16537877526928744624:=Nat
def tw13831646975703792254:=Nat
def tw11043629984475350716:=Nat
def tw1218749493619146608:=Nat
def tw3411571546762250843:=Nat
def tw17963484611442452499:=Nat
def tw13703392210855344710:=Nat
def tw11501144303460555392:=Nat
def tw14765100364558306653:=Nat
def tw1458842156673454754:=Nat
def tw7952756445600998378:=Nat
def tw13709456101714462967:=Nat
def tw11214771625377040779:=Nat
def tw11016280261793156530:=Nat
def tw2237803381600706566:=Nat
def tw8306316254407910671:=Nat
def tw4663909659051280125:=Nat
def tw11075028997521163209:=Nat
def tw7033787424528877342:=Nat
def tw13942672948747585029:=Nat
def tw13738181856363403535:=Nat
def tw9786336310497227817:=Nat
def tw7561717646923483171:=Nat
def tw11254732704481147679:=Nat
def tw6765334730038611451:=Nat
def tw2453000755854177970:=Nat
def tw10526671406900671302:=Nat
def tw17081129639310106203:=Nat
def tw13146118941492836330:=Nat
def tw15661154491694188311:=Nat
def tw1955621492754268634:=Nat
def tw16555059442923364105:=Nat
def tw213574700285901916:=Nat
def tw12392017564064245256:=Nat
def tw17175827288520348886:=Nat
def tw15083755331223628996:=Nat
def tw3201830362549848711:=Nat
end PySem.W.Fast
section
namespace L2
open PySem PySem.Spec PyProof.Rows
abbrev Key:=Sum Int LB
def eA:Key->Os->Bool
 |.inl k,v=>Value.isInt k v
 |.inr x,v=>Value.isStrOf x v
def keyH(w:Va):Key->Int
 |.inl k=>hashInt k
 |.inr x=>hashStr w x
def keyIs_shape:∀{k:Key} {v:Os},eA k v=true->(∃i t,k=Sum.inl i/\v=Value.int i t)\/(∃x t,k=Sum.inr x/\v=Value.str x t)
 |.inl i,v,h=>by
  obtain⟨t,e⟩:=Value.isInt_shape (k:=i) (v:=v) h;exact .inl #[i,t,rfl,e]
 |.inr x,v,h=>by
  obtain⟨t,e⟩:=Value.isStrOf_shape (x:=x) (v:=v) h;exact .inr #[x,t,rfl,e]
def xb(i:Int)(t:W5):eA (.inl i) (.int i t)=true:=by simp[eA,Value.isInt]
def xc(x:LB)(t:W5):eA (.inr x) (.str x t)=true:=by simp[eA,Value.isStrOf]
def xg(a b:Int):decide ((Sum.inl a:Key)=Sum.inl b)=(a==b):=by
 by_cases e:a=b
 .subst e;simp
 .have h:¬(Sum.inl a:Key)=Sum.inl b:=λq=>e (Sum.inl.inj q);rw[decide_eq_false h];exact(beq_eq_false_iff_ne.mpr e).symm
def xh(a b:LB):decide ((Sum.inr a:Key)=Sum.inr b)=decide (a=b):=by
 by_cases e:a=b
 .subst e;simp
 .have h:¬(Sum.inr a:Key)=Sum.inr b:=λq=>e (Sum.inr.inj q);rw[decide_eq_false h,decide_eq_false e]
def xi(a:Int)(b:LB):decide ((Sum.inl a:Key)=Sum.inr b)=false:=decide_eq_false (λq=>nomatch q)
def xj(a:LB)(b:Int):decide ((Sum.inr a:Key)=Sum.inl b)=false:=decide_eq_false (λq=>nomatch q)
def bN(prog:U')(w:Va):PySem.KeyKind prog w Key where
 is:=eA
 hash:=keyH w
 inj:=λv a b ha hb=>by
  rcases keyIs_shape ha with⟨i,t,rfl,rfl⟩|⟨x,t,rfl,rfl⟩
  .rcases keyIs_shape hb with⟨j,u,rfl,e⟩|⟨y,u,rfl,e⟩
   .injection e with e1 _;rw[e1]
   .exact nomatch e
  .rcases keyIs_shape hb with⟨j,u,rfl,e⟩|⟨y,u,rfl,e⟩
   .exact nomatch e
   .injection e with e1 _;rw[e1]
 byValue:=λk v h=>by
  rcases keyIs_shape h with⟨i,t,rfl,rfl⟩|⟨x,t,rfl,rfl⟩<;>rfl
 pyHash:=λhv h=>by
  rcases keyIs_shape hv with⟨i,t,rfl,rfl⟩|⟨x,t,rfl,rfl⟩
  .exact wpAny_pyHash_int h
  .exact wpAny_pyHash_str h
 eqBool:=λhu hv h=>by
  rcases keyIs_shape hu with⟨i,t,rfl,rfl⟩|⟨x,t,rfl,rfl⟩
  .rcases keyIs_shape hv with⟨j,u,rfl,rfl⟩|⟨y,u,rfl,rfl⟩
   .rw[xg]at h;exact wpAny_eqBool_int h
   .rw[xi]at h;exact SeqAt.EqAt.int_str i t y u _ _ _ _ h
  .rcases keyIs_shape hv with⟨j,u,rfl,rfl⟩|⟨y,u,rfl,rfl⟩
   .rw[xj]at h;exact SeqAt.EqAt.str_int x t j u _ _ _ _ h
   .rw[xh]at h;exact wpAny_eqBool_str h
 «strs»:=λk x t v h=>by
  rcases keyIs_shape h with⟨i,u,rfl,e⟩|⟨y,u,rfl,e⟩
  .exact nomatch e
  .injection e with e1 _;subst e1;cases v<;>rfl
def mixKind_int(prog:U')(w:Va)(i:Int)(t:W5):(bN prog w).is (.inl i) (.int i t)=true:=xb i t
def xk(prog:U')(w:Va)(x:LB)(t:W5):(bN prog w).is (.inr x) (.str x t)=true:=xc x t
inductive V where
 |non|bl (b:Bool)|int (i:Int)|str (x:Str)|byt (b:Array UInt8)|flt (b:UInt64)|ref (a:Pi)|ty (n:String)
 deriving DecidableEq
def RelV:V->Os->Prop
 |.non,u=>u=Value.none
 |.bl b,u=>u=Value.bool b
 |.int i,u=>∃t,u=Value.int i t
 |.str x,u=>∃t,u=Value.str x t
 |.byt b,u=>∃t,u=Value.bytes b t
 |.flt b,u=>∃t,u=Value.float b t
 |.ref a,u=>u=Value.ref a
 |.ty n,u=>u=Value.type n
abbrev Vals:List V->List Os->Prop:=Paired RelV
variable{xs:List V}{us:List Os}
def Vals.length(r:Vals xs us):xs.length=us.length:=Paired.length r
def Vals.get:∀{xs:List V} {us:List Os} {i:Nat} {x:V},Vals xs us->xs[i]?=be x->∃u,us[i]?=be u/\RelV x u
 |_,_,_,_,.nil,e=>by simp at e
 |_,_,0,_,.cons r _,e=>by simp at e;subst e;exact#[_,rfl,r]
 |_,_,i+1,x,.cons _ t,e=>by
  obtain⟨u,h1,h2⟩:=Vals.get (i:=i) (x:=x) t (by simpa using e);exact#[u,by simpa using h1,h2]
def Vals.set{x:V}{u:Os}(r:RelV x u):∀{xs:List V} {us:List Os} (i:Nat),Vals xs us->Vals (xs.set i x) (us.set i u)
 |_,_,_,.nil=>.nil
 |_,_,0,.cons _ t=>.cons r t
 |_,_,i+1,.cons q t=>.cons q (Vals.set r i t)
def Vals.append:∀{xs ys:List V} {us ws:List Os},Vals xs us->Vals ys ws->Vals (xs++ys) (us++ws):=by
 intro xs ys us ws h s;induction h with
 |nil=>exact s
 |cons r _ e=>exact .cons r e
def Vals.take:∀{xs:List V} {us:List Os} (n:Nat),Vals xs us->Vals (xs.take n) (us.take n)
 |_,_,0,_=>.nil
 |_,_,_+1,.nil=>.nil
 |_,_,n+1,.cons r t=>.cons r (Vals.take n t)
def Vals.drop:∀{xs:List V} {us:List Os} (n:Nat),Vals xs us->Vals (xs.drop n) (us.drop n)
 |_,_,0,r=>r
 |_,_,_+1,.nil=>.nil
 |_,_,n+1,.cons _ t=>Vals.drop n t
def RelO:Option V->Option Os->Prop
 |some v,be u=>RelV v u
 |none,v9=>True
 |_,_=>False
def KV{κ:Type}:List (κ×V)->List (κ×Os)->Prop:=Paired λ(p:κ×V) (q:κ×Os)=>p.1=q.1/\RelV p.2 q.2
def kV:Key->V
 |.inl i=>.int i
 |.inr x=>.str x
inductive HO where
  |lst (xs:List V)
  |tup (xs:List V)
  |dK (a9:List (Key×V))|dT (a9:List (List Key×V))
  |set (S:Int->Bool) (n:Nat)
  |ins (C dx:Pi) (fs:List (LB×V))
  |own (x:Pi)
  |xd (fs:List (LB×V))
  |met (f x:Pi)
  |rng (lo hi:Int)
  |frz (o:Vp) (u:HO)
  |tbl (ps:Array Os)
  |ext (φ:Heap->Prop)
abbrev Hp:=Pi->Option HO
def upd(H:Hp)(a:Pi)(o:HO):Hp:=λb=>if b=a then be o else H b
variable{H:Hp}{a:Pi}{o:HO}
def aB:upd H a o a=be o:=by unfold upd;rw[if_pos rfl]
variable{b:Pi}
def ar(h:b≠a):upd H a o b=H b:=by unfold upd;rw[if_neg h]
def xm{u:HO}(h:H a=be o)(h':H b=be u)(d:o≠u):a≠b:=by
 intro e;subst e;rw[h]at h';exact d (Option.some.inj h')
def bH(h:H a=be o)(h':H b=v9):a≠b:=by
 intro e;subst e;rw[h]at h';cases h'
section
variable (P:U')(w:Va)
def ObjOk(H:Hp)(h:Heap)(a:Pi):HO->Prop
 |.lst xs=>xs.length<=sizeLine/\∃(its:List Os) (n:Nat),Vals xs its/\h.get? a=be {cls:=.type "list",data:=.seq its.toArray n}
 |.tup xs=>xs.length<=sizeLine/\∃its:List Os,Vals xs its/\IsTup h a its.toArray
 |.dK a9=>a9.length<=sizeLine/\(a==Vx)=false/\∃vs,KV a9 vs/\h.DictOf (bN P w) a vs
 | .dT a9=>a9.length<=sizeLine/\(a==Vx)=false/\∃xs:List (List Key×Pi×Os),
   Paired (λ(p:List Key×V) (q:List Key×Pi×Os)=>p.1=q.1/\H q.2.1=be (.tup (p.1.map kV))/\RelV p.2 q.2.2) a9 xs/\
   ∃o es ep,h.get? a=be o/\o.ExactDict/\o.data=.dict es ep/\es.toList=xs.map (entryOfKey (VZ (bN P w)))/\(xs.map (·.1)).Nodup
 |.set S n=>h.SetOf (intKind P w) a S n
 | .ins C dx fs=>H dx=be (.own a)/\fs.length<=1000/\dx≠a/\h.get? a=be (instObj C dx)/\
   ∃mA,h.Ns1 dx mA/\(∀f,RelO (fs.lookup f) (mA f))/\PySem.Within mA (fs.map (·.1))
 |.own _=>∃o,h.get? a=be o
 |.xd fs=>∃mA,h.Ns1 a mA/\∀f,RelO (fs.lookup f) (mA f)
 |.rng lo hi=>∃t u v,h.get? a=be {cls:=.type "range",data:=.fields [.int lo t,.int hi u,.int 1 v].toArray}
 |.frz o u=>h.get? a=be o/\ObjOk H h a u
 |.tbl ps=>h.get? a=be {cls:=.none,data:=.fields ps}
 |.met f x=>h.get? a=be (methodObj (.ref f) (.ref x))
 |.ext φ=>φ h/\(∃o,h.get? a=be o)/\∀h1 h2:Heap,φ h1->(∀o,h1.get? a=be o->h2.get? a=be o)->φ h2
def HOk(H:Hp)(h:Heap):Prop:=∀a o,H a=be o->ObjOk P w H h a o
end
section
variable {P:U'}{w:Va}{H H':Hp}{h h':Heap}{a:Pi}{o:HO}
def ObjOk.lt(x:ObjOk P w H h a o):a<h.objs.size:=by
 cases o with
 |lst xs=>obtain⟨_,_,_,_,e⟩:=x;exact Heap.lt_size e
 |tup xs=>obtain⟨_,_,_,p⟩:=x;exact p.lt
 |dK a9=>obtain⟨_,_,_,_,o,_,_,e,_⟩:=x;exact Heap.lt_size e
 |dT a9=>obtain⟨_,_,_,_,o,_,_,e,_⟩:=x;exact Heap.lt_size e
 |set S n=>obtain⟨o,_,_,_,e,_⟩:=x;exact Heap.lt_size e
 |ins C dx fs=>obtain⟨_,_,_,e,_⟩:=x;exact Heap.lt_size e
 |own y=>obtain⟨_,e⟩:=x;exact Heap.lt_size e
 |xd fs=>obtain⟨_,⟨_,_,_,e,_⟩,_⟩:=x;exact Heap.lt_size e
 |rng lo hi=>obtain⟨_,_,_,e⟩:=x;exact Heap.lt_size e
 |frz ob u=>obtain⟨e,_⟩:=x;exact Heap.lt_size e
 |tbl ps=>exact Heap.lt_size (show h.get? a=be _ from x)
 |met f y=>exact Heap.lt_size (show h.get? a=be _ from x)
 |ext φ=>obtain⟨_,⟨_,e⟩,_⟩:=x;exact Heap.lt_size e
def Paired.mapP{α β:Type}{F G:α->β->Prop}:∀{l₁:List α} {l₂:List β},Paired F l₁ l₂->(∀a b,F a b->G a b)->Paired G l₁ l₂:=by
 intro l₁ l₂ h f;induction h with
 |nil=>exact .nil
 |cons r _ e=>exact .cons (f _ _ r) e
def ObjOk.stay(x:ObjOk P w H h a o)(k:∀b u,(b=a\/H b=be (.own a))->h.get? b=be u->h'.get? b=be u)
  (ho:∀b,H b=be (.own a)->H' b=be (.own a)) (ht:∀b xs,H b=be (.tup xs)->H' b=be (.tup xs)):ObjOk P w H' h' a o:=by
 induction o with
 |lst xs=>obtain⟨z,its,n,r,e⟩:=x;exact#[z,its,n,r,k _ _ (.inl rfl) e]
 |tup xs=>obtain⟨z,its,r,ob,e,c⟩:=x;exact#[z,its,r,ob,k _ _ (.inl rfl) e,c]
 |dK a9=>obtain⟨z,y,vs,r,ob,es,ep,e,c⟩:=x;exact#[z,y,vs,r,ob,es,ep,k _ _ (.inl rfl) e,c]
 |dT a9=>
  obtain⟨z,y,xs,r,ob,es,ep,e,c⟩:=x;exact#[z,y,xs,Paired.mapP r λp q z=>#[z.1,ht _ _ z.2.1,z.2.2],ob,es,ep,k _ _ (.inl rfl) e,c]
 |set S n=>obtain⟨ob,es,ep,t,e,c⟩:=x;exact#[ob,es,ep,t,k _ _ (.inl rfl) e,c]
 |ins C dx fs=>
  obtain⟨d,z,ne,e,mA,⟨od,es,ep,e2,c⟩,r⟩:=x;exact#[ho _ d,z,ne,k _ _ (.inl rfl) e,mA,#[od,es,ep,k _ _ (.inr d) e2,c],r]
 |own y=>obtain⟨ob,e⟩:=x;exact#[ob,k _ _ (.inl rfl) e]
 |xd fs=>obtain⟨mA,⟨od,es,ep,e,c⟩,r⟩:=x;exact#[mA,#[od,es,ep,k _ _ (.inl rfl) e,c],r]
 |rng lo hi=>obtain⟨t,u,v,e⟩:=x;exact#[t,u,v,k _ _ (.inl rfl) e]
 |frz ob u ih=>obtain⟨e,q⟩:=x;exact#[k _ _ (.inl rfl) e,ih q]
 |tbl ps=>
  have e:h.get? a=be {cls:=.none,data:=.fields ps}:=x;show h'.get? a=be {cls:=.none,data:=.fields ps};exact k a _ (.inl rfl) e
 |met f y=>
  have e:h.get? a=be (methodObj (.ref f) (.ref y)):=x;show h'.get? a=be (methodObj (.ref f) (.ref y));exact k a _ (.inl rfl) e
 |ext φ=>obtain⟨p,⟨o,e⟩,st⟩:=x;exact#[st _ _ p λo q=>k _ _ (.inl rfl) q,#[o,k _ _ (.inl rfl) e],st]
def HOk.lt(x:HOk P w H h)(e:H a=be o):a<h.objs.size:=(x a o e).lt
def HOk.fresh(x:HOk P w H h)(e:h.objs.size<=a):H a=none:=by
 cases q:H a with
 |none=>rfl
 |some u=>exact absurd (Io (x.lt q) e) (IZ _)
def HOk.kept(x:HOk P w H h)(k:∀b u,h.get? b=be u->h'.get? b=be u):HOk P w H h':=λa o e=>
 (x a o e).stay (λb u _ q=>k b u q) (λ_ q=>q) λ_ _ q=>q
def HOk.laid(x:HOk P w H h)(k:∀b u,h.get? b=be u->h'.get? b=be u)(hp:h.objs.size<=a)(new:ObjOk P w (upd H a o) h' a o):HOk P w (upd H a o) h':=λb u e=>by
 have hn:=x.fresh hp;by_cases hb:b=a
 .subst hb;rw[aB]at e;cases e;exact new
 .rw[ar hb]at e;exact(x b u e).stay (λc v _ q=>k c v q) (λc q=>by rw[ar (bH q hn)];exact q) λc xs q=>by rw[ar (bH q hn)];exact q
end
def Rd(H:Hp)(a:Pi)(u:HO):Prop:=H a=be u\/∃o,H a=be (.frz o u)
variable{P:U'}{w:Va}{h:Heap}
def Rd.ok{u:HO}(r:Rd H a u)(x:HOk P w H h):ObjOk P w H h a u:=by
 rcases r with r|⟨o,r⟩
 .exact x a u r
 .obtain⟨_,q⟩:=x a _ r;exact q
def Mut:Option HO->Prop
 |some (.lst _)=>True
 |some (.dK _)=>True
 |some (.dT _)=>True
 |some (.set _ _)=>True
 |some (.ins _ _ _)=>True
 |some (.ext _)=>True
 |_=>False
section
variable {P:U'}{w:Va}{H:Hp}{h h':Heap}{x e:Pi}{o':HO}
def HOk.write(ok:HOk P w H h)(mu:Mut (H x))(he:e=x\/H e=be (.own x))(k:∀b u,b≠e->h.get? b=be u->h'.get? b=be u)(H_:∃u,h'.get? e=be u)
  (new:ObjOk P w (upd H x o') h' x o'):HOk P w (upd H x o') h':=λb u q=>by
 have nown:∀c y,H c=be (.own y)->c≠x:=λc y r z=>by subst z;rw[r]at mu;exact mu
 have O3:∀c xs,H c=be (.tup xs)->c≠x:=λc xs r z=>by subst z;rw[r]at mu;exact mu
 by_cases hb:b=x
 .subst hb;rw[aB]at q;cases q;exact new
 .rw[ar hb]at q;by_cases Mp:b=e
  .have q':H b=be (.own x):=by
    rcases he with z|z
    .exact absurd (Mp.trans z) hb
    .rw[Mp];exact z
   rw[q]at q';cases q';obtain⟨v,hv⟩:=H_;exact#[v,by rw[Mp];exact hv]
  .refine(ok b u q).stay (λc v hc r=>k c v ?_ r) (λc r=>by rw[ar (nown c b r)];exact r) λc xs r=>by rw[ar (O3 c xs r)];exact r
   rcases hc with rfl|hc
   .exact Mp
   .rintro rfl;rcases he with z|z
    .exact nown c b hc z
    .rw[hc]at z;cases z;exact hb rfl
end
structure Un(fs ex:List Pi)(H H':Hp)(h h':Heap):Prop where
 keep:∀b o,h.get? b=be o->H b=v9->b∉fs->b∉ex->h'.get? b=be o
 slot:∀b o,h.get? b=be o->H b=v9->b∈fs->b∉ex->∃sl,h'.get? b=be {o with slots:=sl}
 free:∀b o,h.get? b=be o->H b=v9->b∉ex->H' b=v9
 there:∀b o,h.get? b=be o->b∉ex->∃o',h'.get? b=be o'
 tups:∀b xs,H b=be (.tup xs)->H' b=be (.tup xs)
 frzs:∀b o u,H b=be (.frz o u)->H' b=be (.frz o u)
 tbls:∀b ps,H b=be (.tbl ps)->∃more,H' b=be (.tbl (ps++more))
section
variable {fs l7 ex Rr:List Pi}{H H1 H2:Hp}{h h1 h2 h':Heap}{a x e:Pi}{o:HO}
def Un.any(u:Un fs ex H H1 h h1){b:Pi}{ob:Vp}(q:h.get? b=be ob)(n:H b=v9)(hx:b∉ex):∃sl,h1.get? b=be {ob with slots:=sl}:=by
 by_cases hb:b∈fs
 .exact u.slot b ob q n hb hx
 .exact#[ob.slots,u.keep b ob q n hb hx]
def Un.kept(k:∀b u,h.get? b=be u->h'.get? b=be u):Un fs ex H H h h':=
 #[λb ob q _ _ _=>k b ob q,λb ob q _ _ _=>#[ob.slots,k b ob q],λ_ _ _ n _=>n,λb ob q _=>#[ob,k b ob q],λ_ _ q=>q,λ_ _ _ q=>q,λ_ ps q=>#[[].toArray,by rw[q];simp]]
def Un.refl:Un fs ex H H h h:=Un.kept λ_ _ q=>q
def Un.laid(k:∀b u,h.get? b=be u->h'.get? b=be u)(hp:h.objs.size<=a)(hn:H a=v9):Un fs ex H (upd H a o) h h' where
 keep:=λb u q _ _ _=>k b u q
 slot:=λb u q _ _ _=>#[u.slots,k b u q]
 free:=λb u q n _=>by rw[ar (HZ (Io (Heap.lt_size q) hp))];exact n
 there:=λb u q _=>#[u,k b u q]
 tups:=λb xs q=>by rw[ar (bH q hn)];exact q
 frzs:=λb u xs q=>by rw[ar (bH q hn)];exact q
 tbls:=λb ps q=>#[[].toArray,by rw[ar (bH q hn),q];simp]
def Un.write(mu:Mut (H x))(he:e=x\/H e=be (.own x))(k:∀b u,b≠e->h.get? b=be u->h'.get? b=be u)(H_:∃u,h'.get? e=be u):Un fs ex H (upd H x o) h h':=by
 have hx:∀b,H b=v9->b≠x:=λb n z=>by subst z;rw[n]at mu;exact mu
 have hb:∀b,H b=v9->b≠e:=λb n z=>by
  subst z;rcases he with r|r
  .exact hx b n r
  .rw[n]at r;cases r
 have hm:∀b u,H b=be u->¬Mut (be u)->b≠x:=λb u q nm z=>by subst z;rw[q]at mu;exact nm mu
 refine⟨λb u q n _ _=>k b u (hb b n) q,λb u q n _ _=>#[u.slots,k b u (hb b n) q],λb u q n _=>by rw[ar (hx b n)];exact n,λb u q _=>?_,
  λb xs q=>by rw[ar (hm b _ q λz=>z)];exact q,λb u xs q=>by rw[ar (hm b _ q λz=>z)];exact q,λb ps q=>#[[].toArray,by rw[ar (hm b _ q λz=>z),q];simp]⟩
 by_cases Mp:b=e
 .subst Mp;exact H_
 .exact#[u,k b u Mp q]
end
def trk(h:Heap)(H:Hp):List Pi:=(HU h.objs.size).filter λa=>(H a).isSome
def hidT(h:Heap)(H:Hp):Heap:=hideAll h (trk h H)
def xn(h:Heap)(H:Hp):(hidT h H).objs.size=h.objs.size:=hideAll_size _ _
def xo{o:Vp}(e:h.get? b=be o)(n:H b=v9):(hidT h H).get? b=be o:=
 hideAll_get _ e λhm=>by
  have q:(H b).isSome=true:=(Kv.mp hm).2;rw[n]at q;simp at q
def xp{o:Vp}(e:(hidT h H).get? b=be o):h.get? b=be o/\H b=none:=by
 have e':h.get? b=be o:=of_hideAll (trk h H) e;refine#[e',?_];cases q:H b with
 |none=>rfl
 |some x=>
  have hm:b∈trk h H:=Kv.mpr #[List.mem_range.mpr (Heap.lt_size e'),by simp[q]];have z:(hidT h H).get? b=none:=hideAll_none (trk h H) hm;rw[z]at e;cases e
structure Mod(K:Ex)(mg:Str->Option Os)(base:Heap):Prop where
 kin:K.In base
 glob:base.Ns SL mg
 blt:∃mb,base.Ns WY mb/\∀x:LB,x≠"__name__"->mb x=Vo x
 nolimit:base.NoLimit
structure Cx where
 prog:U'
 w:Va
 K:Ex
 mg:LB->Option Os
 base:Heap
 A:Vb
 N:List LB
 s₀:SB
 H₀:Hp
 env:VU
 outer:List VU
 stack:List VU
 ex:List Pi
 fn:LB->Bool
 calm:Bool
 pn:List (Pi×Vp)
 xe:Os->SB->Prop
abbrev zSE(X:Cx)(e:U8)(es:List U8):Prop:=Vc (e::es) X.env=(false,Vf e X.env)::Vc es X.env
abbrev zPL(X:Cx)(p:Vh)(es:List U8):Prop:=(VH p (Vc es X.env)).any (·.1)=false
abbrev zHF(X:Cx)(p:Vh)(es:List U8):Prop:=((VH p (Vc es X.env)).all (λx=>!x.1)&&(V1 p (VF [] X.env)).all (λx=>x.1.isSome)&&decide (es.length+([]:List V').length+(if([]:List V').isEmpty then 0 else 1)<30))=true
abbrev zFN(X:Cx)(x:LB):Prop:=X.fn x=true\/X.env.scope.names.lookup x=be .local
abbrev zND(x:LB):Prop:=(x==("__debug__":LB))=false
abbrev zNC(x:LB):Prop:=(x==("__classdict__":LB))=false
abbrev zFS(X:Cx)(e:U8)(y:Os):Prop:=W3 e X.env y=pure y
def frs(l:List VU):List Pi:=l.filterMap (·.frame)
abbrev Cx.fs(X:Cx):List Pi:=frs X.outer
def Vis(sc:Vz)(x:LB):Prop:=sc.names.lookup x=be .local\/sc.names.lookup x=be .cell\/sc.names.lookup x=be .free
def Loc(sc:Vz)(x:LB):Prop:=sc.names.lookup x=be .local\/sc.names.lookup x=be .cell
def Look(env:VU)(h:Heap)(m:LB->Option Os)(x:LB)(u:Os):Prop:=
 (env.kindOf x=be .local/\m x=be u)\/((env.kindOf x=be .cell\/env.kindOf x=be .free)/\∃c,env.cells.lookup x=be c/\h.IsCell c (be u))
structure Cx.Ok(X:Cx):Prop where
 mod:Mod X.K X.mg X.base
 kind:X.env.scope.kind=.function
 glob:X.env.globals=SL
 blt:X.env.builtins=WY
 above:X.s₀.heap.objs.size<=X.env.locals
 inj:∀x y c,X.env.cells.lookup x=be c->X.env.cells.lookup y=be c->x=y
 has:∀x,(X.env.kindOf x=be .cell\/X.env.kindOf x=be .free)->∃c,X.env.cells.lookup x=be c
 cab:∀x c,X.fn x=true->X.env.cells.lookup x=be c->X.s₀.heap.objs.size<=c
 hd:X.calm=true->X.A.handled=v9
 frames:X.A.frames=be X.stack
 stk:X.stack=X.outer\/(X.stack=X.env::X.outer/\X.env.frame=be X.env.locals)
 exf:∀b∈X.ex,b≠X.env.locals/\∀x c,X.env.cells.lookup x=be c->c≠b
 bs:∀b o,X.base.get? b=be o->X.s₀.heap.get? b=be o/\X.H₀ b=v9
 bsz:X.base.objs.size<=X.s₀.heap.objs.size
 noex:∀b o,X.base.get? b=be o->b∉X.ex
 exfs:∀b∈X.ex,b∉X.fs
 funs:X.s₀.heap.FunFrames X.base X.outer
 frf:∀b∈X.fs,X.H₀ b=v9
structure Inv(X:Cx)(pins:List (Pi×Vp))(σ:List (Option V))(H:Hp)(s:SB):Prop where
 ok:X.Ok
 os:s.os=X.s₀.os
 bare:VY s.gens
 base:Un X.fs X.ex X.H₀ H X.s₀.heap s.heap
 loc:∃m,s.heap.Ns X.env.locals m/\∀(i:Nat) (x:LB) (v:V),X.N[i]?=be x->σ[i]?=be (be v)->Vis X.env.scope x->∃u,RelV v u/\Look X.env s.heap m x u
 cell:∀x c,X.env.cells.lookup x=be c->∃v,s.heap.IsCell c v
 free:H X.env.locals=v9
 freeC:∀x c,X.env.cells.lookup x=be c->H c=v9
 pin:∀p∈X.pn++pins,s.heap.get? p.1=be p.2/\H p.1=v9/\p.1≠X.env.locals/\p.1∉X.fs/\∀v,p.2.data≠.cell v
 hok:HOk X.prog X.w H s.heap
 len:σ.length=X.N.length
section
variable {X:Cx}{pins:List (Pi×Vp)}{σ:List (Option V)}{H H':Hp}{s:SB}{h':Heap}
def Cx.Ok.nofr(ok:X.Ok){b:Pi}{o:Vp}(e:X.base.get? b=be o):b∉X.fs:=λhb=>by
 have:=(ok.funs.mem hb).1;rw[e]at this;cases this
def Inv.bs(I:Inv X pins σ H s):∀b o,X.base.get? b=be o->s.heap.get? b=be o/\H b=none:=λb o e=>
 #[I.base.keep b o (I.ok.bs b o e).1 (I.ok.bs b o e).2 (I.ok.nofr e) (I.ok.noex b o e),I.base.free b o (I.ok.bs b o e).1 (I.ok.bs b o e).2 (I.ok.noex b o e)]
def Inv.bk(I:Inv X pins σ H s):∀b o,X.base.get? b=be o->s.heap.get? b=be o:=λb o e=>(I.bs b o e).1
def Inv.mod(I:Inv X pins σ H s):Mod X.K X.mg X.base:=I.ok.mod
def Inv.kIn(I:Inv X pins σ H s):X.K.In s.heap:=I.ok.mod.kin.keeps I.bk
def Inv.lt(I:Inv X pins σ H s):X.env.locals<s.heap.objs.size:=let ⟨_,hn,_⟩:=I.loc;hn.lt
def Inv.sz(I:Inv X pins σ H s):X.s₀.heap.objs.size<=s.heap.objs.size:=H8 I.ok.above (JK I.lt)
def Inv.nofs(I:Inv X pins σ H s){a:Pi}(h:s.heap.objs.size<=a):a∉X.fs:=λhb=>by
 obtain⟨_,o,ho,_⟩:=I.ok.funs.mem hb;exact absurd (Io (Heap.lt_size ho) (H8 I.sz h)) (IZ _)
def Inv.cne(I:Inv X pins σ H s):∀x c,X.env.cells.lookup x=be c->c≠X.env.locals:=λx c e z=>by
 obtain⟨v,o,ho,hd⟩:=I.cell x c e;obtain⟨m,⟨o',es,ep,Mq,f6,_⟩,_⟩:=I.loc;rw[z,Mq]at ho;cases ho;rw[f6]at hd;cases hd
def Inv.funs(I:Inv X pins σ H s):s.heap.FunFrames X.base X.outer:=by
 have all:∀(l:List VU),(∀b∈frs l,b∈X.fs)->X.s₀.heap.FunFrames X.base l->s.heap.FunFrames X.base l:=by
  intro l;induction l with
  |nil=>intro _ _;trivial
  |cons env r ih=>
   intro hs hl;obtain⟨hk,⟨L,o,hf,hn,ho,hd⟩,hr⟩:=hl;have hL:L∈X.fs:=hs L (by unfold frs;rw[JL,hf];exact HV);obtain⟨sl,e⟩:=I.base.slot L o ho (I.ok.frf L hL) hL λz=>I.ok.exfs L z hL;exact#[hk,#[L,_,hf,hn,e,hd],ih (λb hb=>hs b (by unfold frs;rw[JL,hf];exact HS _ hb)) hr]
 exact all X.outer (λ_ hb=>hb) I.ok.funs
def Inv.stack(I:Inv X pins σ H s):s.heap.FunFrames X.base X.stack:=by
 rcases I.ok.stk with e|⟨e,hf⟩
 .rw[e];exact I.funs
 .rw[e];obtain⟨m,hn,_⟩:=I.loc;refine .cons (by rw[I.ok.kind];decide) hf hn ?_ I.funs;exact Heap.get?_none_of_le (H8 I.ok.bsz I.ok.above)
def Inv.stkSub(I:Inv X pins σ H s):∀b∈frs X.stack,b∈X.env.locals::X.fs:=λb hb=>by
 rcases I.ok.stk with e|⟨e,hf⟩
 .rw[e]at hb;exact HS _ hb
 .rw[e]at hb;unfold frs at hb;rw[JL,hf]at hb;exact hb
def Inv.stkFree(I:Inv X pins σ H s):∀b∈frs X.stack,H b=none:=λb hb=>by
 rcases HQ.mp (I.stkSub b hb)with e|hb
 .rw[e];exact I.free
 .obtain⟨_,o,ho,_⟩:=I.ok.funs.mem hb;exact I.base.free b o ho (I.ok.frf b hb) λz=>I.ok.exfs b z hb
variable{g':Array WN}{ch:List Pi}
def Inv.step{t':Nat}{d':Drawn}(I:Inv X pins σ H s)
  (I_:∀b∈ch,(b∈X.ex\/X.s₀.heap.objs.size<=b)/\b≠X.env.locals/\(∀x c,X.env.cells.lookup x=be c->c≠b)/\∀p∈X.pn++pins,p.1≠b)
  (keep:∀b o,b≠X.env.locals->b∉X.fs->b∉ch->s.heap.get? b=be o->H b=v9->h'.get? b=be o)
  (slot:∀b o,b≠X.env.locals->b∈X.fs->b∉ch->s.heap.get? b=be o->H b=v9->∃sl,h'.get? b=be {o with slots:=sl}) (free:∀b o,b∉ch->s.heap.get? b=be o->H b=v9->H' b=v9)
  (there:∀b o,b∉ch->s.heap.get? b=be o->∃o',h'.get? b=be o')
  (tups:∀b xs,H b=be (.tup xs)->H' b=be (.tup xs)) (frzs:∀b o u,H b=be (.frz o u)->H' b=be (.frz o u)) (tbls:∀b ps,H b=be (.tbl ps)->∃more,H' b=be (.tbl (ps++more)))
  (ns:∀m,s.heap.Ns X.env.locals m->h'.Ns X.env.locals m) (hok:HOk X.prog X.w H' h') (hg:VY g'):
  Inv X pins σ H' {s with heap:=h',gens:=g',drawn:=d',toks:=t'}:=by
 have Rs:∀b o,X.s₀.heap.get? b=be o->b≠X.env.locals:=λb o e=>HZ (Io (Heap.lt_size e) I.ok.above);have OA:∀b o,X.s₀.heap.get? b=be o->b∉X.ex->b∉ch:=λb o e hx hb=>by
  rcases(I_ b hb).1 with z|z
  .exact hx z
  .exact absurd (Io (Heap.lt_size e) z) (IZ _)
 have m6:∀x c,X.env.cells.lookup x=be c->∀v,s.heap.IsCell c v->h'.IsCell c v:=λx c e v ⟨o,ho,hd⟩=>by
  have Ny:c∉ch:=λz=>(I_ c z).2.2.1 x c e rfl;by_cases hc:c∈X.fs
  .obtain⟨sl,q⟩:=slot c o (I.cne x c e) hc Ny ho (I.freeC x c e);exact#[_,q,hd]
  .exact#[o,keep c o (I.cne x c e) hc Ny ho (I.freeC x c e),hd]
 refine#[I.ok,I.os,hg,#[λb o e n hb hx=>?_,λb o e n hb hx=>?_,λb o e n hx=>?_,λb o e hx=>?_,λb xs e=>tups b xs (I.base.tups b xs e),λb o xs e=>frzs b o xs (I.base.frzs b o xs e),λb ps e=>?_],?_,λx c e=>?_,?_,λx c e=>?_,λp hp=>?_,hok,I.len]
 .exact keep b o (Rs b o e) hb (OA b o e hx) (I.base.keep b o e n hb hx) (I.base.free b o e n hx)
 .obtain⟨sl,e1⟩:=I.base.slot b o e n hb hx;obtain⟨v7,e2⟩:=slot b _ (Rs b o e) hb (OA b o e hx) e1 (I.base.free b o e n hx);exact#[v7,e2]
 .obtain⟨o',e1⟩:=I.base.there b o e hx;exact free b o' (OA b o e hx) e1 (I.base.free b o e n hx)
 .obtain⟨o',e1⟩:=I.base.there b o e hx;exact there b o' (OA b o e hx) e1
 .obtain⟨m1,e1⟩:=I.base.tbls b ps e;obtain⟨m2,e2⟩:=tbls b _ e1;exact#[m1++m2,by rw[e2,Array.append_assoc]]
 .obtain⟨m,hn,hl⟩:=I.loc;refine#[m,ns m hn,λi x v e1 e2 e3=>?_];obtain⟨u,r,l⟩:=hl i x v e1 e2 e3;refine#[u,r,?_];rcases l with l|⟨k,c,e,z⟩
  .exact .inl l
  .exact .inr #[k,c,e,m6 x c e _ z]
 .obtain⟨v,z⟩:=I.cell x c e;exact#[v,m6 x c e v z]
 .obtain⟨m,⟨o,_,_,ho,_⟩,_⟩:=I.loc;exact free _ o (λz=>(I_ _ z).2.1 rfl) ho I.free
 .obtain⟨v,o,ho,hd⟩:=I.cell x c e;exact free c o (λz=>(I_ c z).2.2.1 x c e rfl) ho (I.freeC x c e)
 .obtain⟨e,n,ne,nf,d⟩:=I.pin p hp;have Ny:p.1∉ch:=λz=>(I_ p.1 z).2.2.2 p hp rfl;exact#[keep p.1 p.2 ne nf Ny e n,free p.1 p.2 Ny e n,ne,nf,d]
def Inv.un{t':Nat}(I:Inv X pins σ H s)(u:Un X.fs [] H H' s.heap h')(hok:HOk X.prog X.w H' h'):Inv X pins σ H' {s with heap:=h',toks:=t'}:=by
 obtain⟨m,⟨o,es,ep,ho,r⟩,_⟩:=id I.loc;obtain⟨sl,hL⟩:=u.any ho I.free MD;exact I.step (g':=s.gens) (d':=s.drawn) (ch:=[]) (λ_ z=>nomatch z) (λb o _ hb _ e n=>u.keep b o e n hb MD) (λb o _ hb _ e n=>u.slot b o e n hb MD) (λb o _ e n=>u.free b o e n MD) (λb o _ e=>u.there b o e MD) u.tups u.frzs u.tbls (λm' hm=>by
  obtain⟨o',O4,O5,Mq,r'⟩:=hm;rw[ho]at Mq;cases Mq;exact#[_,O4,O5,hL,r']) hok I.bare
def Inv.call{t':Nat}{d':Drawn}(I:Inv X pins σ H s)(u:Un (frs X.stack) ch H H' s.heap h')(hok:HOk X.prog X.w H' h')(hg:VY g')
  (I_:∀b∈ch,(b∈X.ex\/X.s₀.heap.objs.size<=b)/\b≠X.env.locals/\(∀x c,X.env.cells.lookup x=be c->c≠b)/\∀p∈X.pn++pins,p.1≠b):
  Inv X pins σ H' {s with heap:=h',gens:=g',drawn:=d',toks:=t'}:=by
 obtain⟨m,⟨o,es,ep,ho,r⟩,_⟩:=id I.loc;obtain⟨sl,hL⟩:=u.any ho I.free λz=>(I_ _ z).2.1 rfl;exact I.step (ch:=ch) I_ (λb o hL hb hc e n=>u.keep b o e n (λz=>(HQ.mp (I.stkSub b z)).elim hL hb) hc) (λb o _ _ hc e n=>u.any e n hc) (λb o hc e n=>u.free b o e n hc) (λb o hc e=>u.there b o e hc) u.tups u.frzs u.tbls (λm' hm=>by
  obtain⟨o',O4,O5,Mq,r'⟩:=hm;rw[ho]at Mq;cases Mq;exact#[_,O4,O5,hL,r']) hok hg
def Inv.turned{t':Nat}{it:Pi}(I:Inv X pins σ H s)(k:∀b o,b≠it->s.heap.get? b=be o->h'.get? b=be o)(hn:H it=v9)(hL:it≠X.env.locals)
  (h1:it∈X.ex\/X.s₀.heap.objs.size<=it) (h2:∀x c,X.env.cells.lookup x=be c->c≠it) (h3:∀p∈X.pn++pins,p.1≠it):Inv X pins σ H {s with heap:=h',toks:=t'}:=by
 have Mr:∀b u,H b=be u->b≠it:=λb u e z=>by rw[z,hn]at e;cases e
 refine I.step (g':=s.gens) (d':=s.drawn) (ch:=[it]) (λb hb=>?_) (λb o _ _ hc e _=>k b o (λz=>hc (by simp[z])) e) (λb o _ _ hc e _=>#[o.slots,k b o (λz=>hc (by simp[z])) e]) (λ_ _ _ _ n=>n)
  (λb o hc e=>#[o,k b o (λz=>hc (by simp[z])) e]) (λ_ _ e=>e) (λ_ _ _ e=>e) (λb ps e=>#[[].toArray,by rw[e];simp]) (λm hm=>?_) (λb u e=>?_) I.bare
 .have e:b=it:=by simpa using hb
  subst e;exact#[h1,hL,h2,h3]
 .obtain⟨o,es,ep,ho,r⟩:=hm;exact#[o,es,ep,k _ o (Ne.symm hL) ho,r]
 .refine(I.hok b u e).stay (λc v hc q=>k c v ?_ q) (λ_ q=>q) λ_ _ q=>q;rcases hc with z|z
  .rw[z];exact Mr b u e
  .exact Mr c _ z
def Inv.tok(I:Inv X pins σ H s)(t:Nat):Inv X pins σ H {s with toks:=t}:=I.un (h':=s.heap) (t':=t) Un.refl I.hok
def Inv.kept{t':Nat}(I:Inv X pins σ H s)(k:∀b u,s.heap.get? b=be u->h'.get? b=be u):Inv X pins σ H {s with heap:=h',toks:=t'}:=I.un (Un.kept k) (I.hok.kept k)
def Inv.laid{a:Pi}{o:HO}{t':Nat}(I:Inv X pins σ H s)(k:∀b u,s.heap.get? b=be u->h'.get? b=be u)(hp:s.heap.objs.size<=a)(new:ObjOk X.prog X.w (upd H a o) h' a o):
  Inv X pins σ (upd H a o) {s with heap:=h',toks:=t'}:=I.un (Un.laid k hp (I.hok.fresh hp)) (I.hok.laid k hp new)
def Inv.write{x e:Pi}{o:HO}{t':Nat}(I:Inv X pins σ H s)(mu:Mut (H x))(he:e=x\/H e=be (.own x))(k:∀b u,b≠e->s.heap.get? b=be u->h'.get? b=be u)(H_:∃u,h'.get? e=be u)
  (new:ObjOk X.prog X.w (upd H x o) h' x o):Inv X pins σ (upd H x o) {s with heap:=h',toks:=t'}:=I.un (Un.write mu he k H_) (I.hok.write mu he k H_ new)
def Inv.pins_of{L7:List (Pi×Vp)}(I:Inv X pins σ H s)(h:∀p∈L7,s.heap.get? p.1=be p.2/\H p.1=v9/\p.1≠X.env.locals/\p.1∉X.fs/\∀v,p.2.data≠.cell v):Inv X L7 σ H s:=
 #[I.ok,I.os,I.bare,I.base,I.loc,I.cell,I.free,I.freeC,λp hp=>(Iy.mp hp).elim (λz=>I.pin p (Ja _ z)) (h p),I.hok,I.len]
variable{x:LB}{i:Nat}
def jX{N:List LB}(hN:N.Nodup){j:Nat}(a:N[i]?=be x)(b:N[j]?=be x):i=j:=by
 obtain⟨h1,e1⟩:=Ib.mp a;obtain⟨h2,e2⟩:=Ib.mp b;exact(List.getElem_inj hN).mp (e1.trans e2.symm)
variable{E:Os->SB->Prop}{Q:Unit->SB->Prop}
def rl{M:WM}{A:Vb}{v:V}{u:Os}(I:Inv X pins σ H s)(hN:X.N.Nodup)(hi:X.N[i]?=be x)(hx:Loc X.env.scope x)(r:RelV v u)
  (h:∀s',Inv X pins (σ.set i (be v)) H s'->(∃a,Heap.SameBut a s.heap s'.heap/\(a=X.env.locals\/X.env.cells.lookup x=be a))->Q () s') (hf:autoParam (zFN X x) zA2):U_ M A (storeName X.env x u) Q E s:=by
 obtain⟨m,hn,hl⟩:=id I.loc;have y_:(X.env.scope.kind== .class||(X.env.scope.kind== .module&&X.env.locals !=X.env.globals))=false:=by rw[I.ok.kind];rfl
 have hiσ:i<σ.length:=by rw[I.len];exact(Ib.mp hi).1
 have cne:=I.cne;have ge:∀{a:Pi} {h':Heap},(∃o,s.heap.get? a=be o/\H a=v9)->Heap.SameBut a s.heap h'->HOk X.prog X.w H h':=λ{a h'} ha hs b ob e=>by
  obtain⟨_,_,k6⟩:=ha;refine(I.hok b ob e).stay (λc w' hc q=>(hs.2 c ?_).trans q) (λ_ q=>q) λ_ _ q=>q;rintro rfl;rcases hc with rfl|hc
  .rw[k6]at e;cases e
  .rw[k6]at hc;cases hc
 rcases hx with hk|hk
 .refine wpAny_storeName_local hk hn (λh' g5 hs=>?_) y_;obtain⟨oL,_,_,Rt,_⟩:=id hn;refine h _ #[I.ok,I.os,I.bare,#[λb o e n hb hx=>?_,λb o e n hb hx=>?_,I.base.free,λb o e hx=>?_,I.base.tups,I.base.frzs,I.base.tbls],#[_,g5,λj y v' e1 e2 e3=>?_],λy c e=>?_,I.free,I.freeC,λp hp=>?_,ge #[oL,Rt,I.free] hs,by simpa using I.len] #[_,hs,.inl rfl]
  .exact(hs.2 b (HZ (Io (Heap.lt_size e) I.ok.above))).trans (I.base.keep b o e n hb hx)
  .obtain⟨sl,e1⟩:=I.base.slot b o e n hb hx;exact#[sl,(hs.2 b (HZ (Io (Heap.lt_size e) I.ok.above))).trans e1]
  .obtain⟨o',e1⟩:=I.base.there b o e hx;exact#[o',(hs.2 b (HZ (Io (Heap.lt_size e) I.ok.above))).trans e1]
  .by_cases hj:j=i
   .subst hj;rw[hi]at e1;cases e1;rw[IE hiσ]at e2;cases e2;exact#[u,r,.inl #[hk,MD]]
   .rw[Ic (Ne.symm hj)]at e2;obtain⟨u',r',q⟩:=hl j y v' e1 e2 e3;refine#[u',r',?_];rcases q with⟨k,e⟩|⟨k,c,e,z⟩
    .refine .inl #[k,?_];have:y≠x:=λe=>hj (jX hN e1 (e ▸ hi));simp[this,e]
    .exact .inr #[k,c,e,z.sameBut hs (cne y c e)]
  .obtain⟨w',z⟩:=I.cell y c e;exact#[w',z.sameBut hs (cne y c e)]
  .obtain⟨e,n,ne,nf,d⟩:=I.pin p hp;exact#[(hs.2 p.1 ne).trans e,n,ne,nf,d]
 .have Nz:X.fn x=true:=by
   rcases hf with z|z
   .exact z
   .rw[z]at hk;cases hk
  obtain⟨c,hc⟩:=I.ok.has x (.inl hk);obtain⟨w',z⟩:=I.cell x c hc;refine wpAny_storeName_cell I.ok.kind hk hc z (λh' L8 hs=>?_);obtain⟨oc,Ru,O6⟩:=id z;refine h {s with heap:=h'} #[I.ok,I.os,I.bare,#[λb o e n hb hx=>?_,λb o e n hb hx=>?_,I.base.free,λb o e hx=>?_,I.base.tups,I.base.frzs,I.base.tbls],#[m,hn.sameBut hs (Ne.symm (cne x c hc)),λj y v' e1 e2 e3=>?_],λy c' e=>?_,I.free,I.freeC,λp hp=>?_,ge #[oc,Ru,I.freeC x c hc] hs,by simpa using I.len] #[c,hs,.inr hc]
  .exact(hs.2 b (HZ (Io (Heap.lt_size e) (I.ok.cab x c Nz hc)))).trans (I.base.keep b o e n hb hx)
  .obtain⟨sl,e1⟩:=I.base.slot b o e n hb hx;exact#[sl,(hs.2 b (HZ (Io (Heap.lt_size e) (I.ok.cab x c Nz hc)))).trans e1]
  .obtain⟨o',e1⟩:=I.base.there b o e hx;exact#[o',(hs.2 b (HZ (Io (Heap.lt_size e) (I.ok.cab x c Nz hc)))).trans e1]
  .by_cases hj:j=i
   .subst hj;rw[hi]at e1;cases e1;rw[IE hiσ]at e2;cases e2;exact#[u,r,.inr #[.inl hk,c,hc,L8]]
   .rw[Ic (Ne.symm hj)]at e2;obtain⟨u',r',q⟩:=hl j y v' e1 e2 e3;refine#[u',r',?_];rcases q with q|⟨k,c',e,z'⟩
    .exact .inl q
    .refine .inr #[k,c',e,z'.sameBut hs ?_];rintro rfl;exact hj (jX hN e1 (I.ok.inj _ _ _ e hc ▸ hi))
  .by_cases Rv:c'=c
   .subst Rv;exact#[_,L8]
   .obtain⟨w2,z2⟩:=I.cell y c' e;exact#[w2,z2.sameBut hs Rv]
  .obtain⟨e,n,ne,nf,d⟩:=I.pin p hp;refine#[(hs.2 p.1 ?_).trans e,n,ne,nf,d];intro q;rw[q,Ru]at e;have q':oc=p.2:=Option.some.inj e;exact d w' (by rw[<-q'];exact O6)
def eB{M:WM}{A:Vb}{v:V}{u:Os}(I:Inv X pins σ H s)(hN:X.N.Nodup)(hi:X.N[i]?=be x)(hx:Loc X.env.scope x)(r:RelV v u)
  (h:∀s',Inv X pins (σ.set i (be v)) H s'->Q () s') (hf:autoParam (zFN X x) zA2):U_ M A (storeName X.env x u) Q E s:=
 rl I hN hi hx r (λs' I' _=>h s' I') hf
def Inv.call'{s':SB}(I:Inv X pins σ H s)(ho:s'.os=s.os)(u:Un (frs X.stack) ch H H' s.heap s'.heap)(hok:HOk X.prog X.w H' s'.heap)(hg:VY s'.gens)
  (I_:∀b∈ch,(b∈X.ex\/X.s₀.heap.objs.size<=b)/\b≠X.env.locals/\(∀x c,X.env.cells.lookup x=be c->c≠b)/\∀p∈X.pn++pins,p.1≠b):Inv X pins σ H' s':=by
 obtain⟨h',g',d',t',o'⟩:=s';have e:o'=s.os:=ho;subst e;exact I.call (g':=g') (t':=t') (d':=d') u hok hg I_
end
abbrev XK:=Os->Option Pi->Hp->Prop
abbrev St:=List (Option V)
abbrev VK:=V->Hp->Prop
abbrev TE:=St->Hp->VK->Prop
abbrev TT:=St->Hp->(Bool->Hp->Prop)->Prop
abbrev TA:=St->Hp->(List V->Hp->Prop)->Prop
structure Ends where
 nx:St->Hp->Prop
 rt:VK
 bk:St->Hp->Prop:=λ_ _=>False
 ct:St->Hp->Prop:=λ_ _=>False
abbrev TS:=Ends->St->Hp->Prop
def EP(X:Cx)(pins:List (Pi×Vp))(σ:St)(Q:VK)(u:Os)(s':SB):Prop:=∃v H',Inv X pins σ H' s'/\RelV v u/\Q v H'
def TP(X:Cx)(pins:List (Pi×Vp))(σ:St)(Q:Bool->Hp->Prop)(b:Bool)(s':SB):Prop:=∃H',Inv X pins σ H' s'/\Q b H'
def AP(X:Cx)(pins:List (Pi×Vp))(σ:St)(Q:List V->Hp->Prop)(us:List Os)(s':SB):Prop:=∃vs H',Inv X pins σ H' s'/\Vals vs us/\Q vs H'
def SP(X:Cx)(pins:List (Pi×Vp))(D:Ends)(f:Flow)(s':SB):Prop:=
 match f with
 |.next=>∃σ' H',Inv X pins σ' H' s'/\D.nx σ' H'
 |.brk=>∃σ' H',Inv X pins σ' H' s'/\D.bk σ' H'
 |.cont=>∃σ' H',Inv X pins σ' H' s'/\D.ct σ' H'
 |.ret u=>∃v σ' H',Inv X pins σ' H' s'/\RelV v u/\D.rt v H'
def PE(X:Cx)(e:U8)(t:TE):Prop:=
 ∀(pins:List (Pi×Vp)) (s:SB) (σ:St) (H:Hp) (Q:VK),Inv X pins σ H s->t σ H Q->U_ (U9 X.prog X.w) X.A (Vf e X.env) (EP X pins σ Q) X.xe s
def PT(X:Cx)(e:U8)(t:TT):Prop:=
 ∀(pins:List (Pi×Vp)) (s:SB) (σ:St) (H:Hp) (Q:Bool->Hp->Prop),Inv X pins σ H s->t σ H Q->U_ (U9 X.prog X.w) X.A (isTrue e X.env (Vf e X.env)) (TP X pins σ Q) X.xe s
def PW(X:Cx)(e:U8)(t:TT):Prop:=
 ∀(f7:WE Os) (pins:List (Pi×Vp)) (s:SB) (σ:St) (H:Hp) (Q:Bool->Hp->Prop),Inv X pins σ H s->t σ H Q->U_ (U9 X.prog X.w) X.A (isTrue e X.env f7) (TP X pins σ Q) X.xe s
variable{X:Cx}
def PW.pt{e:U8}{t:TT}(h:PW X e t):PT X e t:=h _
def PA(X:Cx)(es:List U8)(t:TA):Prop:=
 ∀(pos:Vh) (pins:List (Pi×Vp)) (s:SB) (σ:St) (H:Hp) (Q:List V->Hp->Prop),Inv X pins σ H s->t σ H Q->U_ (U9 X.prog X.w) X.A (spliced (VH pos (Vc es X.env))) (AP X pins σ Q) X.xe s
def PS(X:Cx)(st:U7)(t:TS):Prop:=
 ∀(pins:List (Pi×Vp)) (s:SB) (σ:St) (H:Hp) (D:Ends),Inv X pins σ H s->t D σ H->U_ (U9 X.prog X.w) X.A (exec st X.env) (SP X pins D) X.xe s
def PSs(X:Cx)(st:List U7)(t:TS):Prop:=
 ∀(pins:List (Pi×Vp)) (s:SB) (σ:St) (H:Hp) (D:Ends),Inv X pins σ H s->t D σ H->U_ (U9 X.prog X.w) X.A (execs st X.env) (SP X pins D) X.xe s
variable{A:Vb}{E:Os->SB->Prop}{s:SB}
def thn{α:Type}{t:WE α}{Q Q':α->SB->Prop}{M:WM}(h:U_ M A t Q E s)(hQ:∀a s,Q a s->Q' a s):U_ M A t Q' E s:=Vm h hQ λ_ _ x=>x
section
variable {X:Cx}
def tVar(i:Nat):TE:=λσ H Q=>∃v,σ[i]?=be (be v)/\Q v H
def tC(v:V):TE:=λ_ H Q=>Q v H
variable{x:LB}{pos:Vh}
def cP{i:Nat}(hN:X.N[i]?=be x)(hv:Vis X.env.scope x)(hd:autoParam (zND x) zA1)(gt:autoParam (zNC x) zA1):PE X (.Name x pos) (tVar i):=by
 intro pins s σ H Q I h;obtain⟨v,e,h⟩:=h;obtain⟨m,hn,hl⟩:=I.loc;obtain⟨u,r,l⟩:=hl i x v hN e hv;have e8:EP X pins σ Q u s:=#[v,H,I,r,h];rcases l with⟨hk,hm⟩|⟨hk,c,hc,m8⟩
 .exact WU (wpAny_loadName_local I.ok.kind hk hn hm e8) hd
 .rcases hk with hk|hk
  .exact WU (wpAny_loadName_cell I.ok.kind hk hc m8 e8) hd
  .exact WU (wpAny_loadName_free I.ok.kind hk hc m8 e8 gt) hd
def xq{i j pos}:PE X (.Constant (.int i) j pos) (tC (.int i)):=λ_ _ _ H _ I h=>wpAny_Constant_int #[.int i,H,I.tok _,#[_,rfl],h]
def xr{b j pos}:PE X (.Constant (.bool b) j pos) (tC (.bl b)):=λ_ _ _ H _ I h=>Constant_bool #[.bl b,H,I,rfl,h]
def xt{j pos}:PE X (.Constant .none j pos) (tC .non):=λ_ _ _ H _ I h=>Constant_none #[.non,H,I,rfl,h]
def rn{x j pos}:PE X (.Constant (.str x) j pos) (tC (.str x)):=λ_ _ _ H _ I h=>Calls.Constant_str #[.str x,H,I.tok _,#[_,rfl],h]
def Gl(X:Cx)(x:LB):Prop:=X.env.kindOf x=be .globalImplicit
variable{E Q:Os->SB->Prop}{pins:List (Pi×Vp)}{u:Os}
def cv{s:SB}{σ:St}{H:Hp}(I:Inv X pins σ H s)(hg:Gl X x)(hm:X.mg x=be u)(h:Q u s)
  (hd:autoParam (zND x) zA1):U_ (U9 X.prog X.w) X.A (Vf (.Name x pos) X.env) Q E s:=
 Calls.Name_function_global I.ok.kind hg (Calls.loadGlobal_global (by rw[I.ok.glob];exact I.mod.glob.keeps I.bk) hm h) hd
def dH{s:SB}{σ:St}{H:Hp}(I:Inv X pins σ H s)(hg:Gl X x)(hm:X.mg x=v9)(hv:Vo x=be u)(h:Q u s)
  (hn:autoParam (x≠"__name__") zA1) (hd:autoParam (zND x) zA1):U_ (U9 X.prog X.w) X.A (Vf (.Name x pos) X.env) Q E s:=by
 obtain⟨mb,h1,h2⟩:=I.mod.blt;exact Calls.Name_function_global I.ok.kind hg (Calls.loadGlobal_builtin (by rw[I.ok.glob];exact I.mod.glob.keeps I.bk) hm (by rw[I.ok.blt];exact h1.keeps I.bk) ((h2 x hn).trans hv) h) hd
def xu{v:V}(hg:Gl X x)(hm:X.mg x=be u)(r:RelV v u)(hd:autoParam (zND x) zA1):PE X (.Name x pos) (tC v):=
 λ_ _ _ H _ I h=>cv I hg hm #[v,H,I,r,h] hd
def rq{v:V}(hg:Gl X x)(hm:X.mg x=v9)(hv:Vo x=be u)(r:RelV v u)(hn:autoParam (x≠"__name__") zA1)(hd:autoParam (zND x) zA1):PE X (.Name x pos) (tC v):=
 λ_ _ _ H _ I h=>dH I hg hm hv #[v,H,I,r,h] hn hd
variable {a b:U8}{ta tb:TE}{pos:Vh}
variable {tA Ly:TT}{rest:List U8}
def tAnd(t u:TT):TT:=λσ H Q=>t σ H λc H1=>if c=true then u σ H1 Q else Q false H1
def tOr(t u:TT):TT:=λσ H Q=>t σ H λc H1=>if c=true then Q true H1 else u σ H1 Q
def tNot(t:TT):TT:=λσ H Q=>t σ H λc H1=>Q (!c) H1
def rA(ha:PT X a tA):PW X (.BoolOp .And [a] pos) tA:=by
 intro wh pins s σ H Q I h;refine isTrue_and (thn (ha pins s σ H Q I h) λc s1 e=>?_);cases c with
 |true=>exact isTrue_and_nil e
 |false=>exact e
def rB(ha:PT X a tA):PW X (.BoolOp .Or [a] pos) tA:=by
 intro wh pins s σ H Q I h;refine isTrue_or (thn (ha pins s σ H Q I h) λc s1 e=>?_);cases c with
 |false=>exact isTrue_or_nil e
 |true=>exact e
def rC(ha:PT X a tA)(hb:PW X (.BoolOp .And (b::rest) pos) Ly):PW X (.BoolOp .And (a::b::rest) pos) (tAnd tA Ly):=by
 intro wh pins s σ H Q I h;refine isTrue_and (thn (ha pins s σ H _ I h) λc s1 b9=>?_);obtain⟨H1,I1,q1⟩:=b9;cases c with
 |true=>exact hb wh pins s1 σ H1 Q I1 q1
 |false=>exact#[H1,I1,q1]
def rD(ha:PT X a tA)(hb:PW X (.BoolOp .Or (b::rest) pos) Ly):PW X (.BoolOp .Or (a::b::rest) pos) (tOr tA Ly):=by
 intro wh pins s σ H Q I h;refine isTrue_or (thn (ha pins s σ H _ I h) λc s1 b9=>?_);obtain⟨H1,I1,q1⟩:=b9;cases c with
 |true=>exact#[H1,I1,q1]
 |false=>exact hb wh pins s1 σ H1 Q I1 q1
def rE(ha:PT X a tA):PT X (.UnaryOp .Not a pos) (tNot tA):=by
 intro pins s σ H Q I h;exact isTrue_not (ha pins s σ H (λc H1=>Q (!c) H1) I h)
def xx(ta tb:TE):TE:=λσ H Q=>ta σ H λx H1=>∃c,x=.bl c/\if c=true then tb σ H1 Q else Q (.bl false) H1
def xy(ta:TE):TE:=λσ H Q=>ta σ H λx H1=>∃c,x=.bl c/\Q (.bl (!c)) H1
def xz{op}{t:TE}(h:PE X a t):PE X (.BoolOp op [a] pos) t:=λpins s σ H Q I hw=>BoolOp_one (h pins s σ H Q I hw)
def xA(ha:PE X a ta)(hb:PE X (.BoolOp .And (b::rest) pos) tb):PE X (.BoolOp .And (a::b::rest) pos) (xx ta tb):=by
 intro pins s σ H Q I h;refine BoolOp_and (thn (ha pins s σ H _ I h) λv s1 b9=>?_);obtain⟨x,H1,I1,r1,q1⟩:=b9;obtain⟨c,rfl,q1⟩:=q1;cases r1;refine VV ?_;cases c with
 |true=>exact hb pins s1 σ H1 Q I1 q1
 |false=>exact#[.bl false,H1,I1,rfl,q1]
def xB(ha:PE X a ta):PE X (.UnaryOp .Not a pos) (xy ta):=by
 intro pins s σ H Q I h;refine UnaryOp_ (thn (ha pins s σ H _ I h) λv s1 b9=>?_);obtain⟨x,H1,I1,r1,q1⟩:=b9;obtain⟨c,rfl,q1⟩:=q1;cases r1;exact not_of (VV #[.bl (!c),H1,I1,rfl,q1])
def tIf(t:TT)(ta tb:TE):TE:=λσ H Q=>t σ H λc H1=>if c=true then ta σ H1 Q else tb σ H1 Q
def xC{c:U8}(hc:PT X c tA)(ha:PE X a ta)(hb:PE X b tb):PE X (.IfExp c a b pos) (tIf tA ta tb):=by
 intro pins s σ H Q I h;refine wpAny_IfExp (thn (hc pins s σ H _ I h) λd s1 b9=>?_);obtain⟨H1,I1,q1⟩:=b9;cases d with
 |true=>exact ha pins s1 σ H1 Q I1 q1
 |false=>exact hb pins s1 σ H1 Q I1 q1
end
def SqL(K:Ex)(H:Hp)(a:Pi)(xs:List V):Prop:=
 Rd H a (.lst xs)\/
  ∃(o:Vp) (its:Array Os) (n:Nat),K.lookup a=be o/\o.cls=.type "list"/\o.dict=v9/\o.data=.seq its n/\its.size<=sizeLine/\Vals xs its.toList
def SqT(K:Ex)(H:Hp)(a:Pi)(xs:List V):Prop:=
 Rd H a (.tup xs)\/
  ∃(o:Vp) (its:Array Os) (n:Nat),K.lookup a=be o/\o.cls=.type "tuple"/\o.data=.seq its n/\its.size<=sizeLine/\Vals xs its.toList
def absV:Os->Option V
 |.none=>be .non
 |.bool b=>be (.bl b)
 |.int i _=>be (.int i)
 |.str x _=>be (.str x)
 |.bytes b _=>be (.byt b)
 |.float b _=>be (.flt b)
 |.ref a=>be (.ref a)
 |.type n=>be (.ty n)
 |_=>v9
variable{u:Os}
def RelV.abs{x:V}(r:RelV x u):absV u=be x:=by
 cases x with
 |non=>cases r;rfl
 |bl _=>cases r;rfl
 |int _=>obtain⟨t,rfl⟩:=r;rfl
 |str _=>obtain⟨t,rfl⟩:=r;rfl
 |byt _=>obtain⟨t,rfl⟩:=r;rfl
 |flt _=>obtain⟨t,rfl⟩:=r;rfl
 |ref _=>cases r;rfl
 |ty _=>cases r;rfl
def RelV.inj{x y:V}(r:RelV x u)(q:RelV y u):x=y:=Option.some.inj (r.abs.symm.trans q.abs)
def Vals.inj:∀{xs ys:List V} {us:List Os},Vals xs us->Vals ys us->xs=ys:=by
 intro xs ys us h;induction h generalizing ys with
 |nil=>intro g;cases g;rfl
 |cons r _ e=>
  intro g;cases g with
  |cons r' t'=>rw[r.inj r',e t']
section
variable {X:Cx}{pins:List (Pi×Vp)}{σ:St}{H:Hp}{s:SB}{a:Pi}{xs ys:List V}
def SqL.of{K:Ex}(h:H a=be (.lst xs)):SqL K H a xs:=.inl (.inl h)
def SqT.of{K:Ex}(h:H a=be (.tup xs)):SqT K H a xs:=.inl (.inl h)
def Inv.list(I:Inv X pins σ H s)(h:SqL X.K H a xs):∃its:List Os,Vals xs its/\PlainL s.heap a its.toArray/\xs.length<=sizeLine:=by
 rcases h with h|⟨o,its,n,hk,hc,hd,hs,hz,r⟩
 .obtain⟨z,its,n,r,e⟩:=h.ok I.hok;exact#[its,r,#[_,n,e,rfl,rfl,rfl],z]
 .refine#[its.toList,r,#[o,n,I.kIn a o hk,hc,hd,by simpa using hs],?_];have e:=r.length;simp only[JM]at e;lia
def Inv.tuple(I:Inv X pins σ H s)(h:SqT X.K H a xs):∃its:List Os,Vals xs its/\IsTup s.heap a its.toArray/\xs.length<=sizeLine:=by
 rcases h with h|⟨o,its,n,hk,hc,hs,hz,r⟩
 .obtain⟨z,its,r,p⟩:=h.ok I.hok;exact#[its,r,p,z]
 .refine#[its.toList,r,#[o,I.kIn a o hk,hc,n,by simpa using hs],?_];have e:=r.length;simp only[JM]at e;lia
def Inv.list_inj(I:Inv X pins σ H s)(h:SqL X.K H a xs)(h':SqL X.K H a ys):xs=ys:=by
 obtain⟨its,r,⟨o,n,e,_,_,d⟩,_⟩:=I.list h;obtain⟨its',r',⟨o',n',e',_,_,d'⟩,_⟩:=I.list h';rw[e]at e';cases e';rw[d]at d';injection d' with d1 _;have:its=its':=by simpa using congrArg Array.toList d1
 subst this;exact r.inj r'
end
abbrev Cx.wish(X:Cx)(E:Os->SB->Prop):Cx:={X with xe:=E}
abbrev Cx.nox(X:Cx):Cx:=X.wish λ_ _=>False
def Cx.Ok.wish(ok:X.Ok)(E:Os->SB->Prop):(X.wish E).Ok:=
 #[ok.mod,ok.kind,ok.glob,ok.blt,ok.above,ok.inj,ok.has,ok.cab,ok.hd,ok.frames,ok.stk,ok.exf,ok.bs,ok.bsz,ok.noex,ok.exfs,ok.funs,ok.frf]
def Cx.Ok.unwish(ok:(X.wish E).Ok):X.Ok:=
 #[ok.mod,ok.kind,ok.glob,ok.blt,ok.above,ok.inj,ok.has,ok.cab,ok.hd,ok.frames,ok.stk,ok.exf,ok.bs,ok.bsz,ok.noex,ok.exfs,ok.funs,ok.frf]
section
variable {X:Cx}{pins:List (Pi×Vp)}{σ:St}{H:Hp}{s:SB}{E:Os->SB->Prop}
def Inv.wish(I:Inv X pins σ H s)(E:Os->SB->Prop):Inv (X.wish E) pins σ H s:=#[I.ok.wish E,I.os,I.bare,I.base,I.loc,I.cell,I.free,I.freeC,I.pin,I.hok,I.len]
def Inv.unwish(I:Inv (X.wish E) pins σ H s):Inv X pins σ H s:=#[I.ok.unwish,I.os,I.bare,I.base,I.loc,I.cell,I.free,I.freeC,I.pin,I.hok,I.len]
def SP.unwish{D:Ends}{f:Flow}{s':SB}(h:SP (X.wish E) pins D f s'):SP X pins D f s':=by
 cases f with
 |next=>obtain⟨σ',H',I,q⟩:=h;exact#[σ',H',I.unwish,q]
 |brk=>obtain⟨σ',H',I,q⟩:=h;exact#[σ',H',I.unwish,q]
 |cont=>obtain⟨σ',H',I,q⟩:=h;exact#[σ',H',I.unwish,q]
 |ret u=>obtain⟨v,σ',H',I,r,q⟩:=h;exact#[v,σ',H',I.unwish,r,q]
def PSs.nox{st:List U7}{t:TS}(h:PSs X.nox st t):PSs X st t:=λpins s σ H D I hw=>
 Vm (h pins s σ H D (I.wish _) hw) (λ_ _ q=>q.unwish) λ_ _ z=>False.elim z
end
section
variable {X:Cx}{st:U7}{rest:List U7}{t u:TS}{e:U8}{te:TE}{pos:Vh}
def xD:TS:=λD σ H=>D.nx σ H
def tSeq(t u:TS):TS:=λD σ H=>t {D with nx:=u D} σ H
def pss_nil:PSs X [] xD:=λ_ _ σ H _ I h=>VR #[σ,H,I,h]
def eE(h1:PS X st t)(h2:PSs X rest u):PSs X (st::rest) (tSeq t u):=by
 intro pins s σ H D I h;refine wpAny_execs_cons (thn (h1 pins s σ H {D with nx:=u D} I h) λf s1 q=>?_);cases f with
 |next=>
  obtain⟨σ',H',I',q⟩:=q;exact h2 pins s1 σ' H' D I' q
 |ret v=>exact q
 |brk=>exact q
 |cont=>exact q
def rF(h1:PS X st t):PSs X [st] t:=by
 intro pins s σ H D I h;refine wpAny_execs_cons (thn (h1 pins s σ H D I h) λf s1 q=>?_);cases f with
 |next=>exact VR q
 |ret v=>exact q
 |brk=>exact q
 |cont=>exact q
def Inv.quiet{pins:List (Pi×Vp)}{σ:St}{H:Hp}{s:SB}(I:Inv X pins σ H s):interactive X.env=false:=by simp[interactive,I.ok.kind]
def xE(te:TE):TS:=λD σ H=>te σ H λ_ H1=>D.nx σ H1
def jY(he:PE X e te)(hs:autoParam (Vn e v9 pos.line X.env=pure false) zA0):PS X (.Expr e pos) (xE te):=by
 intro pins s σ H D I h;exact wpAny_Expr_any (thn (he pins s σ H _ I h) λv s1 ⟨x,H1,I1,r1,q1⟩=>#[σ,H1,I1,q1]) I.quiet hs
def tRet(te:TE):TS:=λD σ H=>te σ H D.rt
def rG(he:PE X e te):PS X (.Return (be e) pos) (tRet te):=by
 intro pins s σ H D I h;exact wpAny_Return_some (thn (he pins s σ H _ I h) λv s1 ⟨x,H1,I1,r1,q1⟩=>#[x,σ,H1,I1,r1,q1])
def tIfS(c:TT)(t u:TS):TS:=λD σ H=>c σ H λb H1=>if b=true then t D σ H1 else u D σ H1
def rH{c:U8}{a b:List U7}{tc:TT}(hc:PT X c tc)(ha:PSs X a t)(hb:PSs X b u):PS X (.If c a b pos) (tIfS tc t u):=by
 intro pins s σ H D I h;refine wpAny_If (thn (hc pins s σ H _ I h) λd s1 b9=>?_);obtain⟨H1,I1,q1⟩:=b9;cases d with
 |true=>exact ha pins s1 σ H1 D I1 q1
 |false=>exact hb pins s1 σ H1 D I1 q1
def xF:TS:=λ_ _ _=>False
def ps_never:PS X st xF:=λ_ _ _ _ _ _ h=>h.elim
end
abbrev TG:=V->St->Hp->(St->Hp->Prop)->Prop
abbrev TGs:=List V->St->Hp->(St->Hp->Prop)->Prop
def PG(X:Cx)(g7:U8)(t:TG):Prop:=
 ∀(pins:List (Pi×Vp)) (s:SB) (σ:St) (H:Hp) (v:V) (u:Os) (Q:St->Hp->Prop),Inv X pins σ H s->RelV v u->t v σ H Q->
  U_ (U9 X.prog X.w) X.A (VL g7 X.env u) (λ_ s'=>∃σ' H',Inv X pins σ' H' s'/\Q σ' H') X.xe s
def PGs(X:Cx)(ts:List U8)(t:TGs):Prop:=
 ∀(pins:List (Pi×Vp)) (s:SB) (σ:St) (H:Hp) (vs:List V) (us:List Os) (Q:St->Hp->Prop),Inv X pins σ H s->Vals vs us->t vs σ H Q->
  U_ (U9 X.prog X.w) X.A (Ws ((Vd ts X.env).map (·.2)) us) (λ_ s'=>∃σ' H',Inv X pins σ' H' s'/\Q σ' H') X.xe s
abbrev TSet:=V->V->V->Hp->(Hp->Prop)->Prop
def PSet(X:Cx)(t:TSet):Prop:=
 ∀(pins:List (Pi×Vp)) (s:SB) (σ:St) (H:Hp) (o i v:V) (ov iv u:Os) (Q:Hp->Prop),Inv X pins σ H s->RelV o ov->RelV i iv->RelV v u->t o i v H Q->
  U_ (U9 X.prog X.w) X.A (Wy ov iv u) (λ_ s'=>∃H',Inv X pins σ H' s'/\Q H') X.xe s
abbrev TIp:=V->V->Hp->VK->Prop
def PIp(X:Cx)(op:Wq)(t:TIp):Prop:=
 ∀(pins:List (Pi×Vp)) (s:SB) (σ:St) (H:Hp) (x y:V) (v u:Os) (Q:VK),Inv X pins σ H s->RelV x v->RelV y u->t x y H Q->
  U_ (U9 X.prog X.w) X.A (inplaceOp op v u) (EP X pins σ Q) X.xe s
section
variable {X:Cx}{pos:Vh}
def fL(i:Nat):TG:=λv σ H Q=>Q (σ.set i (be v)) H
variable{i:Nat}{x:LB}
def dI(hN:X.N.Nodup)(hi:X.N[i]?=be x)(hx:Loc X.env.scope x)(hf:autoParam (zFN X x) zA2):PG X (.Name x pos) (fL i):=by
 intro pins s σ H v u Q I r h;exact Wb (eB I hN hi hx r (λs' I'=>#[_,H,I',h]) hf)
def gNil:TGs:=λvs σ H Q=>vs=[]/\Q σ H
def xG(t:TG)(u:TGs):TGs:=λvs σ H Q=>∃v r,vs=v::r/\t v σ H λσ' H'=>u r σ' H' Q
def xH:PGs X [] gNil:=by
 intro pins s σ H vs us Q I r h;obtain⟨e,h⟩:=h;subst e;cases r;exact W4 #[σ,H,I,h]
variable{e:U8}{es:List U8}
def xI{t:TG}{u:TGs}(h1:PG X e t)(h2:PGs X es u)
  (hs:autoParam ((Vd (e::es) X.env).map (·.2)=VL e X.env::(Vd es X.env).map (·.2)) zA0):PGs X (e::es) (xG t u):=by
 intro pins s σ H vs us Q I r h;obtain⟨v,vr,e1,h⟩:=h;subst e1;cases r with
 |cons r rr=>
  rw[hs];refine Wa (thn (h1 pins s σ H _ _ _ I r h) λ_ s1 b9=>?_);obtain⟨σ1,H1,I1,q1⟩:=b9;exact h2 pins s1 σ1 H1 _ _ Q I1 rr q1
def gTup(K:Ex)(n:Nat)(t:TGs):TG:=λv σ H Q=>∃a xs,v=.ref a/\SqT K H a xs/\xs.length=n/\t xs σ H Q
def fM{k:Nat}{t:TGs}{n:Nat}(hc:X.calm=true)(h:PGs X es t)
  (hn:autoParam ((Vd es X.env).length=n) zA0) (k9:autoParam ((Vd es X.env).findIdx? (·.1)=none) zA0):PG X (.Tuple es k pos) (gTup X.K n t):=by
 intro pins s σ H v u Q I r hw;obtain⟨a,xs,e1,hq,hl,hw⟩:=hw;subst e1;cases r;obtain⟨its,rv,ht,hz⟩:=I.tuple hq;refine assign_Tuple_tuple (I.ok.hd hc) ht (by simp[hn,<-hl,rv.length]) k9 λh' hx=>?_;have I1:Inv X pins σ H {s with heap:=h'}:=I.kept (t':=s.toks) λb o e=>hx b o (HZ (Heap.lt_size e)) e;exact h pins _ σ H xs _ Q I1 (by simpa using rv) hw
def gSub(to ti:TE)(t:TSet):TG:=λv σ H Q=>to σ H λo H1=>ti σ H1 λi H2=>t o i v H2 λH3=>Q σ H3
def xJ{o i:U8}{to ti:TE}{t:TSet}(ho:PE X o to)(hi:PE X i ti)(hs:PSet X t)
  (ha:∀v,VL (.Subscript o i pos) X.env v=(do
   let ov <-Vy [v] (Vf o X.env)
   let iv <-Vy [v,ov] (Vf i X.env)
   VT pos
   Vy [v,ov,iv] (Wy ov iv v)
   W1 [v,ov,iv] []):=by intro _;rfl):PG X (.Subscript o i pos) (gSub to ti t):=by
 intro pins s σ H v u Q I r h;rw[ha];refine P3 (Vt (thn (ho pins s σ H _ I h) λov s1 b9=>?_));obtain⟨x,H1,I1,r1,q1⟩:=b9;refine P3 (Vt (thn (hi pins s1 σ H1 _ I1 q1) λiv s2 b9=>?_));obtain⟨y,H2,I2,r2,q2⟩:=b9;refine P3 (VA (P3 (Vt (thn (hs pins s2 σ H2 x y v ov iv u _ I2 r1 r2 r q2) λ_ s3 b9=>?_))));obtain⟨H3,I3,q3⟩:=b9;exact wpAny_release #[σ,H3,I3,q3]
def tAsg(te:TE)(g:TG):TS:=λD σ H=>te σ H λx H1=>g x σ H1 D.nx
variable{te:TE}
def gQ{tg:U8}{g:TG}(he:PE X e te)(hg:PG X tg g)(hs:autoParam (VB [tg] e pos.line X.env=pure false) zA0)(hw:autoParam (VC [tg] e X.env=pure none) zA0)
  (h1:autoParam ((Vd [tg] X.env).map (·.2)=[VL tg X.env]) zA0):PS X (.Assign [tg] e pos) (tAsg te g):=by
 intro pins s σ H D I h;refine wpAny_Assign_stores (thn (he pins s σ H _ I h) λv s1 hh=>?_) hs hw;obtain⟨x,H1,I1,r1,q1⟩:=hh;rw[h1];exact thn (hg pins s1 σ H1 x v _ I1 r1 q1) λ_ s2 q=>q
def gR{c5:Vh}(hN:X.N.Nodup)(hi:X.N[i]?=be x)(hx:Loc X.env.scope x)(he:PE X e te)(hs:autoParam (Vn e (be (.Name x c5)) pos.line X.env=pure false) zA0)(hf:autoParam (zFN X x) zA2):
  PS X (.Assign [.Name x c5] e pos) (tAsg te (fL i)):=by
 intro pins s σ H D I h;refine wpAny_Assign_Name (thn (he pins s σ H _ I h) λv s1 hh=>?_) hs;obtain⟨y,H1,I1,r1,q1⟩:=hh;exact eB I1 hN hi hx r1 (λs2 I2=>#[_,H1,I2,q1]) hf
def tPar(i j:Nat)(ta:TA):TS:=λD σ H=>ta σ H λvs H1=>∃v w,vs=[v,w]/\D.nx ((σ.set i (be v)).set j (be w)) H1
def xK{j:Nat}{y:LB}{a b:U8}{ta:TA}{px py pt:Vh}{kt k2 Ms}(hc:X.calm=true)(hN:X.N.Nodup)(hi:X.N[i]?=be x)(hj:X.N[j]?=be y)(O7:i≠j)
  (hx:X.env.scope.names.lookup x=be .local) (hy:X.env.scope.names.lookup y=be .local) (ha:PA X [a,b] ta)
  (hw:VC [.Tuple [.Name x px,.Name y py] kt pt] (.Tuple [a,b] k2 Ms) X.env=pure (be [x,y]))
  (hs:autoParam (VB [.Tuple [.Name x px,.Name y py] kt pt] (.Tuple [a,b] k2 Ms) pos.line X.env=pure false) zA0):
  PS X (.Assign [.Tuple [.Name x px,.Name y py] kt pt] (.Tuple [a,b] k2 Ms) pos) (tPar i j ta):=by
 intro pins s σ H D I h;rw[exec_Assign_arm];refine P3 (VA ?_);rw[hs];refine P3 (SZ ?_);rw[if_neg Mx];refine P3 (Tuple_ (thn (ha _ pins s σ H _ I h) λus s1 b9=>?_));obtain⟨vs,H1,I1,r1,q1⟩:=b9;obtain⟨v,w,e1,q1⟩:=q1;subst e1;obtain⟨u1,u2,rfl,rv,h_⟩:∃u1 u2,us=[u1,u2]/\RelV v u1/\RelV w u2:=by
  cases r1 with
  |cons p q=>
   cases q with
   |cons p' q'=>
    cases q';exact#[_,_,rfl,p,p']
 refine Vl ?_ (by show 2<=sizeLine;decide);have I2:Inv X pins σ H1 {s1 with heap:=s1.heap.push {cls:=.type "tuple",data:=.seq [u1,u2].toArray} }:=I1.kept (t':=s1.toks) λb o e=>Heap.get?_push_of_some _ e;rw[hw];refine P3 (SZ ?_);show U_ (U9 X.prog X.w) X.A (do rule "assign.swapped-stores";let items <-unpackItems (.ref s1.heap.objs.size) 2 v9;Ws [λv=>Wp X.env y v,λv=>Wp X.env x v] items.reverse;pure Flow.next) _ _ _;refine P3 (WS (P3 (unpackItems_tuple (items:=[u1,u2].toArray) (I.ok.hd hc) (IsTup.new s1.heap _) λh' f8=>?_)));have I3:=I2.kept (h':=h') (t':=s1.toks) λb o e=>f8 b o (HZ (Heap.lt_size e)) e;show U_ _ _ (Ws [λv=>Wp X.env y v,λv=>Wp X.env x v] [u2,u1]>>=λ_=>pure Flow.next) _ _ _;refine P3 (Wa (wpAny_bindName (eB I3 hN hj (.inl hy) h_ (λs2 I4=>?_) (.inr hy))));refine Wa (wpAny_bindName (eB I4 hN hi (.inl hx) rv (λs3 I5=>W4 (SZ ?_)) (.inr hx)));rw[List.set_comm _ _ (Ne.symm O7)]at I5;exact#[_,H1,I5,q1]
def xL(to ti te:TE)(Lz:V->V->Hp->VK->Prop)(OB:TIp)(LA:TSet):TS:=λD σ H=>to σ H λo H1=>ti σ H1 λi H2=>Lz o i H2 λx H3=>te σ H3 λy H4=>OB x y H4 λz H5=>LA o i z H5 λH6=>D.nx σ H6
def PGet(X:Cx)(t:V->V->Hp->VK->Prop):Prop:=
 ∀(pins:List (Pi×Vp)) (s:SB) (σ:St) (H:Hp) (o i:V) (ov iv:Os) (Q:VK),Inv X pins σ H s->RelV o ov->RelV i iv->t o i H Q->
  U_ (U9 X.prog X.w) X.A (Wk ov iv) (EP X pins σ Q) X.xe s
def xM{o i:U8}{to ti:TE}{Lz:V->V->Hp->VK->Prop}{OB:TIp}{LA:TSet}{op:Wq}{NA:Vh}(ho:PE X o to)(hi:PE X i ti)(hg:PGet X Lz)(he:PE X e te)(hp:PIp X op OB)(hs:PSet X LA)
  (ha:autoParam (∀ov iv new,augStore i ov iv new=(do Vy [new,ov,iv] (Wy ov iv new);W1 [new,ov,iv] [];pure .next)) zA7):PS X (.AugAssign (.Subscript o i NA) op e pos) (xL to ti te Lz OB LA):=by
 intro pins s σ H D I h;refine wpAny_AugAssign_SubscriptAny (thn (ho pins s σ H _ I h) λov s1 hh=>?_) ha;obtain⟨x1,H1,I1,r1,q1⟩:=hh;refine thn (hi pins s1 σ H1 _ I1 q1) λiv s2 b9=>?_;obtain⟨x2,H2,I2,r2,q2⟩:=b9;refine thn (hg pins s2 σ H2 x1 x2 ov iv _ I2 r1 r2 q2) λd7 s3 b9=>?_;obtain⟨x3,H3,I3,r3,q3⟩:=b9;refine thn (he pins s3 σ H3 _ I3 q3) λv s4 b9=>?_;obtain⟨x4,H4,I4,r4,q4⟩:=b9;refine thn (hp pins s4 σ H4 x3 x4 d7 v _ I4 r3 r4 q4) λnew s5 b9=>?_;obtain⟨x5,H5,I5,r5,q5⟩:=b9;exact thn (hs pins s5 σ H5 x1 x2 x5 ov iv new _ I5 r1 r2 r5 q5) λ_ s6 ⟨H6,I6,q6⟩=>#[σ,H6,I6,q6]
def ipI(f:Int->Int->Int):TIp:=λx y H Q=>∃i j,x=.int i/\y=.int j/\Q (.int (f i j)) H
def xN:PIp X .Add (ipI λi j=>i+j):=by
 intro pins s σ H x y v u Q I r1 r2 h;obtain⟨i,j,e1,e2,q⟩:=h;subst e1;subst e2;obtain⟨t,rfl⟩:=r1;obtain⟨t',rfl⟩:=r2;exact iadd_int #[.int _,H,I.tok _,#[_,rfl],q]
def xO(c:TT)(tb:TS):TS:=λD σ H=>∃W:Nat->St->Hp->Prop,(∃m,W m σ H)/\∀m σ H,W m σ H->
 c σ H λb H1=>if b=true then ∃N:St->Hp->Prop,(∀σ' H',N σ' H'->∃m',m'<m/\W m' σ' H')/\tb {D with nx:=N,ct:=N,bk:=D.nx} σ H1 else D.nx σ H1
def rJ{c:U8}{body:List U7}{tc:TT}{tb:TS}(hp:Vr (U9 X.prog X.w) X.A X.env X.xe)(hc:PT X c tc)(hb:PSs X body tb):PS X (.While c body [] pos) (xO tc tb):=by
 intro pins s σ H D I h;obtain⟨W,⟨m0,w0⟩,c7⟩:=h;refine wpAny_While (codeAny_whileLoop (λn s'=>∃σ' H',Inv X pins σ' H' s'/\W n σ' H') ?_ m0 #[σ,H,I,w0]);rintro n s1⟨σ1,H1,I1,w1⟩;refine Vw hp (thn (hc pins s1 σ1 H1 _ I1 (c7 n σ1 H1 w1)) λb s2 b9=>?_);obtain⟨H2,I2,q2⟩:=b9;cases b with
 |true=>
  obtain⟨N,hN,q2⟩:=q2;rw[if_pos rfl];refine Vw hp (thn (hb pins s2 σ1 H2 _ I2 q2) λf s3 q3=>?_);cases f with
  |next=>
   obtain⟨σ3,H3,I3,n3⟩:=q3;obtain⟨m',hm,w3⟩:=hN σ3 H3 n3;exact#[m',hm,σ3,H3,I3,w3]
  |cont=>
   obtain⟨σ3,H3,I3,n3⟩:=q3;obtain⟨m',hm,w3⟩:=hN σ3 H3 n3;exact#[m',hm,σ3,H3,I3,w3]
  |brk=>exact q3
  |ret v=>exact q3
 |false=>
  rw[if_neg Ie];exact VR #[σ1,H2,I2,q2]
end
structure It where
 go:Nat->Hp->Prop
 yld:Nat->Hp->V->Hp->Prop
 stop:Nat->Hp->Prop
def FpOk(X:Cx)(pins:List (Pi×Vp))(H:Hp)(b:Pi):Prop:=
 H b=v9/\b≠X.env.locals/\b∉X.fs/\(b∈X.ex\/X.s₀.heap.objs.size<=b)/\(∀x c,X.env.cells.lookup x=be c->c≠b)/\∀p∈X.pn++pins,p.1≠b
variable{σ:St}
def Inv.fpOk{pins:List (Pi×Vp)}{H':Hp}(I:Inv X pins σ H s)(hb:s.heap.objs.size<=b)(hn:H' b=v9):FpOk X pins H' b:=by
 refine#[hn,IS (Io I.lt hb),I.nofs hb,.inr (H8 I.sz hb),λx c e z=>?_,λp hp z=>?_]
 .obtain⟨v,q⟩:=I.cell x c e;exact absurd (Io q.lt (by rw[z];exact hb)) (IZ _)
 .exact absurd (Io (Heap.lt_size (I.pin p hp).1) (by rw[z];exact hb)) (IZ _)
structure Turn(P:U')(w:Va)(K:Ex)(tg:U8)(J:It)(fp:List Pi)(it:Pi)(tn:Nat->Heap->Prop):Prop where
 mem:it∈fp
 obj:∀i h,tn i h->∀b∈fp,∃o,h.get? b=be o/\∀v,o.data≠.cell v
 keep:∀i h h',tn i h->(∀b∈fp,∀o,h.get? b=be o->h'.get? b=be o)->tn i h'
 item:∀(X:Cx),X.prog=P->X.w=w->X.K=K->X.calm=true->∀(i:Nat) (pins:List (Pi×Vp)) (s:SB) (σ:St) (H:Hp) (E:Os->SB->Prop),Inv X pins σ H s->(∀b∈fp,FpOk X pins H b)->tn i s.heap->J.go i H->
  U_ (U9 P w) X.A (pyNext (.ref it)) (λr s1=>∃u,r=be u/\
   U_ (U9 P w) X.A (V5 tg (.ref it) u) (λ_ s2=>∃x H',Inv X pins σ H' s2/\RelV x u/\J.yld i H x H'/\tn (i+1) s2.heap/\∀b∈fp,H' b=v9) E s1) E s
 done:∀(X:Cx),X.prog=P->X.w=w->X.K=K->X.calm=true->∀(i:Nat) (pins:List (Pi×Vp)) (s:SB) (σ:St) (H:Hp) (E:Os->SB->Prop),Inv X pins σ H s->(∀b∈fp,FpOk X pins H b)->tn i s.heap->J.stop i H->
  U_ (U9 P w) X.A (pyNext (.ref it)) (λr s1=>r=v9/\Inv X pins σ H s1) E s
 self:∀(A:Vb) (i:Nat) (s:SB) (Q:Os->SB->Prop) (E:Os->SB->Prop),tn i s.heap->Q (.ref it) s->U_ (U9 P w) A (pyIter (.ref it)) Q E s
abbrev TI:=St->Hp->(It->Hp->Prop)->Prop
def PIE(X:Cx)(pins:List (Pi×Vp))(σ:St)(tg:U8)(R:It->Hp->Prop)(OC:Os)(s2:SB):Prop:=
 ∃(it:Pi) (fp:List Pi) (tn:Nat->Heap->Prop) (J:It) (H':Hp),OC=.ref it/\Inv X pins σ H' s2/\Turn X.prog X.w X.K tg J fp it tn/\tn 0 s2.heap/\(∀b∈fp,FpOk X pins H' b)/\R J H'
def PI(X:Cx)(tg iter:U8)(wi:TI):Prop:=
 ∀(pins:List (Pi×Vp)) (s:SB) (σ:St) (H:Hp) (R:It->Hp->Prop),Inv X pins σ H s->wi σ H R->
  U_ (U9 X.prog X.w) X.A (Vf iter X.env) (λv s1=>U_ (U9 X.prog X.w) X.A (pyIter v) (PIE X pins σ tg R) X.xe s1) X.xe s
variable{tg:U8}
def jZ{M:WM}{it:Pi}{o:Vp}{n:String}{vs:Array Os}{Q:Unit->SB->Prop}(ho:s.heap.get? it=be o)(hc:o.cls=.type n)(hd:o.data=.fields vs)
    (hn:["enumerate","zip","dict_itemiterator","dict_reverseitemiterator","odict_iterator","itertools.zip_longest","itertools.pairwise"].contains n=false) (hQ:Q () s):U_ M A (V5 tg (.ref it) u) Q E s:=by
  unfold V5;cases tg<;>first
    |exact SZ hQ
    |(cases u<;>first
        |exact SZ hQ
        |( refine P3 (wpAny_load ho ?_)
           rw[hc,hd];show U_ M A (if(["enumerate","zip","dict_itemiterator","dict_reverseitemiterator","odict_iterator","itertools.zip_longest","itertools.pairwise"].contains n&&vs[0]?==be (V2 _))=true then _ else _) Q E s;rw[if_neg (by intro h;rw[hn,Bool.false_and]at h;cases h)];exact SZ hQ))
def Itl(K:Ex)(a:Pi):It:=
 #[λi H=>∃xs x,SqL K H a xs/\xs[i]?=be x,λi H x H'=>H'=H/\∀xs,SqL K H a xs->xs[i]?=be x,λi H=>∃xs,SqL K H a xs/\xs.length<=i]
def Itr(lo:Int)(n:Nat):It:=#[λi _=>i<n,λi H x H'=>H'=H/\x=.int (lo+i),λi _=>n<=i]
variable{K:Ex}
def xP(a it:Pi):Turn P w K tg (Itl K a) [it] it (λi h=>h.IsListIter it a i) where
 mem:=MD
 obj:=λi h st b hb=>by
  have e:b=it:=by simpa using hb
  subst e;obtain⟨o,e,c,d⟩:=st;exact#[o,e,λv z=>by rw[d]at z;cases z]
 keep:=λi h h' st k=>st.at λo e=>k it MD o e
 item:=by
  intro X hP hw hK hc i pins s σ H E I hf st hg;subst hP hw hK;obtain⟨xs,x,hq,hx⟩:=hg;obtain⟨its,rv,p,hz⟩:=I.list hq;obtain⟨u,hu,ru⟩:=rv.get hx;obtain⟨f0,f1,f2,f3,f4,f5⟩:=hf it MD;refine wpAny_pyNext_list_item st p.isList (x:=u) (by simpa using hu) λh' v8 sb=>?_;have I1:Inv X pins σ H {s with heap:=h'}:=I.turned (t':=s.toks) (λb o hb e=>(sb.2 b hb).trans e) f0 f1 f3 f4 f5;obtain⟨o,e,c,d⟩:=id v8;exact#[u,rfl,jZ (s:={s with heap:=h'}) e c d Mx #[x,H,I1,ru,#[rfl,λys hy=>by rw[I.list_inj hy hq];exact hx],v8,λb hb=>(hf b hb).1]]
 done:=by
  intro X hP hw hK hc i pins s σ H E I hf st hg;subst hP hw hK;obtain⟨xs,hq,hx⟩:=hg;obtain⟨its,rv,p,hz⟩:=I.list hq;obtain⟨f0,f1,f2,f3,f4,f5⟩:=hf it MD;have hl:=rv.length;exact wpAny_pyNext_list_end (I.ok.hd hc) st p.isList Uw λh' eb=>#[rfl,I.turned (t':=s.toks) (λb o hb e=>eb b o hb e) f0 f1 f3 f4 f5]
 self:=λ_ _ _ _ _ st h=>wpAny_pyIter_listiter st h
def xQ(it:Pi)(lo:Int)(n:Nat):Turn P w K tg (Itr lo n) [it] it (λi h=>IsRangeIter h it (lo+(i:Nat)*1) ((n:Int)-(i:Nat)) 1) where
 mem:=MD
 obj:=λi h st b hb=>by
  have e:b=it:=by simpa using hb
  subst e;exact⟨_,st,λv z=>by
   have z':Data.fields _=Data.cell v:=z;cases z'⟩
 keep:=λi h h' st k=>k it MD _ st
 item:=by
  intro X hP hw hK hc i pins s σ H E I hf st hg;subst hP hw hK;obtain⟨f0,f1,f2,f3,f4,f5⟩:=hf it MD;have W:=Walks.range (prog:=X.prog) (w:=X.w) (I.ok.hd hc) it lo 1 n;refine W.item i s _ _ hg st λv h' tk hv v8 kk=>?_;obtain⟨t,rfl⟩:=hv;have I1:Inv X pins σ H {s with heap:=h',toks:=tk}:=I.turned (λb o hb e=>kk b o (by simpa using hb) e) f0 f1 f3 f4 f5;refine#[_,rfl,jZ (s:={s with heap:=h',toks:=tk}) (n:="range_iterator") v8 rfl rfl Mx #[.int (lo+i),H,I1,#[t,?_],#[rfl,rfl],v8,λb hb=>(hf b hb).1]];rw[Int.mul_one]
 done:=by
  intro X hP hw hK hc i pins s σ H E I hf st hg;subst hP hw hK;obtain⟨f0,f1,f2,f3,f4,f5⟩:=hf it MD;exact wpAny_pyNext_range_end (I.ok.hd hc) st (by have:n<=i:=hg;lia) λh' eb=>#[rfl,I.turned (t':=s.toks) (λb o hb e=>eb b o hb e) f0 f1 f3 f4 f5]
 self:=λ_ _ _ _ _ st h=>wpAny_pyIter_rangeiter st h
section
variable {X:Cx}{tg:U8}
def rK(K:Ex)(tl:TE):TI:=λσ H R=>tl σ H λx H1=>∃a,x=.ref a/\(∃xs,SqL K H1 a xs)/\R (Itl K a) H1
def kd{l:U8}{tl:TE}(hl:PE X l tl):PI X tg l (rK X.K tl):=by
 intro pins s σ H R I h;refine thn (hl pins s σ H _ I h) λv s1 b9=>?_;obtain⟨x,H1,I1,r1,q1⟩:=b9;obtain⟨a,e,⟨xs,hq⟩,q⟩:=q1;subst e;cases r1;obtain⟨its,rv,p,hz⟩:=I1.list hq;refine wpAny_pyIter_list p.isList ?_;refine#[s1.heap.objs.size,[s1.heap.objs.size],_,_,H1,rfl,I1.kept (t':=s1.toks) λb o e=>Heap.get?_push_of_some _ e,xP a _,#[_,Heap.get?_push_size _ rfl,rfl,rfl],λb hb=>?_,q];have e:b=s1.heap.objs.size:=by simpa using hb
 subst e;exact I1.fpOk (HP _) (I1.hok.fresh (HP _))
variable{pins:List (Pi×Vp)}{σ:St}{H:Hp}{s:SB}
def rL{R:It->Hp->Prop}{E:Os->SB->Prop}{lo hi:Int}{t u v:W5}{tk:Nat}(I:Inv X pins σ H s)(h1:-(2^62)<=lo)(h2:lo<2^62)(h3:-(2^62)<=hi)(h4:hi<2^62)
  (q:R (Itr lo (hi-lo).toNat) H):U_ (U9 X.prog X.w) X.A (pyIter (.ref s.heap.objs.size)) (PIE X pins σ tg R) E {s with heap:=s.heap.push {cls:=.type "range",data:=.fields [.int lo t,.int hi u,.int 1 v].toArray},toks:=tk}:=by
 refine wpAny_pyIter_range (IsRange.new ..) (small_one h1 h2 h3 h4) ?_;have I1:Inv X pins σ H {s with heap:=s.heap.push {cls:=.type "range",data:=.fields [.int lo t,.int hi u,.int 1 v].toArray},toks:=tk}:=I.kept λb o e=>Heap.get?_push_of_some _ e;refine⟨(s.heap.push {cls:=.type "range",data:=.fields [.int lo t,.int hi u,.int 1 v].toArray}).objs.size,[(s.heap.push {cls:=.type "range",data:=.fields [.int lo t,.int hi u,.int 1 v].toArray}).objs.size],_,_,H,rfl,
  I1.kept (t':=tk) λb o e=>Heap.get?_push_of_some _ e,xQ _ lo (hi-lo).toNat,?_,λb hb=>?_,q⟩
 .have e1:lo+((0:Nat):Int)*1=lo:=by simp
  have e2:(((hi-lo).toNat:Nat):Int)-((0:Nat):Int)=Builtin.Range.rangeSize lo hi 1:=by rw[rangeSize_one];split<;>lia
  show IsRangeIter _ _ (lo+((0:Nat):Int)*1) ((((hi-lo).toNat:Nat):Int)-((0:Nat):Int)) 1;rw[e1,e2];exact Heap.get?_push_size _ rfl
 .have e:b=(s.heap.push {cls:=.type "range",data:=.fields [.int lo t,.int hi u,.int 1 v].toArray}).objs.size:=by simpa using hb
  subst e;exact I1.fpOk (HP _) (I1.hok.fresh (HP _))
def rM(ta:TA):TI:=λσ H R=>ta σ H λvs H1=>∃j:Int,vs=[.int j]/\-(2^62)<=j/\j<2^62/\R (Itr 0 j.toNat) H1
def xR(ta:TA):TI:=λσ H R=>ta σ H λvs H1=>∃i j:Int,vs=[.int i,.int j]/\(-(2^62)<=i/\i<2^62/\-(2^62)<=j/\j<2^62)/\R (Itr i (j-i).toNat) H1
variable{pos:Vh}
def ke{a:U8}{ta:TA}{p:Vh}(hg:Gl X "range")(hm:X.mg "range"=v9)(ha:PA X [a] ta)(hs:autoParam (Vc [a] X.env=[(false,Vf a X.env)]) zA0):PI X tg (.Call (.Name "range" p) [a] [] pos) (rM ta):=by
 intro pins s σ H R I h;refine Call_ (dH I hg hm boot_range (PyProof.Rows.callWith_type1 (thn (ha pos pins s σ H _ I h) λus s1 hh=>?_) hs rfl));obtain⟨vs,H1,I1,r1,q1⟩:=hh;obtain⟨j,e,q1,q2,q⟩:=q1;subst e;cases r1 with
 |cons r rr=>
  cases rr;obtain⟨t,rfl⟩:=r;exact call_range_1 (rL I1 KK KK q1 q2 (by simpa using q))
def xS{a b:U8}{ta:TA}{p:Vh}(hg:Gl X "range")(hm:X.mg "range"=v9)(ha:PA X [a,b] ta)(hs:autoParam (Vc [a,b] X.env=[(false,Vf a X.env),(false,Vf b X.env)]) zA0)(l8:autoParam (Vc [b] X.env=[(false,Vf b X.env)]) zA0):
  PI X tg (.Call (.Name "range" p) [a,b] [] pos) (xR ta):=by
 intro pins s σ H R I h;refine Call_ (dH I hg hm boot_range (PyProof.Rows.callWith_type1 (thn (ha pos pins s σ H _ I h) λus s1 hh=>?_) (by rw[hs,l8]) (by rw[l8];rfl)));obtain⟨vs,H1,I1,r1,q1⟩:=hh;obtain⟨i,j,e,⟨q1,q2,q3,q4⟩,q⟩:=q1;subst e;cases r1 with
 |cons r rr=>
  cases rr with
  |cons r' rr=>
   cases rr;obtain⟨t,rfl⟩:=r;obtain⟨t',rfl⟩:=r';exact call_range_2 (rL I1 q1 q2 q3 q4 q)
def tFor(wi:TI)(g:TG)(tb:TS):TS:=λD σ H=>wi σ H λJ H1=>∃W:Nat->Nat->St->Hp->Prop,(∃m,W 0 m σ H1)/\∀i m σ H,W i m σ H->
 (J.stop i H/\D.nx σ H)\/(J.go i H/\∃N:St->Hp->Prop,(∀σ' H',N σ' H'->∃m',m'<m/\W (i+1) m' σ' H')/\∀x H',J.yld i H x H'->g x σ H' λσ2 H2=>tb {D with nx:=N,ct:=N,bk:=D.nx} σ2 H2)
def gS(fp:List Pi)(h:Heap):List (Pi×Vp):=fp.filterMap λb=>(h.get? b).map λo=>(b,o)
variable{fp:List Pi}
def eF{h:Heap}{b:Pi}{o:Vp}(hb:b∈fp)(e:h.get? b=be o):(b,o)∈gS fp h:=Kw.mpr #[b,hb,by rw[e];rfl]
def xT{h:Heap}{p:Pi×Vp}(hp:p∈gS fp h):p.1∈fp/\h.get? p.1=be p.2:=by
 obtain⟨b,hb,e⟩:=Kw.mp hp;cases q:h.get? b with
 |none=>rw[q]at e;cases e
 |some o=>
  rw[q]at e;have e':(b,o)=p:=Option.some.inj e;subst e';exact#[hb,q]
def Inv.pinned(I:Inv X pins σ H s)(hf:∀b∈fp,FpOk X pins H b)(ho:∀b∈fp,∃o,s.heap.get? b=be o/\∀v,o.data≠.cell v):Inv X (pins++gS fp s.heap) σ H s:=
 I.pins_of λp hp=>(Iy.mp hp).elim (λz=>I.pin p (Ik _ z)) λz=>by
  obtain⟨hb,e⟩:=xT z;obtain⟨f0,f1,f2,_⟩:=hf p.1 hb;obtain⟨o,e',d⟩:=ho p.1 hb;rw[e]at e';cases e';exact#[e,f0,f1,f2,d]
def Inv.unpinned{pl:List (Pi×Vp)}(I:Inv X (pins++pl) σ H s):Inv X pins σ H s:=I.pins_of λp hp=>I.pin p (Ik _ (Ja _ hp))
def cQ{iter:U8}{body:List U7}{wi:TI}{g:TG}{tb:TS}(hp:Vr (U9 X.prog X.w) X.A X.env X.xe)(hc:X.calm=true)(hi:PI X tg iter wi)(hg:PG X tg g)(hb:PSs X body tb)
  (hs:∀x,W3 iter X.env x=pure x:=by intro _;rfl):PS X (.For tg iter body [] pos) (tFor wi g tb):=by
 intro pins s σ H D I h;refine wpAny_For (thn (hi pins s σ H _ I h) λv s1 h1=>thn h1 λOC s2 h2=>?_) hs;obtain⟨it,fp,tn,J,H2,e,I2,T,s_,f2,W,⟨m0,w0⟩,c7⟩:=h2;subst e;have n_:∀{H':Hp},(∀b∈fp,H' b=v9)->∀b∈fp,FpOk X pins H' b:=λhn b hb=>#[hn b hb,(f2 b hb).2];refine codeAny_forLoop_any (λn s'=>∃i σ' H',Inv X pins σ' H' s'/\tn i s'.heap/\(∀b∈fp,H' b=v9)/\W i n σ' H') ?_ m0 #[0,σ,H2,I2,s_,λb hb=>(f2 b hb).1,w0];rintro n s3⟨i,σ3,H3,I3,J_,Rx,w3⟩;rcases c7 i n σ3 H3 w3 with⟨stop,qn⟩|⟨go,N,hN,step⟩
 .refine Vw hp (thn (T.done X rfl rfl rfl hc i pins s3 σ3 H3 X.xe I3 (n_ Rx) J_ stop) λr s4 b9=>?_);obtain⟨hr,I4⟩:=b9;subst hr;exact VR #[σ3,H3,I4,qn]
 .refine Vw hp (thn (T.item X rfl rfl rfl hc i pins s3 σ3 H3 X.xe I3 (n_ Rx) J_ go) λr s4 b9=>?_);obtain⟨u,hr,h4⟩:=b9;subst hr;refine Vw hp (thn h4 λ_ s5 b9=>?_);obtain⟨x,H5,I5,r5,y5,LC,O8⟩:=b9;have Sw:=I5.pinned (n_ O8) (T.obj _ _ LC);refine Vw hp (thn (hg _ s5 σ3 H5 x u _ Sw r5 (step x H5 y5)) λ_ s6 b9=>?_);obtain⟨σ6,H6,I6,q6⟩:=b9;refine Vw hp (thn (hb _ s6 σ6 H6 _ I6 q6) λf s7 q7=>?_);have again:∀{σ7:St} {H7:Hp},Inv X (pins++gS fp s5.heap) σ7 H7 s7->N σ7 H7->∃m,m<n/\∃i σ' H',Inv X pins σ' H' s7/\tn i s7.heap/\(∀b∈fp,H' b=v9)/\W i m σ' H':=λ{σ7 H7} I7 n7=>by
   obtain⟨m',hm,w7⟩:=hN σ7 H7 n7;refine#[m',hm,i+1,σ7,H7,I7.unpinned,T.keep _ _ _ LC λb hb o e=>(I7.pin (b,o) (Ik _ (Ik _ (eF hb e)))).1,λb hb=>?_,w7];obtain⟨o,e,d⟩:=T.obj _ _ LC b hb;exact(I7.pin (b,o) (Ik _ (Ik _ (eF hb e)))).2.1
  cases f with
  |next=>obtain⟨σ7,H7,I7,n7⟩:=q7;exact again I7 n7
  |cont=>obtain⟨σ7,H7,I7,n7⟩:=q7;exact again I7 n7
  |brk=>obtain⟨σ7,H7,I7,q7⟩:=q7;exact#[σ7,H7,I7.unpinned,q7]
  |ret v=>obtain⟨x7,σ7,H7,I7,r7,q7⟩:=q7;exact#[x7,σ7,H7,I7.unpinned,r7,q7]
end
def kg{g:TG}{tb:TS}{D:Ends}(Pv:Nat->St->Hp->Prop)(h0:Pv 0 σ H)(hl:∀i σ H,i<=xs.length->Pv i σ H->SqL K H a xs)
  (hs:∀i x σ H,xs[i]?=be x->Pv i σ H->g x σ H λσ2 H2=>tb {D with nx:=Pv (i+1),ct:=Pv (i+1),bk:=D.nx} σ2 H2) (hd:∀σ H,Pv xs.length σ H->D.nx σ H):
  ∃W:Nat->Nat->St->Hp->Prop,(∃m,W 0 m σ H)/\∀i m σ H,W i m σ H->
   ((Itl K a).stop i H/\D.nx σ H)\/((Itl K a).go i H/\∃N:St->Hp->Prop,(∀σ' H',N σ' H'->∃m',m'<m/\W (i+1) m' σ' H')/\∀x H',(Itl K a).yld i H x H'->g x σ H' λσ2 H2=>tb {D with nx:=N,ct:=N,bk:=D.nx} σ2 H2):=by
 refine#[λi m σ H=>m=xs.length-i/\i<=xs.length/\Pv i σ H,#[xs.length,MD,Iq _,h0],?_];rintro i m σ H ⟨rfl,hi,p⟩;have q:=hl i σ H hi p;by_cases f9:i<xs.length
 .refine .inr #[#[xs,xs[i],q,by simp[f9]],Pv (i+1),λσ' H' p'=>#[xs.length-(i+1),KK,rfl,f9,p'],λx H' y=>?_];obtain⟨e,y⟩:=y;subst e;exact hs i x σ _ (y xs q) p
 .have e:i=xs.length:=by lia
  subst e;exact .inl #[#[xs,q,HP _],hd σ H p]
def kh{lo:Int}{n:Nat}{g:TG}{tb:TS}{D:Ends}(Pv:Nat->St->Hp->Prop)(h0:Pv 0 σ H)
  (hs:∀i σ H,i<n->Pv i σ H->g (.int (lo+i)) σ H λσ2 H2=>tb {D with nx:=Pv (i+1),ct:=Pv (i+1),bk:=D.nx} σ2 H2) (hd:∀σ H,Pv n σ H->D.nx σ H):
  ∃W:Nat->Nat->St->Hp->Prop,(∃m,W 0 m σ H)/\∀i m σ H,W i m σ H->
   ((Itr lo n).stop i H/\D.nx σ H)\/((Itr lo n).go i H/\∃N:St->Hp->Prop,(∀σ' H',N σ' H'->∃m',m'<m/\W (i+1) m' σ' H')/\∀x H',(Itr lo n).yld i H x H'->g x σ H' λσ2 H2=>tb {D with nx:=N,ct:=N,bk:=D.nx} σ2 H2):=by
 refine#[λi m σ H=>m=n-i/\i<=n/\Pv i σ H,#[n,MD,Iq _,h0],?_];rintro i m σ H ⟨rfl,hi,p⟩;by_cases f9:i<n
 .refine .inr #[f9,Pv (i+1),λσ' H' p'=>#[n-(i+1),KK,rfl,f9,p'],λx H' y=>?_];obtain⟨e,y⟩:=y;subst e y;exact hs i σ _ f9 p
 .have e:i=n:=by lia
  subst e;exact .inl #[HP _,hd σ H p]
abbrev R2:=V->V->Hp->VK->Prop
def OpR(X:Cx)(f:Os->Os->WE Os)(r:R2):Prop:=
 ∀(pins:List (Pi×Vp)) (s:SB) (σ:St) (H:Hp) (x y:V) (v u:Os) (Q:VK),Inv X pins σ H s->RelV x v->RelV y u->r x y H Q->
  U_ (U9 X.prog X.w) X.A (f v u) (EP X pins σ Q) X.xe s
def UnR(X:Cx)(f:Os->WE Os)(r:V->Hp->VK->Prop):Prop:=
 ∀(pins:List (Pi×Vp)) (s:SB) (σ:St) (H:Hp) (x:V) (v:Os) (Q:VK),Inv X pins σ H s->RelV x v->r x H Q->
  U_ (U9 X.prog X.w) X.A (f v) (EP X pins σ Q) X.xe s
def bO(X:Cx)(f:Os)(r:List V->Hp->VK->Prop):Prop:=
 ∀(pins:List (Pi×Vp)) (s:SB) (σ:St) (H:Hp) (xs:List V) (us:List Os) (Q:VK),Inv X pins σ H s->Vals xs us->r xs H Q->
  U_ (U9 X.prog X.w) X.A (call f us) (EP X pins σ Q) X.xe s
def TruR(X:Cx)(r:V->Hp->(Bool->Hp->Prop)->Prop):Prop:=
 ∀(pins:List (Pi×Vp)) (s:SB) (σ:St) (H:Hp) (x:V) (v:Os) (Q:Bool->Hp->Prop),Inv X pins σ H s->RelV x v->r x H Q->
  U_ (U9 X.prog X.w) X.A (truthy v) (TP X pins σ Q) X.xe s
def tOp(r:R2)(ta tb:TE):TE:=λσ H Q=>ta σ H λx H1=>tb σ H1 λy H2=>r x y H2 Q
def tUn(r:V->Hp->VK->Prop)(ta:TE):TE:=λσ H Q=>ta σ H λx H1=>r x H1 Q
def rI(C:Int->Int->Prop)(g:Int->Int->V):R2:=λx y H Q=>∃i j,x=.int i/\y=.int j/\C i j/\Q (g i j) H
def rI0(g:Int->Int->V):R2:=λx y H Q=>∃i j,x=.int i/\y=.int j/\Q (g i j) H
def rU(g:Int->V):V->Hp->VK->Prop:=λx H Q=>∃i,x=.int i/\Q (g i) H
section
variable {X:Cx}{a b c:U8}{ta tb tc:TE}{pos:Vh}
variable{f:Os->Os->WE Os}
def binT(ha:PE X a ta)(hb:PE X b tb){pins:List (Pi×Vp)}{s:SB}{σ:St}{H:Hp}{R:V->V->Hp->Prop}(I:Inv X pins σ H s)
  (h:ta σ H λx H1=>tb σ H1 λy H2=>R x y H2) {Q:Os->SB->Prop} 
  (hf:∀v u s2 x y H2,Inv X pins σ H2 s2->RelV x v->RelV y u->R x y H2->U_ (U9 X.prog X.w) X.A (f v u) Q X.xe s2):
  U_ (U9 X.prog X.w) X.A (Vf a X.env) (λv s₁=>U_ (U9 X.prog X.w) X.A (Vf b X.env) (λu s₂=>U_ (U9 X.prog X.w) X.A (f v u) Q X.xe s₂) X.xe s₁) X.xe s:=by
 refine thn (ha pins s σ H _ I h) λv s1 b9=>?_;obtain⟨x,H1,I1,r1,q1⟩:=b9;refine thn (hb pins s1 σ H1 _ I1 q1) λu s2 b9=>?_;obtain⟨y,H2,I2,r2,q2⟩:=b9;exact hf v u s2 x y H2 I2 r1 r2 q2
def ki{op:Wq}{r:R2}(ho:OpR X (Vv op) r)(ha:PE X a ta)(hb:PE X b tb):PE X (.BinOp a op b pos) (tOp r ta tb):=by
 intro pins s σ H Q I h;exact wpAny_BinOp (binT ha hb I h λv u s2 x y H2 I2 rx ry q=>ho pins s2 σ H2 x y v u Q I2 rx ry q)
def xU{op:UnaryOp}{r:V->Hp->VK->Prop}(ho:UnR X (unaryOp op) r)(ha:PE X a ta):PE X (.UnaryOp op a pos) (tUn r ta):=by
 intro pins s σ H Q I h;exact UnaryOp_ (thn (ha pins s σ H _ I h) λv s1 ⟨x,H1,I1,r1,q1⟩=>ho pins s1 σ H1 x v Q I1 r1 q1)
variable{g:Int->Int->Int}
def opI{C:Int->Int->Prop}
  (rule:∀(i j:Int) (t u:W5) (s:SB) (Q:Os->SB->Prop) (E:Os->SB->Prop),C i j->Q (.int (g i j) s.toks) {s with toks:=s.toks+1}->U_ (U9 X.prog X.w) X.A (f (.int i t) (.int j u)) Q E s):
  OpR X f (rI C λi j=>.int (g i j)):=by
 intro pins s σ H x y v u Q I rx ry h;obtain⟨i,j,rfl,rfl,hc,q⟩:=h;obtain⟨t,rfl⟩:=rx;obtain⟨t',rfl⟩:=ry;exact rule i j t t' s _ _ hc #[.int (g i j),H,I.tok _,#[_,rfl],q]
def opI0
  (rule:∀(i j:Int) (t u:W5) (s:SB) (Q:Os->SB->Prop) (E:Os->SB->Prop),Q (.int (g i j) s.toks) {s with toks:=s.toks+1}->U_ (U9 X.prog X.w) X.A (f (.int i t) (.int j u)) Q E s):
  OpR X f (rI0 λi j=>.int (g i j)):=by
 intro pins s σ H x y v u Q I rx ry h;obtain⟨i,j,rfl,rfl,q⟩:=h;obtain⟨t,rfl⟩:=rx;obtain⟨t',rfl⟩:=ry;exact rule i j t t' s _ _ #[.int (g i j),H,I.tok _,#[_,rfl],q]
def opB0{g:Int->Int->Bool}
  (rule:∀(i j:Int) (t u:W5) (s:SB) (Q:Os->SB->Prop) (E:Os->SB->Prop),Q (.bool (g i j)) s->U_ (U9 X.prog X.w) X.A (f (.int i t) (.int j u)) Q E s):
  OpR X f (rI0 λi j=>.bl (g i j)):=by
 intro pins s σ H x y v u Q I rx ry h;obtain⟨i,j,rfl,rfl,q⟩:=h;obtain⟨t,rfl⟩:=rx;obtain⟨t',rfl⟩:=ry;exact rule i j t t' s _ _ #[.bl (g i j),H,I,rfl,q]
def CDiv(i j:Int):Prop:=0<j/\j<1073741824
def CMul(i j:Int):Prop:=(-(2^64)<i/\i<2^64)\/(-(2^64)<j/\j<2^64)
def CMul.ok{i j:Int}(h:CMul i j):IntMulOk i j:=by
 rcases h with⟨h1,h2⟩|⟨h1,h2⟩
 .exact .of_left (intBits_le_64 h1 h2)
 .exact .of_right (intBits_le_64 h1 h2)
def xV:OpR X (Vv .Add) (rI0 λi j=>.int (i+j)):=opI0 λ_ _ _ _ _ _ _ q=>add_int q
def rN:OpR X (Vv .Sub) (rI0 λi j=>.int (i-j)):=opI0 λ_ _ _ _ _ _ _ q=>sub_int q
def xW:OpR X (Vv .Mult) (rI CMul λi j=>.int (i*j)):=opI λ_ _ _ _ _ _ _ hc q=>mul_int q hc.ok
def xX:OpR X (Vv .FloorDiv) (rI CDiv λi j=>.int (i/j)):=opI λi j _ _ _ _ _ hc q=>by
 have h1:(0:Int)<j:=hc.1;have h2:j<1073741824:=hc.2;exact floordiv_int KK (by rw[Int.fdiv_eq_ediv_of_nonneg i KK];exact q) (.inl (PyProof.noPylong_small KK))
def xY:OpR X (Vv .Mod) (rI (λ_ j=>0<j) λi j=>.int (i%j)):=opI λi j _ _ _ _ _ hc q=>by
 have h1:(0:Int)<j:=hc;exact mod_int' KK (by rw[Int.fmod_eq_emod_of_nonneg i KK];exact q)
def xZ:OpR X (Vv .Mod) (rI (λ_ j=>j≠0) λi j=>.int (i.fmod j)):=opI λ_ _ _ _ _ _ _ hc q=>mod_int' hc q
def unI{f:Os->WE Os}{g:Int->Int}
  (rule:∀(i:Int) (t:W5) (s:SB) (Q:Os->SB->Prop) (E:Os->SB->Prop),Q (.int (g i) s.toks) {s with toks:=s.toks+1}->U_ (U9 X.prog X.w) X.A (f (.int i t)) Q E s):
  UnR X f (rU λi=>.int (g i)):=by
 intro pins s σ H x v Q I rx h;obtain⟨i,rfl,q⟩:=h;obtain⟨t,rfl⟩:=rx;exact rule i t s _ _ #[.int (g i),H,I.tok _,#[_,rfl],q]
def ya:UnR X (unaryOp .USub) (rU λi=>.int (-i)):=unI λ_ _ _ _ _ q=>neg_int q
end
def scal:V->V->Bool
 |.non,.non=>true|.non,.int _=>true|.int _,.non=>true|.non,.bl _=>true|.bl _,.non=>true|.non,.str _=>true|.str _,.non=>true
 |.int _,.int _=>true|.bl _,.bl _=>true|.str _,.str _=>true|.byt _,.byt _=>true
 |.int _,.str _=>true|.str _,.int _=>true|.bl _,.str _=>true|.str _,.bl _=>true
 |_,_=>false
def rEq:R2:=λx y H Q=>scal x y=true/\Q (.bl (decide (x=y))) H
def rNe:R2:=λx y H Q=>scal x y=true/\Q (.bl (!decide (x=y))) H
def rO{i j:Int}:decide (V.int i=V.int j)=(i==j):=by
 rw[JN];simp
def rP{i j:Bool}:decide (V.bl i=V.bl j)=(i==j):=by
 rw[JN];simp
def rQ{i j:LB}:decide (V.str i=V.str j)=(i==j):=by
 rw[JN];simp
def rR{i j:Array UInt8}:decide (V.byt i=V.byt j)=(i.toList==j.toList):=by
 rw[JN];cases i;cases j;simp
section
variable {X:Cx}{a b c:U8}{ta tb tc:TE}{pos:Vh}
def aS{pins:List (Pi×Vp)}{σ:St}{H:Hp}{s:SB}{Q:VK}{k k':Bool}(I:Inv X pins σ H s)(q:Q (.bl k) H)(e:k=k'):EP X pins σ Q (.bool k') s:=by
 subst e;exact#[.bl k,H,I,rfl,q]
def kj:OpR X (Vi .Eq) rEq:=by
 intro pins s σ H x y v u Q I rx ry h;obtain⟨hs,q⟩:=h;cases x with
 |non=>
  cases rx;cases y with
  |non=>cases ry;exact PySem.EqNone.eq_none_none (aS I q MD)
  |bl j=>cases ry;exact PySem.EqNone.eq_none_bool (aS I q MD)
  |int j=>obtain⟨t',rfl⟩:=ry;exact PySem.EqNone.eq_none_int (aS I q MD)
  |str j=>obtain⟨t',rfl⟩:=ry;exact PySem.EqNone.eq_none_str (aS I q MD)
  |_=>exact absurd (show false=true from hs) Ie
 |bl i=>
  cases rx;cases y with
  |non=>cases ry;exact PySem.EqNone.eq_bool_none (aS I q MD)
  |bl j=>cases ry;exact eq_bool (aS I q rP)
  |str j=>obtain⟨t',rfl⟩:=ry;exact PySem.EqMixed.eq_bool_str (aS I q MD)
  |_=>exact absurd (show false=true from hs) Ie
 |int i=>
  obtain⟨t,rfl⟩:=rx;cases y with
  |non=>cases ry;exact PySem.EqNone.eq_int_none (aS I q MD)
  |int j=>obtain⟨t',rfl⟩:=ry;exact eq_int (aS I q rO)
  |str j=>obtain⟨t',rfl⟩:=ry;exact PySem.EqMixed.eq_int_str (aS I q MD)
  |_=>exact absurd (show false=true from hs) Ie
 |str i=>
  obtain⟨t,rfl⟩:=rx;cases y with
  |non=>cases ry;exact PySem.EqNone.eq_str_none (aS I q MD)
  |bl j=>cases ry;exact PySem.EqMixed.eq_str_bool (aS I q MD)
  |int j=>obtain⟨t',rfl⟩:=ry;exact PySem.EqMixed.eq_str_int (aS I q MD)
  |str j=>obtain⟨t',rfl⟩:=ry;exact eq_str (aS I q rQ)
  |_=>exact absurd (show false=true from hs) Ie
 |byt i=>
  obtain⟨t,rfl⟩:=rx;cases y with
  |byt j=>obtain⟨t',rfl⟩:=ry;exact eq_bytes (aS I q rR)
  |_=>exact absurd (show false=true from hs) Ie
 |_=>cases y<;>exact absurd (show false=true from hs) Ie
def rS:OpR X (Vi .NotEq) rNe:=by
 intro pins s σ H x y v u Q I rx ry h;obtain⟨hs,q⟩:=h;cases x with
 |non=>
  cases rx;cases y with
  |non=>cases ry;exact PySem.EqNone.ne_none_none (aS I q MD)
  |bl j=>cases ry;exact PySem.EqNone.ne_none_bool (aS I q MD)
  |int j=>obtain⟨t',rfl⟩:=ry;exact PySem.EqNone.ne_none_int (aS I q MD)
  |str j=>obtain⟨t',rfl⟩:=ry;exact PySem.EqNone.ne_none_str (aS I q MD)
  |_=>exact absurd (show false=true from hs) Ie
 |bl i=>
  cases rx;cases y with
  |non=>cases ry;exact PySem.EqNone.ne_bool_none (aS I q MD)
  |bl j=>cases ry;exact ne_bool (aS I q (congrArg not rP))
  |str j=>obtain⟨t',rfl⟩:=ry;exact PySem.EqMixed.ne_bool_str (aS I q MD)
  |_=>exact absurd (show false=true from hs) Ie
 |int i=>
  obtain⟨t,rfl⟩:=rx;cases y with
  |non=>cases ry;exact PySem.EqNone.ne_int_none (aS I q MD)
  |int j=>obtain⟨t',rfl⟩:=ry;exact ne_int (aS I q (congrArg not rO))
  |str j=>obtain⟨t',rfl⟩:=ry;exact PySem.EqMixed.ne_int_str (aS I q MD)
  |_=>exact absurd (show false=true from hs) Ie
 |str i=>
  obtain⟨t,rfl⟩:=rx;cases y with
  |non=>cases ry;exact PySem.EqNone.ne_str_none (aS I q MD)
  |bl j=>cases ry;exact PySem.EqMixed.ne_str_bool (aS I q MD)
  |int j=>obtain⟨t',rfl⟩:=ry;exact PySem.EqMixed.ne_str_int (aS I q MD)
  |str j=>obtain⟨t',rfl⟩:=ry;exact ne_str (aS I q (congrArg not rQ))
  |_=>exact absurd (show false=true from hs) Ie
 |byt i=>
  obtain⟨t,rfl⟩:=rx;cases y with
  |byt j=>obtain⟨t',rfl⟩:=ry;exact ne_bytes (aS I q (congrArg not rR))
  |_=>exact absurd (show false=true from hs) Ie
 |_=>cases y<;>exact absurd (show false=true from hs) Ie
def rT:OpR X (Vi .Lt) (rI0 λi j=>.bl (decide (i<j))):=opB0 λ_ _ _ _ _ _ _ q=>lt_int q
def yb:OpR X (Vi .LtE) (rI0 λi j=>.bl (decide (i<=j))):=opB0 λ_ _ _ _ _ _ _ q=>le_int q
def km:OpR X (Vi .Gt) (rI0 λi j=>.bl (decide (j<i))):=opB0 λ_ _ _ _ _ _ _ q=>gt_int q
def yc:OpR X (Vi .GtE) (rI0 λi j=>.bl (decide (j<=i))):=opB0 λ_ _ _ _ _ _ _ q=>ge_int q
def ko:OpR X (Vi .Is) (λx y H Q=>y=.non/\Q (.bl (decide (x=.non))) H):=by
 intro pins s σ H x y v u Q I rx ry h;obtain⟨rfl,q⟩:=h;cases ry;refine is_none_gen (aS I q ?_);cases x<;>first
  |(cases rx;rfl)
  |(obtain⟨t,rfl⟩:=rx;rfl)
def yd:OpR X (Vi .IsNot) (λx y H Q=>y=.non/\Q (.bl (!decide (x=.non))) H):=by
 intro pins s σ H x y v u Q I rx ry h;obtain⟨rfl,q⟩:=h;cases ry;refine isnot_none_gen (aS I q ?_);cases x<;>first
  |(cases rx;rfl)
  |(obtain⟨t,rfl⟩:=rx;rfl)
variable{r:R2}
def OpR.or{f:Os->Os->WE Os}{r':R2}(h:OpR X f r)(h':OpR X f r'):OpR X f (λx y H Q=>r x y H Q\/r' x y H Q):=by
 intro pins s σ H x y v u Q I rx ry q;rcases q with q|q
 .exact h pins s σ H x y v u Q I rx ry q
 .exact h' pins s σ H x y v u Q I rx ry q
variable{op:WO}
def nomark(b:U8)(h:autoParam (op≠.In) zA1)(h2:autoParam (op≠.NotIn) zA1):Vu op b=false:=by
 have e1:(op==CmpOp.In)=false:=by cases op<;>first|rfl|exact absurd rfl h
 have e2:(op==CmpOp.NotIn)=false:=by cases op<;>first|rfl|exact absurd rfl h2
 cases b<;>simp[Vu,e1,e2]
def rV(ho:OpR X (Vi op) r)(ha:PE X a ta)(hb:PE X b tb)(hm:Vu op b=false):PE X (.Compare a [op] [b] pos) (tOp r ta tb):=by
 intro pins s σ H Q I h;exact wpAny_Compare1 (binT ha hb I h λv u s2 x y H2 I2 rx ry q=>ho pins s2 σ H2 x y v u Q I2 rx ry q) hm
def ye(t:TE):TT:=λσ H Q=>t σ H λx H'=>∃k,x=.bl k/\Q k H'
def kq(ho:OpR X (Vi op) r)(ha:PE X a ta)(hb:PE X b tb)(hm:Vu op b=false):PT X (.Compare a [op] [b] pos) (ye (tOp r ta tb)):=by
 intro pins s σ H Q I h;refine wpAny_isTrue_Compare1 (thn (ha pins s σ H _ I h) λv s1 ⟨x,H1,I1,r1,q1⟩=>thn (hb pins s1 σ H1 _ I1 q1) λu s2 ⟨y,H2,I2,r2,q2⟩=>
  thn (ho pins s2 σ H2 x y v u _ I2 r1 r2 q2) λc s3 hh=>?_) hm
 obtain⟨z,H3,I3,r3,k,e,q3⟩:=hh;subst e;cases r3;exact VV #[H3,I3,q3]
def TruV(K:Ex)(x:V)(H:Hp)(k:Bool):Prop:=
 match x with
 |.non=>k=false
 |.bl b=>k=b
 |.int i=>k=(i !=0)
 |.str y=>y.length<=sizeLine/\k=((y.length:Int) !=0)
 |.byt y=>y.size<=sizeLine/\k=((y.size:Int) !=0)
 |.ref p=>(∃xs,SqL K H p xs/\k=!xs.isEmpty)\/(∃xs,SqT K H p xs/\k=!xs.isEmpty)\/∃a9,H p=be (.dK a9)/\k=!a9.isEmpty
 |_=>False
def yf{κ:Type}{a9:List (κ×V)}{vs:List (κ×Os)}(r:KV a9 vs):(!vs.isEmpty)=!a9.isEmpty:=by
 cases r<;>rfl
def isEmpty_of{xs:List V}{its:List Os}(r:Vals xs its):(!its.toArray.isEmpty)=!xs.isEmpty:=by
 cases r<;>simp
def line63:(sizeLine:Nat)<2^63:=by rw[VX];decide
def yg:TruR X (λx H Q=>∃k,TruV X.K x H k/\Q k H):=by
 intro pins s σ H x v Q I rx h;obtain⟨k,e,q⟩:=h;have hl:=line63;have hs:sizeLine=16777216:=VX;cases x with
 |non=>
  cases rx;have e':k=false:=e;subst e';exact truthy_none #[H,I,q]
 |bl b=>
  cases rx;have e':k=b:=e;subst e';exact VV #[H,I,q]
 |int i=>
  obtain⟨t,rfl⟩:=rx;have e':k=(i !=0):=e;subst e';exact PySem.P.truthy_int #[H,I,q]
 |str y=>
  obtain⟨t,rfl⟩:=rx;obtain⟨hy,e'⟩:y.length<=sizeLine/\k=((y.length:Int) !=0):=e;subst e';exact PySem.P.truthy_str KK #[H,I.tok _,q]
 |byt y=>
  obtain⟨t,rfl⟩:=rx;obtain⟨hy,e'⟩:y.size<=sizeLine/\k=((y.size:Int) !=0):=e;subst e';exact truthy_bytes KK #[H,I.tok _,q]
 |ref p=>
  cases rx;have e':(∃xs,SqL X.K H p xs/\k=!xs.isEmpty)\/(∃xs,SqT X.K H p xs/\k=!xs.isEmpty)\/∃a9,H p=be (.dK a9)/\k=!a9.isEmpty:=e;rcases e' with⟨xs,hx,e'⟩|⟨xs,hx,e'⟩|⟨a9,hx,e'⟩
  .subst e';obtain⟨its,r,pl,hz⟩:=I.list hx;have b8:=r.length;exact wpAny_truthy_list pl.isList (by simp only[HY];lia) #[H,I.tok _,by rw[isEmpty_of r];exact q]
  .subst e';obtain⟨its,r,pl,hz⟩:=I.tuple hx;have b8:=r.length;exact truthy_tuple pl (by simp only[HY];lia) #[H,I.tok _,by rw[isEmpty_of r];exact q]
  .subst e';obtain⟨hz,hS,vs,r,m⟩:a9.length<=sizeLine/\(p==Vx)=false/\∃vs,KV a9 vs/\s.heap.DictOf (bN X.prog X.w) p vs:=I.hok p _ hx;have b8:a9.length=vs.length:=Paired.length r;exact wpAny_truthy_dict hS m KK #[H,I.tok _,by rw[yf r];exact q]
 |_=>exact(show False from e).elim
def rW(ha:PE X a ta)(he:∀f7,isTrue a X.env f7=(do let v <-f7;VT a.pos;Vy [v] (truthy v))):
  PT X a (λσ H Q=>ta σ H λx H'=>∃k,TruV X.K x H' k/\Q k H'):=by
 intro pins s σ H Q I h;exact isTrue_plain (thn (ha pins s σ H _ I h) λv s1 ⟨x,H1,I1,r1,q1⟩=>yg pins s1 σ H1 x v Q I1 r1 q1) (he _)
def yh:OpR X (Vv .Add) (λx y H Q=>∃i j,x=.str i/\y=.str j/\i.length+j.length<=sizeLine/\Q (.str (i++j)) H):=by
 intro pins s σ H x y v u Q I rx ry h;obtain⟨i,j,rfl,rfl,hz,q⟩:=h;obtain⟨t,rfl⟩:=rx;obtain⟨t',rfl⟩:=ry;exact add_str (λt' tk=>#[.str (i++j),H,I.tok _,#[_,rfl],q]) hz
variable{us:List Os}
def cb{x:V}(r:Vals [x] us):∃u,us=[u]/\RelV x u:=by
 cases r with
 |cons r1 r2=>cases r2;exact#[_,rfl,r1]
def fN{x y:V}(r:Vals [x,y] us):∃u w',us=[u,w']/\RelV x u/\RelV y w':=by
 cases r with
 |cons r1 r2=>
  cases r2 with
  |cons r3 r4=>cases r4;exact#[_,_,rfl,r1,r3]
def yi:bO X (.builtin "abs") (λxs H Q=>∃i,xs=[.int i]/\Q (.int (if i<0 then -i else i)) H):=by
 intro pins s σ H xs us Q I r h;obtain⟨i,rfl,q⟩:=h;obtain⟨u,rfl,t,rfl⟩:=cb r;exact call_abs_int λu tk=>#[.int (if i<0 then -i else i),H,I.tok _,#[_,rfl],q]
def yj(hc:X.calm=true):bO X (.builtin "max") (λxs H Q=>∃i j,xs=[.int i,.int j]/\Q (.int (if j>i then j else i)) H):=by
 intro pins s σ H xs us Q I r h;obtain⟨i,j,rfl,q⟩:=h;obtain⟨u,w',rfl,⟨t,rfl⟩,⟨t',rfl⟩⟩:=fN r;refine max_two_ints (I.ok.hd hc) λh' tk k=>#[_,H,I.kept k,?_,q];by_cases hj:j>i
 .rw[if_pos hj,if_pos hj];exact#[_,rfl]
 .rw[if_neg hj,if_neg hj];exact#[_,rfl]
def yk(hc:X.calm=true):bO X (.builtin "min") (λxs H Q=>∃i j,xs=[.int i,.int j]/\Q (.int (if j<i then j else i)) H):=by
 intro pins s σ H xs us Q I r h;obtain⟨i,j,rfl,q⟩:=h;obtain⟨u,w',rfl,⟨t,rfl⟩,⟨t',rfl⟩⟩:=fN r;refine min_two_ints (I.ok.hd hc) λh' tk k=>#[_,H,I.kept k,?_,q];by_cases hj:j<i
 .rw[if_pos hj,if_pos hj];exact#[_,rfl]
 .rw[if_neg hj,if_neg hj];exact#[_,rfl]
def yl:bO X (.type "int") (λxs H Q=>(∃i,xs=[.int i]/\Q (.int i) H)\/∃k,xs=[.bl k]/\Q (.int (if k then 1 else 0)) H):=by
 intro pins s σ H xs us Q I r h;rcases h with⟨i,rfl,q⟩|⟨k,rfl,q⟩
 .obtain⟨u,rfl,t,rfl⟩:=cb r;exact call_int_int #[.int i,H,I,#[_,rfl],q]
 .obtain⟨u,rfl,r1⟩:=cb r;cases r1;exact call_int_bool #[.int (if k then 1 else 0),H,I.tok _,#[_,rfl],q]
def ym:bO X (.type "str") (λxs H Q=>∃i,xs=[.int i]/\i.natAbs.log2<1920/\Q (.str (toString i)) H):=by
 intro pins s σ H xs us Q I r h;obtain⟨i,rfl,hz,q⟩:=h;obtain⟨u,rfl,t,rfl⟩:=cb r;exact PySem.P.str_of_int hz #[.str _,H,I.tok _,#[_,rfl],q]
def LenV(K:Ex)(x:V)(H:Hp)(n:Nat):Prop:=
 match x with
 |.str y=>y.length<=sizeLine/\n=y.length
 |.byt y=>y.size<=sizeLine/\n=y.size
 |.ref p=>(∃xs,SqL K H p xs/\n=xs.length)\/∃xs,SqT K H p xs/\n=xs.length
 |_=>False
def kr:bO X (.builtin "len") (λxs H Q=>∃x n,xs=[x]/\LenV X.K x H n/\Q (.int n) H):=by
 intro pins s σ H xs us Q I r h;obtain⟨x,n,rfl,e,q⟩:=h;obtain⟨u,rfl,rx⟩:=cb r;have hl:=line63;have hs:sizeLine=16777216:=VX;cases x with
 |str y=>
  obtain⟨t,rfl⟩:=rx;obtain⟨hy,e'⟩:y.length<=sizeLine/\n=y.length:=e;subst e';exact len_str KK #[.int _,H,I.tok _,#[_,rfl],q]
 |byt y=>
  obtain⟨t,rfl⟩:=rx;obtain⟨hy,e'⟩:y.size<=sizeLine/\n=y.size:=e;subst e';exact len_bytes KK #[.int _,H,I.tok _,#[_,rfl],q]
 |ref p=>
  cases rx;have e':(∃xs,SqL X.K H p xs/\n=xs.length)\/∃xs,SqT X.K H p xs/\n=xs.length:=e;rcases e' with⟨xs,hx,e'⟩|⟨xs,hx,e'⟩
  .subst e';obtain⟨its,r',pl,hz⟩:=I.list hx;have b8:=r'.length;exact Calls.call_len_list pl.isList (by simp only[HY];lia) #[.int xs.length,H,I.tok _,#[_,by simp only[HY];rw[b8]],q]
  .subst e';obtain⟨its,r',pl,hz⟩:=I.tuple hx;have b8:=r'.length;exact len_tuple pl (by simp only[HY];lia) #[.int xs.length,H,I.tok _,#[_,by simp only[HY];rw[b8]],q]
 |_=>exact(show False from e).elim
end
structure ObjM(h:Heap)(x dx C:Pi)(mA:Str->Option Os):Prop where
 obj:h.get? x=be (instObj C dx)
 ns:h.Ns1 dx mA
 ne:dx≠x
variable{mA:LB->Option Os}
def rX{dx:Pi}(n:h.Ns1 dx mA):∃od,h.get? dx=be od/\∀name,lookIn name od=be (mA name):=by
 obtain⟨o,es,ep,ho,hd,hk,_,hm⟩:=n;refine#[o,ho,λname=>?_];have e:=hm name;unfold nsFind findBy at e;rw[<-Array.find?_toList]at e;unfold lookIn;rw[hd];dsimp only;split
 .rename_i y q;rw[q]at e;exact congrArg be e
 .rename_i q;rw[q]at e;have a:es.toList.any (·.refKey)=false:=by
   rw[List.any_eq_false];intro y hy;obtain⟨z,t,o6⟩:=hk y (Array.mem_toList_iff.mp hy);simp[DictEntry.refKey,o6]
  have a':¬es.toList.any (·.refKey)=true:=by rw[a];exact Ie
  rw[if_neg a'];exact congrArg be e
variable{C:Pi}
def ObjM.look{x dx:Pi}(I:ObjM h x dx C mA):∃od,PySem.W.InstAt h x (instObj C dx) C (be od)/\∀name,lookIn name od=be (mA name):=
 let ⟨od,ho,hl⟩:=rX I.ns
 #[od,#[I.obj,rfl,rfl,ho],hl]
section
variable {prog:U'}{w:Va}{A:Vb}{E:Os->SB->Prop}{s:SB}{K:Ex}{x dx C f:Pi}{mA:LB->Option Os}{name:LB}{v:Os}
def yn{z6:Bool}{Q:Os->SB->Prop}(X:K.In s.heap)(I:ObjM s.heap x dx C mA)(hg:plainGet K C name=true)(hh:hasDictIn K C=true)
  (ha:HW K (.ref C) name=be v9) (hv:mA name=be v) (Sx:Kx v=true) (h:Q v {s with toks:=s.toks+1}):
  U_ (U9 prog w) A (WB (.ref x) name z6) Q E s:=by
 obtain⟨od,J,hl⟩:=I.look;exact get_value X J (plainGet_of hg).1 (findObj_own hh ha rfl (by rw[hl,hv])) Sx h
def yo{pl:WE Bool}{Q:Os×List Os->SB->Prop}(X:K.In s.heap)(I:ObjM s.heap x dx C mA)(hg:plainGet K C name=true)
  (hf:HW K (.ref C) name=be (be (.ref f))) (ht:isFn K (.ref f)=true) (hv:mA name=v9) (h:Q (.ref f,[.ref x]) s):
  U_ (U9 prog w) A (V8 (.ref x) name pl) Q E s:=by
 obtain⟨od,J,hl⟩:=I.look;exact method_fn X J (plainGet_of hg).1 (plainGet_of hg).2 hf (beq_iff_eq.mp ht) (by show(lookIn name od).map (·.isSome)=be false;rw[hl,hv];rfl) h
def yp{ns:List LB}{Q:Unit->SB->Prop}(X:K.In s.heap)(I:ObjM s.heap x dx C mA)
  (hs:HW K (.ref C) "__setattr__"=be (be (.builtin "object.__setattr__"))) (hp:plainOver K C=true) (ht:takerIn K C name=be v9) (hh:hasDictIn K C=true)
  (hw:PySem.Within mA ns) (j7:ns.length<=sizeLine)
  (h:∀h',ObjM h' x dx C (λy=>if y=name then be v else mA y)->Heap.SameBut dx s.heap h'->Q () {s with heap:=h',toks:=s.toks+2}):
  U_ (U9 prog w) A (W0 (.ref x) name v) Q E s:=by
 obtain⟨od,J,hl⟩:=I.look;refine PySem.W.set_plain X J hs (osa_open (s:={s with toks:=s.toks+1}) (r:=v9) X J hp ht λb=>?_);obtain⟨cd,hc,f6⟩:=any_some hh;have hx:s.heap.get? x=be #[.ref C,be dx,.plain,[].toArray]:=I.obj;refine P3 (SZ (P3 (P3 (Wl hx (P3 (PySem.W.Looks.here (s:={s with toks:=s.toks+1}) (PySem.W.looks_clsIn X hc) ?_))))));rw[f6];refine SZ (a:=be dx) (P3 (SZ (P3 ?_)));refine Ww (s:={s with toks:=s.toks+1}) I.ns λh' K' l8=>?_;obtain⟨oD,Ry,Rz,NC,ND,NE⟩:=K'.count (PySem.Within.cons name v hw);refine P3 (Wd NC (by rw[ND];exact Wg (H8 NE (by rw[HX];lia))) ?_);exact SZ (h _ #[(l8.2 _ (Ne.symm I.ne)).trans I.obj,K',I.ne] l8)
def yq{R:Result->SB->Prop}{vs:List Os}{kw:List (LB×Os)}(X:K.In s.heap)(hm:makesIn K C=true)
  (hi:HW K (.ref C) "__init__"=be (be (.ref f))) (hf:PySem.W.typeIn K (.ref f)=be (.type "function"))
  (h:V9 (U9 prog w) (A.under (.builtin "type.__call__" #[.ref C::vs,kw])) (.call (.ref f) #[.ref (s.heap.objs.size+1)::vs,kw]) (InitBack (s.heap.objs.size+1) R)
   {s with heap:=(s.heap.push emptyDict).push (instObj C s.heap.objs.size)}):
  V9 (U9 prog w) A (.call (.ref C) #[vs,kw]) R s:=by
 obtain⟨hh,g,d,t,os⟩:=s;exact make_core (makes_of X hm) (PySem.W.looks_findIn X hi) (λself=>PySem.W.bind_fn X self hf) (.inl rfl) h
end
def putF(f:LB)(v:V):List (LB×V)->List (LB×V)
 |[]=>[(f,v)]
 |(g,x)::r=>if g=f then(g,v)::r else(g,x)::putF f v r
def rY(f g:LB)(v:V):∀fs:List (LB×V),(putF f v fs).lookup g=if g=f then be v else fs.lookup g
 |[]=>by
  show Jb g [(f,v)]=_;by_cases h:g=f
  .have hb:(g==f)=true:=beq_iff_eq.mpr h;simp only[Jb,hb,if_pos h]
  .have hb:(g==f)=false:=beq_eq_false_iff_ne.mpr h;simp only[Jb,hb,if_neg h]
 |(k,x)::r=>by
  have ih:=rY f g v r;rw[show putF f v ((k,x)::r)=(if k=f then(k,v)::r else(k,x)::putF f v r)from rfl];by_cases hk:k=f
  .rw[if_pos hk];by_cases h:g=k
   .have hb:(g==k)=true:=beq_iff_eq.mpr h;simp only[Jb,hb,if_pos (h.trans hk)]
   .have hb:(g==k)=false:=beq_eq_false_iff_ne.mpr h;simp only[Jb,hb,if_neg (λe:g=f=>h (e.trans hk.symm))]
  .rw[if_neg hk];by_cases h:g=k
   .have hb:(g==k)=true:=beq_iff_eq.mpr h;simp only[Jb,hb,if_neg (λe:g=f=>hk (h.symm.trans e))]
   .have hb:(g==k)=false:=beq_eq_false_iff_ne.mpr h;simp only[Jb,hb];exact ih
def ku(f:LB)(v:V):∀fs:List (LB×V),f∈(putF f v fs).map (·.1)/\∀g,g∈fs.map (·.1)->g∈(putF f v fs).map (·.1)
 |[]=>#[by simp[putF],λg h=>by simp at h]
 |(k,x)::r=>by
  obtain⟨i1,i2⟩:=ku f v r;rw[show putF f v ((k,x)::r)=(if k=f then(k,v)::r else(k,x)::putF f v r)from rfl];by_cases hk:k=f
  .rw[if_pos hk];subst hk;exact#[MD,λg h=>by simpa using h]
  .rw[if_neg hk];refine#[?_,λg h=>?_]
   .rw[Il];exact HS _ i1
   .rw[Il]at h ⊢;rcases HQ.mp h with e|e
    .exact HQ.mpr (.inl e)
    .exact HS _ (i2 g e)
def rZ(f:LB)(v:V):∀fs:List (LB×V),(putF f v fs).length<=fs.length+1
 |[]=>by simp[putF]
 |(k,x)::r=>by
  have ih:=rZ f v r;rw[show putF f v ((k,x)::r)=(if k=f then(k,v)::r else(k,x)::putF f v r)from rfl];by_cases hk:k=f
  .rw[if_pos hk,HX,HX];lia
  .rw[if_neg hk,HX,HX];lia
def RelO.some_of{v:V}{o:Option Os}(r:RelO (be v) o):∃u,o=be u/\RelV v u:=by
 cases o with
 |none=>exact(show False from r).elim
 |some u=>exact#[u,rfl,r]
def RelO.none_of{o:Option Os}(r:RelO v9 o):o=none:=by
 cases o with
 |none=>rfl
 |some u=>exact(show False from r).elim
def se{v:V}(r:RelV v u):Kx u=true:=by
 cases v with
 |non=>cases(show u=Value.none from r);rfl
 |bl b=>cases(show u=Value.bool b from r);rfl
 |int i=>obtain⟨t,e⟩:=(show ∃t,u=Value.int i t from r);cases e;rfl
 |str x=>obtain⟨t,e⟩:=(show ∃t,u=Value.str x t from r);cases e;rfl
 |byt b=>obtain⟨t,e⟩:=(show ∃t,u=Value.bytes b t from r);cases e;rfl
 |flt b=>obtain⟨t,e⟩:=(show ∃t,u=Value.float b t from r);cases e;rfl
 |ref a=>cases(show u=Value.ref a from r);rfl
 |ty n=>cases(show u=Value.type n from r);rfl
section
variable {P:U'}{w:Va}{H H':Hp}{h h':Heap}{a C dx:Pi}{fs l7:List (LB×V)}
def gT(hok:HOk P w H h)(e:H a=be (.ins C dx fs)):∃mA,ObjM h a dx C mA/\(∀f,RelO (fs.lookup f) (mA f))/\PySem.Within mA (fs.map (·.1))/\fs.length<=1000/\H dx=be (.own a):=by
 obtain⟨d,z,ne,ob,mA,n,r,q⟩:=(show ObjOk P w H h a (.ins C dx fs)from hok a _ e);exact#[mA,#[ob,n,ne],r,q,z,d]
end
structure Cls(K:Ex)(C:Pi):Prop where
 pg:plainGet K C Str.empty=true
 hd:hasDictIn K C=true
 po:plainOver K C=true
 sa:HW K (.ref C) "__setattr__"=be (be (.builtin "object.__setattr__"))
def Cls.get(c:Cls K C)(f:LB):plainGet K C f=true:=c.pg
def NoAttr(K:Ex)(C:Pi)(f:LB):Prop:=HW K (.ref C) f=be v9
def NoAttr.taker{f:LB}(n:NoAttr K C f):takerIn K C f=be none:=by
 unfold takerIn;rw[show HW K (.ref C) f=be v9 from n];rfl
structure Meth(K:Ex)(C:Pi)(m:Str)(f:Pi):Prop where
 at_:HW K (.ref C) m=be (be (.ref f))
 fn:isFn K (.ref f)=true
 kp:keepIn K (.ref f)=true
section
variable {X:Cx}{pins:List (Pi×Vp)}{σ:St}{H:Hp}{s:SB}{a C dx:Pi}{fs:List (LB×V)}{f:LB}{v:V}{A:Vb}{E:Os->SB->Prop}
variable{Q:Os->SB->Prop}
def yr{b:Bool}(I:Inv X pins σ H s)(e:H a=be (.ins C dx fs))(c:Cls X.K C)(n:NoAttr X.K C f)(l:fs.lookup f=be v)
  (h:∀u s',Inv X pins σ H s'->RelV v u->Q u s'):U_ (U9 X.prog X.w) A (WB (.ref a) f b) Q E s:=by
 obtain⟨mA,O,r,_,_,_⟩:=gT I.hok e;obtain⟨u,hu,ru⟩:=RelO.some_of (v:=v) (o:=mA f) (by rw[<-l];exact r f);exact yn I.kIn O (c.get f) c.hd n hu (se ru) (h u _ (I.tok _) ru)
def ky{m:LB}{g:Pi}{pl:WE Bool}{Q:Os×List Os->SB->Prop}(I:Inv X pins σ H s)(e:H a=be (.ins C dx fs))(c:Cls X.K C)(k:Meth X.K C m g)(l:fs.lookup m=v9)
  (h:Q (.ref g,[.ref a]) s):U_ (U9 X.prog X.w) A (V8 (.ref a) m pl) Q E s:=by
 obtain⟨mA,O,r,_,_,_⟩:=gT I.hok e;have hn:mA m=none:=RelO.none_of (by rw[<-l];exact r m);exact yo I.kIn O (c.get m) k.at_ k.fn hn h
def yt{y:V}{u:Os}{Q:Unit->SB->Prop}(I:Inv X pins σ H s)(e:H a=be (.ins C dx fs))(c:Cls X.K C)(n:NoAttr X.K C f)(hl:fs.length<1000)(ry:RelV y u)
  (h:∀s',Inv X pins σ (upd H a (.ins C dx (putF f y fs))) s'->Q () s'):U_ (U9 X.prog X.w) A (W0 (.ref a) f u) Q E s:=by
 obtain⟨mA,O,r,wi,_,ho⟩:=gT I.hok e;have hz:(fs.map (·.1)).length<=sizeLine:=by rw[HR,VX];lia
 refine yp I.kIn O c.sa c.po n.taker c.hd wi hz λh' O' sb=>h _ ?_;have hd:∃o,h'.get? dx=be o:=let ⟨o,_,_,e',_⟩:=O'.ns;#[o,e']
 refine I.write (x:=a) (e:=dx) (by rw[e];exact True.intro) (.inr ho) (λb q hb z=>(sb.2 b hb).trans z) hd ?_;refine#[by rw[ar O.ne];exact ho,?_,O.ne,O'.obj,_,O'.ns,λg=>?_,λg hg=>?_]
 .have:=rZ f y fs;lia
 .show RelO ((putF f y fs).lookup g) (if g=f then be u else mA g);rw[rY];by_cases q:g=f
  .rw[if_pos q,if_pos q];exact ry
  .rw[if_neg q,if_neg q];exact r g
 .by_cases q:g=f
  .rw[q];exact(ku f y fs).1
  .refine(ku f y fs).2 g (wi g λz=>hg ?_);show(if g=f then be u else mA g)=v9;rw[if_neg q];exact z
def Inv.made(I:Inv X pins σ H s):Inv X pins σ (upd (upd H s.heap.objs.size (.own (s.heap.objs.size+1))) (s.heap.objs.size+1) (.ins C s.heap.objs.size []))
  {s with heap:=(s.heap.push emptyDict).push (instObj C s.heap.objs.size)}:=by
 have e1:(s.heap.push emptyDict).get? s.heap.objs.size=be emptyDict:=Heap.get?_push_size s.heap rfl;have e2:((s.heap.push emptyDict).push (instObj C s.heap.objs.size)).get? (s.heap.objs.size+1)=be (instObj C s.heap.objs.size):=by
  have:=Heap.get?_push_size (s.heap.push emptyDict) (o:=instObj C s.heap.objs.size) rfl;rwa [Heap.size_push]at this
 have e3:(s.heap.push emptyDict).Ns s.heap.objs.size (λ_=>v9):=#[emptyDict,[].toArray,_,e1,rfl,(λe he=>absurd he MD),λ_=>rfl];have I1:=I.laid (a:=s.heap.objs.size) (o:=.own (s.heap.objs.size+1)) (h':=s.heap.push emptyDict) (t':=s.toks) (λb u q=>Heap.get?_push_of_some _ q) (HP _) #[_,e1];refine I1.laid (a:=s.heap.objs.size+1) (o:=.ins C s.heap.objs.size []) (t':=s.toks) (λb u q=>Heap.get?_push_of_some _ q) (JO (Heap.size_push _ _)) ?_;have ne:s.heap.objs.size≠s.heap.objs.size+1:=HZ (Ky _);refine#[by rw[ar ne,aB],Iq _,ne,e2,λ_=>v9,(Heap.Ns1.of_empty e3).at λo q=>Heap.get?_push_of_some _ q,λ_=>True.intro,λy hy=>absurd rfl hy]
def attr_of{prog:U'}{w:Va}{env:VU}{e:U8}{f:LB}{pos:Vh}{s:SB}(hb:Ve e f env (Vf e env)=Vf e env)
  (h:U_ (U9 prog w) A (Vf e env) (λo s₁=>U_ (U9 prog w) A (WB o f true) Q E s₁) E s):U_ (U9 prog w) A (Vf (.Attribute e f pos) env) Q E s:=
 Attribute_any_ h (by rw[arm_eval_Attribute,hb])
end
def tFld(K:Ex)(ta:TE)(f:LB):TE:=λσ H Q=>ta σ H λx H1=>∃a C dx fs v,x=.ref a/\H1 a=be (.ins C dx fs)/\Cls K C/\NoAttr K C f/\fs.lookup f=be v/\Q v H1
def sFld(K:Ex)(ta tv:TE)(f:LB):TS:=λD σ H=>tv σ H λy H1=>ta σ H1 λx H2=>∃a C dx fs,x=.ref a/\H2 a=be (.ins C dx fs)/\Cls K C/\NoAttr K C f/\fs.length<1000/\
 D.nx σ (upd H2 a (.ins C dx (putF f y fs)))
section
variable {X:Cx}{o e value:U8}{f:LB}{pos c5 NA:Vh}{ta tv:TE}
def sf(he:PE X e ta)(hb:Ve e f X.env (Vf e X.env)=Vf e X.env):PE X (.Attribute e f pos) (tFld X.K ta f):=by
 intro pins s σ H Q I h;refine attr_of hb (thn (he pins s σ H _ I h) λu s1 b9=>?_);obtain⟨x,H1,I1,rx,a,C,dx,fs,v,ex,ea,c,n,l,q⟩:=b9;subst ex;obtain rfl:u=Value.ref a:=rx;exact yr I1 ea c n l λu' s2 I2 ru=>#[v,H1,I2,ru,q]
def si(ha:PE X o ta)(hv:PE X value tv)(hs:Vn value (be (.Attribute o f c5)) pos.line X.env=pure false):PS X (.Assign [.Attribute o f c5] value pos) (sFld X.K ta tv f):=by
 intro pins s σ H D I h;refine VI (thn (hv pins s σ H _ I h) λu s1 ⟨y,H1,I1,ry,q⟩=>thn (ha pins s1 σ H1 _ I1 q) λov s2 hh=>?_) hs;obtain⟨x,H2,I2,rx,a,C,dx,fs,ex,ea,c,n,l,q2⟩:=hh;subst ex;obtain rfl:ov=Value.ref a:=rx;exact yt I2 ea c n l ry λs3 I3=>#[σ,_,I3,q2]
end
section
variable {X:Cx}{pins:List (Pi×Vp)}{σ:St}{H:Hp}{s:SB}{A:Vb}{E:Os->SB->Prop}{Q:Os->SB->Prop}{c:Os}{b:Bool}
inductive TyOf(K:Ex)(H:Hp):V->Os->Prop where
 |non:TyOf K H .non (.type "NoneType")
 |bl (x:Bool):TyOf K H (.bl x) (.type "bool")
 |int (i:Int):TyOf K H (.int i) (.type "int")
 |str (x:Str):TyOf K H (.str x) (.type "str")
 |flt (x:UInt64):TyOf K H (.flt x) (.type "float")
 |lst {a:Pi} {xs:List V} (e:H a=some (.lst xs)):TyOf K H (.ref a) (.type "list")
 |frz {a:Pi} {o:Vp} {xs:List V} (e:H a=some (.frz o (.lst xs))):TyOf K H (.ref a) (.type "list")
 |tup {a:Pi} {xs:List V} (e:H a=some (.tup xs)):TyOf K H (.ref a) (.type "tuple")
 |dK {a:Pi} {a9:List (Key×V)} (e:H a=some (.dK a9)):TyOf K H (.ref a) (.type "dict")
 |dT {a:Pi} {a9:List (List Key×V)} (e:H a=some (.dT a9)):TyOf K H (.ref a) (.type "dict")
 |ins {a C dx:Pi} {fs:List (Str×V)} (e:H a=some (.ins C dx fs)) (cl:Cls K C) (ha:HW K (.ref C) "__class__"=some (some (.builtin "object.__class__")))
   (hn:specialIn K (.builtin "object.__class__") "__get__"=be (be (.builtin "getset_descriptor.__get__"))) (htk:takesIn K (.builtin "object.__class__")=be true)
   (hm:IK K C (.type "object")=be true):TyOf K H (.ref a) (.ref C)
def yu{x:V}{u t:Os}(I:Inv X pins σ H s)(rx:RelV x u)(ty:TyOf X.K H x t)(e:kitOne X.K t c=be b)(h:∀tk,Q (.bool b) {s with toks:=tk}):
  U_ (U9 X.prog X.w) A (call (.builtin "isinstance") [u,c]) Q E s:=by
 cases ty with
 |non=>cases(show u=Value.none from rx);exact kia_one kitx_none I.kIn True.intro e (λz=>nomatch z) h
 |bl y=>cases(show u=Value.bool y from rx);exact kia_one kitx_bool I.kIn True.intro e (λz=>nomatch z) h
 |int i=>obtain⟨t,q⟩:=(show ∃t,u=Value.int i t from rx);cases q;exact kia_one kitx_int I.kIn True.intro e (λz=>nomatch z) h
 |str y=>obtain⟨t,q⟩:=(show ∃t,u=Value.str y t from rx);cases q;exact kia_one kitx_str I.kIn True.intro e (λz=>nomatch z) h
 |flt y=>obtain⟨t,q⟩:=(show ∃t,u=Value.float y t from rx);cases q;exact kia_one kitx_float I.kIn True.intro e (λz=>nomatch z) h
 |@lst a xs ea=>
  cases(show u=Value.ref a from rx);obtain⟨_,_,n,_,h1⟩:=(show ObjOk X.prog X.w H s.heap a (.lst xs)from I.hok a _ ea);exact kia_one kitx_list I.kIn #[_,h1,rfl] e (λz=>nomatch z) h
 |@frz a ob xs ea=>
  cases(show u=Value.ref a from rx);obtain⟨_,_,_,n,_,h1⟩:=(show ObjOk X.prog X.w H s.heap a (.frz ob (.lst xs))from I.hok a _ ea);exact kia_one kitx_list I.kIn #[_,h1,rfl] e (λz=>nomatch z) h
 |@tup a xs ea=>
  cases(show u=Value.ref a from rx);obtain⟨_,_,_,p⟩:=(show ObjOk X.prog X.w H s.heap a (.tup xs)from I.hok a _ ea);obtain⟨o,h1,h2,_⟩:=p;exact kia_one kitx_tuple I.kIn #[o,h1,h2] e (λz=>nomatch z) h
 |@dK a a9 ea=>
  cases(show u=Value.ref a from rx);obtain⟨_,_,vs,_,p⟩:=(show ObjOk X.prog X.w H s.heap a (.dK a9)from I.hok a _ ea);obtain⟨o,es,ep,h1,h2,_⟩:=p;exact kia_one kitx_dict I.kIn #[o,h1,h2.1] e (λz=>nomatch z) h
 |@dT a a9 ea=>
  cases(show u=Value.ref a from rx);obtain⟨_,_,xs,_,o,es,ep,h1,h2,_⟩:=(show ObjOk X.prog X.w H s.heap a (.dT a9)from I.hok a _ ea);exact kia_one kitx_dict I.kIn #[o,h1,h2.1] e (λz=>nomatch z) h
 |@ins a C dx fs ea cl ha hn htk hm=>
  cases(show u=Value.ref a from rx);obtain⟨mA,O,_⟩:=gT I.hok ea;obtain⟨od,J,_⟩:=O.look;exact kia_one (kitx_own (cl.get _) cl.hd ha hn htk hm) I.kIn J e (λz=>nomatch z) h
end
structure Room(k:Nat)(A:Vb):Prop where
 hd:A.handled=v9
 dp:A.depth+3*k+5<recursionLimit
 un:A.units+16*k+200<V6
variable{k:Nat}
def Room.mono{j:Nat}(r:Room k A)(h:j<=k):Room j A:=#[r.hd,by have:=r.dp;lia,by have:=r.un;lia]
def Room.deeper(r:Room (k+1) A)(env:VU):Room k (A.deeper env):=
 #[r.hd,by have:=r.dp;show A.depth+1+3*k+5<_;lia,by have:=r.un;show A.units+3+16*k+200<_;lia]
variable{kw:List (LB×Os)}
def yw:(A.under (.builtin "type.__call__" #[.ref C::us,kw])).depth=A.depth+1:=by
 first|rfl|simp[Around.under,Code.weight,Code.isCreation,Code.isGuard,Code.isCaller,Code.frames,Code.isFrame,guardIds]
def yx:(A.under (.builtin "type.__call__" #[.ref C::us,kw])).units=A.units+1:=by
 first|rfl|simp[Around.under,Code.cUnits,Code.frames,Code.isFrame]
def Room.make(r:Room (k+1) A)(C:Pi)(us:List Os)(kw:List (LB×Os)):Room k (A.under (.builtin "type.__call__" #[.ref C::us,kw])):=
 #[r.hd,by have:=r.dp;rw[yw];lia,by have:=r.un;rw[yx];lia]
def Room.depth(r:Room k A):A.depth<recursionLimit:=by have:=r.dp;lia
def Room.units(r:Room k A):A.units+64<V6:=by have:=r.un;lia
def tNil:TA:=λ_ H Q=>Q [] H
def sj(ta:TE)(tr:TA):TA:=λσ H Q=>ta σ H λx H1=>tr σ H1 λxs H2=>Q (x::xs) H2
section
variable {X:Cx}{e:U8}{es:List U8}{te:TE}{t:TA}{pos:Vh}
def pa_nil:PA X [] tNil:=λ_ _ _ _ H Q I h=>Calls.spliced_nil #[[],H,I,.nil,h]
def bz(ha:PE X e te)(hr:PA X es t)(hs:autoParam (zSE X e es) zA0):PA X (e::es) (sj te t):=by
 intro pos pins s σ H Q I h;rw[hs];show U_ _ _ (spliced ((false,Vf e X.env)::VH pos (Vc es X.env))) _ _ s;refine Calls.spliced_cons (thn (ha pins s σ H _ I h) λu s1 b9=>?_);obtain⟨x,H1,I1,r1,q1⟩:=b9;exact thn (hr pos pins s1 σ H1 _ I1 q1) λus s2 ⟨xs,H2,I2,r2,q2⟩=>#[x::xs,H2,I2,.cons r1 r2,q2]
def tTup(t:TA):TE:=λσ H Q=>t σ H λxs H1=>xs.length<=sizeLine/\∀p,H1 p=v9->Q (.ref p) (upd H1 p (.tup xs))
def tLst(t:TA):TE:=λσ H Q=>t σ H λxs H1=>xs.length<=sizeLine/\∀p,H1 p=v9->Q (.ref p) (upd H1 p (.lst xs))
def sk{x1}(h:PA X es t):PE X (.Tuple es x1 pos) (tTup t):=by
 intro pins s σ H Q I hq;refine wpAny_Tuple_spliced (thn (h pos pins s σ H _ I hq) λus s1 ⟨xs,H1,I1,r,z,q⟩=>#[by rw[<-r.length];exact z,?_]);have hf:H1 s1.heap.objs.size=none:=I1.hok.fresh (HP _);refine#[.ref s1.heap.objs.size,upd H1 s1.heap.objs.size (.tup xs),I1.laid (t':=s1.toks) (λb u e=>Heap.get?_push_of_some _ e) (HP _) ?_,rfl,q _ hf];exact#[z,us,r,#[_,Heap.get?_push_size _ rfl,rfl,_,rfl]]
def kz(h:PA X es t):PE X (.List es pos) (tLst t):=by
 intro pins s σ H Q I hq;refine wpAny_List_spliced (thn (h pos pins s σ H _ I hq) λus s1 ⟨xs,H1,I1,r,z,q⟩=>#[by rw[<-r.length];exact z,?_]);have hf:H1 s1.heap.objs.size=none:=I1.hok.fresh (HP _);refine#[.ref s1.heap.objs.size,upd H1 s1.heap.objs.size (.lst xs),I1.laid (t':=s1.toks) (λb u e=>Heap.get?_push_of_some _ e) (HP _) ?_,rfl,q _ hf];exact#[z,us,0,r,Heap.get?_push_size _ rfl]
end
abbrev Sp:=List V->Hp->VK->XK->Prop
abbrev CXT:=List VU->Hp->SB->XK->Os->SB->Prop
structure Env0(P:U')(w:Va)(K:Ex)(mg:Str->Option Os)(base:Heap)(A:Vb)(outer:List VU)(s:SB)(H:Hp):Prop where
 frames:A.frames=be outer
 mod:Mod K mg base
 bs:∀b o,base.get? b=be o->s.heap.get? b=be o/\H b=v9
 bsz:base.objs.size<=s.heap.objs.size
 funs:s.heap.FunFrames base outer
 frf:∀b∈frs outer,H b=v9
 hok:HOk P w H s.heap
 bare:VY s.gens
def CE(outer:List VU)(P:U')(w:Va)(H:Hp)(s:SB)(Q:VK)(u:Os)(s':SB):Prop:=
 ∃v H',s'.os=s.os/\VY s'.gens/\Un (frs outer) [] H H' s.heap s'.heap/\HOk P w H' s'.heap/\RelV v u/\Q v H'
def CR(CX:CXT)(outer:List VU)(P:U')(w:Va)(H:Hp)(s:SB)(Q:VK)(E:XK)(r:Result)(s':SB):Prop:=
 match r with
 |.ok (.ret u)=>CE outer P w H s Q u s'
 |.ok _=>False
 |.error e=>CX outer H s E e s'
structure FnOk(P:U')(w:Va)(K:Ex)(mg:Str->Option Os)(base:Heap)(CX:CXT)(k:Nat)(f:Pi)(fd:Vg)(ps:List Str)(sp:Sp):Prop where
 len:∀vs H Q E,sp vs H Q E->vs.length=ps.length
 run:∀(A:Vb) (outer:List VU) (s:SB) (H:Hp) (args:Args) (us:List Os) (vs:List V) (Q:VK) (E:XK),Room k A->Env0 P w K mg base A outer s H->V3 s fd args (ps.zip us)->Vals vs us->sp vs H Q E->
  V9 (U9 P w) A (.call (.ref f) args) (CR CX outer P w H s Q E) s
variable{f:Pi}{mg:LB->Option Os}{base:Heap}{CX:CXT}{fd:Vg}{ps:List LB}{sp:Sp}
def FnOk.mono{j:Nat}(F:FnOk P w K mg base CX j f fd ps sp)(h:j<=k):
  FnOk P w K mg base CX k f fd ps sp:=#[F.len,λA outer s H args us vs Q E hr=>F.run A outer s H args us vs Q E (hr.mono h)]
def FnOk.imp{L9:Sp}(F:FnOk P w K mg base CX k f fd ps sp)
  (h:∀vs H Q E,L9 vs H Q E->sp vs H Q E):FnOk P w K mg base CX k f fd ps L9:=
 #[λvs H Q E q=>F.len vs H Q E (h _ _ _ _ q),λA outer s H args us vs Q E hr he hb hv hs=>F.run A outer s H args us vs Q E hr he hb hv (h _ _ _ _ hs)]
variable{outer:List VU}
def Env0.make(e:Env0 P w K mg base A outer s H)(C:Pi)(us:List Os)(kw:List (LB×Os)):
  Env0 P w K mg base (A.under (.builtin "type.__call__" #[.ref C::us,kw])) outer s H:=#[by first|exact e.frames|(simpa[Around.under,Code.envs,Code.isFrame,pushEnvs]using e.frames),e.mod,e.bs,e.bsz,e.funs,e.frf,e.hok,e.bare]
section
variable {X:Cx}{pins:List (Pi×Vp)}{σ:St}{H:Hp}{s s':SB}
def Inv.env0(I:Inv X pins σ H s):Env0 X.prog X.w X.K X.mg X.base X.A X.stack s H:=
 #[I.ok.frames,I.ok.mod,I.bs,H8 I.ok.bsz I.sz,I.stack,I.stkFree,I.hok,I.bare]
def Inv.after{Q:VK}{u:Os}(I:Inv X pins σ H s)(h:CE X.stack X.prog X.w H s Q u s'):EP X pins σ Q u s':=by
 obtain⟨v,H',os,bare,un,hok,r,q⟩:=h;obtain⟨hh,g,d,t,Sy⟩:=s';obtain rfl:Sy=s.os:=os;exact#[v,H',I.call (h':=hh) (g':=g) (d':=d) (t':=t) (ch:=[]) un hok bare (λb z=>absurd z MD),r,q]
end
def so(sp:Sp)(f_:List V)(E:XK)(t:TA):TE:=λσ H Q=>t σ H λvs H1=>sp (vs++f_) H1 Q E
def yy(C:Pi)(sp:Sp)(f_:List V)(E:XK)(t:TA):TE:=λσ H Q=>t σ H λvs H1=>∀x dx,H1 x=v9->H1 dx=v9->dx≠x->
 sp (.ref x::(vs++f_)) (upd (upd H1 dx (.own x)) x (.ins C dx [])) (λv H2=>v=.non/\Q (.ref x) H2) E
def Binds(K:Ex)(fd:Vg)(ps:List LB)(ds:List Os):Prop:=
 ∀(s:SB) (us:List Os),K.In s.heap->(us++ds).length=ps.length->V3 s fd #[us,[]] (ps.zip (us++ds))
def Binds.all(h:∀us:List Os,us.length=ps.length->VP fd #[us,[]]=pure (ps.zip us)):Binds K fd ps []:=λs us _ hl=>by
 rw[IA]at hl ⊢;exact .of_eq (h us hl)
def fO(CX:CXT)(X:Cx)(E:XK):Prop:=∀(pins:List (Pi×Vp)) (σ:St) (H:Hp) (s:SB) (e:Os) (s':SB),Inv X pins σ H s->CX X.stack H s E e s'->X.xe e s'
section
variable {X:Cx}{CX:CXT}{k:Nat}{f C:Pi}{fd:Vg}{ps:List LB}{sp:Sp}{f_:List V}{ds:List Os}{E:XK}{x m:LB}{p pos apos:Vh}{e o:U8}{es:List U8}{ta:TE}{t:TA}
variable{pins:List (Pi×Vp)}{us:List Os}{vs:List V}
def yz{σ:St}{H:Hp}{s:SB}{Q:VK}(F:FnOk X.prog X.w X.K X.mg X.base CX k f fd ps sp)(hr:Room k X.A)(hb:Binds X.K fd ps ds)(hd:Vals f_ ds)(hx:fO CX X E)
  (I:Inv X pins σ H s) (r:Vals vs us) (h:sp (vs++f_) H Q E):U_ (U9 X.prog X.w) X.A (call (.ref f) us) (EP X pins σ Q) X.xe s:=by
 have r2:Vals (vs++f_) (us++ds):=r.append hd;have hl:(us++ds).length=ps.length:=by rw[<-r2.length];exact F.len _ _ _ _ h
 refine VJ (VG (F.run X.A X.stack s H #[us,[]] (us++ds) (vs++f_) Q E hr I.env0 (hb s us I.kIn hl) r2 h) λr s' hq=>?_);cases r with
 |error e=>exact hx pins σ H s e s' I hq
 |ok fl=>
  cases fl with
  |ret u=>exact I.after hq
  |next=>exact False.elim hq
  |brk=>exact False.elim hq
  |cont=>exact False.elim hq
def yB(F:FnOk X.prog X.w X.K X.mg X.base CX k f fd ps sp)(hr:Room k X.A)(hg:Gl X x)(hm:X.mg x=be (.ref f))(hk:keepIn X.K (.ref f)=true)(hb:Binds X.K fd ps ds)(hd:Vals f_ ds)(hx:fO CX X E)
  (ha:PA X (e::es) t) (d5:autoParam (zND x) zA1) (he:autoParam (zSE X e es) zA0) (c8:autoParam (zPL X pos es) zA0):
  PE X (.Call (.Name x p) (e::es) [] pos) (so sp f_ E t):=by
 intro pins s σ H Q I h;refine Vj (cv I hg hm ?_ d5);refine callWith_K (h₀:=X.base) I.ok.mod.kin hk (thn (ha pos pins s σ H _ I h) λus s1 ⟨vs,H1,I1,r,q⟩=>#[I1.kIn,?_]) he c8;exact yz F hr hb hd hx I1 r q
structure Mk(K:Ex)(C f:Pi):Prop where
 makes:makesIn K C=true
 init:HW K (.ref C) "__init__"=be (be (.ref f))
 fn:isFn K (.ref f)=true
 kp:keepIn K (.ref C)=true
def yD{σ:St}{H:Hp}{s:SB}{Q:VK}(M:Mk X.K C f)(F:FnOk X.prog X.w X.K X.mg X.base CX k f fd ps sp)(hr:Room (k+1) X.A)(hb:Binds X.K fd ps ds)(hd:Vals f_ ds)
  (hx:fO CX X E) (I:Inv X pins σ H s) (r:Vals vs us)
  (h:∀x dx,H x=v9->H dx=v9->dx≠x->sp (.ref x::(vs++f_)) (upd (upd H dx (.own x)) x (.ins C dx [])) (λv H2=>v=.non/\Q (.ref x) H2) E):
  U_ (U9 X.prog X.w) X.A (call (.ref C) us) (EP X pins σ Q) X.xe s:=by
 have hq:=h (s.heap.objs.size+1) s.heap.objs.size (I.hok.fresh (Jc _)) (I.hok.fresh (HP _)) (HZ (Ky _));have I2:=Inv.made (C:=C) I;have r2:Vals (V.ref (s.heap.objs.size+1)::(vs++f_)) (Value.ref (s.heap.objs.size+1)::(us++ds)):=.cons rfl (r.append hd);have hl:(Value.ref (s.heap.objs.size+1)::us++ds).length=ps.length:=by
  have e:=r2.length;rw[F.len _ _ _ _ hq]at e;exact e.symm
 refine VJ (yq (f:=f) I.kIn M.makes M.init (beq_iff_eq.mp M.fn) (VG (F.run _ X.stack _ _ #[Value.ref (s.heap.objs.size+1)::us,[]] (Value.ref (s.heap.objs.size+1)::(us++ds)) _ _ E (hr.make C us [])
  (I2.env0.make C us []) (hb _ (Value.ref (s.heap.objs.size+1)::us) I2.kIn hl) r2 hq) λr s' t7=>?_))
 cases r with
 |error e=>exact hx pins σ _ _ e s' I2 t7
 |ok fl=>
  cases fl with
  |ret u=>
   obtain⟨v,H',I3,rv,ev,q3⟩:=I2.after t7;subst ev;exact#[rv,#[V.ref (s.heap.objs.size+1),H',I3,rfl,q3]]
  |next=>exact False.elim t7
  |brk=>exact False.elim t7
  |cont=>exact False.elim t7
def gU(M:Mk X.K C f)(F:FnOk X.prog X.w X.K X.mg X.base CX k f fd ps sp)(hr:Room (k+1) X.A)(hg:Gl X x)(hm:X.mg x=be (.ref C))(hb:Binds X.K fd ps ds)(hd:Vals f_ ds)(hx:fO CX X E)
  (ha:PA X (e::es) t) (d5:autoParam (zND x) zA1) (he:autoParam (zSE X e es) zA0) (c8:autoParam (zPL X pos es) zA0):
  PE X (.Call (.Name x p) (e::es) [] pos) (yy C sp f_ E t):=by
 intro pins s σ H Q I h;refine Vj (cv I hg hm ?_ d5);refine callWith_K (h₀:=X.base) I.ok.mod.kin M.kp (thn (ha pos pins s σ H _ I h) λus s1 ⟨vs,H1,I1,r,q⟩=>#[I1.kIn,?_]) he c8;exact yD M F hr hb hd hx I1 r q
end
structure FnScope(N P:List Str)(sc:Vz):Prop where
 kind:sc.kind=.function
 co:sc.isCoroutine=false
 gen:sc.isGenerator=false
 nd:N.Nodup
 pre:N.take P.length=P
 par:∀x∈P,sc.names.lookup x=be .local\/sc.names.lookup x=be .cell
 nofree:∀y∈sc.names,y.2≠.free
def sq{kindOf:LB->Option VQ}{x:LB}:∀{binds:List (LB×Os)} {m:LB->Option Os},(∀v,(x,v)∉binds)->Wt kindOf binds m x=m x
 |[],_,_=>rfl
 |(n,v)::r,m,h=>by
  unfold Wt;rw[sq λw hw=>h w (HS _ hw)];split
  .have:x≠n:=by rintro rfl;exact h v HV
   simp[this]
  .rfl
def bindC_out{kindOf:LB->Option VQ}{x:LB}:∀{binds:List (LB×Os)} {m:LB->Option Os},(∀v,(x,v)∉binds)->Wu kindOf binds m x=m x
 |[],_,_=>rfl
 |(n,v)::r,m,h=>by
  unfold Wu;rw[bindC_out λw hw=>h w (HS _ hw)];split
  .rfl
  .have:x≠n:=by rintro rfl;exact h v HV
   simp[this]
def bindL_get{kindOf:LB->Option VQ}{x:LB}{v:Os}:∀{P:List LB} {vs:List Os} {i:Nat} {m:LB->Option Os},P.Nodup->P[i]?=be x->vs[i]?=be v->kindOf x=be .local->
  Wt kindOf (P.zip vs) m x=be v
 |[],_,_,_,_,h,_,_=>by simp at h
 |_::_,[],_,_,_,_,h,_=>by simp at h
 |p::P,w::vs,0,m,nd,h1,h2,hk=>by
  simp at h1 h2;subst h1;subst h2;show Wt kindOf ((p,w)::P.zip vs) m p=_;unfold Wt;rw[sq λv hv=>(IL.mp nd).1 (J2 hv).1,if_pos hk];simp
 |p::P,w::vs,i+1,m,nd,h1,h2,hk=>by
  show Wt kindOf ((p,w)::P.zip vs) m x=_;unfold Wt;exact bindL_get (i:=i) (IL.mp nd).2 (by simpa using h1) (by simpa using h2) hk
def sr{kindOf:LB->Option VQ}{x:LB}{v:Os}:∀{P:List LB} {vs:List Os} {i:Nat} {m:LB->Option Os},P.Nodup->P[i]?=be x->vs[i]?=be v->kindOf x≠be .local->
  Wu kindOf (P.zip vs) m x=be v
 |[],_,_,_,_,h,_,_=>by simp at h
 |_::_,[],_,_,_,_,h,_=>by simp at h
 |p::P,w::vs,0,m,nd,h1,h2,hk=>by
  simp at h1 h2;subst h1;subst h2;show Wu kindOf ((p,w)::P.zip vs) m p=_;unfold Wu;rw[bindC_out λv hv=>(IL.mp nd).1 (J2 hv).1,if_neg hk];simp
 |p::P,w::vs,i+1,m,nd,h1,h2,hk=>by
  show Wu kindOf ((p,w)::P.zip vs) m x=_;unfold Wu;exact sr (i:=i) (IL.mp nd).2 (by simpa using h1) (by simpa using h2) hk
def start(N:List LB)(vs:List V):St:=vs.map be++IF (N.length-vs.length) v9
def cxOf(CX:CXT)(P:U')(w:Va)(K:Ex)(mg:LB->Option Os)(base:Heap)(N:List LB)(qual:LB)(scope:Vz)(f:Pi)(cd:Os)(A:Vb)(outer:List VU)(s:SB)(H:Hp)(E:XK):Cx where
 prog:=P
 w:=w
 K:=K
 mg:=mg
 base:=base
 A:=A.deeper (Vk qual scope s.heap.objs.size f cd)
 N:=N
 s₀:=s
 H₀:=H
 env:=Vk qual scope s.heap.objs.size f cd
 outer:=outer
 stack:=Vk qual scope s.heap.objs.size f cd::outer
 ex:=[]
 calm:=true
 fn:=λ_=>true
 pn:=[]
 xe:=λe s'=>U_ (U9 P w) (A.deeper (Vk qual scope s.heap.objs.size f cd)) (WA (Vk qual scope s.heap.objs.size f cd) e) (λ_ O9=>CX outer H s E e O9) (λe' O9=>CX outer H s E e' O9) s'
def cell_has{sc:Vz}{n:Nat}{x:LB}(h:sc.names.lookup x=be .cell):∃c,(cellsFrom n sc.names []).lookup x=be c:=by
 have q:=cellsFrom_some sc.names n [] (.inl h);exact Option.isSome_iff_exists.mp q
variable{N:List LB}{scope:Vz}
def yF{qual:LB}{cd:Os}{s1:SB}{E:XK}{vs:List V}
  (S:FnScope N ps scope) (hd:A.handled=v9) (e0:Env0 P w K mg base A outer s H) (hl:vs.length=ps.length) (r:Vals vs us)
  (x:InCallC s s.heap.objs.size (Wt (Vk qual scope s.heap.objs.size f cd).kindOf (ps.zip us) λ_=>v9) (cellsFrom (s.heap.objs.size+1) scope.names []) (Wu (Vk qual scope s.heap.objs.size f cd).kindOf (ps.zip us) λ_=>v9) s1):
  Inv (cxOf CX P w K mg base N qual scope f cd A outer s H E) [] (start N vs) H s1:=by
 have c8:ps.length<=N.length:=by have:=congrArg JA S.pre;rw[Jk]at this;lia
 obtain⟨h1,tk,rfl,hk⟩:=x.done;have NF:∀b:Pi,b∉(cxOf CX P w K mg base N qual scope f cd A outer s H E).ex:=λb z=>absurd (show b∈([]:List Pi)from z) MD;refine⟨#[e0.mod,S.kind,rfl,rfl,HP _,λy z c h1 h2=>?_,λy hy=>?_,λy c _ h=>?_,λ_=>hd,Around.frames_deeper e0.frames,.inr #[rfl,rfl],λb z=>absurd z (NF b),e0.bs,e0.bsz,λb _ _=>NF b,λb z=>absurd z (NF b),e0.funs,e0.frf],
  rfl,e0.bare,Un.kept hk,#[_,x.toInCall.ns,λi y v h1 h2 h3=>?_],λy c h=>#[_,x.cell y c h],e0.hok.fresh (HP _),λy c h=>?_,λp hp=>absurd (show p∈([]:List (Pi×Vp))from hp) MD,e0.hok.kept hk,?_⟩
 .exact name_of_addr x.apart (PySem.mem_of_lookup h1) (PySem.mem_of_lookup h2)
 .have hy:scope.names.lookup y=be .cell\/scope.names.lookup y=be .free:=hy;rcases hy with hy|hy
  .exact cell_has hy
  .exact absurd rfl (S.nofree _ (PySem.mem_of_lookup hy))
 .exact JK (x.above y c (PySem.mem_of_lookup h))
 .have hi:i<vs.length:=by
   unfold start at h2;by_cases hi:i<vs.length
   .exact hi
   .rw[IT (by simpa using hi)]at h2;rw[J3]at h2;split at h2<;>cases h2
  have ha:vs[i]?=be v:=by
   unfold start at h2;rw[IG (by simpa using hi),H9]at h2;cases e:vs[i]? with
   |none=>rw[e]at h2;cases h2
   |some a=>rw[e]at h2;cases h2;rfl
  obtain⟨u,hu,rv⟩:=r.get ha;have hp:ps[i]?=be y:=by
   rw[<-S.pre,J4 KK];exact h1
  have RA:ps.Nodup:=by rw[<-S.pre];exact S.nd.sublist (List.take_sublist _ _)
  refine#[u,rv,?_];rcases S.par y (IU hp)with k|k
  .exact .inl #[k,bindL_get RA hp hu k]
  .obtain⟨c,e⟩:=cell_has (n:=s.heap.objs.size+1) k;refine .inr #[.inl k,c,e,?_];have q:=x.cell y c e;rw[sr RA hp hu (by show scope.names.lookup y≠_;rw[k];decide)]at q;exact q
 .exact e0.hok.fresh (JK (x.above y c (PySem.mem_of_lookup h)))
 .unfold start;show _=N.length;rw[Ia,HR,List.length_replicate];lia
def yG{name qual:LB}{params:Arguments}{body:List U7}{dV kV doc pm cdv ct oc:Os}{an od:Option Pi}
  {osl:Array (Option Os)}   (lk:K.lookup f=be #[oc,od,.func (fnOf name qual params body scope dV kV doc pm an cdv ct),osl]) (gt:codeIn K cdv qual=true) (S:FnScope N ps scope)
  (len:∀vs H Q E,sp vs H Q E->vs.length=ps.length)
  (a8:∀(A:Vb) (outer:List VU) (s:SB) (H:Hp) (vs:List V) (Q:VK) (E:XK),Room k (A.deeper (Vk qual scope s.heap.objs.size f cdv))->sp vs H Q E->
   ∃t,PSs (cxOf CX P w K mg base N qual scope f cdv A outer s H E) body t/\t {nx:=λ_ H'=>Q .non H',rt:=Q} (start N vs) H):
  FnOk P w K mg base CX (k+1) f (fnOf name qual params body scope dV kV doc pm an cdv ct) ps sp:=by
 refine#[len,λA outer s H args us vs Q E hr e0 hb r z7=>?_];have hl:=len _ _ _ _ z7;have KX:K.In s.heap:=e0.mod.kin.keeps λb o e=>(e0.bs b o e).1;have Sz:s.heap.NoLimit:=e0.mod.nolimit.keeps λb o e=>(e0.bs b o e).1;have NG:∀y∈ps.zip us,scope.names.lookup y.1=be .local\/(scope.names.lookup y.1=be .cell/\((cellsFrom (s.heap.objs.size+1) scope.names []).lookup y.1).isSome=true):=λ⟨n,v⟩ hy=>by
  rcases S.par n (J2 hy).1 with q|q
  .exact .inl q
  .exact .inr #[q,cellsFrom_some _ _ _ (.inl q)]
 refine codeAny_call_function hr.depth (KX _ _ lk) rfl S.co S.gen rfl (codeRec_of KX gt) (hb _ _ _ _ ?_);refine wpAny_newFunctionEnv_cells S.kind NG λenv he s1 x=>?_;subst he;refine#[Sz.keeps x.toInCall.keep,codeAny_func ?_];obtain⟨t,ht,hq⟩:=a8 A outer s H vs Q E (hr.deeper _) z7;have I:Inv (cxOf CX P w K mg base N qual scope f cdv A outer s H E) [] (start N vs) H s1:=yF S hr.hd e0 hl r x;refine Vm (ht [] s1 (start N vs) H _ I hq) (λfl s' hs=>?_) λe s' hs=>hs;have e8:∀{σ':St} {H':Hp} {v:V} {u:Os},Inv (cxOf CX P w K mg base N qual scope f cdv A outer s H E) [] σ' H' s'->RelV v u->Q v H'->CE outer P w H s Q u s':=
  λ{σ' H' v u} J rv q=>#[v,H',J.os,J.bare,J.base,J.hok,rv,q]
 cases fl with
 |ret u=>
  obtain⟨v,σ',H',J,rv,q⟩:=hs;exact e8 J rv q
 |next=>
  obtain⟨σ',H',J,q⟩:=hs;exact e8 (v:=V.non) (u:=Value.none) J rfl q
 |brk=>
  obtain⟨_,_,_,q⟩:=hs;exact False.elim q
 |cont=>
  obtain⟨_,_,_,q⟩:=hs;exact False.elim q
section
variable {X:Cx}{x:LB}{p pos:Vh}{e:U8}{es:List U8}{t:TA}{id T:String}{r:List V->Hp->VK->Prop}
def tCB(r:List V->Hp->VK->Prop)(t:TA):TE:=λσ H Q=>t σ H λvs H1=>r vs H1 Q
def fP(hc:bO X (.builtin id) r)(hg:Gl X x)(hm:X.mg x=v9)(hv:Vo x=be (.builtin id))(ha:PA X (e::es) t)(hn:autoParam (x≠"__name__") zA1)(d5:autoParam (zND x) zA1)
  (he:autoParam (zSE X e es) zA0) (c8:autoParam (zPL X pos es) zA0):PE X (.Call (.Name x p) (e::es) [] pos) (tCB r t):=by
 intro pins s σ H Q I h;refine Vj (dH I hg hm hv ?_ hn d5);exact PyProof.Rows.callWith_builtin1 (thn (ha pos pins s σ H _ I h) λus s1 ⟨vs,H1,I1,r1,q1⟩=>hc pins s1 σ H1 vs us Q I1 r1 q1) he c8
def kA(hc:bO X (.type T) r)(hg:Gl X x)(hm:X.mg x=v9)(hv:Vo x=be (.type T))(ha:PA X (e::es) t)(hn:autoParam (x≠"__name__") zA1)(d5:autoParam (zND x) zA1)
  (he:autoParam (zSE X e es) zA0) (c8:autoParam (zPL X pos es) zA0):PE X (.Call (.Name x p) (e::es) [] pos) (tCB r t):=by
 intro pins s σ H Q I h;refine Vj (dH I hg hm hv ?_ hn d5);exact PyProof.Rows.callWith_type1 (thn (ha pos pins s σ H _ I h) λus s1 ⟨vs,H1,I1,r1,q1⟩=>hc pins s1 σ H1 vs us Q I1 r1 q1) he c8
end
end L2
namespace HT
open PySem PyProof.Rows
section
variable {prog:U'}{w:Va}{A:Vb}{E:Os->SB->Prop}{s:SB}
variable{Q:Os->SB->Prop}
def cat_tup{t b:Pi}{vs ws:List Os}(ht:IsTup s.heap t vs.toArray)(hb:IsTup s.heap b ws.toArray)(hv:vs≠[])
  (h1:ws=[]->Q (.ref t) s) (h2:ws≠[]->Q (.ref s.heap.objs.size) {s with heap:=s.heap.push {cls:=.type "tuple",data:=.seq (vs++ws).toArray} })
  (j7:vs.length+ws.length<=sizeLine):U_ (U9 prog w) A (Vv .Add (.ref t) (.ref b)) Q E s:=by
 obtain⟨⟨cls,dd,data,sl⟩,ho,hc,n,hd⟩:=id ht;obtain⟨⟨SA,RB,data2,RC⟩,OD,RD,n2,M0⟩:=id hb;simp only at hc hd RD M0;subst hc hd RD M0;have e:vs.toArray++ws.toArray=(vs++ws).toArray:=MD
 by_cases hw:ws=[]
 .exact concat_meets #[_,ho,rfl] #[_,OD,rfl] noFill_tuple_add seq_tuple_add PySem.F.slot_tuple_add PySem.F.entry_tuple_add (PySem.F.args_tuple_add_2 _ _)
   (tuple_addW1 t b vs.toArray ws.toArray n n2 dd RB sl RC (by simpa using hv) (by simp[hw])) #[ho,OD,h1 hw]
 .refine concat_meets #[_,ho,rfl] #[_,OD,rfl] noFill_tuple_add seq_tuple_add PySem.F.slot_tuple_add PySem.F.entry_tuple_add (PySem.F.args_tuple_add_2 _ _)
   (tuple_addW2 t b vs.toArray ws.toArray n n2 dd RB sl RC (by simpa using hv) (by simpa using hw) (by rw[HY,HY];exact j7)) #[ho,OD,?_]
  rw[e];exact h2 hw
def sIx(n d:Nat):Option Int->Nat
 |none=>d
 |some v=>if v<0 then(v+(n:Int)).toNat else min v.toNat n
def sIx_none(n d:Nat):sIx n d v9=d:=rfl
def sIx_nat(n d k:Nat):sIx n d (be (k:Int))=min k n:=by
 show(if(k:Int)<0 then((k:Int)+(n:Int)).toNat else min (k:Int).toNat n)=min k n;rw[if_neg KK,IM]
def sIx_le(n d:Nat)(hd:d<=n)(o:Option Int):sIx n d o<=n:=by
 cases o with
 |none=>exact hd
 |some v=>
  show(if v<0 then(v+(n:Int)).toNat else min v.toNat n)<=n;by_cases hv:v<0
  .rw[if_pos hv];lia
  .rw[if_neg hv];exact Nat.min_le_right _ _
def ss(v:Int)(n d:Nat):(if v<0 then max (v+(n:Int)) 0 else min v (n:Int))=((sIx n d (be v):Nat):Int):=by
 show(if v<0 then max (v+(n:Int)) 0 else min v (n:Int))=(((if v<0 then(v+(n:Int)).toNat else min v.toNat n):Nat):Int);by_cases hv:v<0
 .simp only[if_pos hv];lia
 .simp only[if_neg hv];lia
def yH(lo hi:Option Int)(n:Nat):Builtin.Slice.sliceAdjust lo hi 1 (n:Int)=(((sIx n 0 lo:Nat):Int),((sIx n n hi:Nat):Int)):=by
 have h1:¬((1:Int)<0):=KK
 unfold Builtin.Slice.sliceAdjust;simp only[h1,if_false];refine Prod.ext ?_ ?_
 .cases lo with
  |none=>rfl
  |some v=>exact ss v n 0
 .cases hi with
  |none=>rfl
  |some v=>exact ss v n n
def yI(i j:Nat):Builtin.Slice.slicePlaces (i:Int) (j:Int) 1=j-i:=by
 unfold Builtin.Slice.slicePlaces;have h1:(1:Int)>0:=KK
 simp only[h1,if_true,Int.ediv_one];split<;>lia
def su{v:Os}{o:Option Int}{Q:Option Int->SB->Prop}(p:Wh v o)(h:Q o s):U_ (U9 prog w) A (Builtin.Slice.slicePartIndex v) Q E s:=by
 cases p with
 |none=>exact slicePart_none h
 |int i t=>exact slicePart_int h
variable{lo hi:Option Int}
def yJ{sl:Pi}{vl vu:Os}{n:Nat}{Q:Int×Int×Nat->SB->Prop}(hs:s.heap.IsSliceOf sl vl vu .none)(pl:Wh vl lo)(pu:Wh vu hi)
  (h:Q (((sIx n 0 lo:Nat):Int),1,sIx n n hi-sIx n 0 lo) s):U_ (U9 prog w) A (Builtin.Slice.sliceApplied (.ref sl) (pure (n:Int))) Q E s:=by
 obtain⟨os,LD,OE,OF⟩:=id hs;unfold Builtin.Slice.sliceApplied Builtin.Slice.sliceFields;refine P3 (P3 (VM LD OF (x:=vl) rfl (P3 (VM LD OF (x:=vu) rfl (P3 (VM LD OF (x:=.none) rfl (SZ ?_)))))));refine P3 (slicePart_none ?_);show U_ _ _ (if((1:Int)==0)=true then _ else _) _ _ s;rw[if_neg Mx];refine P3 (su pl (P3 (su pu (P3 (SZ ?_)))));show U_ _ _ (match Builtin.Slice.sliceAdjust lo hi 1 (n:Int)with|(lo,hi)=>pure (lo,(1:Int),Builtin.Slice.slicePlaces lo hi 1)) _ _ s;rw[yH lo hi n];show U_ _ _ (pure (((sIx n 0 lo:Nat):Int),(1:Int),Builtin.Slice.slicePlaces ((sIx n 0 lo:Nat):Int) ((sIx n n hi:Nat):Int) 1)) _ _ s;rw[yI];exact SZ h
def yL(xs:Array Os)(i k:Nat):((HU k).filterMap λ(m:Nat)=>xs[((i:Int)+(m:Int)*1).toNat]?).toArray=((xs.toList.drop i).take k).toArray:=by
 have e:(λ(m:Nat)=>xs[((i:Int)+(m:Int)*1).toNat]?)=λm=>xs[i+m]?:=by
  funext m;have:((i:Int)+(m:Int)*1).toNat=i+m:=KK
  rw[this]
 rw[e];have:=pick_run xs i k;rw[Kz]at this;have e2:((λx=>xs[x]?) ∘ λx=>i+x)=λm=>xs[i+m]?:=rfl;rw[e2]at this;rw[this]
def getItem_tuple_cut{t sl:Pi}{items:Array Os}{vl vu:Os}(ht:IsTup s.heap t items)(hs:s.heap.IsSliceOf sl vl vu .none)(pl:Wh vl lo)(pu:Wh vu hi)
  (hw:¬(sIx items.size 0 lo=0/\sIx items.size items.size hi=items.size))
  (h:Q (.ref s.heap.objs.size) {s with heap:=s.heap.push {cls:=.type "tuple",data:=.seq ((items.toList.drop (sIx items.size 0 lo)).take (sIx items.size items.size hi-sIx items.size 0 lo)).toArray} })
  (j7:items.size<=sizeLine):U_ (U9 prog w) A (Wk (.ref t) (.ref sl)) Q E s:=by
 have i_:sizeOk (.seq ((items.toList.drop (sIx items.size 0 lo)).take (sIx items.size items.size hi-sIx items.size 0 lo)).toArray):=by
  show((items.toList.drop (sIx items.size 0 lo)).take (sIx items.size items.size hi-sIx items.size 0 lo)).toArray.size<=sizeLine;rw[HY,Jk,Jd,JM];lia
 have hj:sIx items.size items.size hi<=items.size:=sIx_le _ _ (HP _) hi;obtain⟨os,LD,OE,OF⟩:=id hs;have SE:s.TypeIs (.ref sl) "slice":=#[os,LD,OE];unfold Wk
 try with_reducible refine Vt ?_
 first|refine P3 (SZ ?_)|skip
 refine P3 (wpAny_sequenceKey ht.typeIs Mx ?_);refine P3 (wpAny_callSpecial?_slot (name:=Str.ofString "__getitem__") ht.typeIs PyProof.Rows.slot_tuple_getitem
  (wpAny_call_entry PyProof.Rows.slot_tuple_getitem ht.typeIs entry_tuple_getitem ?_ (args_tuple_getitem _ _)))
 show U_ _ _ (Builtin.Tuple.tupleItemsOf (.ref t)>>=_) _ _ s;refine P3 (tupleItemsOf_ ht ?_);refine P3 (wpAny_typeOf SE ?_);rw[if_pos Mx];refine P3 (yJ hs pl pu ?_);have M4:¬((((sIx items.size 0 lo:Nat):Int)==0&&(1:Int)==1&&(sIx items.size items.size hi-sIx items.size 0 lo)==items.size)=true):=by
  intro q;rw[Iw,Iw]at q;have q1:((sIx items.size 0 lo:Nat):Int)=0:=eq_of_beq q.1.1;have q2:sIx items.size items.size hi-sIx items.size 0 lo=items.size:=eq_of_beq q.2;exact hw #[KK,KK]
 show U_ _ _ (if(((sIx items.size 0 lo:Nat):Int)==0&&(1:Int)==1&&(sIx items.size items.size hi-sIx items.size 0 lo)==items.size)=true then _ else _) _ _ s;rw[if_neg M4,yL]
 first
  |exact P3 (m:=Builtin.Tuple.tupleExact _) (Vl (SZ ⟨_,rfl,SZ h⟩) i_)
  |exact P3 (m:=Builtin.Tuple.tupleExact _) (Vl (P3 (SZ (SZ ⟨_,rfl,SZ h⟩))) i_)
  |exact P3 (P3 (m:=Builtin.Tuple.tupleExact _) (Vl (SZ (SZ ⟨_,rfl,SZ h⟩)) i_))
  |exact P3 (P3 (m:=Builtin.Tuple.tupleExact _) (Vl (SZ ⟨_,rfl,SZ h⟩) i_))
end
end HT
namespace L2
open PySem PySem.Spec PyProof.Rows
abbrev TO:=St->Hp->(Option Int->Hp->Prop)->Prop
def PO(X:Cx)(e:Option U8)(t:TO):Prop:=
 ∀(pins:List (Pi×Vp)) (s:SB) (σ:St) (H:Hp) (Q:Option Int->Hp->Prop),Inv X pins σ H s->t σ H Q->
  U_ (U9 X.prog X.w) X.A (evalPart e X.env) (λu s'=>∃o H',Inv X pins σ H' s'/\Wh u o/\Q o H') X.xe s
def yM:TO:=λ_ H Q=>Q v9 H
def yO(t:TE):TO:=λσ H Q=>t σ H λx H1=>∃i,x=.int i/\Q (be i) H1
section
variable {X:Cx}{e:U8}{te:TE}{lo hi:Option U8}{tl th:TO}{pos p2:Vh}
def kB:PO X v9 yM:=by
 intro pins s σ H Q I h;rw[evalPart_none];exact SZ #[v9,H,I,.none,h]
def kC(h:PE X e te):PO X (be e) (yO te):=by
 intro pins s σ H Q I hw;rw[evalPart_some];refine thn (h pins s σ H _ I hw) λu s1 b9=>?_;obtain⟨x,H1,I1,r1,q1⟩:=b9;obtain⟨i,rfl,q⟩:=q1;obtain⟨t,rfl⟩:=r1;exact#[be i,H1,I1,.int i t,q]
def SlR(X:Cx)(r:V->Option Int->Option Int->Hp->VK->Prop):Prop:=
 ∀(pins:List (Pi×Vp)) (s:SB) (σ:St) (H:Hp) (x:V) (v vl vu:Os) (lo hi:Option Int) (sl:Pi) (Q:VK),Inv X pins σ H s->RelV x v->s.heap.IsSliceOf sl vl vu .none->Wh vl lo->Wh vu hi->r x lo hi H Q->
  ∃T id,typeLookup (.type T) "__getitem__"=pure (be (.builtin id))/\s.TypeIs v T/\U_ (U9 X.prog X.w) X.A (Wk v (.ref sl)) (EP X pins σ Q) X.xe s
variable{r:V->Option Int->Option Int->Hp->VK->Prop}
def SlR.or{r':V->Option Int->Option Int->Hp->VK->Prop}(h:SlR X r)(h':SlR X r'):SlR X (λx lo hi H Q=>r x lo hi H Q\/r' x lo hi H Q):=by
 intro pins s σ H x v vl vu lo hi sl Q I rx hs pl pu q;rcases q with q|q
 .exact h pins s σ H x v vl vu lo hi sl Q I rx hs pl pu q
 .exact h' pins s σ H x v vl vu lo hi sl Q I rx hs pl pu q
def tSl(r:V->Option Int->Option Int->Hp->VK->Prop)(te:TE)(tl th:TO):TE:=λσ H Q=>te σ H λx H1=>tl σ H1 λl H2=>th σ H2 λu H3=>r x l u H3 Q
def gW(hr:SlR X r)(he:PE X e te)(hl:PO X lo tl)(hu:PO X hi th):PE X (.Subscript e (.Slice lo hi v9 p2) pos) (tSl r te tl th):=by
 intro pins s σ H Q I h;refine Subscript_ (thn (he pins s σ H _ I h) λv s1 b9=>?_);obtain⟨x,H1,I1,r1,q1⟩:=b9;refine wpAny_Slice (thn (hl pins s1 σ H1 _ I1 q1) λvl s2 ⟨l,H2,I2,pl,q2⟩=>thn (hu pins s2 σ H2 _ I2 q2) λvu s3 b9=>?_);obtain⟨u,H3,I3,pu,q3⟩:=b9;rw[evalPart_none];refine SZ ?_;have I4:Inv X pins σ H3 {s3 with heap:=s3.heap.push {cls:=.type "slice",data:=.fields [vl,vu,.none].toArray} }:=I3.kept (t':=s3.toks) λb ob q=>Heap.get?_push_of_some _ q;obtain⟨T,id,hT,ht,hg⟩:=hr pins {s3 with heap:=s3.heap.push {cls:=.type "slice",data:=.fields [vl,vu,.none].toArray} } σ H3 x v vl vu l u s3.heap.objs.size Q I4 r1 (Heap.IsSliceOf.new ..) pl pu q3;show U_ (U9 X.prog X.w) X.A (subscriptTail e (.Slice lo hi v9 p2) v (.ref s3.heap.objs.size)) (EP X pins σ Q) X.xe {s3 with heap:=s3.heap.push {cls:=.type "slice",data:=.fields [vl,vu,.none].toArray} };exact tail_any (ops:=[.ref s3.heap.objs.size,v]) ht hT hg (by with_unfolding_all rfl)
def cutV(xs:List V)(lo hi:Option Int):List V:=(xs.drop (HT.sIx xs.length 0 lo)).take (HT.sIx xs.length xs.length hi-HT.sIx xs.length 0 lo)
def sy(xs:List V)(lo hi:Option Int):(cutV xs lo hi).length<=xs.length:=by
 unfold cutV;rw[Jk,Jd];lia
def rSlT(K:Ex):V->Option Int->Option Int->Hp->VK->Prop:=λx lo hi H Q=>∃a xs,x=.ref a/\SqT K H a xs/\
 ¬(HT.sIx xs.length 0 lo=0/\HT.sIx xs.length xs.length hi=xs.length)/\∀p,H p=v9->Q (.ref p) (upd H p (.tup (cutV xs lo hi)))
def sA:SlR X (rSlT X.K):=by
 intro pins s σ H x v vl vu lo hi sl Q I rx hs pl pu h;obtain⟨a,xs,rfl,hx,hw,q⟩:=h;cases rx;obtain⟨its,r,ht,hz⟩:=I.tuple hx;have b8:its.toArray.size=xs.length:=by rw[HY];exact r.length.symm
 refine#["tuple",_,PyProof.Rows.slot_tuple_getitem.lookup,ht.typeIs,?_];refine HT.getItem_tuple_cut ht hs pl pu (by rw[b8];exact hw) ?_ (by rw[b8];exact hz);rw[b8];refine#[.ref s.heap.objs.size,_,I.laid (t':=s.toks) (o:=.tup (cutV xs lo hi)) (λb ob q=>Heap.get?_push_of_some _ q) (HP _) ?_,rfl,q _ (I.hok.fresh (HP _))];exact#[H8 (sy xs lo hi) hz,_,(r.drop (HT.sIx xs.length 0 lo)).take (HT.sIx xs.length xs.length hi-HT.sIx xs.length 0 lo),IsTup.new _ _]
def sB(K:Ex):R2:=λx y H Q=>∃a b xs ys,x=.ref a/\y=.ref b/\SqT K H a xs/\SqT K H b ys/\xs≠[]/\xs.length+ys.length<=sizeLine/\
 (ys=[]->Q (.ref a) H)/\(ys≠[]->∀p,H p=v9->Q (.ref p) (upd H p (.tup (xs++ys))))
def Vals.nil_iff{xs:List V}{us:List Os}(r:Vals xs us):us=[]↔xs=[]:=by
 cases r with
 |nil=>simp
 |cons _ _=>simp
def yQ:OpR X (Vv .Add) (sB X.K):=by
 intro pins s σ H x y v u Q I rx ry h;obtain⟨a,b,xs,ys,rfl,rfl,ha,hb,hx,hz,q1,q2⟩:=h;cases rx;cases ry;obtain⟨its,r1,p1,_⟩:=I.tuple ha;obtain⟨i6,r2,p2,_⟩:=I.tuple hb;refine HT.cat_tup p1 p2 (λz=>hx (r1.nil_iff.mp z)) (λz=>#[.ref a,H,I,rfl,q1 (r2.nil_iff.mp z)]) (λz=>?_) (by rw[<-r1.length,<-r2.length];exact hz);refine#[.ref s.heap.objs.size,_,I.laid (t':=s.toks) (o:=.tup (xs++ys)) (λb ob q=>Heap.get?_push_of_some _ q) (HP _) ?_,rfl,q2 (λw=>z (r2.nil_iff.mpr w)) _ (I.hok.fresh (HP _))];exact#[by rw[Ia];exact hz,_,r1.append r2,IsTup.new _ _]
end
def ixN(n:Nat)(i:Int):Option Nat:=if 0<=i then(if i<n then be i.toNat else v9)else if -(n:Int)<=i then be (i+n).toNat else v9
def atI{α:Type}(xs:List α)(i:Int):Option α:=(ixN xs.length i).bind λj=>xs[j]?
def sC{n:Nat}{i:Int}{j:Nat}(h:ixN n i=be j):seqIndex? i n=be j/\j<n/\-(n:Int)<=i/\i<n:=by
 unfold ixN at h;by_cases h0:0<=i
 .rw[if_pos h0]at h;by_cases h1:i<n
  .rw[if_pos h1]at h;have e:i.toNat=j:=Option.some.inj h;exact#[by rw[WK h0 h1,e],KK,KK,h1]
  .rw[if_neg h1]at h;cases h
 .rw[if_neg h0]at h;by_cases h1:-(n:Int)<=i
  .rw[if_pos h1]at h;have e:(i+n).toNat=j:=Option.some.inj h;exact#[by rw[Wz KK h1,e],KK,h1,KK]
  .rw[if_neg h1]at h;cases h
def atI_get{α:Type}{xs:List α}{i:Int}{v:α}(h:atI xs i=be v):∃j,seqIndex? i xs.length=be j/\xs[j]?=be v/\j<xs.length/\-(xs.length:Int)<=i/\i<xs.length:=by
 unfold atI at h;cases e:ixN xs.length i with
 |none=>rw[e]at h;cases h
 |some j=>
  rw[e]at h;obtain⟨h1,h2,h3,h4⟩:=sC e;exact#[j,h1,h,h2,h3,h4]
def bI{α:Type}{xs:List α}{j:Nat}{v:α}(h:xs[j]?=be v):atI xs (j:Int)=be v:=by
 have hj:j<xs.length:=(Ib.mp h).1;have e:ixN xs.length (j:Int)=be j:=by
  unfold ixN;rw[if_pos KK,if_pos KK];simp
 unfold atI;rw[e];exact h
def eI(b:U8):Prop:=∀o i,subscripted b false o i=operate [o,i] (Wk o i)
def IxR(X:Cx)(r:R2):Prop:=
 ∀(value slice:U8) (pins:List (Pi×Vp)) (s:SB) (σ:St) (H:Hp) (x y:V) (v u:Os) (Q:VK),Inv X pins σ H s->RelV x v->RelV y u->r x y H Q->
  subscripted slice false v u=operate [v,u] (Wk v u)->U_ (U9 X.prog X.w) X.A (subscriptTail value slice v u) (EP X pins σ Q) X.xe s
def MtR(X:Cx)(id:String)(r:V->List V->Hp->VK->Prop):Prop:=
 ∀(pins:List (Pi×Vp)) (s:SB) (σ:St) (H:Hp) (x:V) (xs:List V) (v:Os) (us:List Os) (Q:VK),Inv X pins σ H s->RelV x v->Vals xs us->r x xs H Q->
  U_ (U9 X.prog X.w) X.A (call (.builtin id) (v::us)) (EP X pins σ Q) X.xe s
section
variable {X:Cx}{a b:U8}{ta tb:TE}{pos:Vh}
def IxR.or{r r':R2}(h:IxR X r)(h':IxR X r'):IxR X (λx y H Q=>r x y H Q\/r' x y H Q):=by
 intro value slice pins s σ H x y v u Q I rx ry q hs;rcases q with q|q
 .exact h value slice pins s σ H x y v u Q I rx ry q hs
 .exact h' value slice pins s σ H x y v u Q I rx ry q hs
def pe_ix{r:R2}(hr:IxR X r)(ha:PE X a ta)(hb:PE X b tb)(hs:eI b):PE X (.Subscript a b pos) (tOp r ta tb):=by
 intro pins s σ H Q I h;exact Subscript_ (binT ha hb I h λv u s2 x y H2 I2 rx ry q=>hr a b pins s2 σ H2 x y v u Q I2 rx ry q (hs _ _))
def rIxL(K:Ex):R2:=λx y H Q=>∃p xs i v,x=.ref p/\y=.int i/\SqL K H p xs/\atI xs i=be v/\Q v H
def rIxT(K:Ex):R2:=λx y H Q=>∃p xs i v,x=.ref p/\y=.int i/\SqT K H p xs/\atI xs i=be v/\Q v H
def rIxS:R2:=λx y H Q=>∃z i c,x=.str z/\y=.int i/\z.length<=sizeLine/\atI z.cps.toList i=be c/\Q (.str #[[c].toArray]) H
def ix_list:IxR X (rIxL X.K):=by
 intro value slice pins s σ H x y v u Q I rx ry h hs;obtain⟨p,xs,i,z,rfl,rfl,hq,he,q⟩:=h;cases rx;obtain⟨t,rfl⟩:=ry;obtain⟨its,r,pl,hz⟩:=I.list hq;obtain⟨j,h1,h2,h3,h4,h5⟩:=atI_get he;obtain⟨w,ew,h_⟩:=r.get h2;have hl:=r.length;have hn:=line63;have e8:EP X pins σ Q w s:=#[z,H,I,h_,q];by_cases h0:0<=i
 .have hj:i.toNat=j:=by
   rw[WK h0 h5]at h1;exact Option.some.inj h1
  exact item_listR pl.isList h0 KK (by rw[hj];simpa using ew) e8 hs
 .have hj:(i+(its.toArray.size:Int)).toNat=j:=by
   rw[Wz KK h4]at h1;rw[HY,<-hl];exact Option.some.inj h1
  exact Wx (x:=w) pl.isList.typeIs slot_list_getitem.lookup
   (wpAny_getItem_list_neg (Q:=λr s'=>r=w/\EP X pins σ Q r s') pl.isList KK (by rw[HY]<;>lia) KK (by rw[hj];simpa using ew) #[rfl,e8]) hs
def ix_tup:IxR X (rIxT X.K):=by
 intro value slice pins s σ H x y v u Q I rx ry h hs;obtain⟨p,xs,i,z,rfl,rfl,hq,he,q⟩:=h;cases rx;obtain⟨t,rfl⟩:=ry;obtain⟨its,r,pl,hz⟩:=I.tuple hq;obtain⟨j,h1,h2,h3,h4,h5⟩:=atI_get he;obtain⟨w,ew,h_⟩:=r.get h2;have hl:=r.length;have hn:=line63;have e8:EP X pins σ Q w s:=#[z,H,I,h_,q];exact Wx (x:=w) pl.typeIs slot_tuple_getitem.lookup
  (getItem_tuple (j:=j) (Q:=λr s'=>r=w/\EP X pins σ Q r s') pl KK KK (by rw[HY,<-hl];exact h1) (by simpa using ew) #[rfl,e8]) hs
def yR:IxR X rIxS:=by
 intro value slice pins s σ H x y v u Q I rx ry h hs;obtain⟨z,i,c,rfl,rfl,hz,he,q⟩:=h;obtain⟨t,rfl⟩:=rx;obtain⟨t',rfl⟩:=ry;obtain⟨j,h1,h2,h3,h4,h5⟩:=atI_get he;have hl:z.cps.toList.length=z.length:=by simp[Str.length]
 rw[hl]at h1 h4 h5;have hn:=line63;exact tail_any (WV s z t) slot_str_getitem.lookup (getItem_str (c:=c) (by
  have e1:decide (i< -(2^63:Int))=false:=decide_eq_false KK;have e2:decide (i>=2^63)=false:=decide_eq_false KK;rw[e1,e2,Bool.or_false]) (by rw[h1];simpa using h2) #[.str #[[c].toArray],H,I.tok _,#[_,rfl],q]) hs
def rIx(K:Ex):R2:=λx y H Q=>rIxL K x y H Q\/rIxT K x y H Q\/rIxS x y H Q
def sE:IxR X (rIx X.K):=ix_list.or (ix_tup.or yR)
def yT(its:List Os)(n j:Nat)(u:Os):Obj.mapSeq (·.setIfInBounds j u) {cls:=.type "list",data:=.seq its.toArray n}={cls:=.type "list",data:=.seq (its.set j u).toArray n}:=by
 simp[Obj.mapSeq]
def Inv.lst{pins:List (Pi×Vp)}{σ:St}{H:Hp}{s:SB}{p:Pi}{xs:List V}(I:Inv X pins σ H s)(h:H p=be (.lst xs)):
  ∃(its:List Os) (n:Nat),Vals xs its/\s.heap.get? p=be {cls:=.type "list",data:=.seq its.toArray n}/\xs.length<=sizeLine:=by
 obtain⟨z,its,n,r,e⟩:=I.hok p _ h;exact#[its,n,r,e,z]
variable{pins:List (Pi×Vp)}{s:SB}
def Inv.lstUpd{σ:St}{H:Hp}{p:Pi}{xs ys:List V}{its its':List Os}{n n':Nat}{f:Vp->Vp}(I:Inv X pins σ H s)(h:H p=be (.lst xs))
  (ho:s.heap.get? p=be {cls:=.type "list",data:=.seq its.toArray n}) (hf:f {cls:=.type "list",data:=.seq its.toArray n}={cls:=.type "list",data:=.seq its'.toArray n'}) (r:Vals ys its') (hz:ys.length<=sizeLine) (t:Nat):
  Inv X pins σ (upd H p (.lst ys)) {s with heap:=s.heap.update p f,toks:=t}:=by
 have e:(s.heap.update p f).get? p=be {cls:=.type "list",data:=.seq its'.toArray n'}:=by
  rw[Heap.get?_update_self f ho (by rw[hf]<;>rfl),hf]
 refine I.write (x:=p) (e:=p) (by rw[h];trivial) (.inl rfl) (λb u hb q=>(Heap.get?_update_other _ _ (Ne.symm hb)).trans q) #[_,e] ?_;exact#[hz,its',n',r,e]
def yU:V->V->V->Hp->(Hp->Prop)->Prop:=λo i v H Q=>∃p xs k j,o=.ref p/\i=.int k/\H p=be (.lst xs)/\ixN xs.length k=be j/\Q (upd H p (.lst (xs.set j v)))
def sF:PSet X yU:=by
 intro pins s σ H o i v ov iv u Q I ro ri rv h;obtain⟨p,xs,k,j,rfl,rfl,hp,hj,q⟩:=h;cases ro;obtain⟨t,rfl⟩:=ri;obtain⟨its,n,r,ho,hz⟩:=I.lst hp;obtain⟨h1,h2,h3,h4⟩:=sC hj;have hl:=r.length;have hn:=line63;have I':Inv X pins σ (upd H p (.lst (xs.set j v))) {s with heap:=s.heap.update p (Obj.mapSeq (·.setIfInBounds j u))}:=
  I.lstUpd hp ho (yT its n j u) (r.set rv j) (by rw[IH];exact hz) s.toks
 by_cases h0:0<=k
 .have hk:k.toNat=j:=by
   rw[WK h0 h4]at h1;exact Option.some.inj h1
  exact ki_setAt ho h0 KK (by rw[HY,<-hl];exact h4) (by rw[hk];exact#[_,I',q])
 .have hk:(k+(its.toArray.size:Int)).toNat=j:=by
   rw[Wz KK h3]at h1;rw[HY,<-hl];exact Option.some.inj h1
  exact ki_setBack ho KK (by rw[HY,<-hl];exact h3) KK (by rw[hk];exact#[_,I',q])
def yV(lo hi:Option Int)(n:Nat):(VN lo hi v9 n).1=((HT.sIx n 0 lo:Nat):Int)/\(VN lo hi v9 n).2.1=((HT.sIx n n hi:Nat):Int)/\(VN lo hi v9 n).2.2=1:=by
 refine#[?_,?_,rfl]
 .cases lo with
  |none=>simp[VN,HT.sIx]
  |some i=>
   simp only[VN,HT.sIx,KA,show(1:Int)>0 by decide,if_true];by_cases h:i<0
   .simp only[h,if_true]<;>lia
   .simp only[h,if_false]<;>lia
 .cases hi with
  |none=>simp[VN,HT.sIx]
  |some i=>
   simp only[VN,HT.sIx,KA,show(1:Int)>0 by decide,if_true];by_cases h:i<0
   .simp only[h,if_true]<;>lia
   .simp only[h,if_false]<;>lia
def yY(its:List Os)(lo hi:Option Int):slicePick its.toArray lo hi v9=((its.drop (HT.sIx its.length 0 lo)).take (HT.sIx its.length its.length hi-HT.sIx its.length 0 lo)).toArray:=by
 obtain⟨h1,h2,h3⟩:=yV lo hi its.toArray.size;unfold slicePick;rw[h1,h2,h3];simp only[sliceRange_one,pick_run,HY]<;>rfl
def rSlL(K:Ex):V->Option Int->Option Int->Hp->VK->Prop:=λx lo hi H Q=>∃a xs,x=.ref a/\SqL K H a xs/\∀p,H p=v9->Q (.ref p) (upd H p (.lst (cutV xs lo hi)))
def gX:SlR X (rSlL X.K):=by
 intro pins s σ H x v vl vu lo hi sl Q I rx hs pl pu h;obtain⟨a,xs,rfl,hx,q⟩:=h;cases rx;obtain⟨its,r,ht,hz⟩:=I.list hx;have b8:=r.length;refine#["list",_,slot_list_getitem.lookup,ht.isList.typeIs,?_];refine wpAny_getItem_list_slice ht.isList hs pl pu .none MD ?_ (by rw[HY]<;>lia);rw[yY,<-b8];refine#[.ref s.heap.objs.size,_,I.laid (t':=s.toks) (o:=.lst (cutV xs lo hi)) (λb ob q=>Heap.get?_push_of_some _ q) (HP _) ?_,rfl,q _ (I.hok.fresh (HP _))];exact#[H8 (sy xs lo hi) hz,_,0,(r.drop (HT.sIx xs.length 0 lo)).take (HT.sIx xs.length xs.length hi-HT.sIx xs.length 0 lo),Heap.get?_push_size _ rfl]
def bE:V->Bool
 |.non=>true
 |.bl _=>true
 |.int _=>true
 |.str _=>true
 |_=>false
def eqV:V->V->Bool
 |.non,.non=>true
 |.bl a,.bl b=>a==b
 |.bl a,.int b=>(if a then 1 else 0)==b
 |.int a,.bl b=>a==(if b then 1 else 0)
 |.int a,.int b=>a==b
 |.str a,.str b=>a==b
 |_,_=>false
variable{x:V}
def eqAt_V{A:Vb}{y:V}{u v:Os}(ry:RelV y u)(rx:RelV x v)(fy:bE y=true)(fx:bE x=true):SeqAt.EqAt A s u v (eqV y x):=by
 cases y with
 |non=>
  cases ry;cases x with
  |non=>cases rx;exact SeqAt.EqAt.same _
  |bl b=>cases rx;exact SeqAt.EqAt.none_bool b
  |int b=>obtain⟨t,rfl⟩:=rx;exact SeqAt.EqAt.none_int b t
  |str b=>obtain⟨t,rfl⟩:=rx;exact SeqAt.EqAt.none_str b t
  |_=>exact absurd (show false=true from fx) Ie
 |bl a=>
  cases ry;cases x with
  |non=>cases rx;exact SeqAt.EqAt.bool_none a
  |bl b=>cases rx;exact SeqAt.EqAt.bool_bool a b
  |int b=>obtain⟨t,rfl⟩:=rx;exact SeqAt.EqAt.bool_int a b t
  |str b=>obtain⟨t,rfl⟩:=rx;exact SeqAt.EqAt.bool_str a b t
  |_=>exact absurd (show false=true from fx) Ie
 |int a=>
  obtain⟨t',rfl⟩:=ry;cases x with
  |non=>cases rx;exact SeqAt.EqAt.int_none a t'
  |bl b=>cases rx;exact SeqAt.EqAt.int_bool a t' b
  |int b=>obtain⟨t,rfl⟩:=rx;exact SeqAt.EqAt.int_int a t' b t
  |str b=>obtain⟨t,rfl⟩:=rx;exact SeqAt.EqAt.int_str a t' b t
  |_=>exact absurd (show false=true from fx) Ie
 |str a=>
  obtain⟨t',rfl⟩:=ry;cases x with
  |non=>cases rx;exact SeqAt.EqAt.str_none a t'
  |bl b=>cases rx;exact SeqAt.EqAt.str_bool a t' b
  |int b=>obtain⟨t,rfl⟩:=rx;exact SeqAt.EqAt.str_int a t' b t
  |str b=>obtain⟨t,rfl⟩:=rx;exact SeqAt.EqAt.str_str a t' b t
  |_=>exact absurd (show false=true from fx) Ie
 |_=>exact absurd (show false=true from fy) Ie
def eqU(x:V)(u:Os):Bool:=match u with
 |.none=>eqV .non x
 |.bool b=>eqV (.bl b) x
 |.int i _=>eqV (.int i) x
 |.str z _=>eqV (.str z) x
 |_=>false
def sG{y:V}{u:Os}(r:RelV y u)(f:bE y=true):eqU x u=eqV y x:=by
 cases y with
 |non=>cases r;rfl
 |bl b=>cases r;rfl
 |int i=>obtain⟨t,rfl⟩:=r;rfl
 |str z=>obtain⟨t,rfl⟩:=r;rfl
 |_=>exact absurd (show false=true from f) Ie
def kD{x:V}:∀{xs:List V} {us:List Os},Vals xs us->xs.all bE=true->us.any (eqU x)=xs.any λy=>eqV y x
 |_,_,.nil,_=>rfl
 |y::xs,u::us,.cons r t,f=>by
  rw[Jl,Iw]at f;rw[JP,JP,sG r f.1,kD t f.2]
def mem_eqAt{A:Vb}{s:SB}{x:V}{v:Os}(rx:RelV x v)(fx:bE x=true):∀{xs:List V} {us:List Os},Vals xs us->xs.all bE=true->∀u∈us,SeqAt.EqAt A s u v (eqU x u)
 |_,_,.nil,_=>λu hu=>by cases hu
 |y::xs,u::us,.cons r t,f=>λu' hu=>by
  rw[Jl,Iw]at f;rcases HQ.mp hu with rfl|hu
  .rw[sG r f.1];exact eqAt_V r rx f.1 fx
  .exact mem_eqAt rx fx t f.2 u' hu
def inV(x:V)(xs:List V):Bool:=xs.any λy=>eqV y x
def rIn(K:Ex)(neg:Bool):R2:=λx y H Q=>∃p xs,y=.ref p/\(SqL K H p xs\/SqT K H p xs)/\bE x=true/\xs.all bE=true/\Q (.bl (if neg then !inV x xs else inV x xs)) H
def yZ:OpR X (Vi .NotIn) (rIn X.K true):=by
 intro pins s σ H x y v u Q I rx ry h;obtain⟨p,xs,rfl,hq,fx,fs,q⟩:=h;cases ry;rcases hq with hq|hq
 .obtain⟨its,r,pl,hz⟩:=I.list hq;refine SeqAt.notIn_listAt (eqU x) pl.isList (λw hw=>mem_eqAt rx fx r fs w (by simpa using hw)) #[.bl _,H,I,rfl,?_];rw[show its.toArray.any (eqU x)=its.any (eqU x)by simp,kD r fs];exact q
 .obtain⟨its,r,pl,hz⟩:=I.tuple hq;refine SeqAt.notIn_tupleAt (eqU x) pl (λw hw=>mem_eqAt rx fx r fs w (by simpa using hw)) #[.bl _,H,I,rfl,?_];rw[show its.toArray.any (eqU x)=its.any (eqU x)by simp,kD r fs];exact q
def za:OpR X (Vi .NotIn) (λx y H Q=>∃i j,x=.str i/\y=.str j/\Q (.bl (!(!(Builtin.Str.occurrences j i 0 j.length 1).isEmpty))) H):=by
 intro pins s σ H x y v u Q I rx ry h;obtain⟨i,j,rfl,rfl,q⟩:=h;obtain⟨t,rfl⟩:=rx;obtain⟨t',rfl⟩:=ry;exact notIn_str #[.bl _,H,I,rfl,q]
def sH:bO X (.type "list") (λxs H Q=>∃p ys,xs=[.ref p]/\(SqL X.K H p ys\/SqT X.K H p ys)/\∀l,H l=v9->Q (.ref l) (upd H l (.lst ys))):=by
 intro pins s σ H xs us Q I r h;obtain⟨p,ys,rfl,hq,q⟩:=h;obtain⟨u,rfl,rx⟩:=cb r;cases rx;have e8:∀(its:List Os),Vals ys its->ys.length<=sizeLine->∀(h':Heap) (c':Nat),(∀b o',s.heap.get? b=be o'->h'.get? b=be o')->
   h'.get? s.heap.objs.size=be {cls:=.type "list",dict:=v9,data:=.seq its.toArray c',slots:=[].toArray}->EP X pins σ Q (.ref s.heap.objs.size) {s with heap:=h'}:=λits r' hz h' c' kp e=>
  #[.ref s.heap.objs.size,_,I.laid (t':=s.toks) kp (HP _) (show ObjOk X.prog X.w _ h' _ (.lst ys)from#[hz,its,c',r',e]),rfl,q _ (I.hok.fresh (HP _))]
 rcases hq with hq|hq
 .obtain⟨its,r',pl,hz⟩:=I.list hq;have b8:=r'.length;obtain⟨o,ho,hc,n,hd⟩:=pl.isList;exact call_list_seq p (.inl rfl) ho hc hd (λh' c' kp e=>e8 its r' hz h' c' kp e) (by simp only[HY]<;>lia)
 .obtain⟨its,r',pl,hz⟩:=I.tuple hq;have b8:=r'.length;obtain⟨o,ho,hc,n,hd⟩:=pl;exact call_list_seq p (.inr rfl) ho hc hd (λh' c' kp e=>e8 its r' hz h' c' kp e) (by simp only[HY]<;>lia)
def tyV(K:Ex)(T:String)(x:V)(H:Hp):Prop:=match x with
 |.str _=>T="str"
 |.int _=>T="int"
 | .ref p=>(T="list"/\∃xs,SqL K H p xs)\/(T="tuple"/\∃o,K.lookup p=be o/\o.cls=.type "tuple"/\o.dict=v9)\/
   (T="dict"/\((∃a9,H p=be (.dK a9))\/∃a9,H p=be (.dT a9)))\/(T="set"/\∃S n,H p=be (.set S n))
 |_=>False
def sI{σ:St}{H:Hp}{T:String}{v:Os}(I:Inv X pins σ H s)(r:RelV x v)(ty:tyV X.K T x H):
  s.TypeIs v T/\∀a,v=.ref a->∃ob,s.heap.get? a=be ob/\ob.dict=none:=by
 cases x with
 |str z=>
  obtain⟨t,rfl⟩:=r;cases(show T="str" from ty);exact#[WV s z t,λ_ e=>nomatch e]
 |int i=>
  obtain⟨t,rfl⟩:=r;cases(show T="int" from ty);exact#[typeIs_int s i t,λ_ e=>nomatch e]
 |ref p=>
  cases r;rcases ty with⟨rfl,xs,hq⟩|⟨rfl,o,hk,hc,hd⟩|⟨rfl,hk⟩|⟨rfl,S,n,hk⟩
  .obtain⟨its,_,pl,_⟩:=I.list hq;refine#[pl.isList.typeIs,λa e=>?_];cases e;obtain⟨o,n,e,c,hd,_⟩:=pl;exact#[o,e,hd]
  .refine#[#[o,I.kIn p o hk,hc],λa e=>?_];cases e;exact#[o,I.kIn _ o hk,hd]
  .have z:∃o,s.heap.get? p=be o/\o.ExactDict:=by
    rcases hk with⟨a9,hk⟩|⟨a9,hk⟩
    .obtain⟨_,_,_,_,o,_,_,e,ex,_⟩:=I.hok p _ hk;exact#[o,e,ex]
    .obtain⟨_,_,_,_,o,_,_,e,ex,_⟩:=I.hok p _ hk;exact#[o,e,ex]
   obtain⟨o,e,ex⟩:=z;refine#[#[o,e,ex.1],λa e2=>?_];cases e2;exact#[o,e,ex.2.1]
  .obtain⟨o,_,_,_,e,ex,_⟩:=I.hok p _ hk;refine#[#[o,e,ex.1],λa e2=>?_];cases e2;exact#[o,e,ex.2.1]
 |_=>exact False.elim ty
def tBM0(K:Ex)(T:String)(r:V->List V->Hp->VK->Prop)(to:TE):TE:=λσ H Q=>to σ H λx H1=>tyV K T x H1/\r x [] H1 Q
def tBM(K:Ex)(T:String)(r:V->List V->Hp->VK->Prop)(to:TE)(t:TA):TE:=λσ H Q=>to σ H λx H1=>tyV K T x H1/\t σ H1 λxs H2=>r x xs H2 Q
variable {o e:U8}{es:List U8}{to:TE}{t:TA}{name:LB}{apos cpos:Vh}{T id:String}{r:V->List V->Hp->VK->Prop}
def zb(pa:PlainAttrs T)(slot:Slot T name id)(NH:typeOf (.builtin id)=pure (.type "method_descriptor"))(hm:MtR X id r)(ho:PE X o to)
  (b7:autoParam (Ve o name X.env (Vf o X.env)=Vf o X.env) zA0) (b_:autoParam ((apos.endLine==cpos.line)=true) zA0):PE X (.Call (.Attribute o name apos) [] [] cpos) (tBM0 X.K T r to):=by
 intro pins s σ H Q I h;refine wpAny_Call_method0_late b7 b_ (thn (ho pins s σ H _ I h) λv s1 b9=>?_);obtain⟨x,H1,I1,r1,ty,q1⟩:=b9;obtain⟨h1,h2⟩:=sI I1 r1 ty;exact#[T,id,pa,slot,NH,h1,h2,Calls.callWith_builtin rfl (PySem.evalArgs_none (hm pins s1 σ H1 x [] v [] Q I1 r1 .nil q1))]
def eJ(pa:PlainAttrs T)(slot:Slot T name id)(NH:typeOf (.builtin id)=pure (.type "method_descriptor"))(hm:MtR X id r)(ho:PE X o to)(ha:PA X (e::es) t)
  (b7:autoParam (Ve o name X.env (Vf o X.env)=Vf o X.env) zA0)
  (d8:((VH cpos (Vc (e::es) X.env)).all (λx=>!x.1)&&(V1 cpos (VF [] X.env)).all (λx=>x.1.isSome)
   && decide ((e::es).length+([]:List V').length+(if([]:List V').isEmpty then 0 else 1)<30))=true:=by rfl)
  (b_:autoParam ((apos.endLine==cpos.line)=true) zA0) (hs:autoParam (zSE X e es) zA0) (o7:autoParam (zPL X cpos es) zA0):
  PE X (.Call (.Attribute o name apos) (e::es) [] cpos) (tBM X.K T r to t):=by
 intro pins s σ H Q I h;refine wpAny_Call_method_late b7 d8 b_ rfl (thn (ho pins s σ H _ I h) λv s1 b9=>?_);obtain⟨x,H1,I1,r1,ty,q1⟩:=b9;obtain⟨h1,h2⟩:=sI I1 r1 ty;refine#[T,id,pa,slot,NH,h1,h2,?_];have hA:=ha cpos pins s1 σ H1 _ I1 q1;rw[hs]at hA ⊢;refine Calls.callWith_builtin (by show(false||(VH cpos (Vc es X.env)).any (·.1))=false;rw[o7]<;>rfl) (Calls.evalArgs_plain ?_);exact thn hA λus s2 ⟨vs,H2,I2,r2,q2⟩=>hm pins s2 σ H2 x vs v us Q I2 r1 r2 q2
end
def MtM(X:Cx)(id:String)(r:V->List V->Hp->VK->Prop):Prop:=
 ∀(pins:List (Pi×Vp)) (s:SB) (σ:St) (H:Hp) (x:V) (xs:List V) (v:Os) (us:List Os) (Q:VK),Inv X pins σ H s->RelV x v->Vals xs us->r x xs H Q->
  U_ (U9 X.prog X.w) X.A (call (.builtin id) (v::us)) (EP X pins σ Q) X.xe s
def Vals.one:∀{x:V} {us:List Os},Vals [x] us->∃u,us=[u]/\RelV x u:=by
 intro x us h;cases h with
 |cons r h=>cases h;exact#[_,rfl,r]
def Vals.zero:∀{us:List Os},Vals [] us->us=[]
 |_,.nil=>rfl
def Vals.dropLast{xs:List V}{us:List Os}(h:Vals xs us):Vals xs.dropLast us.dropLast:=by
 induction h with
 |nil=>exact .nil
 |cons r t ih=>
  cases t with
  |nil=>exact .nil
  |cons q t'=>exact .cons r ih
def zc{α:Type}(l:List α):l.eraseIdx (l.length-1)=l.dropLast:=by
 induction l with
 |nil=>rfl
 |cons a r ih=>
  cases r with
  |nil=>rfl
  |cons b r=>
   have e:(a::b::r).length-1=((b::r).length-1)+1:=by
    have h1:(a::b::r).length=r.length+2:=rfl;have h2:(b::r).length=r.length+1:=rfl;lia
   rw[e,List.eraseIdx_cons_succ,ih]
   all_goals rfl
section
variable {X:Cx}{pins:List (Pi×Vp)}{σ:St}{H:Hp}{s:SB}{l b:Pi}{xs ys zs:List V}
variable{its:List Os}
def Inv.lset{its':List Os}{n:Nat}{f:Array Os->Array Os}{t':Nat}(I:Inv X pins σ H s)(hH:H l=be (.lst xs))
  (e:s.heap.get? l=be {cls:=.type "list",data:=.seq its.toArray n}) (hf:f its.toArray=its'.toArray) (hv:Vals ys its') (hz:ys.length<=sizeLine):
  Inv X pins σ (upd H l (.lst ys)) {s with heap:=s.heap.update l (Obj.mapSeq f),toks:=t'}:=by
 have q:=PySem.IsL.update e f;rw[hf]at q;refine I.write (x:=l) (e:=l) (by rw[hH];exact trivial) (.inl rfl) (λb' u hb hu=>(Heap.get?_update_other s.heap (Obj.mapSeq f) (Ne.symm hb)).trans hu) #[_,q] ?_;exact#[hz,its',_,hv,q]
def Inv.lnew{t':Nat}(I:Inv X pins σ H s)(hv:Vals ys its)(hz:ys.length<=sizeLine):
  Inv X pins σ (upd H s.heap.objs.size (.lst ys)) {s with heap:=s.heap.push {cls:=.type "list",data:=.seq its.toArray},toks:=t'}:=
 I.laid (λ_ _ q=>Heap.get?_push_of_some _ q) (HP _) #[hz,its,0,hv,Heap.get?_push_size _ rfl]
def Inv.fresh(I:Inv X pins σ H s):H s.heap.objs.size=none:=I.hok.fresh (HP _)
def Inv.lstM(I:Inv X pins σ H s)(hH:H l=be (.lst xs)):xs.length<=sizeLine/\∃(its:List Os) (n:Nat),Vals xs its/\xs.length=its.length/\s.heap.get? l=be {cls:=.type "list",data:=.seq its.toArray n}:=by
 obtain⟨z,its,n,r,e⟩:=I.hok l _ hH;exact#[z,its,n,r,r.length,e]
def zd{n:Nat}(h:n<=sizeLine):Builtin.List.listTooLong n=false:=by
 unfold Builtin.List.listTooLong;exact decide_eq_false KK
end
section
variable {X:Cx}
def ze:V->List V->Hp->VK->Prop:=λx vs H Q=>∃l xs y,x=.ref l/\vs=[y]/\H l=be (.lst xs)/\xs.length<sizeLine/\Q .non (upd H l (.lst (xs++[y])))
def kE:MtM X "list.append" ze:=by
 intro pins s σ H x vs v us Q I rx rv h;obtain⟨l,xs,y,rfl,rfl,hH,hz,q⟩:=h;cases rx;obtain⟨u,rfl,ru⟩:=rv.one;obtain⟨z,its,n,r,hl,e⟩:=I.lstM hH;refine WX F.slot_list_append #[_,e,rfl] F.entry_list_append (F.args_list_append_2 _ _) (PySem.list_append l its.toArray n u (by rw[HY];lia)) #[e,?_];refine#[.non,_,I.lset (its':=its++[u]) hH e MD (r.append (.cons ru .nil)) ?_,rfl,q];rw[Ia,KB];lia
def zf:V->List V->Hp->VK->Prop:=λx vs H Q=>∃l b xs zs,x=.ref l/\vs=[.ref b]/\H l=be (.lst xs)/\H b=be (.lst zs)/\xs.length+zs.length<=sizeLine/\Q .non (upd H l (.lst (xs++zs)))
def HH:MtM X "list.extend" zf:=by
 intro pins s σ H x vs v us Q I rx rv h;obtain⟨l,b,xs,zs,rfl,rfl,hH,hB,hz,q⟩:=h;cases rx;obtain⟨u,rfl,ru⟩:=rv.one;cases ru;obtain⟨z,its,n,r,hl,e⟩:=I.lstM hH;obtain⟨z2,i6,n2,r2,OG,e2⟩:=I.lstM hB;have j7:its.toArray.size+i6.toArray.size<=sizeLine:=by rw[HY,HY];lia
 have NI:¬(!its.toArray.isEmpty&&Builtin.List.listTooLong (its.toArray.size+i6.toArray.size))=true:=by
  rw[zd j7,Bool.and_false];exact Ie
 refine WX F.slot_list_extend #[_,e,rfl] F.entry_list_extend (F.args_list_extend_2 _ _)
  (AutoSeq1.list_extend_list_list_0 l its.toArray n b i6.toArray n2 NI (by rw[HY];lia) KK) #[e,e2,?_]
 refine#[.non,_,I.lset (its':=its++i6) hH e MD (r.append r2) ?_,rfl,q];rw[Ia];lia
def rPop:V->List V->Hp->VK->Prop:=λx vs H Q=>∃l xs y,x=.ref l/\vs=[]/\H l=be (.lst xs)/\xs[xs.length-1]?=be y/\Q y (upd H l (.lst xs.dropLast))
def zg:MtM X "list.pop" rPop:=by
 intro pins s σ H x vs v us Q I rx rv h;obtain⟨l,xs,y,rfl,rfl,hH,hy,q⟩:=h;cases rx;have SG:=rv.zero;subst SG;obtain⟨z,its,n,r,hl,e⟩:=I.lstM hH;obtain⟨u,hu,ru⟩:=r.get hy;have O_:its.toArray[its.toArray.size-1]?=be u:=by
  show its.toArray[its.length-1]?=be u;rw[<-KC,<-hl];exact hu
 refine WX F.slot_list_pop #[_,e,rfl] F.entry_list_pop (F.args_list_pop_1 _) (MeetsSeq.list_pop_last l its.toArray n u O_ (by rw[HY];lia)) #[e,?_];refine#[y,_,I.lset (its':=its.dropLast) hH e ?_ r.dropLast ?_,ru,q]
 .show its.toArray.eraseIdxIfInBounds (its.toArray.size-1)=its.dropLast.toArray;rw[HY,List.eraseIdxIfInBounds_toArray,zc]
 .rw[List.length_dropLast];lia
def rCat:R2:=λx y H Q=>∃l b xs zs,x=.ref l/\y=.ref b/\H l=be (.lst xs)/\H b=be (.lst zs)/\xs.length+zs.length<=sizeLine/\∀p,H p=v9->Q (.ref p) (upd H p (.lst (xs++zs)))
def sJ:OpR X (Vv .Add) rCat:=by
 intro pins s σ H x y v u Q I rx ry h;obtain⟨l,b,xs,zs,rfl,rfl,hH,hB,hz,q⟩:=h;cases rx;cases ry;obtain⟨z,its,n,r,hl,e⟩:=I.lstM hH;obtain⟨z2,i6,n2,r2,OG,e2⟩:=I.lstM hB;refine PySem.P.add_list e e2 ?_ (by rw[HY,HY];lia);have ea:its.toArray++i6.toArray=(its++i6).toArray:=MD
 rw[ea];exact#[.ref _,_,I.lnew (t':=s.toks) (r.append r2) (by rw[Ia];lia),rfl,q _ I.fresh]
end
end L2
namespace RE
open PySem PySem.W PySem.Calls PyProof.Rows
variable{P:Params}
def zh{h:Heap}:∀(ns:List Int) (vs:List Os),WellAll P h vs (ns.map WData.int)->WG vs ns:=by
 intro ns;induction ns with
 |nil=>
  intro vs w;rw[Jn]at w;cases w;exact .nil
 |cons n ns ih=>
  intro vs w;rw[Il]at w;cases w with
  |cons a b=>
   cases a;exact .cons _ _ (ih _ b)
variable{l:OpenLaw}
def zi{n:Nat}(hn:l.most=be n){h:Heap}{args:List WData}{Mu:List Os}
  (LF:l.row.toRowW.claim.pre args=true) (Pa:WellAll P h Mu args):
  ∃a vs ns,Mu=[Value.ref a]/\args=[WData.list (ns.map WData.int)]/\h.get? a=be {cls:=.type "list",data:=.seq vs.toArray}/\WG vs ns/\ns.length<=n:=by
 have SH:WShape.hasAll [] args [.list .int]=true:=(pre_splitW LF).1;have hc:l.pre.holds [] {args:=args}=true:=(pre_splitW LF).2;obtain⟨d,r,rfl,h1,h2⟩:=hasAllW_cons SH;obtain rfl:=hasAllW_nil h2;obtain⟨xs,rfl,h3⟩:=hasW_list h1;obtain⟨ns,rfl⟩:=items_int h3;have b8:ns.length<=n:=by
  unfold OpenLaw.pre at hc;have h4:(WTm.not (.lt (.lit (.int (n:Int))) (.len (.arg 0)))).holds [] {args:=[.list (ns.map .int)]}=true:=by
   have h4:=(holds_andW hc).1;rw[hn]at h4;exact h4
  have h5:=condW_of h4 (w_not (w_lt w_lit (w_len_list (w_arg rfl))));rw[HR]at h5;refine JQ λq=>?_;have q':(n:Int)<((ns.length:Nat):Int):=KK
  first
   |(rw[decide_eq_true q']at h5;exact absurd h5 Mx)
   |(simp at h5;lia)
 cases Pa with
 |cons w1 w2=>
  cases w2;cases w1 with
  |list ho LG=>exact#[_,_,ns,rfl,rfl,ho,zh ns _ LG,b8]
def zj(l:OpenLaw)(args:List WData):l.row.toRowW.claim.post args (.bool true) args=true:=
 postW_of (r:=l.row.toRowW) (X:=(true==true))
  (show WShape.has [] (.bool true) .bool=true by first|rfl|decide|simp[WShape.has,WShape.arms,WShape.armsAll])
  (show(WTm.eq .res (.lit (.bool true))).value [] {args:=args,res:=be (.bool true),after:=args}=be (.bool (true==true))from w_eq_bool (w_res rfl) w_lit) rfl
def attach_call{n:Nat}{q:U'}{k8:List LB}{XP:(LB->Option Os)->Heap->Prop}{YP:Va->Heap->Prop}{d:DefRec}
  (hn:l.most=be n) (NJ:d.params.defaults=[])
  (call:∀(w:Va) (s₀ s₁:SB) (mg mb:LB->Option Os) (fa:Pi) (o:Vp) (pm cd doc:Os) (a:Pi) (vs:List Os) (ns:List Int),
   Ground q k8 [] XP w s₀ mg mb s₁.heap->YP w s₁.heap->
   s₁.heap.get? fa=be o->o.data=.func (docDef d.name d.params d.body d.scope pm cd doc)->s₁.heap.CodeRec cd d.name->mg d.name=be (.ref fa)->
   s₁.heap.get? a=be {cls:=.type "list",data:=.seq vs.toArray}->WG vs ns->ns.length<=n->s₁.gens=[].toArray->
   V9 (U9 l.prog w) Wc (.call (.ref fa) #[[.ref a],[]]) (λr s'=>r=.ok (.ret (.bool true))/\OldK s₁.heap s'.heap/\s'.os=s₁.os/\VY s'.gens) s₁):
  WalkO q k8 XP YP l.row.toRowW d [] (λf vs=>PySem.call f vs):=by
 intro w s₀ s₁ mg mb G Y fa o pm cd doc dV kV ho hd gt hD j_ hg args Mu as LF SI Uu Pa Uv;obtain rfl:dV=.none:=Dflts.none hD NJ;obtain rfl:kV=.none:=Dflts.noKw hD;obtain⟨a,vs,ns,rfl,rfl,Mw,z8,b8⟩:=zi hn LF Pa;refine enter_call (VG (call w s₀ s₁ mg mb fa o pm cd doc a vs ns G Y ho (fd_plain hd) gt j_ Mw z8 b8 hg) λr s' hq=>?_);obtain⟨rfl,h2,h3,h4⟩:=hq;exact#[.inl #[.bool true,.bool true,[],rfl,λ_=>rfl,.bool true,zj l _,λ_=>#[List.Pairwise.nil,λ_ hm=>(nomatch hm)]],h2,h3,h4]
end RE
namespace L2
open PySem PySem.Spec PyProof.Rows
def sK:∀{vs:List Os} {ns:List Int},WG vs ns->Vals (ns.map V.int) vs
 |_,_,.nil=>.nil
 |_,_,.cons n t h=>.cons #[t,rfl] (sK h)
def Only(H:Hp):Prop:=∀b,H b=v9\/∃o xs,H b=be (.frz o (.lst xs))
variable{P:U'}{w:Va}{k:Nat}{a:Pi}
def zk{K:Ex}{mg mb:LB->Option Os}{CX:CXT}{fa:Pi}{fd:Vg}{x:LB}{sp:Sp}{s₁:SB}{vs:List Os}{ns:List Int}
  (KX:K.In s₁.heap) (hns:s₁.heap.Ns SL mg) (hb:s₁.heap.Ns WY mb) (SJ:∀x:LB,x≠"__name__"->mb x=Vo x) (Pb:s₁.heap.NoLimit) (hg:s₁.gens=[].toArray)
  (ha:s₁.heap.get? a=be {cls:=.type "list",data:=.seq vs.toArray}) (hi:WG vs ns) (hl:ns.length<=sizeLine) (hr:Room k Wc)
  (F:∀base:Heap,K.In base->base.Ns SL mg->FnOk P w K mg base CX k fa fd [x] sp) (NK:∀(s:SB) (u:Os),V3 s fd #[[u],[]] [(x,u)])
  (z7:∀H:Hp,Only H->SqL K H a (ns.map V.int)->sp [.ref a] H (λv _=>v=.bl true) λ_ _ _=>False)
  (Pc:∀H e s',CX [] H s₁ (λ_ _ _=>False) e s'->False):
  V9 (U9 P w) Wc (.call (.ref fa) #[[.ref a],[]]) (λr s'=>r=.ok (.ret (.bool true))/\OldK s₁.heap s'.heap/\s'.os=s₁.os/\VY s'.gens) s₁:=by
 have rv:=sK hi;have Pd:=hi.length;have NM:∀H:Hp,Only H->SqL K H a (ns.map V.int)->HOk P w H s₁.heap->(∀b,H b≠v9->b=a)->(H a≠v9->K.lookup a=v9)->
   V9 (U9 P w) Wc (.call (.ref fa) #[[.ref a],[]]) (λr s'=>r=.ok (.ret (.bool true))/\OldK s₁.heap s'.heap/\s'.os=s₁.os/\VY s'.gens) s₁:=by
  intro H hO hS hok hA hK;have q9:∀{b:Pi} {o:Vp},s₁.heap.get? b=be o->H b=v9->(hidT s₁.heap H).get? b=be o:=λe n=>xo e n;have NF:∀{b:Pi} {o:Vp} {es:Array DictEntry} {ep:Nat},s₁.heap.get? b=be o->o.data=.dict es ep->H b=none:=λ{b o es ep} e d=>by
   cases q:H b with
   |none=>rfl
   |some u=>
    have e':b=a:=hA b (by rw[q];simp);subst e';rw[ha]at e;cases e;have d':Data.seq vs.toArray _=Data.dict es ep:=d;cases d'
  have OI:∀{b:Pi} {m:LB->Option Os},s₁.heap.Ns b m->(hidT s₁.heap H).Ns b m:=λ{b m} ⟨o,es,ep,e,d,r⟩=>#[o,es,ep,q9 e (NF e d),d,r];have RG:K.In (hidT s₁.heap H):=λb o e=>q9 (KX b o e) (by
   cases q:H b with
   |none=>rfl
   |some u=>
    have e':b=a:=hA b (by rw[q];simp);subst e';rw[hK (by rw[q];simp)]at e;cases e)
  have hM:Mod K mg (hidT s₁.heap H):=#[RG,OI hns,#[mb,OI hb,SJ],let ⟨mc,h1,h2⟩:=Pb;#[mc,OI h1,h2]];have e0:Env0 P w K mg (hidT s₁.heap H) Wc [] s₁ H:=#[rfl,hM,λb o e=>xp e,JO (xn _ _),trivial,λb hb=>absurd (show b∈([]:List Pi)from hb) MD,hok,.of_eq hg];refine VG ((F _ RG (OI hns)).run Wc [] s₁ H #[[.ref a],[]] [.ref a] [.ref a] _ _ hr e0 (NK s₁ (.ref a)) (.cons rfl .nil) (z7 H hO hS)) λr s' h=>?_;cases r with
  |error e=>exact(Pc H e s' h).elim
  |ok fl=>
   cases fl with
   |next=>exact False.elim h
   |brk=>exact False.elim h
   |cont=>exact False.elim h
   |ret u=>
    obtain⟨v,H',os,bare,un,Pe,r',q⟩:=h;have q':v=.bl true:=q;subst q';obtain rfl:u=Value.bool true:=r';refine#[rfl,OldK.of_keep λb o e=>?_,os,bare];cases q:H b with
    |none=>exact un.keep b o e q (by intro z;exact absurd (show b∈([]:List Pi)from z) MD) MD
    |some u=>
     rcases hO b with z|⟨ob,xs,z⟩
     .rw[q]at z;cases z
     .have z2:=un.frzs b ob _ z;obtain⟨e1,_⟩:=hok b _ z;obtain⟨e2,_⟩:=Pe b _ z2;rw[e]at e1;cases e1;exact e2
 cases hk:K.lookup a with
 |some o=>
  have e:=KX a o hk;rw[ha]at e;cases e;refine NM (λ_=>v9) (λ_=>.inl rfl) (.inr #[_,vs.toArray,_,hk,rfl,rfl,rfl,by rw[HY,Pd];exact hl,by simpa using rv]) (λb u z=>by have z':(v9:Option HO)=be u:=z;cases z') (λb z=>absurd rfl z) λz=>absurd rfl z
 |none=>
  refine NM (λb=>if b=a then be (.frz {cls:=.type "list",data:=.seq vs.toArray} (.lst (ns.map V.int)))else v9) (λb=>?_) (.inl (.inr #[{cls:=.type "list",data:=.seq vs.toArray},if_pos rfl])) (λb u z=>?_) (λb z=>?_) λ_=>hk
  .by_cases hb:b=a
   .exact .inr #[_,_,if_pos hb]
   .exact .inl (if_neg hb)
  .by_cases hb:b=a
   .have z':=(if_pos hb).symm.trans z;cases z';subst hb;exact#[ha,by rw[HR];exact hl,vs,_,rv,ha]
   .have z':=(if_neg hb).symm.trans z;cases z'
  .by_cases hb:b=a
   .exact hb
   .exact absurd (if_neg hb) z
def walk_of{l:J5}{n:Nat}{q:U'}{k8:List LB}{XP:(LB->Option Os)->Heap->Prop}{YP:Va->Heap->Prop}{d:DefRec}{K:Params->Ex}{CX:Va->CXT}{sp:Va->Sp}{x:LB}
  (hn:l.most=be n) (K':n<=sizeLine) (NJ:d.params.defaults=[]) (hr:Room k Wc)
  (hY:∀(w:Va) (h:Heap),YP w h->(K w.params).In h)
  (F:∀(w:Va) (mg:LB->Option Os) (fa:Pi) (h:Heap),(K w.params).In h->h.Ns SL mg->mg d.name=be (.ref fa)->
   ∃fd:Vg,(∀(s:SB) (u:Os),V3 s fd #[[u],[]] [(x,u)])/\
    ∀base:Heap,(K w.params).In base->base.Ns SL mg->FnOk l.prog w (K w.params) mg base (CX w) k fa fd [x] (sp w))
  (z7:∀(w:Va) (H:Hp) (a:Pi) (ns:List Int),ns.length<=n->Only H->SqL (K w.params) H a (ns.map V.int)->sp w [.ref a] H (λv _=>v=.bl true) λ_ _ _=>False)
  (Pc:∀(w:Va) (H:Hp) (s:SB) (e:Os) (s':SB),CX w [] H s (λ_ _ _=>False) e s'->False):
  KD q k8 XP YP l.row.toRowW d [] (λf vs=>PySem.call f vs):=by
 refine RE.attach_call hn NJ λw s₀ s₁ mg mb fa o pm cd doc a vs ns G Y ho hd gt j_ Mw z8 b8 hg=>?_;have KX:=hY w _ Y;obtain⟨fd,hb,hF⟩:=F w mg fa _ KX G.T.g j_;exact zk KX G.T.g G.T.b G.T.builtins G.T.nolimit hg Mw z8 (H8 b8 K') hr hF hb (λH hO hS=>z7 w H a ns b8 hO hS) λH e s'=>Pc w H s₁ e s'
def aP(s:U7)(j:Nat):U7:=match s with
 |.ClassDef _ _ _ body _ _ _ _ _ _ _=>body.getD j (.Pass #[0,0,0,0])
 |_=>.Pass #[0,0,0,0]
def bA(s:U7):Arguments:=match s with
 |.FunctionDef _ a _ _ _ _ _ _ _ _=>a
 |_=>{posonlyargs:=[],args:=[],vararg:=v9,kwonlyargs:=[],kw_defaults:=[],kwarg:=v9,defaults:=[]}
def aK(s:U7):List U7:=match s with
 |.FunctionDef _ _ b _ _ _ _ _ _ _=>b
 |_=>[]
def ah(s:U7):Vz:=match s with
 |.FunctionDef _ _ _ _ _ _ sc _ _ _=>sc
 |_=>{kind:=.function,names:=[],isGenerator:=false,isCoroutine:=false}
abbrev E0:XK:=λ_ _ _=>False
structure FunG(K:Ex)(dV:Os)(x qual:Str)(st:U7)(f:Pi)(fd:Vg):Prop where
 ex:∃(oc:Os) (od:Option Pi) (kV doc pm:Os) (an:Option Pi) (cdv ct:Os) (osl:Array (Option Os)),
  fd=fnOf x qual (bA st) (aK st) (ah st) dV kV doc pm an cdv ct/\K.lookup f=be #[oc,od,.func fd,osl]/\codeIn K cdv qual=true
 kp:keepIn K (.ref f)=true
abbrev Fun(K:Ex):LB->LB->U7->Pi->Vg->Prop:=FunG K .none
section
variable {P:U'}{w:Va}{K:Ex}{mg:LB->Option Os}{base:Heap}
def Fun.binds{x qual:LB}{st:U7}{f:Pi}{fd:Vg}{ps:List LB}(F:Fun K x qual st f fd)
  (h:∀(kV doc pm:Os) (an:Option Pi) (cdv ct:Os) (us:List Os),us.length=ps.length->VP (fnOf x qual (bA st) (aK st) (ah st) .none kV doc pm an cdv ct) #[us,[]]=pure (ps.zip us)):Binds K fd ps []:=by
 obtain⟨oc,od,kV,doc,pm,an,cdv,ct,osl,rfl,lk,gt⟩:=F.ex;exact .all (h kV doc pm an cdv ct)
def gY{x qual:LB}{st:U7}{f:Pi}{oc:Os}{od an:Option Pi}{osl:Array (Option Os)}{kV doc pm cdv ct:Os}(l:K.lookup f=be #[oc,od,.func (fnOf x qual (bA st) (aK st) (ah st) .none kV doc pm an cdv ct),osl])
  (c:codeIn K cdv qual=true) (k:keepIn K (.ref f)=true):Fun K x qual st f (fnOf x qual (bA st) (aK st) (ah st) .none kV doc pm an cdv ct):=#[#[oc,od,kV,doc,pm,an,cdv,ct,osl,rfl,l,c],k]
end
def fQ{A:Vb}(hr:Room k A):A.units+1<V6:=KE (Nat.add_le_add_left (Mx:1<=64) _) hr.units
def zl{n:Nat}(h:n<=1000):n<sizeLine:=KE h Mx
def ite2{c A B:Prop}[Decidable c](h1:c->A)(h2:¬c->B):if c then A else B:=by
 by_cases h:c
 .rw[if_pos h];exact h1 h
 .rw[if_neg h];exact h2 h
def Same(H H':Hp):Prop:=∀b o,H b=be o->H' b=be o
def Same.refl(H:Hp):Same H H:=λ_ _ h=>h
variable{H:Hp}
def Same.trans{H1 H2:Hp}(a:Same H H1)(b:Same H1 H2):Same H H2:=λc o h=>b c o (a c o h)
variable{H':Hp}
def Same.free(e:Same H H'){l:Pi}(h:H' l=Option.none):H l=Option.none:=by
 cases q:H l with
 |none=>rfl
 |some o=>
  rw[e l o q]at h;cases h
def Same.seq{K:Ex}{xs:List V}(e:Same H H')(h:SqL K H a xs):SqL K H' a xs:=by
 rcases h with(h|⟨o,h⟩)|h
 .exact .inl (.inl (e _ _ h))
 .exact .inl (.inr #[o,e _ _ h])
 .exact .inr h
section
variable {κ:Type}[DecidableEq κ]
def valV(a9:List (κ×V))(k:κ):Option V:=(a9.find? λkv=>decide (kv.1=k)).map (·.2)
def kF{p:κ×V}{r:List (κ×V)}{k:κ}(e:p.1=k):valV (p::r) k=be p.2:=by simp[valV,Jo,e]
def kG{p:κ×V}{r:List (κ×V)}{k:κ}(e:¬p.1=k):valV (p::r) k=valV r k:=by simp[valV,Jo,e]
def RelO.getD{o:Option V}{u:Option Os}{d:V}{d':Os}(r:RelO o u)(rd:RelV d d'):RelV (o.getD d) (u.getD d'):=by
 cases o with
 |none=>cases u with
  |none=>exact rd
  |some _=>exact(show False from r).elim
 |some _=>cases u with
  |none=>exact(show False from r).elim
  |some _=>exact r
def KV.val{a9:List (κ×V)}{vs:List (κ×Os)}(r:KV a9 vs)(k:κ):RelO (valV a9 k) (Wj vs k):=by
 unfold KV at r;induction r with
 |nil=>exact True.intro
 |@cons p q ps qs h t ih=>
  obtain⟨h1,h2⟩:=h;by_cases e:p.1=k
  .have e':q.1=k:=h1.symm.trans e;have b:Wj (q::qs) k=be q.2:=by simp[Wj,Jo,e']
   rw[kF e,b];exact h2
  .have e':¬q.1=k:=λz=>e (h1.trans z);have b:Wj (q::qs) k=Wj qs k:=by simp[Wj,Jo,e']
   rw[kG e,b];exact ih
end
def sL{k:Key}{u:Os}(r:RelV (kV k) u):(bN P w).is k u=true:=by
 cases k with
 |inl i=>obtain⟨t,e⟩:=(show ∃t,u=Value.int i t from r);subst e;exact mixKind_int P w i t
 |inr x=>obtain⟨t,e⟩:=(show ∃t,u=Value.str x t from r);subst e;exact xk P w x t
def sM{P:U'}{w:Va}:∀{ks:List Key} {us:List Os},Vals (ks.map kV) us->ItemsAre (bN P w) ks us
 |[],_,r=>by rw[Jn]at r;cases r;exact .nil
 |k::ks,_,r=>by
  rw[Il]at r;cases r with
  |cons h t=>exact .cons (sL h) (sM t)
abbrev KT(H:Hp):List (List Key×V)->List (List Key×Pi×Os)->Prop:=Paired λp q=>p.1=q.1/\H q.2.1=be (.tup (p.1.map kV))/\RelV p.2 q.2.2
variable{xs:List (List Key×Pi×Os)}{a9:List (List Key×V)}
def KT.val(r:KT H a9 xs)(k:List Key):RelO (valV a9 k) ((Wi xs k).map (·.2)):=by
 induction r with
 |nil=>exact True.intro
 |@cons p q ps qs h t ih=>
  obtain⟨h1,_,h2⟩:=h;by_cases e:p.1=k
  .have e':q.1=k:=h1.symm.trans e;have b:Wi (q::qs) k=be q.2:=by simp[Wi,Jo,e']
   rw[kF e,b];exact h2
  .have e':¬q.1=k:=λz=>e (h1.trans z);have b:Wi (q::qs) k=Wi qs k:=by simp[Wi,Jo,e']
   rw[kG e,b];exact ih
def KT.keeps(r:KT H a9 xs)(ht:∀b ys,H b=be (.tup ys)->H' b=be (.tup ys)):KT H' a9 xs:=
 Paired.mapP r λ_ _ z=>#[z.1,ht _ _ z.2.1,z.2.2]
section
variable {P:U'}{w:Va}{H:Hp}{h:Heap}{a:Pi}
def sN{u:HO}(ok:HOk P w H h)(e:Rd H a u):ObjOk P w H h a u:=e.ok ok
def zm{a9:List (Key×V)}(ok:HOk P w H h)(e:Rd H a (.dK a9)):a9.length<=sizeLine/\(a==Vx)=false/\∃vs,KV a9 vs/\h.DictOf (bN P w) a vs:=
 show ObjOk P w H h a (.dK a9)from sN ok e
def key_of{ks:List Key}(ok:HOk P w H h)(e:H a=be (.tup (ks.map kV))):(VZ (bN P w)).is h ks a:=by
 obtain⟨_,its,r,o,h1,h2,n,h3⟩:=(show ObjOk P w H h a (.tup (ks.map kV))from ok a _ e);exact#[o,its.toArray,n,h1,h2,h3,by simpa using sM r]
variable{a9:List (List Key×V)}
def sO(ok:HOk P w H h)(e:Rd H a (.dT a9)):a9.length<=sizeLine/\(a==Vx)=false/\
  ∃xs,KT H a9 xs/\h.DictOfH (VZ (bN P w)) a xs:=by
 obtain⟨z,y,xs,r,o,es,ep,h1,h2,h3,h4,h5⟩:=(show ObjOk P w H h a (.dT a9)from sN ok e);refine#[z,y,xs,r,o,es,ep,h1,h2,h3,h4,λx hx=>?_,h5];have all:∀{l:List (List Key×V)} {m:List (List Key×Pi×Os)},KT H l m->∀x∈m,(VZ (bN P w)).is h x.1 x.2.1:=by
  intro l m q;induction q with
  |nil=>intro x hx;exact nomatch hx
  |@cons p q ps qs hq t ih=>
   intro x hx;rcases HQ.mp hx with e|hx
   .subst e;exact key_of ok (by rw[<-hq.1];exact hq.2.1)
   .exact ih x hx
 exact all r x hx
def zn(ok:HOk P w H h)(e:H a=be (.dT a9)):a9.length<=sizeLine/\(a==Vx)=false/\
  ∃xs,KT H a9 xs/\h.DictOfH (VZ (bN P w)) a xs:=sO ok (.inl e)
end
def DGet(H:Hp)(a:Pi)(y:V)(r:Option V):Prop:=
 (∃a9 k,Rd H a (.dK a9)/\y=kV k/\r=valV a9 k)\/∃a9 k b,Rd H a (.dT a9)/\y=.ref b/\H b=be (.tup (k.map kV))/\r=valV a9 k
def DGet.t{b:Pi}{k:List Key}(e:H a=be (.dT a9))(eb:H b=be (.tup (k.map kV))):DGet H a (.ref b) (valV a9 k):=.inr #[a9,k,b,.inl e,rfl,eb,rfl]
section
variable {X:Cx}{pins:List (Pi×Vp)}{σ:St}{H:Hp}{s:SB}{a:Pi}{y v:V}{u r:Os}{o:Option V}{A:Vb}{E:Os->SB->Prop}
def Inv.big(I:Inv X pins σ H s):Vx<s.heap.objs.size:=by
 have h:SL<s.heap.objs.size:=(I.mod.glob.keeps I.bk).lt;exact KF Mx h
def zo{h':Heap}{t':Nat}{ob:HO}(I:Inv X pins σ H s)(mu:Mut (H a))(hs:Heap.SameBut a s.heap h')(he:∃q,h'.get? a=be q)(new:ObjOk X.prog X.w (upd H a ob) h' a ob):
  Inv X pins σ (upd H a ob) {s with heap:=h',toks:=t'}:=
 I.write (x:=a) (e:=a) mu (.inl rfl) (λb q hb z=>(hs.2 b hb).trans z) he new
end
def zp(h:Heap)(hb:Vx<h.objs.size):ObjOk P w H (h.push {cls:=.type "dict",data:=.dict [].toArray}) h.objs.size (.dT []):=
 #[Iq _,beq_eq_false_iff_ne.mpr (Ne.symm (HZ hb)),[],.nil,_,[].toArray,0,Heap.get?_push_size _ rfl,#[rfl,rfl,rfl],rfl,rfl,KG]
def zq:TE:=λ_ H Q=>∀p,H p=v9->Q (.ref p) (upd H p (.dT []))
section
variable {X:Cx}{pos:Vh}
def pe_dnewT:PE X (.Dict [] [] pos) zq:=λpins s σ H Q I h=>
 wpAny_Dict_empty #[.ref s.heap.objs.size,_,I.laid (a:=s.heap.objs.size) (o:=.dT []) (t':=s.toks) (λ_ _ q=>Heap.get?_push_of_some _ q) (HP _) (zp s.heap I.big),rfl,h _ (I.hok.fresh (HP _))]
end
structure M1(X:Cx)(o:U8)(m:Str)(apos:Vh)(e:U8)(cpos:Vh):Prop where
 base:Ve o m X.env (Vf o X.env)=Vf o X.env
 few:((VH cpos (Vc [e] X.env)).all (λx=>!x.1)&&(V1 cpos (VF [] X.env)).all (λx=>x.1.isSome)
  && decide (([e]:List U8).length+([]:List V').length+(if([]:List V').isEmpty then 0 else 1)<30))=true
 line:(apos.endLine==cpos.line)=true
 trees:VH cpos (Vc [e] X.env)=[(false,Vf e X.env)]
structure M2(X:Cx)(o:U8)(m:Str)(apos:Vh)(e f:U8)(cpos:Vh):Prop where
 base:Ve o m X.env (Vf o X.env)=Vf o X.env
 few:((VH cpos (Vc [e,f] X.env)).all (λx=>!x.1)&&(V1 cpos (VF [] X.env)).all (λx=>x.1.isSome)
  && decide (([e,f]:List U8).length+([]:List V').length+(if([]:List V').isEmpty then 0 else 1)<30))=true
 line:(apos.endLine==cpos.line)=true
 trees:VH cpos (Vc [e,f] X.env)=[(false,Vf e X.env),(false,Vf f X.env)]
section
variable {X:Cx}{pins:List (Pi×Vp)}{σ:St}{H:Hp}{s:SB}{a:Pi}{y d:V}{u r:Os}{o:Option V}{A:Vb}{E:Os->SB->Prop}
def zr{Q:Os->SB->Prop}(hu:A.units+1<V6)(I:Inv X pins σ H s)(g:DGet H a y o)(ry:RelV y u)(rd:RelV d r)(h:∀w' s',Inv X pins σ H s'->RelV (o.getD d) w'->Q w' s'):
  U_ (U9 X.prog X.w) A (call (.builtin "dict.get") [.ref a,u,r]) Q E s:=by
 rcases g with⟨a9,k,e,ey,l⟩|⟨a9,k,b,e,ey,eb,l⟩
 .subst ey;obtain⟨z,hd,vs,v_,dd⟩:=zm I.hok e;refine WD PySem.F.slot_dict_get dd.typeIs PySem.F.entry_dict_get (PySem.F.args_dict_get_3 _ _ _) (meets_dict_get_default (bN X.prog X.w) a (sL ry) hd r) #[_,dd.mapOf,h _ _ (I.tok _) ?_];rw[l];exact(v_.val k).getD rd
 .subst ey;cases(show u=Value.ref b from ry);obtain⟨z,hd,xs,v_,dd⟩:=sO I.hok e;refine WD PySem.F.slot_dict_get dd.typeIs PySem.F.entry_dict_get (PySem.F.args_dict_get_3 _ _ _) (meetsH_dict_get_default (VZ (bN X.prog X.w)) a b hd r) #[WW hu,k,xs,key_of I.hok eb,dd,h _ _ (I.tok _) ?_];rw[l];exact(v_.val k).getD rd
end
end L2
end
section
open PySem PySem.Spec PyProof.Rows L2
namespace Exc
open PySem PySem.Spec PyProof.Rows PySem.W L2
def aN:List Os->Bool
 |.ref _::r=>aN r
 |l=>l==[.type "ValueError",.type "Exception",.type "BaseException",.type "object"]
def kH(self:Os):∀{l:List Os},aN l=true->refuseLoop self "__setattr__" l=pure ()
 |.ref c::r,e=>by rw[refuseLoop_ref];exact kH self (by unfold aN at e;exact e)
 |[],e=>by simp[aN]at e
 |.type n::r,e=>by
  have e':(Value.type n::r)=[.type "ValueError",.type "Exception",.type "BaseException",.type "object"]:=by simpa[aN]using e
  rw[e'];exact PySem.F.store_ValueError.passes self
 |.none::r,e=>by simp[aN]at e
 |.bool _::r,e=>by simp[aN]at e
 |.int _ _::r,e=>by simp[aN]at e
 |.float _ _::r,e=>by simp[aN]at e
 |.str _ _::r,e=>by simp[aN]at e
 |.bytes _ _::r,e=>by simp[aN]at e
 |.builtin _::r,e=>by simp[aN]at e
def eK{T:String}(hT:[Value.type "ValueError",.type "Exception",.type "BaseException",.type "object"].contains (.type T)=true):∀{l:List Os},aN l=true->l.contains (.type T)=true
 |.ref c::r,e=>by rw[J6,eK hT (l:=r) (by unfold aN at e;exact e),JR]
 |[],e=>by simp[aN]at e
 |.type n::r,e=>by
  have e':(Value.type n::r)=[.type "ValueError",.type "Exception",.type "BaseException",.type "object"]:=by simpa[aN]using e
  rw[e'];exact hT
 |.none::r,e=>by simp[aN]at e
 |.bool _::r,e=>by simp[aN]at e
 |.int _ _::r,e=>by simp[aN]at e
 |.float _ _::r,e=>by simp[aN]at e
 |.str _ _::r,e=>by simp[aN]at e
 |.bytes _ _::r,e=>by simp[aN]at e
 |.builtin _::r,e=>by simp[aN]at e
section
variable {prog:U'}{w:Va}{A:Vb}{E:Os->SB->Prop}{s:SB}{K:Ex}{x C:Pi}{ox:Vp}{cd:Wv}{name:LB}{v:Os}{vs:Array Os}
def zt{Q:Unit->SB->Prop}(X:K.In s.heap)(hx:s.heap.get? x=be ox)(g9:ox.cls=.ref C)(z9:ox.data=.fields vs)(hd:ox.dict=v9)(hc:clsIn K C=be cd)(hm:aN cd.mro=true)(hh:cd.hasDict=true)
  (hs:findIn K (.ref C) "__setattr__"=be (be (.builtin "object.__setattr__"))) (hf:findIn K (.ref C) name=be v9)
  (h:∀h',h'.get? x=be {ox with dict:=be s.heap.objs.size}->h'.Ns1 s.heap.objs.size (λy=>if y=name then be v else v9)->(∀b o,b≠x->s.heap.get? b=be o->h'.get? b=be o)->∀tk,Q () {s with heap:=h',toks:=tk}):
  U_ (U9 prog w) A (W0 (.ref x) name v) Q E s:=by
 have hn:notCls ox=true:=by unfold notCls;rw[z9]
 have I:InstAt s.heap x ox C none:=#[hx,g9,hn,by rw[hd];trivial];refine set_plain X I hs ?_;have SF:=PySem.F.store_object;have ne:cd.mro.isEmpty=false:=Qt
 have sub:Looks (U9 prog w) s.heap (V_ (.ref x) (.type "object")) true:=I.type.andThen (looks_mroIn X Ux);refine VO SF.slot.plain SF.entry (@check_slot (U9 prog w) _ _ _ "object.__setattr__" "object" "__setattr__" (.ref x) [.str name s.toks,v] [] _ SF.kind SF.split sub (SF.args (.ref x) (.str name s.toks) v) ?_);have Mz:Looks (U9 prog w) s.heap (mroOf (.ref C)) cd.mro:=(looks_clsIn X hc).andThen .now;rw[osa_eq,refuse_eq];refine P3 (P3 (I.type.here (s:={s with toks:=s.toks+1}) (P3 (Mz.here (s:={s with toks:=s.toks+1}) ?_))));rw[kH _ hm];refine SZ (P3 (I.type.here (s:={s with toks:=s.toks+1}) (P3 ((looks_findIn X hf).here (s:={s with toks:=s.toks+1}) (P3 (Looks.now.here (s:={s with toks:=s.toks+1}) ?_))))));obtain⟨oc,RH,RI,osl⟩:=ox;dsimp only at g9 hd z9;subst g9 hd z9;refine P3 (SZ (P3 (P3 (Wl hx (P3 ((looks_clsIn X hc).here (s:={s with toks:=s.toks+1}) ?_))))));rw[hh];rw[if_neg Mx];have hx₁:(s.heap.push {cls:=.type "dict",data:=.dict [].toArray}).get? x=be #[.ref C,v9,.fields vs,osl]:=Heap.get?_push_of_some _ hx;have RJ:x≠s.heap.objs.size:=HZ (Heap.lt_size hx);show U_ _ _ (do
  let d <-alloc {cls:=Value.type "dict",data:=Data.dict [].toArray}
  update x λo=>{cls:=o.cls,dict:=be d,data:=o.data,slots:=o.slots}
  dictMade (.ref C) x d) _ _ _
 refine P3 (wpAny_alloc' ?_);refine P3 (wpAny_update' hx₁ ?_);refine SZ ?_;have SK:((s.heap.push {cls:=.type "dict",data:=.dict [].toArray}).update x λo=>{cls:=o.cls,dict:=be s.heap.objs.size,data:=o.data,slots:=o.slots}).get? s.heap.objs.size
   =be {cls:=.type "dict",data:=.dict [].toArray}:=
  (Heap.get?_update_ne _ _ _ _ RJ.symm).trans (Heap.get?_push_at rfl rfl)
 have SM:((s.heap.push {cls:=.type "dict",data:=.dict [].toArray}).update x λo=>{cls:=o.cls,dict:=be s.heap.objs.size,data:=o.data,slots:=o.slots}).Ns s.heap.objs.size (λ_=>v9):=
  #[_,[].toArray,_,SK,rfl,λe he=>absurd he MD,λ_=>rfl]
 show U_ _ _ (Builtin.ObjectAttr.storeInDict s.heap.objs.size (.str name s.toks) name v) _ _ _;unfold Builtin.ObjectAttr.storeInDict Builtin.ObjectAttr.newKeyGuard;refine P3 (SZ (P3 (Ww (Heap.Ns1.of_empty SM) λh' g5 hs=>?_)));obtain⟨oD,Ry,Rz,NC,ND,NE⟩:=g5.count (Within.cons name v Within.nil);refine P3 (Wd NC (by rw[ND];exact Wg (H8 NE (by rw[HX,List.length_nil,VX];lia))) ?_);refine SZ (h h' ?_ g5 (λb o hb q=>?_) _)
 .exact(hs.2 x RJ).trans (Heap.get?_update_self _ hx₁ rfl)
 .exact(hs.2 b (HZ (Heap.lt_size q))).trans ((Heap.get?_update_ne _ _ _ _ hb).trans (Heap.get?_push_of_some _ q))
variable{Q:Os->SB->Prop}
def zu{od:Vp}{z6:Bool}(X:K.In s.heap)(I:InstAt s.heap x ox C (be od))(hc:clsIn K C=be cd)(hm:aN cd.mro=true)
  (SN:findIn K (.ref C) "__getattribute__"=be (be (.builtin "BaseException.__getattribute__"))) (SO:findIn K (.ref C) "__getattr__"=be v9)
  (hf:findObj K C (be od) name=be (.value v)) (hh:handedIn v=true) (h:∀tk,Q v {s with toks:=tk}):U_ (U9 prog w) A (WB (.ref x) name z6) Q E s:=by
 have FB:=PySem.F.attr_ValueError;obtain⟨hp,g,d,t,os⟩:=s;have L0:=I.type (M:=U9 prog w);have L1:=looks_findIn (M:=U9 prog w) X SN;have L2:=looks_findIn (M:=U9 prog w) X SO;have L3:=looks_find (M:=U9 prog w) X I hf;have f3:=FB.ga.bind (.ref x);have ne:cd.mro.isEmpty=false:=Qt
 have sub:Looks (U9 prog w) hp (V_ (.ref x) (.type "BaseException")) true:=I.type.andThen (looks_mroIn X Ux);unfold WB getAttrBy;refine P3 (wpAny_mkText (Vt (P3 (L0.at (P3 (L1.at ?_))))));dsimp only;have L_:(onTheHeap (Value.ref C)&&Value.builtin "BaseException.__getattribute__"==Value.builtin "object.__getattribute__")=false:=by
  have n8:(Value.builtin "BaseException.__getattribute__"==Value.builtin "object.__getattribute__")=false:=Mt
  rw[n8];rfl
 have SQ:(z6&&onTheHeap (Value.builtin "BaseException.__getattribute__"))=false:=by cases z6<;>rfl
 rw[L_,if_neg Ie];unfold getAttrByItsOwn hookBefore;rw[show onTheHeap (Value.ref C)=true from rfl,if_pos rfl];refine P3 (L2.at ?_);unfold callGetattribute;rw[SQ,if_neg Ie];unfold boundAndCalled;refine P3 (wpAny_attempt (Vt (P3 (WI f3 ?_))));refine VJ (VO FB.ga.plain PySem.F.entry_bexc_ga (@check_slot (U9 prog w) _ _ _ "BaseException.__getattribute__" "BaseException" "__getattribute__" (.ref x) [.str name t] [] _ Mt Mt sub (PySem.F.args_bexc_ga _ _) ?_));unfold Builtin.«object.__getattribute__»;refine P3 (WI (a:=(Value.ref x,[Value.str name t])) rfl ?_);refine P3 (WI (a:=name) rfl ?_);refine P3 (L0.at (P3 (L3.at ?_)));refine SZ ?_;show U_ _ _ (handedOut v) _ _ _;rw[handedOut_of hh];exact SZ (h _)
def zv{rest:List Os}{t0:Pi}{a1 a2 a3 a4 a5:Os}(X:K.In s.heap)(hx:s.heap.get? x=be ox)(g9:ox.cls=.ref C)(z9:ox.data=.fields [.ref t0,a1,a2,a3,a4,a5].toArray)(hc:clsIn K C=be cd)(hm:aN cd.mro=true)(hl:rest.length<=sizeLine)
  (h:∀h',h'.get? x=be {ox with data:=.fields [.ref s.heap.objs.size,a1,a2,a3,a4,a5].toArray}->(∀b o,b≠x->s.heap.get? b=be o->h'.get? b=be o)->Q .none {s with heap:=h'}):
  U_ (U9 prog w) A (call (.builtin "ValueError.__init__") (.ref x::rest)) Q E s:=by
 have F:=PySem.F.excBase_ValueError;have hn:notCls ox=true:=by unfold notCls;rw[z9]
 have ht:Looks (U9 prog w) s.heap (typeOf (.ref x)) (.ref C):=g9 ▸ (Looks.ld hx).andThen .now;have ne:cd.mro.isEmpty=false:=Qt
 have sub:Looks (U9 prog w) s.heap (V_ (.ref x) (.type "ValueError")) true:=ht.andThen (looks_mroIn X Ux);have SR:∀{Q:Unit->SB->Prop} {E:Os->SB->Prop} {A:Vb},Q () s->U_ (U9 prog w) A (checkBuiltinCall "ValueError.__init__" #[.ref x::rest,[]]) Q E s:=λ{Q E A} hq=>by
  have Pf:=F.noStar;simp only[checkBuiltinCall,F.initKind,F.initSplit,F.initRow];refine P3 (sub.here ?_);obtain⟨hp,g,d,t,os⟩:=s;have Lc:=looks_clsIn (M:=U9 prog w) X hc
  repeat(first|(with_reducible refine Vq hx ?_;rw[g9])|(with_reducible refine Lc.here ?_)|wp_step)
  refine wpAny_onRaise ?_;rw[show ∀(a b:String) (n:Nat),Bind.check #[.positional,"*","ValueError",.self,[#["args",.varPos,false]]] a b n (JS (λx=>x.fst) ({pos:=Value.ref x::rest}:Args).kw)=pure ()from
   λa b n=>check_star_args _ _ _ _ _ _]
  exact SZ hq
 refine VJ (VO F.init.plain F.initEntry (SR ?_));obtain⟨hp,g,d,t,os⟩:=s;obtain⟨oc,RH,RI,osl⟩:=ox;dsimp only at g9 z9 hx h;subst g9 z9
 wp_walk
 have hx₁:=Heap.get?_push_of_some {cls:=Value.type "tuple",data:=Data.seq rest.toArray} hx;refine h _ ?_ (λb o hb q=>?_)
 .rw[Heap.get?_update_self _ hx₁ rfl];rfl
 .rw[Heap.get?_update_other _ _ (Ne.symm hb)];exact Heap.get?_push_of_some _ q
end
abbrev veLine:List Os:=[.type "ValueError",.type "Exception",.type "BaseException",.type "object"]
section
variable {prog:U'}{w:Va}{A:Vb}{E:Os->SB->Prop}{h:Heap}{g:Array WN}{d:Drawn}{t:Nat}{os:OsState}{K:Ex}
variable {nm q:LB}{C N fI:Pi}{bs bm:List Os}{hdct:Bool}{sn:List LB}{sub:List Os}{ab:Bool}{col:Option Bool}{dd:Option Pi}{k0 k1 k2 k3 k5:Option Os}{rest:List Os}
def zw{Q:Fin->SB->Prop}(X:K.In h)(T:OwnTail h veLine bm)(hC:h.get? C=be (Vs nm q C N bs bm hdct sn sub ab col dd k0 k1 k2 k3 k5 "ValueError.__new__"))
  (hi:findIn K (.ref C) "__init__"=be (be (.ref fI))) (hf:typeIn K (.ref fI)=be (.type "function"))
  (hq:∀h' e,Heap.MadeExcOf h h' e (.ref C) rest->U_ (U9 prog w) A (call (.ref fI) (.ref e::rest)) (λr s'=>r=.none/\Q (.done (.ret (.ref e))) s') E #[h',g,d,t,os]) (hl:rest.length<=sizeLine):
  U_ (U9 prog w) A (Builtin.«type.__call__» #[.ref C::rest,[]]) Q E #[h,g,d,t,os]:=by
 have F:=PySem.F.excBase_ValueError
 repeat(first|(with_reducible refine Vq hC ?_)|(with_reducible refine wpAny_madeBy_exc hC ?_)|wp_step)
 refine codeAny_call_builtin_code (Code.quiet_builtin _ F.quiet) (wpAny_check_new_subT F T hC (codeAny_exc_new_subT F T hC ?_ hl));have kp:∀b o,h.get? b=be o->((h.push {cls:=.type "tuple",data:=.seq rest.toArray}).push {cls:=.ref C,data:=.fields [.ref h.objs.size,.none,.none,.none,.bool false,.none].toArray}).get? b=be o:=λb o e=>Heap.get?_push_of_some _ (Heap.get?_push_of_some _ e);have SS:=kp _ _ hC;have X1:K.In _:=X.keeps kp;have he:((h.push {cls:=.type "tuple",data:=.seq rest.toArray}).push {cls:=.ref C,data:=.fields [.ref h.objs.size,.none,.none,.none,.bool false,.none].toArray}).get? (h.objs.size+1)=be {cls:=.ref C,data:=.fields [.ref h.objs.size,.none,.none,.none,.bool false,.none].toArray}:=by heap_get
 have SU:(Value.ref C::bm).contains (.ref C)=true:=MD
 have L1:=looks_findIn (M:=U9 prog w) X1 hi;have L2:=bind_fn (M:=U9 prog w) X1 (.ref (h.objs.size+1)) hf;show U_ _ _ _ _ _ _;unfold V_
 repeat(first|(with_reducible refine Vq he ?_)|(with_reducible refine VS SS ?_;rw[SU])|wp_step)
 refine L1.at ?_;refine Vt (P3 (L2.at ?_));refine P3 (Vm (hq _ (h.objs.size+1) #[kp,Heap.get?_none_of_le (Jc _),h.objs.size,he,Heap.get?_none_of_le (HP _),Heap.get?_push_of_some _ (Heap.get?_push_at rfl rfl)]) (λr s' hr=>?_) λ_ _ x=>x);obtain⟨rfl,hQ⟩:=hr;refine SZ ?_;exact SZ hQ
def zx{Q:Os->SB->Prop}(X:K.In h)(T:OwnTail h veLine bm)(hC:h.get? C=be (Vs nm q C N bs bm hdct sn sub ab col dd k0 k1 k2 k3 k5 "ValueError.__new__"))
  (hi:findIn K (.ref C) "__init__"=be (be (.ref fI))) (hf:typeIn K (.ref fI)=be (.type "function"))
  (hq:∀h' e,Heap.MadeExcOf h h' e (.ref C) rest->U_ (U9 prog w) (A.under (.builtin "type.__call__" #[.ref C::rest,[]])) (call (.ref fI) (.ref e::rest)) (λr s'=>r=.none/\Q (.ref e) s') E #[h',g,d,t,os]) (hl:rest.length<=sizeLine):
  U_ (U9 prog w) A (call (.ref C) rest) Q E #[h,g,d,t,os]:=by
 have f1:=tc_lookup;have f2:=tc_bind (.ref C);have hT:(#[h,g,d,t,os]:SB).TypeIs (.ref C) "type":=#[_,hC,rfl];refine VJ (codeAny_of_tree ?_);show U_ _ _ (callAny (.ref C) _) _ _ _
 repeat(any_goals (first|(with_reducible refine Vq hC ?_)|assumption|wp_step))
 exact#[rfl,codeAny_call_builtin_at (Code.quiet_builtin _ Mt) entry_typeCall (wpAny_check_type_call_sub hC (zw X T hC hi hf (λh' e hm=>hq h' e hm) hl))]
end
section
variable {prog:U'}{w:Va}{A:Vb}{E:Os->SB->Prop}{s:SB}{env:VU}
variable {nm q:LB}{C N:Pi}{bs bm:List Os}{hdct:Bool}{sn:List LB}{sub:List Os}{ab:Bool}{col:Option Bool}{dd:Option Pi}{k0 k1 k2 k3 k5:Option Os}{newId:String}
variable{Q:Flow->SB->Prop}
def zy{x:WE Os}(b7:bm.contains (.type "BaseException")=true)(hh:A.handled=v9)
  (h:U_ (U9 prog w) A x (λv s₁=>∃e t od sl,v=.ref e/\s₁.heap.get? C=be (Vs nm q C N bs bm hdct sn sub ab col dd k0 k1 k2 k3 k5 newId)/\
   s₁.heap.get? e=be #[.ref C,od,.fields [.ref t,.none,.none,.none,.bool false,.none].toArray,sl]/\E (.ref e) s₁) E s):
  U_ (U9 prog w) A (raiseStmt env (be x) v9) Q E s:=by
 have Pg:(Value.ref C::bm).contains (.type "BaseException")=true:=by rw[J6,b7,JR]
 unfold raiseStmt;refine P3 (Vm h (λv s₁ h₁=>?_) λ_ _ x=>x);obtain⟨e,t,od,sl,rfl,hC,he,hE⟩:=h₁;obtain⟨hp,g,d,tk,os⟩:=s₁
 repeat(first|(with_reducible refine Vq he ?_)|(with_reducible refine Vq hC ?_)|(with_reducible refine VS hC ?_;rw[Pg])|wp_step)
 exact wpAny_raiseNew_none hh hE
def kI{x:U8}{pos:Vh}(b7:bm.contains (.type "BaseException")=true)(hh:A.handled=v9)
  (h:U_ (U9 prog w) A (Vf x env) (λv s₁=>∃e t od sl,v=.ref e/\s₁.heap.get? C=be (Vs nm q C N bs bm hdct sn sub ab col dd k0 k1 k2 k3 k5 newId)/\
   s₁.heap.get? e=be #[.ref C,od,.fields [.ref t,.none,.none,.none,.bool false,.none].toArray,sl]/\E (.ref e) s₁) E s):
  U_ (U9 prog w) A (exec (.Raise (be x) v9 pos) env) Q E s:=by
 rw[arm_exec_Raise];show U_ (U9 prog w) A (do VT pos;raiseStmt env (be (do let v <-Vf x env;VT pos;pure v)) v9) Q E s;exact P3 (VA (zy b7 hh (P3 (Vm h (λv s₁ h₁=>P3 (VA (SZ h₁))) λ_ _ x=>x))))
end
def ExAt(h:Heap)(e C:Pi)(od:Option Pi)(T:Pi)(fl:Os):Prop:=
 ∃sl vs oT ts,h.get? e=be #[.ref C,od,.fields vs,sl]/\vs[1]?=be (.ref T)/\T≠e/\h.get? T=be oT/\oT.data=.fields ts/\ts[3]?=be fl
structure Stay(fs ex:List Pi)(h h':Heap):Prop where
 keep:∀b o,h.get? b=be o->b∉ex->b∉fs->h'.get? b=be o
 slot:∀b o,h.get? b=be o->b∉ex->∃sl,h'.get? b=be {o with slots:=sl}
 there:∀b o,h.get? b=be o->∃o',h'.get? b=be o'
section
variable {M:WM}{A:Vb}{E:Os->SB->Prop}{s:SB}{env:VU}{outer:List VU}{base:Heap}{L e C T:Pi}{od:Option Pi}
variable{Q:Unit->SB->Prop}
def sP{sl:Array (Option Os)}{vs:Array Os}(l9:A.frames=be (env::outer))(hl:s.heap.FunFrames base (env::outer))(hf:env.frame=be L)
  (he:s.heap.get? e=be #[.ref C,od,.fields vs,sl]) (h1:vs[1]?=be .none)
  (h:∀h' T,ExAt h' e C od T (V2 L)->s.heap.objs.size<=T->Stay (frs (env::outer)) [e] s.heap h'->Q () {s with heap:=h'}):U_ M A (V0 (.ref e) env) Q E s:=by
 have j7:1<vs.size:=(JT.mp h1).1;have MB:e∉(env::outer).filterMap (·.frame):=λhm=>by
  obtain⟨_,o,ho,hnf⟩:=hl.mem hm;rw[he]at ho;injection ho with ho;subst ho;exact hnf vs rfl
 unfold V0;simp only[hf];refine P3 (VM he rfl h1 ?_);rw[if_neg Mx];refine P3 (WZ l9 hl hf λh₁ hs₁=>P3 (WT λpl c8=>?_));unfold EntryCells.newEntry newFields;refine P3 (Vl ?_ (c8.sizeOk5 _ _ _ _ _));have he₁:h₁.get? e=be #[.ref C,od,.fields vs,sl]:=(hs₁.2.1 e MB).trans he;have fresh:h₁.get? h₁.objs.size=none:=Heap.get?_none_of_le (HP _);generalize NO:({cls:=.type "traceback",dict:=v9,data:=.fields ([Value.none,.ref L,.none,V2 L,.none]++(if pl.isEmpty then IF 6 Value.none else pl)).toArray}:Vp)=oT;have he₂:=Heap.get?_push_of_some (h:=h₁) oT he₁;have w6:h₁.objs.size≠e:=IS (Heap.lt_size he₁);refine V7 he₂ rfl j7 (h _ h₁.objs.size ?_ ?_ ?_)
 .refine#[sl,vs.setIfInBounds 1 (.ref h₁.objs.size),oT,([Value.none,.ref L,.none,V2 L,.none]++(if pl.isEmpty then IF 6 Value.none else pl)).toArray,?_,by simp[j7],w6,?_,by rw[<-NO],MD]
  .rw[Heap.get?_update_self _ he₂ rfl];rfl
  .rw[Heap.get?_update_other _ _ (Ne.symm w6)];exact Heap.get?_push_size h₁ (by rw[<-NO];rfl)
 .exact JO hs₁.1.symm
 .have kp:∀b o,b≠e->h₁.get? b=be o->((h₁.push oT).update e (Obj.mapFields (·.setIfInBounds 1 (Value.ref h₁.objs.size)))).get? b=be o:=λb o hb z=>by
   rw[Heap.get?_update_other _ _ (Ne.symm hb)];exact Heap.get?_push_of_some _ z
  refine#[λb o q n m=>kp b o (λz=>n (by simp[z])) ((hs₁.2.1 b m).trans q),λb o q n=>?_,λb o q=>?_]
  .obtain⟨v7,z⟩:=hs₁.2.2 b o q;exact#[v7,kp b _ (λz=>n (by simp[z])) z]
  .by_cases hb:b=e
   .subst hb;exact#[_,Heap.get?_update_self _ he₂ rfl]
   .obtain⟨v7,z⟩:=hs₁.2.2 b o q;exact#[_,kp b _ hb z]
def sQ(l9:A.frames=be (env::outer))(hl:s.heap.FunFrames base (env::outer))(hf:env.frame=be L)(hx:ExAt s.heap e C od T .none)
  (h:∀h' T',ExAt h' e C od T' (V2 L)->s.heap.objs.size<=T'->Stay (frs (env::outer)) [T,e] s.heap h'->Q () {s with heap:=h'}):U_ M A (V0 (.ref e) env) Q E s:=by
 obtain⟨sl,vs,oT,ts,he,h1,w6,hT,k_,h3⟩:=hx;have j7:1<vs.size:=(JT.mp h1).1;have OJ:3<ts.size:=(JT.mp h3).1;have MB:e∉(env::outer).filterMap (·.frame):=λhm=>by
  obtain⟨_,o,ho,hnf⟩:=hl.mem hm;rw[he]at ho;injection ho with ho;subst ho;exact hnf vs rfl
 unfold V0;simp only[hf];refine P3 (VM he rfl h1 ?_);rw[if_pos (show(Value.ref T !=Value.none)=true from MD)];refine P3 (VM hT k_ h3 ?_);rw[if_neg (show¬((Value.none==V2 L)=true)from by simp[V2])];refine P3 (V7 hT k_ OJ ?_);have other:∀b,b≠T->(s.heap.update T (Obj.mapFields (·.setIfInBounds 3 Value.none))).get? b=s.heap.get? b:=λb hb=>Heap.get?_update_other _ _ (Ne.symm hb);have nT:∀b o,s.heap.get? b=be o->(∀vs,o.data≠.fields vs)->b≠T:=λb o hb hnf q=>by
  rw[q,hT]at hb;injection hb with hb;subst hb;exact hnf ts k_
 have Ph:(s.heap.update T (Obj.mapFields (·.setIfInBounds 3 Value.none))).FunFrames base (env::outer):=hl.of_keeps λb o hb hnf=>#[o,(other b (nT b o hb hnf)).trans hb,rfl];have SV:∃o',(s.heap.update T (Obj.mapFields (·.setIfInBounds 3 Value.none))).get? T=be o':=#[_,Heap.get?_update_self _ hT (Obj.isFreed_of_fields (Obj.data_mapFields k_ _))];refine P3 (WZ l9 Ph hf λh₁ hs₁=>P3 (WT λpl c8=>?_));unfold EntryCells.newEntry newFields;refine P3 (Vl ?_ (c8.sizeOk5 _ _ _ _ _));have he₁:h₁.get? e=be #[.ref C,od,.fields vs,sl]:=(hs₁.2.1 e MB).trans ((other e (Ne.symm w6)).trans he);have fresh:h₁.get? h₁.objs.size=none:=Heap.get?_none_of_le (HP _);generalize NO:({cls:=.type "traceback",dict:=v9,data:=.fields ([Value.ref T,.ref L,.none,V2 L,.none]++(if pl.isEmpty then IF 6 Value.none else pl)).toArray}:Vp)=Pj;have he₂:=Heap.get?_push_of_some (h:=h₁) Pj he₁;have NP:h₁.objs.size≠e:=IS (Heap.lt_size he₁);refine V7 he₂ rfl j7 (h _ h₁.objs.size ?_ ?_ ?_)
 .refine#[sl,vs.setIfInBounds 1 (.ref h₁.objs.size),Pj,([Value.ref T,.ref L,.none,V2 L,.none]++(if pl.isEmpty then IF 6 Value.none else pl)).toArray,?_,by simp[j7],NP,?_,by rw[<-NO],MD]
  .rw[Heap.get?_update_self _ he₂ rfl];rfl
  .rw[Heap.get?_update_other _ _ (Ne.symm NP)];exact Heap.get?_push_size h₁ (by rw[<-NO];rfl)
 .exact JO (hs₁.1.trans (Heap.size_after_update _ _ _)).symm
 .have kp:∀b o,b≠e->h₁.get? b=be o->((h₁.push Pj).update e (Obj.mapFields (·.setIfInBounds 1 (Value.ref h₁.objs.size)))).get? b=be o:=λb o hb z=>by
   rw[Heap.get?_update_other _ _ (Ne.symm hb)];exact Heap.get?_push_of_some _ z
  refine#[λb o q n m=>kp b o (λz=>n (by simp[z])) ((hs₁.2.1 b m).trans ((other b (λz=>n (by simp[z]))).trans q)),λb o q n=>?_,λb o q=>?_]
  .obtain⟨v7,z⟩:=hs₁.2.2 b o ((other b (λz=>n (by simp[z]))).trans q);exact#[v7,kp b _ (λz=>n (by simp[z])) z]
  .by_cases hb:b=e
   .subst hb;exact#[_,Heap.get?_update_self _ he₂ rfl]
   .have:∃o',(s.heap.update T (Obj.mapFields (·.setIfInBounds 3 Value.none))).get? b=be o':=by
     by_cases hb:b=T
     .rw[hb];exact SV
     .exact#[o,(other _ hb).trans q]
    obtain⟨o',q'⟩:=this;obtain⟨v7,z⟩:=hs₁.2.2 b o' q';exact#[_,kp b _ hb z]
def flight_none{fl:Os}(hx:ExAt s.heap e C od T fl)(h:∀h',ExAt h' e C od T .none->Stay [] [T] s.heap h'->Q () {s with heap:=h'}):U_ M A (We (.ref e) v9) Q E s:=by
 obtain⟨sl,vs,oT,ts,he,h1,w6,hT,k_,h3⟩:=hx;have OJ:3<ts.size:=(JT.mp h3).1;unfold We;refine P3 (VM he rfl h1 ?_);rw[if_pos (show(Value.ref T !=Value.none)=true from MD)];refine V7 hT k_ OJ (h _ ?_ ?_)
 .exact#[sl,vs,_,_,(Heap.get?_update_other _ _ w6).trans he,h1,w6,Heap.get?_update_self _ hT (Obj.isFreed_of_fields (Obj.data_mapFields k_ _)),Obj.data_mapFields k_ _,by simp[OJ]]
 .have other:∀b o,b∉[T]->s.heap.get? b=be o->(s.heap.update T (Obj.mapFields (·.setIfInBounds 3 ((v9:Option Pi).elim Value.none λf=>V2 f)))).get? b=be o:=λb o hb q=>(Heap.get?_update_other _ _ (λz=>hb (by simp[z]))).trans q;refine#[λb o q n _=>other b o n q,λb o q n=>#[o.slots,other b o n q],λb o q=>?_];by_cases hb:b=T
  .subst hb;exact#[_,Heap.get?_update_self _ hT (Obj.isFreed_of_fields (Obj.data_mapFields k_ _))]
  .exact#[o,other b o (by simp[hb]) q]
end
def CX1(P:U')(w:Va):CXT:=λouter H s E ev s'=>∃e C od T H',ev=.ref e/\s'.os=s.os/\VY s'.gens/\Un (frs outer) [] H H' s.heap s'.heap/\HOk P w H' s'.heap/\ExAt s'.heap e C od T .none/\s.heap.get? e=v9/\s.heap.get? T=v9/\H' e=v9/\H' T=v9/\E (.ref C) od H'
variable{fs ex:List Pi}
def fR{P:U'}{w:Va}{H:Hp}{h h':Heap}(x:HOk P w H h)(st:Stay fs ex h h')(hf:∀b∈fs,H b=v9)(he:∀b∈ex,H b=v9):HOk P w H h':=λa o q=>
 (x a o q).stay (λb u hb r=>by
  have hn:H b≠none:=by
   rcases hb with rfl|hb
   .rw[q];exact λz=>nomatch z
   .rw[hb];exact λz=>nomatch z
  exact st.keep b u r (λz=>hn (he b z)) (λz=>hn (hf b z))) (λ_ q=>q) λ_ _ q=>q
def gZ{l7:List Pi}{H H':Hp}{h h1 h2:Heap}(u:Un fs [] H H' h h1)(st:Stay l7 ex h1 h2)(d_:∀b∈ex,h.get? b=v9)(OK:∀b∈l7,b∈fs\/h.get? b=v9):Un fs [] H H' h h2 where
 keep:=λb o q n hb hx=>st.keep b o (u.keep b o q n hb hx) (λz=>by rw[d_ b z]at q;cases q) (λz=>(OK b z).elim hb λy=>by rw[y]at q;cases q)
 slot:=λb o q n hb hx=>by
  obtain⟨sl,e1⟩:=u.slot b o q n hb hx;obtain⟨v7,e2⟩:=st.slot b _ e1 (λz=>by rw[d_ b z]at q;cases q);exact#[v7,e2]
 free:=u.free
 there:=λb o q hx=>by
  obtain⟨o1,e1⟩:=u.there b o q hx;exact st.there b o1 e1
 tups:=u.tups
 frzs:=u.frzs
 tbls:=u.tbls
section
variable {P:U'}{w:Va}{K:Ex}{mg:LB->Option Os}{base:Heap}{N:List LB}{qual:LB}{scope:Vz}{f:Pi}{cd:Os}{A:Vb}{outer:List VU}{s:SB}{H:Hp}{E E':XK}
def sR{b:Pi}(hb:b∈frs (Vk qual scope s.heap.objs.size f cd::outer)):b∈frs outer\/s.heap.get? b=none:=by
 unfold frs at hb;rw[JL]at hb;rcases HQ.mp (show b∈s.heap.objs.size::outer.filterMap (·.frame)from hb)with e|e
 .rw[e];exact .inr (Heap.get?_none_of_le (HP _))
 .exact .inl e
def sS{pins:List (Pi×Vp)}{σ:L2.St}{H1:Hp}{s1:SB}{e C:Pi}{od:Option Pi}{sl:Array (Option Os)}{vs:Array Os}(I:Inv (cxOf (CX1 P w) P w K mg base N qual scope f cd A outer s H E') pins σ H1 s1)
  (he:s1.heap.get? e=be #[.ref C,od,.fields vs,sl]) (h1:vs[1]?=be .none) (He:H1 e=v9) (ne:s.heap.get? e=v9) (hE:E' (.ref C) od H1):(cxOf (CX1 P w) P w K mg base N qual scope f cd A outer s H E').xe (.ref e) s1:=by
 show U_ _ _ (WA _ _) _ _ _;unfold WA;refine P3 (sP I.ok.frames I.stack rfl he h1 λh2 T2 n8 z_ s_=>flight_none (s:={s1 with heap:=h2}) n8 λh3 NQ J_=>?_);have LH:s1.heap.get? T2=none:=Heap.get?_none_of_le z_;have f1:∀b,s1.heap.get? b=v9->s.heap.get? b=none:=λb q=>by
  cases z:s.heap.get? b with
  |none=>rfl
  |some o=>
   obtain⟨o',z'⟩:=I.base.there b o z (by exact λy=>absurd (show b∈([]:List Pi)from y) MD);rw[q]at z';cases z'
 have hok:HOk P w H1 s1.heap:=I.hok;have Ma:H1 T2=none:=hok.fresh z_;have u2:Un (frs outer) [] H H1 s.heap h2:=gZ (show Un (frs outer) [] H H1 s.heap s1.heap from I.base) s_ (λb hb=>by rw[HN.mp hb];exact ne) λb hb=>sR hb;have u3:Un (frs outer) [] H H1 s.heap h3:=gZ u2 J_ (λb hb=>by rw[HN.mp hb];exact f1 T2 LH) λb hb=>by cases hb
 have k2:=fR hok s_ (λb hb=>I.stkFree b hb) (λb hb=>by rw[HN.mp hb];exact He);have k3:=fR k2 J_ (λb hb=>by cases hb) (λb hb=>by rw[HN.mp hb];exact Ma);exact#[e,C,od,T2,H1,rfl,I.os,I.bare,u3,k3,NQ,ne,f1 T2 LH,He,Ma,hE]
end
end Exc
namespace L2
def Same.tup{K:Ex}{H H':Hp}{a:Pi}{xs:List V}(e:Same H H')(h:SqT K H a xs):SqT K H' a xs:=by
 rcases h with(h|⟨o,h⟩)|h
 .exact .inl (.inl (e _ _ h))
 .exact .inl (.inr #[o,e _ _ h])
 .exact .inr h
end L2
namespace My
def eL{X:Cx}:fO (Exc.CX1 X.prog X.w) X E0:=λ_ _ _ _ _ _ _ h=>by
 obtain⟨e,C,od,T,H',_,_,_,_,_,_,_,_,_,_,h⟩:=h;exact h.elim
def Fun.okC{P:U'}{w:Va}{K:Ex}{mg:LB->Option Os}{base:Heap}{CX:CXT}{x qual:LB}{st:U7}{f:Pi}{fd:Vg}{N ps:List LB}{k:Nat}{sp:Sp}{dV:Os}(F:FunG K dV x qual st f fd)(S:FnScope N ps (ah st))(len:∀vs H Q E,sp vs H Q E->vs.length=ps.length)
  (a8:∀(cdv:Os) (A:Vb) (outer:List VU) (s:SB) (H:Hp) (vs:List V) (Q:VK) (E:XK),Room k (A.deeper (Vk qual (ah st) s.heap.objs.size f cdv))->sp vs H Q E->
   ∃t,PSs (cxOf CX P w K mg base N qual (ah st) f cdv A outer s H E) (aK st) t/\t {nx:=λ_ H'=>Q .non H',rt:=Q} (start N vs) H):FnOk P w K mg base CX (k+1) f fd ps sp:=by
 obtain⟨oc,od,kV,doc,pm,an,cdv,ct,osl,rfl,lk,gt⟩:=F.ex;refine yG lk gt S len λA outer s H vs Q E hr z7=>?_;exact a8 cdv A outer s H vs Q E hr z7
def Cal(P:U')(w:Va)(K:Ex)(mg:LB->Option Os)(base:Heap)(n:Nat)(x:LB)(ps:List LB)(sp:Sp):Prop:=
 ∃f fd,FnOk P w K mg base (Exc.CX1 P w) n f fd ps sp/\Binds K fd ps []/\keepIn K (.ref f)=true/\mg x=be (.ref f)
def Tx(K:Ex)(mg:LB->Option Os)(x:LB)(st:U7)(ps:List LB):Prop:=
 ∃f fd,Fun K x x st f fd/\Binds K fd ps []/\mg x=be (.ref f)
section
variable {X:Cx}{n m:Nat}{ps:List LB}{sp:Sp}{x:LB}{p pos:Vh}{e:U8}{es:List U8}{t:TA}
def zz(C:Cal X.prog X.w X.K X.mg X.base n x ps sp)(hr:Room m X.A)(ha:PA X (e::es) t)(hg:autoParam (Gl X x) zA0)(hn:autoParam (n<=m) zA1)(d5:autoParam (zND x) zA1)
  (he:autoParam (zSE X e es) zA0) (c8:autoParam (zPL X pos es) zA0):
  PE X (.Call (.Name x p) (e::es) [] pos) (so sp [] E0 t):=by
 obtain⟨f,fd,F,hb,hk,hm⟩:=C;exact yB F (hr.mono hn) hg hm hk hb .nil eL ha d5 he c8
end
def aO{H:Hp}{p:Pi}(h:H p=v9)(o:HO):Same H (upd H p o):=λb u q=>by rw[ar (bH q h)];exact q
def sz{n:Nat}(h:n<=1000):n<=sizeLine:=JK (zl h)
end My
namespace L2
section
variable {X:Cx}
variable{e:U8}
def PE.anti{t t':TE}(h:PE X e t)(a:∀s H Q,t' s H Q->t s H Q):PE X e t':=λpins s σ H Q I q=>h pins s σ H Q I (a _ _ _ q)
def PT.anti{t t':TT}(h:PT X e t)(a:∀s H Q,t' s H Q->t s H Q):PT X e t':=λpins s σ H Q I q=>h pins s σ H Q I (a _ _ _ q)
def PW.anti{t t':TT}(h:PW X e t)(a:∀s H Q,t' s H Q->t s H Q):PW X e t':=λwh pins s σ H Q I q=>h wh pins s σ H Q I (a _ _ _ q)
def PA.anti{e:List U8}{t t':TA}(h:PA X e t)(a:∀s H Q,t' s H Q->t s H Q):PA X e t':=λp pins s σ H Q I q=>h p pins s σ H Q I (a _ _ _ q)
def PS.anti{e:U7}{t t':TS}(h:PS X e t)(a:∀E s H,t' E s H->t E s H):PS X e t':=λpins s σ H Q I q=>h pins s σ H Q I (a _ _ _ q)
def PSs.anti{e:List U7}{t t':TS}(h:PSs X e t)(a:∀E s H,t' E s H->t E s H):PSs X e t':=λpins s σ H Q I q=>h pins s σ H Q I (a _ _ _ q)
end
end L2
namespace My
inductive D where
 |non|bl (b:Bool)|int (i:Int)|str (x:Str)|tup (xs:List D)|lst (xs:List D)
  |rol (xs:List D)
  |obj (x:LB) (fs:List (LB×D))
  |exc (x:LB) (fs:List (LB×D))
  |own (xs:List D)
  |ptr (a:Pi)
  |dti (a9:List ((Int×Int)×Int))
def dtiV(a9:List ((Int×Int)×Int)):List (List Key×V):=a9.map λe=>([.inl e.1.1,.inl e.1.2],.int e.2)
def XO(e C:Pi)(od:Option Pi):HO:=.ext λh=>∃vs sl,h.get? e=be #[.ref C,od,.fields vs,sl]
mutual
def Rep(K:Ex)(H:Hp):D->V->Prop
 |.non,v=>v=.non
 |.bl b,v=>v=.bl b
 |.int i,v=>v=.int i
 |.str x,v=>v=.str x
 |.tup ds,v=>∃a vs,v=.ref a/\H a=be (.tup vs)/\Reps K H ds vs
 |.lst ds,v=>∃a vs,v=.ref a/\H a=be (.lst vs)/\Reps K H ds vs
 |.rol ds,v=>∃a vs,v=.ref a/\SqL K H a vs/\Reps K H ds vs
 |.obj x fs,v=>∃a C dx vs,v=.ref a/\nsIn K SL x=be (be (.ref C))/\H a=be (.ins C dx vs)/\RepF K H fs vs
 |.exc x fs,v=>∃a C od vs,v=.ref a/\nsIn K SL x=be (be (.ref C))/\H a=be (XO a C od)/\RepF K H fs vs/\((od=v9/\vs=[])\/∃b,od=be b/\H b=be (.xd vs))
 |.own _,_=>False
 |.ptr a,v=>v=.ref a
 |.dti a9,v=>∃a,v=.ref a/\H a=be (.dT (dtiV a9))
def RepF(K:Ex)(H:Hp):List (LB×D)->List (LB×V)->Prop
 |[],vs=>vs=[]
 |(f,d)::ds,vs=>∃v r,vs=(f,v)::r/\Rep K H d v/\RepF K H ds r
def Reps(K:Ex)(H:Hp):List D->List V->Prop
 |[],vs=>vs=[]
 |d::ds,vs=>∃v r,vs=v::r/\Rep K H d v/\Reps K H ds r
end
mutual
def Rep.mono{K:Ex}{H H':Hp}(g:Same H H'):∀(d:D) (v:V),Rep K H d v->Rep K H' d v
 |.non,v,h=>by unfold Rep at h ⊢;exact h
 |.bl b,v,h=>by unfold Rep at h ⊢;exact h
 |.int b,v,h=>by unfold Rep at h ⊢;exact h
 |.str b,v,h=>by unfold Rep at h ⊢;exact h
 |.tup ds,v,h=>by
  unfold Rep at h ⊢;obtain⟨a,vs,e,q,r⟩:=h;exact#[a,vs,e,g _ _ q,Reps.mono g ds vs r]
 |.lst ds,v,h=>by
  unfold Rep at h ⊢;obtain⟨a,vs,e,q,r⟩:=h;exact#[a,vs,e,g _ _ q,Reps.mono g ds vs r]
 |.rol ds,v,h=>by
  unfold Rep at h ⊢;obtain⟨a,vs,e,q,r⟩:=h;exact#[a,vs,e,g.seq q,Reps.mono g ds vs r]
 |.obj C fs,v,h=>by
  unfold Rep at h ⊢;obtain⟨a,C,dx,vs,e,n,q,r⟩:=h;exact#[a,C,dx,vs,e,n,g _ _ q,RepF.mono g fs vs r]
 |.exc C fs,v,h=>by
  unfold Rep at h ⊢;obtain⟨a,C,od,vs,e,n,q,r,d⟩:=h;exact#[a,C,od,vs,e,n,g _ _ q,RepF.mono g fs vs r,d.imp id λ⟨b,h1,h2⟩=>#[b,h1,g _ _ h2]]
 |.own ds,v,h=>by
  unfold Rep at h ⊢;exact h
 |.ptr a,v,h=>by unfold Rep at h ⊢;exact h
 |.dti a9,v,h=>by
  unfold Rep at h ⊢;obtain⟨a,e,q⟩:=h;exact#[a,e,g _ _ q]
def RepF.mono{K:Ex}{H H':Hp}(g:Same H H'):∀(ds:List (LB×D)) (vs:List (LB×V)),RepF K H ds vs->RepF K H' ds vs
 |[],vs,h=>by unfold RepF at h ⊢;exact h
 |(f,d)::ds,vs,h=>by
  unfold RepF at h ⊢;obtain⟨v,r,e,q1,q2⟩:=h;exact#[v,r,e,Rep.mono g d v q1,RepF.mono g ds r q2]
def Reps.mono{K:Ex}{H H':Hp}(g:Same H H'):∀(ds:List D) (vs:List V),Reps K H ds vs->Reps K H' ds vs
 |[],vs,h=>by unfold Reps at h ⊢;exact h
 |d::ds,vs,h=>by
  unfold Reps at h ⊢;obtain⟨v,r,e,q1,q2⟩:=h;exact#[v,r,e,Rep.mono g d v q1,Reps.mono g ds r q2]
end
section
variable {K:Ex}{H:Hp}
variable{v:V}
def rep_non:Rep K H .non v↔v=.non:=by unfold Rep;exact Iff.rfl
def rep_bl{b:Bool}:Rep K H (.bl b) v↔v=.bl b:=by unfold Rep;exact Iff.rfl
def rep_int{i:Int}:Rep K H (.int i) v↔v=.int i:=by unfold Rep;exact Iff.rfl
variable{x:LB}
def rep_str:Rep K H (.str x) v↔v=.str x:=by unfold Rep;exact Iff.rfl
variable{ds:List My.D}
def rep_tupS:Rep K H (.tup ds) v↔∃a vs,v=.ref a/\H a=be (.tup vs)/\Reps K H ds vs:=by
 constructor
 .intro h;unfold Rep at h;exact h
 .intro h;unfold Rep;exact h
def rep_tup_mp(h:Rep K H (.tup ds) v):∃a vs,v=.ref a/\SqT K H a vs/\Reps K H ds vs:=by
 obtain⟨a,vs,e,q,r⟩:=rep_tupS.mp h;exact#[a,vs,e,SqT.of q,r]
def rep_ptr{a:Pi}:Rep K H (.ptr a) v↔v=.ref a:=by unfold Rep;exact Iff.rfl
def rep_dti{a9:List ((Int×Int)×Int)}:Rep K H (.dti a9) v↔∃a,v=.ref a/\H a=be (.dT (dtiV a9)):=by
 constructor
 .intro h;unfold Rep at h;exact h
 .intro h;unfold Rep;exact h
def rep_lst:Rep K H (.lst ds) v↔∃a vs,v=.ref a/\H a=be (.lst vs)/\Reps K H ds vs:=by
 constructor
 .intro h;unfold Rep at h;exact h
 .intro h;unfold Rep;exact h
def rep_rol:Rep K H (.rol ds) v↔∃a vs,v=.ref a/\SqL K H a vs/\Reps K H ds vs:=by
 constructor
 .intro h;unfold Rep at h;exact h
 .intro h;unfold Rep;exact h
variable{fs:List (LB×My.D)}
def rep_obj:Rep K H (.obj x fs) v↔∃a C dx vs,v=.ref a/\nsIn K SL x=be (be (.ref C))/\H a=be (.ins C dx vs)/\RepF K H fs vs:=by
 constructor
 .intro h;unfold Rep at h;exact h
 .intro h;unfold Rep;exact h
def rep_exc:Rep K H (.exc x fs) v↔∃a C od vs,v=.ref a/\nsIn K SL x=be (be (.ref C))/\H a=be (XO a C od)/\RepF K H fs vs/\((od=v9/\vs=[])\/∃b,od=be b/\H b=be (.xd vs)):=by
 constructor
 .intro h;unfold Rep at h;exact h
 .intro h;unfold Rep;exact h
def rep_own:¬Rep K H (.own ds) v:=by intro h;unfold Rep at h;exact h
variable{vs:List (LB×V)}
def repf_nil:RepF K H [] vs↔vs=[]:=by unfold RepF;exact Iff.rfl
def repf_cons{f:LB}{d:D}{ds:List (LB×D)}:RepF K H ((f,d)::ds) vs↔∃v r,vs=(f,v)::r/\Rep K H d v/\RepF K H ds r:=by
 constructor
 .intro h;unfold RepF at h;exact h
 .intro h;unfold RepF;exact h
def RepF.look{f:LB}{d:D}:∀{fs:List (LB×D)} {vs:List (LB×V)},RepF K H fs vs->fs.lookup f=be d->∃v,vs.lookup f=be v/\Rep K H d v
 |[],_,_,e=>by cases e
 |(g,x)::fs,vs,h,e=>by
  obtain⟨v,r,rfl,h1,h2⟩:=repf_cons.mp h;rw[Ig]at e ⊢;split at e
  .cases e;exact#[v,rfl,h1]
  .exact RepF.look h2 e
def RepF.none{f:LB}:∀{fs:List (LB×D)} {vs:List (LB×V)},RepF K H fs vs->fs.lookup f=Option.none->vs.lookup f=Option.none
 |[],vs,h,_=>by rw[repf_nil.mp h];rfl
 |(g,x)::fs,vs,h,e=>by
  obtain⟨v,r,rfl,h1,h2⟩:=repf_cons.mp h;rw[Ig]at e ⊢;split at e
  .cases e
  .exact RepF.none h2 e
def reps_nil{vs:List V}:Reps K H [] vs↔vs=[]:=by unfold Reps;exact Iff.rfl
def reps_cons{d:D}{vs:List V}:Reps K H (d::ds) vs↔∃v r,vs=v::r/\Rep K H d v/\Reps K H ds r:=by
 constructor
 .intro h;unfold Reps at h;exact h
 .intro h;unfold Reps;exact h
def Reps.length:∀{ds:List D} {vs:List V},Reps K H ds vs->vs.length=ds.length
 |[],vs,h=>by rw[reps_nil.mp h];rfl
 |d::ds,vs,h=>by
  obtain⟨v,r,rfl,_,h2⟩:=reps_cons.mp h;rw[HX,HX,Reps.length h2]
def Reps.get:∀{ds:List D} {vs:List V} {i:Nat} {d:D},Reps K H ds vs->ds[i]?=be d->∃v,vs[i]?=be v/\Rep K H d v
 |[],_,_,_,_,e=>by simp at e
 |x::ds,vs,0,d,h,e=>by
  obtain⟨v,r,rfl,h1,_⟩:=reps_cons.mp h;simp at e;subst e;exact#[v,rfl,h1]
 |x::ds,vs,i+1,d,h,e=>by
  obtain⟨v,r,rfl,_,h2⟩:=reps_cons.mp h;obtain⟨u,q1,q2⟩:=Reps.get (i:=i) h2 (by simpa using e);exact#[u,by simpa using q1,q2]
def Reps.ints:∀{ns:List Int} {vs:List V},Reps K H (ns.map D.int) vs↔vs=ns.map V.int
 |[],vs=>reps_nil
 |n::ns,vs=>by
  rw[Il,reps_cons,Il];constructor
  .rintro⟨v,r,rfl,h1,h2⟩;rw[rep_int.mp h1,Reps.ints.mp h2]
  .rintro rfl;exact#[_,_,rfl,rep_int.mpr rfl,Reps.ints.mpr rfl]
end
abbrev SD:=List (Option D)
def hU:D->Bool|.own _=>true|_=>false
structure RepS(K:Ex)(B F H:Hp)(t:SD)(s:L2.St):Prop where
 len:s.length=t.length
 val:∀(i:Nat) d,t[i]?=be (be d)->hU d=false->∃v,s[i]?=be (be v)/\Rep K F d v
 own:∀(i:Nat) ds,t[i]?=be (be (.own ds))->∃a vs,s[i]?=be (be (.ref a))/\H a=be (.lst vs)/\B a=v9/\F a=v9/\Reps K F ds vs
 apart:∀(i j:Nat) di dj a,t[i]?=be (be (.own di))->t[j]?=be (be (.own dj))->s[i]?=be (be (.ref a))->s[j]?=be (be (.ref a))->i=j
structure Grow(F H F' H':Hp):Prop where
 ff:Same F F'
 fh:Same F' H'
 hh:Same H H'
 out:∀b,F b=v9->H b≠v9->F' b=v9
variable{F H:Hp}
def Grow.refl(h:Same F H):Grow F H F H:=#[Same.refl F,h,Same.refl H,λ_ h _=>h]
def Grow.trans{F1 H1 F2 H2:Hp}(g:Grow F H F1 H1)(k:Grow F1 H1 F2 H2):Grow F H F2 H2:=
 ⟨g.ff.trans k.ff,k.fh,g.hh.trans k.hh,λb h1 h2=>k.out b (g.out b h1 h2) (by
  cases e:H b with
  |none=>exact absurd e h2
  |some o=>rw[g.hh b o e];exact λz=>nomatch z)⟩
def Grow.new{p:Pi}(h:Same F H)(hp:H p=v9)(o:HO):Grow F H (upd F p o) (upd H p o):=by
 have fp:F p=none:=h.free hp;refine#[aO fp o,λb u e=>?_,aO hp o,λb h1 h2=>?_]
 .by_cases hb:b=p
  .subst hb;rw[aB]at e ⊢;exact e
  .rw[ar hb]at e ⊢;exact h b u e
 .by_cases hb:b=p
  .subst hb;exact absurd hp h2
  .rw[ar hb];exact h1
class Jx where
 B:Hp
 F0:Hp
 RX:SD->LB->List (LB×D)->Prop
structure Kept[J:Jx](B F0 F H:Hp):Prop where
 bh:Same B H
 fh:Same F H
 f0:Same F0 F
 out:∀b,F0 b=v9->B b≠v9->F b=v9
 eb:B=J.B
 jf:Same J.F0 F0
 jo:∀b,J.F0 b=v9->B b≠v9->F0 b=v9
variable{B:Hp}
def Kept.kf[J:Jx]{F0:Hp}(k:Kept B F0 F H):Kept B J.F0 F H:=#[k.bh,k.fh,k.jf.trans k.f0,λb h1 h2=>k.out b (k.jo b h1 h2) h2,k.eb,Same.refl _,λ_ h _=>h]
def Kept.grow[Jx]{F0 F' H':Hp}(k:Kept B F0 F H)(g:Grow F H F' H'):Kept B F0 F' H':=
 ⟨k.bh.trans g.hh,g.fh,k.f0.trans g.ff,λb h1 h2=>g.out b (k.out b h1 h2) (by
  cases e:B b with
  |none=>exact absurd e h2
  |some o=>rw[k.bh b o e];exact λz=>nomatch z),k.eb,k.jf,k.jo⟩
section
variable {K:Ex}{B F H F' H':Hp}{t:SD}{s:L2.St}
def RepS.grow(g:Grow F H F' H')(h:RepS K B F H t s):RepS K B F' H' t s where
 len:=h.len
 val:=λi d e no=>let ⟨v,q1,q2⟩:=h.val i d e no;#[v,q1,q2.mono g.ff]
 own:=λi ds e=>by
  obtain⟨a,vs,q1,q2,q3,q4,q5⟩:=h.own i ds e;exact#[a,vs,q1,g.hh a _ q2,q3,g.out a q4 (by rw[q2];exact λz=>nomatch z),q5.mono g.ff]
 apart:=h.apart
variable{i:Nat}
def RepS.set{d:D}{v:V}(h:RepS K B F H t s)(r:Rep K F d v):RepS K B F H (t.set i (be d)) (s.set i (be v)):=by
 have no:hU d=false:=by
  cases d with
  |own ds=>exact absurd r rep_own
  |_=>rfl
 have get:∀{j:Nat} {x:D},(t.set i (be d))[j]?=be (be x)->(j=i/\x=d/\i<t.length)\/(j≠i/\t[j]?=be (be x)):=λ{j x} e=>by
  by_cases hj:i=j
  .subst hj;rw[Je]at e;simp at e;exact .inl #[rfl,e.2.symm,e.1]
  .rw[Ic hj]at e;exact .inr #[λz=>hj z.symm,e]
 refine#[by rw[IH,IH];exact h.len,λj x e nx=>?_,λj ds e=>?_,λj k dj dk a e1 e2 e3 e4=>?_]
 .rcases get e with⟨rfl,rfl,hl⟩|⟨hj,e⟩
  .exact#[v,by rw[IE (by rw[h.len];exact hl)],r]
  .obtain⟨u,q1,q2⟩:=h.val j x e nx;exact#[u,by rw[Ic (λz=>hj z.symm)];exact q1,q2]
 .rcases get e with⟨rfl,rfl,hl⟩|⟨hj,e⟩
  .cases no
  .obtain⟨a,vs,q1,q⟩:=h.own j ds e;exact#[a,vs,by rw[Ic (λz=>hj z.symm)];exact q1,q]
 .rcases get e1 with⟨rfl,rfl,hl⟩|⟨hj,e1⟩
  .cases no
  .rcases get e2 with⟨rfl,rfl,hl⟩|⟨hk,e2⟩
   .cases no
   .rw[Ic (λz=>hj z.symm)]at e3;rw[Ic (λz=>hk z.symm)]at e4;exact h.apart j k dj dk a e1 e2 e3 e4
variable{ds:List My.D}
def RepS.setOwn{a:Pi}{vs:List V}(h:RepS K B F H t s)(hB:B a=v9)(hF:F a=v9)(r:Reps K F ds vs)
  (free:∀(j:Nat) dj,j≠i->t[j]?=be (be (.own dj))->s[j]?≠be (be (.ref a))):RepS K B F (upd H a (.lst vs)) (t.set i (be (.own ds))) (s.set i (be (.ref a))):=by
 have get:∀{j:Nat} {x:D},(t.set i (be (.own ds)))[j]?=be (be x)->(j=i/\x=.own ds/\i<t.length)\/(j≠i/\t[j]?=be (be x)):=λ{j x} e=>by
  by_cases hj:i=j
  .subst hj;rw[Je]at e;simp at e;exact .inl #[rfl,e.2.symm,e.1]
  .rw[Ic hj]at e;exact .inr #[λz=>hj z.symm,e]
 refine#[by rw[IH,IH];exact h.len,λj x e nx=>?_,λj dj e=>?_,λj k dj dk b e1 e2 e3 e4=>?_]
 .rcases get e with⟨rfl,rfl,hl⟩|⟨hj,e⟩
  .cases nx
  .obtain⟨u,q1,q2⟩:=h.val j x e nx;exact#[u,by rw[Ic (λz=>hj z.symm)];exact q1,q2]
 .rcases get e with⟨rfl,e,hl⟩|⟨hj,e⟩
  .cases e;exact#[a,vs,by rw[IE (by rw[h.len];exact hl)],aB,hB,hF,r]
  .obtain⟨b,us,q1,q2,q⟩:=h.own j dj e;have ne:b≠a:=λz=>free j dj hj e (z ▸ q1);exact#[b,us,by rw[Ic (λz=>hj z.symm)];exact q1,by rw[ar ne];exact q2,q]
 .rcases get e1 with⟨hj,c1,hl⟩|⟨hj,f1⟩
  .rcases get e2 with⟨hk,c2,OG⟩|⟨hk,f2⟩
   .rw[hj,hk]
   .rw[hj,IE (by rw[h.len];exact hl)]at e3;rw[Ic (λz=>hk z.symm)]at e4;cases e3;exact absurd e4 (free k dk hk f2)
  .rcases get e2 with⟨hk,c2,OG⟩|⟨hk,f2⟩
   .rw[hk,IE (by rw[h.len];exact OG)]at e4;rw[Ic (λz=>hj z.symm)]at e3;cases e4;exact absurd e3 (free j dj hj f1)
   .rw[Ic (λz=>hj z.symm)]at e3;rw[Ic (λz=>hk z.symm)]at e4;exact h.apart j k dj dk b f1 f2 e3 e4
def RepS.freeze[Jx]{F0:Hp}(h:RepS K B F H t s)(k:Kept B F0 F H)(e:t[i]?=be (be (.own ds))):∃F',Kept B F0 F' H/\RepS K B F' H (t.set i (be (.lst ds))) s:=by
 obtain⟨a,vs,q1,q2,q3,q4,q5⟩:=h.own i ds e;have hl:i<t.length:=(Ib.mp e).1;have g:Same F (upd F a (.lst vs)):=aO q4 _;have get:∀{j:Nat} {x:D},(t.set i (be (.lst ds)))[j]?=be (be x)->(j=i/\x=.lst ds)\/(j≠i/\t[j]?=be (be x)):=λ{j x} e=>by
  by_cases hj:i=j
  .subst hj;rw[Je]at e;simp at e;exact .inl #[rfl,e.2.symm]
  .rw[Ic hj]at e;exact .inr #[λz=>hj z.symm,e]
 refine#[upd F a (.lst vs),#[k.bh,λb o z=>?_,k.f0.trans g,λb h1 h2=>?_,k.eb,k.jf,k.jo],#[by rw[IH];exact h.len,λj x e' nx=>?_,λj dj e'=>?_,λj l dj dl b e1 e2 e3 e4=>?_]]
 .by_cases hb:b=a
  .subst hb;rw[aB]at z;cases z;exact q2
  .rw[ar hb]at z;exact k.fh b o z
 .by_cases hb:b=a
  .subst hb;exact absurd q3 h2
  .rw[ar hb];exact k.out b h1 h2
 .rcases get e' with⟨rfl,rfl⟩|⟨hj,e'⟩
  .exact#[.ref a,q1,rep_lst.mpr #[a,vs,rfl,aB,q5.mono g]]
  .obtain⟨u,p1,p2⟩:=h.val j x e' nx;exact#[u,p1,p2.mono g]
 .rcases get e' with⟨rfl,c⟩|⟨hj,e'⟩
  .cases c
  .obtain⟨b,us,p1,p2,p3,p4,p5⟩:=h.own j dj e';have ne:b≠a:=λz=>hj (h.apart j i dj ds a e' e (z ▸ p1) q1);exact#[b,us,p1,p2,p3,by rw[ar ne];exact p4,p5.mono g]
 .rcases get e1 with⟨rfl,c⟩|⟨hj,e1⟩
  .cases c
  .rcases get e2 with⟨rfl,c⟩|⟨hk,e2⟩
   .cases c
   .exact h.apart j l dj dl b e1 e2 e3 e4
end
def startD(N:List LB)(ds:List D):SD:=ds.map be++IF (N.length-ds.length) v9
variable{K:Ex}
def Rep.noown{d:D}{v:V}(r:Rep K F d v):hU d=false:=by
 cases d with
 |own ds=>exact absurd r rep_own
 |_=>rfl
def dJ{N:List LB}{ds:List D}{vs:List V}(h:Reps K F ds vs):RepS K B F H (startD N ds) (L2.start N vs):=by
 have hl:=h.length;have get:∀(i:Nat) d,(startD N ds)[i]?=be (be d)->∃v,(L2.start N vs)[i]?=be (be v)/\Rep K F d v:=λi d e=>by
  unfold startD at e;unfold L2.start;by_cases hi:i<ds.length
  .rw[IG (by simpa using hi),H9]at e;cases q:ds[i]? with
   |none=>rw[q]at e;cases e
   |some x=>
    rw[q]at e;cases e;obtain⟨v,q1,q2⟩:=h.get q;exact#[v,by rw[IG (by simpa[hl]using hi),H9,q1];rfl,q2]
  .rw[IT (by simpa using hi),J3]at e;split at e<;>cases e
 refine#[by unfold startD L2.start;simp[hl],λi d e _=>get i d e,λi d e=>?_,λi j di dj a e=>?_]
 .obtain⟨v,_,r⟩:=get i _ e;exact absurd r rep_own
 .obtain⟨v,_,r⟩:=get i _ e;exact absurd r rep_own
abbrev TD:=SD->(D->Prop)->Prop
abbrev TDT:=SD->(Bool->Prop)->Prop
abbrev TDA:=SD->(List D->Prop)->Prop
structure EndsD where
 nx:SD->Prop
 rt:D->Prop
 bk:SD->Prop:=λ_=>False
 ct:SD->Prop:=λ_=>False
abbrev TSD:=EndsD->SD->Prop
def lE(K:Ex)[J:Jx](t:TD):TE:=λs H Q=>∃B F z,Kept B J.F0 F H/\RepS K B F H z s/\∃R:D->Prop,t z R/\∀d v F' H',Grow F H F' H'->R d->Rep K F' d v->Q v H'
def lT(K:Ex)[J:Jx](t:TDT):TT:=λs H Q=>∃B F z,Kept B J.F0 F H/\RepS K B F H z s/\∃R:Bool->Prop,t z R/\∀b F' H',Grow F H F' H'->R b->Q b H'
def lA(K:Ex)[J:Jx](t:TDA):TA:=λs H Q=>∃B F z,Kept B J.F0 F H/\RepS K B F H z s/\∃R:List D->Prop,t z R/\∀ds vs F' H',Grow F H F' H'->R ds->Reps K F' ds vs->Q vs H'
structure EndsOk[Jx](K:Ex)(B F0:Hp)(ED:EndsD)(E:Ends):Prop where
 nx:∀z' s' F' H',Kept B F0 F' H'->ED.nx z'->RepS K B F' H' z' s'->E.nx s' H'
 rt:∀d v F' H',Kept B F0 F' H'->ED.rt d->Rep K F' d v->E.rt v H'
 bk:∀z' s' F' H',Kept B F0 F' H'->ED.bk z'->RepS K B F' H' z' s'->E.bk s' H'
 ct:∀z' s' F' H',Kept B F0 F' H'->ED.ct z'->RepS K B F' H' z' s'->E.ct s' H'
def lS(K:Ex)[Jx](t:TSD):TS:=λE s H=>∃B F0 F z,Kept B F0 F H/\RepS K B F H z s/\∃ED:EndsD,t ED z/\EndsOk K B F0 ED E
abbrev DE(X:Cx)[Jx](e:U8)(t:TD):Prop:=PE X e (lE X.K t)
abbrev DT(X:Cx)[Jx](e:U8)(t:TDT):Prop:=PT X e (lT X.K t)
abbrev DW(X:Cx)[Jx](e:U8)(t:TDT):Prop:=PW X e (lT X.K t)
abbrev DA(X:Cx)[Jx](es:List U8)(t:TDA):Prop:=PA X es (lA X.K t)
abbrev DS(X:Cx)[Jx](st:U7)(t:TSD):Prop:=PS X st (lS X.K t)
abbrev DSs(X:Cx)[Jx](st:List U7)(t:TSD):Prop:=PSs X st (lS X.K t)
structure WDE(X:Cx)[Jx](e:U8)(t:TD):Prop where
 out:DE X e t
structure WDT(X:Cx)[Jx](e:U8)(t:TDT):Prop where
 out:DT X e t
structure WDW(X:Cx)[Jx](e:U8)(t:TDT):Prop where
 out:DW X e t
structure WDA(X:Cx)[Jx](es:List U8)(t:TDA):Prop where
 out:DA X es t
structure WDS(X:Cx)[Jx](st:U7)(t:TSD):Prop where
 out:DS X st t
structure WDSs(X:Cx)[Jx](st:List U7)(t:TSD):Prop where
 out:DSs X st t
section
variable {X:Cx}
def okR(R:D->Prop):D->Prop|.own _=>False|d=>R d
def dVar(i:Nat):TD:=λz R=>match z[i]? with|some (be d)=>okR R d|_=>False
def dC(d:D):TD:=λ_ R=>R d
variable{x:LB}
def aa[Jx](i:Nat){pos:Vh}(hN:autoParam (X.N[i]?=be x) zA0)(hv:autoParam (Vis X.env.scope x) zA5)(hd:autoParam (zND x) zA1)
  (gt:autoParam (zNC x) zA1):WDE X (.Name x pos) (dVar i):=⟨(cP hN hv hd gt).anti λs H Q h=>by
 obtain⟨B,F,z,kf,r,R,h1,h2⟩:=h;have fh:=kf.fh;unfold dVar at h1;split at h1
 .rename_i d e;have no:hU d=false:=by
   cases d with
   |own ds=>exact False.elim h1
   |_=>rfl
  have SW:R d:=by
   cases d with
   |own ds=>exact False.elim h1
   |_=>exact h1
  obtain⟨v,q1,q2⟩:=r.val i d e no;exact#[v,q1,h2 d v F H (Grow.refl fh) SW q2]
 .exact h1.elim⟩
variable{e:U8}{d:My.D}
def de_c[Jx]{v:V}(h:PE X e (tC v))(r:∀H,Rep X.K H d v):DE X e (dC d):=h.anti λs H Q q=>by
 obtain⟨B,F,z,kf,_,R,h1,h2⟩:=q;have fh:=kf.fh;exact h2 d v F H (Grow.refl fh) h1 (r F)
def ad[Jx]{i j pos}:WDE X (.Constant (.int i) j pos) (dC (.int i)):=#[de_c xq λ_=>rep_int.mpr rfl]
def bw[Jx]{b j pos}:WDE X (.Constant (.bool b) j pos) (dC (.bl b)):=#[de_c xr λ_=>rep_bl.mpr rfl]
def bC[Jx]{j pos}:WDE X (.Constant .none j pos) (dC .non):=#[de_c xt λ_=>rep_non.mpr rfl]
def ax[Jx]{x j pos}:WDE X (.Constant (.str x) j pos) (dC (.str x)):=#[de_c rn λ_=>rep_str.mpr rfl]
abbrev RD2:=D->D->(D->Prop)->Prop
def dOp(r:RD2)(ta tb:TD):TD:=λz R=>ta z λx=>tb z λy=>r x y R
def aV(K:Ex)(r:R2)(rd:RD2):Prop:=∀x y u v F H R Q,Same F H->rd x y R->Rep K F x u->Rep K F y v->(∀d w F' H',Grow F H F' H'->R d->Rep K F' d w->Q w H')->r u v H Q
variable{r:R2}{rd:RD2}
def kJ[Jx]{ta tb:TD}(L:aV X.K r rd)(h:PE X e (tOp r (lE X.K ta) (lE X.K tb))):DE X e (dOp rd ta tb):=h.anti λs H Q q=>by
 obtain⟨B,F,z,kf,rs,R,h1,h2⟩:=q;have fh:=kf.fh;refine#[B,F,z,kf,rs,_,h1,λx u F1 H1 g1 hx rx=>?_];refine#[B,F1,z,kf.grow g1,rs.grow g1,_,hx,λy v F2 H2 g2 hy ry=>?_];exact L x y u v F2 H2 R Q g2.fh hy (rx.mono g2.ff) ry λd w F' H' g3=>h2 d w F' H' (g1.trans (g2.trans g3))
variable {a b c:U8}{ta tb tc:TD}{pos:Vh}
def dL[Jx]{op:Wq}(ho:OpR X (Vv op) r)(L:aV X.K r rd)(ha:DE X a ta)(hb:DE X b tb):DE X (.BinOp a op b pos) (dOp rd ta tb):=kJ L (ki ho ha hb)
def kK[Jx]{op:WO}(ho:OpR X (Vi op) r)(L:aV X.K r rd)(ha:DE X a ta)(hb:DE X b tb)(hm:Vu op b=false):DE X (.Compare a [op] [b] pos) (dOp rd ta tb):=kJ L (rV ho ha hb hm)
def zA[Jx](hr:IxR X r)(L:aV X.K r rd)(ha:DE X a ta)(hb:DE X b tb)(hs:autoParam (eI b) zA6):DE X (.Subscript a b pos) (dOp rd ta tb):=kJ L (pe_ix hr ha hb hs)
def kdI(d:D)(k:Int->Prop):Prop:=match d with|.int i=>k i|_=>False
def kdB(d:D)(k:Bool->Prop):Prop:=match d with|.bl i=>k i|_=>False
def kdS(d:D)(k:LB->Prop):Prop:=match d with|.str i=>k i|_=>False
def kdL(d:D)(k:List D->Prop):Prop:=match d with|.lst i=>k i|_=>False
def kdT(d:D)(k:List D->Prop):Prop:=match d with|.tup i=>k i|_=>False
def kdN(d:D)(p:Prop):Prop:=match d with|.non=>p|_=>False
def kd1(ds:List D)(k:D->Prop):Prop:=match ds with|[x]=>k x|_=>False
def kd2(ds:List D)(k:D->D->Prop):Prop:=match ds with|[x,y]=>k x y|_=>False
def kdI.of{k:Int->Prop}(h:kdI d k):∃i,d=.int i/\k i:=Pm
def kdB.of{k:Bool->Prop}(h:kdB d k):∃i,d=.bl i/\k i:=Pm
def kdS.of{k:LB->Prop}(h:kdS d k):∃i,d=.str i/\k i:=Pm
variable{k:List My.D->Prop}
def kdL.of(h:kdL d k):∃i,d=.lst i/\k i:=Pm
def kdT.of(h:kdT d k):∃i,d=.tup i/\k i:=Pm
def kdP(d:D)(k:Pi->Prop):Prop:=match d with|.ptr i=>k i|_=>False
def kdP.of{k:Pi->Prop}(h:kdP d k):∃i,d=.ptr i/\k i:=Pm
def kdN.of{p:Prop}(h:kdN d p):d=.non/\p:=by cases d<;>first|exact#[rfl,h]|exact False.elim h
variable{ds:List My.D}
def kd1.of{k:D->Prop}(h:kd1 ds k):∃x,ds=[x]/\k x:=by
 cases ds with
 |nil=>exact False.elim h
 |cons x r=>cases r with
  |nil=>exact#[x,rfl,h]
  |cons=>exact False.elim h
def kd2.of{k:D->D->Prop}(h:kd2 ds k):∃x y,ds=[x,y]/\k x y:=by
 cases ds with
 |nil=>exact False.elim h
 |cons x r=>cases r with
  |nil=>exact False.elim h
  |cons y r=>cases r with
   |nil=>exact#[x,y,rfl,h]
   |cons=>exact False.elim h
def rdI0(f:Int->Int->D):RD2:=λx y R=>kdI x λi=>kdI y λj=>R (f i j)
def rdI1(C:Int->Int->Prop)(f:Int->Int->D):RD2:=λx y R=>kdI x λi=>kdI y λj=>C i j/\R (f i j)
variable{K:Ex}{f:Int->Int->My.D}{g:Int->Int->V}
def fS(k:∀F i j,Rep K F (f i j) (g i j)):aV K (rI0 g) (rdI0 f):=by
 intro x y u v F H R Q fh h rx ry q;replace h:=kdI.of h;obtain⟨i,rfl,h⟩:=h;replace h:=kdI.of h;obtain⟨j,rfl,h⟩:=h;exact#[i,j,rep_int.mp rx,rep_int.mp ry,q _ _ F H (Grow.refl fh) h (k F i j)]
def fT{C:Int->Int->Prop}(k:∀F i j,Rep K F (f i j) (g i j)):aV K (rI C g) (rdI1 C f):=by
 intro x y u v F H R Q fh h rx ry q;replace h:=kdI.of h;obtain⟨i,rfl,h⟩:=h;replace h:=kdI.of h;obtain⟨j,rfl,h⟩:=h;exact#[i,j,rep_int.mp rx,rep_int.mp ry,h.1,q _ _ F H (Grow.refl fh) h.2 (k F i j)]
def kL:RD2:=λx y R=>match x with
 |.int i=>kdI y λj=>R (.int (i+j))
 |.str i=>kdS y λj=>i.length+j.length<=1000000/\R (.str (i++j))
 |.lst xs=>kdL y λys=>xs.length+ys.length<=1000000/\R (.lst (xs++ys))
 |.tup xs=>kdT y λys=>(xs≠[]/\ys≠[]/\xs.length+ys.length<=1000000)/\R (.tup (xs++ys))
 |_=>False
def sT(K:Ex):R2:=λx y H Q=>rI0 (λi j=>.int (i+j)) x y H Q\/((λx y H Q=>∃i j,x=.str i/\y=.str j/\i.length+j.length<=sizeLine/\Q (.str (i++j)) H) x y H Q\/(rCat x y H Q\/sB K x y H Q))
def sU:OpR X (Vv .Add) (sT X.K):=OpR.or xV (OpR.or yh (OpR.or sJ yQ))
def Reps.append{K:Ex}{F:Hp}:∀{xs ys:List D} {us vs:List V},Reps K F xs us->Reps K F ys vs->Reps K F (xs++ys) (us++vs)
 |[],ys,us,vs,r1,r2=>by rw[reps_nil.mp r1];exact r2
 |x::xs,ys,us,vs,r1,r2=>by
  obtain⟨u,ur,rfl,a1,a2⟩:=reps_cons.mp r1;exact reps_cons.mpr #[u,ur++vs,rfl,a1,Reps.append a2 r2]
def Reps.ne_nil{F:Hp}{xs:List D}{us:List V}(r:Reps K F xs us)(h:xs≠[]):us≠[]:=by
 cases xs with
 |nil=>exact absurd rfl h
 |cons x xs=>obtain⟨u,ur,rfl,_⟩:=reps_cons.mp r;exact λz=>nomatch z
def sV:aV K (sT K) kL:=by
 intro x y u v F H R Q fh h rx ry q;cases x with
 |int i=>
  replace h:=kdI.of h;obtain⟨j,rfl,h⟩:=h;exact .inl #[_,_,rep_int.mp rx,rep_int.mp ry,q _ _ F H (Grow.refl fh) h (rep_int.mpr rfl)]
 |str i=>
  replace h:=kdS.of h;obtain⟨j,rfl,h⟩:=h;exact .inr (.inl #[_,_,rep_str.mp rx,rep_str.mp ry,H8 h.1 Mx,q _ _ F H (Grow.refl fh) h.2 (rep_str.mpr rfl)])
 |lst xs=>
  replace h:=kdL.of h;obtain⟨ys,rfl,h⟩:=h;obtain⟨a,us,rfl,hq,rr⟩:=rep_lst.mp rx;obtain⟨b,vs,rfl,t7,w9⟩:=rep_lst.mp ry;refine .inr (.inr (.inl #[a,b,us,vs,rfl,rfl,fh _ _ hq,fh _ _ t7,by rw[rr.length,w9.length];exact H8 h.1 Mx,λp hp=>?_]));exact q _ _ _ _ (Grow.new fh hp _) h.2 (rep_lst.mpr #[p,_,rfl,aB,(rr.append w9).mono (aO (fh.free hp) _)])
 |tup xs=>
  replace h:=kdT.of h;obtain⟨ys,rfl,h⟩:=h;obtain⟨a,us,rfl,hq,rr⟩:=rep_tup_mp rx;obtain⟨b,vs,rfl,t7,w9⟩:=rep_tup_mp ry;obtain⟨⟨n1,n2,hz⟩,h⟩:=h;refine .inr (.inr (.inr #[a,b,us,vs,rfl,rfl,fh.tup hq,fh.tup t7,rr.ne_nil n1,by rw[rr.length,w9.length];exact H8 hz Mx,λz=>absurd z (w9.ne_nil n2),λ_ p hp=>?_]));exact q _ _ _ _ (Grow.new fh hp _) h (rep_tupS.mpr #[p,_,rfl,aB,(rr.append w9).mono (aO (fh.free hp) _)])
 |_=>exact False.elim h
def am[Jx](ha:WDE X a ta)(hb:WDE X b tb):WDE X (.BinOp a .Add b pos) (dOp kL ta tb):=#[have ha:=ha.out;have hb:=hb.out;dL sU sV ha hb]
def kM:RD2:=rdI0 λi j=>.int (i-j)
def sW:aV K (rI0 λi j=>.int (i-j)) kM:=fS λ_ _ _=>rep_int.mpr rfl
def bt[Jx](ha:WDE X a ta)(hb:WDE X b tb):WDE X (.BinOp a .Sub b pos) (dOp kM ta tb):=#[have ha:=ha.out;have hb:=hb.out;dL rN sW ha hb]
def sX:RD2:=λx y R=>kdI x λi=>kdI y λj=>CMul i j/\R (.int (i*j))
def zB:aV K (rI CMul λi j=>.int (i*j)) sX:=fT λ_ _ _=>rep_int.mpr rfl
def ay[Jx](ha:WDE X a ta)(hb:WDE X b tb):WDE X (.BinOp a .Mult b pos) (dOp sX ta tb):=#[have ha:=ha.out;have hb:=hb.out;dL xW zB ha hb]
def sY:RD2:=λx y R=>kdI x λi=>kdI y λj=>(0<j/\j<1073741824)/\R (.int (i/j))
def zC:aV K (rI CDiv λi j=>.int (i/j)) sY:=fT λ_ _ _=>rep_int.mpr rfl
def aW[Jx](ha:WDE X a ta)(hb:WDE X b tb):WDE X (.BinOp a .FloorDiv b pos) (dOp sY ta tb):=#[have ha:=ha.out;have hb:=hb.out;dL xX zC ha hb]
def sZ(i j:Int):Prop:=j≠0/\j.natAbs<4611686018427387904
def zD:OpR X (Vv .FloorDiv) (rI sZ λi j=>.int (i.fdiv j)):=opI λ_ j _ _ _ _ _ hc q=>floordiv_int hc.1 q (.inl (PyProof.noPylong_of_log2 (KF ((KH (λz=>hc.1 (KI.mp z))).mpr (show j.natAbs<2^62 from hc.2)) Mx)))
def tf:RD2:=λx y R=>kdI x λi=>kdI y λj=>(j≠0/\j.natAbs<4611686018427387904)/\R (.int (i.fdiv j))
def zE:aV K (rI sZ λi j=>.int (i.fdiv j)) tf:=fT λ_ _ _=>rep_int.mpr rfl
def zF[Jx](ha:WDE X a ta)(hb:WDE X b tb):WDE X (.BinOp a .FloorDiv b pos) (dOp tf ta tb):=#[have ha:=ha.out;have hb:=hb.out;dL zD zE ha hb]
def tm:RD2:=λx y R=>kdI x λi=>kdI y λj=>0<j/\R (.int (i%j))
def zG:aV K (rI (λ_ j=>0<j) λi j=>.int (i%j)) tm:=fT λ_ _ _=>rep_int.mpr rfl
def aD[Jx](ha:WDE X a ta)(hb:WDE X b tb):WDE X (.BinOp a .Mod b pos) (dOp tm ta tb):=#[have ha:=ha.out;have hb:=hb.out;dL xY zG ha hb]
def tw:RD2:=λx y R=>kdI x λi=>kdI y λj=>j≠0/\R (.int (i.fmod j))
def zH:aV K (rI (λ_ j=>j≠0) λi j=>.int (i.fmod j)) tw:=fT λ_ _ _=>rep_int.mpr rfl
def tz[Jx](ha:WDE X a ta)(hb:WDE X b tb):WDE X (.BinOp a .Mod b pos) (dOp tw ta tb):=#[have ha:=ha.out;have hb:=hb.out;dL xZ zH ha hb]
def rdLt:RD2:=rdI0 λi j=>.bl (decide (i<j))
def tD:aV K (rI0 λi j=>.bl (decide (i<j))) rdLt:=fS λ_ _ _=>rep_bl.mpr rfl
def rdLe:RD2:=rdI0 λi j=>.bl (decide (i<=j))
def zI:aV K (rI0 λi j=>.bl (decide (i<=j))) rdLe:=fS λ_ _ _=>rep_bl.mpr rfl
def rdGt:RD2:=rdI0 λi j=>.bl (decide (j<i))
def kN:aV K (rI0 λi j=>.bl (decide (j<i))) rdGt:=fS λ_ _ _=>rep_bl.mpr rfl
def zJ[Jx](ha:WDE X a ta)(hb:WDE X b tb):WDE X (.Compare a [.Gt] [b] pos) (dOp rdGt ta tb):=#[have ha:=ha.out;have hb:=hb.out;kK km kN ha hb (nomark _)]
def rdGe:RD2:=rdI0 λi j=>.bl (decide (j<=i))
def zK:aV K (rI0 λi j=>.bl (decide (j<=i))) rdGe:=fS λ_ _ _=>rep_bl.mpr rfl
def rdEq:RD2:=λx y R=>match x with
 |.int i=>kdI y λj=>R (.bl (decide (i=j)))
 |.bl i=>kdB y λj=>R (.bl (decide (i=j)))
 |.str i=>kdS y λj=>R (.bl (decide (i=j)))
 |.non=>kdN y (R (.bl true))
 |_=>False
def rdNe:RD2:=λx y R=>match x with
 |.int i=>kdI y λj=>R (.bl (!decide (i=j)))
 |.bl i=>kdB y λj=>R (.bl (!decide (i=j)))
 |.str i=>kdS y λj=>R (.bl (!decide (i=j)))
 |.non=>kdN y (R (.bl false))
 |_=>False
def kO:aV K rEq rdEq:=by
 intro x y u v F H R Q fh h rx ry q;cases x with
 |int i=>
  replace h:=kdI.of h;obtain⟨j,rfl,h⟩:=h;rw[rep_int.mp rx,rep_int.mp ry];exact#[rfl,q _ _ F H (Grow.refl fh) h (rep_bl.mpr MD)]
 |bl i=>
  replace h:=kdB.of h;obtain⟨j,rfl,h⟩:=h;rw[rep_bl.mp rx,rep_bl.mp ry];exact#[rfl,q _ _ F H (Grow.refl fh) h (rep_bl.mpr MD)]
 |str i=>
  replace h:=kdS.of h;obtain⟨j,rfl,h⟩:=h;rw[rep_str.mp rx,rep_str.mp ry];exact#[rfl,q _ _ F H (Grow.refl fh) h (rep_bl.mpr MD)]
 |non=>
  replace h:=kdN.of h;obtain⟨rfl,h⟩:=h;rw[rep_non.mp rx,rep_non.mp ry];exact#[rfl,q _ _ F H (Grow.refl fh) h (rep_bl.mpr MD)]
 |_=>exact False.elim h
def tE:aV K rNe rdNe:=by
 intro x y u v F H R Q fh h rx ry q;cases x with
 |int i=>
  replace h:=kdI.of h;obtain⟨j,rfl,h⟩:=h;rw[rep_int.mp rx,rep_int.mp ry];exact#[rfl,q _ _ F H (Grow.refl fh) h (rep_bl.mpr MD)]
 |bl i=>
  replace h:=kdB.of h;obtain⟨j,rfl,h⟩:=h;rw[rep_bl.mp rx,rep_bl.mp ry];exact#[rfl,q _ _ F H (Grow.refl fh) h (rep_bl.mpr MD)]
 |str i=>
  replace h:=kdS.of h;obtain⟨j,rfl,h⟩:=h;rw[rep_str.mp rx,rep_str.mp ry];exact#[rfl,q _ _ F H (Grow.refl fh) h (rep_bl.mpr MD)]
 |non=>
  replace h:=kdN.of h;obtain⟨rfl,h⟩:=h;rw[rep_non.mp rx,rep_non.mp ry];exact#[rfl,q _ _ F H (Grow.refl fh) h (rep_bl.mpr MD)]
 |_=>exact False.elim h
def cZ[Jx](ha:WDE X a ta)(hb:WDE X b tb):WDE X (.Compare a [.Eq] [b] pos) (dOp rdEq ta tb):=#[have ha:=ha.out;have hb:=hb.out;kK kj kO ha hb (nomark _)]
def kP:D->Bool|.non=>true|_=>false
def rdIs(f:Bool->Bool):RD2:=λx y R=>kdN y (R (.bl (f (kP x))))
def tF{H:Hp}{x:D}{u:V}(r:Rep K H x u):decide (u=.non)=kP x:=by
 cases x with
 |non=>rw[rep_non.mp r];rfl
 |bl b=>rw[rep_bl.mp r];rfl
 |int b=>rw[rep_int.mp r];rfl
 |str b=>rw[rep_str.mp r];rfl
 |tup b=>obtain⟨a,vs,rfl,_⟩:=rep_tup_mp r;rfl
 |lst b=>obtain⟨a,vs,rfl,_⟩:=rep_lst.mp r;rfl
 |rol b=>obtain⟨a,vs,rfl,_⟩:=rep_rol.mp r;rfl
 |obj C b=>obtain⟨a,C,dx,vs,rfl,_⟩:=rep_obj.mp r;rfl
 |exc C b=>obtain⟨a,C,od,vs,rfl,_⟩:=rep_exc.mp r;rfl
 |own b=>exact absurd r rep_own
 |ptr b=>rw[rep_ptr.mp r];rfl
 |dti b=>obtain⟨a,rfl,_⟩:=rep_dti.mp r;rfl
def kQ:aV K (λx y H Q=>y=.non/\Q (.bl (decide (x=.non))) H) (rdIs id):=by
 intro x y u v F H R Q fh h rx ry q;replace h:=kdN.of h;obtain⟨rfl,h⟩:=h;exact#[rep_non.mp ry,q _ _ F H (Grow.refl fh) h (rep_bl.mpr (by rw[tF rx];rfl))]
def zL:aV K (λx y H Q=>y=.non/\Q (.bl (!decide (x=.non))) H) (rdIs not):=by
 intro x y u v F H R Q fh h rx ry q;replace h:=kdN.of h;obtain⟨rfl,h⟩:=h;exact#[rep_non.mp ry,q _ _ F H (Grow.refl fh) h (rep_bl.mpr (by rw[tF rx]))]
def zM[Jx](ha:WDE X a ta)(hb:WDE X b tb):WDE X (.Compare a [.Is] [b] pos) (dOp (rdIs id) ta tb):=#[have ha:=ha.out;have hb:=hb.out;kK ko kQ ha hb (nomark _)]
def rdIx:RD2:=λx y R=>kdI y λi=>match x with
 |.tup ds=>∃d,atI ds i=be d/\R d
 |.lst ds=>∃d,atI ds i=be d/\R d
 |.rol ds=>∃d,atI ds i=be d/\R d
 |.str x=>∃c,(x.length<=1000000/\atI x.cps.toList i=be c)/\R (.str #[[c].toArray])
 |_=>False
def Reps.at{H:Hp}{vs:List V}{i:Int}(r:Reps K H ds vs)(e:atI ds i=be d):∃v,atI vs i=be v/\Rep K H d v:=by
 unfold atI at e ⊢;rw[r.length];cases q:ixN ds.length i with
 |none=>rw[q]at e;cases e
 |some j=>
  rw[q]at e;exact r.get e
def tG:aV K (rIx K) rdIx:=by
 intro x y u v F H R Q fh h rx ry q;replace h:=kdI.of h;obtain⟨i,rfl,h⟩:=h;cases x with
 |tup ds=>
  obtain⟨d,e,h⟩:=h;obtain⟨a,vs,e1,hq,rs⟩:=rep_tup_mp rx;obtain⟨w,e2,h_⟩:=rs.at e;exact .inr (.inl #[a,vs,_,w,e1,rep_int.mp ry,fh.tup hq,e2,q d w F H (Grow.refl fh) h h_])
 |lst ds=>
  obtain⟨d,e,h⟩:=h;obtain⟨a,vs,e1,hq,rs⟩:=rep_lst.mp rx;obtain⟨w,e2,h_⟩:=rs.at e;exact .inl #[a,vs,_,w,e1,rep_int.mp ry,fh.seq (SqL.of hq),e2,q d w F H (Grow.refl fh) h h_]
 |rol ds=>
  obtain⟨d,e,h⟩:=h;obtain⟨a,vs,e1,hq,rs⟩:=rep_rol.mp rx;obtain⟨w,e2,h_⟩:=rs.at e;exact .inl #[a,vs,_,w,e1,rep_int.mp ry,fh.seq hq,e2,q d w F H (Grow.refl fh) h h_]
 |str x=>
  obtain⟨c,⟨hz,e⟩,h⟩:=h;exact .inr (.inr #[_,_,c,rep_str.mp rx,rep_int.mp ry,H8 hz Mx,e,q _ _ F H (Grow.refl fh) h (rep_str.mpr rfl)])
 |_=>exact False.elim h
def af[Jx](ha:WDE X a ta)(hb:WDE X b tb)(hs:autoParam (eI b) zA6):WDE X (.Subscript a b pos) (dOp rdIx ta tb):=#[have ha:=ha.out;have hb:=hb.out;zA sE tG ha hb hs]
def dUn(r:D->(D->Prop)->Prop)(ta:TD):TD:=λz R=>ta z λx=>r x R
def tH:D->(D->Prop)->Prop:=λx R=>match x with|.int i=>R (.int (-i))|_=>False
def cm[Jx](ha:WDE X a ta):WDE X (.UnaryOp .USub a pos) (dUn tH ta):=⟨have ha:=ha.out;(xU ya ha).anti λs H Q h=>by
 obtain⟨B,F,z,kf,rs,R,h1,h2⟩:=h;have fh:=kf.fh;refine#[B,F,z,kf,rs,_,h1,λx u F1 H1 g1 hx rx=>?_];unfold tH at hx;split at hx
 .exact#[_,rep_int.mp rx,h2 _ _ F1 H1 g1 hx (rep_int.mpr rfl)]
 .exact hx.elim⟩
def dNil:TDA:=λ_ R=>R []
def zN(ta:TD)(tr:TDA):TDA:=λz R=>ta z λx=>tr z λxs=>R (x::xs)
def ae[Jx]:WDA X [] dNil:=⟨pa_nil.anti λs H Q h=>by
 obtain⟨B,F,z,kf,rs,R,h1,h2⟩:=h;have fh:=kf.fh;exact h2 [] [] F H (Grow.refl fh) h1 (reps_nil.mpr rfl)⟩
variable{es:List U8}{t:TDA}
def ac[Jx]{te:TD}(ha:WDE X e te)(hr:WDA X es t)(hs:autoParam (zSE X e es) zA0):WDA X (e::es) (zN te t):=⟨have ha:=ha.out;have hr:=hr.out;(bz ha hr hs).anti λs H Q h=>by
 obtain⟨B,F,z,kf,rs,R,h1,h2⟩:=h;have fh:=kf.fh;refine#[B,F,z,kf,rs,_,h1,λx u F1 H1 g1 hx rx=>?_];refine#[B,F1,z,kf.grow g1,rs.grow g1,_,hx,λxs us F2 H2 g2 hy ry=>?_];exact h2 _ _ F2 H2 (g1.trans g2) hy (reps_cons.mpr #[_,_,rfl,rx.mono g2.ff,ry])⟩
def dTup(t:TDA):TD:=λz R=>t z λxs=>xs.length<=1000/\R (.tup xs)
def dLst(t:TDA):TD:=λz R=>t z λxs=>xs.length<=1000/\R (.lst xs)
def aI[Jx]{x1}(h:WDA X es t):WDE X (.Tuple es x1 pos) (dTup t):=⟨have h:=h.out;(sk h).anti λs H Q q=>by
 obtain⟨B,F,z,kf,rs,R,h1,h2⟩:=q;have fh:=kf.fh;refine#[B,F,z,kf,rs,_,h1,λds vs F1 H1 g1 hx rx=>?_];have hl:=rx.length;refine#[sz (by rw[hl];exact hx.1),λp hp=>?_];exact h2 _ _ _ _ (g1.trans (Grow.new g1.fh hp _)) hx.2 (rep_tupS.mpr #[p,vs,rfl,aB,rx.mono (aO (g1.fh.free hp) _)])⟩
def bp[Jx](h:WDA X es t):WDE X (.List es pos) (dLst t):=⟨have h:=h.out;(kz h).anti λs H Q q=>by
 obtain⟨B,F,z,kf,rs,R,h1,h2⟩:=q;have fh:=kf.fh;refine#[B,F,z,kf,rs,_,h1,λds vs F1 H1 g1 hx rx=>?_];have hl:=rx.length;refine#[sz (by rw[hl];exact hx.1),λp hp=>?_];exact h2 _ _ _ _ (g1.trans (Grow.new g1.fh hp _)) hx.2 (rep_lst.mpr #[p,vs,rfl,aB,rx.mono (aO (g1.fh.free hp) _)])⟩
abbrev SpD:=List D->(D->Prop)->Prop
def lSp(K:Ex)(S:SpD):Sp:=λvs H Q _=>∃F ds,Same F H/\Reps K F ds vs/\∃R:D->Prop,S ds R/\∀d v F' H',Grow F H F' H'->R d->Rep K F' d v->Q v H'
def zO(S:SpD)(t:TDA):TD:=λz R=>t z λds=>S ds R
abbrev CalD(P:U')(w:Va)(K:Ex)(mg:LB->Option Os)(base:Heap)(n:Nat)(x:LB)(ps:List LB)(S:SpD):Prop:=Cal P w K mg base n x ps (lSp K S)
variable{p:Vh}
def aw[Jx]{n m:Nat}{ps:List LB}{S:SpD}(C:CalD X.prog X.w X.K X.mg X.base n x ps S)(hr:Room m X.A)(ha:WDA X (e::es) t)(hg:autoParam (Gl X x) zA0)(hn:autoParam (n<=m) zA1)(d5:autoParam (zND x) zA1)
  (he:autoParam (zSE X e es) zA0) (c8:autoParam (zPL X pos es) zA0):WDE X (.Call (.Name x p) (e::es) [] pos) (zO S t):=⟨have ha:=ha.out;(zz C hr ha hg hn d5 he c8).anti λs H Q h=>by
 obtain⟨B,F,z,kf,rs,R,h1,h2⟩:=h;have fh:=kf.fh;refine#[B,F,z,kf,rs,_,h1,λds vs F1 H1 g1 hx rx=>?_];exact#[F1,ds,g1.fh,by rw[IA];exact rx,R,hx,λd v F' H' g=>h2 d v F' H' (g1.trans g)]⟩
abbrev RDn:=List D->(D->Prop)->Prop
def cw(K:Ex)(r:List V->Hp->VK->Prop)(rd:RDn):Prop:=∀ds vs F H R Q,Same F H->rd ds R->Reps K F ds vs->(∀d w F' H',Grow F H F' H'->R d->Rep K F' d w->Q w H')->r vs H Q
def dCB(r:RDn)(t:TDA):TD:=λz R=>t z λds=>r ds R
def hV[Jx]{id:String}{r:List V->Hp->VK->Prop}{rd:RDn}(hc:bO X (.builtin id) r)(L:cw X.K r rd)(hm:X.mg x=v9)(hv:Vo x=be (.builtin id))(ha:DA X (e::es) t)(hg:autoParam (Gl X x) zA0)(hn:autoParam (x≠"__name__") zA1)(d5:autoParam (zND x) zA1)
  (he:autoParam (zSE X e es) zA0) (c8:autoParam (zPL X pos es) zA0):DE X (.Call (.Name x p) (e::es) [] pos) (dCB rd t):=(fP hc hg hm hv ha hn d5 he c8).anti λs H Q h=>by
 obtain⟨B,F,z,kf,rs,R,h1,h2⟩:=h;have fh:=kf.fh;refine#[B,F,z,kf,rs,_,h1,λds vs F1 H1 g1 hx rx=>?_];exact L ds vs F1 H1 R Q g1.fh hx rx λd w F' H' g=>h2 d w F' H' (g1.trans g)
def kR:RDn:=λds R=>kd1 ds λx=>match x with
 |.tup xs=>R (.int xs.length)
 |.lst xs=>R (.int xs.length)
 |.rol xs=>R (.int xs.length)
 |.str x=>x.length<=1000000/\R (.int x.length)
 |_=>False
def tI:cw K (λxs H Q=>∃x n,xs=[x]/\LenV K x H n/\Q (.int n) H) kR:=by
 intro ds vs F H R Q fh h rx q;replace h:=kd1.of h;obtain⟨x,rfl,h⟩:=h;obtain⟨v,r,rfl,h1,h2⟩:=reps_cons.mp rx;rw[reps_nil.mp h2];cases x with
 |tup xs=>
  obtain⟨a,us,rfl,hq,rs⟩:=rep_tup_mp h1;exact#[.ref a,us.length,rfl,.inr #[us,fh.tup hq,rfl],q _ _ F H (Grow.refl fh) h (rep_int.mpr (by rw[rs.length]))]
 |lst xs=>
  obtain⟨a,us,rfl,hq,rs⟩:=rep_lst.mp h1;exact#[.ref a,us.length,rfl,.inl #[us,fh.seq (SqL.of hq),rfl],q _ _ F H (Grow.refl fh) h (rep_int.mpr (by rw[rs.length]))]
 |rol xs=>
  obtain⟨a,us,rfl,hq,rs⟩:=rep_rol.mp h1;exact#[.ref a,us.length,rfl,.inl #[us,fh.seq hq,rfl],q _ _ F H (Grow.refl fh) h (rep_int.mpr (by rw[rs.length]))]
 |str x=>
  rw[rep_str.mp h1];exact#[.str _,_,rfl,#[H8 h.1 Mx,rfl],q _ _ F H (Grow.refl fh) h.2 (rep_int.mpr rfl)]
 |_=>exact False.elim h
def bP[Jx](hm:X.mg "len"=v9)(ha:WDA X [e] t)(hg:autoParam (Gl X "len") zA0)(he:autoParam (zSE X e []) zA0):WDE X (.Call (.Name "len" p) [e] [] pos) (dCB kR t):=#[have ha:=ha.out;hV kr tI hm PySem.boot_len ha hg Mx Mx he]
def tJ:RDn:=λds R=>kd1 ds λx=>kdI x λi=>R (.int (if i<0 then -i else i))
def zP:cw K (λxs H Q=>∃i,xs=[.int i]/\Q (.int (if i<0 then -i else i)) H) tJ:=by
 intro ds vs F H R Q fh h rx q;replace h:=kd1.of h;obtain⟨x,rfl,h⟩:=h;replace h:=kdI.of h;obtain⟨i,rfl,h⟩:=h;obtain⟨v,r,rfl,h1,h2⟩:=reps_cons.mp rx;rw[reps_nil.mp h2,rep_int.mp h1];exact#[_,rfl,q _ _ F H (Grow.refl fh) h (rep_int.mpr rfl)]
def eN[Jx](hm:X.mg "abs"=v9)(ha:WDA X [e] t)(hg:autoParam (Gl X "abs") zA0)(he:autoParam (zSE X e []) zA0):WDE X (.Call (.Name "abs" p) [e] [] pos) (dCB tJ t):=#[have ha:=ha.out;hV yi zP hm PyProof.Rows.boot_abs ha hg Mx Mx he]
end
section
variable {X:Cx}{a b c e:U8}{ta tb tc te:TD}{pos:Vh}
def dTst(t:TD):TDT:=λz R=>t z λx=>match x with|.bl k=>R k|_=>False
def cR[Jx]{op:WO}{r:R2}{rd:RD2}(ho:OpR X (Vi op) r)(L:aV X.K r rd)(ha:DE X a ta)(hb:DE X b tb)(hm:Vu op b=false):DT X (.Compare a [op] [b] pos) (dTst (dOp rd ta tb)):=(kq ho ha hb hm).anti λs H Q q=>by
 obtain⟨B,F,z,kf,rs,R,h1,h2⟩:=q;have fh:=kf.fh;refine#[B,F,z,kf,rs,_,h1,λx u F1 H1 g1 hx rx=>?_];refine#[B,F1,z,kf.grow g1,rs.grow g1,_,hx,λy v F2 H2 g2 hy ry=>?_];refine L x y u v F2 H2 _ _ g2.fh hy (rx.mono g2.ff) ry λd w F' H' g3 hd rd=>?_;split at hd
 .exact#[_,rep_bl.mp rd,h2 _ F' H' (g1.trans (g2.trans g3)) hd]
 .exact hd.elim
def fU[Jx](ha:WDE X a ta)(hb:WDE X b tb):WDT X (.Compare a [.Lt] [b] pos) (dTst (dOp rdLt ta tb)):=#[have ha:=ha.out;have hb:=hb.out;cR rT tD ha hb (nomark _)]
def kS[Jx](ha:WDE X a ta)(hb:WDE X b tb):WDT X (.Compare a [.LtE] [b] pos) (dTst (dOp rdLe ta tb)):=#[have ha:=ha.out;have hb:=hb.out;cR yb zI ha hb (nomark _)]
def fV[Jx](ha:WDE X a ta)(hb:WDE X b tb):WDT X (.Compare a [.Gt] [b] pos) (dTst (dOp rdGt ta tb)):=#[have ha:=ha.out;have hb:=hb.out;cR km kN ha hb (nomark _)]
def tK[Jx](ha:WDE X a ta)(hb:WDE X b tb):WDT X (.Compare a [.GtE] [b] pos) (dTst (dOp rdGe ta tb)):=#[have ha:=ha.out;have hb:=hb.out;cR yc zK ha hb (nomark _)]
def bj[Jx](ha:WDE X a ta)(hb:WDE X b tb):WDT X (.Compare a [.Eq] [b] pos) (dTst (dOp rdEq ta tb)):=#[have ha:=ha.out;have hb:=hb.out;cR kj kO ha hb (nomark _)]
def ce[Jx](ha:WDE X a ta)(hb:WDE X b tb):WDT X (.Compare a [.NotEq] [b] pos) (dTst (dOp rdNe ta tb)):=#[have ha:=ha.out;have hb:=hb.out;cR rS tE ha hb (nomark _)]
def kT[Jx](ha:WDE X a ta)(hb:WDE X b tb):WDT X (.Compare a [.Is] [b] pos) (dTst (dOp (rdIs id) ta tb)):=#[have ha:=ha.out;have hb:=hb.out;cR ko kQ ha hb (nomark _)]
def zQ[Jx](ha:WDE X a ta)(hb:WDE X b tb):WDT X (.Compare a [.IsNot] [b] pos) (dTst (dOp (rdIs not) ta tb)):=#[have ha:=ha.out;have hb:=hb.out;cR yd zL ha hb (nomark _)]
def dTru(t:TD):TDT:=λz R=>t z λx=>match x with
 |.non=>R false
 |.bl k=>R k
 |.int i=>R (i !=0)
 |.str y=>y.length<=1000/\R ((y.length:Int) !=0)
 |.tup xs=>R (!xs.isEmpty)
 |.lst xs=>R (!xs.isEmpty)
 |.rol xs=>R (!xs.isEmpty)
 |_=>False
variable{K:Ex}
def Reps.isEmpty{H:Hp}{ds:List D}{vs:List V}(r:Reps K H ds vs):vs.isEmpty=ds.isEmpty:=by
 cases ds with
 |nil=>rw[reps_nil.mp r];rfl
 |cons d ds=>obtain⟨v,r',rfl,_⟩:=reps_cons.mp r;rfl
def cx[Jx](ha:WDE X a ta)(he:autoParam (∀f7,isTrue a X.env f7=(do let v <-f7;VT a.pos;Vy [v] (truthy v))) zA3):WDT X a (dTru ta):=⟨have ha:=ha.out;(rW ha he).anti λs H Q q=>by
 obtain⟨B,F,z,kf,rs,R,h1,h2⟩:=q;have fh:=kf.fh;refine#[B,F,z,kf,rs,_,h1,λx u F1 H1 g1 hx rx=>?_];split at hx
 .rw[rep_non.mp rx];exact#[false,rfl,h2 _ F1 H1 g1 hx]
 .rw[rep_bl.mp rx];exact#[_,rfl,h2 _ F1 H1 g1 hx]
 .rw[rep_int.mp rx];exact#[_,rfl,h2 _ F1 H1 g1 hx]
 .rw[rep_str.mp rx];exact#[_,#[sz hx.1,rfl],h2 _ F1 H1 g1 hx.2]
 .obtain⟨p,vs,rfl,hq,rr⟩:=rep_tup_mp rx;exact#[_,.inr (.inl #[vs,g1.fh.tup hq,by rw[rr.isEmpty]]),h2 _ F1 H1 g1 hx]
 .obtain⟨p,vs,rfl,hq,rr⟩:=rep_lst.mp rx;exact#[_,.inl #[vs,g1.fh.seq (SqL.of hq),by rw[rr.isEmpty]],h2 _ F1 H1 g1 hx]
 .obtain⟨p,vs,rfl,hq,rr⟩:=rep_rol.mp rx;exact#[_,.inl #[vs,g1.fh.seq hq,by rw[rr.isEmpty]],h2 _ F1 H1 g1 hx]
 .exact hx.elim⟩
variable {tA Ly:TDT}{rest:List U8}
def dAnd(t u:TDT):TDT:=λz R=>t z λc=>if c=true then u z R else R false
def dOr(t u:TDT):TDT:=λz R=>t z λc=>if c=true then R true else u z R
def dNot(t:TDT):TDT:=λz R=>t z λc=>R (!c)
def hZ[Jx](ha:WDT X a tA):WDW X (.BoolOp .And [a] pos) tA:=#[have ha:=ha.out;rA ha]
def dM[Jx](ha:WDT X a tA):WDW X (.BoolOp .Or [a] pos) tA:=#[have ha:=ha.out;rB ha]
def ia[Jx](ha:WDT X a tA)(hb:WDW X (.BoolOp .And (b::rest) pos) Ly):WDW X (.BoolOp .And (a::b::rest) pos) (dAnd tA Ly):=⟨have ha:=ha.out;have hb:=hb.out;(rC ha hb).anti λs H Q q=>by
 obtain⟨B,F,z,kf,rs,R,h1,h2⟩:=q;have fh:=kf.fh;refine#[B,F,z,kf,rs,_,h1,λk F1 H1 g1 hx=>?_];cases k with
 |true=>exact#[B,F1,z,kf.grow g1,rs.grow g1,R,hx,λb F' H' g=>h2 b F' H' (g1.trans g)]
 |false=>exact h2 _ F1 H1 g1 hx⟩
def dN[Jx](ha:WDT X a tA)(hb:WDW X (.BoolOp .Or (b::rest) pos) Ly):WDW X (.BoolOp .Or (a::b::rest) pos) (dOr tA Ly):=⟨have ha:=ha.out;have hb:=hb.out;(rD ha hb).anti λs H Q q=>by
 obtain⟨B,F,z,kf,rs,R,h1,h2⟩:=q;have fh:=kf.fh;refine#[B,F,z,kf,rs,_,h1,λk F1 H1 g1 hx=>?_];cases k with
 |false=>exact#[B,F1,z,kf.grow g1,rs.grow g1,R,hx,λb F' H' g=>h2 b F' H' (g1.trans g)]
 |true=>exact h2 _ F1 H1 g1 hx⟩
def cy[Jx](h:WDW X a tA):WDT X a tA:=#[have h:=h.out;PW.pt h]
def eO[Jx](ha:WDT X a tA):WDT X (.UnaryOp .Not a pos) (dNot tA):=⟨have ha:=ha.out;(rE ha).anti λs H Q q=>by
 obtain⟨B,F,z,kf,rs,R,h1,h2⟩:=q;have fh:=kf.fh;exact#[B,F,z,kf,rs,_,h1,λk F1 H1 g1 hx=>h2 _ F1 H1 g1 hx]⟩
def zR(ta tb:TD):TD:=λz R=>ta z λx=>match x with|.bl k=>if k=true then tb z R else R (.bl false)|_=>False
def zS(ta:TD):TD:=λz R=>ta z λx=>match x with|.bl k=>R (.bl (!k))|_=>False
def fW[Jx]{op}(h:WDE X a ta):WDE X (.BoolOp op [a] pos) ta:=#[have h:=h.out;xz h]
def fX[Jx](ha:WDE X a ta)(hb:WDE X (.BoolOp .And (b::rest) pos) tb):WDE X (.BoolOp .And (a::b::rest) pos) (zR ta tb):=⟨have ha:=ha.out;have hb:=hb.out;(xA ha hb).anti λs H Q q=>by
 obtain⟨B,F,z,kf,rs,R,h1,h2⟩:=q;have fh:=kf.fh;refine#[B,F,z,kf,rs,_,h1,λx u F1 H1 g1 hx rx=>?_];split at hx
 .rename_i k;refine#[k,rep_bl.mp rx,?_];cases k with
  |true=>exact#[B,F1,z,kf.grow g1,rs.grow g1,R,hx,λd v F' H' g=>h2 d v F' H' (g1.trans g)]
  |false=>exact h2 _ _ F1 H1 g1 hx (rep_bl.mpr rfl)
 .exact hx.elim⟩
def zT[Jx](ha:WDE X a ta):WDE X (.UnaryOp .Not a pos) (zS ta):=⟨have ha:=ha.out;(xB ha).anti λs H Q q=>by
 obtain⟨B,F,z,kf,rs,R,h1,h2⟩:=q;have fh:=kf.fh;refine#[B,F,z,kf,rs,_,h1,λx u F1 H1 g1 hx rx=>?_];split at hx
 .exact#[_,rep_bl.mp rx,h2 _ _ F1 H1 g1 hx (rep_bl.mpr rfl)]
 .exact hx.elim⟩
def tyD:D->String
 |.non=>"NoneType"|.bl _=>"bool"|.int _=>"int"|.str _=>"str"|.tup _=>"tuple"|.lst _=>"list"|.rol _=>"list"|.obj _ _=>"object"|.exc _ _=>"object"|.own _=>"list"|.ptr _=>"object"|.dti _=>"dict"
def cS(t:String)(x:D):Bool:=tyD x==t||(tyD x=="bool" && t=="int")
def TyQ(K:Ex)(H:Hp)(x:V)(t:String):Prop:=TyOf K H x (.type t)\/(t="tuple"/\∃a xs,x=.ref a/\SqT K H a xs)\/(t="list"/\∃a xs,x=.ref a/\SqL K H a xs)
def tL:bO X (.builtin "isinstance") (λxs H Q=>∃x t c k,xs=[x,.ty c]/\TyQ X.K H x t/\kitOne X.K (.type t) (.type c)=be k/\Q (.bl k) H):=by
 intro pins s σ H xs us Q I r h;obtain⟨x,t,c,k,rfl,ty,e,q⟩:=h;obtain⟨u,u',rfl,rx,rc⟩:=fN r;cases(show u'=Value.type c from rc);rcases ty with ty|⟨rfl,a,ys,rfl,hq⟩|⟨rfl,a,ys,rfl,hq⟩
 .exact yu I rx ty e λtk=>#[.bl k,H,I.tok _,rfl,q]
 .cases(show u=Value.ref a from rx);obtain⟨its,_,⟨o,h1,h2,_⟩,_⟩:=I.tuple hq;exact kia_one kitx_tuple I.kIn #[o,h1,h2] e (λz=>nomatch z) λtk=>#[.bl k,H,I.tok _,rfl,q]
 .cases(show u=Value.ref a from rx);obtain⟨its,_,pl,_⟩:=I.list hq;obtain⟨o,n,h1,h2,_⟩:=pl;exact kia_one kitx_list I.kIn #[o,h1,h2] e (λz=>nomatch z) λtk=>#[.bl k,H,I.tok _,rfl,q]
def cT:D->Bool|.obj _ _=>false|.exc _ _=>false|.ptr _=>false|.dti _=>false|_=>true
def tM{F H:Hp}{x:D}{u:V}(fh:Same F H)(r:Rep K F x u)(no:cT x=true):TyQ K H u (tyD x):=by
 cases x with
 |non=>rw[rep_non.mp r];exact .inl .non
 |bl b=>rw[rep_bl.mp r];exact .inl (.bl b)
 |int b=>rw[rep_int.mp r];exact .inl (.int b)
 |str b=>rw[rep_str.mp r];exact .inl (.str b)
 |tup b=>obtain⟨a,vs,rfl,hq,_⟩:=rep_tup_mp r;exact .inr (.inl #[rfl,a,vs,rfl,fh.tup hq])
 |lst b=>obtain⟨a,vs,rfl,hq,_⟩:=rep_lst.mp r;exact .inr (.inr #[rfl,a,vs,rfl,fh.seq (SqL.of hq)])
 |rol b=>obtain⟨a,vs,rfl,hq,_⟩:=rep_rol.mp r;exact .inr (.inr #[rfl,a,vs,rfl,fh.seq hq])
 |obj C b=>cases no
 |exc C b=>cases no
 |ptr b=>cases no
 |dti b=>cases no
 |own b=>exact absurd r rep_own
def kU(t:String):D->(D->Prop)->Prop:=λx R=>match x with|.obj _ _=>False|.exc _ _=>False|.ptr _=>False|.dti _=>False|x=>R (.bl (cS t x))
def eQ[Jx]{p p2:Vh}{y:LB}{t:String}(hm:X.mg "isinstance"=v9)(Pk:X.mg y=v9)(ha:WDE X a ta)(hv:Vo y=be (.type t))
  (hk:∀x:D,cT x=true->kitOne X.K (.type (tyD x)) (.type t)=be (cS t x)) (hg:autoParam (Gl X "isinstance") zA0) (Pl:autoParam (Gl X y) zA0) (hn:autoParam (y≠"__name__") zA1) (d5:autoParam (zND y) zA1)
  (l_:autoParam (Vc [a,.Name y p2] X.env=(false,Vf a X.env)::Vc [.Name y p2] X.env) zA0) (l8:autoParam (Vc [.Name y p2] X.env=(false,Vf (.Name y p2) X.env)::Vc [] X.env) zA0) (c8:autoParam ((VH pos (Vc [.Name y p2] X.env)).any (·.1)=false) zA0):WDE X (.Call (.Name "isinstance" p) [a,.Name y p2] [] pos) (dUn (kU t) ta):=⟨have ha:=ha.out;(fP tL hg hm PyProof.Rows.boot_isinstance (bz ha (bz (rq (v:=.ty t) Pl Pk hv rfl hn d5) pa_nil l8) l_) Mx Mx l_ c8).anti λs H Q q=>by
 obtain⟨B,F,z,kf,rs,R,h1,h2⟩:=q;have fh:=kf.fh;refine#[B,F,z,kf,rs,_,h1,λx u F1 H1 g1 hx rx=>?_];have no:cT x=true:=by
  cases x with
  |obj C b=>exact False.elim hx
  |exc C b=>exact False.elim hx
  |ptr b=>exact False.elim hx
  |dti b=>exact False.elim hx
  |_=>rfl
 have f8:R (.bl (cS t x)):=by
  cases x with
  |obj C b=>exact False.elim hx
  |exc C b=>exact False.elim hx
  |ptr b=>exact False.elim hx
  |dti b=>exact False.elim hx
  |_=>exact hx
 exact#[u,tyD x,t,_,rfl,tM g1.fh rx no,hk x no,h2 _ _ F1 H1 g1 f8 (rep_bl.mpr rfl)]⟩
def zU:∀x:D,cT x=true->kitOne K (.type (tyD x)) (.type "int")=be (cS "int" x):=by intro x no;cases x<;>first|rfl|cases no
def kit_bool:∀x:D,cT x=true->kitOne K (.type (tyD x)) (.type "bool")=be (cS "bool" x):=by intro x no;cases x<;>first|rfl|cases no
def kit_list:∀x:D,cT x=true->kitOne K (.type (tyD x)) (.type "list")=be (cS "list" x):=by intro x no;cases x<;>first|rfl|cases no
def kit_str:∀x:D,cT x=true->kitOne K (.type (tyD x)) (.type "str")=be (cS "str" x):=by intro x no;cases x<;>first|rfl|cases no
def toV:D->Option V
 |.non=>be .non|.bl b=>be (.bl b)|.int i=>be (.int i)|.str x=>be (.str x)|_=>v9
def bD(d:D):Bool:=(toV d).isSome
def eqF:D->D->Bool
 |.non,.non=>true
 |.bl a,.bl b=>a==b
 |.bl a,.int b=>(if a then 1 else 0)==b
 |.int a,.bl b=>a==(if b then 1 else 0)
 |.int a,.int b=>a==b
 |.str a,.str b=>a==b
 |_,_=>false
def eqFs:List D->List D->Bool
 |[],[]=>true
 |x::xs,y::ys=>eqF x y&&eqFs xs ys
 |_,_=>false
end
section
variable {X:Cx}{a b:U8}{ta tb:TD}{pos:Vh}
def eqVs:List V->List V->Bool
 |[],[]=>true
 |x::xs,y::ys=>eqV x y&&eqVs xs ys
 |_,_=>false
def kW:∀(xs ys:List V),((HU (min xs.length ys.length)).all (λj=>eqV (xs.getD j .non) (ys.getD j .non))&&xs.length==ys.length)=eqVs xs ys
 |[],[]=>rfl
 |[],_::_=>by simp[eqVs]
 |_::_,[]=>by simp[eqVs]
 |x::xs,y::ys=>by
  have ih:=kW xs ys;rw[eqVs,<-ih];have e:min (x::xs).length (y::ys).length=min xs.length ys.length+1:=by simp only[HX];lia
  rw[e,List.range_succ_eq_map,Jl,List.all_map];have e2:((x::xs).length==(y::ys).length)=(xs.length==ys.length):=MD
  rw[e2,Bool.and_assoc];rfl
variable{xs:List V}
def Vals.getD{us:List Os}{j:Nat}(r:Vals xs us)(h:j<us.length):RelV (xs.getD j .non) us[j]:=by
 have hl:=L2.Vals.length r;obtain⟨u,q1,q2⟩:=L2.Vals.get (i:=j) (x:=xs.getD j .non) r (by rw[Ih KK];simp[II,Ih (show j<xs.length by lia)]);rw[Ih h]at q1;cases q1;exact q2
def flat_getD{j:Nat}(h:xs.all bE=true):bE (xs.getD j .non)=true:=by
 by_cases hj:j<xs.length
 .have q:=IN.mp h xs[j] (Ix hj);simpa[II,Ih hj]using q
 .simp[II,ID (JQ hj),bE]
def rEqT(K:Ex):R2:=λx y H Q=>∃a b xs ys,x=.ref a/\y=.ref b/\SqT K H a xs/\SqT K H b ys/\xs.all bE=true/\ys.all bE=true/\Q (.bl (eqVs xs ys)) H
def zV(hu:X.A.units+1<V6):OpR X (Vi .Eq) (rEqT X.K):=by
 intro pins s σ H x y v u Q I rx ry h;obtain⟨a,b,xs,ys,rfl,rfl,ha,hb,fx,fy,q⟩:=h;cases rx;cases ry;obtain⟨its,r1,p1,_⟩:=I.tuple ha;obtain⟨i6,r2,p2,_⟩:=I.tuple hb;refine SeqAt.eq_tupleAt (e:=λj=>eqV (xs.getD j .non) (ys.getD j .non)) p1 p2 KK (λj h1 h2=>?_) #[.bl (eqVs xs ys),H,I,?_,q]
 .rw[HY]at h1 h2;simp only[KJ];exact eqAt_V (Vals.getD r1 h1) (Vals.getD r2 h2) (flat_getD fx) (flat_getD fy)
 .rw[<-kW,HY,HY,<-L2.Vals.length r1,<-L2.Vals.length r2];rfl
variable{K:Ex}
def tN{H:Hp}{x y:D}{u v:V}(rx:Rep K H x u)(ry:Rep K H y v)(fx:bD x=true)(fy:bD y=true):eqV u v=eqF x y:=by
 cases x with
 |tup _=>cases fx
 |lst _=>cases fx
 |rol _=>cases fx
 |obj _ _=>cases fx
 |exc _ _=>cases fx
 |ptr _=>cases fx
 |dti _=>cases fx
 |own _=>cases fx
 |non=>rw[rep_non.mp rx];cases y with
  |tup _=>cases fy
  |lst _=>cases fy
  |rol _=>cases fy
  |obj _ _=>cases fy
  |exc _ _=>cases fy
  |ptr _=>cases fy
  |dti _=>cases fy
  |own _=>cases fy
  |non=>rw[rep_non.mp ry];rfl
  |bl _=>rw[rep_bl.mp ry];rfl
  |int _=>rw[rep_int.mp ry];rfl
  |str _=>rw[rep_str.mp ry];rfl
 |bl _=>rw[rep_bl.mp rx];cases y with
  |tup _=>cases fy
  |lst _=>cases fy
  |rol _=>cases fy
  |obj _ _=>cases fy
  |exc _ _=>cases fy
  |ptr _=>cases fy
  |dti _=>cases fy
  |own _=>cases fy
  |non=>rw[rep_non.mp ry];rfl
  |bl _=>rw[rep_bl.mp ry];rfl
  |int _=>rw[rep_int.mp ry];rfl
  |str _=>rw[rep_str.mp ry];rfl
 |int _=>rw[rep_int.mp rx];cases y with
  |tup _=>cases fy
  |lst _=>cases fy
  |rol _=>cases fy
  |obj _ _=>cases fy
  |exc _ _=>cases fy
  |ptr _=>cases fy
  |dti _=>cases fy
  |own _=>cases fy
  |non=>rw[rep_non.mp ry];rfl
  |bl _=>rw[rep_bl.mp ry];rfl
  |int _=>rw[rep_int.mp ry];rfl
  |str _=>rw[rep_str.mp ry];rfl
 |str _=>rw[rep_str.mp rx];cases y with
  |tup _=>cases fy
  |lst _=>cases fy
  |rol _=>cases fy
  |obj _ _=>cases fy
  |exc _ _=>cases fy
  |ptr _=>cases fy
  |dti _=>cases fy
  |own _=>cases fy
  |non=>rw[rep_non.mp ry];rfl
  |bl _=>rw[rep_bl.mp ry];rfl
  |int _=>rw[rep_int.mp ry];rfl
  |str _=>rw[rep_str.mp ry];rfl
def ib{H:Hp}{x:D}{u:V}(rx:Rep K H x u)(fx:bD x=true):bE u=true:=by
 cases x with
 |tup _=>cases fx
 |lst _=>cases fx
 |rol _=>cases fx
 |obj _ _=>cases fx
 |exc _ _=>cases fx
 |ptr _=>cases fx
 |dti _=>cases fx
 |own _=>cases fx
 |non=>rw[rep_non.mp rx];rfl
 |bl _=>rw[rep_bl.mp rx];rfl
 |int _=>rw[rep_int.mp rx];rfl
 |str _=>rw[rep_str.mp rx];rfl
def db{K:Ex}{H:Hp}:∀{xs:List D} {us:List V},Reps K H xs us->xs.all bD=true->us.all bE=true
 |[],us,r,_=>by rw[reps_nil.mp r];rfl
 |x::xs,us,r,f=>by
  obtain⟨v,vr,rfl,r1,r2⟩:=reps_cons.mp r;rw[Jl,Iw]at f ⊢;exact#[ib r1 f.1,db r2 f.2]
def kX{K:Ex}{H:Hp}:∀{xs ys:List D} {us vs:List V},Reps K H xs us->Reps K H ys vs->xs.all bD=true->ys.all bD=true->eqVs us vs=eqFs xs ys
 |[],[],us,vs,r1,r2,_,_=>by rw[reps_nil.mp r1,reps_nil.mp r2];rfl
 |[],y::ys,us,vs,r1,r2,_,_=>by
  obtain⟨v,vr,rfl,_,_⟩:=reps_cons.mp r2;rw[reps_nil.mp r1];rfl
 |x::xs,[],us,vs,r1,r2,_,_=>by
  obtain⟨v,vr,rfl,_,_⟩:=reps_cons.mp r1;rw[reps_nil.mp r2];rfl
 |x::xs,y::ys,us,vs,r1,r2,f1,f2=>by
  obtain⟨u,ur,rfl,a1,a2⟩:=reps_cons.mp r1;obtain⟨v,vr,rfl,b1,b2⟩:=reps_cons.mp r2;rw[Jl,Iw]at f1 f2;rw[eqVs,eqFs,tN a1 b1 f1.1 f2.1,kX a2 b2 f1.2 f2.2]
def tO:RD2:=λx y R=>kdT x λxs=>kdT y λys=>(xs.all bD=true/\ys.all bD=true)/\R (.bl (eqFs xs ys))
def zW:aV K (rEqT K) tO:=by
 intro x y u v F H R Q fh h rx ry q;obtain⟨xs,rfl,h2⟩:=kdT.of h;obtain⟨ys,rfl,⟨f1,f2⟩,h3⟩:=kdT.of h2;obtain⟨a,us,rfl,hq,rr⟩:=rep_tup_mp rx;obtain⟨b,vs,rfl,t7,w9⟩:=rep_tup_mp ry;exact#[a,b,us,vs,rfl,rfl,fh.tup hq,fh.tup t7,db rr f1,db w9 f2,q _ _ F H (Grow.refl fh) h3 (rep_bl.mpr (by rw[kX rr w9 f1 f2]))]
end
section
variable {X:Cx}{a b c e:U8}{ta tb tc te:TD}{pos:Vh}{st:U7}{rest:List U7}{t u:TSD}
def zX:TSD:=λE z=>E.nx z
def dSeq(t u:TSD):TSD:=λE z=>t {E with nx:=u E} z
def aT[Jx]:WDSs X [] zX:=⟨pss_nil.anti λE s H q=>by
 obtain⟨B,F0,F,z,k,rs,ED,h,e⟩:=q;exact e.nx z s F H k h rs⟩
def ai[Jx](h1:WDS X st t)(h2:WDSs X rest u):WDSs X (st::rest) (dSeq t u):=⟨have h1:=h1.out;have h2:=h2.out;(eE h1 h2).anti λE s H q=>by
 obtain⟨B,F0,F,z,k,rs,ED,h,e⟩:=q;exact#[B,F0,F,z,k,rs,{ED with nx:=u ED},h,#[λz' s' F' H' k' hz r'=>#[B,F0,F',z',k',r',ED,hz,e],e.rt,e.bk,e.ct]]⟩
def ao[Jx](h1:WDS X st t):WDSs X [st] t:=#[have h1:=h1.out;rF h1]
def dFrz(i:Nat)(t:TSD):TSD:=λE z=>match z[i]? with|some (be (.own ds))=>t E (z.set i (be (.lst ds)))|_=>False
def df[Jx](i:Nat){NR:List U7}(h:WDSs X NR t):WDSs X NR (dFrz i t):=⟨have h:=h.out;PSs.anti h λE s H q=>by
 obtain⟨B,F0,F,z,k,rs,ED,h,e⟩:=q;unfold dFrz at h;split at h
 .rename_i ds ez;obtain⟨F',k',r'⟩:=rs.freeze k ez;exact#[B,F0,F',_,k',r',ED,h,e]
 .exact h.elim⟩
def dRet(te:TD):TSD:=λE z=>te z E.rt
def az[Jx](he:WDE X e te):WDS X (.Return (be e) pos) (dRet te):=⟨have he:=he.out;(rG he).anti λE s H q=>by
 obtain⟨B,F0,F,z,k,rs,ED,h,e⟩:=q;exact#[B,F,z,k.kf,rs,_,h,λd v F' H' g hd rd=>e.rt d v F' H' (k.grow g) hd rd]⟩
def zY(te:TD):TSD:=λE z=>te z λ_=>E.nx z
def tP[Jx](he:WDE X e te)(hs:autoParam (Vn e v9 pos.line X.env=pure false) zA0):WDS X (.Expr e pos) (zY te):=⟨have he:=he.out;(jY he hs).anti λE s H q=>by
 obtain⟨B,F0,F,z,k,rs,ED,h,e⟩:=q;exact#[B,F,z,k.kf,rs,_,h,λd v F' H' g hd rd=>e.nx z s F' H' (k.grow g) hd (rs.grow g)]⟩
def dIfS(c:TDT)(t u:TSD):TSD:=λE z=>c z λb=>if b=true then t E z else u E z
variable{l r:List U7}
def tQ[Jx]{c:U8}{tc:TDT}(hc:DT X c tc)(ha:DSs X l t)(hb:DSs X r u):DS X (.If c l r pos) (dIfS tc t u):=(rH hc ha hb).anti λE s H q=>by
 obtain⟨B,F0,F,z,k,rs,ED,h,e⟩:=q;refine#[B,F,z,k.kf,rs,_,h,λb F1 H1 g hk=>?_];cases b with
 |true=>exact#[B,F0,F1,z,k.grow g,rs.grow g,ED,hk,e]
 |false=>exact#[B,F0,F1,z,k.grow g,rs.grow g,ED,hk,e]
def dIfJ(c:TDT)(t u:TSD):TSD:=λE z=>∃J:SD->Prop,(c z λb=>if b=true then t {E with nx:=J} z else u {E with nx:=J} z)/\∀z',J z'->E.nx z'
def fY[Jx]{c:U8}{tc:TDT}(hc:WDT X c tc)(ha:WDSs X l t)(hb:WDSs X r u):WDS X (.If c l r pos) (dIfJ tc t u):=⟨have hc:=hc.out;have ha:=ha.out;have hb:=hb.out;(tQ hc ha hb).anti λE s H q=>by
 obtain⟨B,F0,F,z,k,rs,ED,⟨J,h,j⟩,e⟩:=q;exact#[B,F0,F,z,k,rs,{ED with nx:=J},h,#[λz' s' F' H' k' hz r'=>e.nx z' s' F' H' k' (j z' hz) r',e.rt,e.bk,e.ct]]⟩
def dSet(i:Nat)(te:TD):TSD:=λE z=>∃P:D->Prop,te z P/\∀d,P d->E.nx (z.set i (be d))
variable{x:LB}
def aq[Jx](i:Nat){c5:Vh}(hN:X.N.Nodup)(he:WDE X e te)(hi:autoParam (X.N[i]?=be x) zA0)(hx:autoParam (Loc X.env.scope x) zA4)(hs:autoParam (Vn e (be (.Name x c5)) pos.line X.env=pure false) zA0)
  (hf:autoParam (zFN X x) zA2):WDS X (.Assign [.Name x c5] e pos) (dSet i te):=⟨have he:=he.out;(gR hN hi hx he hs hf).anti λE s H q=>by
 obtain⟨B,F0,F,z,k,rs,ED,⟨P,h,j⟩,e⟩:=q;exact#[B,F,z,k.kf,rs,P,h,λd v F' H' g hd rd=>e.nx _ _ F' H' (k.grow g) (j d hd) ((rs.grow g).set rd)]⟩
def dNew(i:Nat)(ta:TDA):TSD:=λE z=>ta z λds=>ds.length<=1000/\E.nx (z.set i (be (.own ds)))
variable{es:List U8}
def fZ[Jx](i:Nat){c5 p2:Vh}{ta:TDA}(hN:X.N.Nodup)(he:WDA X es ta)(hi:autoParam (X.N[i]?=be x) zA0)(hx:autoParam (Loc X.env.scope x) zA4)(hs:autoParam (Vn (.List es p2) (be (.Name x c5)) pos.line X.env=pure false) zA0)
  (hf:autoParam (zFN X x) zA2):WDS X (.Assign [.Name x c5] (.List es p2) pos) (dNew i ta):=⟨have he:=he.out;(gR hN hi hx (kz he) hs hf).anti λE s H q=>by
 obtain⟨B,F0,F,z,k,rs,ED,h,e⟩:=q;refine#[B,F,z,k.kf,rs,_,h,λds vs F1 H1 g hd rd=>?_];have hl:=rd.length;refine#[sz (by rw[hl];exact hd.1),λp hp=>?_];have k1:=k.grow g;have r1:=rs.grow g;have hB:B p=none:=k1.bh.free hp;have hF:F1 p=none:=k1.fh.free hp;refine e.nx _ _ F1 _ #[k1.bh.trans (aO hp _),k1.fh.trans (aO hp _),k1.f0,k1.out,k1.eb,k1.jf,k1.jo] hd.2 (r1.setOwn hB hF rd λj dj hj e1 e2=>?_);obtain⟨a,us,q1,q2,_⟩:=r1.own j dj e1;rw[e2]at q1;cases q1;rw[hp]at q2;cases q2⟩
def dApp(i:Nat)(te:TD):TSD:=λE z=>match z[i]? with|some (be (.own ds))=>(te z λd=>ds.length<=100000/\E.nx (z.set i (be (.own (ds++[d])))))|_=>False
def eU{K:Ex}{F:Hp}{d:D}{v:V}(r:Rep K F d v):Reps K F [d] [v]:=reps_cons.mpr #[v,[],rfl,r,reps_nil.mpr rfl]
def gc[Jx](i:Nat){p1 apos cpos:Vh}(he:WDE X e te)(hN:autoParam (X.N[i]?=be x) zA0)(hv:autoParam (Vis X.env.scope x) zA5)(hd:autoParam (zND x) zA1)
  (gt:autoParam (zNC x) zA1) (l_:autoParam (zSE X e []) zA0)
  (b7:autoParam (Ve (.Name x p1) "append" X.env (Vf (.Name x p1) X.env)=Vf (.Name x p1) X.env) zA0)
  (d8:autoParam (zHF X cpos [e]) zA0)
  (b_:autoParam ((apos.endLine==cpos.line)=true) zA0) (LI:autoParam (Vn (.Call (.Attribute (.Name x p1) "append" apos) [e] [] cpos) v9 pos.line X.env=pure false) zA0):WDS X (.Expr (.Call (.Attribute (.Name x p1) "append" apos) [e] [] cpos) pos) (dApp i te):=⟨have he:=he.out;(jY (eJ PySem.F.plainAttrs_list PySem.F.slot_list_append PySem.F.type_list_append kE (cP hN hv hd gt) (bz he pa_nil l_) b7 d8 b_ l_) LI).anti λE s H q=>by
 obtain⟨B,F0,F,z,k,rs,ED,h,e⟩:=q;unfold dApp at h;split at h
 .rename_i ds ez;obtain⟨a,vs,q1,q2,q3,q4,q5⟩:=rs.own i ds ez;refine#[.ref a,q1,.inl #[rfl,vs,SqL.of q2],?_];refine#[B,F,z,k.kf,rs,_,h,λd v F1 H1 g hd rd=>?_];have k1:=k.grow g;have r1:=rs.grow g;have a1:H1 a=be (.lst vs):=g.hh a _ q2;have f1:F1 a=none:=g.out a q4 (by rw[q2];exact λz=>nomatch z);have hl:vs.length=ds.length:=q5.length;have hz:vs.length<sizeLine:=by
   have h1:ds.length<=100000:=hd.1;have h2:(100000:Nat)<sizeLine:=Mx
   lia
  refine#[a,vs,v,rfl,rfl,a1,hz,?_];have same:∀{G:Hp},G a=v9->Same G H1->Same G (upd H1 a (.lst (vs++[v]))):=λ{G} ga gs b o eb=>by
   have ne:b≠a:=λz=>by rw[z,ga]at eb;cases eb
   rw[ar ne];exact gs b o eb
  have r2:=r1.setOwn (i:=i) (a:=a) (vs:=vs++[v]) (ds:=ds++[d]) q3 f1 ((q5.mono g.ff).append (eU rd)) (λj dj hj e1 e2=>hj (rs.apart j i dj ds a e1 ez e2 q1));have es:s.set i (be (.ref a))=s:=by
   apply Jp;intro n;by_cases hn:i=n
   .subst hn;rw[IE (Ib.mp q1).1,q1]
   .rw[Ic hn]
  rw[es]at r2;exact e.nx _ s F1 _ #[same q3 k1.bh,same f1 k1.fh,k1.f0,k1.out,k1.eb,k1.jf,k1.jo] hd.2 r2
 .exact h.elim⟩
def aY:List Nat->List D->SD->SD
 |i::is,d::ds,z=>aY is ds (z.set i (be d))
 |_,_,z=>z
def DGs(X:Cx)(ts:List U8)(is:List Nat):Prop:=∃u:TGs,PGs X ts u/\∀(ds:List D) (vs:List V) (z:SD) (s:L2.St) (B F H:Hp) (Q:L2.St->Hp->Prop),ds.length=is.length->Reps X.K F ds vs->RepS X.K B F H z s->(∀s',RepS X.K B F H (aY is ds z) s'->Q s' H)->u vs s H Q
def cG[Jx]:DGs X [] []:=⟨_,xH,λds vs z s B F H Q hl r rs q=>by
 cases ds with
 |nil=>exact#[reps_nil.mp r,q s rs]
 |cons _ _=>cases hl⟩
variable{p:Vh}{is:List Nat}
def dg_cons[Jx](i:Nat)(hN:X.N.Nodup)(h2:DGs X es is)(hi:autoParam (X.N[i]?=be x) zA0)(hx:autoParam (Loc X.env.scope x) zA4)(hf:autoParam (zFN X x) zA2)
  (hs:autoParam ((Vd (.Name x p::es) X.env).map (·.2)=VL (.Name x p) X.env::(Vd es X.env).map (·.2)) zA0):DGs X (.Name x p::es) (i::is):=by
 obtain⟨u,hu,k⟩:=h2;refine#[_,xI (dI hN hi hx hf) hu hs,λds vs z s B F H Q hl r rs q=>?_];cases ds with
 |nil=>cases hl
 |cons d ds=>
  obtain⟨v,vr,rfl,r1,r2⟩:=reps_cons.mp r;exact#[v,vr,rfl,k ds vr _ _ B F H Q (Nat.succ.inj hl) r2 (rs.set r1) q]
def zZ(is:List Nat)(te:TD):TSD:=λE z=>te z λx=>match x with|.tup ds=>ds.length=is.length/\E.nx (aY is ds z)|_=>False
def gf[Jx]{k:Nat}(hc:X.calm=true)(he:WDE X e te)(hg:DGs X es is)(hn:autoParam ((Vd es X.env).length=is.length) zA0)(k9:autoParam ((Vd es X.env).findIdx? (·.1)=none) zA0)
  (hs:autoParam (VB [.Tuple es k p] e pos.line X.env=pure false) zA0) (hw:autoParam (VC [.Tuple es k p] e X.env=pure none) zA0) (h1:autoParam ((Vd [.Tuple es k p] X.env).map (·.2)=[VL (.Tuple es k p) X.env]) zA0):WDS X (.Assign [.Tuple es k p] e pos) (zZ is te):=⟨by
 have he:=he.out;obtain⟨u,hu,kk⟩:=hg;refine(gQ he (fM hc hu hn k9) hs hw h1).anti λE s H q=>?_;obtain⟨B,F0,F,z,k,rs,ED,h,e⟩:=q;refine#[B,F,z,k.kf,rs,_,h,λd v F' H' g hd rd=>?_];split at hd
 .obtain⟨p,vs,rfl,hq,rr⟩:=rep_tup_mp rd;exact#[p,vs,rfl,g.fh.tup hq,by rw[rr.length];exact hd.1,kk _ vs z s B F' H' _ hd.1 rr (rs.grow g) λs' r'=>e.nx _ _ F' H' (k.grow g) hd.2 r']
 .exact hd.elim⟩
def dPar(i j:Nat)(ta:TDA):TSD:=λE z=>ta z λds=>match ds with|[x,y]=>E.nx ((z.set i (be x)).set j (be y))|_=>False
def Aa[Jx](i j:Nat){y:LB}{t:TDA}{px py pt:Vh}{kt k2 Ms}(hc:X.calm=true)(hN:X.N.Nodup)(ha:WDA X [a,b] t)(hi:autoParam (X.N[i]?=be x) zA0)(hj:autoParam (X.N[j]?=be y) zA0)(O7:autoParam (i≠j) zA1)
  (hx:autoParam (X.env.scope.names.lookup x=be .local) zA0) (hy:autoParam (X.env.scope.names.lookup y=be .local) zA0)
  (hw:autoParam (VC [.Tuple [.Name x px,.Name y py] kt pt] (.Tuple [a,b] k2 Ms) X.env=pure (be [x,y])) zA0)
  (hs:autoParam (VB [.Tuple [.Name x px,.Name y py] kt pt] (.Tuple [a,b] k2 Ms) pos.line X.env=pure false) zA0):WDS X (.Assign [.Tuple [.Name x px,.Name y py] kt pt] (.Tuple [a,b] k2 Ms) pos) (dPar i j t):=⟨have ha:=ha.out;(xK hc hN hi hj O7 hx hy ha hw hs).anti λE s H q=>by
 obtain⟨B,F0,F,z,k,rs,ED,h,e⟩:=q;refine#[B,F,z,k.kf,rs,_,h,λds vs F' H' g hd rd=>?_];split at hd
 .obtain⟨v,r,rfl,r1,r2⟩:=reps_cons.mp rd;obtain⟨w,r,rfl,r3,r4⟩:=reps_cons.mp r2;rw[reps_nil.mp r4];exact#[v,w,rfl,e.nx _ _ F' H' (k.grow g) hd (((rs.grow g).set r1).set r3)]
 .exact hd.elim⟩
def Ab(c:TDT)(tb:TSD):TSD:=λE z=>∃W:Nat->SD->Prop,(∃m,W m z)/\∀m z,W m z->
 c z λb=>if b=true then tb {E with nx:=λz'=>∃m',m'<m/\W m' z',ct:=λz'=>∃m',m'<m/\W m' z',bk:=E.nx} z else E.nx z
variable{body:List U7}
def gh[Jx]{c:U8}{tc:TDT}{tb:TSD}(hp:Vr (U9 X.prog X.w) X.A X.env X.xe)(hc:WDT X c tc)(hb:WDSs X body tb):WDS X (.While c body [] pos) (Ab tc tb):=⟨have hc:=hc.out;have hb:=hb.out;(rJ hp hc hb).anti λE s H q=>by
 obtain⟨B,F0,F,z,k,rs,ED,⟨W,⟨m0,w0⟩,c7⟩,e⟩:=q;refine#[λm s' H'=>∃F' z',Kept B F0 F' H'/\RepS X.K B F' H' z' s'/\W m z',#[m0,F,z,k,rs,w0],?_];rintro m s1 H1⟨F1,z1,k1,r1,w1⟩;refine#[B,F1,z1,k1.kf,r1,_,c7 m z1 w1,λb F2 H2 g2 hk=>?_];cases b with
 |true=>
  refine#[λs3 H3=>∃F3 z3,Kept B F0 F3 H3/\RepS X.K B F3 H3 z3 s3/\∃m',m'<m/\W m' z3,λs3 H3 ⟨F3,z3,k3,r3,m',l,w3⟩=>#[m',l,F3,z3,k3,r3,w3],?_];exact#[B,F0,F2,z1,k1.grow g2,r1.grow g2,_,hk,#[λz3 s3 F3 H3 k3 h3 r3=>#[F3,z3,k3,r3,h3],e.rt,e.nx,λz3 s3 F3 H3 k3 h3 r3=>#[F3,z3,k3,r3,h3]]]
 |false=>exact e.nx z1 s1 F2 H2 (k1.grow g2) hk (r1.grow g2)⟩
abbrev TDI:=SD->(List D->Prop)->Prop
def dItL(t:TD):TDI:=λz R=>t z λx=>match x with|.lst ds=>R ds|.rol ds=>R ds|_=>False
def dItR(t:TD):TDI:=λz R=>t z λx=>match x with|.int n=>(0<=n/\n<2^62)/\R ((HU n.toNat).map λk=>D.int ((k:Nat):Int))|_=>False
def dFor(i:Nat)(ti:TDI)(tb:TSD):TSD:=λE z=>ti z λds=>∃W:Nat->SD->Prop,W 0 z/\(∀k x z,ds[k]?=be x->W k z->tb {E with nx:=W (k+1),ct:=W (k+1),bk:=E.nx} (z.set i (be x)))/\∀z,W ds.length z->E.nx z
def Reps.get'{K:Ex}{H:Hp}{ds:List D}{vs:List V}{k:Nat}{v:V}(r:Reps K H ds vs)(e:vs[k]?=be v):∃d,ds[k]?=be d/\Rep K H d v:=by
 have hk:k<ds.length:=by rw[<-r.length];exact(Ib.mp e).1
 obtain⟨u,q1,q2⟩:=r.get (Ih hk);rw[e]at q1;cases q1;exact#[_,Ih hk,q2]
def ic[Jx](i:Nat){tb:TSD}(hp:Vr (U9 X.prog X.w) X.A X.env X.xe)(hc:X.calm=true)(hN:X.N.Nodup)(he:WDE X e te)(hb:WDSs X body tb)(hi:autoParam (X.N[i]?=be x) zA0)(hx:autoParam (Loc X.env.scope x) zA4)
  (hf:autoParam (zFN X x) zA2) (hs:autoParam (∀y,zFS X e y) zA3):WDS X (.For (.Name x p) e body [] pos) (dFor i (dItL te) tb):=⟨have he:=he.out;have hb:=hb.out;(cQ hp hc (kd he) (dI hN hi hx hf) hb hs).anti λE s H q=>by
 obtain⟨B,F0,F,z,kp,rs,ED,h,e⟩:=q;refine#[B,F,z,kp.kf,rs,_,h,λd v F1 H1 g1 hd rd=>?_];split at hd
 .obtain⟨p,vs,rfl,hq,rr⟩:=rep_lst.mp rd;obtain⟨W,w0,c7,out⟩:=hd;refine#[p,rfl,#[vs,g1.fh.seq (SqL.of hq)],kg (K:=X.K) (a:=p) (xs:=vs) (λk s' H'=>∃F' z',Kept B F0 F' H'/\Same F1 F'/\RepS X.K B F' H' z' s'/\W k z') #[F1,z,kp.grow g1,Same.refl F1,rs.grow g1,w0] (λk s' H' _ ⟨F',z',k',g',r',w'⟩=>k'.fh.seq (g'.seq (SqL.of hq))) ?_ ?_]
  .rintro k y s' H' hk⟨F',z',k',g',r',w'⟩;obtain⟨d,hd,ry⟩:=rr.get' hk;refine#[B,F',F',_,#[k'.bh,k'.fh,Same.refl F',λb h1 _=>h1,k'.eb,k'.jf.trans k'.f0,λb h1 h2=>k'.out b (k'.jo b h1 h2) h2],r'.set (ry.mono g'),_,c7 k d z' hd w',?_];have up:∀{F2 H2:Hp},Kept B F' F2 H2->Kept B F0 F2 H2:=λk2=>#[k2.bh,k2.fh,k'.f0.trans k2.f0,λb h1 h2=>k2.out b (k'.out b h1 h2) h2,k'.eb,k'.jf,k'.jo];exact#[λz3 s3 F3 H3 k3 h3 r3=>#[F3,z3,up k3,g'.trans k3.f0,r3,h3],λd v F3 H3 k3=>e.rt d v F3 H3 (up k3),λz3 s3 F3 H3 k3=>e.nx z3 s3 F3 H3 (up k3),λz3 s3 F3 H3 k3 h3 r3=>#[F3,z3,up k3,g'.trans k3.f0,r3,h3]]
  .rintro s' H'⟨F',z',k',g',r',w'⟩;exact e.nx z' s' F' H' k' (out z' (by rw[<-rr.length];exact w')) r'
 .obtain⟨p,vs,rfl,hq,rr⟩:=rep_rol.mp rd;obtain⟨W,w0,c7,out⟩:=hd;refine#[p,rfl,#[vs,g1.fh.seq hq],kg (K:=X.K) (a:=p) (xs:=vs) (λk s' H'=>∃F' z',Kept B F0 F' H'/\Same F1 F'/\RepS X.K B F' H' z' s'/\W k z') #[F1,z,kp.grow g1,Same.refl F1,rs.grow g1,w0] (λk s' H' _ ⟨F',z',k',g',r',w'⟩=>k'.fh.seq (g'.seq hq)) ?_ ?_]
  .rintro k y s' H' hk⟨F',z',k',g',r',w'⟩;obtain⟨d,hd,ry⟩:=rr.get' hk;refine#[B,F',F',_,#[k'.bh,k'.fh,Same.refl F',λb h1 _=>h1,k'.eb,k'.jf.trans k'.f0,λb h1 h2=>k'.out b (k'.jo b h1 h2) h2],r'.set (ry.mono g'),_,c7 k d z' hd w',?_];have up:∀{F2 H2:Hp},Kept B F' F2 H2->Kept B F0 F2 H2:=λk2=>#[k2.bh,k2.fh,k'.f0.trans k2.f0,λb h1 h2=>k2.out b (k'.out b h1 h2) h2,k'.eb,k'.jf,k'.jo];exact#[λz3 s3 F3 H3 k3 h3 r3=>#[F3,z3,up k3,g'.trans k3.f0,r3,h3],λd v F3 H3 k3=>e.rt d v F3 H3 (up k3),λz3 s3 F3 H3 k3=>e.nx z3 s3 F3 H3 (up k3),λz3 s3 F3 H3 k3 h3 r3=>#[F3,z3,up k3,g'.trans k3.f0,r3,h3]]
  .rintro s' H'⟨F',z',k',g',r',w'⟩;exact e.nx z' s' F' H' k' (out z' (by rw[<-rr.length];exact w')) r'
 .exact hd.elim⟩
def bY[Jx](i:Nat){p1 p2:Vh}{tb:TSD}(hp:Vr (U9 X.prog X.w) X.A X.env X.xe)(hc:X.calm=true)(hN:X.N.Nodup)(hm:X.mg "range"=v9)(he:WDE X e te)(hb:WDSs X body tb)(hg:autoParam (Gl X "range") zA0)(hi:autoParam (X.N[i]?=be x) zA0)(hx:autoParam (Loc X.env.scope x) zA4)
  (hf:autoParam (zFN X x) zA2) (hs:autoParam (∀y,zFS X (.Call (.Name "range" p1) [e] [] p2) y) zA3) (t8:autoParam (zSE X e []) zA0) (g8:autoParam (Vc [e] X.env=[(false,Vf e X.env)]) zA0):WDS X (.For (.Name x p) (.Call (.Name "range" p1) [e] [] p2) body [] pos) (dFor i (dItR te) tb):=⟨have he:=he.out;have hb:=hb.out;(cQ hp hc (ke hg hm (bz he pa_nil t8) g8) (dI hN hi hx hf) hb hs).anti λE s H q=>by
 obtain⟨B,F0,F,z,kp,rs,ED,h,e⟩:=q;refine#[B,F,z,kp.kf,rs,_,h,λd v F1 H1 g1 hd rd=>?_];split at hd
 .rename_i n;obtain⟨⟨b1,b2⟩,W,w0,c7,out⟩:=hd;have hl:((HU n.toNat).map λk=>D.int ((k:Nat):Int)).length=n.toNat:=by simp
  refine#[n,by rw[rep_int.mp rd],KK,b2,kh (lo:=0) (n:=n.toNat) (λk s' H'=>∃F' z',Kept B F0 F' H'/\RepS X.K B F' H' z' s'/\W k z') #[F1,z,kp.grow g1,rs.grow g1,w0] ?_ ?_]
  .rintro k s' H' hk⟨F',z',k',r',w'⟩;have e1:(0:Int)+(k:Int)=(k:Int):=by lia
   exact#[B,F0,F',_,k',r'.set (d:=.int (k:Int)) (rep_int.mpr (by rw[e1])),_,c7 k (.int (k:Int)) z' (by simp[hk]) w',#[λz3 s3 F3 H3 k3 h3 r3=>#[F3,z3,k3,r3,h3],e.rt,e.nx,λz3 s3 F3 H3 k3 h3 r3=>#[F3,z3,k3,r3,h3]]]
  .rintro s' H'⟨F',z',k',r',w'⟩;exact e.nx z' s' F' H' k' (out z' (by rw[hl];exact w')) r'
 .exact hd.elim⟩
end
section
variable {P:U'}{w:Va}{K:Ex}{mg:LB->Option Os}{base:Heap}
variable{N ps:List LB}
def _root_.L2.Fun.okD{x qual:LB}{st:U7}{f:Pi}{fd:Vg}{k:Nat}{S:SpD}(T:Fun K x qual st f fd)(F:FnScope N ps (ah st))(len:∀ds R,S ds R->ds.length=ps.length)
  (a8:∀(cdv:Os) (A:Vb) (outer:List VU) (s:SB) (H:Hp) (E:XK) (J:Jx),Room k (A.deeper (Vk qual (ah st) s.heap.objs.size f cdv))->
   ∃t,DSs (cxOf (Exc.CX1 P w) P w K mg base N qual (ah st) f cdv A outer s H E).nox (aK st) t/\∀ds R,S ds R->t {nx:=λ_=>R .non,rt:=R} (startD N ds)):FnOk P w K mg base (Exc.CX1 P w) (k+1) f fd ps (lSp K S):=by
 refine Fun.okC T F (λvs H Q E h=>?_) (λcdv A outer s H vs Q E hr h=>?_)
 .obtain⟨F,ds,fh,rs,R,h,_⟩:=h;rw[rs.length];exact len ds R h
 .obtain⟨F,ds,fh,rs,R,h,q⟩:=h
  letI:Jx:=#[H,F,λ_ _ _=>False]
  obtain⟨t,ht,hq⟩:=a8 cdv A outer s H E inferInstance hr;refine#[_,ht.nox,H,F,F,startD N ds,#[Same.refl H,fh,Same.refl F,λ_ h _=>h,rfl,Same.refl F,λ_ h _=>h],dJ rs,_,hq ds R h,#[λz' s' F' H' k hn _=>q _ _ F' H' #[k.f0,k.fh,k.bh,k.out] hn (rep_non.mpr rfl),λd v F' H' k hd rd=>q d v F' H' #[k.f0,k.fh,k.bh,k.out] hd rd,λ_ _ _ _ _ h _=>h.elim,λ_ _ _ _ _ h _=>h.elim]]
def Tx.okD{x:LB}{st:U7}{k:Nat}{S:SpD}(T:Tx K mg x st ps)(F:FnScope N ps (ah st))(len:∀ds R,S ds R->ds.length=ps.length)
  (a8:∀(f:Pi) (cdv:Os) (A:Vb) (outer:List VU) (s:SB) (H:Hp) (E:XK) (J:Jx),Room k (A.deeper (Vk x (ah st) s.heap.objs.size f cdv))->
   ∃t,DSs (cxOf (Exc.CX1 P w) P w K mg base N x (ah st) f cdv A outer s H E).nox (aK st) t/\∀ds R,S ds R->t {nx:=λ_=>R .non,rt:=R} (startD N ds)):CalD P w K mg base (k+1) x ps S:=by
 obtain⟨f,fd,T,hb,hm⟩:=T;exact#[f,fd,T.okD F len λcdv A outer s H E J hr=>a8 f cdv A outer s H E J hr,hb,T.kp,hm]
end
def eV:SpD:=λds R=>∃ns:List Int,ds=[.rol (ns.map D.int)]/\ns.length<=63/\R (.bl true)
def Ac{a:Pi}{ns:List Int}(hl:ns.length<=63)(hS:SqL K H a (ns.map V.int)){E:XK}:lSp K eV [.ref a] H (λv _=>v=.bl true) E:=
 #[H,[.rol (ns.map D.int)],Same.refl H,reps_cons.mpr #[_,_,rfl,rep_rol.mpr #[a,_,rfl,hS,Reps.ints.mpr rfl],reps_nil.mpr rfl],λd=>d=.bl true,#[ns,rfl,hl,rfl],λd v F' H' _ hd rd=>by subst hd;exact rep_bl.mp rd]
section
variable {X:Cx}{a b c e:U8}{ta tb tc te:TD}{pos:Vh}
variable{p:Vh}{es:List U8}{t:TDA}
def kY[Jx]{x:LB}{T:String}{r:List V->Hp->VK->Prop}{rd:RDn}(hc:bO X (.type T) r)(L:cw X.K r rd)(hm:X.mg x=v9)(hv:Vo x=be (.type T))(ha:DA X (e::es) t)(hg:autoParam (Gl X x) zA0)(hn:autoParam (x≠"__name__") zA1)(d5:autoParam (zND x) zA1)
  (he:autoParam (zSE X e es) zA0) (c8:autoParam (zPL X pos es) zA0):DE X (.Call (.Name x p) (e::es) [] pos) (dCB rd t):=(kA hc hg hm hv ha hn d5 he c8).anti λs H Q h=>by
 obtain⟨B,F,z,kf,rs,R,h1,h2⟩:=h;have fh:=kf.fh;refine#[B,F,z,kf,rs,_,h1,λds vs F1 H1 g1 hx rx=>?_];exact L ds vs F1 H1 R Q g1.fh hx rx λd w F' H' g=>h2 d w F' H' (g1.trans g)
def rdStr:RDn:=λds R=>match ds with|[.int i]=>i.natAbs<18446744073709551616/\R (.str (toString i))|_=>False
variable{K:Ex}
def Ad:cw K (λxs H Q=>∃i,xs=[.int i]/\i.natAbs.log2<1920/\Q (.str (toString i)) H) rdStr:=by
 intro ds vs F H R Q fh h rx q;unfold rdStr at h;split at h
 .obtain⟨v,r,rfl,h1,h2⟩:=reps_cons.mp rx;rw[reps_nil.mp h2,rep_int.mp h1];refine#[_,rfl,?_,q _ _ F H (Grow.refl fh) h.2 (rep_str.mpr rfl)];rename_i i;by_cases h0:i.natAbs=0
  .rw[h0];decide
  .have:=(KH h0).mpr (show i.natAbs<2^64 from h.1);lia
 .exact h.elim
def dg[Jx](hm:X.mg "str"=v9)(ha:WDA X [e] t)(hg:autoParam (Gl X "str") zA0)(he:autoParam (zSE X e []) zA0):WDE X (.Call (.Name "str" p) [e] [] pos) (dCB rdStr t):=#[have ha:=ha.out;kY ym Ad hm PyProof.Rows.boot_str ha hg Mx Mx he]
def kZ:RDn:=λds R=>kd1 ds λx=>match x with
 |.int i=>R (.int i)
 |.bl k=>R (.int (if k then 1 else 0))
 |.str x=>∃n,(PySem.intText? x=be n/\x.length<=640)/\R (.int n)
 |_=>False
def tR:bO X (.type "int") (λxs H Q=>((∃i,xs=[.int i]/\Q (.int i) H)\/∃k,xs=[.bl k]/\Q (.int (if k then 1 else 0)) H)\/∃x n,xs=[.str x]/\PySem.intText? x=be n/\x.length<=640/\Q (.int n) H):=by
 intro pins s σ H xs us Q I r h;rcases h with h|⟨x,n,rfl,h1,h2,q⟩
 .exact yl pins s σ H xs us Q I r h
 .obtain⟨u,rfl,t,rfl⟩:=cb r;exact PySem.W.KIN.call_text h1 h2 #[.int n,H,I.tok _,#[_,rfl],q]
def tS:cw K (λxs H Q=>((∃i,xs=[.int i]/\Q (.int i) H)\/∃k,xs=[.bl k]/\Q (.int (if k then 1 else 0)) H)\/∃x n,xs=[.str x]/\PySem.intText? x=be n/\x.length<=640/\Q (.int n) H) kZ:=by
 intro ds vs F H R Q fh h rx q;replace h:=kd1.of h;obtain⟨x,rfl,h⟩:=h;obtain⟨v,r,rfl,h1,h2⟩:=reps_cons.mp rx;rw[reps_nil.mp h2];cases x with
 |int i=>
  rw[rep_int.mp h1];exact .inl (.inl #[_,rfl,q _ _ F H (Grow.refl fh) h (rep_int.mpr rfl)])
 |bl k=>
  rw[rep_bl.mp h1];exact .inl (.inr #[_,rfl,q _ _ F H (Grow.refl fh) h (rep_int.mpr rfl)])
 |str x=>
  rw[rep_str.mp h1];obtain⟨n,⟨e1,e2⟩,h⟩:=h;exact .inr #[_,n,rfl,e1,e2,q _ _ F H (Grow.refl fh) h (rep_int.mpr rfl)]
 |_=>exact False.elim h
def ie[Jx](hm:X.mg "int"=v9)(ha:WDA X [e] t)(hg:autoParam (Gl X "int") zA0)(he:autoParam (zSE X e []) zA0):WDE X (.Call (.Name "int" p) [e] [] pos) (dCB kZ t):=#[have ha:=ha.out;kY tR tS hm PyProof.Rows.boot_int ha hg Mx Mx he]
def tT:RDn:=λds R=>kd1 ds λx=>match x with|.lst xs=>R (.lst xs)|.tup xs=>R (.lst xs)|.rol xs=>R (.lst xs)|_=>False
def Ae:cw K (λxs H Q=>∃p ys,xs=[.ref p]/\(SqL K H p ys\/SqT K H p ys)/\∀l,H l=v9->Q (.ref l) (upd H l (.lst ys))) tT:=by
 intro ds vs F H R Q fh h rx q;replace h:=kd1.of h;obtain⟨x,rfl,h⟩:=h;obtain⟨v,r,rfl,h1,h2⟩:=reps_cons.mp rx;rw[reps_nil.mp h2];cases x with
 |lst xs=>
  obtain⟨a,us,rfl,hq,rs⟩:=rep_lst.mp h1;exact#[a,us,rfl,.inl (fh.seq (SqL.of hq)),λl hl=>q _ _ _ _ (Grow.new fh hl _) h (rep_lst.mpr #[l,us,rfl,aB,rs.mono (aO (fh.free hl) _)])]
 |tup xs=>
  obtain⟨a,us,rfl,hq,rs⟩:=rep_tup_mp h1;exact#[a,us,rfl,.inr (fh.tup hq),λl hl=>q _ _ _ _ (Grow.new fh hl _) h (rep_lst.mpr #[l,us,rfl,aB,rs.mono (aO (fh.free hl) _)])]
 |rol xs=>
  obtain⟨a,us,rfl,hq,rs⟩:=rep_rol.mp h1;exact#[a,us,rfl,.inl (fh.seq hq),λl hl=>q _ _ _ _ (Grow.new fh hl _) h (rep_lst.mpr #[l,us,rfl,aB,rs.mono (aO (fh.free hl) _)])]
 |_=>exact False.elim h
def Af[Jx](hm:X.mg "list"=v9)(ha:WDA X [e] t)(hg:autoParam (Gl X "list") zA0)(he:autoParam (zSE X e []) zA0):WDE X (.Call (.Name "list" p) [e] [] pos) (dCB tT t):=#[have ha:=ha.out;kY sH Ae hm PyProof.Rows.boot_list ha hg Mx Mx he]
def tU:RDn:=λds R=>kd2 ds λx y=>kdI x λi=>kdI y λj=>R (.int (if j>i then j else i))
def tV:RDn:=λds R=>kd2 ds λx y=>kdI x λi=>kdI y λj=>R (.int (if j<i then j else i))
def Ag:cw K (λxs H Q=>∃i j,xs=[.int i,.int j]/\Q (.int (if j>i then j else i)) H) tU:=by
 intro ds vs F H R Q fh h rx q;replace h:=kd2.of h;obtain⟨x,y,rfl,h⟩:=h;replace h:=kdI.of h;obtain⟨i,rfl,h⟩:=h;replace h:=kdI.of h;obtain⟨j,rfl,h⟩:=h;obtain⟨v,r,rfl,h1,h2⟩:=reps_cons.mp rx;obtain⟨v',r',rfl,h3,h4⟩:=reps_cons.mp h2;rw[reps_nil.mp h4,rep_int.mp h1,rep_int.mp h3];exact#[_,_,rfl,q _ _ F H (Grow.refl fh) h (rep_int.mpr rfl)]
def Ah:cw K (λxs H Q=>∃i j,xs=[.int i,.int j]/\Q (.int (if j<i then j else i)) H) tV:=by
 intro ds vs F H R Q fh h rx q;replace h:=kd2.of h;obtain⟨x,y,rfl,h⟩:=h;replace h:=kdI.of h;obtain⟨i,rfl,h⟩:=h;replace h:=kdI.of h;obtain⟨j,rfl,h⟩:=h;obtain⟨v,r,rfl,h1,h2⟩:=reps_cons.mp rx;obtain⟨v',r',rfl,h3,h4⟩:=reps_cons.mp h2;rw[reps_nil.mp h4,rep_int.mp h1,rep_int.mp h3];exact#[_,_,rfl,q _ _ F H (Grow.refl fh) h (rep_int.mpr rfl)]
def gj[Jx](hc:X.calm=true)(hm:X.mg "max"=v9)(ha:WDA X [e,a] t)(hg:autoParam (Gl X "max") zA0)(he:autoParam (zSE X e [a]) zA0)(c8:autoParam (zPL X pos [a]) zA0):WDE X (.Call (.Name "max" p) [e,a] [] pos) (dCB tU t):=#[have ha:=ha.out;hV (yj hc) Ag hm PyProof.Rows.boot_max ha hg Mx Mx he c8]
def Ai[Jx](hc:X.calm=true)(hm:X.mg "min"=v9)(ha:WDA X [e,a] t)(hg:autoParam (Gl X "min") zA0)(he:autoParam (zSE X e [a]) zA0)(c8:autoParam (zPL X pos [a]) zA0):WDE X (.Call (.Name "min" p) [e,a] [] pos) (dCB tV t):=#[have ha:=ha.out;hV (yk hc) Ah hm PyProof.Rows.boot_min ha hg Mx Mx he c8]
def cU:List D->Option (List LB)
 |[]=>be []
 |.str x::r=>(cU r).map (x::·)
 |_=>v9
def tW{K:Ex}{F:Hp}:∀{ds:List D} {xs:List LB} {vs:List V} {us:List Os},cU ds=be xs->Reps K F ds vs->Vals vs us->StrsAre us xs
 |[],xs,vs,us,e,r,q=>by
  cases e;rw[reps_nil.mp r]at q;cases q;exact .nil
 | .str x::ds,xs,vs,us,e,r,q=>by
  obtain⟨v,r',rfl,h1,h2⟩:=reps_cons.mp r;rw[rep_str.mp h1]at q;cases q with
  |cons q1 q2=>
   obtain⟨t,rfl⟩:=q1;cases e2:cU ds with
   |none=>simp[cU,e2]at e
   |some ys=>
    simp[cU,e2]at e;subst e;exact .cons x t (tW e2 h2 q2)
def Aj:V->List V->Hp->VK->Prop:=λx vs H Q=>∃q_ l xs ys,x=.str q_/\vs=[.ref l]/\H l=be (.lst xs)/\(∀us,Vals xs us->StrsAre us ys)/\(ys.map (·.length)).sum+ys.length*q_.length<=16777216/\Q (.str (Txt.join q_ ys)) H
def Ak:MtR X "str.join" Aj:=by
 intro pins s σ H x vs v us Q I rx rv h;obtain⟨q_,l,xs,ys,rfl,rfl,hl,hs,hz,q⟩:=h;obtain⟨t,rfl⟩:=rx;obtain⟨u,rfl,ru⟩:=cb rv;cases ru;obtain⟨its,r,pl,_⟩:=I.list (SqL.of hl);exact PyProof.Rows.join_list pl.isList (by simpa using hs its r) hz λt' k=>#[.str _,H,I.tok _,#[_,rfl],q]
def Al(q_:LB)(te:TD):TD:=λz R=>te z λx=>match x with
 |.lst ds=>∃ys,cU ds=be ys/\(ys.map (·.length)).sum+ys.length*q_.length<=1000000/\R (.str (Txt.join q_ ys))
 |_=>False
variable{k:Nat}
def lf[Jx]{q_:LB}{p1 apos cpos:Vh}(he:WDE X e te)(l_:autoParam (zSE X e []) zA0)
  (b7:autoParam (Ve (.Constant (.str q_) k p1) "join" X.env (Vf (.Constant (.str q_) k p1) X.env)=Vf (.Constant (.str q_) k p1) X.env) zA0)
  (d8:autoParam (zHF X cpos [e]) zA0)
  (b_:autoParam ((apos.endLine==cpos.line)=true) zA0):WDE X (.Call (.Attribute (.Constant (.str q_) k p1) "join" apos) [e] [] cpos) (Al q_ te):=⟨have he:=he.out;(eJ PySem.F.plainAttrs_str PySem.F.slot_str_join PySem.F.type_str_join Ak rn (bz he pa_nil l_) b7 d8 b_ l_).anti λs H Q q=>by
 obtain⟨B,F,z,kf,rs,R,h1,h2⟩:=q;have fh:=kf.fh;refine#[rfl,?_];refine#[B,F,z,kf,rs,_,h1,λx u F1 H1 g1 hx rx=>?_];split at hx
 .obtain⟨ys,e1,e2,hx⟩:=hx;obtain⟨l,vs,rfl,hq,rr⟩:=rep_lst.mp rx;exact#[q_,l,vs,ys,rfl,rfl,g1.fh _ _ hq,λus q=>tW e1 rr q,H8 e2 Mx,h2 _ _ F1 H1 g1 hx (rep_str.mpr rfl)]
 .exact hx.elim⟩
def dOix(i:Nat)(tb:TD):TD:=λz R=>match z[i]? with
 |some (be (.own ds))=>tb z λy=>match y with|.int k=>∃d,atI ds k=be d/\R d|_=>False
 |_=>False
def lh[Jx](i:Nat){x:LB}(hb:WDE X b tb)(hN:autoParam (X.N[i]?=be x) zA0)(hv:autoParam (Vis X.env.scope x) zA5)(hd:autoParam (zND x) zA1)
  (gt:autoParam (zNC x) zA1) (hs:autoParam (eI b) zA6):WDE X (.Subscript (.Name x p) b pos) (dOix i tb):=⟨have hb:=hb.out;(pe_ix ix_list (cP hN hv hd gt) hb hs).anti λs H Q q=>by
 obtain⟨B,F,z,kf,rs,R,h1,h2⟩:=q;have fh:=kf.fh;unfold dOix at h1;split at h1
 .rename_i ds ez;obtain⟨a,vs,q1,q2,q3,q4,q5⟩:=rs.own i ds ez;refine#[.ref a,q1,B,F,z,kf,rs,_,h1,λy v F1 H1 g1 hy ry=>?_];split at hy
  .obtain⟨d,e1,hR⟩:=hy;obtain⟨w,e2,h_⟩:=(q5.mono g1.ff).at e1;exact#[a,vs,_,w,rfl,rep_int.mp ry,SqL.of (g1.hh _ _ q2),e2,h2 d w F1 H1 g1 hR h_]
  .exact hy.elim
 .exact h1.elim⟩
def cutD(xs:List D)(lo hi:Option Int):List D:=(xs.drop (HT.sIx xs.length 0 lo)).take (HT.sIx xs.length xs.length hi-HT.sIx xs.length 0 lo)
def Reps.drop{K:Ex}{F:Hp}:∀(n:Nat) {xs:List D} {us:List V},Reps K F xs us->Reps K F (xs.drop n) (us.drop n)
 |0,_,_,r=>r
 |n+1,[],us,r=>by rw[reps_nil.mp r];exact reps_nil.mpr rfl
 |n+1,x::xs,us,r=>by
  obtain⟨u,ur,rfl,_,a2⟩:=reps_cons.mp r;exact Reps.drop n a2
def Reps.take{K:Ex}{F:Hp}:∀(n:Nat) {xs:List D} {us:List V},Reps K F xs us->Reps K F (xs.take n) (us.take n)
 |0,_,_,_=>reps_nil.mpr rfl
 |n+1,[],us,r=>by rw[reps_nil.mp r];exact reps_nil.mpr rfl
 |n+1,x::xs,us,r=>by
  obtain⟨u,ur,rfl,a1,a2⟩:=reps_cons.mp r;exact reps_cons.mpr #[u,_,rfl,a1,Reps.take n a2]
def Reps.cut{F:Hp}{xs:List D}{us:List V}(r:Reps K F xs us)(lo hi:Option Int):Reps K F (cutD xs lo hi) (cutV us lo hi):=by
 unfold cutD cutV;rw[r.length];exact(r.drop _).take _
def Am(ta tb:TD):TD:=λz R=>ta z λx=>tb z λy=>match x,y with|.lst xs,.int i=>R (.lst (cutD xs (be i) v9))|_,_=>False
def An[Jx]{p2:Vh}(ha:WDE X a ta)(hb:WDE X b tb):WDE X (.Subscript a (.Slice (be b) v9 v9 p2) pos) (Am ta tb):=⟨have ha:=ha.out;have hb:=hb.out;(gW gX ha (kC hb) kB).anti λs H Q q=>by
 obtain⟨B,F,z,kf,rs,R,h1,h2⟩:=q;have fh:=kf.fh;refine#[B,F,z,kf,rs,_,h1,λx u F1 H1 g1 hx rx=>?_];refine#[B,F1,z,kf.grow g1,rs.grow g1,_,hx,λy v F2 H2 g2 hy ry=>?_];split at hy
 .refine#[_,rep_int.mp ry,?_];obtain⟨l,vs,rfl,hq,rr⟩:=rep_lst.mp (rx.mono g2.ff);refine#[l,vs,rfl,SqL.of (g2.fh _ _ hq),λp hp=>?_];exact h2 _ _ _ _ (g1.trans (g2.trans (Grow.new g2.fh hp _))) hy (rep_lst.mpr #[p,_,rfl,aB,(rr.cut _ _).mono (aO (g2.fh.free hp) _)])
 .exact hy.elim⟩
def Ao{t:TGs}{n:Nat}(hc:X.calm=true)(h:PGs X es t)(hn:autoParam ((Vd es X.env).length=n) zA0)(k9:autoParam ((Vd es X.env).findIdx? (·.1)=none) zA0):
  PG X (.Tuple es k pos) (λv σ H Q=>∃a xs,v=.ref a/\SqL X.K H a xs/\xs.length=n/\t xs σ H Q):=by
 intro pins s σ H v u Q I r hw;obtain⟨a,xs,e1,hq,hl,hw⟩:=hw;subst e1;cases r;obtain⟨its,rv,pl,hz⟩:=I.list hq;have e2:(Vd es X.env).length=its.toArray.size:=by simp[hn,<-hl,rv.length]
 rw[PyProof.Rows.assign_Tuple];refine P3 (VA ?_);unfold unpack;rw[e2,k9];refine P3 (Vt (kun_itemsOf (I.ok.hd hc) pl.isList λh' hx=>?_));have I1:Inv X pins σ H {s with heap:=h'}:=I.kept (t':=s.toks) λb o e=>hx b o (HZ (Heap.lt_size e)) e;exact h pins _ σ H xs _ Q I1 (by simpa using rv) hw
def Ap(is:List Nat)(te:TD):TSD:=λE z=>te z λx=>match x with|.lst ds=>ds.length=is.length/\E.nx (aY is ds z)|_=>False
def Aq[Jx]{is:List Nat}(hc:X.calm=true)(he:WDE X e te)(hg:DGs X es is)(hn:autoParam ((Vd es X.env).length=is.length) zA0)(k9:autoParam ((Vd es X.env).findIdx? (·.1)=none) zA0)
  (hs:autoParam (VB [.Tuple es k p] e pos.line X.env=pure false) zA0) (hw:autoParam (VC [.Tuple es k p] e X.env=pure none) zA0) (h1:autoParam ((Vd [.Tuple es k p] X.env).map (·.2)=[VL (.Tuple es k p) X.env]) zA0):WDS X (.Assign [.Tuple es k p] e pos) (Ap is te):=⟨by
 have he:=he.out;obtain⟨u,hu,kk⟩:=hg;refine(gQ he (Ao hc hu hn k9) hs hw h1).anti λE s H q=>?_;obtain⟨B,F0,F,z,k,rs,ED,h,e⟩:=q;refine#[B,F,z,k.kf,rs,_,h,λd v F' H' g hd rd=>?_];split at hd
 .obtain⟨p,vs,rfl,hq,rr⟩:=rep_lst.mp rd;exact#[p,vs,rfl,SqL.of (g.fh _ _ hq),by rw[rr.length];exact hd.1,kk _ vs z s B F' H' _ hd.1 rr (rs.grow g) λs' r'=>e.nx _ _ F' H' (k.grow g) hd.2 r']
 .exact hd.elim⟩
end
end My
namespace L2
def lm{env:VU}:∀(names:List (LB×VQ)) (w_:List (LB×Pi)),(∀n,(n,NameKind.free)∈names->∃c,env.cells.lookup n=be c)->
  ∃cl,(forIn (m:=WE) names w_ λx r=>match x with
     |(name,kind)=>if(kind==NameKind.free)=true then(do let a <-cellOf env name;pure (ForInStep.yield ((name,a)::r)))else pure (ForInStep.yield r))=(pure cl:WE (List (LB×Pi)))/\
   (∀n c,cl.lookup n=be c->env.cells.lookup n=be c\/w_.lookup n=be c)/\(∀n,(n,NameKind.free)∈names->∃c,cl.lookup n=be c)/\∀n c,w_.lookup n=be c->∃c',cl.lookup n=be c'
 |[],w_,_=>#[w_,rfl,(λ_ _ h=>.inr h),(λ_ h=>by cases h),(λ_ c h=>#[c,h])]
 |(name,kind)::r,w_,h=>by
  by_cases hk:(kind==NameKind.free)=true
  .have ek:kind=.free:=by simpa using hk
   subst ek;obtain⟨c,hc⟩:=h name HV;obtain⟨cl,e,p1,p2,p3⟩:=lm r ((name,c)::w_) λn q=>h n (HS _ q);refine#[cl,?_,λn c' q=>?_,λn q=>?_,λn c' q=>?_]
   .rw[J7];have ec:cellOf env name=pure c:=by unfold cellOf;rw[hc]
    simp only[hk,if_true,ec];exact e
   .rcases p1 n c' q with z|z
    .exact .inl z
    .rw[Ig]at z;split at z
     .rename_i q2;have en:n=name:=by simpa using q2
      cases z;exact .inl (en ▸ hc)
     .exact .inr z
   .rcases HQ.mp q with z|z
    .cases z;exact p3 _ c (by rw[Ig];simp)
    .exact p2 n z
   .by_cases hn:n=name
    .subst hn;exact p3 n c (by rw[Ig];simp)
    .exact p3 n c' (by rw[Ig,beq_eq_false_iff_ne.mpr hn];exact q)
  .obtain⟨cl,e,p1,p2,p3⟩:=lm r w_ λn q=>h n (HS _ q);refine#[cl,?_,p1,λn q=>?_,p3]
   .rw[J7];simp only[hk];exact e
   .rcases HQ.mp q with z|z
    .cases z;exact absurd rfl hk
    .exact p2 n z
def closure_is{env:VU}{scope:Vz}(h:∀n,(n,NameKind.free)∈scope.names->∃c,env.cells.lookup n=be c):
  ∃cl,closureFor scope env=pure cl/\(∀n c,cl.lookup n=be c->env.cells.lookup n=be c)/\∀n,(n,NameKind.free)∈scope.names->∃c,cl.lookup n=be c:=by
 obtain⟨cl,e,p1,p2,_⟩:=lm scope.names [] h;refine#[cl,?_,λn c q=>(p1 n c q).elim id (λz=>nomatch z),p2];unfold closureFor;show(forIn (m:=WE) scope.names [] _>>=λs=>pure s)=pure cl;rw[e];rfl
def ig{env:VU}:∀{names:List (LB×VQ)} {n:LB} {k:VQ},(∀y∈names,y.2≠.cell)->k=.cell\/k=.free->
  (names.map λ(n,k)=>if(k==NameKind.free&&env.scope.kind== .function&&env.kindOf n==be .cell)then(n,NameKind.cell)else(n,k)).lookup n=be k->(n,NameKind.free)∈names
 |[],_,_,_,_,h=>by simp at h
 |(a,b)::r,n,k,hc,hk,h=>by
  rw[Il]at h;by_cases hb:(b==NameKind.free&&env.scope.kind== .function&&env.kindOf a==be .cell)=true
  .have eb:b=.free:=by
    have:=(Iw _ _ ▸ ((Iw _ _ ▸ hb).1)).1;simpa using this
   simp only[hb,if_true]at h;rw[Ig]at h;split at h
   .rename_i q;have en:n=a:=by simpa using q
    subst en eb;exact HV
   .exact HS _ (ig (λy q=>hc y (HS _ q)) hk h)
  .simp only[hb]at h;rw[if_neg MD,Ig]at h;split at h
   .rename_i q;have en:n=a:=by simpa using q
    cases h;subst en;rcases hk with z|z
    .exact absurd z (hc _ HV)
    .rw[z];exact HV
   .exact HS _ (ig (λy q=>hc y (HS _ q)) hk h)
section
variable {prog:U'}{w:Va}{A:Vb}{R:Result->SB->Prop}{s:SB}
abbrev tX(j8:List U8)(env:VU):WE Bool:=forIn j8 true λc r=>if r=true then do let ok <-isTrue c env (Vf c env);pure (ForInStep.yield ok)else pure (ForInStep.yield r)
def Ar{g_ g7 iter:U8}{j8:List U8}{scope:Vz}{pos:Vh}{it w_:Os}{env:VU}(I:Nat->SB->Prop)
  (c7:∀n s,I n s->U_ (U9 prog w) A (pyNext it) (λr s₁=>match r with
   |none=>R (.ok .next) s₁
   |some v=>U_ (U9 prog w) A (V5 g7 it v) (λ_ s₁'=>U_ (U9 prog w) A (VL g7 env v) (λ_ s₂=>U_ (U9 prog w) A (tX j8 env) (λok s₂'=>if ok=true then U_ (U9 prog w) A (Vf g_ env) (λx s₃=>
     U_ (U9 prog w) A (call (.builtin "list.append") [w_,x]) (λ_ s₄=>∃m,m<n/\I m s₄) (λ_ _=>False) s₃)
     (λ_ _=>False) s₂' else ∃m,m<n/\I m s₂') (λ_ _=>False) s₂) (λ_ _=>False) s₁') (λ_ _=>False) s₁) (λ_ _=>False) s)
  (n:Nat) (h:I n s):
  V9 (U9 prog w) A (.compLoop (.ListComp g_ [#[g7,iter,j8,0]] scope pos) 0 it w_ env) R s:=by
 refine codeAny_loop rfl I (λn s hI=>?_) n h;show U_ _ _ ((compTurn (.ListComp g_ [#[g7,iter,j8,0]] scope pos) 0 it w_ env).onRaise (λx=>do V0 x env;theTreesLotGoes x)) _ _ s;refine wpAny_noted ?_;rw[compTurn_list];refine P3 (VA (P3 (Vm (c7 n s hI) (λr s₁ h₁=>?_) λ_ _ h'=>h'.elim)));cases r with
 |none=>exact SZ h₁
 |some v=>
  refine P3 (Vm h₁ (λ_ s₁' h₁'=>P3 (Vm h₁' (λ_ s₂ h₂=>P3 (Vm h₂ (λok s₃ h₃=>?_) λ_ _ h'=>h'.elim)) λ_ _ h'=>h'.elim)) λ_ _ h'=>h'.elim);cases ok with
  |false=>exact SZ #[rfl,h₃]
  |true=>
   exact P3 (P3 (Vm h₃ (λx s₄ h₄=>P3 (Vm h₄ (λ_ s₅ h₅=>SZ (SZ #[rfl,h₅])) λ_ _ h'=>h'.elim)) λ_ _ h'=>h'.elim))
end
def cf(X:Cx)(scope:Vz)(cl:List (LB×Pi))(x:LB)(s₀:SB)(H₀:Hp)(fp:List Pi):Cx where
 prog:=X.prog
 w:=X.w
 K:=X.K
 mg:=X.mg
 base:=X.base
 A:=X.A
 N:=X.N.map (λn=>if n=x then("":LB)else n)++[x]
 s₀:=s₀
 H₀:=H₀
 env:=compEnvC scope cl s₀.heap.objs.size X.env
 outer:=X.stack
 stack:=X.stack
 ex:=fp
 fn:=λ_=>false
 calm:=X.calm
 pn:=[]
 xe:=λ_ _=>False
structure CompScope(X:Cx)(scope:Vz)(x:Str):Prop where
 kind:scope.kind=.function
 nocell:∀y∈scope.names,y.2≠.cell
 names:∀y∈scope.names,y.2=.local->scope.names.lookup y.1=be .local
 own:scope.names.lookup x=be .local
 free:∀n,(n,NameKind.free)∈scope.names->X.env.kindOf n=be .cell
 vis:∀n∈X.N,n≠x->Vis (W2 scope X.env) n->(n,NameKind.free)∈scope.names
 empty:¬Vis (W2 scope X.env) ("":LB)
 cells:∀n,(n,NameKind.free)∈scope.names->(W2 scope X.env).names.lookup n=be .cell
 nd:(X.N.map (λn=>if n=x then("":LB)else n)++[x]).Nodup
section
variable {X:Cx}{pins:List (Pi×Vp)}{σ:St}{H:Hp}{s:SB}{scope:Vz}{cl:List (LB×Pi)}{x:LB}{fp:List Pi}
def tY(I:Inv X pins σ H s)(S:CompScope X scope x)(c1:∀n c,cl.lookup n=be c->X.env.cells.lookup n=be c)(c2:∀n,(n,NameKind.free)∈scope.names->∃c,cl.lookup n=be c)
  (hf:∀b∈fp,FpOk X pins H b) (hl:∀b∈fp,b<s.heap.objs.size):(cf X scope cl x s H fp).Ok where
 mod:=I.ok.mod
 kind:=S.kind
 glob:=I.ok.glob
 blt:=I.ok.blt
 above:=HP _
 inj:=λy z c h1 h2=>I.ok.inj y z c (c1 y c h1) (c1 z c h2)
 has:=λn hn=>by
  rcases hn with hn|hn
  .exact c2 n (ig S.nocell (.inl rfl) hn)
  .exact c2 n (ig S.nocell (.inr rfl) hn)
 cab:=λ_ _ h=>nomatch h
 hd:=I.ok.hd
 frames:=I.ok.frames
 stk:=.inl rfl
 exf:=λb hb=>#[HZ (hl b hb),λy c h=>(hf b hb).2.2.2.2.1 y c (c1 y c h)]
 bs:=I.bs
 bsz:=H8 I.ok.bsz I.sz
 noex:=λb o e hb=>by
  have h1:=I.ok.noex b o e;rcases(hf b hb).2.2.2.1 with z|z
  .exact h1 z
  .exact absurd (Io (Heap.lt_size e) (H8 I.ok.bsz z)) (IZ _)
 exfs:=λb hb hs=>by
  rcases HQ.mp (I.stkSub b hs)with z|z
  .exact(hf b hb).2.1 z
  .exact(hf b hb).2.2.1 z
 funs:=I.stack
 frf:=I.stkFree
def tZ{h':Heap}{t':Nat}(I:Inv X pins σ H s)(S:CompScope X scope x)(c1:∀n c,cl.lookup n=be c->X.env.cells.lookup n=be c)(c2:∀n,(n,NameKind.free)∈scope.names->∃c,cl.lookup n=be c)
  (hf:∀b∈fp,FpOk X pins H b) (hl:∀b∈fp,b<s.heap.objs.size) {m:LB->Option Os} (hn:h'.Ns s.heap.objs.size m) (k:∀b o,s.heap.get? b=be o->h'.get? b=be o):
  Inv (cf X scope cl x s H fp) [] (σ++[v9]) H {s with heap:=h',toks:=t'}:=by
 refine#[tY I S c1 c2 hf hl,rfl,I.bare,Un.kept k,#[m,hn,λi n v e1 e2 e3=>?_],λn c e=>?_,I.hok.fresh (HP _),λn c e=>I.freeC n c (c1 n c e),λp hp=>absurd (show p∈([]:List (Pi×Vp))from hp) MD,I.hok.kept k,?_]
 .have hi:i<σ.length:=by
   rcases Jq i σ.length with q|q
   .exact q
   .rw[IT q]at e2;cases hz:i-σ.length with
    |zero=>rw[hz]at e2;simp at e2
    |succ z=>rw[hz]at e2;simp at e2
  rw[IG hi]at e2;have OL:i<X.N.length:=by rw[<-I.len];exact hi
  have M5:(X.N.map (λn=>if n=x then("":LB)else n)++[x])[i]?=be n:=e1;rw[IG (by simpa using OL),H9,Ih OL]at M5;simp only[Option.map_some,Option.some.injEq]at M5;by_cases hx:X.N[i]=x
  .rw[if_pos hx]at M5;subst M5;exact absurd e3 S.empty
  .rw[if_neg hx]at M5;subst M5;have k6:=S.vis _ (Ix OL) hx e3;have m8:=S.free _ k6;obtain⟨c,hc⟩:=c2 _ k6;obtain⟨mX,Uy,SX⟩:=I.loc;obtain⟨u,ru,lk⟩:=SX i X.N[i] v (Ih OL) e2 (.inr (.inl m8));refine#[u,ru,.inr #[?_,c,hc,?_]]
   .exact .inl (S.cells _ k6)
   .rcases lk with⟨kl,_⟩|⟨_,c',L8,g9⟩
    .rw[m8]at kl;cases kl
    .have:c=c':=by
      have:=c1 _ c hc;rw[L8]at this;exact(Option.some.inj this).symm
     subst this;obtain⟨o,ho,hd⟩:=g9;exact#[o,k _ _ ho,hd]
 .obtain⟨v,o,ho,hd⟩:=I.cell n c (c1 n c e);exact#[v,o,k _ _ ho,hd]
 .show(σ++[v9]).length=(X.N.map _++[x]).length;rw[Ia,Ia,HR,I.len];rfl
end
def gk(wi:TI)(tt:TT)(i8:TE):TE:=λσ H Q=>wi σ H λJ H1=>∀D,H1 D=v9->∃W:Nat->Nat->Hp->Prop,(∃m,W 0 m (upd H1 D (.lst [])))/\∀i m H,W i m H->
 (J.stop i H/\Q (.ref D) H)\/(J.go i H/\∀x H',J.yld i H x H'->tt (σ++[be x]) H' λb H1=>if b=true then i8 (σ++[be x]) H1 λy H''=>∃vs,H'' D=be (.lst vs)/\vs.length<sizeLine/\∃m',m'<m/\W (i+1) m' (upd H'' D (.lst (vs++[y])))else ∃m',m'<m/\W (i+1) m' H1)
def PIf(X:Cx)(j8:List U8)(t:TT):Prop:=
 ∀(pins:List (Pi×Vp)) (s:SB) (σ:St) (H:Hp) (Q:Bool->Hp->Prop),Inv X pins σ H s->t σ H Q->U_ (U9 X.prog X.w) X.A (tX j8 X.env) (TP X pins σ Q) X.xe s
def pif_nil{X:Cx}:PIf X [] (λ_ H Q=>Q true H):=λpins s σ H Q I q=>wpAny_tests_nil #[H,I,q]
def PIf.anti{X:Cx}{e:List U8}{t t':TT}(h:PIf X e t)(a:∀s H Q,t' s H Q->t s H Q):PIf X e t':=λpins s σ H Q I q=>h pins s σ H Q I (a _ _ _ q)
section
variable {X:Cx}
variable{g_ iter:U8}{j8:List U8}{x:LB}{px pos:Vh}{scope:Vz}{tt:TT}{i8:TE}
def ub{pins:List (Pi×Vp)}{s2:SB}{σ:St}{H1:Hp}{cl:List (LB×Pi)}{it:Pi}{fp:List Pi}{tn:Nat->Heap->Prop}{J:It}{Qs:Hp->Prop}{R:Result->SB->Prop}{W:Nat->Nat->Hp->Prop}{m0:Nat}{h₁:Heap}(hc:X.calm=true)(S:CompScope X scope x)
  (hq:∀cl s₀ H₀ fp,PIf (cf X scope cl x s₀ H₀ fp) j8 tt) (he:∀cl s₀ H₀ fp,PE (cf X scope cl x s₀ H₀ fp) g_ i8) (c1:∀n c,cl.lookup n=be c->X.env.cells.lookup n=be c) (c2:∀n,(n,NameKind.free)∈scope.names->∃c,cl.lookup n=be c)
  (I1:Inv X pins σ H1 s2) (T:Turn X.prog X.w X.K (.Name x px) J fp it tn) (st:tn 0 s2.heap) (f1:∀b∈fp,FpOk X pins H1 b) (w0:W 0 m0 (upd H1 s2.heap.objs.size (.lst [])))
  (step:∀i m H,W i m H->(J.stop i H/\Qs H)\/(J.go i H/\∀x H',J.yld i H x H'->tt (σ++[be x]) H' λb H1=>if b=true then i8 (σ++[be x]) H1 λy H''=>∃vs,H'' s2.heap.objs.size=be (.lst vs)/\vs.length<sizeLine/\∃m',m'<m/\W (i+1) m' (upd H'' s2.heap.objs.size (.lst (vs++[y])))else ∃m',m'<m/\W (i+1) m' H1))
  (I4:Inv (cf X scope cl x {s2 with heap:=s2.heap.push {cls:=.type "list",data:=.seq ([]:List Os).toArray},toks:=s2.toks} (upd H1 s2.heap.objs.size (.lst [])) fp) [] (σ++[v9]) (upd H1 s2.heap.objs.size (.lst [])) {s2 with heap:=h₁,toks:=s2.toks+([]:List (LB×Os)).length}) (t0:tn 0 h₁)
  (Pn:∀H' s4 m,Inv X pins σ H' s4->s4.heap.Ns (s2.heap.push {cls:=.type "list",data:=.seq ([]:List Os).toArray}).objs.size m->H' (s2.heap.push {cls:=.type "list",data:=.seq ([]:List Os).toArray}).objs.size=v9->Qs H'->R (.ok .next) s4):
  V9 (U9 X.prog X.w) X.A (.compLoop (.ListComp g_ [#[.Name x px,iter,j8,0]] scope pos) 0 (.ref it) (.ref s2.heap.objs.size) (compEnvC scope cl (s2.heap.push {cls:=.type "list",data:=.seq ([]:List Os).toArray}).objs.size X.env)) R {s2 with heap:=h₁,toks:=s2.toks+([]:List (LB×Os)).length}:=by
 have f9:∀b∈fp,b<s2.heap.objs.size:=λb hb=>by
  obtain⟨o,ho,_⟩:=T.obj _ _ st b hb;exact Heap.lt_size ho
 have I3:Inv X pins σ (upd H1 s2.heap.objs.size (.lst [])) {s2 with heap:=s2.heap.push {cls:=.type "list",data:=.seq ([]:List Os).toArray},toks:=s2.toks}:=I1.lnew (its:=[]) (ys:=[]) .nil (Iq _);have j7:∀b∈fp,b<(s2.heap.push {cls:=.type "list",data:=.seq ([]:List Os).toArray}).objs.size:=λb hb=>by
  rw[Heap.size_push];exact J8 (f9 b hb)
 have K_:∀b∈fp,FpOk X pins (upd H1 s2.heap.objs.size (.lst [])) b:=λb hb=>#[by rw[ar (HZ (f9 b hb))];exact(f1 b hb).1,(f1 b hb).2];have OM:=tY (x:=x) (fp:=fp) I3 S c1 c2 K_ j7;generalize hY:cf X scope cl x {s2 with heap:=s2.heap.push {cls:=.type "list",data:=.seq ([]:List Os).toArray},toks:=s2.toks} (upd H1 s2.heap.objs.size (.lst [])) fp=Y at I4 OM;have yP:Y.prog=X.prog:=Ty
 have yW:Y.w=X.w:=Ty
 have yK:Y.K=X.K:=Ty
 have yA:Y.A=X.A:=Ty
 have yN:Y.N=X.N.map (λn=>if n=x then("":LB)else n)++[x]:=Ty
 have yE:Y.env=compEnvC scope cl (s2.heap.push {cls:=.type "list",data:=.seq ([]:List Os).toArray}).objs.size X.env:=Ty
 have yX:Y.xe=λ_ _=>False:=Ty
 have yC:Y.calm=true:=by rw[<-hY];exact hc
 have RK:Y.ex=fp:=Ty
 have SY:Y.pn=[]:=Ty
 have S1:Y.fs=frs X.stack:=Ty
 have S2:Y.H₀=upd H1 s2.heap.objs.size (.lst []):=Ty
 have RL:Y.s₀={s2 with heap:=s2.heap.push {cls:=.type "list",data:=.seq ([]:List Os).toArray},toks:=s2.toks}:=Ty
 have S3:PE Y g_ i8:=by rw[<-hY];exact he _ _ _ _
 have S4:PIf Y j8 tt:=by rw[<-hY];exact hq _ _ _ _
 have n_:∀{H':Hp},(∀b∈fp,H' b=v9)->∀b∈fp,FpOk Y [] H' b:=λ{H'} hn b hb=>by
  have gV:b∈Y.ex:=by rw[RK];exact hb
  exact#[hn b hb,(OM.exf b gV).1,OM.exfs b gV,.inl gV,λn c e=>(OM.exf b gV).2 n c e,by rw[SY];simp]
 have NT:Y.env.scope.names.lookup x=be .local:=by rw[yE];exact lookup_relabel_local S.own
 have Po:Y.N[X.N.length]?=be x:=by rw[yN];simp
 have S5:Y.N.Nodup:=by rw[yN];exact S.nd
 have Pp:Y.env.locals=(s2.heap.push {cls:=.type "list",data:=.seq ([]:List Os).toArray}).objs.size:=by rw[yE];rfl
 have e8:∀(o:Option V) (H':Hp) (s':SB),Inv Y [] (σ++[o]) H' s'->Inv X pins σ H' s':=λo H' s' I'=>by
  have bs:=I'.base;rw[S1,RK,S2,RL]at bs;refine I3.call' (ch:=fp) ?_ bs ?_ I'.bare ?_
  .have:=I'.os;rw[RL]at this;exact this
  .have:=I'.hok;rw[yP,yW]at this;exact this
  .exact λb hb=>#[(K_ b hb).2.2.2.1,(K_ b hb).2.1,(K_ b hb).2.2.2.2.1,(K_ b hb).2.2.2.2.2]
 refine Ar (λn s'=>∃i o H',Inv Y [] (σ++[o]) H' s'/\tn i s'.heap/\(∀b∈fp,H' b=v9)/\W i n H') ?_ m0 #[0,v9,_,I4,t0,λb hb=>(K_ b hb).1,w0];rintro n s3⟨i,o,H3,I5,t3,f3,w3⟩;rcases step i n H3 w3 with⟨stop,q⟩|⟨go,q⟩
 .have dn:=T.done Y yP yW yK yC i [] s3 _ H3 (λ_ _=>False) I5 (n_ f3) t3 stop;rw[yA]at dn;refine thn dn λr s4 b9=>?_;obtain⟨hr,I6⟩:=b9;subst hr;obtain⟨m,hn,_⟩:=I6.loc;have l9:=I6.free;rw[Pp]at hn l9;exact Pn H3 s4 m (e8 o H3 s4 I6) hn l9 q
 .have RO:=T.item Y yP yW yK yC i [] s3 _ H3 (λ_ _=>False) I5 (n_ f3) t3 go;rw[yA]at RO;refine thn RO λr s4 b9=>?_;obtain⟨u,hr,h4⟩:=b9;subst hr;refine thn h4 λ_ s5 b9=>?_;obtain⟨xv,H5,I6,r5,y5,LC,O8⟩:=b9;have S6:=I6.pinned (n_ O8) (T.obj _ _ LC);rw[<-yE];refine Wb (eB S6 S5 Po (.inl NT) r5 (λs6 I7=>?_) (.inr NT));have Pq:(σ++[o]).set X.N.length (be xv)=σ++[be xv]:=by
   rw[<-I1.len];simp
  rw[Pq]at I7;have tv:=S4 _ s6 _ H5 _ I7 (q xv H5 y5);rw[yP,yW,yA,yX]at tv;refine thn tv λb S7 b9=>?_;obtain⟨S8,ON,qb⟩:=b9;cases b with
  |false=>
   obtain⟨m',hm,w7⟩:=qb;refine#[m',hm,i+1,be xv,_,ON.unpinned,T.keep _ _ _ LC λb hb ob e=>(ON.pin (b,ob) (Ik _ (Ik _ (eF hb e)))).1,λb hb=>?_,w7];obtain⟨ob,e,d⟩:=T.obj _ _ LC b hb;exact(ON.pin (b,ob) (Ik _ (Ik _ (eF hb e)))).2.1
  |true=>
  have ev:=S3 _ S7 _ S8 _ ON qb;rw[yP,yW,yA,yX]at ev;refine thn ev λyv s7 b9=>?_;obtain⟨y,H6,I8,ry,vs,S9,b8,m',hm,w7⟩:=b9;have ap:=kE (X:=Y) _ s7 _ H6 (.ref s2.heap.objs.size) [y] (.ref s2.heap.objs.size) [yv] (λ_ H7=>H7=upd H6 s2.heap.objs.size (.lst (vs++[y]))) I8 rfl (.cons ry .nil) #[_,vs,y,rfl,rfl,S9,b8,rfl];rw[yP,yW,yA,yX]at ap;refine thn ap λ_ s8 b9=>?_;obtain⟨_,H7,I9,_,e7⟩:=b9;subst e7;refine#[m',hm,i+1,be xv,_,I9.unpinned,T.keep _ _ _ LC λb hb ob e=>(I9.pin (b,ob) (Ik _ (Ik _ (eF hb e)))).1,λb hb=>?_,w7];obtain⟨ob,e,d⟩:=T.obj _ _ LC b hb;exact(I9.pin (b,ob) (Ik _ (Ik _ (eF hb e)))).2.1
def As{wi:TI}(hc:X.calm=true)(S:CompScope X scope x)(hi:PI X (.Name x px) iter wi)
  (hq:∀cl s₀ H₀ fp,PIf (cf X scope cl x s₀ H₀ fp) j8 tt) (he:∀cl s₀ H₀ fp,PE (cf X scope cl x s₀ H₀ fp) g_ i8) (hs:autoParam (∀y,zFS X iter y) zA3):
  PE X (.ListComp g_ [#[.Name x px,iter,j8,0]] scope pos) (gk wi tt i8):=by
 intro pins s σ H Q I h;obtain⟨cl,g9,c1,c2⟩:=closure_is (env:=X.env) (scope:=scope) (λn q=>I.ok.has n (.inl (S.free n q)));rw[eval_ListComp];refine Wr (use:=v9) rfl hs g9 S.kind S.names (thn (hi pins s σ H _ I h) λv s1 h1=>thn h1 λOC s2 h2=>?_);obtain⟨it,fp,tn,J,H1,e,I1,T,st,f1,hr⟩:=h2;subst e;have f9:∀b∈fp,b<s2.heap.objs.size:=λb hb=>by
  obtain⟨o,ho,_⟩:=T.obj _ _ st b hb;exact Heap.lt_size ho
 have hD:H1 s2.heap.objs.size=none:=I1.hok.fresh (HP _);obtain⟨W,⟨m0,w0⟩,step⟩:=hr _ hD;refine Vl (WJ S.nocell (by intro y hy;simp at hy) (λh₁ hns₁ hsb₁=>?_) S.kind);have I3:Inv X pins σ (upd H1 s2.heap.objs.size (.lst [])) {s2 with heap:=s2.heap.push {cls:=.type "list",data:=.seq ([]:List Os).toArray},toks:=s2.toks}:=I1.lnew (its:=[]) (ys:=[]) .nil (Iq _);have j7:∀b∈fp,b<(s2.heap.push {cls:=.type "list",data:=.seq ([]:List Os).toArray}).objs.size:=λb hb=>by
  rw[Heap.size_push];exact J8 (f9 b hb)
 have K_:∀b∈fp,FpOk X pins (upd H1 s2.heap.objs.size (.lst [])) b:=λb hb=>#[by rw[ar (HZ (f9 b hb))];exact(f1 b hb).1,(f1 b hb).2];have kp:∀b o,(s2.heap.push {cls:=.type "list",data:=.seq ([]:List Os).toArray}).get? b=be o->h₁.get? b=be o:=λb o e=>
  (hsb₁.2 b (HZ (Heap.lt_size e))).trans (Heap.get?_push_of_some _ e)
 have I4:=tZ (x:=x) (fp:=fp) (t':=s2.toks+([]:List (LB×Os)).length) I3 S c1 c2 K_ j7 hns₁ kp;have LJ:(s2.heap.push {cls:=.type "list",data:=.seq ([]:List Os).toArray}).objs.size≠X.env.locals:=IS I3.lt;have LK:∀z c,X.env.cells.lookup z=be c->c≠(s2.heap.push {cls:=.type "list",data:=.seq ([]:List Os).toArray}).objs.size:=λz c e=>by
  obtain⟨vv,oo,ho,_⟩:=I3.cell z c e;exact HZ (Heap.lt_size ho)
 have MF:∀p∈X.pn++pins,p.1≠(s2.heap.push {cls:=.type "list",data:=.seq ([]:List Os).toArray}).objs.size:=λp hp=>HZ (Heap.lt_size (I3.pin p hp).1);have t6:=ub (pos:=pos) (iter:=iter) (R:=compPost (U9 X.prog X.w) X.A X.xe v9 (EP X pins σ Q) (.ref s2.heap.objs.size) (s2.heap.push {cls:=.type "list",data:=.seq ([]:List Os).toArray}).objs.size) hc S hq he c1 c2 I1 T st f1 w0 step I4 (T.keep _ _ _ st (λb hb ob e=>kp b ob (Heap.get?_push_of_some _ e))) λH' s4 m IX hn l9 q=>
  #[m,hn,λh' hsb=>#[.ref s2.heap.objs.size,H',IX.turned (t':=s4.toks) (it:=(s2.heap.push {cls:=.type "list",data:=.seq ([]:List Os).toArray}).objs.size) (λb ob hb e=>(hsb.2 b hb).trans e) l9 LJ (.inr I3.sz) LK MF,rfl,q]]
 exact WC t6 (T.self _ _ _ _ _ (T.keep _ _ _ st (λb hb ob e=>kp b ob (Heap.get?_push_of_some _ e))) t6)
def uc{y:LB}{py m9:Vh}{wi:TI}{ix:Nat}(hc:X.calm=true)(S:CompScope X scope x)(hi:PI X (.Name x px) iter wi)
  (hq:∀cl s₀ H₀ fp,PIf (cf X scope cl x s₀ H₀ fp) j8 tt) (he:∀cl s₀ H₀ fp,PE (cf X scope cl x s₀ H₀ fp) g_ i8) (hN:X.N.Nodup) (NU:X.N[ix]?=be y) (hy:Loc X.env.scope y) (hf:zFN X y)
  (LI:Vn (.ListComp g_ [#[.Name x px,iter,j8,0]] scope pos) (be (.Name y py)) m9.line X.env=pure true) (hs:autoParam (∀y,zFS X iter y) zA3):
  PS X (.Assign [.Name y py] (.ListComp g_ [#[.Name x px,iter,j8,0]] scope pos) m9) (tAsg (gk wi tt i8) (fL ix)):=by
 intro pins s σ H DE I h;have h:wi σ H λJ H1=>∀D,H1 D=v9->∃W:Nat->Nat->Hp->Prop,(∃m,W 0 m (upd H1 D (.lst [])))/\∀i m H,W i m H->
  (J.stop i H/\DE.nx (σ.set ix (be (.ref D))) H)\/(J.go i H/\∀x H',J.yld i H x H'->tt (σ++[be x]) H' λb H1=>if b=true then i8 (σ++[be x]) H1 λy H''=>∃vs,H'' D=be (.lst vs)/\vs.length<sizeLine/\∃m',m'<m/\W (i+1) m' (upd H'' D (.lst (vs++[y])))else ∃m',m'<m/\W (i+1) m' H1):=h
 obtain⟨cl,g9,c1,c2⟩:=closure_is (env:=X.env) (scope:=scope) (λn q=>I.ok.has n (.inl (S.free n q)));rw[exec_Assign_Name_used _ _ _ _ LI];refine P3 (VA (P3 ?_));show U_ _ X.A (do let _ <-comprehension (.ListComp g_ [#[.Name x px,iter,j8,0]] scope pos) scope X.env _ (newList []) false (Vf iter X.env) (be (VL (.Name y py) X.env))) _ _ s;refine P3 (Vm (Wr (use:=be (VL (.Name y py) X.env)) (Q:=λ_ s'=>SP X pins DE .next s') rfl hs g9 S.kind S.names
  (thn (hi pins s σ H _ I h) λv s1 h1=>thn h1 λOC s2 h2=>?_)) (λ_ s' hq=>SZ (SZ hq)) λ_ _ e=>e)
 obtain⟨it,fp,tn,J,H1,e,I1,T,st,f1,hr⟩:=h2;subst e;have f9:∀b∈fp,b<s2.heap.objs.size:=λb hb=>by
  obtain⟨o,ho,_⟩:=T.obj _ _ st b hb;exact Heap.lt_size ho
 have hD:H1 s2.heap.objs.size=none:=I1.hok.fresh (HP _);obtain⟨W,⟨m0,w0⟩,step⟩:=hr _ hD;refine Vl (WJ S.nocell (by intro y hy;simp at hy) (λh₁ hns₁ hsb₁=>?_) S.kind);have I3:Inv X pins σ (upd H1 s2.heap.objs.size (.lst [])) {s2 with heap:=s2.heap.push {cls:=.type "list",data:=.seq ([]:List Os).toArray},toks:=s2.toks}:=I1.lnew (its:=[]) (ys:=[]) .nil (Iq _);have j7:∀b∈fp,b<(s2.heap.push {cls:=.type "list",data:=.seq ([]:List Os).toArray}).objs.size:=λb hb=>by
  rw[Heap.size_push];exact J8 (f9 b hb)
 have K_:∀b∈fp,FpOk X pins (upd H1 s2.heap.objs.size (.lst [])) b:=λb hb=>#[by rw[ar (HZ (f9 b hb))];exact(f1 b hb).1,(f1 b hb).2];have kp:∀b o,(s2.heap.push {cls:=.type "list",data:=.seq ([]:List Os).toArray}).get? b=be o->h₁.get? b=be o:=λb o e=>
  (hsb₁.2 b (HZ (Heap.lt_size e))).trans (Heap.get?_push_of_some _ e)
 have I4:=tZ (x:=x) (fp:=fp) (t':=s2.toks+([]:List (LB×Os)).length) I3 S c1 c2 K_ j7 hns₁ kp;have LJ:(s2.heap.push {cls:=.type "list",data:=.seq ([]:List Os).toArray}).objs.size≠X.env.locals:=IS I3.lt;have LK:∀z c,X.env.cells.lookup z=be c->c≠(s2.heap.push {cls:=.type "list",data:=.seq ([]:List Os).toArray}).objs.size:=λz c e=>by
  obtain⟨vv,oo,ho,_⟩:=I3.cell z c e;exact HZ (Heap.lt_size ho)
 have MF:∀p∈X.pn++pins,p.1≠(s2.heap.push {cls:=.type "list",data:=.seq ([]:List Os).toArray}).objs.size:=λp hp=>HZ (Heap.lt_size (I3.pin p hp).1);have t6:=ub (pos:=pos) (iter:=iter) (R:=compPost (U9 X.prog X.w) X.A X.xe (be (VL (.Name y py) X.env)) (λ_ s'=>SP X pins DE .next s') (.ref s2.heap.objs.size) (s2.heap.push {cls:=.type "list",data:=.seq ([]:List Os).toArray}).objs.size) hc S hq he c1 c2 I1 T st f1 w0 step I4 (T.keep _ _ _ st (λb hb ob e=>kp b ob (Heap.get?_push_of_some _ e))) λH' s4 m IX hn l9 q=>by
  show U_ _ X.A (VL (.Name y py) X.env (.ref s2.heap.objs.size)) _ _ s4;refine Wb (rl IX hN NU hy (v:=.ref s2.heap.objs.size) rfl (λs5 I7 ⟨a,hsb,ha⟩=>?_) hf);have Pr:(s2.heap.push {cls:=.type "list",data:=.seq ([]:List Os).toArray}).objs.size≠a:=by
   rcases ha with e|e
   .rw[e];exact LJ
   .exact λz=>LK y a e z.symm
  exact#[m,hn.sameBut hsb Pr,λh' Mb=>#[_,H',I7.turned (t':=s5.toks) (it:=(s2.heap.push {cls:=.type "list",data:=.seq ([]:List Os).toArray}).objs.size) (λb ob hb e=>(Mb.2 b hb).trans e) l9 LJ (.inr I3.sz) LK MF,q]]
 exact WC t6 (T.self _ _ _ _ _ (T.keep _ _ _ st (λb hb ob e=>kp b ob (Heap.get?_push_of_some _ e))) t6)
end
end L2
namespace My
def RepS.snoc{K:Ex}{B F H:Hp}{z:SD}{s:L2.St}{d:D}{v:V}(h:RepS K B F H z s)(r:Rep K F d v):RepS K B F H (z++[be d]) (s++[be v]):=by
 have no:=r.noown;have get:∀{j:Nat} {x:D},(z++[be d])[j]?=be (be x)->(j<z.length/\z[j]?=be (be x))\/(j=z.length/\x=d):=λ{j x} e=>by
  rcases Jq j z.length with q|q
  .rw[IG q]at e;exact .inl #[q,e]
  .rw[IT q]at e;cases hz:j-z.length with
   |zero=>rw[hz]at e;simp at e;exact .inr #[KK,e.symm]
   |succ n=>rw[hz]at e;simp at e
 have lt:∀{j:Nat},j<z.length->(s++[be v])[j]?=s[j]?:=λ{j} q=>IG (by rw[h.len];exact q);refine#[by rw[Ia,Ia,h.len];rfl,λj x e nx=>?_,λj ds e=>?_,λj k dj dk a e1 e2 e3 e4=>?_]
 .rcases get e with⟨q,e⟩|⟨q,rfl⟩
  .rw[lt q];exact h.val j x e nx
  .exact#[v,by rw[q,IT (by rw[h.len];exact HP _),h.len];simp,r]
 .rcases get e with⟨q,e⟩|⟨q,e⟩
  .rw[lt q];exact h.own j ds e
  .rw[<-e]at no;cases no
 .rcases get e1 with⟨q,e1⟩|⟨q,e1⟩
  .rcases get e2 with⟨q2,e2⟩|⟨q2,e2⟩
   .rw[lt q]at e3;rw[lt q2]at e4;exact h.apart j k dj dk a e1 e2 e3 e4
   .rw[<-e2]at no;cases no
  .rw[<-e1]at no;cases no
def okB:Bool->Bool->Prop->Prop->Prop
 |_,true,A,_=>A
 |false,false,_,B=>B
 |true,false,_,_=>False
def cmpG(nf:Bool)(tt:TDT)(te:TD)(z:SD)(R:D->Prop)(items:List D):Prop:=items.length<=100000/\∃W:Nat->List D->Prop,W 0 []/\(∀k x ys,items[k]?=be x->(nf=true->ys.length=k)->W k ys->tt (z++[be x]) λb=>okB nf b (te (z++[be x]) λy=>W (k+1) (ys++[y])) (W (k+1) ys))/\∀ys,(nf=true->ys.length=items.length)->W items.length ys->R (.lst ys)
def cmpP(te:TD)(z:SD)(R:D->Prop)(items:List D):Prop:=items.length<=100000/\∃W:Nat->List D->Prop,W 0 []/\(∀k x ys,items[k]?=be x->ys.length=k->W k ys->te (z++[be x]) λy=>W (k+1) (ys++[y]))/\∀ys,ys.length=items.length->W items.length ys->R (.lst ys)
def lr(ti:TDI)(te:TD):TD:=λz R=>ti z (cmpP te z R)
def dT1:TDT:=λ_ R=>R true
abbrev DIf(X:Cx)[Jx](j8:List U8)(t:TDT):Prop:=PIf X j8 (lT X.K t)
variable{X:Cx}
def lu[Jx]:DIf X [] dT1:=pif_nil.anti λs H Q q=>by
 obtain⟨B,F,z,kf,rs,R,h1,h2⟩:=q;exact h2 true F H (Grow.refl kf.fh) h1
structure ItIs(K:Ex)(J:It)(F1 H1:Hp)(items:List D):Prop where
 go:∀k F' H',Grow F1 H1 F' H'->k<items.length->J.go k H'
 yld:∀k F' H' x H'',Grow F1 H1 F' H'->k<items.length->J.yld k H' x H''->H''=H'/\∃d,items[k]?=be d/\Rep K F' d x
 stop:∀F' H',Grow F1 H1 F' H'->J.stop items.length H'
def ItOk[Jx](K:Ex)(wi:TI)(ti:TDI):Prop:=∀{s:L2.St} {H B F:Hp} {z:SD} {P:List D->Prop} {Q:It->Hp->Prop},Kept B Jx.F0 F H->RepS K B F H z s->ti z P->(∀items J F1 H1,Grow F H F1 H1->P items->ItIs K J F1 H1 items->Q J H1)->wi s H Q
section
variable {X:Cx}
variable{K:Ex}{H:Hp}{s:L2.St}{R:My.D->Prop}{items:List My.D}
def ud[Jx]{B F F1 H1:Hp}{z:SD}{Q:VK}{nf:Bool}{tt:TDT}{te:TD}{J:It}(kf:Kept B Jx.F0 F H)(g1:Grow F H F1 H1)(rs:RepS K B F H z s)(h2:∀D ys us F' H',H D=v9->F' D=v9->Grow F H F' H'->H' D=be (.lst us)->Reps K F' ys us->R (.lst ys)->Q (.ref D) H')
    (it:ItIs K J F1 H1 items) (hd:cmpG nf tt te z R items):
    ∀D,H1 D=v9->∃W:Nat->Nat->Hp->Prop,(∃m,W 0 m (upd H1 D (.lst [])))/\∀i m H,W i m H->
      (J.stop i H/\Q (.ref D) H)\/(J.go i H/\∀x H',J.yld i H x H'->lT K tt (s++[be x]) H' λb H1=>if b=true then lE K te (s++[be x]) H1 λy H''=>∃vs,H'' D=be (.lst vs)/\vs.length<sizeLine/\∃m',m'<m/\W (i+1) m' (upd H'' D (.lst (vs++[y])))else ∃m',m'<m/\W (i+1) m' H1):=by
  intro D hD;obtain⟨hz,W,w0,c7,out⟩:=hd;have S':F1 D=none:=g1.fh.free hD;have hH:H D=none:=g1.hh.free hD;refine⟨λk m H'=>m=items.length-k/\k<=items.length/\∃F' ys us,Grow F1 H1 F' H'/\H' D=be (.lst us)/\F' D=v9/\Reps K F' ys us/\(ys.length<=k/\(nf=true->ys.length=k))/\W k ys,
    #[items.length,MD,Iq _,F1,[],[],#[Same.refl F1,g1.fh.trans (aO hD _),aO hD _,λb h _=>h],aB,S',reps_nil.mpr rfl,#[HP _,λ_=>rfl],w0],?_⟩
  rintro k m H'⟨rfl,hk,F',ys,us,G,hu,hF,ry,hl,w⟩;by_cases f9:k<items.length
  . refine .inr #[it.go k F' H' G f9,λx H'' hy=>?_];obtain⟨e,d,hd,rd⟩:=it.yld k F' H' x H'' G f9 hy;subst e;refine#[B,F',z++[be d],kf.grow (g1.trans G),(rs.grow (g1.trans G)).snoc rd,_,c7 k d ys hd hl.2 w,λb F3 H3 g3 hb=>?_];have Ps:H3 D=be (.lst us):=g3.hh D _ hu;have OO:F3 D=none:=g3.out D hF (by rw[hu];exact λq=>nomatch q);cases b with
    |false=>
      cases nf with
      |true=>exact hb.elim
      |false=>exact#[items.length-(k+1),KK,rfl,KK,F3,ys,us,G.trans g3,Ps,OO,ry.mono g3.ff,#[KK,λz=>nomatch z],hb]
    |true=>
    refine#[B,F3,z++[be d],(kf.grow (g1.trans G)).grow g3,((rs.grow (g1.trans G)).snoc rd).grow g3,_,(show te _ _ from by cases nf<;>exact hb),λy yv F2 H2 g2 hw rv=>?_];have S_:H2 D=be (.lst us):=g2.hh D _ Ps;have LL:F2 D=none:=g2.out D OO (by rw[Ps];exact λq=>nomatch q);have Uz:us.length<=k:=by rw[ry.length];exact hl.1
    refine⟨us,S_,by     have:(100000:Nat)<sizeLine:=by decide
                        lia,items.length-(k+1),KK,rfl,KK,F2,ys++[y],us++[yv],?_,aB,LL,((ry.mono g3.ff).mono g2.ff).append (eU rv),#[Uw,λz=>by simp[hl.2 z]],hw⟩
    have GG:=(G.trans g3).trans g2;refine#[GG.ff,λb o e=>?_,λb o e=>?_,GG.out]
    . have ne:b≠D:=λq=>by rw[q,LL]at e;cases e
      rw[ar ne];exact GG.fh b o e
    . have ne:b≠D:=λq=>by rw[q,hD]at e;cases e
      rw[ar ne];exact GG.hh b o e
  . have ek:k=items.length:=by lia
    subst ek;exact .inl #[it.stop F' H' G,h2 D ys us F' H' hH hF (g1.trans G) hu ry (out ys hl.2 w)]
def Au{F F' H':Hp}{D:Pi}{us:List V}(GG:Grow F H F' H')(hu:H' D=be (.lst us))(hF:F' D=v9)(hH:H D=v9):Grow F H (upd F' D (.lst us)) H':=by
 refine#[GG.ff.trans (aO hF _),λb o e=>?_,GG.hh,λb h1 h3=>?_]
 .by_cases hb:b=D
  .subst hb;rw[aB]at e;cases e;exact hu
  .rw[ar hb]at e;exact GG.fh b o e
 .have ne:b≠D:=λq=>h3 (q ▸ hH);rw[ar ne];exact GG.out b h1 h3
variable {g_ iter:U8}{j8:List U8}{x:LB}{px pos:Vh}{scope:Vz}{ti te:TD}{tt:TDT}{wi:TI}{LM:TDI}
def ue[Jx]{nf:Bool}{G:SD->(D->Prop)->List D->Prop}(hG:∀z R items,G z R items->cmpG nf tt te z R items)(hI:ItOk K wi LM){Q:VK}(q:lE K (λz R=>LM z (G z R)) s H Q):gk wi (lT K tt) (lE K te) s H Q:=by
 obtain⟨B,F,z,kf,rs,R,h1,h2⟩:=q;exact hI kf rs h1 λitems J F1 H1 g1 hg it=>ud kf g1 rs (λD ys us F' H' hH hF GG hu ry hR=>h2 (.lst ys) (.ref D) _ H' (Au GG hu hF hH) hR (rep_lst.mpr #[D,us,rfl,aB,ry.mono (aO hF _)])) it (hG _ _ _ hg)
def cmpP.g{z:SD}(h:cmpP te z R items):cmpG true dT1 te z R items:=
 let ⟨hz,W,w0,c7,out⟩:=h
 #[hz,W,w0,λk x ys e l w=>c7 k x ys e (l rfl) w,λys l w=>out ys (l rfl) w]
def itL[Jx]:ItOk K (rK K (lE K ti)) (dItL ti):=λ{s H B F z P Q} kf rs h1 h2=>by
 refine#[B,F,z,kf,rs,_,h1,λd v F1 H1 g1 hd rd=>?_];have key:∀(items:List D) (p:Pi) (vs:List V),SqL K F1 p vs->Reps K F1 items vs->P items->∃a,V.ref p=.ref a/\(∃xs,SqL K H1 a xs)/\Q (Itl K a) H1:=λitems p vs hq rr hd=>by
  refine#[p,rfl,#[vs,g1.fh.seq hq],h2 items _ F1 H1 g1 hd #[λk F' H' G hk=>?_,λk F' H' x H'' G hk hy=>?_,λF' H' G=>?_]]
  .have o8:k<vs.length:=by rw[rr.length];exact hk
   exact#[vs,vs[k],G.hh.seq (g1.fh.seq hq),by simp[o8]]
  .obtain⟨e,hy⟩:=hy;obtain⟨d,e2,r2⟩:=rr.get' (hy vs (G.hh.seq (g1.fh.seq hq)));exact#[e,d,e2,r2.mono G.ff]
  .exact#[vs,G.hh.seq (g1.fh.seq hq),by rw[rr.length];exact HP _]
 split at hd
 .obtain⟨p,vs,rfl,hq,rr⟩:=rep_lst.mp rd;exact key _ p vs (SqL.of hq) rr hd
 .obtain⟨p,vs,rfl,hq,rr⟩:=rep_rol.mp rd;exact key _ p vs hq rr hd
 .exact hd.elim
def itR[Jx]:ItOk K (rM (sj (lE K ti) tNil)) (dItR ti):=λ{s H B F z P Q} kf rs h1 h2=>by
 refine#[B,F,z,kf,rs,_,h1,λd v F1 H1 g1 hd rd=>?_];split at hd
 .rename_i n;obtain⟨⟨b1,b2⟩,hd⟩:=hd;have hl:((HU n.toNat).map λk=>D.int ((k:Nat):Int)).length=n.toNat:=by simp
  refine#[n,by rw[rep_int.mp rd],KK,b2,h2 _ _ F1 H1 g1 hd #[λk F' H' G hk=>by rw[hl]at hk;exact hk,λk F' H' x H'' G hk hy=>?_,λF' H' G=>by show n.toNat<=_;rw[hl];exact HP _]];rw[hl]at hk;obtain⟨e,rfl⟩:=hy;exact#[e,.int (k:Int),by simp[hk],rep_int.mpr (by congr 1;lia)]
 .exact hd.elim
def ii[Jx]{p1 p2:Vh}(hc:X.calm=true)(S:CompScope X scope x)(hm:X.mg "range"=v9)(hi:WDE X iter ti)(he:∀cl s₀ H₀ fp,WDE (cf X scope cl x s₀ H₀ fp) g_ te)(hg:autoParam (Gl X "range") zA0)
  (hs:autoParam (∀y,zFS X (.Call (.Name "range" p1) [iter] [] p2) y) zA3) (t8:autoParam (zSE X iter []) zA0) (g8:autoParam (Vc [iter] X.env=[(false,Vf iter X.env)]) zA0):WDE X (.ListComp g_ [#[.Name x px,.Call (.Name "range" p1) [iter] [] p2,[],0]] scope pos) (lr (dItR ti) te):=#[have hi:=hi.out;have he:=λcl s₀ H₀ fp=>(he cl s₀ H₀ fp).out;(As hc S (ke hg hm (bz hi pa_nil t8) g8) (λ_ _ _ _=>lu) he hs).anti λs H Q q=>ue (λ_ _ _=>cmpP.g) itR q]
def Av[Jx]{E:Ends}{ix:Nat}(hI:ItOk K wi LM)(q:lS K (dSet ix (lr LM te)) E s H):tAsg (gk wi (lT K dT1) (lE K te)) (fL ix) E s H:=by
 obtain⟨B,F0,F,z,k,rs,ED,⟨P,h,j⟩,e⟩:=q;exact ue (λ_ _ _=>cmpP.g) hI #[B,F,z,k.kf,rs,P,h,λd v F' H' g hd rd=>e.nx _ _ F' H' (k.grow g) (j d hd) ((rs.grow g).set rd)]
def Aw[Jx](ix:Nat){y:LB}{py m9:Vh}(hc:X.calm=true)(S:CompScope X scope x)(hN:X.N.Nodup)(hi:WDE X iter ti)(he:∀cl s₀ H₀ fp,WDE (cf X scope cl x s₀ H₀ fp) g_ te)(NU:autoParam (X.N[ix]?=be y) zA0)(hy:autoParam (Loc X.env.scope y) zA4)
  (hf:autoParam (zFN X y) zA2) (LI:autoParam (Vn (.ListComp g_ [#[.Name x px,iter,[],0]] scope pos) (be (.Name y py)) m9.line X.env=pure true) zA0) (hs:autoParam (∀y,zFS X iter y) zA3):WDS X (.Assign [.Name y py] (.ListComp g_ [#[.Name x px,iter,[],0]] scope pos) m9) (dSet ix (lr (dItL ti) te)):=#[have hi:=hi.out;have he:=λcl s₀ H₀ fp=>(he cl s₀ H₀ fp).out;(uc hc S (kd hi) (λ_ _ _ _=>lu) he hN NU hy hf LI hs).anti λE s H q=>Av itL q]
end
def eX(scope fsc:Vz):List (LB×VQ):=scope.names.map λ(n,k)=>if(k==NameKind.free&&fsc.kind== .function&&fsc.names.lookup n==be .cell)then(n,NameKind.cell)else(n,k)
def visB(l:List (LB×VQ))(n:LB):Bool:=l.lookup n==be .local||l.lookup n==be .cell||l.lookup n==be .free
def dh(scope fsc:Vz)(N:List LB)(x:LB):Bool:=
 scope.kind== .function&&scope.names.all (λy=>!(y.2== .cell))&&scope.names.all (λy=>!(y.2== .local)||scope.names.lookup y.1==be .local)&&scope.names.lookup x==be .local &&
 scope.names.all (λy=>!(y.2== .free)||fsc.names.lookup y.1==be .cell)&&N.all (λn=>decide (n=x)||!visB (eX scope fsc) n||scope.names.any (λy=>decide (y=(n,NameKind.free))))&&!visB (eX scope fsc) "" &&
 scope.names.all (λy=>!(y.2== .free)||(eX scope fsc).lookup y.1==be .cell)&&decide (N.map (λn=>if n=x then("":LB)else n)++[x]).Nodup
def uf{l:List (LB×VQ)}{n:LB}(h:l.lookup n=be .local\/l.lookup n=be .cell\/l.lookup n=be .free):visB l n=true:=by
 unfold visB;rcases h with h|h|h<;>rw[h]<;>rfl
def compScope{scope:Vz}{x:LB}(h:dh scope X.env.scope X.N x=true):CompScope X scope x:=by
 unfold dh at h;simp only[Iw]at h;obtain⟨⟨⟨⟨⟨⟨⟨⟨h1,h2⟩,h3⟩,h4⟩,h5⟩,h6⟩,h7⟩,h8⟩,h9⟩:=h;have er:(W2 scope X.env).names=eX scope X.env.scope:=rfl;refine#[by simpa using h1,λy hy=>?_,λy hy e=>?_,by simpa using h4,λn hn=>?_,λn hn ne v=>?_,λv=>?_,λn hn=>?_,of_decide_eq_true h9]
 .have:=IN.mp h2 y hy;simpa using this
 .have:=IN.mp h3 y hy;rw[e]at this;simpa using this
 .have:=IN.mp h5 _ hn;show X.env.scope.names.lookup n=be .cell;simpa using this
 .have:=IN.mp h6 n hn;have v':visB (eX scope X.env.scope) n=true:=uf v;rw[v']at this;simp[ne]at this;exact this
 .have v':visB (eX scope X.env.scope) ""=true:=uf v;rw[v']at h7;cases h7
 .have:=IN.mp h8 _ hn;rw[er];simpa using this
def putD(f:LB)(v:D):List (LB×D)->List (LB×D)
 |[]=>[(f,v)]
 |(g,x)::r=>if g=f then(g,v)::r else(g,x)::putD f v r
def RepF.put{K:Ex}{F:Hp}{f:LB}{d:D}{v:V}(r:Rep K F d v):∀{fs:List (LB×D)} {ws:List (LB×V)},RepF K F fs ws->RepF K F (putD f d fs) (putF f v ws)
 |[],ws,h=>by
  rw[repf_nil.mp h];exact repf_cons.mpr #[v,[],rfl,r,repf_nil.mpr rfl]
 |(g,x)::fs,ws,h=>by
  obtain⟨w,MG,rfl,h1,h2⟩:=repf_cons.mp h;unfold putD putF;by_cases e:g=f
  .rw[if_pos e,if_pos e];exact repf_cons.mpr #[v,MG,rfl,r,h2]
  .rw[if_neg e,if_neg e];exact repf_cons.mpr #[w,_,rfl,h1,RepF.put r h2]
def RepF.length{K:Ex}{F:Hp}:∀{fs:List (LB×D)} {ws:List (LB×V)},RepF K F fs ws->ws.length=fs.length
 |[],ws,h=>by rw[repf_nil.mp h];rfl
 |(g,x)::fs,ws,h=>by
  obtain⟨w,MG,rfl,h1,h2⟩:=repf_cons.mp h;rw[HX,HX,RepF.length h2]
def ClsA(K:Ex)(x f:LB):Prop:=∃C,nsIn K SL x=be (be (.ref C))/\Cls K C/\NoAttr K C f
section
variable {X:Cx}{a b c e:U8}{ta tb tc te:TD}{pos:Vh}
def dFld(x f:LB)(te:TD):TD:=λz R=>te z λd=>match d with|.obj y fs=>y=x/\∃d,fs.lookup f=be d/\R d|_=>False
variable{x:LB}
def eY[Jx]{f:LB}(h:ClsA X.K x f)(he:WDE X e te)(hb:autoParam (Ve e f X.env (Vf e X.env)=Vf e X.env) zA0):WDE X (.Attribute e f pos) (dFld x f te):=⟨have he:=he.out;(sf he hb).anti λs H Q q=>by
 obtain⟨C,hn,hc,hf⟩:=h;obtain⟨B,F,z,kf,rs,R,h1,h2⟩:=q;have fh:=kf.fh;refine#[B,F,z,kf,rs,_,h1,λd u F1 H1 g1 hx rx=>?_];split at hx
 .obtain⟨rfl,d,hl,hR⟩:=hx;obtain⟨a,C',dx,vs,rfl,g5,q,r⟩:=rep_obj.mp rx;rw[hn]at g5;cases g5;obtain⟨v,l,rv⟩:=r.look hl;exact#[a,C,dx,vs,v,rfl,g1.fh _ _ q,hc,hf,l,h2 d v F1 H1 g1 hR rv]
 .exact hx.elim⟩
def uh[Jx]{d:D}{v:V}{u:Os}(hm:X.mg x=be u)(r:RelV v u)(rd:∀H,Rep X.K H d v)(hg:autoParam (Gl X x) zA0)(hd:autoParam (zND x) zA1):DE X (.Name x pos) (dC d):=de_c (xu hg hm r hd) rd
def eZ[Jx]{i:Int}(h:∃t,X.mg x=be (.int i t))(hg:autoParam (Gl X x) zA0)(hd:autoParam (zND x) zA1):WDE X (.Name x pos) (dC (.int i)):=⟨by
 obtain⟨t,h⟩:=h;exact uh (v:=.int i) h #[t,rfl] (λ_=>rep_int.mpr rfl) hg hd⟩
def fg[Jx]{y:LB}(h:∃t,X.mg x=be (.str y t))(hg:autoParam (Gl X x) zA0)(hd:autoParam (zND x) zA1):WDE X (.Name x pos) (dC (.str y)):=⟨by
 obtain⟨t,h⟩:=h;exact uh (v:=.str y) h #[t,rfl] (λ_=>rep_str.mpr rfl) hg hd⟩
structure ClsI(K:Ex)(mg:Str->Option Os)(x:Str)(C:Pi):Prop where
 ns:nsIn K SL x=be (be (.ref C))
 mg:mg x=be (.ref C)
 cl:Cls K C
 ha:HW K (.ref C) "__class__"=be (be (.builtin "object.__class__"))
 hn:specialIn K (.builtin "object.__class__") "__get__"=be (be (.builtin "getset_descriptor.__get__"))
 htk:takesIn K (.builtin "object.__class__")=be true
 hm:IK K C (.type "object")=be true
 self:kitOne K (.ref C) (.ref C)=be true
end
abbrev SiD:=List D->(List (LB×D)->Prop)->Prop
def lSi(K:Ex)(C:Pi)(S:SiD):Sp:=λvs H Q _=>∃a dx us H1 F ds,vs=.ref a::us/\H=upd (upd H1 dx (.own a)) a (.ins C dx [])/\H1 a=v9/\H1 dx=v9/\dx≠a/\Same F H1/\Reps K F ds us/\
 ∃R:List (LB×D)->Prop,S ds R/\∀fs ws LN F' H',Grow F H1 F' H'->R fs->H' a=be (.ins C LN ws)->F' a=v9->RepF K F' fs ws->Q .non H'
def CalM(P:U')(w:Va)(K:Ex)(mg:LB->Option Os)(base:Heap)(n:Nat)(x:LB)(ps:List LB)(S:SiD):Prop:=
 ∃C f fd,nsIn K SL x=be (be (.ref C))/\mg x=be (.ref C)/\Mk K C f/\FnOk P w K mg base (Exc.CX1 P w) n f fd ps (lSi K C S)/\Binds K fd ps []
def Ax(x:LB)(S:SiD)(t:TDA):TD:=λz R=>t z λds=>S ds λfs=>R (.obj x fs)
def lv[Jx]{pos:Vh}{n m:Nat}{ps:List LB}{S:SiD}{x:LB}{p:Vh}{e:U8}{es:List U8}{t:TDA}(M:CalM X.prog X.w X.K X.mg X.base n x ps S)(hr:Room m X.A)(ha:WDA X (e::es) t)(hg:autoParam (Gl X x) zA0)(hn:autoParam (n+1<=m) zA1)(d5:autoParam (zND x) zA1)
  (he:autoParam (zSE X e es) zA0) (c8:autoParam (zPL X pos es) zA0):WDE X (.Call (.Name x p) (e::es) [] pos) (Ax x S t):=⟨by
 have ha:=ha.out;obtain⟨C,f,fd,hns,j_,mk,F,hb⟩:=M;refine(gU mk F (hr.mono hn) hg j_ hb .nil eL ha d5 he c8).anti λs H Q q=>?_;obtain⟨B,F,z,kf,rs,R,h1,h2⟩:=q;have fh:=kf.fh;refine#[B,F,z,kf,rs,_,h1,λds vs F1 H1 g1 hx rx=>?_];intro a dx ha o_ j9;refine#[a,dx,vs,H1,F1,ds,by rw[IA],rfl,ha,o_,j9,g1.fh,rx,_,hx,λfs ws LN F' H' g hR e_ i9 rf=>#[rfl,?_]];have s1:Same F' (upd F' a (.ins C LN ws)):=aO i9 _;refine h2 (.obj x fs) (.ref a) (upd F' a (.ins C LN ws)) H' #[(g1.ff.trans g.ff).trans s1,λb o q=>?_,g1.hh.trans g.hh,λb q1 q2=>?_] hR (rep_obj.mpr #[a,C,LN,ws,rfl,hns,aB,RepF.mono s1 fs ws rf])
 .by_cases hb:b=a
  .subst hb;rw[aB]at q;cases q;exact e_
  .rw[ar hb]at q;exact g.fh b o q
 .by_cases hb:b=a
  .subst hb;exact absurd (g1.hh.free ha) q2
  .rw[ar hb];exact(g1.trans g).out b q1 q2⟩
abbrev TID:=SD->List (LB×D)->(List (LB×D)->Prop)->Prop
def lI(K:Ex)[J:Jx](x:LB)(t:TID):TS:=λE σ H=>∃C a dx ws F z fs,nsIn K SL x=be (be (.ref C))/\σ[0]?=be (be (.ref a))/\H a=be (.ins C dx ws)/\J.B a=v9/\F a=v9/\Kept J.B J.F0 F H/\RepS K J.B F H z σ/\RepF K F fs ws/\
 ∃R:List (LB×D)->Prop,t z fs R/\∀l7 MG F' H',Kept J.B J.F0 F' H'->R l7->H' a=be (.ins C dx MG)->F' a=v9->RepF K F' l7 MG->E.nx σ H'
abbrev DI(X:Cx)[Jx](x:LB)(st:List U7)(t:TID):Prop:=PSs X st (lI X.K x t)
structure WDI(X:Cx)[Jx](x:Str)(st:List U7)(t:TID):Prop where
 out:DI X x st t
section
variable {X:Cx}{x f:LB}{e:U8}{te:TD}{pos c5 p:Vh}{rest:List U7}{tr:TID}
def ui:TID:=λ_ fs R=>R fs
def Ay(f:LB)(te:TD)(tr:TID):TID:=λz fs R=>te z λd=>fs.length<1000/\tr z (putD f d fs) R
def dO[Jx]:WDI X x [] ui:=⟨pss_nil.anti λE s H q=>by
 obtain⟨C,a,dx,ws,F,z,fs,hn,h0,e_,m_,i9,g,rs,rf,R,hR,k⟩:=q;exact k fs ws F H g hR e_ i9 rf⟩
def RepS.other{K:Ex}{B F H:Hp}{z:SD}{σ:L2.St}{a:Pi}{o o':HO}(rs:RepS K B F H z σ)(h:H a=be o)(hl:∀vs,o≠.lst vs):RepS K B F (upd H a o') z σ:=
 ⟨rs.len,rs.val,λi ds e=>by
  obtain⟨b,vs,q1,q2,q⟩:=rs.own i ds e;have ne:b≠a:=by
   rintro rfl;rw[h]at q2;cases q2;exact hl vs rfl
  exact#[b,vs,q1,by rw[ar ne];exact q2,q],rs.apart⟩
def bQ[J:Jx]{ps:Vh}{sx:LB}(hA:ClsA X.K x f)(he:WDE X e te)(hr:WDI X x rest tr)(hN:autoParam (X.N[0]?=be sx) zA0)(hv:autoParam (Vis X.env.scope sx) zA5)(hd:autoParam (zND sx) zA1)
  (gt:autoParam (zNC sx) zA1) (hs:autoParam (Vn e (be (.Attribute (.Name sx ps) f c5)) pos.line X.env=pure false) zA0):WDI X x (.Assign [.Attribute (.Name sx ps) f c5] e pos::rest) (Ay f te tr):=⟨have he:=he.out;have hr:=hr.out;(eE (si (cP (i:=0) hN hv hd gt) he hs) hr).anti λE s H q=>by
 obtain⟨C,a,dx,ws,F,z,fs,hn,h0,e_,m_,i9,g,rs,rf,R,hR,k⟩:=q;obtain⟨C',g5,hc,hf⟩:=hA;rw[hn]at g5;cases g5;refine#[_,F,z,g,rs,_,hR,λd v F2 H2 g2 hx rv=>?_];have k2:=g.grow g2;have RP:=g2.hh a _ e_;have LL:F2 a=none:=g2.out a i9 (by rw[e_];exact λz=>nomatch z);refine#[.ref a,h0,a,C,dx,ws,rfl,RP,hc,hf,by rw[rf.length];exact hx.1,?_];have Ta:Same F2 (upd H2 a (.ins C dx (putF f v ws))):=λb o q=>by
  have ne:b≠a:=by rintro rfl;rw[LL]at q;cases q
  rw[ar ne];exact g2.fh b o q
 have Lv:Same J.B (upd H2 a (.ins C dx (putF f v ws))):=λb o q=>by
  have ne:b≠a:=by rintro rfl;rw[m_]at q;cases q
  rw[ar ne];exact k2.bh b o q
 exact#[C,a,dx,putF f v ws,F2,z,putD f d fs,hn,h0,aB,m_,LL,#[Lv,Ta,k2.f0,k2.out,k2.eb,k2.jf,k2.jo],(rs.grow g2).other RP (λ_ z=>nomatch z),RepF.put rv (RepF.mono g2.ff fs ws rf),R,hx.2,k]⟩
end
section
variable {P:U'}{w:Va}{K:Ex}{mg:LB->Option Os}{base:Heap}
def uj{K:Ex}{B F H:Hp}{z:SD}{σ:L2.St}{v:V}(rs:RepS K B F H z σ):RepS K B F H (v9::z) (be v::σ):=
  ⟨by rw[HX,HX,rs.len],λi d e no=>by
    cases i with
    |zero=>cases e
    |succ i=>exact rs.val i d e no,λi ds e=>by
    cases i with
    |zero=>cases e
    |succ i=>exact rs.own i ds e,λi j di dj a e1 e2 e3 e4=>by
    cases i with
    |zero=>cases e1
    |succ i=>
      cases j with
      |zero=>cases e2
      |succ j=>rw[rs.apart i j di dj a e1 e2 e3 e4]⟩
def Cls.okI{x qual:LB}{st:U7}{f C:Pi}{fd:Vg}{N:List LB}{p0:LB}{ps:List LB}{k:Nat}{S:SiD}(T:Fun K "__init__" qual st f fd)(hb:Binds K fd (p0::ps) [])(F:FnScope (p0::N) (p0::ps) (ah st))(len:∀ds R,S ds R->ds.length=ps.length)
  (hns:nsIn K SL x=be (be (.ref C))) (j_:mg x=be (.ref C)) (mk:Mk K C f)
  (a8:∀(cdv:Os) (A:Vb) (outer:List VU) (s:SB) (H:Hp) (E:XK) (J:Jx),Room k (A.deeper (Vk qual (ah st) s.heap.objs.size f cdv))->
   ∃t,DI (cxOf (Exc.CX1 P w) P w K mg base (p0::N) qual (ah st) f cdv A outer s H E).nox x (aK st) t/\∀ds R,S ds R->t (v9::startD N ds) [] R):CalM P w K mg base (k+1) x (p0::ps) S:=by
 refine#[C,f,fd,hns,j_,mk,Fun.okC T F (λvs H Q E h=>?_) (λcdv A outer s H vs Q E hr h=>?_),hb]
 .obtain⟨a,dx,us,H1,F,ds,rfl,_,_,_,_,_,rs,R,h,_⟩:=h;rw[HX,HX,rs.length,len ds R h]
 .obtain⟨a,dx,us,H1,F1,ds,rfl,rfl,ha,o_,j9,fh,rs,R,h,q⟩:=h
  letI:Jx:=#[H1,F1,λ_ _ _=>False]
  obtain⟨t,ht,hq⟩:=a8 cdv A outer s _ E inferInstance hr;have Fa:F1 a=none:=fh.free ha;have hl:L2.start (p0::N) (.ref a::us)=be (.ref a)::L2.start N us:=by
   unfold L2.start;rw[Il,HX,HX,KL];rfl
  have s1:Same H1 (upd (upd H1 dx (.own a)) a (.ins C dx [])):=(aO o_ _).trans (aO (by rw[ar (Ne.symm j9)];exact ha) _);refine#[_,ht.nox,C,a,dx,[],F1,v9::startD N ds,[],hns,by rw[hl];rfl,aB,ha,Fa,#[s1,fh.trans s1,Same.refl F1,λ_ h _=>h,rfl,Same.refl F1,λ_ h _=>h],?_,repf_nil.mpr rfl,R,hq ds R h,λl7 MG F' H' g hR e_ i9 rf=>q l7 MG dx F' H' #[g.f0,g.fh,g.bh,g.out] hR e_ i9 rf];rw[hl];exact uj (dJ rs)
end
section
variable {X:Cx}{a b c e:U8}{ta tb tc te:TD}{pos:Vh}
def Az(t u:TD):TDI:=λz R=>t z λx=>u z λy=>match x,y with|.int i,.int j=>(-(2^62)<=i/\i<2^62/\-(2^62)<=j/\j<2^62)/\R ((HU (j-i).toNat).map λk=>D.int (i+((k:Nat):Int)))|_,_=>False
def AA[Jx](i:Nat){x:LB}{p p1 p2:Vh}{body:List U7}{RQ:TSD}(hp:Vr (U9 X.prog X.w) X.A X.env X.xe)(hc:X.calm=true)(hN:X.N.Nodup)(hm:X.mg "range"=v9)(ha:WDE X a ta)(gV:WDE X b tb)(hb:WDSs X body RQ)(hg:autoParam (Gl X "range") zA0)(hi:autoParam (X.N[i]?=be x) zA0)(hx:autoParam (Loc X.env.scope x) zA4)
  (hf:autoParam (zFN X x) zA2) (hs:autoParam (∀y,zFS X (.Call (.Name "range" p1) [a,b] [] p2) y) zA3) (t8:autoParam (zSE X a [b]) zA0) (Pt:autoParam (zSE X b []) zA0) (g8:autoParam (Vc [a,b] X.env=[(false,Vf a X.env),(false,Vf b X.env)]) zA0) (Pu:autoParam (Vc [b] X.env=[(false,Vf b X.env)]) zA0):WDS X (.For (.Name x p) (.Call (.Name "range" p1) [a,b] [] p2) body [] pos) (dFor i (Az ta tb) RQ):=⟨have ha:=ha.out;have gV:=gV.out;have hb:=hb.out;(cQ hp hc (xS hg hm (bz ha (bz gV pa_nil Pt) t8) g8 Pu) (dI hN hi hx hf) hb hs).anti λE s H q=>by
 obtain⟨B,F0,F,z,kp,rs,ED,h,e⟩:=q;refine#[B,F,z,kp.kf,rs,_,h,λd1 v1 F1 H1 g1 h1 r1=>?_];refine#[B,F1,z,kp.kf.grow g1,rs.grow g1,_,h1,λd2 v2 F2 H2 g2 h2 r2=>?_];split at h2
 .rename_i lo j3;obtain⟨bd,W,w0,c7,out⟩:=h2;have hl:((HU (j3-lo).toNat).map λk=>D.int (lo+((k:Nat):Int))).length=(j3-lo).toNat:=by simp
  refine#[lo,j3,by rw[rep_int.mp r1,rep_int.mp r2],bd,kh (lo:=lo) (n:=(j3-lo).toNat) (λk s' H'=>∃F' z',Kept B F0 F' H'/\RepS X.K B F' H' z' s'/\W k z') #[F2,z,(kp.grow g1).grow g2,(rs.grow g1).grow g2,w0] ?_ ?_]
  .rintro k s' H' hk⟨F',z',k',r',w'⟩;exact#[B,F0,F',_,k',r'.set (d:=.int (lo+(k:Int))) (rep_int.mpr rfl),_,c7 k (.int (lo+(k:Int))) z' (by simp[hk]) w',#[λz3 s3 F3 H3 k3 h3 r3=>#[F3,z3,k3,r3,h3],e.rt,e.nx,λz3 s3 F3 H3 k3 h3 r3=>#[F3,z3,k3,r3,h3]]]
  .rintro s' H'⟨F',z',k',r',w'⟩;exact e.nx z' s' F' H' k' (out z' (by rw[hl];exact w')) r'
 .exact h2.elim⟩
def RepS.change[Jx]{K:Ex}{B F0 F H:Hp}{z:SD}{s:L2.St}{i:Nat}{ds Pw:List D}{a:Pi}{n4:List V}(rs:RepS K B F H z s)(k:Kept B F0 F H)(ez:z[i]?=be (be (.own ds)))(q1:s[i]?=be (be (.ref a)))(hB:B a=v9)(hF:F a=v9)(r:Reps K F Pw n4):
  Kept B F0 F (upd H a (.lst n4))/\RepS K B F (upd H a (.lst n4)) (z.set i (be (.own Pw))) s:=by
 have same:∀{G:Hp},G a=v9->Same G H->Same G (upd H a (.lst n4)):=λ{G} ga gs b o eb=>by
  have ne:b≠a:=λz=>by rw[z,ga]at eb;cases eb
  rw[ar ne];exact gs b o eb
 have r2:=rs.setOwn (i:=i) (a:=a) (vs:=n4) (ds:=Pw) hB hF r (λj dj hj e1 e2=>hj (rs.apart j i dj ds a e1 ez e2 q1));have es:s.set i (be (.ref a))=s:=by
  apply Jp;intro n;by_cases hn:i=n
  .subst hn;rw[IE (Ib.mp q1).1,q1]
  .rw[Ic hn]
 rw[es]at r2;exact#[#[same hB k.bh,same hF k.fh,k.f0,k.out,k.eb,k.jf,k.jo],r2]
def Reps.put{K:Ex}{F:Hp}{d:D}{v:V}(r:Rep K F d v):∀{ds:List D} {vs:List V} (j:Nat),Reps K F ds vs->Reps K F (ds.set j d) (vs.set j v)
 |[],vs,j,h=>by rw[reps_nil.mp h];exact reps_nil.mpr rfl
 |x::ds,vs,0,h=>by
  obtain⟨u,us,rfl,h1,h2⟩:=reps_cons.mp h;exact reps_cons.mpr #[v,us,rfl,r,h2]
 |x::ds,vs,j+1,h=>by
  obtain⟨u,us,rfl,h1,h2⟩:=reps_cons.mp h;exact reps_cons.mpr #[u,_,rfl,h1,Reps.put r j h2]
def uk(i:Nat)(te ti:TD):TSD:=λE z=>match z[i]? with
 |some (be (.own ds))=>te z λd=>ti z λy=>match y with|.int k=>∃j,ixN ds.length k=be j/\E.nx (z.set i (be (.own (ds.set j d))))|_=>False
 |_=>False
def ul[Jx](i:Nat){x:LB}{p1 p2:Vh}(he:WDE X e te)(hb:WDE X b tb)(hN:autoParam (X.N[i]?=be x) zA0)(hv:autoParam (Vis X.env.scope x) zA5)(hd:autoParam (zND x) zA1)
  (gt:autoParam (zNC x) zA1)
  (ha:∀v,VL (.Subscript (.Name x p1) b p2) X.env v=(do
   let ov <-Vy [v] (Vf (.Name x p1) X.env)
   let iv <-Vy [v,ov] (Vf b X.env)
   VT p2
   Vy [v,ov,iv] (Wy ov iv v)
   W1 [v,ov,iv] []):=by intro _;rfl)
  (hs:autoParam (VB [.Subscript (.Name x p1) b p2] e pos.line X.env=pure false) zA0) (hw:autoParam (VC [.Subscript (.Name x p1) b p2] e X.env=pure none) zA0)
  (h1:autoParam ((Vd [.Subscript (.Name x p1) b p2] X.env).map (·.2)=[VL (.Subscript (.Name x p1) b p2) X.env]) zA0):WDS X (.Assign [.Subscript (.Name x p1) b p2] e pos) (uk i te tb):=⟨have he:=he.out;have hb:=hb.out;(gQ he (xJ (cP hN hv hd gt) hb sF ha) hs hw h1).anti λE s H q=>by
 obtain⟨B,F0,F,z,k,rs,ED,h,e⟩:=q;unfold uk at h;split at h
 .rename_i ds ez;refine#[B,F,z,k.kf,rs,_,h,λd v F1 H1 g1 hx rv=>?_];obtain⟨a,vs,q1,q2,q3,q4,q5⟩:=(rs.grow g1).own i ds ez;refine#[.ref a,q1,B,F1,z,k.kf.grow g1,rs.grow g1,_,hx,λy w F2 H2 g2 hy ry=>?_];split at hy
  .obtain⟨j,ej,hn⟩:=hy;have r2:=(rs.grow g1).grow g2;have k2:=(k.grow g1).grow g2;have LL:F2 a=none:=g2.out a q4 (by rw[q2];exact λz=>nomatch z);refine#[a,vs,_,j,rfl,rep_int.mp ry,g2.hh _ _ q2,by rw[q5.length];exact ej,?_];obtain⟨k3,r3⟩:=r2.change k2 ez q1 q3 LL (Reps.put (rv.mono g2.ff) j (q5.mono g2.ff));exact e.nx _ s F2 _ k3 hn r3
  .exact hy.elim
 .exact h.elim⟩
end
end My
namespace My
open Exc
abbrev XD:=LB->List (LB×D)->Prop
def ErrD(K:Ex)(F:Hp)(x:LB)(fs:List (LB×D))(C:Pi)(od:Option Pi):Prop:=
 nsIn K SL x=be (be (.ref C))/\∃vs,RepF K F fs vs/\((od=v9/\vs=[])\/∃b,od=be b/\F b=be (.xd vs))
abbrev SpX:=List D->(D->Prop)->XD->Prop
def lSpX(K:Ex)(S:SpX):Sp:=λvs H Q E=>∃F ds,Same F H/\Reps K F ds vs/\∃(R:D->Prop) (RX:XD),S ds R RX/\(∀d v F' H',Grow F H F' H'->R d->Rep K F' d v->Q v H')/\
 ∀x fs C od F' H',Grow F H F' H'->RX x fs->ErrD K F' x fs C od->E (.ref C) od H'
def Exd(X:Cx)(H:Hp)(s:SB)(e C:Pi)(od:Option Pi):Prop:=
  H e=v9/\X.s₀.heap.get? e=v9/\(∀p∈X.pn,p.1≠e)/\
  ((∃sl vs,s.heap.get? e=be #[.ref C,od,.fields vs,sl]/\vs[1]?=be .none)\/
    ∃T,ExAt s.heap e C od T .none/\X.s₀.heap.get? T=v9/\H T=v9/\∀p∈X.pn,p.1≠T)
def XOk(X:Cx)[J:Jx]:Prop:=∀(σ:L2.St) (z:SD) (F H:Hp) (s:SB) (e C:Pi) (od:Option Pi) (x:LB) (fs:List (LB×D)),Inv X [] σ H s->Kept J.B J.F0 F H->RepS X.K J.B F H z σ->J.RX z x fs->ErrD X.K F x fs C od->Exd X H s e C od->X.xe (.ref e) s
variable{X:Cx}{pins:List (Pi×Vp)}{σ:L2.St}{H:Hp}{s:SB}
def Inv.nopins(I:Inv X pins σ H s):Inv X [] σ H s:=I.pins_of λp hp=>by cases hp
section
variable {X:Cx}{k:Nat}{f:Pi}{fd:Vg}{ps:List LB}{sp:Sp}{E:XK}
def ij{pins:List (Pi×Vp)}{σ:L2.St}{H:Hp}{s:SB}{Q:VK}{us:List Os}{vs:List V}(F:FnOk X.prog X.w X.K X.mg X.base (CX1 X.prog X.w) k f fd ps sp)(hr:Room k X.A)(hb:Binds X.K fd ps [])
  (hx:∀e s',CX1 X.prog X.w X.stack H s E e s'->X.xe e s') (I:Inv X pins σ H s) (r:Vals vs us) (h:sp vs H Q E):U_ (U9 X.prog X.w) X.A (call (.ref f) us) (EP X pins σ Q) X.xe s:=by
 have hl:us.length=ps.length:=by rw[<-L2.Vals.length r];exact F.len _ _ _ _ h
 have gV:=hb s us I.kIn (by rw[IA];exact hl);rw[IA]at gV;refine VJ (VG (F.run X.A X.stack s H #[us,[]] us vs Q E hr I.env0 gV r h) λr s' hq=>?_);cases r with
 |error e=>exact hx e s' hq
 |ok fl=>
  cases fl with
  |ret u=>exact I.after hq
  |next=>exact False.elim hq
  |brk=>exact False.elim hq
  |cont=>exact False.elim hq
end
variable{b:Pi}
def cH(I:Inv X pins σ H s)(d_:X.ex=[])(q:s.heap.get? b=v9):X.s₀.heap.get? b=none:=by
 cases z:X.s₀.heap.get? b with
 |none=>rfl
 |some o=>
  obtain⟨o',z'⟩:=I.base.there b o z (by rw[d_];simp);rw[q]at z';cases z'
def pn_free(I:Inv X pins σ H s)(q:s.heap.get? b=v9):∀p∈X.pn,p.1≠b:=λp hp z=>by
 have:=(I.pin p (Ja _ hp)).1;rw[z,q]at this;cases this
def XOk.out[J:Jx](hx:XOk X)(d_:X.ex=[]){z:SD}{s':SB}{ev:Os}(I:Inv X pins σ H s)
  (h:CX1 X.prog X.w X.stack H s (λCv od H'=>∃x fs C F',Cv=.ref C/\Kept J.B J.F0 F' H'/\RepS X.K J.B F' H' z σ/\J.RX z x fs/\ErrD X.K F' x fs C od) ev s'):X.xe ev s':=by
 obtain⟨e,C,od,T,H',rfl,LD,hb,un,hok,Px,ne,nT,He,HT,x,fs,C',F',hC,kk,rr,hR,er⟩:=h;cases hC;have I':Inv X pins σ H' s':=I.call' LD un hok hb (λb z=>absurd z MD);exact hx σ z F' H' s' e C od x fs (Inv.nopins I') kk rr hR er #[He,cH I d_ ne,pn_free I ne,.inr #[T,Px,cH I d_ nT,HT,pn_free I nT]]
abbrev CalX(P:U')(w:Va)(K:Ex)(mg:LB->Option Os)(base:Heap)(n:Nat)(x:LB)(ps:List LB)(S:SpX):Prop:=Cal P w K mg base n x ps (lSpX K S)
def AB[J:Jx](S:SpX)(t:TDA):TD:=λz R=>t z λds=>S ds R (J.RX z)
variable{ps:List LB}{x:LB}
def um[J:Jx]{pos:Vh}{n m:Nat}{S:SpX}{p:Vh}{e:U8}{es:List U8}{t:TDA}(C:CalX X.prog X.w X.K X.mg X.base n x ps S)(hx:XOk X)(hr:Room m X.A)(ha:WDA X (e::es) t)(d_:autoParam (X.ex=[]) zA0)(hg:autoParam (Gl X x) zA0)(hn:autoParam (n<=m) zA1)(d5:autoParam (zND x) zA1)
  (he:autoParam (zSE X e es) zA0) (c8:autoParam (zPL X pos es) zA0):WDE X (.Call (.Name x p) (e::es) [] pos) (AB S t):=⟨by
 have ha:=ha.out;obtain⟨f,fd,F,hb,hk,hm⟩:=C;intro pins s σ H Q I h;obtain⟨B,Fr,z,kf,rs,R,h1,h2⟩:=h;obtain rfl:B=J.B:=kf.eb;refine Vj (cv I hg hm ?_ d5);refine callWith_K (h₀:=X.base) I.ok.mod.kin hk (thn (ha pos pins s σ H (λvs H1=>lSpX X.K S vs H1 Q (λCv od H'=>∃x fs C F',Cv=.ref C/\Kept J.B J.F0 F' H'/\RepS X.K J.B F' H' z σ/\J.RX z x fs/\ErrD X.K F' x fs C od)) I #[_,Fr,z,kf,rs,_,h1,λds vs F1 H1 g1 hx rx=>?_]) λus s1 ⟨vs,H1,I1,r,q⟩=>#[I1.kIn,?_]) he c8
 .exact#[F1,ds,g1.fh,rx,R,J.RX z,hx,λd v F' H' g=>h2 d v F' H' (g1.trans g),λx fs C od F' H' g hR er=>#[x,fs,C,F',rfl,(kf.grow g1).grow g,(rs.grow g1).grow g,hR,er]]
 .exact ij F (hr.mono hn) hb (λe s' hq=>hx.out d_ I1 hq) I1 r q⟩
section
variable {P:U'}{w:Va}{K:Ex}{mg:LB->Option Os}{base:Heap}
variable{N:List LB}
def uo{qual:LB}{scope:Vz}{f:Pi}{cd:Os}{A:Vb}{outer:List VU}{s:SB}{H:Hp}{E':XK}{pins:List (Pi×Vp)}{σ:L2.St}{H':Hp}{s':SB}{e C T:Pi}{od:Option Pi}
  (I':Inv (cxOf (CX1 P w) P w K mg base N qual scope f cd A outer s H E') pins σ H' s') (hx:ExAt s'.heap e C od T .none) (ne:s.heap.get? e=v9) (nT:s.heap.get? T=v9) (He:H' e=v9) (HT:H' T=v9) (hE:E' (.ref C) od H'):
  (cxOf (CX1 P w) P w K mg base N qual scope f cd A outer s H E').xe (.ref e) s':=by
 show U_ _ _ (WA _ _) _ _ _;unfold WA;refine P3 (sQ I'.ok.frames I'.stack rfl hx λh2 T2 n8 z_ s_=>flight_none (s:={s' with heap:=h2}) n8 λh3 NQ J_=>?_);have LH:s'.heap.get? T2=none:=Heap.get?_none_of_le z_;have f1:∀b,s'.heap.get? b=v9->s.heap.get? b=none:=λb q=>cH I' rfl q;have hok:HOk P w H' s'.heap:=I'.hok;have Ma:H' T2=none:=hok.fresh z_;have Tb:∀b∈[T,e],s.heap.get? b=none:=λb hb=>by
  rcases HQ.mp hb with z|z
  .rw[z];exact nT
  .rw[HN.mp z];exact ne
 have u2:Un (frs outer) [] H H' s.heap h2:=gZ (show Un (frs outer) [] H H' s.heap s'.heap from I'.base) s_ Tb λb hb=>sR hb;have u3:Un (frs outer) [] H H' s.heap h3:=gZ u2 J_ (λb hb=>by rw[HN.mp hb];exact f1 T2 LH) λb hb=>by cases hb
 have k2:=fR hok s_ (λb hb=>I'.stkFree b hb) (λb hb=>by
  rcases HQ.mp hb with z|z
  .rw[z];exact HT
  .rw[HN.mp z];exact He)
 have k3:=fR k2 J_ (λb hb=>by cases hb) (λb hb=>by rw[HN.mp hb];exact Ma);exact#[e,C,od,T2,H',rfl,I'.os,I'.bare,u3,k3,NQ,ne,f1 T2 LH,He,Ma,hE]
variable{ps:List LB}
def _root_.L2.Fun.okX{x:LB}{st:U7}{f:Pi}{fd:Vg}{k:Nat}{S:SpX}(T:Fun K x x st f fd)(F:FnScope N ps (ah st))(len:∀ds R RX,S ds R RX->ds.length=ps.length)
  (a8:∀(cdv:Os) (A:Vb) (outer:List VU) (s:SB) (H:Hp) (E:XK) (J:Jx),Room k (A.deeper (Vk x (ah st) s.heap.objs.size f cdv))->XOk (cxOf (CX1 P w) P w K mg base N x (ah st) f cdv A outer s H E)->
   ∃t,DSs (cxOf (CX1 P w) P w K mg base N x (ah st) f cdv A outer s H E) (aK st) t/\∀ds R RX,(∀z,J.RX z=RX)->S ds R RX->t {nx:=λ_=>R .non,rt:=R} (startD N ds)):FnOk P w K mg base (CX1 P w) (k+1) f fd ps (lSpX K S):=by
 refine Fun.okC T F (λvs H Q E h=>?_) (λcdv A outer s H vs Q E hr h=>?_)
 .obtain⟨F,ds,fh,rs,R,RX,h,_⟩:=h;rw[rs.length];exact len ds R RX h
 .obtain⟨F,ds,fh,rs,R,RX,h,q,qx⟩:=h
  letI:Jx:=#[H,F,λ_=>RX]
  have hx:XOk (cxOf (CX1 P w) P w K mg base N x (ah st) f cdv A outer s H E):=by
   intro σ z F' H' s' e C od y fs I kk rr hR er ⟨He,ne,_,hx⟩;have hE:E (.ref C) od H':=qx y fs C od F' H' #[kk.f0,kk.fh,kk.bh,kk.out] hR er;rcases hx with⟨sl,vs,h1,h2⟩|⟨T,h1,h2,h3,_⟩
   .exact sS I h1 h2 He ne hE
   .exact uo I h1 ne h2 He h3 hE
  obtain⟨t,ht,hq⟩:=a8 cdv A outer s H E inferInstance hr hx;refine#[_,ht,H,F,F,startD N ds,#[Same.refl H,fh,Same.refl F,λ_ h _=>h,rfl,Same.refl F,λ_ h _=>h],dJ rs,_,hq ds R RX (λ_=>rfl) h,#[λz' s' F' H' k hn _=>q _ _ F' H' #[k.f0,k.fh,k.bh,k.out] hn (rep_non.mpr rfl),λd v F' H' k hd rd=>q d v F' H' #[k.f0,k.fh,k.bh,k.out] hd rd,λ_ _ _ _ _ h _=>h.elim,λ_ _ _ _ _ h _=>h.elim]]
def Tx.okX{x:LB}{st:U7}{k:Nat}{S:SpX}(T:Tx K mg x st ps)(F:FnScope N ps (ah st))(len:∀ds R RX,S ds R RX->ds.length=ps.length)
  (a8:∀(f:Pi) (cdv:Os) (A:Vb) (outer:List VU) (s:SB) (H:Hp) (E:XK) (J:Jx),Room k (A.deeper (Vk x (ah st) s.heap.objs.size f cdv))->XOk (cxOf (CX1 P w) P w K mg base N x (ah st) f cdv A outer s H E)->
   ∃t,DSs (cxOf (CX1 P w) P w K mg base N x (ah st) f cdv A outer s H E) (aK st) t/\∀ds R RX,(∀z,J.RX z=RX)->S ds R RX->t {nx:=λ_=>R .non,rt:=R} (startD N ds)):CalX P w K mg base (k+1) x ps S:=by
 obtain⟨f,fd,T,hb,hm⟩:=T;exact#[f,fd,T.okX F len λcdv A outer s H E J hr hx=>a8 f cdv A outer s H E J hr hx,hb,T.kp,hm]
end
variable{P:U'}{w:Va}{h:Heap}
def ObjOk.there{a:Pi}{o:HO}(x:ObjOk P w H h a o):∃u,h.get? a=be u:=by
 cases o with
 |lst xs=>obtain⟨_,_,_,_,e⟩:=x;exact#[_,e]
 |tup xs=>obtain⟨_,_,_,o,e,_⟩:=x;exact#[_,e]
 |dK a9=>obtain⟨_,_,_,_,o,_,_,e,_⟩:=x;exact#[_,e]
 |dT a9=>obtain⟨_,_,_,_,o,_,_,e,_⟩:=x;exact#[_,e]
 |set S n=>obtain⟨o,_,_,_,e,_⟩:=x;exact#[_,e]
 |ins C dx fs=>obtain⟨_,_,_,e,_⟩:=x;exact#[_,e]
 |own y=>exact x
 |xd fs=>obtain⟨_,⟨_,_,_,e,_⟩,_⟩:=x;exact#[_,e]
 |rng lo hi=>obtain⟨_,_,_,e⟩:=x;exact#[_,e]
 |frz ob u=>obtain⟨e,_⟩:=x;exact#[_,e]
 |tbl ps=>exact#[_,(show h.get? a=be _ from x)]
 |met f y=>exact#[_,(show h.get? a=be _ from x)]
 |ext φ=>obtain⟨_,e,_⟩:=x;exact e
def gl{a:Pi}(x:HOk P w H h)(e:h.get? a=v9):H a=none:=by
 cases q:H a with
 |none=>rfl
 |some o=>
  obtain⟨u,hu⟩:=ObjOk.there (x a o q);rw[e]at hu;cases hu
def del(H:Hp)(a:Pi):Hp:=λb=>if b=a then v9 else H b
def gm{a:Pi}:del H a a=none:=by unfold del;rw[if_pos rfl]
def cn{a:Pi}(h:b≠a):del H a b=H b:=by unfold del;rw[if_neg h]
section
variable {X:Cx}{pins:List (Pi×Vp)}{σ:L2.St}{H:Hp}{s:SB}{e:Pi}
variable{φ:Heap->Prop}
def Inv.drop(I:Inv X pins σ H s)(h:H e=be (.ext φ))(ne:X.s₀.heap.get? e=v9):Inv X pins σ (del H e) s:=by
 have nx:∀b o,H b=be o->(∀φ,o≠.ext φ)->b≠e:=λb o q n z=>by rw[z,h]at q;cases q;exact n φ rfl
 refine#[I.ok,I.os,I.bare,#[I.base.keep,I.base.slot,λb o q n hx=>?_,I.base.there,λb xs q=>?_,λb o u q=>?_,λb ps q=>?_],I.loc,I.cell,?_,λx c q=>?_,λp hp=>?_,λa o q=>?_,I.len]
 .have:b≠e:=λz=>by rw[z,ne]at q;cases q
  rw[cn this];exact I.base.free b o q n hx
 .have:=I.base.tups b xs q;rw[cn (nx b _ this λφ z=>nomatch z)];exact this
 .have:=I.base.frzs b o u q;rw[cn (nx b _ this λφ z=>nomatch z)];exact this
 .obtain⟨m,this⟩:=I.base.tbls b ps q;exact#[m,by rw[cn (nx b _ this λφ z=>nomatch z)];exact this]
 .by_cases z:X.env.locals=e
  .rw[z];exact gm
  .rw[cn z];exact I.free
 .by_cases z:c=e
  .rw[z];exact gm
  .rw[cn z];exact I.freeC x c q
 .obtain⟨h1,h2,h3⟩:=I.pin p hp;refine#[h1,?_,h3];by_cases z:p.1=e
  .rw[z];exact gm
  .rw[cn z];exact h2
 .by_cases z:a=e
  .rw[z,gm]at q;cases q
  .rw[cn z]at q;exact(I.hok a o q).stay (λb u _ r=>r) (λb r=>by rw[cn (nx b _ r λφ z=>nomatch z)];exact r) λb xs r=>by rw[cn (nx b _ r λφ z=>nomatch z)];exact r
def Inv.adopt(I:Inv X pins σ H s)(He:H e=v9)(ok:ObjOk X.prog X.w H s.heap e (.ext φ))(ne:X.s₀.heap.get? e=v9)(hl:e≠X.env.locals)(hc:∀x c,X.env.cells.lookup x=be c->c≠e)(hp:∀p∈X.pn++pins,p.1≠e):Inv X pins σ (upd H e (.ext φ)) s:=by
 refine#[I.ok,I.os,I.bare,#[I.base.keep,I.base.slot,λb o q n hx=>?_,I.base.there,λb xs q=>?_,λb o u q=>?_,λb ps q=>?_],I.loc,I.cell,?_,λx c q=>?_,λp M6=>?_,λa o q=>?_,I.len]
 .have:b≠e:=λz=>by rw[z,ne]at q;cases q
  rw[ar this];exact I.base.free b o q n hx
 .have:=I.base.tups b xs q;rw[ar (bH this He)];exact this
 .have:=I.base.frzs b o u q;rw[ar (bH this He)];exact this
 .obtain⟨m,this⟩:=I.base.tbls b ps q;exact#[m,by rw[ar (bH this He)];exact this]
 .rw[ar (Ne.symm hl)];exact I.free
 .rw[ar (hc x c q)];exact I.freeC x c q
 .obtain⟨h1,h2,h3⟩:=I.pin p M6;refine#[h1,?_,h3];rw[ar (hp p M6)];exact h2
 .by_cases z:a=e
  .rw[z,aB]at q;cases q;rw[z];exact ok
  .rw[ar z]at q;exact(I.hok a o q).stay (λb u _ r=>r) (λb r=>by rw[ar (bH r He)];exact r) λb xs r=>by rw[ar (bH r He)];exact r
end
structure ErrK(K:Ex)(mg:Str->Option Os)(x:Str)(C N:Pi)(bm:List Os):Prop where
 ns:nsIn K SL x=be (be (.ref C))
 mg:mg x=be (.ref C)
 kp:keepIn K (.ref C)=true
 obj:∃nm q bs sn sub ab col dd k0 k1 k2 k3 k5,K.lookup C=be (Vs nm q C N bs bm true sn sub ab col dd k0 k1 k2 k3 k5 "ValueError.__new__")
 tail:tailIn K veLine bm=true
structure ErrN(K:Ex)(N:Pi):Prop where
 ok:nsOkIn K N=true
 no:nsIn K N "__init__"=be v9
def lx{K:Ex}:∀{l:List Os},tailIn K veLine l=true->aN l=true
 |[],e=>by simp[tailIn,veLine]at e
 |v::r,e=>by
  unfold tailIn at e;rcases Bool.or_eq_true_iff.mp e with q|q
  .rw[beq_iff_eq.mp q];decide+kernel
  .split at q
   .split at q
    .simp only[Iw,beq_iff_eq]at q;unfold aN;exact lx q.2
    .cases q
   .cases q
variable{K:Ex}{mg:LB->Option Os}{C N:Pi}{bm:List Os}
def ErrK.base(k:ErrK K mg x C N bm):bm.contains (.type "BaseException")=true:=eK Mt (lx k.tail)
section
variable {X:Cx}[J:Jx]{x:LB}{C N:Pi}{bm:List Os}{e:U8}{es:List U8}{t:TDA}{p cpos pos:Vh}
def AC(x:LB)(t:TDA):TSD:=λ_ z=>t z λds=>ds.length<=1000/\J.RX z x []
def AD(h:∃C N bm,ErrK X.K X.mg x C N bm/\ErrN X.K N)(hx:XOk X)(hc:X.calm=true)(ha:WDA X (e::es) t)(d_:autoParam (X.ex=[]) zA0)(hg:autoParam (Gl X x) zA0)(d5:autoParam (zND x) zA1)
  (he:autoParam (zSE X e es) zA0) (c8:autoParam (zPL X cpos es) zA0):WDS X (.Raise (be (.Call (.Name x p) (e::es) [] cpos)) v9 pos) (AC x t):=⟨by
 have ha:=ha.out;obtain⟨C,N,bm,k,kn⟩:=h;intro pins s σ H D I h;obtain⟨B,F0,F,z,kf,rs,ED,h,ee⟩:=h;obtain rfl:B=J.B:=kf.eb;obtain⟨nm,q,bs,sn,sub,ab,col,dd,k0,k1,k2,k3,k5,lk⟩:=k.obj;refine kI (nm:=nm) (q:=q) (C:=C) (N:=N) (bs:=bs) (bm:=bm) (hdct:=true) (sn:=sn) (sub:=sub) (ab:=ab) (col:=col) (dd:=dd) (k0:=k0) (k1:=k1) (k2:=k2) (k3:=k3) (k5:=k5) (newId:="ValueError.__new__") k.base (I.ok.hd hc) ?_;refine Vj (cv I hg k.mg ?_ d5);refine callWith_K (h₀:=X.base) I.ok.mod.kin k.kp (thn (ha cpos pins s σ H (λvs H1=>∃F1,vs.length<=1000/\Grow F H F1 H1/\J.RX z x []) I #[_,F,z,kf.kf,rs,_,h,λds vs F1 H1 g1 hx rx=>#[F1,by rw[rx.length];exact hx.1,g1,hx.2]]) λus s1 hh=>#[hh.elim λ_ h=>h.elim λ_ h=>h.1.kIn,?_]) he c8;obtain⟨vs,H1,I1,r,F1,hl,g1,hR⟩:=hh;have hC:=I1.kIn _ _ lk;obtain⟨hp,gg,dr,tk,os⟩:=s1;refine WR PySem.F.excBase_ValueError (tail_of_in I1.kIn k.tail) hC (.of_isNs (isNs_of_in I1.kIn kn.ok)) (nsMap_none_of_in I1.kIn kn.ok kn.no) (λh' ea hm=>?_) (by show us.length<=_;rw[<-L2.Vals.length r];exact sz hl);obtain⟨ta,h1,h2,h3⟩:=hm.there;have I2:Inv X pins σ H1 #[h',gg,dr,tk,os]:=I1.kept (t':=tk) hm.keeps;refine#[ea,ta,v9,[].toArray,rfl,hm.keeps _ _ hC,h1,?_];exact hx σ z F1 H1 _ ea C v9 x [] (Inv.nopins I2) (kf.kf.grow g1) (rs.grow g1) hR #[k.ns,[],repf_nil.mpr rfl,.inl #[rfl,rfl]] #[gl I1.hok hm.new,cH I1 d_ hm.new,pn_free I1 hm.new,.inl #[[].toArray,_,h1,rfl]]⟩
end
def XN(e C:Pi)(od:Option Pi):HO:=.ext λh=>∃t sl,h.get? e=be #[.ref C,od,.fields [.ref t,.none,.none,.none,.bool false,.none].toArray,sl]
variable{e:Pi}{od:Option Pi}{sl:Array (Option Os)}
def XN.ok{t:Pi}(q:h.get? e=be #[.ref C,od,.fields [.ref t,.none,.none,.none,.bool false,.none].toArray,sl]):ObjOk P w H h e (XN e C od):=
 #[#[t,sl,q],#[_,q],λh1 h2 ⟨t,sl,q⟩ k=>#[t,sl,k _ q]]
def XN.get(x:HOk P w H h)(q:H e=be (XN e C od)):∃t sl,h.get? e=be #[.ref C,od,.fields [.ref t,.none,.none,.none,.bool false,.none].toArray,sl]:=(x e _ q).1
def ErrF(K:Ex)(F:Hp)(fs:List (LB×D))(od:Option Pi):Prop:=∃vs,RepF K F fs vs/\((od=v9/\vs=[])\/∃b,od=be b/\F b=be (.xd vs))
def lEi(K:Ex)(C:Pi)(S:SiD):Sp:=λvs H Q _=>∃e us H1 F ds,vs=.ref e::us/\H=upd H1 e (XN e C v9)/\H1 e=v9/\Same F H1/\Reps K F ds us/\
 ∃R:List (LB×D)->Prop,S ds R/\∀fs od F' H',Grow F H1 F' H'->R fs->H' e=be (XN e C od)->F' e=v9->ErrF K F' fs od->Q .non H'
def CalE(P:U')(w:Va)(K:Ex)(mg:LB->Option Os)(base:Heap)(n:Nat)(x:LB)(ps:List LB)(S:SiD):Prop:=
 ∃C N bm f fd,ErrK K mg x C N bm/\HW K (.ref C) "__init__"=be (be (.ref f))/\isFn K (.ref f)=true/\FnOk P w K mg base (CX1 P w) n f fd ps (lEi K C S)/\Binds K fd ps []
section
variable {X:Cx}{pins:List (Pi×Vp)}{σ:L2.St}{H:Hp}{s:SB}{e:Pi}
def Inv.newx{C:Pi}{h':Heap}{us:List Os}(I:Inv X pins σ H s)(d_:X.ex=[])(hm:Heap.MadeExcOf s.heap h' e (.ref C) us):Inv X pins σ (upd H e (XN e C v9)) {s with heap:=h'}:=by
 obtain⟨ta,h1,h2,h3⟩:=hm.there;have I2:Inv X pins σ H {s with heap:=h'}:=I.kept (t':=s.toks) hm.keeps;refine Inv.adopt I2 (gl I.hok hm.new) (XN.ok h1) (cH I d_ hm.new) (λz=>?_) (λx c q z=>?_) λp hp z=>?_
 .obtain⟨m,⟨o,_,_,ho,_⟩,_⟩:=I.loc;rw[<-z,hm.new]at ho;cases ho
 .obtain⟨v,o,ho,_⟩:=I.cell x c q;rw[z,hm.new]at ho;cases ho
 .have:=(I.pin p hp).1;rw[z,hm.new]at this;cases this
end
structure BaseK(K:Ex)(mg:Str->Option Os)(y:Str)(M:Pi):Prop where
 mg:mg y=be (.ref M)
 rd:readsIn K M (.type "type")=true
 fc:findCls K (.ref M) (.type "type") "__init__"=be (.val (.builtin "ValueError.__init__"))
 sp:specialIn K (.ref M) "__getattribute__"=be (be (.builtin "type.__getattribute__"))
structure ErrA(K:Ex)(x:Str)(C:Pi)(cd:Wv):Prop where
 ns:nsIn K SL x=be (be (.ref C))
 cl:J9 K C=be cd
 mro:aN cd.mro=true
 hd:cd.hasDict=true
 sa:HW K (.ref C) "__setattr__"=be (be (.builtin "object.__setattr__"))
def ErrK.a(k:ErrK K mg x C N bm)(sa:HW K (.ref C) "__setattr__"=be (be (.builtin "object.__setattr__"))):∃cd,ErrA K x C cd:=by
 obtain⟨nm,q,bs,sn,sub,ab,col,dd,k0,k1,k2,k3,k5,lk⟩:=k.obj;exact⟨_,k.ns,by unfold J9;rw[lk],by
  show aN (.ref C::bm)=true;unfold aN;exact lx k.tail,rfl,sa⟩
def lX(K:Ex)[J:Jx](x:LB)(t:TID):TS:=λE σ H=>∃C e od ws F z fs,nsIn K SL x=be (be (.ref C))/\σ[0]?=be (be (.ref e))/\H e=be (XN e C od)/\J.B e=v9/\F e=v9/\Kept J.B J.F0 F H/\RepS K J.B F H z σ/\RepF K F fs ws/\
 ((od=v9/\ws=[])\/∃b,od=be b/\H b=be (.xd ws)/\J.B b=v9/\F b=v9/\b≠e/\ws≠[])/\
 ∃R:List (LB×D)->Prop,t z fs R/\∀l7 OP F' H',Kept J.B J.F0 F' H'->R l7->H' e=be (XN e C OP)->F' e=v9->ErrF K F' l7 OP->E.nx σ H'
abbrev DX(X:Cx)[Jx](x:LB)(st:List U7)(t:TID):Prop:=PSs X st (lX X.K x t)
structure WDX(X:Cx)[Jx](x:Str)(st:List U7)(t:TID):Prop where
 out:DX X x st t
def uq{a:Pi}{o:HO}(h:H a=be o):upd H a o=H:=by
 funext b;unfold upd;by_cases q:b=a
 .rw[if_pos q,q,h]
 .rw[if_neg q]
section
variable {X:Cx}[J:Jx]{x f:LB}{e:U8}{te:TD}{ta:TDA}{pos c5 p:Vh}{rest:List U7}{tr:TID}
def AE:WDX X x [] ui:=⟨pss_nil.anti λE s H q=>by
 obtain⟨C,a,od,ws,F,z,fs,hn,h0,e_,hB,i9,k,rs,rf,hd,R,hR,kk⟩:=q;rcases hd with⟨rfl,rfl⟩|⟨b,rfl,hb,OQ,MH,ne,_⟩
 .exact kk fs v9 F H k hR e_ i9 #[[],rf,.inl #[rfl,rfl]]
 .have s1:Same F (upd F b (.xd ws)):=aO MH _;refine kk fs (be b) (upd F b (.xd ws)) H #[k.bh,λc o q=>?_,k.f0.trans s1,λc h1 h2=>?_,k.eb,k.jf,k.jo] hR e_ (by rw[ar (Ne.symm ne)];exact i9) #[ws,RepF.mono s1 fs ws rf,.inr #[b,rfl,aB]]
  .by_cases hc:c=b
   .subst hc;rw[aB]at q;cases q;exact hb
   .rw[ar hc]at q;exact k.fh c o q
  .have:c≠b:=λz=>h2 (z ▸ OQ);rw[ar this];exact k.out c h1 h2⟩
def AF(ta:TDA)(tr:TID):TID:=λz fs R=>ta z λds=>ds.length<=1000/\tr z fs R
def AG{y sx:LB}{ps py apos cpos:Vh}{es:List U8}{pl:WE Bool}(hb:∃M,BaseK X.K X.mg y M)(hA:∃C cd,ErrA X.K x C cd)(ha:WDA X es ta)(hr:WDX X x rest tr)(hg:autoParam (Gl X y) zA0)(hN:autoParam (X.N[0]?=be sx) zA0)(hv:autoParam (Vis X.env.scope sx) zA5)(hd:autoParam (zND sx) zA1)
  (gt:autoParam (zNC sx) zA1) (Tc:autoParam (zND y) zA1)
  (he:autoParam (Vc (.Name sx ps::es) X.env=(false,Vf (.Name sx ps) X.env)::Vc es X.env) zA0) (c8:autoParam (zPL X cpos es) zA0)
  (ht:Vf (.Call (.Attribute (.Name y py) "__init__" apos) (.Name sx ps::es) [] cpos) X.env=(do
   let ov <-Vf (.Name y py) X.env
   VT apos.atName
   let (f,first) <-Vy [ov] (V8 ov "__init__" pl)
   WL cpos f first (VH cpos (Vc (.Name sx ps::es) X.env)) (V1 cpos (VF [] X.env))):=by rfl)
  (hs:autoParam (Vn (.Call (.Attribute (.Name y py) "__init__" apos) (.Name sx ps::es) [] cpos) v9 pos.line X.env=pure false) zA0):WDX X x (.Expr (.Call (.Attribute (.Name y py) "__init__" apos) (.Name sx ps::es) [] cpos) pos::rest) (AF ta tr):=⟨by
 have ha:=ha.out;have hr:=hr.out;obtain⟨M,bk⟩:=hb;obtain⟨C,cd,er⟩:=hA;have step:PS X (.Expr (.Call (.Attribute (.Name y py) "__init__" apos) (.Name sx ps::es) [] cpos) pos) (λE σ H=>∃C' e od,nsIn X.K SL x=be (be (.ref C'))/\σ[0]?=be (be (.ref e))/\
   lA X.K ta σ H (λvs H1=>H1 e=be (XN e C' od)/\vs.length<=1000/\E.nx σ H1)):=by
  intro pins s σ H D I h;obtain⟨C',ea,od,hn,h0,h⟩:=h;rw[er.ns]at hn;cases hn;refine wpAny_Expr_any (methodCall_KW (pl:=pl) (cv I hg bk.mg ?_ Tc) ht) I.quiet hs;refine method_cls I.kIn bk.sp (cls_value I.kIn bk.rd bk.fc Mt ?_);have I0:Inv X pins σ H {s with toks:=s.toks+1}:=I.tok _;obtain⟨B,F,z,kf,rs,R,h1,h2⟩:=h;refine PyProof.Rows.callWith_builtin1 (thn (bz (cP (i:=0) hN hv hd gt) ha he cpos pins _ σ H (λvs H1=>∃us,vs=.ref ea::us/\H1 ea=be (XN ea C od)/\us.length<=1000/\D.nx σ H1) I0 #[.ref ea,h0,#[B,F,z,kf,rs,R,h1,λds vs F' H' g hx rx=>#[vs,rfl,h2 ds vs F' H' g hx rx]]]) λus s1 hh=>?_) he c8;obtain⟨vs,H1,I1,r,UA,ev,t9,hl,MI⟩:=hh;subst ev;cases r with
  |cons r1 r2=>
   rename_i u0 UB;obtain rfl:u0=Value.ref ea:=r1;obtain⟨t0,sl,j5⟩:=XN.get I1.hok t9;refine zv (K:=X.K) (C:=C) (cd:=cd) I1.kIn j5 rfl rfl er.cl er.mro (by rw[<-L2.Vals.length r2];exact sz hl) λh' g1 g2=>?_;refine#[σ,H1,?_,MI];have w:=I1.write (x:=ea) (e:=ea) (o:=XN ea C od) (h':=h') (t':=s1.toks) (by rw[t9];exact True.intro) (.inl rfl) (λb u hb q=>g2 b u hb q) #[_,g1] (XN.ok g1);rw[uq t9]at w;exact w
 refine(eE step hr).anti λE s H q=>?_;obtain⟨C',a,od,ws,F,z,fs,hn,h0,e_,hB,i9,k,rs,rf,f6,R,hR,kk⟩:=q;refine#[C',a,od,hn,h0,_,F,z,k,rs,_,hR,λds vs F1 H1 g hx rx=>#[g.hh a _ e_,by rw[rx.length];exact hx.1,?_]];refine#[C',a,od,ws,F1,z,fs,hn,h0,g.hh a _ e_,hB,g.out a i9 (by rw[e_];exact λz=>nomatch z),k.grow g,rs.grow g,RepF.mono g.ff fs ws rf,?_,R,hx.2,kk];rcases f6 with f6|⟨b,h1,h2,h3,h4,h5⟩
 .exact .inl f6
 .exact .inr #[b,h1,g.hh b _ h2,h3,g.out b h4 (by rw[h2];exact λz=>nomatch z),h5]⟩
def AH(f:LB)(te:TD)(tr:TID):TID:=λz fs R=>fs=[]/\te z λd=>tr z [(f,d)] R
def AI{sx:LB}{ps:Vh}(hA:∃C cd,ErrA X.K x C cd)(hf:∀C,nsIn X.K SL x=be (be (.ref C))->HW X.K (.ref C) f=be v9)(he:WDE X e te)(hr:WDX X x rest tr)(hN:autoParam (X.N[0]?=be sx) zA0)(hv:autoParam (Vis X.env.scope sx) zA5)(hd:autoParam (zND sx) zA1)
  (gt:autoParam (zNC sx) zA1) (hs:autoParam (Vn e (be (.Attribute (.Name sx ps) f c5)) pos.line X.env=pure false) zA0):WDX X x (.Assign [.Attribute (.Name sx ps) f c5] e pos::rest) (AH f te tr):=⟨by
 have he:=he.out;have hr:=hr.out;obtain⟨C,cd,er⟩:=hA;have MJ:=hf C er.ns;have step:PS X (.Assign [.Attribute (.Name sx ps) f c5] e pos) (λE σ H=>∃e,σ[0]?=be (be (.ref e))/\
   lE X.K te σ H (λv H1=>H1 e=be (XN e C v9)/\∀b,H1 b=v9->b≠e->E.nx σ (upd (upd H1 b (.xd [(f,v)])) e (XN e C (be b))))):=by
  intro pins s σ H D I h;obtain⟨ea,h0,h⟩:=h;refine VI (thn (he pins s σ H _ I h) λu s1 ⟨y,H1,I1,ry,t9,MI⟩=>thn (cP (i:=0) hN hv hd gt pins s1 σ H1 (λv H'=>v=.ref ea/\H'=H1) I1 #[.ref ea,h0,rfl,rfl]) λov s2 hh=>?_) hs;obtain⟨v0,H2,I2,r0,e1,e2⟩:=hh;subst e1 e2;obtain rfl:ov=Value.ref ea:=r0;obtain⟨t0,sl,j5⟩:=XN.get I2.hok t9;refine zt (K:=X.K) (C:=C) (cd:=cd) I2.kIn j5 rfl rfl rfl er.cl er.mro er.hd er.sa MJ λh' g1 g2 g3 tk=>?_;have l9:H2 s2.heap.objs.size=none:=I2.hok.fresh (HP _);have j9:s2.heap.objs.size≠ea:=IS (Heap.lt_size j5);have Py:∀b o,s2.heap.get? b=be o->b≠s2.heap.objs.size:=λb o q=>HZ (Heap.lt_size q);have Pz:∀b,H2 b=v9->b≠ea:=λb q z=>by rw[z,t9]at q;cases q
  refine#[σ,_,?_,MI _ l9 j9];have A':∀b o,H2 b=be o->(∀φ,o≠.ext φ)->upd (upd H2 s2.heap.objs.size (.xd [(f,y)])) ea (XN ea C (be s2.heap.objs.size)) b=be o:=λb o q n=>by
   have n1:b≠ea:=λz=>by rw[z,t9]at q;cases q;exact n _ rfl
   rw[ar n1,ar (bH q l9)];exact q
  refine I2.un (h':=h') (t':=tk) #[λb o q n _ _=>g3 b o (Pz b n) q,λb o q n _ _=>#[o.slots,g3 b o (Pz b n) q],λb o q n _=>?_,λb o q _=>?_,λb xs q=>A' b _ q (λφ z=>nomatch z),λb o u q=>A' b _ q (λφ z=>nomatch z),λb ps q=>#[[].toArray,by rw[A' b _ q (λφ z=>nomatch z)];simp]] λa o q=>?_
  .rw[ar (Pz b n),ar (Py b o q)];exact n
  .by_cases hb:b=ea
   .rw[hb];exact#[_,g1]
   .exact#[o,g3 b o hb q]
  .by_cases ha:a=ea
   .subst ha;rw[aB]at q;cases q;exact XN.ok g1
   .rw[ar ha]at q;by_cases hb:a=s2.heap.objs.size
    .subst hb;rw[aB]at q;cases q;refine#[_,g2,λg=>?_];rw[Ig];by_cases hg:g=f
     .subst hg;simp;exact ry
     .have:(g==f)=false:=by simpa using hg
      rw[this,if_neg hg];exact True.intro
    .rw[ar hb]at q;refine(I2.hok a o q).stay (λb u gV r=>?_) (λb r=>A' b _ r (λφ z=>nomatch z)) λb xs r=>A' b _ r (λφ z=>nomatch z);refine g3 b u (λz=>?_) r;rcases gV with e1|e1
     .exact ha (e1 ▸ z)
     .rw[z,t9]at e1;cases e1
 refine(eE step hr).anti λE s H q=>?_;obtain⟨C',a,od,ws,F,z,fs,hn,h0,e_,hB,i9,k,rs,rf,f6,R,⟨rfl,hR⟩,kk⟩:=q;rw[er.ns]at hn;cases hn;have Tf:ws=[]:=repf_nil.mp rf;subst Tf;refine#[a,h0,_,F,z,k,rs,_,hR,λd v F1 H1 g hx rv=>?_];have LO:F1 a=none:=g.out a i9 (by rw[e_];exact λz=>nomatch z);have k1:=k.grow g;rcases f6 with⟨rfl,_⟩|⟨b,rfl,h1,h2,h3,h4⟩
 .refine#[g.hh a _ e_,λb hb j9=>?_];have OQ:J.B b=none:=k1.bh.free hb;have MH:F1 b=none:=k1.fh.free hb;have same:∀{G:Hp},G a=v9->G b=v9->Same G H1->Same G (upd (upd H1 b (.xd [(f,v)])) a (XN a C (be b))):=λ{G} ga gb gs c o q=>by
   have n1:c≠a:=λz=>by rw[z,ga]at q;cases q
   have n2:c≠b:=λz=>by rw[z,gb]at q;cases q
   rw[ar n1,ar n2];exact gs c o q
  have n5:=rs.grow g;refine#[C,a,be b,[(f,v)],F1,z,[(f,d)],er.ns,h0,aB,hB,LO,#[same hB OQ k1.bh,same LO MH k1.fh,k1.f0,k1.out,k1.eb,k1.jf,k1.jo],?_,repf_cons.mpr #[v,[],rfl,rv,repf_nil.mpr rfl],.inr #[b,rfl,by rw[ar j9];exact aB,OQ,MH,j9,λz=>nomatch z],R,hx,kk];refine#[n5.len,n5.val,λi ds e'=>?_,n5.apart];obtain⟨c,vs,q1,q2,q⟩:=n5.own i ds e';have n1:c≠a:=λz=>by rw[z,g.hh a _ e_]at q2;cases q2
  have n2:c≠b:=λz=>by rw[z,hb]at q2;cases q2
  exact#[c,vs,q1,by rw[ar n1,ar n2];exact q2,q]
 .exact absurd rfl h4.2⟩
end
section
variable {P:U'}{w:Va}{K:Ex}{mg:LB->Option Os}{base:Heap}
def Cls.okE{x qual:LB}{st:U7}{f C N0:Pi}{bm:List Os}{fd:Vg}{N:List LB}{p0:LB}{ps:List LB}{k:Nat}{S:SiD}(T:Fun K "__init__" qual st f fd)(hb:Binds K fd (p0::ps) [])(F:FnScope (p0::N) (p0::ps) (ah st))(len:∀ds R,S ds R->ds.length=ps.length)
  (ek:ErrK K mg x C N0 bm) (hi:HW K (.ref C) "__init__"=be (be (.ref f))) (hf:isFn K (.ref f)=true)
  (a8:∀(cdv:Os) (A:Vb) (outer:List VU) (s:SB) (H:Hp) (E:XK) (J:Jx),Room k (A.deeper (Vk qual (ah st) s.heap.objs.size f cdv))->
   ∃t,DX (cxOf (CX1 P w) P w K mg base (p0::N) qual (ah st) f cdv A outer s H E).nox x (aK st) t/\∀ds R,S ds R->t (v9::startD N ds) [] R):CalE P w K mg base (k+1) x (p0::ps) S:=by
 refine#[C,N0,bm,f,fd,ek,hi,hf,Fun.okC T F (λvs H Q E h=>?_) (λcdv A outer s H vs Q E hr h=>?_),hb]
 .obtain⟨a,us,H1,F,ds,rfl,_,_,_,rs,R,h,_⟩:=h;rw[HX,HX,rs.length,len ds R h]
 .obtain⟨a,us,H1,F1,ds,rfl,rfl,ha,fh,rs,R,h,q⟩:=h
  letI:Jx:=#[H1,F1,λ_ _ _=>False]
  obtain⟨t,ht,hq⟩:=a8 cdv A outer s _ E inferInstance hr;have Fa:F1 a=none:=fh.free ha;have hl:L2.start (p0::N) (.ref a::us)=be (.ref a)::L2.start N us:=by
   unfold L2.start;rw[Il,HX,HX,KL];rfl
  have s1:Same H1 (upd H1 a (XN a C v9)):=aO ha _;refine#[_,ht.nox,C,a,v9,[],F1,v9::startD N ds,[],ek.ns,by rw[hl];rfl,aB,ha,Fa,#[s1,fh.trans s1,Same.refl F1,λ_ h _=>h,rfl,Same.refl F1,λ_ h _=>h],?_,repf_nil.mpr rfl,.inl #[rfl,rfl],R,hq ds R h,λl7 OP F' H' g hR e_ i9 er=>q l7 OP F' H' #[g.f0,g.fh,g.bh,g.out] hR e_ i9 er];rw[hl];exact uj (dJ rs)
end
section
variable {M:WM}{A:Vb}{E:Os->SB->Prop}{h:Heap}{g:Array WN}{d:Drawn}{t:Nat}{os:OsState}
variable {nm q:LB}{C N:Pi}{bs bm:List Os}{hdct:Bool}{sn:List LB}{sub:List Os}{ab:Bool}{col:Option Bool}{dd:Option Pi}{k0 k1 k2 k3 k5:Option Os}{newId:String}
variable {PB q':LB}{C' N':Pi}{PC NV:List Os}{NW:Bool}{PD:List LB}{MK:List Os}{PF:Bool}{ML:Option Bool}{NX:Option Pi}{PH PJ PK PL PM:Option Os}{MN:String}
def ut{e:Pi}{oe:Vp}{b:Bool}{Q:Bool->SB->Prop}(hC:h.get? C=be (Vs nm q C N bs bm hdct sn sub ab col dd k0 k1 k2 k3 k5 newId))(hD:h.get? C'=be (Vs PB q' C' N' PC NV NW PD MK PF ML NX PH PJ PK PL PM MN))
  (he:h.get? e=be oe) (y_:oe.cls=.ref C) (b7:NV.contains (.type "BaseException")=true) (hb:(Value.ref C::bm).contains (.ref C')=b) (hq:Q b #[h,g,d,t,os]):U_ M A (excMatches (.ref e) (.ref C')) Q E #[h,g,d,t,os]:=by
 have Pg:(Value.ref C'::NV).contains (.type "BaseException")=true:=by rw[J6,b7,JR]
 have f:=tc_notTuple;unfold excMatches
 repeat(first|(with_reducible refine Vq he ?_;rw[y_])|with_reducible refine Vq hD ?_|(with_reducible refine VS hD ?_;rw[Pg])|(with_reducible refine VS hC ?_;rw[hb])|wp_step)
 cases b with
 |true=>wp_walk;exact hq
 |false=>wp_walk;exact hq
end
abbrev _root_.L2.Cx.held(X:Cx)(e:Pi):Cx:={X with A:=X.A.mark (be (.ref e)),calm:=false,xe:=λ_ _=>False}
section
variable {X:Cx}{pins:List (Pi×Vp)}{σ:L2.St}{H:Hp}{s:SB}{e:Pi}
def Cx.Ok.held(ok:X.Ok):(X.held e).Ok:=
 #[ok.mod,ok.kind,ok.glob,ok.blt,ok.above,ok.inj,ok.has,ok.cab,(λz=>nomatch z),ok.frames,ok.stk,ok.exf,ok.bs,ok.bsz,ok.noex,ok.exfs,ok.funs,ok.frf]
def Inv.held(I:Inv X pins σ H s):Inv (X.held e) pins σ H s:=#[Cx.Ok.held I.ok,I.os,I.bare,I.base,I.loc,I.cell,I.free,I.freeC,I.pin,I.hok,I.len]
def Inv.unheld(ok:X.Ok)(I:Inv (X.held e) pins σ H s):Inv X pins σ H s:=#[ok,I.os,I.bare,I.base,I.loc,I.cell,I.free,I.freeC,I.pin,I.hok,I.len]
def SP.unheld{D:Ends}{f:Flow}{s':SB}(ok:X.Ok)(h:SP (X.held e) pins D f s'):SP X pins D f s':=by
 cases f with
 |next=>obtain⟨σ',H',I,q⟩:=h;exact#[σ',H',Inv.unheld ok I,q]
 |brk=>obtain⟨σ',H',I,q⟩:=h;exact#[σ',H',Inv.unheld ok I,q]
 |cont=>obtain⟨σ',H',I,q⟩:=h;exact#[σ',H',Inv.unheld ok I,q]
 |ret u=>obtain⟨v,σ',H',I,r,q⟩:=h;exact#[v,σ',H',Inv.unheld ok I,r,q]
def ik{M:WM}{A:Vb}{E:Os->SB->Prop}{i:Nat}{x:LB}{pos:Vh}{Q:Unit->SB->Prop}(I:Inv X pins σ H s)(hN:X.N.Nodup)(hi:X.N[i]?=be x)(hk:X.env.scope.names.lookup x=be .local)
  (h:∀s',Inv X pins (σ.set i v9) H s'->Q () s'):U_ M A (do Wp X.env x .none;unbindBehindTheSuite X.env x pos) Q E s:=by
 obtain⟨m,hn,hl⟩:=id I.loc;have y_:(X.env.scope.kind== .class||(X.env.scope.kind== .module&&X.env.locals !=X.env.globals))=false:=by rw[I.ok.kind];rfl
 have hiσ:i<σ.length:=by rw[I.len];exact(Ib.mp hi).1
 have cne:=I.cne;refine wpAny_nameGoes_keeps hk hn y_ λh' v g5 hs=>?_;obtain⟨oL,_,_,Rt,_⟩:=id hn;have ge:HOk X.prog X.w H h':=λb ob e=>by
  refine(I.hok b ob e).stay (λc w' hc q=>(hs.2 c ?_).trans q) (λ_ q=>q) λ_ _ q=>q;rintro rfl;rcases hc with rfl|hc
  .rw[I.free]at e;cases e
  .rw[I.free]at hc;cases hc
 refine h _ #[I.ok,I.os,I.bare,#[λb o e n hb hx=>?_,λb o e n hb hx=>?_,I.base.free,λb o e hx=>?_,I.base.tups,I.base.frzs,I.base.tbls],#[_,g5,λj y v' e1 e2 e3=>?_],λy c e=>?_,I.free,I.freeC,λp hp=>?_,ge,by simpa using I.len]
 .exact(hs.2 b (HZ (Io (Heap.lt_size e) I.ok.above))).trans (I.base.keep b o e n hb hx)
 .obtain⟨sl,e1⟩:=I.base.slot b o e n hb hx;exact#[sl,(hs.2 b (HZ (Io (Heap.lt_size e) I.ok.above))).trans e1]
 .obtain⟨o',e1⟩:=I.base.there b o e hx;exact#[o',(hs.2 b (HZ (Io (Heap.lt_size e) I.ok.above))).trans e1]
 .by_cases hj:j=i
  .subst hj;rw[IE hiσ]at e2;cases e2
  .rw[Ic (Ne.symm hj)]at e2;obtain⟨u',r',q⟩:=hl j y v' e1 e2 e3;refine#[u',r',?_];rcases q with⟨k,e⟩|⟨k,c,e,z⟩
   .refine .inl #[k,?_];have:y≠x:=λe=>hj (jX hN e1 (e ▸ hi));simp[this,e]
   .exact .inr #[k,c,e,z.sameBut hs (cne y c e)]
 .obtain⟨w',z⟩:=I.cell y c e;exact#[w',z.sameBut hs (cne y c e)]
 .obtain⟨e,n,ne,nf,d⟩:=I.pin p hp;exact#[(hs.2 p.1 ne).trans e,n,ne,nf,d]
def Inv.stay{h':Heap}{l7 ex:List Pi}(I:Inv X pins σ H s)(st:Stay l7 ex s.heap h')(OK:∀b∈l7,b∈frs X.stack)(hH:∀b∈ex,H b=v9)(h0:∀b∈ex,X.s₀.heap.get? b=v9)(hL:∀b∈ex,b≠X.env.locals)(hc:∀b∈ex,∀x c,X.env.cells.lookup x=be c->c≠b)
  (hp:∀b∈ex,∀p∈X.pn++pins,p.1≠b):Inv X pins σ H {s with heap:=h'}:=by
 have hok:HOk X.prog X.w H h':=fR I.hok st (λb hb=>I.stkFree b (OK b hb)) hH;have sub:∀b∈l7,b=X.env.locals\/b∈X.fs:=λb hb=>HQ.mp (I.stkSub b (OK b hb));have nL:∀b o,X.s₀.heap.get? b=be o->b≠X.env.locals:=λb o q=>HZ (Io (Heap.lt_size q) I.ok.above);have RR:∀b o,X.s₀.heap.get? b=be o->b∉ex:=λb o q z=>by rw[h0 b z]at q;cases q
 have m6:∀x c v,X.env.cells.lookup x=be c->s.heap.IsCell c v->h'.IsCell c v:=λx c v e ⟨o,ho,hd⟩=>by
  obtain⟨sl,z⟩:=st.slot c o ho (λz=>hc c z x c e rfl);exact#[_,z,hd]
 refine#[I.ok,I.os,I.bare,#[λb o e n hb hx=>?_,λb o e n hb hx=>?_,I.base.free,λb o e hx=>?_,I.base.tups,I.base.frzs,I.base.tbls],?_,λy c e=>?_,I.free,I.freeC,λp M6=>?_,hok,I.len]
 .exact st.keep b o (I.base.keep b o e n hb hx) (RR b o e) (λz=>(sub b z).elim (nL b o e) hb)
 .obtain⟨sl,e1⟩:=I.base.slot b o e n hb hx;obtain⟨v7,e2⟩:=st.slot b _ e1 (RR b o e);exact#[v7,e2]
 .obtain⟨o',e1⟩:=I.base.there b o e hx;exact st.there b o' e1
 .obtain⟨m,⟨o,es,ep,ho,r⟩,hl⟩:=I.loc;obtain⟨sl,z⟩:=st.slot _ o ho (λz=>hL _ z rfl);refine#[m,#[_,es,ep,z,r],λj y v' e1 e2 e3=>?_];obtain⟨u',r',q⟩:=hl j y v' e1 e2 e3;refine#[u',r',?_];rcases q with q|⟨k,c,e,z⟩
  .exact .inl q
  .exact .inr #[k,c,e,m6 y c _ e z]
 .obtain⟨w',z⟩:=I.cell y c e;exact#[w',m6 y c _ e z]
 .obtain⟨e,n,ne,nf,d⟩:=I.pin p M6;exact#[st.keep _ _ e (λz=>hp _ z p M6 rfl) (λz=>(sub _ z).elim ne nf),n,ne,nf,d]
end
def subE(x c:LB):Bool:=x==c||c=="MotifError"
structure ErrsK(K:Ex)(mg:Str->Option Os)(es:List Str):Prop where
 cls:∀x∈es,∃C N bm,ErrK K mg x C N bm
 sub:∀x∈es,∀y∈es,∀C C',nsIn K SL x=be (be (.ref C))->nsIn K SL y=be (be (.ref C'))->IK K C (.ref C')=be (subE x y)
def ErrsK.has{es:List LB}(k:ErrsK K mg es){y:LB}{C' N':Pi}{NV:List Os}(hx:x∈es)(hy:y∈es)(a:ErrK K mg x C N bm)(b:ErrK K mg y C' N' NV):(Value.ref C::bm).contains (.ref C')=subE x y:=by
 have h:=k.sub x hx y hy C C' a.ns b.ns;obtain⟨nm,q,bs,sn,sub,ab,col,dd,k0,k1,k2,k3,k5,lk⟩:=a.obj;unfold IK J9 at h;rw[lk]at h;simp only[JB,List.isEmpty_cons,Bool.false_eq_true,if_false,Option.some.injEq]at h;exact h
structure Held(X:Cx)(pins:List (Pi×Vp))(H:Hp)(s:SB)(e C:Pi)(od:Option Pi)(T:Pi):Prop where
 ex:ExAt s.heap e C od T .none
 He:H e=v9
 HT:H T=v9
 e0:X.s₀.heap.get? e=v9
 T0:X.s₀.heap.get? T=v9
 eP:∀p∈X.pn++pins,p.1≠e
 TP:∀p∈X.pn++pins,p.1≠T
section
variable {X:Cx}{pins:List (Pi×Vp)}{σ:L2.St}{H:Hp}{s:SB}
variable{vs:Array Os}
def il{b:Pi}{o:Vp}(I:Inv X pins σ H s)(h:s.heap.get? b=be o)(hd:o.data=.fields vs):b≠X.env.locals:=λz=>by
 obtain⟨m,⟨o',es,ep,ho,f6,_⟩,_⟩:=I.loc;rw[<-z,h]at ho;cases ho;rw[hd]at f6;cases f6
def fld_cell{b:Pi}{o:Vp}(I:Inv X pins σ H s)(h:s.heap.get? b=be o)(hd:o.data=.fields vs):∀x c,X.env.cells.lookup x=be c->c≠b:=λx c q z=>by
 obtain⟨v,o',ho,f6⟩:=I.cell x c q;rw[z,h]at ho;cases ho;rw[hd]at f6;cases f6
variable{od:Option Pi}
def Held.flight{e C T:Pi}{h':Heap}(I:Inv X pins σ H s)(k:Held X pins H s e C od T)(hx:ExAt h' e C od T .none)(st:Stay [] [T] s.heap h'):Inv X pins σ H {s with heap:=h'}/\Held X pins H {s with heap:=h'} e C od T:=by
 obtain⟨sl,vs,oT,ts,he,h1,w6,hT,k_,h3⟩:=k.ex;refine#[Inv.stay I st (λb hb=>by cases hb) (λb hb=>?_) (λb hb=>?_) (λb hb=>?_) (λb hb=>?_) (λb hb=>?_),#[hx,k.He,k.HT,k.e0,k.T0,k.eP,k.TP]]<;>rw[HN.mp hb]
 .exact k.HT
 .exact k.T0
 .exact il I hT k_
 .exact fld_cell I hT k_
 .exact k.TP
def XO.ok{P:U'}{w:Va}{h:Heap}{e C:Pi}{sl:Array (Option Os)}(q:h.get? e=be #[.ref C,od,.fields vs,sl]):ObjOk P w H h e (XO e C od):=
 #[#[vs,sl,q],#[_,q],λh1 h2 ⟨vs,sl,q⟩ k=>#[vs,sl,k _ q]]
end
def RepS.unset{B F:Hp}{z:SD}{s:L2.St}{i:Nat}(h:RepS K B F H z s):RepS K B F H (z.set i v9) (s.set i v9):=by
 have get:∀{j:Nat} {x:D},(z.set i v9)[j]?=be (be x)->j≠i/\z[j]?=be (be x):=λ{j x} e=>by
  by_cases hj:i=j
  .subst hj;rw[Je]at e;simp at e
  .rw[Ic hj]at e;exact#[λz=>hj z.symm,e]
 refine#[by rw[IH,IH];exact h.len,λj x e nx=>?_,λj ds e=>?_,λj k dj dk a e1 e2 e3 e4=>?_]
 .obtain⟨hj,e⟩:=get e;rw[Ic (λz=>hj z.symm)];exact h.val j x e nx
 .obtain⟨hj,e⟩:=get e;rw[Ic (λz=>hj z.symm)];exact h.own j ds e
 .obtain⟨hj,e1⟩:=get e1;obtain⟨hk,e2⟩:=get e2;rw[Ic (λz=>hj z.symm)]at e3;rw[Ic (λz=>hk z.symm)]at e4;exact h.apart j k dj dk a e1 e2 e3 e4
abbrev TH:=LB->List (LB×D)->TSD
def DH(X:Cx)[J:Jx](hs:List VD)(th:TH):Prop:=
 ∀(pins:List (Pi×Vp)) (s:SB) (σ:L2.St) (H:Hp) (D:Ends) (e C:Pi) (od:Option Pi) (T:Pi) (x:LB) (fs:List (LB×My.D)) (B F0 F:Hp) (z:SD) (ED:EndsD),Inv X pins σ H s->Held X pins H s e C od T->Kept B F0 F H->RepS X.K B F H z σ->ErrD X.K F x fs C od->
  th x fs ED z->EndsOk X.K B F0 ED D->U_ (U9 X.prog X.w) X.A (Wn (.ref e) X.env hs) (SP X pins D) X.xe s
structure WDH(X:Cx)[Jx](hs:List VD)(th:TH):Prop where
 out:DH X hs th
section
variable {X:Cx}[J:Jx]{es:List LB}{c:LB}{b₀:U7}{r_:List U7}{pos pc:Vh}{rest:List VD}{t:TSD}{r:TH}
def AJ:TH:=λ_ _ _ _=>False
def AK(es:List LB)(c:LB)(t:TSD)(r:TH):TH:=λx fs E z=>(x∈es/\c∈es)/\if subE x c=true then t E z else r x fs E z
def dHas(es:List LB)(c:LB)(i:Nat)(t:TSD)(r:TH):TH:=λx fs E z=>(x∈es/\c∈es)/\if subE x c=true then t {nx:=λz'=>E.nx (z'.set i v9),rt:=E.rt,bk:=λz'=>E.bk (z'.set i v9),ct:=λz'=>E.ct (z'.set i v9)} (z.set i (be (.exc x fs)))else r x fs E z
def ly:WDH X [] AJ:=#[λ_ _ _ _ _ _ _ _ _ _ _ _ _ _ _ _ _ _ _ _ _ h _=>h.elim]
def uu(hE:ErrsK X.K X.mg es)(hs:∀e,WDSs (X.held e) (b₀::r_) t)(hr:WDH X rest r)(hg:autoParam (Gl X c) zA0)(d5:autoParam (zND c) zA1):WDH X (.ExceptHandler (be (.Name c pc)) v9 (b₀::r_) pos::rest) (AK es c t r):=⟨by
 have hs:=λe=>(hs e).out;have hr:=hr.out;intro pins s σ H D e C od T x fs B F0 F z ED I hd k rs er ht ee;obtain⟨⟨NY,NZ⟩,ht⟩:=ht;obtain⟨Cc,Nc,Tg,kc⟩:=hE.cls c NZ;obtain⟨LP,Nx,Th,kx⟩:=hE.cls x NY;obtain rfl:LP=C:=by have h1:=kx.ns;rw[er.1]at h1;cases h1;rfl
 have hb:=hE.has NY NZ kx kc;obtain⟨nm,q,bs,sn,sub,ab,col,dd,k0,k1,k2,k3,k5,lk⟩:=kx.obj;obtain⟨PB,q',PC,PD,MK,PF,ML,NX,PH,PJ,PK,PL,PM,PN⟩:=kc.obj;refine WQ (WH (cv (X:=X.held e) (Inv.held I) hg kc.mg ?_ d5)) (by intro q;cases q);obtain⟨sl,vs,oT,ts,he,h1,w6,hT,k_,h3⟩:=id hd.ex;refine ut (g:=s.gens) (d:=s.drawn) (t:=s.toks) (os:=s.os) (I.kIn _ _ lk) (I.kIn _ _ PN) he rfl kc.base hb ?_;cases A_:subE x c with
 |true=>
  rw[A_,if_pos rfl]at ht;refine codeAny_handlers_suite (flight_none hd.ex λh' f8 v8=>?_);obtain⟨I',_⟩:=Held.flight I hd f8 v8;exact Vm (hs e pins _ σ H D (Inv.held I') #[B,F0,F,z,k,rs,ED,ht,ee]) (λf s1 q=>SP.unheld I.ok q) λ_ _ z=>False.elim z
 |false=>
  rw[A_,if_neg Ie]at ht;exact hr pins s σ H D e LP od T x fs B F0 F z ED I hd k rs er ht ee⟩
def AL(i:Nat){n:LB}(hE:ErrsK X.K X.mg es)(hN:X.N.Nodup)(hs:∀e,WDSs (X.held e) (b₀::r_) t)(hr:WDH X rest r)(hg:autoParam (Gl X c) zA0)(hi:autoParam (X.N[i]?=be n) zA0)(hk:autoParam (X.env.scope.names.lookup n=be .local) zA0)(d5:autoParam (zND c) zA1):WDH X (.ExceptHandler (be (.Name c pc)) (be n) (b₀::r_) pos::rest) (dHas es c i t r):=⟨by
 have hs:=λe=>(hs e).out;have hr:=hr.out;intro pins s σ H D e C od T x fs B F0 F z ED I hd k rs er ht ee;obtain⟨⟨NY,NZ⟩,ht⟩:=ht;obtain⟨Cc,Nc,Tg,kc⟩:=hE.cls c NZ;obtain⟨LP,Nx,Th,kx⟩:=hE.cls x NY;obtain rfl:LP=C:=by have h1:=kx.ns;rw[er.1]at h1;cases h1;rfl
 have hb:=hE.has NY NZ kx kc;obtain⟨nm,q,bs,sn,sub,ab,col,dd,k0,k1,k2,k3,k5,lk⟩:=kx.obj;obtain⟨PB,q',PC,PD,MK,PF,ML,NX,PH,PJ,PK,PL,PM,PN⟩:=kc.obj;refine WQ (WH (cv (X:=X.held e) (Inv.held I) hg kc.mg ?_ d5)) (by intro q;cases q);obtain⟨sl,vs,oT,ts,he,h1,w6,hT,k_,h3⟩:=id hd.ex;refine ut (g:=s.gens) (d:=s.drawn) (t:=s.toks) (os:=s.os) (I.kIn _ _ lk) (I.kIn _ _ PN) he rfl kc.base hb ?_;cases A_:subE x c with
 |true=>
  rw[A_,if_pos rfl]at ht;refine codeAny_handlers_suite_as (flight_none hd.ex λh' f8 v8=>?_);obtain⟨I',f6⟩:=Held.flight I hd f8 v8;obtain⟨v7,n4,_,_,PP,_⟩:=id f8;have I2:Inv X pins σ (upd H e (XO e LP od)) {s with heap:=h'}:=Inv.adopt I' hd.He (XO.ok PP) hd.e0 (il I' PP rfl) (fld_cell I' PP rfl) hd.eP;refine eB (X:=X.held e) (v:=.ref e) (Inv.held I2) hN hi (.inl hk) rfl (λs2 I3=>?_) (.inr hk);have g:=Grow.new k.fh hd.He (XO e LP od);obtain⟨ns,ws,rf,PQ⟩:=er;have Tj:Rep X.K (upd F e (XO e LP od)) (.exc x fs) (.ref e):=rep_exc.mpr #[e,LP,od,ws,rfl,ns,aB,RepF.mono g.ff fs ws rf,PQ.imp id λ⟨b,q1,q2⟩=>#[b,q1,g.ff _ _ q2]];have Tk:EndsOk X.K B F0 {nx:=λz'=>ED.nx (z'.set i v9),rt:=ED.rt,bk:=λz'=>ED.bk (z'.set i v9),ct:=λz'=>ED.ct (z'.set i v9)} {nx:=λσ' H'=>D.nx (σ'.set i v9) H',rt:=D.rt,bk:=λσ' H'=>D.bk (σ'.set i v9) H',ct:=λσ' H'=>D.ct (σ'.set i v9) H'}:=
   #[λz' s' F' H' k hz r=>ee.nx _ _ F' H' k hz (RepS.unset r),ee.rt,λz' s' F' H' k hz r=>ee.bk _ _ F' H' k hz (RepS.unset r),λz' s' F' H' k hz r=>ee.ct _ _ F' H' k hz (RepS.unset r)]
  refine Vm (hs e pins s2 _ _ _ I3 #[B,F0,_,_,k.grow g,(rs.grow g).set Tj,_,ht,Tk]) (λf s3 q=>?_) λ_ _ z=>False.elim z;have q':=SP.unheld I.ok q;cases f with
  |next=>obtain⟨σ',H',I4,q4⟩:=q';exact ik I4 hN hi hk λs5 I5=>#[_,H',I5,q4]
  |brk=>obtain⟨σ',H',I4,q4⟩:=q';exact ik I4 hN hi hk λs5 I5=>#[_,H',I5,q4]
  |cont=>obtain⟨σ',H',I4,q4⟩:=q';exact ik I4 hN hi hk λs5 I5=>#[_,H',I5,q4]
  |ret u=>obtain⟨v,σ',H',I4,rv,q4⟩:=q';exact ik I4 hN hi hk λs5 I5=>#[v,_,H',I5,rv,q4]
 |false=>
  rw[A_,if_neg Ie]at ht;exact hr pins s σ H D e LP od T x fs B F0 F z ED I hd k rs er ht ee⟩
end
abbrev _root_.L2.Cx.tried(X:Cx)(pn:List (Pi×Vp))(xe:Os->SB->Prop):Cx:={X with pn:=pn,xe:=xe}
section
variable {X:Cx}{pn pins:List (Pi×Vp)}{xe:Os->SB->Prop}{σ:L2.St}{H:Hp}{s:SB}
def Cx.Ok.tried(ok:X.Ok):(X.tried pn xe).Ok:=#[ok.mod,ok.kind,ok.glob,ok.blt,ok.above,ok.inj,ok.has,ok.cab,ok.hd,ok.frames,ok.stk,ok.exf,ok.bs,ok.bsz,ok.noex,ok.exfs,ok.funs,ok.frf]
def Inv.tried(I:Inv X pins σ H s):Inv (X.tried (X.pn++pins) xe) [] σ H s:=#[Cx.Ok.tried I.ok,I.os,I.bare,I.base,I.loc,I.cell,I.free,I.freeC,λp hp=>I.pin p (by simpa using hp),I.hok,I.len]
def Inv.untried(ok:X.Ok)(I:Inv (X.tried (X.pn++pins) xe) [] σ H s):Inv X pins σ H s:=#[ok,I.os,I.bare,I.base,I.loc,I.cell,I.free,I.freeC,λp hp=>I.pin p (by simpa using hp),I.hok,I.len]
def SP.untried{D:Ends}{f:Flow}{s':SB}(ok:X.Ok)(h:SP (X.tried (X.pn++pins) xe) [] D f s'):SP X pins D f s':=by
 cases f with
 |next=>obtain⟨σ',H',I,q⟩:=h;exact#[σ',H',Inv.untried ok I,q]
 |brk=>obtain⟨σ',H',I,q⟩:=h;exact#[σ',H',Inv.untried ok I,q]
 |cont=>obtain⟨σ',H',I,q⟩:=h;exact#[σ',H',Inv.untried ok I,q]
 |ret u=>obtain⟨v,σ',H',I,r,q⟩:=h;exact#[v,σ',H',Inv.untried ok I,r,q]
end
def AM{h₀:VD}{hs:List VD}{σ':L2.St}{H':Hp}{s':SB}{D:Ends}{xe:Os->SB->Prop}(I2:Inv X pins σ' H' s')
  (hd:Exd (X.tried (X.pn++pins) xe) H' s' e C od) (d_:X.ex=[]) (B_:X.stack=X.env::X.outer) (l9:X.env.frame=be X.env.locals)
  (hh:∀s4 T2,Inv X pins σ' H' s4->Held X pins H' s4 e C od T2->U_ (U9 X.prog X.w) X.A (Wn (.ref e) X.env (h₀::hs)) (SP X pins D) X.xe s4):
  U_ (U9 X.prog X.w) X.A (V0 (.ref e) X.env) (λ_ s₂=>U_ (U9 X.prog X.w) X.A (We (.ref e) v9) (λ_ s₃=>U_ (U9 X.prog X.w) X.A (Wn (.ref e) X.env (h₀::hs)) (SP X pins D) X.xe s₃) X.xe s₂) X.xe s':=by
 obtain⟨He,e0,eP,hd⟩:=hd;have stk:s'.heap.FunFrames X.base (X.env::X.outer):=by rw[<-B_];exact I2.stack
 have RS:X.A.frames=be (X.env::X.outer):=by rw[<-B_];exact I2.ok.frames
 have e8:∀(t_:Heap) (T2:Pi) (ex:List Pi),(∀b∈ex,H' b=v9/\X.s₀.heap.get? b=v9/\(∃o vs,s'.heap.get? b=be o/\o.data=.fields vs)/\∀p∈X.pn++pins,p.1≠b)->ExAt t_ e C od T2 (V2 X.env.locals)->s'.heap.objs.size<=T2->Stay (frs (X.env::X.outer)) ex s'.heap t_->
   U_ (U9 X.prog X.w) X.A (We (.ref e) v9) (λ_ s₃=>U_ (U9 X.prog X.w) X.A (Wn (.ref e) X.env (h₀::hs)) (SP X pins D) X.xe s₃) X.xe {s' with heap:=t_}:=by
  intro t_ T2 ex C_ n8 z_ s_;have LH:s'.heap.get? T2=none:=Heap.get?_none_of_le z_;have I3:Inv X pins σ' H' {s' with heap:=t_}:=Inv.stay I2 s_ (λb hb=>by rw[B_];exact hb) (λb hb=>(C_ b hb).1) (λb hb=>(C_ b hb).2.1) (λb hb=>let ⟨_,_,q1,q2⟩:=(C_ b hb).2.2.1;il I2 q1 q2) (λb hb=>let ⟨_,_,q1,q2⟩:=(C_ b hb).2.2.1;fld_cell I2 q1 q2) (λb hb=>(C_ b hb).2.2.2);obtain⟨sl,vs,oT,ts,he,g1,w6,hT,k_,g3⟩:=id n8;have Ma:H' T2=none:=gl I2.hok LH;have T0:X.s₀.heap.get? T2=none:=cH I2 d_ LH;have TP:∀p∈X.pn++pins,p.1≠T2:=λp hp z=>by
   have:=(I2.pin p hp).1;rw[z,LH]at this;cases this
  refine flight_none (s:={s' with heap:=t_}) n8 λh3 NQ J_=>?_;have I4:Inv X pins σ' H' {s' with heap:=h3}:=Inv.stay (s:={s' with heap:=t_}) I3 J_ (λb hb=>by cases hb) (λb hb=>by rw[HN.mp hb];exact Ma) (λb hb=>by rw[HN.mp hb];exact T0) (λb hb=>by rw[HN.mp hb];exact il I3 hT k_) (λb hb=>by rw[HN.mp hb];exact fld_cell I3 hT k_) (λb hb=>by rw[HN.mp hb];exact TP);exact hh _ T2 I4 #[NQ,He,Ma,e0,T0,eP,TP]
 rcases hd with⟨sl,vs,he,hv⟩|⟨T,L_,T0,HT,TP⟩
 .refine sP RS stk l9 he hv λt_ T2 n8 z_ s_=>e8 t_ T2 [e] (λb hb=>?_) n8 z_ s_;rw[HN.mp hb];exact#[He,e0,#[_,_,he,rfl],eP]
 .obtain⟨sl,vs,oT,ts,he,g1,w6,hT,k_,g3⟩:=id L_;refine sQ RS stk l9 L_ λt_ T2 n8 z_ s_=>e8 t_ T2 [T,e] (λb hb=>?_) n8 z_ s_;rcases HQ.mp hb with z|z
  .rw[z];exact#[HT,T0,#[_,_,hT,k_],TP]
  .rw[HN.mp z];exact#[He,e0,#[_,_,he,rfl],eP]
def ErrG(K:Ex)(f y:LB):Prop:=∃C cd,ErrA K y C cd/\HW K (.ref C) "__getattribute__"=be (be (.builtin "BaseException.__getattribute__"))/\HW K (.ref C) "__getattr__"=be v9/\HW K (.ref C) f=be v9
def AN(ys:List LB)(f:LB)(te:TD):TD:=λz R=>te z λd=>match d with|.exc y fs=>y∈ys/\∃d,fs.lookup f=be d/\R d|_=>False
def uw[J:Jx]{e:U8}{te:TD}{pos:Vh}{ys:List LB}{f:LB}(hG:∀y∈ys,ErrG X.K f y)(he:WDE X e te)(hb:autoParam (Ve e f X.env (Vf e X.env)=Vf e X.env) zA0):WDE X (.Attribute e f pos) (AN ys f te):=⟨by
 have he:=he.out;intro pins s σ H Q I h;obtain⟨B,F,z,kf,rs,R,h1,h2⟩:=h;refine attr_of hb (thn (he pins s σ H (λv H1=>∃F1 x fs,Grow F H F1 H1/\Rep X.K F1 (.exc x fs) v/\x∈ys/\∃d,fs.lookup f=be d/\R d) I #[B,F,z,kf,rs,_,h1,λd v F1 H1 g1 hx rx=>?_]) λu s1 ⟨v,H1,I1,rv,F1,x,fs,g1,rx,hy,d,hl,hR⟩=>?_)
 .split at hx
  .obtain⟨hy,d,hl,hR⟩:=hx;exact#[F1,_,_,g1,rx,hy,d,hl,hR]
  .exact hx.elim
 .obtain⟨a,C,od,vs,rfl,hn,Tl,rf,PQ⟩:=rep_exc.mp rx;obtain rfl:u=Value.ref a:=rv;obtain⟨C',cd,ea,ga,gb,hf⟩:=hG x hy;have g5:=ea.ns;rw[hn]at g5;cases g5;obtain⟨n4,sl,j5⟩:=(I1.hok a _ (g1.fh _ _ Tl)).1;obtain⟨w',hw,h_⟩:=rf.look hl;rcases PQ with⟨_,e2⟩|⟨b,rfl,gV⟩
  .rw[e2]at hw;cases hw
  .obtain⟨mA,hns,v_⟩:=(show ObjOk X.prog X.w H1 s1.heap b (.xd vs)from I1.hok b _ (g1.fh _ _ gV));obtain⟨uv,hu,ru⟩:=RelO.some_of (v:=w') (o:=mA f) (by rw[<-hw];exact v_ f);obtain⟨Tn,ho,look⟩:=rX hns;have PR:hasDictIn X.K C=true:=by unfold hasDictIn;rw[ea.cl];exact ea.hd
   exact zu (K:=X.K) (ox:=#[.ref C,be b,.fields n4,sl]) (od:=Tn) I1.kIn #[j5,rfl,rfl,ho] ea.cl ea.mro ga gb (findObj_own PR hf rfl (by rw[look,hu])) (se ru) λtk=>#[w',H1,I1.tok tk,ru,h2 d w' F1 H1 g1 hR h_]⟩
def AO:tailIn K veLine veLine=true:=by
 unfold tailIn;rfl
def ux{c:Os}{d:Option Pi}{es:Array DictEntry}{ep:Nat}(l:K.lookup N=be #[c,d,.dict es ep,sl])(h:es.toList.all (λe=>match e.key with|.str _ _=>true|_=>false)=true):nsOkIn K N=true:=by
 unfold nsOkIn;rw[l];dsimp only;rw[<-Ka];exact h
def AQ{M:Pi}{c0:Os}{dd:Option Pi}{cd:Wv}(l:K.lookup M=be #[c0,dd,.cls cd,sl])(hn:cd.ns=N)(h1:nsOkIn K N=true)(h2:nsIn K N "__init__"=be v9):tailIn K veLine (.ref M::veLine)=true:=by
 unfold tailIn;subst hn;dsimp only;rw[l];dsimp only;rw[h1,h2,AO];simp
def AR(S:SpX):SpD:=λds R=>S ds R λ_ _=>False
def CalX.no{base:Heap}{n:Nat}{S:SpX}(C:CalX P w K mg base n x ps S):CalD P w K mg base n x ps (AR S):=by
 obtain⟨f,fd,F,hb,hk,hm⟩:=C;refine#[f,fd,F.imp λvs H Q E h=>?_,hb,hk,hm];obtain⟨F,ds,fh,rs,R,h,q⟩:=h;exact#[F,ds,fh,rs,R,_,h,q,λ_ _ _ _ _ _ _ z=>z.elim]
end My
namespace My
def repS(x:LB)(n:Nat):Str:=#[(IF n x.cps.toList).flatten.toArray]
def uy{α:Type}(l:List α):∀m:Nat,(HU m).filterMap (λk=>l[k]?)=l.take m
 |0=>by simp
 |m+1=>by
  rw[JC,List.filterMap_append,uy l m,KM];cases h:l[m]?<;>simp[h]
def AS(lo hi:Option Int)(n:Nat):Builtin.Str.strSliceIndices lo hi 1 n=(HU (HT.sIx n n hi-HT.sIx n 0 lo)).map λk=>HT.sIx n 0 lo+k:=by
 have LQ:∀(i:Int) (d:Nat),max 0 (min (if i<0 then i+(n:Int)else i) (n:Int))=((HT.sIx n d (be i):Nat):Int):=by
  intro i d;show max 0 (min (if i<0 then i+(n:Int)else i) (n:Int))=(((if i<0 then(i+(n:Int)).toNat else min i.toNat n):Nat):Int);by_cases h:i<0
  .rw[if_pos h,if_pos h];lia
  .rw[if_neg h,if_neg h];lia
 have h1:Builtin.Str.strSliceIndices lo hi 1 n=sliceRange ((HT.sIx n 0 lo:Nat):Int) ((HT.sIx n n hi:Nat):Int) 1:=by
  unfold Builtin.Str.strSliceIndices;simp only[show(1:Int)>0 by decide,if_true];cases lo with
  |none=>cases hi with
   |none=>rfl
   |some j=>rw[<-LQ j n];rfl
  |some i=>cases hi with
   |none=>rw[<-LQ i 0];rfl
   |some j=>rw[<-LQ i 0,<-LQ j n]
 rw[h1];unfold sliceRange;simp only[show(1:Int)>0 by decide,if_true];have e3:(if((HT.sIx n 0 lo:Nat):Int)<((HT.sIx n n hi:Nat):Int)then(((HT.sIx n n hi:Nat):Int)-((HT.sIx n 0 lo:Nat):Int)+1-1)/1 else 0).toNat=HT.sIx n n hi-HT.sIx n 0 lo:=by
  split<;>lia
 rw[e3];apply JD;intro k _;lia
def slice_cps(y:LB)(lo hi:Option Int):Txt.slice y lo hi=#[((y.cps.toList.drop (HT.sIx y.length 0 lo)).take (HT.sIx y.length y.length hi-HT.sIx y.length 0 lo)).toArray]:=by
 have la:HT.sIx y.length 0 lo<=y.length:=HT.sIx_le _ _ (Iq _) lo;have lb:HT.sIx y.length y.length hi<=y.length:=HT.sIx_le _ _ (HP _) hi;unfold Txt.slice;rw[AS];split
 .rename_i h;have hl:HT.sIx y.length y.length hi-HT.sIx y.length 0 lo=y.length:=by simpa using h
  have ha:HT.sIx y.length 0 lo=0\/y.length=0:=KK
  rw[hl];obtain⟨cp⟩:=y;have e:(Jf (HT.sIx (Str.mk cp).length 0 lo) cp.toList)=cp.toList:=by
   rcases ha with ha|ha
   .rw[ha];rfl
   .have:cp=[].toArray:=Array.eq_empty_of_size_eq_zero ha;subst this;simp
  show(#[cp]:LB)=#[((Jf (HT.sIx (Str.mk cp).length 0 lo) cp.toList).take cp.size).toArray];rw[e,Jg MD]
 .congr 2;rw[Kz];have:=uy (y.cps.toList.drop (HT.sIx y.length 0 lo)) (HT.sIx y.length y.length hi-HT.sIx y.length 0 lo);rw[<-this];congr 1;funext k;simp
section
variable {X:Cx}[J:Jx]{a b c e:U8}{ta tb tc te:TD}{pos:Vh}
def HI:RD2:=λx y R=>match x,y with
 |.int i,.int j=>CMul i j/\R (.int (i*j))
 |.str i,.int n=>(-(2^62)<=n/\n<=1000000/\i.length*n.toNat<=1000000)/\R (.str (repS i n.toNat))
 |.lst xs,.int n=>(-(2^62)<=n/\n<=1000000/\xs.length*n.toNat<=1000000)/\R (.lst (IF n.toNat xs).flatten)
 |_,_=>False
def uz:SlR X (λx lo hi H Q=>∃y,x=.str y/\y.length<=sizeLine/\Q (.str (Txt.slice y lo hi)) H):=by
 intro pins s σ H x v vl vu lo hi sl Q I rx hs pl pu h;obtain⟨y,rfl,hz,q⟩:=h;obtain⟨t,rfl⟩:=rx;have e8:∀t' k,EP X pins σ Q (.str (Txt.slice y lo hi) t') {s with toks:=k}:=λt' k=>#[.str _,H,I.tok k,#[_,rfl],q];have le:=H8 (Txt.slice_le y lo hi) hz;refine#["str",_,PySem.F.slot_str_getitem.lookup,WV _ _ _,?_];cases pl with
 |none=>cases pu with
  |none=>exact VE (l:=v9) (u:=v9) (st:=v9) hs rfl (V4 #[le,e8])
  |int j tj=>exact VE (l:=v9) (u:=be (j,tj)) (st:=v9) hs rfl (V4 #[le,e8])
 |int i ti=>cases pu with
  |none=>exact VE (l:=be (i,ti)) (u:=v9) (st:=v9) hs rfl (V4 #[le,e8])
  |int j tj=>exact VE (l:=be (i,ti)) (u:=be (j,tj)) (st:=v9) hs rfl (V4 #[le,e8])
abbrev TDO:=SD->(Option Int->Prop)->Prop
def AT:TDO:=λ_ R=>R v9
def AU(te:TD):TDO:=λz R=>te z λx=>match x with|.int i=>R (be i)|_=>False
def lO(K:Ex)[J:Jx](t:TDO):TO:=λs H Q=>∃B F z,Kept B J.F0 F H/\RepS K B F H z s/\∃R:Option Int->Prop,t z R/\∀o F' H',Grow F H F' H'->R o->Q o H'
abbrev DPO(X:Cx)[Jx](e:Option U8)(t:TDO):Prop:=PO X e (lO X.K t)
structure WDPO(X:Cx)[Jx](e:Option U8)(t:TDO):Prop where
 out:DPO X e t
def PO.anti{X:Cx}{e:Option U8}{t t':TO}(h:PO X e t)(a:∀s H Q,t' s H Q->t s H Q):PO X e t':=λpins s σ H Q I q=>h pins s σ H Q I (a _ _ _ q)
def cz:WDPO X v9 AT:=⟨PO.anti kB λs H Q q=>by
 obtain⟨B,F,z,kf,rs,R,h1,h2⟩:=q;exact h2 v9 F H (Grow.refl kf.fh) h1⟩
def cA(he:WDE X e te):WDPO X (be e) (AU te):=⟨have he:=he.out;PO.anti (kC he) λs H Q q=>by
 obtain⟨B,F,z,kf,rs,R,h1,h2⟩:=q;refine#[B,F,z,kf,rs,_,h1,λx u F1 H1 g1 hx rx=>?_];split at hx
 .exact#[_,rep_int.mp rx,h2 _ F1 H1 g1 hx]
 .exact hx.elim⟩
def rdSl:D->Option Int->Option Int->(D->Prop)->Prop:=λx lo hi R=>match x with
 |.str y=>y.length<=1000000/\R (.str (Txt.slice y lo hi))
 |.lst xs=>R (.lst (cutD xs lo hi))
 |.rol xs=>R (.lst (cutD xs lo hi))
 |.tup xs=>¬(HT.sIx xs.length 0 lo=0/\HT.sIx xs.length xs.length hi=xs.length)/\R (.tup (cutD xs lo hi))
 |_=>False
def dSl(ta:TD)(tl th:TDO):TD:=λz R=>ta z λx=>tl z λlo=>th z λhi=>rdSl x lo hi R
def cB{lo hi:Option U8}{tl th:TDO}{p2:Vh}(ha:WDE X a ta)(hl:WDPO X lo tl)(hu:WDPO X hi th):WDE X (.Subscript a (.Slice lo hi v9 p2) pos) (dSl ta tl th):=⟨have ha:=ha.out;have hl:=hl.out;have hu:=hu.out;(gW (SlR.or uz (SlR.or gX sA)) ha hl hu).anti λs H Q q=>by
 obtain⟨B,F,z,kf,rs,R,h1,h2⟩:=q;refine#[B,F,z,kf,rs,_,h1,λx u F1 H1 g1 hx rx=>?_];refine#[B,F1,z,kf.grow g1,rs.grow g1,_,hx,λlo F2 H2 g2 hy=>?_];refine#[B,F2,z,(kf.grow g1).grow g2,(rs.grow g1).grow g2,_,hy,λhi F3 H3 g3 hw=>?_];have g:=g1.trans (g2.trans g3);have LR:=(rx.mono g2.ff).mono g3.ff;unfold rdSl at hw;split at hw
 .exact .inl #[_,rep_str.mp LR,H8 hw.1 Mx,h2 _ _ F3 H3 g hw.2 (rep_str.mpr rfl)]
 .obtain⟨l,vs,rfl,hq,rr⟩:=rep_lst.mp LR;refine .inr (.inl #[l,vs,rfl,SqL.of (g3.fh _ _ hq),λp hp=>?_]);exact h2 _ _ _ _ (g.trans (Grow.new g3.fh hp _)) hw (rep_lst.mpr #[p,_,rfl,aB,(rr.cut _ _).mono (aO (g3.fh.free hp) _)])
 .obtain⟨l,vs,rfl,hq,rr⟩:=rep_rol.mp LR;refine .inr (.inl #[l,vs,rfl,g3.fh.seq hq,λp hp=>?_]);exact h2 _ _ _ _ (g.trans (Grow.new g3.fh hp _)) hw (rep_lst.mpr #[p,_,rfl,aB,(rr.cut _ _).mono (aO (g3.fh.free hp) _)])
 .obtain⟨l,vs,rfl,hq,rr⟩:=rep_tup_mp LR;refine .inr (.inr #[l,vs,rfl,g3.fh.tup hq,by rw[rr.length];exact hw.1,λp hp=>?_]);exact h2 _ _ _ _ (g.trans (Grow.new g3.fh hp _)) hw.2 (rep_tupS.mpr #[p,_,rfl,aB,(rr.cut _ _).mono (aO (g3.fh.free hp) _)])
 .exact hw.elim⟩
def rdIn(neg:Bool):RD2:=λx y R=>match y with
 |.str j=>kdS x λi=>R (.bl (if neg then !(!(Builtin.Str.occurrences j i 0 j.length 1).isEmpty)else !(Builtin.Str.occurrences j i 0 j.length 1).isEmpty))
 |.lst ys=>(bD x=true/\ys.all bD=true)/\R (.bl (if neg then !(ys.any λy=>eqF y x)else ys.any λy=>eqF y x))
 |.rol ys=>(bD x=true/\ys.all bD=true)/\R (.bl (if neg then !(ys.any λy=>eqF y x)else ys.any λy=>eqF y x))
 |.tup ys=>(bD x=true/\ys.all bD=true)/\R (.bl (if neg then !(ys.any λy=>eqF y x)else ys.any λy=>eqF y x))
 |_=>False
def im{K:Ex}{H:Hp}{x:D}{u:V}(rx:Rep K H x u)(fx:bD x=true):∀{ys:List D} {vs:List V},Reps K H ys vs->ys.all bD=true->inV u vs=ys.any λy=>eqF y x
 |[],vs,r,_=>by rw[reps_nil.mp r];rfl
 |y::ys,vs,r,f=>by
  obtain⟨v,vr,rfl,r1,r2⟩:=reps_cons.mp r;rw[Jl,Iw]at f;have ih:=im rx fx r2 f.2;unfold inV at ih ⊢;rw[JP,JP,ih,tN r1 rx f.1 fx]
def rInV(K:Ex)(neg:Bool):R2:=λx y H Q=>(∃i j,x=.str i/\y=.str j/\Q (.bl (if neg then !(!(Builtin.Str.occurrences j i 0 j.length 1).isEmpty)else !(Builtin.Str.occurrences j i 0 j.length 1).isEmpty)) H)\/rIn K neg x y H Q
def AV{K:Ex}{neg:Bool}:aV K (rInV K neg) (rdIn neg):=by
 intro x y u v F H R Q fh h rx ry q;cases y with
 |str j=>
  replace h:=kdS.of h;obtain⟨i,rfl,h⟩:=h;exact .inl #[_,_,rep_str.mp rx,rep_str.mp ry,q _ _ F H (Grow.refl fh) h (rep_bl.mpr rfl)]
 |lst ys=>
  obtain⟨⟨f1,f2⟩,h⟩:=h;obtain⟨l,vs,rfl,hq,rr⟩:=rep_lst.mp ry;exact .inr #[l,vs,rfl,.inl (fh.seq (SqL.of hq)),ib rx f1,db rr f2,q _ _ F H (Grow.refl fh) h (rep_bl.mpr (by rw[im rx f1 rr f2]))]
 |rol ys=>
  obtain⟨⟨f1,f2⟩,h⟩:=h;obtain⟨l,vs,rfl,hq,rr⟩:=rep_rol.mp ry;exact .inr #[l,vs,rfl,.inl (fh.seq hq),ib rx f1,db rr f2,q _ _ F H (Grow.refl fh) h (rep_bl.mpr (by rw[im rx f1 rr f2]))]
 |tup ys=>
  obtain⟨⟨f1,f2⟩,h⟩:=h;obtain⟨l,vs,rfl,hq,rr⟩:=rep_tup_mp ry;exact .inr #[l,vs,rfl,.inr (fh.tup hq),ib rx f1,db rr f2,q _ _ F H (Grow.refl fh) h (rep_bl.mpr (by rw[im rx f1 rr f2]))]
 |_=>exact False.elim h
def AW:OpR X (Vi .NotIn) (rInV X.K true):=OpR.or za yZ
end
end My
namespace L2
def Its(x:LB):It:=#[λi _=>i<x.length,λi H v H'=>H'=H/\∃c,x.cps[i]?=be c/\v=.str #[[c].toArray],λi _=>x.length<=i]
def AX{P:U'}{w:Va}{K:Ex}{tg:U8}(x:LB)(t:W5)(it:Pi):Turn P w K tg (Its x) [it] it (λi h=>h.IsStrIter it "str_ascii_iterator" x t i) where
 mem:=MD
 obj:=λi h st b hb=>by
  have e:b=it:=by simpa using hb
  subst e;obtain⟨o,e,c,d⟩:=st;exact#[o,e,λv z=>by rw[d]at z;cases z]
 keep:=λi h h' st k=>by
  obtain⟨o,e,r⟩:=st;exact#[o,k it MD o e,r]
 item:=by
  intro X hP hw hK hc i pins s σ H E I hf st hg;subst hP hw hK;have hi:i<x.cps.size:=hg;obtain⟨f0,f1,f2,f3,f4,f5⟩:=hf it MD;refine wpAny_pyNext_ascii_item st (c:=x.cps[i]) (KN hi) λh' v8 sb=>?_;have I1:Inv X pins σ H {s with heap:=h',toks:=s.toks+1}:=I.turned (t':=s.toks+1) (λb o hb e=>(sb.2 b hb).trans e) f0 f1 f3 f4 f5;obtain⟨o,e,c,d⟩:=id v8;exact#[_,rfl,jZ (s:={s with heap:=h',toks:=s.toks+1}) e c d Mx #[.str #[[x.cps[i]].toArray],H,I1,#[_,rfl],#[rfl,_,KN hi,rfl],v8,λb hb=>(hf b hb).1]]
 done:=by
  intro X hP hw hK hc i pins s σ H E I hf st hg;subst hP hw hK;have hi:x.cps.size<=i:=hg;obtain⟨f0,f1,f2,f3,f4,f5⟩:=hf it MD;exact wpAny_pyNext_ascii_end (I.ok.hd hc) st (Array.getElem?_eq_none hi) λh' eb=>#[rfl,I.turned (t':=s.toks) (λb o hb e=>eb b o hb e) f0 f1 f3 f4 f5]
 self:=λA i s Q E st hQ=>wpAny_pyIter_striter_ascii st hQ
def iStr(tl:TE):TI:=λσ H R=>tl σ H λv H1=>∃x,v=.str x/\x.cps.all (·<128)=true/\R (Its x) H1
def va{X:Cx}{tg l:U8}{tl:TE}(hl:PE X l tl):PI X tg l (iStr tl):=by
 intro pins s σ H R I h;refine thn (hl pins s σ H _ I h) λv s1 b9=>?_;obtain⟨v1,H1,I1,r1,q1⟩:=b9;obtain⟨x,rfl,ha,q⟩:=q1;obtain⟨t,rfl⟩:=r1;refine wpAny_pyIter_ascii ha ?_;refine#[s1.heap.objs.size,[s1.heap.objs.size],_,_,H1,rfl,I1.kept (t':=s1.toks) λb o e=>Heap.get?_push_of_some _ e,AX x t _,#[_,Heap.get?_push_size _ rfl,rfl,rfl],λb hb=>?_,q];have e:b=s1.heap.objs.size:=by simpa using hb
 subst e;exact I1.fpOk (HP _) (I1.hok.fresh (HP _))
def AY{x:LB}{g:TG}{tb:TS}{D:Ends}{σ:St}{H:Hp}(Pv:Nat->St->Hp->Prop)(h0:Pv 0 σ H)
  (hs:∀i c σ H,x.cps[i]?=be c->Pv i σ H->g (.str #[[c].toArray]) σ H λσ2 H2=>tb {D with nx:=Pv (i+1),ct:=Pv (i+1),bk:=D.nx} σ2 H2) (hd:∀σ H,Pv x.length σ H->D.nx σ H):
  ∃W:Nat->Nat->St->Hp->Prop,(∃m,W 0 m σ H)/\∀i m σ H,W i m σ H->
   ((Its x).stop i H/\D.nx σ H)\/((Its x).go i H/\∃N:St->Hp->Prop,(∀σ' H',N σ' H'->∃m',m'<m/\W (i+1) m' σ' H')/\∀v H',(Its x).yld i H v H'->g v σ H' λσ2 H2=>tb {D with nx:=N,ct:=N,bk:=D.nx} σ2 H2):=by
 refine#[λi m σ H=>m=x.length-i/\i<=x.length/\Pv i σ H,#[x.length,MD,Iq _,h0],?_];rintro i m σ H ⟨rfl,hi,p⟩;by_cases f9:i<x.length
 .refine .inr #[f9,Pv (i+1),λσ' H' p'=>#[x.length-(i+1),KK,rfl,f9,p'],λv H' y=>?_];obtain⟨e,c,hc,rfl⟩:=y;subst e;exact hs i c σ _ hc p
 .have e:i=x.length:=by lia
  subst e;exact .inl #[HP _,hd σ H p]
end L2
namespace My
section
variable {X:Cx}[J:Jx]{a b c e:U8}{ta tb tc te:TD}{pos:Vh}
def bR(x:LB):List D:=x.cps.toList.map λc=>D.str #[[c].toArray]
def dItS(t:TD):TDI:=λz R=>t z λy=>match y with|.str x=>x.cps.all (·<128)=true/\R (bR x)|_=>False
def io{x:LB}{k c:Nat}(h:x.cps[k]?=be c):(bR x)[k]?=be (.str #[[c].toArray]):=by
 unfold bR;rw[H9,KC,h];rfl
def fj(x:LB):(bR x).length=x.length:=by unfold bR;rw[HR];simp[Str.length]
def AZ(i:Nat){x:LB}{p:Vh}{body:List U7}{tb:TSD}(hp:Vr (U9 X.prog X.w) X.A X.env X.xe)(hc:X.calm=true)(hN:X.N.Nodup)(he:WDE X e te)(hb:WDSs X body tb)(hi:autoParam (X.N[i]?=be x) zA0)(hx:autoParam (Loc X.env.scope x) zA4)
  (hf:autoParam (zFN X x) zA2) (hs:autoParam (∀y,zFS X e y) zA3):WDS X (.For (.Name x p) e body [] pos) (dFor i (dItS te) tb):=⟨have he:=he.out;have hb:=hb.out;(cQ hp hc (va he) (dI hN hi hx hf) hb hs).anti λE s H q=>by
 obtain⟨B,F0,F,z,kp,rs,ED,h,e⟩:=q;refine#[B,F,z,kp.kf,rs,_,h,λd v F1 H1 g1 hd rd=>?_];split at hd
 .rename_i y;obtain⟨ha,W,w0,c7,out⟩:=hd;refine#[y,rep_str.mp rd,ha,AY (λk s' H'=>∃F' z',Kept B F0 F' H'/\RepS X.K B F' H' z' s'/\W k z') #[F1,z,kp.grow g1,rs.grow g1,w0] ?_ ?_]
  .rintro k c s' H' hk⟨F',z',k',r',w'⟩;exact#[B,F0,F',_,k',r'.set (d:=.str #[[c].toArray]) (rep_str.mpr rfl),_,c7 k (.str #[[c].toArray]) z' (io hk) w',#[λz3 s3 F3 H3 k3 h3 r3=>#[F3,z3,k3,r3,h3],e.rt,e.nx,λz3 s3 F3 H3 k3 h3 r3=>#[F3,z3,k3,r3,h3]]]
  .rintro s' H'⟨F',z',k',r',w'⟩;exact e.nx z' s' F' H' k' (out z' (by rw[fj];exact w')) r'
 .exact hd.elim⟩
variable {g_ iter:U8}{x:LB}{px:Vh}{scope:Vz}{ti:TD}
def itS{K:Ex}:ItOk K (iStr (lE K ti)) (dItS ti):=λ{s H B F z P Q} kf rs h1 h2=>by
 refine#[B,F,z,kf,rs,_,h1,λd v F1 H1 g1 hd rd=>?_];split at hd
 .rename_i y;obtain⟨ha,hd⟩:=hd;have hl:=fj y;refine#[y,rep_str.mp rd,ha,h2 _ _ F1 H1 g1 hd #[λk F' H' G hk=>by rw[hl]at hk;exact hk,λk F' H' v H'' G hk hy=>?_,λF' H' G=>by show y.length<=_;rw[hl];exact HP _]];obtain⟨e,c,hc,rfl⟩:=hy;exact#[e,.str #[[c].toArray],io hc,rep_str.mpr rfl]
 .exact hd.elim
end
section
variable {X:Cx}[J:Jx]{a b c e o:U8}{es:List U8}{ta tb tc te to:TD}{t:TDA}{pos:Vh}
abbrev RTx:=LB->List D->(D->Prop)->Prop
def dTx(r:RTx)(to:TD)(t:TDA):TD:=λz R=>to z λx=>match x with|.str y=>t z λds=>r y ds R|_=>False
def MtS(X:Cx)(id:String)(r:RTx):Prop:=∃rv:V->List V->Hp->VK->Prop,MtR X id rv/\∀(y:LB) (ds:List D) (vs:List V) (F H:Hp) (R:D->Prop) (Q:VK),Reps X.K F ds vs->r y ds R->(∀d v,(∀G,Rep X.K G d v)->R d->Q v H)->rv (.str y) vs H Q
variable{apos cpos:Vh}
def lz{name:LB}{id:String}{r:RTx}(slot:Slot "str" name id)(NH:typeOf (.builtin id)=pure (.type "method_descriptor"))(hm:MtS X id r)(ho:DE X o to)(ha:DA X (e::es) t)
  (b7:autoParam (Ve o name X.env (Vf o X.env)=Vf o X.env) zA0)
  (d8:autoParam (zHF X cpos (e::es)) zA0)
  (b_:autoParam ((apos.endLine==cpos.line)=true) zA0) (hs:autoParam (zSE X e es) zA0) (o7:autoParam (zPL X cpos es) zA0):
  DE X (.Call (.Attribute o name apos) (e::es) [] cpos) (dTx r to t):=by
 obtain⟨rv,hm,L⟩:=hm;refine(eJ PySem.F.plainAttrs_str slot NH hm ho ha b7 d8 b_ hs o7).anti λs H Q q=>?_;obtain⟨B,F,z,kf,rs,R,h1,h2⟩:=q;refine#[B,F,z,kf,rs,_,h1,λx u F1 H1 g1 hx rx=>?_];split at hx
 .rename_i y;rw[rep_str.mp rx];refine#[rfl,B,F1,z,kf.grow g1,rs.grow g1,_,hx,λds vs F2 H2 g2 hy ry=>?_];exact L y ds vs F2 H2 R Q ry hy λd v rd hR=>h2 d v F2 H2 (g1.trans g2) hR (rd F2)
 .exact hx.elim
def HJ:RTx:=λy ds R=>match ds with|[.str p]=>R (.bl (Txt.startswith y p))|_=>False
def rEnds:RTx:=λy ds R=>match ds with|[.str p]=>R (.bl (Txt.endswith y p))|_=>False
def ms_ends:MtS X "str.endswith" rEnds:=by
 refine#[λx vs H Q=>∃y p,x=.str y/\vs=[.str p]/\Q (.bl (Txt.endswith y p)) H,?_,?_]
 .intro pins s σ H x vs v us Q I rx rv h;obtain⟨y,p,rfl,rfl,q⟩:=h;obtain⟨t,rfl⟩:=rx;obtain⟨u,rfl,t',rfl⟩:=cb rv;exact SC.endswith #[.bl _,H,I,rfl,q]
 .intro y ds vs F H R Q r h q;unfold rEnds at h;split at h
  .obtain⟨v,vr,rfl,h1,h2⟩:=reps_cons.mp r;rw[reps_nil.mp h2,rep_str.mp h1];exact#[_,_,rfl,rfl,q _ _ (λ_=>rep_bl.mpr rfl) h]
  .exact h.elim
def A1(ho:WDE X o to)(ha:WDA X [e] t)(b7:autoParam (Ve o "endswith" X.env (Vf o X.env)=Vf o X.env) zA0)
  (d8:autoParam (zHF X cpos [e]) zA0)
  (b_:autoParam ((apos.endLine==cpos.line)=true) zA0) (hs:autoParam (zSE X e []) zA0):WDE X (.Call (.Attribute o "endswith" apos) [e] [] cpos) (dTx rEnds to t):=#[have ho:=ho.out;have ha:=ha.out;lz PySem.F.slot_str_endswith PySem.F.type_str_endswith ms_ends ho ha b7 d8 b_ hs]
def rSIndex:RTx:=λy ds R=>match ds with|[.str p]=>∃i rest,Builtin.Str.occurrences y p 0 y.length 1=i::rest/\R (.int (i:Nat))|_=>False
def A2:MtS X "str.index" rSIndex:=by
 refine#[λx vs H Q=>∃y p i rest,x=.str y/\vs=[.str p]/\Builtin.Str.occurrences y p 0 y.length 1=i::rest/\Q (.int (i:Nat)) H,?_,?_]
 .intro pins s σ H x vs v us Q I rx rv h;obtain⟨y,p,i,rest,rfl,rfl,ho,q⟩:=h;obtain⟨t,rfl⟩:=rx;obtain⟨u,rfl,t',rfl⟩:=cb rv;exact SC.index ho #[.int _,H,I.tok _,#[_,rfl],q]
 .intro y ds vs F H R Q r h q;unfold rSIndex at h;split at h
  .obtain⟨i,rest,ho,h⟩:=h;obtain⟨v,vr,rfl,h1,h2⟩:=reps_cons.mp r;rw[reps_nil.mp h2,rep_str.mp h1];exact#[_,_,i,rest,rfl,rfl,ho,q _ _ (λ_=>rep_int.mpr rfl) h]
  .exact h.elim
def lC(ho:WDE X o to)(ha:WDA X [e] t)(b7:autoParam (Ve o "index" X.env (Vf o X.env)=Vf o X.env) zA0)
  (d8:autoParam (zHF X cpos [e]) zA0)
  (b_:autoParam ((apos.endLine==cpos.line)=true) zA0) (hs:autoParam (zSE X e []) zA0):WDE X (.Call (.Attribute o "index" apos) [e] [] cpos) (dTx rSIndex to t):=#[have ho:=ho.out;have ha:=ha.out;lz PySem.F.slot_str_index PySem.F.type_str_index A2 ho ha b7 d8 b_ hs]
def Reps.init{K:Ex}{F:Hp}:∀{ds:List D} {vs:List V},Reps K F ds vs->Reps K F ds.dropLast vs.dropLast
 |[],vs,r=>by rw[reps_nil.mp r];exact reps_nil.mpr rfl
 |[d],vs,r=>by
  obtain⟨v,vr,rfl,_,h2⟩:=reps_cons.mp r;rw[reps_nil.mp h2];exact reps_nil.mpr rfl
 |d::d2::ds,vs,r=>by
  obtain⟨v,vr,rfl,h1,h2⟩:=reps_cons.mp r;obtain⟨v2,UC,rfl,h3,h4⟩:=reps_cons.mp h2;rw[KO,KO];exact reps_cons.mpr #[v,_,rfl,h1,Reps.init h2]
end
end My
namespace My
open Exc
section
variable {X:Cx}{a b c e:U8}{ta tb tc te:TD}{pos:Vh}{st:U7}{rest:List U7}{t u:TSD}
def bf[Jx]{c:U8}{l r:List U7}{tc:TDT}(hc:WDT X c tc)(ha:WDSs X l t)(hb:WDSs X r u):WDS X (.If c l r pos) (dIfS tc t u):=#[tQ (c:=c) (l:=l) (r:=r) (tc:=tc) (hc:=hc.out) (ha:=ha.out) (hb:=hb.out)]
end
section
variable {P:U'}{w:Va}{K:Ex}{mg:LB->Option Os}{base:Heap}
variable{x qual:LB}{st:U7}{f:Pi}{fd:Vg}{N ps:List LB}{k:Nat}
def _root_.L2.Fun.okDW{S:SpD}(T:Fun K x qual st f fd)(F:FnScope N ps (ah st))(len:∀ds R,S ds R->ds.length=ps.length)
  (a8:∀(cdv:Os) (A:Vb) (outer:List VU) (s:SB) (H:Hp) (E:XK) (J:Jx),Room k (A.deeper (Vk qual (ah st) s.heap.objs.size f cdv))->
   ∃t,WDSs (cxOf (Exc.CX1 P w) P w K mg base N qual (ah st) f cdv A outer s H E).nox (aK st) t/\∀ds R,S ds R->t {nx:=λ_=>R .non,rt:=R} (startD N ds)):FnOk P w K mg base (Exc.CX1 P w) (k+1) f fd ps (lSp K S):=
 T.okD F len λcdv A outer s H E J hr=>let ⟨t,h,q⟩:=a8 cdv A outer s H E J hr;#[t,h.out,q]
def Tx.okDW{S:SpD}(T:Tx K mg x st ps)(F:FnScope N ps (ah st))(len:∀ds R,S ds R->ds.length=ps.length)
  (a8:∀(f:Pi) (cdv:Os) (A:Vb) (outer:List VU) (s:SB) (H:Hp) (E:XK) (J:Jx),Room k (A.deeper (Vk x (ah st) s.heap.objs.size f cdv))->
   ∃t,WDSs (cxOf (Exc.CX1 P w) P w K mg base N x (ah st) f cdv A outer s H E).nox (aK st) t/\∀ds R,S ds R->t {nx:=λ_=>R .non,rt:=R} (startD N ds)):CalD P w K mg base (k+1) x ps S:=
 Tx.okD T F len λf cdv A outer s H E J hr=>let ⟨t,h,q⟩:=a8 f cdv A outer s H E J hr;#[t,h.out,q]
def Tx.okXW{S:SpX}(T:Tx K mg x st ps)(F:FnScope N ps (ah st))(len:∀ds R RX,S ds R RX->ds.length=ps.length)
  (a8:∀(f:Pi) (cdv:Os) (A:Vb) (outer:List VU) (s:SB) (H:Hp) (E:XK) (J:Jx),Room k (A.deeper (Vk x (ah st) s.heap.objs.size f cdv))->XOk (cxOf (CX1 P w) P w K mg base N x (ah st) f cdv A outer s H E)->
   ∃t,WDSs (cxOf (CX1 P w) P w K mg base N x (ah st) f cdv A outer s H E) (aK st) t/\∀ds R RX,(∀z,J.RX z=RX)->S ds R RX->t {nx:=λ_=>R .non,rt:=R} (startD N ds)):CalX P w K mg base (k+1) x ps S:=
 Tx.okX T F len λf cdv A outer s H E J hr hx=>let ⟨t,h,q⟩:=a8 f cdv A outer s H E J hr hx;#[t,h.out,q]
def Cls.okIW{C:Pi}{p0:LB}{S:SiD}(T:Fun K "__init__" qual st f fd)(hb:Binds K fd (p0::ps) [])(F:FnScope (p0::N) (p0::ps) (ah st))(len:∀ds R,S ds R->ds.length=ps.length)
  (hns:nsIn K SL x=be (be (.ref C))) (j_:mg x=be (.ref C)) (mk:Mk K C f)
  (a8:∀(cdv:Os) (A:Vb) (outer:List VU) (s:SB) (H:Hp) (E:XK) (J:Jx),Room k (A.deeper (Vk qual (ah st) s.heap.objs.size f cdv))->
   ∃t,WDI (cxOf (Exc.CX1 P w) P w K mg base (p0::N) qual (ah st) f cdv A outer s H E).nox x (aK st) t/\∀ds R,S ds R->t (v9::startD N ds) [] R):CalM P w K mg base (k+1) x (p0::ps) S:=
 Cls.okI T hb F len hns j_ mk λcdv A outer s H E J hr=>let ⟨t,h,q⟩:=a8 cdv A outer s H E J hr;#[t,h.out,q]
def Cls.okEW{C N0:Pi}{bm:List Os}{p0:LB}{S:SiD}(T:Fun K "__init__" qual st f fd)(hb:Binds K fd (p0::ps) [])(F:FnScope (p0::N) (p0::ps) (ah st))(len:∀ds R,S ds R->ds.length=ps.length)
  (ek:ErrK K mg x C N0 bm) (hi:HW K (.ref C) "__init__"=be (be (.ref f))) (hf:isFn K (.ref f)=true)
  (a8:∀(cdv:Os) (A:Vb) (outer:List VU) (s:SB) (H:Hp) (E:XK) (J:Jx),Room k (A.deeper (Vk qual (ah st) s.heap.objs.size f cdv))->
   ∃t,WDX (cxOf (CX1 P w) P w K mg base (p0::N) qual (ah st) f cdv A outer s H E).nox x (aK st) t/\∀ds R,S ds R->t (v9::startD N ds) [] R):CalE P w K mg base (k+1) x (p0::ps) S:=
 Cls.okE T hb F len ek hi hf λcdv A outer s H E J hr=>let ⟨t,h,q⟩:=a8 cdv A outer s H E J hr;#[t,h.out,q]
end
inductive MO where
 |ins (x:Str) (fs:List (Str×D))|lst (ds:List D)|dti (a9:List ((Int×Int)×Int))
abbrev MS:=List (Pi×MO)
def MRep(K:Ex)(F H:Hp)(a:Pi):MO->Prop
 |.ins x fs=>∃C dx ws,nsIn K SL x=be (be (.ref C))/\H a=be (.ins C dx ws)/\RepF K F fs ws
 |.lst ds=>∃vs,H a=be (.lst vs)/\Reps K F ds vs
 |.dti a9=>H a=be (.dT (dtiV a9))
def av(M:MS):List Pi:=M.map (·.1)
def mget:MS->Pi->Option MO
 |[],_=>v9
 |(b,o)::r,a=>if b=a then be o else mget r a
def mput:MS->Pi->MO->MS
 |[],_,_=>[]
 |(b,p)::r,a,o=>if b=a then(b,o)::r else(b,p)::mput r a o
def mdel:MS->Pi->MS
 |[],_=>[]
 |(b,p)::r,a=>if b=a then r else(b,p)::mdel r a
def bu:∀{M:MS} {a:Pi} {o:MO},mget M a=be o->(a,o)∈M
 |[],_,_,h=>by cases h
 |(b,p)::r,a,o,h=>by
  unfold mget at h;split at h
  .rename_i e;subst e;cases h;exact HV
  .exact HS _ (bu h)
variable{M:MS}{a:Pi}{o:MO}
def bS(h:(a,o)∈M):a∈av M:=Ir.mpr #[_,h,rfl]
def ip:∀(M:MS) (a:Pi) (o:MO),av (mput M a o)=av M
 |[],_,_=>rfl
 |(b,p)::r,a,o=>by
  unfold mput;split
  .rfl
  .show b::av (mput r a o)=b::av r;rw[ip r a o]
def mem_put:∀{M:MS} {a b:Pi} {o q:MO},(av M).Nodup->(b,q)∈mput M a o->(b=a/\q=o/\a∈av M)\/(b≠a/\(b,q)∈M)
 |[],_,_,_,_,_,h=>by cases h
 |(c,p)::r,a,b,o,q,nd,h=>by
  have N1:c∉av r/\(av r).Nodup:=IL.mp nd;unfold mput at h;split at h
  .rename_i e;subst e;rcases HQ.mp h with z|z
   .cases z;exact .inl #[rfl,rfl,HV]
   .have:b∈av r:=bS z;exact .inr #[λe=>N1.1 (e ▸ this),HS _ z]
  .rename_i ne;rcases HQ.mp h with z|z
   .cases z;exact .inr #[ne,HV]
   .rcases mem_put N1.2 z with⟨e1,e2,e3⟩|⟨e1,e2⟩
    .exact .inl #[e1,e2,HS _ e3]
    .exact .inr #[e1,HS _ e2]
def lD:∀{M:MS} {a b:Pi} {q:MO},(av M).Nodup->(b,q)∈mdel M a->b≠a/\(b,q)∈M
 |[],_,_,_,_,h=>by cases h
 |(c,p)::r,a,b,q,nd,h=>by
  have N1:c∉av r/\(av r).Nodup:=IL.mp nd;unfold mdel at h;split at h
  .rename_i e;subst e;exact#[λe=>N1.1 (e ▸ bS h),HS _ h]
  .rename_i ne;rcases HQ.mp h with z|z
   .cases z;exact#[ne,HV]
   .obtain⟨e1,e2⟩:=lD N1.2 z;exact#[e1,HS _ e2]
def del_sub:∀{M:MS} {a:Pi},(av (mdel M a)).Sublist (av M)
 |[],_=>.slnil
 |(c,p)::r,a=>by
  unfold mdel;split
  .exact List.sublist_cons_self _ _
  .exact List.Sublist.cons_cons _ del_sub
variable{K:Ex}{F H F' H':Hp}
def MRep.mono(ff:Same F F')(hh:∀o,H a=be o->H' a=be o):∀{o:MO},MRep K F H a o->MRep K F' H' a o
 |.ins x fs,⟨C,dx,ws,n,h,r⟩=>#[C,dx,ws,n,hh _ h,RepF.mono ff fs ws r]
 |.lst ds,⟨vs,h,r⟩=>#[vs,hh _ h,Reps.mono ff ds vs r]
 |.dti a9,h=>hh _ h
def MRep.there:∀{o:MO},MRep K F H a o->H a≠v9
 |.ins x fs,⟨C,dx,ws,n,h,r⟩=>by rw[h];exact λz=>nomatch z
 |.lst ds,⟨vs,h,r⟩=>by rw[h];exact λz=>nomatch z
 |.dti a9,h=>by rw[show H a=_ from h];exact λz=>nomatch z
structure RepM(K:Ex)(F H:Hp)(M:MS):Prop where
 nd:(av M).Nodup
 ok:∀a o,(a,o)∈M->MRep K F H a o
 fr:∀a,a∈av M->F a=v9
def RepM.nil:RepM K F H []:=#[KG,(λ_ _ h=>nomatch h),(λ_ h=>nomatch h)]
def RepM.here(r:RepM K F H M)(h:a∈av M):H a≠none:=by
 obtain⟨⟨b,o⟩,h1,rfl⟩:=Ir.mp h;exact(r.ok _ _ h1).there
structure GrowM(M M':MS)(F H F' H':Hp):Prop where
 ff:Same F F'
 fh:Same F' H'
 hh:∀b o,b∉av M->H b=be o->H' b=be o
 out:∀b,b∉av M->F b=v9->H b≠v9->F' b=v9
 ks:∀b,b∈av M'->b∈av M\/H b=v9
def Grow.toM(g:Grow F H F' H'):GrowM M M F H F' H':=#[g.ff,g.fh,λb o _ h=>g.hh b o h,λb _ h1 h2=>g.out b h1 h2,λb h=>.inl h]
def GrowM.refl(h:Same F H):GrowM M M F H F H:=(Grow.refl h).toM
def GrowM.trans{M1 M2:MS}{F1 H1 F2 H2:Hp}(g:GrowM M M1 F H F1 H1)(k:GrowM M1 M2 F1 H1 F2 H2):GrowM M M2 F H F2 H2 where
  ff:=g.ff.trans k.ff
  fh:=k.fh
  hh:=λb o nb h=>k.hh b o (λz=>by rcases g.ks b z with q|q;exact nb q;rw[q]at h;cases h) (g.hh b o nb h)
  out:=λb nb h1 h2=>k.out b (λz=>by rcases g.ks b z with q|q;exact nb q;exact h2 q) (g.out b nb h1 h2) (by
    cases e:H b with
    |none=>exact absurd e h2
    |some o=>rw[g.hh b o nb e];exact λz=>nomatch z)
  ks :=λb h=>by
    rcases k.ks b h with q|q
    . exact g.ks b q
    . by_cases nb:b∈av M
      . exact .inl nb
      . right;cases e:H b with
        |none=>rfl
        |some o=>rw[g.hh b o nb e]at q;cases q
def RepM.grow(r:RepM K F H M)(g:Grow F H F' H'):RepM K F' H' M:=
 #[r.nd,λa o h=>(r.ok a o h).mono g.ff λo e=>g.hh a o e,λa h=>g.out a (r.fr a h) (r.here h)]
variable{ho:HO}
def RepM.put{o':MO}(r:RepM K F H M)(e:mget M a=be o)(h:MRep K F (upd H a ho) a o'):RepM K F (upd H a ho) (mput M a o'):=
 ⟨by rw[ip];exact r.nd,λb q hb=>by
  rcases mem_put r.nd hb with⟨rfl,rfl,_⟩|⟨ne,hb⟩
  .exact h
  .exact(r.ok b q hb).mono (Same.refl F) λu z=>by rw[ar ne];exact z,λb hb=>r.fr b (by rw[ip]at hb;exact hb)⟩
def GrowM.put{o':MO}(fh:Same F H)(fa:F a=v9)(e:mget M a=be o):GrowM M (mput M a o') F H F (upd H a ho) where
 ff:=Same.refl F
 fh:=λb u z=>by
  have ne:b≠a:=by rintro rfl;rw[fa]at z;cases z
  rw[ar ne];exact fh b u z
 hh:=λb u nb z=>by
  have ne:b≠a:=by rintro rfl;exact nb (bS (bu e))
  rw[ar ne];exact z
 out:=λb _ h _=>h
 ks:=λb h=>.inl (by rw[ip]at h;exact h)
def RepM.new{p:Pi}(r:RepM K F H M)(fh:Same F H)(hp:H p=v9)(h:MRep K F (upd H p ho) p o):RepM K F (upd H p ho) ((p,o)::M):=by
 have np:p∉av M:=λz=>r.here z hp;refine#[IL.mpr #[np,r.nd],λb q hb=>?_,λb hb=>?_]
 .rcases HQ.mp hb with z|z
  .cases z;exact h
  .exact(r.ok b q z).mono (Same.refl F) λu z'=>by rw[ar (λe:b=p=>np (e ▸ bS z))];exact z'
 .rcases HQ.mp hb with z|z
  .rw[z];exact fh.free hp
  .exact r.fr b z
def GrowM.new{p:Pi}(fh:Same F H)(hp:H p=v9):GrowM M ((p,o)::M) F H F (upd H p ho) where
 ff:=Same.refl F
 fh:=fh.trans (aO hp _)
 hh:=λb u _ z=>aO hp _ b u z
 out:=λb _ h _=>h
 ks:=λb h=>by
  rcases HQ.mp h with z|z
  .exact .inr (by rw[z];exact hp)
  .exact .inl z
structure RepZ(K:Ex)(B F H:Hp)(z:SD)(s:L2.St)(M:MS):Prop where
 rs:RepS K B F H z s
 no:∀(i:Nat) ds,z[i]?≠be (be (.own ds))
 rm:RepM K F H M
 mb:∀a,a∈av M->B a=v9
variable{B:Hp}{M':MS}
def Kept.growM[Jx]{F0:Hp}(k:Kept B F0 F H)(mb:∀a,a∈av M->B a=v9)(g:GrowM M M' F H F' H'):Kept B F0 F' H' where
 bh:=λb o e=>g.hh b o (λz=>by rw[mb b z]at e;cases e) (k.bh b o e)
 fh:=g.fh
 f0:=k.f0.trans g.ff
 out:=λb h1 h2=>g.out b (λz=>h2 (mb b z)) (k.out b h1 h2) (by
  cases e:B b with
  |none=>exact absurd e h2
  |some o=>rw[k.bh b o e];exact λz=>nomatch z)
 eb:=k.eb
 jf:=k.jf
 jo:=k.jo
variable{z:SD}{s:L2.St}
def RepS.growM(r:RepS K B F H z s)(no:∀(i:Nat) ds,z[i]?≠be (be (.own ds)))(g:GrowM M M' F H F' H'):RepS K B F' H' z s where
 len:=r.len
 val:=λi d e n=>let ⟨v,q1,q2⟩:=r.val i d e n;#[v,q1,q2.mono g.ff]
 own:=λi ds e=>absurd e (no i ds)
 apart:=r.apart
def RepZ.growM(r:RepZ K B F H z s M)(bh:Same B H)(g:GrowM M M' F H F' H')(rm:RepM K F' H' M'):RepZ K B F' H' z s M':=
 ⟨r.rs.growM r.no g,r.no,rm,λa h=>by
  rcases g.ks a h with q|q
  .exact r.mb a q
  .exact bh.free q⟩
def RepZ.set{i:Nat}{d:D}{v:V}(r:RepZ K B F H z s M)(rd:Rep K F d v):RepZ K B F H (z.set i (be d)) (s.set i (be v)) M:=
 ⟨r.rs.set rd,λj ds e=>by
  by_cases hj:i=j
  .subst hj;rw[Je]at e;simp at e;have:=rd.noown;rw[e.2]at this;cases this
  .rw[Ic hj]at e;exact r.no j ds e,r.rm,r.mb⟩
class Jm extends Jx where
 RM:SD->MS->XD
abbrev TME:=SD->MS->(D->MS->Prop)->Prop
abbrev TMT:=SD->MS->(Bool->MS->Prop)->Prop
abbrev TMA:=SD->MS->(List D->MS->Prop)->Prop
structure EndsM where
 nx:SD->MS->Prop
 rt:D->MS->Prop
 bk:SD->MS->Prop:=λ_ _=>False
 ct:SD->MS->Prop:=λ_ _=>False
abbrev TMS:=EndsM->SD->MS->Prop
def mE(K:Ex)[J:Jm](t:TME):TE:=λs H Q=>∃F z M,Kept J.B J.F0 F H/\RepZ K J.B F H z s M/\∃R:D->MS->Prop,t z M R/\∀d v M' F' H',GrowM M M' F H F' H'->R d M'->Rep K F' d v->RepM K F' H' M'->Q v H'
def mT(K:Ex)[J:Jm](t:TMT):TT:=λs H Q=>∃F z M,Kept J.B J.F0 F H/\RepZ K J.B F H z s M/\∃R:Bool->MS->Prop,t z M R/\∀b M' F' H',GrowM M M' F H F' H'->R b M'->RepM K F' H' M'->Q b H'
def mA(K:Ex)[J:Jm](t:TMA):TA:=λs H Q=>∃F z M,Kept J.B J.F0 F H/\RepZ K J.B F H z s M/\∃R:List D->MS->Prop,t z M R/\∀ds vs M' F' H',GrowM M M' F H F' H'->R ds M'->Reps K F' ds vs->RepM K F' H' M'->Q vs H'
structure EndsOkM[J:Jm](K:Ex)(F0:Hp)(ED:EndsM)(E:Ends):Prop where
 nx:∀z' s' M' F' H',Kept J.B F0 F' H'->ED.nx z' M'->RepZ K J.B F' H' z' s' M'->E.nx s' H'
 rt:∀d v M' F' H',Kept J.B F0 F' H'->ED.rt d M'->Rep K F' d v->RepM K F' H' M'->(∀a,a∈av M'->J.B a=v9)->E.rt v H'
 bk:∀z' s' M' F' H',Kept J.B F0 F' H'->ED.bk z' M'->RepZ K J.B F' H' z' s' M'->E.bk s' H'
 ct:∀z' s' M' F' H',Kept J.B F0 F' H'->ED.ct z' M'->RepZ K J.B F' H' z' s' M'->E.ct s' H'
def mS(K:Ex)[J:Jm](t:TMS):TS:=λE s H=>∃F0 F z M,Kept J.B F0 F H/\RepZ K J.B F H z s M/\∃ED:EndsM,t ED z M/\EndsOkM K F0 ED E
structure ME(X:Cx)[Jm](e:U8)(t:TME):Prop where
 out:PE X e (mE X.K t)
structure MT(X:Cx)[Jm](e:U8)(t:TMT):Prop where
 out:PT X e (mT X.K t)
structure MW(X:Cx)[Jm](e:U8)(t:TMT):Prop where
 out:PW X e (mT X.K t)
structure MA(X:Cx)[Jm](es:List U8)(t:TMA):Prop where
 out:PA X es (mA X.K t)
structure MSt(X:Cx)[Jm](st:U7)(t:TMS):Prop where
 out:PS X st (mS X.K t)
structure MSs(X:Cx)[Jm](st:List U7)(t:TMS):Prop where
 out:PSs X st (mS X.K t)
section
variable {X:Cx}{a b c e:U8}{ta tb:TME}{pos:Vh}
def mP(t:TD):TME:=λz M R=>t z λd=>R d M
def mPT(t:TDT):TMT:=λz M R=>t z λd=>R d M
def mPA(t:TDA):TMA:=λz M R=>t z λd=>R d M
def ag[J:Jm]{t:TD}(h:WDE X e t):ME X e (mP t):=⟨PE.anti h.out λs H Q q=>by
 obtain⟨F,z,M,k,r,R,h1,h2⟩:=q;exact#[J.B,F,z,k,r.rs,_,h1,λd v F' H' g hd rd=>h2 d v M F' H' g.toM hd rd (r.rm.grow g)]⟩
def bv[J:Jm]{t:TDT}(h:WDT X e t):MT X e (mPT t):=⟨PT.anti h.out λs H Q q=>by
 obtain⟨F,z,M,k,r,R,h1,h2⟩:=q;exact#[J.B,F,z,k,r.rs,_,h1,λd F' H' g hd=>h2 d M F' H' g.toM hd (r.rm.grow g)]⟩
variable{es:List U8}
def aA[J:Jm]{t:TDA}(h:WDA X es t):MA X es (mPA t):=⟨PA.anti h.out λs H Q q=>by
 obtain⟨F,z,M,k,r,R,h1,h2⟩:=q;exact#[J.B,F,z,k,r.rs,_,h1,λd v F' H' g hd rd=>h2 d v M F' H' g.toM hd rd (r.rm.grow g)]⟩
def mOp(r:RD2)(ta tb:TME):TME:=λz M R=>ta z M λx M1=>tb z M1 λy M2=>r x y λd=>R d M2
variable{r:R2}{rd:RD2}
def lF[J:Jm]{e:U8}{ta tb:TME}(L:aV X.K r rd)(h:PE X e (tOp r (mE X.K ta) (mE X.K tb))):ME X e (mOp rd ta tb):=⟨h.anti λs H Q q=>by
 obtain⟨F,z,M,k,rs,R,h1,h2⟩:=q;refine#[F,z,M,k,rs,_,h1,λx u M1 F1 H1 g1 hx rx m1=>?_];refine#[F1,z,M1,k.growM rs.mb g1,rs.growM k.bh g1 m1,_,hx,λy v M2 F2 H2 g2 hy ry m2=>?_];exact L x y u v F2 H2 _ Q g2.fh hy (rx.mono g2.ff) ry λd w F3 H3 g3 hd rd=>h2 d w M2 F3 H3 ((g1.trans g2).trans g3.toM) hd rd (m2.grow g3)⟩
def vb[J:Jm]{op:Wq}(ho:OpR X (Vv op) r)(L:aV X.K r rd)(ha:ME X a ta)(hb:ME X b tb):ME X (.BinOp a op b pos) (mOp rd ta tb):=lF L (ki ho ha.out hb.out)
def A3[J:Jm]{op:WO}(ho:OpR X (Vi op) r)(L:aV X.K r rd)(ha:ME X a ta)(hb:ME X b tb)(hm:Vu op b=false):ME X (.Compare a [op] [b] pos) (mOp rd ta tb):=lF L (rV ho ha.out hb.out hm)
def lG[J:Jm](ha:ME X a ta)(hb:ME X b tb)(hs:autoParam (eI b) zA6):ME X (.Subscript a b pos) (mOp rdIx ta tb):=lF tG (pe_ix sE ha.out hb.out hs)
def gp[Jm](ha:ME X a ta)(hb:ME X b tb):ME X (.BinOp a .Add b pos) (mOp kL ta tb):=vb sU sV ha hb
def dm[Jm](ha:ME X a ta)(hb:ME X b tb):ME X (.BinOp a .Sub b pos) (mOp kM ta tb):=vb rN sW ha hb
def mTst(t:TME):TMT:=λz M R=>t z M λx M1=>match x with|.bl k=>R k M1|_=>False
def fk[J:Jm]{op:WO}(ho:OpR X (Vi op) r)(L:aV X.K r rd)(ha:ME X a ta)(hb:ME X b tb)(hm:Vu op b=false):MT X (.Compare a [op] [b] pos) (mTst (mOp rd ta tb)):=⟨(kq ho ha.out hb.out hm).anti λs H Q q=>by
 obtain⟨F,z,M,k,rs,R,h1,h2⟩:=q;refine#[F,z,M,k,rs,_,h1,λx u M1 F1 H1 g1 hx rx m1=>?_];refine#[F1,z,M1,k.growM rs.mb g1,rs.growM k.bh g1 m1,_,hx,λy v M2 F2 H2 g2 hy ry m2=>?_];refine L x y u v F2 H2 _ _ g2.fh hy (rx.mono g2.ff) ry λd w F3 H3 g3 hd rd=>?_;dsimp only at hd;split at hd
 .exact#[_,rep_bl.mp rd,h2 _ M2 F3 H3 ((g1.trans g2).trans g3.toM) hd (m2.grow g3)]
 .exact hd.elim⟩
def vc[Jm](ha:ME X a ta)(hb:ME X b tb):MT X (.Compare a [.Lt] [b] pos) (mTst (mOp rdLt ta tb)):=fk rT tD ha hb (nomark _)
def A5[Jm](ha:ME X a ta)(hb:ME X b tb):MT X (.Compare a [.Gt] [b] pos) (mTst (mOp rdGt ta tb)):=fk km kN ha hb (nomark _)
def gq[Jm](ha:ME X a ta)(hb:ME X b tb):MT X (.Compare a [.Eq] [b] pos) (mTst (mOp rdEq ta tb)):=fk kj kO ha hb (nomark _)
def gu[Jm](ha:ME X a ta)(hb:ME X b tb):MT X (.Compare a [.NotEq] [b] pos) (mTst (mOp rdNe ta tb)):=fk rS tE ha hb (nomark _)
def lH[Jm](ha:ME X a ta)(hb:ME X b tb):MT X (.Compare a [.Is] [b] pos) (mTst (mOp (rdIs id) ta tb)):=fk ko kQ ha hb (nomark _)
def A6[Jm](ha:ME X a ta)(hb:ME X b tb)(hm:autoParam (Vu .NotIn b=false) zA0):MT X (.Compare a [.NotIn] [b] pos) (mTst (mOp (rdIn true) ta tb)):=fk AW AV ha hb hm
variable {tA tB:TMT}{rest:List U8}
def mt_w[Jm](h:MW X a tA):MT X a tA:=#[PW.pt h.out]
def A7[Jm](ha:MT X a tA):MW X (.BoolOp .And [a] pos) tA:=#[rA ha.out]
def iq[Jm](ha:MT X a tA):MW X (.BoolOp .Or [a] pos) tA:=#[rB ha.out]
def mAnd(tA tB:TMT):TMT:=λz M R=>tA z M λk M1=>if k=true then tB z M1 R else R false M1
def mOr(tA tB:TMT):TMT:=λz M R=>tA z M λk M1=>if k=true then R true M1 else tB z M1 R
def A8[J:Jm](ha:MT X a tA)(hb:MW X (.BoolOp .And (b::rest) pos) tB):MW X (.BoolOp .And (a::b::rest) pos) (mAnd tA tB):=⟨(rC ha.out hb.out).anti λs H Q q=>by
 obtain⟨F,z,M,k,rs,R,h1,h2⟩:=q;refine#[F,z,M,k,rs,_,h1,λx M1 F1 H1 g1 hx m1=>?_];cases x with
 |true=>exact#[F1,z,M1,k.growM rs.mb g1,rs.growM k.bh g1 m1,R,hx,λy M2 F2 H2 g2 hy m2=>h2 y M2 F2 H2 (g1.trans g2) hy m2]
 |false=>exact h2 _ M1 F1 H1 g1 hx m1⟩
def ir[J:Jm](ha:MT X a tA)(hb:MW X (.BoolOp .Or (b::rest) pos) tB):MW X (.BoolOp .Or (a::b::rest) pos) (mOr tA tB):=⟨(rD ha.out hb.out).anti λs H Q q=>by
 obtain⟨F,z,M,k,rs,R,h1,h2⟩:=q;refine#[F,z,M,k,rs,_,h1,λx M1 F1 H1 g1 hx m1=>?_];cases x with
 |false=>exact#[F1,z,M1,k.growM rs.mb g1,rs.growM k.bh g1 m1,R,hx,λy M2 F2 H2 g2 hy m2=>h2 y M2 F2 H2 (g1.trans g2) hy m2]
 |true=>exact h2 _ M1 F1 H1 g1 hx m1⟩
def mIf(tc:TMT)(ta tb:TME):TME:=λz M R=>tc z M λk M1=>if k=true then ta z M1 R else tb z M1 R
def gv[J:Jm]{tc:TMT}(hc:MT X c tc)(ha:ME X a ta)(hb:ME X b tb):ME X (.IfExp c a b pos) (mIf tc ta tb):=⟨(xC hc.out ha.out hb.out).anti λs H Q q=>by
 obtain⟨F,z,M,k,rs,R,h1,h2⟩:=q;refine#[F,z,M,k,rs,_,h1,λx M1 F1 H1 g1 hx m1=>?_];cases x with
 |true=>exact#[F1,z,M1,k.growM rs.mb g1,rs.growM k.bh g1 m1,R,hx,λd v M2 F2 H2 g2 hy rd m2=>h2 d v M2 F2 H2 (g1.trans g2) hy rd m2]
 |false=>exact#[F1,z,M1,k.growM rs.mb g1,rs.growM k.bh g1 m1,R,hx,λd v M2 F2 H2 g2 hy rd m2=>h2 d v M2 F2 H2 (g1.trans g2) hy rd m2]⟩
def mNil:TMA:=λ_ M R=>R [] M
def A9(ta:TME)(tr:TMA):TMA:=λz M R=>ta z M λx M1=>tr z M1 λxs M2=>R (x::xs) M2
def aZ[J:Jm]:MA X [] mNil:=⟨pa_nil.anti λs H Q q=>by
 obtain⟨F,z,M,k,rs,R,h1,h2⟩:=q;exact h2 [] [] M F H (GrowM.refl k.fh) h1 (reps_nil.mpr rfl) rs.rm⟩
variable{t:TMA}
def aE[J:Jm]{e:U8}{te:TME}(ha:ME X e te)(hr:MA X es t)(hs:autoParam (zSE X e es) zA0):MA X (e::es) (A9 te t):=⟨(bz ha.out hr.out hs).anti λs H Q q=>by
 obtain⟨F,z,M,k,rs,R,h1,h2⟩:=q;refine#[F,z,M,k,rs,_,h1,λx u M1 F1 H1 g1 hx rx m1=>?_];refine#[F1,z,M1,k.growM rs.mb g1,rs.growM k.bh g1 m1,_,hx,λxs us M2 F2 H2 g2 hy ry m2=>?_];exact h2 _ _ M2 F2 H2 (g1.trans g2) hy (reps_cons.mpr #[_,_,rfl,rx.mono g2.ff,ry]) m2⟩
def mTup(t:TMA):TME:=λz M R=>t z M λxs M1=>xs.length<=1000/\R (.tup xs) M1
def vd[J:Jm]{x1}(h:MA X es t):ME X (.Tuple es x1 pos) (mTup t):=⟨(sk h.out).anti λs H Q q=>by
 obtain⟨F,z,M,k,rs,R,h1,h2⟩:=q;refine#[F,z,M,k,rs,_,h1,λds vs M1 F1 H1 g1 hx rx m1=>?_];have hl:=rx.length;refine#[sz (by rw[hl];exact hx.1),λp hp=>?_];have gn:=Grow.new g1.fh hp (.tup vs);exact h2 _ _ M1 _ _ (g1.trans gn.toM) hx.2 (rep_tupS.mpr #[p,vs,rfl,aB,rx.mono (aO (g1.fh.free hp) _)]) (m1.grow gn)⟩
def mLst(t:TMA):TME:=λz M R=>t z M λxs M1=>xs.length<=1000/\∀p,p∉av M1->R (.ptr p) ((p,.lst xs)::M1)
def fo[J:Jm](h:MA X es t):ME X (.List es pos) (mLst t):=⟨(kz h.out).anti λs H Q q=>by
 obtain⟨F,z,M,k,rs,R,h1,h2⟩:=q;refine#[F,z,M,k,rs,_,h1,λds vs M1 F1 H1 g1 hx rx m1=>?_];have hl:=rx.length;refine#[sz (by rw[hl];exact hx.1),λp hp=>?_];exact h2 _ _ _ F1 _ (g1.trans (GrowM.new g1.fh hp)) (hx.2 p λz=>m1.here z hp) (rep_ptr.mpr rfl) (m1.new g1.fh hp #[vs,aB,rx])⟩
def mCB(r:RDn)(t:TMA):TME:=λz M R=>t z M λds M1=>r ds λd=>R d M1
variable{x:LB}{p:Vh}
def Ba[J:Jm]{e:U8}{id:String}{r:List V->Hp->VK->Prop}{rd:RDn}(hc:bO X (.builtin id) r)(L:cw X.K r rd)(hm:X.mg x=v9)(hv:Vo x=be (.builtin id))(ha:MA X (e::es) t)(hg:autoParam (Gl X x) zA0)(hn:autoParam (x≠"__name__") zA1)(d5:autoParam (zND x) zA1)
  (he:autoParam (zSE X e es) zA0) (c8:autoParam (zPL X pos es) zA0):ME X (.Call (.Name x p) (e::es) [] pos) (mCB rd t):=⟨(fP hc hg hm hv ha.out hn d5 he c8).anti λs H Q h=>by
 obtain⟨F,z,M,k,rs,R,h1,h2⟩:=h;refine#[F,z,M,k,rs,_,h1,λds vs M1 F1 H1 g1 hx rx m1=>?_];exact L ds vs F1 H1 _ Q g1.fh hx rx λd w F' H' g hd rd=>h2 d w M1 F' H' (g1.trans g.toM) hd rd (m1.grow g)⟩
def ve[Jm]{e:U8}(hm:X.mg "len"=v9)(ha:MA X [e] t)(hg:autoParam (Gl X "len") zA0)(he:autoParam (zSE X e []) zA0):ME X (.Call (.Name "len" p) [e] [] pos) (mCB kR t):=Ba kr tI hm PySem.boot_len ha hg Mx Mx he
def Bb[J:Jm]{e:U8}{T:String}{r:List V->Hp->VK->Prop}{rd:RDn}(hc:bO X (.type T) r)(L:cw X.K r rd)(hm:X.mg x=v9)(hv:Vo x=be (.type T))(ha:MA X (e::es) t)(hg:autoParam (Gl X x) zA0)(hn:autoParam (x≠"__name__") zA1)(d5:autoParam (zND x) zA1)
  (he:autoParam (zSE X e es) zA0) (c8:autoParam (zPL X pos es) zA0):ME X (.Call (.Name x p) (e::es) [] pos) (mCB rd t):=⟨(kA hc hg hm hv ha.out hn d5 he c8).anti λs H Q h=>by
 obtain⟨F,z,M,k,rs,R,h1,h2⟩:=h;refine#[F,z,M,k,rs,_,h1,λds vs M1 F1 H1 g1 hx rx m1=>?_];exact L ds vs F1 H1 _ Q g1.fh hx rx λd w F' H' g hd rd=>h2 d w M1 F' H' (g1.trans g.toM) hd rd (m1.grow g)⟩
def vf[Jm](hm:X.mg "int"=v9)(ha:MA X [e] t)(hg:autoParam (Gl X "int") zA0)(he:autoParam (zSE X e []) zA0):ME X (.Call (.Name "int" p) [e] [] pos) (mCB kZ t):=Bb tR tS hm PyProof.Rows.boot_int ha hg Mx Mx he
def du(M:MS)(d:D)(x:LB)(fs:List (LB×D)):Prop:=match d with|.ptr a=>mget M a=be (.ins x fs)|.obj y gs=>y=x/\gs=fs|_=>False
def mFld(x f:LB)(te:TME):TME:=λz M R=>te z M λd M1=>∃fs,du M1 d x fs/\∃d',fs.lookup f=be d'/\R d' M1
def iu{K:Ex}{F H:Hp}{M:MS}{d:D}{v:V}{fs:List (LB×D)}(fh:Same F H)(rm:RepM K F H M)(rd:Rep K F d v)(h:du M d x fs):∃a C dx ws,v=.ref a/\nsIn K SL x=be (be (.ref C))/\H a=be (.ins C dx ws)/\RepF K F fs ws:=by
 unfold du at h;split at h
 .rename_i a;obtain⟨C,dx,ws,n,h1,h2⟩:=rm.ok _ _ (bu h);exact#[a,C,dx,ws,rep_ptr.mp rd,n,h1,h2]
 .obtain⟨rfl,rfl⟩:=h;obtain⟨a,C,dx,ws,e,n,h1,h2⟩:=rep_obj.mp rd;exact#[a,C,dx,ws,e,n,fh _ _ h1,h2]
 .exact h.elim
def aG[J:Jm]{f:LB}(hA:ClsA X.K x f)(he:ME X e ta)(hb:autoParam (Ve e f X.env (Vf e X.env)=Vf e X.env) zA0):ME X (.Attribute e f pos) (mFld x f ta):=⟨(sf he.out hb).anti λs H Q q=>by
 obtain⟨C,hn,hc,hf⟩:=hA;obtain⟨F,z,M,k,rs,R,h1,h2⟩:=q;refine#[F,z,M,k,rs,_,h1,λd u M1 F1 H1 g1 hx rx m1=>?_];obtain⟨fs,hi,d',hl,hR⟩:=hx;obtain⟨a,C',dx,ws,rfl,g5,hH,rf⟩:=iu g1.fh m1 rx hi;rw[hn]at g5;cases g5;obtain⟨v,l,rv⟩:=rf.look hl;exact#[a,C,dx,ws,v,rfl,hH,hc,hf,l,h2 d' v M1 F1 H1 g1 hR rv m1]⟩
end
abbrev XDM:=LB->List (LB×D)->MS->Prop
abbrev SpM:=List D->MS->(D->MS->Prop)->XDM->Prop
def lSpM(K:Ex)(S:SpM):Sp:=λvs H Q E=>∃F ds M,Same F H/\Reps K F ds vs/\RepM K F H M/\∃(R:D->MS->Prop) (RX:XDM),S ds M R RX/\(∀d v M' F' H',GrowM M M' F H F' H'->R d M'->Rep K F' d v->RepM K F' H' M'->Q v H')/\
 ∀x fs C od M' F' H',GrowM M M' F H F' H'->RX x fs M'->ErrD K F' x fs C od->RepM K F' H' M'->E (.ref C) od H'
abbrev CalMM(P:U')(w:Va)(K:Ex)(mg:LB->Option Os)(base:Heap)(n:Nat)(x:LB)(ps:List LB)(S:SpM):Prop:=Cal P w K mg base n x ps (lSpM K S)
def ofX(S:SpX):SpM:=λds M R RX=>S ds (λd=>R d M) λx fs=>RX x fs M
def ofD(S:SpD):SpM:=λds M R _=>S ds λd=>R d M
variable{vs:List V}
def Bc{S:SpX}{Q:VK}{E:XK}(h:lSpM K (ofX S) vs H Q E):lSpX K S vs H Q E:=by
 obtain⟨F,ds,M,fh,rs,rm,R,RX,hS,q,qx⟩:=h;exact#[F,ds,fh,rs,_,_,hS,λd v F' H' g hd rd=>q d v M F' H' g.toM hd rd (rm.grow g),λx fs C od F' H' g hR er=>qx x fs C od M F' H' g.toM hR er (rm.grow g)]
def Bd{S:SpD}{Q:VK}{E:XK}(h:lSpM K (ofD S) vs H Q E):lSp K S vs H Q E:=by
 obtain⟨F,ds,M,fh,rs,rm,R,RX,hS,q,qx⟩:=h;exact#[F,ds,fh,rs,_,hS,λd v F' H' g hd rd=>q d v M F' H' g.toM hd rd (rm.grow g)]
section
variable {P:U'}{w:Va}{K:Ex}{mg:LB->Option Os}{base:Heap}{n:Nat}{x:LB}{ps:List LB}
def CalX.toM{S:SpX}(C:CalX P w K mg base n x ps S):CalMM P w K mg base n x ps (ofX S):=by
 obtain⟨f,fd,F,hb,hk,hm⟩:=C;exact#[f,fd,F.imp λvs H Q E h=>Bc h,hb,hk,hm]
def CalD.toM{S:SpD}(C:CalD P w K mg base n x ps S):CalMM P w K mg base n x ps (ofD S):=by
 obtain⟨f,fd,F,hb,hk,hm⟩:=C;exact#[f,fd,F.imp λvs H Q E h=>Bd h,hb,hk,hm]
def CalMth(P:U')(w:Va)(K:Ex)(mg:LB->Option Os)(base:Heap)(n:Nat)(x m:LB)(ps:List LB)(sp:Sp):Prop:=
 ∃C f fd,nsIn K SL x=be (be (.ref C))/\Cls K C/\Meth K C m f/\FnOk P w K mg base (CX1 P w) n f fd ps sp/\Binds K fd ps []
variable{sp:Sp}
def Cal.mono{n':Nat}(h:Cal P w K mg base n x ps sp)(hn:n<=n'):Cal P w K mg base n' x ps sp:=by
 obtain⟨f,fd,F,h⟩:=h;exact#[f,fd,F.mono hn,h]
def Cal.imp{L9:Sp}(h:Cal P w K mg base n x ps sp)(i:∀vs H Q E,L9 vs H Q E->sp vs H Q E):Cal P w K mg base n x ps L9:=by
 obtain⟨f,fd,F,h⟩:=h;exact#[f,fd,F.imp i,h]
def CalMth.imp{m:LB}{L9:Sp}(h:CalMth P w K mg base n x m ps sp)(i:∀vs H Q E,L9 vs H Q E->sp vs H Q E):CalMth P w K mg base n x m ps L9:=by
 obtain⟨C,f,fd,h1,h2,h3,h4,h5⟩:=h;exact#[C,f,fd,h1,h2,h3,h4.imp i,h5]
end
def XOkM(X:Cx)[J:Jm]:Prop:=∀(σ:L2.St) (z:SD) (M:MS) (F H:Hp) (s:SB) (e C:Pi) (od:Option Pi) (x:LB) (fs:List (LB×D)),Inv X [] σ H s->Kept J.B J.F0 F H->RepZ X.K J.B F H z σ M->J.RM z M x fs->ErrD X.K F x fs C od->Exd X H s e C od->X.xe (.ref e) s
def EX(X:Cx)[J:Jm](z:SD)(σ:L2.St):XK:=λCv od H'=>∃x fs C M' F',Cv=.ref C/\Kept J.B J.F0 F' H'/\RepZ X.K J.B F' H' z σ M'/\J.RM z M' x fs/\ErrD X.K F' x fs C od
def XOkM.out{X:Cx}[J:Jm](hx:XOkM X)(d_:X.ex=[]){pins:List (Pi×Vp)}{σ:L2.St}{s s':SB}{ev:Os}(I:Inv X pins σ H s)
  (h:CX1 X.prog X.w X.stack H s (EX X z σ) ev s'):X.xe ev s':=by
 obtain⟨e,C,od,T,H',rfl,LD,hb,un,hok,Px,ne,nT,He,HT,x,fs,C',M',F',hC,kk,rr,hR,er⟩:=h;cases hC;have I':Inv X pins σ H' s':=I.call' LD un hok hb (λb z=>absurd z MD);exact hx σ z M' F' H' s' e C od x fs (Inv.nopins I') kk rr hR er #[He,cH I d_ ne,pn_free I ne,.inr #[T,Px,cH I d_ nT,HT,pn_free I nT]]
section
variable {X:Cx}[J:Jm]{a b c e o:U8}{ta tb te:TME}{pos p apos cpos:Vh}{n m:Nat}{ps:List LB}{S:SpM}{x:LB}{es:List U8}{t:TMA}
def Be(S:SpM)(t:TMA):TME:=λz M R=>t z M λds M1=>S ds M1 R λx fs M'=>J.RM z M' x fs
variable{ds:List My.D}{vs:List V}
def iy{σ:L2.St}{z:SD}{M M1:MS}{F H F1 H1:Hp}{Q:VK}{R:D->MS->Prop}(k:Kept J.B J.F0 F H)(rs:RepZ X.K J.B F H z σ M)(g1:GrowM M M1 F H F1 H1)(m1:RepM X.K F1 H1 M1)(rx:Reps X.K F1 ds vs)
  (hS:S ds M1 R λx fs M'=>J.RM z M' x fs) (h2:∀d v M' F' H',GrowM M M' F H F' H'->R d M'->Rep X.K F' d v->RepM X.K F' H' M'->Q v H'):lSpM X.K S vs H1 Q (EX X z σ):=
 #[F1,ds,M1,g1.fh,rx,m1,R,_,hS,λd v M' F' H' g hd rd m'=>h2 d v M' F' H' (g1.trans g) hd rd m',λy fs C od M' F' H' g hR er m'=>#[y,fs,C,M',F',rfl,(k.growM rs.mb g1).growM (rs.growM k.bh g1 m1).mb g,(rs.growM k.bh g1 m1).growM (k.growM rs.mb g1).bh g m',hR,er]]
def aM(C:CalMM X.prog X.w X.K X.mg X.base n x ps S)(hx:XOkM X)(hr:Room m X.A)(ha:MA X (e::es) t)(d_:autoParam (X.ex=[]) zA0)(hg:autoParam (Gl X x) zA0)(hn:autoParam (n<=m) zA1)(d5:autoParam (zND x) zA1)
  (he:autoParam (zSE X e es) zA0) (c8:autoParam (zPL X pos es) zA0):
  ME X (.Call (.Name x p) (e::es) [] pos) (Be S t):=by
 obtain⟨f,fd,F,hb,hk,hm⟩:=C;refine#[λpins s σ H Q I h=>?_];obtain⟨Fr,z,M,k,rs,R,h1,h2⟩:=h;refine Vj (cv I hg hm ?_ d5);refine callWith_K (h₀:=X.base) I.ok.mod.kin hk (thn (ha.out pos pins s σ H (λvs H1=>lSpM X.K S vs H1 Q (EX X z σ)) I #[Fr,z,M,k,rs,_,h1,λds vs M1 F1 H1 g1 hx rx m1=>iy k rs g1 m1 rx hx h2]) λus s1 hh=>#[hh.elim λ_ h=>h.elim λ_ h=>h.1.kIn,?_]) he c8;obtain⟨vs,H1,I1,r,q⟩:=hh;exact ij F (hr.mono hn) hb (λe s' hq=>hx.out d_ I1 hq) I1 r q
def vg(cs:List LB)(m:LB)(S:LB->SpM)(to:TME)(t:TMA):TME:=λz M R=>to z M λd M1=>∃x,x∈cs/\∃fs,du M1 d x fs/\fs.lookup m=v9/\t z M1 λds M2=>S x (d::ds) M2 R λx fs M'=>J.RM z M' x fs
variable{cs:List LB}{pl:WE Bool}
def aU{nm:LB}{S:LB->SpM}(C:∀x,x∈cs->CalMth X.prog X.w X.K X.mg X.base n x nm ps (lSpM X.K (S x)))(hx:XOkM X)(hr:Room m X.A)(ho:ME X o te)(ha:MA X (e::es) t)(d_:autoParam (X.ex=[]) zA0)(hn:autoParam (n<=m) zA1)
  (k9:autoParam (zSE X e es) zA0) (c8:autoParam (zPL X pos es) zA0)
  (ht:Vf (.Call (.Attribute o nm apos) (e::es) [] pos) X.env=(do
   let ov <-Vf o X.env
   VT apos.atName
   let (f,first) <-Vy [ov] (V8 ov nm pl)
   WL pos f first (VH pos (Vc (e::es) X.env)) (V1 pos (VF [] X.env))):=by rfl):
  ME X (.Call (.Attribute o nm apos) (e::es) [] pos) (vg cs nm S te t):=by
 refine#[λpins s σ H Q I h=>?_];obtain⟨Fr,z,M,k,rs,R,h1,h2⟩:=h;refine methodCall_KW (pl:=pl) (thn (ho.out pins s σ H (λv H1=>∃d M1 F1,GrowM M M1 Fr H F1 H1/\Rep X.K F1 d v/\RepM X.K F1 H1 M1/\∃x,x∈cs/\∃fs,du M1 d x fs/\fs.lookup nm=v9/\t z M1 λds M2=>S x (d::ds) M2 R λx fs M'=>J.RM z M' x fs) I #[Fr,z,M,k,rs,_,h1,λd v M1 F1 H1 g1 hd rd m1=>#[d,M1,F1,g1,rd,m1,hd]]) λu s1 hh=>?_) ht;obtain⟨v,H1,I1,rv,d,M1,F1,g1,rd,m1,x,PU,fs,hi,hl,hq⟩:=hh;obtain⟨C',f,fd,hns,g9,Mc,F,hb⟩:=C x PU;obtain⟨a,C2,dx,ws,rfl,n6,hH,rf⟩:=iu g1.fh m1 rd hi;rw[hns]at n6;cases n6;obtain rfl:u=Value.ref a:=rv;refine ky I1 hH g9 Mc (rf.none hl) ?_;refine callWith_K (first:=[.ref a]) (h₀:=X.base) I.ok.mod.kin Mc.kp (thn (ha.out pos pins s1 σ H1 (λvs H2=>lSpM X.K (S x) (.ref a::vs) H2 Q (EX X z σ)) I1 #[F1,z,M1,k.growM rs.mb g1,rs.growM k.bh g1 m1,_,hq,λds vs M2 F2 H2 g2 hx rx m2=>iy k rs (g1.trans g2) m2 (reps_cons.mpr #[_,_,rfl,rd.mono g2.ff,rx]) hx h2]) λus s2 hh=>#[hh.elim λ_ h=>h.elim λ_ h=>h.1.kIn,?_]) k9 c8;obtain⟨vs,H2,I2,r,q2⟩:=hh;exact ij (us:=.ref a::us) (vs:=.ref a::vs) F (hr.mono hn) hb (λe s' hq=>hx.out d_ I2 hq) I2 (.cons rfl r) q2
def cj{nm:LB}{S:LB->SpM}(C:∀x,x∈cs->CalMth X.prog X.w X.K X.mg X.base n x nm ps (lSpM X.K (S x)))(hx:XOkM X)(hr:Room m X.A)(ho:ME X o te)(d_:autoParam (X.ex=[]) zA0)(hn:autoParam (n<=m) zA1)
  (ht:Vf (.Call (.Attribute o nm apos) [] [] pos) X.env=(do
   let ov <-Vf o X.env
   VT apos.atName
   let (f,first) <-Vy [ov] (V8 ov nm pl)
   WL pos f first (VH pos (Vc [] X.env)) (V1 pos (VF [] X.env))):=by rfl):
  ME X (.Call (.Attribute o nm apos) [] [] pos) (vg cs nm S te mNil):=by
 refine#[λpins s σ H Q I h=>?_];obtain⟨Fr,z,M,k,rs,R,h1,h2⟩:=h;refine methodCall_KW (pl:=pl) (thn (ho.out pins s σ H (λv H1=>∃d M1 F1,GrowM M M1 Fr H F1 H1/\Rep X.K F1 d v/\RepM X.K F1 H1 M1/\∃x,x∈cs/\∃fs,du M1 d x fs/\fs.lookup nm=v9/\S x [d] M1 R λx fs M'=>J.RM z M' x fs) I #[Fr,z,M,k,rs,_,h1,λd v M1 F1 H1 g1 hd rd m1=>#[d,M1,F1,g1,rd,m1,hd]]) λu s1 hh=>?_) ht;obtain⟨v,H1,I1,rv,d,M1,F1,g1,rd,m1,x,PU,fs,hi,hl,hq⟩:=hh;obtain⟨C',f,fd,hns,g9,Mc,F,hb⟩:=C x PU;obtain⟨a,C2,dx,ws,rfl,n6,hH,rf⟩:=iu g1.fh m1 rd hi;rw[hns]at n6;cases n6;obtain rfl:u=Value.ref a:=rv;refine ky I1 hH g9 Mc (rf.none hl) ?_;refine callWith_K0 (first:=[.ref a]) I1.kIn Mc.kp (ij (E:=EX X z σ) (us:=[.ref a]) (vs:=[.ref a]) F (hr.mono hn) hb (λe s' hq=>hx.out d_ I1 hq) I1 (.cons rfl .nil) ?_);exact iy k rs g1 m1 (eU rd) hq h2
def make_of{C:Pi}{S:SiD}{x:LB}{σ:L2.St}{z:SD}{M M1:MS}{F H F1 H1:Hp}{a dx:Pi}{Q:VK}{E:XK}{T:List (LB×D)->Prop}(g1:GrowM M M1 F H F1 H1)(m1:RepM X.K F1 H1 M1)(rx:Reps X.K F1 ds vs)(hS:S ds T)
  (ha:H1 a=v9) (o_:H1 dx=v9) (j9:dx≠a) (q:∀fs ws dx F' H',Grow F1 H1 F' H'->T fs->H' a=be (.ins C dx ws)->F' a=v9->RepF X.K F' fs ws->Q (.ref a) H'):
  lSi X.K C S (.ref a::(vs++[])) (upd (upd H1 dx (.own a)) a (.ins C dx [])) (λv H2=>v=.non/\Q (.ref a) H2) E:=
 #[a,dx,vs,H1,F1,ds,by rw[IA],rfl,ha,o_,j9,g1.fh,rx,_,hS,λfs ws LN F' H' g hR e_ i9 rf=>#[rfl,q fs ws LN F' H' g hR e_ i9 rf]]
def Bf(x:LB)(S:SiD)(t:TMA):TME:=λz M R=>t z M λds M1=>S ds λfs=>R (.obj x fs) M1
def iz{S:SiD}(M:CalM X.prog X.w X.K X.mg X.base n x ps S)(hr:Room m X.A)(ha:MA X (e::es) t)(hg:autoParam (Gl X x) zA0)(hn:autoParam (n+1<=m) zA1)(d5:autoParam (zND x) zA1)
  (he:autoParam (zSE X e es) zA0) (c8:autoParam (zPL X pos es) zA0):
  ME X (.Call (.Name x p) (e::es) [] pos) (Bf x S t):=by
 obtain⟨C,f,fd,hns,j_,mk,F,hb⟩:=M;refine#[(gU mk F (hr.mono hn) hg j_ hb .nil eL ha.out d5 he c8).anti λs H Q q=>?_];obtain⟨F,z,M,k,rs,R,h1,h2⟩:=q;refine#[F,z,M,k,rs,_,h1,λds vs M1 F1 H1 g1 hx rx m1=>?_];intro a dx ha o_ j9;refine make_of (σ:=s) (z:=z) (x:=x) g1 m1 rx hx ha o_ j9 λfs ws dx F' H' g hR e_ i9 rf=>?_;have s1:Same F' (upd F' a (.ins C dx ws)):=aO i9 _;have g2:Grow F1 H1 (upd F' a (.ins C dx ws)) H':=⟨g.ff.trans s1,λb o q=>by
  by_cases hb:b=a
  .subst hb;rw[aB]at q;cases q;exact e_
  .rw[ar hb]at q;exact g.fh b o q,g.hh,λb q1 q2=>by
  by_cases hb:b=a
  .subst hb;exact absurd ha q2
  .rw[ar hb];exact g.out b q1 q2⟩
 exact h2 (.obj x fs) (.ref a) M1 (upd F' a (.ins C dx ws)) H' (g1.trans g2.toM) hR (rep_obj.mpr #[a,C,dx,ws,rfl,hns,aB,RepF.mono s1 fs ws rf]) (m1.grow g2)
def Bg(x:LB)(S:SiD)(t:TMA):TME:=λz M R=>t z M λds M1=>S ds λfs=>∀a,a∉av M1->R (.ptr a) ((a,.ins x fs)::M1)
def Bh{S:SiD}(M:CalM X.prog X.w X.K X.mg X.base n x ps S)(hr:Room m X.A)(ha:MA X (e::es) t)(hg:autoParam (Gl X x) zA0)(hn:autoParam (n+1<=m) zA1)(d5:autoParam (zND x) zA1)
  (he:autoParam (zSE X e es) zA0) (c8:autoParam (zPL X pos es) zA0):
  ME X (.Call (.Name x p) (e::es) [] pos) (Bg x S t):=by
 obtain⟨C,f,fd,hns,j_,mk,F,hb⟩:=M;refine#[(gU mk F (hr.mono hn) hg j_ hb .nil eL ha.out d5 he c8).anti λs H Q q=>?_];obtain⟨F,z,M,k,rs,R,h1,h2⟩:=q;refine#[F,z,M,k,rs,_,h1,λds vs M1 F1 H1 g1 hx rx m1=>?_];intro a dx ha o_ j9;refine make_of (σ:=s) (z:=z) (x:=x) g1 m1 rx hx ha o_ j9 λfs ws dx F' H' g hR e_ i9 rf=>?_;have na:a∉av M1:=λz=>m1.here z ha;have m2:=m1.grow g;refine h2 (.ptr a) (.ref a) _ F' H' (g1.trans #[g.ff,g.fh,λb o _ q=>g.hh b o q,λb _ q1 q2=>g.out b q1 q2,λb q=>?_]) (hR a na) (rep_ptr.mpr rfl) #[IL.mpr #[na,m2.nd],λb o q=>?_,λb q=>?_]
 .rcases HQ.mp q with q|q
  .exact .inr (by rw[q];exact ha)
  .exact .inl q
 .rcases HQ.mp q with q|q
  .cases q;exact#[C,dx,ws,hns,e_,rf]
  .exact m2.ok b o q
 .rcases HQ.mp q with q|q
  .rw[q];exact i9
  .exact m2.fr b q
end
section
variable {X:Cx}{x:LB}{e:U8}{es:List U8}{t:TA}{p cpos pos:Vh}{n m:Nat}{ps:List LB}{S:SiD}
def iA(X:Cx)(σ:L2.St)(F1 H1:Hp)(x:LB)(fs:List (LB×D)):Prop:=∀F' H' s' e C od,Inv X [] σ H' s'->Grow F1 H1 F' H'->ErrD X.K F' x fs C od->Exd X H' s' e C od->X.xe (.ref e) s'
def Bi(M:CalE X.prog X.w X.K X.mg X.base n x ps S)(hr:Room m X.A)(hc:X.calm=true)(ha:PA X (e::es) t)(d_:autoParam (X.ex=[]) zA0)(hg:autoParam (Gl X x) zA0)(hn:autoParam (n+1<=m) zA1)(d5:autoParam (zND x) zA1)
  (he:autoParam (zSE X e es) zA0) (c8:autoParam (zPL X cpos es) zA0):
  PS X (.Raise (be (.Call (.Name x p) (e::es) [] cpos)) v9 pos) (λ_ σ H=>t σ H λvs H1=>vs.length<=1000/\∃F1 ds,Same F1 H1/\Reps X.K F1 ds vs/\∃T:List (LB×D)->Prop,S ds T/\∀fs,T fs->iA X σ F1 H1 x fs):=by
 obtain⟨C,N,bm,f,fd,k,hi,Nz,Fn,hb⟩:=M;intro pins s σ H D I h;obtain⟨nm,q,bs,sn,sub,ab,col,dd,k0,k1,k2,k3,k5,lk⟩:=k.obj;refine kI (nm:=nm) (q:=q) (C:=C) (N:=N) (bs:=bs) (bm:=bm) (hdct:=true) (sn:=sn) (sub:=sub) (ab:=ab) (col:=col) (dd:=dd) (k0:=k0) (k1:=k1) (k2:=k2) (k3:=k3) (k5:=k5) (newId:="ValueError.__new__") k.base (I.ok.hd hc) ?_;refine Vj (cv I hg k.mg ?_ d5);refine callWith_K (h₀:=X.base) I.ok.mod.kin k.kp (thn (ha cpos pins s σ H _ I h) λus s1 hh=>#[hh.elim λ_ h=>h.elim λ_ h=>h.1.kIn,?_]) he c8;obtain⟨vs,H1,I1,r,hl,F1,ds,PV,rx,T,hS,hT⟩:=hh;have hC:=I1.kIn _ _ lk;have To:us.length<=sizeLine:=by rw[<-L2.Vals.length r];exact sz hl
 refine zx (g:=s1.gens) (d:=s1.drawn) (t:=s1.toks) (os:=s1.os) (rest:=us) I1.kIn (tail_of_in I1.kIn k.tail) hC hi (beq_iff_eq.mp Nz) (λh' ea hm=>?_) To;have I2:=Inv.newx I1 d_ hm;have r2:Vals (V.ref ea::vs) (Value.ref ea::us):=.cons rfl r;have He:H1 ea=none:=gl I1.hok hm.new;have z7:lEi X.K C S (V.ref ea::vs) (upd H1 ea (XN ea C v9)) (λv H'=>v=.non/\∃fs od F',Grow F1 H1 F' H'/\iA X σ F1 H1 x fs/\H' ea=be (XN ea C od)/\F' ea=v9/\ErrF X.K F' fs od) (λ_ _ _=>False):=
  #[ea,vs,H1,F1,ds,rfl,rfl,He,PV,rx,_,hS,λfs od F' H' g hR h1 h2 h3=>#[rfl,fs,od,F',g,hT fs hR,h1,h2,h3]]
 have b8:(Value.ref ea::us).length=ps.length:=by rw[<-L2.Vals.length r2];exact Fn.len _ _ _ _ z7
 have gV:=hb {s1 with heap:=h'} (Value.ref ea::us) I2.kIn (by rw[IA];exact b8);rw[IA]at gV;refine VJ (VG (Fn.run _ X.stack _ _ #[Value.ref ea::us,[]] (Value.ref ea::us) _ _ _ ((hr.mono hn).make C us []) (I2.env0.make C us []) gV r2 z7) λrr s' hq=>?_);cases rr with
 |error e'=>exact(eL (X:=X) pins σ _ _ e' s' I2 hq:X.xe e' s')
 |ok fl=>
  cases fl with
  |next=>exact False.elim hq
  |brk=>exact False.elim hq
  |cont=>exact False.elim hq
  |ret u=>
   obtain⟨v,H',I3,rv,rfl,fs,od,F',g,hR,t9,Tp,er⟩:=I2.after hq;obtain rfl:u=Value.none:=rv;refine#[rfl,?_];have e0:X.s₀.heap.get? ea=none:=cH I1 d_ hm.new;have I4:=Inv.drop I3 t9 e0;obtain⟨ta,sl,j5⟩:=XN.get I3.hok t9;have g4:Grow F1 H1 F' (del H' ea):=⟨g.ff,λb o q=>by
    have:b≠ea:=λz=>by rw[z,Tp]at q;cases q
    rw[cn this];exact g.fh b o q,λb o q=>by
    have:b≠ea:=λz=>by rw[z,He]at q;cases q
    rw[cn this];exact g.hh b o q,g.out⟩
   refine#[ea,ta,od,sl,rfl,I3.kIn _ _ lk,j5,?_];exact hR F' (del H' ea) s' ea C od (Inv.nopins I4) g4 #[k.ns,er] #[gm,e0,pn_free I1 hm.new,.inl #[sl,_,j5,rfl]]
def Bj(h:∃C N bm,ErrK X.K X.mg x C N bm/\ErrN X.K N)(hc:X.calm=true)(ha:PA X (e::es) t)(d_:autoParam (X.ex=[]) zA0)(hg:autoParam (Gl X x) zA0)(d5:autoParam (zND x) zA1)
  (he:autoParam (zSE X e es) zA0) (c8:autoParam (zPL X cpos es) zA0):
  PS X (.Raise (be (.Call (.Name x p) (e::es) [] cpos)) v9 pos) (λ_ σ H=>t σ H λvs H1=>vs.length<=1000/\∃F1,Same F1 H1/\iA X σ F1 H1 x []):=by
 obtain⟨C,N,bm,k,kn⟩:=h;intro pins s σ H D I h;obtain⟨nm,q,bs,sn,sub,ab,col,dd,k0,k1,k2,k3,k5,lk⟩:=k.obj;refine kI (nm:=nm) (q:=q) (C:=C) (N:=N) (bs:=bs) (bm:=bm) (hdct:=true) (sn:=sn) (sub:=sub) (ab:=ab) (col:=col) (dd:=dd) (k0:=k0) (k1:=k1) (k2:=k2) (k3:=k3) (k5:=k5) (newId:="ValueError.__new__") k.base (I.ok.hd hc) ?_;refine Vj (cv I hg k.mg ?_ d5);refine callWith_K (h₀:=X.base) I.ok.mod.kin k.kp (thn (ha cpos pins s σ H _ I h) λus s1 hh=>#[hh.elim λ_ h=>h.elim λ_ h=>h.1.kIn,?_]) he c8;obtain⟨vs,H1,I1,r,hl,F1,PV,hR⟩:=hh;have hC:=I1.kIn _ _ lk;obtain⟨hp,gg,dr,tk,os⟩:=s1;refine WR PySem.F.excBase_ValueError (tail_of_in I1.kIn k.tail) hC (.of_isNs (isNs_of_in I1.kIn kn.ok)) (nsMap_none_of_in I1.kIn kn.ok kn.no) (λh' ea hm=>?_) (by show us.length<=_;rw[<-L2.Vals.length r];exact sz hl);obtain⟨ta,h1,h2,h3⟩:=hm.there;have I2:Inv X pins σ H1 #[h',gg,dr,tk,os]:=I1.kept (t':=tk) hm.keeps;refine#[ea,ta,v9,[].toArray,rfl,hm.keeps _ _ hC,h1,?_];exact hR F1 H1 _ ea C v9 (Inv.nopins I2) (Grow.refl PV) #[k.ns,[],repf_nil.mpr rfl,.inl #[rfl,rfl]] #[gl I1.hok hm.new,cH I1 d_ hm.new,pn_free I1 hm.new,.inl #[[].toArray,_,h1,rfl]]
end
section
variable {X:Cx}[J:Jm]{x:LB}{e:U8}{es:List U8}{t:TMA}{p cpos pos:Vh}{n m:Nat}{ps:List LB}{S:SiD}
def Bk(x:LB)(S:SiD)(t:TMA):TMS:=λ_ z M=>t z M λds M1=>ds.length<=1000/\S ds λfs=>J.RM z M1 x fs
def vh{σ:L2.St}{z:SD}{M M1:MS}{F H F1 H1:Hp}{fs:List (LB×D)}(hx:XOkM X)(k:Kept J.B J.F0 F H)(rs:RepZ X.K J.B F H z σ M)(g1:GrowM M M1 F H F1 H1)(m1:RepM X.K F1 H1 M1)(hR:J.RM z M1 x fs):iA X σ F1 H1 x fs:=λF' H' s' e C od I g er ex=>
 hx σ z M1 F' H' s' e C od x fs I ((k.growM rs.mb g1).grow g) ((rs.growM k.bh g1 m1).growM (k.growM rs.mb g1).bh g.toM (m1.grow g)) hR er ex
def Bl(M:CalE X.prog X.w X.K X.mg X.base n x ps S)(hr:Room m X.A)(hx:XOkM X)(hc:X.calm=true)(ha:MA X (e::es) t)(d_:autoParam (X.ex=[]) zA0)(hg:autoParam (Gl X x) zA0)(hn:autoParam (n+1<=m) zA1)(d5:autoParam (zND x) zA1)
  (he:autoParam (zSE X e es) zA0) (c8:autoParam (zPL X cpos es) zA0):
  MSt X (.Raise (be (.Call (.Name x p) (e::es) [] cpos)) v9 pos) (Bk x S t):=⟨(Bi M hr hc ha.out d_ hg hn d5 he c8).anti λE s H q=>by
 obtain⟨F0,F,z,M,k,rs,ED,h,ee⟩:=q;exact#[F,z,M,k.kf,rs,_,h,λds vs M1 F1 H1 g1 f8 rx m1=>#[by rw[rx.length];exact f8.1,F1,ds,g1.fh,rx,_,f8.2,λfs hR=>vh hx k.kf rs g1 m1 hR]]⟩
def Bm(x:LB)(t:TMA):TMS:=λ_ z M=>t z M λds M1=>ds.length<=1000/\J.RM z M1 x []
def vi(h:∃C N bm,ErrK X.K X.mg x C N bm/\ErrN X.K N)(hx:XOkM X)(hc:X.calm=true)(ha:MA X (e::es) t)(d_:autoParam (X.ex=[]) zA0)(hg:autoParam (Gl X x) zA0)(d5:autoParam (zND x) zA1)
  (he:autoParam (zSE X e es) zA0) (c8:autoParam (zPL X cpos es) zA0):
  MSt X (.Raise (be (.Call (.Name x p) (e::es) [] cpos)) v9 pos) (Bm x t):=⟨(Bj h hc ha.out d_ hg d5 he c8).anti λE s H q=>by
 obtain⟨F0,F,z,M,k,rs,ED,h,ee⟩:=q;exact#[F,z,M,k.kf,rs,_,h,λds vs M1 F1 H1 g1 f8 rx m1=>#[by rw[rx.length];exact f8.1,F1,g1.fh,vh hx k.kf rs g1 m1 f8.2]]⟩
end
section
variable {X:Cx}[J:Jm]{a b c e:U8}{ta tb tc te:TME}{pos:Vh}{st:U7}{rest:List U7}{t u:TMS}
def Bn:TMS:=λE z M=>E.nx z M
def mSeq(t u:TMS):TMS:=λE z M=>t {E with nx:=u E} z M
def aQ:MSs X [] Bn:=⟨pss_nil.anti λE s H q=>by
 obtain⟨F0,F,z,M,k,rs,ED,h,e⟩:=q;exact e.nx z s M F H k h rs⟩
def aj(h1:MSt X st t)(h2:MSs X rest u):MSs X (st::rest) (mSeq t u):=⟨(eE h1.out h2.out).anti λE s H q=>by
 obtain⟨F0,F,z,M,k,rs,ED,h,e⟩:=q;exact#[F0,F,z,M,k,rs,{ED with nx:=u ED},h,#[λz' s' M' F' H' k' hz r'=>#[F0,F',z',M',k',r',ED,hz,e],e.rt,e.bk,e.ct]]⟩
def au(h1:MSt X st t):MSs X [st] t:=#[rF h1.out]
def mRet(te:TME):TMS:=λE z M=>te z M E.rt
def aF(he:ME X e te):MSt X (.Return (be e) pos) (mRet te):=⟨(rG he.out).anti λE s H q=>by
 obtain⟨F0,F,z,M,k,rs,ED,h,e⟩:=q;exact#[F,z,M,k.kf,rs,_,h,λd v M' F' H' g hd rd m'=>e.rt d v M' F' H' (k.growM rs.mb g) hd rd m' (rs.growM k.bh g m').mb]⟩
def Bo(te:TME):TMS:=λE z M=>te z M λ_ M1=>E.nx z M1
def bF(he:ME X e te)(hs:autoParam (Vn e v9 pos.line X.env=pure false) zA0):MSt X (.Expr e pos) (Bo te):=⟨(jY he.out hs).anti λE s H q=>by
 obtain⟨F0,F,z,M,k,rs,ED,h,e⟩:=q;exact#[F,z,M,k.kf,rs,_,h,λd v M' F' H' g hd rd m'=>e.nx z s M' F' H' (k.growM rs.mb g) hd (rs.growM k.bh g m')]⟩
def mIfS(c:TMT)(t u:TMS):TMS:=λE z M=>c z M λb M1=>if b=true then t E z M1 else u E z M1
variable{l r:List U7}
def aX{c:U8}{tc:TMT}(hc:MT X c tc)(ha:MSs X l t)(hb:MSs X r u):MSt X (.If c l r pos) (mIfS tc t u):=⟨(rH hc.out ha.out hb.out).anti λE s H q=>by
 obtain⟨F0,F,z,M,k,rs,ED,h,e⟩:=q;refine#[F,z,M,k.kf,rs,_,h,λb M1 F1 H1 g hk m1=>?_];cases b with
 |true=>exact#[F0,F1,z,M1,k.growM rs.mb g,rs.growM k.bh g m1,ED,hk,e]
 |false=>exact#[F0,F1,z,M1,k.growM rs.mb g,rs.growM k.bh g m1,ED,hk,e]⟩
def mIfJ(c:TMT)(t u:TMS):TMS:=λE z M=>∃J:SD->MS->Prop,(c z M λb M1=>if b=true then t {E with nx:=J} z M1 else u {E with nx:=J} z M1)/\∀z' M',J z' M'->E.nx z' M'
def fq{c:U8}{tc:TMT}(hc:MT X c tc)(ha:MSs X l t)(hb:MSs X r u):MSt X (.If c l r pos) (mIfJ tc t u):=⟨(aX hc ha hb).out.anti λE s H q=>by
 obtain⟨F0,F,z,M,k,rs,ED,⟨J,h,j⟩,e⟩:=q;exact#[F0,F,z,M,k,rs,{ED with nx:=J},h,#[λz' s' M' F' H' k' hz r'=>e.nx z' s' M' F' H' k' (j z' M' hz) r',e.rt,e.bk,e.ct]]⟩
def mSet(i:Nat)(te:TME):TMS:=λE z M=>∃P:D->MS->Prop,te z M P/\∀d M',P d M'->E.nx (z.set i (be d)) M'
def aH(i:Nat){x:LB}{c5:Vh}(hN:X.N.Nodup)(he:ME X e te)(hi:autoParam (X.N[i]?=be x) zA0)(hx:autoParam (Loc X.env.scope x) zA4)(hs:autoParam (Vn e (be (.Name x c5)) pos.line X.env=pure false) zA0)
  (hf:autoParam (zFN X x) zA2):MSt X (.Assign [.Name x c5] e pos) (mSet i te):=⟨(gR hN hi hx he.out hs hf).anti λE s H q=>by
 obtain⟨F0,F,z,M,k,rs,ED,⟨P,h,j⟩,e⟩:=q;exact#[F,z,M,k.kf,rs,P,h,λd v M' F' H' g hd rd m'=>e.nx _ _ M' F' H' (k.growM rs.mb g) (j d M' hd) ((rs.growM k.bh g m').set rd)]⟩
def Bp(x f:LB)(to te:TME):TMS:=λE z M=>te z M λd M1=>to z M1 λo M2=>match o with|.ptr a=>∃fs,mget M2 a=be (.ins x fs)/\fs.length<1000/\E.nx z (mput M2 a (.ins x (putD f d fs)))|_=>False
def bT{x f:LB}{o:U8}{to:TME}{c5:Vh}(hA:ClsA X.K x f)(ho:ME X o to)(he:ME X e te)(hs:autoParam (Vn e (be (.Attribute o f c5)) pos.line X.env=pure false) zA0):
  MSt X (.Assign [.Attribute o f c5] e pos) (Bp x f to te):=⟨(si ho.out he.out hs).anti λE s H q=>by
 obtain⟨C,hn,hc,hf⟩:=hA;obtain⟨F0,F,z,M,k,rs,ED,h,ee⟩:=q;refine#[F,z,M,k.kf,rs,_,h,λd v M1 F1 H1 g1 hx rd m1=>?_];have k1:=k.growM rs.mb g1;have n5:=rs.growM k.bh g1 m1;refine#[F1,z,M1,k1.kf,n5,_,hx,λo' v' M2 F2 H2 g2 hy ro m2=>?_];have k2:=k1.growM n5.mb g2;have M7:=n5.growM k1.bh g2 m2;split at hy
 .rename_i a;obtain⟨fs,hm,hl,MI⟩:=hy;obtain⟨C',dx,ws,g5,hH,rf⟩:=m2.ok _ _ (bu hm);rw[hn]at g5;cases g5;have fa:=m2.fr a (bS (bu hm));refine#[a,C,dx,ws,rep_ptr.mp ro,hH,hc,hf,by rw[rf.length];exact hl,?_];have m3:RepM X.K F2 (upd H2 a (.ins C dx (putF f v ws))) (mput M2 a (.ins x (putD f d fs))):=m2.put hm #[C,dx,_,hn,aB,RepF.put (rd.mono g2.ff) rf];have g3:GrowM M2 (mput M2 a (.ins x (putD f d fs))) F2 H2 F2 (upd H2 a (.ins C dx (putF f v ws))):=GrowM.put k2.fh fa hm;exact ee.nx z s _ F2 _ (k2.growM M7.mb g3) MI (M7.growM k2.bh g3 m3)
 .exact hy.elim⟩
def Bq(c:TMT)(tb:TMS):TMS:=λE z M=>∃W:Nat->SD->MS->Prop,(∃m,W m z M)/\∀m z M,W m z M->
 c z M λb M1=>if b=true then tb {E with nx:=λz' M'=>∃m',m'<m/\W m' z' M',ct:=λz' M'=>∃m',m'<m/\W m' z' M',bk:=E.nx} z M1 else E.nx z M1
def Br{c:U8}{body:List U7}{tc:TMT}{tb:TMS}(hp:Vr (U9 X.prog X.w) X.A X.env X.xe)(hc:MT X c tc)(hb:MSs X body tb):MSt X (.While c body [] pos) (Bq tc tb):=⟨(rJ hp hc.out hb.out).anti λE s H q=>by
 obtain⟨F0,F,z,M,k,rs,ED,⟨W,⟨m0,w0⟩,c7⟩,e⟩:=q;refine#[λm s' H'=>∃F' z' M',Kept J.B F0 F' H'/\RepZ X.K J.B F' H' z' s' M'/\W m z' M',#[m0,F,z,M,k,rs,w0],?_];rintro m s1 H1⟨F1,z1,M1,k1,r1,w1⟩;refine#[F1,z1,M1,k1.kf,r1,_,c7 m z1 M1 w1,λb M2 F2 H2 g2 hk m2=>?_];cases b with
 |true=>
  refine#[λs3 H3=>∃F3 z3 M3,Kept J.B F0 F3 H3/\RepZ X.K J.B F3 H3 z3 s3 M3/\∃m',m'<m/\W m' z3 M3,λs3 H3 ⟨F3,z3,M3,k3,r3,m',l,w3⟩=>#[m',l,F3,z3,M3,k3,r3,w3],?_];exact#[F0,F2,z1,M2,k1.growM r1.mb g2,r1.growM k1.bh g2 m2,_,hk,#[λz3 s3 M3 F3 H3 k3 h3 r3=>#[F3,z3,M3,k3,r3,h3],e.rt,e.nx,λz3 s3 M3 F3 H3 k3 h3 r3=>#[F3,z3,M3,k3,r3,h3]]]
 |false=>exact e.nx z1 s1 M2 F2 H2 (k1.growM r1.mb g2) hk (r1.growM k1.bh g2 m2)⟩
end
section
variable {X:Cx}[J:Jm]{a b c e o:U8}{ta tb tc te to:TME}{pos:Vh}{st:U7}{rest:List U7}{t u:TMS}
abbrev TMI:=SD->MS->(List D->MS->Prop)->Prop
def mItR(t:TME):TMI:=λz M R=>t z M λx M1=>match x with|.int n=>(0<=n/\n<2^62)/\R ((HU n.toNat).map λk=>D.int ((k:Nat):Int)) M1|_=>False
def mFor(i:Nat)(ti:TMI)(tb:TMS):TMS:=λE z M=>ti z M λds M1=>∃W:Nat->SD->MS->Prop,W 0 z M1/\(∀k x z M,ds[k]?=be x->W k z M->tb {E with nx:=W (k+1),ct:=W (k+1),bk:=E.nx} (z.set i (be x)) M)/\∀z M,W ds.length z M->E.nx z M
def vj(i:Nat){x:LB}{p p1 p2:Vh}{body:List U7}{tb:TMS}(hp:Vr (U9 X.prog X.w) X.A X.env X.xe)(hc:X.calm=true)(hN:X.N.Nodup)(hm:X.mg "range"=v9)(he:ME X e te)(hb:MSs X body tb)(hg:autoParam (Gl X "range") zA0)(hi:autoParam (X.N[i]?=be x) zA0)(hx:autoParam (Loc X.env.scope x) zA4)
  (hf:autoParam (zFN X x) zA2) (hs:autoParam (∀y,zFS X (.Call (.Name "range" p1) [e] [] p2) y) zA3) (t8:autoParam (zSE X e []) zA0) (g8:autoParam (Vc [e] X.env=[(false,Vf e X.env)]) zA0):
  MSt X (.For (.Name x p) (.Call (.Name "range" p1) [e] [] p2) body [] pos) (mFor i (mItR te) tb):=⟨(cQ hp hc (ke hg hm (bz he.out pa_nil t8) g8) (dI hN hi hx hf) hb.out hs).anti λE s H q=>by
 obtain⟨F0,F,z,M,kp,rs,ED,h,e⟩:=q;refine#[F,z,M,kp.kf,rs,_,h,λd v M1 F1 H1 g1 hd rd m1=>?_];split at hd
 .rename_i n;obtain⟨⟨b1,b2⟩,W,w0,c7,out⟩:=hd;have hl:((HU n.toNat).map λk=>D.int ((k:Nat):Int)).length=n.toNat:=by simp
  refine#[n,by rw[rep_int.mp rd],KK,b2,kh (lo:=0) (n:=n.toNat) (λk s' H'=>∃F' z' M',Kept J.B F0 F' H'/\RepZ X.K J.B F' H' z' s' M'/\W k z' M') #[F1,z,M1,kp.growM rs.mb g1,rs.growM kp.bh g1 m1,w0] ?_ ?_]
  .rintro k s' H' hk⟨F',z',M',k',r',w'⟩;have e1:(0:Int)+(k:Int)=(k:Int):=by lia
   exact#[F0,F',_,M',k',r'.set (d:=.int (k:Int)) (rep_int.mpr (by rw[e1])),_,c7 k (.int (k:Int)) z' M' (by simp[hk]) w',#[λz3 s3 M3 F3 H3 k3 h3 r3=>#[F3,z3,M3,k3,r3,h3],e.rt,e.nx,λz3 s3 M3 F3 H3 k3 h3 r3=>#[F3,z3,M3,k3,r3,h3]]]
  .rintro s' H'⟨F',z',M',k',r',w'⟩;exact e.nx z' s' M' F' H' k' (out z' M' (by rw[hl];exact w')) r'
 .exact hd.elim⟩
def Bs(te:TME):TME:=λz M R=>te z M λd M1=>match d with|.ptr a=>∃ds,mget M1 a=be (.lst ds)/\R (.int ds.length) M1|_=>False
def gw{p:Vh}(hm:X.mg "len"=v9)(ha:ME X e te)(hg:autoParam (Gl X "len") zA0)(he:autoParam (zSE X e []) zA0):ME X (.Call (.Name "len" p) [e] [] pos) (Bs te):=⟨(fP kr hg hm PySem.boot_len (bz ha.out pa_nil he) Mx Mx he).anti λs H Q h=>by
 obtain⟨F,z,M,k,rs,R,h1,h2⟩:=h;refine#[F,z,M,k,rs,_,h1,λd v M1 F1 H1 g1 hx rx m1=>?_];split at hx
 .rename_i a;obtain⟨ds,hm,hR⟩:=hx;obtain⟨vs,hH,rr⟩:=m1.ok _ _ (bu hm);exact#[.ref a,vs.length,by rw[rep_ptr.mp rx],.inl #[vs,SqL.of hH,rfl],h2 _ _ M1 F1 H1 g1 hR (rep_int.mpr (by rw[rr.length])) m1]
 .exact hx.elim⟩
def mIxP(ta tb:TME):TME:=λz M R=>ta z M λx M1=>tb z M1 λy M2=>kdP x λa=>kdI y λi=>∃ds,mget M2 a=be (.lst ds)/\∃d,atI ds i=be d/\R d M2
def Bt(ha:ME X a ta)(hb:ME X b tb)(hs:autoParam (eI b) zA6):ME X (.Subscript a b pos) (mIxP ta tb):=⟨(pe_ix ix_list ha.out hb.out hs).anti λs H Q h=>by
 obtain⟨F,z,M,k,rs,R,h1,h2⟩:=h;refine#[F,z,M,k,rs,_,h1,λx u M1 F1 H1 g1 hx rx m1=>?_];refine#[F1,z,M1,k.growM rs.mb g1,rs.growM k.bh g1 m1,_,hx,λy v M2 F2 H2 g2 hy ry m2=>?_];obtain⟨p,rfl,N2⟩:=kdP.of hy;obtain⟨i,rfl,ds,hm,d,hd,hR⟩:=kdI.of N2;obtain⟨vs,hH,rr⟩:=m2.ok _ _ (bu hm);obtain⟨w,e2,h_⟩:=rr.at hd;exact#[p,vs,_,w,rep_ptr.mp rx,rep_int.mp ry,SqL.of hH,e2,h2 d w M2 F2 H2 (g1.trans g2) hR h_ m2]⟩
def Bu(to te:TME):TME:=λz M R=>to z M λo M1=>match o with|.ptr a=>(∃ds,mget M1 a=be (.lst ds))/\te z M1 λd M2=>∃ds,mget M2 a=be (.lst ds)/\ds.length<=100000/\R .non (mput M2 a (.lst (ds++[d])))|_=>False
def lJ{apos cpos:Vh}(ho:ME X o to)(he:ME X e te)(l_:autoParam (zSE X e []) zA0)
  (b7:autoParam (Ve o "append" X.env (Vf o X.env)=Vf o X.env) zA0)
  (d8:autoParam (zHF X cpos [e]) zA0)
  (b_:autoParam ((apos.endLine==cpos.line)=true) zA0):
  ME X (.Call (.Attribute o "append" apos) [e] [] cpos) (Bu to te):=⟨(eJ PySem.F.plainAttrs_list PySem.F.slot_list_append PySem.F.type_list_append kE ho.out (bz he.out pa_nil l_) b7 d8 b_ l_).anti λs H Q h=>by
 obtain⟨F,z,M,k,rs,R,h1,h2⟩:=h;refine#[F,z,M,k,rs,_,h1,λx u M1 F1 H1 g1 hx rx m1=>?_];split at hx
 .rename_i a;obtain⟨⟨UD,PX⟩,hx⟩:=hx;obtain⟨Tq,Tr,UE⟩:=m1.ok _ _ (bu PX);rw[rep_ptr.mp rx];refine#[.inl #[rfl,Tq,SqL.of Tr],?_];refine#[F1,z,M1,k.growM rs.mb g1,rs.growM k.bh g1 m1,_,hx,λd v M2 F2 H2 g2 hd rd m2=>?_];obtain⟨ds,hm,hl,hR⟩:=hd;obtain⟨vs,hH,rr⟩:=m2.ok _ _ (bu hm);have hz:vs.length<sizeLine:=by
   rw[rr.length];have h2:(100000:Nat)<sizeLine:=Mx
   lia
  refine#[a,vs,v,rfl,rfl,hH,hz,?_];exact h2 _ _ _ F2 _ (g1.trans (g2.trans (GrowM.put g2.fh (m2.fr a (bS (bu hm))) hm))) hR (rep_non.mpr rfl) (m2.put hm #[_,aB,rr.append (eU rd)])
 .exact hx.elim⟩
def frzD:MO->D|.ins x fs=>.obj x fs|.lst ds=>.lst ds|.dti a9=>.dti a9
def mFrz(i:Nat)(t:TMS):TMS:=λE z M=>match z[i]? with|some (be (.ptr a))=>∃o,mget M a=be o/\t E (z.set i (be (frzD o))) (mdel M a)|_=>False
def lK(i:Nat){NR:List U7}(h:MSs X NR t):MSs X NR (mFrz i t):=⟨PSs.anti h.out λE s H q=>by
 obtain⟨F0,F,z,M,k,rs,ED,h,e⟩:=q;unfold mFrz at h;split at h
 .rename_i a ez;obtain⟨o,hm,h⟩:=h;have mem:=bu hm;have fa:=rs.rm.fr a (bS mem);have ba:=rs.mb a (bS mem);obtain⟨v,hv,rv⟩:=rs.rs.val i _ ez rfl;have Ts:=rep_ptr.mp rv;subst Ts;have hok:=rs.rm.ok a o mem;obtain⟨ho,e_,PY⟩:∃ho,H a=be ho/\∀F',Same F F'->F' a=be ho->Rep X.K F' (frzD o) (.ref a):=by
   cases o with
   |ins x fs=>obtain⟨C,dx,ws,n,h1,h2⟩:=hok;exact#[_,h1,λF' s' hF=>rep_obj.mpr #[a,C,dx,ws,rfl,n,hF,RepF.mono s' fs ws h2]]
   |lst ds=>obtain⟨vs,h1,h2⟩:=hok;exact#[_,h1,λF' s' hF=>rep_lst.mpr #[a,vs,rfl,hF,h2.mono s']]
   |dti a9=>exact#[_,hok,λF' s' hF=>rep_dti.mpr #[a,rfl,hF]]
  have s1:Same F (upd F a ho):=aO fa _;have hs:s.set i (be (.ref a))=s:=by
   apply Jp;intro n;by_cases hn:i=n
   .subst hn;rw[IE (Ib.mp hv).1,hv]
   .rw[Ic hn]
  have k1:Kept J.B F0 (upd F a ho) H:=⟨k.bh,λb u q=>by
   by_cases hb:b=a
   .subst hb;rw[aB]at q;cases q;exact e_
   .rw[ar hb]at q;exact k.fh b u q,k.f0.trans s1,λb h1 h2=>by
   by_cases hb:b=a
   .subst hb;exact absurd ba h2
   .rw[ar hb];exact k.out b h1 h2,k.eb,k.jf,k.jo⟩
  have r0:RepS X.K J.B (upd F a ho) H z s:=#[rs.rs.len,λi d e n=>let ⟨v,q1,q2⟩:=rs.rs.val i d e n;#[v,q1,q2.mono s1],λi ds e=>absurd e (rs.no i ds),rs.rs.apart];have Tt:RepM X.K (upd F a ho) H (mdel M a):=⟨rs.rm.nd.sublist del_sub,λb q hb=>by
   obtain⟨ne,hb⟩:=lD rs.rm.nd hb;exact(rs.rm.ok b q hb).mono s1 λ_ z=>z,λb hb=>by
   obtain⟨⟨b',q⟩,gV,rfl⟩:=Ir.mp hb;obtain⟨ne,RT⟩:=lD rs.rm.nd gV;rw[ar ne];exact rs.rm.fr _ (bS RT)⟩
  have z0:RepZ X.K J.B (upd F a ho) H z s (mdel M a):=#[r0,rs.no,Tt,λb hb=>rs.mb b (del_sub.subset hb)];have z1:=z0.set (i:=i) (PY _ s1 aB);rw[hs]at z1;exact#[F0,_,_,_,k1,z1,ED,h,e]
 .exact h.elim⟩
end
def lL{N:List LB}{ds:List D}(rs:Reps K F ds vs):∀(i:Nat) d,(startD N ds)[i]?≠be (be (.own d)):=by
 intro i d e;unfold startD at e;by_cases hi:i<ds.length
 .rw[IG (by simpa using hi),H9]at e;cases q:ds[i]? with
  |none=>rw[q]at e;cases e
  |some x=>
   rw[q]at e;cases e;obtain⟨v,_,q2⟩:=rs.get q;exact rep_own q2
 .rw[IT (by simpa using hi),J3]at e;split at e
  .cases e
  .cases e
def growM_nil(g:GrowM [] M' F H F' H'):Grow F H F' H':=#[g.ff,g.fh,λb o h=>g.hh b o (λz=>nomatch z) h,λb h1 h2=>g.out b (λz=>nomatch z) h1 h2]
section
variable {P:U'}{w:Va}{K:Ex}{mg:LB->Option Os}{base:Heap}
variable{x:LB}{ps:List LB}{S:SpM}
def CalMM.toX{n:Nat}{S0:SpX}(C:CalMM P w K mg base n x ps S)(h:∀ds R RX,S0 ds R RX->S ds [] (λd _=>R d) λx fs _=>RX x fs):CalX P w K mg base n x ps S0:=by
 obtain⟨f,fd,F,hb,hk,hm⟩:=C;refine#[f,fd,F.imp λvs H Q E q=>?_,hb,hk,hm];obtain⟨F,ds,fh,rs,R,RX,hS,q1,q2⟩:=q;exact#[F,ds,[],fh,rs,RepM.nil,_,_,h ds R RX hS,λd v M' F' H' g hd rd _=>q1 d v F' H' (growM_nil g) hd rd,λy fs C od M' F' H' g hR er _=>q2 y fs C od F' H' (growM_nil g) hR er]
open Classical in
def Fun.okM{x qual:LB}{st:U7}{f:Pi}{fd:Vg}{N ps:List LB}{k:Nat}{S:SpM}{dV:Os}(T:FunG K dV x qual st f fd)(F:FnScope N ps (ah st))(len:∀ds M R RX,S ds M R RX->ds.length=ps.length)
  (a8:∀(cdv:Os) (A:Vb) (outer:List VU) (s:SB) (H:Hp) (E:XK) (J:Jm),Room k (A.deeper (Vk qual (ah st) s.heap.objs.size f cdv))->XOkM (cxOf (CX1 P w) P w K mg base N qual (ah st) f cdv A outer s H E)->
   ∃t,MSs (cxOf (CX1 P w) P w K mg base N qual (ah st) f cdv A outer s H E) (aK st) t/\∀ds M R RX,(∀z,J.RM z=λM' x fs=>RX x fs M')->S ds M R RX->t {nx:=λ_ M'=>R .non M',rt:=R} (startD N ds) M):FnOk P w K mg base (CX1 P w) (k+1) f fd ps (lSpM K S):=by
 refine Fun.okC T F (λvs H Q E h=>?_) (λcdv A outer s H vs Q E hr h=>?_)
 .obtain⟨F,ds,M,fh,rs,rm,R,RX,h,_⟩:=h;rw[rs.length];exact len ds M R RX h
 .obtain⟨F,ds,M,fh,rs,rm,R,RX,h,q,qx⟩:=h
  let B:Hp:=λb=>if b∈av M then v9 else H b
  have RU:∀{b:Pi},b∈av M->B b=none:=λ{b} h=>if_pos h;have OR:∀{b:Pi},b∉av M->B b=H b:=λ{b} h=>if_neg h
  letI:Jm:={B:=B,F0:=F,RX:=λ_ _ _=>False,RM:=λ_ M' x fs=>RX x fs M'}
  have gr:∀{M':MS} {F' H':Hp},Kept B F F' H'->(∀a,a∈av M'->B a=v9)->GrowM M M' F H F' H':=λ{M' F' H'} k mb=>⟨k.f0,k.fh,λb o nb e=>k.bh b o (by rw[OR nb];exact e),λb nb h1 h2=>k.out b h1 (by rw[OR nb];exact h2),λb hb=>by
   by_cases nb:b∈av M
   .exact .inl nb
   .right;rw[<-OR nb];exact mb b hb⟩
  have hx:XOkM (cxOf (CX1 P w) P w K mg base N qual (ah st) f cdv A outer s H E):=by
   intro σ z M' F' H' s' e C od y fs I kk rr hR er ⟨He,ne,_,hx⟩;have hE:E (.ref C) od H':=qx y fs C od M' F' H' (gr kk rr.mb) hR er rr.rm;rcases hx with⟨sl,vs,h1,h2⟩|⟨T,h1,h2,h3,_⟩
   .exact sS I h1 h2 He ne hE
   .exact uo I h1 ne h2 He h3 hE
  obtain⟨t,ht,hq⟩:=a8 cdv A outer s H E inferInstance hr hx;have k0:Kept B F F H:=⟨λb o e=>by
   by_cases nb:b∈av M
   .rw[RU nb]at e;cases e
   .rw[OR nb]at e;exact e,fh,Same.refl F,λ_ h _=>h,rfl,Same.refl F,λ_ h _=>h⟩
  have r0:RepZ K B F H (startD N ds) (L2.start N vs) M:=#[dJ rs,lL rs,rm,λa h=>RU h];exact#[_,ht.out,F,F,startD N ds,M,k0,r0,_,hq ds M R RX (λ_=>rfl) h,#[λz' s' M' F' H' k hn r=>q _ _ M' F' H' (gr k r.mb) hn (rep_non.mpr rfl) r.rm,λd v M' F' H' k hd rd PZ mb=>q d v M' F' H' (gr k mb) hd rd PZ,λ_ _ _ _ _ _ h _=>h.elim,λ_ _ _ _ _ _ h _=>h.elim]]
variable{N:List LB}
def Tx.okM{st:U7}{k:Nat}(T:Tx K mg x st ps)(F:FnScope N ps (ah st))(len:∀ds M R RX,S ds M R RX->ds.length=ps.length)
  (a8:∀(f:Pi) (cdv:Os) (A:Vb) (outer:List VU) (s:SB) (H:Hp) (E:XK) (J:Jm),Room k (A.deeper (Vk x (ah st) s.heap.objs.size f cdv))->XOkM (cxOf (CX1 P w) P w K mg base N x (ah st) f cdv A outer s H E)->
   ∃t,MSs (cxOf (CX1 P w) P w K mg base N x (ah st) f cdv A outer s H E) (aK st) t/\∀ds M R RX,(∀z,J.RM z=λM' x fs=>RX x fs M')->S ds M R RX->t {nx:=λ_ M'=>R .non M',rt:=R} (startD N ds) M):CalMM P w K mg base (k+1) x ps S:=by
 obtain⟨f,fd,T,hb,hm⟩:=T;exact#[f,fd,Fun.okM T F len λcdv A outer s H E J hr hx=>a8 f cdv A outer s H E J hr hx,hb,T.kp,hm]
def Txm(K:Ex)(x m:LB)(qual:LB)(st:U7)(ps:List LB):Prop:=
 ∃C f fd,nsIn K SL x=be (be (.ref C))/\Cls K C/\Meth K C m f/\Fun K m qual st f fd/\Binds K fd ps []
def Txm.okM{m qual:LB}{st:U7}{k:Nat}(T:Txm K x m qual st ps)(F:FnScope N ps (ah st))(len:∀ds M R RX,S ds M R RX->ds.length=ps.length)
  (a8:∀(f:Pi) (cdv:Os) (A:Vb) (outer:List VU) (s:SB) (H:Hp) (E:XK) (J:Jm),Room k (A.deeper (Vk qual (ah st) s.heap.objs.size f cdv))->XOkM (cxOf (CX1 P w) P w K mg base N qual (ah st) f cdv A outer s H E)->
   ∃t,MSs (cxOf (CX1 P w) P w K mg base N qual (ah st) f cdv A outer s H E) (aK st) t/\∀ds M R RX,(∀z,J.RM z=λM' x fs=>RX x fs M')->S ds M R RX->t {nx:=λ_ M'=>R .non M',rt:=R} (startD N ds) M):CalMth P w K mg base (k+1) x m ps (lSpM K S):=by
 obtain⟨C,f,fd,h1,h2,h3,T,hb⟩:=T;exact#[C,f,fd,h1,h2,h3,Fun.okM T F len λcdv A outer s H E J hr hx=>a8 f cdv A outer s H E J hr hx,hb]
end
end My
namespace L2
section
variable {X:Cx}{pins:List (Pi×Vp)}{σ:St}{H:Hp}{s:SB}{h':Heap}
def Inv.turned2{t':Nat}{e it:Pi}(I:Inv X pins σ H s)(k:∀b o,b≠e->b≠it->s.heap.get? b=be o->h'.get? b=be o)(he:FpOk X pins H e)(hi:FpOk X pins H it):Inv X pins σ H {s with heap:=h',toks:=t'}:=by
 obtain⟨e0,e1,e2,e3,e4,e5⟩:=he;obtain⟨i0,i1,i2,i3,i4,i5⟩:=hi;have Mr:∀b u,H b=be u->b≠e/\b≠it:=λb u q=>#[(λz=>by rw[z,e0]at q;cases q),(λz=>by rw[z,i0]at q;cases q)];have nc:∀{b:Pi},b∉[e,it]->b≠e/\b≠it:=λ{b} h=>#[λz=>h (by simp[z]),λz=>h (by simp[z])];refine I.step (g':=s.gens) (d':=s.drawn) (ch:=[e,it]) (λb hb=>?_) (λb o _ _ hc q _=>k b o (nc hc).1 (nc hc).2 q) (λb o _ _ hc q _=>#[o.slots,k b o (nc hc).1 (nc hc).2 q]) (λ_ _ _ _ n=>n)
  (λb o hc q=>#[o,k b o (nc hc).1 (nc hc).2 q]) (λ_ _ q=>q) (λ_ _ _ q=>q) (λb ps q=>#[[].toArray,by rw[q];simp]) (λm hm=>?_) (λb u q=>?_) I.bare
 .rcases HQ.mp hb with z|z
  .rw[z];exact#[e3,e1,e4,e5]
  .rw[HN.mp z];exact#[i3,i1,i4,i5]
 .obtain⟨o,es,ep,ho,r⟩:=hm;exact#[o,es,ep,k _ o (Ne.symm e1) (Ne.symm i1) ho,r]
 .refine(I.hok b u q).stay (λc v hc q'=>k c v ?_ ?_ q') (λ_ q=>q) λ_ _ q=>q
  .rcases hc with z|z
   .rw[z];exact(Mr b u q).1
   .exact(Mr c _ z).1
  .rcases hc with z|z
   .rw[z];exact(Mr b u q).2
   .exact(Mr c _ z).2
end
def Itel(K:Ex)(a:Pi):It:=
 #[λi H=>∃xs x,SqL K H a xs/\xs[i]?=be x,λi H x H'=>∃T v,H T=v9/\x=.ref T/\H'=upd H T (.tup [.int i,v])/\∀xs,SqL K H a xs->xs[i]?=be v,λi H=>∃xs,SqL K H a xs/\xs.length<=i]
def Ites(x:LB):It:=#[λi _=>i<x.length,λi H v H'=>∃T c,H T=v9/\v=.ref T/\H'=upd H T (.tup [.int i,.str #[[c].toArray]])/\x.cps[i]?=be c,λi _=>i=x.length]
variable{P:U'}{w:Va}
def Bv{H:Hp}{h:Heap}{T:Pi}{i:Int}{t:W5}{v:V}{u:Os}(r:RelV v u)(q:h.get? T=be {cls:=.type "tuple",data:=.seq [.int i t,u].toArray}):ObjOk P w H h T (.tup [.int i,v]):=
 #[by show 2<=sizeLine;decide,[.int i t,u],.cons #[t,rfl] (.cons r .nil),#[_,q,rfl,_,rfl]]
def vk{X:Cx}{pins:List (Pi×Vp)}{σ:St}{H:Hp}{s:SB}{h':Heap}{t':Nat}{e it:Pi}{i:Int}{t:W5}{v:V}{u:Os}(I:Inv X pins σ H s)(he:FpOk X pins H e)(hi:FpOk X pins H it)(le:e<s.heap.objs.size)(li:it<s.heap.objs.size)(r:RelV v u)
  (hT:h'.get? s.heap.objs.size=be {cls:=.type "tuple",data:=.seq [.int i t,u].toArray}) (hk:∀b o,b≠e->b≠it->s.heap.get? b=be o->h'.get? b=be o):Inv X pins σ (upd H s.heap.objs.size (.tup [.int i,v])) {s with heap:=h',toks:=t'}:=by
 have I1:Inv X pins σ (upd H s.heap.objs.size (.tup [.int i,v])) {s with heap:=s.heap.push {cls:=.type "tuple",data:=.seq [.int i t,u].toArray},toks:=t'}:=
  I.laid (λb o q=>Heap.get?_push_of_some _ q) (HP _) (Bv r (Heap.get?_push_size _ rfl))
 have fp:∀{b:Pi},FpOk X pins H b->b<s.heap.objs.size->FpOk X pins (upd H s.heap.objs.size (.tup [.int i,v])) b:=λ{b} h l=>#[by rw[ar (HZ l)];exact h.1,h.2];refine I1.turned2 (h':=h') (t':=t') (λb o h1 h2 q=>?_) (fp he le) (fp hi li);rcases Heap.get?_push_cases (show(s.heap.push {cls:=.type "tuple",data:=.seq [.int i t,u].toArray}).get? b=be o from q)with⟨rfl,rfl⟩|q2
 .exact hT
 .exact hk b o h1 h2 q2
variable{u6:List U8}
def Bw{K:Ex}{x1:Nat}{tp:Vh}(a e it:Pi)(M8:e≠it):Turn P w K (.Tuple u6 x1 tp) (Itel K a) [e,it] e (λi h=>(∃d7,IsEnum h e it i d7)/\h.IsListIter it a i) where
 mem:=MD
 obj:=λi h st b hb=>by
  obtain⟨⟨d7,he⟩,hit⟩:=st;rcases HQ.mp hb with z|z
  .rw[z];exact#[_,he,λv z=>by cases z]
  .rw[HN.mp z];obtain⟨o,ho,c,d⟩:=hit;exact#[o,ho,λv z=>by rw[d]at z;cases z]
 keep:=λi h h' st k=>#[let ⟨d7,he⟩:=st.1;#[d7,k e MD _ he],st.2.at λo q=>k it MD o q]
 item:=by
  intro X hP hw hK hc i pins s σ H E I hf st hg;subst hP hw hK;obtain⟨xs,x,hq,hx⟩:=hg;obtain⟨its,rv,p,hz⟩:=I.list hq;obtain⟨u,hu,ru⟩:=rv.get hx;obtain⟨⟨d7,he⟩,hit⟩:=st;have fe:=hf e MD;have fi:=hf it MD;have le:e<s.heap.objs.size:=Heap.lt_size he;have li:it<s.heap.objs.size:=by obtain⟨o,ho,_⟩:=hit;exact Heap.lt_size ho
  refine wpAny_pyNext_enum_item he hit p.isList (x:=u) (by simpa using hu) M8 λh' H_ MP hT j7 hk=>?_;refine#[_,rfl,Wm H_ λh2 P0 l8=>?_];have p6:Heap.SameBut e h' h2:=l8;have nT:s.heap.objs.size≠e:=IS le;have I1:Inv X pins σ (upd H s.heap.objs.size (.tup [.int i,x])) {s with heap:=h2,toks:=s.toks+1}:=vk I fe fi le li ru ((p6.2 _ nT).trans hT) λb o h1 h3 q=>(p6.2 b h1).trans (hk b o h1 h3 q);refine#[.ref s.heap.objs.size,_,I1,rfl,#[_,x,I.hok.fresh (HP _),rfl,rfl,λys hy=>by rw[I.list_inj hy hq];exact hx],#[#[u,by simpa using P0],MP.at λo q=>(p6.2 it (Ne.symm M8)).trans q],λb hb=>?_];rcases HQ.mp hb with z|z
  .rw[z,ar (HZ le)];exact fe.1
  .rw[HN.mp z,ar (HZ li)];exact fi.1
 done:=by
  intro X hP hw hK hc i pins s σ H E I hf st hg;subst hP hw hK;obtain⟨xs,hq,hx⟩:=hg;obtain⟨its,rv,p,hz⟩:=I.list hq;obtain⟨⟨d7,he⟩,hit⟩:=st;have hl:=rv.length;obtain⟨f0,f1,f2,f3,f4,f5⟩:=hf it MD;exact wpAny_pyNext_enum_end (I.ok.hd hc) he hit p.isList Uw λh' eb=>#[rfl,I.turned (t':=s.toks) (λb o hb q=>eb b o hb q) f0 f1 f3 f4 f5]
 self:=λ_ _ _ _ _ st h=>let ⟨⟨d7,he⟩,_⟩:=st;VW he h
def By{K:Ex}{x1:Nat}{tp:Vh}(x:LB)(t:W5)(e it:Pi)(M8:e≠it):Turn P w K (.Tuple u6 x1 tp) (Ites x) [e,it] e (λi h=>(∃d7,IsEnum h e it i d7)/\h.IsStrIter it "str_ascii_iterator" x t i) where
 mem:=MD
 obj:=λi h st b hb=>by
  obtain⟨⟨d7,he⟩,hit⟩:=st;rcases HQ.mp hb with z|z
  .rw[z];exact#[_,he,λv z=>by cases z]
  .rw[HN.mp z];obtain⟨o,ho,c,d⟩:=hit;exact#[o,ho,λv z=>by rw[d]at z;cases z]
 keep:=λi h h' st k=>#[let ⟨d7,he⟩:=st.1;#[d7,k e MD _ he],let ⟨o,ho,r⟩:=st.2;#[o,k it MD o ho,r]]
 item:=by
  intro X hP hw hK hc i pins s σ H E I hf st hg;subst hP hw hK;have hi:i<x.cps.size:=hg;obtain⟨⟨d7,he⟩,hit⟩:=st;have fe:=hf e MD;have fi:=hf it MD;have le:e<s.heap.objs.size:=Heap.lt_size he;have li:it<s.heap.objs.size:=by obtain⟨o,ho,_⟩:=hit;exact Heap.lt_size ho
  refine wpAny_pyNext_enum_itemD (Draws.strAscii (A:=X.A.in1) (by exact I.ok.hd hc) it x t) he hit hi M8 (by simp[M8]) λu h' tk hP H_ MP hT j7 hk=>?_;obtain⟨c,tu,L8,rfl⟩:=hP;refine#[_,rfl,Wm H_ λh2 P0 l8=>?_];have p6:Heap.SameBut e h' h2:=l8;have nT:s.heap.objs.size≠e:=IS le;have I1:Inv X pins σ (upd H s.heap.objs.size (.tup [.int i,.str #[[c].toArray]])) {s with heap:=h2,toks:=tk+1}:=vk I fe fi le li #[tu,rfl] ((p6.2 _ nT).trans hT) λb o h1 h3 q=>(p6.2 b h1).trans (hk b o h1 h3 q);refine#[.ref s.heap.objs.size,_,I1,rfl,#[_,c,I.hok.fresh (HP _),rfl,rfl,L8],#[#[_,by simpa using P0],let ⟨o,ho,r⟩:=MP;#[o,(p6.2 it (Ne.symm M8)).trans ho,r]],λb hb=>?_];rcases HQ.mp hb with z|z
  .rw[z,ar (HZ le)];exact fe.1
  .rw[HN.mp z,ar (HZ li)];exact fi.1
 done:=by
  intro X hP hw hK hc i pins s σ H E I hf st hg;subst hP hw hK;have hi:i=x.cps.size:=hg;subst hi;obtain⟨⟨d7,he⟩,hit⟩:=st;obtain⟨f0,f1,f2,f3,f4,f5⟩:=hf it MD;exact wpAny_pyNext_enum_endD (Draws.strAscii (A:=X.A.in1) (by exact I.ok.hd hc) it x t) he hit λh' eb=>#[rfl,I.turned (t':=s.toks) (λb o hb q=>eb b o hb q) f0 f1 f3 f4 f5]
 self:=λ_ _ _ _ _ st h=>let ⟨⟨d7,he⟩,_⟩:=st;VW he h
def iEnL(K:Ex)(ta:TA):TI:=λσ H R=>ta σ H λvs H1=>∃a,vs=[.ref a]/\(∃xs,SqL K H1 a xs)/\R (Itel K a) H1
def iEnS(ta:TA):TI:=λσ H R=>ta σ H λvs H1=>∃x,vs=[.str x]/\x.cps.all (·<128)=true/\R (Ites x) H1
section
variable {X:Cx}{u6:List U8}{x1:Nat}{tp p pos:Vh}{l:U8}{ta:TA}
def Bz(hg:Gl X "enumerate")(hm:X.mg "enumerate"=v9)(ha:PA X [l] ta)(hs:autoParam (Vc [l] X.env=[(false,Vf l X.env)]) zA0):PI X (.Tuple u6 x1 tp) (.Call (.Name "enumerate" p) [l] [] pos) (iEnL X.K ta):=by
 intro pins s σ H R I h;refine Call_ (dH I hg hm PyProof.Rows.boot_enumerate (PyProof.Rows.callWith_type1 (thn (ha pos pins s σ H _ I h) λus s1 ⟨vs,H1,I1,r1,q1⟩=>?_) hs rfl));obtain⟨a,rfl,⟨xs,hq⟩,q⟩:=q1;obtain⟨u,rfl,ru⟩:=cb r1;cases ru;obtain⟨its,rv,pl,hz⟩:=I1.list hq;refine call_enumerate_list pl.isList λh' he hit j7 hk=>?_;have I2:Inv X pins σ H1 {s1 with heap:=h'}:=I1.kept (t':=s1.toks) hk;refine VW he ?_;have ne:s1.heap.objs.size+1≠s1.heap.objs.size:=KP _;refine#[s1.heap.objs.size+1,[s1.heap.objs.size+1,s1.heap.objs.size],_,_,H1,rfl,I2,Bw a _ _ ne,#[#[_,he],hit],λb hb=>?_,q];rcases HQ.mp hb with z|z
 .rw[z];exact I1.fpOk (Jc _) (I1.hok.fresh (Jc _))
 .rw[HN.mp z];exact I1.fpOk (HP _) (I1.hok.fresh (HP _))
def vm(hg:Gl X "enumerate")(hm:X.mg "enumerate"=v9)(ha:PA X [l] ta)(hs:autoParam (Vc [l] X.env=[(false,Vf l X.env)]) zA0):PI X (.Tuple u6 x1 tp) (.Call (.Name "enumerate" p) [l] [] pos) (iEnS ta):=by
 intro pins s σ H R I h;refine Call_ (dH I hg hm PyProof.Rows.boot_enumerate (PyProof.Rows.callWith_type1 (thn (ha pos pins s σ H _ I h) λus s1 ⟨vs,H1,I1,r1,q1⟩=>?_) hs rfl));obtain⟨x,rfl,P1,q⟩:=q1;obtain⟨u,rfl,t,rfl⟩:=cb r1;refine call_enumerate_str λh' he hit j7 hk=>?_;have I2:Inv X pins σ H1 {s1 with heap:=h'}:=I1.kept (t':=s1.toks) hk;refine VW he ?_;have ne:s1.heap.objs.size+1≠s1.heap.objs.size:=KP _;have Tu:strIterType x="str_ascii_iterator":=by unfold strIterType;rw[P1];rfl
 rw[Tu]at hit;refine#[s1.heap.objs.size+1,[s1.heap.objs.size+1,s1.heap.objs.size],_,_,H1,rfl,I2,By x t _ _ ne,#[#[_,he],hit],λb hb=>?_,q];rcases HQ.mp hb with z|z
 .rw[z];exact I1.fpOk (Jc _) (I1.hok.fresh (Jc _))
 .rw[HN.mp z];exact I1.fpOk (HP _) (I1.hok.fresh (HP _))
end
end L2
namespace My
open Exc
section
variable {X:Cx}[J:Jm]{a b c e o:U8}{ta tb tc te to:TME}{pos:Vh}{st:U7}{rest:List U7}{t u:TMS}
def lM{K:Ex}{F:Hp}:∀(is:List Nat) (ds:List D) (vs:List V) (z:SD),Reps K F ds vs->(∀(i:Nat) d,z[i]?≠be (be (.own d)))->∀(i:Nat) d,(aY is ds z)[i]?≠be (be (.own d))
 |[],_,_,z,_,h=>h
 |_::_,[],_,z,_,h=>h
 |i::is,d::ds,vs,z,r,h=>by
  obtain⟨v,vr,rfl,r1,r2⟩:=reps_cons.mp r;refine lM is ds vr _ r2 λj q e=>?_;by_cases hj:i=j
  .subst hj;rw[Je]at e;simp at e;have:=r1.noown;rw[e.2]at this;cases this
  .rw[Ic hj]at e;exact h j q e
def mItE(t:TME):TMI:=λz M R=>t z M λx M1=>match x with|.lst ds=>R ds M1|_=>False
def BA(t:TME):TMI:=λz M R=>t z M λx M1=>match x with|.str x=>x.cps.all (·<128)=true/\R (bR x) M1|_=>False
def vn(is:List Nat)(ti:TMI)(tb:TMS):TMS:=λE z M=>ti z M λds M1=>∃W:Nat->SD->MS->Prop,W 0 z M1/\(∀(k:Nat) x z M,ds[k]?=be x->W k z M->tb {E with nx:=W (k+1),ct:=W (k+1),bk:=E.nx} (aY is [.int k,x] z) M)/\∀z M,W ds.length z M->E.nx z M
variable{is:List Nat}
def vo{K:Ex}{F0 F1 H1:Hp}{z:SD}{s:L2.St}{M1:MS}{E:Ends}{ED:EndsM}{It':It}{g:TG}{tb:TMS}{N3:TS}{ds:List D}(hK:K=X.K)(k1:Kept J.B F0 F1 H1)(n5:RepZ K J.B F1 H1 z s M1)(e:EndsOkM K F0 ED E)(b8:is.length=2)
  (go:∀k F' H',Same F1 F'->Same F' H'->k<ds.length->It'.go k H') (stop:∀F' H',Same F1 F'->Same F' H'->It'.stop ds.length H')
  (yld:∀k F' H' x H'',Same F1 F'->Same F' H'->k<ds.length->It'.yld k H' x H''->∃T d v,H' T=v9/\x=.ref T/\H''=upd H' T (.tup [.int k,v])/\ds[k]?=be d/\Rep K F' d v)
  (hg:∀(dd:List D) (vs:List V) (T:Pi) (z:SD) (s:L2.St) (F H:Hp) (Q:L2.St->Hp->Prop),dd.length=2->H T=be (.tup vs)->Reps K F dd vs->RepS K J.B F H z s->(∀s',RepS K J.B F H (aY is dd z) s'->Q s' H)->g (.ref T) s H Q)
  (P2:∀E s H,mS K tb E s H->N3 E s H)
  (hd:∃W:Nat->SD->MS->Prop,W 0 z M1/\(∀(k:Nat) x z M,ds[k]?=be x->W k z M->tb {ED with nx:=W (k+1),ct:=W (k+1),bk:=ED.nx} (aY is [.int k,x] z) M)/\∀z M,W ds.length z M->ED.nx z M):
  ∃W:Nat->Nat->L2.St->Hp->Prop,(∃m,W 0 m s H1)/\∀i m σ H,W i m σ H->
   (It'.stop i H/\E.nx σ H)\/(It'.go i H/\∃N:L2.St->Hp->Prop,(∀σ' H',N σ' H'->∃m',m'<m/\W (i+1) m' σ' H')/\∀x H',It'.yld i H x H'->g x σ H' λσ2 H2=>N3 {E with nx:=N,ct:=N,bk:=E.nx} σ2 H2):=by
 obtain⟨W,w0,c7,out⟩:=hd;refine#[λk m s' H'=>m=ds.length-k/\k<=ds.length/\∃F' z' M',Kept J.B F0 F' H'/\Same F1 F'/\RepZ K J.B F' H' z' s' M'/\W k z' M',#[ds.length,MD,Iq _,F1,z,M1,k1,Same.refl F1,n5,w0],?_];rintro k m s' H'⟨rfl,hk,F',z',M',k',g',r',w'⟩;by_cases f9:k<ds.length
 .refine .inr #[go k F' H' g' k'.fh f9,λs3 H3=>∃F3 z3 M3,Kept J.B F0 F3 H3/\Same F1 F3/\RepZ K J.B F3 H3 z3 s3 M3/\W (k+1) z3 M3,λs3 H3 h3=>#[ds.length-(k+1),KK,rfl,f9,h3],λx H'' hy=>?_];obtain⟨T,d,v,hT,rfl,rfl,hd,rd⟩:=yld k F' H' x H'' g' k'.fh f9 hy;have gn:=Grow.new k'.fh hT (.tup [.int k,v]);have k2:=k'.grow gn;have r2:=r'.growM k'.bh gn.toM (r'.rm.grow gn);have rp:Reps K (upd F' T (.tup [.int k,v])) [.int k,d] [.int k,v]:=reps_cons.mpr #[_,_,rfl,rep_int.mpr rfl,eU (rd.mono gn.ff)];refine hg [.int k,d] _ T z' s' _ _ _ rfl aB rp r2.rs λs2 M7=>P2 _ _ _ ?_;have gF:Same F1 (upd F' T (.tup [.int k,v])):=g'.trans gn.ff;refine#[upd F' T (.tup [.int k,v]),upd F' T (.tup [.int k,v]),_,M',#[k2.bh,k2.fh,Same.refl _,λb h1 _=>h1,k2.eb,k2.jf.trans k2.f0,λb h1 h2=>k2.out b (k2.jo b h1 h2) h2],#[M7,lM is _ _ z' rp r2.no,r2.rm,r2.mb],_,c7 k d z' M' hd w',?_];have up:∀{F3 H3:Hp},Kept J.B (upd F' T (.tup [.int k,v])) F3 H3->Kept J.B F0 F3 H3:=λk3=>#[k3.bh,k3.fh,k2.f0.trans k3.f0,λb h1 h2=>k3.out b (k2.out b h1 h2) h2,k2.eb,k2.jf,k2.jo];exact#[λz3 s3 M3 F3 H3 k3 h3 r3=>#[F3,z3,M3,up k3,gF.trans k3.f0,r3,h3],λd v M3 F3 H3 k3=>e.rt d v M3 F3 H3 (up k3),λz3 s3 M3 F3 H3 k3=>e.nx z3 s3 M3 F3 H3 (up k3),λz3 s3 M3 F3 H3 k3 h3 r3=>#[F3,z3,M3,up k3,gF.trans k3.f0,r3,h3]]
 .have ek:k=ds.length:=by lia
  subst ek;exact .inl #[stop F' H' g' k'.fh,e.nx z' s' M' F' H' k' (out z' M' w') r']
variable{es:List U8}{body:List U7}
def BB{x1:Nat}{tp p1 p2:Vh}{tb:TMS}(hp:Vr (U9 X.prog X.w) X.A X.env X.xe)(hc:X.calm=true)(hm:X.mg "enumerate"=v9)(he:ME X e te)(hG:DGs X es is)(hb:MSs X body tb)(b8:autoParam (is.length=2) zA0)(hg:autoParam (Gl X "enumerate") zA0)
  (hn:autoParam ((Vd es X.env).length=2) zA0) (k9:autoParam ((Vd es X.env).findIdx? (·.1)=none) zA0)
  (hs:autoParam (∀y,zFS X (.Call (.Name "enumerate" p1) [e] [] p2) y) zA3) (t8:autoParam (zSE X e []) zA0) (g8:autoParam (Vc [e] X.env=[(false,Vf e X.env)]) zA0):
  MSt X (.For (.Tuple es x1 tp) (.Call (.Name "enumerate" p1) [e] [] p2) body [] pos) (vn is (mItE te) tb):=by
 obtain⟨ug,N4,kk⟩:=hG;refine#[(cQ hp hc (Bz hg hm (bz he.out pa_nil t8) g8) (fM hc N4 hn k9) hb.out hs).anti λE s H q=>?_];obtain⟨F0,F,z,M,kp,rs,ED,h,e⟩:=q;refine#[F,z,M,kp.kf,rs,_,h,λd v M1 F1 H1 g1 hd rd m1=>?_];split at hd
 .rename_i ds;obtain⟨p,vs,rfl,hq,rr⟩:=rep_lst.mp rd;refine#[p,rfl,#[vs,SqL.of (g1.fh _ _ hq)],vo (It':=Itel X.K p) rfl (kp.growM rs.mb g1) (rs.growM kp.bh g1 m1) e b8 (λk F' H' s1 s2 hk=>?_) (λF' H' s1 s2=>?_) (λk F' H' x H'' s1 s2 hk hy=>?_) (λdd n4 T z s F H Q hl hT rp D' hQ=>?_) (λ_ _ _ h=>h) hd]
  .have o8:k<vs.length:=by rw[rr.length];exact hk
   exact#[vs,vs[k],SqL.of (s2 _ _ (s1 _ _ hq)),by simp[o8]]
  .exact#[vs,SqL.of (s2 _ _ (s1 _ _ hq)),by rw[rr.length];exact HP _]
  .obtain⟨T,v,hT,e1,e2,hv⟩:=hy;obtain⟨d,hd,rd⟩:=rr.get' (hv vs (SqL.of (s2 _ _ (s1 _ _ hq))));exact#[T,d,v,hT,e1,e2,hd,rd.mono s1]
  .exact#[T,n4,rfl,SqT.of hT,by rw[rp.length];exact hl,kk dd n4 z s J.B F H Q (by rw[hl,b8]) rp D' hQ]
 .exact hd.elim
def BC{x1:Nat}{tp p1 p2:Vh}{tb:TMS}(hp:Vr (U9 X.prog X.w) X.A X.env X.xe)(hc:X.calm=true)(hm:X.mg "enumerate"=v9)(he:ME X e te)(hG:DGs X es is)(hb:MSs X body tb)(b8:autoParam (is.length=2) zA0)(hg:autoParam (Gl X "enumerate") zA0)
  (hn:autoParam ((Vd es X.env).length=2) zA0) (k9:autoParam ((Vd es X.env).findIdx? (·.1)=none) zA0)
  (hs:autoParam (∀y,zFS X (.Call (.Name "enumerate" p1) [e] [] p2) y) zA3) (t8:autoParam (zSE X e []) zA0) (g8:autoParam (Vc [e] X.env=[(false,Vf e X.env)]) zA0):
  MSt X (.For (.Tuple es x1 tp) (.Call (.Name "enumerate" p1) [e] [] p2) body [] pos) (vn is (BA te) tb):=by
 obtain⟨ug,N4,kk⟩:=hG;refine#[(cQ hp hc (vm hg hm (bz he.out pa_nil t8) g8) (fM hc N4 hn k9) hb.out hs).anti λE s H q=>?_];obtain⟨F0,F,z,M,kp,rs,ED,h,e⟩:=q;refine#[F,z,M,kp.kf,rs,_,h,λd v M1 F1 H1 g1 hd rd m1=>?_];split at hd
 .rename_i x;obtain⟨ha,hd⟩:=hd;have hl:=fj x;refine#[x,by rw[rep_str.mp rd],ha,vo (It':=Ites x) rfl (kp.growM rs.mb g1) (rs.growM kp.bh g1 m1) e b8 (λk F' H' s1 s2 hk=>?_) (λF' H' s1 s2=>?_) (λk F' H' x H'' s1 s2 hk hy=>?_) (λdd n4 T z s F H Q hl hT rp D' hQ=>?_) (λ_ _ _ h=>h) hd]
  .rw[hl]at hk;exact hk
  .exact hl
  .obtain⟨T,c,hT,e1,e2,hc⟩:=hy;exact#[T,.str #[[c].toArray],.str #[[c].toArray],hT,e1,e2,io hc,rep_str.mpr rfl]
  .exact#[T,n4,rfl,SqT.of hT,by rw[rp.length];exact hl,kk dd n4 z s J.B F H Q (by rw[hl,b8]) rp D' hQ]
 .exact hd.elim
end
end My
namespace L2
section
variable {prog:U'}{w:Va}{K:Type}[DecidableEq K]{l5:HeapKind prog w K}{A:Vb}{E:Os->SB->Prop}{s:SB}{d a:Pi}{k:K}{xs:List (K×Pi×Os)}
def BD{v:Os}{Q:Os->SB->Prop}(hu:l5.room A)(o6:l5.is s.heap k a)(hm:s.heap.DictOfH l5 d xs)
  (h1:∀p,Wi xs k=be p->Q p.2 {s with toks:=s.toks+l5.draws k})
  (h2:Wi xs k=v9->∀h',h'.DictOfH l5 d (xs++[(k,a,v)])->Heap.SameBut d s.heap h'->Q v {s with heap:=h',toks:=s.toks+l5.draws k})
  (j7:xs.length<=sizeLine):U_ (U9 prog w) A (Wo d (.ref a) v) Q E s:=by
 obtain⟨o,es,ep,ho,hc,hd,he,RV,hn⟩:=hm;unfold Wo
 try with_reducible refine Vt ?_
 refine P3 (l5.pyHash hu o6 ?_);refine P3 (wpAny_dictFind_heap (s:={s with toks:=s.toks+l5.draws k}) hu o6 ho hd he RV hn ?_ ?_)
 .intro M4;have P4:k∉xs.map (·.1):=not_mem_keys_of_get M4;refine P3 (WS (P3 (wpAny_updateDictKeys (hz:=by have e:=size_of_entries he;lia) (s:={s with toks:=s.toks+l5.draws k}) ho hd (SZ (h2 (atKey_none_of_get M4) _ ⟨_,_,ep+1,Heap.get?_update_self _ ho (Obj.isFreed_of_dict (Obj.data_mapDictKeys hd _)),
   hc.mapDictKeys _,Obj.data_mapDictKeys hd _,?_,?_,?_⟩ (Heap.SameBut.update ..))))))
  .simp[he,entryOfKey]
  .intro x hx;rcases Iy.mp hx with hx|hx
   .exact l5.keeps (RV x hx) ho hd (Heap.SameBut.update ..)
   .simp only[HN]at hx;subst hx;exact l5.keeps o6 ho hd (Heap.SameBut.update ..)
  .rw[Ip,Jr];refine#[hn,MD,?_];intro x hx y hy;simp only[Il,Jn,HN]at hy;subst hy;exact λe=>P4 (e ▸ hx)
 .intro j p hj;refine P3 (wpAny_dictEntries (s:={s with toks:=s.toks+l5.draws k}) ho hd ?_);rw[entry_at he j,hj];exact P3 (WS (SZ (h1 p (atKey_of_get hn hj))))
def BE(l5:HeapKind prog w K)(d a:Pi)(hd:(d==Vx)=false)(v:Os):
  MeetsIn prog w (Builtin.«dict.setdefault» #[[.ref d,.ref a,v],[]]) (λA R s=>l5.room A.in1/\∃k xs,l5.is s.heap k a/\s.heap.DictOfH l5 d xs/\xs.length<=sizeLine/\
   (∀p,Wi xs k=be p->R (.ok (.ret p.2)) {s with toks:=s.toks+l5.draws k})/\
   (Wi xs k=v9->∀h',h'.DictOfH l5 d (xs++[(k,a,v)])->Heap.SameBut d s.heap h'->R (.ok (.ret v)) {s with heap:=h',toks:=s.toks+l5.draws k})):=
 .of_wp λA R s hh=>by
  obtain⟨hu,k,xs,o6,hm,hz,h1,h2⟩:=hh;unfold Builtin.«dict.setdefault»;refine P3 ?_;unfold Builtin.Dict.keyAndDefault;refine P3 (wpAny_notOrdered_dict hm.typeIs ?_);show U_ _ _ (pure (d,Value.ref a,be v)) _ _ s;refine SZ ?_;show U_ _ _ (if(d==Vx)=true then _ else(Wo d (.ref a) v>>=_)) _ _ s;rw[if_neg (by rw[hd];exact Ie)];exact P3 (BD hu o6 hm (λp hp=>SZ #[p.2,rfl,h1 p hp]) (λhn h' Mz Mb=>SZ #[v,rfl,h2 hn h' Mz Mb]) hz)
end
end L2
namespace My
open Exc
def lookD:List ((Int×Int)×Int)->Int->Int->Option Int
 |[],_,_=>v9
 |((a,b),h)::r,x,y=>if a=x/\b=y then be h else lookD r x y
def lN(x y:Int):∀a9:List ((Int×Int)×Int),valV (dtiV a9) [.inl x,.inl y]=(lookD a9 x y).map V.int
 |[]=>rfl
 |((a,b),h)::r=>by
  show valV (([.inl a,.inl b],V.int h)::dtiV r) _=_;unfold lookD;by_cases e:a=x/\b=y
  .rw[if_pos e,kF (by rw[e.1,e.2])];rfl
  .rw[if_neg e,kG (λz=>e (by
    have z':([Sum.inl a,Sum.inl b]:List Key)=[.inl x,.inl y]:=z;injection z' with z1 z2;injection z2 with z2 _;exact#[Sum.inl.inj z1,Sum.inl.inj z2])),lN x y r]
def sdD(a9:List ((Int×Int)×Int))(x y v:Int):List ((Int×Int)×Int):=if(lookD a9 x y).isSome then a9 else a9++[((x,y),v)]
def BF:V->List V->Hp->VK->Prop:=λx vs H Q=>∃a b i j d a9,x=.ref a/\vs=[.ref b,.int d]/\H a=be (.dT (dtiV a9))/\H b=be (.tup [.int i,.int j])/\Q (.int ((lookD a9 i j).getD d)) H
def BG{X:Cx}(hu:X.A.units+1<V6):MtR X "dict.get" BF:=by
 intro pins s σ H x vs v us Q I rx rv h;obtain⟨a,b,i,j,d,a9,rfl,rfl,ha,hb,q⟩:=h;obtain⟨u,u',rfl,ru,rd⟩:=fN rv;cases(show v=Value.ref a from rx);refine zr hu I (DGet.t (k:=[.inl i,.inl j]) ha hb) ru rd λw' s' I' h_=>#[.int ((lookD a9 i j).getD d),H,I',?_,q];rw[lN]at h_;cases e:lookD a9 i j with
 |none=>rw[e]at h_;exact h_
 |some z=>rw[e]at h_;exact h_
def rSdT:V->List V->Hp->VK->Prop:=λx vs H Q=>∃a b i j d a9,x=.ref a/\vs=[.ref b,.int d]/\H a=be (.dT (dtiV a9))/\H b=be (.tup [.int i,.int j])/\a9.length<100000/\∀w,Q (.int w) (upd H a (.dT (dtiV (sdD a9 i j d))))
variable{H:Hp}{a:Pi}
def BH{o:HO}(h:H a=be o):upd H a o=H:=by
 funext b;by_cases e:b=a
 .subst e;rw[aB,h]
 .rw[ar e]
def BI{X:Cx}(hu:X.A.units+1<V6):MtR X "dict.setdefault" rSdT:=by
 intro pins s σ H x vs v us Q I rx rv h;obtain⟨a,b,i,j,d,a9,rfl,rfl,ha,hb,hl,q⟩:=h;obtain⟨u,u',rfl,ru,t,rfl⟩:=fN rv;cases(show v=Value.ref a from rx);cases(show u=Value.ref b from ru);obtain⟨z,hd,xs,v_,dd⟩:=zn I.hok ha;have b8:xs.length=a9.length:=by rw[<-Paired.length v_];simp[dtiV]
 have big:(100000:Nat)<sizeLine:=Mx
 have gV:H b=be (.tup (([.inl i,.inl j]:List Key).map kV)):=hb;have l6:=v_.val [.inl i,.inl j];rw[lN]at l6;refine WD PySem.F.slot_dict_setdefault dd.typeIs PySem.F.entry_dict_setdefault (PySem.F.args_dict_setdefault_3 _ _ _) (BE (VZ (bN X.prog X.w)) a b hd (.int d t)) #[WW hu,[.inl i,.inl j],xs,key_of I.hok gV,dd,KK,λp hp=>?_,λhn h' NX hs=>?_]
 .rw[hp]at l6;cases e:lookD a9 i j with
  |none=>rw[e]at l6;exact l6.elim
  |some w=>
   rw[e]at l6;have:=q w;unfold sdD at this;rw[e]at this;have e2:(if(be w:Option Int).isSome then a9 else a9++[((i,j),d)])=a9:=rfl;rw[e2,BH ha]at this;exact#[.int w,H,I.tok _,l6,this]
 .rw[hn]at l6;cases e:lookD a9 i j with
  |some w=>rw[e]at l6;exact l6.elim
  |none=>
   have e2:sdD a9 i j d=a9++[((i,j),d)]:=by unfold sdD;rw[e];rfl
   have e3:dtiV (sdD a9 i j d)=dtiV a9++[([.inl i,.inl j],.int d)]:=by rw[e2];simp[dtiV]
   obtain⟨o,es,ep,ho,hx,h3,h4,_,h5⟩:=NX;have new:ObjOk X.prog X.w (upd H a (.dT (dtiV (sdD a9 i j d)))) h' a (.dT (dtiV (sdD a9 i j d))):=by
    refine#[by rw[e3,Ia];simp[dtiV];lia,hd,_,?_,o,es,ep,ho,hx,h3,h4,h5];rw[e3];refine KT.keeps (H:=H) (Paired.snoc (a:=(([.inl i,.inl j]:List Key),V.int d)) (b:=(([.inl i,.inl j]:List Key),b,Value.int d t)) v_ #[rfl,gV,#[t,rfl]]) λc ys ec=>?_;rw[ar (xm ec ha (λz=>nomatch z))];exact ec
   exact#[.int d,_,zo I (by rw[ha];exact True.intro) hs #[o,ho] new,#[t,rfl],q d]
section
variable {X:Cx}[J:Jm]{a b c e o f:U8}{ta tb tc te to:TME}{pos apos cpos:Vh}{t:TMA}
def mD0:TME:=λ_ M R=>R (.dti []) M
def BJ:ME X (.Dict [] [] pos) mD0:=⟨pe_dnewT.anti λs H Q q=>by
 obtain⟨F,z,M,k,rs,R,h1,h2⟩:=q;intro p hp;have gn:=Grow.new k.fh hp (.dT []);exact h2 _ _ M _ _ gn.toM h1 (rep_dti.mpr #[p,rfl,aB]) (rs.rm.grow gn)⟩
def mDN:TME:=λ_ M R=>∀p,p∉av M->R (.ptr p) ((p,.dti [])::M)
def BK:ME X (.Dict [] [] pos) mDN:=⟨pe_dnewT.anti λs H Q q=>by
 obtain⟨F,z,M,k,rs,R,h1,h2⟩:=q;intro p hp;exact h2 _ _ _ F _ (GrowM.new k.fh hp) (h1 p λz=>rs.rm.here z hp) (rep_ptr.mpr rfl) (rs.rm.new k.fh hp aB)⟩
def kdK(ds:List D)(k:Int->Int->Int->Prop):Prop:=kd2 ds λa b=>kdT a λl=>kd2 l λx y=>kdI x λi=>kdI y λj=>kdI b (k i j)
def kdK.of{ds:List D}{k:Int->Int->Int->Prop}(h:kdK ds k):∃i j x,ds=[.tup [.int i,.int j],.int x]/\k i j x:=by
 obtain⟨a,b,rfl,h2⟩:=kd2.of h;obtain⟨l,rfl,h3⟩:=kdT.of h2;obtain⟨x,y,rfl,h4⟩:=kd2.of h3;obtain⟨i,rfl,h5⟩:=kdI.of h4;obtain⟨j,rfl,h6⟩:=kdI.of h5;obtain⟨v,rfl,h7⟩:=kdI.of h6;exact#[i,j,v,rfl,h7]
def BL(to:TME)(t:TMA):TME:=λz M R=>to z M λd M1=>match d with|.dti a9=>(t z M1 λds M2=>kdK ds λi j x=>R (.int ((lookD a9 i j).getD x)) M2)|_=>False
def BM(hu:X.A.units+1<V6)(ho:ME X o to)(ha:MA X [e,f] t)(b7:autoParam (Ve o "get" X.env (Vf o X.env)=Vf o X.env) zA0)
  (d8:autoParam (zHF X cpos [e,f]) zA0)
  (b_:autoParam ((apos.endLine==cpos.line)=true) zA0) (l_:autoParam (zSE X e [f]) zA0) (c8:autoParam (zPL X cpos [f]) zA0):
  ME X (.Call (.Attribute o "get" apos) [e,f] [] cpos) (BL to t):=⟨(eJ PySem.F.plainAttrs_dict PySem.F.slot_dict_get PySem.F.type_dict_get (BG hu) ho.out ha.out b7 d8 b_ l_ c8).anti λs H Q h=>by
 obtain⟨F,z,M,k,rs,R,h1,h2⟩:=h;refine#[F,z,M,k,rs,_,h1,λx u M1 F1 H1 g1 hx rx m1=>?_];split at hx
 .rename_i a9;obtain⟨p,rfl,hp⟩:=rep_dti.mp rx;refine#[.inr (.inr (.inl #[rfl,.inr #[_,g1.fh _ _ hp]])),?_];refine#[F1,z,M1,k.growM rs.mb g1,rs.growM k.bh g1 m1,_,hx,λds vs M2 F2 H2 g2 hd rd m2=>?_];obtain⟨i,j,x,rfl,hd⟩:=kdK.of hd
  focus
   obtain⟨v1,r1,rfl,q1,q2⟩:=reps_cons.mp rd;obtain⟨v2,r2,rfl,q3,q4⟩:=reps_cons.mp q2;rw[reps_nil.mp q4,rep_int.mp q3];obtain⟨b,us,rfl,hb,ru⟩:=rep_tupS.mp q1;have P5:us=[.int i,.int j]:=(Reps.ints (ns:=[i,j])).mp ru;subst P5;exact#[p,b,i,j,x,a9,rfl,rfl,g2.fh _ _ (g2.ff _ _ hp),g2.fh _ _ hb,h2 _ _ M2 F2 H2 (g1.trans g2) hd (rep_int.mpr rfl) m2]
 .exact hx.elim⟩
def mDsd(to:TME)(t:TMA):TME:=λz M R=>to z M λd M1=>match d with|.ptr a=>(∃a9,mget M1 a=be (.dti a9))/\(t z M1 λds M2=>kdK ds λi j x=>∃a9,mget M2 a=be (.dti a9)/\a9.length<100000/\∀w,R (.int w) (mput M2 a (.dti (sdD a9 i j x))))|_=>False
def BN(hu:X.A.units+1<V6)(ho:ME X o to)(ha:MA X [e,f] t)(b7:autoParam (Ve o "setdefault" X.env (Vf o X.env)=Vf o X.env) zA0)
  (d8:autoParam (zHF X cpos [e,f]) zA0)
  (b_:autoParam ((apos.endLine==cpos.line)=true) zA0) (l_:autoParam (zSE X e [f]) zA0) (c8:autoParam (zPL X cpos [f]) zA0):
  ME X (.Call (.Attribute o "setdefault" apos) [e,f] [] cpos) (mDsd to t):=⟨(eJ PySem.F.plainAttrs_dict PySem.F.slot_dict_setdefault PySem.F.type_dict_setdefault (BI hu) ho.out ha.out b7 d8 b_ l_ c8).anti λs H Q h=>by
 obtain⟨F,z,M,k,rs,R,h1,h2⟩:=h;refine#[F,z,M,k,rs,_,h1,λx u M1 F1 H1 g1 hx rx m1=>?_];split at hx
 .rename_i a;obtain⟨⟨UF,PX⟩,hx⟩:=hx;rw[rep_ptr.mp rx];refine#[.inr (.inr (.inl #[rfl,.inr #[_,m1.ok _ _ (bu PX)]])),?_];refine#[F1,z,M1,k.growM rs.mb g1,rs.growM k.bh g1 m1,_,hx,λds vs M2 F2 H2 g2 hd rd m2=>?_];obtain⟨i,j,x,rfl,a9,hm,hl,hR⟩:=kdK.of hd
  focus
   obtain⟨v1,r1,rfl,q1,q2⟩:=reps_cons.mp rd;obtain⟨v2,r2,rfl,q3,q4⟩:=reps_cons.mp q2;rw[reps_nil.mp q4,rep_int.mp q3];obtain⟨b,us,rfl,hb,ru⟩:=rep_tupS.mp q1;have P5:us=[.int i,.int j]:=(Reps.ints (ns:=[i,j])).mp ru;subst P5;refine#[a,b,i,j,x,a9,rfl,rfl,m2.ok _ _ (bu hm),g2.fh _ _ hb,hl,λw=>?_];exact h2 _ _ _ F2 _ (g1.trans (g2.trans (GrowM.put g2.fh (m2.fr a (bS (bu hm))) hm))) (hR w) (rep_int.mpr rfl) (m2.put hm aB)
 .exact hx.elim⟩
end
section
variable {P:U'}{w:Va}{K:Ex}{mg:LB->Option Os}{base:Heap}
open Classical in
def Cls.okIM{x qual:LB}{st:U7}{f C:Pi}{fd:Vg}{N:List LB}{p0:LB}{ps:List LB}{k:Nat}{S:SiD}(T:Fun K "__init__" qual st f fd)(hb:Binds K fd (p0::ps) [])(F:FnScope N (p0::ps) (ah st))(len:∀ds R,S ds R->ds.length=ps.length)
  (hns:nsIn K SL x=be (be (.ref C))) (j_:mg x=be (.ref C)) (mk:Mk K C f)
  (a8:∀(cdv:Os) (A:Vb) (outer:List VU) (s:SB) (H:Hp) (E:XK) (J:Jm),Room k (A.deeper (Vk qual (ah st) s.heap.objs.size f cdv))->XOkM (cxOf (CX1 P w) P w K mg base N qual (ah st) f cdv A outer s H E).nox->
   ∃t,MSs (cxOf (CX1 P w) P w K mg base N qual (ah st) f cdv A outer s H E).nox (aK st) t/\∀a ds R,(∀z M x fs,¬J.RM z M x fs)->S ds R->t {nx:=λ_ M'=>∃fs,M'=[(a,.ins x fs)]/\R fs,rt:=λ_ _=>False} (startD N (.ptr a::ds)) [(a,.ins x [])]):CalM P w K mg base (k+1) x (p0::ps) S:=by
 refine#[C,f,fd,hns,j_,mk,Fun.okC T F (λvs H Q E h=>?_) (λcdv A outer s H vs Q E hr h=>?_),hb]
 .obtain⟨a,dx,us,H1,F,ds,rfl,_,_,_,_,_,rs,R,h,_⟩:=h;rw[HX,HX,rs.length,len ds R h]
 .obtain⟨a,dx,us,H1,F1,ds,rfl,rfl,ha,o_,j9,fh,rs,R,h,q⟩:=h
  let H:Hp:=upd (upd H1 dx (.own a)) a (.ins C dx [])
  let B:Hp:=λb=>if b=a then v9 else H b
  have N5:B a=none:=if_pos rfl;have hB:∀{b:Pi},b≠a->B b=H b:=λ{b} h=>if_neg h;have m_:∀{b:Pi} {o:HO},H1 b=be o->b≠a/\H b=be o:=λ{b o} e=>by
   have n1:b≠a:=bH e ha;exact#[n1,by show upd _ _ _ b=_;rw[ar n1,ar (bH e o_)];exact e]
  letI:Jm:={B:=B,F0:=F1,RX:=λ_ _ _=>False,RM:=λ_ _ _ _=>False}
  have hx:XOkM (cxOf (CX1 P w) P w K mg base N qual (ah st) f cdv A outer s H E).nox:=λσ z M' F' H' s' e C od y fs I kk rr hR er _=>hR.elim;obtain⟨t,ht,hq⟩:=a8 cdv A outer s H E inferInstance hr hx;have Fa:F1 a=none:=fh.free ha;have k0:Kept B F1 F1 H:=⟨λb o e=>by
   by_cases n:b=a
   .rw[n,N5]at e;cases e
   .rw[hB n]at e;exact e,λb o e=>(m_ (fh b o e)).2,Same.refl F1,λ_ h _=>h,rfl,Same.refl F1,λ_ h _=>h⟩
  have D':Reps K F1 (.ptr a::ds) (.ref a::us):=reps_cons.mpr #[_,_,rfl,rep_ptr.mpr rfl,rs];have P6:RepM K F1 H [(a,.ins x [])]:=⟨by simp[av],λb o hb=>by
   have e:=HN.mp hb;cases e;exact#[C,dx,[],hns,aB,repf_nil.mpr rfl],λb hb=>by
   have e:b=a:=by simpa[av]using hb
   rw[e];exact Fa⟩
  have r0:RepZ K B F1 H (startD N (.ptr a::ds)) (L2.start N (.ref a::us)) [(a,.ins x [])]:=⟨dJ D',lL D',P6,λb hb=>by
   have e:b=a:=by simpa[av]using hb
   rw[e];exact N5⟩
  refine#[_,ht.out.nox,F1,F1,_,_,k0,r0,_,hq a ds R (λ_ _ _ _ z=>z) h,#[λz' s' M' F' H' kk hn r=>?_,λd v M' F' H' kk hd rd PZ mb=>hd.elim,λ_ _ _ _ _ _ h _=>h.elim,λ_ _ _ _ _ _ h _=>h.elim]];obtain⟨fs,rfl,hR⟩:=hn;obtain⟨C',LN,ws,g5,e_,rf⟩:=r.rm.ok a _ (HN.mpr rfl);have K':nsIn K SL x=be (be (.ref C')):=g5;rw[hns]at K';cases K';exact q fs ws LN F' H' ⟨kk.f0,kk.fh,λb o e=>kk.bh b o (by show B b=be o;rw[hB (m_ e).1];exact(m_ e).2),λb h1 h2=>kk.out b h1 (by
   show B b≠v9;cases e:H1 b with
   |none=>exact absurd e h2
   |some o=>rw[hB (m_ e).1,(m_ e).2];exact λz=>nomatch z)⟩ hR e_ (r.rm.fr a (by simp[av])) rf
end
section
variable {P:U'}{w:Va}{K:Ex}{mg:LB->Option Os}{base:Heap}{n:Nat}{x m:LB}{ps:List LB}
variable{S:SpM}
def CalMth.one(h:CalMth P w K mg base n x m ps (lSpM K S)):∀y,y∈[x]->CalMth P w K mg base n y m ps (lSpM K ((λ_=>S) y)):=λy hy=>by
 rw[HN.mp hy];exact h
def vp{f:Pi}{fd:Vg}{sp:Sp}(h:∀vs H Q E,¬sp vs H Q E):FnOk P w K mg base (CX1 P w) n f fd ps sp:=#[λvs H Q E q=>(h _ _ _ _ q).elim,λA outer s H args us vs Q E _ _ _ _ q=>(h _ _ _ _ q).elim]
def vq(h:∀ds M R RX,¬S ds M R RX):∀vs H Q E,¬lSpM K S vs H Q E:=by
 rintro vs H Q E⟨F,ds,M,_,_,_,R,RX,q,_⟩;exact h ds M R RX q
def CalMth.never{qual:LB}{st:U7}(T:Txm K x m qual st ps)(h:∀ds M R RX,¬S ds M R RX):CalMth P w K mg base n x m ps (lSpM K S):=by
 obtain⟨C,f,fd,h1,h2,h3,T,hb⟩:=T;exact#[C,f,fd,h1,h2,h3,vp (vq h),hb]
def CalMM.never{st:U7}(T:Tx K mg x st ps)(h:∀ds M R RX,¬S ds M R RX):CalMM P w K mg base n x ps S:=by
 obtain⟨f,fd,T,hb,hm⟩:=T;exact#[f,fd,vp (vq h),hb,T.kp,hm]
end
section
variable {X:Cx}[J:Jm]{a b c e:U8}{ta tb:TME}{pos:Vh}
def mUn(r:D->(D->Prop)->Prop)(ta:TME):TME:=λz M R=>ta z M λx M1=>r x λd=>R d M1
end
def lP(S:SpM):SpM:=λds M R RX=>∃M1 M2,M=M1++M2/\S ds M2 (λd M'=>R d (M1++M')) λx fs M'=>RX x fs (M1++M')
def keys_app{M1 M2:MS}:a∈av (M1++M2)↔a∈av M1\/a∈av M2:=by unfold av;rw[Ip,Iy]
variable{K:Ex}{vs:List V}
def vt{S:SpM}{Q:VK}{E:XK}(h:lSpM K (lP S) vs H Q E):lSpM K S vs H Q E:=by
 obtain⟨F,ds,M,fh,rs,rm,R,RX,⟨M1,M2,rfl,hS⟩,q,qx⟩:=h;have nd:(av M1++av M2).Nodup:=by have:=rm.nd;unfold av at this ⊢;rw[Ip]at this;exact this
 have P7:∀{a:Pi},a∈av M1->a∉av M2:=λ{a} h1 h2=>(Jr.mp nd).2.2 a h1 a h2 rfl;have Tv:RepM K F H M2:=#[(Jr.mp nd).2.1,λa o h=>rm.ok a o (Ik _ h),λa h=>rm.fr a (keys_app.mpr (.inr h))];have up:∀{M':MS} {F' H':Hp},GrowM M2 M' F H F' H'->RepM K F' H' M'->GrowM (M1++M2) (M1++M') F H F' H'/\RepM K F' H' (M1++M'):=λ{M' F' H'} g r=>by
  have RW:∀{a:Pi},a∈av M1->H a≠none:=λ{a} h=>rm.here (keys_app.mpr (.inl h));have P8:∀{a:Pi},a∈av M1->a∉av M':=λ{a} h1 h2=>by
   rcases g.ks a h2 with z|z
   .exact P7 h1 z
   .exact RW h1 z
  refine#[#[g.ff,g.fh,λb o nb e=>g.hh b o (λz=>nb (keys_app.mpr (.inr z))) e,λb nb h1 h2=>g.out b (λz=>nb (keys_app.mpr (.inr z))) h1 h2,λb hb=>?_],#[?_,λa o h=>?_,λa h=>?_]]
  .rcases keys_app.mp hb with z|z
   .exact .inl (keys_app.mpr (.inl z))
   .exact(g.ks b z).imp (λz=>keys_app.mpr (.inr z)) id
  .unfold av;rw[Ip];exact Jr.mpr #[(Jr.mp nd).1,r.nd,λa h1 b h2 e=>P8 h1 (e ▸ h2)]
  .rcases Iy.mp h with z|z
   .have ka:a∈av M1:=bS z;exact(rm.ok a o (Ja _ z)).mono g.ff λo e=>g.hh a o (P7 ka) e
   .exact r.ok a o z
  .rcases keys_app.mp h with z|z
   .exact g.out a (P7 z) (rm.fr a (keys_app.mpr (.inl z))) (RW z)
   .exact r.fr a z
 exact#[F,ds,M2,fh,rs,Tv,_,_,hS,λd v M' F' H' g hd rd m'=>q d v _ F' H' (up g m').1 hd rd (up g m').2,λx fs C od M' F' H' g hR er m'=>qx x fs C od _ F' H' (up g m').1 hR er (up g m').2]
section
variable {P:U'}{w:Va}{K:Ex}{mg:LB->Option Os}{base:Heap}{n:Nat}{x m:LB}{ps:List LB}{S:SpM}
def CalMM.frame(C:CalMM P w K mg base n x ps S):CalMM P w K mg base n x ps (lP S):=C.imp λ_ _ _ _ h=>vt h
def CalMth.frame(C:CalMth P w K mg base n x m ps (lSpM K S)):CalMth P w K mg base n x m ps (lSpM K (lP S)):=C.imp λ_ _ _ _ h=>vt h
end
def nilX(S:SpX):SpM:=λds M R RX=>M=[]/\∃(R0:D->Prop) (LS:XD),S ds R0 LS/\(∀d M',R0 d->R d M')/\∀x fs M',LS x fs->RX x fs M'
def CalMM.nilX{P:U'}{w:Va}{mg:LB->Option Os}{base:Heap}{n:Nat}{x:LB}{ps:List LB}{S:SpX}(C:CalMM P w K mg base n x ps (nilX S)):CalX P w K mg base n x ps S:=C.toX λ_ R RX h=>#[rfl,R,RX,h,λ_ _ h=>h,λ_ _ _ h=>h]
mutual
def cq:D->Bool
 |.non=>true|.bl _=>true|.int _=>true|.str _=>true|.ptr _=>true
 |.tup ds=>flats ds
 |.lst ds=>flats ds
 |_=>false
def flats:List D->Bool
 |[]=>true
 |d::ds=>cq d&&flats ds
end
def cutF(F:Hp)(a:Pi):Hp:=λb=>if b=a then v9 else F b
variable{F:Hp}
def gx{b:Pi}(h:b≠a):cutF F a b=F b:=if_neg h
mutual
def Rep.cutF{K:Ex}{F:Hp}{a:Pi}{C:Pi}{dx:Pi}{ws:List (LB×V)}(ea:F a=be (.ins C dx ws)):∀(d:D) (v:V),cq d=true->Rep K F d v->Rep K (My.cutF F a) d v
 |.non,v,_,h=>by unfold Rep at h ⊢;exact h
 |.bl b,v,_,h=>by unfold Rep at h ⊢;exact h
 |.int b,v,_,h=>by unfold Rep at h ⊢;exact h
 |.str b,v,_,h=>by unfold Rep at h ⊢;exact h
 |.ptr b,v,_,h=>by unfold Rep at h ⊢;exact h
 |.tup ds,v,n,h=>by
  unfold Rep at h ⊢;obtain⟨p,vs,e,q,r⟩:=h;have ne:p≠a:=λz=>by rw[z,ea]at q;cases q
  exact#[p,vs,e,by rw[gx ne];exact q,Reps.cutF ea ds vs (by unfold cq at n;exact n) r]
 |.lst ds,v,n,h=>by
  unfold Rep at h ⊢;obtain⟨p,vs,e,q,r⟩:=h;have ne:p≠a:=λz=>by rw[z,ea]at q;cases q
  exact#[p,vs,e,by rw[gx ne];exact q,Reps.cutF ea ds vs (by unfold cq at n;exact n) r]
 |.rol _,_,n,_=>by unfold cq at n;cases n
 |.obj _ _,_,n,_=>by unfold cq at n;cases n
 |.exc _ _,_,n,_=>by unfold cq at n;cases n
 |.own _,_,n,_=>by unfold cq at n;cases n
 |.dti _,_,n,_=>by unfold cq at n;cases n
def Reps.cutF{K:Ex}{F:Hp}{a:Pi}{C:Pi}{dx:Pi}{ws:List (LB×V)}(ea:F a=be (.ins C dx ws)):∀(ds:List D) (vs:List V),flats ds=true->Reps K F ds vs->Reps K (My.cutF F a) ds vs
 |[],vs,_,h=>by unfold Reps at h ⊢;exact h
 |d::ds,vs,n,h=>by
  unfold flats at n;rw[Iw]at n;unfold Reps at h ⊢;obtain⟨v,r,e,q1,q2⟩:=h;exact#[v,r,e,Rep.cutF ea d v n.1 q1,Reps.cutF ea ds r n.2 q2]
end
def lendD(a:Pi)(o:D)(d:D):D:=match d with|.ptr b=>if b=a then o else .ptr b|d=>d
def lend(S:SpX):SpM:=λds M R _=>∃a x fs,mget M a=be (.ins x fs)/\S (ds.map (lendD a (.obj x fs))) (λd=>cq d=true/\R d M) λ_ _=>False
def BO{F2:Hp}{o d:D}{v:V}(g:Same F F2)(ro:Rep K F2 o (.ref a))(h:Rep K F d v):Rep K F2 (lendD a o d) v:=by
 unfold lendD;split
 .rename_i b;split
  .rename_i e;rw[rep_ptr.mp h,e];exact ro
  .exact rep_ptr.mpr (rep_ptr.mp h)
 .exact h.mono g
def BP{F2:Hp}{o:D}(g:Same F F2)(ro:Rep K F2 o (.ref a)){ds:List D}:∀{vs:List V},Reps K F ds vs->Reps K F2 (ds.map (lendD a o)) vs:=by
 induction ds with
 |nil=>intro vs h;rw[reps_nil.mp h];exact reps_nil.mpr rfl
 |cons d ds ih=>
  intro vs h;obtain⟨v,r,rfl,q1,q2⟩:=reps_cons.mp h;exact reps_cons.mpr #[v,r,rfl,BO g ro q1,ih q2]
def BQ{S:SpX}{Q:VK}{E:XK}(h:lSpM K (lend S) vs H Q E):lSpX K S vs H Q E:=by
 obtain⟨F,ds,M,fh,rs,rm,R,RX,⟨a,x,fs,hm,hS⟩,q,qx⟩:=h;have ma:=bu hm;obtain⟨C,dx,ws,n,hH,rf⟩:=rm.ok _ _ ma;have fa:=rm.fr a (bS ma);have g:Same F (upd F a (.ins C dx ws)):=aO fa _;have g2:Same (upd F a (.ins C dx ws)) H:=λb o e=>by
  by_cases hb:b=a
  .subst hb;rw[aB]at e;cases e;exact hH
  .rw[ar hb]at e;exact fh b o e
 have ro:Rep K (upd F a (.ins C dx ws)) (.obj x fs) (.ref a):=by
  unfold Rep;exact#[a,C,dx,ws,rfl,n,aB,RepF.mono g fs ws rf]
 refine#[upd F a (.ins C dx ws),_,g2,BP g ro rs,_,_,hS,λd v F' H' g' hd rd=>?_,λ_ _ _ _ _ _ _ z=>z.elim];have ea:F' a=be (.ins C dx ws):=g'.ff a _ aB;have ff:Same F (cutF F' a):=λb o e=>by
  have ne:b≠a:=λz=>by rw[z,fa]at e;cases e
  rw[gx ne];exact g'.ff b o (by rw[ar ne];exact e)
 have Tw:Same (cutF F' a) H':=λb o e=>by
  by_cases hb:b=a
  .subst hb;unfold cutF at e;rw[if_pos rfl]at e;cases e
  .rw[gx hb]at e;exact g'.fh b o e
 have out:∀b,F b=v9->H b≠v9->cutF F' a b=none:=λb h1 h2=>by
  by_cases hb:b=a
  .subst hb;exact if_pos rfl
  .rw[gx hb];exact g'.out b (by rw[ar hb];exact h1) h2
 exact q d v M (cutF F' a) H' #[ff,Tw,λb o _ e=>g'.hh b o e,λb _ h1 h2=>out b h1 h2,λb z=>.inl z] hd.2 (Rep.cutF ea d v hd.1 rd)
  #[rm.nd,λb o hb=>(rm.ok b o hb).mono ff λo e=>g'.hh b o e,λb hb=>out b (rm.fr b hb) (rm.here hb)]
def NoOwn(z:SD):Prop:=∀(i:Nat) ds,z[i]?≠be (be (.own ds))
def ofB(B H:Hp)(M:MS):Hp:=λb=>if b∈av M then H b else B b
def jOf(B H F:Hp)(M:MS):Jx:=#[ofB B H M,F,λ_ _ _=>False]
def endD(E:EndsM)(M:MS):EndsD:=#[λz=>E.nx z M/\NoOwn z,λd=>E.rt d M,λz=>E.bk z M/\NoOwn z,λz=>E.ct z M/\NoOwn z]
def mPS(t:TSD):TMS:=λE z M=>t (endD E M) z
section
variable {X:Cx}[J:Jm]
variable{B H:Hp}{M:MS}
def lQ{b:Pi}(h:b∈av M):ofB B H M b=H b:=if_pos h
def lR{b:Pi}(h:b∉av M):ofB B H M b=B b:=if_neg h
variable{K:Ex}{F0 F:Hp}{z:SD}{s:L2.St}
def dv{F' H':Hp}(k:Kept J.B F0 F H)(rz:RepZ K J.B F H z s M)(k':@Kept (jOf J.B H F M) (ofB J.B H M) F F' H'):Kept J.B F0 F' H'/\RepM K F' H' M:=by
 have nk:∀b,J.B b≠v9->b∉av M:=λb e z=>e (rz.mb b z);obtain⟨bh,fh,f0,out,_,_,_⟩:=k';refine#[#[λb o e=>?_,fh,k.f0.trans f0,λb h1 h2=>?_,k.eb,k.jf,k.jo],rz.rm.nd,λb o hb=>(rz.rm.ok b o hb).mono f0 λo e=>?_,λb hb=>?_]
 .exact bh b o (by rw[lR (nk b (by rw[e];exact λz=>nomatch z))];exact e)
 .exact out b (k.out b h1 h2) (by rw[lR (nk b h2)];exact h2)
 .exact bh b o (by rw[lQ (bS hb)];exact e)
 .exact out b (rz.rm.fr b hb) (by rw[lQ hb];exact rz.rm.here hb)
def gy{B':Hp}(r:RepS K B F H z s)(no:NoOwn z):RepS K B' F H z s:=#[r.len,r.val,λi ds e=>absurd e (no i ds),r.apart]
def vw(k:Kept J.B F0 F H):@Kept (jOf J.B H F M) (ofB J.B H M) F F H:=
 @Kept.mk (jOf J.B H F M) _ _ _ _ (λb o e=>by
  by_cases hb:b∈av M
  .rw[lQ hb]at e;exact e
  .rw[lR hb]at e;exact k.bh b o e) k.fh (Same.refl F) (λ_ h _=>h) rfl (Same.refl F) (λ_ h _=>h)
def vx{ED:EndsM}{D:Ends}(k:Kept J.B F0 F H)(rz:RepZ K J.B F H z s M)(e:EndsOkM K F0 ED D):@EndsOk (jOf J.B H F M) K (ofB J.B H M) F (endD ED M) D:=
 @EndsOk.mk (jOf J.B H F M) _ _ _ _ _ (λz' s' F' H' k' hz r'=>e.nx z' s' M F' H' (dv k rz k').1 hz.1 #[gy r' hz.2,hz.2,(dv k rz k').2,rz.mb])
  (λd v F' H' k' hd rd=>e.rt d v M F' H' (dv k rz k').1 hd rd (dv k rz k').2 rz.mb)
  (λz' s' F' H' k' hz r'=>e.bk z' s' M F' H' (dv k rz k').1 hz.1 #[gy r' hz.2,hz.2,(dv k rz k').2,rz.mb])
  (λz' s' F' H' k' hz r'=>e.ct z' s' M F' H' (dv k rz k').1 hz.1 #[gy r' hz.2,hz.2,(dv k rz k').2,rz.mb])
def vy{st:U7}{t:TSD}(h:∀J':Jx,@WDS X J' st t):MSt X st (mPS t):=⟨λpins s σ H D I q=>by
 obtain⟨F0,F,z,M,k,rz,ED,ht,e⟩:=q;exact @WDS.out X (jOf J.B H F M) st t (h _) pins s σ H D I #[ofB J.B H M,F,F,z,vw k,gy rz.rs rz.no,_,ht,vx k rz e]⟩
def mTry(tb:Jm->TMS)(th:TH):TMS:=λE z M=>∃RM:SD->MS->XD,(∀J':Jm,J'.RM=RM->tb J' E z M)/\∀z' M' x fs,RM z' M' x fs->th x fs (endD E M') z'
def jTry(B F0:Hp)(RM:SD->MS->XD):Jm:={B:=B,F0:=F0,RX:=λ_ _ _=>False,RM:=RM}
variable{RM:SD->MS->XD}
def Kept.reM(k:Kept J.B F0 F H):@Kept (jTry J.B F0 RM).toJx J.B F0 F H:=@Kept.mk (jTry J.B F0 RM).toJx J.B F0 F H k.bh k.fh k.f0 k.out rfl (Same.refl F0) (λ_ h _=>h)
def Kept.unM{F' H':Hp}(k:Kept J.B F0 F H)(k':@Kept (jTry J.B F0 RM).toJx J.B F0 F' H'):Kept J.B F0 F' H':=by
 obtain⟨a,b,c,d,_,_,_⟩:=k';exact#[a,b,c,d,k.eb,k.jf,k.jo]
def lU{body:List U7}{h₀:VD}{hs:List VD}{pos:Vh}{tb:Jm->TMS}{th:TH}
  (hb:∀(pn:List (Pi×Vp)) (xe:Os->SB->Prop) (J':Jm),Vr (U9 X.prog X.w) X.A X.env xe->@XOkM (X.tried pn xe) J'->@MSs (X.tried pn xe) J' body (tb J'))
  (hh:∀J':Jx,@WDH X J' (h₀::hs) th) (d_:autoParam (X.ex=[]) zA0) (B_:autoParam (X.stack=X.env::X.outer) zA0) (l9:autoParam (X.env.frame=be X.env.locals) zA0):MSt X (.Try body (h₀::hs) [] [] pos) (mTry tb th):=⟨by
 intro pins s σ H D I h;obtain⟨F0,F,z,M,k,rz,ED,⟨RM,h1,h2⟩,ee⟩:=h;have ok:=I.ok;have hx:@XOkM (X.tried (X.pn++pins) (λe s₁=>U_ (U9 X.prog X.w) X.A (V0 e X.env) (λ_ s₂=>U_ (U9 X.prog X.w) X.A (We e v9) (λ_ s₃=>U_ (U9 X.prog X.w) X.A (Wn e X.env (h₀::hs)) (SP X pins D) X.xe s₃) X.xe s₂) X.xe s₁)) (jTry J.B F0 RM):=by
  intro σ' z' M' F' H' s' e C od x fs I1 kk rr hR er hd;have k2:Kept J.B F0 F' H':=Kept.unM k kk;exact AM (Inv.untried ok I1) hd d_ B_ l9 λs4 T2 I4 hl=>@WDH.out X (jOf J.B H' F' M') _ _ (hh _) pins s4 σ' H' D e C od T2 x fs (ofB J.B H' M') F' F' z' (endD ED M') I4 hl (vw k2) (gy rr.rs rr.no) er (h2 z' M' x fs hR) (vx k2 rr ee)
 refine wpAny_Try_except (Vm (@MSs.out _ (jTry J.B F0 RM) _ _ (hb (X.pn++pins) _ (jTry J.B F0 RM) PassesOwn.looking hx) [] s σ H D (Inv.tried I) ?_) (λf s1 q=>?_) λe s1 q=>q)
 .exact#[F0,F,z,M,Kept.reM k,rz,ED,h1 (jTry J.B F0 RM) rfl,@EndsOkM.mk (jTry J.B F0 RM) _ _ _ _ (λz' s' M' F' H' k'=>ee.nx z' s' M' F' H' (Kept.unM k k')) (λd v M' F' H' k'=>ee.rt d v M' F' H' (Kept.unM k k')) (λz' s' M' F' H' k'=>ee.bk z' s' M' F' H' (Kept.unM k k')) (λz' s' M' F' H' k'=>ee.ct z' s' M' F' H' (Kept.unM k k'))]
 .have q:=SP.untried ok q;cases f with
  |next=>exact VR q
  |ret v=>exact q
  |brk=>exact q
  |cont=>exact q⟩
end
end My
namespace My
section
variable {K:Ex}{h:Heap}{mg:LB->Option Os}{x y m q f:LB}{st:U7}{ps:List LB}
abbrev NsC(K:Ex)(x:LB)(C:Pi):Prop:=nsIn K SL x=be (be (.ref C))
variable{C:Pi}
def NsC.uniq{D:Pi}(a:NsC K x C)(b:NsC K x D):C=D:=by
 have e:=a.symm.trans b;cases e;rfl
abbrev BindA(x q:LB)(st:U7)(ps:List LB):Prop:=∀(kV doc pm:Os) (an:Option Pi) (cdv ct:Os) (us:List Os),us.length=ps.length->VP (fnOf x q (bA st) (aK st) (ah st) .none kV doc pm an cdv ct) #[us,[]]=pure (ps.zip us)
def FnIn(K:Ex)(x:LB)(st:U7):Prop:=∃f fd,NsC K x f/\Fun K x x st f fd
variable{oc kV dc pm cd ct:Os}{od an:Option Pi}{sl:Array (Option Os)}
def fnIn_mk{f:Pi}(a:nsIn K SL x=be (be (.ref f)))(l:K.lookup f=be #[oc,od,.func (fnOf x x (bA st) (aK st) (ah st) .none kV dc pm an cd ct),sl])(c:codeIn K cd x=true)(k:keepIn K (.ref f)=true):FnIn K x st:=#[f,_,a,gY l c k]
def FnIn.tx(T:FnIn K x st)(X:K.In h)(G:h.Ns SL mg)(b:BindA x x st ps):Tx K mg x st ps:=by
 obtain⟨f,fd,a,F⟩:=T;exact#[f,fd,F,F.binds b,mg_of X G a]
def FnIn.law{p:LB}(T:FnIn K x st)(X:K.In h)(G:h.Ns SL mg){fa:Pi}(MJ:mg x=be (.ref fa))(b:∀(kV doc pm:Os) (an:Option Pi) (cdv ct v:Os),VP (fnOf x x (bA st) (aK st) (ah st) .none kV doc pm an cdv ct) #[[v],[]]=pure [(p,v)]):∃fd,(∀(s:SB) (v:Os),V3 s fd #[[v],[]] [(p,v)])/\Fun K x x st fa fd:=by
 obtain⟨f,fd,a,F⟩:=T;have e:=MJ.symm.trans (mg_of X G a);cases e;refine#[fd,λs v=>?_,F];obtain⟨oc,od,kV,doc,pm,an,cdv,ct,osl,rfl,lk,gt⟩:=F.ex;exact .of_eq (b _ _ _ _ _ _ v)
variable{us:List Os}
def bq{x:LB}{xs:List LB}(h:us.length=(x::xs).length):∃u t,us=u::t/\t.length=xs.length:=by
 cases us with
 |nil=>cases h
 |cons u t=>exact#[u,t,rfl,Nat.succ.inj h]
def len_0(h:us.length=([]:List LB).length):us=[]:=JE h
variable{x0:LB}
def BR(b:∀(kV doc pm:Os) (an:Option Pi) (cdv ct u0:Os),VP (fnOf x q (bA st) (aK st) (ah st) .none kV doc pm an cdv ct) #[[u0],[]]=pure [(x0,u0)]):BindA x q st [x0]:=λkV doc pm an cdv ct us hl=>by
 obtain⟨u0,t0,rfl,h0⟩:=bq hl;cases len_0 h0;exact b kV doc pm an cdv ct u0
variable{x1:LB}
def bind2(b:∀(kV doc pm:Os) (an:Option Pi) (cdv ct u0 u1:Os),VP (fnOf x q (bA st) (aK st) (ah st) .none kV doc pm an cdv ct) #[[u0,u1],[]]=pure [(x0,u0),(x1,u1)]):BindA x q st [x0,x1]:=λkV doc pm an cdv ct us hl=>by
 obtain⟨u0,t0,rfl,h0⟩:=bq hl;obtain⟨u1,t1,rfl,h1⟩:=bq h0;cases len_0 h1;exact b kV doc pm an cdv ct u0 u1
variable{x2:LB}
def bind3(b:∀(kV doc pm:Os) (an:Option Pi) (cdv ct u0 u1 u2:Os),VP (fnOf x q (bA st) (aK st) (ah st) .none kV doc pm an cdv ct) #[[u0,u1,u2],[]]=pure [(x0,u0),(x1,u1),(x2,u2)]):BindA x q st [x0,x1,x2]:=λkV doc pm an cdv ct us hl=>by
 obtain⟨u0,t0,rfl,h0⟩:=bq hl;obtain⟨u1,t1,rfl,h1⟩:=bq h0;obtain⟨u2,t2,rfl,h2⟩:=bq h1;cases len_0 h2;exact b kV doc pm an cdv ct u0 u1 u2
variable{x3:LB}
def bind4(b:∀(kV doc pm:Os) (an:Option Pi) (cdv ct u0 u1 u2 u3:Os),VP (fnOf x q (bA st) (aK st) (ah st) .none kV doc pm an cdv ct) #[[u0,u1,u2,u3],[]]=pure [(x0,u0),(x1,u1),(x2,u2),(x3,u3)]):BindA x q st [x0,x1,x2,x3]:=λkV doc pm an cdv ct us hl=>by
 obtain⟨u0,t0,rfl,h0⟩:=bq hl;obtain⟨u1,t1,rfl,h1⟩:=bq h0;obtain⟨u2,t2,rfl,h2⟩:=bq h1;obtain⟨u3,t3,rfl,h3⟩:=bq h2;cases len_0 h3;exact b kV doc pm an cdv ct u0 u1 u2 u3
def bind5{x4:LB}(b:∀(kV doc pm:Os) (an:Option Pi) (cdv ct u0 u1 u2 u3 u4:Os),VP (fnOf x q (bA st) (aK st) (ah st) .none kV doc pm an cdv ct) #[[u0,u1,u2,u3,u4],[]]=pure [(x0,u0),(x1,u1),(x2,u2),(x3,u3),(x4,u4)]):BindA x q st [x0,x1,x2,x3,x4]:=λkV doc pm an cdv ct us hl=>by
 obtain⟨u0,t0,rfl,h0⟩:=bq hl;obtain⟨u1,t1,rfl,h1⟩:=bq h0;obtain⟨u2,t2,rfl,h2⟩:=bq h1;obtain⟨u3,t3,rfl,h3⟩:=bq h2;obtain⟨u4,t4,rfl,h4⟩:=bq h3;cases len_0 h4;exact b kV doc pm an cdv ct u0 u1 u2 u3 u4
def bind6{x4 x5:LB}(b:∀(kV doc pm:Os) (an:Option Pi) (cdv ct u0 u1 u2 u3 u4 u5:Os),VP (fnOf x q (bA st) (aK st) (ah st) .none kV doc pm an cdv ct) #[[u0,u1,u2,u3,u4,u5],[]]=pure [(x0,u0),(x1,u1),(x2,u2),(x3,u3),(x4,u4),(x5,u5)]):BindA x q st [x0,x1,x2,x3,x4,x5]:=λkV doc pm an cdv ct us hl=>by
 obtain⟨u0,t0,rfl,h0⟩:=bq hl;obtain⟨u1,t1,rfl,h1⟩:=bq h0;obtain⟨u2,t2,rfl,h2⟩:=bq h1;obtain⟨u3,t3,rfl,h3⟩:=bq h2;obtain⟨u4,t4,rfl,h4⟩:=bq h3;obtain⟨u5,t5,rfl,h5⟩:=bq h4;cases len_0 h5;exact b kV doc pm an cdv ct u0 u1 u2 u3 u4 u5
structure ClF(K:Ex)(x:Str)(C:Pi):Prop where
 ns:NsC K x C
 cl:Cls K C
 ha:HW K (.ref C) "__class__"=be (be (.builtin "object.__class__"))
 hn:specialIn K (.builtin "object.__class__") "__get__"=be (be (.builtin "getset_descriptor.__get__"))
 ht:takesIn K (.builtin "object.__class__")=be true
 hm:IK K C (.type "object")=be true
def ClIn(K:Ex)(x:LB):Prop:=∃C,ClF K x C
def clIn_mk(a:nsIn K SL x=be (be (.ref C)))(pg:plainGet K C Str.empty=true)(hd:hasDictIn K C=true)(po:plainOver K C=true)(sa:HW K (.ref C) "__setattr__"=be (be (.builtin "object.__setattr__")))
  (ha:HW K (.ref C) "__class__"=be (be (.builtin "object.__class__"))) (hn:specialIn K (.builtin "object.__class__") "__get__"=be (be (.builtin "getset_descriptor.__get__"))) (ht:takesIn K (.builtin "object.__class__")=be true) (hm:IK K C (.type "object")=be true):ClIn K x:=#[C,a,#[pg,hd,po,sa],ha,hn,ht,hm]
def NoIn(K:Ex)(x f:LB):Prop:=∃C,NsC K x C/\HW K (.ref C) f=be v9
def noIn_mk(a:nsIn K SL x=be (be (.ref C)))(b:HW K (.ref C) f=be v9):NoIn K x f:=#[C,a,b]
def ClIn.a(c:ClIn K x)(n:NoIn K x f):ClsA K x f:=by
 obtain⟨C,k⟩:=c;obtain⟨D,a,b⟩:=n;cases NsC.uniq k.ns a;exact#[C,a,k.cl,b]
def NoIn.all(n:NoIn K x f):∀C,nsIn K SL x=be (be (.ref C))->HW K (.ref C) f=be none:=λC hC=>by
 obtain⟨D,a,b⟩:=n;cases NsC.uniq hC a;exact b
def MtIn(K:Ex)(x m q:LB)(st:U7):Prop:=∃C f fd,NsC K x C/\Meth K C m f/\Fun K m q st f fd
def mtIn_mk{f:Pi}(a:nsIn K SL x=be (be (.ref C)))(b:HW K (.ref C) m=be (be (.ref f)))(i:isFn K (.ref f)=true)(l:K.lookup f=be #[oc,od,.func (fnOf m q (bA st) (aK st) (ah st) .none kV dc pm an cd ct),sl])(c:codeIn K cd q=true)(k:keepIn K (.ref f)=true):MtIn K x m q st:=#[C,f,_,a,#[b,i,k],gY l c k]
def MtIn.txm(T:MtIn K x m q st)(c:ClIn K x)(b:BindA m q st ps):Txm K x m q st ps:=by
 obtain⟨C,k⟩:=c;obtain⟨D,f,fd,a,mt,F⟩:=T;cases NsC.uniq k.ns a;exact#[C,f,fd,a,k.cl,mt,F,F.binds b]
def InIn(K:Ex)(x q:LB)(st:U7):Prop:=∃C f fd,NsC K x C/\Mk K C f/\Fun K "__init__" q st f fd
def inIn_mk{f:Pi}(a:nsIn K SL x=be (be (.ref C)))(mk:makesIn K C=true)(b:HW K (.ref C) "__init__"=be (be (.ref f)))(i:isFn K (.ref f)=true)(kp:keepIn K (.ref C)=true)(l:K.lookup f=be #[oc,od,.func (fnOf "__init__" q (bA st) (aK st) (ah st) .none kV dc pm an cd ct),sl])(c:codeIn K cd q=true)(k:keepIn K (.ref f)=true):InIn K x q st:=#[C,f,_,a,#[mk,b,i,kp],gY l c k]
def Txi(K:Ex)(mg:LB->Option Os)(x q:LB)(st:U7)(ps:List LB):Prop:=∃C f fd,NsC K x C/\mg x=be (.ref C)/\Mk K C f/\Fun K "__init__" q st f fd/\Binds K fd ps []
def InIn.txi(T:InIn K x q st)(X:K.In h)(G:h.Ns SL mg)(b:BindA "__init__" q st ps):Txi K mg x q st ps:=by
 obtain⟨C,f,fd,a,mk,F⟩:=T;exact#[C,f,fd,a,mg_of X G a,mk,F,F.binds b]
def CiIn(K:Ex)(x:LB)(i:Int):Prop:=∃t,nsIn K SL x=be (be (.int i t))
def CsIn(K:Ex)(x y:LB):Prop:=∃t,nsIn K SL x=be (be (.str y t))
def ciIn_mk{i:Int}{t:W5}(a:nsIn K SL x=be (be (.int i t))):CiIn K x i:=#[t,a]
def csIn_mk{t:W5}(a:nsIn K SL x=be (be (.str y t))):CsIn K x y:=#[t,a]
def CiIn.g{i:Int}(c:CiIn K x i)(X:K.In h)(G:h.Ns SL mg):∃t,mg x=be (.int i t):=let ⟨t,a⟩:=c;#[t,mg_of X G a]
def CsIn.g(c:CsIn K x y)(X:K.In h)(G:h.Ns SL mg):∃t,mg x=be (.str y t):=let ⟨t,a⟩:=c;#[t,mg_of X G a]
def NnIn(K:Ex)(x:LB):Prop:=nsIn K SL x=be v9
def nnIn_mk(a:nsIn K SL x=be v9):NnIn K x:=a
structure ErF(K:Ex)(x:Str)(bm:List Os)(C N:Pi):Prop where
 ns:NsC K x C
 kp:keepIn K (.ref C)=true
 ob:∃nm q bs sn sub ab col dd k0 k1 k2 k3 k5,K.lookup C=be (Vs nm q C N bs bm true sn sub ab col dd k0 k1 k2 k3 k5 "ValueError.__new__")
structure ErN(K:Ex)(N:Pi):Prop where
 ok:nsOkIn K N=true
 no:nsIn K N "__init__"=be v9
def EbIn(K:Ex):Prop:=∃C N,ErF K "MotifError" Exc.veLine C N/\ErN K N
def EdIn(K:Ex)(x:LB)(C N:Pi):Prop:=∃B,NsC K "MotifError" B/\ErF K x (.ref B::Exc.veLine) C N
def E0In(K:Ex)(x:LB):Prop:=∃C N,EdIn K x C N/\ErN K N
def E1In(K:Ex)(x q:LB)(st:U7):Prop:=∃C N f fd,EdIn K x C N/\HW K (.ref C) "__init__"=be (be (.ref f))/\isFn K (.ref f)=true/\Fun K "__init__" q st f fd
def EaIn(K:Ex)(x:LB):Prop:=∃C,NsC K x C/\HW K (.ref C) "__setattr__"=be (be (.builtin "object.__setattr__"))
def EgIn(K:Ex)(x:LB):Prop:=∃C,NsC K x C/\HW K (.ref C) "__getattribute__"=be (be (.builtin "BaseException.__getattribute__"))/\HW K (.ref C) "__getattr__"=be v9
def EiIn(K:Ex)(x:LB):Prop:=∃M,NsC K x M/\readsIn K M (.type "type")=true/\findCls K (.ref M) (.type "type") "__init__"=be (.val (.builtin "ValueError.__init__"))/\specialIn K (.ref M) "__getattribute__"=be (be (.builtin "type.__getattribute__"))
def EmIn(K:Ex)(x y:LB):Prop:=∃C D,NsC K x C/\NsC K y D/\IK K C (.ref D)=be (subE x y)
section
variable {B C D N:Pi}{nm qn:LB}{bs:List Os}{sn:List LB}{sub:List Os}{ab:Bool}{col:Option Bool}{dd:Option Pi}{k0 k1 k2 k3 k5:Option Os}{nc:Os}{nd:Option Pi}{ne:Array DictEntry}{np:Nat}{nl:Array (Option Os)}
def ebIn_mk(a:nsIn K SL "MotifError"=be (be (.ref C)))(kp:keepIn K (.ref C)=true)(o:K.lookup C=be (Vs nm qn C N bs Exc.veLine true sn sub ab col dd k0 k1 k2 k3 k5 "ValueError.__new__"))(nk:K.lookup N=be #[nc,nd,.dict ne np,nl])(al:ne.toList.all (λe=>match e.key with|.str _ _=>true|_=>false)=true)(ni:nsIn K N "__init__"=be v9):EbIn K:=#[C,N,#[a,kp,_,_,_,_,_,_,_,_,_,_,_,_,_,o],ux nk al,ni]
def e0In_mk(b:nsIn K SL "MotifError"=be (be (.ref B)))(a:nsIn K SL x=be (be (.ref C)))(kp:keepIn K (.ref C)=true)(o:K.lookup C=be (Vs nm qn C N bs (.ref B::Exc.veLine) true sn sub ab col dd k0 k1 k2 k3 k5 "ValueError.__new__"))(nk:K.lookup N=be #[nc,nd,.dict ne np,nl])(al:ne.toList.all (λe=>match e.key with|.str _ _=>true|_=>false)=true)(ni:nsIn K N "__init__"=be v9):E0In K x:=#[C,N,#[B,b,a,kp,_,_,_,_,_,_,_,_,_,_,_,_,_,o],ux nk al,ni]
def e1In_mk{f:Pi}{oc:Os}{od an:Option Pi}{sl:Array (Option Os)}{kV dc pm cd ct:Os}(b:nsIn K SL "MotifError"=be (be (.ref B)))(a:nsIn K SL x=be (be (.ref C)))(kp:keepIn K (.ref C)=true)(o:K.lookup C=be (Vs nm qn C N bs (.ref B::Exc.veLine) true sn sub ab col dd k0 k1 k2 k3 k5 "ValueError.__new__"))
  (j:HW K (.ref C) "__init__"=be (be (.ref f))) (i:isFn K (.ref f)=true) (l:K.lookup f=be #[oc,od,.func (fnOf "__init__" q (bA st) (aK st) (ah st) .none kV dc pm an cd ct),sl]) (c:codeIn K cd q=true) (k:keepIn K (.ref f)=true):E1In K x q st:=#[C,N,f,_,#[B,b,a,kp,_,_,_,_,_,_,_,_,_,_,_,_,_,o],j,i,gY l c k]
def eaIn_mk(a:nsIn K SL x=be (be (.ref C)))(b:HW K (.ref C) "__setattr__"=be (be (.builtin "object.__setattr__"))):EaIn K x:=#[C,a,b]
def egIn_mk(a:nsIn K SL x=be (be (.ref C)))(b:HW K (.ref C) "__getattribute__"=be (be (.builtin "BaseException.__getattribute__")))(c:HW K (.ref C) "__getattr__"=be v9):EgIn K x:=#[C,a,b,c]
def eiIn_mk(a:nsIn K SL x=be (be (.ref C)))(b:readsIn K C (.type "type")=true)(c:findCls K (.ref C) (.type "type") "__init__"=be (.val (.builtin "ValueError.__init__")))(d:specialIn K (.ref C) "__getattribute__"=be (be (.builtin "type.__getattribute__"))):EiIn K x:=#[C,a,b,c,d]
def emIn_mkT(e:subE x y=true)(a:nsIn K SL x=be (be (.ref C)))(c:nsIn K SL y=be (be (.ref D)))(d:IK K C (.ref D)=be true):EmIn K x y:=#[C,D,a,c,e ▸ d]
def emIn_mkF(e:subE x y=false)(a:nsIn K SL x=be (be (.ref C)))(c:nsIn K SL y=be (be (.ref D)))(d:IK K C (.ref D)=be false):EmIn K x y:=#[C,D,a,c,e ▸ d]
end
def EdIn.k{N:Pi}(e:EdIn K x C N)(b:EbIn K)(X:K.In h)(G:h.Ns SL mg):∃bm,ErrK K mg x C N bm:=by
 obtain⟨B,hB,k⟩:=e;obtain⟨B',N',kb,n⟩:=b;cases NsC.uniq kb.ns hB;obtain⟨_,_,_,_,_,_,_,_,_,_,_,_,_,o⟩:=kb.ob;exact#[_,k.ns,mg_of X G k.ns,k.kp,k.ob,AQ o rfl n.ok n.no]
def E0In.k(e:E0In K x)(b:EbIn K)(X:K.In h)(G:h.Ns SL mg):∃C N bm,ErrK K mg x C N bm/\ErrN K N:=by
 obtain⟨C,N,k,n⟩:=e;obtain⟨bm,z⟩:=k.k b X G;exact#[C,N,bm,z,n.ok,n.no]
def Txe(K:Ex)(mg:LB->Option Os)(x q:LB)(st:U7)(ps:List LB):Prop:=∃C N bm f fd,ErrK K mg x C N bm/\HW K (.ref C) "__init__"=be (be (.ref f))/\isFn K (.ref f)=true/\Fun K "__init__" q st f fd/\Binds K fd ps []
def E1In.txe(e:E1In K x q st)(b:EbIn K)(X:K.In h)(G:h.Ns SL mg)(bi:BindA "__init__" q st ps):Txe K mg x q st ps:=by
 obtain⟨C,N,f,fd,k,i,j,F⟩:=e;obtain⟨bm,z⟩:=k.k b X G;exact#[C,N,bm,f,fd,z,i,j,F,F.binds bi]
def ErrK.a'{N:Pi}{bm:List Os}(k:ErrK K mg x C N bm)(a:EaIn K x):∃C cd,ErrA K x C cd:=by
 obtain⟨D,hD,sa⟩:=a;cases NsC.uniq k.ns hD;exact#[C,k.a sa]
def E1In.a(e:E1In K x q st)(b:EbIn K)(a:EaIn K x)(X:K.In h)(G:h.Ns SL mg):∃C cd,ErrA K x C cd:=by
 obtain⟨C,N,f,fd,k,_⟩:=e;obtain⟨bm,z⟩:=k.k b X G;exact z.a' a
def E1In.c(e:E1In K x q st)(b:EbIn K)(X:K.In h)(G:h.Ns SL mg):∃C N bm,ErrK K mg x C N bm:=by
 obtain⟨C,N,f,fd,k,_⟩:=e;obtain⟨bm,z⟩:=k.k b X G;exact#[C,N,bm,z]
def EiIn.b(e:EiIn K x)(X:K.In h)(G:h.Ns SL mg):∃M,BaseK K mg x M:=by
 obtain⟨M,a,b,c,d⟩:=e;exact#[M,mg_of X G a,b,c,d]
def EgIn.g(e:EgIn K x)(a:∃C cd,ErrA K x C cd)(n:NoIn K x f):ErrG K f x:=by
 obtain⟨C,h1,h2,h3⟩:=e;obtain⟨D,cd,ea⟩:=a;cases NsC.uniq ea.ns h1;exact#[C,cd,ea,h2,h3,n.all C h1]
def AllP(p:LB->Prop):List LB->Prop
 |[]=>True
 |a::l=>p a/\AllP p l
def AllP.mem{p:LB->Prop}:∀{l:List LB},AllP p l->∀x∈l,p x
 |_::_,h,_,.head _=>h.1
 |_::_,h,_,.tail _ m=>AllP.mem h.2 _ m
def BS{es:List LB}(c:AllP (λx=>∃C N bm,ErrK K mg x C N bm) es)(s:AllP (λx=>AllP (λy=>EmIn K x y) es) es):ErrsK K mg es:=by
 refine#[c.mem,λx hx y hy C C' h1 h2=>?_];obtain⟨A,B,a,b,m⟩:=(s.mem x hx).mem y hy;cases NsC.uniq a h1;cases NsC.uniq b h2;exact m
end
structure Bx where
 P:U'
 w:Va
 K:Ex
 mg:LB->Option Os
 base:Heap
abbrev Bx.T(V:Bx)(x:LB)(st:U7)(ps:List LB):Prop:=Tx V.K V.mg x st ps
abbrev Bx.Tm(V:Bx)(x m q:LB)(st:U7)(ps:List LB):Prop:=Txm V.K x m q st ps
abbrev Bx.Ti(V:Bx)(x q:LB)(st:U7)(ps:List LB):Prop:=Txi V.K V.mg x q st ps
abbrev Bx.Te(V:Bx)(x q:LB)(st:U7)(ps:List LB):Prop:=Txe V.K V.mg x q st ps
abbrev Bx.Ek(V:Bx)(es:List LB):Prop:=ErrsK V.K V.mg es
abbrev Bx.m(V:Bx)(x:LB):Prop:=V.mg x=v9
abbrev Bx.gi(V:Bx)(x:LB)(i:Int):Prop:=∃t,V.mg x=be (.int i t)
abbrev Bx.gs(V:Bx)(x y:LB):Prop:=∃t,V.mg x=be (.str y t)
abbrev Bx.a(V:Bx)(x f:LB):Prop:=ClsA V.K x f
abbrev Bx.D(V:Bx)(n:Nat)(x:LB)(ps:List LB)(S:SpD):Prop:=CalD V.P V.w V.K V.mg V.base n x ps S
abbrev Bx.X(V:Bx)(n:Nat)(x:LB)(ps:List LB)(S:SpX):Prop:=CalX V.P V.w V.K V.mg V.base n x ps S
abbrev Bx.MM(V:Bx)(n:Nat)(x:LB)(ps:List LB)(S:SpM):Prop:=CalMM V.P V.w V.K V.mg V.base n x ps S
abbrev Bx.M(V:Bx)(n:Nat)(x:LB)(ps:List LB)(S:SiD):Prop:=CalM V.P V.w V.K V.mg V.base n x ps S
abbrev Bx.E(V:Bx)(n:Nat)(x:LB)(ps:List LB)(S:SiD):Prop:=CalE V.P V.w V.K V.mg V.base n x ps S
abbrev Bx.Q(V:Bx)(n:Nat)(x m:LB)(ps:List LB)(S:SpM):Prop:=CalMth V.P V.w V.K V.mg V.base n x m ps (lSpM V.K S)
abbrev Bx.n(V:Bx)(x:LB):Prop:=∃C N bm,ErrK V.K V.mg x C N bm/\ErrN V.K N
abbrev Bx.b(V:Bx)(x:LB):Prop:=∃M,BaseK V.K V.mg x M
abbrev Bx.ea(V:Bx)(x:LB):Prop:=∃C cd,ErrA V.K x C cd
abbrev Bx.xf(V:Bx)(x f:LB):Prop:=∀C,nsIn V.K SL x=be (be (.ref C))->HW V.K (.ref C) f=be v9
abbrev Bx.x(V:Bx)(f:LB)(ys:List LB):Prop:=∀y∈ys,ErrG V.K f y
section
variable {P:U'}{w:Va}{K:Ex}{mg:LB->Option Os}{base:Heap}
variable{x qual p0:LB}{st:U7}{N ps:List LB}{k:Nat}{S:SiD}
def Txi.okI(T:Txi K mg x qual st (p0::ps))(F:FnScope (p0::N) (p0::ps) (ah st))(len:∀ds R,S ds R->ds.length=ps.length)
  (a8:∀(f:Pi) (cdv:Os) (A:Vb) (outer:List VU) (s:SB) (H:Hp) (E:XK) (J:Jx),Room k (A.deeper (Vk qual (ah st) s.heap.objs.size f cdv))->
   ∃t,WDI (cxOf (Exc.CX1 P w) P w K mg base (p0::N) qual (ah st) f cdv A outer s H E).nox x (aK st) t/\∀ds R,S ds R->t (v9::startD N ds) [] R):CalM P w K mg base (k+1) x (p0::ps) S:=by
 obtain⟨C,f,fd,a,b,c,d,e⟩:=T;exact Cls.okIW d e F len a b c (a8 f)
def Txi.okIM(T:Txi K mg x qual st (p0::ps))(F:FnScope N (p0::ps) (ah st))(len:∀ds R,S ds R->ds.length=ps.length)
  (a8:∀(f:Pi) (cdv:Os) (A:Vb) (outer:List VU) (s:SB) (H:Hp) (E:XK) (J:Jm),Room k (A.deeper (Vk qual (ah st) s.heap.objs.size f cdv))->XOkM (cxOf (Exc.CX1 P w) P w K mg base N qual (ah st) f cdv A outer s H E).nox->
   ∃t,MSs (cxOf (Exc.CX1 P w) P w K mg base N qual (ah st) f cdv A outer s H E).nox (aK st) t/\∀a ds R,(∀z M x fs,¬J.RM z M x fs)->S ds R->t {nx:=λ_ M'=>∃fs,M'=[(a,.ins x fs)]/\R fs,rt:=λ_ _=>False} (startD N (.ptr a::ds)) [(a,.ins x [])]):CalM P w K mg base (k+1) x (p0::ps) S:=by
 obtain⟨C,f,fd,a,b,c,d,e⟩:=T;exact Cls.okIM d e F len a b c (a8 f)
def Txe.okE(T:Txe K mg x qual st (p0::ps))(F:FnScope (p0::N) (p0::ps) (ah st))(len:∀ds R,S ds R->ds.length=ps.length)
  (a8:∀(f:Pi) (cdv:Os) (A:Vb) (outer:List VU) (s:SB) (H:Hp) (E:XK) (J:Jx),Room k (A.deeper (Vk qual (ah st) s.heap.objs.size f cdv))->
   ∃t,WDX (cxOf (Exc.CX1 P w) P w K mg base (p0::N) qual (ah st) f cdv A outer s H E).nox x (aK st) t/\∀ds R,S ds R->t (v9::startD N ds) [] R):CalE P w K mg base (k+1) x (p0::ps) S:=by
 obtain⟨C,N',bm,f,fd,a,b,c,d,e⟩:=T;exact Cls.okEW d e F len a b c (a8 f)
end
section
variable {X:Cx}[J:Jx]{a b c e o g_ iter:U8}{es:List U8}{ta tb tc te to ti tj:TD}{tt:TDT}{t:TDA}{pos px:Vh}{x:LB}{scope:Vz}
def vz(ix:Nat)(LM:TDI)(te:TD):TSD:=λE z=>LM z (cmpP te z λd=>match d with|.lst ys=>E.nx (z.set ix (be (.own ys)))|_=>False)
def BT{K:Ex}{E:Ends}{s:L2.St}{H:Hp}{ix:Nat}{wi:TI}{LM:TDI}(hI:ItOk K wi LM)(q:lS K (vz ix LM te) E s H):tAsg (gk wi (lT K dT1) (lE K te)) (fL ix) E s H:=by
 obtain⟨B,F0,F,z,k,rs,ED,h,e⟩:=q;refine hI k.kf rs h λitems J F1 H1 g1 hg it=>ud (Q:=λv H=>E.nx (s.set ix (be v)) H) k.kf g1 rs (λD ys us F' H' hH hF GG hu ry hR=>?_) it (cmpP.g hg);have r2:=(rs.grow GG).setOwn (i:=ix) (a:=D) (k.bh.free hH) hF ry λj dj _ q1 q2=>by
  obtain⟨a,vs,p1,p2,_⟩:=rs.own j dj q1;rw[p1]at q2;cases q2;rw[hH]at p2;cases p2
 rw[uq hu]at r2;exact e.nx _ _ F' H' (k.grow GG) hR r2
def BU(ix:Nat){y:LB}{py m9:Vh}(hc:X.calm=true)(S:CompScope X scope x)(hN:X.N.Nodup)(hi:WDE X iter ti)(he:∀cl s₀ H₀ fp,WDE (cf X scope cl x s₀ H₀ fp) g_ te)(NU:autoParam (X.N[ix]?=be y) zA0)(hy:autoParam (Loc X.env.scope y) zA4)
  (hf:autoParam (zFN X y) zA2) (LI:autoParam (Vn (.ListComp g_ [#[.Name x px,iter,[],0]] scope pos) (be (.Name y py)) m9.line X.env=pure true) zA0) (hs:autoParam (∀y,zFS X iter y) zA3):
  WDS X (.Assign [.Name y py] (.ListComp g_ [#[.Name x px,iter,[],0]] scope pos) m9) (vz ix (dItS ti) te):=#[(uc hc S (va hi.out) (λ_ _ _ _=>lu) (λa b c d=>(he a b c d).out) hN NU hy hf LI hs).anti λE s H q=>BT itS q]
def HK:RDn:=λds R=>match ds with|[.lst xs]=>∃ns:List Int,xs=ns.map D.int/\0<ns.length/\∀m,m∈ns->(∀a∈ns,m<=a)->R (.int m)|_=>False
def HL:RDn:=λds R=>match ds with|[.lst xs]=>R (.tup xs)|[.tup xs]=>R (.tup xs)|_=>False
def rSCount:RTx:=λy ds R=>match ds with|[.str p]=>R (.int (Builtin.Str.occurrences y p 0 y.length (y.length+1)).length)|_=>False
def BV:MtS X "str.count" rSCount:=by
 refine#[λx vs H Q=>∃y p,x=.str y/\vs=[.str p]/\Q (.int (Builtin.Str.occurrences y p 0 y.length (y.length+1)).length) H,?_,?_]
 .intro pins s σ H x vs v us Q I rx rv h;obtain⟨y,p,rfl,rfl,q⟩:=h;obtain⟨t,rfl⟩:=rx;obtain⟨u,rfl,t',rfl⟩:=cb rv;exact SC.count #[.int _,H,I.tok _,#[_,rfl],q]
 .intro y ds vs F H R Q r h q;unfold rSCount at h;split at h
  .obtain⟨v,vr,rfl,h1,h2⟩:=reps_cons.mp r;rw[reps_nil.mp h2,rep_str.mp h1];exact#[_,_,rfl,rfl,q _ _ (λ_=>rep_int.mpr rfl) h]
  .exact h.elim
def vA{apos cpos:Vh}(ho:WDE X o to)(ha:WDA X [e] t)(b7:autoParam (Ve o "count" X.env (Vf o X.env)=Vf o X.env) zA0)
  (d8:autoParam (zHF X cpos [e]) zA0)
  (b_:autoParam ((apos.endLine==cpos.line)=true) zA0) (hs:autoParam (zSE X e []) zA0):WDE X (.Call (.Attribute o "count" apos) [e] [] cpos) (dTx rSCount to t):=#[lz PySem.F.slot_str_count PySem.F.type_str_count BV ho.out ha.out b7 d8 b_ hs]
def BW(is:List Nat)(ti:TDI)(tb:TSD):TSD:=λE z=>ti z λds=>∃W:Nat->SD->Prop,W 0 z/\(∀(k:Nat) x z,ds[k]?=be x->W k z->tb {E with nx:=W (k+1),ct:=W (k+1),bk:=E.nx} (aY is [.int k,x] z))/\∀z,W ds.length z->E.nx z
variable{is:List Nat}
def BX{K:Ex}{B F0 F1 H1:Hp}{z:SD}{s:L2.St}{E:Ends}{ED:EndsD}{It':It}{g:TG}{tb:TSD}{N3:TS}{ds:List D}(k1:Kept B F0 F1 H1)(n5:RepS K B F1 H1 z s)(e:EndsOk K B F0 ED E)
  (go:∀k F' H',Same F1 F'->Same F' H'->k<ds.length->It'.go k H') (stop:∀F' H',Same F1 F'->Same F' H'->It'.stop ds.length H')
  (yld:∀k F' H' x H'',Same F1 F'->Same F' H'->k<ds.length->It'.yld k H' x H''->∃T d v,H' T=v9/\x=.ref T/\H''=upd H' T (.tup [.int k,v])/\ds[k]?=be d/\Rep K F' d v)
  (hg:∀(dd:List D) (vs:List V) (T:Pi) (z:SD) (s:L2.St) (F H:Hp) (Q:L2.St->Hp->Prop),dd.length=2->H T=be (.tup vs)->Reps K F dd vs->RepS K B F H z s->(∀s',RepS K B F H (aY is dd z) s'->Q s' H)->g (.ref T) s H Q)
  (P2:∀E s H,lS K tb E s H->N3 E s H)
  (hd:∃W:Nat->SD->Prop,W 0 z/\(∀(k:Nat) x z,ds[k]?=be x->W k z->tb {ED with nx:=W (k+1),ct:=W (k+1),bk:=ED.nx} (aY is [.int k,x] z))/\∀z,W ds.length z->ED.nx z):
  ∃W:Nat->Nat->L2.St->Hp->Prop,(∃m,W 0 m s H1)/\∀i m σ H,W i m σ H->
   (It'.stop i H/\E.nx σ H)\/(It'.go i H/\∃N:L2.St->Hp->Prop,(∀σ' H',N σ' H'->∃m',m'<m/\W (i+1) m' σ' H')/\∀x H',It'.yld i H x H'->g x σ H' λσ2 H2=>N3 {E with nx:=N,ct:=N,bk:=E.nx} σ2 H2):=by
 obtain⟨W,w0,c7,out⟩:=hd;refine#[λk m s' H'=>m=ds.length-k/\k<=ds.length/\∃F' z',Kept B F0 F' H'/\Same F1 F'/\RepS K B F' H' z' s'/\W k z',#[ds.length,MD,Iq _,F1,z,k1,Same.refl F1,n5,w0],?_];rintro k m s' H'⟨rfl,hk,F',z',k',g',r',w'⟩;by_cases f9:k<ds.length
 .refine .inr #[go k F' H' g' k'.fh f9,λs3 H3=>∃F3 z3,Kept B F0 F3 H3/\Same F1 F3/\RepS K B F3 H3 z3 s3/\W (k+1) z3,λs3 H3 h3=>#[ds.length-(k+1),KK,rfl,f9,h3],λx H'' hy=>?_];obtain⟨T,d,v,hT,rfl,rfl,hd,rd⟩:=yld k F' H' x H'' g' k'.fh f9 hy;have gn:=Grow.new k'.fh hT (.tup [.int k,v]);have k2:=k'.grow gn;have rp:Reps K (upd F' T (.tup [.int k,v])) [.int k,d] [.int k,v]:=reps_cons.mpr #[_,_,rfl,rep_int.mpr rfl,eU (rd.mono gn.ff)];refine hg [.int k,d] _ T z' s' _ _ _ rfl aB rp (r'.grow gn) λs2 M7=>P2 _ _ _ ?_;have gF:Same F1 (upd F' T (.tup [.int k,v])):=g'.trans gn.ff;refine#[B,upd F' T (.tup [.int k,v]),upd F' T (.tup [.int k,v]),_,#[k2.bh,k2.fh,Same.refl _,λb h1 _=>h1,k2.eb,k2.jf.trans k2.f0,λb h1 h2=>k2.out b (k2.jo b h1 h2) h2],M7,_,c7 k d z' hd w',?_];have up:∀{F3 H3:Hp},Kept B (upd F' T (.tup [.int k,v])) F3 H3->Kept B F0 F3 H3:=λk3=>#[k3.bh,k3.fh,k2.f0.trans k3.f0,λb h1 h2=>k3.out b (k2.out b h1 h2) h2,k2.eb,k2.jf,k2.jo];exact#[λz3 s3 F3 H3 k3 h3 r3=>#[F3,z3,up k3,gF.trans k3.f0,r3,h3],λd v F3 H3 k3=>e.rt d v F3 H3 (up k3),λz3 s3 F3 H3 k3=>e.nx z3 s3 F3 H3 (up k3),λz3 s3 F3 H3 k3 h3 r3=>#[F3,z3,up k3,gF.trans k3.f0,r3,h3]]
 .have ek:k=ds.length:=by lia
  subst ek;exact .inl #[stop F' H' g' k'.fh,e.nx z' s' F' H' k' (out z' w') r']
variable{p2:Vh}
def BY{es:List U8}{x1:Nat}{tp p1:Vh}{body:List U7}{tb:TSD}(hp:Vr (U9 X.prog X.w) X.A X.env X.xe)(hc:X.calm=true)(hm:X.mg "enumerate"=v9)(he:WDE X e te)(hG:DGs X es is)(hb:WDSs X body tb)(b8:autoParam (is.length=2) zA0)(hg:autoParam (Gl X "enumerate") zA0)
  (hn:autoParam ((Vd es X.env).length=2) zA0) (k9:autoParam ((Vd es X.env).findIdx? (·.1)=none) zA0)
  (hs:autoParam (∀y,zFS X (.Call (.Name "enumerate" p1) [e] [] p2) y) zA3) (t8:autoParam (zSE X e []) zA0) (g8:autoParam (Vc [e] X.env=[(false,Vf e X.env)]) zA0):
  WDS X (.For (.Tuple es x1 tp) (.Call (.Name "enumerate" p1) [e] [] p2) body [] pos) (BW is (dItS te) tb):=by
 obtain⟨ug,N4,kk⟩:=hG;refine#[(cQ hp hc (vm hg hm (bz he.out pa_nil t8) g8) (fM hc N4 hn k9) hb.out hs).anti λE s H q=>?_];obtain⟨B,F0,F,z,kp,rs,ED,h,e⟩:=q;refine#[B,F,z,kp.kf,rs,_,h,λd v F1 H1 g1 hd rd=>?_];split at hd
 .rename_i x;obtain⟨ha,hd⟩:=hd;have hl:=fj x;refine#[x,by rw[rep_str.mp rd],ha,BX (It':=Ites x) (kp.grow g1) (rs.grow g1) e (λk F' H' s1 s2 hk=>?_) (λF' H' s1 s2=>?_) (λk F' H' x H'' s1 s2 hk hy=>?_) (λdd n4 T z s F H Q hl hT rp D' hQ=>?_) (λ_ _ _ h=>h) hd]
  .rw[hl]at hk;exact hk
  .exact hl
  .obtain⟨T,c,hT,e1,e2,hc⟩:=hy;exact#[T,.str #[[c].toArray],.str #[[c].toArray],hT,e1,e2,io hc,rep_str.mpr rfl]
  .exact#[T,n4,rfl,SqT.of hT,by rw[rp.length];exact hl,kk dd n4 z s B F H Q (by rw[hl,b8]) rp D' hQ]
 .exact hd.elim
def BZ(K:Ex):R2:=λx y H Q=>∃p xs i z,x=.ref p/\y=.int i/\0<=i/\SqL K H p xs/\xs[i.toNat]?=be z/\Q z H
def B0:PGet X (BZ X.K):=by
 intro pins s σ H x y v u Q I rx ry h;obtain⟨p,xs,i,z,rfl,rfl,h0,hq,he,q⟩:=h;cases rx;obtain⟨t,rfl⟩:=ry;obtain⟨its,r,pl,hz⟩:=I.list hq;obtain⟨w,ew,h_⟩:=r.get he;have hl:=r.length;have hn:=line63;have hi:=(Ib.mp he).1;exact wpAny_getItem_list pl.isList h0 KK (by simpa using ew) #[z,H,I,h_,q]
def vB(i:Nat)(ti te:TD):TSD:=λE z=>match z[i]? with
 |some (be (.own ds))=>ti z λy=>(match y with|.int k=>∃n,0<=k/\ds[k.toNat]?=be (.int n)/\te z λd=>(match d with|.int m=>E.nx (z.set i (be (.own (ds.set k.toNat (.int (n+m))))))|_=>False)|_=>False)
 |_=>False
def B1(i:Nat){x:LB}{p1:Vh}(hb:WDE X b tb)(he:WDE X e te)(hN:autoParam (X.N[i]?=be x) zA0)(hv:autoParam (Vis X.env.scope x) zA5)(hd:autoParam (zND x) zA1)
  (gt:autoParam (zNC x) zA1)
  (ha:autoParam (∀ov iv new,augStore b ov iv new=(do Vy [new,ov,iv] (Wy ov iv new);W1 [new,ov,iv] [];pure .next)) zA7):
  WDS X (.AugAssign (.Subscript (.Name x p1) b p2) .Add e pos) (vB i tb te):=⟨(xM (cP hN hv hd gt) hb.out B0 he.out xN sF ha).anti λE s H q=>by
 obtain⟨B,F0,F,z,k,rs,ED,h,e⟩:=q;unfold vB at h;split at h
 .rename_i ds ez;obtain⟨a,vs,q1,q2,q3,q4,q5⟩:=rs.own i ds ez;refine#[.ref a,q1,B,F,z,k.kf,rs,_,h,λy w F2 H2 g2 hy ry=>?_];split at hy
  .rename_i k';obtain⟨n,k0,en,hn⟩:=hy;have LL:F2 a=none:=g2.out a q4 (by rw[q2];exact λz=>nomatch z);obtain⟨v,ev,rv⟩:=q5.get en;refine#[a,vs,_,v,rfl,rep_int.mp ry,k0,SqL.of (g2.hh _ _ q2),ev,B,F2,z,k.kf.grow g2,rs.grow g2,_,hn,λd u F3 H3 g3 hd rd=>?_];split at hd
   .have r2:=(rs.grow g2).grow g3;have k2:=(k.grow g2).grow g3;have OO:F3 a=none:=g3.out a LL (by rw[g2.hh _ _ q2];exact λz=>nomatch z);rw[rep_int.mp rv,rep_int.mp rd];have f9:=(Ib.mp en).1;refine#[_,_,rfl,rfl,a,vs,_,k'.toNat,rfl,rep_int.mp ry,g3.hh _ _ (g2.hh _ _ q2),by unfold ixN;rw[q5.length,if_pos k0,if_pos KK],?_];obtain⟨k3,r3⟩:=r2.change k2 ez q1 q3 OO (Reps.put (d:=.int _) (v:=.int _) (rep_int.mpr rfl) k'.toNat ((q5.mono g2.ff).mono g3.ff));exact e.nx _ s F3 _ k3 hd r3
   .exact hd.elim
  .exact hy.elim
 .exact h.elim⟩
def B2(i:Nat)(t:TDA):TSD:=λE z=>t z λds=>match ds with
 |[.lst xs]=>E.nx (z.set i (be (.own xs)))
 |[.tup xs]=>E.nx (z.set i (be (.own xs)))
 |_=>False
def B3[Jx](i:Nat){x:LB}{c5 p:Vh}{t:TDA}(hm:X.mg "list"=v9)(hN:X.N.Nodup)(ha:WDA X [e] t)(hi:autoParam (X.N[i]?=be x) zA0)(hx:autoParam (Loc X.env.scope x) zA4)(hg:autoParam (Gl X "list") zA0)(he:autoParam (zSE X e []) zA0)(hs:autoParam (Vn (.Call (.Name "list" p) [e] [] p2) (be (.Name x c5)) pos.line X.env=pure false) zA0)
  (hf:autoParam (zFN X x) zA2):WDS X (.Assign [.Name x c5] (.Call (.Name "list" p) [e] [] p2) pos) (B2 i t):=⟨have ha:=ha.out;(gR hN hi hx (kA sH hg hm PyProof.Rows.boot_list ha Mx Mx he) hs hf).anti λE s H q=>by
 obtain⟨B,F0,F,z,k,rs,ED,h,e⟩:=q;refine#[B,F,z,k.kf,rs,_,h,λds vs F1 H1 g hd rd=>?_];have k1:=k.grow g;have r1:=rs.grow g;have e8:∀{xs:List D} {us:List V},Reps X.K F1 xs us->ED.nx (z.set i (be (.own xs)))->∀l,H1 l=v9->E.nx (s.set i (be (.ref l))) (upd H1 l (.lst us)):=λ{xs us} rr hn p hp=>by
  have hB:B p=none:=k1.bh.free hp;have hF:F1 p=none:=k1.fh.free hp;refine e.nx _ _ F1 _ #[k1.bh.trans (aO hp _),k1.fh.trans (aO hp _),k1.f0,k1.out,k1.eb,k1.jf,k1.jo] hn (r1.setOwn hB hF rr λj dj hj e1 e2=>?_);obtain⟨a,us,q1,q2,_⟩:=r1.own j dj e1;rw[e2]at q1;cases q1;rw[hp]at q2;cases q2
 split at hd
 .obtain⟨v,r,rfl,h1,h2⟩:=reps_cons.mp rd;rw[reps_nil.mp h2];obtain⟨a,us,rfl,hq,rr⟩:=rep_lst.mp h1;exact#[a,us,rfl,.inl (g.fh.seq (SqL.of hq)),e8 rr hd]
 .obtain⟨v,r,rfl,h1,h2⟩:=reps_cons.mp rd;rw[reps_nil.mp h2];obtain⟨a,us,rfl,hq,rr⟩:=rep_tup_mp h1;exact#[a,us,rfl,.inr (g.fh.tup hq),e8 rr hd]
 .exact hd.elim⟩
end
mutual
def noL:D->Bool
 |.non=>true|.bl _=>true|.int _=>true|.str _=>true|.ptr _=>true|.dti _=>true
 |.tup ds=>noLs ds
 |.obj _ fs=>noLF fs
 |_=>false
def noLs:List D->Bool
 |[]=>true
 |d::ds=>noL d&&noLs ds
def noLF:List (LB×D)->Bool
 |[]=>true
 |(_,d)::ds=>noL d&&noLF ds
end
def nlF(F:Hp):Hp:=λb=>match F b with|some (.lst _)=>v9|o=>o
def lV{F:Hp}{b:Pi}{o:HO}(e:F b=be o)(h:∀vs,o≠.lst vs):nlF F b=be o:=by
 unfold nlF;rw[e];cases o with
 |lst vs=>exact absurd rfl (h vs)
 |_=>rfl
mutual
def Rep.nl{K:Ex}{F:Hp}:∀(d:D) (v:V),noL d=true->Rep K F d v->Rep K (nlF F) d v
 |.non,v,_,h=>by unfold Rep at h ⊢;exact h
 |.bl b,v,_,h=>by unfold Rep at h ⊢;exact h
 |.int b,v,_,h=>by unfold Rep at h ⊢;exact h
 |.str b,v,_,h=>by unfold Rep at h ⊢;exact h
 |.ptr b,v,_,h=>by unfold Rep at h ⊢;exact h
 |.dti a9,v,_,h=>by
  unfold Rep at h ⊢;obtain⟨a,e,q⟩:=h;exact#[a,e,lV q λ_ z=>nomatch z]
 |.tup ds,v,n,h=>by
  unfold Rep at h ⊢;obtain⟨a,vs,e,q,r⟩:=h;exact#[a,vs,e,lV q (λ_ z=>nomatch z),Reps.nl ds vs (by unfold noL at n;exact n) r]
 |.obj x fs,v,n,h=>by
  unfold Rep at h ⊢;obtain⟨a,C,dx,vs,e,n1,q,r⟩:=h;exact#[a,C,dx,vs,e,n1,lV q (λ_ z=>nomatch z),RepF.nl fs vs (by unfold noL at n;exact n) r]
 |.lst _,_,n,_=>by unfold noL at n;cases n
 |.rol _,_,n,_=>by unfold noL at n;cases n
 |.exc _ _,_,n,_=>by unfold noL at n;cases n
 |.own _,_,n,_=>by unfold noL at n;cases n
def RepF.nl{K:Ex}{F:Hp}:∀(ds:List (LB×D)) (vs:List (LB×V)),noLF ds=true->RepF K F ds vs->RepF K (nlF F) ds vs
 |[],vs,_,h=>by unfold RepF at h ⊢;exact h
 |(f,d)::ds,vs,n,h=>by
  unfold noLF at n;rw[Iw]at n;unfold RepF at h ⊢;obtain⟨v,r,e,q1,q2⟩:=h;exact#[v,r,e,Rep.nl d v n.1 q1,RepF.nl ds r n.2 q2]
def Reps.nl{K:Ex}{F:Hp}:∀(ds:List D) (vs:List V),noLs ds=true->Reps K F ds vs->Reps K (nlF F) ds vs
 |[],vs,_,h=>by unfold Reps at h ⊢;exact h
 |d::ds,vs,n,h=>by
  unfold noLs at n;rw[Iw]at n;unfold Reps at h ⊢;obtain⟨v,r,e,q1,q2⟩:=h;exact#[v,r,e,Rep.nl d v n.1 q1,Reps.nl ds r n.2 q2]
end
end My
end
section
namespace My
open PySem PySem.Spec PyProof.Rows L2
variable{w:Int}
def b64B(h:0<w)(h':w<=33554432):-(2^64)<w/\w<2^64:=KK
variable{s:Int}
def s64B(h:0<=s)(h':s<w)(UG:w<=33554432):-(2^64)<s/\s<2^64:=KK
def d30B(h:0<w)(h':w<=33554432):0<w/\w<1073741824:=KK
variable{x y:Int}
def ab24(h:x.natAbs<=12)(h':y.natAbs<=12):(x+y).natAbs<=24:=H8 (Kb x y) (JU h h')
def sq0(a:Int):0<=a*a:=(Int.le_total 0 a).elim (λq=>Kc q q) (λq=>Int.mul_nonneg_of_nonpos_of_nonpos q q)
def u64(h:w=1\/w=-1\/w=0):-(2^64)<w/\w<2^64:=KK
def n64{k:Nat}(h:w.natAbs<=k)(hk:autoParam (k<=1073741823) zA1):-(2^64)<w/\w<2^64:=KK
variable{a b:Int}
def i64(h:a<=w)(h':w<=b)(ha:autoParam ( -1000000000001<=a) zA1)(hb:autoParam (b<=1000000000001) zA1):-(2^64)<w/\w<2^64:=KK
def B4{X Y Z A B r:Nat}(h1:X<=Y)(h2:X=Z+2*B)(h3:1*A<=Z)(h5:Y<=A+r)(h6:r<B):False:=MC
def fdm(a b:Int)(hb:b≠0):(a-a.fdiv b*b).natAbs<b.natAbs/\(a.fdiv b).natAbs<=a.natAbs+1:=by
 have e:=Int.fmod_def a b;have e2:a-a.fdiv b*b=a.fmod b:=by rw[e,Iu]
 rw[e2];have r:(a.fmod b).natAbs<b.natAbs:=by
  rcases(KK:0<b\/b<0)with h|h
  .have h1:=KQ a h;have h2:=KR a h;lia
  .have h1:=KQ (-a) (show 0< -b by lia);have h2:=KR (-a) (show 0< -b by lia);rw[Int.neg_fmod_neg]at h1 h2;lia
 refine#[r,?_];have e3:(b*a.fdiv b).natAbs=b.natAbs*(a.fdiv b).natAbs:=IP _ _;have e4:=Int.mul_fdiv_self a b;rcases Jq (a.natAbs+1) (a.fdiv b).natAbs with c|c
 .have h1:b.natAbs*(a.natAbs+2)<=b.natAbs*(a.fdiv b).natAbs:=Nat.mul_le_mul_left _ c;have h2:b.natAbs*(a.natAbs+2)=b.natAbs*a.natAbs+2*b.natAbs:=by rw[Nat.mul_add,Nat.mul_comm _ 2]
  have h3:1*a.natAbs<=b.natAbs*a.natAbs:=KS _ KK;have h5:(b*a.fdiv b).natAbs<=a.natAbs+(a.fmod b).natAbs:=by rw[e4];exact KU a _
  rw[e3]at h5;exact(B4 h1 h2 h3 h5 r).elim
 .exact c
def Uni(a b c d p0 p1 q0 q1:Int):Prop:=∃m n k l:Int,(m*l-n*k=1\/m*l-n*k=-1)/\p0=m*a+n*c/\p1=m*b+n*d/\q0=k*a+l*c/\q1=k*b+l*d
def Uni.refl(a b c d:Int):Uni a b c d a b c d:=#[1,0,0,1,.inl Mx,KK,KK,KK,KK]
variable{c d p0 p1 q0 q1:Int}
def Uni.step(t:Int)(h:Uni a b c d p0 p1 q0 q1):Uni a b c d q0 q1 (p0-t*q0) (p1-t*q1):=by
 obtain⟨m,n,k,l,hd,rfl,rfl,rfl,rfl⟩:=h;refine#[k,l,m-t*k,n-t*l,?_,rfl,rfl,NS,NS];rcases hd with h|h
 .right;grind
 .left;grind
def Uni.neg(h:Uni a b c d p0 p1 q0 q1):Uni a b c d (-p0) (-p1) q0 q1:=by
 obtain⟨m,n,k,l,hd,rfl,rfl,rfl,rfl⟩:=h;refine#[-m,-n,k,l,?_,NS,NS,rfl,rfl];rcases hd with h|h
 .right;grind
 .left;grind
def Uni.inv(h:Uni a b c d p0 p1 q0 q1):Uni p0 p1 q0 q1 a b c d:=by
 obtain⟨m,n,k,l,hd,rfl,rfl,rfl,rfl⟩:=h;rcases hd with h|h
 .exact#[l,-n,-k,m,.inl NS,NS,NS,NS,NS]
 .exact#[-l,n,k,-m,.inr NS,NS,NS,NS,NS]
def Uni.det(h:Uni a b c d p0 p1 q0 q1):p0*q1-p1*q0=a*d-b*c\/p0*q1-p1*q0=-(a*d-b*c):=by
 obtain⟨m,n,k,l,hd,rfl,rfl,rfl,rfl⟩:=h;rcases hd with h|h
 .left;grind
 .right;grind
def Lev(a b c d p0 p1 q0:Int):Prop:=0<=p1/\Uni a b c d p0 p1 q0 0
def FamOf(a b c d w h s:Int):Prop:=0<w/\0<h/\0<=s/\s<w/\Uni a b c d w 0 s h
def B5(x:Int):(if x<0 then -x else x)=x\/(if x<0 then -x else x)=-x:=by
 split<;>simp
def B6(h:x≠0):0<(if x<0 then -x else x):=by split<;>lia
def gz(hn:¬a*d=b*c)(h:Lev a b c d p0 p1 q0):FamOf a b c d (if q0<0 then -q0 else q0) p1 (p0%(if q0<0 then -q0 else q0)):=by
 obtain⟨hp,hu⟩:=h;have dt:=hu.det;have Tz:q0≠0:=by
  rintro rfl;simp at dt;lia
 have UH:p1≠0:=by
  rintro rfl;simp at dt;lia
 have hw:=B6 Tz;have hs:=B5 q0;generalize (if q0<0 then -q0 else q0)=w at hw hs;refine#[hw,KK,IV _ KK,IW _ hw,?_];have em:=Jh p0 w;generalize p0%w=s at em;generalize p0/w=t at em;obtain⟨m,n,k,l,hd,e1,e2,e3,e4⟩:=hu;rcases hs with e|e
 .refine#[k,l,m-t*k,n-t*l,?_,NS,NS,NS,NS];rcases hd with h|h
  .right;grind
  .left;grind
 .refine#[-k,-l,m+t*k,n+t*l,?_,NS,NS,NS,NS];rcases hd with h|h
  .left;grind
  .right;grind
variable{h i j:Int}
def in_fam(hh:0<h)(ex:x=i*w+j*s)(ey:y=j*h):y%h=0/\(x-y/h*s)%w=0:=by
 subst ex ey;rw[IC _ KK];refine#[KW _ _,?_];have e:i*w+j*s-j*s=i*w:=KK
 rw[e];exact KW _ _
variable{u v:Int}
def vC(eu:u=i*a+j*c)(ev:v=i*b+j*d):(u*d-v*c).fmod (a*d-b*c)=0/\(a*v-b*u).fmod (a*d-b*c)=0:=by
 subst eu ev;refine#[Kd #[i,NS],Kd #[j,NS]]
def FamOf.cells(f:FamOf a b c d w h s):w*h=a*d-b*c\/w*h=-(a*d-b*c):=by
 have:=f.2.2.2.2.det;simpa using this
def bU{A B:Nat}(h1:a.natAbs<=A)(h2:d.natAbs<=B):(a*d).natAbs<=A*B:=by
 rw[IP];exact Js h1 h2
variable{g:Int}
def B7{gap:Int}{N:Nat}(hg:0<g)(c0:0<=c)(cg:c<=g)(h:gap.natAbs<=N):(c*gap/g).natAbs<=N:=by
 have h1:(c*gap).natAbs<=g.natAbs*N:=by rw[IP];exact Js MC h
 have e:((g.natAbs*N:Nat):Int)=N*g:=by rw[Ke,Int.natAbs_of_nonneg MC,Iu]
 have l1:=Int.le_ediv_of_mul_le (a:=-(N:Int)) (b:=c*gap) hg (by rw[Kf];omega);have l2:=Int.ediv_le_of_le_mul (a:=c*gap) (b:=(N:Int)) hg MC;omega
def dz(hw:0<w)(hh:0<h):w<=w*h/\h<=w*h:=by
 have h1:=KY (show 1<=h by lia) (show 0<=w by lia);have h2:=Iz (show 1<=w by lia) (show 0<=h by lia);lia
def FamOf.bd(f:FamOf a b c d w h s){N:Nat}(hN:(a*d-b*c).natAbs<=N):w<=N/\h<=N/\s<N:=by
 obtain⟨h1,h2⟩:=dz f.1 f.2.1;have h3:w*h<=N:=by
  rcases f.cells with e|e<;>rw[e]
  .exact IJ KZ (K0.mpr hN)
  .exact IJ KZ (K0.mpr (by rw[Kg];exact hN))
 exact#[IJ h1 h3,IJ h2 h3,Int.lt_of_lt_of_le f.2.2.2.1 (IJ h1 h3)]
def Meas(x y g u:Int):Prop:=0<=g/\(∃i,x=i*g)/\(∃j,y=j*g)/\∃n,g=u*x+n*y
variable{q:Int}
def vD(h:0<=g/\∃m n k l:Int,(m*l-n*k=1\/m*l-n*k=-1)/\u=m*1+n*0/\g=m*x+n*y/\q=k*1+l*0/\0=k*x+l*y):Meas x y g u:=by
 obtain⟨h0,m,n,k,l,hd,e1,e2,e3,e4⟩:=h;refine#[h0,?_,?_,n,NS]
 .rcases hd with h|h
  .exact#[l,NS]
  .exact#[-l,NS]
 .rcases hd with h|h
  .exact#[-k,NS]
  .exact#[k,NS]
def Meas.pos(h:Meas x y g u)(hx:0<x):0<g:=by
 obtain⟨h0,⟨i,hi⟩,_⟩:=h;rcases(KK:g=0\/0<g)with e|e
 .subst e;simp at hi;lia
 .exact e
def Meas.le(h:Meas x y g u)(hx:0<x):g<=x:=by
 have hg:=h.pos hx;obtain⟨h0,⟨i,hi⟩,_⟩:=h;have UI:0<i:=by
  rcases(KK:i<=0\/0<i)with e|e
  .have:=Ji e h0;lia
  .exact e
 have:=Iz (show 1<=i by lia) h0;lia
structure MetR(w1 h1 s1 w2 h2 s2 w h s A:Int):Prop where
 w0:0<w
 h0:0<h
 s0:0<=s
 sw:s<w
 in1:∃i,w=i*w1
 in2:∃i,w=i*w2
 up1:∃i j,s=i*w1+j*s1/\h=j*h1
 up2:∃i j,s=i*w2+j*s2/\h=j*h2
 A0:0<A
 cells:w*h*A=w1*h1*w2*h2
 d11:A∣w1*h1
 d12:A∣w1*h2
 d21:A∣w2*h1
 d22:A∣w2*h2
 ds:A∣s1*h2-h1*s2
 all:∀x y:Int,(∃i j,x=i*w1+j*s1/\y=j*h1)->(∃i j,x=i*w2+j*s2/\y=j*h2)->∃i j,x=i*w+j*s/\y=j*h
 comb:∀G:Int,G∣w1*h1->G∣w1*h2->G∣w2*h1->G∣w2*h2->G∣s1*h2-h1*s2->G∣A
def dP(h:0<x*y)(hy:0<y):0<x:=by
 rcases(KK:x<=0\/0<x)with e|e
 .have:=Ji e (show 0<=y by lia);lia
 .exact e
def lW(ha:0<a)(h:a*b=a*c):b=c:=Kh KK h
def r1(k j c:Int):k*(j*c)=j*(c*k):=NS
def r2(j u c n d:Int):j*(u*c+n*d)=u*(j*c)+n*d*j:=NS
def r3(u j d n j1:Int):u*(j*d)+n*d*j1=d*(u*j+n*j1):=NS
def r4(j u c n d:Int):j*(u*c+n*d)=u*c*j+n*(j*d):=NS
def r5(u c j n j1:Int):u*c*j+n*(j1*c)=c*(u*j+n*j1):=NS
def r6(g e i1 a i2 b d T s1 c s2:Int)(q:i1*(a*(e*g))+d*T*s1=i2*(b*(e*g))+c*T*s2):g*(e*(i1*a-i2*b))=T*(c*s2-d*s1):=NS
def r7(g T f:Int):g*(T*f)=T*(f*g):=NS
def r8(T v e q f:Int):T*(v*e+q*f)=v*T*e+q*(T*f):=NS
def r9(v T e q m:Int):v*T*e+q*(e*m)=e*(v*T+q*m):=NS
def r10(e r f:Int):e*r*f=e*(r*f):=NS
def r11(i u a n b:Int):i*(u*a+n*b)=u*(i*a)+n*b*i:=NS
def r12(u r f i2 b n i1:Int):u*(r*f+i2*b)+n*b*i1=u*(r*f)+b*(u*i2+n*i1):=NS
def r13(u r f b M a e g d s1 t:Int):(u*(r*f)+b*M)*(a*(e*g))+d*(e*r)*s1=(M+r*t)*(a*b*(e*g))+r*(e*(d*s1)+f*u*(a*(e*g))-a*b*(e*g)*t):=NS
def r14(d e r c k:Int):d*(e*r)*(c*k)=r*(c*d*k*e):=NS
variable{k e f gg u' s1 s2:Int}
def B8{n n' t i1 j1 i2 j2:Int}(hk:0<k)(LU:0<gg)(he:0<e)
  (u8:u*a+n*b=1) (p7:u'*c+n'*d=1) (gap:c*s2-d*s1=f*gg) (u9:v*e+q*f=1)
  (hs:s=e*(d*s1)+f*u*(a*(e*gg))-a*b*(e*gg)*t) (x1:x=i1*(a*(e*gg))+j1*s1) (y1:y=j1*(c*k)) (x2:x=i2*(b*(e*gg))+j2*s2) (y2:y=j2*(d*k)):
  ∃i j,x=i*(a*b*(e*gg))+j*s/\y=j*(c*d*k*e):=by
 have h1:j1*c=j2*d:=lW hk (by rw[r1 k j1 c,r1 k j2 d,<-y1,<-y2]);have OS:j1=d*(u'*j2+n'*j1):=by
  have p:=r2 j1 u' c n' d;rw[p7,h1,r3]at p;lia
 have RY:j2=c*(u'*j2+n'*j1):=by
  have p:=r4 j2 u' c n' d;rw[p7,<-h1,r5]at p;lia
 generalize u'*j2+n'*j1=T at OS RY;have q1:i1*(a*(e*gg))+d*T*s1=i2*(b*(e*gg))+c*T*s2:=by rw[<-OS,<-RY,<-x1,<-x2]
 have h2:e*(i1*a-i2*b)=T*f:=lW LU (by rw[r6 gg e i1 a i2 b d T s1 c s2 q1,r7,gap]);have eT:T=e*(v*T+q*(i1*a-i2*b)):=by
  have p:=r8 T v e q f;rw[u9,<-h2,r9]at p;lia
 generalize hr:v*T+q*(i1*a-i2*b)=r at eT;have h3:i1*a-i2*b=r*f:=lW he (by rw[h2,eT,r10]);have h4:i1=u*(r*f)+b*(u*i2+n*i1):=by
  have p:=r11 i1 u a n b;have q3:i1*a=r*f+i2*b:=KK
  rw[u8,q3,r12]at p;lia
 generalize u*i2+n*i1=M at h4;refine#[M+r*t,r,?_,?_]
 .rw[hs,x1,OS,eT,<-r13,<-h4]
 .rw[y1,OS,eT,r14]
def B9{n n' t:Int}(ha:0<a)(hb:0<b)(hc:0<c)(hd:0<d)(he:0<e)(hk:0<k)(LU:0<gg)
  (u8:u*a+n*b=1) (p7:u'*c+n'*d=1) (gap:c*s2-d*s1=f*gg) (u9:v*e+q*f=1)
  (hs:s=e*(d*s1)+f*u*(a*(e*gg))-a*b*(e*gg)*t) (m1:0<=s) (m2:s<a*b*(e*gg)):
  MetR (a*(e*gg)) (c*k) s1 (b*(e*gg)) (d*k) s2 (a*b*(e*gg)) (c*d*k*e) s (k*gg):=by
 have hg:0<e*gg:=Ii he LU;have hW:0<a*b*(e*gg):=Ii (Ii ha hb) hg;have P9:d*s1=c*s2-f*gg:=KK
 have ua:u*a=1-n*b:=KK
 refine#[hW,Ii (Ii (Ii hc hd) hk) he,m1,m2,#[b,?_],#[a,?_],#[f*u-t*b,d*e,?_,?_],#[-(f*n)-t*a,c*e,?_,?_],Ii hk LU,?_,#[a*e*c,?_],#[a*e*d,?_],#[b*e*c,?_],#[b*e*d,?_],#[-f,?_],?_,?_]
 .grind
 .grind
 .grind
 .grind
 .rw[hs,P9];have x2:f*u*(a*(e*gg))=f*(u*a)*(e*gg):=by grind
  rw[x2,ua];grind
 .grind
 .grind
 .grind
 .grind
 .grind
 .grind
 .have:s1*(d*k)-c*k*s2=-(k*(c*s2-d*s1)):=by grind
  rw[this,gap];grind
 .rintro x y⟨i1,j1,x1,z1⟩ ⟨i2,j2,x2,z2⟩;exact B8 hk LU he u8 p7 gap u9 hs x1 z1 x2 z2
 .rintro G⟨y1,z1⟩ ⟨y2,z2⟩ ⟨y3,z3⟩ ⟨y4,z4⟩ ⟨y5,z5⟩;refine#[v*(u'*u*y1+n'*u*y2+u'*n*y3+n'*n*y4)-q*y5,?_];have k1:k*(e*gg)=G*(u'*u*y1+n'*u*y2+u'*n*y3+n'*n*y4):=by
   have p1:k*(e*gg)=(u'*c+n'*d)*(u*a+n*b)*(k*(e*gg)):=by rw[u8,p7];grind
   have p2:(u'*c+n'*d)*(u*a+n*b)*(k*(e*gg))=u'*u*(a*(e*gg)*(c*k))+n'*u*(a*(e*gg)*(d*k))+u'*n*(b*(e*gg)*(c*k))+n'*n*(b*(e*gg)*(d*k)):=NS
   rw[p1,p2,z1,z2,z3,z4];grind
  have k2:k*(f*gg)=-(G*y5):=by
   rw[<-z5,<-gap];grind
  have k3:k*gg=(v*e+q*f)*(k*gg):=by rw[u9];grind
  have k4:(v*e+q*f)*(k*gg)=v*(k*(e*gg))+q*(k*(f*gg)):=NS
  rw[k3,k4,k1,k2];grind
variable{w1 h1 w2 h2:Int}
def lY{x8:Int}(OT:0<w1)(N6:0<w2)(RZ:0<h1)(Lv:0<h2)
  (M1:Meas w1 w2 g u) (M2:Meas h1 h2 k u')
  (M3:Meas g (h1*h2/k/h2*s2-h1*h2/k/h1*s1) gg x8):
  MetR w1 h1 s1 w2 h2 s2 (w1*w2/g) (h1*h2/k*(g/gg)) ((g/gg*(h1*h2/k/h1*s1)+g/gg*(h1*h2/k/h2*s2-h1*h2/k/h1*s1)/g*u*w1)%(w1*w2/g)) (k*gg):=by
 have hg:=M1.pos OT;have hk:=M2.pos RZ;have LU:=M3.pos hg;obtain⟨_,⟨a,ea⟩,⟨b,eb⟩,n,en⟩:=M1;obtain⟨_,⟨c,ec⟩,⟨d,ed⟩,n',UJ⟩:=M2;have ha:0<a:=dP (ea ▸ OT) hg;have hb:0<b:=dP (eb ▸ N6) hg;have hc:0<c:=dP (ec ▸ RZ) hk;have hd:0<d:=dP (ed ▸ Lv) hk;have u8:u*a+n*b=1:=by
  have p:(u*a+n*b)*g=1*g:=by
   have:(u*a+n*b)*g=u*(a*g)+n*(b*g):=by grind
   rw[this,<-ea,<-eb];lia
  exact Jt KK p
 have p7:u'*c+n'*d=1:=by
  have p:(u'*c+n'*d)*k=1*k:=by
   have:(u'*c+n'*d)*k=u'*(c*k)+n'*(d*k):=by grind
   rw[this,<-ec,<-ed];lia
  exact Jt KK p
 have eW:w1*w2/g=a*b*g:=by
  have:w1*w2=(a*b*g)*g:=by rw[ea,eb];grind
  rw[this];exact IC _ KK
 have eR:h1*h2/k=c*d*k:=by
  have:h1*h2=(c*d*k)*k:=by rw[ec,ed];grind
  rw[this];exact IC _ KK
 have TB:h1*h2/k/h1=d:=by
  rw[eR];have:c*d*k=d*h1:=by rw[ec];grind
  rw[this];exact IC _ KK
 have TC:h1*h2/k/h2=c:=by
  rw[eR];have:c*d*k=c*h2:=by rw[ed];grind
  rw[this];exact IC _ KK
 rw[TB,TC]at M3 ⊢;obtain⟨_,⟨e,ee⟩,⟨f,ef⟩,q,eq⟩:=M3;have he:0<e:=dP (ee ▸ hg) LU;have u9:x8*e+q*f=1:=by
  have p:(x8*e+q*f)*gg=1*gg:=by
   have:(x8*e+q*f)*gg=x8*(e*gg)+q*(f*gg):=by grind
   rw[this,<-ee,<-ef];lia
  exact Jt KK p
 have eC:g/gg=e:=by rw[ee];exact IC _ KK
 have eS:e*(c*s2-d*s1)/g=f:=by
  have:e*(c*s2-d*s1)=f*g:=by rw[ef,ee];grind
  rw[this];exact IC _ KK
 rw[eC,eS,eW,eR];have hW:0<a*b*g:=Ii (Ii ha hb) hg;have em:=Jh (e*(d*s1)+f*u*w1) (a*b*g);have m1:=IV (e*(d*s1)+f*u*w1) (show a*b*g≠0 by lia);have m2:=IW (e*(d*s1)+f*u*w1) hW;generalize (e*(d*s1)+f*u*w1)%(a*b*g)=s at em m1 m2 ⊢;generalize (e*(d*s1)+f*u*w1)/(a*b*g)=t at em;subst ea eb ec ed;subst ee;exact B9 ha hb hc hd he hk LU u8 p7 ef u9 em m1 m2
def lZ(hx:0<x)(hy:0<y)(M:Meas x y g u):0<x*y/g/\x*y/g<=x*y/\x*y/g/x*1<=y/\0<=x*y/g/x/\x*y/g/y<=x/\0<=x*y/g/y:=by
 have hg:=M.pos hx;obtain⟨_,⟨a,ea⟩,⟨b,eb⟩,_⟩:=M;have ha:0<a:=dP (ea ▸ hx) hg;have hb:0<b:=dP (eb ▸ hy) hg;have e1:x*y/g=a*b*g:=by
  have:x*y=(a*b*g)*g:=by rw[ea,eb];grind
  rw[this];exact IC _ KK
 have e2:a*b*g/x=b:=by
  have:a*b*g=b*x:=by rw[ea];grind
  rw[this];exact IC _ KK
 have e3:a*b*g/y=a:=by
  have:a*b*g=a*y:=by rw[eb];grind
  rw[this];exact IC _ KK
 have p1:0<a*b*g:=Ii (Ii ha hb) hg;have q1:=(dz (w:=b) (h:=g) hb hg).1;have q2:=(dz (w:=a) (h:=g) ha hg).1;have q3:x*y=a*b*g*g:=by rw[ea,eb];grind
 have q4:=(dz (w:=a*b*g) (h:=g) p1 hg).1;rw[e1,e2,e3];lia
def cell(ns:List Int)(k:Int):Int:=ns.getD k.toNat 0
variable{ns:List Int}
def vE(h0:0<=k)(h1:k<(ns.length:Int)):atI (ns.map D.int) k=be (.int (cell ns k)):=by
 obtain⟨j,rfl⟩:∃j:Nat,k=(j:Int):=#[k.toNat,KK];have hk:j<ns.length:=KK
 refine bI ?_;rw[H9,Ih hk];simp[cell,II,Ih hk]
def Ca(h1:(ns.length:Int)<=k):cell ns k=0:=by
 have hk:ns.length<=k.toNat:=KK
 simp[cell,II,ID hk]
def HM(k:Int):∃m,atI [D.int 12,D.int 720] (k%2)=be (.int m)/\(m=12\/m=720):=by
 rcases(KK:k%2=0\/k%2=1)with e|e
 .rw[e];exact#[12,rfl,.inl rfl]
 .rw[e];exact#[720,rfl,.inr rfl]
def cV(h:0<b):0<=a%b:=IV a KK
def cX(h:0<b):a%b<b:=IW a h
def Cb:SpD:=λds R=>∃(ns:List Int) (k:Int),ds=[.rol (ns.map D.int),.int k]/\0<=k/\R (.int (cell ns k))
def Cd:SpD:=λds R=>∃i:Int,ds=[.int i]/\R (.bl true)
def Ce:SpD:=λds R=>∃w h s x y:Int,ds=[.tup [.int w,.int h,.int s],.int x,.int y]/\0<w/\0<h/\h<1073741824/\0<=s/\s<1073741824/\
 R (.bl (decide (y%h=0/\(x-y/h*s)%w=0)))
def Cf:SpD:=λds R=>∃a b c d u v:Int,ds=[.tup [.int a,.int b],.tup [.int c,.int d],.int u,.int v]/\a.natAbs<1073741824/\b.natAbs<1073741824/\c.natAbs<1073741824/\d.natAbs<1073741824/\
 ¬a*d=b*c/\R (.bl (decide ((u*d-v*c).fmod (a*d-b*c)=0/\(a*v-b*u).fmod (a*d-b*c)=0)))
def Cg:SpD:=λds R=>∃x y:Int,ds=[.int x,.int y]/\∀g:Int,0<=g->g∣x->g∣y->(∀e,e∣x->e∣y->e∣g)->R (.int g)
def vF:e∣(if x<0 then -x else x)↔e∣x:=by
 split
 .exact Int.dvd_neg
 .exact Iff.rfl
def vG(hb:e∣b):e∣a%b↔e∣a:=by
 have e1:=Jh a b;rw[e1];constructor
 .intro h;have:=Ki h (K1 (c:=a/b) hb);simpa using this
 .intro h;exact Int.dvd_sub h (K1 hb)
def Ch:SpD:=λds R=>∃w h s x y:Int,ds=[.tup [.int w,.int h,.int s],.int x,.int y]/\0<w/\0<h/\h<1073741824/\0<=s/\s<1073741824/\
 R (.tup [.int ((x-y/h*s)%w),.int (y%h)])
def Ci:SpD:=λds R=>∃a b c d:Int,ds=[.tup [.int a,.int b],.tup [.int c,.int d]]/\b.natAbs<4611686018427387904/\d.natAbs<4611686018427387904/\
 ∀p0 p1 q0,Lev a b c d p0 p1 q0->R (.tup [.tup [.int p0,.int p1],.tup [.int q0,.int 0]])
def Cj:SpD:=λds R=>∃a b c d:Int,ds=[.tup [.int a,.int b],.tup [.int c,.int d]]/\a.natAbs<4611686018427387904/\b.natAbs<4611686018427387904/\c.natAbs<4611686018427387904/\d.natAbs<4611686018427387904/\
 (a*d=b*c->R .non)/\(¬a*d=b*c->∀w h s,FamOf a b c d w h s->R (.tup [.int w,.int h,.int s]))
def Ck:SpD:=λds R=>∃w h s:Int,ds=[.tup [.int w,.int h,.int s]]/\0<w/\R (.tup [.int w,.int h,.int (-s%w)])
def Cl:SpD:=λds R=>∃w h s:Int,ds=[.tup [.int w,.int h,.int s]]/\0<w/\0<h/\w<4611686018427387904/\h<4611686018427387904/\0<=s/\s<4611686018427387904/\
 ∀w' h' s',FamOf 0 w (-h) s w' h' s'->R (.tup [.int w',.int h',.int s'])
def Cm:SpD:=λds R=>∃x y:Int,ds=[.int x,.int y]/\x.natAbs<4611686018427387904/\y.natAbs<4611686018427387904/\∀g u,Meas x y g u->R (.tup [.int g,.int u])
def Cn:SpD:=λds R=>∃w1 h1 s1 w2 h2 s2:Int,ds=[.tup [.int w1,.int h1,.int s1],.tup [.int w2,.int h2,.int s2]]/\0<w1/\w1<=33554432/\0<h1/\h1<=33554432/\0<=s1/\s1<w1/\0<w2/\w2<=33554432/\0<h2/\h2<=33554432/\0<=s2/\s2<w2/\
 ∀w h s A,MetR w1 h1 s1 w2 h2 s2 w h s A->R (.tup [.int w,.int h,.int s])
def Drawn(xs:List Int):Prop:=∀x∈xs,0<=x/\x<5040
variable{xs:List Int}
def Drawn.at(h:Drawn xs)(k:Int):0<=cell xs k/\cell xs k<5040:=by
 by_cases hk:k.toNat<xs.length
 .have:cell xs k=xs[k.toNat]:=by simp[cell,II,Ih hk]
  rw[this];exact h _ (Ix hk)
 .have:cell xs k=0:=by simp[cell,II,ID (JQ hk)]
  lia
def cI(h0:0<=k)(h:k.toNat<xs.length):atI (xs.map D.int) k=be (.int (cell xs k)):=vE h0 KK
def vH:xs.map D.int++[D.int v]=(xs++[v]).map D.int:=MD
def vI(h:Drawn xs)(h1:0<=v)(h2:v<5040):Drawn (xs++[v]):=by
 intro x hx;rcases Iy.mp hx with q|q
 .exact h x q
 .rw[HN.mp q];exact#[h1,h2]
def Co:SpD:=λds R=>∃(ns:List Int) (k:Int) (n:Nat),ds=[.rol (ns.map D.int),.int k,.int n]/\0<=k/\n<=100/\∀xs:List Int,xs.length=n->Drawn xs->R (.lst (xs.map D.int))
def Cp:SpD:=λds R=>∃xs:List Int,ds=[.lst (xs.map D.int)]/\8<=xs.length/\Drawn xs/\
 ∀a b c d:Int,(-12<=a/\a<=12)->(-12<=b/\b<=12)->(-12<=c/\c<=12)->(-12<=d/\d<=12)->¬a*d=b*c->R (.lst [.tup [.int a,.int b],.tup [.int c,.int d]])
abbrev cs(x:LB):List Nat:=x.cps.toList
def bn(x:LB):(cs x).length=x.length:=by simp[Str.length]
def vJ:cs ""=[]:=rfl
def bG(x y:LB):cs (x++y)=cs x++cs y:=by
 show((x++y:LB)).cps.toList=_;rw[show(x++y:LB).cps=x.cps++y.cps from rfl,Array.toList_append]
def aJ(x y:LB):(x++y).length=x.length+y.length:=by rw[<-bn,bG,Ia,bn,bn]
def bg(c:Nat):Prop:=c=46\/(49<=c/\c<=54)
def me:∀(L:List LB),cU (L.map D.str)=be L
 |[]=>rfl
 |x::L=>by simp[cU,me L]
def fu(x:LB):Prop:=0<x.length/\x.length<=7/\∀c∈cs x,bg c
def Cq{x:LB}(h:fu x)(v:Int):∃c,(x.length<=1000000/\atI (cs x) (v%(x.length:Int))=be c)/\bg c:=by
 have h1:=cV (a:=v) (show 0<(x.length:Int)by have:=h.1;lia);have h2:=cX (a:=v) (show 0<(x.length:Int)by have:=h.1;lia);obtain⟨j,ej⟩:∃j:Nat,v%(x.length:Int)=(j:Int):=#[(v%(x.length:Int)).toNat,KK];have hj:j<(cs x).length:=by rw[bn];lia
 refine#[(cs x)[j],#[by have:=h.2.1;lia,?_],h.2.2 _ (Ix hj)];rw[ej];exact bI (Ih hj)
def Cr:fu "1.23456":=#[Mt,Mt,by unfold bg;decide+kernel]
def Cs:fu "12":=#[Mt,Mt,by unfold bg;decide+kernel]
def Ct:fu "1.":=#[Mt,Mt,by unfold bg;decide+kernel]
def Cu:fu "...2":=#[Mt,Mt,by unfold bg;decide+kernel]
def Cw(k:Int):∃x,atI [D.str "1.23456",D.str "12",D.str "1.",D.str "...2"] (k%4)=be (.str x)/\fu x:=by
 rcases(KK:k%4=0\/k%4=1\/k%4=2\/k%4=3)with e|e|e|e<;>rw[e]
 .exact#[_,rfl,Cr]
 .exact#[_,rfl,Cs]
 .exact#[_,rfl,Ct]
 .exact#[_,rfl,Cu]
def Cy(k:Int):∃m,atI [D.int 1,D.int 70] (k%2)=be (.int m)/\(m=1\/m=70):=by
 rcases(KK:k%2=0\/k%2=1)with e|e<;>rw[e]
 .exact#[1,rfl,.inl rfl]
 .exact#[70,rfl,.inr rfl]
structure Rows(L:List Str):Prop where
 many:1<=L.length/\L.length<=8
 wide:∃w,(1<=w/\w<=8)/\∀l∈L,l.length=w/\∀c∈cs l,bg c
variable{L:List LB}
def Rows.of{w t:Nat}(h1:1<=t)(h2:t<=8)(hl:L.length=t)(w1:1<=w)(w2:w<=8)(h:∀l∈L,l.length=w/\∀c∈cs l,bg c):Rows L:=#[KK,w,#[w1,w2],h]
def Cz{x:LB}{c:Nat}{i:Nat}(h1:x.length=i)(h2:∀c∈cs x,bg c)(hc:bg c):(x++#[[c].toArray]:LB).length=i+1/\∀c'∈cs (x++#[[c].toArray]),bg c':=by
 refine#[by rw[aJ,h1];rfl,λc' q=>?_];rw[bG]at q;rcases Iy.mp q with q|q
 .exact h2 _ q
 .have:c'=c:=by simpa[cs]using q
  rw[this];exact hc
def CA{x:LB}:L.map D.str++[D.str x]=(L++[x]).map D.str:=MD
def dA(L:List LB)(a b c d:Int):Str:=("["++Txt.join "/" L)++((((((((";":LB)++(toString a:String))++",")++(toString b:String))++";")++(toString c:String))++",")++(toString d:String))++"]"
def bJ(h:-12<=a/\a<=12):((toString a:String):LB).length<=3:=by
 have key:∀k:Fin 25,((toString (((k.val:Nat):Int)-12):String):LB).length<=3:=Mt
 have:=key #[(a+12).toNat,KK];have e:(((a+12).toNat:Nat):Int)-12=a:=KK
 rw[e]at this;exact this
def B12(a:Int):Prop:=-12<=a/\a<=12
def B12.lt(h:B12 a):a.natAbs<1073741824:=by unfold B12 at h;lia
def vK{w:Nat}(h:∀l∈L,l.length=w):(L.map (·.length)).sum=L.length*w:=by
 induction L with
 |nil=>simp
 |cons x L ih=>
  rw[Il,List.sum_cons,ih (λl hl=>h l (HS _ hl)),h x HV,HX,JF,Kj]
def vL(h:Rows L):(L.map (·.length)).sum+L.length*("/":LB).length<=72:=by
 obtain⟨h1,w,hw,h2⟩:=h;rw[vK (λl hl=>(h2 l hl).1)];have e:("/":LB).length=1:=rfl;rw[e];have:=Js h1.2 hw.2;lia
def CB:SpD:=λds R=>∃xs:List Int,ds=[.lst (xs.map D.int)]/\40<=xs.length/\Drawn xs/\∀L:List LB,Rows L->R (.lst (L.map D.str))
def CC:SpD:=λds R=>∃(L:List LB) (a b c d:Int),ds=[.lst (L.map D.str),.tup [.int a,.int b],.tup [.int c,.int d]]/\Rows L/\B12 a/\B12 b/\B12 c/\B12 d/\R (.str (dA L a b c d))
structure Leaf where
 rows:List LB
 a:Int
 b:Int
 c:Int
 d:Int
 w0:Int
 w1:Int
 w2:Int
 w3:Int
 w4:Int
 w5:Int
 hues:List Int
def Leaf.D(l:Leaf):My.D:=.tup [.lst (l.rows.map D.str),.tup [.int l.a,.int l.b],.tup [.int l.c,.int l.d],.tup [.int l.w0,.int l.w1,.int l.w2,.int l.w3,.int l.w4,.int l.w5],.lst (l.hues.map D.int)]
structure Leaf.Ok(l:Leaf):Prop where
 rows:Rows l.rows
 a:B12 l.a
 b:B12 l.b
 c:B12 l.c
 d:B12 l.d
 ne:¬l.a*l.d=l.b*l.c
 w0:l.w0.natAbs<=1
 w1:l.w1.natAbs<=1
 w2:l.w2.natAbs<=1
 w3:l.w3.natAbs<=1
 w4:l.w4.natAbs<=1000
 w5:l.w5.natAbs<=1000
 many:l.hues.length=7
 hue:∀h∈l.hues,0<=h/\h<=6
def onB(a b c d u v:Int):Bool:=decide ((u*d-v*c).fmod (a*d-b*c)=0/\(a*v-b*u).fmod (a*d-b*c)=0)
def scanRow(f:Int->Bool):Nat->List Nat->Option Nat
 |_,[]=>v9
 |i,c::r=>if c≠46/\f i=true then be c else scanRow f (i+1) r
def bV(f:Int->Int->Bool):Nat->List LB->Option Nat
 |_,[]=>v9
 |j,l::r=>match scanRow (λi=>f i j) 0 (cs l)with|some c=>be c|none=>bV f (j+1) r
def Leaf.hit(l:Leaf)(x y:Int):Option Nat:=bV (λi j=>onB l.a l.b l.c l.d (l.w0*x+l.w1*y+l.w4-i) (l.w2*x+l.w3*y+l.w5-j)) 0 l.rows
def Leaf.shows(l:Leaf)(x y:Int):Int:=match l.hit x y with|some c=>cell l.hues ((c:Int)-48)|none=>0
def one_sign{c:Nat}:(#[[c].toArray]:LB)="."↔c=46:=by
 constructor
 .intro h;have:([c].toArray:Array Nat)=(".":LB).cps:=congrArg Str.cps h;have e:([c].toArray:Array Nat).toList=(".":LB).cps.toList:=by rw[this]
  have e2:(".":LB).cps.toList=[46]:=rfl;rw[e2]at e;simpa using e
 .rintro rfl;rfl
def digit_of{c:Nat}(h:49<=c/\c<=54):PySem.intText? (#[[c].toArray]:LB)=be ((c:Int)-48):=by
 rcases(KK:c=49\/c=50\/c=51\/c=52\/c=53\/c=54)with e|e|e|e|e|e<;>subst e<;>decide+kernel
def at_str{j:Nat}{x:LB}(h:L[j]?=be x):atI (L.map D.str) (j:Int)=be (.str x):=bI (by rw[H9,h];rfl)
def bK{n:Int}{k:Nat}{x:D}(h:((HU n.toNat).map λk=>D.int ((k:Nat):Int))[k]?=be x):k<n.toNat/\x=.int (k:Int):=by
 have hk:k<n.toNat:=by simpa using(Ib.mp h).1
 refine#[hk,?_];simp[hk]at h;exact h.symm
def bL{n:Int}:((HU n.toNat).map λk=>D.int ((k:Nat):Int)).length=n.toNat:=MD
def bb:List Leaf->Int->Int->Int
 |[],_,_=>0
 |l::r,x,y=>if l.shows x y≠0 then l.shows x y else bb r x y
variable{hs:List Int}
def CD(h:∀h∈hs,0<=h/\h<=6)(k:Int):0<=cell hs k/\cell hs k<=6:=by
 by_cases hk:k.toNat<hs.length
 .have:cell hs k=hs[k.toNat]:=by simp[cell,II,Ih hk]
  rw[this];exact h _ (Ix hk)
 .have:cell hs k=0:=by simp[cell,II,ID (JQ hk)]
  lia
variable{l:Leaf}
def Leaf.shows_le(h:l.Ok)(x y:Int):0<=l.shows x y/\l.shows x y<=6:=by
 unfold Leaf.shows;split
 .exact CD h.hue _
 .lia
def vM:∀{ls:List Leaf} (x y:Int),(∀l∈ls,l.Ok)->0<=bb ls x y/\bb ls x y<=6
 |[],_,_,_=>by simp[bb]
 |l::r,x,y,h=>by
  unfold bb;split
  .exact Leaf.shows_le (h l HV) x y
  .exact vM x y λl' q=>h l' (HS _ q)
def bx(L:List LB)(a b c d:Int):Leaf:=#[L,a,b,c,d,1,0,0,1,0,0,[0,1,2,3,4,5,6]]
def CF:SpD:=λds R=>∃(ns:List Int) (k:Int),ds=[.rol (ns.map D.int),.int k]/\0<=k/\
 ∀(L:List LB) (a b c d:Int),Rows L->B12 a->B12 b->B12 c->B12 d->¬a*d=b*c->R (.lst [.str (dA L a b c d),.int 0,.lst [(bx L a b c d).D]])
def CG:SpD:=λds R=>∃(l:Leaf) (x y:Int),ds=[l.D,.int x,.int y]/\l.Ok/\R (.int (l.shows x y))
def CH:SpD:=λds R=>∃(ls:List Leaf) (x y:Int),ds=[.lst (ls.map Leaf.D),.int x,.int y]/\(∀l∈ls,l.Ok)/\R (.int (bb ls x y))
inductive Pat where
 |mot (L:List Str) (a b c d:Int)
 |over (p q:Pat)
 |sh (a b:Int) (p:Pat)
 |mir (p:Pat)
 |tur (p:Pat)
 |hue (f g:Int) (p:Pat)
def Pat.text:Pat->LB
 |.mot L a b c d=>dA L a b c d
 |.over p q=>(((("(":LB)++p.text)++"|")++q.text)++")"
 |.sh a b p=>((((("s":LB)++(toString a:String))++",")++(toString b:String))++":")++p.text
 |.mir p=>("m":LB)++p.text
 |.tur p=>("t":LB)++p.text
 |.hue f g p=>((("h":LB)++(toString f:String))++(toString g:String))++p.text
def Pat.depth:Pat->Nat
 |.mot ..=>0
 |.over p q=>1+max p.depth q.depth
 |.sh _ _ p=>p.depth+1
 |.mir p=>p.depth+1
 |.tur p=>p.depth+1
 |.hue _ _ p=>p.depth+1
def Leaf.by(l:Leaf)(b0 b1 b2 b3 b4 b5:Int):Leaf:=
 {l with w0:=l.w0*b0+l.w1*b2,w1:=l.w0*b1+l.w1*b3,w2:=l.w2*b0+l.w3*b2,w3:=l.w2*b1+l.w3*b3,w4:=l.w4+l.w0*b4+l.w1*b5,w5:=l.w5+l.w2*b4+l.w3*b5}
def bM(f g h:Int):Int:=if h=f then g else h
def Leaf.dye(l:Leaf)(f g:Int):Leaf:={l with hues:=l.hues.map (bM f g)}
def Pat.leaves:Pat->List Leaf
 |.mot L a b c d=>[bx L a b c d]
 |.over p q=>p.leaves++q.leaves
 |.sh a b p=>p.leaves.map (λl=>l.by 1 0 0 1 (-a) (-b))
 |.mir p=>p.leaves.map (λl=>l.by (-1) 0 0 1 0 0)
 |.tur p=>p.leaves.map (λl=>l.by 0 1 (-1) 0 0 0)
 |.hue f g p=>p.leaves.map (λl=>(l.by 1 0 0 1 0 0).dye f g)
def Pat.show:Pat->Int->Int->Int
 |.mot L a b c d,x,y=>(bx L a b c d).shows x y
 |.over p q,x,y=>if p.show x y≠0 then p.show x y else q.show x y
 |.sh a b p,x,y=>p.show (x-a) (y-b)
 |.mir p,x,y=>p.show (-x) y
 |.tur p,x,y=>p.show y (-x)
 |.hue f g p,x,y=>bM f g (p.show x y)
def Pat.Wf:Pat->Prop
 |.mot L a b c d=>Rows L/\B12 a/\B12 b/\B12 c/\B12 d/\¬a*d=b*c
 |.over p q=>p.Wf/\q.Wf
 |.sh a b p=>B12 a/\B12 b/\p.Wf
 |.mir p=>p.Wf
 |.tur p=>p.Wf
 |.hue f g p=>(1<=f/\f<=6)/\(1<=g/\g<=6)/\p.Wf
def Leaf.by_shows(l:Leaf)(b0 b1 b2 b3 b4 b5 x y:Int):(l.by b0 b1 b2 b3 b4 b5).shows x y=l.shows (b0*x+b1*y+b4) (b2*x+b3*y+b5):=by
 have e1:(l.w0*b0+l.w1*b2)*x+(l.w0*b1+l.w1*b3)*y+(l.w4+l.w0*b4+l.w1*b5)=l.w0*(b0*x+b1*y+b4)+l.w1*(b2*x+b3*y+b5)+l.w4:=NS
 have e2:(l.w2*b0+l.w3*b2)*x+(l.w2*b1+l.w3*b3)*y+(l.w5+l.w2*b4+l.w3*b5)=l.w2*(b0*x+b1*y+b4)+l.w3*(b2*x+b3*y+b5)+l.w5:=NS
 simp only[Leaf.shows,Leaf.hit,Leaf.by,e1,e2]
def gA(b0 b1 b2 b3 b4 b5 x y:Int):∀ls:List Leaf,bb (ls.map (λl=>l.by b0 b1 b2 b3 b4 b5)) x y=bb ls (b0*x+b1*y+b4) (b2*x+b3*y+b5)
 |[]=>rfl
 |l::r=>by
  rw[Il,bb,bb,Leaf.by_shows,gA b0 b1 b2 b3 b4 b5 x y r]
def scanRow_sign{f:Int->Bool}:∀{cs:List Nat} {i c:Nat},(∀c∈cs,bg c)->scanRow f i cs=be c->49<=c/\c<=54
 |[],_,_,_,h=>by cases h
 |a::r,i,c,hs,h=>by
  rw[scanRow]at h;split at h
  .rename_i q;cases h;have:=hs a HV;unfold bg at this;have:=q.1;lia
  .exact scanRow_sign (λc q=>hs c (HS _ q)) h
def mf{f:Int->Int->Bool}:∀{L:List LB} {j c:Nat},(∀l∈L,∀c∈cs l,bg c)->bV f j L=be c->49<=c/\c<=54
 |[],_,_,_,h=>by cases h
 |a::r,j,c,hs,h=>by
  rw[bV]at h;split at h
  .rename_i q;cases h;exact scanRow_sign (hs a HV) q
  .exact mf (λl q=>hs l (HS _ q)) h
def CI(h:k.toNat<hs.length):cell (hs.map (bM f g)) k=bM f g (cell hs k):=by
 simp[cell,II,H9,Ih h]
def Leaf.dye_shows(ok:l.Ok)(hf:1<=f)(x y:Int):(l.dye f g).shows x y=bM f g (l.shows x y):=by
 have e:(l.dye f g).hit x y=l.hit x y:=rfl;unfold Leaf.shows;rw[e];cases h:l.hit x y with
 |none=>simp[bM];lia
 |some c=>
  have hc:49<=c/\c<=54:=mf (λl' q=>let ⟨_,_,_,h⟩:=ok.rows;(h l' q).2) h;exact CI (by rw[ok.many];lia)
def vN(hf:1<=f)(hg:1<=g):bM f g h=0↔h=0:=by
 unfold bM;split<;>lia
def vO{f g:Int}(hf:1<=f)(hg:1<=g)(x y:Int):∀ls:List Leaf,(∀l∈ls,l.Ok)->bb (ls.map (λl=>l.dye f g)) x y=bM f g (bb ls x y)
 |[],_=>by simp[bb,bM];lia
 |l::r,h=>by
  rw[Il,bb,bb,Leaf.dye_shows (h l HV) hf,vO hf hg x y r λl q=>h l (HS _ q)];by_cases z:l.shows x y=0
  .rw[if_neg (λq=>q ((vN hf hg).mpr z)),if_neg (λq=>q z)]
  .rw[if_pos (λq=>z ((vN hf hg).mp q)),if_pos z]
def vP(x y:Int):∀(a b:List Leaf),bb (a++b) x y=if bb a x y≠0 then bb a x y else bb b x y
 |[],b=>by simp[bb]
 |l::r,b=>by
  rw[List.cons_append,bb,bb];by_cases z:l.shows x y≠0
  .rw[if_pos z,if_pos z,if_pos z]
  .rw[if_neg z,if_neg z,vP x y r b]
structure Leaf.Near(l:Leaf)(n:Nat):Prop where
 u0:(l.w0.natAbs=1/\l.w1=0/\l.w2=0/\l.w3.natAbs=1)\/(l.w0=0/\l.w1.natAbs=1/\l.w2.natAbs=1/\l.w3=0)
 w4:l.w4.natAbs<=24*n
 w5:l.w5.natAbs<=24*n
variable{n:Nat}
def Leaf.Near.mono{m:Nat}(h:l.Near n)(k:n<=m):l.Near m:=#[h.u0,by have:=h.w4;lia,by have:=h.w5;lia]
def Leaf.Near.unit(h:l.Near n):(l.w0=1\/l.w0=-1\/l.w0=0)/\(l.w1=1\/l.w1=-1\/l.w1=0)/\(l.w2=1\/l.w2=-1\/l.w2=0)/\(l.w3=1\/l.w3=-1\/l.w3=0):=by
 have k:∀{w:Int},w.natAbs=1->w=1\/w=-1\/w=0:=λ{w} e=>(Int.natAbs_eq w).imp (λz=>by rw[z,e];rfl) λz=>.inl (by rw[z,e];rfl);rcases h.u0 with⟨p,q,r,t⟩|⟨p,q,r,t⟩
 .exact#[k p,.inr (.inr q),.inr (.inr r),k t]
 .exact#[.inr (.inr p),k q,k r,.inr (.inr t)]
def vQ(h:w=1\/w=-1\/w=0):w.natAbs<=1:=by rcases h with rfl|rfl|rfl<;>decide
def near_add(h:e.natAbs<=24*n)(hw:w=1\/w=-1\/w=0)(hv:v=1\/v=-1\/v=0)(ha:B12 a)(hb:B12 b):(e+w* -a+v* -b).natAbs<=24*(n+1):=by
 have m:∀{w a:Int},(w=1\/w=-1\/w=0)->B12 a->(w* -a).natAbs<=12:=λ{w a} hw ha=>by
  rw[IP,Kg];exact Js (vQ hw) (show a.natAbs<=12 by unfold B12 at ha;clear hw;lia)
 rw[show 24*(n+1)=24*n+12+12 from rfl];exact H8 (Kb _ _) (JU (H8 (Kb _ _) (JU h (m hw ha))) (m hv hb))
def CJ(h:l.Near n)(ha:B12 a)(hb:B12 b):(l.by 1 0 0 1 (-a) (-b)).Near (n+1):=by
 obtain⟨h0,h1,h2,h3⟩:=h.unit;exact#[by simpa[Leaf.by]using h.u0,near_add h.w4 h0 h1 ha hb,near_add h.w5 h2 h3 ha hb]
def CK(h:l.Near n):(l.by (-1) 0 0 1 0 0).Near (n+1):=by
 have p:=h.w4;have q:=h.w5;exact#[by simpa[Leaf.by]using h.u0,by simp[Leaf.by];lia,by simp[Leaf.by];lia]
def CL(h:l.Near n):(l.by 0 1 (-1) 0 0 0).Near (n+1):=by
 have p:=h.w4;have q:=h.w5;refine#[?_,by simp[Leaf.by];lia,by simp[Leaf.by];lia];rcases h.u0 with⟨a,b,c,d⟩|⟨a,b,c,d⟩
 .exact .inr (by simp[Leaf.by,a,b,c,d])
 .exact .inl (by simp[Leaf.by,a,b,c,d])
def vR(h:l.Near n):((l.by 1 0 0 1 0 0).dye f g).Near (n+1):=by
 have p:=h.w4;have q:=h.w5;exact#[by simpa[Leaf.by,Leaf.dye]using h.u0,by simp[Leaf.by,Leaf.dye];lia,by simp[Leaf.by,Leaf.dye];lia]
structure Leaf.Good(l:Leaf):Prop where
 rows:Rows l.rows
 a:B12 l.a
 b:B12 l.b
 c:B12 l.c
 d:B12 l.d
 ne:¬l.a*l.d=l.b*l.c
 many:l.hues.length=7
 hue:∀h∈l.hues,0<=h/\h<=6
def Leaf.ok_of(g:l.Good)(h:l.Near n)(hn:n<=40):l.Ok:=by
 have:=h.u0;have:=h.w4;have:=h.w5;exact#[g.rows,g.a,g.b,g.c,g.d,g.ne,KK,KK,KK,KK,KK,KK,g.many,g.hue]
def Pat.leaf_good:∀{p:Pat},p.Wf->∀l∈p.leaves,l.Good/\l.Near p.depth
 |.mot L a b c d,h,l,q=>by
  have:l=bx L a b c d:=by simpa[Pat.leaves]using q
  subst this;obtain⟨h1,h2,h3,h4,h5,h6⟩:=h;exact#[#[h1,h2,h3,h4,h5,h6,rfl,by intro h q;simp[bx]at q;lia],#[by simp[bx],by simp[bx],by simp[bx]]]
 |.over p r,h,l,q=>by
  rcases Iy.mp q with q|q
  .obtain⟨g,n⟩:=Pat.leaf_good h.1 l q;exact#[g,n.mono (by simp only[Pat.depth];lia)]
  .obtain⟨g,n⟩:=Pat.leaf_good h.2 l q;exact#[g,n.mono (by simp only[Pat.depth];lia)]
 |.sh a b p,h,l,q=>by
  obtain⟨l',q',rfl⟩:=Ir.mp q;obtain⟨g,n⟩:=Pat.leaf_good h.2.2 l' q';exact#[#[g.rows,g.a,g.b,g.c,g.d,g.ne,g.many,g.hue],CJ n h.1 h.2.1]
 |.mir p,h,l,q=>by
  obtain⟨l',q',rfl⟩:=Ir.mp q;obtain⟨g,n⟩:=Pat.leaf_good (p:=p) h l' q';exact#[#[g.rows,g.a,g.b,g.c,g.d,g.ne,g.many,g.hue],CK n]
 |.tur p,h,l,q=>by
  obtain⟨l',q',rfl⟩:=Ir.mp q;obtain⟨g,n⟩:=Pat.leaf_good (p:=p) h l' q';exact#[#[g.rows,g.a,g.b,g.c,g.d,g.ne,g.many,g.hue],CL n]
 |.hue f k p,h,l,q=>by
  obtain⟨l',q',rfl⟩:=Ir.mp q;obtain⟨g,n⟩:=Pat.leaf_good (p:=p) h.2.2 l' q';refine#[#[g.rows,g.a,g.b,g.c,g.d,g.ne,?_,λv hv=>?_],vR n]
  .show(l'.hues.map _).length=7;rw[HR];exact g.many
  .obtain⟨u,hu,rfl⟩:=Ir.mp hv;have:=g.hue u hu;have:=h.2.1;unfold bM;split<;>lia
variable{p:Pat}
def Pat.leaf_ok(h:p.Wf)(hd:p.depth<=40):∀l∈p.leaves,l.Ok:=λl q=>Leaf.ok_of (Pat.leaf_good h l q).1 (Pat.leaf_good h l q).2 hd
def Pat.show_leaves:∀{p:Pat},p.Wf->p.depth<=40->∀x y,bb p.leaves x y=p.show x y
 |.mot L a b c d,_,_,x,y=>by
  simp only[Pat.leaves,Pat.show,bb];split
  .rfl
  .lia
 |.over p q,h,hd,x,y=>by
  simp only[Pat.depth]at hd;rw[Pat.leaves,vP,Pat.show_leaves h.1 KK,Pat.show_leaves h.2 KK,Pat.show]
 |.sh a b p,h,hd,x,y=>by
  simp only[Pat.depth]at hd;rw[Pat.leaves,gA,Pat.show_leaves h.2.2 KK,Pat.show];congr 1<;>lia
 |.mir p,h,hd,x,y=>by
  simp only[Pat.depth]at hd;rw[Pat.leaves,gA,Pat.show_leaves (p:=p) h KK,Pat.show];congr 1<;>lia
 |.tur p,h,hd,x,y=>by
  simp only[Pat.depth]at hd;rw[Pat.leaves,gA,Pat.show_leaves (p:=p) h KK,Pat.show];congr 1<;>lia
 |.hue f g p,h,hd,x,y=>by
  simp only[Pat.depth]at hd;have e:p.leaves.map (λl=>(l.by 1 0 0 1 0 0).dye f g)=(p.leaves.map (λl=>l.by 1 0 0 1 0 0)).map (λl=>l.dye f g):=by rw[JG];rfl
  rw[Pat.leaves,e,vO h.1.1 h.2.1.1,gA,Pat.show_leaves h.2.2 KK,Pat.show]
  .congr 2<;>lia
  .intro l q;obtain⟨l',q',rfl⟩:=Ir.mp q;obtain⟨g',n⟩:=Pat.leaf_good h.2.2 l' q';have n':=vR (f:=f) (g:=g) n;have:(l'.by 1 0 0 1 0 0).Near (p.depth+1):=#[n'.u0,n'.w4,n'.w5];exact Leaf.ok_of #[g'.rows,g'.a,g'.b,g'.c,g'.d,g'.ne,g'.many,g'.hue] this KK
def Pat.D(p:Pat):My.D:=.lst [.str p.text,.int p.depth,.lst (p.leaves.map Leaf.D)]
def Leaf.T(dy:Bool)(d7 new b0 b1 b2 b3 b4 b5:Int)(l:Leaf):Leaf:=if dy then(l.by b0 b1 b2 b3 b4 b5).dye d7 new else l.by b0 b1 b2 b3 b4 b5
def fv(h:1<=a/\a<=6):((toString a:String):LB).length<=3:=bJ KK
def Wraps(p:Pat)(H:Prop)(R:My.D->Prop):Prop:=(5<=p.depth->R p.D)/\(p.depth<5->R (Pat.mir p).D/\R (Pat.tur p).D/\(∀a b,B12 a->B12 b->R (Pat.sh a b p).D)/\(H->∀f g:Int,(1<=f/\f<=6)->(1<=g/\g<=6)->R (Pat.hue f g p).D))
variable{A:Int}{R:My.D->Prop}
def CM(h:Wraps p (j=3) R)(hd:p.depth<5){k B d7 new:Int}(hA:B12 A)(hB:B12 B)(ho:1<=d7/\d7<=6)(hn:1<=new/\new<=6)(hj:0<=j/\j<4):
  ∃(hs:LB) (b0 b1 b2 b3 b4 b5:Int),atI [D.str "m",D.str "t",D.str ((((("s":LB)++(toString A:String))++",")++(toString B:String))++":"),D.str ((("h":LB)++(toString d7:String))++(toString new:String))] j=be (.str hs)/\
   atI ([D.tup [.int (-1),.int 0,.int 0,.int 1,.int 0,.int 0],D.tup [.int 0,.int 1,.int (-1),.int 0,.int 0,.int 0]]++[D.tup [.int 1,.int 0,.int 0,.int 1,.int (-A),.int (-B)],D.tup [.int 1,.int 0,.int 0,.int 1,.int 0,.int 0]]) j=be (.tup [.int b0,.int b1,.int b2,.int b3,.int b4,.int b5])/\
   (b0.natAbs<=1/\b1.natAbs<=1/\b2.natAbs<=1/\b3.natAbs<=1/\b4.natAbs<=12/\b5.natAbs<=12)/\hs.length<=20/\
   R (.lst [.str (hs++p.text),.int (p.depth+1),.lst ((p.leaves.map (Leaf.T (decide (j=3)) d7 new b0 b1 b2 b3 b4 b5)).map Leaf.D)]):=by
 obtain⟨h1,h2,h3,h4⟩:=h.2 hd;have l1:("s":LB).length=1:=rfl;have l2:(",":LB).length=1:=rfl;have l3:(":":LB).length=1:=rfl;have l4:("h":LB).length=1:=rfl;have lA:=bJ hA;have lB:=bJ hB;have lo:=fv ho;have ln:=fv hn;have eD:∀n:Nat,D.int ((n+1:Nat):Int)=D.int ((n:Int)+1):=λn=>by congr 1
 unfold B12 at hA hB;rcases(KK:j=0\/j=1\/j=2\/j=3)with rfl|rfl|rfl|rfl
 .exact#[_,_,_,_,_,_,_,rfl,rfl,KK,Mx,h1]
 .exact#[_,_,_,_,_,_,_,rfl,rfl,KK,Mx,h2]
 .refine#[_,_,_,_,_,_,_,rfl,rfl,KK,?_,h3 A B hA hB]
  repeat rw[aJ]
  lia
 .refine#[_,_,_,_,_,_,_,rfl,rfl,KK,?_,h4 rfl d7 new ho hn]
  repeat rw[aJ]
  lia
def CN(h d7 new:Int):atI [D.int h,D.int new] (if decide (h=d7)=true then(1:Int)else 0)=be (.int (bM d7 new h)):=by
 unfold bM;by_cases e:h=d7
 .rw[if_pos e,if_pos (by simpa using e)];rfl
 .rw[if_neg e,if_neg (by simpa using e)];rfl
def mi{α:Type}{xs:List α}{k:Nat}{x:α}(h:xs[k]?=be x):xs.take (k+1)=xs.take k++[x]:=by
 have hk:k<xs.length:=(Ib.mp h).1;rw[KM,h];rfl
def Pat.leaves_len:∀(p:Pat),p.leaves.length<=2^p.depth
 |.mot ..=>HP _
 |.over p q=>by
  have h1:=p.leaves_len;have h2:=q.leaves_len;have m1:2^p.depth<=2^(max p.depth q.depth):=Ju Mx (K2 _ _);have m2:2^q.depth<=2^(max p.depth q.depth):=Ju Mx (K3 _ _);rw[Pat.leaves,Ia,Pat.depth,K4];lia
 |.sh a b p=>by rw[Pat.leaves,HR,Pat.depth,IY];have:=p.leaves_len;lia
 |.mir p=>by rw[Pat.leaves,HR,Pat.depth,IY];have:=p.leaves_len;lia
 |.tur p=>by rw[Pat.leaves,HR,Pat.depth,IY];have:=p.leaves_len;lia
 |.hue f g p=>by rw[Pat.leaves,HR,Pat.depth,IY];have:=p.leaves_len;lia
def Pat.leaves_32(h:p.depth<=5):p.leaves.length<=32:=H8 p.leaves_len (Ju Mx h)
def CO:SpD:=λds R=>∃(p:Pat) (draw:Int),ds=[p.D,.int draw]/\p.Wf/\p.depth<=5/\p.text.length<=100000/\Wraps p (draw%4=3) R
def vS(hn:¬a*d=b*c)(h:(u*d-v*c).fmod (a*d-b*c)=0/\(a*v-b*u).fmod (a*d-b*c)=0):∃i j,u=i*a+j*c/\v=i*b+j*d:=by
 have hz:a*d-b*c≠0:=MC
 obtain⟨i,ei⟩:(a*d-b*c)∣(u*d-v*c):=#[_,(K5 h.1).symm];obtain⟨j,ej⟩:(a*d-b*c)∣(a*v-b*u):=#[_,(K5 h.2).symm];refine#[i,j,?_,?_]
 .have:(a*d-b*c)*u=(a*d-b*c)*(i*a+j*c):=by
   have q1:(a*d-b*c)*u=a*(u*d-v*c)+c*(a*v-b*u):=NS
   rw[q1,ei,ej];grind
  exact Kh hz this
 .have:(a*d-b*c)*v=(a*d-b*c)*(i*b+j*d):=by
   have q1:(a*d-b*c)*v=b*(u*d-v*c)+d*(a*v-b*u):=NS
   rw[q1,ei,ej];grind
  exact Kh hz this
def Uni.trans{x0 x1 y0 y1:Int}(h:Uni a b c d p0 p1 q0 q1)(k:Uni p0 p1 q0 q1 x0 x1 y0 y1):Uni a b c d x0 x1 y0 y1:=by
 obtain⟨m,n,k1,l,hd,rfl,rfl,rfl,rfl⟩:=h;obtain⟨m',n',k',l',f6,rfl,rfl,rfl,rfl⟩:=k;have dt:(m'*m+n'*k1)*(k'*n+l'*l)-(m'*n+n'*l)*(k'*m+l'*k1)=(m'*l'-n'*k')*(m*l-n*k1):=NS
 refine#[m'*m+n'*k1,m'*n+n'*l,k'*m+l'*k1,k'*n+l'*l,?_,NS,NS,NS,NS];rw[dt];rcases hd with e|e<;>rcases f6 with e'|e'<;>rw[e,e']<;>decide
def fz:∀(n:Nat) (a b c d:Int),d.natAbs<=n->∃p0 p1 q0,Lev a b c d p0 p1 q0
 |n,a,b,c,d,hn=>by
  by_cases hd:d=0
  .subst hd;by_cases hb:0<=b
   .exact#[a,b,c,hb,Uni.refl a b c 0]
   .exact#[-a,-b,c,KK,(Uni.refl a b c 0).neg]
  .match n,hn with
   |0,hn=>exact absurd (KK:d=0) hd
   |n+1,hn=>
    have lt:=(fdm b d hd).1;obtain⟨p0,p1,q0,h0,hu⟩:=fz n c d (a-b.fdiv d*c) (b-b.fdiv d*d) KK;exact#[p0,p1,q0,h0,((Uni.refl a b c d).step (b.fdiv d)).trans hu]
def CP(hn:¬a*d=b*c)(g0:0<=g)(g1:g∣b)(g2:g∣d)(g3:∀e,e∣b->e∣d->e∣g):
  ∃w s,FamOf a b c d w g s:=by
 obtain⟨p0,p1,q0,hL⟩:=fz d.natAbs a b c d (HP _);have hF:=gz hn hL;have hp:=hF.2.1;obtain⟨m,n,k,l,_,e1,e2,e3,e4⟩:=hL.2;obtain⟨m',n',k',l',_,f1,f2,f3,f4⟩:=hL.2.inv;have d1:p1∣g:=g3 p1 #[m',by rw[f2];grind] #[k',by rw[f4];grind];have d2:g∣p1:=by
  rw[e2];exact Ki (JV g1) (JV g2)
 have:p1=g:=K6 KK g0 d1 d2;subst this;exact#[_,_,hF]
def FamOf.uniq_lean(f:FamOf a b c d w h s)(e1:x=i*a+j*c)(e2:h=i*b+j*d)(h0:0<=x)(h1:x<=s):x=s:=by
 obtain⟨hw,hh,hs,LI,hu⟩:=f;obtain⟨m,n,k,l,_,f1,f2,f3,f4⟩:=hu.inv;have ex:x=(i*m+j*k)*w+(i*n+j*l)*s:=by rw[e1,f1,f3];grind
 have eh:h=(i*n+j*l)*h:=by
  have:i*b+j*d=(i*n+j*l)*h:=by rw[f2,f4];grind
  rw[<-this];exact e2
 have one:i*n+j*l=1:=by
  have:(i*n+j*l)*h=1*h:=by lia
  exact Jt KK this
 rw[one]at ex;generalize i*m+j*k=t at ex;have:t*w=x-s:=KK
 rcases(KK:t<=-1\/t=0\/1<=t)with z|z|z
 .have:=Iz z (show 0<=w by lia);lia
 .subst z;lia
 .have:=Iz z (show 0<=w by lia);lia
def notT{c:Prop}[Decidable c](h:(!decide c)=true):¬c:=by
 intro q;rw[decide_eq_true q]at h;cases h
def notF{c:Prop}[Decidable c](h:¬(!decide c)=true):c:=by
 rcases Classical.em c with q|q
 .exact q
 .rw[decide_eq_false q]at h;exact absurd rfl h
def Leaf.o0(l:Leaf):Int:=l.w0*l.a+l.w2*l.b
def Leaf.o1(l:Leaf):Int:=l.w1*l.a+l.w3*l.b
def Leaf.t0(l:Leaf):Int:=l.w0*l.c+l.w2*l.d
def Leaf.t1(l:Leaf):Int:=l.w1*l.c+l.w3*l.d
def dB(h:w=1\/w=-1\/w=0)(ha:B12 a):(w*a).natAbs<=12:=by
 rw[IP];exact Js (vQ h) (show a.natAbs<=12 by unfold B12 at ha;clear h;lia)
def vT(ha:B12 a)(hb:B12 b):(a*b).natAbs<=144:=by
 unfold B12 at ha hb;rw[IP];exact H8 (Js (show a.natAbs<=12 by lia) (show b.natAbs<=12 by lia)) Mx
def Leaf.sizes(g:l.Good)(h:l.Near n):l.o0.natAbs<=24/\l.o1.natAbs<=24/\l.t0.natAbs<=24/\l.t1.natAbs<=24/\¬l.o0*l.t1=l.o1*l.t0/\(l.o0*l.t1-l.o1*l.t0).natAbs<=288:=by
 obtain⟨h0,h1,h2,h3⟩:=h.unit;have a0:=dB h0 g.a;have a1:=dB h1 g.a;have b2:=dB h2 g.b;have b3:=dB h3 g.b;have c0:=dB h0 g.c;have c1:=dB h1 g.c;have d2:=dB h2 g.d;have d3:=dB h3 g.d;have dt:l.o0*l.t1-l.o1*l.t0=(l.w0*l.w3-l.w1*l.w2)*(l.a*l.d-l.b*l.c):=by unfold Leaf.o0 Leaf.o1 Leaf.t0 Leaf.t1;grind
 have dw:(l.w0*l.w3-l.w1*l.w2).natAbs=1:=by
  rcases h.u0 with⟨p,q,r,t⟩|⟨p,q,r,t⟩
  .rw[q,K7,Int.sub_zero,IP,p,t]
  .rw[p,K7,Int.zero_sub,Kg,IP,q,r]
 have da:(l.o0*l.t1-l.o1*l.t0).natAbs=(l.a*l.d-l.b*l.c).natAbs:=by rw[dt,IP,dw,Nat.one_mul]
 refine#[ab24 a0 b2,ab24 a1 b3,ab24 c0 d2,ab24 c1 d3,λz=>g.ne ?_,?_]
 .rw[z,Int.sub_self]at da;exact Int.sub_eq_zero.mp (KI.mp da.symm)
 .rw[da];exact H8 (KU _ _) (JU (vT g.a g.d) (vT g.b g.c))
def CQ:SpD:=λds R=>∃(l:Leaf) (n:Nat),ds=[l.D]/\l.Good/\l.Near n/\∀w h s:Int,FamOf l.o0 l.o1 l.t0 l.t1 w h s->w*h<=288->R (.tup [.int w,.int h,.int s])
def CS(h1:y%h=0/\(x-y/h*s)%w=0):∃i j,x=i*w+j*s/\y=j*h:=by
 refine#[(x-y/h*s)/w,y/h,?_,?_]
 .have:=Jv (x-y/h*s) w;rw[h1.2]at this;rw[Iu w]at this;lia
 .have:=Jv y h;rw[h1.1,Iu h]at this;lia
def fA(x y:Int):∃g u,Meas x y g u:=by
 obtain⟨p0,p1,q0,hL⟩:=fz y.natAbs 1 x 0 y (HP _);exact#[p1,p0,vD #[hL.1,hL.2]]
def Meas.gcd{G:Int}(h:Meas x y g u)(g0:0<=G)(g1:G∣x)(g2:G∣y)(g3:∀e,e∣x->e∣y->e∣G):G=g:=by
 obtain⟨h0,⟨i,ei⟩,⟨j,ej⟩,n,en⟩:=h;refine K6 g0 h0 ?_ (g3 g #[i,by rw[ei,Iu]] #[j,by rw[ej,Iu]]);rw[en];exact Ki (JV g1) (JV g2)
structure Fm(w h s:Int):Prop where
 w0:0<w
 w1:w<=720
 h0:0<h
 h1:h<=720
 s0:0<=s
 sw:s<w
def CT(f:Fm w1 h1 s1)(k:Fm w2 h2 s2):∃g u w h s A,Meas w1 w2 g u/\w=w1*w2/g/\MetR w1 h1 s1 w2 h2 s2 w h s A:=by
 obtain⟨g,u,M1⟩:=fA w1 w2;obtain⟨k',u',M2⟩:=fA h1 h2;obtain⟨gg,x8,M3⟩:=fA g (h1*h2/k'/h2*s2-h1*h2/k'/h1*s1);exact#[g,u,_,_,_,_,M1,rfl,lY f.w0 k.w0 f.h0 k.h0 M1 M2 M3]
def MetR.high(M:MetR w1 h1 s1 w2 h2 s2 w h s A)(hh:0<h1)(hj:1<=j)(e1:∃i,x=i*w1+j*s1)(e2:∃i k,x=i*w2+k*s2/\j*h1=k*h2):h<=j*h1/\(j*h1=h->0<=x->x<w->x=s):=by
 obtain⟨i,e1⟩:=e1;obtain⟨i',k,e3,e4⟩:=e2;obtain⟨a,b,e5,e6⟩:=M.all x (j*h1) #[i,j,e1,rfl] #[i',k,e3,e4];have hp:0<j*h1:=Ii KK hh;have hb:1<=b:=by
  rcases(KK:b<=0\/1<=b)with z|z
  .have:=Ji z (show 0<=h by have:=M.h0;lia);lia
  .exact z
 refine#[?_,λe x0 x1=>?_]
 .have:=Iz hb (show 0<=h by have:=M.h0;lia);lia
 .have ob:b=1:=by
   have:b*h=1*h:=by lia
   exact Jt (by have:=M.h0;lia) this
  rw[ob]at e5;have s0:=M.s0;have sw:=M.sw;have:a*w=x-s:=KK
  rcases(KK:a<=-1\/a=0\/1<=a)with z|z|z
  .have:=Iz z (show 0<=w by lia);lia
  .subst z;lia
  .have:=Iz z (show 0<=w by lia);lia
def CU:SpD:=λds R=>∃w1 h1 s1 w2 h2 s2:Int,ds=[.tup [.int w1,.int h1,.int s1],.tup [.int w2,.int h2,.int s2]]/\Fm w1 h1 s1/\Fm w2 h2 s2/\
 ∀w h s A,MetR w1 h1 s1 w2 h2 s2 w h s A->(w*h<=720->R (.tup [.int w,.int h,.int s]))/\(720<w*h->R .non)
def CV{S:Int}(hw:0<w1)(hx:x<w1)(x0:0<=x)(hS:0<=S)(e:S=i*w1+s)(e2:∃i',x=i'*w1+s):∃k,S=x+k*w1/\0<=k:=by
 obtain⟨i',e2⟩:=e2;refine#[i-i',NS,?_];rcases(KK:i-i'<=-1\/0<=i-i')with z|z
 .have:=Iz z (show 0<=w1 by lia);have:(i-i')*w1=S-x:=by grind
  lia
 .exact z
def InF(w h s x y:Int):Prop:=∃i j,x=i*w+j*s/\y=j*h
def Leaf.Lat(l:Leaf)(x y:Int):Prop:=∃i j,x=i*l.o0+j*l.t0/\y=i*l.o1+j*l.t1
def FamOf.lat(f:FamOf a b c d w h s)(x y:Int):InF w h s x y↔∃i j,x=i*a+j*c/\y=i*b+j*d:=by
 obtain⟨_,_,_,_,hu⟩:=f;obtain⟨m,n,k,l,_,e1,e2,e3,e4⟩:=id hu;obtain⟨m',n',k',l',_,f1,f2,f3,f4⟩:=hu.inv;constructor
 .rintro⟨i,j,rfl,rfl⟩;refine#[i*m+j*k,i*n+j*l,by rw[e1,e3];grind,?_];have z:i*0+j*h=(i*m+j*k)*b+(i*n+j*l)*d:=by rw[e2,e4];grind
  lia
 .rintro⟨i,j,rfl,rfl⟩;refine#[i*m'+j*k',i*n'+j*l',by rw[f1,f3];grind,by rw[f2,f4];grind]
def MetR.lat(M:MetR w1 h1 s1 w2 h2 s2 w h s A)(x y:Int):InF w h s x y↔InF w1 h1 s1 x y/\InF w2 h2 s2 x y:=by
 constructor
 .rintro⟨i,j,rfl,rfl⟩;obtain⟨a1,e1⟩:=M.in1;obtain⟨a2,e2⟩:=M.in2;obtain⟨b1,c1,e3,e4⟩:=M.up1;obtain⟨b2,c2,e5,e6⟩:=M.up2;refine#[#[i*a1+j*b1,j*c1,?_,?_],#[i*a2+j*b2,j*c2,?_,?_]]
  .rw[e1,e3];grind
  .rw[e4];grind
  .rw[e2,e5];grind
  .rw[e6];grind
 .rintro⟨h1,h2⟩;exact M.all x y h1 h2
variable{w' h' s':Int}
def InF.le(hw:0<w)(hh:0<h)(P':0<w')(P_:0<h')(sub:∀x y,InF w' h' s' x y->InF w h s x y):w*h<=w'*h'/\w<=w'/\h<=h':=by
 obtain⟨i,j,e1,e2⟩:=sub w' 0 #[1,0,KK,KK];have j0:j=0:=by
  rcases Kk.mp e2.symm with z|z
  .exact z
  .lia
 subst j0;have i1:1<=i:=by
  rcases(KK:i<=0\/1<=i)with z|z
  .have:=Ji z (show 0<=w by lia);lia
  .exact z
 obtain⟨i',j',e3,e4⟩:=sub s' h' #[0,1,KK,KK];have j1:1<=j':=by
  rcases(KK:j'<=0\/1<=j')with z|z
  .have:=Ji z (show 0<=h by lia);lia
  .exact z
 have a1:=Iz i1 (show 0<=w by lia);have a2:=Iz j1 (show 0<=h by lia);have b1:w<=w':=KK
 have b2:h<=h':=KK
 exact#[Int.mul_le_mul b1 b2 KK KK,b1,b2]
def InF.uniq(hw:0<w)(hh:0<h)(hs:0<=s)(LI:s<w)(P':0<w')(P_:0<h')(Mb:0<=s')(TF:s'<w')(e:∀x y,InF w h s x y↔InF w' h' s' x y):w=w'/\h=h'/\s=s':=by
 obtain⟨_,a1,a2⟩:=InF.le hw hh P' P_ (λx y q=>(e x y).mpr q);obtain⟨_,b1,b2⟩:=InF.le P' P_ hw hh (λx y q=>(e x y).mp q);have ew:w=w':=KK
 have eh:h=h':=KK
 subst ew eh;refine#[rfl,rfl,?_];obtain⟨i,j,e1,e2⟩:=(e s h).mp #[0,1,KK,KK];have j1:j=1:=by
  have:j*h=1*h:=by lia
  exact Jt KK this
 subst j1;have:i*w=s-s':=KK
 rcases(KK:i<=-1\/i=0\/1<=i)with z|z|z
 .have:=Iz z (show 0<=w by lia);lia
 .subst z;lia
 .have:=Iz z (show 0<=w by lia);lia
structure Fam0(w h s:Int):Prop where
 w0:0<w
 h0:0<h
 s0:0<=s
 sw:s<w
def vU(f:Fam0 w1 h1 s1)(k:Fam0 w2 h2 s2):∃w h s,Fam0 w h s/\∀x y,InF w h s x y↔InF w1 h1 s1 x y/\InF w2 h2 s2 x y:=by
 obtain⟨g,u,M1⟩:=fA w1 w2;obtain⟨k',u',M2⟩:=fA h1 h2;obtain⟨gg,x8,M3⟩:=fA g (h1*h2/k'/h2*s2-h1*h2/k'/h1*s1);have M:=lY f.w0 k.w0 f.h0 k.h0 M1 M2 M3;exact#[_,_,_,#[M.w0,M.h0,M.s0,M.sw],M.lat]
def Leaf.fam_ex(g:l.Good)(h:l.Near n):∃w k s,Fam0 w k s/\∀x y,InF w k s x y↔l.Lat x y:=by
 obtain⟨_,_,_,_,ne,_⟩:=Leaf.sizes g h;obtain⟨p0,p1,q0,hL⟩:=fz l.t1.natAbs l.o0 l.o1 l.t0 l.t1 (HP _);have f:=gz ne hL;exact#[_,_,_,#[f.1,f.2.1,f.2.2.1,f.2.2.2.1],f.lat]
def bW(ls:List Leaf)(x y:Int):Prop:=∀l∈ls,l.Lat x y
def vV{n:Nat}:∀(ls:List Leaf) (w h s:Int),Fam0 w h s->(∀l∈ls,l.Good/\l.Near n)->∃w' h' s',Fam0 w' h' s'/\∀x y,InF w' h' s' x y↔InF w h s x y/\bW ls x y
 |[],w,h,s,f,_=>#[w,h,s,f,λx y=>#[λq=>#[q,λl z=>by cases z],λq=>q.1]]
 |l::r,w,h,s,f,g=>by
  obtain⟨w1,h1,s1,f1,e1⟩:=Leaf.fam_ex (g l HV).1 (g l HV).2;obtain⟨w2,h2,s2,f2,e2⟩:=vU f f1;obtain⟨w3,h3,s3,f3,e3⟩:=vV r w2 h2 s2 f2 λl' q=>g l' (HS _ q);refine#[w3,h3,s3,f3,λx y=>?_];rw[e3,e2,e1];constructor
  .rintro⟨⟨a,b⟩,c⟩;exact#[a,λl' q=>(HQ.mp q).elim (λz=>z ▸ b) (c l')]
  .rintro⟨a,b⟩;exact#[#[a,b l HV],λl' q=>b l' (HS _ q)]
def cut1(d:D)(ds:List D):cutD (d::ds) (be 1) v9=ds:=by
 unfold cutD;have e1:HT.sIx (d::ds).length 0 (be 1)=1:=by simp[HT.sIx]
 have e2:HT.sIx (d::ds).length (d::ds).length v9=(d::ds).length:=by simp[HT.sIx]
 rw[e1,e2,List.drop_one,List.tail_cons,HX,K8,JW]
def mj:SpD:=λds R=>∃(ls:List Leaf) (n:Nat),ds=[.lst (ls.map Leaf.D)]/\ls≠[]/\(∀l∈ls,l.Good/\l.Near n)/\
 ∀w h s:Int,Fam0 w h s->(∀x y,InF w h s x y↔bW ls x y)->(w*h<=720->R (.tup [.int w,.int h,.int s]))/\(720<w*h->R .non)
def Pat.Lat:Pat->Int->Int->Prop
 |.mot _ a b c d,x,y=>∃i j,x=i*a+j*c/\y=i*b+j*d
 |.over p q,x,y=>p.Lat x y/\q.Lat x y
 |.sh _ _ p,x,y=>p.Lat x y
 |.mir p,x,y=>p.Lat (-x) y
 |.tur p,x,y=>p.Lat y (-x)
 |.hue _ _ p,x,y=>p.Lat x y
def Leaf.by_lat(l:Leaf)(b0 b1 b2 b3 b4 b5 x y:Int):(l.by b0 b1 b2 b3 b4 b5).Lat x y↔∃u v,l.Lat u v/\x=b0*u+b2*v/\y=b1*u+b3*v:=by
 have e0:(l.by b0 b1 b2 b3 b4 b5).o0=b0*l.o0+b2*l.o1:=by simp only[Leaf.o0,Leaf.o1,Leaf.by];grind
 have e1:(l.by b0 b1 b2 b3 b4 b5).o1=b1*l.o0+b3*l.o1:=by simp only[Leaf.o0,Leaf.o1,Leaf.by];grind
 have e2:(l.by b0 b1 b2 b3 b4 b5).t0=b0*l.t0+b2*l.t1:=by simp only[Leaf.t0,Leaf.t1,Leaf.by];grind
 have e3:(l.by b0 b1 b2 b3 b4 b5).t1=b1*l.t0+b3*l.t1:=by simp only[Leaf.t0,Leaf.t1,Leaf.by];grind
 unfold Leaf.Lat;rw[e0,e1,e2,e3];generalize l.o0=o0;generalize l.o1=o1;generalize l.t0=t0;generalize l.t1=t1;constructor
 .rintro⟨i,j,rfl,rfl⟩;exact#[_,_,#[i,j,rfl,rfl],NS,NS]
 .rintro⟨_,_,⟨i,j,rfl,rfl⟩,rfl,rfl⟩;exact#[i,j,NS,NS]
def Leaf.dye_lat(l:Leaf)(f g x y:Int):(l.dye f g).Lat x y↔l.Lat x y:=Iff.rfl
def CW(a b:List Leaf)(x y:Int):bW (a++b) x y↔bW a x y/\bW b x y:=by
 constructor
 .intro h;exact#[λl q=>h l (Ja _ q),λl q=>h l (Ik _ q)]
 .rintro⟨h1,h2⟩ l q;rcases Iy.mp q with q|q
  .exact h1 l q
  .exact h2 l q
def latAll_map{f:Leaf->Leaf}(hf:∀l:Leaf,(f l).Lat x y↔l.Lat u v)(ls:List Leaf):bW (ls.map f) x y↔bW ls u v:=by
 constructor
 .intro h l q;exact(hf l).mp (h _ (Ir.mpr #[l,q,rfl]))
 .intro h l q;obtain⟨l',q',rfl⟩:=Ir.mp q;exact(hf l').mpr (h l' q')
def vW(l:Leaf)(e f x y:Int):(l.by 1 0 0 1 e f).Lat x y↔l.Lat x y:=by
 rw[Leaf.by_lat];constructor
 .rintro⟨u,v,h,e1,e2⟩;have e1:x=u:=by lia
  have e2:y=v:=KK
  rw[e1,e2];exact h
 .intro h;exact#[x,y,h,KK,KK]
def Pat.lat_leaves:∀(p:Pat) (x y:Int),bW p.leaves x y↔p.Lat x y
 | .mot L a b c d,x,y=>by
  have e0:(bx L a b c d).o0=a:=by simp[Leaf.o0,bx]
  have e1:(bx L a b c d).o1=b:=by simp[Leaf.o1,bx]
  have e2:(bx L a b c d).t0=c:=by simp[Leaf.t0,bx]
  have e3:(bx L a b c d).t1=d:=by simp[Leaf.t1,bx]
  have e:(bx L a b c d).Lat x y↔(Pat.mot L a b c d).Lat x y:=by
   unfold Leaf.Lat;rw[e0,e1,e2,e3];exact Iff.rfl
  rw[<-e];constructor
  .intro h;exact h _ HV
  .intro h l q;rw[HN.mp q];exact h
 |.over p q,x,y=>by rw[Pat.leaves,CW,Pat.lat_leaves p,Pat.lat_leaves q,Pat.Lat]
 |.sh a b p,x,y=>by rw[Pat.leaves,latAll_map (λl=>vW l _ _ x y),Pat.lat_leaves p,Pat.Lat]
 | .mir p,x,y=>by
  have e:∀l:Leaf,(l.by (-1) 0 0 1 0 0).Lat x y↔l.Lat (-x) y:=λl=>by
   rw[Leaf.by_lat];constructor
   .rintro⟨u,v,h,e1,e2⟩;have e1:-x=u:=by lia
    have e2:y=v:=KK
    rw[e1,e2];exact h
   .intro h;exact#[-x,y,h,KK,KK]
  rw[Pat.leaves,latAll_map e,Pat.lat_leaves p,Pat.Lat]
 | .tur p,x,y=>by
  have e:∀l:Leaf,(l.by 0 1 (-1) 0 0 0).Lat x y↔l.Lat y (-x):=λl=>by
   rw[Leaf.by_lat];constructor
   .rintro⟨u,v,h,e1,e2⟩;have e1:-x=v:=by lia
    have e2:y=u:=KK
    rw[e1,e2];exact h
   .intro h;exact#[y,-x,h,KK,KK]
  rw[Pat.leaves,latAll_map e,Pat.lat_leaves p,Pat.Lat]
 |.hue f g p,x,y=>by
  rw[Pat.leaves,latAll_map (λl=>(Leaf.dye_lat _ f g x y).trans (vW l _ _ x y)),Pat.lat_leaves p,Pat.Lat]
structure Pat.Fam(p:Pat)(w h s:Int):Prop where
 f:Fam0 w h s
 lat:∀x y,InF w h s x y↔p.Lat x y
def Pat.Fam.uniq(a:p.Fam w h s)(b:p.Fam w' h' s'):w=w'/\h=h'/\s=s':=
 InF.uniq a.f.w0 a.f.h0 a.f.s0 a.f.sw b.f.w0 b.f.h0 b.f.s0 b.f.sw λx y=>(a.lat x y).trans (b.lat x y).symm
def Pat.Fam.mot(k:FamOf a b c d w h s):(Pat.mot L a b c d).Fam w h s:=#[#[k.1,k.2.1,k.2.2.1,k.2.2.2.1],k.lat]
def Pat.Fam.sh(a b:Int)(k:p.Fam w h s):(Pat.sh a b p).Fam w h s:=#[k.f,k.lat]
def Pat.Fam.hue(a b:Int)(k:p.Fam w h s):(Pat.hue a b p).Fam w h s:=#[k.f,k.lat]
def Pat.Fam.mir(k:p.Fam w h s):(Pat.mir p).Fam w h (-s%w):=by
 refine#[#[k.f.w0,k.f.h0,cV k.f.w0,cX k.f.w0],λx y=>?_];show _↔p.Lat (-x) y;rw[<-k.lat];have e:=Jh (-s) w;generalize -s%w=r at e;generalize -s/w=t at e;constructor
 .rintro⟨i,j,rfl,rfl⟩;exact#[j*t-i,j,by rw[e];grind,rfl]
 .rintro⟨i,j,ex,rfl⟩;exact#[j*t-i,j,by rw[e];grind,rfl]
def Pat.Fam.tur(k:p.Fam w h s)(f:FamOf 0 w (-h) s w' h' s'):(Pat.tur p).Fam w' h' s':=by
 refine#[#[f.1,f.2.1,f.2.2.1,f.2.2.2.1],λx y=>?_];show _↔p.Lat y (-x);rw[<-k.lat,f.lat];constructor
 .rintro⟨i,j,rfl,rfl⟩;exact#[i,j,NS,NS]
 .rintro⟨i,j,ex,ey⟩;exact#[i,j,NS,NS]
def Pat.Fam.over{q:Pat}(k1:p.Fam w1 h1 s1)(k2:q.Fam w2 h2 s2)(M:MetR w1 h1 s1 w2 h2 s2 w h s A):(Pat.over p q).Fam w h s:=by
 refine#[#[M.w0,M.h0,M.s0,M.sw],λx y=>?_];rw[M.lat,k1.lat,k2.lat];exact Iff.rfl
def ml(hw:0<w)(hh:0<h):∃w' h' s',FamOf 0 w (-h) s w' h' s'/\w'*h'=w*h:=by
 have hp:0<w*h:=Ii hw hh;have hn:¬0*s=w* -h:=by rw[JX];lia
 obtain⟨p0,p1,q0,hL⟩:=fz s.natAbs 0 w (-h) s (HP _);have f:=gz hn hL;refine#[_,_,_,f,?_];have M6:=Ii f.1 f.2.1;have c:=f.cells;rw[JX]at c;lia
def vX(hn:¬a*d=b*c):∃w h s,FamOf a b c d w h s/\(Pat.mot L a b c d).Fam w h s:=by
 obtain⟨p0,p1,q0,hL⟩:=fz d.natAbs a b c d (HP _);have f:=gz hn hL;exact#[_,_,_,f,.mot f]
def Pat.fam_ex:∀{p:Pat},p.Wf->∃w h s,p.Fam w h s
 |.mot L a b c d,h=>by
  obtain⟨w,k,s,_,f⟩:=vX (L:=L) h.2.2.2.2.2;exact#[w,k,s,f]
 |.over p q,h=>by
  obtain⟨w1,h1,s1,f1⟩:=Pat.fam_ex h.1;obtain⟨w2,h2,s2,f2⟩:=Pat.fam_ex h.2;obtain⟨w,k,s,f,e⟩:=vU f1.f f2.f;refine#[w,k,s,f,λx y=>?_];rw[e,f1.lat,f2.lat];exact Iff.rfl
 |.sh a b p,h=>by
  obtain⟨w,k,s,f⟩:=Pat.fam_ex h.2.2;exact#[w,k,s,f.sh a b]
 |.mir p,h=>by
  obtain⟨w,k,s,f⟩:=Pat.fam_ex (p:=p) h;exact#[w,k,_,f.mir]
 |.tur p,h=>by
  obtain⟨w,k,s,f⟩:=Pat.fam_ex (p:=p) h;obtain⟨w',k',s',f',_⟩:=ml (s:=s) f.f.w0 f.f.h0;exact#[w',k',s',f.tur f']
 |.hue a b p,h=>by
  obtain⟨w,k,s,f⟩:=Pat.fam_ex h.2.2;exact#[w,k,s,f.hue a b]
def Pat.Fits(p:Pat):Prop:=∃w h s,p.Fam w h s/\w*h<=720
def Pat.fits_mot(ha:B12 a)(hb:B12 b)(hc:B12 c)(hd:B12 d)(hn:¬a*d=b*c):(Pat.mot L a b c d).Fits:=by
 obtain⟨w,h,s,k,f⟩:=vX (L:=L) hn;refine#[w,h,s,f,?_];have kc:=k.cells;unfold B12 at*;have m1:=bU (a:=a) (d:=d) (A:=12) (B:=12) KK KK;have m2:=bU (a:=b) (d:=c) (A:=12) (B:=12) KK KK;lia
def Pat.Fits.sh(a b:Int)(k:p.Fits):(Pat.sh a b p).Fits:=by
 obtain⟨w,h,s,f,q⟩:=k;exact#[w,h,s,f.sh a b,q]
def Pat.Fits.hue(a b:Int)(k:p.Fits):(Pat.hue a b p).Fits:=by
 obtain⟨w,h,s,f,q⟩:=k;exact#[w,h,s,f.hue a b,q]
def Pat.Fits.mir(k:p.Fits):(Pat.mir p).Fits:=by
 obtain⟨w,h,s,f,q⟩:=k;exact#[w,h,_,f.mir,q]
def Pat.Fits.tur(k:p.Fits):(Pat.tur p).Fits:=by
 obtain⟨w,h,s,f,q⟩:=k;obtain⟨w',k',s',f',e⟩:=ml (s:=s) f.f.w0 f.f.h0;exact#[w',k',s',f.tur f',KK]
def CY(hL:Rows L)(ha:B12 a)(hb:B12 b)(hc:B12 c)(hd:B12 d):(dA L a b c d).length<=100:=by
 have la:=bJ ha;have lb:=bJ hb;have lc:=bJ hc;have ld:=bJ hd;have l1:(";":LB).length=1:=rfl;have l2:(",":LB).length=1:=rfl;have l3:("[":LB).length=1:=rfl;have l4:("]":LB).length=1:=rfl;have ls:=vL hL;have lj:=StrLaws.join_length_le "/" L;have lg:(Txt.join "/" L).length<=72:=by
  have e:Txt.join "/" L=Str.join "/" L:=StrLaws.glued_eq_join _ _;rw[e];exact H8 lj ls
 unfold dA
 repeat rw[aJ]
 lia
def Pat.text_len:∀{p:Pat},p.Wf->p.text.length+10<=110*2^p.depth
 |.mot L a b c d,h=>by
  have:=CY h.1 h.2.1 h.2.2.1 h.2.2.2.1 h.2.2.2.2.1;show(dA L a b c d).length+10<=110*2^0;lia
 |.over p q,h=>by
  have h1:=Pat.text_len h.1;have h2:=Pat.text_len h.2;have m1:2^p.depth<=2^(max p.depth q.depth):=Ju Mx (K2 _ _);have m2:2^q.depth<=2^(max p.depth q.depth):=Ju Mx (K3 _ _);have l1:("(":LB).length=1:=rfl;have l2:("|":LB).length=1:=rfl;have l3:(")":LB).length=1:=rfl;rw[Pat.text,Pat.depth,K4]
  repeat rw[aJ]
  lia
 |.sh a b p,h=>by
  have h1:=Pat.text_len h.2.2;have la:=bJ h.1;have lb:=bJ h.2.1;have l1:("s":LB).length=1:=rfl;have l2:(",":LB).length=1:=rfl;have l3:(":":LB).length=1:=rfl;have:0<2^p.depth:=JY Mx;rw[Pat.text,Pat.depth,IY]
  repeat rw[aJ]
  lia
 |.mir p,h=>by
  have h1:=Pat.text_len (p:=p) h;have l1:("m":LB).length=1:=rfl;have:0<2^p.depth:=JY Mx;rw[Pat.text,Pat.depth,IY,aJ];lia
 |.tur p,h=>by
  have h1:=Pat.text_len (p:=p) h;have l1:("t":LB).length=1:=rfl;have:0<2^p.depth:=JY Mx;rw[Pat.text,Pat.depth,IY,aJ];lia
 |.hue f g p,h=>by
  have h1:=Pat.text_len h.2.2;have la:=fv h.1;have lb:=fv h.2.1;have l1:("h":LB).length=1:=rfl;have:0<2^p.depth:=JY Mx;rw[Pat.text,Pat.depth,IY]
  repeat rw[aJ]
  lia
def Pat.leaves_pos:∀p:Pat,0<p.leaves.length
 |.mot ..=>Nat.zero_lt_one
 |.over p q=>by rw[Pat.leaves,Ia];have:=p.leaves_pos;lia
 |.sh _ _ p=>by rw[Pat.leaves,HR];exact p.leaves_pos
 |.mir p=>by rw[Pat.leaves,HR];exact p.leaves_pos
 |.tur p=>by rw[Pat.leaves,HR];exact p.leaves_pos
 |.hue _ _ p=>by rw[Pat.leaves,HR];exact p.leaves_pos
def Pat.text_short(h:p.Wf)(hd:p.depth<=5):p.text.length<=3510:=by
 have h1:=Pat.text_len h;have h2:2^p.depth<=2^5:=Ju Mx hd;lia
structure Pat.Ok(p:Pat):Prop where
 wf:p.Wf
 deep:p.depth<=5
 fits:p.Fits
def Wraps.of{H:Prop}(h:p.Ok)(hR:∀q:Pat,q.Ok->R q.D):Wraps p H R:=by
 refine#[λ_=>hR p h,λhd=>#[hR _ #[h.wf,?_,h.fits.mir],hR _ #[h.wf,?_,h.fits.tur],λa b ha hb=>hR _ #[#[ha,hb,h.wf],?_,h.fits.sh a b],λ_ f g hf hg=>hR _ #[#[hf,hg,h.wf],?_,h.fits.hue f g]]]<;>(simp only[Pat.depth];lia)
def vY:SpD:=λds R=>∃p q:Pat,ds=[p.D,q.D]/\p.Wf/\q.Wf/\p.depth<=5/\q.depth<=5/\R p.D/\(p.depth<5->q.depth<5->(Pat.over p q).Fits->R (Pat.over p q).D)
def CZ:SpD:=λds R=>∃(ns:List Int) (k:Int),ds=[.rol (ns.map D.int),.int k]/\0<=k/\∀p:Pat,p.Ok->R p.D
end My
end
section
open PySem PySem.Spec PyProof.Rows L2
namespace My
def C0:TMS:=λ_ _ _=>False
def iB{X:Cx}[Jm]{st:U7}:MSt X st C0:=⟨ps_never.anti λE s H q=>by
 obtain⟨F0,F,z,M,k,rs,ED,h,e⟩:=q;exact h.elim⟩
end My
end
section
namespace My
open PySem PySem.Spec PyProof.Rows L2
abbrev isSg(c:Nat):Bool:=c==46||(49<=c&&c<=54)
def numL(a:Int):List Nat:=cs (toString a:String)
variable{a:Int}
def vZ(h:B12 a){P:Int->Prop}(hP:∀k:Fin 25,P (((k.val:Nat):Int)-12)):P a:=by
 unfold B12 at h;have:=hP #[(a+12).toNat,KK];have e:(((a+12).toNat:Nat):Int)-12=a:=KK
 rw[e]at this;exact this
def isNumL(l:List Nat):Prop:=(∃c,(48<=c/\c<=57)/\l=[c])\/(∃c,(48<=c/\c<=50)/\l=[49,c])\/(∃c,(49<=c/\c<=57)/\l=[45,c])\/∃c,(48<=c/\c<=50)/\l=[45,49,c]
def numL_is(h:B12 a):isNumL (numL a):=by
 have key:∀k:Fin 25,(numL (((k.val:Nat):Int)-12))∈([[45,49,50],[45,49,49],[45,49,48],[45,57],[45,56],[45,55],[45,54],[45,53],[45,52],[45,51],[45,50],[45,49],[48],[49],[50],[51],[52],[53],[54],[55],[56],[57],[49,48],[49,49],[49,50]]:List (List Nat)):=Mt
 have h1:=vZ (P:=λa=>numL a∈([[45,49,50],[45,49,49],[45,49,48],[45,57],[45,56],[45,55],[45,54],[45,53],[45,52],[45,51],[45,50],[45,49],[48],[49],[50],[51],[52],[53],[54],[55],[56],[57],[49,48],[49,49],[49,50]]:List (List Nat))) h key;revert h1;generalize numL a=l;intro h1;unfold isNumL;simp only[HQ,Jw,or_false]at h1;rcases h1 with e|e|e|e|e|e|e|e|e|e|e|e|e|e|e|e|e|e|e|e|e|e|e|e|e<;>subst e
 all_goals first
  |exact .inl ⟨_,Mx,rfl⟩
  |exact .inr (.inl ⟨_,Mx,rfl⟩)
  |exact .inr (.inr (.inl ⟨_,Mx,rfl⟩))
  |exact .inr (.inr (.inr ⟨_,Mx,rfl⟩))
def endS(c:Nat):Prop:=c=44\/c=59\/c=58\/c=93
def rowsL:List (List Nat)->List Nat
 |[]=>[]
 |[x]=>x
 |x::y::r=>x++47::rowsL (y::r)
variable{c:Nat}
def C1(h:bg c):isSg c=true:=by
 unfold bg at h;unfold isSg;rcases h with h|h
 .subst h;rfl
 .have:(decide (49<=c)&&decide (c<=54))=true:=by simp[h]
  rw[this,JR]
def motL(L:List (List Nat))(a b c d:Int):List Nat:=91::(rowsL L++59::(numL a++44::(numL b++59::(numL c++44::(numL d++[93])))))
def Pat.tl:Pat->List Nat
 |.mot L a b c d=>motL (L.map cs) a b c d
 |.over p q=>40::(p.tl++124::(q.tl++[41]))
 |.sh a b p=>115::(numL a++44::(numL b++58::p.tl))
 |.mir p=>109::p.tl
 |.tur p=>116::p.tl
 |.hue f g p=>104::(numL f++(numL g++p.tl))
def wa:∀L:List LB,cs (Str.join "/" L)=rowsL (L.map cs)
 |[]=>rfl
 |[x]=>rfl
 |x::y::L=>by
  show cs (x++"/"++Str.join "/" (y::L))=cs x++47::rowsL ((y::L).map cs);rw[bG,bG,wa (y::L),IQ];rfl
def cr:∀p:Pat,cs p.text=p.tl
 |.mot L a b c d=>by
  show cs (dA L a b c d)=motL (L.map cs) a b c d;unfold dA motL;have e:Txt.join "/" L=Str.join "/" L:=StrLaws.glued_eq_join _ _;rw[e]
  repeat rw[bG]
  rw[wa];simp only[IQ];rfl
 |.over p q=>by
  rw[Pat.text,Pat.tl]
  repeat rw[bG]
  rw[cr p,cr q];simp only[IQ];rfl
 |.sh a b p=>by
  rw[Pat.text,Pat.tl]
  repeat rw[bG]
  rw[cr p];simp only[IQ];rfl
 |.mir p=>by
  rw[Pat.text,Pat.tl,bG,cr p];rfl
 |.tur p=>by
  rw[Pat.text,Pat.tl,bG,cr p];rfl
 |.hue f g p=>by
  rw[Pat.text,Pat.tl]
  repeat rw[bG]
  rw[cr p];simp only[IQ];rfl
def hueL{f:Int}(h:1<=f/\f<=6):numL f=[(48+f).toNat]:=by
 have key:∀k:Fin 6,numL (((k.val:Nat):Int)+1)=[49+k.val]:=Mt
 have:=key #[(f-1).toNat,KK];have e:(((f-1).toNat:Nat):Int)+1=f:=KK
 rw[e]at this;rw[this];congr 1;show 49+(f-1).toNat=(48+f).toNat;lia
def rowsT(L:List (List Nat)):List Nat:=L.flatMap λy=>47::y
def wc:∀(x:List Nat) (L:List (List Nat)),rowsL (x::L)=x++rowsT L
 |x,[]=>by simp[rowsL,rowsT]
 |x,y::L=>by
  rw[rowsL,wc y L];simp[rowsT]
def gB{x y:LB}(h:cs x=cs y):x=y:=by
 obtain⟨a⟩:=x;obtain⟨b⟩:=y;have:a=b:=K9.mp h;rw[this]
variable{x:Int}
def numS(h:B12 x):numL x=[48]\/∃pre c y,(pre=[]\/pre=[45])/\(49<=c/\c<=57)/\numL x=pre++c::y/\(y=[]\/(c=49/\∃d,(48<=d/\d<=50)/\y=[d])):=by
 rcases numL_is h with⟨c,hc,e⟩|⟨c,hc,e⟩|⟨c,hc,e⟩|⟨c,hc,e⟩
 .by_cases z:c=48
  .exact .inl (by rw[e,z])
  .exact .inr #[[],c,[],.inl rfl,KK,e,.inl rfl]
 .exact .inr #[[],49,[c],.inl rfl,Mx,e,.inr #[rfl,c,hc,rfl]]
 .exact .inr #[[45],c,[],.inr rfl,hc,e,.inl rfl]
 .exact .inr #[[45],49,[c],.inr rfl,Mx,e,.inr #[rfl,c,hc,rfl]]
variable{A B:Prop}
def ifT{c:Prop}[Decidable c](h:c)(a:A):if c then A else B:=by rw[if_pos h];exact a
def ifdT{p:Prop}[Decidable p](h:p)(a:A):if decide p=true then A else B:=by rw[if_pos (decide_eq_true h)];exact a
def ifdF{p:Prop}[Decidable p](h:¬p)(b:B):if decide p=true then A else B:=by rw[if_neg (by simpa using h)];exact b
def rdF(t:LB)(k:Nat):List (LB×D):=[("text",.str t),("place",.int k)]
def RdM(a:Pi)(t:LB)(k:Nat):MS:=[(a,.ins "Reading" (rdF t k))]
variable{o:MO}
def dQ{a:Pi}:mget [(a,o)] a=be o:=by unfold mget;rw[if_pos rfl]
def iC{a:Pi}{o':MO}:mput [(a,o)] a o'=[(a,o')]:=by unfold mput;rw[if_pos rfl]
variable{t:LB}{k:Nat}
def bc{a:Pi}:mget (RdM a t k) a=be (.ins "Reading" (rdF t k)):=dQ
def mm:(rdF t k).lookup ("text":LB)=be (.str t):=rfl
def fB:(rdF t k).lookup ("place":LB)=be (.int k):=by
 unfold rdF;rw[Ig,show(("place":LB)==("text":LB))=false by decide+kernel];rfl
def C3:putD ("place":LB) (.int ((k:Int)+1)) (rdF t k)=rdF t (k+1):=by
 unfold rdF putD;rw[if_neg Mt];unfold putD;rw[if_pos rfl];rfl
def dD:(rdF t k).lookup ("may_take":LB)=none:=by
 unfold rdF;rw[Ig,show(("may_take":LB)==("text":LB))=false by decide+kernel,Ig,show(("may_take":LB)==("place":LB))=false by decide+kernel];rfl
def cu:(rdF t k).lookup ("take":LB)=none:=by
 unfold rdF;rw[Ig,show(("take":LB)==("text":LB))=false by decide+kernel,Ig,show(("take":LB)==("place":LB))=false by decide+kernel];rfl
structure At(t:Str)(k:Nat)(l:List Nat):Prop where
 eq:(cs t).drop k=l
 le:k<=t.length
 sz:t.length<=100000
def At.nil(h:At t k []):k=t.length:=by
 have h1:=congrArg JA h.eq;rw[Jd,bn]at h1;have:=h.le;simp at h1;lia
variable{l:List Nat}
def At.lt(h:At t k (c::l)):k<t.length:=by
 have h1:=congrArg JA h.eq;rw[Jd,bn]at h1;simp at h1;lia
def At.get(h:At t k (c::l)):(cs t)[k]?=be c:=by
 have h1:=congrArg (·[0]?) h.eq;simpa using h1
def At.next(h:At t k (c::l)):At t (k+1) l:=by
 refine#[?_,h.lt,h.sz];have h1:=congrArg (Jf 1) h.eq;rw[List.drop_drop]at h1;simpa using h1
def At.app{t:LB}:∀{x l:List Nat} {k:Nat},At t k (x++l)->At t (k+x.length) l
 |[],_,_,h=>h
 |c::x,l,k,h=>by
  have h1:At t (k+1+x.length) l:=At.app (At.next h);have e:k+1+x.length=k+(c::x).length:=by rw[HX];lia
  rw[e]at h1;exact h1
variable{al:LB}
def we:(!(!(Builtin.Str.occurrences al #[[c].toArray] 0 al.length 1).isEmpty))=!decide (c∈cs al):=by
 rw[StrLaws.found_one]
def mayS(al:LB):List Nat->LB|c::_=>if c∈cs al then#[[c].toArray]else ""|[]=>""
def mayN(al:LB):List Nat->Nat|c::_=>if c∈cs al then 1 else 0|[]=>0
def fC(h:c∈cs al):mayS al (c::l)=#[[c].toArray]:=if_pos h
def fD(h:c∈cs al):mayN al (c::l)=1:=if_pos h
def dR(h:c∉cs al):mayS al (c::l)="":=if_neg h
def dS(h:c∉cs al):mayN al (c::l)=0:=if_neg h
def C4:SiD:=λds R=>∃t:LB,ds=[.str t]/\R (rdF t 0)
def C5:SpM:=λds M R RX=>∃(a:Pi) (t:LB) (k:Nat) (l:List Nat) (al:LB),ds=[.ptr a,.str al]/\M=RdM a t k/\At t k l/\R (.str (mayS al l)) (RdM a t (k+mayN al l))
def C6:SpM:=λds M R _=>∃(a:Pi) (t:LB) (k c:Nat) (l:List Nat) (al:LB),ds=[.ptr a,.str al]/\M=RdM a t k/\At t k (c::l)/\c∈cs al/\R (.str #[[c].toArray]) (RdM a t (k+1))
def C7(h:B12 x):PySem.intText? #[(numL x).toArray]=be x:=
 vZ (P:=λx=>PySem.intText? #[(numL x).toArray]=be x) h Mt
def gC(x y:List Nat):((#[x.toArray]:LB)++#[y.toArray]:LB)=#[(x++y).toArray]:=by
 apply gB;rw[bG]
def digits19:c∈cs "123456789"↔49<=c/\c<=57:=by
 refine#[λh=>?_,λ⟨h1,h2⟩=>?_]
 .exact(show ∀c∈cs "123456789",49<=c/\c<=57 by decide+kernel) c h
 .obtain⟨k,rfl⟩:=Nat.le.dest h1;exact(show ∀k,k<9->49+k∈cs "123456789" by decide+kernel) k KK
def digits02:c∈cs "012"↔48<=c/\c<=50:=by
 have e:cs "012"=[48,49,50]:=rfl;rw[e];simp;lia
def C8(w:List Nat)(c:Nat):Txt.endswith #[(w++[c]).toArray] "1"=decide (c=49):=by
 unfold Txt.endswith;have e1:("1":LB).length=1:=rfl;have e2:(#[(w++[c]).toArray]:LB).length=w.length+1:=by simp[Str.length]
 rw[e1,e2];have e3:decide (0+1<=w.length+1)=true:=MD
 rw[e3,Bool.true_and,K8];unfold Builtin.Str.subAt;have e4:(#[(w++[c]).toArray]:LB).cps.extract w.length (w.length+("1":LB).length)=[c].toArray:=by
  apply K9.mp;simp[Array.toList_extract,e1]
 rw[e4];have e5:("1":LB).cps=[49].toArray:=rfl;rw[e5];by_cases h:c=49
 .subst h;rfl
 .simp[h]
def C9:SpM:=λds M R _=>∃(a:Pi) (t:LB) (k:Nat) (x:Int) (e:Nat) (l:List Nat),ds=[.ptr a]/\M=RdM a t k/\B12 x/\endS e/\At t k (numL x++e::l)/\R (.int x) (RdM a t (k+(numL x).length))
def Da:SpM:=λds M R _=>∃(a:Pi) (t:LB) (k:Nat) (x y:Int) (e:Nat) (l:List Nat),ds=[.ptr a]/\M=RdM a t k/\B12 x/\B12 y/\endS e/\At t k (numL x++44::(numL y++e::l))/\R (.tup [.int x,.int y]) (RdM a t (k+(numL x).length+1+(numL y).length))
def signs_is:c∈cs ".123456"↔isSg c=true:=by
 have e:cs ".123456"=[46,49,50,51,52,53,54]:=rfl;rw[e];simp;lia
def fE(x:List Nat):(#[x.toArray]:LB).length=x.length:=by simp[Str.length]
def wg(h:isSg c=false):c∉cs ".123456":=λz=>by rw[signs_is.mp z]at h;cases h
def S_line_from:SpM:=λds M R _=>∃(a:Pi) (t:LB) (k n m:Nat) (x l:List Nat),ds=[.ptr a,.int n,.int m]/\M=RdM a t k/\At t k (x++l)/\(∀c∈x,bg c)/\n<=x.length/\x.length<=m/\m<=8/\(x.length=m\/∃c l',l=c::l'/\isSg c=false)/\R (.str #[x.toArray]) (RdM a t (k+x.length))
def Db{p a:Pi}(h:p≠a):mget ((p,o)::RdM a t k) a=be (.ins "Reading" (rdF t k)):=by
 unfold mget;rw[if_neg h];exact dQ
variable{M:MS}
def bB{p:Pi}:mget ((p,o)::M) p=be o:=by unfold mget;rw[if_pos rfl]
def gD{p:Pi}{o':MO}:mput ((p,o)::M) p o'=(p,o')::M:=by unfold mput;rw[if_pos rfl]
def iD{p:Pi}:mdel ((p,o)::M) p=M:=by unfold mdel;rw[if_pos rfl]
structure RowsL(L:List (List Nat))(w:Nat):Prop where
 many:1<=L.length/\L.length<=8
 w1:1<=w
 w8:w<=8
 each:∀x∈L,x.length=w/\∀c∈x,bg c
def lstD(L:List (List Nat)):List D:=L.map λx=>D.str #[x.toArray]
def Dc:SpM:=λds M R _=>∃(a:Pi) (t:LB) (k:Nat) (L:List (List Nat)) (w:Nat) (l:List Nat),ds=[.ptr a]/\M=RdM a t k/\RowsL L w/\At t k (rowsL L++59::l)/\R (.lst (lstD L)) (RdM a t (k+(rowsL L).length))
def hmX(w h s:Int)(i j:Int):Int:=(i-j/h*s)%w
def hRow(w h s:Int)(j:Nat):Nat->List Nat->List ((Int×Int)×Int)->List ((Int×Int)×Int)
 |_,[],kv=>kv
 |i,c::r,kv=>hRow w h s j (i+1) r (if c=46 then kv else sdD kv (hmX w h s i j) ((j:Int)%h) ((c:Int)-48))
def hAll(w h s:Int):Nat->List (List Nat)->List ((Int×Int)×Int)->List ((Int×Int)×Int)
 |_,[],kv=>kv
 |j,x::r,kv=>hAll w h s (j+1) r (hRow w h s j 0 x kv)
def wj(kv:List ((Int×Int)×Int))(x y v:Int):(sdD kv x y v).length<=kv.length+1:=by
 unfold sdD;split
 .lia
 .rw[Ia];simp
def Dd(h:49<=c/\c<=54):∃i rest,Builtin.Str.occurrences ".123456" #[[c].toArray] 0 (".123456":LB).length 1=i::rest/\((i:Nat):Int)=(c:Int)-48:=by
 rcases(KK:c=49\/c=50\/c=51\/c=52\/c=53\/c=54)with e|e|e|e|e|e<;>subst e
 .exact#[1,[],Mt,Mx]
 .exact#[2,[],Mt,Mx]
 .exact#[3,[],Mt,Mx]
 .exact#[4,[],Mt,Mx]
 .exact#[5,[],Mt,Mx]
 .exact#[6,[],Mt,Mx]
def De{x:List Nat}(h:∀c∈x,bg c):(#[x.toArray]:LB).cps.all (·<128)=true:=by
 rw[<-Ka,IN];intro c hc;have:=h c hc;unfold bg at this;simp;lia
def Df{L:List (List Nat)}{j:Nat}{d:D}(h:(lstD L)[j]?=be d):∃x,L[j]?=be x/\d=.str #[x.toArray]:=by
 unfold lstD at h;rw[H9]at h;cases e:L[j]? with
 |none=>rw[e]at h;cases h
 |some x=>rw[e]at h;cases h;exact#[x,rfl,rfl]
variable{i:Nat}
def Dg{x:List Nat}{d:D}(h:(bR #[x.toArray])[i]?=be d):∃c,x[i]?=be c/\d=.str #[[c].toArray]:=by
 unfold bR at h;rw[H9]at h;cases e:x[i]? with
 |none=>simp[e]at h
 |some c=>simp[e]at h;exact#[c,rfl,h.symm]
def wk{α:Type}{l:List α}{x:α}(h:l[i]?=be x):l.drop i=x::l.drop (i+1):=by
 have hi:i<l.length:=(Ib.mp h).1;rw[Jj hi];congr 1;rw[Ih hi]at h;exact Option.some.inj h
def Dh:SpM:=λds M R RX=>∃(L:List (List Nat)) (wd:Nat) (w h s:Int),ds=[.lst (lstD L),.tup [.int w,.int h,.int s]]/\RowsL L wd/\0<w/\0<h/\h<1073741824/\0<=s/\s<1073741824/\R (.dti (hAll w h s 0 L [])) M
def moF(k:Nat)(sh:D)(hu:List ((Int×Int)×Int)):List (LB×D):=[("place",.int k),("shifts",sh),("hues",.dti hu)]
def Di:SiD:=λds R=>∃(k:Nat) (L:List (List Nat)) (wd:Nat) (a b c d:Int),ds=[.int k,.lst (lstD L),.tup [.int a,.int b],.tup [.int c,.int d]]/\RowsL L wd/\B12 a/\B12 b/\B12 c/\B12 d/\¬a*d=b*c/\
 ∀w h s,FamOf a b c d w h s->R (moF k (.tup [.int w,.int h,.int s]) (hAll w h s 0 L []))
variable{v:My.D}
def Dj:putD ("place":LB) v []=([("place",v)]:List (LB×D)):=rfl
variable{u:My.D}
def Dk:putD ("shifts":LB) v [("place",u)]=([("place",u),("shifts",v)]:List (LB×D)):=by
 unfold putD;rw[if_neg Mt];rfl
def Dl{t:D}:putD ("hues":LB) v [("place",t),("shifts",u)]=([("place",t),("shifts",u),("hues",v)]:List (LB×D)):=by
 unfold putD;rw[if_neg Mt];unfold putD;rw[if_neg Mt];rfl
def wl:([("place",u),("shifts",v)]:List (LB×D)).lookup ("shifts":LB)=be v:=by
 rw[Ig,show(("shifts":LB)==("place":LB))=false by decide+kernel];rfl
def Dm:SiD:=λds R=>∃(x y:LB) (fs gs:List (LB×D)),ds=[.obj x fs,.obj y gs]/\R [("above",.obj x fs),("below",.obj y gs)]
def Dn:SiD:=λds R=>∃(x:LB) (fs:List (LB×D)) (a b:Int),ds=[.obj x fs,.int a,.int b]/\R [("form",.obj x fs),("x",.int a),("y",.int b)]
def Do:SiD:=λds R=>∃(x:LB) (fs:List (LB×D)),ds=[.obj x fs]/\R [("form",.obj x fs)]
def Dp:SiD:=λds R=>∃(x:LB) (fs:List (LB×D)),ds=[.obj x fs]/\R [("form",.obj x fs)]
def Dq:SiD:=λds R=>∃(x:LB) (fs:List (LB×D)) (a b:Int),ds=[.obj x fs,.int a,.int b]/\R [("form",.obj x fs),("old",.int a),("new",.int b)]
def FormOf:Pat->D->Prop
 |.mot L a b c d,v=>∃(k:Nat) (w h s:Int),v=.obj "Motif" (moF k (.tup [.int w,.int h,.int s]) (hAll w h s 0 (L.map cs) []))/\FamOf a b c d w h s
 |.over p q,v=>∃u u',v=.obj "Over" [("above",u),("below",u')]/\FormOf p u/\FormOf q u'
 |.sh a b p,v=>∃u,v=.obj "Shifted" [("form",u),("x",.int a),("y",.int b)]/\FormOf p u
 |.mir p,v=>∃u,v=.obj "Mirror" [("form",u)]/\FormOf p u
 |.tur p,v=>∃u,v=.obj "Turn" [("form",u)]/\FormOf p u
 |.hue f g p,v=>∃u,v=.obj "Rehue" [("form",u),("old",.int f),("new",.int g)]/\FormOf p u
def Pat.cls:Pat->LB
 |.mot ..=>"Motif"|.over ..=>"Over"|.sh ..=>"Shifted"|.mir ..=>"Mirror"|.tur ..=>"Turn"|.hue ..=>"Rehue"
variable{f g:LB}{r:List (LB×My.D)}
def bX(h:(f==g)=false)(hr:r.lookup f=v9):(((g,v)::r:List (LB×D))).lookup f=none:=by
 rw[Ig,h];exact hr
structure ObjM(p:Pat)(fs:List (Str×D)):Prop where
 nl:noLF fs=true
 fam:fs.lookup ("family":LB)=v9
 shw:fs.lookup ("shows":LB)=v9
variable{p:Pat}
def FormOf.objm:∀{v:D},FormOf p v->∃fs,v=.obj p.cls fs/\ObjM p fs:=by
 have n1 {g:LB} {u:D} {f:LB} (h:(f==g)=false):([(g,u)]:List (LB×D)).lookup f=none:=bX h rfl;have nn {fs:List (LB×D)} {x:LB} (h:noLF fs=true):noL (.obj x fs)=true:=by simp[noL,h]
 induction p with
 |mot L a b c d=>
  rintro _⟨k,w,h,s,rfl,_⟩;exact#[_,rfl,by simp[noL,noLF,noLs,moF],bX Mt (bX Mt (n1 Mt)),bX Mt (bX Mt (n1 Mt))]
 |over p q i j=>
  rintro _⟨u,u',rfl,h1,h2⟩;obtain⟨fs,rfl,o1⟩:=i h1;obtain⟨gs,rfl,o2⟩:=j h2;exact#[_,rfl,by simp[noLF,nn o1.nl,nn o2.nl],bX Mt (n1 Mt),bX Mt (n1 Mt)]
 |sh a b p i=>
  rintro _⟨u,rfl,h1⟩;obtain⟨fs,rfl,o1⟩:=i h1;exact#[_,rfl,by simp[noL,noLF,o1.nl],bX Mt (bX Mt (n1 Mt)),bX Mt (bX Mt (n1 Mt))]
 |mir p i=>
  rintro _⟨u,rfl,h1⟩;obtain⟨fs,rfl,o1⟩:=i h1;exact#[_,rfl,by simp[noLF,nn o1.nl],n1 Mt,n1 Mt]
 |tur p i=>
  rintro _⟨u,rfl,h1⟩;obtain⟨fs,rfl,o1⟩:=i h1;exact#[_,rfl,by simp[noLF,nn o1.nl],n1 Mt,n1 Mt]
 |hue f g p i=>
  rintro _⟨u,rfl,h1⟩;obtain⟨fs,rfl,o1⟩:=i h1;exact#[_,rfl,by simp[noL,noLF,o1.nl],bX Mt (bX Mt (n1 Mt)),bX Mt (bX Mt (n1 Mt))]
variable{L:List LB}
def Dr(h:Rows L):∃w,RowsL (L.map cs) w:=by
 obtain⟨h1,w,h2,h3⟩:=h;refine#[w,by rw[HR];exact h1,h2.1,h2.2,λx hx=>?_];obtain⟨l,hl,rfl⟩:=Ir.mp hx;rw[bn];exact h3 l hl
def wn{f:Int}(h:1<=f/\f<=6):(48+f).toNat∈cs "123456":=by
 have e:cs "123456"=[49,50,51,52,53,54]:=rfl;rw[e];simp;lia
def Ds:SpM:=λds M R _=>∃(g:Pi) (t:LB) (k:Nat) (L:List LB) (a b c d:Int) (l:List Nat),ds=[.ptr g]/\M=RdM g t k/\At t k (motL (L.map cs) a b c d++l)/\(Pat.mot L a b c d).Wf/\∀v,FormOf (.mot L a b c d) v->R v (RdM g t (k+(motL (L.map cs) a b c d).length))
def dE(j:Nat):SpM:=λds M R _=>∃(a:Pi) (t:LB) (k:Nat) (p:Pat) (l:List Nat) (d:Nat),ds=[.ptr a,.int d]/\M=RdM a t k/\At t k (p.tl++l)/\d+j=6/\1<=j/\p.Wf/\p.depth+d<=5/\∀v,FormOf p v->R v (RdM a t (k+p.tl.length))
variable{ds:List My.D}{R:My.D->MS->Prop}{RX:XDM}
def Dt:¬dE 0 ds M R RX:=by
 rintro⟨_,_,_,_,_,_,_,_,_,_,h,_⟩;exact absurd h Mx
def wo(j:Nat):SpM:=λds M R _=>∃(a:Pi) (t:LB) (k:Nat) (p q:Pat) (l:List Nat) (d:Nat),ds=[.ptr a,.int d]/\M=RdM a t k/\At t k (p.tl++124::(q.tl++41::l))/\d+j=6/\1<=j/\p.Wf/\q.Wf/\p.depth+d<=5/\q.depth+d<=5/\∀u u',FormOf p u->FormOf q u'->R (.obj "Over" [("above",u),("below",u')]) (RdM a t (k+p.tl.length+1+q.tl.length+1))
def wt(j:Nat):SpM:=λds M R _=>∃(a:Pi) (t:LB) (k:Nat) (x y:Int) (p:Pat) (l:List Nat) (d:Nat),ds=[.ptr a,.int d]/\M=RdM a t k/\At t k (numL x++44::(numL y++58::(p.tl++l)))/\d+j=6/\1<=j/\B12 x/\B12 y/\p.Wf/\p.depth+d<=5/\∀u,FormOf p u->R (.obj "Shifted" [("form",u),("x",.int x),("y",.int y)]) (RdM a t (k+(numL x).length+1+(numL y).length+1+p.tl.length))
def wu(j:Nat):SpM:=λds M R _=>∃(a:Pi) (t:LB) (k:Nat) (f g:Int) (p:Pat) (l:List Nat) (d:Nat),ds=[.ptr a,.int d]/\M=RdM a t k/\At t k ((48+f).toNat::(48+g).toNat::(p.tl++l))/\d+j=6/\1<=j/\(1<=f/\f<=6)/\(1<=g/\g<=6)/\p.Wf/\p.depth+d<=5/\∀u,FormOf p u->R (.obj "Rehue" [("form",u),("old",.int f),("new",.int g)]) (RdM a t (k+2+p.tl.length))
def Pat.cls_mem(p:Pat):p.cls∈(["Motif","Over","Shifted","Mirror","Turn","Rehue"]:List LB):=by
 cases p<;>simp[Pat.cls]
variable{hu:List ((Int×Int)×Int)}
def mo_shifts{sh:D}:(moF k sh hu).lookup ("shifts":LB)=be sh:=by
 unfold moF;rw[Ig,show(("shifts":LB)==("place":LB))=false by decide+kernel];rfl
def Du{sh:D}:(moF k sh hu).lookup ("hues":LB)=be (.dti hu):=by
 unfold moF;rw[Ig,show(("hues":LB)==("place":LB))=false by decide+kernel,Ig,show(("hues":LB)==("shifts":LB))=false by decide+kernel];rfl
def fF(h:(g==f)=false):(((f,u)::(g,v)::r:List (LB×D))).lookup g=be v:=by
 rw[Ig,h,Ig,beq_self_eq_true]
def mn{e:LB}{t:D}(h1:(g==e)=false)(h2:(g==f)=false):(((e,t)::(f,u)::(g,v)::r:List (LB×D))).lookup g=be v:=by
 rw[Ig,h1];exact fF h2
variable{w s:Int}
def Pat.Fits.small(h:p.Fits){k:Int}(f:p.Fam w k s):0<w/\w<=720/\0<k/\k<=720/\0<=s/\s<w:=by
 obtain⟨w',k',s',f',hb⟩:=h;obtain⟨rfl,rfl,rfl⟩:=f.uniq f';obtain⟨h1,h2⟩:=dz f.f.w0 f.f.h0;exact#[f.f.w0,KK,f.f.h0,KK,f.f.s0,f.f.sw]
def Pat.Fits.over_parts{q:Pat}(hp:p.Wf)(hq:q.Wf)(h:(Pat.over p q).Fits):p.Fits/\q.Fits:=by
 obtain⟨w,k,s,f,hb⟩:=h;obtain⟨w1,k1,s1,f1⟩:=Pat.fam_ex hp;obtain⟨w2,k2,s2,f2⟩:=Pat.fam_ex hq;have l1:=(InF.le f1.f.w0 f1.f.h0 f.f.w0 f.f.h0 (λx y z=>(f1.lat x y).mpr ((f.lat x y).mp z).1)).1;have l2:=(InF.le f2.f.w0 f2.f.h0 f.f.w0 f.f.h0 (λx y z=>(f2.lat x y).mpr ((f.lat x y).mp z).2)).1;exact#[#[w1,k1,s1,f1,KK],#[w2,k2,s2,f2,KK]]
variable{b:Int}
def Pat.Fits.of_sh(h:(Pat.sh a b p).Fits):p.Fits:=by
 obtain⟨w,k,s,f,hb⟩:=h;exact#[w,k,s,#[f.f,f.lat],hb]
def Pat.Fits.of_hue(h:(Pat.hue a b p).Fits):p.Fits:=by
 obtain⟨w,k,s,f,hb⟩:=h;exact#[w,k,s,#[f.f,f.lat],hb]
def Pat.Fits.of_mir(hp:p.Wf)(h:(Pat.mir p).Fits):p.Fits:=by
 obtain⟨w,k,s,f,hb⟩:=h;obtain⟨w1,k1,s1,f1⟩:=Pat.fam_ex hp;obtain⟨rfl,rfl,_⟩:=f.uniq f1.mir;exact#[_,_,_,f1,hb]
def Pat.Fits.of_tur(hp:p.Wf)(h:(Pat.tur p).Fits):p.Fits:=by
 obtain⟨w,k,s,f,hb⟩:=h;obtain⟨w1,k1,s1,f1⟩:=Pat.fam_ex hp;obtain⟨w',k',s',f',e⟩:=ml (s:=s1) f1.f.w0 f1.f.h0;obtain⟨rfl,rfl,_⟩:=f.uniq (f1.tur f');exact#[_,_,_,f1,KK]
def bZ(j:Nat)(x:LB):SpX:=λds R _=>∃(p:Pat) (v:D),ds=[v]/\FormOf p v/\p.Wf/\p.depth<j/\p.cls=x/\p.Fits/\∀w h s,p.Fam w h s->R (.tup [.int w,.int h,.int s])
def fG{x:LB}:¬ofX (bZ 0 x) ds M R RX:=by
 rintro⟨_,_,_,_,_,h,_⟩;exact absurd h (JH _)
def lookD_app(x y v X Y:Int):∀kv:List ((Int×Int)×Int),lookD (kv++[((x,y),v)]) X Y=match lookD kv X Y with|some u=>be u|none=>if x=X/\y=Y then be v else v9
 |[]=>rfl
 |((a,b),h)::r=>by
  show lookD (((a,b),h)::(r++[((x,y),v)])) X Y=_;unfold lookD;by_cases e:a=X/\b=Y
  .rw[if_pos e,if_pos e]
  .rw[if_neg e,if_neg e];exact lookD_app x y v X Y r
def Dv(kv:List ((Int×Int)×Int))(x y v X Y:Int):lookD (sdD kv x y v) X Y=match lookD kv X Y with|some u=>be u|none=>if x=X/\y=Y then be v else none:=by
 unfold sdD;split
 .rename_i hs;cases e:lookD kv X Y with
  |some u=>rfl
  |none=>
   show v9=_;rw[if_neg];rintro⟨rfl,rfl⟩;rw[e]at hs;cases hs
 .exact lookD_app x y v X Y kv
def look_row(w h s:Int)(j:Nat)(X Y:Int):∀(x:List Nat) (i:Nat) (kv:List ((Int×Int)×Int)),lookD (hRow w h s j i x kv) X Y=match lookD kv X Y with|some u=>be u|none=>(scanRow (λi=>decide (hmX w h s i j=X/\(j:Int)%h=Y)) i x).map λc=>(c:Int)-48
 |[],i,kv=>by
  rw[hRow,scanRow];cases lookD kv X Y<;>rfl
 |c::r,i,kv=>by
  rw[hRow,look_row w h s j X Y r (i+1),scanRow];by_cases x9:c=46
  .rw[if_pos x9,if_neg (c:=c≠46/\_) (λz=>z.1 x9)]
  .rw[if_neg x9,Dv];cases lookD kv X Y with
   |some u=>rfl
   |none=>
    by_cases e:hmX w h s i j=X/\(j:Int)%h=Y
    .rw[if_pos (c:=c≠46/\_) #[x9,decide_eq_true e]];show(match (if hmX w h s i j=X/\(j:Int)%h=Y then be ((c:Int)-48)else v9)with|some u=>be u|none=>_)=_;rw[if_pos e];rfl
    .rw[if_neg (c:=c≠46/\_) (λz=>e (of_decide_eq_true z.2))];show(match (if hmX w h s i j=X/\(j:Int)%h=Y then be ((c:Int)-48)else v9)with|some u=>be u|none=>_)=_;rw[if_neg e]
def wv(w h s X Y:Int):∀(L:List LB) (j:Nat) (kv:List ((Int×Int)×Int)),lookD (hAll w h s j (L.map cs) kv) X Y=match lookD kv X Y with|some u=>be u|none=>(bV (λi j=>decide (hmX w h s i j=X/\j%h=Y)) j L).map λc=>(c:Int)-48
 |[],j,kv=>by
  rw[Jn,hAll,bV];cases lookD kv X Y<;>rfl
 |x::r,j,kv=>by
  rw[Il,hAll,wv w h s X Y r (j+1),look_row,bV];cases lookD kv X Y with
  |some u=>rfl
  |none=>
   show(match (scanRow (λi=>decide (hmX w h s i j=X/\(j:Int)%h=Y)) 0 (cs x)).map (λc=>(c:Int)-48)with|some u=>be u|none=>_)=_;cases scanRow (λi=>decide (hmX w h s i j=X/\(j:Int)%h=Y)) 0 (cs x)<;>rfl
variable{h:Int}
def Dw{c d:Int}(F:FamOf a b c d w h s)(hn:¬a*d=b*c)(x y i j:Int):decide (hmX w h s i j=hmX w h s x y/\j%h=y%h)=onB a b c d (x-i) (y-j):=by
 have hw:=F.1;have hh:=F.2.1;have key:(hmX w h s i j=hmX w h s x y/\j%h=y%h)↔InF w h s (x-i) (y-j):=by
  unfold hmX;constructor
  .rintro⟨e1,e2⟩;have dy:=Jv y h;have dj:=Jv j h;have m1:=Jv (x-y/h*s) w;have m2:=Jv (i-j/h*s) w;refine#[(x-y/h*s)/w-(i-j/h*s)/w,y/h-j/h,?_,?_]
   .rw[Kl,Kl,Iu ((x-y/h*s)/w) w,Iu ((i-j/h*s)/w) w];lia
   .rw[Kl,Iu (y/h) h,Iu (j/h) h];lia
  .rintro⟨m,q,ex,ey⟩;have TJ:y=j+q*h:=by lia
   have Rr:x=i+(m*w+q*s):=KK
   subst Rr TJ;rw[La,Lb _ _ KK];refine#[?_,rfl];have e:i+(m*w+q*s)-(j/h+q)*s=i-j/h*s+m*w:=by rw[Km];lia
   rw[e,La]
 unfold onB;congr 1;apply propext;rw[key,F.lat];constructor
 .rintro⟨m,q,eu,ev⟩;exact vC eu ev
 .exact λz=>vS hn z
def Dx(h:49<=c/\c<=54):cell [0,1,2,3,4,5,6] ((c:Int)-48)=(c:Int)-48:=by
 rcases(KK:c=49\/c=50\/c=51\/c=52\/c=53\/c=54)with e|e|e|e|e|e<;>subst e<;>rfl
def motif_shows{c d:Int}(hL:Rows L)(F:FamOf a b c d w h s)(hn:¬a*d=b*c)(x y:Int):(lookD (hAll w h s 0 (L.map cs) []) (hmX w h s x y) (y%h)).getD 0=(bx L a b c d).shows x y:=by
 rw[wv];show((bV (λi j=>decide (hmX w h s i j=hmX w h s x y/\j%h=y%h)) 0 L).map λc=>(c:Int)-48).getD 0=_;have e:(λi j=>decide (hmX w h s i j=hmX w h s x y/\j%h=y%h))=λi j=>onB a b c d (1*x+0*y+0-i) (0*x+1*y+0-j):=by
  funext i j;rw[Dw F hn];congr 1<;>lia
 rw[e];show _=match bV (λi j=>onB a b c d (1*x+0*y+0-i) (0*x+1*y+0-j)) 0 L with|some c=>cell [0,1,2,3,4,5,6] ((c:Int)-48)|none=>0
 cases q:bV (λi j=>onB a b c d (1*x+0*y+0-i) (0*x+1*y+0-j)) 0 L with
 |none=>rfl
 |some c=>
  have hc:49<=c/\c<=54:=mf (λl' q=>let ⟨_,_,_,h⟩:=hL;(h l' q).2) q;exact(Dx hc).symm
def ca(j:Nat)(x:LB):SpX:=λds R _=>∃(p:Pat) (v:D) (X Y:Int),ds=[v,.int X,.int Y]/\FormOf p v/\p.Wf/\p.depth<j/\p.cls=x/\R (.int (p.show X Y))
def fH{x:LB}:¬ofX (ca 0 x) ds M R RX:=by
 rintro⟨_,_,_,_,_,_,_,h,_⟩;exact absurd h (JH _)
structure PatOf(p:Pat)(w h s:Int)(fs:List (Str×D)):Prop extends Pat.Fam p w h s where
 form:∃v,fs.lookup ("form":LB)=be v/\FormOf p v
 nl:noLF fs=true
def br(p:Pat)(d:D):Prop:=∃w h s fs,d=.obj "Pattern" fs/\fs.lookup ("text":LB)=be (.str p.text)/\fs.lookup ("shifts":LB)=be (.tup [.int w,.int h,.int s])/\PatOf p w h s fs
def bo(x:Int):Prop:=-1000000000000<=x/\x<=1000000000000
def Pat.show_le(h:p.Wf)(hd:p.depth<=40)(x y:Int):0<=p.show x y/\p.show x y<=6:=by
 rw[<-Pat.show_leaves h hd];exact vM x y (Pat.leaf_ok h hd)
def aR(h:Int):Nat:=if h=0 then 46 else(48+h).toNat
def aL(p:Pat)(x y:Int)(n:Nat):Str:=#[((HU n).map λ(k:Nat)=>aR (p.show (x+(k:Int)) y)).toArray]
def cC(p:Pat)(x y:Int)(n:Nat):(aL p x y n).length=n:=by simp[aL,Str.length]
def ww(h0:0<=h)(h6:h<=6):atI (cs ".123456") h=be (aR h):=by
 rcases(KK:h=0\/h=1\/h=2\/h=3\/h=4\/h=5\/h=6)with e|e|e|e|e|e|e<;>subst e<;>decide+kernel
def range2_int{i j:Int}{x:D}(h:((HU (j-i).toNat).map λk=>D.int (i+((k:Nat):Int)))[k]?=be x):k<(j-i).toNat/\x=.int (i+(k:Int)):=by
 have hk:k<(j-i).toNat:=by simpa using(Ib.mp h).1
 refine#[hk,?_];simp[hk]at h;exact h.symm
def wx:∀L:List LB,cs (Str.join "" L)=L.flatMap cs
 |[]=>rfl
 |[x]=>by simp[Str.join]
 |x::y::r=>by
  show cs (x++""++Str.join "" (y::r))=_;rw[bG,bG,wx (y::r),vJ];simp
def Dy(f:Nat->Nat)(n:Nat):Str.join "" ((HU n).map λi=>(#[[f i].toArray]:LB))=#[((HU n).map f).toArray]:=by
 apply gB;rw[wx,List.flatMap_map];show(HU n).flatMap (λi=>[f i])=(HU n).map f;rw[List.map_eq_flatMap]
def Dz:SiD:=λds R=>∃(t:LB) (w h s:Int) (x:LB) (fs:List (LB×D)),ds=[.str t,.tup [.int w,.int h,.int s],.obj x fs]/\R [("text",.str t),("shifts",.tup [.int w,.int h,.int s]),("form",.obj x fs)]
def S_read:SpX:=λds R _=>∃p:Pat,ds=[.str p.text]/\p.Ok/\∀d,br p d->R d
def S_read.mono{R R':D->Prop}{RX RX':XD}(h:S_read ds R RX)(hR:∀d,R d->R' d):S_read ds R' RX':=by
 obtain⟨p,e,ok,h⟩:=h;exact#[p,e,ok,λd i=>hR d (h d i)]
def wy{R:D->Prop}{RX:XD}(ok:p.Ok)(h:∀d,br p d->R d):S_read [.str p.text] R RX:=#[p,rfl,ok,h]
def DB:SpX:=λds R RX=>∃x y:Int,ds=[.int x,.int y]/\(bo x/\bo y->R .non)/\(¬(bo x/\bo y)->RX "TooFar" [])
def DC:SpX:=λds R RX=>∃(p:Pat) (d:D) (x y:Int),ds=[d,.int x,.int y]/\br p d/\p.Ok/\(bo x/\bo y->R (.int (p.show x y)))/\(¬(bo x/\bo y)->RX "TooFar" [])
def DD:SpD:=λds R=>∃(p:Pat) (d:D) (x y:Int) (n:Nat),ds=[d,.int x,.int y,.int n]/\br p d/\p.Ok/\n<=1000/\bo x/\bo (x+n-1)/\bo y/\R (.str (aL p x y n))
def rowD(p:Pat)(x y:Int)(n:Nat):List D:=(HU n).map λ(i:Nat)=>D.str #[[aR (p.show (x+(i:Int)) y)].toArray]
def wz(p:Pat)(x y:Int)(k:Nat):rowD p x y k++[D.str #[[aR (p.show (x+(k:Int)) y)].toArray]]=rowD p x y (k+1):=by
 unfold rowD;rw[JC,Ip];rfl
variable{n:Nat}
def wA(p:Pat)(x y:Int)(hn:n<=1000):∃ys,cU (rowD p x y n)=be ys/\(ys.map (·.length)).sum+ys.length*("":LB).length<=1000000/\Txt.join "" ys=aL p x y n:=by
 have e1:rowD p x y n=((HU n).map λ(i:Nat)=>(#[[aR (p.show (x+(i:Int)) y)].toArray]:LB)).map D.str:=by unfold rowD;rw[JG];rfl
 rw[e1];refine#[_,me _,?_,(StrLaws.glued_eq_join _ _).trans (Dy (λi=>aR (p.show (x+(i:Int)) y)) n)];rw[vK (w:=1) (λl hl=>by obtain⟨i,_,rfl⟩:=Ir.mp hl;rfl),HR,Kn,show("":LB).length=0 from rfl];lia
def DF{n:Int}:x.fmod n=0↔n∣x:=#[Int.dvd_of_fmod_eq_zero,Kd]
def DG(a b c d u v i j:Int):onB a b c d (u+(i*a+j*c)) (v+(i*b+j*d))=onB a b c d u v:=by
 unfold onB;have e1:(u+(i*a+j*c))*d-(v+(i*b+j*d))*c=(u*d-v*c)+(a*d-b*c)*i:=NS
 have e2:a*(v+(i*b+j*d))-b*(u+(i*a+j*c))=(a*v-b*u)+(a*d-b*c)*j:=NS
 rw[e1,e2];simp only[DF];have h1:(a*d-b*c∣u*d-v*c+(a*d-b*c)*i)↔a*d-b*c∣u*d-v*c:=Ld (Le _ _);have h2:(a*d-b*c∣a*v-b*u+(a*d-b*c)*j)↔a*d-b*c∣a*v-b*u:=Ld (Le _ _);simp only[h1,h2]
def Pat.Keeps(p:Pat)(X Y:Int):Prop:=∀x y,p.show (x+X) (y+Y)=p.show x y
def Pat.lat_keeps:∀{p:Pat} {X Y:Int},p.Lat X Y->p.Keeps X Y
 | .mot L a b c d,_,_,⟨i,j,rfl,rfl⟩,x,y=>by
  have e:∀u v:Int,onB a b c d (1*(x+(i*a+j*c))+0*(y+(i*b+j*d))+0-u) (0*(x+(i*a+j*c))+1*(y+(i*b+j*d))+0-v)=onB a b c d (1*x+0*y+0-u) (0*x+1*y+0-v):=λu v=>by
   rw[<-DG a b c d (1*x+0*y+0-u) (0*x+1*y+0-v) i j];congr 1<;>lia
  show Leaf.shows _ _ _=Leaf.shows _ _ _;unfold Leaf.shows Leaf.hit;simp only[bx,e]
 |.over p q,X,Y,h,x,y=>by
  simp only[Pat.show];rw[Pat.lat_keeps h.1 x y,Pat.lat_keeps h.2 x y]
 |.sh a b p,X,Y,h,x,y=>by
  have:=Pat.lat_keeps (p:=p) h (x-a) (y-b);simp only[Pat.show];rw[<-this];congr 1<;>lia
 |.mir p,X,Y,h,x,y=>by
  have:=Pat.lat_keeps (p:=p) h (-x) y;simp only[Pat.show];rw[<-this];congr 1;lia
 |.tur p,X,Y,h,x,y=>by
  have:=Pat.lat_keeps (p:=p) h y (-x);simp only[Pat.show];rw[<-this];congr 1;lia
 |.hue f g p,X,Y,h,x,y=>by
  simp only[Pat.show];rw[Pat.lat_keeps (p:=p) h x y]
def InF.one(w h s:Int):InF w h s w 0:=#[1,0,KK,KK]
def Pat.Fam.keeps{y:Int}(f:p.Fam w h s)(q:InF w h s x y):p.Keeps x y:=Pat.lat_keeps ((f.lat x y).mp q)
structure Pat.Kfam(p:Pat)(w h s:Int):Prop where
 f:Fam0 w h s
 keeps:∀{x y},InF w h s x y->p.Keeps x y
structure Pat.Least(p:Pat)(w h s:Int):Prop where
 f:Fam0 w h s
 lat:∀x y,InF w h s x y↔p.Keeps x y
def DJ(hw:0<w)(hh:0<h)(x y:Int):InF w h s (x-hmX w h s x y) (y-y%h):=by
 have e1:=Jh y h;have e2:=Jh (x-y/h*s) w;refine#[(x-y/h*s)/w,y/h,?_,by rw[e1,Iu];lia];unfold hmX;rw[e2,Iu w];lia
def Pat.show_home(hw:0<w)(hh:0<h)(k:∀x y,InF w h s x y->p.Keeps x y)(x y:Int):p.show (hmX w h s x y) (y%h)=p.show x y:=by
 have:=k _ _ (DJ (s:=s) hw hh x y) (hmX w h s x y) (y%h);rw[<-this];congr 1<;>lia
def DK(f:Nat->Nat){w:Nat}(h:c<w):((HU w).map f).drop c++((HU w).map f).take c=(HU w).map λk=>f ((c+k)%w):=by
 apply Jp;intro i;by_cases h1:i<w-c
 .rw[IG (by simp;exact h1),Lf,H9,H9,IR KK,IR KK];simp[Lg (show c+i<w by lia)]
 .rw[IT Uw];simp only[Jd,HR,Kn];by_cases h2:i<w
  .rw[J4 KK,H9,H9,IR KK,IR KK];have e:(c+i)%w=i-(w-c):=by
    rw[show c+i=(i-(w-c))+w by lia,Nat.add_mod_right,Lg KK]
   simp[e]
  .rw[ID Uw,ID Uw]
def gE(l:List Nat):cs (#[l.toArray]:LB)=l:=MD
def DL{c:Int}(ht:cs t=l)(c0:0<=c)(cl:c<l.length):Txt.slice t (be c) v9++Txt.slice t v9 (be c)=(#[(l.drop c.toNat++l.take c.toNat).toArray]:LB):=by
 have hl:t.length=l.length:=by rw[<-ht,bn]
 apply gB;rw[bG,slice_cps,slice_cps,gE,gE,gE,show t.cps.toList=l from ht,hl];have e1:HT.sIx l.length 0 (be c)=c.toNat:=by show(if c<0 then _ else min c.toNat l.length)=_;rw[if_neg KK];lia
 have e2:HT.sIx l.length l.length v9=l.length:=rfl;have e3:HT.sIx l.length 0 v9=0:=rfl;have e4:HT.sIx l.length l.length (be c)=c.toNat:=by show(if c<0 then _ else min c.toNat l.length)=_;rw[if_neg KK];lia
 rw[e1,e2,e3,e4,JZ,Jg MD];rfl
def cY(p:Pat)(x y:Int)(n:Nat):cs (aL p x y n)=(HU n).map λ(k:Nat)=>aR (p.show (x+(k:Int)) y):=gE _
def DM(hw:0<w)(hh:0<h)(k:∀x y,InF w h s x y->p.Keeps x y)(x y:Int):
  Txt.slice (aL p 0 (y%h) w.toNat) (be (hmX w h s x y)) v9++Txt.slice (aL p 0 (y%h) w.toNat) v9 (be (hmX w h s x y))=aL p x y w.toNat:=by
 have c0:0<=hmX w h s x y:=IV _ KK;have c1:hmX w h s x y<w:=IW _ hw;rw[DL (cY p 0 (y%h) w.toNat) c0 Uw,DK _ KK];unfold aL;congr 2;apply JD;intro i _;have e:=Pat.show_home hw hh k (x+(i:Int)) y;rw[<-e];congr 2;have q:hmX w h s (x+(i:Int)) y=(hmX w h s x y+i)%w:=by
  unfold hmX;rw[Int.emod_add_emod];congr 1;lia
 rw[q,Jy,Lh,JI,Iv c0,Iv KK]
def gG(p:Pat)(w h:Int):D:=.lst ((HU h.toNat).map λ(y:Nat)=>D.str (aL p 0 (y:Int) w.toNat))
def DN:SpD:=λds R=>∃(p:Pat) (d:D),ds=[d]/\br p d/\p.Ok/\∀w h s,p.Fam w h s->w*h<=720->w<=720->h<=720->R (gG p w h)
def DO:SpD:=λds R=>∃(p:Pat) (w h s x y:Int),ds=[.tup [.int w,.int h,.int s],gG p w h,.int x,.int y]/\p.Fam w h s/\w<=720/\h<=720/\R (.str (aL p x y w.toNat))
def DP(a0:0<=a)(a6:a<=6)(b0:0<=b)(b6:b<=6)(e:aR a=aR b):a=b:=by
 unfold aR at e;split at e<;>split at e<;>lia
structure Pat.LeastW(p:Pat)(w m:Int):Prop where
 lo:1<=m
 hi:m<=w
 md:w%m=0
 k:p.Keeps m 0
 l:∀d,1<=d->d<=w->w%d=0->p.Keeps d 0->m<=d
def DQ{R:D->Prop}(ok:p.Ok)(h:∀w h s,p.Fam w h s->w*h<=720->w<=720->h<=720->R (.tup [.int w,.int h,.int s])):mj [.lst (p.leaves.map Leaf.D)] R:=by
 refine#[p.leaves,p.depth,rfl,λz=>by have:=Pat.leaves_pos p;rw[z]at this;simp at this,λl hl=>Pat.leaf_good ok.wf l hl,λw k s f lat=>?_];have F:p.Fam w k s:=#[f,λx y=>(lat x y).trans (Pat.lat_leaves p x y)];have sm:=ok.fits.small F;have wh:w*k<=720:=by
  obtain⟨w',h',s',f',hb⟩:=ok.fits;obtain⟨rfl,rfl,_⟩:=F.uniq f';exact hb
 exact#[λ_=>h w k s F wh sm.2.1 sm.2.2.2.1,λz=>KK]
def FamD(p:Pat):D->Prop:=λx=>∃w h s:Int,x=.tup [.int w,.int h,.int s]/\p.Fam w h s/\w*h<=720/\w<=720/\h<=720
def DR(ok:p.Ok):mj [.lst (p.leaves.map Leaf.D)] (FamD p):=DQ ok λw h s F a b c=>#[w,h,s,rfl,F,a,b,c]
def sumN(g:Nat->Int):Nat->Int
 |0=>0
 |n+1=>sumN g n+g n
def dU{g f:Nat->Int}:∀{n:Nat},(∀k,k<n->g k=f k)->sumN g n=sumN f n
 |0,_=>rfl
 |n+1,h=>by rw[sumN,sumN,dU λk hk=>h k KK,h n KK]
def iE(g:Nat->Int)(n:Nat):∀m:Nat,sumN g (n+m)=sumN g n+sumN (λk=>g (n+k)) m
 |0=>by simp[sumN]
 |m+1=>by rw[<-Nat.add_assoc,sumN,sumN,iE g n m];lia
def wB(g f:Nat->Int):∀n:Nat,sumN (λk=>g k+f k) n=sumN g n+sumN f n
 |0=>rfl
 |n+1=>by simp only[sumN,wB g f n];lia
variable{N:Nat}
def DU{g:Nat->Int}(hN:0<N)(M9:∀k,g (k+N)=g k)(n:Nat):sumN (λj=>(((n:Int)-1-j)/N+1)*g j) (min n N)=sumN g n:=by
 induction n using Nat.strongRecOn with
 |ind n ih=>
  by_cases h:n<=N
  .rw[Jz h];refine dU λk hk=>?_;rw[Li KK KK];simp
  .have e1:n=N+(n-N):=by lia
   have i:=ih (n-N) KK;have Qa:sumN (λk=>g (N+k)) (n-N)=sumN g (n-N):=dU λk _=>by rw[Kj];exact M9 k
   rw[J0 KK];have e2:sumN g n=sumN g N+sumN g (n-N):=by
    conv=>lhs;rw[e1]
    rw[iE,Qa]
   rw[e2,<-i];have e3:min (n-N) N+(N-min (n-N) N)=N:=KK
   have split:∀f:Nat->Int,sumN f N=sumN f (min (n-N) N)+sumN (λk=>f (min (n-N) N+k)) (N-min (n-N) N):=λf=>by
    conv=>lhs;rw[<-e3]
    exact iE _ _ _
   rw[split,split g];have a:sumN (λj=>(((n:Int)-1-j)/N+1)*g j) (min (n-N) N)=sumN g (min (n-N) N)+sumN (λj=>((((n-N:Nat):Int)-1-j)/N+1)*g j) (min (n-N) N):=by
    rw[<-wB];refine dU λk hk=>?_;have q:((n:Int)-1-k)/N=(((n-N:Nat):Int)-1-k)/N+1:=by
     rw[show((n:Int)-1-k)=(((n-N:Nat):Int)-1-k)+1*N by lia,Lb _ _ KK]
    rw[q,Km];lia
   have b:sumN (λk=>(((n:Int)-1-((min (n-N) N+k:Nat):Int))/N+1)*g (min (n-N) N+k)) (N-min (n-N) N)=sumN (λk=>g (min (n-N) N+k)) (N-min (n-N) N):=by
    refine dU λk hk=>?_;rw[Li KK KK];simp
   rw[a,b];lia
def cntN(f:Nat->Int)(v:Int)(n:Nat):Int:=sumN (λk=>if f k=v then 1 else 0) n
def wC(f:Nat->Int)(v:Int):∀n,0<=cntN f v n/\cntN f v n<=n
 |0=>by simp[cntN,sumN]
 |n+1=>by
  have:=wC f v n;unfold cntN at this ⊢;rw[sumN];split<;>lia
def DV{f:Nat->Int}{w:Nat}(hw:0<w)(M9:∀k,f (k+w)=f k)(v:Int)(m:Nat):((m/w:Nat):Int)*cntN f v w+cntN f v (m%w)=cntN f v m:=by
 have key:∀q r:Nat,cntN f v (w*q+r)=(q:Int)*cntN f v w+cntN f v r:=λq=>by
  have sh:∀q k,f (w*q+k)=f k:=λq=>by
   induction q with
   |zero=>intro k;rw[Nat.mul_zero,Ko]
   |succ q ih=>intro k;rw[Lj,show w*q+w+k=w*q+k+w by lia,M9];exact ih k
  induction q with
  |zero=>intro r;simp
  |succ q ih=>
   intro r;rw[Lj,show w*q+w+r=w*q+(w+r)by lia,ih,JI,Km];have e:cntN f v (w+r)=cntN f v w+cntN f v r:=by
    unfold cntN;rw[iE];congr 1;refine dU λk _=>?_;rw[Kj w k,M9]
   rw[e];simp;lia
 have:=key (m/w) (m%w);rw[Nat.div_add_mod]at this;exact this.symm
def iF(y:LB)(c:Nat):∀(m a:Nat) (st:Array Nat×Nat),a+m=y.length+1->st.2<=a->st.1.size<=a->(forIn (List.range' a m) st (StrLaws.occBody y #[[c].toArray] y.length (y.length+1))).run.fst.size=st.1.size+(((cs y).drop a).filter (·==c)).length
 |0,a,st,h,_,_=>by
  rw[Kp (by rw[bn];lia)];rfl
 |m+1,a,st,h,h1,h2=>by
  have l1:(#[[c].toArray]:LB).length=1:=rfl;have q:=StrLaws.subAt_eq y #[[c].toArray] a;rw[List.range'_succ,J7];by_cases ha:a<y.length
  .have hd:(cs y).drop a=(cs y)[a]'(by rw[bn];exact ha)::(cs y).drop (a+1):=Jj (by rw[bn];exact ha);rw[show y.cps.toList.drop a=_ from hd,l1]at q;rw[hd,List.filter_cons];by_cases e:(cs y)[a]'(by rw[bn];exact ha)=c
   .have eb:StrLaws.occBody y #[[c].toArray] y.length (y.length+1) a st=pure (.yield (st.1.push a,a+1)):=by
     unfold StrLaws.occBody;rw[if_pos #[#[#[KK,h1],by rw[l1];lia],by rw[q];simp[e]],l1]
    rw[eb];have:=iF y c m (a+1) (st.1.push a,a+1) KK (HP _) Uw;simp only[e,beq_self_eq_true,if_true,HX];refine Eq.trans this ?_;simp only[Array.size_push];lia
   .have eb:StrLaws.occBody y #[[c].toArray] y.length (y.length+1) a st=pure (.yield (st.1,st.2)):=by
     unfold StrLaws.occBody;rw[if_neg];rintro⟨_,z⟩;rw[q]at z;simp at z;exact e z
    rw[eb];have:=iF y c m (a+1) st KK KK KK;rw[if_neg (by simpa using e)];exact this
  .have eb:StrLaws.occBody y #[[c].toArray] y.length (y.length+1) a st=pure (.yield (st.1,st.2)):=by
    unfold StrLaws.occBody;rw[if_neg];rintro⟨⟨_,z⟩,_⟩;rw[l1]at z;lia
   rw[eb];have:=iF y c m (a+1) st KK KK KK;rw[Kp (by rw[bn];lia)];rw[Kp (by rw[bn];lia)]at this;exact this
def DY(y:LB)(c:Nat):(Builtin.Str.occurrences y #[[c].toArray] 0 y.length (y.length+1)).length=((cs y).filter (·==c)).length:=by
 rw[StrLaws.occ_eq,JM,iF y c _ 0 _ KK (HP _) (HP _)];simp
def wE(f:Nat->Int)(b:∀k,0<=f k/\f k<=6){v:Int}(v0:0<=v)(v6:v<=6):∀n:Nat,(((((HU n).map λk=>aR (f k)).filter (·==aR v)).length:Nat):Int)=cntN f v n
 |0=>rfl
 |n+1=>by
  rw[JC,Ip,List.filter_append,Ia,JI,wE f b v0 v6 n];show _=cntN f v n+_;congr 1;by_cases e:f n=v
  .simp[e]
  .have:¬aR (f n)=aR v:=λz=>e (DP (b n).1 (b n).2 v0 v6 z);simp[this,e]
def DZ(ok:p.Ok)(x y:Int){v:Int}(v0:0<=v)(v6:v<=6)(n:Nat):(((cs (aL p x y n)).filter (·==aR v)).length:Int)=cntN (λk=>p.show (x+k) y) v n:=by
 rw[cY];exact wE _ (λk=>Pat.show_le ok.wf (by have:=ok.deep;lia) _ _) v0 v6 n
def D0(p:Pat)(x y:Int){r:Nat}(h:r<=n):Txt.slice (aL p x y n) v9 (be (r:Int))=aL p x y r:=by
 apply gB;rw[slice_cps,gE,cY,show(aL p x y n).cps.toList=_ from cY p x y n,cC];have e1:HT.sIx n 0 v9=0:=rfl;have e2:HT.sIx n n (be (r:Int))=r:=by show(if(r:Int)<0 then((r:Int)+n).toNat else min (r:Int).toNat n)=r;rw[if_neg KK];lia
 rw[e1,e2,JZ,Kq,<-Lk,Ll,Jz h]
def occC(t:LB)(c:Nat):Int:=((Builtin.Str.occurrences t #[[c].toArray] 0 t.length (t.length+1)).length:Nat)
def wF(ok:p.Ok)(x y:Int){v:Int}(v0:0<=v)(v6:v<=6)(n:Nat):occC (aL p x y n) (aR v)=cntN (λk=>p.show (x+k) y) v n:=by
 unfold occC;rw[DY,DZ ok x y v0 v6]
def cJ(p:Pat)(v left top:Int)(m n:Nat):Int:=sumN (λj=>cntN (λk=>p.show (left+k) (top+j)) v m) n
def cK(p:Pat)(left top:Int)(m n:Nat):List Int:=(HU 7).map λ(v:Nat)=>cJ p v left top m n
def D1:SpD:=λds R=>∃(p:Pat) (x y v m:Int) (w:Nat),ds=[.str (aL p x y w),.str #[[aR v].toArray],.int m]/\p.Ok/\0<=v/\v<=6/\0<w/\w<=720/\0<=m/\m<2^63/\p.Keeps w 0/\R (.int (cntN (λk=>p.show (x+k) y) v m.toNat))
def Pat.Fam.across(F:p.Fam w h s):p.Keeps w 0:=F.keeps (InF.one w h s)
def Pat.Fam.down(F:p.Fam w h s):p.Keeps 0 (w*h):=F.keeps #[-s,w,by rw[Kf,Iu w s];lia,rfl]
def D2(hN:0<N)(k:p.Keeps 0 N)(v left top:Int)(m n:Nat):sumN (λj=>(((n:Int)-1-j)/N+1)*cntN (λk=>p.show (left+k) (top+j)) v m) (min n N)=cJ p v left top m n:=by
 refine DU (g:=λj=>cntN (λk=>p.show (left+k) (top+j)) v m) hN (λj=>?_) n;unfold cntN;refine dU λi _=>?_;have e:p.show (left+i) (top+((j+N:Nat):Int))=p.show (left+i) (top+j):=by
  have:=k (left+i) (top+j);rw[JJ]at this;rw[<-this,JI,Kr]
 simp only[e]
def wG{α:Type}(f g:Nat->α)(h:∀v,v<n->v≠i->g v=f v):((HU n).map f).set i (g i)=(HU n).map g:=by
 apply Jp;intro k;rw[Je];by_cases hk:i=k
 .subst hk;simp only[if_true,HR,Kn];by_cases hi:i<n
  .simp[hi]
  .simp[hi]
 .rw[if_neg hk];by_cases hi:k<n
  .simp[hi,h k hi (Ne.symm hk)]
  .simp[hi]
def D3:bR ".123456"=(HU 7).map λ(v:Nat)=>D.str #[[aR (v:Int)].toArray]:=by
 unfold bR;rw[show(".123456":LB).cps.toList=[46,49,50,51,52,53,54]by decide+kernel];rfl
def ck(p:Pat)(left top:Int)(m n N k:Nat)(v:Int):Int:=sumN (λj=>(((n:Int)-1-j)/N+1)*cntN (λi=>p.show (left+i) (top+j)) v m) k
variable{top a_:Int}
def D4{W:Int}(hn:(a_-top+1).toNat=n)(wN:W=(N:Int)):((if top+W<a_+1 then top+W else a_+1)-top).toNat=min n N:=by split<;>lia
def D5{W:Int}(a:-1000000000000<=top/\top<=1000000000000)(c:-1000000000000<=a_/\a_<=1000000000000)(w0:0<W)(w1:W<=720):-(2^62)<=top/\top<2^62/\-(2^62)<=(if top+W<a_+1 then top+W else a_+1)/\(if top+W<a_+1 then top+W else a_+1)<2^62:=by split<;>lia
def D6(hn:(a_-top+1).toNat=n)(hk:k<min n N):a_-(top+k)=(n:Int)-1-k:=KK
def wH{l r:Int}{m:Nat}(a:-1000000000000<=l/\l<=1000000000000)(b:-1000000000000<=r/\r<=1000000000000)(h:(r-l+1).toNat=m):m<=2000000000001:=KK
def D7(x:Int):(if 0>x then 0 else x)=(x.toNat:Int):=by split<;>lia
def D8:SpX:=λds R RX=>∃(p:Pat) (d:D) (left top right a_:Int),ds=[d,.int left,.int top,.int right,.int a_]/\br p d/\p.Ok/\(bo left/\bo top/\bo right/\bo a_->R (.lst ((cK p left top (right-left+1).toNat (a_-top+1).toNat).map D.int)))/\(¬(bo left/\bo top/\bo right/\bo a_)->RX "TooFar" [])
structure Mv(p q:Pat)(b0 b1 b2 b3:Int):Prop where
 keeps:∀X Y,q.Keeps X Y↔p.Keeps (b0*X+b1*Y) (b2*X+b3*Y)
 leaf:∀l ls,p.leaves=l::ls->∃l' ls',q.leaves=l'::ls'/\l'.w0=l.w0*b0+l.w1*b2/\l'.w1=l.w0*b1+l.w1*b3/\l'.w2=l.w2*b0+l.w3*b2/\l'.w3=l.w2*b1+l.w3*b3
 area:∀w h s,p.Least w h s->∃w' h' s',q.Least w' h' s'/\w'*h'=w*h
structure Side(a w:Int)(A t:Nat):Prop where
 n:bo a
 A4:A<=4000000000000
 t1:t<=1000
 e:bo (a+A*w+t-1)
end My
end
section
open PySem PySem.Spec PyProof.Rows L2
namespace My
open Exc
section
variable {X:Cx}[J:Jm]{a b c e:U8}{ta tb te:TME}{pos:Vh}
def D9(hu:X.A.units+1<V6)(ha:ME X a ta)(hb:ME X b tb):ME X (.Compare a [.Eq] [b] pos) (mOp tO ta tb):=A3 (zV hu) zW ha hb (nomark _)
def mTru(te:TME):TMT:=λz M R=>te z M λd M1=>match d with|.bl k=>R k M1|_=>False
abbrev TMO:=SD->MS->(Option Int->MS->Prop)->Prop
def Ea:TMO:=λ_ M R=>R v9 M
def Eb(te:TME):TMO:=λz M R=>te z M λx M1=>match x with|.int i=>R (be i) M1|_=>False
def mO(K:Ex)[J:Jm](t:TMO):TO:=λs H Q=>∃F z M,Kept J.B J.F0 F H/\RepZ K J.B F H z s M/\∃R:Option Int->MS->Prop,t z M R/\∀o M' F' H',GrowM M M' F H F' H'->R o M'->RepM K F' H' M'->Q o H'
structure MPO(X:Cx)[Jm](e:Option U8)(t:TMO):Prop where
 out:PO X e (mO X.K t)
def wI:MPO X v9 Ea:=⟨PO.anti kB λs H Q q=>by
 obtain⟨F,z,M,k,rs,R,h1,h2⟩:=q;exact h2 v9 M F H (GrowM.refl k.fh) h1 rs.rm⟩
def wJ(he:ME X e te):MPO X (be e) (Eb te):=⟨PO.anti (kC he.out) λs H Q q=>by
 obtain⟨F,z,M,k,rs,R,h1,h2⟩:=q;refine#[F,z,M,k,rs,_,h1,λx u M1 F1 H1 g1 hx rx m1=>?_];split at hx
 .exact#[_,rep_int.mp rx,h2 _ M1 F1 H1 g1 hx m1]
 .exact hx.elim⟩
def mSl(ta:TME)(tl th:TMO):TME:=λz M R=>ta z M λx M1=>tl z M1 λlo M2=>th z M2 λhi M3=>rdSl x lo hi λd=>R d M3
def Ec{lo hi:Option U8}{tl th:TMO}{p2:Vh}(ha:ME X a ta)(hl:MPO X lo tl)(hu:MPO X hi th):ME X (.Subscript a (.Slice lo hi v9 p2) pos) (mSl ta tl th):=⟨(gW (SlR.or uz (SlR.or gX sA)) ha.out hl.out hu.out).anti λs H Q q=>by
 obtain⟨F,z,M,k,rs,R,h1,h2⟩:=q;refine#[F,z,M,k,rs,_,h1,λx u M1 F1 H1 g1 hx rx m1=>?_];have k1:=k.growM rs.mb g1;have r1:=rs.growM k.bh g1 m1;refine#[F1,z,M1,k1,r1,_,hx,λlo M2 F2 H2 g2 hy m2=>?_];refine#[F2,z,M2,k1.growM r1.mb g2,r1.growM k1.bh g2 m2,_,hy,λhi M3 F3 H3 g3 hw m3=>?_];have g:=g1.trans (g2.trans g3);have LR:=(rx.mono g2.ff).mono g3.ff;unfold rdSl at hw;split at hw
 .exact .inl #[_,rep_str.mp LR,H8 hw.1 Mx,h2 _ _ M3 F3 H3 g hw.2 (rep_str.mpr rfl) m3]
 .obtain⟨l,vs,rfl,hq,rr⟩:=rep_lst.mp LR;refine .inr (.inl #[l,vs,rfl,SqL.of (g3.fh _ _ hq),λp hp=>?_]);exact h2 _ _ M3 _ _ (g.trans (Grow.new g3.fh hp _).toM) hw (rep_lst.mpr #[p,_,rfl,aB,(rr.cut _ _).mono (aO (g3.fh.free hp) _)]) (m3.grow (Grow.new g3.fh hp _))
 .obtain⟨l,vs,rfl,hq,rr⟩:=rep_rol.mp LR;refine .inr (.inl #[l,vs,rfl,g3.fh.seq hq,λp hp=>?_]);exact h2 _ _ M3 _ _ (g.trans (Grow.new g3.fh hp _).toM) hw (rep_lst.mpr #[p,_,rfl,aB,(rr.cut _ _).mono (aO (g3.fh.free hp) _)]) (m3.grow (Grow.new g3.fh hp _))
 .obtain⟨l,vs,rfl,hq,rr⟩:=rep_tup_mp LR;refine .inr (.inr #[l,vs,rfl,g3.fh.tup hq,by rw[rr.length];exact hw.1,λp hp=>?_]);exact h2 _ _ M3 _ _ (g.trans (Grow.new g3.fh hp _).toM) hw.2 (rep_tupS.mpr #[p,_,rfl,aB,(rr.cut _ _).mono (aO (g3.fh.free hp) _)]) (m3.grow (Grow.new g3.fh hp _))
 .exact hw.elim⟩
end
end My
namespace Exc
open PySem PySem.Spec PyProof.Rows PySem.W L2
section
variable {prog:U'}{w:Va}{A:Vb}{E:Os->SB->Prop}{s:SB}{K:Ex}{x C dx:Pi}{ox:Vp}{cd:Wv}{name:LB}{v:Os}{vs:Array Os}{mA:LB->Option Os}{ns:List LB}
def Ed{Q:Unit->SB->Prop}(X:K.In s.heap)(hx:s.heap.get? x=be ox)(g9:ox.cls=.ref C)(z9:ox.data=.fields vs)(hd:ox.dict=be dx)(R1:s.heap.Ns1 dx mA)(hw:PySem.Within mA ns)(hz:ns.length<=1000)(hc:clsIn K C=be cd)(hm:aN cd.mro=true)(hh:cd.hasDict=true)
  (hs:findIn K (.ref C) "__setattr__"=be (be (.builtin "object.__setattr__"))) (hf:findIn K (.ref C) name=be v9)
  (h:∀h',h'.Ns1 dx (λy=>if y=name then be v else mA y)->Heap.SameBut dx s.heap h'->∀tk,Q () {s with heap:=h',toks:=tk}):
  U_ (U9 prog w) A (W0 (.ref x) name v) Q E s:=by
 have hn:notCls ox=true:=by unfold notCls;rw[z9]
 obtain⟨od,es,ep,Qb,Md⟩:=id R1;have I:InstAt s.heap x ox C (be od):=#[hx,g9,hn,by rw[hd];exact Qb];refine set_plain X I hs ?_;have SF:=PySem.F.store_object;have ne:cd.mro.isEmpty=false:=Qt
 have sub:Looks (U9 prog w) s.heap (V_ (.ref x) (.type "object")) true:=I.type.andThen (looks_mroIn X Ux);refine VO SF.slot.plain SF.entry (@check_slot (U9 prog w) _ _ _ "object.__setattr__" "object" "__setattr__" (.ref x) [.str name s.toks,v] [] _ SF.kind SF.split sub (SF.args (.ref x) (.str name s.toks) v) ?_);have Mz:Looks (U9 prog w) s.heap (mroOf (.ref C)) cd.mro:=(looks_clsIn X hc).andThen .now;rw[osa_eq,refuse_eq];refine P3 (P3 (I.type.here (s:={s with toks:=s.toks+1}) (P3 (Mz.here (s:={s with toks:=s.toks+1}) ?_))));rw[kH _ hm];refine SZ (P3 (I.type.here (s:={s with toks:=s.toks+1}) (P3 ((looks_findIn X hf).here (s:={s with toks:=s.toks+1}) (P3 (Looks.now.here (s:={s with toks:=s.toks+1}) ?_))))));obtain⟨oc,RH,RI,osl⟩:=ox;dsimp only at g9 hd z9;subst g9 hd z9;refine P3 (SZ (P3 (P3 (Wl hx (P3 ((looks_clsIn X hc).here (s:={s with toks:=s.toks+1}) ?_))))));rw[hh];rw[if_neg Mx];refine SZ ?_;show U_ _ _ (Builtin.ObjectAttr.storeInDict dx (.str name s.toks) name v) _ _ _;unfold Builtin.ObjectAttr.storeInDict Builtin.ObjectAttr.newKeyGuard;refine P3 (SZ (P3 (Ww R1 λh' g5 hs=>?_)));obtain⟨oD,Ry,Rz,NC,ND,NE⟩:=g5.count (PySem.Within.cons name v hw);refine P3 (Wd NC (by rw[ND];exact Wg (H8 NE (by rw[HX,VX];lia))) ?_);exact SZ (h h' g5 hs _)
end
end Exc
namespace My
open Exc
section
variable {X:Cx}[J:Jx]{x f:LB}{e:U8}{te:TD}{pos c5 p:Vh}{rest:List U7}{tr:TID}
def wK{β:Type}{y:LB}{z:β}:∀{ws:List (LB×β)},ws.lookup y=be z->y∈ws.map (·.1)
 |[],h=>nomatch h
 |(g,d)::ws,h=>by
  rw[Ig]at h;split at h
  .rename_i hg;rw[Il,show y=g by simpa using hg];exact HV
  .exact HS _ (wK h)
def Ee(f:LB)(te:TD)(tr:TID):TID:=λz fs R=>(fs≠[]/\fs.length<=100)/\te z λd=>tr z ((f,d)::fs) R
def Ef{sx:LB}{ps:Vh}(hA:∃C cd,ErrA X.K x C cd)(hf:∀C,nsIn X.K SL x=be (be (.ref C))->HW X.K (.ref C) f=be v9)(he:WDE X e te)(hr:WDX X x rest tr)(hN:autoParam (X.N[0]?=be sx) zA0)(hv:autoParam (Vis X.env.scope sx) zA5)(hd:autoParam (zND sx) zA1)
  (gt:autoParam (zNC sx) zA1) (hs:autoParam (Vn e (be (.Attribute (.Name sx ps) f c5)) pos.line X.env=pure false) zA0):WDX X x (.Assign [.Attribute (.Name sx ps) f c5] e pos::rest) (Ee f te tr):=⟨by
 have he:=he.out;have hr:=hr.out;obtain⟨C,cd,er⟩:=hA;have MJ:=hf C er.ns;have step:PS X (.Assign [.Attribute (.Name sx ps) f c5] e pos) (λE σ H=>∃e b ws,σ[0]?=be (be (.ref e))/\
   lE X.K te σ H (λv H1=>H1 e=be (XN e C (be b))/\H1 b=be (.xd ws)/\ws.length<=100/\E.nx σ (upd H1 b (.xd ((f,v)::ws))))):=by
  intro pins s σ H D I h;obtain⟨ea,b,ws,h0,h⟩:=h;refine VI (thn (he pins s σ H _ I h) λu s1 ⟨y,H1,I1,ry,t9,hb,hl,MI⟩=>thn (cP (i:=0) hN hv hd gt pins s1 σ H1 (λv H'=>v=.ref ea/\H'=H1) I1 #[.ref ea,h0,rfl,rfl]) λov s2 hh=>?_) hs;obtain⟨v0,H2,I2,r0,e1,e2⟩:=hh;subst e1 e2;obtain rfl:ov=Value.ref ea:=r0;obtain⟨t0,sl,j5⟩:=XN.get I2.hok t9;obtain⟨mA,hns,v_⟩:=(show ObjOk X.prog X.w H2 s2.heap b (.xd ws)from I2.hok b _ hb);have hw:PySem.Within mA (ws.map (·.1)):=λy' hy=>by
   have:=v_ y';cases hq:ws.lookup y' with
   |none=>
    rw[hq]at this;cases hm:mA y' with
    |none=>exact absurd hm hy
    |some z=>rw[hm]at this;exact this.elim
   |some z=>exact wK hq
  refine Ed (K:=X.K) (C:=C) (cd:=cd) I2.kIn j5 rfl rfl rfl hns hw (by rw[HR];lia) er.cl er.mro er.hd er.sa MJ λh' g1 g2 tk=>?_;obtain⟨od,es,ep,Qb,UK⟩:=id g1;have Qc:∀c,H2 c=v9->c≠b:=λc q z=>by rw[z,hb]at q;cases q
  have A':∀c o,H2 c=be o->(∀fs,o≠.xd fs)->upd H2 b (.xd ((f,y)::ws)) c=be o:=λc o q n=>by
   have n1:c≠b:=λz=>by rw[z,hb]at q;cases q;exact n _ rfl
   rw[ar n1];exact q
  refine#[σ,_,?_,MI];refine I2.un (h':=h') (t':=tk) #[λc o q n _ _=>(g2.2 c (Qc c n)).trans q,λc o q n _ _=>#[o.slots,(g2.2 c (Qc c n)).trans q],λc o q n _=>?_,λc o q _=>?_,λc xs q=>A' c _ q (λφ z=>nomatch z),λc o u q=>A' c _ q (λφ z=>nomatch z),λc ps q=>#[[].toArray,by rw[A' c _ q (λφ z=>nomatch z)];simp]] λa o q=>?_
  .rw[ar (Qc c n)];exact n
  .by_cases hc:c=b
   .rw[hc];exact#[od,Qb]
   .exact#[o,(g2.2 c hc).trans q]
  .by_cases hc:a=b
   .subst hc;rw[aB]at q;cases q;refine#[_,g1,λg=>?_];rw[Ig];by_cases hg:g=f
    .subst hg;simp;exact ry
    .have:(g==f)=false:=by simpa using hg
     rw[this,if_neg hg];exact v_ g
   .rw[ar hc]at q;refine(I2.hok a o q).stay (λc u gV r=>?_) (λc r=>A' c _ r (λφ z=>nomatch z)) λc xs r=>A' c _ r (λφ z=>nomatch z);refine(g2.2 c λz=>?_).trans r;rcases gV with e1|e1
    .exact hc (e1 ▸ z)
    .rw[z,hb]at e1;cases e1
 refine(eE step hr).anti λE s H q=>?_;obtain⟨C',a,od,ws,F,z,fs,hn,h0,e_,hB,i9,k,rs,rf,f6,R,⟨⟨j9,hl⟩,hR⟩,kk⟩:=q;rw[er.ns]at hn;cases hn;rcases f6 with⟨_,rfl⟩|⟨b,rfl,h1,h2,h3,h4,h5⟩
 .cases fs with
  |nil=>exact absurd rfl j9
  |cons c fs=>obtain⟨g,d⟩:=c;obtain⟨v,r,h,_⟩:=repf_cons.mp rf;cases h
 refine#[a,b,ws,h0,_,F,z,k,rs,_,hR,λd v F1 H1 g hx rv=>#[g.hh a _ e_,g.hh b _ h1,?_,?_]]
 .have:∀{fs:List (LB×D)} {ws:List (LB×V)},RepF X.K F fs ws->ws.length=fs.length:=λ{fs}=>by
   induction fs with
   |nil=>intro ws r;rw[repf_nil.mp r];rfl
   |cons c fs ih=>obtain⟨g,d⟩:=c;intro ws r;obtain⟨v,r',rfl,_,h⟩:=repf_cons.mp r;rw[HX,HX,ih h]
  rw[this rf];exact hl
 .have TK:=g.hh b _ h1;have MH:F1 b=none:=g.out b h3 (by rw[h1];exact λz=>nomatch z);have LO:F1 a=none:=g.out a i9 (by rw[e_];exact λz=>nomatch z);have k1:=k.grow g;have n5:=rs.grow g;have same:∀{G:Hp},G b=v9->Same G H1->Same G (upd H1 b (.xd ((f,v)::ws))):=λ{G} gb gs c o q=>by
   have n2:c≠b:=λz=>by rw[z,gb]at q;cases q
   rw[ar n2];exact gs c o q
  refine#[C,a,be b,(f,v)::ws,F1,z,(f,d)::fs,er.ns,h0,by rw[ar (Ne.symm h4)];exact g.hh a _ e_,hB,LO,#[same h2 k1.bh,same MH k1.fh,k1.f0,k1.out,k1.eb,k1.jf,k1.jo],?_,repf_cons.mpr #[v,ws,rfl,rv,RepF.mono g.ff fs ws rf],.inr #[b,rfl,aB,h2,MH,h4,λz=>nomatch z],R,hx,kk];refine#[n5.len,n5.val,λi ds e'=>?_,n5.apart];obtain⟨c,vs,q1,q2,q⟩:=n5.own i ds e';have n2:c≠b:=λz=>by rw[z,TK]at q2;cases q2
  exact#[c,vs,q1,by rw[ar n2];exact q2,q]⟩
end
def subM(N M:MS):Prop:=(∀e,e∈N->e∈M)/\(av N).Nodup
variable{M:MS}
def subM.keys{N:MS}(s:subM N M){a:Pi}(h:a∈av N):a∈av M:=by
 obtain⟨⟨b,o⟩,h1,rfl⟩:=Ir.mp h;exact bS (s.1 _ h1)
variable{H:Hp}
def RepM.sub{K:Ex}{F:Hp}{N:MS}(r:RepM K F H M)(s:subM N M):RepM K F H N:=#[s.2,λa o h=>r.ok a o (s.1 _ h),λa h=>r.fr a (s.keys h)]
def GrowM.sub{F F' H':Hp}{N M':MS}(g:GrowM M M' F H F' H')(s:subM N M'):GrowM M N F H F' H':=#[g.ff,g.fh,g.hh,g.out,λb h=>g.ks b (s.keys h)]
def gH(S:SpM):SpM:=λds M R RX=>∃(R0:D->MS->Prop) (LS:XDM),S ds M R0 LS/\R=(λd M'=>∃N,subM N M'/\R0 d N)/\RX=λx fs M'=>∃N,subM N M'/\LS x fs N
def wL{K:Ex}{S:SpM}{vs:List V}{Q:VK}{E:XK}(h:lSpM K S vs H Q E):lSpM K (gH S) vs H Q E:=by
 obtain⟨F,ds,M,fh,rs,rm,R,RX,hS,q,qx⟩:=h;refine#[F,ds,M,fh,rs,rm,_,_,#[R,RX,hS,rfl,rfl],λd v M' F' H' g hd rd m'=>?_,λx fs C od M' F' H' g hR er m'=>?_]
 .obtain⟨N,s,hd⟩:=hd;exact q d v N F' H' (g.sub s) hd rd (m'.sub s)
 .obtain⟨N,s,hR⟩:=hR;exact qx x fs C od N F' H' (g.sub s) hR er (m'.sub s)
section
variable {P:U'}{w:Va}{K:Ex}{mg:LB->Option Os}{base:Heap}{n:Nat}{x m:LB}{ps:List LB}{S:SpM}
def CalMth.drop(C:CalMth P w K mg base n x m ps (lSpM K (gH S))):CalMth P w K mg base n x m ps (lSpM K S):=C.imp λ_ _ _ _ h=>wL h
def CalMth.lendD{S:SpD}(C:CalMth P w K mg base n x m ps (lSp K S)):CalMth P w K mg base n x m ps (lSpM K (My.lend λds R _=>S ds R)):=C.imp λ_ _ _ _ h=>by
 obtain⟨F,ds,fh,rs,R,RX,hS,q,_⟩:=BQ h;exact#[F,ds,fh,rs,R,hS,q]
def Txm.okDW{qual:LB}{st:U7}{N:List LB}{k:Nat}{S:SpD}(T:Txm K x m qual st ps)(F:FnScope N ps (ah st))(len:∀ds R,S ds R->ds.length=ps.length)
  (a8:∀(f:Pi) (cdv:Os) (A:Vb) (outer:List VU) (s:SB) (H:Hp) (E:XK) (J:Jx),Room k (A.deeper (Vk qual (ah st) s.heap.objs.size f cdv))->
   ∃t,WDSs (cxOf (CX1 P w) P w K mg base N qual (ah st) f cdv A outer s H E).nox (aK st) t/\∀ds R,S ds R->t {nx:=λ_=>R .non,rt:=R} (startD N ds)):CalMth P w K mg base (k+1) x m ps (lSp K S):=by
 obtain⟨C,f,fd,h1,h2,h3,T,hb⟩:=T;exact#[C,f,fd,h1,h2,h3,L2.Fun.okDW T F len (a8 f),hb]
end
def iG(P:U')(w:Va)(K:Ex)(mg:LB->Option Os)(base:Heap)(n:Nat)(x m:LB)(ps:List LB)(dd:List D)(sp:Sp):Prop:=
 ∃C f fd f_ p8,nsIn K SL x=be (be (.ref C))/\Cls K C/\Meth K C m f/\FnOk P w K mg base (CX1 P w) n f fd ps sp/\Binds K fd ps p8/\Vals f_ p8/\∀F,Reps K F dd f_
section
variable {X:Cx}{k:Nat}{f:Pi}{fd:Vg}{ps:List LB}{sp:Sp}{E:XK}
def Eg{pins:List (Pi×Vp)}{σ:L2.St}{H:Hp}{s:SB}{Q:VK}{us p8:List Os}{vs f_:List V}(F:FnOk X.prog X.w X.K X.mg X.base (CX1 X.prog X.w) k f fd ps sp)(hr:Room k X.A)(hb:Binds X.K fd ps p8)(hd:Vals f_ p8)
  (hx:∀e s',CX1 X.prog X.w X.stack H s E e s'->X.xe e s') (I:Inv X pins σ H s) (r:Vals vs us) (h:sp (vs++f_) H Q E):U_ (U9 X.prog X.w) X.A (call (.ref f) us) (EP X pins σ Q) X.xe s:=by
 have r2:=r.append hd;have hl:(us++p8).length=ps.length:=by rw[<-L2.Vals.length r2];exact F.len _ _ _ _ h
 have gV:=hb s us I.kIn hl;refine VJ (VG (F.run X.A X.stack s H #[us,[]] (us++p8) (vs++f_) Q E hr I.env0 gV r2 h) λr s' hq=>?_);cases r with
 |error e=>exact hx e s' hq
 |ok fl=>
  cases fl with
  |ret u=>exact I.after hq
  |next=>exact False.elim hq
  |brk=>exact False.elim hq
  |cont=>exact False.elim hq
end
section
variable {X:Cx}[J:Jm]{a b c e o:U8}{ta tb te:TME}{pos p apos cpos:Vh}{n m:Nat}{ps:List LB}{S:SpM}{x:LB}{es:List U8}{t:TMA}
def Eh(x m:LB)(dd:List D)(S:SpM)(to:TME):TME:=λz M R=>to z M λd M1=>∃fs,du M1 d x fs/\fs.lookup m=v9/\S (d::dd) M1 R λx fs M'=>J.RM z M' x fs
def Ei{nm:LB}{dd:List D}{pl:WE Bool}(C:iG X.prog X.w X.K X.mg X.base n x nm ps dd (lSpM X.K S))(hx:XOkM X)(hr:Room m X.A)(ho:ME X o te)(d_:autoParam (X.ex=[]) zA0)(hn:autoParam (n<=m) zA1)
  (ht:Vf (.Call (.Attribute o nm apos) [] [] pos) X.env=(do
   let ov <-Vf o X.env
   VT apos.atName
   let (f,first) <-Vy [ov] (V8 ov nm pl)
   WL pos f first (VH pos (Vc [] X.env)) (V1 pos (VF [] X.env))):=by rfl):
  ME X (.Call (.Attribute o nm apos) [] [] pos) (Eh x nm dd S te):=by
 refine#[λpins s σ H Q I h=>?_];obtain⟨Fr,z,M,k,rs,R,h1,h2⟩:=h;refine methodCall_KW (pl:=pl) (thn (ho.out pins s σ H (λv H1=>∃d M1 F1,GrowM M M1 Fr H F1 H1/\Rep X.K F1 d v/\RepM X.K F1 H1 M1/\∃fs,du M1 d x fs/\fs.lookup nm=v9/\S (d::dd) M1 R λx fs M'=>J.RM z M' x fs) I #[Fr,z,M,k,rs,_,h1,λd v M1 F1 H1 g1 hd rd m1=>#[d,M1,F1,g1,rd,m1,hd]]) λu s1 hh=>?_) ht;obtain⟨v,H1,I1,rv,d,M1,F1,g1,rd,m1,fs,hi,hl,hq⟩:=hh;obtain⟨C',f,fd,f_,p8,hns,g9,Mc,F,hb,hd,TL⟩:=C;obtain⟨a,C2,dx,ws,rfl,n6,hH,rf⟩:=iu g1.fh m1 rd hi;rw[hns]at n6;cases n6;obtain rfl:u=Value.ref a:=rv;refine ky I1 hH g9 Mc (rf.none hl) ?_;refine callWith_K0 (first:=[.ref a]) I1.kIn Mc.kp (Eg (E:=EX X z σ) (us:=[.ref a]) (vs:=[.ref a]) F (hr.mono hn) hb hd (λe s' hq=>hx.out d_ I1 hq) I1 (.cons rfl .nil) ?_);exact iy k rs g1 m1 (reps_cons.mpr #[_,_,rfl,rd,TL F1]) hq h2
def Ej(ta tb:TME):TME:=λz M R=>ta z M λx M1=>tb z M1 λy M2=>kdP x λa=>kdP y λb=>∃ds es,mget M2 a=be (.lst ds)/\mget M2 b=be (.lst es)/\ds.length+es.length<=100000/\∀p,p∉av M2->R (.ptr p) ((p,.lst (ds++es))::M2)
def El(ha:ME X a ta)(hb:ME X b tb):ME X (.BinOp a .Add b pos) (Ej ta tb):=⟨(ki sJ ha.out hb.out).anti λs H Q h=>by
 obtain⟨F,z,M,k,rs,R,h1,h2⟩:=h;refine#[F,z,M,k,rs,_,h1,λx u M1 F1 H1 g1 hx rx m1=>?_];refine#[F1,z,M1,k.growM rs.mb g1,rs.growM k.bh g1 m1,_,hx,λy v M2 F2 H2 g2 hy ry m2=>?_];obtain⟨p,rfl,N2⟩:=kdP.of hy;obtain⟨q,rfl,ds,es,hm,Mz,hl,hR⟩:=kdP.of N2
 focus
  obtain⟨us,hH,ru⟩:=m2.ok _ _ (bu hm);obtain⟨vs,Qe,rv⟩:=m2.ok _ _ (bu Mz);refine#[p,q,us,vs,rep_ptr.mp rx,rep_ptr.mp ry,hH,Qe,by rw[ru.length,rv.length];exact H8 hl Mx,λr hr=>?_];exact h2 _ _ _ F2 _ ((g1.trans g2).trans (GrowM.new g2.fh hr)) (hR r λz=>m2.here z hr) (rep_ptr.mpr rfl) (m2.new g2.fh hr #[_,aB,ru.append rv])⟩
def mSlP(ta:TME)(tl th:TMO):TME:=λz M R=>ta z M λx M1=>tl z M1 λlo M2=>th z M2 λhi M3=>match x with|.ptr a=>∃ds,mget M3 a=be (.lst ds)/\∀p,p∉av M3->R (.ptr p) ((p,.lst (cutD ds lo hi))::M3)|_=>False
def Em{lo hi:Option U8}{tl th:TMO}{p2:Vh}(ha:ME X a ta)(hl:MPO X lo tl)(hu:MPO X hi th):ME X (.Subscript a (.Slice lo hi v9 p2) pos) (mSlP ta tl th):=⟨(gW gX ha.out hl.out hu.out).anti λs H Q q=>by
 obtain⟨F,z,M,k,rs,R,h1,h2⟩:=q;refine#[F,z,M,k,rs,_,h1,λx u M1 F1 H1 g1 hx rx m1=>?_];have k1:=k.growM rs.mb g1;have r1:=rs.growM k.bh g1 m1;refine#[F1,z,M1,k1,r1,_,hx,λlo M2 F2 H2 g2 hy m2=>?_];refine#[F2,z,M2,k1.growM r1.mb g2,r1.growM k1.bh g2 m2,_,hy,λhi M3 F3 H3 g3 hw m3=>?_];have g:=g1.trans (g2.trans g3);split at hw
 .rename_i l;obtain⟨ds,hm,hR⟩:=hw;obtain⟨us,hH,ru⟩:=m3.ok _ _ (bu hm);refine#[l,us,rep_ptr.mp rx,SqL.of hH,λr hr=>?_];exact h2 _ _ _ F3 _ (g.trans (GrowM.new g3.fh hr)) (hR r λz=>m3.here z hr) (rep_ptr.mpr rfl) (m3.new g3.fh hr #[_,aB,ru.cut _ _])
 .exact hw.elim⟩
def En(to:TME):TME:=λz M R=>to z M λo M1=>match o with|.ptr a=>∃ds d,mget M1 a=be (.lst ds)/\ds[ds.length-1]?=be d/\R d (mput M1 a (.lst ds.dropLast))|_=>False
def wM(ho:ME X o ta)(b7:autoParam (Ve o "pop" X.env (Vf o X.env)=Vf o X.env) zA0)(b_:autoParam ((apos.endLine==cpos.line)=true) zA0):ME X (.Call (.Attribute o "pop" apos) [] [] cpos) (En ta):=⟨(zb PySem.F.plainAttrs_list PySem.F.slot_list_pop PySem.F.type_list_pop zg ho.out b7 b_).anti λs H Q q=>by
 obtain⟨F,z,M,k,rs,R,h1,h2⟩:=q;refine#[F,z,M,k,rs,_,h1,λx u M1 F1 H1 g1 hx rx m1=>?_];split at hx
 .rename_i l;obtain⟨ds,d,hm,hl,hR⟩:=hx;obtain⟨us,hH,ru⟩:=m1.ok _ _ (bu hm);obtain⟨v,hv,rv⟩:=ru.get hl;rw[rep_ptr.mp rx];exact#[.inl #[rfl,us,SqL.of hH],l,us,v,rfl,rfl,hH,by rw[ru.length];exact hv,h2 _ _ _ F1 _ (g1.trans (GrowM.put g1.fh (m1.fr l (bS (bu hm))) hm)) hR rv (m1.put hm #[_,aB,ru.init])]
 .exact hx.elim⟩
end
abbrev SiM:=Pi->List D->(MS->Prop)->Prop
def lSiM(K:Ex)(C:Pi)(S:SiM):Sp:=λvs H Q _=>∃a dx us H1 F ds,vs=.ref a::us/\H=upd (upd H1 dx (.own a)) a (.ins C dx [])/\H1 a=v9/\H1 dx=v9/\dx≠a/\Same F H1/\Reps K F ds us/\
 ∃R:MS->Prop,S a ds R/\∀M' F' H',GrowM [] M' F H1 F' H'->R M'->RepM K F' H' M'->Q .non H'
def CalN(P:U')(w:Va)(K:Ex)(mg:LB->Option Os)(base:Heap)(n:Nat)(x:LB)(ps:List LB)(S:SiM):Prop:=
 ∃C f fd,nsIn K SL x=be (be (.ref C))/\mg x=be (.ref C)/\Mk K C f/\FnOk P w K mg base (Exc.CX1 P w) n f fd ps (lSiM K C S)/\Binds K fd ps []
section
variable {P:U'}{w:Va}{K:Ex}{mg:LB->Option Os}{base:Heap}
open Classical in
def Txi.okIN{x qual:LB}{st:U7}{N:List LB}{p0:LB}{ps:List LB}{k:Nat}{S:SiM}(T:Txi K mg x qual st (p0::ps))(F:FnScope N (p0::ps) (ah st))(len:∀a ds R,S a ds R->ds.length=ps.length)
  (a8:∀(f:Pi) (cdv:Os) (A:Vb) (outer:List VU) (s:SB) (H:Hp) (E:XK) (J:Jm),Room k (A.deeper (Vk qual (ah st) s.heap.objs.size f cdv))->XOkM (cxOf (CX1 P w) P w K mg base N qual (ah st) f cdv A outer s H E).nox->
   ∃t,MSs (cxOf (CX1 P w) P w K mg base N qual (ah st) f cdv A outer s H E).nox (aK st) t/\∀a ds R,(∀z M x fs,¬J.RM z M x fs)->S a ds R->t {nx:=λ_ M'=>R M',rt:=λ_ _=>False} (startD N (.ptr a::ds)) [(a,.ins x [])]):CalN P w K mg base (k+1) x (p0::ps) S:=by
 obtain⟨C,f,fd,hns,j_,mk,T,hb⟩:=T;refine#[C,f,fd,hns,j_,mk,Fun.okC T F (λvs H Q E h=>?_) (λcdv A outer s H vs Q E hr h=>?_),hb]
 .obtain⟨a,dx,us,H1,F,ds,rfl,_,_,_,_,_,rs,R,h,_⟩:=h;rw[HX,HX,rs.length,len a ds R h]
 .obtain⟨a,dx,us,H1,F1,ds,rfl,rfl,ha,o_,j9,fh,rs,R,h,q⟩:=h
  let H:Hp:=upd (upd H1 dx (.own a)) a (.ins C dx [])
  let B:Hp:=λb=>if b=a then v9 else H b
  have N5:B a=none:=if_pos rfl;have hB:∀{b:Pi},b≠a->B b=H b:=λ{b} h=>if_neg h;have m_:∀{b:Pi} {o:HO},H1 b=be o->b≠a/\H b=be o:=λ{b o} e=>by
   have n1:b≠a:=bH e ha;exact#[n1,by show upd _ _ _ b=_;rw[ar n1,ar (bH e o_)];exact e]
  letI:Jm:={B:=B,F0:=F1,RX:=λ_ _ _=>False,RM:=λ_ _ _ _=>False}
  have hx:XOkM (cxOf (CX1 P w) P w K mg base N qual (ah st) f cdv A outer s H E).nox:=λσ z M' F' H' s' e C od y fs I kk rr hR er _=>hR.elim;obtain⟨t,ht,hq⟩:=a8 f cdv A outer s H E inferInstance hr hx;have Fa:F1 a=none:=fh.free ha;have k0:Kept B F1 F1 H:=⟨λb o e=>by
   by_cases n:b=a
   .rw[n,N5]at e;cases e
   .rw[hB n]at e;exact e,λb o e=>(m_ (fh b o e)).2,Same.refl F1,λ_ h _=>h,rfl,Same.refl F1,λ_ h _=>h⟩
  have D':Reps K F1 (.ptr a::ds) (.ref a::us):=reps_cons.mpr #[_,_,rfl,rep_ptr.mpr rfl,rs];have P6:RepM K F1 H [(a,.ins x [])]:=⟨by simp[av],λb o hb=>by
   have e:=HN.mp hb;cases e;exact#[C,dx,[],hns,aB,repf_nil.mpr rfl],λb hb=>by
   have e:b=a:=by simpa[av]using hb
   rw[e];exact Fa⟩
  have r0:RepZ K B F1 H (startD N (.ptr a::ds)) (L2.start N (.ref a::us)) [(a,.ins x [])]:=⟨dJ D',lL D',P6,λb hb=>by
   have e:b=a:=by simpa[av]using hb
   rw[e];exact N5⟩
  refine#[_,ht.out.nox,F1,F1,_,_,k0,r0,_,hq a ds R (λ_ _ _ _ z=>z) h,#[λz' s' M' F' H' kk hn r=>?_,λd v M' F' H' kk hd rd PZ mb=>hd.elim,λ_ _ _ _ _ _ h _=>h.elim,λ_ _ _ _ _ _ h _=>h.elim]];refine q M' F' H' ⟨kk.f0,kk.fh,λb o _ e=>kk.bh b o (by show B b=be o;rw[hB (m_ e).1];exact(m_ e).2),λb _ h1 h2=>kk.out b h1 (by
   show B b≠v9;cases e:H1 b with
   |none=>exact absurd e h2
   |some o=>rw[hB (m_ e).1,(m_ e).2];exact λz=>nomatch z),λb hb=>?_⟩ hn r.rm
  cases e:H1 b with
  |none=>exact .inr rfl
  |some o=>
   have h0:B b=none:=r.mb b hb;rw[hB (m_ e).1,(m_ e).2]at h0;cases h0
end
section
variable {X:Cx}[J:Jm]{e:U8}{es:List U8}{pos p:Vh}{n m:Nat}{ps:List LB}{S:SiM}{x:LB}{t:TMA}
def Eo(S:SiM)(t:TMA):TME:=λz M R=>t z M λds M1=>∀a,a∉av M1->S a ds λM'=>R (.ptr a) (M'++M1)
def Ep(M:CalN X.prog X.w X.K X.mg X.base n x ps S)(hr:Room m X.A)(ha:MA X (e::es) t)(hg:autoParam (Gl X x) zA0)(hn:autoParam (n+1<=m) zA1)(d5:autoParam (zND x) zA1)
  (he:autoParam (zSE X e es) zA0) (c8:autoParam (zPL X pos es) zA0):
  ME X (.Call (.Name x p) (e::es) [] pos) (Eo S t):=by
 obtain⟨C,f,fd,hns,j_,mk,F,hb⟩:=M;refine#[(gU mk F (hr.mono hn) hg j_ hb .nil eL ha.out d5 he c8).anti λs H Q q=>?_];obtain⟨F,z,M,k,rs,R,h1,h2⟩:=q;refine#[F,z,M,k,rs,_,h1,λds vs M1 F1 H1 g1 hx rx m1=>?_];intro a dx ha o_ j9;have na:a∉av M1:=λz=>m1.here z ha;refine#[a,dx,vs,H1,F1,ds,by rw[IA],rfl,ha,o_,j9,g1.fh,rx,_,hx a na,λM' F' H' g hR m'=>#[rfl,?_]];have hh:∀b o,H1 b=be o->H' b=be o:=λb o e=>g.hh b o (λz=>nomatch z) e;have nk:∀b,b∈av M'->H1 b=none:=λb hb=>(g.ks b hb).elim (λz=>nomatch z) id;refine h2 (.ptr a) (.ref a) _ F' H' (g1.trans #[g.ff,g.fh,λb o _ e=>hh b o e,λb _=>g.out b (λz=>nomatch z),λb hb=>?_]) hR (rep_ptr.mpr rfl) #[?_,λb o hb=>?_,λb hb=>?_]
 .rcases keys_app.mp hb with z|z
  .exact .inr (nk b z)
  .exact .inl z
 .unfold av;rw[Ip];exact Jr.mpr #[m'.nd,m1.nd,λb h1 c h2 e=>m1.here (e ▸ h2) (nk b h1)]
 .rcases Iy.mp hb with z|z
  .exact m'.ok b o z
  .exact(m1.ok b o z).mono g.ff λo e=>hh b o e
 .rcases keys_app.mp hb with z|z
  .exact m'.fr b z
  .exact g.out b (λz=>nomatch z) (m1.fr b z) (m1.here z)
end
section
variable {K:Ex}{x m q:LB}{st:U7}{ps:List LB}
def MdIn(K:Ex)(x m q:LB)(st:U7)(i:Int):Prop:=∃C f fd T,NsC K x C/\Meth K C m f/\FunG K (.ref T) m q st f fd/\∃tc td n ts t,K.lookup T=be #[tc,td,.seq [.int i t].toArray n,ts]
def mdIn_mk{C f T:Pi}{i:Int}{oc tc:Os}{od an td:Option Pi}{sl ts:Array (Option Os)}{n:Nat}{t:W5}{kV dc pm cd ct:Os}(a:nsIn K SL x=be (be (.ref C)))(b:HW K (.ref C) m=be (be (.ref f)))(j:isFn K (.ref f)=true)(l:K.lookup f=be #[oc,od,.func (fnOf m q (bA st) (aK st) (ah st) (.ref T) kV dc pm an cd ct),sl])(c:codeIn K cd q=true)(k:keepIn K (.ref f)=true)
  (d:K.lookup T=be #[tc,td,.seq [.int i t].toArray n,ts]):MdIn K x m q st i:=#[C,f,_,T,a,#[b,j,k],#[#[_,_,_,_,_,_,_,_,_,rfl,l,c],k],_,_,_,_,_,d]
def Er(m q:LB)(st:U7)(x0 x1:LB):Prop:=∀(s:SB) (T:Pi) (o:Vp) (its:Array Os) (n:Nat) (v:Os) (kV doc pm:Os) (an:Option Pi) (cdv ct u0 u1:Os),s.heap.get? T=be o->o.data=.seq [v].toArray n->
 V3 s (fnOf m q (bA st) (aK st) (ah st) (.ref T) kV doc pm an cdv ct) #[[u0,u1],[]] [(x0,u0),(x1,u1)]/\V3 s (fnOf m q (bA st) (aK st) (ah st) (.ref T) kV doc pm an cdv ct) #[[u0],[]] [(x0,u0),(x1,v)]
def Txd(K:Ex)(x m qual:LB)(st:U7)(ps:List LB)(dd:List D):Prop:=
 ∃C f fd dV f_ p8,nsIn K SL x=be (be (.ref C))/\Cls K C/\Meth K C m f/\FunG K dV m qual st f fd/\Binds K fd ps []/\Binds K fd ps p8/\Vals f_ p8/\∀F,Reps K F dd f_
def MdIn.txd{i:Int}{x0 x1:LB}(T:MdIn K x m q st i)(c:ClIn K x)(b:Er m q st x0 x1):Txd K x m q st [x0,x1] [.int i]:=by
 obtain⟨C,k⟩:=c;obtain⟨D,f,fd,T,a,mt,F,tc,td,n,ts,t,hT⟩:=T;cases NsC.uniq k.ns a;have F':=F;obtain⟨oc,od,kV,doc,pm,an,cdv,ct,osl,rfl,lk,gt⟩:=F'.ex;refine#[C,f,_,_,[.int i],[.int i t],a,k.cl,mt,F,λs us hK hl=>?_,λs us hK hl=>?_,.cons #[t,rfl] .nil,λF=>reps_cons.mpr #[_,_,rfl,rep_int.mpr rfl,reps_nil.mpr rfl]]
 .rw[IA]at hl ⊢;obtain⟨u0,t0,rfl,h0⟩:=bq hl;obtain⟨u1,t1,rfl,h1⟩:=bq h0;cases len_0 h1;exact(b s T _ [].toArray n (.int i t) kV doc pm an cdv ct u0 u1 (hK _ _ hT) rfl).1
 .rw[Ia]at hl;have Ph:us.length=[x0].length:=Nat.succ.inj hl;obtain⟨u0,t0,rfl,h0⟩:=bq Ph;cases len_0 h0;exact(b s T _ [].toArray n (.int i t) kV doc pm an cdv ct u0 u0 (hK _ _ hT) rfl).2
end
section
variable {P:U'}{w:Va}{K:Ex}{mg:LB->Option Os}{base:Heap}
variable{N ps:List LB}{dd:List My.D}
def Txd.okM{x m qual:LB}{st:U7}{k:Nat}{S:SpM}(T:Txd K x m qual st ps dd)(F:FnScope N ps (ah st))(len:∀ds M R RX,S ds M R RX->ds.length=ps.length)
  (a8:∀(f:Pi) (cdv:Os) (A:Vb) (outer:List VU) (s:SB) (H:Hp) (E:XK) (J:Jm),Room k (A.deeper (Vk qual (ah st) s.heap.objs.size f cdv))->XOkM (cxOf (CX1 P w) P w K mg base N qual (ah st) f cdv A outer s H E)->
   ∃t,MSs (cxOf (CX1 P w) P w K mg base N qual (ah st) f cdv A outer s H E) (aK st) t/\∀ds M R RX,(∀z,J.RM z=λM' x fs=>RX x fs M')->S ds M R RX->t {nx:=λ_ M'=>R .non M',rt:=R} (startD N ds) M):CalMth P w K mg base (k+1) x m ps (lSpM K S)/\iG P w K mg base (k+1) x m ps dd (lSpM K S):=by
 obtain⟨C,f,fd,dV,f_,p8,h1,h2,h3,T,hb,gV,hv,hd⟩:=T;have ok:=Fun.okM (P:=P) (w:=w) (mg:=mg) (base:=base) T F len λcdv A outer s H E J hr hx=>a8 f cdv A outer s H E J hr hx;exact#[#[C,f,fd,h1,h2,h3,ok,hb],C,f,fd,f_,p8,h1,h2,h3,ok,gV,hv,hd]
def Txd.okMd{x m qual:LB}{st:U7}{k:Nat}{S:SpM}(T:Txd K x m qual st ps dd)(F:FnScope N ps (ah st))(len:∀ds M R RX,gH S ds M R RX->ds.length=ps.length)
  (a8:∀(f:Pi) (cdv:Os) (A:Vb) (outer:List VU) (s:SB) (H:Hp) (E:XK) (J:Jm),Room k (A.deeper (Vk qual (ah st) s.heap.objs.size f cdv))->XOkM (cxOf (CX1 P w) P w K mg base N qual (ah st) f cdv A outer s H E)->
   ∃t,MSs (cxOf (CX1 P w) P w K mg base N qual (ah st) f cdv A outer s H E) (aK st) t/\∀ds M R RX,(∀z,J.RM z=λM' x fs=>RX x fs M')->gH S ds M R RX->t {nx:=λ_ M'=>R .non M',rt:=R} (startD N ds) M):CalMth P w K mg base (k+1) x m ps (lSpM K S)/\iG P w K mg base (k+1) x m ps dd (lSpM K S):=by
 obtain⟨a,C,f,fd,f_,p8,h1,h2,h3,ok,hb,hv,hd⟩:=Txd.okM (S:=gH S) T F len a8;exact#[a.drop,C,f,fd,f_,p8,h1,h2,h3,ok.imp λ_ _ _ _ h=>wL h,hb,hv,hd]
def nilD(S:SpD):SpM:=λds M R _=>M=[]/\∃R0:D->Prop,S ds R0/\R=λd _=>R0 d
def Es{n:Nat}{f:Pi}{fd:Vg}{S:SpD}(F:FnOk P w K mg base (CX1 P w) n f fd ps (lSpM K (nilD S))):FnOk P w K mg base (CX1 P w) n f fd ps (lSp K S):=F.imp λvs H Q E q=>by
 obtain⟨F,ds,fh,rs,R,hS,q1⟩:=q;exact#[F,ds,[],fh,rs,RepM.nil,_,λ_ _ _=>False,#[rfl,R,hS,rfl],λd v M' F' H' g hd rd _=>q1 d v F' H' (growM_nil g) hd rd,λ_ _ _ _ _ _ _ _ z=>z.elim]
end
section
variable {X:Cx}[J:Jm]{a:U8}{ta:TME}{tA:TMT}{pos:Vh}
def dW(ha:ME X a ta)(he:autoParam (∀f7,isTrue a X.env f7=(do let v <-f7;VT a.pos;Vy [v] (truthy v))) zA3):MT X a (mTru ta):=⟨(rW ha.out he).anti λs H Q q=>by
 obtain⟨F,z,M,k,rs,R,h1,h2⟩:=q;refine#[F,z,M,k,rs,_,h1,λx u M1 F1 H1 g1 hx rx m1=>?_];split at hx
 .rw[rep_bl.mp rx];exact#[_,rfl,h2 _ M1 F1 H1 g1 hx m1]
 .exact hx.elim⟩
def mNot(tA:TMT):TMT:=λz M R=>tA z M λk M1=>R (!k) M1
def dX(ha:MT X a tA):MT X (.UnaryOp .Not a pos) (mNot tA):=⟨(rE ha.out).anti λs H Q q=>by
 obtain⟨F,z,M,k,rs,R,h1,h2⟩:=q;exact#[F,z,M,k,rs,_,h1,λk M1 F1 H1 g1 hx m1=>h2 _ M1 F1 H1 g1 hx m1]⟩
end
abbrev Bx.N(V:Bx)(n:Nat)(x:LB)(ps:List LB)(S:SiM):Prop:=CalN V.P V.w V.K V.mg V.base n x ps S
abbrev Bx.QD(V:Bx)(n:Nat)(x m:LB)(ps:List LB)(S:SpD):Prop:=CalMth V.P V.w V.K V.mg V.base n x m ps (lSp V.K S)
abbrev Bx.Qd(V:Bx)(n:Nat)(x m:LB)(ps:List LB)(dd:List My.D)(S:SpM):Prop:=iG V.P V.w V.K V.mg V.base n x m ps dd (lSpM V.K S)
abbrev Bx.Td(V:Bx)(x m q:LB)(st:U7)(ps:List LB)(dd:List My.D):Prop:=Txd V.K x m q st ps dd
section
variable {X:Cx}[J:Jm]{a b c e o:U8}{ta tb te:TME}{pos:Vh}
variable{p:Vh}
def Et{p2:Vh}{y:LB}{t:String}(hm:X.mg "isinstance"=v9)(Pk:X.mg y=v9)(ha:ME X a ta)(hv:Vo y=be (.type t))
  (hk:∀x:D,cT x=true->kitOne X.K (.type (tyD x)) (.type t)=be (cS t x)) (hg:autoParam (Gl X "isinstance") zA0) (Pl:autoParam (Gl X y) zA0) (hn:autoParam (y≠"__name__") zA1) (d5:autoParam (zND y) zA1)
  (l_:autoParam (Vc [a,.Name y p2] X.env=(false,Vf a X.env)::Vc [.Name y p2] X.env) zA0) (l8:autoParam (Vc [.Name y p2] X.env=(false,Vf (.Name y p2) X.env)::Vc [] X.env) zA0) (c8:autoParam ((VH pos (Vc [.Name y p2] X.env)).any (·.1)=false) zA0):ME X (.Call (.Name "isinstance" p) [a,.Name y p2] [] pos) (mUn (kU t) ta):=⟨(fP tL hg hm PyProof.Rows.boot_isinstance (bz ha.out (bz (rq (v:=.ty t) Pl Pk hv rfl hn d5) pa_nil l8) l_) Mx Mx l_ c8).anti λs H Q q=>by
 obtain⟨F,z,M,k,rs,R,h1,h2⟩:=q;refine#[F,z,M,k,rs,_,h1,λx u M1 F1 H1 g1 hx rx m1=>?_];have no:cT x=true/\R (.bl (cS t x)) M1:=by
  cases x with
  |obj C b=>exact False.elim hx
  |exc C b=>exact False.elim hx
  |ptr b=>exact False.elim hx
  |dti b=>exact False.elim hx
  |_=>exact#[rfl,hx]
 exact#[u,tyD x,t,_,rfl,tM g1.fh rx no.1,hk x no.1,h2 _ _ M1 F1 H1 g1 no.2 (rep_bl.mpr rfl) m1]⟩
def mItL(t:TME):TMI:=λz M R=>t z M λx M1=>match x with|.lst ds=>R ds M1|_=>False
def wO(i:Nat){x:LB}{body:List U7}{tb:TMS}(hp:Vr (U9 X.prog X.w) X.A X.env X.xe)(hc:X.calm=true)(hN:X.N.Nodup)(he:ME X e te)(hb:MSs X body tb)(hi:autoParam (X.N[i]?=be x) zA0)(hx:autoParam (Loc X.env.scope x) zA4)
  (hf:autoParam (zFN X x) zA2) (hs:autoParam (∀y,zFS X e y) zA3):MSt X (.For (.Name x p) e body [] pos) (mFor i (mItL te) tb):=⟨(cQ hp hc (kd he.out) (dI hN hi hx hf) hb.out hs).anti λE s H q=>by
 obtain⟨F0,F,z,M,kp,rs,ED,h,e⟩:=q;refine#[F,z,M,kp.kf,rs,_,h,λd v M1 F1 H1 g1 hd rd m1=>?_];split at hd
 .obtain⟨p,vs,rfl,hq,rr⟩:=rep_lst.mp rd;obtain⟨W,w0,c7,out⟩:=hd;refine#[p,rfl,#[vs,g1.fh.seq (SqL.of hq)],kg (K:=X.K) (a:=p) (xs:=vs) (λk s' H'=>∃F' z' M',Kept J.B F0 F' H'/\Same F1 F'/\RepZ X.K J.B F' H' z' s' M'/\W k z' M') #[F1,z,M1,kp.growM rs.mb g1,Same.refl F1,rs.growM kp.bh g1 m1,w0] (λk s' H' _ hh=>?_) ?_ ?_]
  .obtain⟨F',z',M',k',g',r',w'⟩:=hh;exact k'.fh.seq (g'.seq (SqL.of hq))
  .rintro k y s' H' hk⟨F',z',M',k',g',r',w'⟩;obtain⟨d,hd,ry⟩:=rr.get' hk;refine#[F',F',_,M',#[k'.bh,k'.fh,Same.refl F',λb h1 _=>h1,k'.eb,k'.jf.trans k'.f0,λb h1 h2=>k'.out b (k'.jo b h1 h2) h2],r'.set (ry.mono g'),_,c7 k d z' M' hd w',?_];have up:∀{F2 H2:Hp},Kept J.B F' F2 H2->Kept J.B F0 F2 H2:=λk2=>#[k2.bh,k2.fh,k'.f0.trans k2.f0,λb h1 h2=>k2.out b (k'.out b h1 h2) h2,k'.eb,k'.jf,k'.jo];exact#[λz3 s3 M3 F3 H3 k3 h3 r3=>#[F3,z3,M3,up k3,g'.trans k3.f0,r3,h3],λd v M3 F3 H3 k3=>e.rt d v M3 F3 H3 (up k3),λz3 s3 M3 F3 H3 k3=>e.nx z3 s3 M3 F3 H3 (up k3),λz3 s3 M3 F3 H3 k3 h3 r3=>#[F3,z3,M3,up k3,g'.trans k3.f0,r3,h3]]
  .rintro s' H'⟨F',z',M',k',g',r',w'⟩;exact e.nx z' s' M' F' H' k' (out z' M' (by rw[<-rr.length];exact w')) r'
 .exact hd.elim⟩
def Eu(is:List Nat)(te:TME):TMS:=λE z M=>te z M λx M1=>match x with|.tup ds=>ds.length=is.length/\E.nx (aY is ds z) M1|_=>False
def Ev{es:List U8}{k:Nat}{is:List Nat}(hc:X.calm=true)(he:ME X e te)(hg:DGs X es is)(hn:autoParam ((Vd es X.env).length=is.length) zA0)(k9:autoParam ((Vd es X.env).findIdx? (·.1)=none) zA0)
  (hs:autoParam (VB [.Tuple es k p] e pos.line X.env=pure false) zA0) (hw:autoParam (VC [.Tuple es k p] e X.env=pure none) zA0) (h1:autoParam ((Vd [.Tuple es k p] X.env).map (·.2)=[VL (.Tuple es k p) X.env]) zA0):MSt X (.Assign [.Tuple es k p] e pos) (Eu is te):=⟨by
 obtain⟨u,hu,kk⟩:=hg;refine(gQ he.out (fM hc hu hn k9) hs hw h1).anti λE s H q=>?_;obtain⟨F0,F,z,M,k,rs,ED,h,e⟩:=q;refine#[F,z,M,k.kf,rs,_,h,λd v M1 F1 H1 g hd rd m1=>?_];have r1:=rs.growM k.bh g m1;split at hd
 .obtain⟨p,vs,rfl,hq,rr⟩:=rep_tup_mp rd;exact#[p,vs,rfl,g.fh.tup hq,by rw[rr.length];exact hd.1,kk _ vs z s J.B F1 H1 _ hd.1 rr r1.rs λs' r'=>e.nx _ _ M1 F1 H1 (k.growM rs.mb g) hd.2 #[r',lM is _ _ z rr r1.no,m1,r1.mb]]
 .exact hd.elim⟩
end
end My
namespace My
section
variable {X:Cx}
def rNeT(K:Ex):R2:=λx y H Q=>∃a b xs ys,x=.ref a/\y=.ref b/\SqT K H a xs/\SqT K H b ys/\xs.all bE=true/\ys.all bE=true/\Q (.bl (!eqVs xs ys)) H
def Ew(hu:X.A.units+1<V6):OpR X (Vi .NotEq) (rNeT X.K):=by
 intro pins s σ H x y v u Q I rx ry h;obtain⟨a,b,xs,ys,rfl,rfl,ha,hb,fx,fy,q⟩:=h;cases rx;cases ry;obtain⟨its,r1,p1,_⟩:=I.tuple ha;obtain⟨i6,r2,p2,_⟩:=I.tuple hb;refine SeqAt.RcNeAt.tuples (e:=λj=>eqV (xs.getD j .non) (ys.getD j .non)) p1 p2 KK (λj h1 h2=>?_) _ _ _ _ #[.bl (!eqVs xs ys),H,I,?_,q]
 .rw[HY]at h1 h2;simp only[KJ];exact eqAt_V (Vals.getD r1 h1) (Vals.getD r2 h2) (flat_getD fx) (flat_getD fy)
 .rw[<-kW,HY,HY,<-L2.Vals.length r1,<-L2.Vals.length r2];rfl
def wP:RD2:=λx y R=>kdT x λxs=>kdT y λys=>(xs.all bD=true/\ys.all bD=true)/\R (.bl (!eqFs xs ys))
def Ey{K:Ex}:aV K (rNeT K) wP:=by
 intro x y u v F H R Q fh h rx ry q;obtain⟨xs,rfl,h2⟩:=kdT.of h;obtain⟨ys,rfl,⟨f1,f2⟩,h3⟩:=kdT.of h2;obtain⟨a,us,rfl,hq,rr⟩:=rep_tup_mp rx;obtain⟨b,vs,rfl,t7,w9⟩:=rep_tup_mp ry;exact#[a,b,us,vs,rfl,rfl,fh.tup hq,fh.tup t7,db rr f1,db w9 f2,q _ _ F H (Grow.refl fh) h3 (rep_bl.mpr (by rw[kX rr w9 f1 f2]))]
def Ez(K:Ex):R2:=λx y H Q=>∃a b xs,x=.ref a/\y=.ref b/\SqL K H a xs/\SqL K H b []/\Q (.bl (!xs.isEmpty)) H
def EA(hu:X.A.units<V6):OpR X (Vi .NotEq) (Ez X.K):=by
 intro pins s σ H x y v u Q I rx ry h;obtain⟨a,b,xs,rfl,rfl,ha,hb,q⟩:=h;cases rx;cases ry;obtain⟨its,r1,p1,_⟩:=I.list ha;obtain⟨i6,r2,p2,_⟩:=I.list hb;have e2:i6=[]:=JE (L2.Vals.length r2).symm;have e1:=L2.Vals.length r1;subst e2;cases xs with
 |nil=>
  have e3:its=[]:=JE e1.symm;subst e3;exact SeqAt.RcNeAt.lists (e:=λ_=>true) p1.isList p2.isList rfl hu (λj h1 _=>absurd h1 (JH j)) _ _ _ _ #[.bl false,H,I,rfl,q]
 |cons x xs=>
  refine SeqAt.RcNeAt.lists_lengths p1.isList p2.isList ?_ hu _ _ _ _ #[.bl true,H,I,rfl,q];rw[HY,HY,<-e1];rfl
variable {a b c e:U8}{ta tb:TD}{pos:Vh}
def EB[Jx](hu:X.A.units+1<V6)(ha:WDE X a ta)(hb:WDE X b tb):WDT X (.Compare a [.NotEq] [b] pos) (dTst (dOp wP ta tb)):=#[have ha:=ha.out;have hb:=hb.out;cR (Ew hu) Ey ha hb (nomark _)]
end
section
variable {X:Cx}[J:Jm]{a b c e:U8}{ta tb te:TME}{pos p2:Vh}
def EC(ta:TME):TMT:=λz M R=>ta z M λx M1=>match x with|.ptr a=>∃ds,mget M1 a=be (.lst ds)/\R (!ds.isEmpty) M1|_=>False
def EE(hu:X.A.units+1<V6)(ha:ME X a ta):MT X (.Compare a [.NotEq] [.List [] p2] pos) (EC ta):=⟨(kq (EA KK) ha.out (fo (pos:=p2) aZ).out (nomark _)).anti λs H Q q=>by
 obtain⟨F,z,M,k,rs,R,h1,h2⟩:=q;refine#[F,z,M,k,rs,_,h1,λx u M1 F1 H1 g1 hx rx m1=>?_];split at hx
 .rename_i p;obtain⟨ds,hm,hR⟩:=hx;refine#[F1,z,M1,k.growM rs.mb g1,rs.growM k.bh g1 m1,λy M2=>∃p',p'∉av M1/\y=.ptr p'/\M2=(p',.lst [])::M1,#[Mx,λp' hp=>#[p',hp,rfl,rfl]],λy v M2 F2 H2 g2 hy ry m2=>?_];obtain⟨p',hp,rfl,rfl⟩:=hy;obtain⟨us,hH,ru⟩:=m2.ok _ _ (HS _ (bu hm));obtain⟨vs,Qe,rv⟩:=m2.ok _ _ HV;have ev:=reps_nil.mp rv;subst ev;have e3:us.isEmpty=ds.isEmpty:=by have:=ru.length;cases us<;>cases ds<;>simp at this ⊢
  exact#[p,p',us,rep_ptr.mp rx,rep_ptr.mp ry,SqL.of hH,SqL.of Qe,#[_,rfl,h2 _ _ F2 H2 (g1.trans #[g2.ff,g2.fh,g2.hh,g2.out,λb h=>.inl h]) (by rw[e3];exact hR) #[(IL.mp m2.nd).2,λb o hb=>m2.ok b o (HS _ hb),λb hb=>m2.fr b (HS _ hb)]]]
 .exact hx.elim⟩
end
end My
end
section
namespace My
local macro_rules | `(tactic| k_memK) => `(tactic| exact⟨rfl, rfl, rfl, by decide +kernel, rfl, by decide +kernel, by decide +kernel⟩)
local macro_rules | `(tactic| k_places) => `(tactic| try simp only[Ij, Im, My.aY])
open PySem PySem.Spec PyProof.Rows L2
def top(i:Nat):Stmt:=PySem.Challenge.pw_motiffield_k32_undo.main.body.getD i (.Pass #[0,0,0,0])
abbrev mo:U7:=top 58
abbrev mv:List Str:=["_law_script","_law_k"]
def EF:FnScope ["_law_script","_law_k"] mv (ah mo):=NB
abbrev mx:U7:=top 60
abbrev my:List Str:=["_law_script","_law_k","_law_many"]
def sc__law_draws:FnScope ["_law_script","_law_k","_law_many","_law_left","_law_drawn","_law_turn","_law_seed"] my (ah mx):=NB
abbrev mz:U7:=top 63
abbrev mB:List Str:=["_law_draws_here"]
def sc__law_lines:FnScope ["_law_draws_here","_law_wide","_law_tall","_law_signs","_law_lines_here","_law_j","_law_line","_law_i","_law_place","_law_value"] mB (ah mz):=NB
abbrev mC:U7:=top 61
abbrev mD:List Str:=["_law_draws_here"]
def sc__law_shift_pair:FnScope ["_law_draws_here","_law_a","_law_b","_law_c","_law_d"] mD (ah mC):=NB
abbrev mF:U7:=top 62
abbrev mG:List Str:=["_law_lines_here","_law_one","_law_two"]
def sc__law_motif_text:FnScope ["_law_lines_here","_law_one","_law_two","_law_tail"] mG (ah mF):=NB
abbrev mH:U7:=top 64
abbrev mI:List Str:=["_law_script","_law_k"]
def sc__law_motif:FnScope ["_law_script","_law_k","_law_draws_here","_law_lines_here","_law_one","_law_two","_law_leaf"] mI (ah mH):=NB
abbrev iH:U7:=top 65
abbrev mJ:List Str:=["_law_part","_law_draw"]
def sc__law_wrapped:FnScope ["_law_part","_law_draw","_law_across","_law_down","_law_old","_law_new","_law_shift","_law_head","_law_ways","_law_by","_law_leaves","_law_leaf","_law_a","_law_b","_law_c","_law_d","_law_e","_law_f","_law_way","_law_hues"] mJ (ah iH):=NB
abbrev mK:U7:=top 69
abbrev mL:List Str:=["_law_a","_law_b"]
def sc__law_gcd:FnScope ["_law_a","_law_b"] mL (ah mK):=NB
abbrev mM:U7:=top 66
abbrev mN:List Str:=["_law_one","_law_two","_law_u","_law_v"]
def sc__law_on:FnScope ["_law_one","_law_two","_law_u","_law_v","_law_size"] mN (ah mM):=NB
abbrev mQ:U7:=top 71
abbrev mR:List Str:=["_law_leaf"]
def sc__law_leaf_family:FnScope ["_law_leaf","_law_a","_law_b","_law_c","_law_d","_law_e","_law_f","_law_one","_law_two","_law_high","_law_wide","_law_lean"] mR (ah mQ):=NB
abbrev mU:U7:=top 70
abbrev mV:List Str:=["_law_three","_law_x","_law_y"]
def EG:FnScope ["_law_three","_law_x","_law_y"] mV (ah mU):=NB
abbrev mW:U7:=top 72
abbrev mY:List Str:=["_law_one","_law_two"]
def sc__law_both:FnScope ["_law_one","_law_two","_law_wide","_law_high","_law_x"] mY (ah mW):=NB
abbrev mZ:U7:=top 73
abbrev ng:List Str:=["_law_leaves"]
def sc__law_family:FnScope ["_law_leaves","_law_both_here","_law_leaf"] ng (ah mZ):=NB
abbrev nj:U7:=top 74
abbrev nq:List Str:=["_law_upper","_law_lower"]
def sc__law_over:FnScope ["_law_upper","_law_lower","_law_leaves"] nq (ah nj):=NB
abbrev nt:U7:=top 75
abbrev nu:List Str:=["_law_script","_law_k"]
def sc__law_pattern:FnScope ["_law_script","_law_k","_law_plan","_law_part","_law_turn","_law_step","_law_other"] nu (ah nt):=NB
abbrev nv:U7:=top 77
abbrev nw:List Str:=["_law_part","_law_kind"]
def sc__law_shifted_home:FnScope ["_law_part","_law_kind","_law_three","_law_across","_law_down"] nw (ah nv):=NB
abbrev ny:U7:=top 76
abbrev nz:List Str:=["_law_part","_law_place","_law_sign"]
def sc__law_respelled:FnScope ["_law_part","_law_place","_law_sign","_law_first","_law_wide","_law_j","_law_i","_law_lines_here","_law_spot","_law_text"] nz (ah ny):=NB
abbrev nA:U7:=top 78
abbrev nB:List Str:=["_law_part","_law_script","_law_k","_law_draw"]
def sc__law_twin:FnScope ["_law_part","_law_script","_law_k","_law_draw","_law_kind"] nB (ah nA):=NB
abbrev nC:U7:=top 67
abbrev nD:List Str:=["_law_leaf","_law_x","_law_y"]
def sc__law_leaf_shows:FnScope ["_law_leaf","_law_x","_law_y","_law_way","_law_u","_law_v","_law_j","_law_i"] nD (ah nC):=NB
abbrev nE:U7:=top 68
abbrev nF:List Str:=["_law_leaves","_law_x","_law_y"]
def sc__law_shows:FnScope ["_law_leaves","_law_x","_law_y","_law_leaf","_law_hue"] nF (ah nE):=NB
abbrev iI:U7:=top 81
abbrev nG:List Str:=["_law_leaves","_law_wide","_law_high"]
def sc__law_floor_rows:FnScope ["_law_leaves","_law_wide","_law_high","_law_lines_here","_law_y"] nG (ah iI):=NB
abbrev nH:U7:=aP (top 56) 1
abbrev nI:List Str:=["self","word"]
def EH:FnScope ["self","word"] nI (ah nH):=NB
abbrev nJ:U7:=top 31
abbrev nK:List Str:=["x","y"]
def EI:FnScope ["x","y"] nK (ah nJ):=NB
abbrev nM:U7:=top 13
abbrev nN:List Str:=["family","x","y"]
def sc_home:FnScope ["family","x","y","width","height","slant"] nN (ah nM):=NB
abbrev iJ:U7:=aP (top 20) 2
abbrev cD:List Str:=["self","x","y"]
def EJ:FnScope ["self","x","y"] cD (ah iJ):=NB
abbrev iK:U7:=aP (top 21) 2
abbrev iL:List Str:=["self","x","y"]
def sc_Over_shows:FnScope ["self","x","y","hue"] iL (ah iK):=NB
abbrev iM:U7:=aP (top 22) 2
abbrev iN:List Str:=["self","x","y"]
def EK:FnScope ["self","x","y"] iN (ah iM):=NB
abbrev iO:U7:=aP (top 23) 2
abbrev iP:List Str:=["self","x","y"]
def EL:FnScope ["self","x","y"] iP (ah iO):=NB
abbrev iQ:U7:=aP (top 24) 2
abbrev iR:List Str:=["self","x","y"]
def EM:FnScope ["self","x","y"] iR (ah iQ):=NB
abbrev iS:U7:=aP (top 25) 2
abbrev iT:List Str:=["self","x","y"]
def sc_Rehue_shows:FnScope ["self","x","y","hue"] iT (ah iS):=NB
abbrev nO:U7:=top 32
abbrev nP:List Str:=["pattern","x","y"]
def EN:FnScope ["pattern","x","y"] nP (ah nO):=NB
abbrev iU:U7:=top 33
abbrev nQ:List Str:=["pattern","x","y","many"]
def EO:FnScope ["pattern","x","y","many"] nQ (ah iU):=NB
abbrev iV:U7:=aP (top 56) 7
abbrev nR:List Str:=["self"]
def EQ:FnScope ["self"] nR (ah iV):=NB
abbrev nS:U7:=aP (top 56) 3
abbrev iW:List Str:=["self","many"]
def sc_Floor_lay:FnScope ["self","many","ahead"] iW (ah nS):=NB
abbrev nU:U7:=top 84
abbrev nV:List Str:=["_law_floor","_law_many","_law_bare"]
def sc__law_lay:FnScope ["_law_floor","_law_many","_law_bare","_law_found","_law_refused"] nV (ah nU):=NB
abbrev nW:U7:=top 87
abbrev nX:List Str:=["_law_laid","_law_lines_here"]
def sc__law_parted:FnScope ["_law_laid","_law_lines_here","_law_y","_law_x"] nX (ah nW):=NB
abbrev nY:U7:=aP (top 44) 1
abbrev nZ:List Str:=["self","allowed"]
def ER:FnScope ["self","allowed"] nZ (ah nY):=NB
abbrev oa:U7:=aP (top 44) 2
abbrev og:List Str:=["self","allowed"]
def sc_Reading_take:FnScope ["self","allowed","sign"] og (ah oa):=NB
abbrev oh:U7:=top 47
abbrev oi:List Str:=["reading","least","most"]
def sc_line_from:FnScope ["reading","least","most","line","column"] oi (ah oh):=NB
abbrev oj:U7:=top 48
abbrev ol:List Str:=["reading"]
def sc_lines_from:FnScope ["reading","lines","width"] ol (ah oj):=NB
abbrev om:U7:=top 45
abbrev oq:List Str:=["reading"]
def sc_number_from:FnScope ["reading","written"] oq (ah om):=NB
abbrev ot:U7:=top 46
abbrev ou:List Str:=["reading"]
def sc_shift_from:FnScope ["reading","x"] ou (ah ot):=NB
abbrev ow:U7:=top 10
abbrev oy:List Str:=["first","second"]
def sc_levelled:FnScope ["first","second","times","rest"] oy (ah ow):=NB
abbrev oz:U7:=top 12
abbrev oA:List Str:=["first","second"]
def sc_spread:FnScope ["first","second","pair","width"] oA (ah oz):=NB
abbrev oB:U7:=top 19
abbrev oC:List Str:=["lines","family"]
def sc_hues_by_home:FnScope ["lines","family","hues","row","line","column","sign"] oC (ah oB):=NB
abbrev oE:U7:=aP (top 20) 0
abbrev oF:List Str:=["self","place","lines","first","second"]
def ES:FnScope ["self","place","lines","first","second"] oF (ah oE):=NB
abbrev oG:U7:=top 49
abbrev oH:List Str:=["reading"]
def sc_motif_from:FnScope ["reading","place","lines","first","second"] oH (ah oG):=NB
abbrev oI:U7:=aP (top 23) 0
abbrev oJ:List Str:=["self","form"]
def ET:FnScope ["self","form"] oJ (ah oI):=NB
abbrev oK:U7:=aP (top 24) 0
abbrev oM:List Str:=["self","form"]
def EU:FnScope ["self","form"] oM (ah oK):=NB
abbrev oN:U7:=aP (top 21) 0
abbrev oO:List Str:=["self","above","below"]
def EV:FnScope ["self","above","below"] oO (ah oN):=NB
abbrev oP:U7:=aP (top 22) 0
abbrev oQ:List Str:=["self","form","x","y"]
def EW:FnScope ["self","form","x","y"] oQ (ah oP):=NB
abbrev oR:U7:=aP (top 25) 0
abbrev oS:List Str:=["self","form","old","new"]
def EY:FnScope ["self","form","old","new"] oS (ah oR):=NB
abbrev iX:U7:=top 50
abbrev gI:List Str:=["reading","around"]
def sc_over_from:FnScope ["reading","around","above","below"] gI (ah iX):=NB
abbrev iY:U7:=top 51
abbrev gJ:List Str:=["reading","around"]
def sc_shifted_from:FnScope ["reading","around","shift"] gJ (ah iY):=NB
abbrev iZ:U7:=top 52
abbrev gK:List Str:=["reading","around"]
def sc_rehue_from:FnScope ["reading","around","old","new"] gK (ah iZ):=NB
abbrev ja:U7:=top 53
abbrev cL:List Str:=["reading","around"]
def sc_form_from:FnScope ["reading","around","sign"] cL (ah ja):=NB
abbrev oU:U7:=aP (top 44) 0
abbrev oV:List Str:=["self","text"]
def EZ:FnScope ["self","text"] oV (ah oU):=NB
abbrev oW:U7:=aP (top 43) 0
abbrev oX:List Str:=["self","text","shifts","form"]
def E1:FnScope ["self","text","shifts","form"] oX (ah oW):=NB
abbrev oY:U7:=top 11
abbrev oZ:List Str:=["one","two"]
def sc_measure:FnScope ["one","two","last"] oZ (ah oY):=NB
abbrev pd:U7:=top 14
abbrev pe:List Str:=["one","two"]
def sc_met:FnScope ["one","two","common","width","rise","start","gap","climbs","steps"] pe (ah pd):=NB
abbrev pf:U7:=top 15
abbrev ph:List Str:=["family"]
def E2:FnScope ["family"] ph (ah pf):=NB
abbrev pi:U7:=top 16
abbrev pj:List Str:=["family"]
def E3:FnScope ["family"] pj (ah pi):=NB
abbrev jb:U7:=aP (top 20) 1
abbrev cE:List Str:=["self"]
def E4:FnScope ["self"] cE (ah jb):=NB
abbrev jc:U7:=aP (top 21) 1
abbrev jd:List Str:=["self"]
def sc_Over_family:FnScope ["self","first"] jd (ah jc):=NB
abbrev je:U7:=aP (top 22) 1
abbrev jg:List Str:=["self"]
def E5:FnScope ["self"] jg (ah je):=NB
abbrev jh:U7:=aP (top 23) 1
abbrev ji:List Str:=["self"]
def E6:FnScope ["self"] ji (ah jh):=NB
abbrev jj:U7:=aP (top 24) 1
abbrev jk:List Str:=["self"]
def E7:FnScope ["self"] jk (ah jj):=NB
abbrev jl:U7:=aP (top 25) 1
abbrev jn:List Str:=["self"]
def E8:FnScope ["self"] jn (ah jl):=NB
abbrev pk:U7:=top 54
abbrev pq:List Str:=["text"]
def sc_read:FnScope ["text","reading","form","family"] pq (ah pk):=NB
abbrev pr:U7:=top 37
abbrev pv:List Str:=["one","two","width","height"]
def sc_first_unlike:FnScope ["one","two","width","height","y","x"] pv (ah pr):=NB
abbrev pw:U7:=aP (top 7) 0
abbrev pz:List Str:=["self","x","y"]
def E9:FnScope ["self","x","y"] pz (ah pw):=NB
abbrev pA:U7:=aP (top 56) 2
abbrev pB:List Str:=["self","pattern"]
def Fb:FnScope ["self","pattern"] pB (ah pA):=NB
abbrev pC:U7:=aP (top 56) 4
abbrev pD:List Str:=["self","text"]
def sc_Floor_change:FnScope ["self","text","pattern","cell"] pD (ah pC):=NB
abbrev pE:U7:=top 85
abbrev pF:List Str:=["_law_floor","_law_text"]
def sc__law_change:FnScope ["_law_floor","_law_text","_law_found","_law_e"] pF (ah pE):=NB
abbrev pG:U7:=top 88
abbrev pH:List Str:=["_law_floor","_law_draw","_law_state","_law_size","_law_both_here"]
def sc__law_deed:FnScope ["_law_floor","_law_draw","_law_state","_law_size","_law_both_here","_law_text","_law_lines_here","_law_laid","_law_many","_law_other","_law_fits"] pH (ah pG):=NB
abbrev pI:U7:=aP (top 56) 5
abbrev pJ:List Str:=["self"]
def sc_Floor_undo:FnScope ["self","deed"] pJ (ah pI):=NB
abbrev pK:U7:=top 86
abbrev pL:List Str:=["_law_floor"]
def sc__law_undo:FnScope ["_law_floor","_law_found"] pL (ah pK):=NB
abbrev pM:U7:=top 59
abbrev pN:List Str:=["_law_found"]
def Fc:FnScope ["_law_found"] pN (ah pM):=NB
abbrev pO:U7:=top 80
abbrev pP:List Str:=["_law_found","_law_due"]
def sc__law_texts:FnScope ["_law_found","_law_due","_law_k"] pP (ah pO):=NB
abbrev pQ:U7:=top 79
abbrev pR:List Str:=["_law_found","_law_due"]
def sc__law_seven:FnScope ["_law_found","_law_due","_law_k"] pR (ah pQ):=NB
abbrev pS:U7:=top 82
abbrev pT:List Str:=["_law_lines_here"]
def sc__law_counts:FnScope ["_law_lines_here","_law_found","_law_line","_law_sign"] pT (ah pS):=NB
abbrev jp:U7:=top 34
abbrev pU:List Str:=["pattern"]
def Fd:FnScope ["pattern"] pU (ah jp):=NB
abbrev pV:U7:=top 35
abbrev pW:List Str:=["family","rows","x","y"]
def sc_round_row:FnScope ["family","rows","x","y","cell","row"] pW (ah pV):=NB
abbrev pX:U7:=top 39
abbrev pY:List Str:=["row","sign","many"]
def Fe:FnScope ["row","sign","many"] pY (ah pX):=NB
abbrev jq:U7:=top 40
abbrev pZ:List Str:=["pattern","left","top","right","bottom"]
def sc_count_all:FnScope ["pattern","left","top","right","bottom","family","rows","many","again","counts","y","times","row","hue","sign"] pZ (ah jq):=NB
abbrev qc:U7:=aP (top 56) 8
abbrev qd:List Str:=["self"]
def Ff:FnScope ["self"] qd (ah qc):=NB
abbrev qe:U7:=aP (top 56) 9
abbrev qf:List Str:=["self"]
def Fg:FnScope ["self"] qf (ah qe):=NB
abbrev qg:U7:=aP (top 56) 6
abbrev qh:List Str:=["self"]
def Fh:FnScope ["self"] qh (ah qg):=NB
abbrev qi:U7:=top 83
abbrev qj:List Str:=["_law_floor","_law_text","_law_size","_law_laid","_law_rest","_law_many"]
def sc__law_view:FnScope ["_law_floor","_law_text","_law_size","_law_laid","_law_rest","_law_many","_law_found"] qj (ah qi):=NB
abbrev qk:U7:=aP (top 56) 0
abbrev ql:List Str:=["self","text","width","height"]
def Fi:FnScope ["self","text","width","height"] ql (ah qk):=NB
abbrev jr:U7:=top 89
abbrev qm:List Str:=["_law_script"]
def sc_law:FnScope ["_law_script","_law_part","_law_twin_here","_law_size","_law_both_here","_law_one","_law_floor","_law_state","_law_past","_law_draw","_law_step","_law_turn","_law_found","_law_word","_law_text","_law_lines_here","_law_laid"] qm (ah jr):=NB
variable{c i:Nat}
def atC{t:LB}:StrLaws.At t #[[c].toArray] t.length i↔(cs t)[i]?=be c:=by
 have e:Builtin.Str.subAt t #[[c].toArray] i=(((cs t).drop i).take 1==[c]):=StrLaws.subAt_eq t #[[c].toArray] i;have e2:((cs t).drop i).take 1=[c]↔(cs t)[i]?=be c:=by
  rw[List.take_one,List.head?_drop];cases(cs t)[i]?<;>simp
 unfold StrLaws.At;rw[e,beq_iff_eq,e2];refine#[λh=>h.2,λh=>#[?_,h]];have:=(Ib.mp h).1;rw[bn]at this;exact this
variable{A B:List Nat}
def Fj{t:LB}(ht:cs t=A++c::B)(no:c∉A):∃i rest,Builtin.Str.occurrences t #[[c].toArray] 0 t.length 1=i::rest/\i=A.length:=by
 have a0:StrLaws.At t #[[c].toArray] t.length A.length:=atC.mpr (by rw[ht,IT (HP _),Nat.sub_self];rfl);rcases StrLaws.occ_head t #[[c].toArray] 1 (HP _)with⟨_,h⟩|⟨i,r,e,h1,h2⟩
 .exact absurd a0 (h _)
 .refine#[i,r,e,?_];rcases Nat.lt_trichotomy i A.length with q|q|q
  .have:=atC.mp h1;rw[ht,IG q]at this;exact absurd (IU this) no
  .exact q
  .exact absurd a0 (h2 _ q)
def gL(x:List Nat){l:List (List Nat)}(h:l≠[]):rowsL (x::l)=x++47::rowsL l:=by
 cases l with
 |nil=>exact absurd rfl h
 |cons y r=>rfl
def Fk{w:Nat}(hi:i<w):∀(L:List (List Nat)) (j:Nat) (h:j<L.length),(∀x∈L,x.length=w)->rowsL (L.set j (L[j].set i c))=(rowsL L).set (j*(w+1)+i) c:=by
 intro L;induction L with
 |nil=>intro j h;exact absurd h (JH j)
 |cons x L ih=>
  intro j h hw;have xw:=hw x HV;by_cases e:L=[]
  .subst e;have:j=0:=by simp at h;lia
   subst this;simp[rowsL]
  .cases j with
   |zero=>
    show rowsL (x.set i c::L)=_;rw[gL _ e,gL _ e,Nat.zero_mul,Ko,Lm _ _ KK]
   |succ j=>
    have h':j<L.length:=Nat.lt_of_succ_lt_succ h;show rowsL (x::L.set j (L[j].set i c))=_;rw[gL _ (λz=>e (by have:=congrArg JA z;simpa using this)),gL _ e,ih j h' (λy hy=>hw y (HS _ hy))];rw[Ln _ _ (by rw[xw,JF];lia),xw,show(j+1)*(w+1)+i-w=(j*(w+1)+i)+1 by rw[JF];lia];rfl
def js{a:Int}(h:B12 a):91∉numL a:=by
 have hs:=numL_is h;intro hy;unfold isNumL at hs;rcases hs with⟨c,h1,h2⟩|⟨c,h1,h2⟩|⟨c,h1,h2⟩|⟨c,h1,h2⟩<;>rw[h2]at hy<;>simp at hy<;>lia
structure Pat.Re(p:Pat)(A B:List Nat)(l:Leaf)(ls:List Leaf):Prop where
 leaves:p.leaves=l::ls
 no:91∉A
 tl:p.tl=A++91::(rowsL (l.rows.map cs)++B)
 rows:Rows l.rows
 re:∀L':List LB,Rows L'->∃q:Pat,q.leaves={l with rows:=L'}::ls/\q.tl=A++91::(rowsL (L'.map cs)++B)/\q.depth=p.depth/\(∀x y,q.Lat x y↔p.Lat x y)/\q.Wf
def Pat.re_ex:∀{p:Pat},p.Wf->∃A B l ls,p.Re A B l ls:=by
 intro p;induction p with
 |mot L a b c d=>
  intro h;exact#[[],_,_,[],rfl,Jw,rfl,h.1,λL' h'=>#[.mot L' a b c d,rfl,rfl,rfl,λx y=>Iff.rfl,h',h.2]]
 |over p q TM UL=>
  intro h;obtain⟨A,B,l,ls,r⟩:=TM h.1;refine#[40::A,B++124::(q.tl++[41]),l,ls++q.leaves,by rw[Pat.leaves,r.leaves];rfl,λz=>?_,by rw[Pat.tl,r.tl];simp,r.rows,λL' h'=>?_]
  .rcases HQ.mp z with z|z
   .exact absurd z Mx
   .exact r.no z
  .obtain⟨p',e1,e2,e3,e4,e5⟩:=r.re L' h';exact#[.over p' q,by rw[Pat.leaves,e1];rfl,by rw[Pat.tl,e2];simp,by rw[Pat.depth,Pat.depth,e3],λx y=>by simp only[Pat.Lat,e4],e5,h.2]
 |sh a b p ih=>
  intro h;obtain⟨A,B,l,ls,r⟩:=ih h.2.2;refine#[115::(numL a++44::(numL b++58::A)),B,l.by 1 0 0 1 (-a) (-b),ls.map λl=>l.by 1 0 0 1 (-a) (-b),by rw[Pat.leaves,r.leaves];rfl,λz=>?_,by rw[Pat.tl,r.tl];simp[Leaf.by],r.rows,λL' h'=>?_]
  .have n1:=js h.1;have n2:=js h.2.1;have n3:=r.no;simp[n1,n2,n3]at z
  .obtain⟨p',e1,e2,e3,e4,e5⟩:=r.re L' h';exact#[.sh a b p',by rw[Pat.leaves,e1];rfl,by rw[Pat.tl,e2];simp,by rw[Pat.depth,Pat.depth,e3],λx y=>by simp only[Pat.Lat,e4],h.1,h.2.1,e5]
 |mir p ih=>
  intro h;obtain⟨A,B,l,ls,r⟩:=ih h;refine#[109::A,B,l.by (-1) 0 0 1 0 0,ls.map λl=>l.by (-1) 0 0 1 0 0,by rw[Pat.leaves,r.leaves];rfl,λz=>?_,by rw[Pat.tl,r.tl];rfl,r.rows,λL' h'=>?_]
  .rcases HQ.mp z with z|z
   .exact absurd z Mx
   .exact r.no z
  .obtain⟨p',e1,e2,e3,e4,e5⟩:=r.re L' h';exact#[.mir p',by rw[Pat.leaves,e1];rfl,by rw[Pat.tl,e2];rfl,by rw[Pat.depth,Pat.depth,e3],λx y=>by simp only[Pat.Lat,e4],e5]
 |tur p ih=>
  intro h;obtain⟨A,B,l,ls,r⟩:=ih h;refine#[116::A,B,l.by 0 1 (-1) 0 0 0,ls.map λl=>l.by 0 1 (-1) 0 0 0,by rw[Pat.leaves,r.leaves];rfl,λz=>?_,by rw[Pat.tl,r.tl];rfl,r.rows,λL' h'=>?_]
  .rcases HQ.mp z with z|z
   .exact absurd z Mx
   .exact r.no z
  .obtain⟨p',e1,e2,e3,e4,e5⟩:=r.re L' h';exact#[.tur p',by rw[Pat.leaves,e1];rfl,by rw[Pat.tl,e2];rfl,by rw[Pat.depth,Pat.depth,e3],λx y=>by simp only[Pat.Lat,e4],e5]
 |hue f g p ih=>
  intro h;obtain⟨A,B,l,ls,r⟩:=ih h.2.2;refine#[104::(numL f++(numL g++A)),B,(l.by 1 0 0 1 0 0).dye f g,ls.map λl=>(l.by 1 0 0 1 0 0).dye f g,by rw[Pat.leaves,r.leaves];rfl,λz=>?_,by rw[Pat.tl,r.tl];simp[Leaf.by,Leaf.dye],r.rows,λL' h'=>?_]
  .have h1:1<=f/\f<=6:=h.1;have h2:1<=g/\g<=6:=h.2.1;have n1:=js (a:=f) #[KK,KK];have n2:=js (a:=g) #[KK,KK];have n3:=r.no;simp[n1,n2,n3]at z
  .obtain⟨p',e1,e2,e3,e4,e5⟩:=r.re L' h';exact#[.hue f g p',by rw[Pat.leaves,e1];rfl,by rw[Pat.tl,e2];simp,by rw[Pat.depth,Pat.depth,e3],λx y=>by simp only[Pat.Lat,e4],h.1,h.2.1,e5]
def Fo{w:Nat}:∀(L:List (List Nat)),L≠[]->(∀x∈L,x.length=w)->(rowsL L).length+1=L.length*(w+1):=by
 intro L;induction L with
 |nil=>intro h;exact absurd rfl h
 |cons x L ih=>
  intro _ hw;have xw:=hw x HV;by_cases e:L=[]
  .subst e;show x.length+1=1*(w+1);lia
  .have:=ih e λy hy=>hw y (HS _ hy);rw[gL _ e,Ia,HX,HX,JF];lia
variable{k:Nat}
def wQ{y:LB}(h:k<y.length):cs ((Txt.slice y v9 (be (k:Int))++#[[c].toArray])++Txt.slice y (be ((k:Int)+1)) v9)=(cs y).set k c:=by
 have e1:HT.sIx y.length y.length (be (k:Int))=k:=by rw[HT.sIx_nat];lia
 have e2:HT.sIx y.length 0 (be ((k:Int)+1))=k+1:=by
  have:=HT.sIx_nat y.length 0 (k+1);rw[show((k:Int)+1)=(((k+1:Nat)):Int)by lia,this];lia
 rw[bG,bG,slice_cps,slice_cps,e1,e2,HT.sIx_none,HT.sIx_none,Kq,JZ,List.set_eq_take_append_cons_drop,if_pos (by rw[bn];exact h)];show((cs y).take k++[c])++(Jf (k+1) (cs y)).take (y.length-(k+1))=_;rw[Jg (l:=Jf (k+1) (cs y)) (by rw[Jd,bn];lia),IQ];rfl
variable{p:Pat}
def Pat.Re.put{l:Leaf}{ls:List Leaf}(r:p.Re A B l ls)(ok:p.Ok){w j:Nat}(hw:∀s∈l.rows,s.length=w)(hj:j<l.rows.length)(hi:i<w)(hc:bg c){s':LB}(hs:cs s'=(cs l.rows[j]).set i c):∃q:Pat,q.Ok/\q.depth=p.depth/\q.leaves={l with rows:=l.rows.set j s'}::ls/\A.length+1+j*(w+1)+i<p.text.length/\∀t':LB,cs t'=(cs p.text).set (A.length+1+j*(w+1)+i) c->t'=q.text:=by
 obtain⟨m,w',w8,hr⟩:=r.rows;have lj:=hr l.rows[j] (Ix hj);have hL:Rows (l.rows.set j s'):=by
  refine#[by rw[IH];exact m,w',w8,λs Mb=>?_];rcases Lo Mb with q|q
  .exact hr s q
  .subst q;refine#[by rw[<-bn,hs,IH,bn];exact lj.1,λd hd=>?_];rw[hs]at hd;rcases Lo hd with q|q
   .exact lj.2 d q
   .rw[q];exact hc
 obtain⟨q,e1,e2,e3,e4,e5⟩:=r.re _ hL;obtain⟨fw,fh,fs,F,fb⟩:=ok.fits;refine#[q,#[e5,by rw[e3];exact ok.deep,fw,fh,fs,#[F.f,λx y=>(F.lat x y).trans (e4 x y).symm],fb],e3,e1,?_];have lw:∀x∈l.rows.map cs,x.length=w:=λx hx=>by
  obtain⟨s,q1,q2⟩:=Ir.mp hx;rw[<-q2,bn];exact hw s q1
 have jm:j<(l.rows.map cs).length:=by rw[HR];exact hj
 have key:=Fk (c:=c) hi (l.rows.map cs) j jm lw;have e6:(l.rows.set j s').map cs=(l.rows.map cs).set j ((l.rows.map cs)[j].set i c):=by rw[Lp,hs,List.getElem_map]
 have ll:j*(w+1)+i<(rowsL (l.rows.map cs)).length:=by
  have h1:=Fo (l.rows.map cs) (λz=>by rw[z]at jm;exact absurd jm (JH j)) lw;have h2:=KS (w+1) (show j+1<=(l.rows.map cs).length from jm);rw[JF]at h2;lia
 refine#[?_,λt' ht=>?_]
 .rw[<-bn,cr,r.tl,Ia,HX,Ia];lia
 apply gB;rw[ht,cr,cr,e2,e6,key,r.tl];rw[Ln _ _ KK,show A.length+1+j*(w+1)+i-A.length=(j*(w+1)+i)+1 by lia,Ij,Lm _ _ ll]
def wR{q:Pat}{R:D->Prop}(k1:p.Ok)(k2:q.Ok)(h:∀q:Pat,q.Ok->R q.D):vY [p.D,q.D] R:=#[p,q,rfl,k1.wf,k2.wf,k1.deep,k2.deep,h _ k1,λa b Qf=>h _ #[#[k1.wf,k2.wf],by simp only[Pat.depth];omega,Qf]]
def Fp(x:Int):∃c,atI (cs ".123456") (x%7)=be c/\bg c:=by
 rcases(KK:x%7=0\/x%7=1\/x%7=2\/x%7=3\/x%7=4\/x%7=5\/x%7=6)with e|e|e|e|e|e|e<;>rw[e]
 .exact#[46,Mt,.inl rfl]
 .exact#[49,Mt,.inr KK]
 .exact#[50,Mt,.inr KK]
 .exact#[51,Mt,.inr KK]
 .exact#[52,Mt,.inr KK]
 .exact#[53,Mt,.inr KK]
 .exact#[54,Mt,.inr KK]
structure ComF(p q:Pat)(w h s:Int):Prop where
 f:Fam0 w h s
 lat:∀x y,InF w h s x y↔p.Keeps x y/\q.Keeps x y
def nown(z:SD):Bool:=z.all λo=>match o with|some (.own _)=>false|_=>true
def NoOwn.of{z:SD}(h:nown z=true):NoOwn z:=λi ds e=>by
 have:=IN.mp h _ (IU e);cases this
structure Deed where
 w:LB
 p:Pat
 d:D
 l:Int
def Deed.D(e:Deed):My.D:=.tup [.str e.w,e.d,.int e.l]
structure Fl where
 p:Pat
 d:D
 w:Int
 h:Int
 l:Int
 ds:List Deed
def Fl.fs(f:Fl)(q:Pi):List (LB×D):=[("pattern",f.d),("text",.str f.p.text),("width",.int f.w),("height",.int f.h),("laid",.int f.l),("deeds",.ptr q)]
def Fl.M(f:Fl)(a q:Pi):MS:=[(q,.lst (f.ds.map Deed.D)),(a,.ins "Floor" (f.fs q))]
variable{a:Pi}{o:MO}
def dY{p:Pi}{M:MS}(h:p≠a):mget ((p,o)::M) a=mget M a:=if_neg h
def cF{M:MS}:mget ((a,o)::M) a=be o:=if_pos rfl
def dZ{p:Pi}{o':MO}{M:MS}(h:p≠a):mput ((p,o)::M) a o'=(p,o)::mput M a o':=if_neg h
def cM{o':MO}{M:MS}:mput ((a,o)::M) a o'=(a,o')::M:=if_pos rfl
variable{q:Pi}{f:Fl}
def Fl.ma(h:a≠q):mget (f.M a q) a=be (.ins "Floor" (f.fs q)):=(dY (Ne.symm h)).trans cF
def Fl.mq:mget (f.M a q) q=be (.lst (f.ds.map Deed.D)):=cF
def Fl.put(h:a≠q):mput (f.M a q) a o=[(q,.lst (f.ds.map Deed.D)),(a,o)]:=(dZ (Ne.symm h)).trans (congrArg _ cM)
def gM:(f.fs q).lookup ("pattern":LB)=be f.d:=rfl
def wS:(f.fs q).lookup ("text":LB)=be (.str f.p.text):=rfl
def fJ:(f.fs q).lookup ("width":LB)=be (.int f.w):=rfl
def jt:(f.fs q).lookup ("height":LB)=be (.int f.h):=rfl
def eg:(f.fs q).lookup ("laid":LB)=be (.int f.l):=rfl
def ju:(f.fs q).lookup ("deeds":LB)=be (.ptr q):=rfl
structure Fl.Ok(f:Fl):Prop where
 is:br f.p f.d
 ok:f.p.Ok
 w1:1<=f.w
 w2:f.w<=30
 h1:1<=f.h
 h2:f.h<=30
 l0:0<=f.l
 l1:f.l<=f.h
 de:f.ds.length<=20
 dd:∀e∈f.ds,br e.p e.d/\e.p.Ok/\0<=e.l/\e.l<=f.h
def Fl.keep(f:Fl)(w:LB):Fl:={f with ds:=(f.ds++[Deed.mk w f.p f.d f.l]).drop (f.ds.length+1-20)}
def Fl.lay(f:Fl)(n:Int):Fl:={f.keep "lay" with l:=f.l+n}
def Fl.stand(f:Fl)(p:Pat)(d:D):Fl:={f with p:=p,d:=d}
def subM.refl{M:MS}(h:(av M).Nodup):subM M M:=#[λ_ h=>h,h]
def Fl.nd(h:a≠q):(av (f.M a q)).Nodup:=by
 show[q,a].Nodup;simp[Ne.symm h]
def Fl.sub(h:a≠q):subM (f.M a q) (f.M a q):=subM.refl (Fl.nd h)
def Fq(xs:List D):cutD xs (be (-20)) v9=xs.drop (xs.length-20):=by
 have e:HT.sIx xs.length 0 (be (-20))=xs.length-20:=by
  unfold HT.sIx;simp;lia
 unfold cutD;rw[e,show HT.sIx xs.length xs.length v9=xs.length from rfl];exact Jg MD
def aC(p:Pat)(w lo:Int)(n:Nat):List D:=(HU n).map λ(j:Nat)=>D.str (aL p 0 (lo+(j:Int)) w.toNat)
def qo(p:Pat)(w lo:Int)(n:Nat):aC p w lo n++[D.str (aL p 0 (lo+(n:Int)) w.toNat)]=aC p w lo (n+1):=by
 unfold aC;rw[JC,Ip];rfl
def Fs(p:Pat)(w lo:Int)(n:Nat):cq (.lst (aC p w lo n))=true:=by
 unfold cq;induction n with
 |zero=>rfl
 |succ n ih=>
  rw[<-qo];have:∀xs:List D,flats xs=true->flats (xs++[D.str (aL p 0 (lo+(n:Int)) w.toNat)])=true:=λxs=>by
   induction xs with
   |nil=>intro _;rfl
   |cons x xs ih=>intro h;unfold flats at h;rw[Iw]at h;show flats (x::(xs++_))=true;unfold flats;rw[h.1,ih h.2];rfl
  exact this _ ih
def wT(p:Pat)(w:Int){l:Int}(n:Nat)(l0:0<=l):cutD (aC p w 0 (l.toNat+n)) (be l) v9=aC p w l n:=by
 have hl:(aC p w 0 (l.toNat+n)).length=l.toNat+n:=by unfold aC;simp
 have e:HT.sIx (l.toNat+n) 0 (be l)=l.toNat:=by
  unfold HT.sIx;simp only;rw[if_neg KK];lia
 unfold cutD;rw[hl,e,show HT.sIx (l.toNat+n) (l.toNat+n) v9=l.toNat+n from rfl];unfold aC;apply Jp;intro i;by_cases h:i<n
 .rw[J4 KK,Lf,H9,H9,IR KK,IR h];simp;congr 1;lia
 .rw[ID Uw,ID Uw]
def dF(p q:Pat)(w h:Int):Prop:=∀x y:Int,0<=x->x<w->0<=y->y<h->p.show x y=q.show x y
def First2(p q:Pat)(w h x y:Int):Prop:=(0<=x/\x<w/\0<=y/\y<h)/\p.show x y≠q.show x y/\∀x' y':Int,0<=x'->x'<w->0<=y'->(y'<y\/(y'=y/\x'<x))->p.show x' y'=q.show x' y'
def due7(p:Pat)(left top:Int)(m:Nat)(n k:Nat):List Int:=(HU 7).map λ(v:Nat)=>cJ p v left top m n+cntN (λi=>p.show (left+i) (top+n)) v k
def Ft(ok:p.Ok)(left top:Int)(m n k:Nat):∃u:Nat,u<7/\p.show (left+k) (top+n)=(u:Int)/\(due7 p left top m n k)[u]?=be (cJ p u left top m n+cntN (λi=>p.show (left+i) (top+n)) u k)/\((due7 p left top m n k).map D.int).set u (D.int (cJ p u left top m n+cntN (λi=>p.show (left+i) (top+n)) u k+1))=(due7 p left top m n (k+1)).map D.int:=by
 have b:=Pat.show_le ok.wf (by have:=ok.deep;lia) (left+k) (top+n);obtain⟨u,hu⟩:∃u:Nat,p.show (left+k) (top+n)=(u:Int):=#[(p.show (left+k) (top+n)).toNat,KK];have u7:u<7:=KK
 have cs:∀v:Int,cntN (λi=>p.show (left+i) (top+n)) v (k+1)=cntN (λi=>p.show (left+i) (top+n)) v k+if p.show (left+k) (top+n)=v then 1 else 0:=λv=>rfl
 refine#[u,u7,hu,by unfold due7;simp[u7],?_];unfold due7;rw[JG,JG];have:=wG (n:=7) (i:=u) (λ(v:Nat)=>D.int (cJ p v left top m n+cntN (λi=>p.show (left+i) (top+n)) v k)) (λ(v:Nat)=>D.int (cJ p v left top m n+cntN (λi=>p.show (left+i) (top+n)) v (k+1))) (λv hv ne=>by
  show D.int _=D.int _;rw[cs,hu,if_neg KK,JJ])
 refine Eq.trans ?_ this;show List.set _ u _=List.set _ u _;rw[cs,hu,if_pos rfl,Kr];rfl
def Fu(p:Pat)(left top:Int)(m n:Nat):due7 p left top m n m=due7 p left top m (n+1) 0:=by
 unfold due7;apply JD;intro v _;show _=(cJ p v left top m n+_)+0;rw[JJ]
def Fv(p:Pat)(left top:Int)(m n:Nat):due7 p left top m n 0=cK p left top m n:=by
 unfold due7 cK;apply JD;intro v _;show _+0=_;rw[JJ]
variable{w lo:Int}{n:Nat}
def Fw{v:D}(h:(aC p w lo n)[k]?=be v):k<n/\v=.str (aL p 0 (lo+(k:Int)) w.toNat):=by
 have hk:k<n:=by have:=(Ib.mp h).1;unfold aC at this;simpa using this
 unfold aC at h;simp[hk]at h;exact#[hk,h.symm]
def Fx{h:Int}(h0:0<=h)(h6:h<=6):aR h<128:=by unfold aR;split<;>lia
def Fy(ok:p.Ok)(x y:Int)(n:Nat):(aL p x y n).cps.all (·<128)=true:=by
 rw[<-Ka,IN];intro c hc;have hc:c∈cs (aL p x y n):=hc;rw[cY]at hc;obtain⟨k,_,rfl⟩:=Ir.mp hc;have b:=Pat.show_le ok.wf (by have:=ok.deep;lia) (x+(k:Int)) y;exact decide_eq_true (Fx b.1 b.2)
variable{y:Int}
def Fz{v:D}(h:(bR (aL p 0 y n))[k]?=be v):k<n/\v=.str #[[aR (p.show (0+(k:Int)) y)].toArray]:=by
 unfold bR at h;have hk:k<n:=by have:=(Ib.mp h).1;rwa [HR,show(aL p 0 y n).cps.toList.length=n by show(cs (aL p 0 y n)).length=n;rw[cY];simp]at this
 rw[H9,show(aL p 0 y n).cps.toList=(HU n).map λ(k:Nat)=>aR (p.show (0+(k:Int)) y)from cY p 0 y n]at h;simp[hk]at h;exact#[hk,by rw[<-h,Jy]]
def FA{u:Nat}(h:u<7):∃rest,Builtin.Str.occurrences ".123456" #[[aR (u:Int)].toArray] 0 (".123456":LB).length 1=u::rest:=by
 rcases(KK:u=0\/u=1\/u=2\/u=3\/u=4\/u=5\/u=6)with e|e|e|e|e|e|e<;>subst e<;>exact#[[],Mt]
def qp(h:k<n):atI (aC p w lo n) (k:Int)=be (.str (aL p 0 (lo+(k:Int)) w.toNat)):=bI (by unfold aC;simp[h])
def wU(h:k<n):atI (cs (aL p 0 y n)) (k:Int)=be (aR (p.show k y)):=bI (by rw[cY];simp[h])
def wV(h:k<=n):cutD (aC p w lo n) v9 (be (k:Int))=aC p w lo k:=by
 have hl:(aC p w lo n).length=n:=by unfold aC;simp
 have e:HT.sIx n n (be (k:Int))=k:=by
  unfold HT.sIx;simp only;rw[if_neg KK];lia
 unfold cutD;rw[hl,e,show HT.sIx n 0 v9=0 from rfl,JZ];unfold aC;rw[<-Lk,Ll,Kq,Jz h]
def FC{a b:Int}(a0:0<=a)(b0:0<=b)(h:aR a=aR b):a=b:=by
 unfold aR at h;split at h<;>split at h<;>lia
def FD{a b:Nat}(h:(#[[a].toArray]:LB)=#[[b].toArray]):a=b:=by cases h;rfl
def First2.not{q:Pat}{h x:Int}(a:First2 p q w h x y)(s:dF p q w h):False:=a.2.1 (s x y a.1.1 a.1.2.1 a.1.2.2.1 a.1.2.2.2)
def FE{α:Type}{ps:List α}{s:Nat}{r:α}(f:α->D)(h:ps[s]?=be r):atI (ps.map f) (s:Int)=be (f r):=bI (by rw[H9,h];rfl)
def NoOwn.set{z:SD}(h:NoOwn z)(i:Nat){d:D}(hd:nown [be d]=true):NoOwn (z.set i (be d)):=λj ds e=>by
 by_cases hj:i=j
 .subst hj;rw[List.getElem?_set_self']at e;cases q:z[i]? with
  |none=>rw[q]at e;cases e
  |some x=>rw[q]at e;cases e;cases hd
 .rw[Ic hj]at e;exact h j ds e
def keep_ds{w:LB}(h:f.ds.length<=19):(f.keep w).ds=f.ds++[Deed.mk w f.p f.d f.l]:=by
 show(f.ds++[_]).drop _=_;rw[show f.ds.length+1-20=0 by lia];rfl
section
variable {V:Bx}
abbrev jv(V:Bx):Prop:=V.D 1 "_law_at" mv Cb
def FF(T:V.T "_law_at" mo mv)(uB:V.m "len"):jv V:=by
 refine Tx.okDW T EF (λds R h=>?_) (λf cdv A outer s H E J hr=>⟨_,((ai (bf (fU (aa 1) (bP uB (ac (aa 0) ae))) (ao (az (af (aa 0) (aa 1)))) aT)
   (ao (az ad)))),λds R h=>?_⟩)
 .obtain⟨ns,k,rfl,_⟩:=h;rfl
 .obtain⟨ns,k,rfl,hk,hR⟩:=h;refine ite2 (λc=>?_) (λc=>?_)
  .have c':=of_decide_eq_true c;rw[HR]at c';exact#[_,vE hk c',hR]
  .have c':=of_decide_eq_false (IB.mpr c);rw[HR]at c';rw[Ca KK]at hR;exact hR
abbrev gN(V:Bx):Prop:=V.D 2 "_law_draws" my Co
def FG(T:V.T "_law_draws" mx my)(uA:V.m "range")(D_:jv V):gN V:=by
 refine Tx.okDW T sc__law_draws (λds R h=>?_) (λf cdv A outer s H E J hr=>⟨_,((ai (aq 3 sc__law_draws.nd (aw D_ hr (ac (aa 0) (ac (aa 1) ae))))
   (ai (fZ 4 sc__law_draws.nd ae)
   (ai (bf (bj (aD (aw D_ hr (ac (aa 0) (ac (am (aa 1) ad) ae))) ad) ad) (ai (bY 5 PassesOwn.never rfl sc__law_draws.nd uA (aa 2) (ai (gc 4 (aD (aa 3) ad))
     (ao (aq 3 sc__law_draws.nd (aW (aa 3) ad)))))
    (df 4 (ao (az (aa 4))))) aT)
   (ai (aq 6 sc__law_draws.nd (aD (am (aa 3) ad) ad))
   (ai (bY 5 PassesOwn.never rfl sc__law_draws.nd uA (aa 2) (ai (aq 6 sc__law_draws.nd (aD (am (am (ay (aa 6) ad) (aw D_ hr (ac (aa 0) (ac (am (am (aa 1) ad) (aD (aa 5) ad)) ae)))) (aa 5)) ad))
    (ao (gc 4 (aD (aD (ay (aa 6) ad) ad) ad)))))
   (df 4 (ao (az (aa 4)))))))))),λds R h=>?_⟩)
 .obtain⟨_,_,_,rfl,_⟩:=h;rfl
 .obtain⟨ns,k,n,rfl,hk,hn,hR⟩:=h;refine#[λd=>∃v:Int,d=.int v,#[ns,k,rfl,hk,_,rfl],?_];rintro _⟨left,rfl⟩;k_places;refine#[MD,?_];refine#[ns,k+1,rfl,KK,Mx,ite2 (λ_=>?_) (λ_=>?_)]
  .refine#[#[KK,KK],λi z=>∃(xs:List Int) (l:Int) (o p:Option D),z=[be (.rol (ns.map D.int)),be (.int k),be (.int n),be (.int l),be (.own (xs.map D.int)),o,p]/\xs.length=i/\Drawn xs,#[[],left,_,_,rfl,rfl,(λx hx=>by cases hx)],?_,?_]
   .rintro i x z hi⟨xs,l,o,p,rfl,hl,hd⟩;k_places;have j3:i<n:=by simpa using(Ib.mp hi).1
    refine#[Mx,Uw,?_];refine#[λd=>∃v:Int,d=.int v,#[#[Mx,Mx],_,rfl],?_];rintro _⟨l',rfl⟩;k_places;rw[vH];exact#[_,l',_,_,rfl,by simp[hl],vI hd (cV Mx) (cX Mx)]
   .rintro z⟨xs,l,o,p,rfl,hl,hd⟩;k_places;exact hR xs (by simpa using hl) hd
  .refine#[λd=>∃v:Int,d=.int v/\0<=v/\v<2147483647,#[Mx,_,rfl,cV Mx,cX Mx],?_];rintro _⟨Qg,rfl,s1,s2⟩;k_places;refine#[#[KK,KK],λi z=>∃(xs:List Int) (sd:Int) (o:Option D),z=[be (.rol (ns.map D.int)),be (.int k),be (.int n),be (.int left),be (.own (xs.map D.int)),o,be (.int sd)]/\xs.length=i/\Drawn xs/\0<=sd/\sd<2147483647,#[[],Qg,_,rfl,rfl,(λx hx=>by cases hx),s1,s2],?_,?_]
   .rintro i x z hi⟨xs,sd,o,rfl,hl,hd,s1,s2⟩;k_places;have j3:i<n:=by simpa using(Ib.mp hi).1
    have ex:x=.int (i:Int):=by simp[j3]at hi;exact hi.symm
    subst ex;refine#[λd=>∃v:Int,d=.int v/\0<=v/\v<2147483647,#[.inr #[Mx,Mx],Mx,ns,_,rfl,KK,Mx,_,rfl,cV Mx,cX Mx],?_];rintro _⟨TN,rfl,t1,t2⟩;k_places;refine#[.inr #[Mx,Mx],Mx,Mx,Uw,?_];rw[vH];exact#[_,TN,_,rfl,by simp[hl],vI hd (cV Mx) (cX Mx),t1,t2]
   .rintro z⟨xs,sd,o,rfl,hl,hd,_⟩;k_places;exact hR xs (by simpa using hl) hd
abbrev qq(V:Bx):Prop:=V.D 1 "_law_lines" mB CB
def FH(T:V.T "_law_lines" mz mB)(uA:V.m "range")(uB:V.m "len"):qq V:=by
 refine Tx.okDW T sc__law_lines (λds R h=>?_) (λf cdv A outer s H E J hr=>⟨_,((ai (aq 1 sc__law_lines.nd (am ad (aD (af (aa 0) ad) ad)))
   (ai (aq 2 sc__law_lines.nd (am ad (aD (af (aa 0) ad) ad)))
   (ai (fY (bj (aD (af (aa 0) ad) ad) ad) (ai (aq 1 sc__law_lines.nd (am ad (aD (af (aa 0) ad) ad)))
    (ao (aq 2 sc__law_lines.nd (am ad (aD (af (aa 0) ad) ad))))) aT)
   (ai (aq 3 sc__law_lines.nd (af (bp (ac ax (ac ax (ac ax (ac ax ae))))) (aD (af (aa 0) ad) ad)))
   (ai (fZ 4 sc__law_lines.nd ae)
   (ai (bY 5 PassesOwn.never rfl sc__law_lines.nd uA (aa 2) (ai (aq 6 sc__law_lines.nd ax)
    (ai (bY 7 PassesOwn.never rfl sc__law_lines.nd uA (aa 1) (ai (aq 8 sc__law_lines.nd (am (ay (aa 5) (aa 1)) (aa 7)))
     (ai (aq 9 sc__law_lines.nd (aD (aW (af (aa 0) (am ad (aW (aa 8) ad))) (af (bp (ac ad (ac ad ae))) (aD (aa 8) ad))) ad))
     (ao (aq 6 sc__law_lines.nd (am (aa 6) (af (aa 3) (aD (aa 9) (bP uB (ac (aa 3) ae))))))))))
    (ao (gc 4 (aa 6))))))
   (df 4 (ao (az (aa 4))))))))))),λds R h=>?_⟩)
 .obtain⟨_,rfl,_⟩:=h;rfl
 .obtain⟨xs,rfl,hl,hd,hR⟩:=h;have E_:∀k:Nat,k<40->atI (xs.map D.int) (k:Int)=be (.int (cell xs k)):=λk hk=>cI KK (by simpa using(KK:k<xs.length));have a0:atI (xs.map D.int) 0=be (.int (cell xs 0)):=E_ 0 Mx;have a1:atI (xs.map D.int) 1=be (.int (cell xs 1)):=E_ 1 Mx;have a2:atI (xs.map D.int) 2=be (.int (cell xs 2)):=E_ 2 Mx;have a3:atI (xs.map D.int) 3=be (.int (cell xs 3)):=E_ 3 Mx;clear hl;refine#[λd=>∃v:Int,d=.int v/\1<=v/\v<=8,#[_,a0,Mx,_,rfl,KK],?_];rintro _⟨w0,rfl,UM⟩;k_places;refine#[λd=>∃v:Int,d=.int v/\1<=v/\v<=8,#[_,a1,Mx,_,rfl,KK],?_];rintro _⟨t0,rfl,UN⟩;k_places;refine#[λz=>∃w t:Nat,z=[be (.lst (xs.map D.int)),be (.int w),be (.int t),v9,v9,v9,v9,v9,v9,v9]/\(1<=w/\w<=8)/\(1<=t/\t<=8),#[_,a2,Mx,ite2 (λ_=>?_) (λ_=>?_)],?_]
  .refine#[λd=>∃v:Nat,d=.int v/\1<=v/\v<=8,#[_,a0,Mx,(1+cell xs 0%8).toNat,by rw[Iv KK],KK],?_];rintro _⟨w,rfl,hw⟩;k_places;refine#[λd=>∃v:Nat,d=.int v/\1<=v/\v<=8,#[_,a1,Mx,(1+cell xs 1%8).toNat,by rw[Iv KK],KK],?_];rintro _⟨t,rfl,ht⟩;k_places;exact#[w,t,rfl,hw,ht]
  .obtain⟨w,rfl⟩:∃w:Nat,w0=(w:Int):=#[w0.toNat,KK];obtain⟨t,rfl⟩:∃t:Nat,t0=(t:Int):=#[t0.toNat,KK];exact#[w,t,rfl,KK,KK]
  rintro _⟨w,t,rfl,hw,ht⟩;k_places;obtain⟨sg,es,hs⟩:=Cw (cell xs 3);refine#[λd=>d=.str sg,#[MD,_,a3,Mx,_,es,rfl],?_];rintro _ rfl;k_places;refine#[MD,?_];refine#[#[KK,KK],λk z=>∃(L:List LB) (o1 o2 o3 o4 o5:Option D),z=[be (.lst (xs.map D.int)),be (.int w),be (.int t),be (.str sg),be (.own (L.map D.str)),o1,o2,o3,o4,o5]/\L.length=k/\∀l∈L,l.length=w/\∀c∈cs l,bg c,#[[],_,_,_,_,_,rfl,rfl,(λx hx=>by cases hx)],?_,?_]
  .rintro j x z hj⟨L,o1,o2,o3,o4,o5,rfl,hL,N7⟩;k_places;have M_:j<t:=by simpa using(Ib.mp hj).1
   have ex:x=.int (j:Int):=by simp[M_]at hj;exact hj.symm
   subst ex;refine#[λd=>d=.str "",rfl,?_];rintro _ rfl;k_places;refine#[#[KK,KK],λi z=>∃(ln:LB) (o3 o4 o5:Option D),z=[be (.lst (xs.map D.int)),be (.int w),be (.int t),be (.str sg),be (.own (L.map D.str)),be (.int j),be (.str ln),o3,o4,o5]/\ln.length=i/\∀c∈cs ln,bg c,#[_,_,_,_,rfl,rfl,(λc hc=>by rw[vJ]at hc;cases hc)],?_,?_]
   .rintro i y z hi⟨ln,o3,o4,o5,rfl,OU,Qh⟩;k_places;have j3:i<w:=by simpa using(Ib.mp hi).1
    have ey:y=.int (i:Int):=by simp[j3]at hi;exact hi.symm
    subst ey;have pb:=bU (a:=(j:Int)) (d:=(w:Int)) (A:=7) (B:=8) KK KK;have pn:0<=(j:Int)*(w:Int):=Kc KK KK;refine#[λd=>∃p:Nat,d=.int p/\p<=63,#[.inl #[KK,KK],((j:Int)*w+i).toNat,by rw[Iv KK],KK],?_];rintro _⟨p,rfl,hp⟩;k_places;obtain⟨m,em,hm⟩:=Cy (p:Int);have ap:=E_ (8+p/2) KK;have ec:((8+p/2:Nat):Int)=8+(p:Int)/2:=KK
    rw[ec]at ap;refine#[λd=>∃v:Int,d=.int v,#[#[Mx,Mx],_,ap,MD,Mx,_,em,#[KK,KK],Mx,_,rfl],?_];rintro _⟨v,rfl⟩;k_places;obtain⟨c,⟨h1,h2⟩,h3⟩:=Cq hs v;refine#[λd=>∃x:LB,d=.str x/\x.length=i+1/\∀c∈cs x,bg c,#[h1,by have:=hs.1;lia,c,#[h1,h2],?_,_,rfl,Cz OU Qh h3],?_]
    .rw[OU];show i+1<=1000000;lia
    rintro _⟨x,rfl,g1,g2⟩;k_places;exact#[x,_,_,_,rfl,g1,g2]
   .rintro z⟨ln,o3,o4,o5,rfl,OU,Qh⟩;k_places;have Qi:ln.length=w:=by simpa using OU
    refine#[by simp[hL];lia,?_];rw[CA];refine#[_,_,_,_,_,_,rfl,by simp[hL],λl hl=>?_];rcases Iy.mp hl with q|q
    .exact N7 l q
    .rw[HN.mp q];exact#[Qi,Qh]
  .rintro z⟨L,o1,o2,o3,o4,o5,rfl,hL,N7⟩;k_places;exact hR L (Rows.of ht.1 ht.2 (by simpa using hL) hw.1 hw.2 N7)
abbrev qr(V:Bx):Prop:=V.D 1 "_law_shift_pair" mD Cp
def FI(T:V.T "_law_shift_pair" mC mD)(uE:V.m "int"):qr V:=by
 refine Tx.okDW T sc__law_shift_pair (λds R h=>?_) (λf cdv A outer s H E J hr=>⟨_,((ai (bf (bj (aD (aW (af (aa 0) ad) ad) ad) ad) (ao (az (bp (ac (aI (ac (am ad (aD (af (aa 0) ad) ad)) (ac ad ae))) (ac (aI (ac ad (ac (am ad (aD (af (aa 0) ad) ad)) ae))) ae))))) aT)
   (ai (bf (bj (aD (aW (af (aa 0) ad) ad) ad) ad) (ao (az (bp (ac (aI (ac (am ad (aD (af (aa 0) ad) ad)) (ac ad ae))) (ac (aI (ac (bt (aD (af (aa 0) ad) ad) ad) (ac (am ad (aD (af (aa 0) ad) ad)) ae))) ae))))) aT)
   (ai (aq 1 sc__law_shift_pair.nd (bt (aD (af (aa 0) ad) ad) ad))
   (ai (aq 2 sc__law_shift_pair.nd (bt (aD (af (aa 0) ad) ad) ad))
   (ai (aq 3 sc__law_shift_pair.nd (bt (aD (af (aa 0) ad) ad) ad))
   (ai (aq 4 sc__law_shift_pair.nd (bt (aD (af (aa 0) ad) ad) ad))
   (ai (aq 1 sc__law_shift_pair.nd (am (aa 1) (ie uE (ac (fX (cZ (aa 1) ad) (fW (cZ (aa 2) ad))) ae))))
   (ai (bf (bj (ay (aa 1) (aa 4)) (ay (aa 2) (aa 3))) (ao (az (bp (ac (aI (ac (aa 1) (ac (aa 2) ae))) (ac (aI (ac (cm (aa 2)) (ac (aa 1) ae))) ae))))) aT)
   (ao (az (bp (ac (aI (ac (aa 1) (ac (aa 2) ae))) (ac (aI (ac (aa 3) (ac (aa 4) ae))) ae)))))))))))))),λds R h=>?_⟩)
 .obtain⟨_,rfl,_⟩:=h;rfl
 .obtain⟨xs,rfl,hl,hd,hR⟩:=h;have a3:=cI (xs:=xs) (k:=3) Mx (show 3<xs.length by lia);have a4:=cI (xs:=xs) (k:=4) Mx (show 4<xs.length by lia);have a5:=cI (xs:=xs) (k:=5) Mx (show 5<xs.length by lia);have a6:=cI (xs:=xs) (k:=6) Mx (show 6<xs.length by lia);have a7:=cI (xs:=xs) (k:=7) Mx (show 7<xs.length by lia);generalize cell xs 3=x3 at*;generalize cell xs 4=x4 at*;generalize cell xs 5=x5 at*;generalize cell xs 6=x6 at*;generalize cell xs 7=x7 at*;clear hl hd;refine#[_,a3,#[Mx,Mx],Mx,ite2 (λ_=>?_) (λ_=>?_)]
  .refine#[_,a4,Mx,MD,_,a5,Mx,MD,MD,hR _ _ _ _ KK KK KK KK ?_];have p:0<(1+x4%6)*(1+x5%6):=Ii KK KK;lia
  refine#[_,a3,#[Mx,Mx],Mx,ite2 (λ_=>?_) (λ_=>?_)]
  .refine#[_,a4,Mx,MD,_,a6,Mx,_,a5,Mx,MD,MD,hR _ _ _ _ KK KK KK KK ?_];have p:0<(1+x4%6)*(1+x5%4):=Ii KK KK;lia
  refine#[λd=>∃v:Int,d=.int v/\-12<=v/\v<=12,#[_,a4,Mx,_,rfl,KK],?_];rintro _⟨a,rfl,ha⟩;k_places;refine#[λd=>∃v:Int,d=.int v/\-12<=v/\v<=12,#[_,a5,Mx,_,rfl,KK],?_];rintro _⟨b,rfl,hb⟩;k_places;refine#[λd=>∃v:Int,d=.int v/\-12<=v/\v<=12,#[_,a6,Mx,_,rfl,KK],?_];rintro _⟨c,rfl,hc⟩;k_places;refine#[λd=>∃v:Int,d=.int v/\-12<=v/\v<=12,#[_,a7,Mx,_,rfl,KK],?_];rintro _⟨d,rfl,f6⟩;k_places;refine#[λx=>∃v:Int,x=.int v/\(-12<=v/\v<=12)/\¬(v=0/\b=0),ite2 (λe=>?_) (λe=>?_),?_]
  .have e':=of_decide_eq_true e;by_cases R3:b=0
   .refine#[_,rfl,?_];subst e' R3;simp
   .refine#[_,rfl,?_];subst e';simp[R3]
  .have e':=of_decide_eq_false (IB.mpr e);refine#[_,rfl,?_];simp;lia
  rintro _⟨a,rfl,ha,N8⟩;k_places;refine#[.inl (i64 ha.1 ha.2),.inl (i64 hb.1 hb.2),ite2 (λe=>?_) (λe=>?_)]
  .refine#[MD,MD,MD,hR a b (-b) a ha hb KK ha ?_];rw[JX];intro z;have s1:0<=a*a:=sq0 a;have s2:0<=b*b:=sq0 b;have z1:a*a=0:=by omega
   have z2:b*b=0:=MC
   exact N8 #[(Kk.mp z1).elim id id,(Kk.mp z2).elim id id]
  .have e':=of_decide_eq_false (IB.mpr e);exact#[MD,MD,MD,hR a b c d ha hb hc f6 e']
abbrev qt(V:Bx):Prop:=V.D 1 "_law_motif_text" mG CC
def FJ(T:V.T "_law_motif_text" mF mG)(uF:V.m "str"):qt V:=by
 refine Tx.okDW T sc__law_motif_text (λds R h=>?_) (λf cdv A outer s H E J hr=>⟨_,((ai (aq 3 sc__law_motif_text.nd (am (am (am (am (am (am (am ax (dg uF (ac (af (aa 1) ad) ae))) ax) (dg uF (ac (af (aa 1) ad) ae))) ax) (dg uF (ac (af (aa 2) ad) ae))) ax) (dg uF (ac (af (aa 2) ad) ae))))
   (ao (az (am (am (am ax (lf (aa 0))) (aa 3)) ax))))),λds R h=>?_⟩)
 .obtain⟨_,_,_,_,_,rfl,_⟩:=h;rfl
 .obtain⟨L,a,b,c,d,rfl,hL,ha,hb,hc,hd,hR⟩:=h;have la:=bJ ha;have lb:=bJ hb;have lc:=bJ hc;have ld:=bJ hd;have l1:(";":LB).length=1:=rfl;have l2:(",":LB).length=1:=rfl;have l3:("[":LB).length=1:=rfl;have l4:("]":LB).length=1:=rfl;have ls:=vL hL;have lj:=StrLaws.join_length_le "/" L;unfold B12 at ha hb hc hd;refine#[λx=>x=.str ((((((((";":LB)++(toString a:String))++",")++(toString b:String))++";")++(toString c:String))++",")++(toString d:String)),#[_,rfl,KK,?_,?_,_,rfl,KK,?_,?_,_,rfl,KK,?_,?_,_,rfl,KK,?_,rfl],?_]
  .lia
  .rw[aJ];lia
  .rw[aJ,aJ];lia
  .rw[aJ,aJ,aJ];lia
  .rw[aJ,aJ,aJ,aJ];lia
  .rw[aJ,aJ,aJ,aJ,aJ];lia
  .rw[aJ,aJ,aJ,aJ,aJ,aJ];lia
  rintro _ rfl;k_places;have lg:(Txt.join "/" L).length<=72:=by
   have e:Txt.join "/" L=Str.join "/" L:=StrLaws.glued_eq_join _ _;rw[e];exact H8 lj ls
  refine#[L,me L,KK,?_,?_,?_,hR]
  .lia
  .repeat rw[aJ]
   lia
  .repeat rw[aJ]
   lia
abbrev jw(V:Bx):Prop:=V.D 3 "_law_motif" mI CF
def FK(T:V.T "_law_motif" mH mI)(LV:gN V)(Qj:qq V)(Qk:qr V)(Ql:qt V):jw V:=by
 refine Tx.okDW T sc__law_motif (λds R h=>?_) (λf cdv A outer s H E J hr=>⟨_,((ai (aq 2 sc__law_motif.nd (aw LV hr (ac (aa 0) (ac (aa 1) (ac ad ae)))))
   (ai (aq 3 sc__law_motif.nd (aw Qj hr (ac (aa 2) ae)))
   (ai (Aq rfl (aw Qk hr (ac (aa 2) ae)) (dg_cons 4 sc__law_motif.nd (dg_cons 5 sc__law_motif.nd cG)))
   (ai (aq 6 sc__law_motif.nd (aI (ac (aa 3) (ac (aa 4) (ac (aa 5) (ac (aI (ac ad (ac ad (ac ad (ac ad (ac ad (ac ad ae))))))) (ac (bp (ac ad (ac ad (ac ad (ac ad (ac ad (ac ad (ac ad ae)))))))) ae)))))))
   (ao (az (bp (ac (aw Ql hr (ac (aa 3) (ac (aa 4) (ac (aa 5) ae)))) (ac ad (ac (bp (ac (aa 6) ae)) ae))))))))))),λds R h=>?_⟩)
 .obtain⟨_,_,rfl,_⟩:=h;rfl
 .obtain⟨ns,k,rfl,hk,hR⟩:=h;refine#[λx=>∃xs:List Int,x=.lst (xs.map D.int)/\xs.length=40/\Drawn xs,#[ns,k,40,rfl,hk,Mx,λxs h1 h2=>#[xs,rfl,h1,h2]],?_];rintro _⟨xs,rfl,hl,hd⟩;k_places;refine#[λx=>∃L:List LB,x=.lst (L.map D.str)/\Rows L,#[xs,rfl,KK,hd,λL h=>#[L,rfl,h]],?_];rintro _⟨L,rfl,hL⟩;k_places;refine#[xs,rfl,KK,hd,λa b c d ha hb hc f6 hn=>#[rfl,?_]];refine#[λx=>x=(bx L a b c d).D,#[MD,MD,MD,rfl],?_];rintro _ rfl;k_places;exact#[L,a,b,c,d,rfl,hL,ha,hb,hc,f6,MD,MD,hR L a b c d hL ha hb hc f6 hn]
abbrev gO(V:Bx):Prop:=V.D 1 "_law_wrapped" mJ CO
def FL(T:V.T "_law_wrapped" iH mJ)(uF:V.m "str")(x_:V.m "list")(uE:V.m "int"):gO V:=by
 refine Tx.okDW T sc__law_wrapped (λds R h=>?_) (λf cdv A outer s H E J hr=>⟨_,((ai (bf (tK (af (aa 0) ad) ad) (ao (az (aa 0))) aT)
   (ai (aq 2 sc__law_wrapped.nd (bt (aD (aW (aa 1) ad) ad) ad))
   (ai (aq 3 sc__law_wrapped.nd (bt (aD (aW (aa 1) ad) ad) ad))
   (ai (aq 4 sc__law_wrapped.nd (am ad (aD (aW (aa 1) ad) ad)))
   (ai (aq 5 sc__law_wrapped.nd (am ad (aD (aW (aa 1) ad) ad)))
   (ai (aq 6 sc__law_wrapped.nd (am (am (am (am ax (dg uF (ac (aa 2) ae))) ax) (dg uF (ac (aa 3) ae))) ax))
   (ai (aq 7 sc__law_wrapped.nd (af (bp (ac ax (ac ax (ac (aa 6) (ac (am (am ax (dg uF (ac (aa 4) ae))) (dg uF (ac (aa 5) ae))) ae))))) (aD (aa 1) ad)))
   (ai (aq 8 sc__law_wrapped.nd (bp (ac (aI (ac (cm ad) (ac ad (ac ad (ac ad (ac ad (ac ad ae))))))) (ac (aI (ac ad (ac ad (ac (cm ad) (ac ad (ac ad (ac ad ae))))))) ae))))
   (ai (aq 8 sc__law_wrapped.nd (am (aa 8) (bp (ac (aI (ac ad (ac ad (ac ad (ac ad (ac (cm (aa 2)) (ac (cm (aa 3)) ae))))))) (ac (aI (ac ad (ac ad (ac ad (ac ad (ac ad (ac ad ae))))))) ae)))))
   (ai (aq 9 sc__law_wrapped.nd (af (aa 8) (aD (aa 1) ad)))
   (ai (fZ 10 sc__law_wrapped.nd ae)
   (ai (ic 11 PassesOwn.never rfl sc__law_wrapped.nd (af (aa 0) ad) (ai (gf rfl (af (aa 11) ad) (dg_cons 12 sc__law_wrapped.nd (dg_cons 13 sc__law_wrapped.nd (dg_cons 14 sc__law_wrapped.nd (dg_cons 15 sc__law_wrapped.nd (dg_cons 16 sc__law_wrapped.nd (dg_cons 17 sc__law_wrapped.nd cG)))))))
    (ai (aq 18 sc__law_wrapped.nd (aI (ac (am (ay (aa 12) (af (aa 9) ad)) (ay (aa 13) (af (aa 9) ad))) (ac (am (ay (aa 12) (af (aa 9) ad)) (ay (aa 13) (af (aa 9) ad))) ae))))
    (ai (aq 18 sc__law_wrapped.nd (am (aa 18) (aI (ac (am (ay (aa 14) (af (aa 9) ad)) (ay (aa 15) (af (aa 9) ad))) (ac (am (ay (aa 14) (af (aa 9) ad)) (ay (aa 15) (af (aa 9) ad))) ae)))))
    (ai (aq 16 sc__law_wrapped.nd (am (am (aa 16) (ay (aa 12) (af (aa 9) ad))) (ay (aa 13) (af (aa 9) ad))))
    (ai (aq 17 sc__law_wrapped.nd (am (am (aa 17) (ay (aa 14) (af (aa 9) ad))) (ay (aa 15) (af (aa 9) ad))))
    (ai (aq 19 sc__law_wrapped.nd (Af x_ (ac (af (aa 11) ad) ae)))
    (ai (fY (bj (aD (aa 1) ad) ad) (ao (Aw 19 rfl (compScope (by change dh _ (ah iH) ["_law_part","_law_draw","_law_across","_law_down","_law_old","_law_new","_law_shift","_law_head","_law_ways","_law_by","_law_leaves","_law_leaf","_law_a","_law_b","_law_c","_law_d","_law_e","_law_f","_law_way","_law_hues"] _=true;decide+kernel)) sc__law_wrapped.nd (af (aa 11) ad) (λcl s0 H0 fp=>(af (bp (ac (aa 20) (ac (aa 5) ae))) (ie uE (ac (cZ (aa 20) (aa 4)) ae)))))) aT)
    (ao (gc 10 (aI (ac (af (aa 11) ad) (ac (af (aa 11) ad) (ac (af (aa 11) ad) (ac (am (aa 18) (aI (ac (aa 16) (ac (aa 17) ae)))) (ac (aa 19) ae))))))))))))))))
   (df 10 (ao (az (bp (ac (am (aa 7) (af (aa 0) ad)) (ac (am (af (aa 0) ad) ad) (ac (aa 10) ae)))))))))))))))))))),λds R h=>?_⟩)
 .obtain⟨_,_,rfl,_⟩:=h;rfl
 .obtain⟨p,draw,rfl,wf,hd,ht,hW⟩:=h;refine#[_,rfl,ite2 (λc=>?_) (λc=>?_)]
  .have c':=of_decide_eq_true c;exact hW.1 KK
  have c':=of_decide_eq_false (IB.mpr c);have f6:p.depth<5:=KK
  refine#[λd=>∃v:Int,d=.int v/\B12 v,#[#[Mx,Mx],Mx,_,rfl,by unfold B12;lia],?_];rintro _⟨A,rfl,hA⟩;simp only[Ij,Im,aY];refine#[λd=>∃v:Int,d=.int v/\B12 v,#[#[Mx,Mx],Mx,_,rfl,by unfold B12;lia],?_];rintro _⟨B,rfl,hB⟩;simp only[Ij,Im,aY];refine#[λd=>∃v:Int,d=.int v/\1<=v/\v<=6,#[#[Mx,Mx],Mx,_,rfl,KK],?_];rintro _⟨d7,rfl,ho⟩;simp only[Ij,Im,aY];refine#[λd=>∃v:Int,d=.int v/\1<=v/\v<=6,#[#[Mx,Mx],Mx,_,rfl,KK],?_];rintro _⟨new,rfl,hn⟩;simp only[Ij,Im,aY];have l1:("s":LB).length=1:=rfl;have l2:(",":LB).length=1:=rfl;have l3:(":":LB).length=1:=rfl;have l4:("h":LB).length=1:=rfl;have lA:=bJ hA;have lB:=bJ hB;have lo:=fv ho;have ln:=fv hn;obtain⟨hs,b0,b1,b2,b3,b4,b5,e1,e2,hb,hl,hR⟩:=CM hW f6 (k:=0) hA hB ho hn KK;unfold B12 at hA hB;refine#[λx=>x=.str ((((("s":LB)++(toString A:String))++",")++(toString B:String))++":"),#[KK,?_,?_,KK,?_,?_,rfl],?_]
  .lia
  .rw[aJ];lia
  .rw[aJ,aJ];lia
  .rw[aJ,aJ,aJ];lia
  rintro _ rfl;simp only[Ij,Im,aY];refine#[λx=>x=.str hs,#[KK,?_,KK,?_,MD,Mx,_,e1,rfl],?_]
  .lia
  .rw[aJ];lia
  rintro _ rfl;simp only[Ij,Im,aY];refine#[λx=>x=.lst [D.tup [.int (-1),.int 0,.int 0,.int 1,.int 0,.int 0],D.tup [.int 0,.int 1,.int (-1),.int 0,.int 0,.int 0]],#[MD,MD,MD,rfl],?_];rintro _ rfl;simp only[Ij,Im,aY];refine#[λx=>x=.lst ([D.tup [.int (-1),.int 0,.int 0,.int 1,.int 0,.int 0],D.tup [.int 0,.int 1,.int (-1),.int 0,.int 0,.int 0]]++[D.tup [.int 1,.int 0,.int 0,.int 1,.int (-A),.int (-B)],D.tup [.int 1,.int 0,.int 0,.int 1,.int 0,.int 0]]),#[MD,MD,MD,MD,rfl],?_];rintro _ rfl;simp only[Ij,Im,aY];refine#[λx=>x=.tup [.int b0,.int b1,.int b2,.int b3,.int b4,.int b5],#[Mx,_,e2,rfl],?_];rintro _ rfl;simp only[Ij,Im,aY];refine#[MD,?_];generalize D.str ((((("s":LB)++(toString A:String))++",")++(toString B:String))++":")=sD;generalize D.lst ([D.tup [.int (-1),.int 0,.int 0,.int 1,.int 0,.int 0],D.tup [.int 0,.int 1,.int (-1),.int 0,.int 0,.int 0]]++[D.tup [.int 1,.int 0,.int 0,.int 1,.int (-A),.int (-B)],D.tup [.int 1,.int 0,.int 0,.int 1,.int 0,.int 0]])=wD;clear e1 e2 hW lA lB lo ln l1 l2 l3 l4 hA hB c';refine#[_,rfl,λk z=>∃u_ v3 m4 m5 LW LX Qm Qn Na:Option D,z=[be p.D,be (.int draw),be (.int A),be (.int B),be (.int d7),be (.int new),be sD,be (.str hs),be wD,be (.tup [.int b0,.int b1,.int b2,.int b3,.int b4,.int b5]),be (.own (((p.leaves.take k).map (Leaf.T (decide (draw%4=3)) d7 new b0 b1 b2 b3 b4 b5)).map Leaf.D)),u_,v3,m4,m5,LW,LX,Qm,Qn,Na],#[_,_,_,_,_,_,_,_,_,rfl],?_,?_]
  .rintro k v z hk⟨u_,v3,m4,m5,LW,LX,Qm,Qn,Na,rfl⟩;k_places;rw[H9]at hk;have o8:k<p.leaves.length:=by
    rcases Jq k p.leaves.length with q|q
    .exact q
    .rw[ID q]at hk;cases hk
   have Nb:p.leaves[k]?=be p.leaves[k]:=Ih o8;rw[Nb]at hk;cases hk;obtain⟨gd,nr⟩:=Pat.leaf_good wf p.leaves[k] (Ix o8);have b8:(p.leaves.take k).length<=1000:=by rw[Jk];have:=Pat.leaves_32 hd;lia
   generalize p.leaves[k]=l at Nb gd nr;obtain⟨r0,r1,r2,r3⟩:=nr.unit;obtain⟨q0,q1,q2,q3,q4,q5⟩:=hb;refine#[_,rfl,rfl,?_];simp only[Ij,Im,aY];refine#[λx=>x=.tup [.int (l.w0*b0+l.w1*b2),.int (l.w0*b1+l.w1*b3)],#[_,rfl,.inr (n64 q0),_,rfl,.inr (n64 q2),_,rfl,.inr (n64 q1),_,rfl,.inr (n64 q3),MD,rfl],?_];rintro _ rfl;simp only[Ij,Im,aY];refine#[λx=>x=.tup [.int (l.w0*b0+l.w1*b2),.int (l.w0*b1+l.w1*b3),.int (l.w2*b0+l.w3*b2),.int (l.w2*b1+l.w3*b3)],#[_,rfl,.inr (n64 q0),_,rfl,.inr (n64 q2),_,rfl,.inr (n64 q1),_,rfl,.inr (n64 q3),MD,MD,rfl],?_];rintro _ rfl;simp only[Ij,Im,aY];refine#[λx=>x=.int (l.w4+l.w0*b4+l.w1*b5),#[_,rfl,.inr (n64 q4),_,rfl,.inr (n64 q5),rfl],?_];rintro _ rfl;simp only[Ij,Im,aY];refine#[λx=>x=.int (l.w5+l.w2*b4+l.w3*b5),#[_,rfl,.inr (n64 q4),_,rfl,.inr (n64 q5),rfl],?_];rintro _ rfl;simp only[Ij,Im,aY];refine#[λx=>x=.lst (l.hues.map D.int),#[_,rfl,rfl],?_];rintro _ rfl;simp only[Ij,Im,aY];refine#[λz=>∃Na:List Int,Na=(Leaf.T (decide (draw%4=3)) d7 new b0 b1 b2 b3 b4 b5 l).hues/\z=[be p.D,be (.int draw),be (.int A),be (.int B),be (.int d7),be (.int new),be sD,be (.str hs),be wD,be (.tup [.int b0,.int b1,.int b2,.int b3,.int b4,.int b5]),be (.own (((p.leaves.take k).map (Leaf.T (decide (draw%4=3)) d7 new b0 b1 b2 b3 b4 b5)).map Leaf.D)),be l.D,be (.int l.w0),be (.int l.w1),be (.int l.w2),be (.int l.w3),be (.int (l.w4+l.w0*b4+l.w1*b5)),be (.int (l.w5+l.w2*b4+l.w3*b5)),be (.tup [.int (l.w0*b0+l.w1*b2),.int (l.w0*b1+l.w1*b3),.int (l.w2*b0+l.w3*b2),.int (l.w2*b1+l.w3*b3)]),be (.lst (Na.map D.int))],#[Mx,ite2 (λc=>?_) (λc=>?_)],?_]
   .have c3:=of_decide_eq_true c;refine#[λx=>x=.lst ((l.hues.map (bM d7 new)).map D.int),#[_,rfl,by rw[HR,gd.many];decide,λk ys=>ys=((l.hues.take k).map (bM d7 new)).map D.int,rfl,?_,?_],?_]
    .rintro k' x ys hx hl rfl;rw[H9]at hx;cases e:l.hues[k']? with
     |none=>rw[e]at hx;cases hx
     |some hu=>
      rw[e]at hx;cases hx;refine#[MD,_,CN hu d7 new,?_];dsimp only;rw[mi e];simp
    .rintro ys hl rfl;rw[HR,JW]
    .rintro _ rfl;k_places;exact#[_,by simp[Leaf.T,c3,Leaf.dye,Leaf.by],rfl]
   .have c3:=of_decide_eq_false (IB.mpr c);exact#[_,by simp[Leaf.T,c3,Leaf.by],rfl]
   rintro _⟨hu,TQ,rfl⟩;k_places;refine#[_,rfl,_,rfl,_,rfl,MD,MD,MD,by rw[HR,HR];lia,?_];have eT:(D.tup [.lst (l.rows.map D.str),.tup [.int l.a,.int l.b],.tup [.int l.c,.int l.d],.tup ([.int (l.w0*b0+l.w1*b2),.int (l.w0*b1+l.w1*b3),.int (l.w2*b0+l.w3*b2),.int (l.w2*b1+l.w3*b3)]++[.int (l.w4+l.w0*b4+l.w1*b5),.int (l.w5+l.w2*b4+l.w3*b5)]),.lst (hu.map D.int)])=(Leaf.T (decide (draw%4=3)) d7 new b0 b1 b2 b3 b4 b5 l).D:=by
    rw[TQ];by_cases c3:draw%4=3
    .simp[Leaf.T,c3,Leaf.D,Leaf.dye,Leaf.by]
    .simp[Leaf.T,c3,Leaf.D,Leaf.by]
   have e9:((p.leaves.take (k+1)).map (Leaf.T (decide (draw%4=3)) d7 new b0 b1 b2 b3 b4 b5)).map Leaf.D=((p.leaves.take k).map (Leaf.T (decide (draw%4=3)) d7 new b0 b1 b2 b3 b4 b5)).map Leaf.D++[(Leaf.T (decide (draw%4=3)) d7 new b0 b1 b2 b3 b4 b5 l).D]:=by
    rw[mi Nb,Ip,Ip,Il,Il,Jn,Jn]
   rw[e9,<-eT];exact#[_,_,_,_,_,_,_,_,_,rfl]
  .rintro z⟨u_,v3,m4,m5,LW,LX,Qm,Qn,Na,rfl⟩;k_places;rw[HR,JW];refine#[_,rfl,KK,_,rfl,MD,hR]
abbrev jx(V:Bx):Prop:=V.D 1 "_law_gcd" mL Cg
def FM(T:V.T "_law_gcd" mK mL)(uS:V.m "abs"):jx V:=by
 refine Tx.okDW T sc__law_gcd (λds R h=>?_) (λf cdv A outer s H E J hr=>⟨_,((ai (aq 0 sc__law_gcd.nd (eN uS (ac (aa 0) ae)))
   (ai (aq 1 sc__law_gcd.nd (eN uS (ac (aa 1) ae)))
   (ai (gh PassesOwn.never (ce (aa 1) ad) (ao (Aa 0 1 rfl sc__law_gcd.nd (ac (aa 1) (ac (aD (aa 0) (aa 1)) ae)))))
   (ao (az (aa 0))))))),λds R h=>?_⟩)
 .obtain⟨x,y,rfl,_⟩:=h;rfl
 .obtain⟨x,y,rfl,hR⟩:=h;refine#[λd=>d=.int (if x<0 then -x else x),rfl,?_];rintro _ rfl;k_places;refine#[λd=>d=.int (if y<0 then -y else y),rfl,?_];rintro _ rfl;k_places;have hx:0<=(if x<0 then -x else x):=by split<;>lia
  have hy:0<=(if y<0 then -y else y):=by split<;>lia
  have Qo:∀e,(e∣(if x<0 then -x else x)/\e∣(if y<0 then -y else y))↔(e∣x/\e∣y):=λe=>by rw[vF,vF]
  generalize (if x<0 then -x else x)=a at hx Qo ⊢;generalize (if y<0 then -y else y)=b at hy Qo ⊢;refine#[λm z=>∃a b:Int,z=[be (.int a),be (.int b)]/\0<=a/\0<=b/\(∀e,(e∣a/\e∣b)↔(e∣x/\e∣y))/\m=b.toNat,#[_,a,b,rfl,hx,hy,Qo,rfl],?_];rintro m z⟨a,b,rfl,ha,hb,N8,rfl⟩;k_places;refine ite2 (λc=>?_) (λc=>?_)
  .have c':¬b=0:=by simpa using c
   have q1:=cV (a:=a) (show 0<b by lia);have q2:=cX (a:=a) (show 0<b by lia);refine#[KK,_,?_,b,a%b,rfl,hb,q1,λe=>?_,rfl]
   .lia
   .rw[<-N8 e];constructor
    .rintro⟨h1,h2⟩;exact#[(vG h1).mp h2,h1]
    .rintro⟨h1,h2⟩;exact#[h2,(vG h2).mpr h1]
  .have c':b=0:=by simpa using c
   subst c';have g:=(N8 a).mp #[Int.dvd_refl a,Int.dvd_zero a];exact hR a ha g.1 g.2 λe h1 h2=>((N8 e).mpr #[h1,h2]).1
abbrev jy(V:Bx):Prop:=V.D 1 "_law_on" mN Cf
def FN(T:V.T "_law_on" mM mN):jy V:=by
 refine Tx.okDW T sc__law_on (λds R h=>?_) (λf cdv A outer s H E J hr=>⟨_,((ai (aq 4 sc__law_on.nd (bt (ay (af (aa 0) ad) (af (aa 1) ad)) (ay (af (aa 0) ad) (af (aa 1) ad))))
   (ao (az (fX (cZ (tz (bt (ay (aa 2) (af (aa 1) ad)) (ay (aa 3) (af (aa 1) ad))) (aa 4)) ad) (fW (cZ (tz (bt (ay (af (aa 0) ad) (aa 3)) (ay (af (aa 0) ad) (aa 2))) (aa 4)) ad))))))),λds R h=>?_⟩)
 .obtain⟨a,b,c,d,u,v,rfl,_⟩:=h;rfl
 .obtain⟨a,b,c,d,u,v,rfl,ha,hb,hc,hd,hn,hR⟩:=h;have Nd:∀{x:Int},x.natAbs<1073741824->-(2^64)<x/\x<2^64:=λh=>n64 (Nat.le_of_lt_succ h);refine#[λx=>x=.int (a*d-b*c),#[_,rfl,_,rfl,.inl (Nd ha),_,rfl,_,rfl,.inl (Nd hb),rfl],?_];rintro _ rfl;k_places;refine#[_,rfl,.inr (Nd hd),_,rfl,.inr (Nd hc),MC,ite2 (λe=>?_) (λe=>?_)]
  .have e':=of_decide_eq_true e;refine#[_,rfl,.inl (Nd ha),_,rfl,.inl (Nd hb),MC,?_];have q:decide ((a*v-b*u).fmod (a*d-b*c)=0)=decide ((u*d-v*c).fmod (a*d-b*c)=0/\(a*v-b*u).fmod (a*d-b*c)=0):=by simp[e']
   have g:R (.bl (decide ((a*v-b*u).fmod (a*d-b*c)=0))):=by rw[q];exact hR
   exact g
  .have e':=of_decide_eq_false (IB.mpr e);have q:decide ((u*d-v*c).fmod (a*d-b*c)=0/\(a*v-b*u).fmod (a*d-b*c)=0)=false:=by simp[e']
   rw[q]at hR;exact hR
abbrev qu(V:Bx):Prop:=V.D 2 "_law_leaf_family" mR CQ
def FO(T:V.T "_law_leaf_family" mQ mR)(uS:V.m "abs")(Nf:jx V)(Ng:jy V):qu V:=by
 refine Tx.okDW T sc__law_leaf_family (λds R h=>?_) (λf cdv A outer s H E J hr=>⟨_,((ai (gf rfl (af (aa 0) ad) (dg_cons 1 sc__law_leaf_family.nd (dg_cons 2 sc__law_leaf_family.nd (dg_cons 3 sc__law_leaf_family.nd (dg_cons 4 sc__law_leaf_family.nd (dg_cons 5 sc__law_leaf_family.nd (dg_cons 6 sc__law_leaf_family.nd cG)))))))
   (ai (aq 7 sc__law_leaf_family.nd (aI (ac (am (ay (aa 1) (af (af (aa 0) ad) ad)) (ay (aa 3) (af (af (aa 0) ad) ad))) (ac (am (ay (aa 2) (af (af (aa 0) ad) ad)) (ay (aa 4) (af (af (aa 0) ad) ad))) ae))))
   (ai (aq 8 sc__law_leaf_family.nd (aI (ac (am (ay (aa 1) (af (af (aa 0) ad) ad)) (ay (aa 3) (af (af (aa 0) ad) ad))) (ac (am (ay (aa 2) (af (af (aa 0) ad) ad)) (ay (aa 4) (af (af (aa 0) ad) ad))) ae))))
   (ai (aq 9 sc__law_leaf_family.nd (aw Nf hr (ac (af (aa 7) ad) (ac (af (aa 8) ad) ae))))
   (ai (aq 10 sc__law_leaf_family.nd (aW (eN uS (ac (bt (ay (af (aa 7) ad) (af (aa 8) ad)) (ay (af (aa 7) ad) (af (aa 8) ad))) ae)) (aa 9)))
   (ai (aq 11 sc__law_leaf_family.nd ad)
   (ai (gh PassesOwn.never (eO (cx (aw Ng hr (ac (aa 7) (ac (aa 8) (ac (aa 11) (ac (aa 9) ae))))))) (ao (aq 11 sc__law_leaf_family.nd (am (aa 11) ad))))
   (ao (az (aI (ac (aa 10) (ac (aa 9) (ac (aa 11) ae)))))))))))))),λds R h=>?_⟩)
 .obtain⟨_,_,rfl,_⟩:=h;rfl
 .obtain⟨l,n,rfl,gd,nr,hR⟩:=h;obtain⟨h0,h1,h2,h3⟩:=nr.unit;obtain⟨z0,z1,z2,z3,ne,z5⟩:=Leaf.sizes gd nr;have ha:=gd.a;have hb:=gd.b;have hc:=gd.c;have hd:=gd.d;unfold B12 at ha hb hc hd;refine#[_,rfl,rfl,?_];simp only[Ij,Im,aY];refine#[λx=>x=.tup [.int l.o0,.int l.o1],#[_,rfl,_,rfl,.inl (u64 h0),_,rfl,_,rfl,.inl (u64 h2),_,rfl,_,rfl,.inl (u64 h1),_,rfl,_,rfl,.inl (u64 h3),MD,rfl],?_];rintro _ rfl;k_places;refine#[λx=>x=.tup [.int l.t0,.int l.t1],#[_,rfl,_,rfl,.inl (u64 h0),_,rfl,_,rfl,.inl (u64 h2),_,rfl,_,rfl,.inl (u64 h1),_,rfl,_,rfl,.inl (u64 h3),MD,rfl],?_];rintro _ rfl;k_places;generalize l.o0=o0 at*;generalize l.o1=o1 at*;generalize l.t0=t0 at*;generalize l.t1=t1 at*;refine#[λx=>∃g:Int,x=.int g/\0<=g/\g∣o1/\g∣t1/\∀e,e∣o1->e∣t1->e∣g,#[_,rfl,_,rfl,o1,t1,rfl,λg q0 q1 q2 q3=>#[g,rfl,q0,q1,q2,q3]],?_];rintro _⟨g,rfl,q0,q1,q2,q3⟩;k_places;obtain⟨w,s,f⟩:=CP ne q0 q1 q2 q3;have hg:=f.2.1;have k1:=bU (a:=o0) (d:=t1) (A:=24) (B:=24) z0 z3;have k2:=bU (a:=o1) (d:=t0) (A:=24) (B:=24) z1 z2;have UO:=f.bd (N:=288) z5;have g9:=f.cells;have ew:(if o0*t1-o1*t0<0 then -(o0*t1-o1*t0)else o0*t1-o1*t0)/g=w:=by
   have hp:=Ii f.1 hg;have:(if o0*t1-o1*t0<0 then -(o0*t1-o1*t0)else o0*t1-o1*t0)=w*g:=by split<;>lia
   rw[this];exact IC _ KK
  refine#[λx=>x=.int w,#[_,rfl,_,rfl,.inl (n64 z0),_,rfl,_,rfl,.inl (n64 z1),#[KK,KK],?_],?_]
  .exact congrArg D.int ew
  rintro _ rfl;k_places;refine#[λx=>x=.int 0,rfl,?_];rintro _ rfl;k_places;have hp:=Ii f.1 hg;refine#[λm z=>∃x:Int,z=[be l.D,be (.int l.w0),be (.int l.w1),be (.int l.w2),be (.int l.w3),be (.int l.w4),be (.int l.w5),be (.tup [.int o0,.int o1]),be (.tup [.int t0,.int t1]),be (.int g),be (.int w),be (.int x)]/\0<=x/\x<=s/\m=(s-x).toNat,#[_,0,rfl,KK,f.2.2.1,rfl],?_];rintro m z⟨x,rfl,x0,x1,rfl⟩;k_places;refine#[o0,o1,t0,t1,x,g,rfl,KK,KK,KK,KK,ne,?_];refine ite2 (λc=>?_) (λc=>?_)
  .have c':¬((x*t1-g*t0).fmod (o0*t1-o1*t0)=0/\(o0*g-o1*x).fmod (o0*t1-o1*t0)=0):=notT c;have xs:x≠s:=by
    rintro rfl;obtain⟨_,_,_,_,m',n',k',l',_,e1,e2,e3,e4⟩:=id f;exact c' (vC e3 e4)
   refine#[λd=>d=.int (x+1),rfl,?_];rintro _ rfl;k_places;exact#[_,KK,x+1,rfl,KK,KK,rfl]
  .have c':(x*t1-g*t0).fmod (o0*t1-o1*t0)=0/\(o0*g-o1*x).fmod (o0*t1-o1*t0)=0:=by
    exact notF c
   obtain⟨i,j,e1,e2⟩:=vS ne c';have:x=s:=f.uniq_lean e1 e2 x0 x1;subst this;exact#[MD,hR w g x f KK]
abbrev qv(V:Bx):Prop:=V.D 1 "_law_in_family" mV Ce
def FP(T:V.T "_law_in_family" mU mV):qv V:=by
 refine Tx.okDW T EG (λds R h=>?_) (λf cdv A outer s H E J hr=>#[_,((ao (az (fX (cZ (aD (aa 2) (af (aa 0) ad)) ad) (fW (cZ (aD (bt (aa 1) (ay (aW (aa 2) (af (aa 0) ad)) (af (aa 0) ad))) (af (aa 0) ad)) ad)))))),λds R h=>?_])
 .obtain⟨w,h,s,x,y,rfl,_⟩:=h;rfl
 .obtain⟨w,h,s,x,y,rfl,hw,hh,Lv,hs,l8,hR⟩:=h;refine#[_,rfl,hh,ite2 (λc=>?_) (λc=>?_)]
  .have c':=of_decide_eq_true c;refine#[_,rfl,#[hh,Lv],_,rfl,.inr #[KK,KK],_,rfl,hw,?_];have e:decide ((x-y/h*s)%w=0)=decide (y%h=0/\(x-y/h*s)%w=0):=by simp[c']
   have g:R (.bl (decide ((x-y/h*s)%w=0))):=by rw[e];exact hR
   exact g
  .have c':=of_decide_eq_false (IB.mpr c);have e:decide (y%h=0/\(x-y/h*s)%w=0)=false:=by simp[c']
   rw[e]at hR;exact hR
abbrev qw(V:Bx):Prop:=V.D 2 "_law_both" mY CU
def FQ(T:V.T "_law_both" mW mY)(Nf:jx V)(Qp:qv V):qw V:=by
  refine Tx.okDW T sc__law_both (λds R h=>?_) (λf cdv A outer s H E J hr=>⟨_,((ai (aq 2 sc__law_both.nd (aW (ay (af (aa 0) ad) (af (aa 1) ad)) (aw Nf hr (ac (af (aa 0) ad) (ac (af (aa 1) ad) ae)))))
      (ai (aq 3 sc__law_both.nd (af (aa 0) ad))
      (ai (gh PassesOwn.never (kS (ay (aa 2) (aa 3)) ad) (ai (aq 4 sc__law_both.nd (aD (ay (af (aa 0) ad) (aW (aa 3) (af (aa 0) ad))) (af (aa 0) ad)))
        (ai (gh PassesOwn.never (fU (aa 4) (aa 2)) (ai (bf (cx (aw Qp hr (ac (aa 1) (ac (aa 4) (ac (aa 3) ae))))) (ao (az (aI (ac (aa 2) (ac (aa 3) (ac (aa 4) ae)))))) aT)
          (ao (aq 4 sc__law_both.nd (am (aa 4) (af (aa 0) ad))))))
        (ao (aq 3 sc__law_both.nd (am (aa 3) (af (aa 0) ad)))))))
      (ao (az bC)))))),λds R h=>?_⟩)
  . obtain⟨_,_,_,_,_,_,rfl,_⟩:=h;rfl
  . obtain⟨w1,h1,s1,w2,h2,s2,rfl,f1,f2,hR⟩:=h;obtain⟨a1,a2,a3,a4,a5,a6⟩:=f1;obtain⟨b1,b2,b3,b4,b5,b6⟩:=f2;obtain⟨g,u,W,Hh,S,A,M1,eW,M⟩:=CT #[a1,a2,a3,a4,a5,a6] #[b1,b2,b3,b4,b5,b6];have R4:=hR W Hh S A M;have wb:W<=518400:=by
      have:=(lZ a1 b1 M1).2.1;have:=bU (a:=w1) (d:=w2) (A:=720) (B:=720) KK KK;lia
    have mw:=M.w0;have mh:=M.h0;have ms:=M.s0;have UP:=M.sw;refine#[λx=>x=.int W,#[_,rfl,_,rfl,.inl #[KK,KK],_,rfl,_,rfl,w1,w2,rfl,λG q0 q1 q2 q3=>?_],?_]
    . have eG:=M1.gcd q0 q1 q2 q3;subst eG;have hg:=M1.pos a1;have Qq:=M1.le a1;exact#[#[hg,KK],by rw[<-eW]]
    rintro _ rfl;k_places;refine#[λx=>x=.int h1,#[_,rfl,rfl],?_];rintro _ rfl;k_places;obtain⟨i0,j0,eS,eH⟩:=M.up1;have TR:1<=j0:=by
      rcases(KK:j0<=0\/1<=j0)with z|z
      . have:=Ji z (show 0<=h1 by lia);lia
      . exact z
    refine#[λm z=>∃(j:Int) (o:Option D),z=[be (.tup [.int w1,.int h1,.int s1]),be (.tup [.int w2,.int h2,.int s2]),be (.int W),be (.int (j*h1)),o]/\1<=j/\j<=j0/\m=(j0-j).toNat,#[_,1,_,by rw[Int.one_mul];rfl,KK,TR,rfl],?_];rintro m z⟨j,o,rfl,LY,TU,rfl⟩;k_places;have TV:0<j*h1:=Ii KK a3;have TW:j*h1<=Hh:=by
      rw[eH];exact Iz TU KK
    have UQ:=KY TW (show 0<=W by lia);refine#[.inl #[KK,KK],ite2 (λc=>?_) (λc=>?_)]
    . have c':=of_decide_eq_true c;have UR:j*h1<=720:=by
        have:=(dz (w:=W) (h:=j*h1) mw TV).2;lia
      have TX:j*h1/h1=j:=IC _ KK;refine#[λx=>∃v:Int,x=.int v/\0<=v/\v<w1/\∃i,v=i*w1+j*s1,#[_,rfl,_,rfl,#[KK,KK],.inl #[KK,KK],_,rfl,a1,_,rfl,cV a1,cX a1,?_],?_]
      . rw[TX];refine#[-(s1*j/w1),?_];have:=Jh (s1*j) w1;rw[this];have e1:s1*j=j*s1:=Iu _ _;have e2:w1*(s1*j/w1)=s1*j/w1*w1:=Iu _ _;rw[e2,Kf];lia
      rintro _⟨x0,rfl,x1,x2,i1,R5⟩;k_places;refine#[λm z=>∃(x:Int),z=[be (.tup [.int w1,.int h1,.int s1]),be (.tup [.int w2,.int h2,.int s2]),be (.int W),be (.int (j*h1)),be (.int x)]/\0<=x/\(∃i,x=i*w1+j*s1)/\(j=j0->x<=S)/\m=(W-x).toNat,#[_,x0,rfl,x1,#[i1,R5],λej=>?_,rfl],?_]
      . subst ej;obtain⟨k,ek,k0⟩:=CV a1 x2 x1 ms eS #[i1,R5];have:=Kc k0 (show 0<=w1 by lia);lia
      rintro m z⟨x,rfl,y0,⟨i2,ex⟩,yS,rfl⟩;k_places;refine ite2 (λc=>?_) (λc=>?_)
      . have cW:=of_decide_eq_true c;refine#[w2,h2,s2,x,j*h1,rfl,b1,b3,KK,b5,KK,?_];refine ite2 (λq=>?_) (λq=>?_)
        . have q':=of_decide_eq_true q;obtain⟨i3,k3,e3,e4⟩:=CS q';obtain⟨z1,z2⟩:=M.high a3 LY #[i2,ex] #[i3,k3,e3,e4];have Qr:j*h1=Hh:=by lia
          have:=z2 Qr y0 cW;subst this;have:=R4.1 (by rw[<-Qr];lia);rw[<-Qr]at this;exact#[MD,this]
        . have q':=of_decide_eq_false (IB.mpr q);refine#[λd=>d=.int (x+w1),#[_,rfl,rfl],?_];rintro _ rfl;k_places;refine#[_,KK,x+w1,rfl,KK,#[i2+1,NS],λej=>?_,rfl];subst ej;have hx:=yS rfl;have ne:x≠S:=by
            rintro rfl;obtain⟨i4,j4,e5,e6⟩:=M.up2;exact q' (in_fam (i:=i4) (j:=j4) b3 e5 (by rw[<-eH];exact e6))
          have:∃t:Int,S=x+t*w1:=#[i0-i2,by rw[ex];grind];obtain⟨t,et⟩:=this;have t1:1<=t:=by
            rcases(KK:t<=0\/1<=t)with z|z
            . have:=Ji z (show 0<=w1 by lia);lia
            . exact z
          have:=Iz t1 (show 0<=w1 by lia);lia
      . have cW:=of_decide_eq_false (IB.mpr c);have US:j<j0:=by
          rcases(KK:j<j0\/j=j0)with z|z
          . exact z
          . have:=yS z;lia
        refine#[λd=>d=.int ((j+1)*h1),#[_,rfl,by congr 1;grind],?_];rintro _ rfl;k_places;exact#[_,KK,j+1,_,rfl,KK,KK,rfl]
    . have c':=of_decide_eq_false (IB.mpr c);exact R4.2 KK
abbrev jz(V:Bx):Prop:=V.D 3 "_law_family" ng mj
def FR(T:V.T "_law_family" mZ ng)(OV:qu V)(Qu:qw V):jz V:=by
  refine Tx.okDW T sc__law_family (λds R h=>?_) (λf cdv A outer s H E J hr=>⟨_,((ai (aq 1 sc__law_family.nd (aw OV hr (ac (af (aa 0) ad) ae)))
      (ai (ic 2 PassesOwn.never rfl sc__law_family.nd (An (aa 0) ad) (ai (aq 1 sc__law_family.nd (aw Qu hr (ac (aa 1) (ac (aw OV hr (ac (aa 2) ae)) ae))))
        (ao (bf (kT (aa 1) bC) (ao (az bC)) aT))))
      (ao (az (aa 1)))))),λds R h=>?_⟩)
  . obtain⟨_,_,rfl,_⟩:=h;rfl
  . obtain⟨ls,n,rfl,j9,hg,hR⟩:=h;cases ls with
    |nil=>exact absurd rfl j9
    |cons l0 ls=>
    refine#[λx=>∃w h s:Int,x=.tup [.int w,.int h,.int s]/\FamOf l0.o0 l0.o1 l0.t0 l0.t1 w h s/\w*h<=288,#[_,bI (j:=0) rfl,l0,n,rfl,(hg l0 HV).1,(hg l0 HV).2,λw h s f q=>#[w,h,s,rfl,f,q]],?_];rintro _⟨w0,h0,s0,rfl,f0,q0⟩;k_places
    try simp only[Ij,Im]
    have ec:cutD (JS Leaf.D (l0::ls)) (be 1) v9=ls.map Leaf.D:=by rw[Il,cut1]
    refine#[λk z=>∃(w h s:Int) (o:Option D),z=[be (.lst ((l0::ls).map Leaf.D)),be (.tup [.int w,.int h,.int s]),o]/\Fam0 w h s/\w*h<=720/\∀x y,InF w h s x y↔bW (l0::ls.take k) x y,#[w0,h0,s0,_,rfl,#[f0.1,f0.2.1,f0.2.2.1,f0.2.2.2.1],KK,λx y=>?_],?_,?_]
    . rw[f0.lat];constructor
      . intro q l z;rcases HQ.mp z with e|e
        . rw[e];exact q
        . cases e
      . intro q;exact q l0 HV
    . rintro k v z hk⟨w,h,s,o,rfl,fm,R6,lat⟩;k_places;rw[ec,H9]at hk;have o8:k<ls.length:=by
        rcases Jq k ls.length with q|q
        . exact q
        . rw[ID q]at hk;cases hk
      have Nb:ls[k]?=be ls[k]:=Ih o8;rw[Nb]at hk;cases hk;obtain⟨gd,nr⟩:=hg ls[k] (HS _ (Ix o8));have Md:∀l∈ls.drop (k+1),l.Good/\l.Near n:=λl q=>hg l (HS _ (Ks q));have LG:∀x y,bW (l0::ls) x y↔(bW (l0::ls.take k) x y/\ls[k].Lat x y)/\bW (ls.drop (k+1)) x y:=λx y=>by
        have ed:ls=ls.take k++ls[k]::ls.drop (k+1):=by rw[<-Jj o8,Lq]
        constructor
        . intro q;refine#[#[λl z=>?_,q _ (HS _ (Ix o8))],λl z=>q l (HS _ (Ks z))];rcases HQ.mp z with e|e
          . exact q l (e ▸ HV)
          . exact q l (HS _ (List.mem_of_mem_take e))
        . rintro⟨⟨q1,q2⟩,q3⟩ l z;rcases HQ.mp z with e|e
          . exact q1 l (e ▸ HV)
          . rw[ed]at e;rcases Iy.mp e with e|e
            . exact q1 l (HS _ e)
            . rcases HQ.mp e with e|e
              . rw[e];exact q2
              . exact q3 l e
      have i_:∀x y,bW (l0::ls.take (k+1)) x y↔bW (l0::ls.take k) x y/\ls[k].Lat x y:=λx y=>by
        rw[mi Nb];constructor
        . intro q;refine#[λl z=>q l ?_,q _ (HS _ (Ik _ HV))];rcases HQ.mp z with e|e
          . rw[e];exact HV
          . exact HS _ (Ja _ e)
        . rintro⟨q1,q2⟩ l z;rcases HQ.mp z with e|e
          . exact q1 l (e ▸ HV)
          . rcases Iy.mp e with e|e
            . exact q1 l (HS _ e)
            . rw[HN.mp e];exact q2
      generalize ls[k]=l at gd nr LG i_;obtain⟨p1,p2⟩:=dz fm.w0 fm.h0;refine#[λx=>(∃w h s:Int,x=.tup [.int w,.int h,.int s]/\Fam0 w h s/\w*h<=720/\∀x y,InF w h s x y↔bW (l0::ls.take (k+1)) x y)\/(x=.non/\R .non),#[l,n,rfl,gd,nr,λw2 h2 s2 f2 b2=>?_],?_]
      . obtain⟨r1,r2⟩:=dz f2.1 f2.2.1;refine#[w,h,s,w2,h2,s2,rfl,#[fm.w0,KK,fm.h0,KK,fm.s0,fm.sw],#[f2.1,KK,f2.2.1,KK,f2.2.2.1,f2.2.2.2.1],λW Hh S A M=>#[λq=>?_,λq=>?_]]
        . refine .inl #[W,Hh,S,rfl,#[M.w0,M.h0,M.s0,M.sw],q,λx y=>?_];rw[M.lat,lat,f2.lat,i_];exact Iff.rfl
        . refine .inr #[rfl,?_];obtain⟨w3,h3,s3,f3,e3⟩:=vV (ls.drop (k+1)) W Hh S #[M.w0,M.h0,M.s0,M.sw] Md;refine(hR w3 h3 s3 f3 λx y=>?_).2 ?_
          . rw[e3,M.lat,lat,f2.lat,LG];exact Iff.rfl
          . have:=(InF.le M.w0 M.h0 f3.w0 f3.h0 (λx y z=>((e3 x y).mp z).1)).1;lia
      . rintro _ (⟨W,Hh,S,rfl,TY,q,e'⟩|⟨rfl,hn⟩);k_places
        . try simp only[Ij,Im]
          exact#[W,Hh,S,_,rfl,TY,q,e']
        . try simp only[Ij,Im]
          exact hn
    . rintro z⟨w,h,s,o,rfl,fm,R6,lat⟩;k_places;rw[ec,HR,JW]at lat;exact(hR w h s fm lat).1 R6
abbrev jA(V:Bx):Prop:=V.D 4 "_law_over" nq vY
def FS(T:V.T "_law_over" nj nq)(v4:V.m "max")(Nh:jz V):jA V:=by
 refine Tx.okDW T sc__law_over (λds R h=>?_) (λf cdv A outer s H E J hr=>⟨_,((ai (aq 2 sc__law_over.nd (am (af (aa 0) ad) (af (aa 1) ad)))
   (ai (bf (cy (dN (tK (gj rfl v4 (ac (af (aa 0) ad) (ac (af (aa 1) ad) ae))) ad) (dM (kT (aw Nh hr (ac (aa 2) ae)) bC)))) (ao (az (aa 0))) aT)
   (ao (az (bp (ac (am (am (am (am ax (af (aa 0) ad)) ax) (af (aa 1) ad)) ax) (ac (am ad (gj rfl v4 (ac (af (aa 0) ad) (ac (af (aa 1) ad) ae)))) (ac (aa 2) ae))))))))),λds R h=>?_⟩)
 .obtain⟨_,_,rfl,_⟩:=h;rfl
 .obtain⟨p,q,rfl,wp,wq,dp,dq,R7,TZ⟩:=h;have n1:=Pat.leaves_32 dp;have n2:=Pat.leaves_32 dq;refine#[λx=>x=.lst ((Pat.over p q).leaves.map Leaf.D),#[_,rfl,_,rfl,?_,?_],?_]
  .rw[HR,HR];lia
  .rw[Pat.leaves,Ip]
  rintro _ rfl;k_places;refine#[_,rfl,_,rfl,ite2 (λc=>R7) (λc=>?_)];have c':=of_decide_eq_false (IB.mpr c);have ep:p.depth<5/\q.depth<5:=by
   split at c'<;>lia
  refine#[(Pat.over p q).leaves,(Pat.over p q).depth,rfl,?_,λl hl=>Pat.leaf_good (p:=.over p q) #[wp,wq] l hl,λw h s f lat=>#[λsm=>?_,λ_=>R7]]
  .intro z;have:(Pat.over p q).leaves.length=0:=by rw[z];rfl
   rw[Pat.leaves,Ia]at this;have:=Pat.leaves_pos p;lia
  have t1:=Pat.text_short wp dp;have t2:=Pat.text_short wq dq;have l1:("(":LB).length=1:=rfl;have l2:("|":LB).length=1:=rfl;have l3:(")":LB).length=1:=rfl;have Qf:(Pat.over p q).Fits:=#[w,h,s,#[f,λx y=>(lat x y).trans (Pat.lat_leaves (.over p q) x y)],sm];refine#[_,rfl,?_,?_,_,rfl,?_,?_,_,rfl,_,rfl,MD,?_]
  .lia
  .rw[aJ];lia
  .rw[aJ,aJ];lia
  .rw[aJ,aJ,aJ];lia
  have g:=TZ ep.1 ep.2 Qf;have e:(1+(if(q.depth:Int)>(p.depth:Int)then(q.depth:Int)else(p.depth:Int)))=(((Pat.over p q).depth:Nat):Int):=by
   rw[Pat.depth];split<;>lia
  unfold Pat.D at g;rw[<-e]at g;exact g
abbrev jB(V:Bx):Prop:=V.D 5 "_law_pattern" nu CZ
def FT(T:V.T "_law_pattern" nt nu)(uA:V.m "range")(LV:gN V)(MQ:jw V)(uP:gO V)(Me:jA V):jB V:=by
  refine Tx.okDW T sc__law_pattern (λds R h=>?_) (λf cdv A outer s H E J hr=>⟨_,((ai (aq 2 sc__law_pattern.nd (aw LV hr (ac (aa 0) (ac (aa 1) (ac ad ae)))))
      (ai (aq 3 sc__law_pattern.nd (aw MQ hr (ac (aa 0) (ac (am (aa 1) ad) ae))))
      (ai (bY 4 PassesOwn.never rfl sc__law_pattern.nd uA (aD (af (aa 2) ad) ad) (ai (aq 5 sc__law_pattern.nd (af (aa 2) (am ad (ay ad (aa 4)))))
        (ao (fY (bj (aD (aa 5) ad) ad) (ao (aq 3 sc__law_pattern.nd (aw uP hr (ac (aa 3) (ac (aW (aa 5) ad) ae))))) (ai (aq 6 sc__law_pattern.nd (aw MQ hr (ac (aa 0) (ac (am (am (aa 1) ad) (ay ad (aa 4))) ae))))
         (ai (fY (bj (aD (aW (aa 5) ad) ad) ad) (ao (aq 6 sc__law_pattern.nd (aw uP hr (ac (aa 6) (ac (af (aa 2) (am ad (ay ad (aa 4)))) ae))))) aT)
         (ao (aq 3 sc__law_pattern.nd (af (bp (ac (aw Me hr (ac (aa 3) (ac (aa 6) ae))) (ac (aw Me hr (ac (aa 6) (ac (aa 3) ae))) ae))) (aD (aW (aa 5) ad) ad))))))))))
      (ao (az (aa 3))))))),λds R h=>?_⟩)
  . obtain⟨_,_,rfl,_⟩:=h;rfl
  . obtain⟨ns,k,rfl,hk,hR⟩:=h;refine#[λx=>∃xs:List Int,x=.lst (xs.map D.int)/\xs.length=13/\Drawn xs,#[ns,k,13,rfl,hk,Mx,λxs h1 h2=>#[xs,rfl,h1,h2]],?_];rintro _⟨xs,rfl,hl,hd⟩;k_places;refine#[λx=>∃p:Pat,x=p.D/\p.Ok,#[ns,k+2,rfl,KK,λL a b c d h1 h2 h3 h4 h5 h6=>#[.mot L a b c d,rfl,#[h1,h2,h3,h4,h5,h6],by simp[Pat.depth],Pat.fits_mot h2 h3 h4 h5 h6]],?_];rintro _⟨p0,rfl,N9⟩;k_places;have a0:=cI (xs:=xs) (k:=0) Mx (show 0<xs.length by lia);have h7:=cV (a:=cell xs 0) (show(0:Int)<7 by decide);have h8:=cX (a:=cell xs 0) (show(0:Int)<7 by decide);refine#[_,a0,Mx,#[KK,KK],λi z=>∃(p:Pat) (o1 o2 o3:Option D),z=[be (.rol (ns.map D.int)),be (.int k),be (.lst (xs.map D.int)),be p.D,o1,o2,o3]/\p.Ok,#[p0,_,_,_,rfl,N9],?_,?_]
    . rintro i v z hi⟨p,o1,o2,o3,rfl,ok⟩;k_places;obtain⟨j3,rfl⟩:=bK hi;have a1:=cI (xs:=xs) (k:=1+2*(i:Int)) KK KK;have a2:=cI (xs:=xs) (k:=2+2*(i:Int)) KK KK;generalize cell xs (1+2*(i:Int))=st at a1;generalize cell xs (2+2*(i:Int))=sv at a2;refine#[λx=>x=.int st,#[.inr #[KK,KK],_,a1,rfl],?_];rintro _ rfl;k_places;refine#[λz=>∃(p:Pat) (o3:Option D),z=[be (.rol (ns.map D.int)),be (.int k),be (.lst (xs.map D.int)),be p.D,be (.int i),be (.int st),o3]/\p.Ok,#[Mx,ite2 (λc=>?_) (λc=>?_)],?_]
      . refine#[λx=>∃p:Pat,x=p.D/\p.Ok,#[#[Mx,Mx],p,_,rfl,ok.wf,ok.deep,by have:=Pat.text_short ok.wf ok.deep;lia,Wraps.of ok λq hq=>#[q,rfl,hq]],?_];rintro _⟨q,rfl,g6⟩;k_places;exact#[q,_,rfl,g6]
      . refine#[λx=>∃p:Pat,x=p.D/\p.Ok,#[.inr #[KK,KK],ns,k+4+2*(i:Int),rfl,KK,λL a b c d h1 h2 h3 h4 h5 h6=>#[.mot L a b c d,rfl,#[h1,h2,h3,h4,h5,h6],by simp[Pat.depth],Pat.fits_mot h2 h3 h4 h5 h6]],?_];rintro _⟨q,rfl,g6⟩;k_places;refine#[λz=>∃(q:Pat),z=[be (.rol (ns.map D.int)),be (.int k),be (.lst (xs.map D.int)),be p.D,be (.int i),be (.int st),be q.D]/\q.Ok,#[#[Mx,Mx],Mx,ite2 (λc=>?_) (λc=>?_)],?_]
        . refine#[λx=>∃p:Pat,x=p.D/\p.Ok,#[.inr #[KK,KK],_,a2,q,_,rfl,g6.wf,g6.deep,by have:=Pat.text_short g6.wf g6.deep;lia,Wraps.of g6 λq hq=>#[q,rfl,hq]],?_];rintro _⟨q,rfl,g6⟩;k_places;exact#[q,rfl,g6]
        . exact#[q,rfl,g6]
        rintro _⟨q,rfl,g6⟩;k_places;refine#[λx=>∃p:Pat,x=p.D/\p.Ok,?_,?_]
        . have e8:∀r r':Pat,r.Ok->r'.Ok->∃x,atI [r.D,r'.D] (st/4%2)=be x/\∃p:Pat,x=p.D/\p.Ok:=λr r' hr T1=>by
            rcases(KK:st/4%2=0\/st/4%2=1)with e|e<;>rw[e]
            . exact#[_,rfl,r,rfl,hr]
            . exact#[_,rfl,r',rfl,T1]
          have R8:p.depth<5->q.depth<5->(Pat.over p q).Fits->(Pat.over p q).Ok:=λd1 d2 ft=>#[#[ok.wf,g6.wf],by simp only[Pat.depth];lia,ft];have R9:q.depth<5->p.depth<5->(Pat.over q p).Fits->(Pat.over q p).Ok:=λd1 d2 ft=>#[#[g6.wf,ok.wf],by simp only[Pat.depth];lia,ft];refine#[p,q,rfl,ok.wf,g6.wf,ok.deep,g6.deep,?_,λd1 d2 ft=>?_]<;>refine#[q,p,rfl,g6.wf,ok.wf,g6.deep,ok.deep,?_,λd3 d4 R_=>?_]<;>refine#[MD,#[Mx,Mx],Mx,?_]
          . exact e8 _ _ ok g6
          . exact e8 _ _ ok (R9 d3 d4 R_)
          . exact e8 _ _ (R8 d1 d2 ft) g6
          . exact e8 _ _ (R8 d1 d2 ft) (R9 d3 d4 R_)
        rintro _⟨q',rfl,Qv⟩;k_places;exact#[q',_,rfl,Qv]
      rintro _⟨q,o3,rfl,g6⟩;k_places;exact#[q,_,_,_,rfl,g6]
    . rintro z⟨p,o1,o2,o3,rfl,ok⟩;k_places;exact hR p ok
def FU:SpD:=λds R=>∃(p:Pat) (k:Int),ds=[p.D,.int k]/\p.Ok/\(k=0\/k=1)/\∀q:Pat,q.Ok->R q.D
abbrev qy(V:Bx):Prop:=V.D 4 "_law_shifted_home" nw FU
def FV(T:V.T "_law_shifted_home" nv nw)(Nh:jz V)(uP:gO V):qy V:=by
 refine Tx.okDW T sc__law_shifted_home (λds R h=>?_) (λf cdv A outer s H E J hr=>⟨_,((ai (aq 2 sc__law_shifted_home.nd (aw Nh hr (ac (af (aa 0) ad) ae)))
   (ai (gf rfl (af (bp (ac (aI (ac (af (aa 2) ad) (ac ad ae))) (ac (aI (ac (af (aa 2) ad) (ac (af (aa 2) ad) ae))) ae))) (aa 1)) (dg_cons 3 sc__law_shifted_home.nd (dg_cons 4 sc__law_shifted_home.nd cG)))
   (ai (bf (cy (dN (fV (aa 3) ad) (dM (fV (aa 4) ad)))) (ao (az (aa 0))) aT)
   (ao (az (aw uP hr (ac (aa 0) (ac (am (am ad (ay ad (am (aa 3) ad))) (ay ad (am (aa 4) ad))) ae))))))))),λds R h=>?_⟩)
 .obtain⟨_,_,rfl,_⟩:=h;rfl
 .obtain⟨p,k,rfl,ok,hk,hR⟩:=h;refine#[FamD p,#[_,rfl,DR ok],?_];rintro _⟨w,h,s,rfl,F,wh,w7,h7⟩;k_places;have Qw:∃a b:Int,atI [D.tup [.int w,.int 0],.tup [.int s,.int h]] k=be (.tup [.int a,.int b]):=by
   rcases hk with rfl|rfl
   .exact#[_,_,rfl]
   .exact#[_,_,rfl]
  obtain⟨a,b,e⟩:=Qw;refine#[_,rfl,NL,_,rfl,_,rfl,NL,NL,_,e,rfl,ite2 (λ_=>hR p ok) λ_=>ite2 (λ_=>hR p ok) λ_=>?_];exact#[.inl #[Mx,Mx],.inl #[Mx,Mx],p,_,rfl,ok.wf,ok.deep,by have:=Pat.text_short ok.wf ok.deep;omega,Wraps.of ok hR]
def FW:SpD:=λds R=>∃(p:Pat) (n:Int) (c:Nat),ds=[p.D,.int n,.str #[[c].toArray]]/\p.Ok/\bg c/\∀q:Pat,q.Ok->R q.D
abbrev qz(V:Bx):Prop:=V.D 1 "_law_respelled" nz FW
def FX(T:V.T "_law_respelled" ny nz)(uB:V.m "len")(x_:V.m "list"):qz V:=by
 refine Tx.okDW T sc__law_respelled (λds R h=>?_) (λf cdv A outer s H E J hr=>⟨_,((ai (aq 3 sc__law_respelled.nd (af (af (aa 0) ad) ad))
   (ai (aq 4 sc__law_respelled.nd (bP uB (ac (af (af (aa 3) ad) ad) ae)))
   (ai (aq 5 sc__law_respelled.nd (aW (aD (aa 1) (ay (aa 4) (bP uB (ac (af (aa 3) ad) ae)))) (aa 4)))
   (ai (aq 6 sc__law_respelled.nd (aD (aa 1) (aa 4)))
   (ai (B3 7 x_ sc__law_respelled.nd (ac (af (aa 3) ad) ae))
   (ai (ul 7 (am (am (cB (lh 7 (aa 5)) cz (cA (aa 6))) (aa 2)) (cB (lh 7 (aa 5)) (cA (am (aa 6) ad)) cz)) (aa 5))
   (ai (aq 8 sc__law_respelled.nd (am (am (am (lC (af (aa 0) ad) (ac ax ae)) ad) (ay (aa 5) (am (aa 4) ad))) (aa 6)))
   (ai (aq 9 sc__law_respelled.nd (am (am (cB (af (aa 0) ad) cz (cA (aa 8))) (aa 2)) (cB (af (aa 0) ad) (cA (am (aa 8) ad)) cz)))
   (df 7 (ao (az (bp (ac (aa 9) (ac (af (aa 0) ad) (ac (am (bp (ac (aI (ac (aa 7) (ac (af (aa 3) ad) (ac (af (aa 3) ad) (ac (af (aa 3) ad) (ac (af (aa 3) ad) ae)))))) ae)) (cB (af (aa 0) ad) (cA ad) cz)) ae)))))))))))))))),λds R h=>?_⟩)
 .obtain⟨_,_,_,rfl,_⟩:=h;rfl
 .obtain⟨p,n,c,rfl,ok,hc,hR⟩:=h;obtain⟨A,B,l,ls,r⟩:=Pat.re_ex ok.wf;obtain⟨m,w,w8,hr⟩:=r.rows;have hw:∀s∈l.rows,s.length=w:=λs hs=>(hr s hs).1;have T3:=Pat.text_short ok.wf ok.deep;have Sa:=cr p;rw[r.tl]at Sa;obtain⟨i0,rest,eo,ei⟩:=Fj Sa r.no;have wm:0<w*l.rows.length:=Nat.mul_pos MC MC;obtain⟨j,hj,jm⟩:∃j:Nat,n%((w:Int)*l.rows.length)/w=j/\j<l.rows.length:=by
   have h0:=IV n (show((w*l.rows.length:Nat):Int)≠0 by omega);have h1:=IW n (show 0<((w*l.rows.length:Nat):Int)by omega);rw[Ke]at h0 h1;have q0:=J1 h0 (show 0<=(w:Int)by omega);have q1:=Int.ediv_lt_of_lt_mul (show 0<(w:Int)by omega) (show n%((w:Int)*l.rows.length)<(l.rows.length:Int)*w by rw[Iu (l.rows.length:Int)];exact h1);exact#[(n%((w:Int)*l.rows.length)/w).toNat,MC,MC]
  obtain⟨i,hi,iw⟩:∃i:Nat,n%(w:Int)=i/\i<w:=by
   have h0:=IV n (show(w:Int)≠0 by omega);have h1:=IW n (show 0<(w:Int)by omega);exact#[(n%(w:Int)).toNat,MC,MC]
  have T4:atI (p.leaves.map Leaf.D) 0=be l.D:=bI (j:=0) (by rw[r.leaves];rfl);have Qx:atI (l.rows.map D.str) 0=be (.str (l.rows[0]' MC)):=bI (j:=0) (by rw[H9,Ih (show 0<l.rows.length by omega)];rfl);have N_:atI (l.rows.map D.str) (j:Int)=be (.str l.rows[j]):=bI (by rw[H9,Ih jm];rfl);have Qy:=hw (l.rows[0]' MC) (Ix _);have T5:=hw l.rows[j] (Ix jm);refine#[λd=>d=l.D,#[_,rfl,_,T4,rfl],?_];rintro _ rfl;k_places;refine#[λd=>d=.int (w:Int),#[_,rfl,_,Qx,MC,by rw[Qy]],?_];rintro _ rfl;k_places;refine#[λd=>d=.int (j:Int),#[_,rfl,.inl #[MC,MC],?_,#[MC,MC],?_],?_]
  .rw[HR,<-Ke];omega
  .rw[HR,hj]
  rintro _ rfl;k_places;refine#[λd=>d=.int (i:Int),#[MC,by rw[hi]],?_];rintro _ rfl;k_places;show dSeq _ _ _ [_,_,_,_,_,_,_,_,_,_];refine#[_,rfl,?_];have s1:=Txt.slice_le l.rows[j] v9 (be (i:Int));have s2:=Txt.slice_le l.rows[j] (be ((i:Int)+1)) v9;have c1:(#[[c].toArray]:LB).length=1:=rfl;have hs:=wQ (c:=c) (show i<l.rows[j].length by omega);generalize Mb:((Txt.slice l.rows[j] v9 (be (i:Int))++#[[c].toArray])++Txt.slice l.rows[j] (be ((i:Int)+1)) v9:LB)=s' at hs;obtain⟨q,g6,dq,lq,sp,tq⟩:=r.put ok hw jm iw hc hs;refine#[_,N_,MC,MC,_,N_,MC,by rw[aJ];omega,j,?_,?_]
  .rw[HR];unfold ixN;rw[if_pos MC,if_pos MC,IM]
  rw[Mb,<-Lp];have T6:(i0:Int)=A.length:=MC
  refine#[λd=>d=.int ((A.length+1+j*(w+1)+i:Nat):Int),#[_,rfl,i0,rest,eo,.inl #[MC,MC],?_],?_]
  .show D.int _=D.int _;rw[T6];simp
  rintro _ rfl;k_places;have t1:=Txt.slice_le p.text v9 (be ((A.length+1+j*(w+1)+i:Nat):Int));have t2:=Txt.slice_le p.text (be (((A.length+1+j*(w+1)+i:Nat):Int)+1)) v9;refine#[λd=>d=.str q.text,#[_,rfl,MC,MC,_,rfl,MC,by rw[aJ];omega,?_],?_]
  .show D.str _=D.str _;rw[tq _ (wQ sp)]
  rintro _ rfl;k_places;have UT:=Pat.leaves_32 ok.deep;have ec:cutD (p.leaves.map Leaf.D) (be 1) v9=ls.map Leaf.D:=by rw[r.leaves,Il,cut1]
  refine#[_,rfl,_,rfl,_,rfl,_,rfl,_,rfl,by show(5:Nat)<=1000;decide,Rw,_,rfl,?_,by show(3:Nat)<=1000;decide,?_]
  .have:=congrArg JA r.leaves;rw[HX]at this;show 1+(cutD (p.leaves.map Leaf.D) (be 1) v9).length<=1000000;rw[ec,HR];omega
  have e:=hR q g6;unfold Pat.D at e;rw[dq,lq,Il,<-ec]at e;exact e
def FY:SpD:=λds R=>∃(p:Pat) (ns:List Int) (k d:Int),ds=[p.D,.rol (ns.map D.int),.int k,.int d]/\p.Ok/\0<=k/\∀q:Pat,q.Ok->R q.D
abbrev qA(V:Bx):Prop:=V.D 6 "_law_twin" nB FY
def FZ(T:V.T "_law_twin" nA nB)(uP:gO V)(Me:jA V)(Qz:qy V)(MQ:jw V)(QA:qz V)(Ni:jB V):qA V:=by
 refine Tx.okDW T sc__law_twin (λds R h=>?_) (λf cdv A outer s H E J hr=>⟨_,((ai (aq 4 sc__law_twin.nd (aD (aa 3) ad))
   (ai (aq 3 sc__law_twin.nd (aW (aa 3) ad))
   (ai (bf (cy (ia (bj (aa 4) ad) (hZ (kS (af (aa 0) ad) ad)))) (ao (az (aw uP hr (ac (aw uP hr (ac (aa 0) (ac ad ae))) (ac ad ae))))) aT)
   (ai (bf (cy (ia (bj (aa 4) ad) (hZ (kS (af (aa 0) ad) ad)))) (ao (az (aw uP hr (ac (aw uP hr (ac (aw uP hr (ac (aw uP hr (ac (aa 0) (ac ad ae))) (ac ad ae))) (ac ad ae))) (ac ad ae))))) aT)
   (ai (bf (bj (aa 4) ad) (ao (az (aw Me hr (ac (aa 0) (ac (aa 0) ae))))) aT)
   (ai (bf (bj (aa 4) ad) (ao (az (aw Qz hr (ac (aa 0) (ac (aD (aa 3) ad) ae))))) aT)
   (ai (bf (bj (aa 4) ad) (ao (az (aw uP hr (ac (aa 0) (ac (am ad (ay ad (aD (aa 3) ad))) ae))))) aT)
   (ai (bf (bj (aa 4) ad) (ao (az (aw Me hr (ac (aa 0) (ac (aw MQ hr (ac (aa 1) (ac (aa 2) ae))) ae))))) aT)
   (ai (bf (bj (aa 4) ad) (ao (az (aw QA hr (ac (aa 0) (ac (aW (aa 3) ad) (ac (af ax (aD (aa 3) ad)) ae)))))) aT)
   (ai (bf (bj (aa 4) ad) (ao (az (aw Ni hr (ac (aa 1) (ac (aa 2) ae))))) aT)
   (ao (az (aa 0)))))))))))))),λds R h=>?_⟩)
 .obtain⟨_,_,_,_,rfl,_⟩:=h;rfl
 .obtain⟨p,ns,k,d,rfl,ok,k0,hR⟩:=h;have wr:∀{q:Pat},q.Ok->q.text.length<=100000:=λ{q} h=>by have:=Pat.text_short h.wf h.deep;omega
  refine#[λx=>x=.int (d%9),#[Mx,rfl],?_];rintro _ rfl;k_places;refine#[λx=>x=.int (d/9),#[#[Mx,Mx],rfl],?_];rintro _ rfl;k_places;show dSeq _ _ _ [_,_,_,_,_];refine(λhr=>ite2 (λ_=>#[_,rfl,ite2 (λ_=>#[p,0,rfl,ok.wf,ok.deep,wr ok,Wraps.of ok λq k=>#[q,0,rfl,k.wf,k.deep,wr k,Wraps.of k hR]]) (λ_=>hr)]) (λ_=>hr)) ?_;refine ite2 (λz=>nomatch z) λ_=>?_;refine(λhr=>ite2 (λ_=>#[_,rfl,ite2 (λ_=>#[p,1,rfl,ok.wf,ok.deep,wr ok,Wraps.of ok λq k=>#[q,1,rfl,k.wf,k.deep,wr k,Wraps.of k λq k=>#[q,1,rfl,k.wf,k.deep,wr k,Wraps.of k λq k=>#[q,1,rfl,k.wf,k.deep,wr k,Wraps.of k hR]]]]) (λ_=>hr)]) (λ_=>hr)) ?_;refine ite2 (λz=>nomatch z) λ_=>?_;refine ite2 (λ_=>wR ok ok hR) λ_=>?_;refine ite2 (λ_=>#[Mx,p,_,rfl,ok,MC,hR]) λ_=>?_;refine ite2 (λ_=>#[Mx,.inl #[Mx,Mx],p,_,rfl,ok.wf,ok.deep,wr ok,Wraps.of ok hR]) λ_=>?_;refine ite2 (λ_=>#[ns,k,rfl,k0,λL a b c d h1 h2 h3 h4 h5 h6=>wR (q:=.mot L a b c d) ok #[#[h1,h2,h3,h4,h5,h6],by simp[Pat.depth],Pat.fits_mot h2 h3 h4 h5 h6] hR]) λ_=>?_;refine ite2 (λ_=>?_) λ_=>?_
  .obtain⟨c,hc,OE⟩:=Fp (d/9);exact#[#[Mx,Mx],Mx,c,#[Mx,hc],p,_,c,rfl,ok,OE,hR]
  refine ite2 (λ_=>#[ns,k,rfl,k0,hR]) λ_=>hR p ok
abbrev qB(V:Bx):Prop:=V.D 2 "_law_leaf_shows" nD CG
def F4(T:V.T "_law_leaf_shows" nC nD)(uA:V.m "range")(uB:V.m "len")(uE:V.m "int")(Ng:jy V):qB V:=by
 refine Tx.okDW T sc__law_leaf_shows (λds R h=>?_) (λf cdv A outer s H E J hr=>⟨_,((ai (aq 3 sc__law_leaf_shows.nd (af (aa 0) ad))
   (ai (aq 4 sc__law_leaf_shows.nd (am (am (ay (af (aa 3) ad) (aa 1)) (ay (af (aa 3) ad) (aa 2))) (af (aa 3) ad)))
   (ai (aq 5 sc__law_leaf_shows.nd (am (am (ay (af (aa 3) ad) (aa 1)) (ay (af (aa 3) ad) (aa 2))) (af (aa 3) ad)))
   (ai (bY 6 PassesOwn.never rfl sc__law_leaf_shows.nd uA (bP uB (ac (af (aa 0) ad) ae)) (ao (bY 7 PassesOwn.never rfl sc__law_leaf_shows.nd uA (bP uB (ac (af (af (aa 0) ad) (aa 6)) ae)) (ao (bf (cy (ia (ce (af (af (af (aa 0) ad) (aa 6)) (aa 7)) ax) (hZ (cx (aw Ng hr (ac (af (aa 0) ad) (ac (af (aa 0) ad) (ac (bt (aa 4) (aa 7)) (ac (bt (aa 5) (aa 6)) ae))))))))) (ao (az (af (af (aa 0) ad) (ie uE (ac (af (af (af (aa 0) ad) (aa 6)) (aa 7)) ae))))) aT)))))
   (ao (az ad))))))),λds R h=>?_⟩)
 .obtain⟨_,_,_,rfl,_⟩:=h;rfl
 .obtain⟨l,x,y,rfl,ok,hR⟩:=h;obtain⟨hm,wd,Oa,N7⟩:=id ok.rows;refine#[λd=>d=.tup [.int l.w0,.int l.w1,.int l.w2,.int l.w3,.int l.w4,.int l.w5],#[_,rfl,rfl],?_];rintro _ rfl;k_places;refine#[λd=>d=.int (l.w0*x+l.w1*y+l.w4),#[_,rfl,.inl (n64 ok.w0),_,rfl,.inl (n64 ok.w1),_,rfl,rfl],?_];rintro _ rfl;k_places;refine#[λd=>d=.int (l.w2*x+l.w3*y+l.w5),#[_,rfl,.inl (n64 ok.w2),_,rfl,.inl (n64 ok.w3),_,rfl,rfl],?_];rintro _ rfl;k_places;have Mf:R (.int (match l.hit x y with|some c=>cell l.hues ((c:Int)-48)|none=>0)):=hR;unfold Leaf.hit at Mf;generalize l.w0*x+l.w1*y+l.w4=U at Mf ⊢;generalize l.w2*x+l.w3*y+l.w5=V at Mf ⊢;generalize ef:(λi j=>onB l.a l.b l.c l.d (U-i) (V-j))=f at Mf;have e0:∀i j,f i j=onB l.a l.b l.c l.d (U-i) (V-j):=λi j=>by rw[<-ef]
  have b8:((l.rows.map D.str).length:Int).toNat=l.rows.length:=MD
  refine#[_,rfl,#[KK,Uw],λk z=>∃o1 o2:Option D,z=[be l.D,be (.int x),be (.int y),be (.tup [.int l.w0,.int l.w1,.int l.w2,.int l.w3,.int l.w4,.int l.w5]),be (.int U),be (.int V),o1,o2]/\bV f 0 l.rows=bV f k (l.rows.drop k),#[_,_,rfl,rfl],?_,?_]
  .rintro j v z hj⟨o1,o2,rfl,hs⟩;k_places;obtain⟨M_,rfl⟩:=bK hj;rw[b8]at M_;have Ob:l.rows[j]?=be l.rows[j]:=Ih M_;have F_:l.rows.drop j=l.rows[j]::l.rows.drop (j+1):=Jj M_;obtain⟨OT,N6⟩:=N7 l.rows[j] (Ix M_);generalize l.rows[j]=row at Ob F_ OT N6;have MU:=at_str Ob;have g9:=bn row;refine#[_,rfl,_,MU,KK,#[KK,KK],λi z=>∃o2:Option D,z=[be l.D,be (.int x),be (.int y),be (.tup [.int l.w0,.int l.w1,.int l.w2,.int l.w3,.int l.w4,.int l.w5]),be (.int U),be (.int V),be (.int j),o2]/\scanRow (λi=>f i j) 0 (cs row)=scanRow (λi=>f i j) i ((cs row).drop i),#[_,rfl,rfl],?_,?_]
   .rintro i v z hi⟨o2,rfl,Nj⟩;k_places;obtain⟨j3,rfl⟩:=bK hi;have QB:i<(cs row).length:=by lia
    have LZ:(cs row).drop i=(cs row)[i]::(cs row).drop (i+1):=Jj QB;have Oc:=N6 (cs row)[i] (Ix QB);have QC:atI (cs row) (i:Int)=be (cs row)[i]:=bI (Ih QB);generalize (cs row)[i]=c at LZ Oc QC;refine#[_,rfl,_,MU,c,#[KK,QC],ite2 (λq=>?_) (λq=>?_)]
    .have x9:¬c=46:=by
      intro z;have:(#[[c].toArray]:LB)=".":=one_sign.mpr z;simp[this]at q
     refine#[_,rfl,_,rfl,l.a,l.b,l.c,l.d,U-i,V-j,rfl,ok.a.lt,ok.b.lt,ok.c.lt,ok.d.lt,ok.ne,?_];refine ite2 (λq2=>?_) (λq2=>?_)
     .have e8:f i j=true:=by rw[e0];exact q2
      have T7:49<=c/\c<=54:=by unfold bg at Oc;lia
      refine#[_,rfl,_,rfl,_,MU,c,#[KK,QC],_,#[digit_of T7,by show 1<=640;decide],_,cI KK (by rw[ok.many];lia),?_];rw[hs,F_,bV,Nj,LZ,scanRow,if_pos #[x9,e8]]at Mf;exact Mf
     .have e8:¬f i j=true:=by rw[e0];exact q2
      refine#[_,rfl,?_];rw[Nj,LZ,scanRow,if_neg (λz=>e8 z.2)]
    .have x9:c=46:=by
      rcases Classical.em (c=46)with z|z
      .exact z
      .exact absurd (by
        have:¬(#[[c].toArray]:LB)=".":=λw=>z (one_sign.mp w);simp[this]) q
     refine#[_,rfl,?_];rw[Nj,LZ,scanRow,if_neg (λz=>z.1 x9)]
   .rintro z⟨o2,rfl,Nj⟩;k_places;refine#[_,_,rfl,?_];have hn:((row.length:Int).toNat)=(cs row).length:=by lia
    rw[bL,hn,Kt (HP _),scanRow]at Nj;rw[hs,F_,bV,Nj]
  .rintro z⟨o1,o2,rfl,hs⟩;k_places;rw[bL,b8,Kt (HP _),bV]at hs;rw[hs]at Mf;exact Mf
abbrev qC(V:Bx):Prop:=V.D 3 "_law_shows" nF CH
def F5(T:V.T "_law_shows" nE nF)(QE:qB V):qC V:=by
 refine Tx.okDW T sc__law_shows (λds R h=>?_) (λf cdv A outer s H E J hr=>⟨_,((ai (ic 3 PassesOwn.never rfl sc__law_shows.nd (aa 0) (ai (aq 4 sc__law_shows.nd (aw QE hr (ac (aa 3) (ac (aa 1) (ac (aa 2) ae)))))
    (ao (bf (ce (aa 4) ad) (ao (az (aa 4))) aT))))
   (ao (az ad)))),λds R h=>?_⟩)
 .obtain⟨_,_,_,rfl,_⟩:=h;rfl
 .obtain⟨ls,x,y,rfl,ok,hR⟩:=h;refine#[λk z=>∃o1 o2:Option D,z=[be (.lst (ls.map Leaf.D)),be (.int x),be (.int y),o1,o2]/\bb ls x y=bb (ls.drop k) x y,#[_,_,rfl,rfl],?_,?_]
  .rintro k v z hk⟨o1,o2,rfl,hs⟩;k_places;rw[H9]at hk;have o8:k<ls.length:=by
    rcases Jq k ls.length with q|q
    .exact q
    .rw[ID q]at hk;cases hk
   rw[Ih o8]at hk;cases hk;have ed:ls.drop k=ls[k]::ls.drop (k+1):=Jj o8;have Sb:=ok ls[k] (Ix o8);generalize ls[k]=l at ed Sb;refine#[λd=>d=.int (l.shows x y),#[l,x,y,rfl,Sb,rfl],?_];rintro _ rfl;k_places;refine ite2 (λq=>?_) (λq=>?_)
   .have q':¬l.shows x y=0:=by simpa using q
    rw[hs,ed,bb,if_pos q']at hR;exact hR
   .have q':l.shows x y=0:=by simpa using q
    refine#[_,_,rfl,?_];rw[hs,ed,bb,if_neg (λz=>z q')]
  .rintro z⟨o1,o2,rfl,hs⟩;k_places;rw[HR,Kt (HP _),bb]at hs;rw[hs]at hR;exact hR
def F6:SpD:=λds R=>∃(p:Pat) (w h:Int),ds=[.lst (p.leaves.map Leaf.D),.int w,.int h]/\p.Ok/\0<=w/\w<=30/\0<=h/\h<=30/\R (.lst (aC p w 0 h.toNat))
abbrev qD(V:Bx):Prop:=V.D 4 "_law_floor_rows" nG F6
def F7(T:V.T "_law_floor_rows" iI nG)(uA:V.m "range")(QF:qC V):qD V:=by
 refine Tx.okDW T sc__law_floor_rows (λds R h=>?_) (λf cdv A outer s H E J hr=>⟨_,((ai (fZ 3 sc__law_floor_rows.nd ae)
   (ai (bY 4 PassesOwn.never rfl sc__law_floor_rows.nd uA (aa 2) (ao (gc 3 (lf (ii rfl (compScope (by change dh _ (ah iI) ["_law_leaves","_law_wide","_law_high","_law_lines_here","_law_y"] _=true;decide+kernel)) uA (aa 1) (λcl s0 H0 fp=>(af ax (aw QF hr (ac (aa 0) (ac (aa 5) (ac (aa 4) ae)))))))))))
   (df 3 (ao (az (aa 3))))))),λds R h=>?_⟩)
 .obtain⟨_,_,_,rfl,_⟩:=h;rfl
 .obtain⟨p,w,h,rfl,ok,w0,w7,h0,h7,hR⟩:=h;have dp:=ok.deep;refine#[MD,?_];refine#[#[KK,KK],λk z=>∃o,z=[be (.lst (p.leaves.map Leaf.D)),be (.int w),be (.int h),be (.own (aC p w 0 k)),o],#[_,rfl],?_,?_]
  .rintro k v z hk⟨o,rfl⟩;k_places;obtain⟨p_,rfl⟩:=bK hk;refine#[#[KK,KK],by rw[bL];lia,λi ys=>ys=rowD p 0 k i,rfl,?_,?_]
   .rintro i v ys hi hl rfl;obtain⟨y7,rfl⟩:=bK hi;refine#[p.leaves,i,k,rfl,Pat.leaf_ok ok.wf KK,?_];rw[Pat.show_leaves ok.wf KK];obtain⟨b0,b6⟩:=Pat.show_le ok.wf KK (i:Int) k;refine#[_,#[Mx,ww b0 b6],?_];show rowD p 0 k i++_=rowD p 0 k (i+1);rw[<-wz,Jy]
   .rintro ys hl rfl;rw[bL];obtain⟨ys,e1,e2,e3⟩:=wA p 0 (k:Int) (n:=w.toNat) KK;refine#[ys,e1,e2,?_];rw[e3];refine#[by unfold aC;simp;lia,be (.int k),?_];rw[<-qo,Jy];rfl
  .rintro z⟨o,rfl⟩;k_places;rw[bL];exact hR
def F8:SpM:=λds M R _=>∃a q f w,ds=[.ptr a,.str w]/\a≠q/\M=Fl.M f a q/\f.ds.length<=20/\∀q',a≠q'->R .non ((f.keep w).M a q')
abbrev jC(V:Bx):Prop:=V.Q 1 "Floor" "keep" nI F8
def F9(T:V.Tm "Floor" "keep" "Floor.keep" nH nI)(QG:V.gi "KEPT" 20)(uT:V.a "Floor" "deeds")(uD:V.a "Floor" "laid")(uG:V.a "Floor" "pattern"):jC V:=by
 refine CalMth.drop (Txm.okM T EH (λds M R RX h=>?_) (λf cdv A outer s H E J hr hx=>#[_,((au (bT uT (ag (aa 0)) (Em (El (aG uT (ag (aa 0))) (fo (aE (vd (aE (ag (aa 1)) (aE (aG uG (ag (aa 0))) (aE (aG uD (ag (aa 0))) aZ)))) aZ))) (wJ (ag (cm (eZ QG)))) wI)))),λds M R RX d6 h=>?_]))
 .obtain⟨_,_,⟨_,_,_,_,rfl,_⟩,_⟩:=h;rfl
 .obtain⟨R,RX,⟨a,q,f,w,rfl,ne,rfl,hl,hR⟩,rfl,rfl⟩:=h;have nk:∀{p:Pi},p∉av (f.M a q)->p≠a/\p≠q:=λ{p} h=>#[λe=>h (e ▸ HS _ HV),λe=>h (e ▸ HV)];refine#[_,Fl.ma ne,_,ju,_,Fl.ma ne,_,gM,_,Fl.ma ne,_,eg,by show(3:Nat)<=1000;decide,Rw,λp1 h1=>?_];obtain⟨n1,m1⟩:=nk h1;refine#[_,_,(dY m1).trans Fl.mq,cF,by rw[HR];show _+1<=_;lia,λp2 h2=>?_];have t_:p2≠p1/\p2∉av (f.M a q):=#[λe=>h2 (e ▸ HV),λz=>h2 (HS _ z)];obtain⟨n2,m2⟩:=nk t_.2;refine#[_,cF,λp3 h3=>?_];have T8:p3≠p2/\p3∉av ((p1,.lst [])::f.M a q):=#[λe=>h3 (e ▸ HV),λz=>h3 (HS _ z)];obtain⟨n3,m3⟩:=nk λz=>T8.2 (HS _ z);refine#[_,(dY n3).trans ((dY n2).trans ((dY n1).trans (Fl.ma ne))),by show(6:Nat)<1000;decide,_,#[?_,?_],hR p3 (Ne.symm n3)]
  .rw[dZ n3,dZ n2,dZ n1,show f.M a q=[(q,.lst (f.ds.map Deed.D)),(a,.ins "Floor" (f.fs q))]from rfl,dZ (Ne.symm ne),cM];have e1:cutD (f.ds.map Deed.D++[D.tup [.str w,f.d,.int f.l]]) (be (-20)) v9=(f.keep w).ds.map Deed.D:=by
    rw[Fq];show _=JS Deed.D (Jf _ _);rw[List.map_drop,Ip,Ia,HR];rfl
   have e2:putD ("deeds":LB) (.ptr p3) (f.fs q)=(f.keep w).fs p3:=rfl;rw[e1,e2];intro e he;rcases HQ.mp he with rfl|he
   .exact HV
   .rw[HN.mp he];simp
  .exact Fl.nd (Ne.symm n3)
abbrev jD(V:Bx):Prop:=V.X 1 "refuse_far" nK DB
def Ga(T:V.T "refuse_far" nJ nK)(v4:V.m "max")(uS:V.m "abs")(QH:V.gi "FAR" 1000000000000)(QI:V.n "TooFar"):jD V:=by
 refine Tx.okXW T EI (λds R RX h=>?_) (λf cdv A outer s H E J hr hx=>#[_,((ao (bf (fV (gj rfl v4 (ac (eN uS (ac (aa 0) ae)) (ac (eN uS (ac (aa 1) ae)) ae))) (eZ QH)) (ao (AD QI hx rfl (ac ax ae))) aT))),λds R RX d6 h=>?_])
 .obtain⟨_,_,rfl,_⟩:=h;rfl
 .obtain⟨x,y,rfl,h1,h2⟩:=h;refine ite2 (λc=>?_) (λc=>?_)
  .have c':=of_decide_eq_true c;refine#[Rw,?_];rw[d6];refine h2 λ⟨⟨a1,a2⟩,a3,a4⟩=>?_;split at c'<;>split at c'<;>split at c'<;>lia
  .have c':¬_:=λz=>c (decide_eq_true z);refine h1 ?_;unfold bo;split at c'<;>split at c'<;>split at c'<;>lia
abbrev fK(V:Bx):Prop:=V.D 1 "home" nN Ch
def Gb(T:V.T "home" nM nN):fK V:=by
 refine Tx.okDW T sc_home (λds R h=>?_) (λf cdv A outer s H E J hr=>⟨_,((ai (aq 3 sc_home.nd (af (aa 0) ad))
   (ai (aq 4 sc_home.nd (af (aa 0) ad))
   (ai (aq 5 sc_home.nd (af (aa 0) ad))
   (ao (az (aI (ac (aD (bt (aa 1) (ay (aW (aa 2) (aa 4)) (aa 5))) (aa 3)) (ac (aD (aa 2) (aa 4)) ae))))))))),λds R h=>?_⟩)
 .obtain⟨w,h,s,x,y,rfl,_⟩:=h;rfl
 .obtain⟨w,h,s,x,y,rfl,hw,hh,Lv,hs,l8,hR⟩:=h;refine#[λd=>d=.int w,#[_,rfl,rfl],?_];rintro _ rfl;k_places;refine#[λd=>d=.int h,#[_,rfl,rfl],?_];rintro _ rfl;k_places;refine#[λd=>d=.int s,#[_,rfl,rfl],?_];rintro _ rfl;k_places;exact#[#[hh,Lv],.inr #[KK,KK],hw,hh,MD,hR]
variable{n j:Nat}
def ok_Motif_shows(hL:1<=n)(T:V.Tm "Motif" "shows" "Motif.shows" iJ cD)(G':fK V)(Mg:V.a "Motif" "hues")(uN:V.a "Motif" "shifts"):V.Q (n+1) "Motif" "shows" cD (ofX (ca (j+1) "Motif")):=by
 refine Txm.okM T EJ (λds M R RX h=>?_) (λf cdv A outer s H E J hr hx=>#[_,((au (aF (BM (fQ hr) (aG Mg (ag (aa 0))) (aE (aM (hn:=MC) (CalD.toM G') hx hr (aE (aG uN (ag (aa 0))) (aE (ag (aa 1)) (aE (ag (aa 2)) aZ)))) (aE (ag ad) aZ)))))),λds M R RX d6 h=>?_])
 .obtain⟨_,_,_,_,rfl,_⟩:=h;rfl
 .obtain⟨p,v,X,Y,rfl,hv,y8,hd,hc,hR⟩:=h;cases p<;>simp only[Pat.cls]at hc<;>try exact absurd hc Mt
  rename_i L a b c d;obtain⟨k,w,h,s,rfl,F⟩:=hv;obtain⟨hL,ha,hb,L8,f6,hn⟩:=y8;unfold B12 at ha hb L8 f6;obtain⟨b1,b2,b3⟩:=F.bd (N:=288) (by
   have m1:=bU (a:=a) (d:=d) (A:=12) (B:=12) KK KK;have m2:=bU (a:=b) (d:=c) (A:=12) (B:=12) KK KK;lia)
  rw[Pat.show,<-motif_shows hL F hn X Y]at hR;exact#[_,#[rfl,rfl],_,Du,_,#[rfl,rfl],_,mo_shifts,w,h,s,X,Y,rfl,F.1,F.2.1,KK,F.2.2.1,KK,hR]
def Gc(hL:1<=n)(T:V.Tm "Over" "shows" "Over.shows" iK iL)(uZ:V.a "Over" "above")(uY:V.a "Over" "below")(uH:∀x,x∈(["Motif","Over","Shifted","Mirror","Turn","Rehue"]:List LB)->V.Q n x "shows" cD (ofX (ca j x))):V.Q (n+1) "Over" "shows" iL (ofX (ca (j+1) "Over")):=by
 refine Txm.okM T sc_Over_shows (λds M R RX h=>?_) (λf cdv A outer s H E J hr hx=>⟨_,((aj (aH 3 sc_Over_shows.nd (aU (hn:=MC) uH hx hr (aG uZ (ag (aa 0))) (aA (ac (aa 1) (ac (aa 2) ae)))))
   (au (aF (gv (bv (bj (aa 3) ad)) (aU (hn:=MC) uH hx hr (aG uY (ag (aa 0))) (aA (ac (aa 1) (ac (aa 2) ae)))) (ag (aa 3))))))),λds M R RX d6 h=>?_⟩)
 .obtain⟨_,_,_,_,rfl,_⟩:=h;rfl
 .obtain⟨p,v,X,Y,rfl,hv,y8,hd,hc,hR⟩:=h;cases p<;>simp only[Pat.cls]at hc<;>try exact absurd hc Mt
  rename_i p q;obtain⟨u,u',rfl,hu,Od⟩:=hv;obtain⟨fs,rfl,o1⟩:=hu.objm;obtain⟨gs,rfl,o2⟩:=Od.objm;rw[Pat.depth]at hd;refine#[λd M'=>d=.int (p.show X Y)/\M'=M,#[_,#[rfl,rfl],_,rfl,p.cls,p.cls_mem,fs,#[rfl,rfl],o1.shw,p,_,X,Y,rfl,hu,y8.1,KK,rfl,rfl,rfl],?_];rintro _ _⟨rfl,rfl⟩;k_places;rw[Pat.show]at hR;show if decide (p.show X Y=0)=true then _ else _
  refine ite2 (λe=>?_) (λe=>?_)
  .have e':=of_decide_eq_true e;rw[if_neg (λz=>z e')]at hR;exact#[_,#[rfl,rfl],_,fF Mt,q.cls,q.cls_mem,gs,#[rfl,rfl],o2.shw,q,_,X,Y,rfl,Od,y8.2,KK,rfl,hR]
  .have e':p.show X Y≠0:=λz=>e (decide_eq_true z);rw[if_pos e']at hR;exact hR
def Gd(hL:1<=n)(T:V.Tm "Shifted" "shows" "Shifted.shows" iM iN)(v5:V.a "Shifted" "form")(Mh:V.a "Shifted" "y")(Mi:V.a "Shifted" "x")(uH:∀x,x∈(["Motif","Over","Shifted","Mirror","Turn","Rehue"]:List LB)->V.Q n x "shows" cD (ofX (ca j x))):V.Q (n+1) "Shifted" "shows" iN (ofX (ca (j+1) "Shifted")):=by
 refine Txm.okM T EK (λds M R RX h=>?_) (λf cdv A outer s H E J hr hx=>#[_,((au (aF (aU (hn:=MC) uH hx hr (aG v5 (ag (aa 0))) (aE (dm (ag (aa 1)) (aG Mi (ag (aa 0)))) (aE (dm (ag (aa 2)) (aG Mh (ag (aa 0)))) aZ)))))),λds M R RX d6 h=>?_])
 .obtain⟨_,_,_,_,rfl,_⟩:=h;rfl
 .obtain⟨p,v,X,Y,rfl,hv,y8,hd,hc,hR⟩:=h;cases p<;>simp only[Pat.cls]at hc<;>try exact absurd hc Mt
  rename_i a b p;obtain⟨u,rfl,hu⟩:=hv;obtain⟨fs,rfl,o1⟩:=hu.objm;rw[Pat.depth]at hd;exact#[_,#[rfl,rfl],_,rfl,p.cls,p.cls_mem,fs,#[rfl,rfl],o1.shw,_,#[rfl,rfl],_,fF Mt,_,#[rfl,rfl],_,mn Mt Mt,p,_,X-a,Y-b,rfl,hu,y8.2.2,KK,rfl,hR]
def Ge(hL:1<=n)(T:V.Tm "Mirror" "shows" "Mirror.shows" iO iP)(uU:V.a "Mirror" "form")(uH:∀x,x∈(["Motif","Over","Shifted","Mirror","Turn","Rehue"]:List LB)->V.Q n x "shows" cD (ofX (ca j x))):V.Q (n+1) "Mirror" "shows" iP (ofX (ca (j+1) "Mirror")):=by
 refine Txm.okM T EL (λds M R RX h=>?_) (λf cdv A outer s H E J hr hx=>#[_,((au (aF (aU (hn:=MC) uH hx hr (aG uU (ag (aa 0))) (aA (ac (cm (aa 1)) (ac (aa 2) ae))))))),λds M R RX d6 h=>?_])
 .obtain⟨_,_,_,_,rfl,_⟩:=h;rfl
 .obtain⟨p,v,X,Y,rfl,hv,y8,hd,hc,hR⟩:=h;cases p<;>simp only[Pat.cls]at hc<;>try exact absurd hc Mt
  rename_i p;obtain⟨u,rfl,hu⟩:=hv;obtain⟨fs,rfl,o1⟩:=hu.objm;rw[Pat.depth]at hd;exact#[_,#[rfl,rfl],_,rfl,p.cls,p.cls_mem,fs,#[rfl,rfl],o1.shw,p,_,-X,Y,rfl,hu,y8,KK,rfl,hR]
def Gf(hL:1<=n)(T:V.Tm "Turn" "shows" "Turn.shows" iQ iR)(uV:V.a "Turn" "form")(uH:∀x,x∈(["Motif","Over","Shifted","Mirror","Turn","Rehue"]:List LB)->V.Q n x "shows" cD (ofX (ca j x))):V.Q (n+1) "Turn" "shows" iR (ofX (ca (j+1) "Turn")):=by
 refine Txm.okM T EM (λds M R RX h=>?_) (λf cdv A outer s H E J hr hx=>#[_,((au (aF (aU (hn:=MC) uH hx hr (aG uV (ag (aa 0))) (aA (ac (aa 2) (ac (cm (aa 1)) ae))))))),λds M R RX d6 h=>?_])
 .obtain⟨_,_,_,_,rfl,_⟩:=h;rfl
 .obtain⟨p,v,X,Y,rfl,hv,y8,hd,hc,hR⟩:=h;cases p<;>simp only[Pat.cls]at hc<;>try exact absurd hc Mt
  rename_i p;obtain⟨u,rfl,hu⟩:=hv;obtain⟨fs,rfl,o1⟩:=hu.objm;rw[Pat.depth]at hd;exact#[_,#[rfl,rfl],_,rfl,p.cls,p.cls_mem,fs,#[rfl,rfl],o1.shw,p,_,Y,-X,rfl,hu,y8,KK,rfl,hR]
def Gg(hL:1<=n)(T:V.Tm "Rehue" "shows" "Rehue.shows" iS iT)(uX:V.a "Rehue" "form")(Mj:V.a "Rehue" "old")(Ml:V.a "Rehue" "new")(uH:∀x,x∈(["Motif","Over","Shifted","Mirror","Turn","Rehue"]:List LB)->V.Q n x "shows" cD (ofX (ca j x))):V.Q (n+1) "Rehue" "shows" iT (ofX (ca (j+1) "Rehue")):=by
 refine Txm.okM T sc_Rehue_shows (λds M R RX h=>?_) (λf cdv A outer s H E J hr hx=>⟨_,((aj (aH 3 sc_Rehue_shows.nd (aU (hn:=MC) uH hx hr (aG uX (ag (aa 0))) (aA (ac (aa 1) (ac (aa 2) ae)))))
   (au (aF (gv (gq (ag (aa 3)) (aG Mj (ag (aa 0)))) (aG Ml (ag (aa 0))) (ag (aa 3))))))),λds M R RX d6 h=>?_⟩)
 .obtain⟨_,_,_,_,rfl,_⟩:=h;rfl
 .obtain⟨p,v,X,Y,rfl,hv,y8,hd,hc,hR⟩:=h;cases p<;>simp only[Pat.cls]at hc<;>try exact absurd hc Mt
  rename_i f g p;obtain⟨u,rfl,hu⟩:=hv;obtain⟨fs,rfl,o1⟩:=hu.objm;rw[Pat.depth]at hd;refine#[λd M'=>d=.int (p.show X Y)/\M'=M,#[_,#[rfl,rfl],_,rfl,p.cls,p.cls_mem,fs,#[rfl,rfl],o1.shw,p,_,X,Y,rfl,hu,y8.2.2,KK,rfl,rfl,rfl],?_];rintro _ _⟨rfl,rfl⟩;k_places;rw[Pat.show]at hR;unfold bM at hR;refine#[_,#[rfl,rfl],_,fF Mt,ite2 (λe=>?_) (λe=>?_)]
  .rw[if_pos (of_decide_eq_true e)]at hR;exact#[_,#[rfl,rfl],_,mn Mt Mt,hR]
  .rw[if_neg (λz=>e (decide_eq_true z))]at hR;exact hR
def Gh(Sc:V.Tm "Motif" "shows" "Motif.shows" iJ cD)(Sd:V.Tm "Over" "shows" "Over.shows" iK iL)(Se:V.Tm "Shifted" "shows" "Shifted.shows" iM iN)(Sf:V.Tm "Mirror" "shows" "Mirror.shows" iO iP)(Sg:V.Tm "Turn" "shows" "Turn.shows" iQ iR)(Sh:V.Tm "Rehue" "shows" "Rehue.shows" iS iT)(G':fK V)(Mg:V.a "Motif" "hues")(uN:V.a "Motif" "shifts")(uZ:V.a "Over" "above")(uY:V.a "Over" "below")(v5:V.a "Shifted" "form")(Mh:V.a "Shifted" "y")(Mi:V.a "Shifted" "x")(uU:V.a "Mirror" "form")(uV:V.a "Turn" "form")(uX:V.a "Rehue" "form")(Mj:V.a "Rehue" "old")(Ml:V.a "Rehue" "new"):∀j x,x∈(["Motif","Over","Shifted","Mirror","Turn","Rehue"]:List LB)->V.Q (1+j) x "shows" cD (ofX (ca j x)):=by
 intro j;induction j with
 |zero=>
  intro x hx;simp only[HQ,Jw,or_false]at hx;rcases hx with rfl|rfl|rfl|rfl|rfl|rfl
  .exact CalMth.never Sc (λds M R RX=>fH)
  .exact CalMth.never Sd (λds M R RX=>fH)
  .exact CalMth.never Se (λds M R RX=>fH)
  .exact CalMth.never Sf (λds M R RX=>fH)
  .exact CalMth.never Sg (λds M R RX=>fH)
  .exact CalMth.never Sh (λds M R RX=>fH)
 |succ j Oe=>
  intro x hx;simp only[HQ,Jw,or_false]at hx;rcases hx with rfl|rfl|rfl|rfl|rfl|rfl
  .exact ok_Motif_shows (n:=1+j) (j:=j) MC Sc G' Mg uN
  .exact Gc (n:=1+j) (j:=j) MC Sd uZ uY Oe
  .exact Gd (n:=1+j) (j:=j) MC Se v5 Mh Mi Oe
  .exact Ge (n:=1+j) (j:=j) MC Sf uU Oe
  .exact Gf (n:=1+j) (j:=j) MC Sg uV Oe
  .exact Gg (n:=1+j) (j:=j) MC Sh uX Mj Ml Oe
abbrev wW(V:Bx):Prop:=∀x,x∈(["Motif","Over","Shifted","Mirror","Turn","Rehue"]:List LB)->V.Q 7 x "shows" cD (ofX (ca 6 x))
abbrev jE(V:Bx):Prop:=V.X 8 "cell_at" nP DC
def Gi(T:V.T "cell_at" nO nP)(MV:jD V)(Nk:V.a "Pattern" "form")(uH:wW V):jE V:=by
 refine CalMM.nilX (Tx.okM T EN (λds M R RX h=>?_) (λf cdv A outer s H E J hr hx=>⟨_,((aj (bF (aM (CalX.toM MV) hx hr (aA (ac (aa 1) (ac (aa 2) ae)))))
   (au (aF (aU uH hx hr (aG Nk (ag (aa 0))) (aA (ac (aa 1) (ac (aa 2) ae)))))))),λds M R RX d6 h=>?_⟩))
 .obtain⟨_,R0,LS,⟨_,_,_,_,rfl,_⟩,_⟩:=h;rfl
 .obtain⟨rfl,R0,LS,⟨p,d,x,y,rfl,⟨w,h,s,fs,rfl,e1,e2,hp⟩,ok,h1,h2⟩,hR,hX⟩:=h;obtain⟨v,e3,hv⟩:=hp.form;obtain⟨gs,rfl,o1⟩:=hv.objm;have T9:=ok.deep;refine#[x,y,rfl,λhn=>?_,λhn=>?_]
  .exact#[_,#[rfl,rfl],_,e3,p.cls,p.cls_mem,gs,#[rfl,rfl],o1.shw,p,_,x,y,rfl,hv,ok.wf,KK,rfl,hR _ _ (h1 hn)]
  .rw[d6];exact hX _ _ _ (h2 hn)
abbrev jF(V:Bx):Prop:=V.D 9 "row_from" nQ DD
def Gj(T:V.T "row_from" iU nQ)(uA:V.m "range")(MX:jE V)(uR:V.gs "SIGNS" ".123456"):jF V:=by
 refine Tx.okDW T EO (λds R h=>?_) (λf cdv A outer s H E J hr=>#[_,((ao (az (lf (ii rfl (compScope (by change dh _ (ah iU) ["pattern","x","y","many"] _=true;decide+kernel)) uA (aa 3) (λcl s0 H0 fp=>(af (fg uR) (aw (CalX.no MX) hr (ac (aa 0) (ac (am (aa 1) (aa 4)) (ac (aa 2) ae))))))))))),λds R h=>?_])
 .obtain⟨_,_,_,_,_,rfl,_⟩:=h;rfl
 .obtain⟨p,d,x,y,n,rfl,hd,ok,hn,L_,n8,hy,hR⟩:=h;obtain⟨w,h,s,fs,rfl,_⟩:=id hd;refine#[#[KK,KK],by rw[bL];lia,λk ys=>ys=rowD p x y k,rfl,?_,?_]
  .rintro k v ys hk hl rfl;obtain⟨p_,rfl⟩:=bK hk;obtain⟨b0,b6⟩:=Pat.show_le ok.wf (by have:=ok.deep;lia) (x+(k:Int)) y;unfold bo at L_ n8;exact#[p,.obj "Pattern" fs,x+(k:Int),y,rfl,hd,ok,λ_=>#[_,#[Mx,ww b0 b6],wz p x y k],λz=>z #[#[KK,KK],hy]]
  .rintro ys hl rfl;rw[bL,IM];obtain⟨ys,e1,e2,e3⟩:=wA p x y hn;refine#[ys,e1,e2,?_];rw[e3];exact hR
def wX:SpD:=λds R=>∃f q,ds=[.obj "Floor" (Fl.fs f q)]/\f.Ok/\R (.lst (aC f.p f.w 0 f.l.toNat))
variable{f:Fl}
def wY{a q:Pi}(ne:a≠q)(ok:f.Ok){R:D->MS->Prop}{RX:XDM}(h:R (.lst (aC f.p f.w 0 f.l.toNat)) (f.M a q)):lend (λds R _=>wX ds R) [.ptr a] (f.M a q) R RX:=by
 refine#[a,_,_,Fl.ma ne,f,q,?_,ok,Fs _ _ _ _,h];show[lendD a _ (.ptr a)]=_;unfold lendD;simp
abbrev jG(V:Bx):Prop:=V.QD 10 "Floor" "rows" nR wX
def Gk(T:V.Tm "Floor" "rows" "Floor.rows" iV nR)(uA:V.m "range")(Nl:jF V)(uD:V.a "Floor" "laid")(uK:V.a "Floor" "width")(uG:V.a "Floor" "pattern"):jG V:=by
 refine Txm.okDW T EQ (λds R h=>?_) (λf cdv A outer s H E J hr=>#[_,((ao (az (ii rfl (compScope (by change dh _ (ah iV) ["self"] _=true;decide+kernel)) uA (eY uD (aa 0)) (λcl s0 H0 fp=>(aw Nl hr (ac (eY uG (aa 0)) (ac ad (ac (aa 1) (ac (eY uK (aa 0)) ae)))))))))),λds R h=>?_])
 .obtain⟨_,_,rfl,_⟩:=h;rfl
 .obtain⟨f,q,rfl,ok,hR⟩:=h;have l0:=ok.l0;have l1:=ok.l1;have h2:=ok.h2;have w1:=ok.w1;have w2:=ok.w2;refine#[rfl,_,eg,#[KK,KK],by rw[bL];lia,λk ys=>ys=aC f.p f.w 0 k,rfl,?_,?_]
  .rintro k v ys hk hl rfl;obtain⟨p_,rfl⟩:=bK hk;refine#[rfl,_,gM,rfl,_,fJ,f.p,f.d,0,k,f.w.toNat,by rw[Iv KK],ok.is,ok.ok,KK,#[KK,KK],#[KK,KK],#[KK,KK],?_];show aC f.p f.w 0 k++_=aC f.p f.w 0 (k+1);rw[<-qo,Jy]
  .rintro ys hl rfl;rw[bL];exact hR
def S_Floor_lay:SpM:=λds M R RX=>∃a q f n,ds=[.ptr a,.int n]/\a≠q/\M=Fl.M f a q/\f.Ok/\1<=n/\n<=1000/\(f.h-f.l<n->RX "NoRow" [] (f.M a q))/\(n<=f.h-f.l->∀q',a≠q'->R (.lst (aC f.p f.w f.l n.toNat)) ((f.lay n).M a q'))
def Fl.ok_new{p:Pat}{d:D}{w h:Int}(is:br p d)(ok:p.Ok)(w1:1<=w)(w2:w<=30)(h1:1<=h)(h2:h<=30):(Fl.mk p d w h 0 []).Ok:=#[is,ok,w1,w2,h1,h2,Int.le_refl 0,IJ (show(0:Int)<=1 by decide) h1,Iq _,λ_ h=>nomatch h]
def Fl.Ok.keep(ok:f.Ok)(w:LB):(f.keep w).Ok:=by
 refine#[ok.is,ok.ok,ok.w1,ok.w2,ok.h1,ok.h2,ok.l0,ok.l1,?_,λe he=>?_]
 .show(Jf _ _).length<=20;rw[Jd,Ia,KB];have:=ok.de;lia
 .rcases Iy.mp (Ks he)with z|z
  .exact ok.dd e z
  .rw[HN.mp z];exact#[ok.is,ok.ok,ok.l0,ok.l1]
def Fl.Ok.stand{p:Pat}{d:D}(ok:f.Ok)(is:br p d)(n9:p.Ok):(f.stand p d).Ok:=#[is,n9,ok.w1,ok.w2,ok.h1,ok.h2,ok.l0,ok.l1,ok.de,ok.dd]
def Fl.Ok.lay{n:Int}(ok:f.Ok)(n0:0<=n)(hn:n<=f.h-f.l):(f.lay n).Ok:=by
 have l0:=ok.l0;have k:=ok.keep "lay";exact#[ok.is,ok.ok,ok.w1,ok.w2,ok.h1,ok.h2,by show 0<=f.l+n;lia,by show f.l+n<=f.h;lia,k.de,k.dd]
abbrev qE(V:Bx):Prop:=V.Q 11 "Floor" "lay" iW S_Floor_lay/\V.Qd 11 "Floor" "lay" iW [.int 1] S_Floor_lay
def Gm(T:V.Td "Floor" "lay" "Floor.lay" nS iW [.int 1])(v4:V.m "max")(uW:V.a "Floor" "height")(uD:V.a "Floor" "laid")(Nm:jC V)(Nn:jG V)(QJ:V.n "NoRow"):qE V:=by
 refine Txd.okMd T sc_Floor_lay (λds M R RX h=>?_) (λf cdv A outer s H E J hr hx=>⟨_,((aj (aX (A5 (ag (aa 1)) (dm (aG uW (ag (aa 0))) (aG uD (ag (aa 0))))) (au (vi QJ hx rfl (aA (ac ax ae)))) aQ)
   (aj (bF (aU (CalMth.one Nm) hx hr (ag (aa 0)) (aA (ac ax ae))))
   (aj (aH 2 sc_Floor_lay.nd (aG uD (ag (aa 0))))
   (aj (bT uD (ag (aa 0)) (ag (am (aa 2) (gj rfl v4 (ac (aa 1) (ac ad ae))))))
   (au (aF (Ec (cj (CalMth.one (CalMth.lendD Nn)) hx hr (ag (aa 0))) (wJ (ag (aa 2))) wI)))))))),λds M R RX d6 h=>?_⟩)
 .obtain⟨_,_,⟨_,_,_,_,rfl,_⟩,_⟩:=h;rfl
 .obtain⟨R,RX,⟨a,q,f,n,rfl,ne,rfl,ok,n1,n2,hX,hR⟩,rfl,rfl⟩:=h;have l0:=ok.l0;have l1:=ok.l1;refine#[_,Fl.ma ne,_,jt,_,Fl.ma ne,_,eg,ite2 (λc=>?_) (λc=>?_)]
  .have c':=of_decide_eq_true c;refine#[Rw,?_];rw[d6];exact#[_,Fl.sub ne,hX c']
  have hc:n<=f.h-f.l:=by have:¬(f.h-f.l<n):=λz=>c (decide_eq_true z);lia
  refine#[_,HN.mpr rfl,_,Fl.ma ne,rfl,a,q,f,"lay",rfl,ne,rfl,ok.de,λq' d9=>?_];refine#[λd M'=>d=.int f.l/\M'=(f.keep "lay").M a q',#[_,Fl.ma d9,_,eg,rfl,rfl],?_];rintro _ _⟨rfl,rfl⟩;k_places;have eM:mput ((f.keep "lay").M a q') a (.ins "Floor" (putD "laid" (.int (f.l+if 0>n then 0 else n)) ((f.keep "lay").fs q')))=(f.lay n).M a q':=by
   rw[Fl.put d9,if_neg KK];rfl
  refine#[_,Fl.ma d9,by show(6:Nat)<1000;decide,?_];rw[eM];have el:(f.lay n).l.toNat=f.l.toNat+n.toNat:=by show(f.l+n).toNat=_;lia
  refine#[_,HN.mpr rfl,_,Fl.ma d9,rfl,?_];dsimp only[mNil];refine wY d9 (ok.lay KK hc) ?_;rw[el];show ∃N,subM N _/\R (.lst (cutD (aC f.p f.w 0 _) (be f.l) v9)) N;rw[wT _ _ _ l0];exact#[_,Fl.sub d9,hR hc q' d9]
def Gn:SpM:=λds M R _=>∃a q f n b,ds=[.ptr a,.int n,.bl b]/\a≠q/\M=Fl.M f a q/\f.Ok/\1<=n/\n<=1000/\(f.h-f.l<n->R (.lst [.bl true,.non]) (f.M a q))/\(n<=f.h-f.l->∀q',a≠q'->R (.lst [.bl false,.lst (aC f.p f.w f.l n.toNat)]) ((f.lay n).M a q'))
abbrev jH(V:Bx):Prop:=V.Ek ["TooFar","NoRow","Parted","NothingKept"]
abbrev qF(V:Bx):Prop:=V.MM 12 "_law_lay" nV Gn
def Go(T:V.T "_law_lay" nU nV)(OW:qE V)(ek:jH V):qF V:=by
 refine Tx.okM T sc__law_lay (λds M R RX h=>?_) (λf cdv A outer s H E J hr hx=>⟨_,((aj (aH 3 sc__law_lay.nd (ag bC))
   (aj (aH 4 sc__law_lay.nd (ag bw))
   (aj (lU (λpn xe J hp hx=>(au (fq (bv (cy (ia (bj (aa 1) ad) (hZ (cx (aa 2)))))) (au (aH 3 sc__law_lay.nd (Ei OW.2 hx hr (ag (aa 0))))) (au (aH 3 sc__law_lay.nd (aU (CalMth.one OW.1) hx hr (ag (aa 0)) (aA (ac (aa 1) ae)))))))) (λ_=>(uu ek (λe=>(ao (aq 4 sc__law_lay.nd bw))) ly)))
   (au (aF (ag (bp (ac (aa 4) (ac (aa 3) ae)))))))))),λds M R RX d6 h=>?_⟩)
 .obtain⟨_,_,_,_,_,rfl,_⟩:=h;rfl
 .obtain⟨a,q,f,n,b,rfl,ne,rfl,ok,n1,n2,hX,hR⟩:=h;refine#[λd M'=>d=.non/\M'=f.M a q,#[rfl,rfl],?_];rintro _ _⟨rfl,rfl⟩;k_places;refine#[λd M'=>d=.bl false/\M'=f.M a q,#[rfl,rfl],?_];rintro _ _⟨rfl,rfl⟩;k_places;refine#[λz M' x fs=>z=[be (.ptr a),be (.int n),be (.bl b),be .non,be (.bl false)]/\M'=f.M a q/\x="NoRow"/\f.h-f.l<n,λJ hJ=>?_,?_]
  .let P:D->MS->Prop:=λd M'=>n<=f.h-f.l/\∃q',a≠q'/\d=.lst (aC f.p f.w f.l n.toNat)/\M'=(f.lay n).M a q'
   have lay:S_Floor_lay [.ptr a,.int n] (f.M a q) P (λx fs M'=>J.RM [be (.ptr a),be (.int n),be (.bl b),be .non,be (.bl false)] M' x fs):=
    #[a,q,f,n,rfl,ne,rfl,ok,n1,n2,λc=>by rw[hJ];exact#[rfl,rfl,rfl,c],λc q' d9=>#[c,q',d9,rfl,rfl]]
   refine#[λz M'=>n<=f.h-f.l/\∃q',a≠q'/\z=[be (.ptr a),be (.int n),be (.bl b),be (.lst (aC f.p f.w f.l n.toNat)),be (.bl false)]/\M'=(f.lay n).M a q',ite2 (λc=>ite2 (λ_=>?_) (λ_=>?_)) (λ_=>?_),λz M' ⟨c,q',d9,e1,e2⟩=>?_]
   .have c':n=1:=of_decide_eq_true c;subst c';exact#[P,#[_,Fl.ma ne,rfl,lay],λd M' ⟨c,q',d9,e1,e2⟩=>#[c,q',d9,by rw[e1];rfl,e2]]
   .exact#[P,#[_,HN.mpr rfl,_,Fl.ma ne,rfl,lay],λd M' ⟨c,q',d9,e1,e2⟩=>#[c,q',d9,by rw[e1];rfl,e2]]
   .exact#[P,#[_,HN.mpr rfl,_,Fl.ma ne,rfl,lay],λd M' ⟨c,q',d9,e1,e2⟩=>#[c,q',d9,by rw[e1];rfl,e2]]
   .subst e1 e2;exact#[NL,hR c q' d9]
  .rintro z M' x fs⟨rfl,rfl,rfl,c⟩;k_places;refine#[#[MD,MD],?_];rw[if_pos Mt];exact#[λd=>d=.bl true,rfl,λd e=>by subst e;exact#[#[NL,hX c],NoOwn.of rfl]]
def Gp:SpD:=λds R=>∃(p q:Pat) (w:Int) (n m:Nat),ds=[.lst (aC p w 0 n),.lst (aC q w 0 m)]/\p.Ok/\q.Ok/\0<=w/\w<=30/\n<=m/\m<=30/\(dF p q w n->R .non)/\∀x y,First2 p q w n x y->R (.tup [.int x,.int y])
abbrev qG(V:Bx):Prop:=V.D 1 "_law_parted" nX Gp
def Gq(T:V.T "_law_parted" nW nX)(uA:V.m "range")(uB:V.m "len"):qG V:=by
 refine Tx.okDW T sc__law_parted (λds R h=>?_) (λf cdv A outer s H E J hr=>⟨_,((ai (bY 2 PassesOwn.never rfl sc__law_parted.nd uA (bP uB (ac (aa 0) ae)) (ao (bY 3 PassesOwn.never rfl sc__law_parted.nd uA (bP uB (ac (af (aa 0) (aa 2)) ae)) (ao (bf (ce (af (af (aa 0) (aa 2)) (aa 3)) (af (af (aa 1) (aa 2)) (aa 3))) (ao (az (aI (ac (aa 3) (ac (aa 2) ae))))) aT)))))
   (ao (az bC)))),λds R h=>?_⟩)
 .obtain⟨_,_,_,_,_,rfl,_⟩:=h;rfl
 .obtain⟨p,q,w,n,m,rfl,n9,g6,w0,w7,nm,m7,hN,hS⟩:=h;have lp:∀{p:Pat} {n:Nat},(aC p w 0 n).length=n:=λ{p n}=>by unfold aC;simp
  refine#[#[KK,by rw[lp];lia],λk z=>∃o2 o3,z=[be (.lst (aC p w 0 n)),be (.lst (aC q w 0 m)),o2,o3]/\dF p q w k,#[_,_,rfl,λx y _ _ a b=>KK],?_,?_]
  .rintro k v z hk⟨o2,o3,rfl,hj⟩;k_places;obtain⟨p_,rfl⟩:=bK hk;rw[lp]at p_;have a1:=qp (p:=p) (w:=w) (lo:=0) (show k<n by lia);have a2:=qp (p:=q) (w:=w) (lo:=0) (show k<m by lia);rw[Jy]at a1 a2;refine#[_,a1,by rw[cC];lia,#[by rw[cC];lia,by rw[cC];lia],λi z=>∃o3,z=[be (.lst (aC p w 0 n)),be (.lst (aC q w 0 m)),be (.int k),o3]/\∀x:Int,0<=x->x<i->p.show x k=q.show x k,#[_,rfl,λx a b=>KK],?_,?_]
   .rintro i v z hi⟨o3,rfl,j3⟩;k_places;obtain⟨y7,rfl⟩:=bK hi;rw[cC]at y7;have b1:=wU (p:=p) (y:=(k:Int)) (show i<w.toNat by lia);have b2:=wU (p:=q) (y:=(k:Int)) (show i<w.toNat by lia);refine#[_,a1,_,#[by rw[cC];lia,b1],_,a2,_,#[by rw[cC];lia,b2],ite2 (λc=>?_) (λc=>?_)]
    .refine#[NL,hS i k #[#[KK,KK,KK,KK],λz=>by simp[z]at c,λx' y' a b c d=>?_]];rcases d with d|⟨rfl,d⟩
     .exact hj x' y' a b c KK
     .exact j3 x' a KK
    .have c':(#[[aR (p.show i k)].toArray]:LB)=#[[aR (q.show i k)].toArray]:=by simpa using c
     have c2:=FC (Pat.show_le n9.wf (by have:=n9.deep;lia) _ _).1 (Pat.show_le g6.wf (by have:=g6.deep;lia) _ _).1 (FD c');refine#[_,rfl,λx a b=>?_];by_cases e:x=i
     .rw[e];exact c2
     .exact j3 x a KK
   .rintro z⟨o3,rfl,j3⟩;k_places;rw[bL,IM,cC]at j3;refine#[_,_,rfl,λx y a b c d=>?_];by_cases e:y=k
    .rw[e];exact j3 x a KK
    .exact hj x y a b c KK
  .rintro z⟨o2,o3,rfl,hj⟩;k_places;rw[bL,lp,IM]at hj;exact hN hj
abbrev dG(V:Bx):Prop:=V.Q 1 "Reading" "may_take" nZ C5
def Gr(T:V.Tm "Reading" "may_take" "Reading.may_take" nY nZ)(uB:V.m "len")(Mm:V.a "Reading" "text")(uO:V.a "Reading" "place"):dG V:=by
 refine Txm.okM T ER (λds M R RX h=>?_) (λf cdv A outer s H E J hr hx=>⟨_,((aj (aX (mt_w (ir (gq (aG uO (ag (aa 0))) (ve uB (aE (aG Mm (ag (aa 0))) aZ))) (iq (A6 (lG (aG Mm (ag (aa 0))) (aG uO (ag (aa 0)))) (ag (aa 1)))))) (au (aF (ag ax))) aQ)
   (aj (bT uO (ag (aa 0)) (gp (aG uO (ag (aa 0))) (ag ad)))
   (au (aF (lG (aG Mm (ag (aa 0))) (dm (aG uO (ag (aa 0))) (ag ad)))))))),λds M R RX d6 h=>?_⟩)
 .obtain⟨_,_,_,_,_,rfl,_⟩:=h;rfl
 .obtain⟨a,t,k,l,al,rfl,rfl,c9,hR⟩:=h;refine#[_,bc,_,fB,_,bc,_,mm,H8 c9.sz Mx,?_];cases l with
  |nil=>
   refine ifdT (by rw[c9.nil]) (ifT rfl ?_);exact hR
  |cons c l=>
   have lt:=c9.lt;refine ifdF KK ?_;refine#[_,bc,_,mm,_,bc,_,fB,c,#[H8 c9.sz Mx,bI c9.get],?_];refine ite2 (λe=>?_) (λe=>?_)
   .have e2:(!(!(Builtin.Str.occurrences al #[[c].toArray] 0 al.length 1).isEmpty))=true:=e;rw[we]at e2;have nc:c∉cs al:=by simpa using e2
    rw[dR nc,dS nc]at hR;exact hR
   .have e2:¬(!(!(Builtin.Str.occurrences al #[[c].toArray] 0 al.length 1).isEmpty))=true:=e;rw[we]at e2;have nc:c∈cs al:=by simpa using e2
    rw[fC nc,fD nc]at hR;refine#[_,bc,_,fB,_,bc,by show(2:Nat)<1000;decide,?_];rw[show mput (RdM a t k) a (.ins "Reading" (putD ("place":LB) (.int ((k:Int)+1)) (rdF t k)))=RdM a t (k+1)by rw[C3];exact iC];refine#[_,bc,_,mm,_,bc,_,fB,c,#[H8 c9.sz Mx,?_],hR];rw[show((k+1:Nat):Int)-1=(k:Int)by lia];exact bI c9.get
abbrev cN(V:Bx):Prop:=V.Q 2 "Reading" "take" og C6
def Gs(T:V.Tm "Reading" "take" "Reading.take" oa og)(uL:dG V):cN V:=by
 refine Txm.okM T sc_Reading_take (λds M R RX h=>?_) (λf cdv A outer s H E J hr hx=>⟨_,((aj (aH 2 sc_Reading_take.nd (aU (CalMth.one uL) hx hr (ag (aa 0)) (aA (ac (aa 1) ae))))
   (aj (aX (bv (bj (aa 2) ax)) (au iB) aQ)
   (au (aF (ag (aa 2))))))),λds M R RX d6 h=>?_⟩)
 .obtain⟨_,_,_,_,_,_,rfl,_⟩:=h;rfl
 .obtain⟨a,t,k,c,l,al,rfl,rfl,c9,hc,hR⟩:=h;refine#[λd M'=>d=.str #[[c].toArray]/\M'=RdM a t (k+1),#[_,HN.mpr rfl,_,bc,dD,a,t,k,_,al,rfl,rfl,c9,by rw[fC hc,fD hc];exact#[rfl,rfl]],?_];rintro _ _⟨rfl,rfl⟩;k_places;exact hR
abbrev qH(V:Bx):Prop:=V.MM 3 "line_from" oi S_line_from
def Gu(T:V.T "line_from" oh oi)(uA:V.m "range")(uR:V.gs "SIGNS" ".123456")(uC:cN V)(uL:dG V):qH V:=by
 refine Tx.okM T sc_line_from (λds M R RX h=>?_) (λf cdv A outer s H E J hr hx=>⟨_,((aj (aH 3 sc_line_from.nd (ag ax))
   (aj (vj 4 PassesOwn.leaving rfl sc_line_from.nd uA (ag (aa 2)) (au (aH 3 sc_line_from.nd (gp (ag (aa 3)) (gv (bv (fU (aa 4) (aa 1))) (aU (CalMth.one uC) hx hr (ag (aa 0)) (aA (ac (fg uR) ae))) (aU (CalMth.one uL) hx hr (ag (aa 0)) (aA (ac (fg uR) ae))))))))
   (au (aF (ag (aa 3))))))),λds M R RX d6 h=>?_⟩)
 .obtain⟨_,_,_,_,_,_,_,rfl,_⟩:=h;rfl
 .obtain⟨a,t,k,n,m,x,l,rfl,rfl,c9,hs,hn,hm,UU,k9,hR⟩:=h;refine#[λd M'=>d=.str ""/\M'=RdM a t k,#[rfl,rfl],?_];rintro _ _⟨rfl,rfl⟩;k_places;refine#[#[KK,KK],λi z M'=>i<=m/\∃col,z=[be (.ptr a),be (.int n),be (.int m),be (.str #[(x.take i).toArray]),col]/\M'=RdM a t (k+min i x.length),#[Iq _,v9,rfl,by rw[Nat.zero_min];rfl],?_,?_]
  .rintro i d z M' hi⟨UV,col,rfl,rfl⟩;k_places;obtain⟨y7,rfl⟩:=bK hi;have y7:i<m:=by lia
   have b8:=List.length_take_le i x;refine#[λd M'=>d=.str #[(x.take (i+1)).toArray]/\M'=RdM a t (k+min (i+1) x.length),?_,?_]
   .by_cases f8:i<x.length
    .have e1:x.take (i+1)=x.take i++[x[i]]:=List.take_succ_eq_append_getElem f8;have c_:At t (k+i) (x[i]::(x.drop (i+1)++l)):=by
      have:=c9;rw[<-Lq i x,IQ,Jj f8]at this;have:=this.app;rw[Jk,Jz KK]at this;exact this
     have hc:=signs_is.mpr (C1 (hs x[i] (Ix f8)));have e2:(#[(x.take i).toArray]:LB)++#[[x[i]].toArray]=#[(x.take (i+1)).toArray]:=by rw[show(#[[x[i]].toArray]:LB)=#[[x[i]].toArray]from rfl,gC,e1]
     rw[Jz KK,Jz KK];refine ite2 (λ_=>?_) (λ_=>?_)
     .exact#[_,HN.mpr rfl,_,bc,cu,a,t,_,_,_,".123456",rfl,rfl,c_,hc,by rw[fE,show(#[[x[i]].toArray]:LB).length=1 from rfl];lia,congrArg D.str e2,rfl]
     .refine#[_,HN.mpr rfl,_,bc,dD,a,t,_,_,".123456",rfl,rfl,c_,?_];rw[fC hc,fD hc];exact#[by rw[fE,show(#[[x[i]].toArray]:LB).length=1 from rfl];lia,congrArg D.str e2,rfl]
    .obtain⟨c,l',rfl,hc⟩:=k9.resolve_left KK;have c_:=c9.app;rw[J0 KK,J0 KK,Jg KK,Jg KK];refine ite2 (λc=>absurd (of_decide_eq_true c) KK) (λ_=>?_);refine#[_,HN.mpr rfl,_,bc,dD,a,t,_,_,".123456",rfl,rfl,c_,?_];rw[dR (wg hc),dS (wg hc)];refine#[by rw[fE,show("":LB).length=0 from rfl];lia,?_,rfl];rw[show("":LB)=#[([]:List Nat).toArray]from rfl,gC,IA]
   .rintro _ _⟨rfl,rfl⟩;k_places;exact#[y7,_,rfl,trivial]
  .intro z M' hz;rw[bL,IM]at hz;obtain⟨_,col,rfl,rfl⟩:=hz;rw[Jg hm,J0 hm];exact hR
abbrev qI(V:Bx):Prop:=V.MM 4 "lines_from" ol Dc
def Gv(T:V.T "lines_from" oj ol)(uB:V.m "len")(OX:qH V)(OY:V.gi "LONGEST" 8)(uL:dG V):qI V:=by
 refine Tx.okM T sc_lines_from (λds M R RX h=>?_) (λf cdv A outer s H E J hr hx=>⟨_,((aj (aH 1 sc_lines_from.nd (fo (aE (aM (CalMM.frame OX) hx hr (aA (ac (aa 0) (ac ad (ac (eZ OY) ae))))) aZ)))
   (aj (aH 2 sc_lines_from.nd (ve uB (aE (Bt (ag (aa 1)) (ag ad)) aZ)))
   (aj (Br PassesOwn.leaving (mt_w (A8 (vc (gw uB (ag (aa 1))) (ag (eZ OY))) (A7 (gq (aU (CalMth.one (CalMth.frame uL)) hx hr (ag (aa 0)) (aA (ac ax ae))) (ag ax))))) (au (bF (lJ (ag (aa 1)) (aM (CalMM.frame OX) hx hr (aA (ac (aa 0) (ac (aa 2) (ac (aa 2) ae)))))))))
   (lK 1 (au (aF (ag (aa 1))))))))),λds M R RX d6 h=>?_⟩)
 .obtain⟨_,_,_,_,_,_,rfl,_⟩:=h;rfl
 .obtain⟨a,t,k,L,w,l,rfl,rfl,hL,c9,hR⟩:=h;have hw:=hL.w1;have T_:=hL.w8;have G_:=hL.many;cases L with
  |nil=>exact absurd G_.1 Mx
  |cons x L=>
   obtain⟨L_,n8⟩:=hL.each x HV;rw[wc]at c9 hR;rw[IQ]at c9;rw[HX]at G_;have stop:∀N:List (List Nat),∃c l',rowsT N++59::l=c::l'/\isSg c=false:=λN=>by
    cases N with
    |nil=>exact#[59,l,rfl,rfl]
    |cons y N=>exact#[47,_,rfl,rfl]
   refine#[λd M'=>∃p,p≠a/\d=.ptr p/\M'=(p,.lst [.str #[x.toArray]])::RdM a t (k+x.length),#[[],RdM a t k,rfl,a,t,k,1,8,x,_,rfl,rfl,c9,n8,KK,KK,Mx,.inr (stop L),by show 1<=1000;decide,λp hp=>#[p,λe=>hp (by rw[e];exact HN.mpr rfl),rfl,rfl]],?_];rintro _ _⟨p,Ua,rfl,rfl⟩;k_places;refine#[λd M'=>d=.int w/\M'=(p,.lst [.str #[x.toArray]])::RdM a t (k+x.length),#[_,bB,_,rfl,by rw[fE];lia,by rw[fE,L_],rfl],?_];rintro _ _⟨rfl,rfl⟩;k_places;refine#[λm z M'=>∃L1 L2 k',L=L1++L2/\m=L2.length/\At t k' (rowsT L2++59::l)/\k'+(rowsT L2).length=k+(x++rowsT L).length/\z=[be (.ptr a),be (.ptr p),be (.int w)]/\M'=(p,.lst (lstD (x::L1)))::RdM a t k',#[_,[],L,_,rfl,rfl,c9.app,by rw[Ia];lia,rfl,rfl],?_];rintro m z M'⟨L1,L2,k',rfl,rfl,j6,hk,rfl,rfl⟩;k_places;rw[Ia]at G_;have Of:(lstD (x::L1)).length=L1.length+1:=by simp[lstD]
   have done:L2=[]->R (.lst (lstD (x::L1))) (RdM a t k'):=λe=>by
    subst e;rw[show k'=k+(x++rowsT (L1++[])).length from hk,show lstD (x::L1)=lstD (x::(L1++[]))by rw[IA]];exact hR
   refine#[_,bB,?_];rw[Of];refine ite2 (λc=>?_) (λc=>?_)
   .refine#[_,HN.mpr rfl,_,Db Ua,dD,[(p,_)],RdM a t _,rfl,a,t,_,_,"/",rfl,rfl,j6,?_];cases L2 with
    |nil=>
     rw[show rowsT []++59::l=59::l from rfl,dR Mx,dS Mx];refine#[_,bB,?_];rw[show mdel ([(p,MO.lst (lstD (x::L1)))]++RdM a t (k'+0)) p=RdM a t k' from iD];exact done rfl
    |cons y N=>
     have e1:rowsT (y::N)++59::l=47::(y++(rowsT N++59::l)):=by simp[rowsT]
     have Si:(47:Nat)∈cs "/":=Mx
     rw[e1]at j6 ⊢;rw[fC Si,fD Si];obtain⟨Ub,N2⟩:=hL.each y (HS _ (Ik _ HV));have q8:=j6.next;refine#[#[_,bB],[(p,_)],RdM a t _,rfl,a,t,_,w,w,y,_,rfl,rfl,q8,N2,KK,KK,T_,.inl Ub,?_];refine#[_,bB,by rw[Of];lia,N.length,by rw[HX];lia,L1++[y],N,_,MD,rfl,q8.app,?_,rfl,?_]
     .rw[<-hk];simp[rowsT];lia
     .show mput ((p,MO.lst (lstD (x::L1)))::RdM a t _) p _=_;rw[gD];simp[lstD]
   .have c':L1.length+1=8:=by
     have:¬((L1.length+1:Nat):Int)<8:=λz=>c (decide_eq_true z);lia
    refine#[_,bB,?_];rw[iD];exact done (JE KK)
abbrev qJ(V:Bx):Prop:=V.MM 3 "number_from" oq C9
def Gw(T:V.T "number_from" om oq)(uE:V.m "int")(uL:dG V)(uC:cN V):qJ V:=by
  refine Tx.okM T sc_number_from (λds M R RX h=>?_) (λf cdv A outer s H E J hr hx=>⟨_,((aj (aX (gq (aU (CalMth.one uL) hx hr (ag (aa 0)) (aA (ac ax ae))) (ag ax)) (au (aF (ag ad))) aQ)
      (aj (aH 1 sc_number_from.nd (gp (aU (CalMth.one uL) hx hr (ag (aa 0)) (aA (ac ax ae))) (aU (CalMth.one uC) hx hr (ag (aa 0)) (aA (ac ax ae)))))
      (aj (fq (bv (cx (A1 (aa 1) (ac ax ae)))) (au (aH 1 sc_number_from.nd (gp (ag (aa 1)) (aU (CalMth.one uL) hx hr (ag (aa 0)) (aA (ac ax ae)))))) aQ)
      (au (aF (ag (ie uE (ac (aa 1) ae))))))))),λds M R RX d6 h=>?_⟩)
  . obtain⟨_,_,_,_,_,_,rfl,_⟩:=h;rfl
  . obtain⟨a,t,k,x,e,l,rfl,rfl,f8,he,c9,hR⟩:=h;have hi:=C7 f8;have hl:=bJ f8;rw[<-bn]at hl;change (numL x).length<=3 at hl;refine#[_,HN.mpr rfl,_,bc,dD,a,t,k,_,"0",rfl,rfl,c9,?_];rcases numS f8 with e0|⟨pre,c,y,hp,hc,ev,hy⟩
    . rw[e0]at hR hi ⊢;have e1:x=0:=Option.some.inj (hi.symm.trans Mt);subst e1;have e2:(48:Nat)∈cs "0":=by decide
      rw[show([48]++e::l:List Nat)=48::e::l from rfl,fC e2,fD e2];exact hR
    rw[ev]at c9 hR hi hl ⊢;have h0:mayS "0" (pre++c::y++e::l)=""/\mayN "0" (pre++c::y++e::l)=0:=by
      have n:c∉cs "0":=λq=>by have:=HN.mp q;lia
      rcases hp with rfl|rfl
      . exact#[dR n,dS n]
      . exact#[dR Mx,dS Mx]
    have hm:mayS "-" (pre++c::y++e::l)=#[pre.toArray]/\mayN "-" (pre++c::y++e::l)=pre.length:=by
      have n:c∉cs "-":=λq=>by have:=HN.mp q;lia
      rcases hp with rfl|rfl
      . exact#[dR n,dS n]
      . exact#[rfl,rfl]
    rw[h0.1,h0.2];have c_:At t (k+pre.length) (c::(y++e::l)):=by rw[IQ]at c9;exact c9.app
    have j6:=c_.next;refine#[λd M'=>d=.str #[(pre++[c]).toArray]/\M'=RdM a t (k+pre.length+1),?_,?_]
    . refine#[_,HN.mpr rfl,_,bc,dD,a,t,k,_,"-",rfl,rfl,c9,?_];rw[hm.1,hm.2];refine#[_,HN.mpr rfl,_,bc,cu,a,t,k+pre.length,c,_,"123456789",rfl,rfl,c_,digits19.mpr hc,?_,?_,rfl]
      . rcases hp with rfl|rfl<;>simp[Str.length]
      . rw[show(#[[c].toArray]:LB)=#[[c].toArray]from rfl,gC]
    . rintro _ _⟨rfl,rfl⟩;k_places;refine#[λz M'=>z=[be (.ptr a),be (.str #[(pre++c::y).toArray])]/\M'=RdM a t (k+(pre++c::y).length),?_,?_]
      . show if Txt.endswith #[(pre++[c]).toArray] "1"=true then _ else _
        rw[C8];refine ite2 (λz=>?_) (λz=>?_)
        . obtain⟨e1,e2,e3⟩:(⟨(pre++[c]).toArray⟩:LB)++mayS "012" (y++e::l)=⟨(pre++c::y).toArray⟩/\mayN "012" (y++e::l)=y.length/\(mayS "012" (y++e::l)).length<=1:=by
            rcases hy with rfl|⟨_,d,hd,rfl⟩
            . have n:e∉cs "012":=λq=>by have:=digits02.mp q;unfold endS at he;lia
              rw[List.nil_append,dR n,dS n];refine#[?_,rfl,Mx];rw[show("":LB)=#[([]:List Nat).toArray]from rfl,gC];simp
            . rw[show([d]++e::l:List Nat)=d::e::l from rfl,fC (digits02.mpr hd),fD (digits02.mpr hd)];refine#[?_,rfl,HP 1];rw[show(#[[d].toArray]:LB)=#[[d].toArray]from rfl,gC];simp
          refine#[λv M'=>v=.str #[(pre++c::y).toArray]/\M'=RdM a t (k+(pre++c::y).length),#[_,HN.mpr rfl,_,bc,dD,a,t,_,_,"012",rfl,rfl,j6,?_],?_]
          . refine#[?_,congrArg D.str e1,?_]
            . rcases hp with rfl|rfl<;>simp[Str.length]at e3 ⊢<;>lia
            . rw[e2];congr 1;simp;lia
          . rintro _ _⟨rfl,rfl⟩;k_places;exact#[rfl,trivial]
        . have O_:y=[]:=hy.resolve_right λq=>z (decide_eq_true q.1);subst O_;exact#[rfl,by rw[Ia];rfl]
      . rintro _ _⟨rfl,rfl⟩;k_places;exact#[x,#[hi,by show(pre++c::y).length<=640;lia],hR]
abbrev gP(V:Bx):Prop:=V.MM 4 "shift_from" ou Da
def Gx(T:V.T "shift_from" ot ou)(OZ:qJ V)(uC:cN V):gP V:=by
 refine Tx.okM T sc_shift_from (λds M R RX h=>?_) (λf cdv A outer s H E J hr hx=>⟨_,((aj (aH 1 sc_shift_from.nd (aM OZ hx hr (aA (ac (aa 0) ae))))
   (aj (bF (aU (CalMth.one uC) hx hr (ag (aa 0)) (aA (ac ax ae))))
   (au (aF (vd (aE (ag (aa 1)) (aE (aM OZ hx hr (aA (ac (aa 0) ae))) aZ)))))))),λds M R RX d6 h=>?_⟩)
 .obtain⟨_,_,_,_,_,_,_,rfl,_⟩:=h;rfl
 .obtain⟨a,t,k,x,y,e,l,rfl,rfl,f8,hy,he,c9,hR⟩:=h;refine#[λd M'=>d=.int x/\M'=RdM a t (k+(numL x).length),#[a,t,k,x,44,_,rfl,rfl,f8,.inl rfl,c9,rfl,rfl],?_];rintro _ _⟨rfl,rfl⟩;k_places;have c_:=c9.app;exact#[_,HN.mpr rfl,_,bc,cu,a,t,_,44,_,",",rfl,rfl,c_,Mx,a,t,_,y,e,l,rfl,rfl,hy,he,c_.next,MD,hR]
abbrev jI(V:Bx):Prop:=V.D 1 "levelled" oy Ci
def Gy(T:V.T "levelled" ow oy):jI V:=by
 refine Tx.okDW T sc_levelled (λds R h=>?_) (λf cdv A outer s H E J hr=>⟨_,((ai (gh PassesOwn.never (ce (af (aa 1) ad) ad) (ai (aq 2 sc_levelled.nd (zF (af (aa 0) ad) (af (aa 1) ad)))
    (ai (aq 3 sc_levelled.nd (aI (ac (bt (af (aa 0) ad) (ay (aa 2) (af (aa 1) ad))) (ac (bt (af (aa 0) ad) (ay (aa 2) (af (aa 1) ad))) ae))))
    (ai (aq 0 sc_levelled.nd (aa 1))
    (ao (aq 1 sc_levelled.nd (aa 3)))))))
   (ai (fY (fU (af (aa 0) ad) ad) (ao (aq 0 sc_levelled.nd (aI (ac (cm (af (aa 0) ad)) (ac (cm (af (aa 0) ad)) ae))))) aT)
   (ao (az (aI (ac (aa 0) (ac (aa 1) ae)))))))),λds R h=>?_⟩)
 .obtain⟨a,b,c,d,rfl,_⟩:=h;rfl
 .obtain⟨a,b,c,d,rfl,hb,hd,hR⟩:=h;refine#[λm z=>∃(f0 f1 s0 s1:Int) (t r:Option D),z=[be (.tup [.int f0,.int f1]),be (.tup [.int s0,.int s1]),t,r]/\Uni a b c d f0 f1 s0 s1/\f1.natAbs<4611686018427387904/\s1.natAbs<4611686018427387904/\m=s1.natAbs,#[_,a,b,c,d,v9,v9,rfl,Uni.refl a b c d,hb,hd,rfl],?_];rintro m z⟨f0,f1,s0,s1,t,r,rfl,hu,hf,hs,rfl⟩;k_places;refine#[_,rfl,ite2 (λcc=>?_) (λcc=>?_)]
  .have c':¬s1=0:=by simpa using cc
   obtain⟨g1,g2⟩:=fdm f1 s1 c';refine#[λd=>d=.int (f1.fdiv s1),#[_,rfl,_,rfl,#[c',hs],rfl],?_];rintro _ rfl;k_places;refine#[λd=>d=.tup [.int (f0-f1.fdiv s1*s0),.int (f1-f1.fdiv s1*s1)],#[_,rfl,_,rfl,.inl #[KK,KK],_,rfl,_,rfl,.inl #[KK,KK],MD,rfl],?_];rintro _ rfl;k_places;refine#[λd=>d=.tup [.int s0,.int s1],rfl,?_];rintro _ rfl;k_places;refine#[λd=>d=.tup [.int (f0-f1.fdiv s1*s0),.int (f1-f1.fdiv s1*s1)],rfl,?_];rintro _ rfl;k_places;exact#[_,g1,s0,s1,_,_,_,_,rfl,hu.step _,hs,KK,rfl]
  .have c':s1=0:=by simpa using cc
   subst c';refine#[λz=>∃p0 p1:Int,z=[be (.tup [.int p0,.int p1]),be (.tup [.int s0,.int 0]),t,r]/\Lev a b c d p0 p1 s0,#[_,rfl,ite2 (λe=>?_) (λe=>?_)],?_]
   .have e':=of_decide_eq_true e;refine#[λd=>d=.tup [.int (-f0),.int (-f1)],#[_,rfl,_,rfl,MD,rfl],?_];rintro _ rfl;k_places;exact#[_,_,rfl,KK,hu.neg]
   .have e':=of_decide_eq_false (IB.mpr e);exact#[_,_,rfl,KK,hu]
   .rintro _⟨p0,p1,rfl,hL⟩;k_places;exact#[MD,hR p0 p1 s0 hL]
abbrev jJ(V:Bx):Prop:=V.D 2 "spread" oA Cj
def Gz(T:V.T "spread" oz oA)(uS:V.m "abs")(No:jI V):jJ V:=by
 refine Tx.okDW T sc_spread (λds R h=>?_) (λf cdv A outer s H E J hr=>⟨_,((ai (bf (bj (ay (af (aa 0) ad) (af (aa 1) ad)) (ay (af (aa 0) ad) (af (aa 1) ad))) (ao (az bC)) aT)
   (ai (aq 2 sc_spread.nd (aw No hr (ac (aa 0) (ac (aa 1) ae))))
   (ai (aq 3 sc_spread.nd (eN uS (ac (af (af (aa 2) ad) ad) ae)))
   (ao (az (aI (ac (aa 3) (ac (af (af (aa 2) ad) ad) (ac (aD (af (af (aa 2) ad) ad) (aa 3)) ae)))))))))),λds R h=>?_⟩)
 .obtain⟨a,b,c,d,rfl,_⟩:=h;rfl
 .obtain⟨a,b,c,d,rfl,ha,hb,hc,hd,hN,hR⟩:=h;refine#[_,rfl,_,rfl,.inl #[KK,KK],_,rfl,_,rfl,.inl #[KK,KK],ite2 (λe=>?_) (λe=>?_)]
  .exact hN (of_decide_eq_true e)
  .have e':=of_decide_eq_false (IB.mpr e);refine#[λx=>∃p0 p1 q0:Int,x=.tup [.tup [.int p0,.int p1],.tup [.int q0,.int 0]]/\Lev a b c d p0 p1 q0,#[a,b,c,d,rfl,hb,hd,λp0 p1 q0 hL=>#[p0,p1,q0,rfl,hL]],?_];rintro _⟨p0,p1,q0,rfl,hL⟩;k_places;have hF:=gz e' hL;refine#[λx=>x=.int (if q0<0 then -q0 else q0),#[_,rfl,_,rfl,rfl],?_];rintro _ rfl;k_places;exact#[_,rfl,_,rfl,_,rfl,_,rfl,hF.1,MD,hR e' _ _ _ hF]
abbrev qK(V:Bx):Prop:=V.MM 2 "hues_by_home" oC Dh
def GA(T:V.T "hues_by_home" oB oC)(MY:V.m "enumerate")(G':fK V)(uR:V.gs "SIGNS" ".123456"):qK V:=by
 refine Tx.okM T sc_hues_by_home (λds M R RX h=>?_) (λf cdv A outer s H E J hr hx=>⟨_,((aj (aH 2 sc_hues_by_home.nd BK)
   (aj (BB PassesOwn.leaving rfl MY (ag (aa 0)) (dg_cons 3 sc_hues_by_home.nd (dg_cons 4 sc_hues_by_home.nd cG)) (au (BC PassesOwn.leaving rfl MY (ag (aa 4)) (dg_cons 5 sc_hues_by_home.nd (dg_cons 6 sc_hues_by_home.nd cG)) (au (fq (bv (ce (aa 6) ax)) (au (bF (BN (fQ hr) (ag (aa 2)) (aA (ac (aw G' hr (ac (aa 1) (ac (aa 5) (ac (aa 3) ae)))) (ac (lC (fg uR) (ac (aa 6) ae)) ae)))))) aQ)))))
   (lK 2 (au (aF (ag (aa 2)))))))),λds M R RX d6 h=>?_⟩)
 .obtain⟨_,_,_,_,_,rfl,_⟩:=h;rfl
 .obtain⟨L,wd,w,h,s,rfl,hL,hw,hh,Lv,hs,l8,hR⟩:=h;have Oa:=hL.w8;refine#[λd M'=>∃p,p∉av M/\d=.ptr p/\M'=(p,.dti [])::M,λp hp=>#[p,hp,rfl,rfl],?_];rintro _ _⟨p,hp,rfl,rfl⟩;k_places;refine#[λj z M'=>∃(kv:List ((Int×Int)×Int)) (x3 x4 x5 x6:Option D),hAll w h s j (L.drop j) kv=hAll w h s 0 L []/\kv.length<=8*j/\z=[be (.lst (lstD L)),be (.tup [.int w,.int h,.int s]),be (.ptr p),x3,x4,x5,x6]/\M'=(p,.dti kv)::M,#[[],v9,v9,v9,v9,rfl,MD,rfl,rfl],?_,?_]
  .rintro j d z M' hd⟨kv,x3,x4,x5,x6,e1,Uc,rfl,rfl⟩;k_places;obtain⟨x,f8,rfl⟩:=Df hd;have hj:j<L.length:=(Ib.mp f8).1;have UW:=hL.many;obtain⟨xl,xs⟩:=hL.each x (IU f8);rw[wk f8]at e1;refine#[De xs,λi z M'=>∃(L4:List ((Int×Int)×Int)) (x5 x6:Option D),hRow w h s j i (x.drop i) L4=hRow w h s j 0 x kv/\L4.length<=8*j+i/\i<=x.length/\z=[be (.lst (lstD L)),be (.tup [.int w,.int h,.int s]),be (.ptr p),be (.int j),be (.str #[x.toArray]),x5,x6]/\M'=(p,.dti L4)::M,#[kv,x5,x6,rfl,KK,Iq _,rfl,rfl],?_,?_]
   .rintro i d z M' M0⟨L4,y5,y6,e2,QK,hi,rfl,rfl⟩;k_places;obtain⟨c,hc,rfl⟩:=Dg M0;have y7:i<x.length:=(Ib.mp hc).1;have sc:=xs c (IU hc);rw[wk hc,hRow]at e2;refine#[λz M'=>∃Og:List ((Int×Int)×Int),hRow w h s j (i+1) (x.drop (i+1)) Og=hRow w h s j 0 x kv/\Og.length<=8*j+(i+1)/\z=[be (.lst (lstD L)),be (.tup [.int w,.int h,.int s]),be (.ptr p),be (.int j),be (.str #[x.toArray]),be (.int i),be (.str #[[c].toArray])]/\M'=(p,.dti Og)::M,?_,?_]
    .show if(!decide ((#[[c].toArray]:LB)="."))=true then _ else _;by_cases x9:c=46
     .subst x9;rw[if_pos rfl]at e2;exact#[L4,e2,KK,rfl,rfl]
     .rw[if_neg x9]at e2;refine ifT (by simp[one_sign,x9]) ?_;have c6:49<=c/\c<=54:=by unfold bg at sc;lia
      obtain⟨ix,rest,ho,Po⟩:=Dd c6;refine#[#[_,bB],w,h,s,i,j,rfl,hw,hh,Lv,hs,l8,ix,rest,ho,_,bB,by have:=wj L4 (hmX w h s i j) ((j:Int)%h) ((c:Int)-48);lia,λv=>?_];rw[gD,Po];exact#[_,e2,by have:=wj L4 (hmX w h s i j) ((j:Int)%h) ((c:Int)-48);lia,rfl,rfl]
    .rintro z M'⟨Og,e3,h3,rfl,rfl⟩;k_places;exact#[Og,_,_,e3,h3,y7,rfl,rfl]
   .rintro z M' hz;rw[fj,fE]at hz;obtain⟨L4,y5,y6,e2,QK,hi,rfl,rfl⟩:=hz;rw[Lr]at e2;refine#[L4,_,_,_,_,?_,KK,rfl,rfl];rw[<-e1,hAll,<-e2];rfl
  .rintro z M' hz;rw[show(lstD L).length=L.length by simp[lstD]]at hz;obtain⟨kv,x3,x4,x5,x6,e1,Uc,rfl,rfl⟩:=hz;rw[Lr]at e1;refine#[_,bB,?_];rw[iD];have e2:kv=hAll w h s 0 L []:=e1;rw[<-e2]at hR;exact hR
abbrev qL(V:Bx):Prop:=V.M 3 "Motif" oF Di
def GB(T:V.Ti "Motif" "Motif.__init__" oE oF)(Np:jJ V)(QL:qK V)(QM:V.a "Motif" "place")(uN:V.a "Motif" "shifts")(Mg:V.a "Motif" "hues"):qL V:=by
 refine Txi.okIM T ES (λds R h=>?_) (λf cdv A outer s H E J hr hx=>⟨_,((aj (bT QM (ag (aa 0)) (ag (aa 1)))
   (aj (bT uN (ag (aa 0)) (ag (aw Np hr (ac (aa 3) (ac (aa 4) ae)))))
   (au (bT Mg (ag (aa 0)) (gv (lH (aG uN (ag (aa 0))) (ag bC)) BJ (aM QL hx hr (aE (ag (aa 2)) (aE (aG uN (ag (aa 0))) aZ))))))))),λa ds R M4 h=>?_⟩)
 .obtain⟨_,_,_,_,_,_,_,rfl,_⟩:=h;rfl
 .obtain⟨k,L,wd,x,y,u,v,rfl,hL,f8,hy,hu,hv,hn,h1⟩:=h;unfold B12 at f8 hy hu hv;refine#[_,dQ,by show(0:Nat)<1000;decide,?_];rw[iC,Dj];refine#[x,y,u,v,rfl,KK,KK,KK,KK,λe=>absurd e hn,λe w h s F=>?_];refine#[_,dQ,RN,?_];rw[iC,Dk];refine#[_,dQ,_,wl,?_];obtain⟨b1,b2,b3⟩:=F.bd (N:=288) (by
   have m1:=bU (a:=x) (d:=v) (A:=12) (B:=12) KK KK;have m2:=bU (a:=y) (d:=u) (A:=12) (B:=12) KK KK;lia)
  refine#[_,dQ,_,wl,L,wd,w,h,s,rfl,hL,F.1,F.2.1,KK,F.2.2.1,KK,?_];refine#[_,dQ,by show(2:Nat)<1000;decide,?_];rw[iC,Dl];exact#[_,rfl,h1 w h s F]
abbrev jK(V:Bx):Prop:=V.MM 5 "motif_from" oH Ds
def GC(T:V.T "motif_from" oG oH)(QN:qI V)(L5:gP V)(uO:V.a "Reading" "place")(QO:qL V)(uC:cN V):jK V:=by
 refine Tx.okM T sc_motif_from (λds M R RX h=>?_) (λf cdv A outer s H E J hr hx=>⟨_,((aj (aH 1 sc_motif_from.nd (aG uO (ag (aa 0))))
   (aj (bF (aU (CalMth.one uC) hx hr (ag (aa 0)) (aA (ac ax ae))))
   (aj (aH 2 sc_motif_from.nd (aM QN hx hr (aA (ac (aa 0) ae))))
   (aj (bF (aU (CalMth.one uC) hx hr (ag (aa 0)) (aA (ac ax ae))))
   (aj (aH 3 sc_motif_from.nd (aM L5 hx hr (aA (ac (aa 0) ae))))
   (aj (bF (aU (CalMth.one uC) hx hr (ag (aa 0)) (aA (ac ax ae))))
   (aj (aH 4 sc_motif_from.nd (aM L5 hx hr (aA (ac (aa 0) ae))))
   (aj (bF (aU (CalMth.one uC) hx hr (ag (aa 0)) (aA (ac ax ae))))
   (au (aF (ag (lv QO hr (ac (aa 1) (ac (aa 2) (ac (aa 3) (ac (aa 4) ae))))))))))))))))),λds M R RX d6 h=>?_⟩)
 .obtain⟨_,_,_,_,_,_,_,_,_,rfl,_⟩:=h;rfl
 .obtain⟨g,t,k,L,a,b,c,d,l,rfl,rfl,c9,⟨Oh,ha,hb,hc,hd,hn⟩,hR⟩:=h;obtain⟨w,hL⟩:=Dr Oh;have c9:At t k (91::(rowsL (L.map cs)++59::(numL a++44::(numL b++59::(numL c++44::(numL d++93::l)))))):=by simpa[motL]using c9
  have b8:k+(motL (L.map cs) a b c d).length=k+1+(rowsL (L.map cs)).length+1+(numL a).length+1+(numL b).length+1+(numL c).length+1+(numL d).length+1:=by simp[motL];lia
  rw[b8]at hR;have c_:=c9.next;have j6:=c_.app;have q8:=j6.next;have Oi:At t (k+1+(rowsL (L.map cs)).length+1+(numL a).length+1+(numL b).length) _:=q8.app.next.app;have Oj:=Oi.next;have QP:At t (k+1+(rowsL (L.map cs)).length+1+(numL a).length+1+(numL b).length+1+(numL c).length+1+(numL d).length) _:=Oj.app.next.app;refine#[λv M'=>v=.int k/\M'=RdM g t k,#[_,bc,_,fB,rfl,rfl],?_];rintro _ _⟨rfl,rfl⟩;k_places;refine#[_,HN.mpr rfl,_,bc,cu,g,t,_,91,_,"[",rfl,rfl,c9,Mx,?_];refine#[λv M'=>v=.lst (lstD (L.map cs))/\M'=RdM g t (k+1+(rowsL (L.map cs)).length),#[g,t,_,_,w,_,rfl,rfl,hL,c_,rfl,rfl],?_];rintro _ _⟨rfl,rfl⟩;k_places;refine#[_,HN.mpr rfl,_,bc,cu,g,t,_,59,_,";",rfl,rfl,j6,Mx,?_];refine#[λv M'=>v=.tup [.int a,.int b]/\M'=RdM g t (k+1+(rowsL (L.map cs)).length+1+(numL a).length+1+(numL b).length),#[g,t,_,a,b,59,_,rfl,rfl,ha,hb,.inr (.inl rfl),q8,rfl,rfl],?_];rintro _ _⟨rfl,rfl⟩;k_places;refine#[_,HN.mpr rfl,_,bc,cu,g,t,_,59,_,";",rfl,rfl,Oi,Mx,?_];refine#[λv M'=>v=.tup [.int c,.int d]/\M'=RdM g t (k+1+(rowsL (L.map cs)).length+1+(numL a).length+1+(numL b).length+1+(numL c).length+1+(numL d).length),#[g,t,_,c,d,93,_,rfl,rfl,hc,hd,.inr (.inr (.inr rfl)),Oj,rfl,rfl],?_];rintro _ _⟨rfl,rfl⟩;k_places;exact#[_,HN.mpr rfl,_,bc,cu,g,t,_,93,_,"]",rfl,rfl,QP,Mx,k,_,w,a,b,c,d,rfl,hL,ha,hb,hc,hd,hn,λw h s F=>hR _ #[k,w,h,s,rfl,F]]
abbrev jL(V:Bx):Prop:=V.M 1 "Mirror" oJ Do
def GD(T:V.Ti "Mirror" "Mirror.__init__" oI oJ)(uU:V.a "Mirror" "form"):jL V:=by
 refine Txi.okI T ET (λds R h=>?_) (λf cdv A outer s H E J hr=>#[_,((bQ uU (aa 1) dO)),λds R h=>?_])
 .obtain⟨_,_,rfl,_⟩:=h;rfl
 .obtain⟨x,fs,rfl,hR⟩:=h;exact#[Mx,hR]
abbrev jM(V:Bx):Prop:=V.M 1 "Turn" oM Dp
def GE(T:V.Ti "Turn" "Turn.__init__" oK oM)(uV:V.a "Turn" "form"):jM V:=by
 refine Txi.okI T EU (λds R h=>?_) (λf cdv A outer s H E J hr=>#[_,((bQ uV (aa 1) dO)),λds R h=>?_])
 .obtain⟨_,_,rfl,_⟩:=h;rfl
 .obtain⟨x,fs,rfl,hR⟩:=h;exact#[Mx,hR]
abbrev jN(V:Bx):Prop:=V.M 1 "Over" oO Dm
def GF(T:V.Ti "Over" "Over.__init__" oN oO)(uZ:V.a "Over" "above")(uY:V.a "Over" "below"):jN V:=by
 refine Txi.okI T EV (λds R h=>?_) (λf cdv A outer s H E J hr=>#[_,((bQ uZ (aa 1) (bQ uY (aa 2) dO))),λds R h=>?_])
 .obtain⟨_,_,_,_,rfl,_⟩:=h;rfl
 .obtain⟨x,y,fs,gs,rfl,hR⟩:=h;refine#[Mx,RN,?_];show R (putD _ _ (putD _ _ []));rw[putD,putD,if_neg Mt];exact hR
abbrev jO(V:Bx):Prop:=V.M 1 "Shifted" oQ Dn
def GH(T:V.Ti "Shifted" "Shifted.__init__" oP oQ)(v5:V.a "Shifted" "form")(Mi:V.a "Shifted" "x")(Mh:V.a "Shifted" "y"):jO V:=by
 refine Txi.okI T EW (λds R h=>?_) (λf cdv A outer s H E J hr=>#[_,((bQ v5 (aa 1) (bQ Mi (aa 2) (bQ Mh (aa 3) dO)))),λds R h=>?_])
 .obtain⟨_,_,_,_,rfl,_⟩:=h;rfl
 .obtain⟨x,fs,a,b,rfl,hR⟩:=h;refine#[Mx,RN,by show(2:Nat)<1000;decide,?_];show R (putD _ _ (putD _ _ (putD _ _ [])));rw[show putD ("x":LB) (.int a) (putD ("form":LB) (.obj x fs) [])=([("form",.obj x fs),("x",.int a)]:List (LB×D))by rw[putD,putD,if_neg Mt];rfl,putD,if_neg Mt,putD,if_neg Mt];exact hR
abbrev jP(V:Bx):Prop:=V.M 1 "Rehue" oS Dq
def GI(T:V.Ti "Rehue" "Rehue.__init__" oR oS)(uX:V.a "Rehue" "form")(Mj:V.a "Rehue" "old")(Ml:V.a "Rehue" "new"):jP V:=by
 refine Txi.okI T EY (λds R h=>?_) (λf cdv A outer s H E J hr=>#[_,((bQ uX (aa 1) (bQ Mj (aa 2) (bQ Ml (aa 3) dO)))),λds R h=>?_])
 .obtain⟨_,_,_,_,rfl,_⟩:=h;rfl
 .obtain⟨x,fs,a,b,rfl,hR⟩:=h;refine#[Mx,RN,by show(2:Nat)<1000;decide,?_];show R (putD _ _ (putD _ _ (putD _ _ [])));rw[show putD ("old":LB) (.int a) (putD ("form":LB) (.obj x fs) [])=([("form",.obj x fs),("old",.int a)]:List (LB×D))by rw[putD,putD,if_neg Mt];rfl,putD,if_neg Mt,putD,if_neg Mt];exact hR
def GJ(hL:5<=n)(T:V.T "over_from" iX gI)(uJ:V.MM n "form_from" cL (dE j))(Ol:jN V)(uC:cN V):V.MM (n+1) "over_from" gI (wo j):=by
 refine Tx.okM T sc_over_from (λds M R RX h=>?_) (λf cdv A outer s H E J hr hx=>⟨_,((aj (aH 2 sc_over_from.nd (aM (hn:=MC) uJ hx hr (aA (ac (aa 0) (ac (aa 1) ae)))))
   (aj (bF (aU (hn:=MC) (CalMth.one uC) hx hr (ag (aa 0)) (aA (ac ax ae))))
   (aj (aH 3 sc_over_from.nd (aM (hn:=MC) uJ hx hr (aA (ac (aa 0) (ac (aa 1) ae)))))
   (aj (bF (aU (hn:=MC) (CalMth.one uC) hx hr (ag (aa 0)) (aA (ac ax ae))))
   (au (aF (ag (lv (hn:=MC) Ol hr (ac (aa 2) (ac (aa 3) ae))))))))))),λds M R RX d6 h=>?_⟩)
 .obtain⟨_,_,_,_,_,_,_,rfl,_⟩:=h;rfl
 .obtain⟨a,t,k,p,q,l,d,rfl,rfl,c9,MZ,LY,hp,hq,y9,Ud,hR⟩:=h;have c_:=c9.app;have j6:=c_.next;have q8:=j6.app;refine#[λv M'=>FormOf p v/\M'=RdM a t (k+p.tl.length),#[a,t,k,p,_,d,rfl,rfl,c9,MZ,LY,hp,y9,λv h=>#[h,rfl]],?_];rintro v _⟨hv,rfl⟩;k_places;obtain⟨fs,rfl,_⟩:=hv.objm;refine#[_,HN.mpr rfl,_,bc,cu,a,t,_,124,_,"|",rfl,rfl,c_,Mx,?_];refine#[λv M'=>FormOf q v/\M'=RdM a t (k+p.tl.length+1+q.tl.length),#[a,t,_,q,_,d,rfl,rfl,j6,MZ,LY,hq,Ud,λv h=>#[h,rfl]],?_];rintro v _⟨Sj,rfl⟩;k_places;obtain⟨gs,rfl,_⟩:=Sj.objm;exact#[_,HN.mpr rfl,_,bc,cu,a,t,_,41,_,")",rfl,rfl,q8,Mx,_,_,_,_,rfl,hR _ _ hv Sj]
def GK(hL:5<=n)(T:V.T "shifted_from" iY gJ)(L5:gP V)(uJ:V.MM n "form_from" cL (dE j))(Om:jO V)(uC:cN V):V.MM (n+1) "shifted_from" gJ (wt j):=by
 refine Tx.okM T sc_shifted_from (λds M R RX h=>?_) (λf cdv A outer s H E J hr hx=>⟨_,((aj (aH 2 sc_shifted_from.nd (aM (hn:=MC) L5 hx hr (aA (ac (aa 0) ae))))
   (aj (bF (aU (hn:=MC) (CalMth.one uC) hx hr (ag (aa 0)) (aA (ac ax ae))))
   (au (aF (iz (hn:=MC) Om hr (aE (aM (hn:=MC) uJ hx hr (aA (ac (aa 0) (ac (aa 1) ae)))) (aE (ag (af (aa 2) ad)) (aE (ag (af (aa 2) ad)) aZ))))))))),λds M R RX d6 h=>?_⟩)
 .obtain⟨_,_,_,_,_,_,_,_,rfl,_⟩:=h;rfl
 .obtain⟨a,t,k,x,y,p,l,d,rfl,rfl,c9,MZ,LY,f8,hy,hp,y9,hR⟩:=h;have c_:At t (k+(numL x).length+1+(numL y).length) _:=c9.app.next.app;refine#[λv M'=>v=.tup [.int x,.int y]/\M'=RdM a t (k+(numL x).length+1+(numL y).length),#[a,t,_,x,y,58,_,rfl,rfl,f8,hy,.inr (.inr (.inl rfl)),c9,rfl,rfl],?_];rintro _ _⟨rfl,rfl⟩;k_places;refine#[_,HN.mpr rfl,_,bc,cu,a,t,_,58,_,":",rfl,rfl,c_,Mx,?_];refine#[a,t,_,p,l,d,rfl,rfl,c_.next,MZ,LY,hp,y9,λv h=>?_];obtain⟨fs,rfl,_⟩:=h.objm;exact#[_,rfl,_,rfl,_,_,_,_,rfl,hR _ h]
def GL(hL:5<=n)(T:V.T "rehue_from" iZ gK)(uE:V.m "int")(uJ:V.MM n "form_from" cL (dE j))(On:jP V)(uC:cN V):V.MM (n+1) "rehue_from" gK (wu j):=by
 refine Tx.okM T sc_rehue_from (λds M R RX h=>?_) (λf cdv A outer s H E J hr hx=>⟨_,((aj (aH 2 sc_rehue_from.nd (vf uE (aE (aU (hn:=MC) (CalMth.one uC) hx hr (ag (aa 0)) (aA (ac ax ae))) aZ)))
   (aj (aH 3 sc_rehue_from.nd (vf uE (aE (aU (hn:=MC) (CalMth.one uC) hx hr (ag (aa 0)) (aA (ac ax ae))) aZ)))
   (au (aF (iz (hn:=MC) On hr (aE (aM (hn:=MC) uJ hx hr (aA (ac (aa 0) (ac (aa 1) ae)))) (aE (ag (aa 2)) (aE (ag (aa 3)) aZ))))))))),λds M R RX d6 h=>?_⟩)
 .obtain⟨_,_,_,_,_,_,_,_,rfl,_⟩:=h;rfl
 .obtain⟨a,t,k,f,g,p,l,d,rfl,rfl,c9,MZ,LY,hf,hg,hp,y9,hR⟩:=h;have Sk:∀{f:Int},1<=f/\f<=6->PySem.intText? (#[[(48+f).toNat].toArray]:LB)=be f:=λ{f} h=>by
   have:=digit_of (c:=(48+f).toNat) KK;rw[show(((48+f).toNat:Nat):Int)-48=f by lia]at this;exact this
  refine#[λv M'=>v=.int f/\M'=RdM a t (k+1),#[_,HN.mpr rfl,_,bc,cu,a,t,_,_,_,"123456",rfl,rfl,c9,wn hf,_,#[Sk hf,by show(1:Nat)<=640;decide],rfl,rfl],?_];rintro _ _⟨rfl,rfl⟩;k_places;refine#[λv M'=>v=.int g/\M'=RdM a t (k+2),#[_,HN.mpr rfl,_,bc,cu,a,t,_,_,_,"123456",rfl,rfl,c9.next,wn hg,_,#[Sk hg,by show(1:Nat)<=640;decide],rfl,rfl],?_];rintro _ _⟨rfl,rfl⟩;k_places;refine#[a,t,_,p,l,d,rfl,rfl,c9.next.next,MZ,LY,hp,y9,λv h=>?_];obtain⟨fs,rfl,_⟩:=h.objm;exact#[_,_,_,_,rfl,hR _ h]
def GM(hL:5<=n)(T:V.T "form_from" ja cL)(Ue:V.MM n "over_from" gI (wo j))(Uf:V.MM n "shifted_from" gJ (wt j))(uJ:V.MM n "form_from" cL (dE j))(Ug:V.MM n "rehue_from" gK (wu j))(Oo:jK V)(Op:V.gi "DEEP" 5)(Oq:jL V)(Ot:jM V)(uL:dG V):V.MM (n+1) "form_from" cL (dE (j+1)):=by
 refine Tx.okM T sc_form_from (λds M R RX h=>?_) (λf cdv A outer s H E J hr hx=>⟨_,((aj (aH 2 sc_form_from.nd (gv (bv (fU (aa 1) (eZ Op))) (aU (hn:=MC) (CalMth.one uL) hx hr (ag (aa 0)) (aA (ac ax ae))) (ag ax)))
   (aj (aX (bv (bj (aa 2) ax)) (au (aF (aM (hn:=MC) Ue hx hr (aA (ac (aa 0) (ac (am (aa 1) ad) ae)))))) aQ)
   (aj (aX (bv (bj (aa 2) ax)) (au (aF (aM (hn:=MC) Uf hx hr (aA (ac (aa 0) (ac (am (aa 1) ad) ae)))))) aQ)
   (aj (aX (bv (bj (aa 2) ax)) (au (aF (iz (hn:=MC) Oq hr (aE (aM (hn:=MC) uJ hx hr (aA (ac (aa 0) (ac (am (aa 1) ad) ae)))) aZ)))) aQ)
   (aj (aX (bv (bj (aa 2) ax)) (au (aF (iz (hn:=MC) Ot hr (aE (aM (hn:=MC) uJ hx hr (aA (ac (aa 0) (ac (am (aa 1) ad) ae)))) aZ)))) aQ)
   (aj (aX (bv (bj (aa 2) ax)) (au (aF (aM (hn:=MC) Ug hx hr (aA (ac (aa 0) (ac (am (aa 1) ad) ae)))))) aQ)
   (au (aF (aM (hn:=MC) Oo hx hr (aA (ac (aa 0) ae)))))))))))),λds M R RX d6 h=>?_⟩)
 .obtain⟨_,_,_,_,_,_,rfl,_⟩:=h;rfl
 .obtain⟨a,t,k,p,l,d,rfl,rfl,c9,MZ,LY,hp,y9,hR⟩:=h;refine#[λv M'=>v=.str (mayS "(smth" (p.tl++l))/\M'=RdM a t (k+mayN "(smth" (p.tl++l)),?_,?_]
  .show if decide ((d:Int)<5)=true then _ else _
   refine ite2 (λc=>?_) (λc=>?_)
   .exact#[_,HN.mpr rfl,_,bc,dD,a,t,_,_,"(smth",rfl,rfl,c9,rfl,rfl]
   .have c':¬((d:Int)<5):=λz=>c (decide_eq_true z);cases p with
    |mot L a b c d=>exact#[rfl,rfl]
    |_=>rw[Pat.depth]at y9;lia
  rintro _ _⟨rfl,rfl⟩;k_places;cases p with
  |mot L x y u v=>exact#[a,t,k,L,x,y,u,v,l,rfl,rfl,c9,hp,hR]
  |over p q=>
   rw[Pat.depth]at y9;have e:k+(Pat.over p q).tl.length=k+1+p.tl.length+1+q.tl.length+1:=by rw[Pat.tl];simp;lia
   have c_:At t (k+1) (p.tl++124::(q.tl++41::l)):=by have:=c9.next;simpa using this
   rw[e]at hR;exact#[a,t,k+1,p,q,l,d+1,rfl,rfl,c_,KK,KK,hp.1,hp.2,KK,KK,λu u' h1 h2=>hR _ #[u,u',rfl,h1,h2]]
  |sh x y p=>
   rw[Pat.depth]at y9;have e:k+(Pat.sh x y p).tl.length=k+1+(numL x).length+1+(numL y).length+1+p.tl.length:=by rw[Pat.tl];simp;lia
   have c_:At t (k+1) (numL x++44::(numL y++58::(p.tl++l))):=by have:=c9.next;simpa using this
   rw[e]at hR;exact#[a,t,k+1,x,y,p,l,d+1,rfl,rfl,c_,KK,KK,hp.1,hp.2.1,hp.2.2,KK,λu h1=>hR _ #[u,rfl,h1]]
  |mir p=>
   rw[Pat.depth]at y9;have e:k+(Pat.mir p).tl.length=k+1+p.tl.length:=by rw[Pat.tl];simp;lia
   rw[e]at hR;refine#[a,t,k+1,p,l,d+1,rfl,rfl,c9.next,KK,KK,hp,KK,λu h1=>?_];obtain⟨fs,rfl,_⟩:=h1.objm;exact#[_,_,rfl,hR _ #[_,rfl,h1]]
  |tur p=>
   rw[Pat.depth]at y9;have e:k+(Pat.tur p).tl.length=k+1+p.tl.length:=by rw[Pat.tl];simp;lia
   rw[e]at hR;refine#[a,t,k+1,p,l,d+1,rfl,rfl,c9.next,KK,KK,hp,KK,λu h1=>?_];obtain⟨fs,rfl,_⟩:=h1.objm;exact#[_,_,rfl,hR _ #[_,rfl,h1]]
  |hue f g p=>
   rw[Pat.depth]at y9;have e:k+(Pat.hue f g p).tl.length=k+1+2+p.tl.length:=by rw[Pat.tl,hueL hp.1,hueL hp.2.1];simp;lia
   have c_:At t (k+1) ((48+f).toNat::(48+g).toNat::(p.tl++l)):=by
    have:=c9.next;rw[hueL hp.1,hueL hp.2.1]at this;simpa using this
   rw[e]at hR;exact#[a,t,k+1,f,g,p,l,d+1,rfl,rfl,c_,KK,KK,hp.1,hp.2.1,hp.2.2,KK,λu h1=>hR _ #[u,rfl,h1]]
def GN(Uh:V.T "over_from" iX gI)(Ui:V.T "shifted_from" iY gJ)(Uj:V.T "rehue_from" iZ gK)(Sl:V.T "form_from" ja cL)(Ol:jN V)(uC:cN V)(L5:gP V)(Om:jO V)(uE:V.m "int")(On:jP V)(Oo:jK V)(Op:V.gi "DEEP" 5)(Oq:jL V)(Ot:jM V)(uL:dG V):∀j,V.MM (5+2*j) "form_from" cL (dE j):=by
 intro j;induction j with
 |zero=>exact CalMM.never Sl (λds M R RX=>Dt)
 |succ j ih=>
  have Ou:=ih;have QQ:=GJ (n:=5+2*j) (j:=j) MC Uh Ou Ol uC;have QR:=GK (n:=5+2*j) (j:=j) MC Ui L5 Ou Om uC;have QS:=GL (n:=5+2*j) (j:=j) MC Uj uE Ou On uC;have Ou:=Cal.mono ih (Jc _);exact GM (n:=5+2*j+1) (j:=j) MC Sl QQ QR Ou QS Oo Op Oq Ot uL
abbrev qM(V:Bx):Prop:=V.M 1 "Reading" oV C4
def GO(T:V.Ti "Reading" "Reading.__init__" oU oV)(Mm:V.a "Reading" "text")(uO:V.a "Reading" "place"):qM V:=by
 refine Txi.okI T EZ (λds R h=>?_) (λf cdv A outer s H E J hr=>#[_,((bQ Mm (aa 1) (bQ uO ad dO))),λds R h=>?_])
 .obtain⟨_,rfl,_⟩:=h;rfl
 .obtain⟨t,rfl,hR⟩:=h;refine#[Mx,RN,?_];show R (putD _ _ (putD _ _ []));rw[putD,putD,if_neg Mt];exact hR
abbrev qN(V:Bx):Prop:=V.M 1 "Pattern" oX Dz
def GP(T:V.Ti "Pattern" "Pattern.__init__" oW oX)(Nq:V.a "Pattern" "text")(Lw:V.a "Pattern" "shifts")(Nk:V.a "Pattern" "form"):qN V:=by
 refine Txi.okI T E1 (λds R h=>?_) (λf cdv A outer s H E J hr=>#[_,((bQ Nq (aa 1) (bQ Lw (aa 2) (bQ Nk (aa 3) dO)))),λds R h=>?_])
 .obtain⟨_,_,_,_,_,_,rfl,_⟩:=h;rfl
 .obtain⟨t,w,h,s,x,fs,rfl,hR⟩:=h;refine#[Mx,RN,by show(2:Nat)<1000;decide,?_];show R (putD _ _ (putD _ _ (putD _ _ [])));rw[show putD ("shifts":LB) (.tup [.int w,.int h,.int s]) (putD ("text":LB) (.str t) [])=([("text",.str t),("shifts",.tup [.int w,.int h,.int s])]:List (LB×D))by rw[putD,putD,if_neg Mt];rfl,putD,if_neg Mt,putD,if_neg Mt];exact hR
abbrev qO(V:Bx):Prop:=V.D 2 "measure" oZ Cm
def GQ(T:V.T "measure" oY oZ)(No:jI V):qO V:=by
 refine Tx.okDW T sc_measure (λds R h=>?_) (λf cdv A outer s H E J hr=>⟨_,((ai (aq 2 sc_measure.nd (af (aw No hr (ac (aI (ac ad (ac (aa 0) ae))) (ac (aI (ac ad (ac (aa 1) ae))) ae))) ad))
   (ao (az (aI (ac (af (aa 2) ad) (ac (af (aa 2) ad) ae))))))),λds R h=>?_⟩)
 .obtain⟨x,y,rfl,_⟩:=h;rfl
 .obtain⟨x,y,rfl,hx,hy,hR⟩:=h;refine#[λd=>∃p0 p1:Int,d=.tup [.int p0,.int p1]/\Meas x y p1 p0,#[MD,MD,1,x,0,y,rfl,hx,hy,λp0 p1 q0 hL=>#[_,rfl,p0,p1,rfl,vD #[hL.1,hL.2]]],?_];rintro _⟨p0,p1,rfl,hM⟩;k_places;exact#[_,rfl,_,rfl,MD,hR p1 p0 hM]
abbrev jQ(V:Bx):Prop:=V.D 3 "met" pe Cn
def GR(T:V.T "met" pd pe)(Ov:qO V):jQ V:=by
 refine Tx.okDW T sc_met (λds R h=>?_) (λf cdv A outer s H E J hr=>⟨_,((ai (aq 2 sc_met.nd (aw Ov hr (ac (af (aa 0) ad) (ac (af (aa 1) ad) ae))))
   (ai (aq 3 sc_met.nd (aW (ay (af (aa 0) ad) (af (aa 1) ad)) (af (aa 2) ad)))
   (ai (aq 4 sc_met.nd (aW (ay (af (aa 0) ad) (af (aa 1) ad)) (af (aw Ov hr (ac (af (aa 0) ad) (ac (af (aa 1) ad) ae))) ad)))
   (ai (aq 5 sc_met.nd (ay (aW (aa 4) (af (aa 0) ad)) (af (aa 0) ad)))
   (ai (aq 6 sc_met.nd (bt (ay (aW (aa 4) (af (aa 1) ad)) (af (aa 1) ad)) (aa 5)))
   (ai (aq 7 sc_met.nd (aW (af (aa 2) ad) (af (aw Ov hr (ac (af (aa 2) ad) (ac (aa 6) ae))) ad)))
   (ai (aq 8 sc_met.nd (ay (aW (ay (aa 7) (aa 6)) (af (aa 2) ad)) (af (aa 2) ad)))
   (ao (az (aI (ac (aa 3) (ac (ay (aa 4) (aa 7)) (ac (aD (am (ay (aa 7) (aa 5)) (ay (aa 8) (af (aa 0) ad))) (aa 3)) ae)))))))))))))),λds R h=>?_⟩)
 .obtain⟨_,_,_,_,_,_,rfl,_⟩:=h;rfl
 .obtain⟨w1,h1,s1,w2,h2,s2,rfl,a1,a2,a3,a4,a5,a6,b1,b2,b3,b4,b5,b6,hR⟩:=h;refine#[λd=>∃g u:Int,d=.tup [.int g,.int u]/\Meas w1 w2 g u,#[_,rfl,_,rfl,w1,w2,rfl,MC,MC,λg u M=>#[g,u,rfl,M]],?_];rintro _⟨g,u,rfl,M1⟩;k_places;have hg:=M1.pos a1;have Qq:=M1.le a1;refine#[λd=>d=.int (w1*w2/g),#[_,rfl,_,rfl,.inl (b64B a1 a2),_,rfl,d30B hg (IJ Qq a2),rfl],?_];rintro _ rfl;k_places;refine#[λd=>∃k u':Int,d=.int (h1*h2/k)/\Meas h1 h2 k u',#[_,rfl,_,rfl,.inl (b64B a3 a4),_,rfl,_,rfl,h1,h2,rfl,MC,MC,λk u' M=>#[_,rfl,d30B (M.pos a3) (IJ (M.le a3) a4),k,u',rfl,M]],?_];rintro _⟨k,u',rfl,M2⟩;k_places;obtain⟨r0,r1,r2,r3,r4,r5⟩:=lZ a3 b3 M2;have Uk:h1*h2<=1125899906842624:=by
   have:=bU (a:=h1) (d:=h2) (A:=33554432) (B:=33554432) MC MC;omega
  refine#[λd=>d=.int (h1*h2/k/h1*s1),#[_,rfl,d30B a3 a4,_,rfl,.inr (s64B a5 a6 a2),rfl],?_];rintro _ rfl;k_places;refine#[λd=>d=.int (h1*h2/k/h2*s2-h1*h2/k/h1*s1),#[_,rfl,d30B b3 b4,_,rfl,.inr (s64B b5 b6 b2),rfl],?_];rintro _ rfl;k_places;have t1:=bU (a:=h1*h2/k/h1) (d:=s1) (A:=33554432) (B:=33554432) MC MC;have t2:=bU (a:=h1*h2/k/h2) (d:=s2) (A:=33554432) (B:=33554432) MC MC;refine#[λd=>∃gg x8:Int,d=.int (g/gg)/\Meas g (h1*h2/k/h2*s2-h1*h2/k/h1*s1) gg x8,#[_,rfl,_,rfl,g,_,rfl,MC,MC,λgg x8 M=>#[_,rfl,d30B (M.pos hg) (IJ (M.le hg) (IJ Qq a2)),gg,x8,rfl,M]],?_];rintro _⟨gg,x8,rfl,M3⟩;k_places;have LU:=M3.pos hg;have c1:0<=g/gg:=J1 MC MC;have c2:g/gg<=g:=Ku _ MC;have c4:=B7 (c:=g/gg) (gap:=h1*h2/k/h2*s2-h1*h2/k/h1*s1) (N:=2251799813685248) hg c1 c2 MC;have mr:=lY a1 b1 a3 b3 M1 M2 M3;refine#[λd=>d=.int (g/gg*(h1*h2/k/h2*s2-h1*h2/k/h1*s1)/g*u),#[.inl #[MC,MC],_,rfl,#[MC,MC],_,rfl,.inl #[MC,MC],rfl],?_];rintro _ rfl;k_places;obtain⟨w0,w3,_⟩:=lZ a1 b1 M1;have Ul:w1*w2<=1125899906842624:=by
   have:=bU (a:=w1) (d:=w2) (A:=33554432) (B:=33554432) MC MC;omega
  have RT:=bU (a:=h1*h2/k) (d:=g/gg) (A:=1125899906842624) (B:=33554432) MC MC;exact#[.inl #[MC,MC],.inl #[MC,MC],_,rfl,.inr #[MC,MC],w0,MD,hR _ _ _ _ mr]
abbrev jR(V:Bx):Prop:=V.D 1 "mirrored" ph Ck
def GS(T:V.T "mirrored" pf ph):jR V:=by
 refine Tx.okDW T E2 (λds R h=>?_) (λf cdv A outer s H E J hr=>#[_,((ao (az (aI (ac (af (aa 0) ad) (ac (af (aa 0) ad) (ac (aD (cm (af (aa 0) ad)) (af (aa 0) ad)) ae))))))),λds R h=>?_])
 .obtain⟨w,h,s,rfl,_⟩:=h;rfl
 .obtain⟨w,h,s,rfl,hw,hR⟩:=h;exact#[_,rfl,_,rfl,_,rfl,_,rfl,hw,MD,hR]
abbrev jS(V:Bx):Prop:=V.D 3 "turned" pj Cl
def GT(T:V.T "turned" pi pj)(Np:jJ V):jS V:=by
 refine Tx.okDW T E3 (λds R h=>?_) (λf cdv A outer s H E J hr=>#[_,((ao (az (aw Np hr (ac (aI (ac ad (ac (af (aa 0) ad) ae))) (ac (aI (ac (cm (af (aa 0) ad)) (ac (af (aa 0) ad) ae))) ae)))))),λds R h=>?_])
 .obtain⟨w,h,s,rfl,_⟩:=h;rfl
 .obtain⟨w,h,s,rfl,hw,hh,N6,Lv,hs,l8,hR⟩:=h;have hp:0<w*h:=Ii hw hh;have hn:¬0*s=w* -h:=by rw[JX];lia
  exact#[_,rfl,MD,_,rfl,_,rfl,MD,0,w,-h,s,rfl,KK,KK,KK,KK,λe=>absurd e hn,λ_ w' h' s' f=>hR w' h' s' f]
def ok_Motif_family(hL:3<=n)(T:V.Tm "Motif" "family" "Motif.family" jb cE)(uN:V.a "Motif" "shifts"):V.Q (n+1) "Motif" "family" cE (ofX (bZ (j+1) "Motif")):=by
 refine Txm.okM T E4 (λds M R RX h=>?_) (λf cdv A outer s H E J hr hx=>⟨_,((aj (aX (lH (aG uN (ag (aa 0))) (ag bC)) (au iB) aQ)
   (au (aF (aG uN (ag (aa 0))))))),λds M R RX d6 h=>?_⟩)
 .obtain⟨_,_,rfl,_⟩:=h;rfl
 .obtain⟨p,v,rfl,hv,hp,hd,hc,hf,hR⟩:=h;cases p<;>simp only[Pat.cls]at hc<;>try exact absurd hc Mt
  obtain⟨k,w,h,s,rfl,F⟩:=hv;exact#[_,#[rfl,rfl],_,mo_shifts,_,#[rfl,rfl],_,mo_shifts,hR w h s (Pat.Fam.mot F)]
def GU(hL:3<=n)(T:V.Tm "Over" "family" "Over.family" jc jd)(Ow:jQ V)(uZ:V.a "Over" "above")(uY:V.a "Over" "below")(uI:∀x,x∈(["Motif","Over","Shifted","Mirror","Turn","Rehue"]:List LB)->V.Q n x "family" cE (ofX (bZ j x))):V.Q (n+1) "Over" "family" jd (ofX (bZ (j+1) "Over")):=by
 refine Txm.okM T sc_Over_family (λds M R RX h=>?_) (λf cdv A outer s H E J hr hx=>⟨_,((aj (aH 1 sc_Over_family.nd (cj (hn:=MC) uI hx hr (aG uZ (ag (aa 0)))))
   (au (aF (aM (hn:=MC) (CalD.toM Ow) hx hr (aE (ag (aa 1)) (aE (cj (hn:=MC) uI hx hr (aG uY (ag (aa 0)))) aZ))))))),λds M R RX d6 h=>?_⟩)
 .obtain⟨_,_,rfl,_⟩:=h;rfl
 .obtain⟨p,v,rfl,hv,hp,hd,hc,hf,hR⟩:=h;cases p<;>simp only[Pat.cls]at hc<;>try exact absurd hc Mt
  rename_i p q;obtain⟨u,u',rfl,hu,Od⟩:=hv;obtain⟨fs,rfl,o1⟩:=hu.objm;obtain⟨gs,rfl,o2⟩:=Od.objm;obtain⟨f1,f2⟩:=Pat.Fits.over_parts hp.1 hp.2 hf;rw[Pat.depth]at hd;refine#[λd M'=>(∃w h s,p.Fam w h s/\d=.tup [.int w,.int h,.int s])/\M'=M,#[_,#[rfl,rfl],_,rfl,p.cls,p.cls_mem,fs,#[rfl,rfl],o1.fam,p,_,rfl,hu,hp.1,KK,rfl,f1,λw h s F=>#[#[w,h,s,F,rfl],rfl]],?_];rintro _ _⟨⟨w1,h1,s1,F1,rfl⟩,rfl⟩;k_places;refine#[_,#[rfl,rfl],_,fF Mt,q.cls,q.cls_mem,gs,#[rfl,rfl],o2.fam,q,_,rfl,Od,hp.2,KK,rfl,f2,λw2 h2 s2 F2=>?_];obtain⟨a1,a2,a3,a4,a5,a6⟩:=f1.small F1;obtain⟨b1,b2,b3,b4,b5,b6⟩:=f2.small F2;exact#[w1,h1,s1,w2,h2,s2,rfl,a1,KK,a3,KK,a5,a6,b1,KK,b3,KK,b5,b6,λw h s A MR=>hR w h s (Pat.Fam.over F1 F2 MR)]
def GV(hL:3<=n)(T:V.Tm "Shifted" "family" "Shifted.family" je jg)(v5:V.a "Shifted" "form")(uI:∀x,x∈(["Motif","Over","Shifted","Mirror","Turn","Rehue"]:List LB)->V.Q n x "family" cE (ofX (bZ j x))):V.Q (n+1) "Shifted" "family" jg (ofX (bZ (j+1) "Shifted")):=by
 refine Txm.okM T E5 (λds M R RX h=>?_) (λf cdv A outer s H E J hr hx=>#[_,((au (aF (cj (hn:=MC) uI hx hr (aG v5 (ag (aa 0))))))),λds M R RX d6 h=>?_])
 .obtain⟨_,_,rfl,_⟩:=h;rfl
 .obtain⟨p,v,rfl,hv,hp,hd,hc,hf,hR⟩:=h;cases p<;>simp only[Pat.cls]at hc<;>try exact absurd hc Mt
  rename_i a b p;obtain⟨u,rfl,hu⟩:=hv;obtain⟨fs,rfl,o1⟩:=hu.objm;rw[Pat.depth]at hd;refine#[_,#[rfl,rfl],_,rfl,p.cls,p.cls_mem,fs,#[rfl,rfl],o1.fam,p,_,rfl,hu,hp.2.2,KK,rfl,hf.of_sh,λw h s F=>?_];exact hR w h s (F.sh a b)
def GW(hL:3<=n)(T:V.Tm "Mirror" "family" "Mirror.family" jh ji)(Ox:jR V)(uU:V.a "Mirror" "form")(uI:∀x,x∈(["Motif","Over","Shifted","Mirror","Turn","Rehue"]:List LB)->V.Q n x "family" cE (ofX (bZ j x))):V.Q (n+1) "Mirror" "family" ji (ofX (bZ (j+1) "Mirror")):=by
 refine Txm.okM T E6 (λds M R RX h=>?_) (λf cdv A outer s H E J hr hx=>#[_,((au (aF (aM (hn:=MC) (CalD.toM Ox) hx hr (aE (cj (hn:=MC) uI hx hr (aG uU (ag (aa 0)))) aZ))))),λds M R RX d6 h=>?_])
 .obtain⟨_,_,rfl,_⟩:=h;rfl
 .obtain⟨p,v,rfl,hv,hp,hd,hc,hf,hR⟩:=h;cases p<;>simp only[Pat.cls]at hc<;>try exact absurd hc Mt
  rename_i p;obtain⟨u,rfl,hu⟩:=hv;obtain⟨fs,rfl,o1⟩:=hu.objm;rw[Pat.depth]at hd;refine#[_,#[rfl,rfl],_,rfl,p.cls,p.cls_mem,fs,#[rfl,rfl],o1.fam,p,_,rfl,hu,hp,KK,rfl,Pat.Fits.of_mir (p:=p) hp hf,λw h s F=>?_];exact#[w,h,s,rfl,F.f.w0,hR w h _ F.mir]
def GX(hL:3<=n)(T:V.Tm "Turn" "family" "Turn.family" jj jk)(Oy:jS V)(uV:V.a "Turn" "form")(uI:∀x,x∈(["Motif","Over","Shifted","Mirror","Turn","Rehue"]:List LB)->V.Q n x "family" cE (ofX (bZ j x))):V.Q (n+1) "Turn" "family" jk (ofX (bZ (j+1) "Turn")):=by
 refine Txm.okM T E7 (λds M R RX h=>?_) (λf cdv A outer s H E J hr hx=>#[_,((au (aF (aM (hn:=MC) (CalD.toM Oy) hx hr (aE (cj (hn:=MC) uI hx hr (aG uV (ag (aa 0)))) aZ))))),λds M R RX d6 h=>?_])
 .obtain⟨_,_,rfl,_⟩:=h;rfl
 .obtain⟨p,v,rfl,hv,hp,hd,hc,hf,hR⟩:=h;cases p<;>simp only[Pat.cls]at hc<;>try exact absurd hc Mt
  rename_i p;obtain⟨u,rfl,hu⟩:=hv;obtain⟨fs,rfl,o1⟩:=hu.objm;rw[Pat.depth]at hd;refine#[_,#[rfl,rfl],_,rfl,p.cls,p.cls_mem,fs,#[rfl,rfl],o1.fam,p,_,rfl,hu,hp,KK,rfl,Pat.Fits.of_tur (p:=p) hp hf,λw h s F=>?_];obtain⟨a1,a2,a3,a4,a5,a6⟩:=(Pat.Fits.of_tur (p:=p) hp hf).small F;exact#[w,h,s,rfl,a1,a3,KK,KK,a5,KK,λw' h' s' F'=>hR w' h' s' (F.tur F')]
def GY(hL:3<=n)(T:V.Tm "Rehue" "family" "Rehue.family" jl jn)(uX:V.a "Rehue" "form")(uI:∀x,x∈(["Motif","Over","Shifted","Mirror","Turn","Rehue"]:List LB)->V.Q n x "family" cE (ofX (bZ j x))):V.Q (n+1) "Rehue" "family" jn (ofX (bZ (j+1) "Rehue")):=by
 refine Txm.okM T E8 (λds M R RX h=>?_) (λf cdv A outer s H E J hr hx=>#[_,((au (aF (cj (hn:=MC) uI hx hr (aG uX (ag (aa 0))))))),λds M R RX d6 h=>?_])
 .obtain⟨_,_,rfl,_⟩:=h;rfl
 .obtain⟨p,v,rfl,hv,hp,hd,hc,hf,hR⟩:=h;cases p<;>simp only[Pat.cls]at hc<;>try exact absurd hc Mt
  rename_i f g p;obtain⟨u,rfl,hu⟩:=hv;obtain⟨fs,rfl,o1⟩:=hu.objm;rw[Pat.depth]at hd;refine#[_,#[rfl,rfl],_,rfl,p.cls,p.cls_mem,fs,#[rfl,rfl],o1.fam,p,_,rfl,hu,hp.2.2,KK,rfl,hf.of_hue,λw h s F=>?_];exact hR w h s (F.hue f g)
def GZ(Sm:V.Tm "Motif" "family" "Motif.family" jb cE)(Sn:V.Tm "Over" "family" "Over.family" jc jd)(So:V.Tm "Shifted" "family" "Shifted.family" je jg)(Sq:V.Tm "Mirror" "family" "Mirror.family" jh ji)(Sr:V.Tm "Turn" "family" "Turn.family" jj jk)(Ss:V.Tm "Rehue" "family" "Rehue.family" jl jn)(uN:V.a "Motif" "shifts")(Ow:jQ V)(uZ:V.a "Over" "above")(uY:V.a "Over" "below")(v5:V.a "Shifted" "form")(Ox:jR V)(uU:V.a "Mirror" "form")(Oy:jS V)(uV:V.a "Turn" "form")(uX:V.a "Rehue" "form"):∀j x,x∈(["Motif","Over","Shifted","Mirror","Turn","Rehue"]:List LB)->V.Q (3+j) x "family" cE (ofX (bZ j x)):=by
 intro j;induction j with
 |zero=>
  intro x hx;simp only[HQ,Jw,or_false]at hx;rcases hx with rfl|rfl|rfl|rfl|rfl|rfl
  .exact CalMth.never Sm (λds M R RX=>fG)
  .exact CalMth.never Sn (λds M R RX=>fG)
  .exact CalMth.never So (λds M R RX=>fG)
  .exact CalMth.never Sq (λds M R RX=>fG)
  .exact CalMth.never Sr (λds M R RX=>fG)
  .exact CalMth.never Ss (λds M R RX=>fG)
 |succ j Oz=>
  intro x hx;simp only[HQ,Jw,or_false]at hx;rcases hx with rfl|rfl|rfl|rfl|rfl|rfl
  .exact ok_Motif_family (n:=3+j) (j:=j) MC Sm uN
  .exact GU (n:=3+j) (j:=j) MC Sn Ow uZ uY Oz
  .exact GV (n:=3+j) (j:=j) MC So v5 Oz
  .exact GW (n:=3+j) (j:=j) MC Sq Ox uU Oz
  .exact GX (n:=3+j) (j:=j) MC Sr Oy uV Oz
  .exact GY (n:=3+j) (j:=j) MC Ss uX Oz
abbrev wZ(V:Bx):Prop:=V.MM 17 "form_from" cL (dE 6)
abbrev xa(V:Bx):Prop:=∀x,x∈(["Motif","Over","Shifted","Mirror","Turn","Rehue"]:List LB)->V.Q 9 x "family" cE (ofX (bZ 6 x))
abbrev jT(V:Bx):Prop:=V.X 18 "read" pq S_read
def G0(T:V.T "read" pk pq)(uB:V.m "len")(uJ:wZ V)(QT:V.gi "MOST" 720)(uO:V.a "Reading" "place")(QU:qM V)(QV:qN V)(uI:xa V):jT V:=by
 refine CalMM.nilX (Tx.okM T sc_read (λds M R RX h=>?_) (λf cdv A outer s H E J hr hx=>⟨_,((aj (aH 1 sc_read.nd (Bh QU hr (aA (ac (aa 0) ae))))
   (aj (aH 2 sc_read.nd (aM uJ hx hr (aA (ac (aa 1) (ac ad ae)))))
   (aj (aX (vc (aG uO (ag (aa 1))) (ag (bP uB (ac (aa 0) ae)))) (au iB) aQ)
   (aj (aH 3 sc_read.nd (cj uI hx hr (ag (aa 2))))
   (aj (aX (bv (fV (ay (af (aa 3) ad) (af (aa 3) ad)) (eZ QT))) (au iB) aQ)
   (au (aF (ag (lv QV hr (ac (aa 0) (ac (aa 3) (ac (aa 2) ae))))))))))))),λds M R RX d6 h=>?_⟩))
 .obtain⟨_,R0,LS,⟨_,rfl,_⟩,_⟩:=h;rfl
 .obtain⟨rfl,R0,LS,⟨p,rfl,ok,hG⟩,hR,hX⟩:=h;have b8:=Pat.text_short ok.wf ok.deep;have c9:At p.text 0 (p.tl++[]):=#[by rw[IA];exact cr p,Iq _,KK];have T9:=ok.deep;have hl:p.text.length=p.tl.length:=by rw[<-bn,cr]
  refine#[λd M'=>∃a,d=.ptr a/\M'=RdM a p.text 0,#[_,rfl,λa _=>#[a,rfl,rfl]],?_];rintro _ _⟨a,rfl,rfl⟩;k_places;refine#[λv M'=>FormOf p v/\M'=RdM a p.text p.tl.length,#[a,p.text,0,p,[],0,rfl,rfl,c9,rfl,Mx,ok.wf,KK,λv h=>#[h,by rw[Ko]]],?_];rintro v _⟨hv,rfl⟩;k_places;refine#[_,bc,_,fB,KK,ite2 (λc=>absurd (of_decide_eq_true c) KK) (λ_=>?_)];obtain⟨fs,rfl,o1⟩:=hv.objm;refine#[λd M'=>∃w h s,p.Fam w h s/\d=.tup [.int w,.int h,.int s],#[p.cls,p.cls_mem,fs,#[rfl,rfl],o1.fam,p,_,rfl,hv,ok.wf,KK,rfl,ok.fits,λw h s F=>#[w,h,s,F,rfl]],?_];rintro _ M'⟨w,h,s,F,rfl⟩;k_places;have a1:=ok.fits.small F;obtain⟨w',h',s',F',hb⟩:=ok.fits;obtain⟨rfl,rfl,_⟩:=F.uniq F';refine#[_,rfl,_,rfl,.inl #[KK,KK],ite2 (λc=>absurd (of_decide_eq_true c) KK) (λ_=>?_)];exact#[_,_,_,_,_,_,rfl,hR _ _ (hG _ #[_,_,s,_,rfl,rfl,fF Mt,#[F,#[_,mn Mt Mt,hv],by simp[noLF,noL,noLs,o1.nl]]])]
def G1:SpD:=λds R=>∃(p q:Pat) (d e:D) (w h:Int),ds=[d,e,.int w,.int h]/\br p d/\br q e/\p.Ok/\q.Ok/\0<=w/\w<=720/\0<=h/\h<=720/\((∀x y:Int,0<=x->x<w->0<=y->y<h->p.show x y=q.show x y)->R .non)/\∀x y:Int,0<=x->x<w->0<=y->y<h->p.show x y≠q.show x y->(∀x' y':Int,0<=x'->x'<w->0<=y'->(y'<y\/(y'=y/\x'<x))->p.show x' y'=q.show x' y')->R (.tup [.int x,.int y])
abbrev qP(V:Bx):Prop:=V.D 9 "first_unlike" pv G1
def G2(T:V.T "first_unlike" pr pv)(uA:V.m "range")(MX:jE V):qP V:=by
 refine Tx.okDW T sc_first_unlike (λds R h=>?_) (λf cdv A outer s H E J hr=>⟨_,((ai (bY 4 PassesOwn.never rfl sc_first_unlike.nd uA (aa 3) (ao (bY 5 PassesOwn.never rfl sc_first_unlike.nd uA (aa 2) (ao (bf (ce (aw (CalX.no MX) hr (ac (aa 0) (ac (aa 5) (ac (aa 4) ae)))) (aw (CalX.no MX) hr (ac (aa 1) (ac (aa 5) (ac (aa 4) ae))))) (ao (az (aI (ac (aa 5) (ac (aa 4) ae))))) aT)))))
   (ao (az bC)))),λds R h=>?_⟩)
 .obtain⟨_,_,_,_,_,_,rfl,_⟩:=h;rfl
 .obtain⟨p,q,d,e,w,h,rfl,hd,he,n9,g6,w0,w7,h0,h7,hN,hS⟩:=h;obtain⟨wd,f6,sd,fs,rfl,q1,q2,fam⟩:=hd;have hd:br p (.obj "Pattern" fs):=#[wd,f6,sd,fs,rfl,q1,q2,fam];obtain⟨Um,M0,Uo,O0,rfl,q3,q4,QW⟩:=he;have he:br q (.obj "Pattern" O0):=#[Um,M0,Uo,O0,rfl,q3,q4,QW];refine#[#[MC,MC],λk z=>∃o4 o5,z=[be (.obj "Pattern" fs),be (.obj "Pattern" O0),be (.int w),be (.int h),o4,o5]/\∀x y:Int,0<=x->x<w->0<=y->y<k->p.show x y=q.show x y,#[_,_,rfl,λx y _ _ a b=>MC],?_,?_]
  .rintro k v z hk⟨o4,o5,rfl,hj⟩;k_places;obtain⟨p_,rfl⟩:=bK hk;refine#[#[MC,MC],λi z=>∃o5,z=[be (.obj "Pattern" fs),be (.obj "Pattern" O0),be (.int w),be (.int h),be (.int k),o5]/\∀x:Int,0<=x->x<i->p.show x k=q.show x k,#[_,rfl,λx a b=>MC],?_,?_]
   .rintro i v z hi⟨o5,rfl,j3⟩;k_places;obtain⟨y7,rfl⟩:=bK hi;have nn:bo (i:Int)/\bo (k:Int):=#[#[MC,MC],MC,MC];refine#[p,_,i,k,rfl,hd,n9,λ_=>#[q,_,i,k,rfl,he,g6,λ_=>?_,λn=>n nn],λn=>n nn];refine ite2 (λc=>?_) (λc=>?_)
    .refine#[NL,hS i k MC MC MC MC (λz=>by simp[z]at c) λx' y' a b c d=>?_];rcases d with d|⟨rfl,d⟩
     .exact hj x' y' a b c MC
     .exact j3 x' a MC
    .have c':p.show i k=q.show i k:=by simpa using c
     refine#[_,rfl,λx a b=>?_];by_cases e:x=i
     .rw[e];exact c'
     .exact j3 x a MC
   .rintro z⟨o5,rfl,j3⟩;k_places;rw[bL]at j3;refine#[_,_,rfl,λx y a b c d=>?_];by_cases e:y=k
    .rw[e];exact j3 x a MC
    .exact hj x y a b c MC
  .rintro z⟨o4,o5,rfl,hj⟩;k_places;rw[bL]at hj;exact hN λx y a b c d=>hj x y a b c MC
def G3:SiD:=λds R=>∃x y:Int,ds=[.int x,.int y]/\R [("y",.int y),("x",.int x)]
abbrev qQ(V:Bx):Prop:=V.E 1 "Parted" pz G3
def G4(T:V.Te "Parted" "Parted.__init__" pw pz)(QX:V.b "MotifError")(uAH:V.ea "Parted")(QY:V.xf "Parted" "x")(QZ:V.xf "Parted" "y"):qQ V:=by
 refine Txe.okE T E9 (λds R h=>?_) (λf cdv A outer s H E J hr=>#[_,((AG QX uAH (ac (aa 1) (ac (aa 2) ae)) (AI uAH QY (aa 1) (Ef uAH QZ (aa 2) AE)))),λds R h=>?_])
 .obtain⟨_,_,rfl,_⟩:=h;rfl
 .obtain⟨x,y,rfl,hR⟩:=h;exact#[NL,rfl,#[(λz=>nomatch z),by show(1:Nat)<=100;decide],hR]
def G5:SpM:=λds M R _=>∃a q f p d,ds=[.ptr a,d]/\a≠q/\M=Fl.M f a q/\br p d/\R .non ((f.stand p d).M a q)
abbrev jU(V:Bx):Prop:=V.Q 1 "Floor" "stand" pB G5
def G6(T:V.Tm "Floor" "stand" "Floor.stand" pA pB)(uG:V.a "Floor" "pattern")(Lx:V.a "Floor" "text")(Nq:V.a "Pattern" "text"):jU V:=by
 refine CalMth.drop (Txm.okM T Fb (λds M R RX h=>?_) (λf cdv A outer s H E J hr hx=>⟨_,((aj (bT uG (ag (aa 0)) (ag (aa 1)))
   (au (bT Lx (ag (aa 0)) (aG Nq (ag (aa 1))))))),λds M R RX d6 h=>?_⟩))
 .obtain⟨_,_,⟨_,_,_,_,_,rfl,_⟩,_⟩:=h;rfl
 .obtain⟨R,RX,⟨a,q,f,p,d,rfl,ne,rfl,⟨wd,f6,sd,fs,rfl,e1,e2,fam⟩,hR⟩,rfl,rfl⟩:=h;refine#[_,Fl.ma ne,by show(6:Nat)<1000;decide,?_];rw[Fl.put ne];refine#[fs,#[rfl,rfl],_,e1,_,(dY (Ne.symm ne)).trans cF,by show(6:Nat)<1000;decide,_,?_,hR];rw[dZ (Ne.symm ne),cM];exact Fl.sub (f:=f.stand p _) ne
def Fl.chg(f:Fl)(a:Pi)(R:D->MS->Prop)(RX:XDM)(M:MS):D->Prop:=λd=>∃p,br p d/\p.Ok/\(dF f.p p f.w f.l->∀q',a≠q'->R .non (((f.keep "change").stand p d).M a q'))/\∀x y,First2 f.p p f.w f.l x y->RX "Parted" [("y",.int y),("x",.int x)] M
def G7:SpM:=λds M R RX=>∃a q f t,ds=[.ptr a,.str t]/\a≠q/\M=Fl.M f a q/\f.Ok/\S_read [.str t] (f.chg a R RX M) (λx fs=>RX x fs M)
abbrev qR(V:Bx):Prop:=V.Q 19 "Floor" "change" pD G7
def G8(T:V.Tm "Floor" "change" "Floor.change" pC pD)(Nr:jT V)(Q0:qP V)(uD:V.a "Floor" "laid")(uK:V.a "Floor" "width")(uG:V.a "Floor" "pattern")(Nm:jC V)(Nt:jU V)(uAV:qQ V):qR V:=by
 refine CalMth.drop (Txm.okM T sc_Floor_change (λds M R RX h=>?_) (λf cdv A outer s H E J hr hx=>⟨_,((aj (aH 2 sc_Floor_change.nd (aM (CalX.toM Nr) hx hr (aA (ac (aa 1) ae))))
   (aj (aH 3 sc_Floor_change.nd (aM (CalD.toM Q0) hx hr (aE (aG uG (ag (aa 0))) (aE (ag (aa 2)) (aE (aG uK (ag (aa 0))) (aE (aG uD (ag (aa 0))) aZ))))))
   (aj (aX (bv (zQ (aa 3) bC)) (au (Bl uAV hr hx rfl (aA (ac (af (aa 3) ad) (ac (af (aa 3) ad) ae))))) aQ)
   (aj (bF (aU (CalMth.one Nm) hx hr (ag (aa 0)) (aA (ac ax ae))))
   (au (bF (aU (CalMth.one Nt) hx hr (ag (aa 0)) (aA (ac (aa 2) ae)))))))))),λds M R RX d6 h=>?_⟩))
 .obtain⟨_,_,⟨_,_,_,_,rfl,_⟩,_⟩:=h;rfl
 .obtain⟨R,RX,⟨a,q,f,t,rfl,ne,rfl,ok,hR⟩,rfl,rfl⟩:=h;have w1:=ok.w1;have w2:=ok.w2;have l0:=ok.l0;have l1:=ok.l1;have h2:=ok.h2;refine#[λd M'=>M'=f.M a q/\f.chg a R RX (f.M a q) d,S_read.mono (RX':=λ_ _=>True) hR (λd h=>#[rfl,h]),?_];rintro d _⟨rfl,p,hd,n9,hS,hP⟩;k_places;obtain⟨wd,f6,sd,fs,rfl,e1,e2,fam⟩:=hd;have hd:br p (.obj "Pattern" fs):=#[wd,f6,sd,fs,rfl,e1,e2,fam];refine#[λc M'=>M'=f.M a q/\((c=.non/\dF f.p p f.w f.l)\/∃x y,c=.tup [.int x,.int y]/\First2 f.p p f.w f.l x y),?_,?_]
  .exact#[_,Fl.ma ne,_,gM,_,Fl.ma ne,_,fJ,_,Fl.ma ne,_,eg,f.p,p,f.d,_,f.w,f.l,rfl,ok.is,hd,ok.ok,n9,KK,KK,l0,KK,λh=>#[rfl,.inl #[rfl,h]],λx y h1 h2 h3 h4 h5 h6=>#[rfl,.inr #[x,y,rfl,#[h1,h2,h3,h4],h5,h6]]]
  rintro c _⟨rfl,⟨rfl,same⟩|⟨x,y,rfl,hf⟩⟩;k_places
  .refine#[_,HN.mpr rfl,_,Fl.ma ne,rfl,a,q,f,"change",rfl,ne,rfl,ok.de,λq' d9=>?_];exact#[_,HN.mpr rfl,_,Fl.ma d9,rfl,a,q',_,p,_,rfl,d9,rfl,hd,_,Fl.sub d9,hS same q' d9]
  .refine#[_,rfl,_,rfl,NL,x,y,rfl,?_];rw[d6];exact#[_,Fl.sub ne,hP x y hf]
def G9:SpM:=λds M R _=>∃a q f p,ds=[.ptr a,.str (Pat.text p)]/\a≠q/\M=Fl.M f a q/\f.Ok/\p.Ok/\(dF f.p p f.w f.l->∀q' d,br p d->a≠q'->R (.tup [.str "let in"]) (((f.keep "change").stand p d).M a q'))/\∀x y,First2 f.p p f.w f.l x y->R (.tup [.str "parted",.int x,.int y]) (f.M a q)
abbrev qS(V:Bx):Prop:=V.MM 20 "_law_change" pF G9
def Ha(T:V.T "_law_change" pE pF)(Q1:qR V)(Q2:V.x "y" ["Parted"])(Q3:V.x "x" ["Parted"])(ek:jH V):qS V:=by
 refine Tx.okM T sc__law_change (λds M R RX h=>?_) (λf cdv A outer s H E J hr hx=>⟨_,((aj (aH 2 sc__law_change.nd (ag bC))
   (aj (lU (λpn xe J hp hx=>(au (fq (lH (aU (CalMth.one Q1) hx hr (ag (aa 0)) (aA (ac (aa 1) ae))) (ag bC)) (au (aH 2 sc__law_change.nd (ag (aI (ac ax ae))))) aQ))) (λ_=>(AL 3 ek sc__law_change.nd (λe=>(ao (aq 2 sc__law_change.nd (aI (ac ax (ac (uw Q3 (aa 3)) (ac (uw Q2 (aa 3)) ae))))))) ly)))
   (au (aF (ag (aa 2))))))),λds M R RX d6 h=>?_⟩)
 .obtain⟨_,_,_,_,rfl,_⟩:=h;rfl
 .obtain⟨a,q,f,p,rfl,ne,rfl,ok,n9,hS,hP⟩:=h;refine#[λd M'=>d=.non/\M'=f.M a q,#[rfl,rfl],?_];rintro _ _⟨rfl,rfl⟩;k_places;refine#[λz M' x fs=>z=[be (.ptr a),be (.str p.text),be .non,v9]/\M'=f.M a q/\x="Parted"/\∃x y,fs=([("y",.int y),("x",.int x)]:List (LB×D))/\First2 f.p p f.w f.l x y,λJ hJ=>?_,?_]
  .refine#[λz M'=>dF f.p p f.w f.l/\∃q' d,br p d/\a≠q'/\z=[be (.ptr a),be (.str p.text),be (.tup [.str "let in"]),v9]/\M'=((f.keep "change").stand p d).M a q',?_,λz M' ⟨c,q',d,hd,d9,e1,e2⟩=>?_]
   .refine#[_,HN.mpr rfl,_,Fl.ma ne,rfl,a,q,f,p.text,rfl,ne,rfl,ok,wy (RX:=λ_ _=>True) n9 λd hd=>#[p,hd,n9,λc q' d9=>?_,λx y hf=>by rw[hJ];exact#[rfl,rfl,rfl,x,y,rfl,hf]]];dsimp only[mP,dC,rdIs,kP,id];rw[if_pos rfl];refine#[λe M'=>e=.tup [.str "let in"]/\M'=((f.keep "change").stand p d).M a q',#[Rw,rfl,rfl],?_];rintro _ _⟨rfl,rfl⟩;k_places;exact#[c,q',d,hd,d9,rfl,rfl]
   .subst e1 e2;exact hS c q' d hd d9
  .rintro z M' x fs⟨rfl,rfl,rfl,x,y,rfl,hf⟩;k_places;refine#[#[MD,MD],?_];rw[if_pos Mt];refine#[λd=>d=.tup [.str "parted",.int x,.int y],#[HN.mpr rfl,_,rfl,HN.mpr rfl,_,rfl,by show(3:Nat)<=1000;decide,rfl],?_];rintro _ rfl;k_places;exact#[hP x y hf,NoOwn.of rfl]
def StD(r:Pat)(w h l:Int):D:=.tup [.str r.text,.lst (aC r w 0 h.toNat),.int l]
def EntD(w h:Int)(r:Pat):D:=.tup [.str r.text,.lst (aC r w 0 h.toNat)]
def cO(w h:Int)(e:Deed):D:=.tup [.str e.w,StD e.p w h e.l]
def Hb:SpM:=λds M R _=>∃(a q:Pi) (f:Fl) (dr:Int) (ps:List Pat),ds=[.ptr a,.int dr,StD f.p f.w f.h f.l,.tup [.int f.w,.int f.h],.lst (ps.map (EntD f.w f.h))]/\a≠q/\M=Fl.M f a q/\f.Ok/\0<=dr/\ps.length=2/\(∀p∈ps,p.Ok)/\
 R (.lst [StD f.p f.w f.h f.l,.str ""]) (f.M a q)/\(∀n q',0<=n->n<=f.h-f.l->a≠q'->R (.lst [StD f.p f.w f.h (f.l+n),.str "lay"]) ((f.lay n).M a q'))/\
 ∀r d q',br r d->r.Ok->a≠q'->R (.lst [StD r f.w f.h f.l,.str "change"]) (((f.keep "change").stand r d).M a q')
abbrev qT(V:Bx):Prop:=V.MM 21 "_law_deed" pH Hb
def Hc(T:V.T "_law_deed" pG pH)(Q4:qF V)(Q5:qG V)(Q6:qS V):qT V:=by
 refine Tx.okM T sc__law_deed (λds M R RX h=>?_) (λf cdv A outer s H E J hr hx=>⟨_,((aj (vy (λ_=>(gf rfl (aa 2) (dg_cons 5 sc__law_deed.nd (dg_cons 6 sc__law_deed.nd (dg_cons 7 sc__law_deed.nd cG))))))
   (aj (aX (bv (bj (aD (aa 1) ad) ad)) (aj (aH 8 sc__law_deed.nd (ag (am ad (aD (aW (aa 1) ad) ad))))
    (aj (aX (gu (lG (aM Q4 hx hr (aA (ac (aa 0) (ac (aa 8) (ac bw ae))))) (ag ad)) (ag (zJ (aa 8) (bt (af (aa 3) ad) (aa 7))))) (au (aF (ag bC))) aQ)
    (aj (aX (bv (fV (aa 8) (bt (af (aa 3) ad) (aa 7)))) (au (aF (ag (bp (ac (aa 2) (ac ax ae)))))) aQ)
    (au (aF (ag (bp (ac (aI (ac (aa 5) (ac (aa 6) (ac (am (aa 7) (aa 8)) ae)))) (ac ax ae))))))))) aQ)
   (aj (aH 9 sc__law_deed.nd (ag (af (aa 4) (aD (aW (aa 1) ad) ad))))
   (aj (aH 10 sc__law_deed.nd (ag (zM (aw Q5 hr (ac (cB (aa 6) cz (cA (aa 7))) (ac (af (aa 9) ad) ae))) bC)))
   (aj (aX (gu (D9 (fQ hr) (aM Q6 hx hr (aA (ac (aa 0) (ac (af (aa 9) ad) ae)))) (ag (aI (ac ax ae)))) (ag (aa 10))) (au (aF (ag bC))) aQ)
   (aj (aX (bv (cx (aa 10))) (au (aF (ag (bp (ac (aI (ac (af (aa 9) ad) (ac (af (aa 9) ad) (ac (aa 7) ae)))) (ac ax ae)))))) aQ)
   (au (aF (ag (bp (ac (aa 2) (ac ax ae))))))))))))),λds M R RX d6 h=>?_⟩)
 .obtain⟨_,_,_,_,_,rfl,_⟩:=h;rfl
 .obtain⟨a,q,f,dr,ps,rfl,ne,rfl,ok,UX,p2,L6,h0,hL,hC⟩:=h;have l0:=ok.l0;have l1:=ok.l1;have h2:=ok.h2;have w1:=ok.w1;have w2:=ok.w2;refine#[rfl,?_,NoOwn.of rfl];refine#[Mx,ite2 (λ_=>?_) (λ_=>?_)]
  .refine#[λd M'=>M'=f.M a q/\∃n:Int,d=.int n/\1<=n/\n<=3,#[Mx,Mx,rfl,_,rfl,KK,KK],?_];rintro _ _⟨rfl,n,rfl,n1,n3⟩;k_places;refine#[a,q,f,n,true,rfl,ne,rfl,ok,n1,KK,λc=>?_,λc q' d9=>?_]
   .refine#[_,rfl,_,rfl,ite2 (λz=>absurd z (by simp[c])) (λ_=>?_)];exact#[_,rfl,ite2 (λ_=>#[NL,h0]) (λz=>absurd c (by simpa using z))]
   .refine#[_,rfl,_,rfl,ite2 (λz=>absurd z Uw) (λ_=>?_)];exact#[_,rfl,ite2 (λz=>absurd (of_decide_eq_true z) KK) (λ_=>#[by show(3:Nat)<=1000;decide,NL,hL n q' KK c d9])]
  obtain⟨r,er⟩:∃r,ps[(dr/2%2).toNat]?=be r:=#[_,Ih KK];have Nu:=L6 r (IU er);have Up:atI (ps.map (EntD f.w f.h)) (dr/2%2)=be (EntD f.w f.h r):=by
   have:=FE (EntD f.w f.h) er;rw[Iv KK]at this;exact this
  have Q7:cutD (aC f.p f.w 0 f.h.toNat) v9 (be f.l)=aC f.p f.w 0 f.l.toNat:=by
   have:=wV (p:=f.p) (w:=f.w) (lo:=0) (n:=f.h.toNat) (k:=f.l.toNat) KK;rw[Iv l0]at this;exact this
  refine#[λd M'=>M'=f.M a q/\d=EntD f.w f.h r,#[Mx,Mx,_,Up,rfl,rfl],?_];rintro _ _⟨rfl,rfl⟩;k_places;refine#[λd M'=>M'=f.M a q/\((d=.bl true/\dF f.p r f.w f.l)\/(d=.bl false/\∃x y,First2 f.p r f.w f.l x y)),#[_,rfl,f.p,r,f.w,f.l.toNat,f.h.toNat,?_,ok.ok,Nu,KK,KK,KK,KK,λsm=>#[rfl,.inl #[rfl,by rw[Iv l0]at sm;exact sm]],λx y f2=>#[rfl,.inr #[rfl,x,y,by rw[Iv l0]at f2;exact f2]]],?_]
  .show[D.lst (cutD (aC f.p f.w 0 f.h.toNat) v9 (be f.l)),_]=_;rw[Q7]
  rintro _ _⟨rfl,⟨rfl,sm⟩|⟨rfl,x,y,f2⟩⟩;k_places
  .refine#[_,rfl,a,q,f,r,rfl,ne,rfl,ok,Nu,λ_ q' d is d9=>?_,λx y f2=>(First2.not f2 sm).elim];refine#[Rw,#[rfl,rfl],?_];exact#[_,rfl,_,rfl,by show(3:Nat)<=1000;decide,NL,hC r d q' is Nu d9]
  .refine#[_,rfl,a,q,f,r,rfl,ne,rfl,ok,Nu,λsm=>(First2.not f2 sm).elim,λx y f2=>?_];exact#[Rw,#[rfl,rfl],NL,h0]
def Fl.undone(f:Fl)(e:Deed)(es:List Deed):Fl:={f with p:=e.p,d:=e.d,l:=e.l,ds:=es}
def Hd:SpM:=λds M R RX=>∃a q f,ds=[.ptr a]/\a≠q/\M=Fl.M f a q/\(f.ds=[]->RX "NothingKept" [] (f.M a q))/\∀es e,f.ds=es++[e]->br e.p e.d/\R (.str e.w) ((f.undone e es).M a q)
abbrev qU(V:Bx):Prop:=V.Q 2 "Floor" "undo" pJ Hd
def Hf(T:V.Tm "Floor" "undo" "Floor.undo" pI pJ)(uB:V.m "len")(uT:V.a "Floor" "deeds")(uD:V.a "Floor" "laid")(Nt:jU V)(Q8:V.n "NothingKept"):qU V:=by
 refine CalMth.drop (Txm.okM T sc_Floor_undo (λds M R RX h=>?_) (λf cdv A outer s H E J hr hx=>⟨_,((aj (aX (gq (gw uB (aG uT (ag (aa 0)))) (ag ad)) (au (vi Q8 hx rfl (aA (ac ax ae)))) aQ)
   (aj (aH 1 sc_Floor_undo.nd (wM (aG uT (ag (aa 0)))))
   (aj (bF (aU (CalMth.one Nt) hx hr (ag (aa 0)) (aA (ac (af (aa 1) ad) ae))))
   (aj (bT uD (ag (aa 0)) (ag (af (aa 1) ad)))
   (au (aF (ag (af (aa 1) ad))))))))),λds M R RX d6 h=>?_⟩))
 .obtain⟨_,_,⟨_,_,_,rfl,_⟩,_⟩:=h;rfl
 .obtain⟨R,RX,⟨a,q,f,rfl,ne,rfl,hX,hR⟩,rfl,rfl⟩:=h;refine#[_,Fl.ma ne,_,ju,_,Fl.mq,ite2 (λc=>?_) (λc=>?_)]
  .have c':=of_decide_eq_true c;rw[HR]at c';refine#[Rw,?_];rw[d6];exact#[_,Fl.sub ne,hX (JE KK)]
  have c':f.ds≠[]:=λz=>c (decide_eq_true (by rw[z];rfl));obtain⟨es,e,he⟩:∃es e,f.ds=es++[e]:=#[_,_,(List.dropLast_concat_getLast c').symm];obtain⟨hi,hR⟩:=hR es e he;have q1:f.ds.map Deed.D=es.map Deed.D++[e.D]:=by rw[he,Ip];rfl
  refine#[λd M'=>d=e.D/\M'=Fl.M {f with ds:=es} a q,#[_,Fl.ma ne,_,ju,_,e.D,Fl.mq,by rw[q1];simp,rfl,?_],?_]
  .rw[show f.M a q=[(q,.lst (f.ds.map Deed.D)),(a,.ins "Floor" (f.fs q))]from rfl,cM,q1,List.dropLast_concat];rfl
  rintro _ _⟨rfl,rfl⟩;k_places;refine#[_,HN.mpr rfl,_,Fl.ma ne,rfl,_,rfl,a,q,_,e.p,e.d,rfl,ne,rfl,hi,?_];refine#[_,rfl,_,Fl.ma ne,by show(6:Nat)<1000;decide,_,rfl,_,?_,hR];rw[Fl.put ne];exact Fl.sub (f:=f.undone e es) ne
def Hg:SpM:=λds M R _=>∃a q f,ds=[.ptr a]/\a≠q/\M=Fl.M f a q/\(f.ds=[]->R (.tup [.str "nothing"]) (f.M a q))/\∀es e,f.ds=es++[e]->br e.p e.d/\R (.str e.w) ((f.undone e es).M a q)
def Fl.Ok.undone{e:Deed}{es:List Deed}(ok:f.Ok)(h:f.ds=es++[e]):(f.undone e es).Ok:=by
 have hl:=ok.de;rw[h,Ia]at hl;obtain⟨i,o,a,b⟩:=ok.dd e (by rw[h];exact Ik _ (HN.mpr rfl));exact#[i,o,ok.w1,ok.w2,ok.h1,ok.h2,a,b,H8 (Ls _ _) hl,λx hx=>ok.dd x (by rw[h];exact Ja _ hx)]
abbrev qV(V:Bx):Prop:=V.MM 3 "_law_undo" pL Hg
def Hi(T:V.T "_law_undo" pK pL)(Q9:qU V)(ek:jH V):qV V:=by
 refine Tx.okM T sc__law_undo (λds M R RX h=>?_) (λf cdv A outer s H E J hr hx=>⟨_,((aj (aH 1 sc__law_undo.nd (ag bC))
   (aj (lU (λpn xe J hp hx=>(au (aH 1 sc__law_undo.nd (cj (CalMth.one Q9) hx hr (ag (aa 0)))))) (λ_=>(uu ek (λe=>(ao (aq 1 sc__law_undo.nd (aI (ac ax ae))))) ly)))
   (au (aF (ag (aa 1))))))),λds M R RX d6 h=>?_⟩)
 .obtain⟨_,_,_,rfl,_⟩:=h;rfl
 .obtain⟨a,q,f,rfl,ne,rfl,hX,hR⟩:=h;refine#[λd M'=>d=.non/\M'=f.M a q,#[rfl,rfl],?_];rintro _ _⟨rfl,rfl⟩;k_places;refine#[λz M' x fs=>z=[be (.ptr a),be .non]/\M'=f.M a q/\x="NothingKept"/\f.ds=[],λJ hJ=>?_,?_]
  .refine#[λd M'=>∃es e,f.ds=es++[e]/\d=.str e.w/\M'=(f.undone e es).M a q,#[_,HN.mpr rfl,_,Fl.ma ne,rfl,a,q,f,rfl,ne,rfl,λc=>by rw[hJ];exact#[rfl,rfl,rfl,c],λes e h=>#[(hR es e h).1,es,e,h,rfl,rfl]],?_];rintro _ _⟨es,e,h,rfl,rfl⟩;k_places;exact(hR es e h).2
  .rintro z M' x fs⟨rfl,rfl,rfl,c⟩;k_places;refine#[#[MD,MD],?_];rw[if_pos Mt];refine#[λd=>d=.tup [.str "nothing"],#[Rw,rfl],?_];rintro _ rfl;k_places;exact#[hX c,NoOwn.of rfl]
abbrev jV(V:Bx):Prop:=V.D 1 "_law_whole" pN Cd
def Hj(T:V.T "_law_whole" pM pN)(uM:V.m "isinstance")(Q_:V.m "bool")(uE:V.m "int"):jV V:=by
 refine Tx.okDW T Fc (λds R h=>?_) (λf cdv A outer s H E J hr=>#[_,((ao (az (fX (eQ uM uE (aa 0) PyProof.Rows.boot_int zU) (fW (zT (eQ uM Q_ (aa 0) PyProof.Rows.boot_bool kit_bool))))))),λds R h=>?_])
 .obtain⟨i,rfl,_⟩:=h;rfl
 .obtain⟨i,rfl,hR⟩:=h;exact hR
def Hk:SpD:=λds R=>∃(p:Pat) (w lo:Int) (n:Nat),ds=[.lst (aC p w lo n),.lst (aC p w lo n)]/\n<=1000/\R (.bl true)
abbrev qW(V:Bx):Prop:=V.D 1 "_law_texts" pP Hk
def Hl(T:V.T "_law_texts" pO pP)(uB:V.m "len")(uM:V.m "isinstance")(x_:V.m "list")(uA:V.m "range")(uF:V.m "str"):qW V:=by
 refine Tx.okDW T sc__law_texts (λds R h=>?_) (λf cdv A outer s H E J hr=>⟨_,((ai (bf (cy (dN (eO (cx (eQ uM x_ (aa 0) PyProof.Rows.boot_list kit_list))) (dM (ce (bP uB (ac (aa 0) ae)) (bP uB (ac (aa 1) ae)))))) (ao (az bw)) aT)
   (ai (bY 2 PassesOwn.never rfl sc__law_texts.nd uA (bP uB (ac (aa 1) ae)) (ao (bf (cy (dN (eO (cx (eQ uM uF (af (aa 0) (aa 2)) PyProof.Rows.boot_str kit_str))) (dM (ce (af (aa 0) (aa 2)) (af (aa 1) (aa 2)))))) (ao (az bw)) aT)))
   (ao (az bw))))),λds R h=>?_⟩)
 .obtain⟨_,_,_,_,rfl,_⟩:=h;rfl
 .obtain⟨p,w,lo,n,rfl,n7,hR⟩:=h;have lp:(aC p w lo n).length=n:=by unfold aC;simp
  refine ite2 (λc=>absurd c MD) λ_=>?_;refine#[#[KK,by rw[lp];lia],λk z=>∃o,z=[be (.lst (aC p w lo n)),be (.lst (aC p w lo n)),o],#[_,rfl],?_,?_]
  .rintro k v z hk⟨o,rfl⟩;k_places;obtain⟨p_,rfl⟩:=bK hk;rw[lp]at p_;have ak:=qp (p:=p) (w:=w) (lo:=lo) (show k<n by lia);exact#[_,ak,_,ak,_,ak,ite2 (λc=>absurd c MD) λ_=>#[_,rfl]]
  .rintro z⟨o,rfl⟩;k_places;exact hR
def Hm:SpD:=λds R=>∃xs:List Int,ds=[.lst (xs.map D.int),.lst (xs.map D.int)]/\xs.length=7/\R (.bl true)
abbrev qX(V:Bx):Prop:=V.D 2 "_law_seven" pR Hm
def Hn(T:V.T "_law_seven" pQ pR)(uB:V.m "len")(uM:V.m "isinstance")(x_:V.m "list")(uA:V.m "range")(Mn:jV V):qX V:=by
 refine Tx.okDW T sc__law_seven (λds R h=>?_) (λf cdv A outer s H E J hr=>⟨_,((ai (bf (cy (dN (eO (cx (eQ uM x_ (aa 0) PyProof.Rows.boot_list kit_list))) (dM (ce (bP uB (ac (aa 0) ae)) ad)))) (ao (az bw)) aT)
   (ai (bY 2 PassesOwn.never rfl sc__law_seven.nd uA ad (ao (bf (cy (dN (eO (cx (aw Mn hr (ac (af (aa 0) (aa 2)) ae)))) (dM (ce (af (aa 0) (aa 2)) (af (aa 1) (aa 2)))))) (ao (az bw)) aT)))
   (ao (az bw))))),λds R h=>?_⟩)
 .obtain⟨_,rfl,_⟩:=h;rfl
 .obtain⟨xs,rfl,x7,hR⟩:=h;refine ite2 (λc=>absurd c (by simp[x7])) λ_=>?_;refine#[#[Mx,Mx],λk z=>∃o,z=[be (.lst (xs.map D.int)),be (.lst (xs.map D.int)),o],#[_,rfl],?_,?_]
  .rintro k v z hk⟨o,rfl⟩;k_places;obtain⟨p_,rfl⟩:=bK hk;have k7:k<7:=p_;have ak:atI (xs.map D.int) (k:Int)=be (.int (xs[k]' MC)):=bI (by rw[H9,Ih MC];rfl);exact#[_,ak,_,rfl,_,ak,_,ak,ite2 (λc=>absurd c MD) λ_=>#[_,rfl]]
  .rintro z⟨o,rfl⟩;k_places;exact hR
def Ho:SpD:=λds R=>∃(p:Pat) (w lo:Int) (n:Nat),ds=[.lst (aC p w lo n)]/\p.Ok/\0<=w/\w<=30/\n<=30/\R (.lst ((cK p 0 lo w.toNat n).map D.int))
abbrev qY(V:Bx):Prop:=V.D 1 "_law_counts" pT Ho
def Hq(T:V.T "_law_counts" pS pT):qY V:=by
 refine Tx.okDW T sc__law_counts (λds R h=>?_) (λf cdv A outer s H E J hr=>⟨_,((ai (fZ 1 sc__law_counts.nd (ac ad (ac ad (ac ad (ac ad (ac ad (ac ad (ac ad ae))))))))
   (ai (ic 2 PassesOwn.never rfl sc__law_counts.nd (aa 0) (ao (AZ 3 PassesOwn.never rfl sc__law_counts.nd (aa 2) (ao (B1 1 (lC ax (ac (aa 3) ae)) ad)))))
   (df 1 (ao (az (aa 1))))))),λds R h=>?_⟩)
 .obtain⟨_,_,_,_,rfl,_⟩:=h;rfl
 .obtain⟨p,w,lo,n,rfl,ok,w0,w7,n7,hR⟩:=h;have e0:([.int 0,.int 0,.int 0,.int 0,.int 0,.int 0,.int 0]:List D)=(due7 p 0 lo w.toNat 0 0).map D.int:=rfl;refine#[Mx,?_];refine#[λk z=>∃o1 o2,z=[be (.lst (aC p w lo n)),be (.own ((due7 p 0 lo w.toNat k 0).map D.int)),o1,o2],#[_,_,rfl],?_,?_]
  .rintro k v z hk⟨o1,o2,rfl⟩;k_places;obtain⟨p_,rfl⟩:=Fw hk;refine#[Fy ok 0 (lo+k) w.toNat,λi z=>∃o2,z=[be (.lst (aC p w lo n)),be (.own ((due7 p 0 lo w.toNat k i).map D.int)),be (.str (aL p 0 (lo+k) w.toNat)),o2],#[_,rfl],?_,?_]
   .rintro i v z hi⟨o2,rfl⟩;k_places;obtain⟨y7,rfl⟩:=Fz hi;obtain⟨u,u7,eu,e3,e4⟩:=Ft ok 0 lo w.toNat k i;obtain⟨rest,ho⟩:=FA u7;rw[eu];refine#[u,rest,ho,_,KK,by rw[H9,IM,e3];rfl,?_];rw[IM];exact#[_,by rw[<-e4];rfl]
   .rintro z⟨o2,rfl⟩;k_places;refine#[be (.str (aL p 0 (lo+k) w.toNat)),o2,?_];rw[fj,cC,Fu]
  .rintro z⟨o1,o2,rfl⟩;k_places;rw[show(aC p w lo n).length=n by unfold aC;simp,Fv];exact hR
abbrev qZ(V:Bx):Prop:=V.D 10 "field_rows" pU DN
def Hr(T:V.T "field_rows" jp pU)(uA:V.m "range")(Nl:jF V)(Lw:V.a "Pattern" "shifts"):qZ V:=by
 refine Tx.okDW T Fd (λds R h=>?_) (λf cdv A outer s H E J hr=>#[_,((ao (az (ii rfl (compScope (by change dh _ (ah jp) ["pattern"] _=true;decide+kernel)) uA (af (eY Lw (aa 0)) ad) (λcl s0 H0 fp=>(aw Nl hr (ac (aa 0) (ac ad (ac (aa 1) (ac (af (eY Lw (aa 0)) ad) ae)))))))))),λds R h=>?_])
 .obtain⟨_,_,rfl,_⟩:=h;rfl
 .obtain⟨p,d,rfl,hd,ok,hR⟩:=h;obtain⟨w,h,s,fs,rfl,e1,e2,hp⟩:=id hd;have F:=hp.toFam;have sm:=ok.fits.small F;have wh:w*h<=720:=by
   obtain⟨w',h',s',f',hb⟩:=ok.fits;obtain⟨rfl,rfl,_⟩:=F.uniq f';exact hb
  refine#[rfl,_,e2,_,rfl,#[KK,KK],by rw[bL];lia,λk ys=>ys=(HU k).map λ(y:Nat)=>D.str (aL p 0 (y:Int) w.toNat),rfl,?_,?_]
  .rintro k v ys hk hl rfl;obtain⟨p_,rfl⟩:=bK hk;refine#[rfl,_,e2,_,rfl,p,.obj "Pattern" fs,0,k,w.toNat,by rw[Iv KK],hd,ok,KK,#[KK,KK],#[KK,KK],#[KK,KK],?_];show _=JS _ (HU (k+1));rw[JC,Ip];rfl
  .rintro ys hl rfl;rw[bL];exact hR w h s F wh sm.2.1 sm.2.2.2.1
abbrev C_round_row(V:Bx):Prop:=V.D 2 "round_row" pW DO
def Hs(T:V.T "round_row" pV pW)(G':fK V):C_round_row V:=by
 refine Tx.okDW T sc_round_row (λds R h=>?_) (λf cdv A outer s H E J hr=>⟨_,((ai (aq 4 sc_round_row.nd (aw G' hr (ac (aa 0) (ac (aa 2) (ac (aa 3) ae)))))
   (ai (aq 5 sc_round_row.nd (af (aa 1) (af (aa 4) ad)))
   (ao (az (am (cB (aa 5) (cA (af (aa 4) ad)) cz) (cB (aa 5) cz (cA (af (aa 4) ad))))))))),λds R h=>?_⟩)
 .obtain⟨_,_,_,_,_,_,rfl,_⟩:=h;rfl
 .obtain⟨p,w,h,s,x,y,rfl,F,w7,h7,hR⟩:=h;have f:=F.f;have y0:=IV y (show h≠0 by have:=f.h0;lia);have y1:=IW y f.h0;refine#[λd=>d=.tup [.int (hmX w h s x y),.int (y%h)],#[w,h,s,x,y,rfl,f.w0,f.h0,KK,f.s0,by have:=f.sw;lia,rfl],?_];rintro _ rfl;k_places;refine#[λd=>d=.str (aL p 0 (y%h) w.toNat),#[_,rfl,_,?_,rfl],?_]
  .have e:y%h=(((y%h).toNat:Nat):Int):=by lia
   rw[e];exact bI (by rw[H9,IR KK];simp)
  rintro _ rfl;k_places;have l:=cC p 0 (y%h) w.toNat;refine#[_,rfl,KK,_,rfl,KK,?_];have e:=DM f.w0 f.h0 (λ_ _ q=>F.keeps q) x y;refine#[?_,?_]
  .rw[<-bn,<-bn,<-Ia,<-bG,e,cY];simp;lia
  .rw[e];exact hR
abbrev ra(V:Bx):Prop:=V.D 1 "count_sign" pY D1
def Ht(T:V.T "count_sign" pX pY)(uB:V.m "len"):ra V:=by
 refine Tx.okDW T Fe (λds R h=>?_) (λf cdv A outer s H E J hr=>#[_,((ao (az (am (ay (aW (aa 2) (bP uB (ac (aa 0) ae))) (vA (aa 0) (ac (aa 1) ae))) (vA (cB (aa 0) cz (cA (aD (aa 2) (bP uB (ac (aa 0) ae))))) (ac (aa 1) ae)))))),λds R h=>?_])
 .obtain⟨_,_,_,_,_,_,rfl,_⟩:=h;rfl
 .obtain⟨p,x,y,v,m,w,rfl,ok,v0,v6,w0,w7,m0,m1,kw,hR⟩:=h;have l:=cC p x y w;have q0:0<=m/(w:Int):=J1 m0 KK;have q1:m/(w:Int)<=m:=Ku _ m0;have r0:=IV m (show(w:Int)≠0 by lia);have r1:=IW m (show 0<(w:Int)by lia);have er:m%(w:Int)=(((m%(w:Int)).toNat:Nat):Int):=by lia
  have e2:Txt.slice (aL p x y w) v9 (be (m%(w:Int)))=aL p x y (m%(w:Int)).toNat:=by
   rw[er,D0 p x y KK];rfl
  refine#[KK,#[by rw[l];lia,by rw[l];lia],.inl #[by rw[l];lia,by rw[l];lia],KK,by rw[l];lia,KK,?_];show R (.int (m/((aL p x y w).length:Int)*occC (aL p x y w) (aR v)+occC (Txt.slice (aL p x y w) v9 (be (m%((aL p x y w).length:Int)))) (aR v)));rw[l,e2,wF ok x y v0 v6,wF ok x y v0 v6];have M9:∀k:Nat,(λk:Nat=>p.show (x+k) y) (k+w)=(λk:Nat=>p.show (x+k) y) k:=λk=>by
   have:=kw (x+k) y;rw[JJ]at this;show p.show (x+((k+w:Nat):Int)) y=p.show (x+(k:Int)) y;rw[<-this,JI,Kr]
  have:=DV (f:=λk:Nat=>p.show (x+k) y) w0 M9 v m.toNat;have d1:m/(w:Int)=((m.toNat/w:Nat):Int):=by rw[Int.natCast_ediv,Iv m0]
  have d2:(m%(w:Int)).toNat=m.toNat%w:=by
   have:m%(w:Int)=((m.toNat%w:Nat):Int):=by rw[Lh,Iv m0]
   lia
  rw[d1,d2,this];exact hR
abbrev jW(V:Bx):Prop:=V.X 11 "count_all" pZ D8
def Hu(T:V.T "count_all" jq pZ)(v4:V.m "max")(uA:V.m "range")(Ra:V.m "min")(MY:V.m "enumerate")(MV:jD V)(Rb:qZ V)(Rc:C_round_row V)(Rf:ra V)(uR:V.gs "SIGNS" ".123456")(Lw:V.a "Pattern" "shifts"):jW V:=by
  refine Tx.okXW T sc_count_all (λds R RX h=>?_) (λf cdv A outer s H E J hr hx=>⟨_,((ai (tP (um MV hx hr (ac (aa 1) (ac (aa 2) ae))))
      (ai (tP (um MV hx hr (ac (aa 3) (ac (aa 4) ae))))
      (ai (aq 5 sc_count_all.nd (eY Lw (aa 0)))
      (ai (aq 6 sc_count_all.nd (aw Rb hr (ac (aa 0) ae)))
      (ai (aq 7 sc_count_all.nd (gj rfl v4 (ac (am (bt (aa 3) (aa 1)) ad) (ac ad ae))))
      (ai (aq 8 sc_count_all.nd (ay (af (aa 5) ad) (af (aa 5) ad)))
      (ai (BU 9 rfl (compScope (by change dh _ (ah jq) ["pattern","left","top","right","bottom","family","rows","many","again","counts","y","times","row","hue","sign"] _=true;decide+kernel)) sc_count_all.nd (fg uR) (λcl s0 H0 fp=>ad))
      (ai (AA 10 PassesOwn.leaving rfl sc_count_all.nd uA (aa 2) (Ai rfl Ra (ac (am (aa 4) ad) (ac (am (aa 2) (aa 8)) ae))) (ai (aq 11 sc_count_all.nd (am (aW (bt (aa 4) (aa 10)) (aa 8)) ad))
        (ai (aq 12 sc_count_all.nd (aw Rc hr (ac (aa 5) (ac (aa 6) (ac (aa 1) (ac (aa 10) ae))))))
        (ao (BY PassesOwn.leaving rfl MY (fg uR) (dg_cons 13 sc_count_all.nd (dg_cons 14 sc_count_all.nd cG)) (ao (ul 9 (am (lh 9 (aa 13)) (ay (aa 11) (aw Rf hr (ac (aa 12) (ac (aa 14) (ac (aa 7) ae)))))) (aa 13))))))))
      (df 9 (ao (az (aa 9))))))))))))),λds R RX d6 h=>?_⟩)
  . obtain⟨_,_,_,_,_,_,rfl,_⟩:=h;rfl
  . obtain⟨p,d,left,top,right,a_,rfl,hd,ok,hR,hX⟩:=h;obtain⟨w,h,s,fs,rfl,e1,e2,hp⟩:=id hd;have F:=hp.toFam;have sm:=ok.fits.small F;refine#[left,top,rfl,λn1=>?_,λn1=>by rw[d6];exact hX λz=>n1 #[z.1,z.2.1]];refine#[right,a_,rfl,λn2=>?_,λn2=>by rw[d6];exact hX λz=>n2 #[z.2.2.1,z.2.2.2]];have hR:=hR #[n1.1,n1.2,n2.1,n2.2];unfold bo at n1 n2;refine#[λd=>d=.tup [.int w,.int h,.int s],#[rfl,_,e2,rfl],?_];rintro _ rfl;k_places;refine#[λd=>d=gG p w h/\w*h<=720,#[p,_,rfl,hd,ok,λw' h' s' F' hb _ _=>by obtain⟨rfl,rfl,rfl⟩:=F.uniq F';exact#[rfl,hb]],?_];rintro _⟨rfl,hb⟩;k_places;refine#[λd=>d=.int ((right-left+1).toNat:Nat),congrArg D.int (D7 _),?_];rintro _ rfl;k_places;have Uq:0<w*h:=Ii F.f.w0 F.f.h0;refine#[λd=>d=.int (w*h),#[_,rfl,_,rfl,.inl #[KK,KK],rfl],?_];rintro _ rfl;k_places;generalize hm:(right-left+1).toNat=m at*;generalize hn:(a_-top+1).toNat=n at*;generalize hN:(w*h).toNat=N at*;refine#[Mt,Mt,λk ys=>ys=IF k (D.int 0),rfl,?_,?_]
    . rintro k v ys hk hl rfl;show _=IF (k+1) _;rw[List.replicate_succ']
    rintro ys hl rfl;have wN:w*h=(N:Int):=KK
    have y7:=D4 (top:=top) hn wN;have UY:=wH n1.1 n2.1 hm;have UZ:=wH n1.2 n2.2 hn;refine#[D5 #[n1.2.1,n1.2.2] #[n2.2.1,n2.2.2] Uq hb,λk z=>∃Mo u_ v3 m4 m5,z=[be (.obj "Pattern" fs),be (.int left),be (.int top),be (.int right),be (.int a_),be (.tup [.int w,.int h,.int s]),be (gG p w h),be (.int m),be (.int (w*h)),be (.own ((HU 7).map λ(v:Nat)=>D.int (ck p left top m n N k v))),Mo,u_,v3,m4,m5],#[v9,v9,v9,v9,v9,?_],?_,?_]
    . have e7:(bR (".123456":LB)).length=7:=by decide+kernel
      rw[e7];rfl
    . rintro k v z hk⟨Mo,u_,v3,m4,m5,rfl⟩;k_places;obtain⟨p_,rfl⟩:=range2_int hk;rw[y7]at p_;refine#[λd=>d=.int (((n:Int)-1-k)/N+1),#[#[KK,KK],?_],?_]
      . rw[wN];congr 3;exact D6 hn p_
      rintro _ rfl;k_places;refine#[λd=>d=.str (aL p left (top+k) w.toNat),#[p,w,h,s,left,top+k,rfl,F,sm.2.1,sm.2.2.2.1,rfl],?_];rintro _ rfl;k_places;refine#[Mt,λi z=>∃m4 m5,z=[be (.obj "Pattern" fs),be (.int left),be (.int top),be (.int right),be (.int a_),be (.tup [.int w,.int h,.int s]),be (gG p w h),be (.int m),be (.int (w*h)),be (.own ((HU 7).map λ(v:Nat)=>D.int (if v<i then ck p left top m n N (k+1) v else ck p left top m n N k v))),be (.int (top+k)),be (.int (((n:Int)-1-k)/N+1)),be (.str (aL p left (top+k) w.toNat)),m4,m5],#[_,_,rfl],?_,?_]
      . rintro i v z hi⟨m4,m5,rfl⟩;k_places;rw[D3]at hi;have i7:i<7:=by simpa using(Ib.mp hi).1
        have ev:v=.str #[[aR (i:Int)].toArray]:=by
          rw[H9,IR i7]at hi;exact(Option.some.inj hi).symm
        subst ev;have ci:=wC (λk'=>p.show (left+k') (top+k)) i m;have tq:0<=((n:Int)-1-k)/N/\((n:Int)-1-k)/N<=(n:Int)-1-k:=#[J1 KK KK,Ku _ KK];refine#[_,bI (by rw[H9,IR i7];rfl),p,left,top+k,i,m,w.toNat,rfl,ok,KK,KK,KK,KK,KK,KK,by rw[Iv KK];exact F.across,?_];refine#[.inl #[KK,KK],i,?_,?_]
        . unfold ixN;rw[if_pos KK,if_pos Uw];simp
        refine#[be (.int i),be (.str #[[aR (i:Int)].toArray]),?_];rw[IM,if_neg (IZ i)];have e:ck p left top m n N k i+(((n:Int)-1-k)/N+1)*cntN (λk'=>p.show (left+k') (top+k)) i m=ck p left top m n N (k+1) i:=rfl;rw[e];have q:=wG (n:=7) (i:=i) (λ(v:Nat)=>D.int (if v<i then ck p left top m n N (k+1) v else ck p left top m n N k v)) (λ(v:Nat)=>D.int (if v<i+1 then ck p left top m n N (k+1) v else ck p left top m n N k v)) (λv hv ne=>by
          by_cases c:v<i
          . rw[if_pos c,if_pos KK]
          . rw[if_neg c,if_neg KK])
        rw[if_pos (show i<i+1 by lia)]at q;rw[q];rfl
      . rintro z⟨m4,m5,rfl⟩;k_places;refine#[be (.int (top+k)),be (.int (((n:Int)-1-k)/N+1)),be (.str (aL p left (top+k) w.toNat)),m4,m5,?_];have:∀v∈HU 7,D.int (if v<(bR (".123456":LB)).length then ck p left top m n N (k+1) v else ck p left top m n N k v)=D.int (ck p left top m n N (k+1) v):=λv hv=>by
          rw[if_pos (by  have e7:(bR (".123456":LB)).length=7:=by decide+kernel
                         rw[e7];simpa using hv)]
        rw[JD this]
    . rintro z⟨Mo,u_,v3,m4,m5,rfl⟩;k_places;have e:((HU ((if top+w*h<a_+1 then top+w*h else a_+1)-top).toNat).map λ(k:Nat)=>D.int (top+(k:Int))).length=min n N:=by simp[y7]
      rw[e];have fold:∀v:Nat,ck p left top m n N (min n N) v=cJ p v left top m n:=λv=>D2 KK (by rw[<-wN];exact F.down) v left top m n;simp only[fold];have e2:((HU 7).map λ(v:Nat)=>D.int (cJ p v left top m n))=(cK p left top m n).map D.int:=by unfold cK;rw[JG];rfl
      rw[e2];exact hR
def Hv:SpM:=λds M R _=>∃a q f,ds=[.ptr a]/\a≠q/\M=Fl.M f a q/\f.Ok/\R (.lst ((cK f.p 0 0 f.w.toNat f.l.toNat).map D.int)) (f.M a q)
abbrev rb(V:Bx):Prop:=V.Q 12 "Floor" "lies" qd Hv
def Hw(T:V.Tm "Floor" "lies" "Floor.lies" qc qd)(Nv:jW V)(uD:V.a "Floor" "laid")(uK:V.a "Floor" "width")(uG:V.a "Floor" "pattern"):rb V:=by
 refine Txm.okM T Ff (λds M R RX h=>?_) (λf cdv A outer s H E J hr hx=>#[_,((au (aF (aM (CalX.toM Nv) hx hr (aE (aG uG (ag (aa 0))) (aE (ag ad) (aE (ag ad) (aE (dm (aG uK (ag (aa 0))) (ag ad)) (aE (dm (aG uD (ag (aa 0))) (ag ad)) aZ))))))))),λds M R RX d6 h=>?_])
 .obtain⟨_,_,_,rfl,_⟩:=h;rfl
 .obtain⟨a,q,f,rfl,ne,rfl,ok,hR⟩:=h;have w1:=ok.w1;have w2:=ok.w2;have l0:=ok.l0;have l1:=ok.l1;have h2:=ok.h2;refine#[_,Fl.ma ne,_,gM,_,Fl.ma ne,_,fJ,_,Fl.ma ne,_,eg,f.p,f.d,0,0,f.w-1,f.l-1,rfl,ok.is,ok.ok,λ_=>?_,λz=>absurd #[#[KK,KK],#[KK,KK],#[KK,KK],KK,KK] z];rw[show(f.w-1-0+1).toNat=f.w.toNat by lia,show(f.l-1-0+1).toNat=f.l.toNat by lia];exact hR
def Hx:SpM:=λds M R _=>∃a q f,ds=[.ptr a]/\a≠q/\M=Fl.M f a q/\f.Ok/\R (.lst ((cK f.p 0 f.l f.w.toNat (f.h-f.l).toNat).map D.int)) (f.M a q)
abbrev rg(V:Bx):Prop:=V.Q 12 "Floor" "still" qf Hx
def Hy(T:V.Tm "Floor" "still" "Floor.still" qe qf)(Nv:jW V)(uW:V.a "Floor" "height")(uK:V.a "Floor" "width")(uD:V.a "Floor" "laid")(uG:V.a "Floor" "pattern"):rg V:=by
 refine Txm.okM T Fg (λds M R RX h=>?_) (λf cdv A outer s H E J hr hx=>#[_,((au (aF (aM (CalX.toM Nv) hx hr (aE (aG uG (ag (aa 0))) (aE (ag ad) (aE (aG uD (ag (aa 0))) (aE (dm (aG uK (ag (aa 0))) (ag ad)) (aE (dm (aG uW (ag (aa 0))) (ag ad)) aZ))))))))),λds M R RX d6 h=>?_])
 .obtain⟨_,_,_,rfl,_⟩:=h;rfl
 .obtain⟨a,q,f,rfl,ne,rfl,ok,hR⟩:=h;have w1:=ok.w1;have w2:=ok.w2;have l0:=ok.l0;have l1:=ok.l1;have h2:=ok.h2;refine#[_,Fl.ma ne,_,gM,_,Fl.ma ne,_,eg,_,Fl.ma ne,_,fJ,_,Fl.ma ne,_,jt,f.p,f.d,0,f.l,f.w-1,f.h-1,rfl,ok.is,ok.ok,λ_=>?_,λz=>absurd #[#[KK,KK],#[KK,KK],#[KK,KK],KK,KK] z];rw[show(f.w-1-0+1).toNat=f.w.toNat by lia,show(f.h-1-f.l+1).toNat=(f.h-f.l).toNat by lia];exact hR
def Hz:SpM:=λds M R _=>∃a q f,ds=[.ptr a]/\a≠q/\M=Fl.M f a q/\R (.int f.ds.length) (f.M a q)
abbrev rh(V:Bx):Prop:=V.Q 1 "Floor" "kept" qh Hz
def HA(T:V.Tm "Floor" "kept" "Floor.kept" qg qh)(uB:V.m "len")(uT:V.a "Floor" "deeds"):rh V:=by
 refine Txm.okM T Fh (λds M R RX h=>?_) (λf cdv A outer s H E J hr hx=>#[_,((au (aF (gw uB (aG uT (ag (aa 0))))))),λds M R RX d6 h=>?_])
 .obtain⟨_,_,_,rfl,_⟩:=h;rfl
 .obtain⟨a,q,f,rfl,ne,rfl,hR⟩:=h;refine#[_,Fl.ma ne,_,ju,_,Fl.mq,?_];rw[HR];exact hR
def HB:SpM:=λds M R _=>∃a q f,ds=[.ptr a,.str f.p.text,.tup [.int f.w,.int f.h],.lst (aC f.p f.w 0 f.l.toNat),.lst (aC f.p f.w f.l (f.h-f.l).toNat),.int f.ds.length]/\a≠q/\M=Fl.M f a q/\f.Ok/\R (.bl true) (f.M a q)
abbrev rj(V:Bx):Prop:=V.MM 13 "_law_view" qj HB
def HC(T:V.T "_law_view" qi qj)(uM:V.m "isinstance")(uF:V.m "str")(Mn:jV V)(Rg:qW V)(O1:qX V)(O2:qY V)(Lx:V.a "Floor" "text")(uK:V.a "Floor" "width")(uW:V.a "Floor" "height")(Nn:jG V)(Rh:rb V)(Ri:rg V)(Rj:rh V):rj V:=by
 refine Tx.okM T sc__law_view (λds M R RX h=>?_) (λf cdv A outer s H E J hr hx=>⟨_,((aj (aX (mt_w (ir (dX (dW (Et uM uF (aG Lx (ag (aa 0))) PyProof.Rows.boot_str kit_str))) (iq (gu (aG Lx (ag (aa 0))) (ag (aa 1)))))) (au (aF (ag bw))) aQ)
   (aj (aX (mt_w (ir (dX (dW (aM (CalD.toM Mn) hx hr (aE (aG uK (ag (aa 0))) aZ)))) (iq (gu (aG uK (ag (aa 0))) (ag (af (aa 2) ad)))))) (au (aF (ag bw))) aQ)
   (aj (aX (mt_w (ir (dX (dW (aM (CalD.toM Mn) hx hr (aE (aG uW (ag (aa 0))) aZ)))) (iq (gu (aG uW (ag (aa 0))) (ag (af (aa 2) ad)))))) (au (aF (ag bw))) aQ)
   (aj (aX (dX (dW (aM (CalD.toM Rg) hx hr (aE (cj (CalMth.one (CalMth.lendD Nn)) hx hr (ag (aa 0))) (aE (ag (aa 3)) aZ))))) (au (aF (ag bw))) aQ)
   (aj (aX (dX (dW (aM (CalD.toM O1) hx hr (aE (cj (CalMth.one Rh) hx hr (ag (aa 0))) (aE (ag (aw O2 hr (ac (aa 3) ae))) aZ))))) (au (aF (ag bw))) aQ)
   (aj (aX (dX (dW (aM (CalD.toM O1) hx hr (aE (cj (CalMth.one Ri) hx hr (ag (aa 0))) (aE (ag (aw O2 hr (ac (aa 4) ae))) aZ))))) (au (aF (ag bw))) aQ)
   (aj (aH 6 sc__law_view.nd (cj (CalMth.one Rj) hx hr (ag (aa 0))))
   (au (aF (ag (fX (aw Mn hr (ac (aa 6) ae)) (fW (cZ (aa 6) (aa 5))))))))))))))),λds M R RX d6 h=>?_⟩)
 .obtain⟨_,_,_,rfl,_⟩:=h;rfl
 .obtain⟨a,q,f,rfl,ne,rfl,ok,hR⟩:=h;have w1:=ok.w1;have w2:=ok.w2;have l0:=ok.l0;have l1:=ok.l1;have h2:=ok.h2;have ec:∀lo n,(cK f.p 0 lo f.w.toNat n).length=7:=λlo n=>by unfold cK;simp
  refine#[_,Fl.ma ne,_,wS,?_];dsimp only[kU];refine ite2 (λc=>nomatch c) λ_=>#[_,Fl.ma ne,_,wS,ite2 (λc=>absurd c MD) λ_=>?_];refine#[_,Fl.ma ne,_,fJ,_,rfl,ite2 (λc=>nomatch c) λ_=>#[_,Fl.ma ne,_,fJ,_,rfl,ite2 (λc=>absurd c MD) λ_=>?_]];refine#[_,Fl.ma ne,_,jt,_,rfl,ite2 (λc=>nomatch c) λ_=>#[_,Fl.ma ne,_,jt,_,rfl,ite2 (λc=>absurd c MD) λ_=>?_]];refine#[_,HN.mpr rfl,_,Fl.ma ne,rfl,?_];dsimp only[mNil];refine wY ne ok #[f.p,f.w,0,_,rfl,KK,ite2 (λc=>nomatch c) λ_=>?_];refine#[_,HN.mpr rfl,_,Fl.ma ne,rfl,a,q,f,rfl,ne,rfl,ok,f.p,f.w,0,_,rfl,ok.ok,KK,w2,KK,_,rfl,ec _ _,ite2 (λc=>nomatch c) λ_=>?_];refine#[_,HN.mpr rfl,_,Fl.ma ne,rfl,a,q,f,rfl,ne,rfl,ok,f.p,f.w,f.l,_,rfl,ok.ok,KK,w2,KK,_,rfl,ec _ _,ite2 (λc=>nomatch c) λ_=>?_];refine#[λd M'=>d=.int f.ds.length/\M'=f.M a q,#[_,HN.mpr rfl,_,Fl.ma ne,rfl,a,q,f,rfl,ne,rfl,rfl,rfl],?_];rintro _ _⟨rfl,rfl⟩;k_places;refine#[_,rfl,?_];show R (.bl (decide ((f.ds.length:Int)=f.ds.length))) (f.M a q);rw[decide_eq_true rfl];exact hR
def HD:SiM:=λa ds R=>∃p w h,ds=[.str (Pat.text p),.int w,.int h]/\p.Ok/\∀d q,br p d->a≠q->R (Fl.M #[p,d,w,h,0,[]] a q)
abbrev rk(V:Bx):Prop:=V.N 19 "Floor" ql HD
def HE(T:V.Ti "Floor" "Floor.__init__" qk ql)(Nr:jT V)(uG:V.a "Floor" "pattern")(Lx:V.a "Floor" "text")(uK:V.a "Floor" "width")(uW:V.a "Floor" "height")(uD:V.a "Floor" "laid")(uT:V.a "Floor" "deeds"):rk V:=by
 refine Txi.okIN T Fi (λa ds R h=>?_) (λf cdv A outer s H E J hr hx=>⟨_,((aj (bT uG (ag (aa 0)) (aM (CalX.toM Nr) hx hr (aA (ac (aa 1) ae))))
   (aj (bT Lx (ag (aa 0)) (ag (aa 1)))
   (aj (bT uK (ag (aa 0)) (ag (aa 2)))
   (aj (bT uW (ag (aa 0)) (ag (aa 3)))
   (aj (bT uD (ag (aa 0)) (ag ad))
   (au (bT uT (ag (aa 0)) (fo (aA ae)))))))))),λa ds R M4 h=>?_⟩)
 .obtain⟨_,_,_,rfl,_⟩:=h;rfl
 .obtain⟨p,w,h,rfl,ok,hR⟩:=h;refine wy (RX:=λ_ _=>True) ok λd hd=>?_;refine#[_,cF,by show(0:Nat)<1000;decide,?_];rw[cM];refine#[_,cF,RN,?_];rw[cM];refine#[_,cF,by show(2:Nat)<1000;decide,?_];rw[cM];refine#[_,cF,by show(3:Nat)<1000;decide,?_];rw[cM];refine#[_,cF,by show(4:Nat)<1000;decide,?_];rw[cM];refine#[by show(0:Nat)<=1000;decide,λq hq=>?_];have ne:a≠q:=λe=>hq (e ▸ HV);refine#[_,(dY (Ne.symm ne)).trans cF,by show(5:Nat)<1000;decide,?_];rw[dZ (Ne.symm ne),cM];exact hR d q hd ne
def HF{fa:Pi}{fd:Vg}(F:Fun V.K "law" "law" jr fa fd)(uA:V.m "range")(uB:V.m "len")(uM:V.m "isinstance")(uF:V.m "str")(Ni:jB V)(Rk:qA V)(D_:jv V)(Rl:qD V)(LV:gN V)(Rm:qT V)(Rn:qV V)(Ro:rj V)(Rp:rk V):FnOk V.P V.w V.K V.mg V.base (Exc.CX1 V.P V.w) 22 fa fd qm (lSp V.K eV):=by
 refine Es (Fun.okM F sc_law (λds M R RX h=>?_) (λcdv A outer s H E J hr hx=>⟨_,((aj (aH 1 sc_law.nd (ag (aw Ni hr (ac (aa 0) (ac ad ae)))))
   (aj (aH 2 sc_law.nd (ag (aw Rk hr (ac (aa 1) (ac (aa 0) (ac ad (ac (aw D_ hr (ac (aa 0) (ac ad ae))) ae)))))))
   (aj (aH 3 sc_law.nd (ag (aI (ac (am ad (aD (aw D_ hr (ac (aa 0) (ac ad ae))) ad)) (ac (am ad (aD (aw D_ hr (ac (aa 0) (ac ad ae))) ad)) ae)))))
   (aj (aH 4 sc_law.nd (fo (aA ae)))
   (aj (wO 5 PassesOwn.leaving rfl sc_law.nd (ag (bp (ac (aa 1) (ac (aa 2) ae)))) (au (bF (lJ (ag (aa 4)) (ag (aI (ac (af (aa 5) ad) (ac (aw Rl hr (ac (af (aa 5) ad) (ac (af (aa 3) ad) (ac (af (aa 3) ad) ae)))) ae))))))))
   (lK 4 (aj (aH 6 sc_law.nd (Ep Rp hr (aA (ac (af (aa 1) ad) (ac (af (aa 3) ad) (ac (af (aa 3) ad) ae))))))
   (aj (aH 7 sc_law.nd (ag (aI (ac (af (af (aa 4) ad) ad) (ac (af (af (aa 4) ad) ad) (ac ad ae))))))
   (aj (aH 8 sc_law.nd (fo (aA ae)))
   (aj (wO 9 PassesOwn.leaving rfl sc_law.nd (ag (aw LV hr (ac (aa 0) (ac ad (ac (am ad (aD (aw D_ hr (ac (aa 0) (ac ad ae))) ad)) ae))))) (aj (aH 10 sc_law.nd (aM (CalMM.frame Rm) hx hr (aA (ac (aa 6) (ac (aa 9) (ac (aa 7) (ac (aa 3) (ac (aa 4) ae))))))))
    (aj (aX (bv (kT (aa 10) bC)) (au (aF (ag bw))) aQ)
    (aj (fq (bv (ce (af (aa 10) ad) ax)) (au (bF (lJ (ag (aa 8)) (ag (aI (ac (af (aa 10) ad) (ac (aa 7) ae))))))) aQ)
    (au (aH 7 sc_law.nd (ag (af (aa 10) ad))))))))
   (aj (vj 11 PassesOwn.leaving rfl sc_law.nd uA (gp (gw uB (ag (aa 8))) (ag ad)) (aj (aH 12 sc_law.nd (aM (CalMM.frame Rn) hx hr (aA (ac (aa 6) ae))))
    (aj (fq (EE (fQ hr) (ag (aa 8))) (aj (Ev rfl (wM (ag (aa 8))) (dg_cons 13 sc_law.nd (dg_cons 7 sc_law.nd cG)))
     (au (aX (bv (cy (dN (eO (cx (eQ uM uF (aa 12) PyProof.Rows.boot_str kit_str))) (dM (ce (aa 12) (aa 13)))))) (au (aF (ag bw))) aQ))) (au (aX (bv (EB (fQ hr) (aa 12) (aI (ac ax ae)))) (au (aF (ag bw))) aQ)))
    (aj (vy (λ_=>(gf rfl (aa 7) (dg_cons 14 sc_law.nd (dg_cons 15 sc_law.nd (dg_cons 16 sc_law.nd cG))))))
    (au (aX (dX (dW (aM (CalMM.frame Ro) hx hr (aE (ag (aa 6)) (aE (ag (aa 14)) (aE (ag (aa 3)) (aE (ag (cB (aa 15) cz (cA (aa 16)))) (aE (ag (cB (aa 15) (cA (aa 16)) cz)) (aE (gw uB (ag (aa 8))) aZ))))))))) (au (aF (ag bw))) aQ))))))
   (au (aF (ag bw))))))))))))))),λds M R RX d6 h=>?_⟩))
 .obtain⟨rfl,_,⟨ns,rfl,_⟩,rfl⟩:=h;rfl
 .obtain⟨rfl,R0,⟨ns,rfl,hl,hR⟩,rfl⟩:=h;refine#[λd M'=>M'=[]/\∃p:Pat,d=p.D/\p.Ok,#[ns,6,rfl,Mx,λp ok=>#[rfl,p,rfl,ok]],?_];rintro _ _⟨rfl,p,rfl,n9⟩;k_places;refine#[λd M'=>M'=[]/\∃p:Pat,d=p.D/\p.Ok,#[ns,5,rfl,Mx,p,ns,26,_,rfl,n9,Mx,λp ok=>#[rfl,p,rfl,ok]],?_];rintro _ _⟨rfl,t,rfl,Ur⟩;k_places;refine#[λd M'=>M'=[]/\∃w h:Int,d=.tup [.int w,.int h]/\(1<=w/\w<=8)/\1<=h/\h<=10,#[ns,0,rfl,Mx,Mx,ns,1,rfl,Mx,Mx,NL,rfl,_,_,rfl,#[KK,KK],KK,KK],?_];rintro _ _⟨rfl,w,h,rfl,⟨w1,w2⟩,h1,h2⟩;k_places;refine#[λd M'=>∃pb,d=.ptr pb/\M'=[(pb,.lst [])],#[Mx,λpb _=>#[pb,rfl,rfl]],?_];rintro _ _⟨pb,rfl,rfl⟩;k_places;have L6:∀r∈[p,t],r.Ok:=λr hr=>by
   rcases HQ.mp hr with e|e
   .rw[e];exact n9
   .rw[HN.mp e];exact Ur
  refine#[NL,λk z M=>∃o5,nown [o5]=true/\z=[be (.rol (ns.map D.int)),be p.D,be t.D,be (.tup [.int w,.int h]),be (.ptr pb),o5,v9,v9,v9,v9,v9,v9,v9,v9,v9,v9,v9]/\M=[(pb,.lst (([p,t].take k).map (EntD w h)))],#[v9,rfl,rfl,rfl],?_,?_]
  .rintro k v z M' hk⟨o5,_,rfl,rfl⟩;k_places;have hk:([p,t].map Pat.D)[k]?=be v:=hk;rw[H9]at hk;obtain⟨r,er,rfl⟩:=Lu.mp hk;have p_:k<2:=(Ib.mp er).1;refine#[#[_,bB],_,rfl,_,rfl,_,rfl,_,rfl,r,w,h,rfl,L6 r (IU er),KK,KK,KK,KK,NL,_,bB,?_,be r.D,rfl,rfl,?_]
   .rw[HR,Jk];show min k 2<=100000;lia
   .rw[gD,List.take_add_one,er,Ip];rfl
  rintro z M'⟨o5,Us,rfl,rfl⟩;k_places;refine#[_,bB,?_];rw[iD];refine#[λd M'=>∃a qa d0,d=.ptr a/\a≠qa/\br p d0/\M'=Fl.M #[p,d0,w,h,0,[]] a qa,#[_,rfl,_,rfl,_,rfl,λa _=>#[p,w,h,rfl,n9,λd0 qa is ne=>#[a,qa,d0,rfl,ne,is,rfl]]],?_];rintro _ _⟨a,qa,d0,rfl,ne,is,rfl⟩;k_places;have N9:=Fl.ok_new is n9 w1 KK h1 KK;refine#[λd M'=>d=StD p w h 0/\M'=Fl.M #[p,d0,w,h,0,[]] a qa,#[_,rfl,_,rfl,_,rfl,_,rfl,by show(3:Nat)<=1000;decide,rfl,rfl],?_];rintro _ _⟨rfl,rfl⟩;k_places
  let I:Nat->SD->MS->Prop:=λk z M=>∃(f:Fl) (q pp:Pi) (o9 Mo u_ v3 m4 m5 LW LX:Option D),z=[be (.rol (ns.map D.int)),be p.D,be t.D,be (.tup [.int w,.int h]),be (.lst ([p,t].map (EntD w h))),o5,be (.ptr a),be (StD f.p w h f.l),be (.ptr pp),o9,Mo,u_,v3,m4,m5,LW,LX]/\M=(pp,.lst (f.ds.map (cO w h)))::f.M a q/\a≠q/\f.Ok/\f.w=w/\f.h=h/\f.ds.length<=k/\NoOwn z
  refine#[λd M'=>∃pp,d=.ptr pp/\M'=(pp,.lst [])::Fl.M #[p,d0,w,h,0,[]] a qa,#[Mx,λpb _=>#[pb,rfl,rfl]],?_];rintro _ _⟨pp,rfl,rfl⟩;k_places;refine#[ns,2,rfl,Mx,Mx,ns,3,(1+cell ns 2%18).toNat,?_,Mx,KK,λxs xl xd=>?_]
  .rw[Iv KK]
  refine#[I,#[_,qa,pp,_,_,_,_,_,_,_,_,rfl,rfl,ne,N9,rfl,rfl,HP 0,NoOwn.of Us],?_,?_]
  .clear N9 ne is;rintro k v z M' hk⟨f,q,pp,o9,Mo,u_,v3,m4,m5,LW,LX,rfl,rfl,ne,s9,rfl,rfl,lk,hn⟩;k_places;obtain⟨x,rfl,x0,Ut⟩:∃x:Int,v=.int x/\0<=x/\k<18:=by
    have:=(Ib.mp hk).1;rw[HR,xl]at this;rw[H9]at hk;obtain⟨x,hx,rfl⟩:=Lu.mp hk;exact#[x,rfl,(xd x (IU hx)).1,KK]
   refine#[λd M'=>∃(g:Fl) (q':Pi) (wd:LB),d=.lst [StD g.p f.w f.h g.l,.str wd]/\M'=(pp,.lst (f.ds.map (cO f.w f.h)))::g.M a q'/\a≠q'/\g.Ok/\g.w=f.w/\g.h=f.h/\((wd=""/\g.ds=f.ds)\/(¬wd=""/\g.ds=f.ds++[Deed.mk wd f.p f.d f.l])),#[[(pp,_)],f.M a q,rfl,a,q,f,x,[p,t],rfl,ne,rfl,s9,x0,rfl,L6,?_,λn q' n0 nh d9=>?_,λr d q' is Nu d9=>?_],?_]
   .exact#[f,q,"",rfl,rfl,ne,s9,rfl,rfl,.inl #[rfl,rfl]]
   .exact#[f.lay n,q',"lay",rfl,rfl,d9,s9.lay n0 nh,rfl,rfl,.inr #[Mt,keep_ds KK]]
   .exact#[(f.keep "change").stand r d,q',"change",rfl,rfl,d9,(s9.keep _).stand is Nu,rfl,rfl,.inr #[Mt,keep_ds KK]]
   rintro _ _⟨g,q',wd,rfl,rfl,d9,Nw,ew,eh,Oa⟩;k_places;refine#[λz M'=>z=[be (.rol (ns.map D.int)),be p.D,be t.D,be (.tup [.int f.w,.int f.h]),be (.lst ([p,t].map (EntD f.w f.h))),o5,be (.ptr a),be (StD f.p f.w f.h f.l),be (.ptr pp),be (.int x),be (.lst [StD g.p f.w f.h g.l,.str wd]),u_,v3,m4,m5,LW,LX]/\M'=(pp,.lst (g.ds.map (cO f.w f.h)))::g.M a q',#[_,rfl,ite2 (λc=>?_) (λc=>?_)],?_]
   .have e:=(Oa.resolve_left λz=>by simp[z.1]at c).2;refine#[#[_,bB],_,rfl,NL,_,bB,by rw[HR];lia,rfl,?_];rw[gD,e,Ip];rfl
   .have e:=(Oa.resolve_right λz=>c (by simp[z.1])).2;exact#[rfl,by rw[e]]
   rintro _ _⟨rfl,rfl⟩;k_places;refine#[λd M'=>d=StD g.p f.w f.h g.l/\M'=(pp,.lst (g.ds.map (cO f.w f.h)))::g.M a q',#[_,rfl,rfl,rfl],?_];rintro _ _⟨rfl,rfl⟩;k_places;refine#[g,q',pp,_,_,_,_,_,_,_,_,rfl,rfl,d9,Nw,ew,eh,?_,((hn.set 9 (d:=.int x) rfl).set 10 (d:=.lst [StD g.p f.w f.h g.l,.str wd]) rfl).set 7 (d:=StD g.p f.w f.h g.l) rfl];rcases Oa with⟨_,e⟩|⟨_,e⟩
   .rw[e];lia
   .rw[e,Ia];show f.ds.length+1<=k+1;lia
  rintro z M'⟨f,q,pp,o9,Mo,u_,v3,m4,m5,LW,LX,rfl,rfl,Su,s9,ew,eh,lk,hn⟩;k_places;clear N9 ne is;refine#[_,bB,#[KK,by have:=s9.de;rw[HR];lia],λ_ z M=>I 20 z M,#[f,q,pp,_,_,_,_,_,_,_,_,rfl,rfl,Su,s9,ew,eh,s9.de,hn],?_,λz M' _=>hR];clear s9 ew eh lk Su hn;rintro k v z M' hk⟨f,q,pp,o9,Mo,u_,v3,m4,m5,LW,LX,rfl,rfl,ne,s9,rfl,rfl,lk,hn⟩;k_places;obtain⟨_,rfl⟩:=bK hk;refine#[λd M'=>(f.ds=[]/\d=.tup [.str "nothing"]/\M'=(pp,.lst (f.ds.map (cO f.w f.h)))::f.M a q)\/∃es e,f.ds=es++[e]/\d=.str e.w/\M'=(pp,.lst (f.ds.map (cO f.w f.h)))::(f.undone e es).M a q,#[[(pp,_)],f.M a q,rfl,a,q,f,rfl,ne,rfl,λh=>.inl #[h,rfl,rfl],λes e he=>#[(s9.dd e (by rw[he];exact Ik _ (HN.mpr rfl))).1,.inr #[es,e,he,rfl,rfl]]],?_];rintro _ _ (⟨Rq,rfl,rfl⟩|⟨es,e,he,rfl,rfl⟩);k_places
  focus
   refine#[I 20,#[_,bB,?_],?_]
   .rw[show(!(f.ds.map (cO f.w f.h)).isEmpty)=false by rw[Rq];rfl];exact#[Rw,#[rfl,rfl],f,q,pp,_,_,_,_,_,_,_,_,rfl,rfl,ne,s9,rfl,rfl,lk,(hn.set 11 (d:=.int k) rfl).set 12 (d:=.tup [.str "nothing"]) rfl]
  rotate_left
  focus
   refine#[I 20,#[_,bB,?_],?_]
   .rw[show(!(f.ds.map (cO f.w f.h)).isEmpty)=true by rw[he];simp];refine#[_,cO f.w f.h e,bB,by rw[he];simp,rfl,ite2 (λc=>absurd c MD) (λ_=>?_)];refine#[f.undone e es,q,pp,_,_,_,_,_,_,_,_,rfl,?_,ne,s9.undone he,rfl,rfl,?_,(((hn.set 11 (d:=.int k) rfl).set 12 (d:=.str e.w) rfl).set 13 (d:=.str e.w) rfl).set 7 (d:=StD e.p f.w f.h e.l) rfl]
    .rw[gD,he,Ip];simp[Fl.undone]
    .have:=s9.de;rw[he,Ia]at this;exact H8 (Ls _ _) this
  all_goals
   rintro _ _⟨g,q',Sv,p9,U0,U1,U2,U3,U4,U5,U6,rfl,rfl,d9,Nw,ew,eh,lg,g5⟩;k_places;have K':=((g5.set 14 (d:=.str g.p.text) rfl).set 15 (d:=.lst (aC g.p f.w 0 f.h.toNat)) rfl).set 16 (d:=.int g.l) rfl;refine#[rfl,?_,K'];refine#[_,bB,[(Sv,_)],g.M a q',rfl,a,q',g,?_,d9,rfl,Nw,?_]
   .have q0:=Nw.l0;have q1:=Nw.l1;have e1:=wV (p:=g.p) (w:=g.w) (lo:=0) (n:=g.h.toNat) (k:=g.l.toNat) KK;have e2:=wT g.p g.w (g.h-g.l).toNat q0;rw[show g.l.toNat+(g.h-g.l).toNat=g.h.toNat by lia]at e2;rw[Iv q0]at e1;show[D.ptr a,D.str g.p.text,D.tup [D.int f.w,D.int f.h],D.lst (cutD (aC g.p f.w 0 f.h.toNat) v9 (be g.l)),D.lst (cutD (aC g.p f.w 0 f.h.toNat) (be g.l) v9),D.int (g.ds.map (cO f.w f.h)).length]=_;rw[HR,<-ew,<-eh,e1,e2]
   .exact#[g,q',Sv,_,_,_,_,_,_,_,_,rfl,rfl,d9,Nw,ew,eh,lg,K']
end
local macro_rules | `(tactic| walk_at "b1") => `(tactic| exact BR λ_ _ _ _ _ _ _ => rfl)
local macro_rules | `(tactic| walk_at "b2") => `(tactic| exact bind2 λ_ _ _ _ _ _ _ _ => rfl)
local macro_rules | `(tactic| walk_at "b3") => `(tactic| exact bind3 λ_ _ _ _ _ _ _ _ _ => rfl)
local macro_rules | `(tactic| walk_at "b4") => `(tactic| exact bind4 λ_ _ _ _ _ _ _ _ _ _ => rfl)
local macro_rules | `(tactic| walk_at "b5") => `(tactic| exact bind5 λ_ _ _ _ _ _ _ _ _ _ _ => rfl)
local macro_rules | `(tactic| walk_at "b6") => `(tactic| exact bind6 λ_ _ _ _ _ _ _ _ _ _ _ _ => rfl)
local macro_rules | `(tactic| walk_at "bd") => `(tactic| exact λ_ _ _ _ _ _ _ _ _ _ _ _ _ _ h hs => ⟨.of_defaults rfl h hs rfl rfl, .of_defaults rfl h hs rfl rfl⟩)
structure TopIn(K:Ex):Prop where
 uFO:FnIn K "_law_at" mo
 uFR:FnIn K "_law_draws" mx
 uFI:FnIn K "_law_lines" mz
 uJI:FnIn K "_law_shift_pair" mC
 uHV:FnIn K "_law_motif_text" mF
 uKC:FnIn K "_law_motif" mH
 uFK:FnIn K "_law_wrapped" iH
 uKS:FnIn K "_law_gcd" mK
 uGB:FnIn K "_law_on" mM
 uFV:FnIn K "_law_leaf_family" mQ
 uFM:FnIn K "_law_in_family" mU
 uHU:FnIn K "_law_both" mW
 uGG:FnIn K "_law_family" mZ
 uKD:FnIn K "_law_over" nj
 uIX:FnIn K "_law_pattern" nt
 uJF:FnIn K "_law_shifted_home" nv
 uGJ:FnIn K "_law_respelled" ny
 uIC:FnIn K "_law_twin" nA
 uHN:FnIn K "_law_leaf_shows" nC
 uHO:FnIn K "_law_shows" nE
 uKN:FnIn K "_law_floor_rows" iI
 uFC:FnIn K "refuse_far" nJ
 uJS:FnIn K "home" nM
 uGX:FnIn K "cell_at" nO
 uIL:FnIn K "row_from" iU
 uGT:FnIn K "_law_lay" nU
 uFE:FnIn K "_law_parted" nW
 uFA:FnIn K "line_from" oh
 uIQ:FnIn K "lines_from" oj
 uKM:FnIn K "number_from" om
 uGP:FnIn K "shift_from" ot
 uHH:FnIn K "levelled" ow
 uJK:FnIn K "spread" oz
 uFX:FnIn K "hues_by_home" oB
 uIH:FnIn K "motif_from" oG
 uIR:FnIn K "over_from" iX
 uFH:FnIn K "shifted_from" iY
 uKF:FnIn K "rehue_from" iZ
 uJY:FnIn K "form_from" ja
 uFG:FnIn K "measure" oY
 uKQ:FnIn K "met" pd
 uJQ:FnIn K "mirrored" pf
 uID:FnIn K "turned" pi
 uIG:FnIn K "read" pk
 uFY:FnIn K "first_unlike" pr
 uGN:FnIn K "_law_change" pE
 uJC:FnIn K "_law_deed" pG
 uHB:FnIn K "_law_undo" pK
 uKB:FnIn K "_law_whole" pM
 uHG:FnIn K "_law_texts" pO
 uJR:FnIn K "_law_seven" pQ
 uFT:FnIn K "_law_counts" pS
 uKA:FnIn K "field_rows" jp
 uJM:FnIn K "round_row" pV
 uFJ:FnIn K "count_sign" pX
 uFZ:FnIn K "count_all" jq
 uKL:FnIn K "_law_view" qi
 uFS:FnIn K "law" jr
 uKE:NnIn K "len"
 uIT:NnIn K "range"
 uFD:NnIn K "int"
 uIN:NnIn K "str"
 uKT:NnIn K "list"
 uGE:NnIn K "abs"
 uJZ:NnIn K "max"
 uKH:NnIn K "enumerate"
 uIU:NnIn K "isinstance"
 uGL:NnIn K "bool"
 uHQ:NnIn K "min"
 uQ:ClIn K "Floor"
 uBR:ClIn K "Motif"
 uCA:ClIn K "Over"
 uBN:ClIn K "Shifted"
 uCP:ClIn K "Mirror"
 uDL:ClIn K "Turn"
 uBP:ClIn K "Rehue"
 uDU:ClIn K "Pattern"
 uBZ:ClIn K "Reading"
 uFW:InIn K "Motif" "Motif.__init__" oE
 uGF:InIn K "Mirror" "Mirror.__init__" oI
 uGY:InIn K "Turn" "Turn.__init__" oK
 uFQ:InIn K "Over" "Over.__init__" oN
 uJB:InIn K "Shifted" "Shifted.__init__" oP
 uIW:InIn K "Rehue" "Rehue.__init__" oR
 uJH:InIn K "Reading" "Reading.__init__" oU
 uJX:InIn K "Pattern" "Pattern.__init__" oW
 uIA:InIn K "Floor" "Floor.__init__" qk
 uGM:MtIn K "Floor" "keep" "Floor.keep" nH
 uGC:MtIn K "Motif" "shows" "Motif.shows" iJ
 uGS:MtIn K "Over" "shows" "Over.shows" iK
 uKK:MtIn K "Shifted" "shows" "Shifted.shows" iM
 uHC:MtIn K "Mirror" "shows" "Mirror.shows" iO
 uKG:MtIn K "Turn" "shows" "Turn.shows" iQ
 uHW:MtIn K "Rehue" "shows" "Rehue.shows" iS
 uHD:MtIn K "Floor" "rows" "Floor.rows" iV
 uHS:MdIn K "Floor" "lay" "Floor.lay" nS 1
 uIP:MtIn K "Reading" "may_take" "Reading.may_take" nY
 uJA:MtIn K "Reading" "take" "Reading.take" oa
 uFL:MtIn K "Motif" "family" "Motif.family" jb
 uIS:MtIn K "Over" "family" "Over.family" jc
 uHX:MtIn K "Shifted" "family" "Shifted.family" je
 uJW:MtIn K "Mirror" "family" "Mirror.family" jh
 uJP:MtIn K "Turn" "family" "Turn.family" jj
 uJL:MtIn K "Rehue" "family" "Rehue.family" jl
 uGW:MtIn K "Floor" "stand" "Floor.stand" pA
 uIO:MtIn K "Floor" "change" "Floor.change" pC
 uJO:MtIn K "Floor" "undo" "Floor.undo" pI
 uHJ:MtIn K "Floor" "lies" "Floor.lies" qc
 uHK:MtIn K "Floor" "still" "Floor.still" qe
 uKP:MtIn K "Floor" "kept" "Floor.kept" qg
 uFP:NoIn K "Floor" "deeds"
 uJU:NoIn K "Floor" "laid"
 uKI:NoIn K "Floor" "pattern"
 uJJ:NoIn K "Motif" "hues"
 uGD:NoIn K "Motif" "shifts"
 uHR:NoIn K "Over" "above"
 uGQ:NoIn K "Over" "below"
 uGV:NoIn K "Shifted" "form"
 uHY:NoIn K "Shifted" "y"
 uFF:NoIn K "Shifted" "x"
 uGH:NoIn K "Mirror" "form"
 uIE:NoIn K "Turn" "form"
 uKJ:NoIn K "Rehue" "form"
 uGO:NoIn K "Rehue" "old"
 uIM:NoIn K "Rehue" "new"
 uJV:NoIn K "Pattern" "form"
 uJG:NoIn K "Floor" "width"
 uGA:NoIn K "Floor" "height"
 uIV:NoIn K "Reading" "text"
 uGK:NoIn K "Reading" "place"
 uJN:NoIn K "Motif" "place"
 uKU:NoIn K "Pattern" "text"
 uJT:NoIn K "Pattern" "shifts"
 uHT:NoIn K "Floor" "text"
 uII:CiIn K "KEPT" 20
 uFU:CiIn K "FAR" 1000000000000
 uKO:CsIn K "SIGNS" ".123456"
 uFN:CiIn K "LONGEST" 8
 uHZ:CiIn K "DEEP" 5
 uKR:CiIn K "MOST" 720
 eb:EbIn K
 uEZ:E0In K "TooFar"
 uEI:E0In K "NoRow"
 uAV:E1In K "Parted" "Parted.__init__" pw
 uAH:EaIn K "Parted"
 uEN:NoIn K "Parted" "x"
 uEK:NoIn K "Parted" "y"
 uEX:EgIn K "Parted"
 uEO:E0In K "NothingKept"
 uHE:EiIn K "MotifError"
 uIZ:EmIn K "TooFar" "TooFar"
 uGR:EmIn K "TooFar" "NoRow"
 uIY:EmIn K "TooFar" "Parted"
 uGI:EmIn K "TooFar" "NothingKept"
 uHA:EmIn K "NoRow" "TooFar"
 uHM:EmIn K "NoRow" "NoRow"
 uIF:EmIn K "NoRow" "Parted"
 uHL:EmIn K "NoRow" "NothingKept"
 uHI:EmIn K "Parted" "TooFar"
 uHP:EmIn K "Parted" "NoRow"
 uIB:EmIn K "Parted" "Parted"
 uIJ:EmIn K "Parted" "NothingKept"
 uHF:EmIn K "NothingKept" "TooFar"
 uIK:EmIn K "NothingKept" "NoRow"
 uGZ:EmIn K "NothingKept" "Parted"
 uJD:EmIn K "NothingKept" "NothingKept"
def HG{V:Bx}{h:Heap}(t:TopIn V.K)(X:V.K.In h)(G:h.Ns SL V.mg){fa:Pi}{fd:Vg}(F:Fun V.K "law" "law" jr fa fd):FnOk V.P V.w V.K V.mg V.base (Exc.CX1 V.P V.w) 22 fa fd qm (lSp V.K eV):=by
 have uB:=mg_none_of X G t.uKE;have uA:=mg_none_of X G t.uIT;have uE:=mg_none_of X G t.uFD;have uF:=mg_none_of X G t.uIN;have x_:=mg_none_of X G t.uKT;have uS:=mg_none_of X G t.uGE;have v4:=mg_none_of X G t.uJZ;have MY:=mg_none_of X G t.uKH;have uM:=mg_none_of X G t.uIU;have Q_:=mg_none_of X G t.uGL;have Ra:=mg_none_of X G t.uHQ;have uT:=t.uQ.a t.uFP;have uD:=t.uQ.a t.uJU;have uG:=t.uQ.a t.uKI;have Mg:=t.uBR.a t.uJJ;have uN:=t.uBR.a t.uGD;have uZ:=t.uCA.a t.uHR;have uY:=t.uCA.a t.uGQ;have v5:=t.uBN.a t.uGV;have Mh:=t.uBN.a t.uHY;have Mi:=t.uBN.a t.uFF;have uU:=t.uCP.a t.uGH;have uV:=t.uDL.a t.uIE;have uX:=t.uBP.a t.uKJ;have Mj:=t.uBP.a t.uGO;have Ml:=t.uBP.a t.uIM;have Nk:=t.uDU.a t.uJV;have uK:=t.uQ.a t.uJG;have uW:=t.uQ.a t.uGA;have Mm:=t.uBZ.a t.uIV;have uO:=t.uBZ.a t.uGK;have QM:=t.uBR.a t.uJN;have Nq:=t.uDU.a t.uKU;have Lw:=t.uDU.a t.uJT;have Lx:=t.uQ.a t.uHT;have QG:=t.uII.g X G;have QH:=t.uFU.g X G;have uR:=t.uKO.g X G;have OY:=t.uFN.g X G;have Op:=t.uHZ.g X G;have QT:=t.uKR.g X G;have QI:=t.uEZ.k t.eb X G;have QJ:=t.uEI.k t.eb X G;have uAH:=t.uAV.a t.eb t.uAH X G;have QY:=t.uEN.all;have QZ:=t.uEK.all;have Q8:=t.uEO.k t.eb X G;have QX:=t.uHE.b X G;have Q2:V.x "y" ["Parted"]:=AllP.mem #[t.uEX.g uAH t.uEK,trivial];have Q3:V.x "x" ["Parted"]:=AllP.mem #[t.uEX.g uAH t.uEN,trivial];have ek:jH V:=BS #[(let ⟨C,N,bm,k,_⟩:=t.uEZ.k t.eb X G;#[C,N,bm,k]),(let ⟨C,N,bm,k,_⟩:=t.uEI.k t.eb X G;#[C,N,bm,k]),(t.uAV.c t.eb X G),(let ⟨C,N,bm,k,_⟩:=t.uEO.k t.eb X G;#[C,N,bm,k]),trivial] #[#[t.uIZ,t.uGR,t.uIY,t.uGI,trivial],#[t.uHA,t.uHM,t.uIF,t.uHL,trivial],#[t.uHI,t.uHP,t.uIB,t.uIJ,trivial],#[t.uHF,t.uIK,t.uGZ,t.uJD,trivial],trivial];have D_:jv V:=FF (t.uFO.tx X G NN) uB;have LV:gN V:=FG (t.uFR.tx X G RF) uA D_;have Qj:qq V:=FH (t.uFI.tx X G OH) uA uB;have Qk:qr V:=FI (t.uJI.tx X G OH) uE;have Ql:qt V:=FJ (t.uHV.tx X G RF) uF;have MQ:jw V:=FK (t.uKC.tx X G NN) LV Qj Qk Ql;have uP:gO V:=FL (t.uFK.tx X G NN) uF x_ uE;have Nf:jx V:=FM (t.uKS.tx X G NN) uS;have Ng:jy V:=FN (t.uGB.tx X G (by walk_at "b4"));have OV:qu V:=FO (t.uFV.tx X G OH) uS Nf Ng;have Qp:qv V:=FP (t.uFM.tx X G RF);have Qu:qw V:=FQ (t.uHU.tx X G NN) Nf Qp;have Nh:jz V:=FR (t.uGG.tx X G OH) OV Qu;have Me:jA V:=FS (t.uKD.tx X G NN) v4 Nh;have Ni:jB V:=FT (t.uIX.tx X G NN) uA LV MQ uP Me;have Qz:qy V:=FV (t.uJF.tx X G NN) Nh uP;have QA:qz V:=FX (t.uGJ.tx X G RF) uB x_;have Rk:qA V:=FZ (t.uIC.tx X G (by walk_at "b4")) uP Me Qz MQ QA Ni;have QE:qB V:=F4 (t.uHN.tx X G RF) uA uB uE Ng;have QF:qC V:=F5 (t.uHO.tx X G RF) QE;have Rl:qD V:=F7 (t.uKN.tx X G RF) uA QF;have Nm:jC V:=F9 (t.uGM.txm t.uQ NN) QG uT uD uG;have MV:jD V:=Ga (t.uFC.tx X G NN) v4 uS QH QI;have G':fK V:=Gb (t.uJS.tx X G RF);have uH:wW V:=Gh (t.uGC.txm t.uBR RF) (t.uGS.txm t.uCA RF) (t.uKK.txm t.uBN RF) (t.uHC.txm t.uCP RF) (t.uKG.txm t.uDL RF) (t.uHW.txm t.uBP RF) G' Mg uN uZ uY v5 Mh Mi uU uV uX Mj Ml 6;have MX:jE V:=Gi (t.uGX.tx X G RF) MV Nk uH;have Nl:jF V:=Gj (t.uIL.tx X G (by walk_at "b4")) uA MX uR;have Nn:jG V:=Gk (t.uHD.txm t.uQ OH) uA Nl uD uK uG;have OW:qE V:=Gm (t.uHS.txd t.uQ (by walk_at "bd")) v4 uW uD Nm Nn QJ;have Q4:qF V:=Go (t.uGT.tx X G RF) OW ek;have Q5:qG V:=Gq (t.uFE.tx X G NN) uA uB;have uL:dG V:=Gr (t.uIP.txm t.uBZ NN) uB Mm uO;have uC:cN V:=Gs (t.uJA.txm t.uBZ NN) uL;have OX:qH V:=Gu (t.uFA.tx X G RF) uA uR uC uL;have QN:qI V:=Gv (t.uIQ.tx X G OH) uB OX OY uL;have OZ:qJ V:=Gw (t.uKM.tx X G OH) uE uL uC;have L5:gP V:=Gx (t.uGP.tx X G OH) OZ uC;have No:jI V:=Gy (t.uHH.tx X G NN);have Np:jJ V:=Gz (t.uJK.tx X G NN) uS No;have QL:qK V:=GA (t.uFX.tx X G NN) MY G' uR;have QO:qL V:=GB (t.uFW.txi X G (by walk_at "b5")) Np QL QM uN Mg;have Oo:jK V:=GC (t.uIH.tx X G OH) QN L5 uO QO uC;have Oq:jL V:=GD (t.uGF.txi X G NN) uU;have Ot:jM V:=GE (t.uGY.txi X G NN) uV;have Ol:jN V:=GF (t.uFQ.txi X G RF) uZ uY;have Om:jO V:=GH (t.uJB.txi X G (by walk_at "b4")) v5 Mi Mh;have On:jP V:=GI (t.uIW.txi X G (by walk_at "b4")) uX Mj Ml;have uJ:wZ V:=GN (t.uIR.tx X G NN) (t.uFH.tx X G NN) (t.uKF.tx X G NN) (t.uJY.tx X G NN) Ol uC L5 Om uE On Oo Op Oq Ot uL 6;have QU:qM V:=GO (t.uJH.txi X G NN) Mm uO;have QV:qN V:=GP (t.uJX.txi X G (by walk_at "b4")) Nq Lw Nk;have Ov:qO V:=GQ (t.uFG.tx X G NN) No;have Ow:jQ V:=GR (t.uKQ.tx X G NN) Ov;have Ox:jR V:=GS (t.uJQ.tx X G OH);have Oy:jS V:=GT (t.uID.tx X G OH) Np;have uI:xa V:=GZ (t.uFL.txm t.uBR OH) (t.uIS.txm t.uCA OH) (t.uHX.txm t.uBN OH) (t.uJW.txm t.uCP OH) (t.uJP.txm t.uDL OH) (t.uJL.txm t.uBP OH) uN Ow uZ uY v5 Ox uU Oy uV uX 6;have Nr:jT V:=G0 (t.uIG.tx X G OH) uB uJ QT uO QU QV uI;have Q0:qP V:=G2 (t.uFY.tx X G (by walk_at "b4")) uA MX;have uAV:qQ V:=G4 (t.uAV.txe t.eb X G RF) QX uAH QY QZ;have Nt:jU V:=G6 (t.uGW.txm t.uQ NN) uG Lx Nq;have Q1:qR V:=G8 (t.uIO.txm t.uQ NN) Nr Q0 uD uK uG Nm Nt uAV;have Q6:qS V:=Ha (t.uGN.tx X G NN) Q1 Q2 Q3 ek;have Rm:qT V:=Hc (t.uJC.tx X G (by walk_at "b5")) Q4 Q5 Q6;have Q9:qU V:=Hf (t.uJO.txm t.uQ OH) uB uT uD Nt Q8;have Rn:qV V:=Hi (t.uHB.tx X G OH) Q9 ek;have Mn:jV V:=Hj (t.uKB.tx X G OH) uM Q_ uE;have Rg:qW V:=Hl (t.uHG.tx X G NN) uB uM x_ uA uF;have O1:qX V:=Hn (t.uJR.tx X G NN) uB uM x_ uA Mn;have O2:qY V:=Hq (t.uFT.tx X G OH);have Rb:qZ V:=Hr (t.uKA.tx X G OH) uA Nl Lw;have Rc:C_round_row V:=Hs (t.uJM.tx X G (by walk_at "b4")) G';have Rf:ra V:=Ht (t.uFJ.tx X G RF) uB;have Nv:jW V:=Hu (t.uFZ.tx X G (by walk_at "b5")) v4 uA Ra MY MV Rb Rc Rf uR Lw;have Rh:rb V:=Hw (t.uHJ.txm t.uQ OH) Nv uD uK uG;have Ri:rg V:=Hy (t.uHK.txm t.uQ OH) Nv uW uK uD uG;have Rj:rh V:=HA (t.uKP.txm t.uQ OH) uB uT;have Ro:rj V:=HC (t.uKL.tx X G (by walk_at "b6")) uM uF Mn Rg O1 O2 Lx uK uW Nn Rh Ri Rj;have Rp:rk V:=HE (t.uIA.txi X G (by walk_at "b4")) Nr uG Lx uK uW uD uT;exact HF F uA uB uM uF Ni Rk D_ Rl LV Rm Rn Ro Rp
def all_mk{l:J5}{w:Va}{K:Ex}{h:Heap}{mg:LB->Option Os}{fa:Pi}(X:K.In h)(G:h.Ns SL mg)(MJ:mg "law"=be (.ref fa))(t:TopIn K):
  ∃fd:Vg,(∀(s:SB) (v:Os),V3 s fd #[[v],[]] [("_law_script",v)])/\∀base:Heap,K.In base->base.Ns SL mg->FnOk l.prog w K mg base (Exc.CX1 l.prog w) 22 fa fd ["_law_script"] (lSp K eV):=by
 obtain⟨fd,b,F⟩:=t.uFS.law X G MJ (λ_ _ _ _ _ _ _=>rfl);exact#[fd,b,λbase _ _=>HG (V:=#[l.prog,w,K,mg,base]) t X G F]
def law_walk{l:J5}{q:U'}{k8:List LB}{XP:(LB->Option Os)->Heap->Prop}{YP:Va->Heap->Prop}{d:DefRec}{K:Params->Ex}(hn:l.most=be 63)(NJ:d.params.defaults=[])
  (hY:∀(w:Va) (h:Heap),YP w h->(K w.params).In h)
  (F:∀(w:Va) (mg:LB->Option Os) (fa:Pi) (h:Heap),(K w.params).In h->h.Ns SL mg->mg d.name=be (.ref fa)->
   ∃fd:Vg,(∀(s:SB) (u:Os),V3 s fd #[[u],[]] [("_law_script",u)])/\∀base:Heap,(K w.params).In base->base.Ns SL mg->FnOk l.prog w (K w.params) mg base (Exc.CX1 l.prog w) 22 fa fd ["_law_script"] (lSp (K w.params) eV)):
  KD q k8 XP YP l.row.toRowW d [] (λf vs=>PySem.call f vs):=
 L2.walk_of (n:=63) (k:=22) (x:="_law_script") (CX:=λw=>Exc.CX1 l.prog w) (sp:=λw=>lSp (K w.params) eV) hn Mx NJ #[rfl,Mx,Mx] hY F (λ_ _ a ns hl _ hS=>Ac hl hS) λ_ _ _ _ _ h=>by obtain⟨_,_,_,_,_,_,_,_,_,_,_,_,_,_,_,z⟩:=h;exact z
end My
open PySem PySem.W PyProof.Rows
set_option maxRecDepth 100000 in
set_option maxHeartbeats 0 in
theorem PySem.Challenge.cw_motiffield_k32_undo_holds : PySem.Challenge.rw_motiffield_k32_undo.Holds := by
  w_on;o_law;k_head;(case hw =>w_witness2)
  k_fill
  refine My.law_walk (l :=PySem.Challenge.rw_motiffield_k32_undo) rfl rfl (λw h Y =>kIn_of Y) ?F
  case F =>
    intro w mg fa h KX G j_;refine My.all_mk KX G j_ ?_;constructor
    all_goals first|((with_reducible refine' My.fnIn_mk ?a ?l ?c ?k);(case a =>k_is);(case l =>k_is);(case c =>k_is);(case k =>k_is))|((with_reducible refine' My.nnIn_mk ?a);(case a =>k_is))|((with_reducible refine' My.noIn_mk ?a ?b);(case a =>k_is);(case b =>k_is))|((with_reducible refine' My.mtIn_mk ?a ?b ?i ?l ?c ?k);(case a =>k_is);(case b =>k_is);(case i =>k_is);(case l =>k_is);(case c =>k_is);(case k =>k_is))|((with_reducible refine' My.mdIn_mk ?a ?b ?i' ?l ?c ?k ?d);(case a =>k_is);(case b =>k_is);(case i' =>k_is);(case l =>k_is);(case c =>k_is);(case k =>k_is);(case d =>k_is))|((with_reducible refine' My.inIn_mk ?a ?mk ?b ?i ?kp ?l ?c ?k);(case a =>k_is);(case mk =>k_is);(case b =>k_is);(case i =>k_is);(case kp =>k_is);(case l =>k_is);(case c =>k_is);(case k =>k_is))|((with_reducible refine' My.clIn_mk ?a ?pg ?hd ?po ?sa ?ha ?hn ?ht ?hm);(case a =>k_is);(case pg =>k_is);(case hd =>k_is);(case po =>k_is);(case sa =>k_is);(case ha =>k_is);(case hn =>k_is);(case ht =>k_is);(case hm =>k_is))|((with_reducible refine' My.ciIn_mk ?a);(case a =>k_is))|((with_reducible refine' My.csIn_mk ?a);(case a =>k_is))|((with_reducible refine' My.ebIn_mk ?a ?kp ?o ?nk ?al ?ni);(case a =>k_is);(case kp =>k_is);(case o =>k_is);(case nk =>k_is);(case al =>rfl);(case ni =>k_is))|((with_reducible refine' My.e0In_mk ?b ?a ?kp ?o ?nk ?al ?ni);(case b =>k_is);(case a =>k_is);(case kp =>k_is);(case o =>k_is);(case nk =>k_is);(case al =>rfl);(case ni =>k_is))|((with_reducible refine' My.e1In_mk ?b ?a ?kp ?o ?j ?i ?l ?c ?k);(case b =>k_is);(case a =>k_is);(case kp =>k_is);(case o =>k_is);(case j =>k_is);(case i =>k_is);(case l =>k_is);(case c =>k_is);(case k =>k_is))|((with_reducible refine' My.eaIn_mk ?a ?b);(case a =>k_is);(case b =>k_is))|((with_reducible refine' My.egIn_mk ?a ?b ?c);(case a =>k_is);(case b =>k_is);(case c =>k_is))|((with_reducible refine' My.eiIn_mk ?a ?b ?c ?d);(case a =>k_is);(case b =>k_is);(case c =>k_is);(case d =>k_is))|((with_reducible refine' My.emIn_mkT ?e ?a ?c ?d);(case e =>decide);(case a =>k_is);(case c =>k_is);(case d =>k_is))|((with_reducible refine' My.emIn_mkF ?e ?a ?c ?d);(case e =>decide);(case a =>k_is);(case c =>k_is);(case d =>k_is))
end
