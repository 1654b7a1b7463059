import PyProof.Rows.All
import Wide.All
import OpenK.AllK
import Wide.FinOn
import Lean
import PyProof.EqAt
import PyProof.EqKinds
import PyProof.TupleCall
import PySem.Challenge.RW_motiffield_k41_whole_brought_back
set_option Elab.async false
set_option linter.all false
set_option maxRecDepth 100000
set_option maxHeartbeats 4000000
open PySem.W renaming Frag->Ex,findIn->EV,mroIn->FY,OpenLaw->GR,clsIn->GW,WalkO->Hk
open Nat renaming le_refl->EL,ne_of_lt->EZ,le_trans->E1,lt_of_lt_of_le->Fi,zero_le->Fj,pow_succ->Fq,pow_le_pow_right->FE,pow_pos->FN,ne_of_gt->FP,le_succ->FR,lt_irrefl->FV,lt_or_ge->F6,le_of_not_lt->Ge,not_lt_zero->Gk,le_of_lt->Go,le_of_eq->Gq,mul_le_mul->Gy,zero_add->GN,le_max_left->G4,le_max_right->G5,pow_add->G6,lt_succ_self->Hd,lt_of_le_of_lt->Hl,lt_trans->Hm,log2_lt->Hq,lt_succ_of_lt->Hu,add_sub_add_right->Hv,succ_ne_self->HA,add_sub_cancel->HJ,mod_eq_of_lt->HU
open List renaming mem_singleton->EM,range->EN,mem_cons->EO,length_cons->EQ,size_toArray->ER,mem_cons_of_mem->ES,mem_cons_self->ET,length_map->EU,length_append->EW,map_cons->EY,getElem?_map->E3,mem_append_right->E4,getElem?_eq_some_iff->E7,lookup_cons->E8,getElem?_set_ne->Fb,getElem?_eq_getElem->Fc,set_cons_succ->Fd,set_cons_zero->Fe,mem_append->Ff,mem_map->Fh,map_append->Fl,getElem_mem->Fs,append_assoc->Fw,append_nil->Fx,getD->Fy,cons_append->Fz,getElem?_set_self->FA,getElem?_append_left->FB,all_cons->FC,getElem?_eq_none->FD,getElem?_range->FF,mem_append_left->FG,nodup_cons->FH,replicate->FI,map_nil->FJ,all_eq_true->FK,not_mem_nil->FO,lookup->FQ,getElem?_append_right->FS,any_cons->FZ,find?_cons->F4,map->F5,range_succ->F7,length_range->Ga,length->Gc,length_drop->Gd,length_nil->Gf,getElem?_set->Gg,length_set->Gh,getElem_toArray->Gi,nodup_append->Gj,drop_eq_getElem_cons->Gn,filterMap_cons->Gp,length_take->Gr,mem_of_getElem?->Gs,ext_getElem?->Gv,map_map->GA,take_length->GE,of_mem_zip->GP,getElem?_replicate->GQ,all_map->GU,map_congr_left->GX,drop->GY,eq_nil_of_length_eq_zero->GZ,drop_eq_nil_of_le->G8,mem_filter->Ha,mem_filterMap->Hc,getElem?_take_of_lt->Hf,filterMap_map->Hg,nodup_nil->Hn,contains_cons->Ho,range_succ_eq_map->Hs,forIn_cons->Ht,take_succ->Hx,take_of_length_le->Hy,dropLast_cons₂->Hz,nil_append->HK,mem_of_mem_drop->HX,drop_length->HZ,mem_iff_getElem?->H4,length_pos_of_mem->H8
open Bool renaming false_ne_true->E2,and_eq_true->Fg,eq_false_iff->Fo,eq_iff_iff->FX,and_true->Gw,or_true->GS,and_false->Hj
open Int renaming mul_pos->E5,mul_le_mul_of_nonneg_right->E6,mul_comm->E9,toNat_of_nonneg->Fk,mul_ediv_cancel->Fp,emod_nonneg->Ft,emod_lt_of_pos->Fu,emod_def->Fv,mul_nonpos_of_nonpos_of_nonneg->FL,mul_neg->FM,natAbs_mul->FT,neg_mul->FU,eq_of_mul_eq_mul_right->F8,emod_add_mul_ediv->F9,lt_trichotomy->Gb,mul_eq_zero->Gm,mul_emod_left->Gx,mul_le_mul_of_nonneg_left->Gz,dvd_mul_of_dvd_right->GB,zero_mul->GC,sub_zero->GD,sub_mul->GF,add_mul->GH,add_zero->GI,mul_zero->GJ,mul_neg_of_neg_of_pos->GK,neg_add->GL,add_comm->GM,le_trans->GO,mul_nonneg->G0,fmod_eq_zero_of_dvd->G1,eq_of_mul_eq_mul_left->G2,dvd_add->G3,zero_add->G7,natAbs_eq_zero->Hr,le_total->HB,fmod_nonneg_of_pos->HC,fmod_lt_of_pos->HD,dvd_mul_of_dvd_left->HE,mul_fdiv_cancel_of_fmod_eq_zero->HF,dvd_antisymm->HG,sub_self->HH,mul_le_mul->HI,add_mul_emod_self_right->HM,dvd_add_left->HN,dvd_mul_right->HP,add_assoc->HQ,sub_eq_add_neg->HR,natCast_add->HS,neg_neg->HV,one_mul->HW,toNat_natCast->HY
open Array renaming length_toList->FW,getElem?_eq_some_iff->Gu,append_assoc->G9,toList->Hb,all_toList->Hw,toList_inj->HL
open Option renaming bind_some->GT,map_some->GV,getD_none->Hi
open PySem.W (InitBack any_some callWith_K callWith_K0 cellsFrom_some cls_value codeIn codeRec_of emptyDict eq_bytes findCls findObj_own fnOf get_value handedIn hasDictIn hideAll hideAll_get hideAll_none hideAll_size instObj isFn isNs_of_in kIn_of keepIn kia_one kitOne kitx_bool kitx_dict kitx_float kitx_int kitx_list kitx_none kitx_own kitx_str kitx_tuple kun_itemsOf len_bytes lookIn make_core makesIn makes_of methodCall_KW methodObj method_cls method_fn mg_none_of mg_of ne_bytes nsIn nsMap_none_of_in nsOkIn of_hideAll osa_open plainGet plainGet_of plainOver readsIn specialIn tailIn tail_of_in takerIn takesIn truthy_bytes)
namespace PySem.W.Fast
def tw2631529314138256260:=()
def tw5437681865004519976:=()
def tw6338677485359609895:=()
def tw10068963869696130764:=()
def tw7373258864409450000:=()
def tw2383418053008849336:=()
def tw17399060363492197101:=()
def tw2170776972053575792:=()
def tw13881044808942078721:=()
def tw14562923508168991639:=()
def tw6488480476695219364:=()
def tw10096506457791265523:=()
def tw3563935724941475092:=()
def tw4253741066437749809:=()
def tw14378138474747010185:=()
def tw5620298715319023442:=()
def tw1889747119394043026:=()
def tw15468295361458506950:=()
def tw14100411635788509214:=()
def tw13337941261097578362:=()
def tw7010516774608800447:=()
def tw12764509853440524923:=()
def tw10407788806355350829:=()
def tw822974076116734138:=()
def tw630058773300373046:=()
def tw4065999390040379376:=()
def tw7464674445940303695:=()
def tw7622204788656833499:=()
def tw3935649971030067543:=()
def tw8108505114910816212:=()
def tw4746192097379729192:=()
def tw16490583569532527852:=()
def tw592431498504663862:=()
def tw259358311727165937:=()
def tw16161529012575281702:=()
def tw4101835782898854550:=()
def tw5673771573052822651:=()
def tw11933412016315871867:=()
def tw5781485938546738522:=()
def tw4373827283700190896:=()
def tw11465598313576605921:=()
def tw761268309121877218:=()
def tw10745683745949237377:=()
def tw939796793152759394:=()
def tw13595165426894083082:=()
def tw9094856411265800038:=()
def tw7299215264737383192:=()
def tw9686705533130154860:=()
def tw5121852153359345255:=()
def tw8460751877243455815:=()
def tw15916020310845487423:=()
def tw18205060736973736926:=()
def tw13307948071763222984:=()
def tw422885941817374107:=()
def tw12142874563038715168:=()
def tw9758842104871125881:=()
def tw2979200268678958759:=()
def tw5266998632398684446:=()
def tw9261483359678909610:=()
def tw17848131853623521058:=()
def tw9971018400731463363:=()
def tw14700424335122372236:=()
def tw4647001650692020327:=()
def tw10280177300594067024:=()
def tw12083832833596732778:=()
def tw12705998136287457540:=()
def tw13420411647460690103:=()
def tw1757181410489128800:=()
def tw13491640534901990425:=()
def tw11085529550063911974:=()
def tw5947969176129092683:=()
def tw16476013296538392575:=()
def tw4622820181190027864:=()
def tw12745705416966451247:=()
def tw17468585332748399539:=()
def tw6452044634900747561:=()
def tw100388618209559462:=()
def tw7038905768617738843:=()
def tw9998848711028785129:=()
def tw12218060187433751121:=()
def tw1858694958096109987:=()
def tw7907156631038626836:=()
def tw3199229527710243886:=()
def tw12640078164598420238:=()
def tw9977016169032942049:=()
def tw13808125908453815589:=()
def tw9560705742704105139:=()
def tw10324442955588717002:=()
def tw3010125691223699886:=()
def tw14461706702273853777:=()
def tw1950040588410618694:=()
def tw7414096346562911181:=()
def tw10153068974639206917:=()
def tw6715706747262110932:=()
def tw9873932188829994775:=()
def tw5884394974336975663:=()
def tw1520228026532210196:=()
def tw10042328796843488049:=()
def tw12857536968000128353:=()
def tw2737521046903863282:=()
def tw3073420220956274214:=()
def tw1013341147796566790:=()
def tw14811785688410881465:=()
def tw12937397308865665452:=()
def tw8535419355896102346:=()
def tw8982892549166284830:=()
def tw11327222790524801771:=()
def tw16741093339290594353:=()
def tw9002280498453494860:=()
def tw8344741454948273257:=()
def tw2042584147425403413:=()
def tw5363223002252050520:=()
def tw14593934850664831846:=()
def tw5247779801116766863:=()
def tw10408736748749573449:=()
def tw10745883147457730259:=()
def tw11580581370754357593:=()
def tw5509418851239817496:=()
def tw12692494952352734870:=()
def tw2392608352702869888:=()
def tw5341865626331011087:=()
def tw13464567660735254304:=()
def tw3453471013513741483:=()
def tw15470251707441197899:=()
def tw17182695667421345779:=()
def tw1016792866378728260:=()
def tw3522322720450359747:=()
def tw12048376618944181100:=()
def tw9500311497538077926:=()
def tw11979535574199321806:=()
def tw10992136367381870550:=()
def tw595893912100131617:=()
def tw14325008621362885597:=()
def tw1591352351400790741:=()
def tw18116501210268779235:=()
def tw1798068835974030056:=()
def tw6054494573698180823:=()
def tw17823883389346666115:=()
def tw6878300695990524569:=()
def tw13308836448937071060:=()
def tw6533449040237059636:=()
def tw17657890026699663960:=()
def tw2703192949686287415:=()
def tw7864272350361044499:=()
def tw4959179206781458858:=()
def tw1999969012052867390:=()
def tw17434251837957532475:=()
def tw8732526035909005852:=()
def tw12138071055704151622:=()
def tw9961925696641492398:=()
def tw2709616883680341691:=()
def tw9351358294759467675:=()
def tw15046806773236773650:=()
def tw10613584709683649213:=()
def tw11419134556931030773:=()
def tw10870680695707020023:=()
def tw15782675213254687154:=()
def tw8043249631771645397:=()
def tw2185114295077297660:=()
def tw4386362481129768697:=()
def tw16132083259917905407:=()
def tw16980484660608432661:=()
def tw9735552032273418385:=()
def tw695492692344942168:=()
def tw18085238065018681808:=()
def tw10060328575847581116:=()
def tw7141552874812344426:=()
def tw14303691070599229289:=()
def tw10202657152525889975:=()
def tw18080993021703363942:=()
def tw15337658614823904843:=()
def tw2182040875947412974:=()
def tw4605591854285231940:=()
def tw2047611393705973858:=()
def tw16151048623530213166:=()
def tw13352772998902312083:=()
def tw139096020811567779:=()
def tw9196295089671026091:=()
def tw2600383470702577790:=()
def tw11516962050438838722:=()
def tw2606133492952129671:=()
def tw12719862838843532299:=()
def tw8889306437625240703:=()
def tw9674671288181611415:=()
def tw8139922353457037446:=()
def tw7317228678777292495:=()
def tw6644224634192971279:=()
def tw9033784495389834849:=()
def tw7446745506934699207:=()
def tw5936211991639721184:=()
def tw8356960544132329005:=()
def tw11115298081914499919:=()
def tw9467853917907215338:=()
def tw4800180001923569541:=()
def tw10217078225280920678:=()
def tw2580908130133101874:=()
def tw13344888662859888040:=()
def tw17202359544568612827:=()
def tw4335403198937512716:=()
def tw15881520798094794463:=()
def tw1205248682979529982:=()
def tw8570010741557020630:=()
def tw10935436867148307147:=()
def tw16421281269798428109:=()
def tw3520249888971659571:=()
def tw4192112806255636633:=()
def tw10661211354760738027:=()
def tw6236304376479400947:=()
def tw4907814869787427022:=()
def tw10534524032277367183:=()
def tw11841743250513904241:=()
def tw13972593929359697889:=()
def tw4635840009486905512:=()
def tw16374080981946184194:=()
def tw2687243686299821072:=()
def tw9222546488194838517:=()
def tw4566664910431975325:=()
def tw3046570184595801007:=()
def tw5320283143856501234:=()
def tw6136420467341757664:=()
def tw14298238193131236940:=()
def tw2053684207355031444:=()
def tw385281021624782539:=()
def tw12046847053971550861:=()
def tw7800636833471223900:=()
def tw8563942400382098952:=()
def tw11781356046219302329:=()
def tw5496982811473377531:=()
def tw8040523289420604569:=()
def tw6458370332589998870:=()
def tw5147840384662634928:=()
def tw8367081859032360283:=()
def tw10643172053867631152:=()
def tw11485472591675145914:=()
def tw5961606232790122778:=()
def tw678731991655914415:=()
def tw11589359338671196673:=()
def tw15774514589457882987:=()
def tw9132284082909970309:=()
def tw949137256945102559:=()
def tw2896446643757835345:=()
def tw14307747636151782426:=()
def tw3913869022008643633:=()
end PySem.W.Fast
section
namespace L2
open PySem PySem.Spec PyProof.Rows
abbrev Key:=Sum Int Str
def dU:Key->Value->Bool
 | .inl k,v=>Value.isInt k v
 | .inr x,v=>Value.isStrOf x v
def keyH(w:World):Key->Int
 | .inl k=>hashInt k
 | .inr x=>hashStr w x
theorem keyIs_shape:∀ {k:Key} {v:Value},dU k v=true->(∃ i t,k=Sum.inl i/\v=Value.int i t)\/(∃ x t,k=Sum.inr x/\v=Value.str x t)
 | .inl i,v,h=>by
  obtain⟨t,e⟩:=Value.isInt_shape (k:=i) (v:=v) h
  exact .inl ⟨i,t,rfl,e⟩
 | .inr x,v,h=>by
  obtain⟨t,e⟩:=Value.isStrOf_shape (x:=x) (v:=v) h
  exact .inr ⟨x,t,rfl,e⟩
theorem uj(i:Int)(t:Tok):dU (.inl i) (.int i t)=true:=by simp[dU,Value.isInt]
theorem uk(x:Str)(t:Tok):dU (.inr x) (.str x t)=true:=by simp[dU,Value.isStrOf]
theorem ul(a b:Int):decide ((Sum.inl a:Key)=Sum.inl b)=(a==b):=by
 by_cases e:a=b
 ·subst e;simp
 ·have h:¬ (Sum.inl a:Key)=Sum.inl b:=λq=>e (Sum.inl.inj q)
  rw[decide_eq_false h]
  exact(beq_eq_false_iff_ne.mpr e).symm
theorem um(a b:Str):decide ((Sum.inr a:Key)=Sum.inr b)=decide (a=b):=by
 by_cases e:a=b
 ·subst e;simp
 ·have h:¬ (Sum.inr a:Key)=Sum.inr b:=λq=>e (Sum.inr.inj q)
  rw[decide_eq_false h,decide_eq_false e]
theorem uo(a:Int)(b:Str):decide ((Sum.inl a:Key)=Sum.inr b)=false:=decide_eq_false (λq=>nomatch q)
theorem uq(a:Str)(b:Int):decide ((Sum.inr a:Key)=Sum.inl b)=false:=decide_eq_false (λq=>nomatch q)
def bF(prog:Program)(w:World):PySem.KeyKind prog w Key where
 is:=dU
 hash:=keyH w
 inj:=λv a b ha hb=>by
  rcases keyIs_shape ha with⟨i,t,rfl,rfl⟩|⟨x,t,rfl,rfl⟩
  ·rcases keyIs_shape hb with⟨j,u,rfl,e⟩|⟨y,u,rfl,e⟩
   ·injection e with e1 _;rw[e1]
   ·exact nomatch e
  ·rcases keyIs_shape hb with⟨j,u,rfl,e⟩|⟨y,u,rfl,e⟩
   ·exact nomatch e
   ·injection e with e1 _;rw[e1]
 byValue:=λk v h=>by
  rcases keyIs_shape h with⟨i,t,rfl,rfl⟩|⟨x,t,rfl,rfl⟩<;>rfl
 pyHash:=λhv h=>by
  rcases keyIs_shape hv with⟨i,t,rfl,rfl⟩|⟨x,t,rfl,rfl⟩
  ·exact wpAny_pyHash_int h
  ·exact wpAny_pyHash_str h
 eqBool:=λhu hv h=>by
  rcases keyIs_shape hu with⟨i,t,rfl,rfl⟩|⟨x,t,rfl,rfl⟩
  ·rcases keyIs_shape hv with⟨j,u,rfl,rfl⟩|⟨y,u,rfl,rfl⟩
   ·rw[ul] at h;exact wpAny_eqBool_int h
   ·rw[uo] at h;exact SeqAt.EqAt.int_str i t y u _ _ _ _ h
  ·rcases keyIs_shape hv with⟨j,u,rfl,rfl⟩|⟨y,u,rfl,rfl⟩
   ·rw[uq] at h;exact SeqAt.EqAt.str_int x t j u _ _ _ _ h
   ·rw[um] at h;exact wpAny_eqBool_str h
 «strs»:=λk x t v h=>by
  rcases keyIs_shape h with⟨i,u,rfl,e⟩|⟨y,u,rfl,e⟩
  ·exact nomatch e
  ·injection e with e1 _
   subst e1
   cases v<;>rfl
theorem mixKind_int(prog:Program)(w:World)(i:Int)(t:Tok):(bF prog w).is (.inl i) (.int i t)=true:=uj i t
theorem ut(prog:Program)(w:World)(x:Str)(t:Tok):(bF prog w).is (.inr x) (.str x t)=true:=uk x t
inductive V where
 |non|bl (b:Bool)|int (i:Int)|str (x:Str)|byt (b:Array UInt8)|flt (b:UInt64)|ref (a:Addr)|ty (n:String)
 deriving DecidableEq
def RelV:V->Value->Prop
 | .non,u=>u=Value.none
 | .bl b,u=>u=Value.bool b
 | .int i,u=>∃ t,u=Value.int i t
 | .str x,u=>∃ t,u=Value.str x t
 | .byt b,u=>∃ t,u=Value.bytes b t
 | .flt b,u=>∃ t,u=Value.float b t
 | .ref a,u=>u=Value.ref a
 | .ty n,u=>u=Value.type n
abbrev Vals:List V->List Value->Prop:=Paired RelV
theorem Vals.length{xs:List V}{us:List Value}(r:Vals xs us):xs.length=us.length:=Paired.length r
theorem Vals.get:∀ {xs:List V} {us:List Value} {i:Nat} {x:V},Vals xs us->xs[i]?=some x->∃ u,us[i]?=some u/\RelV x u
 |_,_,_,_,.nil,e=>by simp at e
 |_,_,0,_,.cons r _,e=>by simp at e;subst e;exact⟨_,rfl,r⟩
 |_,_,i+1,x,.cons _ t,e=>by
  obtain⟨u,h1,h2⟩:=Vals.get (i:=i) (x:=x) t (by simpa using e)
  exact⟨u,by simpa using h1,h2⟩
theorem Vals.set{x:V}{u:Value}(r:RelV x u):∀ {xs:List V} {us:List Value} (i:Nat),Vals xs us->Vals (xs.set i x) (us.set i u)
 |_,_,_,.nil=> .nil
 |_,_,0,.cons _ t=> .cons r t
 |_,_,i+1,.cons q t=> .cons q (Vals.set r i t)
theorem Vals.append:∀ {xs ys:List V} {us ws:List Value},Vals xs us->Vals ys ws->Vals (xs++ys) (us++ws)
 |_,_,_,_,.nil,s=>s
 |_,_,_,_,.cons r t,s=> .cons r (Vals.append t s)
theorem Vals.take:∀ {xs:List V} {us:List Value} (n:Nat),Vals xs us->Vals (xs.take n) (us.take n)
 |_,_,0,_=> .nil
 |_,_,_+1,.nil=> .nil
 |_,_,n+1,.cons r t=> .cons r (Vals.take n t)
theorem Vals.drop:∀ {xs:List V} {us:List Value} (n:Nat),Vals xs us->Vals (xs.drop n) (us.drop n)
 |_,_,0,r=>r
 |_,_,_+1,.nil=> .nil
 |_,_,n+1,.cons _ t=>Vals.drop n t
def RelO:Option V->Option Value->Prop
 |some v,some u=>RelV v u
 |none,none=>True
 |_,_=>False
def KV{κ:Type}:List (κ × V)->List (κ × Value)->Prop:=Paired λ(p:κ × V) (q:κ × Value)=>p.1=q.1/\RelV p.2 q.2
def kV:Key->V
 | .inl i=> .int i
 | .inr x=> .str x
inductive HO where
  |lst (xs:List V)
  |tup (xs:List V)
  |dK (a8:List (Key × V))|dT (a8:List (List Key × V))
  |set (S:Int->Bool) (n:Nat)
  |ins (C dx:Addr) (fs:List (Str × V))
  |own (x:Addr)
  |xd (fs:List (Str × V))
  |met (f x:Addr)
  |rng (lo hi:Int)
  |frz (o:Obj) (u:HO)
  |tbl (ps:Array Value)
  |ext (φ:Heap->Prop)
abbrev Hp:=Addr->Option HO
def upd(H:Hp)(a:Addr)(o:HO):Hp:=λb=>if b=a then some o else H b
theorem aA{H:Hp}{a:Addr}{o:HO}:upd H a o a=some o:=by unfold upd;rw[if_pos rfl]
theorem aq{H:Hp}{a b:Addr}{o:HO}(h:b≠a):upd H a o b=H b:=by unfold upd;rw[if_neg h]
theorem uu{H:Hp}{a b:Addr}{o u:HO}(h:H a=some o)(h':H b=some u)(d:o≠u):a≠b:=by
 intro e;subst e;rw[h] at h';exact d (Option.some.inj h')
theorem bR{H:Hp}{a b:Addr}{o:HO}(h:H a=some o)(h':H b=none):a≠b:=by
 intro e;subst e;rw[h] at h';cases h'
section
variable (P:Program)(w:World)
def ObjOk(H:Hp)(h:Heap)(a:Addr):HO->Prop
 | .lst xs=>xs.length<=sizeLine/\∃ (its:List Value) (n:Nat),Vals xs its/\h.get? a=some {cls:= .type "list",data:= .seq its.toArray n}
 | .tup xs=>xs.length<=sizeLine/\∃ its:List Value,Vals xs its/\IsTup h a its.toArray
 | .dK a8=>a8.length<=sizeLine/\(a==sysModules)=false/\∃ vs,KV a8 vs/\h.DictOf (bF P w) a vs
 | .dT a8=>a8.length<=sizeLine/\(a==sysModules)=false/\∃ xs:List (List Key × Addr × Value),
   Paired (λ(p:List Key × V) (q:List Key × Addr × Value)=>p.1=q.1/\H q.2.1=some (.tup (p.1.map kV))/\RelV p.2 q.2.2) a8 xs/\
   ∃ o es ep,h.get? a=some o/\o.ExactDict/\o.data= .dict es ep/\es.toList=xs.map (entryOfKey (tupleKind (bF P w)))/\(xs.map (·.1)).Nodup
 | .set S n=>h.SetOf (intKind P w) a S n
 | .ins C dx fs=>H dx=some (.own a)/\fs.length<=1000/\dx≠a/\h.get? a=some (instObj C dx)/\
   ∃ mA,h.Ns1 dx mA/\(∀ f,RelO (fs.lookup f) (mA f))/\PySem.Within mA (fs.map (·.1))
 | .own _=>∃ o,h.get? a=some o
 | .xd fs=>∃ mA,h.Ns1 a mA/\∀ f,RelO (fs.lookup f) (mA f)
 | .rng lo hi=>∃ t u v,h.get? a=some {cls:= .type "range",data:= .fields #[.int lo t,.int hi u,.int 1 v]}
 | .frz o u=>h.get? a=some o/\ObjOk H h a u
 | .tbl ps=>h.get? a=some {cls:= .none,data:= .fields ps}
 | .met f x=>h.get? a=some (methodObj (.ref f) (.ref x))
 | .ext φ=>φ h/\(∃ o,h.get? a=some o)/\∀ h1 h2:Heap,φ h1->(∀ o,h1.get? a=some o->h2.get? a=some o)->φ h2
def HOk(H:Hp)(h:Heap):Prop:=∀ a o,H a=some o->ObjOk P w H h a o
end
section
variable {P:Program}{w:World}{H H':Hp}{h h':Heap}{a:Addr}{o:HO}
theorem ObjOk.lt(x:ObjOk P w H h a o):a<h.objs.size:=by
 cases o with
 |lst xs=>obtain⟨_,_,_,_,e⟩:=x;exact Heap.lt_size e
 |tup xs=>obtain⟨_,_,_,p⟩:=x;exact p.lt
 |dK a8=>obtain⟨_,_,_,_,o,_,_,e,_⟩:=x;exact Heap.lt_size e
 |dT a8=>obtain⟨_,_,_,_,o,_,_,e,_⟩:=x;exact Heap.lt_size e
 |set S n=>obtain⟨o,_,_,_,e,_⟩:=x;exact Heap.lt_size e
 |ins C dx fs=>obtain⟨_,_,_,e,_⟩:=x;exact Heap.lt_size e
 |own y=>obtain⟨_,e⟩:=x;exact Heap.lt_size e
 |xd fs=>obtain⟨_,⟨_,_,_,e,_⟩,_⟩:=x;exact Heap.lt_size e
 |rng lo hi=>obtain⟨_,_,_,e⟩:=x;exact Heap.lt_size e
 |frz ob u=>obtain⟨e,_⟩:=x;exact Heap.lt_size e
 |tbl ps=>exact Heap.lt_size (show h.get? a=some _ from x)
 |met f y=>exact Heap.lt_size (show h.get? a=some _ from x)
 |ext φ=>obtain⟨_,⟨_,e⟩,_⟩:=x;exact Heap.lt_size e
theorem Paired.mapP{α β:Type}{F G:α->β->Prop}:∀ {l₁:List α} {l₂:List β},Paired F l₁ l₂->(∀ a b,F a b->G a b)->Paired G l₁ l₂
 |_,_,.nil,_=> .nil
 |_,_,.cons r t,f=> .cons (f _ _ r) (Paired.mapP t f)
theorem ObjOk.stay(x:ObjOk P w H h a o)(k:∀ b u,(b=a\/H b=some (.own a))->h.get? b=some u->h'.get? b=some u)
  (ho:∀ b,H b=some (.own a)->H' b=some (.own a)) (ht:∀ b xs,H b=some (.tup xs)->H' b=some (.tup xs)):ObjOk P w H' h' a o:=by
 induction o with
 |lst xs=>obtain⟨z,its,n,r,e⟩:=x;exact⟨z,its,n,r,k _ _ (.inl rfl) e⟩
 |tup xs=>obtain⟨z,its,r,ob,e,c⟩:=x;exact⟨z,its,r,ob,k _ _ (.inl rfl) e,c⟩
 |dK a8=>obtain⟨z,y,vs,r,ob,es,ep,e,c⟩:=x;exact⟨z,y,vs,r,ob,es,ep,k _ _ (.inl rfl) e,c⟩
 |dT a8=>
  obtain⟨z,y,xs,r,ob,es,ep,e,c⟩:=x
  exact⟨z,y,xs,Paired.mapP r λp q z=>⟨z.1,ht _ _ z.2.1,z.2.2⟩,ob,es,ep,k _ _ (.inl rfl) e,c⟩
 |set S n=>obtain⟨ob,es,ep,t,e,c⟩:=x;exact⟨ob,es,ep,t,k _ _ (.inl rfl) e,c⟩
 |ins C dx fs=>
  obtain⟨d,z,ne,e,mA,⟨od,es,ep,e2,c⟩,r⟩:=x
  exact⟨ho _ d,z,ne,k _ _ (.inl rfl) e,mA,⟨od,es,ep,k _ _ (.inr d) e2,c⟩,r⟩
 |own y=>obtain⟨ob,e⟩:=x;exact⟨ob,k _ _ (.inl rfl) e⟩
 |xd fs=>obtain⟨mA,⟨od,es,ep,e,c⟩,r⟩:=x;exact⟨mA,⟨od,es,ep,k _ _ (.inl rfl) e,c⟩,r⟩
 |rng lo hi=>obtain⟨t,u,v,e⟩:=x;exact⟨t,u,v,k _ _ (.inl rfl) e⟩
 |frz ob u ih=>obtain⟨e,q⟩:=x;exact⟨k _ _ (.inl rfl) e,ih q⟩
 |tbl ps=>
  have e:h.get? a=some {cls:= .none,data:= .fields ps}:=x
  show h'.get? a=some {cls:= .none,data:= .fields ps}
  exact k a _ (.inl rfl) e
 |met f y=>
  have e:h.get? a=some (methodObj (.ref f) (.ref y)):=x
  show h'.get? a=some (methodObj (.ref f) (.ref y))
  exact k a _ (.inl rfl) e
 |ext φ=>obtain⟨p,⟨o,e⟩,st⟩:=x;exact⟨st _ _ p λo q=>k _ _ (.inl rfl) q,⟨o,k _ _ (.inl rfl) e⟩,st⟩
theorem HOk.lt(x:HOk P w H h)(e:H a=some o):a<h.objs.size:=(x a o e).lt
theorem HOk.fresh(x:HOk P w H h)(e:h.objs.size<=a):H a=none:=by
 cases q:H a with
 |none=>rfl
 |some u=>exact absurd (Fi (x.lt q) e) (FV _)
theorem HOk.kept(x:HOk P w H h)(k:∀ b u,h.get? b=some u->h'.get? b=some u):HOk P w H h':=λa o e=>
 (x a o e).stay (λb u _ q=>k b u q) (λ_ q=>q) λ_ _ q=>q
theorem HOk.laid(x:HOk P w H h)(k:∀ b u,h.get? b=some u->h'.get? b=some u)(hp:h.objs.size<=a)(new:ObjOk P w (upd H a o) h' a o):HOk P w (upd H a o) h':=λb u e=>by
 have hn:=x.fresh hp
 by_cases hb:b=a
 ·subst hb;rw[aA] at e;cases e;exact new
 ·rw[aq hb] at e
  exact(x b u e).stay (λc v _ q=>k c v q) (λc q=>by rw[aq (bR q hn)];exact q) λc xs q=>by rw[aq (bR q hn)];exact q
end
def Rd(H:Hp)(a:Addr)(u:HO):Prop:=H a=some u\/∃ o,H a=some (.frz o u)
theorem Rd.of{H:Hp}{a:Addr}{u:HO}(h:H a=some u):Rd H a u:= .inl h
theorem Rd.ok{P:Program}{w:World}{H:Hp}{h:Heap}{a:Addr}{u:HO}(r:Rd H a u)(x:HOk P w H h):ObjOk P w H h a u:=by
 rcases r with r|⟨o,r⟩
 ·exact x a u r
 ·obtain⟨_,q⟩:=x a _ r
  exact q
def Mut:Option HO->Prop
 |some (.lst _)=>True
 |some (.dK _)=>True
 |some (.dT _)=>True
 |some (.set _ _)=>True
 |some (.ins _ _ _)=>True
 |some (.ext _)=>True
 |_=>False
section
variable {P:Program}{w:World}{H:Hp}{h h':Heap}{x e:Addr}{o':HO}
theorem HOk.write(ok:HOk P w H h)(mu:Mut (H x))(he:e=x\/H e=some (.own x))(k:∀ b u,b≠e->h.get? b=some u->h'.get? b=some u)(v_:∃ u,h'.get? e=some u)
  (new:ObjOk P w (upd H x o') h' x o'):HOk P w (upd H x o') h':=λb u q=>by
 have JA:∀ c y,H c=some (.own y)->c≠x:=λc y r z=>by subst z;rw[r] at mu;exact mu
 have Lb:∀ c xs,H c=some (.tup xs)->c≠x:=λc xs r z=>by subst z;rw[r] at mu;exact mu
 by_cases hb:b=x
 ·subst hb;rw[aA] at q;cases q;exact new
 ·rw[aq hb] at q
  by_cases Iv:b=e
  ·have q':H b=some (.own x):=by
    rcases he with z|z
    ·exact absurd (Iv.trans z) hb
    ·rw[Iv];exact z
   rw[q] at q';cases q'
   obtain⟨v,hv⟩:=v_
   exact⟨v,by rw[Iv];exact hv⟩
  ·refine(ok b u q).stay (λc v hc r=>k c v ?_ r) (λc r=>by rw[aq (JA c b r)];exact r) λc xs r=>by rw[aq (Lb c xs r)];exact r
   rcases hc with rfl|hc
   ·exact Iv
   ·rintro rfl
    rcases he with z|z
    ·exact JA c b hc z
    ·rw[hc] at z;cases z;exact hb rfl
end
structure Un(fs ex:List Addr)(H H':Hp)(h h':Heap):Prop where
 keep:∀ b o,h.get? b=some o->H b=none->b ∉ fs->b ∉ ex->h'.get? b=some o
 slot:∀ b o,h.get? b=some o->H b=none->b∈fs->b ∉ ex->∃ sl,h'.get? b=some {o with slots:=sl}
 free:∀ b o,h.get? b=some o->H b=none->b ∉ ex->H' b=none
 there:∀ b o,h.get? b=some o->b ∉ ex->∃ o',h'.get? b=some o'
 tups:∀ b xs,H b=some (.tup xs)->H' b=some (.tup xs)
 frzs:∀ b o u,H b=some (.frz o u)->H' b=some (.frz o u)
 tbls:∀ b ps,H b=some (.tbl ps)->∃ more,H' b=some (.tbl (ps++more))
section
variable {fs o_ ex JB:List Addr}{H H1 H2:Hp}{h h1 h2 h':Heap}{a x e:Addr}{o:HO}
theorem Un.any(u:Un fs ex H H1 h h1){b:Addr}{ob:Obj}(q:h.get? b=some ob)(n:H b=none)(hx:b ∉ ex):∃ sl,h1.get? b=some {ob with slots:=sl}:=by
 by_cases hb:b∈fs
 ·exact u.slot b ob q n hb hx
 ·exact⟨ob.slots,u.keep b ob q n hb hx⟩
theorem Un.trans(a:Un fs ex H H1 h h1)(b:Un fs ex H1 H2 h1 h2):Un fs ex H H2 h h2 where
 keep:=λc ob q n hc hx=>b.keep c ob (a.keep c ob q n hc hx) (a.free c ob q n hx) hc hx
 slot:=λc ob q n hc hx=>by
  obtain⟨sl,e1⟩:=a.slot c ob q n hc hx
  obtain⟨t9,e2⟩:=b.slot c _ e1 (a.free c ob q n hx) hc hx
  exact⟨t9,e2⟩
 free:=λc ob q n hx=>by
  obtain⟨o',e1⟩:=a.there c ob q hx
  exact b.free c o' e1 (a.free c ob q n hx) hx
 there:=λc ob q hx=>by
  obtain⟨o',e1⟩:=a.there c ob q hx
  exact b.there c o' e1 hx
 tups:=λc xs q=>b.tups c xs (a.tups c xs q)
 frzs:=λc ob xs q=>b.frzs c ob xs (a.frzs c ob xs q)
 tbls:=λc ps q=>by
  obtain⟨m1,e1⟩:=a.tbls c ps q
  obtain⟨m2,e2⟩:=b.tbls c _ e1
  exact⟨m1++m2,by rw[e2,G9]⟩
theorem Un.kept(k:∀ b u,h.get? b=some u->h'.get? b=some u):Un fs ex H H h h':=
 ⟨λb ob q _ _ _=>k b ob q,λb ob q _ _ _=>⟨ob.slots,k b ob q⟩,λ_ _ _ n _=>n,λb ob q _=>⟨ob,k b ob q⟩,λ_ _ q=>q,λ_ _ _ q=>q,λ_ ps q=>⟨#[],by rw[q];simp⟩⟩
theorem Un.refl:Un fs ex H H h h:=Un.kept λ_ _ q=>q
theorem Un.laid(k:∀ b u,h.get? b=some u->h'.get? b=some u)(hp:h.objs.size<=a)(hn:H a=none):Un fs ex H (upd H a o) h h' where
 keep:=λb u q _ _ _=>k b u q
 slot:=λb u q _ _ _=>⟨u.slots,k b u q⟩
 free:=λb u q n _=>by rw[aq (EZ (Fi (Heap.lt_size q) hp))];exact n
 there:=λb u q _=>⟨u,k b u q⟩
 tups:=λb xs q=>by rw[aq (bR q hn)];exact q
 frzs:=λb u xs q=>by rw[aq (bR q hn)];exact q
 tbls:=λb ps q=>⟨#[],by rw[aq (bR q hn),q];simp⟩
theorem Un.write(mu:Mut (H x))(he:e=x\/H e=some (.own x))(k:∀ b u,b≠e->h.get? b=some u->h'.get? b=some u)(v_:∃ u,h'.get? e=some u):Un fs ex H (upd H x o) h h':=by
 have hx:∀ b,H b=none->b≠x:=λb n z=>by subst z;rw[n] at mu;exact mu
 have hb:∀ b,H b=none->b≠e:=λb n z=>by
  subst z
  rcases he with r|r
  ·exact hx b n r
  ·rw[n] at r;cases r
 have hm:∀ b u,H b=some u->¬ Mut (some u)->b≠x:=λb u q nm z=>by subst z;rw[q] at mu;exact nm mu
 refine⟨λb u q n _ _=>k b u (hb b n) q,λb u q n _ _=>⟨u.slots,k b u (hb b n) q⟩,λb u q n _=>by rw[aq (hx b n)];exact n,λb u q _=>?_,
  λb xs q=>by rw[aq (hm b _ q λz=>z)];exact q,λb u xs q=>by rw[aq (hm b _ q λz=>z)];exact q,λb ps q=>⟨#[],by rw[aq (hm b _ q λz=>z),q];simp⟩⟩
 by_cases Iv:b=e
 ·subst Iv;exact v_
 ·exact⟨u,k b u Iv q⟩
end
def trk(h:Heap)(H:Hp):List Addr:=(EN h.objs.size).filter λa=>(H a).isSome
def hidT(h:Heap)(H:Hp):Heap:=hideAll h (trk h H)
theorem uv(h:Heap)(H:Hp):(hidT h H).objs.size=h.objs.size:=hideAll_size _ _
theorem uw{h:Heap}{H:Hp}{b:Addr}{o:Obj}(e:h.get? b=some o)(n:H b=none):(hidT h H).get? b=some o:=
 hideAll_get _ e λhm=>by
  have q:(H b).isSome=true:=(Ha.mp hm).2
  rw[n] at q;simp at q
theorem ux{h:Heap}{H:Hp}{b:Addr}{o:Obj}(e:(hidT h H).get? b=some o):h.get? b=some o/\H b=none:=by
 have e':h.get? b=some o:=of_hideAll (trk h H) e
 refine⟨e',?_⟩
 cases q:H b with
 |none=>rfl
 |some x=>
  have hm:b∈trk h H:=Ha.mpr ⟨List.mem_range.mpr (Heap.lt_size e'),by simp[q]⟩
  have z:(hidT h H).get? b=none:=hideAll_none (trk h H) hm
  rw[z] at e;cases e
def allNews(g h:Heap)(L:Addr):List (Addr × Obj):=(EN h.objs.size).filterMap λa=>if a=L\/(g.get? a).isSome=true then none else(h.get? a).map λo=>(a,o)
def rest(g h:Heap)(L d:Addr):List (Addr × Obj):=(allNews g h L).filter λp=>decide (p.1≠d)
structure Mod(K:Ex)(mg:Str->Option Value)(base:Heap):Prop where
 kin:K.In base
 glob:base.Ns mainGlobals mg
 blt:∃ mb,base.Ns builtinsNs mb/\∀ x:Str,x≠"__name__"->mb x=bootBuiltins x
 nolimit:base.NoLimit
structure Cx where
 prog:Program
 w:World
 K:Ex
 mg:Str->Option Value
 base:Heap
 A:Around
 N:List Str
 s₀:Shared
 H₀:Hp
 env:Env
 outer:List Env
 stack:List Env
 ex:List Addr
 fn:Str->Bool
 calm:Bool
 pn:List (Addr × Obj)
 xe:Value->Shared->Prop
abbrev zSE(X:Cx)(e:Expr)(es:List Expr):Prop:=starEach (e::es) X.env=(false,eval e X.env)::starEach es X.env
abbrev zPL(X:Cx)(p:Pos)(es:List Expr):Prop:=(backTo p (starEach es X.env)).any (·.1)=false
abbrev zHF(X:Cx)(p:Pos)(es:List Expr):Prop:=((backTo p (starEach es X.env)).all (λx=>!x.1) && (backToKw p (keywordEach [] X.env)).all (λx=>x.1.isSome) && decide (es.length+([]:List Keyword).length+(if([]:List Keyword).isEmpty then 0 else 1)<30))=true
abbrev zFN(X:Cx)(x:Str):Prop:=X.fn x=true\/X.env.scope.names.lookup x=some .local
abbrev zND(x:Str):Prop:=(x==("__debug__":Str))=false
abbrev zNC(x:Str):Prop:=(x==("__classdict__":Str))=false
abbrev zFS(X:Cx)(e:Expr)(y:Value):Prop:=foldedSetIterable e X.env y=pure y
def frs(l:List Env):List Addr:=l.filterMap (·.frame)
abbrev Cx.fs(X:Cx):List Addr:=frs X.outer
def Vis(sc:Scope)(x:Str):Prop:=sc.names.lookup x=some .local\/sc.names.lookup x=some .cell\/sc.names.lookup x=some .free
def Loc(sc:Scope)(x:Str):Prop:=sc.names.lookup x=some .local\/sc.names.lookup x=some .cell
def Look(env:Env)(h:Heap)(m:Str->Option Value)(x:Str)(u:Value):Prop:=
 (env.kindOf x=some .local/\m x=some u)\/((env.kindOf x=some .cell\/env.kindOf x=some .free)/\∃ c,env.cells.lookup x=some c/\h.IsCell c (some u))
structure Cx.Ok(X:Cx):Prop where
 mod:Mod X.K X.mg X.base
 kind:X.env.scope.kind= .function
 glob:X.env.globals=mainGlobals
 blt:X.env.builtins=builtinsNs
 above:X.s₀.heap.objs.size<=X.env.locals
 inj:∀ x y c,X.env.cells.lookup x=some c->X.env.cells.lookup y=some c->x=y
 has:∀ x,(X.env.kindOf x=some .cell\/X.env.kindOf x=some .free)->∃ c,X.env.cells.lookup x=some c
 cab:∀ x c,X.fn x=true->X.env.cells.lookup x=some c->X.s₀.heap.objs.size<=c
 hd:X.calm=true->X.A.handled=none
 frames:X.A.frames=some X.stack
 stk:X.stack=X.outer\/(X.stack=X.env::X.outer/\X.env.frame=some X.env.locals)
 exf:∀ b∈X.ex,b≠X.env.locals/\∀ x c,X.env.cells.lookup x=some c->c≠b
 bs:∀ b o,X.base.get? b=some o->X.s₀.heap.get? b=some o/\X.H₀ b=none
 bsz:X.base.objs.size<=X.s₀.heap.objs.size
 noex:∀ b o,X.base.get? b=some o->b ∉ X.ex
 exfs:∀ b∈X.ex,b ∉ X.fs
 funs:X.s₀.heap.FunFrames X.base X.outer
 frf:∀ b∈X.fs,X.H₀ b=none
structure Inv(X:Cx)(pins:List (Addr × Obj))(σ:List (Option V))(H:Hp)(s:Shared):Prop where
 ok:X.Ok
 os:s.os=X.s₀.os
 bare:AllBare s.gens
 base:Un X.fs X.ex X.H₀ H X.s₀.heap s.heap
 loc:∃ m,s.heap.Ns X.env.locals m/\∀ (i:Nat) (x:Str) (v:V),X.N[i]?=some x->σ[i]?=some (some v)->Vis X.env.scope x->∃ u,RelV v u/\Look X.env s.heap m x u
 cell:∀ x c,X.env.cells.lookup x=some c->∃ v,s.heap.IsCell c v
 free:H X.env.locals=none
 freeC:∀ x c,X.env.cells.lookup x=some c->H c=none
 pin:∀ p∈X.pn++pins,s.heap.get? p.1=some p.2/\H p.1=none/\p.1≠X.env.locals/\p.1 ∉ X.fs/\∀ v,p.2.data≠.cell v
 hok:HOk X.prog X.w H s.heap
 len:σ.length=X.N.length
section
variable {X:Cx}{pins:List (Addr × Obj)}{σ:List (Option V)}{H H':Hp}{s:Shared}{h':Heap}
theorem Cx.Ok.nofr(ok:X.Ok){b:Addr}{o:Obj}(e:X.base.get? b=some o):b ∉ X.fs:=λhb=>by
 have:=(ok.funs.mem hb).1
 rw[e] at this;cases this
theorem Inv.bs(I:Inv X pins σ H s):∀ b o,X.base.get? b=some o->s.heap.get? b=some o/\H b=none:=λb o e=>
 ⟨I.base.keep b o (I.ok.bs b o e).1 (I.ok.bs b o e).2 (I.ok.nofr e) (I.ok.noex b o e),I.base.free b o (I.ok.bs b o e).1 (I.ok.bs b o e).2 (I.ok.noex b o e)⟩
theorem Inv.bk(I:Inv X pins σ H s):∀ b o,X.base.get? b=some o->s.heap.get? b=some o:=λb o e=>(I.bs b o e).1
theorem Inv.mod(I:Inv X pins σ H s):Mod X.K X.mg X.base:=I.ok.mod
theorem Inv.kIn(I:Inv X pins σ H s):X.K.In s.heap:=I.ok.mod.kin.keeps I.bk
theorem Inv.nolimit(I:Inv X pins σ H s):s.heap.NoLimit:=I.ok.mod.nolimit.keeps I.bk
theorem Inv.fr(I:Inv X pins σ H s):∃ m,Fr X.base X.env.locals s.heap m:=
 let ⟨m,hn,_⟩:=I.loc
 ⟨m,hn,I.bk,E1 I.ok.bsz I.ok.above⟩
theorem Inv.lt(I:Inv X pins σ H s):X.env.locals<s.heap.objs.size:=let ⟨_,hn,_⟩:=I.loc;hn.lt
theorem Inv.sz(I:Inv X pins σ H s):X.s₀.heap.objs.size<=s.heap.objs.size:=E1 I.ok.above (Go I.lt)
theorem Inv.nofs(I:Inv X pins σ H s){a:Addr}(h:s.heap.objs.size<=a):a ∉ X.fs:=λhb=>by
 obtain⟨_,o,ho,_⟩:=I.ok.funs.mem hb
 exact absurd (Fi (Heap.lt_size ho) (E1 I.sz h)) (FV _)
theorem Inv.cne(I:Inv X pins σ H s):∀ x c,X.env.cells.lookup x=some c->c≠X.env.locals:=λx c e z=>by
 obtain⟨v,o,ho,hd⟩:=I.cell x c e
 obtain⟨m,⟨o',es,ep,Iw,f_,_⟩,_⟩:=I.loc
 rw[z,Iw] at ho;cases ho;rw[f_] at hd;cases hd
theorem Inv.funs(I:Inv X pins σ H s):s.heap.FunFrames X.base X.outer:=by
 have all:∀ (l:List Env),(∀ b∈frs l,b∈X.fs)->X.s₀.heap.FunFrames X.base l->s.heap.FunFrames X.base l:=by
  intro l
  induction l with
  |nil=>intro _ _;trivial
  |cons env r ih=>
   intro hs hl
   obtain⟨hk,⟨L,o,hf,hn,ho,hd⟩,hr⟩:=hl
   have hL:L∈X.fs:=hs L (by unfold frs;rw[Gp,hf];exact ET)
   obtain⟨sl,e⟩:=I.base.slot L o ho (I.ok.frf L hL) hL λz=>I.ok.exfs L z hL
   exact⟨hk,⟨L,_,hf,hn,e,hd⟩,ih (λb hb=>hs b (by unfold frs;rw[Gp,hf];exact ES _ hb)) hr⟩
 exact all X.outer (λ_ hb=>hb) I.ok.funs
theorem Inv.stack(I:Inv X pins σ H s):s.heap.FunFrames X.base X.stack:=by
 rcases I.ok.stk with e|⟨e,hf⟩
 ·rw[e];exact I.funs
 ·rw[e]
  obtain⟨m,hn,_⟩:=I.loc
  refine .cons (by rw[I.ok.kind];decide) hf hn ?_ I.funs
  exact Heap.get?_none_of_le (E1 I.ok.bsz I.ok.above)
theorem Inv.stkSub(I:Inv X pins σ H s):∀ b∈frs X.stack,b∈X.env.locals::X.fs:=λb hb=>by
 rcases I.ok.stk with e|⟨e,hf⟩
 ·rw[e] at hb;exact ES _ hb
 ·rw[e] at hb
  unfold frs at hb
  rw[Gp,hf] at hb
  exact hb
theorem Inv.stkFree(I:Inv X pins σ H s):∀ b∈frs X.stack,H b=none:=λb hb=>by
 rcases EO.mp (I.stkSub b hb) with e|hb
 ·rw[e];exact I.free
 ·obtain⟨_,o,ho,_⟩:=I.ok.funs.mem hb
  exact I.base.free b o ho (I.ok.frf b hb) λz=>I.ok.exfs b z hb
theorem Inv.step{g':Array GenState}{t':Nat}{d':Drawn}{ch:List Addr}(I:Inv X pins σ H s)
  (w6:∀ b∈ch,(b∈X.ex\/X.s₀.heap.objs.size<=b)/\b≠X.env.locals/\(∀ x c,X.env.cells.lookup x=some c->c≠b)/\∀ p∈X.pn++pins,p.1≠b)
  (keep:∀ b o,b≠X.env.locals->b ∉ X.fs->b ∉ ch->s.heap.get? b=some o->H b=none->h'.get? b=some o)
  (slot:∀ b o,b≠X.env.locals->b∈X.fs->b ∉ ch->s.heap.get? b=some o->H b=none->∃ sl,h'.get? b=some {o with slots:=sl}) (free:∀ b o,b ∉ ch->s.heap.get? b=some o->H b=none->H' b=none)
  (there:∀ b o,b ∉ ch->s.heap.get? b=some o->∃ o',h'.get? b=some o')
  (tups:∀ b xs,H b=some (.tup xs)->H' b=some (.tup xs)) (frzs:∀ b o u,H b=some (.frz o u)->H' b=some (.frz o u)) (tbls:∀ b ps,H b=some (.tbl ps)->∃ more,H' b=some (.tbl (ps++more)))
  (ns:∀ m,s.heap.Ns X.env.locals m->h'.Ns X.env.locals m) (hok:HOk X.prog X.w H' h') (hg:AllBare g'):
  Inv X pins σ H' {s with heap:=h',gens:=g',drawn:=d',toks:=t'}:=by
 have Nt:∀ b o,X.s₀.heap.get? b=some o->b≠X.env.locals:=λb o e=>EZ (Fi (Heap.lt_size e) I.ok.above)
 have KA:∀ b o,X.s₀.heap.get? b=some o->b ∉ X.ex->b ∉ ch:=λb o e hx hb=>by
  rcases(w6 b hb).1 with z|z
  ·exact hx z
  ·exact absurd (Fi (Heap.lt_size e) z) (FV _)
 have H_:∀ x c,X.env.cells.lookup x=some c->∀ v,s.heap.IsCell c v->h'.IsCell c v:=λx c e v ⟨o,ho,hd⟩=>by
  have JC:c ∉ ch:=λz=>(w6 c z).2.2.1 x c e rfl
  by_cases hc:c∈X.fs
  ·obtain⟨sl,q⟩:=slot c o (I.cne x c e) hc JC ho (I.freeC x c e)
   exact⟨_,q,hd⟩
  ·exact⟨o,keep c o (I.cne x c e) hc JC ho (I.freeC x c e),hd⟩
 refine⟨I.ok,I.os,hg,⟨λb o e n hb hx=>?_,λb o e n hb hx=>?_,λb o e n hx=>?_,λb o e hx=>?_,λb xs e=>tups b xs (I.base.tups b xs e),λb o xs e=>frzs b o xs (I.base.frzs b o xs e),λb ps e=>?_⟩,?_,λx c e=>?_,?_,λx c e=>?_,λp hp=>?_,hok,I.len⟩
 ·exact keep b o (Nt b o e) hb (KA b o e hx) (I.base.keep b o e n hb hx) (I.base.free b o e n hx)
 ·obtain⟨sl,e1⟩:=I.base.slot b o e n hb hx
  obtain⟨t9,e2⟩:=slot b _ (Nt b o e) hb (KA b o e hx) e1 (I.base.free b o e n hx)
  exact⟨t9,e2⟩
 ·obtain⟨o',e1⟩:=I.base.there b o e hx
  exact free b o' (KA b o e hx) e1 (I.base.free b o e n hx)
 ·obtain⟨o',e1⟩:=I.base.there b o e hx
  exact there b o' (KA b o e hx) e1
 ·obtain⟨m1,e1⟩:=I.base.tbls b ps e
  obtain⟨m2,e2⟩:=tbls b _ e1
  exact⟨m1++m2,by rw[e2,G9]⟩
 ·obtain⟨m,hn,hl⟩:=I.loc
  refine⟨m,ns m hn,λi x v e1 e2 e3=>?_⟩
  obtain⟨u,r,l⟩:=hl i x v e1 e2 e3
  refine⟨u,r,?_⟩
  rcases l with l|⟨k,c,e,z⟩
  ·exact .inl l
  ·exact .inr ⟨k,c,e,H_ x c e _ z⟩
 ·obtain⟨v,z⟩:=I.cell x c e
  exact⟨v,H_ x c e v z⟩
 ·obtain⟨m,⟨o,_,_,ho,_⟩,_⟩:=I.loc
  exact free _ o (λz=>(w6 _ z).2.1 rfl) ho I.free
 ·obtain⟨v,o,ho,hd⟩:=I.cell x c e
  exact free c o (λz=>(w6 c z).2.2.1 x c e rfl) ho (I.freeC x c e)
 ·obtain⟨e,n,ne,nf,d⟩:=I.pin p hp
  have JC:p.1 ∉ ch:=λz=>(w6 p.1 z).2.2.2 p hp rfl
  exact⟨keep p.1 p.2 ne nf JC e n,free p.1 p.2 JC e n,ne,nf,d⟩
theorem Inv.un{t':Nat}(I:Inv X pins σ H s)(u:Un X.fs [] H H' s.heap h')(hok:HOk X.prog X.w H' h'):Inv X pins σ H' {s with heap:=h',toks:=t'}:=by
 obtain⟨m,⟨o,es,ep,ho,r⟩,_⟩:=id I.loc
 obtain⟨sl,hL⟩:=u.any ho I.free (by simp)
 exact I.step (g':=s.gens) (d':=s.drawn) (ch:=[]) (λ_ z=>nomatch z) (λb o _ hb _ e n=>u.keep b o e n hb (by simp)) (λb o _ hb _ e n=>u.slot b o e n hb (by simp)) (λb o _ e n=>u.free b o e n (by simp)) (λb o _ e=>u.there b o e (by simp)) u.tups u.frzs u.tbls (λm' hm=>by
  obtain⟨o',Ld,Le,Iw,r'⟩:=hm
  rw[ho] at Iw;cases Iw
  exact⟨_,Ld,Le,hL,r'⟩) hok I.bare
theorem Inv.call{g':Array GenState}{t':Nat}{d':Drawn}{ch:List Addr}(I:Inv X pins σ H s)(u:Un (frs X.stack) ch H H' s.heap h')(hok:HOk X.prog X.w H' h')(hg:AllBare g')
  (w6:∀ b∈ch,(b∈X.ex\/X.s₀.heap.objs.size<=b)/\b≠X.env.locals/\(∀ x c,X.env.cells.lookup x=some c->c≠b)/\∀ p∈X.pn++pins,p.1≠b):
  Inv X pins σ H' {s with heap:=h',gens:=g',drawn:=d',toks:=t'}:=by
 obtain⟨m,⟨o,es,ep,ho,r⟩,_⟩:=id I.loc
 obtain⟨sl,hL⟩:=u.any ho I.free λz=>(w6 _ z).2.1 rfl
 exact I.step (ch:=ch) w6 (λb o hL hb hc e n=>u.keep b o e n (λz=>(EO.mp (I.stkSub b z)).elim hL hb) hc) (λb o _ _ hc e n=>u.any e n hc) (λb o hc e n=>u.free b o e n hc) (λb o hc e=>u.there b o e hc) u.tups u.frzs u.tbls (λm' hm=>by
  obtain⟨o',Ld,Le,Iw,r'⟩:=hm
  rw[ho] at Iw;cases Iw
  exact⟨_,Ld,Le,hL,r'⟩) hok hg
theorem Inv.turned{t':Nat}{it:Addr}(I:Inv X pins σ H s)(k:∀ b o,b≠it->s.heap.get? b=some o->h'.get? b=some o)(hn:H it=none)(hL:it≠X.env.locals)
  (h1:it∈X.ex\/X.s₀.heap.objs.size<=it) (h2:∀ x c,X.env.cells.lookup x=some c->c≠it) (h3:∀ p∈X.pn++pins,p.1≠it):Inv X pins σ H {s with heap:=h',toks:=t'}:=by
 have Ix:∀ b u,H b=some u->b≠it:=λb u e z=>by rw[z,hn] at e;cases e
 refine I.step (g':=s.gens) (d':=s.drawn) (ch:=[it]) (λb hb=>?_) (λb o _ _ hc e _=>k b o (λz=>hc (by simp[z])) e) (λb o _ _ hc e _=>⟨o.slots,k b o (λz=>hc (by simp[z])) e⟩) (λ_ _ _ _ n=>n)
  (λb o hc e=>⟨o,k b o (λz=>hc (by simp[z])) e⟩) (λ_ _ e=>e) (λ_ _ _ e=>e) (λb ps e=>⟨#[],by rw[e];simp⟩) (λm hm=>?_) (λb u e=>?_) I.bare
 ·have e:b=it:=by simpa using hb
  subst e
  exact⟨h1,hL,h2,h3⟩
 ·obtain⟨o,es,ep,ho,r⟩:=hm
  exact⟨o,es,ep,k _ o (Ne.symm hL) ho,r⟩
 ·refine(I.hok b u e).stay (λc v hc q=>k c v ?_ q) (λ_ q=>q) λ_ _ q=>q
  rcases hc with z|z
  ·rw[z];exact Ix b u e
  ·exact Ix c _ z
theorem Inv.tok(I:Inv X pins σ H s)(t:Nat):Inv X pins σ H {s with toks:=t}:=I.un (h':=s.heap) (t':=t) Un.refl I.hok
theorem Inv.kept{t':Nat}(I:Inv X pins σ H s)(k:∀ b u,s.heap.get? b=some u->h'.get? b=some u):Inv X pins σ H {s with heap:=h',toks:=t'}:=I.un (Un.kept k) (I.hok.kept k)
theorem Inv.laid{a:Addr}{o:HO}{t':Nat}(I:Inv X pins σ H s)(k:∀ b u,s.heap.get? b=some u->h'.get? b=some u)(hp:s.heap.objs.size<=a)(new:ObjOk X.prog X.w (upd H a o) h' a o):
  Inv X pins σ (upd H a o) {s with heap:=h',toks:=t'}:=I.un (Un.laid k hp (I.hok.fresh hp)) (I.hok.laid k hp new)
theorem Inv.write{x e:Addr}{o:HO}{t':Nat}(I:Inv X pins σ H s)(mu:Mut (H x))(he:e=x\/H e=some (.own x))(k:∀ b u,b≠e->s.heap.get? b=some u->h'.get? b=some u)(v_:∃ u,h'.get? e=some u)
  (new:ObjOk X.prog X.w (upd H x o) h' x o):Inv X pins σ (upd H x o) {s with heap:=h',toks:=t'}:=I.un (Un.write mu he k v_) (I.hok.write mu he k v_ new)
theorem Inv.pins_of{Ia:List (Addr × Obj)}(I:Inv X pins σ H s)(h:∀ p∈Ia,s.heap.get? p.1=some p.2/\H p.1=none/\p.1≠X.env.locals/\p.1 ∉ X.fs/\∀ v,p.2.data≠.cell v):Inv X Ia σ H s:=
 ⟨I.ok,I.os,I.bare,I.base,I.loc,I.cell,I.free,I.freeC,λp hp=>(Ff.mp hp).elim (λz=>I.pin p (FG _ z)) (h p),I.hok,I.len⟩
theorem pf{N:List Str}(hN:N.Nodup){i j:Nat}{x:Str}(a:N[i]?=some x)(b:N[j]?=some x):i=j:=by
 obtain⟨h1,e1⟩:=E7.mp a
 obtain⟨h2,e2⟩:=E7.mp b
 exact(List.getElem_inj hN).mp (e1.trans e2.symm)
theorem ph{M:Model}{A:Around}{E:Value->Shared->Prop}{i:Nat}{x:Str}{v:V}{u:Value}{Q:Unit->Shared->Prop}(I:Inv X pins σ H s)(hN:X.N.Nodup)(hi:X.N[i]?=some x)(hx:Loc X.env.scope x)(r:RelV v u)
  (h:∀ s',Inv X pins (σ.set i (some v)) H s'->(∃ a,Heap.SameBut a s.heap s'.heap/\(a=X.env.locals\/X.env.cells.lookup x=some a))->Q () s') (hf:zFN X x:=by first|exact .inl rfl|exact .inr rfl|assumption):wpAny M A (storeName X.env x u) Q E s:=by
 obtain⟨m,hn,hl⟩:=id I.loc
 have Lf:(X.env.scope.kind== .class||(X.env.scope.kind== .module && X.env.locals !=X.env.globals))=false:=by rw[I.ok.kind];rfl
 have hiσ:i<σ.length:=by rw[I.len];exact(E7.mp hi).1
 have cne:=I.cne
 have j6:∀ {a:Addr} {h':Heap},(∃ o,s.heap.get? a=some o/\H a=none)->Heap.SameBut a s.heap h'->HOk X.prog X.w H h':=λ{a h'} ha hs b ob e=>by
  obtain⟨_,_,i_⟩:=ha
  refine(I.hok b ob e).stay (λc w' hc q=>(hs.2 c ?_).trans q) (λ_ q=>q) λ_ _ q=>q
  rintro rfl
  rcases hc with rfl|hc
  ·rw[i_] at e;cases e
  ·rw[i_] at hc;cases hc
 rcases hx with hk|hk
 ·refine wpAny_storeName_local hk hn (λh' k8 hs=>?_) Lf
  obtain⟨oL,_,_,Ot,_⟩:=id hn
  refine h _ ⟨I.ok,I.os,I.bare,⟨λb o e n hb hx=>?_,λb o e n hb hx=>?_,I.base.free,λb o e hx=>?_,I.base.tups,I.base.frzs,I.base.tbls⟩,⟨_,k8,λj y v' e1 e2 e3=>?_⟩,λy c e=>?_,I.free,I.freeC,λp hp=>?_,j6 ⟨oL,Ot,I.free⟩ hs,by simpa using I.len⟩ ⟨_,hs,.inl rfl⟩
  ·exact(hs.2 b (EZ (Fi (Heap.lt_size e) I.ok.above))).trans (I.base.keep b o e n hb hx)
  ·obtain⟨sl,e1⟩:=I.base.slot b o e n hb hx
   exact⟨sl,(hs.2 b (EZ (Fi (Heap.lt_size e) I.ok.above))).trans e1⟩
  ·obtain⟨o',e1⟩:=I.base.there b o e hx
   exact⟨o',(hs.2 b (EZ (Fi (Heap.lt_size e) I.ok.above))).trans e1⟩
  ·by_cases hj:j=i
   ·subst hj
    rw[hi] at e1;cases e1
    rw[FA hiσ] at e2
    cases e2
    exact⟨u,r,.inl ⟨hk,by simp⟩⟩
   ·rw[Fb (Ne.symm hj)] at e2
    obtain⟨u',r',q⟩:=hl j y v' e1 e2 e3
    refine⟨u',r',?_⟩
    rcases q with⟨k,e⟩|⟨k,c,e,z⟩
    ·refine .inl ⟨k,?_⟩
     have:y≠x:=λe=>hj (pf hN e1 (e ▸ hi))
     simp[this,e]
    ·exact .inr ⟨k,c,e,z.sameBut hs (cne y c e)⟩
  ·obtain⟨w',z⟩:=I.cell y c e
   exact⟨w',z.sameBut hs (cne y c e)⟩
  ·obtain⟨e,n,ne,nf,d⟩:=I.pin p hp
   exact⟨(hs.2 p.1 ne).trans e,n,ne,nf,d⟩
 ·have JD:X.fn x=true:=by
   rcases hf with z|z
   ·exact z
   ·rw[z] at hk;cases hk
  obtain⟨c,hc⟩:=I.ok.has x (.inl hk)
  obtain⟨w',z⟩:=I.cell x c hc
  refine wpAny_storeName_cell I.ok.kind hk hc z (λh' Ib hs=>?_)
  obtain⟨oc,Nu,Lg⟩:=id z
  refine h {s with heap:=h'} ⟨I.ok,I.os,I.bare,⟨λb o e n hb hx=>?_,λb o e n hb hx=>?_,I.base.free,λb o e hx=>?_,I.base.tups,I.base.frzs,I.base.tbls⟩,⟨m,hn.sameBut hs (Ne.symm (cne x c hc)),λj y v' e1 e2 e3=>?_⟩,λy c' e=>?_,I.free,I.freeC,λp hp=>?_,j6 ⟨oc,Nu,I.freeC x c hc⟩ hs,by simpa using I.len⟩ ⟨c,hs,.inr hc⟩
  ·exact(hs.2 b (EZ (Fi (Heap.lt_size e) (I.ok.cab x c JD hc)))).trans (I.base.keep b o e n hb hx)
  ·obtain⟨sl,e1⟩:=I.base.slot b o e n hb hx
   exact⟨sl,(hs.2 b (EZ (Fi (Heap.lt_size e) (I.ok.cab x c JD hc)))).trans e1⟩
  ·obtain⟨o',e1⟩:=I.base.there b o e hx
   exact⟨o',(hs.2 b (EZ (Fi (Heap.lt_size e) (I.ok.cab x c JD hc)))).trans e1⟩
  ·by_cases hj:j=i
   ·subst hj
    rw[hi] at e1;cases e1
    rw[FA hiσ] at e2
    cases e2
    exact⟨u,r,.inr ⟨.inl hk,c,hc,Ib⟩⟩
   ·rw[Fb (Ne.symm hj)] at e2
    obtain⟨u',r',q⟩:=hl j y v' e1 e2 e3
    refine⟨u',r',?_⟩
    rcases q with q|⟨k,c',e,z'⟩
    ·exact .inl q
    ·refine .inr ⟨k,c',e,z'.sameBut hs ?_⟩
     rintro rfl
     exact hj (pf hN e1 (I.ok.inj _ _ _ e hc ▸ hi))
  ·by_cases Nv:c'=c
   ·subst Nv;exact⟨_,Ib⟩
   ·obtain⟨w2,z2⟩:=I.cell y c' e
    exact⟨w2,z2.sameBut hs Nv⟩
  ·obtain⟨e,n,ne,nf,d⟩:=I.pin p hp
   refine⟨(hs.2 p.1 ?_).trans e,n,ne,nf,d⟩
   intro q
   rw[q,Nu] at e
   have q':oc=p.2:=Option.some.inj e
   exact d w' (by rw[<- q'];exact Lg)
theorem dW{M:Model}{A:Around}{E:Value->Shared->Prop}{i:Nat}{x:Str}{v:V}{u:Value}{Q:Unit->Shared->Prop}(I:Inv X pins σ H s)(hN:X.N.Nodup)(hi:X.N[i]?=some x)(hx:Loc X.env.scope x)(r:RelV v u)
  (h:∀ s',Inv X pins (σ.set i (some v)) H s'->Q () s') (hf:zFN X x:=by first|exact .inl rfl|exact .inr rfl|assumption):wpAny M A (storeName X.env x u) Q E s:=
 ph I hN hi hx r (λs' I' _=>h s' I') hf
theorem Inv.call'{s':Shared}{ch:List Addr}(I:Inv X pins σ H s)(ho:s'.os=s.os)(u:Un (frs X.stack) ch H H' s.heap s'.heap)(hok:HOk X.prog X.w H' s'.heap)(hg:AllBare s'.gens)
  (w6:∀ b∈ch,(b∈X.ex\/X.s₀.heap.objs.size<=b)/\b≠X.env.locals/\(∀ x c,X.env.cells.lookup x=some c->c≠b)/\∀ p∈X.pn++pins,p.1≠b):Inv X pins σ H' s':=by
 obtain⟨h',g',d',t',o'⟩:=s'
 have e:o'=s.os:=ho
 subst e
 exact I.call (g':=g') (t':=t') (d':=d') u hok hg w6
end
abbrev XK:=Value->Option Addr->Hp->Prop
abbrev St:=List (Option V)
abbrev VK:=V->Hp->Prop
abbrev TE:=St->Hp->VK->Prop
abbrev TT:=St->Hp->(Bool->Hp->Prop)->Prop
abbrev TA:=St->Hp->(List V->Hp->Prop)->Prop
structure Ends where
 nx:St->Hp->Prop
 rt:VK
 bk:St->Hp->Prop:=λ_ _=>False
 ct:St->Hp->Prop:=λ_ _=>False
abbrev TS:=Ends->St->Hp->Prop
def EP(X:Cx)(pins:List (Addr × Obj))(σ:St)(Q:VK)(u:Value)(s':Shared):Prop:=∃ v H',Inv X pins σ H' s'/\RelV v u/\Q v H'
def TP(X:Cx)(pins:List (Addr × Obj))(σ:St)(Q:Bool->Hp->Prop)(b:Bool)(s':Shared):Prop:=∃ H',Inv X pins σ H' s'/\Q b H'
def AP(X:Cx)(pins:List (Addr × Obj))(σ:St)(Q:List V->Hp->Prop)(us:List Value)(s':Shared):Prop:=∃ vs H',Inv X pins σ H' s'/\Vals vs us/\Q vs H'
def SP(X:Cx)(pins:List (Addr × Obj))(D:Ends)(f:Flow)(s':Shared):Prop:=
 match f with
 | .next=>∃ σ' H',Inv X pins σ' H' s'/\D.nx σ' H'
 | .brk=>∃ σ' H',Inv X pins σ' H' s'/\D.bk σ' H'
 | .cont=>∃ σ' H',Inv X pins σ' H' s'/\D.ct σ' H'
 | .ret u=>∃ v σ' H',Inv X pins σ' H' s'/\RelV v u/\D.rt v H'
def PE(X:Cx)(e:Expr)(t:TE):Prop:=
 ∀ (pins:List (Addr × Obj)) (s:Shared) (σ:St) (H:Hp) (Q:VK),Inv X pins σ H s->t σ H Q->wpAny (model X.prog X.w) X.A (eval e X.env) (EP X pins σ Q) X.xe s
def PT(X:Cx)(e:Expr)(t:TT):Prop:=
 ∀ (pins:List (Addr × Obj)) (s:Shared) (σ:St) (H:Hp) (Q:Bool->Hp->Prop),Inv X pins σ H s->t σ H Q->wpAny (model X.prog X.w) X.A (isTrue e X.env (eval e X.env)) (TP X pins σ Q) X.xe s
def PW(X:Cx)(e:Expr)(t:TT):Prop:=
 ∀ (g6:Sem Value) (pins:List (Addr × Obj)) (s:Shared) (σ:St) (H:Hp) (Q:Bool->Hp->Prop),Inv X pins σ H s->t σ H Q->wpAny (model X.prog X.w) X.A (isTrue e X.env g6) (TP X pins σ Q) X.xe s
theorem PW.pt{X:Cx}{e:Expr}{t:TT}(h:PW X e t):PT X e t:=h _
def PA(X:Cx)(es:List Expr)(t:TA):Prop:=
 ∀ (pos:Pos) (pins:List (Addr × Obj)) (s:Shared) (σ:St) (H:Hp) (Q:List V->Hp->Prop),Inv X pins σ H s->t σ H Q->wpAny (model X.prog X.w) X.A (spliced (backTo pos (starEach es X.env))) (AP X pins σ Q) X.xe s
def PS(X:Cx)(st:Stmt)(t:TS):Prop:=
 ∀ (pins:List (Addr × Obj)) (s:Shared) (σ:St) (H:Hp) (D:Ends),Inv X pins σ H s->t D σ H->wpAny (model X.prog X.w) X.A (exec st X.env) (SP X pins D) X.xe s
def PSs(X:Cx)(st:List Stmt)(t:TS):Prop:=
 ∀ (pins:List (Addr × Obj)) (s:Shared) (σ:St) (H:Hp) (D:Ends),Inv X pins σ H s->t D σ H->wpAny (model X.prog X.w) X.A (execs st X.env) (SP X pins D) X.xe s
theorem thn{α:Type}{t:Sem α}{Q Q':α->Shared->Prop}{M:Model}{A:Around}{E:Value->Shared->Prop}{s:Shared}(h:wpAny M A t Q E s)(hQ:∀ a s,Q a s->Q' a s):wpAny M A t Q' E s:=wpAny_mono h hQ λ_ _ x=>x
section
variable {X:Cx}
theorem bin{a b:Expr}{ta tb:TE}(ha:PE X a ta)(hb:PE X b tb){pins:List (Addr × Obj)}{s:Shared}{σ:St}{H:Hp}{R:V->V->Hp->Prop}(I:Inv X pins σ H s)(h:ta σ H λx H1=>tb σ H1 λy H2=>R x y H2)
  {α:Type} {Q:α->Shared->Prop} {f:Value->Value->Sem α}
  (hf:∀ v u s2 x y H2,Inv X pins σ H2 s2->RelV x v->RelV y u->R x y H2->wpAny (model X.prog X.w) X.A (f v u) Q X.xe s2):
  wpAny (model X.prog X.w) X.A (eval a X.env) (λv s₁=>wpAny (model X.prog X.w) X.A (eval b X.env) (λu s₂=>wpAny (model X.prog X.w) X.A (f v u) Q X.xe s₂) X.xe s₁) X.xe s:=by
 refine thn (ha pins s σ H _ I h) λv s1 ⟨x,H1,I1,r1,q1⟩=>?_
 refine thn (hb pins s1 σ H1 _ I1 q1) λu s2 ⟨y,H2,I2,r2,q2⟩=>?_
 exact hf v u s2 x y H2 I2 r1 r2 q2
def tVar(i:Nat):TE:=λσ H Q=>∃ v,σ[i]?=some (some v)/\Q v H
def tC(v:V):TE:=λ_ H Q=>Q v H
theorem fq{i:Nat}{x:Str}{pos:Pos}(hN:X.N[i]?=some x)(hv:Vis X.env.scope x)(hd:zND x:=by decide)(g9:zNC x:=by decide):PE X (.Name x pos) (tVar i):=by
 intro pins s σ H Q I h
 obtain⟨v,e,h⟩:=h
 obtain⟨m,hn,hl⟩:=I.loc
 obtain⟨u,r,l⟩:=hl i x v hN e hv
 have d5:EP X pins σ Q u s:=⟨v,H,I,r,h⟩
 rcases l with⟨hk,hm⟩|⟨hk,c,hc,k9⟩
 ·exact wpAny_Name (wpAny_loadName_local I.ok.kind hk hn hm d5) hd
 ·rcases hk with hk|hk
  ·exact wpAny_Name (wpAny_loadName_cell I.ok.kind hk hc k9 d5) hd
  ·exact wpAny_Name (wpAny_loadName_free I.ok.kind hk hc k9 d5 g9) hd
theorem uy{i j pos}:PE X (.Constant (.int i) j pos) (tC (.int i)):=λ_ _ _ H _ I h=>wpAny_Constant_int ⟨.int i,H,I.tok _,⟨_,rfl⟩,h⟩
theorem uz{b j pos}:PE X (.Constant (.bool b) j pos) (tC (.bl b)):=λ_ _ _ H _ I h=>Constant_bool ⟨.bl b,H,I,rfl,h⟩
theorem va{j pos}:PE X (.Constant .none j pos) (tC .non):=λ_ _ _ H _ I h=>Constant_none ⟨.non,H,I,rfl,h⟩
theorem pi{x j pos}:PE X (.Constant (.str x) j pos) (tC (.str x)):=λ_ _ _ H _ I h=>Calls.Constant_str ⟨.str x,H,I.tok _,⟨_,rfl⟩,h⟩
def Gl(X:Cx)(x:Str):Prop:=X.env.kindOf x=some .globalImplicit
theorem cJ{E:Value->Shared->Prop}{pins:List (Addr × Obj)}{s:Shared}{σ:St}{H:Hp}{x:Str}{u:Value}{pos:Pos}{Q:Value->Shared->Prop}(I:Inv X pins σ H s)(hg:Gl X x)(hm:X.mg x=some u)(h:Q u s)
  (hd:zND x:=by decide):wpAny (model X.prog X.w) X.A (eval (.Name x pos) X.env) Q E s:=
 Calls.Name_function_global I.ok.kind hg (Calls.loadGlobal_global (by rw[I.ok.glob];exact I.mod.glob.keeps I.bk) hm h) hd
theorem dv{E:Value->Shared->Prop}{pins:List (Addr × Obj)}{s:Shared}{σ:St}{H:Hp}{x:Str}{u:Value}{pos:Pos}{Q:Value->Shared->Prop}(I:Inv X pins σ H s)(hg:Gl X x)(hm:X.mg x=none)(hv:bootBuiltins x=some u)(h:Q u s)
  (hn:x≠"__name__":=by decide) (hd:zND x:=by decide):wpAny (model X.prog X.w) X.A (eval (.Name x pos) X.env) Q E s:=by
 obtain⟨mb,h1,h2⟩:=I.mod.blt
 exact Calls.Name_function_global I.ok.kind hg (Calls.loadGlobal_builtin (by rw[I.ok.glob];exact I.mod.glob.keeps I.bk) hm (by rw[I.ok.blt];exact h1.keeps I.bk) ((h2 x hn).trans hv) h) hd
theorem vb{x:Str}{v:V}{u:Value}{pos:Pos}(hg:Gl X x)(hm:X.mg x=some u)(r:RelV v u)(hd:zND x:=by decide):PE X (.Name x pos) (tC v):=
 λ_ _ _ H _ I h=>cJ I hg hm ⟨v,H,I,r,h⟩ hd
theorem vc{x:Str}{v:V}{u:Value}{pos:Pos}(hg:Gl X x)(hm:X.mg x=none)(hv:bootBuiltins x=some u)(r:RelV v u)(hn:x≠"__name__":=by decide)(hd:zND x:=by decide):PE X (.Name x pos) (tC v):=
 λ_ _ _ H _ I h=>dv I hg hm hv ⟨v,H,I,r,h⟩ hn hd
variable {a b:Expr}{ta tb:TE}{pos:Pos}
def tB(t:TE):TT:=λσ H Q=>t σ H λx H1=>∃ c,x= .bl c/\Q c H1
variable {tA x8:TT}{rest:List Expr}
def tAnd(t u:TT):TT:=λσ H Q=>t σ H λc H1=>if c=true then u σ H1 Q else Q false H1
def tOr(t u:TT):TT:=λσ H Q=>t σ H λc H1=>if c=true then Q true H1 else u σ H1 Q
def tNot(t:TT):TT:=λσ H Q=>t σ H λc H1=>Q (!c) H1
theorem pj(ha:PT X a tA):PW X (.BoolOp .And [a] pos) tA:=by
 intro wh pins s σ H Q I h
 refine isTrue_and (thn (ha pins s σ H Q I h) λc s1 e=>?_)
 cases c with
 |true=>exact isTrue_and_nil e
 |false=>exact e
theorem pk(ha:PT X a tA):PW X (.BoolOp .Or [a] pos) tA:=by
 intro wh pins s σ H Q I h
 refine isTrue_or (thn (ha pins s σ H Q I h) λc s1 e=>?_)
 cases c with
 |false=>exact isTrue_or_nil e
 |true=>exact e
theorem pp(ha:PT X a tA)(hb:PW X (.BoolOp .And (b::rest) pos) x8):PW X (.BoolOp .And (a::b::rest) pos) (tAnd tA x8):=by
 intro wh pins s σ H Q I h
 refine isTrue_and (thn (ha pins s σ H _ I h) λc s1 ⟨H1,I1,q1⟩=>?_)
 cases c with
 |true=>exact hb wh pins s1 σ H1 Q I1 q1
 |false=>exact⟨H1,I1,q1⟩
theorem pq(ha:PT X a tA)(hb:PW X (.BoolOp .Or (b::rest) pos) x8):PW X (.BoolOp .Or (a::b::rest) pos) (tOr tA x8):=by
 intro wh pins s σ H Q I h
 refine isTrue_or (thn (ha pins s σ H _ I h) λc s1 ⟨H1,I1,q1⟩=>?_)
 cases c with
 |true=>exact⟨H1,I1,q1⟩
 |false=>exact hb wh pins s1 σ H1 Q I1 q1
theorem vd(ha:PT X a tA):PT X (.UnaryOp .Not a pos) (tNot tA):=by
 intro pins s σ H Q I h
 exact isTrue_not (ha pins s σ H (λc H1=>Q (!c) H1) I h)
def ve(ta tb:TE):TE:=λσ H Q=>ta σ H λx H1=>∃ c,x= .bl c/\if c=true then tb σ H1 Q else Q (.bl false) H1
def vf(ta:TE):TE:=λσ H Q=>ta σ H λx H1=>∃ c,x= .bl c/\Q (.bl (!c)) H1
theorem vg{op}{t:TE}(h:PE X a t):PE X (.BoolOp op [a] pos) t:=λpins s σ H Q I hw=>BoolOp_one (h pins s σ H Q I hw)
theorem vh(ha:PE X a ta)(hb:PE X (.BoolOp .And (b::rest) pos) tb):PE X (.BoolOp .And (a::b::rest) pos) (ve ta tb):=by
 intro pins s σ H Q I h
 refine BoolOp_and (thn (ha pins s σ H _ I h) λv s1 ⟨x,H1,I1,r1,q1⟩=>?_)
 obtain⟨c,rfl,q1⟩:=q1
 cases r1
 refine wpAny_truthy_bool ?_
 cases c with
 |true=>exact hb pins s1 σ H1 Q I1 q1
 |false=>exact⟨.bl false,H1,I1,rfl,q1⟩
theorem vi(ha:PE X a ta):PE X (.UnaryOp .Not a pos) (vf ta):=by
 intro pins s σ H Q I h
 refine UnaryOp_ (thn (ha pins s σ H _ I h) λv s1 ⟨x,H1,I1,r1,q1⟩=>?_)
 obtain⟨c,rfl,q1⟩:=q1
 cases r1
 exact not_of (wpAny_truthy_bool ⟨.bl (!c),H1,I1,rfl,q1⟩)
def tIf(t:TT)(ta tb:TE):TE:=λσ H Q=>t σ H λc H1=>if c=true then ta σ H1 Q else tb σ H1 Q
theorem vj{c:Expr}(hc:PT X c tA)(ha:PE X a ta)(hb:PE X b tb):PE X (.IfExp c a b pos) (tIf tA ta tb):=by
 intro pins s σ H Q I h
 refine wpAny_IfExp (thn (hc pins s σ H _ I h) λd s1 ⟨H1,I1,q1⟩=>?_)
 cases d with
 |true=>exact ha pins s1 σ H1 Q I1 q1
 |false=>exact hb pins s1 σ H1 Q I1 q1
end
def SqL(K:Ex)(H:Hp)(a:Addr)(xs:List V):Prop:=
 Rd H a (.lst xs)\/
  ∃ (o:Obj) (its:Array Value) (n:Nat),K.lookup a=some o/\o.cls= .type "list"/\o.dict=none/\o.data= .seq its n/\its.size<=sizeLine/\Vals xs its.toList
def SqT(K:Ex)(H:Hp)(a:Addr)(xs:List V):Prop:=
 Rd H a (.tup xs)\/
  ∃ (o:Obj) (its:Array Value) (n:Nat),K.lookup a=some o/\o.cls= .type "tuple"/\o.data= .seq its n/\its.size<=sizeLine/\Vals xs its.toList
def absV:Value->Option V
 | .none=>some .non
 | .bool b=>some (.bl b)
 | .int i _=>some (.int i)
 | .str x _=>some (.str x)
 | .bytes b _=>some (.byt b)
 | .float b _=>some (.flt b)
 | .ref a=>some (.ref a)
 | .type n=>some (.ty n)
 |_=>none
theorem RelV.abs{x:V}{u:Value}(r:RelV x u):absV u=some x:=by
 cases x with
 |non=>cases r;rfl
 |bl _=>cases r;rfl
 |int _=>obtain⟨t,rfl⟩:=r;rfl
 |str _=>obtain⟨t,rfl⟩:=r;rfl
 |byt _=>obtain⟨t,rfl⟩:=r;rfl
 |flt _=>obtain⟨t,rfl⟩:=r;rfl
 |ref _=>cases r;rfl
 |ty _=>cases r;rfl
theorem RelV.inj{x y:V}{u:Value}(r:RelV x u)(q:RelV y u):x=y:=Option.some.inj (r.abs.symm.trans q.abs)
theorem Vals.inj:∀ {xs ys:List V} {us:List Value},Vals xs us->Vals ys us->xs=ys
 |_,_,_,.nil,.nil=>rfl
 |_,_,_,.cons r t,.cons r' t'=>by rw[r.inj r',Vals.inj t t']
section
variable {X:Cx}{pins:List (Addr × Obj)}{σ:St}{H:Hp}{s:Shared}{a:Addr}{xs ys:List V}
theorem SqL.of{K:Ex}(h:H a=some (.lst xs)):SqL K H a xs:= .inl (.inl h)
theorem SqT.of{K:Ex}(h:H a=some (.tup xs)):SqT K H a xs:= .inl (.inl h)
theorem Inv.list(I:Inv X pins σ H s)(h:SqL X.K H a xs):∃ its:List Value,Vals xs its/\PlainL s.heap a its.toArray/\xs.length<=sizeLine:=by
 rcases h with h|⟨o,its,n,hk,hc,hd,hs,hz,r⟩
 ·obtain⟨z,its,n,r,e⟩:=h.ok I.hok
  exact⟨its,r,⟨_,n,e,rfl,rfl,rfl⟩,z⟩
 ·refine⟨its.toList,r,⟨o,n,I.kIn a o hk,hc,hd,by simpa using hs⟩,?_⟩
  have e:=r.length
  simp only[FW] at e
  lia
theorem Inv.tuple(I:Inv X pins σ H s)(h:SqT X.K H a xs):∃ its:List Value,Vals xs its/\IsTup s.heap a its.toArray/\xs.length<=sizeLine:=by
 rcases h with h|⟨o,its,n,hk,hc,hs,hz,r⟩
 ·obtain⟨z,its,r,p⟩:=h.ok I.hok
  exact⟨its,r,p,z⟩
 ·refine⟨its.toList,r,⟨o,I.kIn a o hk,hc,n,by simpa using hs⟩,?_⟩
  have e:=r.length
  simp only[FW] at e
  lia
theorem Inv.list_inj(I:Inv X pins σ H s)(h:SqL X.K H a xs)(h':SqL X.K H a ys):xs=ys:=by
 obtain⟨its,r,⟨o,n,e,_,_,d⟩,_⟩:=I.list h
 obtain⟨its',r',⟨o',n',e',_,_,d'⟩,_⟩:=I.list h'
 rw[e] at e';cases e'
 rw[d] at d'
 injection d' with d1 _
 have:its=its':=by simpa using congrArg Hb d1
 subst this
 exact r.inj r'
theorem Inv.tuple_inj(I:Inv X pins σ H s)(h:SqT X.K H a xs)(h':SqT X.K H a ys):xs=ys:=by
 obtain⟨its,r,⟨o,e,_,n,d⟩,_⟩:=I.tuple h
 obtain⟨its',r',⟨o',e',_,n',d'⟩,_⟩:=I.tuple h'
 rw[e] at e';cases e'
 rw[d] at d'
 injection d' with d1 _
 have:its=its':=by simpa using congrArg Hb d1
 subst this
 exact r.inj r'
end
abbrev Cx.wish(X:Cx)(E:Value->Shared->Prop):Cx:={X with xe:=E}
abbrev Cx.nox(X:Cx):Cx:=X.wish λ_ _=>False
theorem Cx.Ok.wish{X:Cx}(ok:X.Ok)(E:Value->Shared->Prop):(X.wish E).Ok:=
 ⟨ok.mod,ok.kind,ok.glob,ok.blt,ok.above,ok.inj,ok.has,ok.cab,ok.hd,ok.frames,ok.stk,ok.exf,ok.bs,ok.bsz,ok.noex,ok.exfs,ok.funs,ok.frf⟩
theorem Cx.Ok.unwish{X:Cx}{E:Value->Shared->Prop}(ok:(X.wish E).Ok):X.Ok:=
 ⟨ok.mod,ok.kind,ok.glob,ok.blt,ok.above,ok.inj,ok.has,ok.cab,ok.hd,ok.frames,ok.stk,ok.exf,ok.bs,ok.bsz,ok.noex,ok.exfs,ok.funs,ok.frf⟩
section
variable {X:Cx}{pins:List (Addr × Obj)}{σ:St}{H:Hp}{s:Shared}{E:Value->Shared->Prop}
theorem Inv.wish(I:Inv X pins σ H s)(E:Value->Shared->Prop):Inv (X.wish E) pins σ H s:=⟨I.ok.wish E,I.os,I.bare,I.base,I.loc,I.cell,I.free,I.freeC,I.pin,I.hok,I.len⟩
theorem Inv.unwish(I:Inv (X.wish E) pins σ H s):Inv X pins σ H s:=⟨I.ok.unwish,I.os,I.bare,I.base,I.loc,I.cell,I.free,I.freeC,I.pin,I.hok,I.len⟩
theorem SP.unwish{D:Ends}{f:Flow}{s':Shared}(h:SP (X.wish E) pins D f s'):SP X pins D f s':=by
 cases f with
 |next=>obtain⟨σ',H',I,q⟩:=h;exact⟨σ',H',I.unwish,q⟩
 |brk=>obtain⟨σ',H',I,q⟩:=h;exact⟨σ',H',I.unwish,q⟩
 |cont=>obtain⟨σ',H',I,q⟩:=h;exact⟨σ',H',I.unwish,q⟩
 |ret u=>obtain⟨v,σ',H',I,r,q⟩:=h;exact⟨v,σ',H',I.unwish,r,q⟩
theorem PE.nox{e:Expr}{t:TE}(h:PE X.nox e t):PE X e t:=λpins s σ H Q I hw=>
 wpAny_mono (h pins s σ H Q (I.wish _) hw) (λ_ _ ⟨v,H',I',r,q⟩=>⟨v,H',I'.unwish,r,q⟩) λ_ _ z=>False.elim z
theorem PT.nox{e:Expr}{t:TT}(h:PT X.nox e t):PT X e t:=λpins s σ H Q I hw=>
 wpAny_mono (h pins s σ H Q (I.wish _) hw) (λ_ _ ⟨H',I',q⟩=>⟨H',I'.unwish,q⟩) λ_ _ z=>False.elim z
theorem PSs.nox{st:List Stmt}{t:TS}(h:PSs X.nox st t):PSs X st t:=λpins s σ H D I hw=>
 wpAny_mono (h pins s σ H D (I.wish _) hw) (λ_ _ q=>q.unwish) λ_ _ z=>False.elim z
end
section
variable {X:Cx}{st:Stmt}{rest:List Stmt}{t u:TS}{e:Expr}{te:TE}{pos:Pos}
def vk:TS:=λD σ H=>D.nx σ H
def tSeq(t u:TS):TS:=λD σ H=>t {D with nx:=u D} σ H
theorem pss_nil:PSs X [] vk:=λ_ _ σ H _ I h=>wpAny_execs_nil ⟨σ,H,I,h⟩
theorem fu(h1:PS X st t)(h2:PSs X rest u):PSs X (st::rest) (tSeq t u):=by
 intro pins s σ H D I h
 refine wpAny_execs_cons (thn (h1 pins s σ H {D with nx:=u D} I h) λf s1 q=>?_)
 cases f with
 |next=>
  obtain⟨σ',H',I',q⟩:=q
  exact h2 pins s1 σ' H' D I' q
 |ret v=>exact q
 |brk=>exact q
 |cont=>exact q
theorem pr(h1:PS X st t):PSs X [st] t:=by
 intro pins s σ H D I h
 refine wpAny_execs_cons (thn (h1 pins s σ H D I h) λf s1 q=>?_)
 cases f with
 |next=>exact wpAny_execs_nil q
 |ret v=>exact q
 |brk=>exact q
 |cont=>exact q
theorem Inv.quiet{pins:List (Addr × Obj)}{σ:St}{H:Hp}{s:Shared}(I:Inv X pins σ H s):interactive X.env=false:=by simp[interactive,I.ok.kind]
def vm(te:TE):TS:=λD σ H=>te σ H λ_ H1=>D.nx σ H1
theorem pv(he:PE X e te)(hs:swapsWith e none pos.line X.env=pure false:=by rfl):PS X (.Expr e pos) (vm te):=by
 intro pins s σ H D I h
 exact wpAny_Expr_any (thn (he pins s σ H _ I h) λv s1 ⟨x,H1,I1,r1,q1⟩=>⟨σ,H1,I1,q1⟩) I.quiet hs
def tRet(te:TE):TS:=λD σ H=>te σ H D.rt
theorem pw(he:PE X e te):PS X (.Return (some e) pos) (tRet te):=by
 intro pins s σ H D I h
 exact wpAny_Return_some (thn (he pins s σ H _ I h) λv s1 ⟨x,H1,I1,r1,q1⟩=>⟨x,σ,H1,I1,r1,q1⟩)
def tIfS(c:TT)(t u:TS):TS:=λD σ H=>c σ H λb H1=>if b=true then t D σ H1 else u D σ H1
theorem pz{c:Expr}{a b:List Stmt}{tc:TT}(hc:PT X c tc)(ha:PSs X a t)(hb:PSs X b u):PS X (.If c a b pos) (tIfS tc t u):=by
 intro pins s σ H D I h
 refine wpAny_If (thn (hc pins s σ H _ I h) λd s1 ⟨H1,I1,q1⟩=>?_)
 cases d with
 |true=>exact ha pins s1 σ H1 D I1 q1
 |false=>exact hb pins s1 σ H1 D I1 q1
end
abbrev TG:=V->St->Hp->(St->Hp->Prop)->Prop
abbrev TGs:=List V->St->Hp->(St->Hp->Prop)->Prop
def PG(X:Cx)(ge:Expr)(t:TG):Prop:=
 ∀ (pins:List (Addr × Obj)) (s:Shared) (σ:St) (H:Hp) (v:V) (u:Value) (Q:St->Hp->Prop),Inv X pins σ H s->RelV v u->t v σ H Q->
  wpAny (model X.prog X.w) X.A (assign ge X.env u) (λ_ s'=>∃ σ' H',Inv X pins σ' H' s'/\Q σ' H') X.xe s
def PGs(X:Cx)(ts:List Expr)(t:TGs):Prop:=
 ∀ (pins:List (Addr × Obj)) (s:Shared) (σ:St) (H:Hp) (vs:List V) (us:List Value) (Q:St->Hp->Prop),Inv X pins σ H s->Vals vs us->t vs σ H Q->
  wpAny (model X.prog X.w) X.A (assignInOrder ((assignEach ts X.env).map (·.2)) us) (λ_ s'=>∃ σ' H',Inv X pins σ' H' s'/\Q σ' H') X.xe s
section
variable {X:Cx}{pos:Pos}
def fV(i:Nat):TG:=λv σ H Q=>Q (σ.set i (some v)) H
theorem fW{i:Nat}{x:Str}(hN:X.N.Nodup)(hi:X.N[i]?=some x)(hx:Loc X.env.scope x)(hf:zFN X x:=by first|exact .inl rfl|exact .inr rfl|assumption):PG X (.Name x pos) (fV i):=by
 intro pins s σ H v u Q I r h
 exact wpAny_assign_Name (dW I hN hi hx r (λs' I'=>⟨_,H,I',h⟩) hf)
def gNil:TGs:=λvs σ H Q=>vs=[]/\Q σ H
def vn(t:TG)(u:TGs):TGs:=λvs σ H Q=>∃ v r,vs=v::r/\t v σ H λσ' H'=>u r σ' H' Q
theorem vo:PGs X [] gNil:=by
 intro pins s σ H vs us Q I r h
 obtain⟨e,h⟩:=h
 subst e
 cases r
 exact assignInOrder_nil ⟨σ,H,I,h⟩
theorem vp{e:Expr}{es:List Expr}{t:TG}{u:TGs}(h1:PG X e t)(h2:PGs X es u)
  (hs:(assignEach (e::es) X.env).map (·.2)=assign e X.env::(assignEach es X.env).map (·.2):=by rfl):PGs X (e::es) (vn t u):=by
 intro pins s σ H vs us Q I r h
 obtain⟨v,vr,e1,h⟩:=h
 subst e1
 cases r with
 |cons r rr=>
  rw[hs]
  refine assignInOrder_cons (thn (h1 pins s σ H _ _ _ I r h) λ_ s1 ⟨σ1,H1,I1,q1⟩=>?_)
  exact h2 pins s1 σ1 H1 _ _ Q I1 rr q1
def gTup(K:Ex)(n:Nat)(t:TGs):TG:=λv σ H Q=>∃ a xs,v= .ref a/\SqT K H a xs/\xs.length=n/\t xs σ H Q
theorem fX{es:List Expr}{k:Nat}{t:TGs}{n:Nat}(hc:X.calm=true)(h:PGs X es t)
  (hn:(assignEach es X.env).length=n:=by rfl) (m6:(assignEach es X.env).findIdx? (·.1)=none:=by rfl):PG X (.Tuple es k pos) (gTup X.K n t):=by
 intro pins s σ H v u Q I r hw
 obtain⟨a,xs,e1,hq,hl,hw⟩:=hw
 subst e1
 cases r
 obtain⟨its,rv,ht,hz⟩:=I.tuple hq
 refine assign_Tuple_tuple (I.ok.hd hc) ht (by simp[hn,<- hl,rv.length]) m6 λh' hx=>?_
 have I1:Inv X pins σ H {s with heap:=h'}:=I.kept (t':=s.toks) λb o e=>hx b o (EZ (Heap.lt_size e)) e
 exact h pins _ σ H xs _ Q I1 (by simpa using rv) hw
def tAsg(te:TE)(g:TG):TS:=λD σ H=>te σ H λx H1=>g x σ H1 D.nx
theorem pA{tg e:Expr}{te:TE}{g:TG}(he:PE X e te)(hg:PG X tg g)(hs:swapsWithSole [tg] e pos.line X.env=pure false:=by rfl)(hw:swappedStores [tg] e X.env=pure none:=by rfl)
  (h1:(assignEach [tg] X.env).map (·.2)=[assign tg X.env]:=by rfl):PS X (.Assign [tg] e pos) (tAsg te g):=by
 intro pins s σ H D I h
 refine wpAny_Assign_stores (thn (he pins s σ H _ I h) λv s1 ⟨x,H1,I1,r1,q1⟩=>?_) hs hw
 rw[h1]
 exact thn (hg pins s1 σ H1 x v _ I1 r1 q1) λ_ s2 q=>q
theorem jm{i:Nat}{x:Str}{e:Expr}{te:TE}{c8:Pos}(hN:X.N.Nodup)(hi:X.N[i]?=some x)(hx:Loc X.env.scope x)(he:PE X e te)(hs:swapsWith e (some (.Name x c8)) pos.line X.env=pure false:=by rfl)(hf:zFN X x:=by first|exact .inl rfl|exact .inr rfl|assumption):
  PS X (.Assign [.Name x c8] e pos) (tAsg te (fV i)):=by
 intro pins s σ H D I h
 refine wpAny_Assign_Name (thn (he pins s σ H _ I h) λv s1 ⟨y,H1,I1,r1,q1⟩=>?_) hs
 exact dW I1 hN hi hx r1 (λs2 I2=>⟨_,H1,I2,q1⟩) hf
def tPar(i j:Nat)(ta:TA):TS:=λD σ H=>ta σ H λvs H1=>∃ v w,vs=[v,w]/\D.nx ((σ.set i (some v)).set j (some w)) H1
theorem vq{i j:Nat}{x y:Str}{a b:Expr}{ta:TA}{px py pt:Pos}{kt k2 Iy}(hc:X.calm=true)(hN:X.N.Nodup)(hi:X.N[i]?=some x)(hj:X.N[j]?=some y)(Lh:i≠j)
  (hx:X.env.scope.names.lookup x=some .local) (hy:X.env.scope.names.lookup y=some .local) (ha:PA X [a,b] ta)
  (hw:swappedStores [.Tuple [.Name x px,.Name y py] kt pt] (.Tuple [a,b] k2 Iy) X.env=pure (some [x,y]))
  (hs:swapsWithSole [.Tuple [.Name x px,.Name y py] kt pt] (.Tuple [a,b] k2 Iy) pos.line X.env=pure false:=by rfl):
  PS X (.Assign [.Tuple [.Name x px,.Name y py] kt pt] (.Tuple [a,b] k2 Iy) pos) (tPar i j ta):=by
 intro pins s σ H D I h
 rw[exec_Assign_arm]
 refine wpAny_bind (wpAny_standAt ?_)
 rw[hs]
 refine wpAny_bind (wpAny_pure ?_)
 rw[if_neg (by decide)]
 refine wpAny_bind (Tuple_ (thn (ha _ pins s σ H _ I h) λus s1 ⟨vs,H1,I1,r1,q1⟩=>?_))
 obtain⟨v,w,e1,q1⟩:=q1
 subst e1
 obtain⟨u1,u2,rfl,rv,j7⟩:∃ u1 u2,us=[u1,u2]/\RelV v u1/\RelV w u2:=by
  cases r1 with
  |cons p q=>
   cases q with
   |cons p' q'=>
    cases q'
    exact⟨_,_,rfl,p,p'⟩
 refine wpAny_newObj_type ?_ (by show 2<=sizeLine;decide)
 have I2:Inv X pins σ H1 {s1 with heap:=s1.heap.push {cls:= .type "tuple",data:= .seq [u1,u2].toArray} }:=I1.kept (t':=s1.toks) λb o e=>Heap.get?_push_of_some _ e
 rw[hw]
 refine wpAny_bind (wpAny_pure ?_)
 show wpAny (model X.prog X.w) X.A (do rule "assign.swapped-stores";let items <- unpackItems (.ref s1.heap.objs.size) 2 none;assignInOrder [λv=>bindName X.env y v,λv=>bindName X.env x v] items.reverse;pure Flow.next) _ _ _
 refine wpAny_bind (wpAny_rule (wpAny_bind (unpackItems_tuple (items:=#[u1,u2]) (I.ok.hd hc) (IsTup.new s1.heap _) λh' gt=>?_)))
 have I3:=I2.kept (h':=h') (t':=s1.toks) λb o e=>gt b o (EZ (Heap.lt_size e)) e
 show wpAny _ _ (assignInOrder [λv=>bindName X.env y v,λv=>bindName X.env x v] [u2,u1]>>=λ_=>pure Flow.next) _ _ _
 refine wpAny_bind (assignInOrder_cons (wpAny_bindName (dW I3 hN hj (.inl hy) j7 (λs2 I4=>?_) (.inr hy))))
 refine assignInOrder_cons (wpAny_bindName (dW I4 hN hi (.inl hx) rv (λs3 I5=>assignInOrder_nil (wpAny_pure ?_)) (.inr hx)))
 rw[List.set_comm _ _ (Ne.symm Lh)] at I5
 exact⟨_,H1,I5,q1⟩
def vt(c:TT)(tb:TS):TS:=λD σ H=>∃ W:Nat->St->Hp->Prop,(∃ m,W m σ H)/\∀ m σ H,W m σ H->
 c σ H λb H1=>if b=true then ∃ N:St->Hp->Prop,(∀ σ' H',N σ' H'->∃ m',m'<m/\W m' σ' H')/\tb {D with nx:=N,ct:=N,bk:=D.nx} σ H1 else D.nx σ H1
theorem pB{c:Expr}{body:List Stmt}{tc:TT}{tb:TS}(hp:PassesOwn (model X.prog X.w) X.A X.env X.xe)(hc:PT X c tc)(hb:PSs X body tb):PS X (.While c body [] pos) (vt tc tb):=by
 intro pins s σ H D I h
 obtain⟨W,⟨m0,w0⟩,b_⟩:=h
 refine wpAny_While (codeAny_whileLoop (λn s'=>∃ σ' H',Inv X pins σ' H' s'/\W n σ' H') ?_ m0 ⟨σ,H,I,w0⟩)
 rintro n s1 ⟨σ1,H1,I1,w1⟩
 refine wpAny_passesOwn hp (thn (hc pins s1 σ1 H1 _ I1 (b_ n σ1 H1 w1)) λb s2 ⟨H2,I2,q2⟩=>?_)
 cases b with
 |true=>
  obtain⟨N,hN,q2⟩:=q2
  rw[if_pos rfl]
  refine wpAny_passesOwn hp (thn (hb pins s2 σ1 H2 _ I2 q2) λf s3 q3=>?_)
  cases f with
  |next=>
   obtain⟨σ3,H3,I3,n3⟩:=q3
   obtain⟨m',hm,w3⟩:=hN σ3 H3 n3
   exact⟨m',hm,σ3,H3,I3,w3⟩
  |cont=>
   obtain⟨σ3,H3,I3,n3⟩:=q3
   obtain⟨m',hm,w3⟩:=hN σ3 H3 n3
   exact⟨m',hm,σ3,H3,I3,w3⟩
  |brk=>exact q3
  |ret v=>exact q3
 |false=>
  rw[if_neg E2]
  exact wpAny_execs_nil ⟨σ1,H2,I2,q2⟩
end
structure It where
 go:Nat->Hp->Prop
 yld:Nat->Hp->V->Hp->Prop
 stop:Nat->Hp->Prop
def FpOk(X:Cx)(pins:List (Addr × Obj))(H:Hp)(b:Addr):Prop:=
 H b=none/\b≠X.env.locals/\b ∉ X.fs/\(b∈X.ex\/X.s₀.heap.objs.size<=b)/\(∀ x c,X.env.cells.lookup x=some c->c≠b)/\∀ p∈X.pn++pins,p.1≠b
theorem Inv.fpOk{X:Cx}{pins:List (Addr × Obj)}{σ:St}{H H':Hp}{s:Shared}{b:Addr}(I:Inv X pins σ H s)(hb:s.heap.objs.size<=b)(hn:H' b=none):FpOk X pins H' b:=by
 refine⟨hn,FP (Fi I.lt hb),I.nofs hb,.inr (E1 I.sz hb),λx c e z=>?_,λp hp z=>?_⟩
 ·obtain⟨v,q⟩:=I.cell x c e
  exact absurd (Fi q.lt (by rw[z];exact hb)) (FV _)
 ·exact absurd (Fi (Heap.lt_size (I.pin p hp).1) (by rw[z];exact hb)) (FV _)
structure Turn(P:Program)(w:World)(K:Ex)(tg:Expr)(J:It)(fp:List Addr)(it:Addr)(tn:Nat->Heap->Prop):Prop where
 mem:it∈fp
 obj:∀ i h,tn i h->∀ b∈fp,∃ o,h.get? b=some o/\∀ v,o.data≠.cell v
 keep:∀ i h h',tn i h->(∀ b∈fp,∀ o,h.get? b=some o->h'.get? b=some o)->tn i h'
 item:∀ (X:Cx),X.prog=P->X.w=w->X.K=K->X.calm=true->∀ (i:Nat) (pins:List (Addr × Obj)) (s:Shared) (σ:St) (H:Hp) (E:Value->Shared->Prop),Inv X pins σ H s->(∀ b∈fp,FpOk X pins H b)->tn i s.heap->J.go i H->
  wpAny (model P w) X.A (pyNext (.ref it)) (λr s1=>∃ u,r=some u/\
   wpAny (model P w) X.A (letOwnedTupleGo tg (.ref it) u) (λ_ s2=>∃ x H',Inv X pins σ H' s2/\RelV x u/\J.yld i H x H'/\tn (i+1) s2.heap/\∀ b∈fp,H' b=none) E s1) E s
 done:∀ (X:Cx),X.prog=P->X.w=w->X.K=K->X.calm=true->∀ (i:Nat) (pins:List (Addr × Obj)) (s:Shared) (σ:St) (H:Hp) (E:Value->Shared->Prop),Inv X pins σ H s->(∀ b∈fp,FpOk X pins H b)->tn i s.heap->J.stop i H->
  wpAny (model P w) X.A (pyNext (.ref it)) (λr s1=>r=none/\Inv X pins σ H s1) E s
 self:∀ (A:Around) (i:Nat) (s:Shared) (Q:Value->Shared->Prop) (E:Value->Shared->Prop),tn i s.heap->Q (.ref it) s->wpAny (model P w) A (pyIter (.ref it)) Q E s
abbrev TI:=St->Hp->(It->Hp->Prop)->Prop
def PIE(X:Cx)(pins:List (Addr × Obj))(σ:St)(tg:Expr)(R:It->Hp->Prop)(KC:Value)(s2:Shared):Prop:=
 ∃ (it:Addr) (fp:List Addr) (tn:Nat->Heap->Prop) (J:It) (H':Hp),KC= .ref it/\Inv X pins σ H' s2/\Turn X.prog X.w X.K tg J fp it tn/\tn 0 s2.heap/\(∀ b∈fp,FpOk X pins H' b)/\R J H'
def PI(X:Cx)(tg iter:Expr)(wi:TI):Prop:=
 ∀ (pins:List (Addr × Obj)) (s:Shared) (σ:St) (H:Hp) (R:It->Hp->Prop),Inv X pins σ H s->wi σ H R->
  wpAny (model X.prog X.w) X.A (eval iter X.env) (λv s1=>wpAny (model X.prog X.w) X.A (pyIter v) (PIE X pins σ tg R) X.xe s1) X.xe s
theorem pC{M:Model}{A:Around}{E:Value->Shared->Prop}{s:Shared}{tg:Expr}{it:Addr}{u:Value}{o:Obj}{n:String}{vs:Array Value}{Q:Unit->Shared->Prop}(ho:s.heap.get? it=some o)(hc:o.cls= .type n)(hd:o.data= .fields vs)
    (hn:["enumerate","zip","dict_itemiterator","dict_reverseitemiterator","odict_iterator","itertools.zip_longest","itertools.pairwise"].contains n=false) (hQ:Q () s):wpAny M A (letOwnedTupleGo tg (.ref it) u) Q E s:=by
  unfold letOwnedTupleGo
  cases tg<;>first
    |exact wpAny_pure hQ
    |(cases u<;>first
        |exact wpAny_pure hQ
        | (refine wpAny_bind (wpAny_load ho ?_)
           rw[hc,hd]
           show wpAny M A (if(["enumerate","zip","dict_itemiterator","dict_reverseitemiterator","odict_iterator","itertools.zip_longest","itertools.pairwise"].contains n && vs[0]?==some (rawInt _))=true then _ else _) Q E s
           rw[if_neg (by intro h;rw[hn,Bool.false_and] at h;cases h)]
           exact wpAny_pure hQ))
def Itl(K:Ex)(a:Addr):It:=
 ⟨λi H=>∃ xs x,SqL K H a xs/\xs[i]?=some x,λi H x H'=>H'=H/\∀ xs,SqL K H a xs->xs[i]?=some x,λi H=>∃ xs,SqL K H a xs/\xs.length<=i⟩
def Itr(lo:Int)(n:Nat):It:=⟨λi _=>i<n,λi H x H'=>H'=H/\x= .int (lo+i),λi _=>n<=i⟩
theorem vw{P:Program}{w:World}{K:Ex}{tg:Expr}(a it:Addr):Turn P w K tg (Itl K a) [it] it (λi h=>h.IsListIter it a i) where
 mem:=by simp
 obj:=λi h st b hb=>by
  have e:b=it:=by simpa using hb
  subst e
  obtain⟨o,e,c,d⟩:=st
  exact⟨o,e,λv z=>by rw[d] at z;cases z⟩
 keep:=λi h h' st k=>st.at λo e=>k it (by simp) o e
 item:=by
  intro X hP hw hK hc i pins s σ H E I hf st hg
  subst hP hw hK
  obtain⟨xs,x,hq,hx⟩:=hg
  obtain⟨its,rv,p,hz⟩:=I.list hq
  obtain⟨u,hu,ru⟩:=rv.get hx
  obtain⟨f0,f1,f2,f3,f4,f5⟩:=hf it (by simp)
  refine wpAny_pyNext_list_item st p.isList (x:=u) (by simpa using hu) λh' st' sb=>?_
  have I1:Inv X pins σ H {s with heap:=h'}:=I.turned (t':=s.toks) (λb o hb e=>(sb.2 b hb).trans e) f0 f1 f3 f4 f5
  obtain⟨o,e,c,d⟩:=id st'
  exact⟨u,rfl,pC (s:={s with heap:=h'}) e c d (by decide) ⟨x,H,I1,ru,⟨rfl,λys hy=>by rw[I.list_inj hy hq];exact hx⟩,st',λb hb=>(hf b hb).1⟩⟩
 done:=by
  intro X hP hw hK hc i pins s σ H E I hf st hg
  subst hP hw hK
  obtain⟨xs,hq,hx⟩:=hg
  obtain⟨its,rv,p,hz⟩:=I.list hq
  obtain⟨f0,f1,f2,f3,f4,f5⟩:=hf it (by simp)
  have hl:=rv.length
  exact wpAny_pyNext_list_end (I.ok.hd hc) st p.isList (by simp;lia) λh' eb=>⟨rfl,I.turned (t':=s.toks) (λb o hb e=>eb b o hb e) f0 f1 f3 f4 f5⟩
 self:=λ_ _ _ _ _ st h=>wpAny_pyIter_listiter st h
theorem vx{P:Program}{w:World}{K:Ex}{tg:Expr}(it:Addr)(lo:Int)(n:Nat):Turn P w K tg (Itr lo n) [it] it (λi h=>IsRangeIter h it (lo+(i:Nat)*1) ((n:Int) - (i:Nat)) 1) where
 mem:=by simp
 obj:=λi h st b hb=>by
  have e:b=it:=by simpa using hb
  subst e
  exact⟨_,st,λv z=>by
   have z':Data.fields _=Data.cell v:=z
   cases z'⟩
 keep:=λi h h' st k=>k it (by simp) _ st
 item:=by
  intro X hP hw hK hc i pins s σ H E I hf st hg
  subst hP hw hK
  obtain⟨f0,f1,f2,f3,f4,f5⟩:=hf it (by simp)
  have W:=Walks.range (prog:=X.prog) (w:=X.w) (I.ok.hd hc) it lo 1 n
  refine W.item i s _ _ hg st λv h' tk hv st' kk=>?_
  obtain⟨t,rfl⟩:=hv
  have I1:Inv X pins σ H {s with heap:=h',toks:=tk}:=I.turned (λb o hb e=>kk b o (by simpa using hb) e) f0 f1 f3 f4 f5
  refine⟨_,rfl,pC (s:={s with heap:=h',toks:=tk}) (n:="range_iterator") st' rfl rfl (by decide) ⟨.int (lo+i),H,I1,⟨t,?_⟩,⟨rfl,rfl⟩,st',λb hb=>(hf b hb).1⟩⟩
  rw[Int.mul_one]
 done:=by
  intro X hP hw hK hc i pins s σ H E I hf st hg
  subst hP hw hK
  obtain⟨f0,f1,f2,f3,f4,f5⟩:=hf it (by simp)
  exact wpAny_pyNext_range_end (I.ok.hd hc) st (by have:n<=i:=hg;lia) λh' eb=>⟨rfl,I.turned (t':=s.toks) (λb o hb e=>eb b o hb e) f0 f1 f3 f4 f5⟩
 self:=λ_ _ _ _ _ st h=>wpAny_pyIter_rangeiter st h
section
variable {X:Cx}{tg:Expr}
def pD(K:Ex)(tl:TE):TI:=λσ H R=>tl σ H λx H1=>∃ a,x= .ref a/\(∃ xs,SqL K H1 a xs)/\R (Itl K a) H1
theorem jn{l:Expr}{tl:TE}(hl:PE X l tl):PI X tg l (pD X.K tl):=by
 intro pins s σ H R I h
 refine thn (hl pins s σ H _ I h) λv s1 ⟨x,H1,I1,r1,q1⟩=>?_
 obtain⟨a,e,⟨xs,hq⟩,q⟩:=q1
 subst e
 cases r1
 obtain⟨its,rv,p,hz⟩:=I1.list hq
 refine wpAny_pyIter_list p.isList ?_
 refine⟨s1.heap.objs.size,[s1.heap.objs.size],_,_,H1,rfl,I1.kept (t':=s1.toks) λb o e=>Heap.get?_push_of_some _ e,vw a _,⟨_,Heap.get?_push_size _ rfl,rfl,rfl⟩,λb hb=>?_,q⟩
 have e:b=s1.heap.objs.size:=by simpa using hb
 subst e
 exact I1.fpOk (EL _) (I1.hok.fresh (EL _))
theorem pE{pins:List (Addr × Obj)}{σ:St}{H:Hp}{s:Shared}{R:It->Hp->Prop}{E:Value->Shared->Prop}{lo hi:Int}{t u v:Tok}{tk:Nat}(I:Inv X pins σ H s)(h1: -(2 ^ 62)<=lo)(h2:lo<2 ^ 62)(h3: -(2 ^ 62)<=hi)(h4:hi<2 ^ 62)
  (q:R (Itr lo (hi - lo).toNat) H):wpAny (model X.prog X.w) X.A (pyIter (.ref s.heap.objs.size)) (PIE X pins σ tg R) E {s with heap:=s.heap.push {cls:= .type "range",data:= .fields #[.int lo t,.int hi u,.int 1 v]},toks:=tk}:=by
 refine wpAny_pyIter_range (IsRange.new ..) (small_one h1 h2 h3 h4) ?_
 have I1:Inv X pins σ H {s with heap:=s.heap.push {cls:= .type "range",data:= .fields #[.int lo t,.int hi u,.int 1 v]},toks:=tk}:=I.kept λb o e=>Heap.get?_push_of_some _ e
 refine⟨(s.heap.push {cls:= .type "range",data:= .fields #[.int lo t,.int hi u,.int 1 v]}).objs.size,[(s.heap.push {cls:= .type "range",data:= .fields #[.int lo t,.int hi u,.int 1 v]}).objs.size],_,_,H,rfl,
  I1.kept (t':=tk) λb o e=>Heap.get?_push_of_some _ e,vx _ lo (hi - lo).toNat,?_,λb hb=>?_,q⟩
 ·have e1:lo+((0:Nat):Int)*1=lo:=by simp
  have e2:(((hi - lo).toNat:Nat):Int) - ((0:Nat):Int)=Builtin.Range.rangeSize lo hi 1:=by rw[rangeSize_one];split<;>lia
  show IsRangeIter _ _ (lo+((0:Nat):Int)*1) ((((hi - lo).toNat:Nat):Int) - ((0:Nat):Int)) 1
  rw[e1,e2]
  exact Heap.get?_push_size _ rfl
 ·have e:b=(s.heap.push {cls:= .type "range",data:= .fields #[.int lo t,.int hi u,.int 1 v]}).objs.size:=by simpa using hb
  subst e
  exact I1.fpOk (EL _) (I1.hok.fresh (EL _))
def pF(ta:TA):TI:=λσ H R=>ta σ H λvs H1=>∃ j:Int,vs=[.int j]/\-(2 ^ 62)<=j/\j<2 ^ 62/\R (Itr 0 j.toNat) H1
def pG(ta:TA):TI:=λσ H R=>ta σ H λvs H1=>∃ i j:Int,vs=[.int i,.int j]/\(-(2 ^ 62)<=i/\i<2 ^ 62/\-(2 ^ 62)<=j/\j<2 ^ 62)/\R (Itr i (j - i).toNat) H1
theorem fY{a:Expr}{ta:TA}{p pos:Pos}(hg:Gl X "range")(hm:X.mg "range"=none)(ha:PA X [a] ta)(hs:starEach [a] X.env=[(false,eval a X.env)]:=by rfl):PI X tg (.Call (.Name "range" p) [a] [] pos) (pF ta):=by
 intro pins s σ H R I h
 refine Call_ (dv I hg hm boot_range (PyProof.Rows.callWith_type1 (thn (ha pos pins s σ H _ I h) λus s1 ⟨vs,H1,I1,r1,q1⟩=>?_) hs rfl))
 obtain⟨j,e,q1,q2,q⟩:=q1
 subst e
 cases r1 with
 |cons r rr=>
  cases rr
  obtain⟨t,rfl⟩:=r
  exact call_range_1 (pE I1 (by lia) (by lia) q1 q2 (by simpa using q))
theorem vy{a b:Expr}{ta:TA}{p pos:Pos}(hg:Gl X "range")(hm:X.mg "range"=none)(ha:PA X [a,b] ta)(hs:starEach [a,b] X.env=[(false,eval a X.env),(false,eval b X.env)]:=by rfl)(m4:starEach [b] X.env=[(false,eval b X.env)]:=by rfl):
  PI X tg (.Call (.Name "range" p) [a,b] [] pos) (pG ta):=by
 intro pins s σ H R I h
 refine Call_ (dv I hg hm boot_range (PyProof.Rows.callWith_type1 (thn (ha pos pins s σ H _ I h) λus s1 ⟨vs,H1,I1,r1,q1⟩=>?_) (by rw[hs,m4]) (by rw[m4];rfl)))
 obtain⟨i,j,e,⟨q1,q2,q3,q4⟩,q⟩:=q1
 subst e
 cases r1 with
 |cons r rr=>
  cases rr with
  |cons r' rr=>
   cases rr
   obtain⟨t,rfl⟩:=r
   obtain⟨t',rfl⟩:=r'
   exact call_range_2 (pE I1 q1 q2 q3 q4 q)
def tFor(wi:TI)(g:TG)(tb:TS):TS:=λD σ H=>wi σ H λJ H1=>∃ W:Nat->Nat->St->Hp->Prop,(∃ m,W 0 m σ H1)/\∀ i m σ H,W i m σ H->
 (J.stop i H/\D.nx σ H)\/(J.go i H/\∃ N:St->Hp->Prop,(∀ σ' H',N σ' H'->∃ m',m'<m/\W (i+1) m' σ' H')/\∀ x H',J.yld i H x H'->g x σ H' λσ2 H2=>tb {D with nx:=N,ct:=N,bk:=D.nx} σ2 H2)
def fZ(fp:List Addr)(h:Heap):List (Addr × Obj):=fp.filterMap λb=>(h.get? b).map λo=>(b,o)
theorem cB{fp:List Addr}{h:Heap}{b:Addr}{o:Obj}(hb:b∈fp)(e:h.get? b=some o):(b,o)∈fZ fp h:=Hc.mpr ⟨b,hb,by rw[e];rfl⟩
theorem vz{fp:List Addr}{h:Heap}{p:Addr × Obj}(hp:p∈fZ fp h):p.1∈fp/\h.get? p.1=some p.2:=by
 obtain⟨b,hb,e⟩:=Hc.mp hp
 cases q:h.get? b with
 |none=>rw[q] at e;cases e
 |some o=>
  rw[q] at e
  have e':(b,o)=p:=Option.some.inj e
  subst e'
  exact⟨hb,q⟩
theorem Inv.pinned{pins:List (Addr × Obj)}{σ:St}{H:Hp}{s:Shared}{fp:List Addr}(I:Inv X pins σ H s)(hf:∀ b∈fp,FpOk X pins H b)(ho:∀ b∈fp,∃ o,s.heap.get? b=some o/\∀ v,o.data≠.cell v):Inv X (pins++fZ fp s.heap) σ H s:=
 I.pins_of λp hp=>(Ff.mp hp).elim (λz=>I.pin p (E4 _ z)) λz=>by
  obtain⟨hb,e⟩:=vz z
  obtain⟨f0,f1,f2,_⟩:=hf p.1 hb
  obtain⟨o,e',d⟩:=ho p.1 hb
  rw[e] at e';cases e'
  exact⟨e,f0,f1,f2,d⟩
theorem Inv.unpinned{pins pl:List (Addr × Obj)}{σ:St}{H:Hp}{s:Shared}(I:Inv X (pins++pl) σ H s):Inv X pins σ H s:=I.pins_of λp hp=>I.pin p (E4 _ (FG _ hp))
theorem dX{iter:Expr}{body:List Stmt}{wi:TI}{g:TG}{tb:TS}{pos:Pos}(hp:PassesOwn (model X.prog X.w) X.A X.env X.xe)(hc:X.calm=true)(hi:PI X tg iter wi)(hg:PG X tg g)(hb:PSs X body tb)
  (hs:∀ x,foldedSetIterable iter X.env x=pure x:=by intro _;rfl):PS X (.For tg iter body [] pos) (tFor wi g tb):=by
 intro pins s σ H D I h
 refine wpAny_For (thn (hi pins s σ H _ I h) λv s1 h1=>thn h1 λKC s2 h2=>?_) hs
 obtain⟨it,fp,tn,J,H2,e,I2,T,Iz,f2,W,⟨m0,w0⟩,b_⟩:=h2
 subst e
 -- JE Nw true of pc IA x9 through pc q8
 have g7:∀ {H':Hp},(∀ b∈fp,H' b=none)->∀ b∈fp,FpOk X pins H' b:=λhn b hb=>⟨hn b hb,(f2 b hb).2⟩
 refine codeAny_forLoop_any (λn s'=>∃ i σ' H',Inv X pins σ' H' s'/\tn i s'.heap/\(∀ b∈fp,H' b=none)/\W i n σ' H') ?_ m0 ⟨0,σ,H2,I2,Iz,λb hb=>(f2 b hb).1,w0⟩
 rintro n s3 ⟨i,σ3,H3,I3,Ic,Nx,w3⟩
 rcases b_ i n σ3 H3 w3 with⟨stop,qn⟩|⟨go,N,hN,step⟩
 ·refine wpAny_passesOwn hp (thn (T.done X rfl rfl rfl hc i pins s3 σ3 H3 X.xe I3 (g7 Nx) Ic stop) λr s4 ⟨hr,I4⟩=>?_)
  subst hr
  exact wpAny_execs_nil ⟨σ3,H3,I4,qn⟩
 ·refine wpAny_passesOwn hp (thn (T.item X rfl rfl rfl hc i pins s3 σ3 H3 X.xe I3 (g7 Nx) Ic go) λr s4 ⟨u,hr,h4⟩=>?_)
  subst hr
  refine wpAny_passesOwn hp (thn h4 λ_ s5 ⟨x,H5,I5,r5,y5,m8,JF⟩=>?_)
  have Ou:=I5.pinned (g7 JF) (T.obj _ _ m8)
  refine wpAny_passesOwn hp (thn (hg _ s5 σ3 H5 x u _ Ou r5 (step x H5 y5)) λ_ s6 ⟨σ6,H6,I6,q6⟩=>?_)
  refine wpAny_passesOwn hp (thn (hb _ s6 σ6 H6 _ I6 q6) λf s7 q7=>?_)
  have again:∀ {σ7:St} {H7:Hp},Inv X (pins++fZ fp s5.heap) σ7 H7 s7->N σ7 H7->∃ m,m<n/\∃ i σ' H',Inv X pins σ' H' s7/\tn i s7.heap/\(∀ b∈fp,H' b=none)/\W i m σ' H':=λ{σ7 H7} I7 n7=>by
   obtain⟨m',hm,w7⟩:=hN σ7 H7 n7
   refine⟨m',hm,i+1,σ7,H7,I7.unpinned,T.keep _ _ _ m8 λb hb o e=>(I7.pin (b,o) (E4 _ (E4 _ (cB hb e)))).1,λb hb=>?_,w7⟩
   obtain⟨o,e,d⟩:=T.obj _ _ m8 b hb
   exact(I7.pin (b,o) (E4 _ (E4 _ (cB hb e)))).2.1
  cases f with
  |next=>obtain⟨σ7,H7,I7,n7⟩:=q7;exact again I7 n7
  |cont=>obtain⟨σ7,H7,I7,n7⟩:=q7;exact again I7 n7
  |brk=>obtain⟨σ7,H7,I7,q7⟩:=q7;exact⟨σ7,H7,I7.unpinned,q7⟩
  |ret v=>obtain⟨x7,σ7,H7,I7,r7,q7⟩:=q7;exact⟨x7,σ7,H7,I7.unpinned,r7,q7⟩
end
theorem pH{K:Ex}{a:Addr}{xs:List V}{g:TG}{tb:TS}{D:Ends}{σ:St}{H:Hp}(Pv:Nat->St->Hp->Prop)(h0:Pv 0 σ H)(hl:∀ i σ H,i<=xs.length->Pv i σ H->SqL K H a xs)
  (hs:∀ i x σ H,xs[i]?=some x->Pv i σ H->g x σ H λσ2 H2=>tb {D with nx:=Pv (i+1),ct:=Pv (i+1),bk:=D.nx} σ2 H2) (hd:∀ σ H,Pv xs.length σ H->D.nx σ H):
  ∃ W:Nat->Nat->St->Hp->Prop,(∃ m,W 0 m σ H)/\∀ i m σ H,W i m σ H->
   ((Itl K a).stop i H/\D.nx σ H)\/((Itl K a).go i H/\∃ N:St->Hp->Prop,(∀ σ' H',N σ' H'->∃ m',m'<m/\W (i+1) m' σ' H')/\∀ x H',(Itl K a).yld i H x H'->g x σ H' λσ2 H2=>tb {D with nx:=N,ct:=N,bk:=D.nx} σ2 H2):=by
 refine⟨λi m σ H=>m=xs.length - i/\i<=xs.length/\Pv i σ H,⟨xs.length,by simp,Fj _,h0⟩,?_⟩
 rintro i m σ H ⟨rfl,hi,p⟩
 have q:=hl i σ H hi p
 by_cases gV:i<xs.length
 ·refine .inr ⟨⟨xs,xs[i],q,by simp[gV]⟩,Pv (i+1),λσ' H' p'=>⟨xs.length - (i+1),by lia,rfl,gV,p'⟩,λx H' y=>?_⟩
  obtain⟨e,y⟩:=y
  subst e
  exact hs i x σ _ (y xs q) p
 ·have e:i=xs.length:=by lia
  subst e
  exact .inl ⟨⟨xs,q,EL _⟩,hd σ H p⟩
theorem pI{lo:Int}{n:Nat}{g:TG}{tb:TS}{D:Ends}{σ:St}{H:Hp}(Pv:Nat->St->Hp->Prop)(h0:Pv 0 σ H)
  (hs:∀ i σ H,i<n->Pv i σ H->g (.int (lo+i)) σ H λσ2 H2=>tb {D with nx:=Pv (i+1),ct:=Pv (i+1),bk:=D.nx} σ2 H2) (hd:∀ σ H,Pv n σ H->D.nx σ H):
  ∃ W:Nat->Nat->St->Hp->Prop,(∃ m,W 0 m σ H)/\∀ i m σ H,W i m σ H->
   ((Itr lo n).stop i H/\D.nx σ H)\/((Itr lo n).go i H/\∃ N:St->Hp->Prop,(∀ σ' H',N σ' H'->∃ m',m'<m/\W (i+1) m' σ' H')/\∀ x H',(Itr lo n).yld i H x H'->g x σ H' λσ2 H2=>tb {D with nx:=N,ct:=N,bk:=D.nx} σ2 H2):=by
 refine⟨λi m σ H=>m=n - i/\i<=n/\Pv i σ H,⟨n,by simp,Fj _,h0⟩,?_⟩
 rintro i m σ H ⟨rfl,hi,p⟩
 by_cases gV:i<n
 ·refine .inr ⟨gV,Pv (i+1),λσ' H' p'=>⟨n - (i+1),by lia,rfl,gV,p'⟩,λx H' y=>?_⟩
  obtain⟨e,y⟩:=y
  subst e y
  exact hs i σ _ gV p
 ·have e:i=n:=by lia
  subst e
  exact .inl ⟨EL _,hd σ H p⟩
abbrev R2:=V->V->Hp->VK->Prop
def OpR(X:Cx)(f:Value->Value->Sem Value)(r:R2):Prop:=
 ∀ (pins:List (Addr × Obj)) (s:Shared) (σ:St) (H:Hp) (x y:V) (v u:Value) (Q:VK),Inv X pins σ H s->RelV x v->RelV y u->r x y H Q->
  wpAny (model X.prog X.w) X.A (f v u) (EP X pins σ Q) X.xe s
def UnR(X:Cx)(f:Value->Sem Value)(r:V->Hp->VK->Prop):Prop:=
 ∀ (pins:List (Addr × Obj)) (s:Shared) (σ:St) (H:Hp) (x:V) (v:Value) (Q:VK),Inv X pins σ H s->RelV x v->r x H Q->
  wpAny (model X.prog X.w) X.A (f v) (EP X pins σ Q) X.xe s
def bA(X:Cx)(f:Value)(r:List V->Hp->VK->Prop):Prop:=
 ∀ (pins:List (Addr × Obj)) (s:Shared) (σ:St) (H:Hp) (xs:List V) (us:List Value) (Q:VK),Inv X pins σ H s->Vals xs us->r xs H Q->
  wpAny (model X.prog X.w) X.A (call f us) (EP X pins σ Q) X.xe s
def TruR(X:Cx)(r:V->Hp->(Bool->Hp->Prop)->Prop):Prop:=
 ∀ (pins:List (Addr × Obj)) (s:Shared) (σ:St) (H:Hp) (x:V) (v:Value) (Q:Bool->Hp->Prop),Inv X pins σ H s->RelV x v->r x H Q->
  wpAny (model X.prog X.w) X.A (truthy v) (TP X pins σ Q) X.xe s
def tOp(r:R2)(ta tb:TE):TE:=λσ H Q=>ta σ H λx H1=>tb σ H1 λy H2=>r x y H2 Q
def tUn(r:V->Hp->VK->Prop)(ta:TE):TE:=λσ H Q=>ta σ H λx H1=>r x H1 Q
def rI(C:Int->Int->Prop)(g:Int->Int->V):R2:=λx y H Q=>∃ i j,x= .int i/\y= .int j/\C i j/\Q (g i j) H
def rI0(g:Int->Int->V):R2:=λx y H Q=>∃ i j,x= .int i/\y= .int j/\Q (g i j) H
def rU(g:Int->V):V->Hp->VK->Prop:=λx H Q=>∃ i,x= .int i/\Q (g i) H
section
variable {X:Cx}{a b c:Expr}{ta tb tc:TE}{pos:Pos}
theorem binT(ha:PE X a ta)(hb:PE X b tb){pins:List (Addr × Obj)}{s:Shared}{σ:St}{H:Hp}{R:V->V->Hp->Prop}(I:Inv X pins σ H s)
  (h:ta σ H λx H1=>tb σ H1 λy H2=>R x y H2) {Q:Value->Shared->Prop} {f:Value->Value->Sem Value}
  (hf:∀ v u s2 x y H2,Inv X pins σ H2 s2->RelV x v->RelV y u->R x y H2->wpAny (model X.prog X.w) X.A (f v u) Q X.xe s2):
  wpAny (model X.prog X.w) X.A (eval a X.env) (λv s₁=>wpAny (model X.prog X.w) X.A (eval b X.env) (λu s₂=>wpAny (model X.prog X.w) X.A (f v u) Q X.xe s₂) X.xe s₁) X.xe s:=by
 refine thn (ha pins s σ H _ I h) λv s1 ⟨x,H1,I1,r1,q1⟩=>?_
 refine thn (hb pins s1 σ H1 _ I1 q1) λu s2 ⟨y,H2,I2,r2,q2⟩=>?_
 exact hf v u s2 x y H2 I2 r1 r2 q2
theorem pJ{op:Operator}{r:R2}(ho:OpR X (binaryOp op) r)(ha:PE X a ta)(hb:PE X b tb):PE X (.BinOp a op b pos) (tOp r ta tb):=by
 intro pins s σ H Q I h
 exact wpAny_BinOp (binT ha hb I h λv u s2 x y H2 I2 rx ry q=>ho pins s2 σ H2 x y v u Q I2 rx ry q)
theorem vA{op:UnaryOp}{r:V->Hp->VK->Prop}(ho:UnR X (unaryOp op) r)(ha:PE X a ta):PE X (.UnaryOp op a pos) (tUn r ta):=by
 intro pins s σ H Q I h
 exact UnaryOp_ (thn (ha pins s σ H _ I h) λv s1 ⟨x,H1,I1,r1,q1⟩=>ho pins s1 σ H1 x v Q I1 r1 q1)
theorem opI{f:Value->Value->Sem Value}{C:Int->Int->Prop}{g:Int->Int->Int}
  (rule:∀ (i j:Int) (t u:Tok) (s:Shared) (Q:Value->Shared->Prop) (E:Value->Shared->Prop),C i j->Q (.int (g i j) s.toks) {s with toks:=s.toks+1}->wpAny (model X.prog X.w) X.A (f (.int i t) (.int j u)) Q E s):
  OpR X f (rI C λi j=> .int (g i j)):=by
 intro pins s σ H x y v u Q I rx ry h
 obtain⟨i,j,rfl,rfl,hc,q⟩:=h
 obtain⟨t,rfl⟩:=rx
 obtain⟨t',rfl⟩:=ry
 exact rule i j t t' s _ _ hc ⟨.int (g i j),H,I.tok _,⟨_,rfl⟩,q⟩
theorem opI0{f:Value->Value->Sem Value}{g:Int->Int->Int}
  (rule:∀ (i j:Int) (t u:Tok) (s:Shared) (Q:Value->Shared->Prop) (E:Value->Shared->Prop),Q (.int (g i j) s.toks) {s with toks:=s.toks+1}->wpAny (model X.prog X.w) X.A (f (.int i t) (.int j u)) Q E s):
  OpR X f (rI0 λi j=> .int (g i j)):=by
 intro pins s σ H x y v u Q I rx ry h
 obtain⟨i,j,rfl,rfl,q⟩:=h
 obtain⟨t,rfl⟩:=rx
 obtain⟨t',rfl⟩:=ry
 exact rule i j t t' s _ _ ⟨.int (g i j),H,I.tok _,⟨_,rfl⟩,q⟩
theorem opB0{f:Value->Value->Sem Value}{g:Int->Int->Bool}
  (rule:∀ (i j:Int) (t u:Tok) (s:Shared) (Q:Value->Shared->Prop) (E:Value->Shared->Prop),Q (.bool (g i j)) s->wpAny (model X.prog X.w) X.A (f (.int i t) (.int j u)) Q E s):
  OpR X f (rI0 λi j=> .bl (g i j)):=by
 intro pins s σ H x y v u Q I rx ry h
 obtain⟨i,j,rfl,rfl,q⟩:=h
 obtain⟨t,rfl⟩:=rx
 obtain⟨t',rfl⟩:=ry
 exact rule i j t t' s _ _ ⟨.bl (g i j),H,I,rfl,q⟩
def CDiv(i j:Int):Prop:=0<j/\j<1073741824
def CMul(i j:Int):Prop:=(-(2 ^ 64)<i/\i<2 ^ 64)\/(-(2 ^ 64)<j/\j<2 ^ 64)
theorem CMul.ok{i j:Int}(h:CMul i j):IntMulOk i j:=by
 rcases h with⟨h1,h2⟩|⟨h1,h2⟩
 ·exact .of_left (intBits_le_64 h1 h2)
 ·exact .of_right (intBits_le_64 h1 h2)
theorem vB:OpR X (binaryOp .Add) (rI0 λi j=> .int (i+j)):=opI0 λ_ _ _ _ _ _ _ q=>add_int q
theorem pK:OpR X (binaryOp .Sub) (rI0 λi j=> .int (i - j)):=opI0 λ_ _ _ _ _ _ _ q=>sub_int q
theorem vC:OpR X (binaryOp .Mult) (rI CMul λi j=> .int (i*j)):=opI λ_ _ _ _ _ _ _ hc q=>mul_int q hc.ok
theorem vD:OpR X (binaryOp .FloorDiv) (rI CDiv λi j=> .int (i / j)):=opI λi j _ _ _ _ _ hc q=>by
 have h1:(0:Int)<j:=hc.1
 have h2:j<1073741824:=hc.2
 exact floordiv_int (by lia) (by rw[Int.fdiv_eq_ediv_of_nonneg i (by lia)];exact q) (.inl (PyProof.noPylong_small (by lia)))
theorem vE:OpR X (binaryOp .Mod) (rI (λ_ j=>0<j) λi j=> .int (i % j)):=opI λi j _ _ _ _ _ hc q=>by
 have h1:(0:Int)<j:=hc
 exact mod_int' (by lia) (by rw[Int.fmod_eq_emod_of_nonneg i (by lia)];exact q)
theorem vF:OpR X (binaryOp .Mod) (rI (λ_ j=>j≠0) λi j=> .int (i.fmod j)):=opI λ_ _ _ _ _ _ _ hc q=>mod_int' hc q
theorem unI{f:Value->Sem Value}{g:Int->Int}
  (rule:∀ (i:Int) (t:Tok) (s:Shared) (Q:Value->Shared->Prop) (E:Value->Shared->Prop),Q (.int (g i) s.toks) {s with toks:=s.toks+1}->wpAny (model X.prog X.w) X.A (f (.int i t)) Q E s):
  UnR X f (rU λi=> .int (g i)):=by
 intro pins s σ H x v Q I rx h
 obtain⟨i,rfl,q⟩:=h
 obtain⟨t,rfl⟩:=rx
 exact rule i t s _ _ ⟨.int (g i),H,I.tok _,⟨_,rfl⟩,q⟩
theorem vG:UnR X (unaryOp .USub) (rU λi=> .int (-i)):=unI λ_ _ _ _ _ q=>neg_int q
end
def scal:V->V->Bool
 | .non,.non=>true| .non,.int _=>true| .int _,.non=>true| .non,.bl _=>true| .bl _,.non=>true| .non,.str _=>true| .str _,.non=>true
 | .int _,.int _=>true| .bl _,.bl _=>true| .str _,.str _=>true| .byt _,.byt _=>true
 | .int _,.str _=>true| .str _,.int _=>true| .bl _,.str _=>true| .str _,.bl _=>true
 |_,_=>false
def rEq:R2:=λx y H Q=>scal x y=true/\Q (.bl (decide (x=y))) H
def rNe:R2:=λx y H Q=>scal x y=true/\Q (.bl (!decide (x=y))) H
theorem pL{i j:Int}:decide (V.int i=V.int j)=(i==j):=by
 rw[FX]
 simp
theorem pM{i j:Bool}:decide (V.bl i=V.bl j)=(i==j):=by
 rw[FX]
 simp
theorem pN{i j:Str}:decide (V.str i=V.str j)=(i==j):=by
 rw[FX]
 simp
theorem pO{i j:Array UInt8}:decide (V.byt i=V.byt j)=(i.toList==j.toList):=by
 rw[FX]
 cases i
 cases j
 simp
section
variable {X:Cx}{a b c:Expr}{ta tb tc:TE}{pos:Pos}
theorem aO{pins:List (Addr × Obj)}{σ:St}{H:Hp}{s:Shared}{Q:VK}{k k':Bool}(I:Inv X pins σ H s)(q:Q (.bl k) H)(e:k=k'):EP X pins σ Q (.bool k') s:=by
 subst e
 exact⟨.bl k,H,I,rfl,q⟩
theorem jp:OpR X (compareOp .Eq) rEq:=by
 intro pins s σ H x y v u Q I rx ry h
 obtain⟨hs,q⟩:=h
 cases x with
 |non=>
  cases rx
  cases y with
  |non=>cases ry;exact PySem.EqNone.eq_none_none (aO I q (by simp))
  |bl j=>cases ry;exact PySem.EqNone.eq_none_bool (aO I q (by simp))
  |int j=>obtain⟨t',rfl⟩:=ry;exact PySem.EqNone.eq_none_int (aO I q (by simp))
  |str j=>obtain⟨t',rfl⟩:=ry;exact PySem.EqNone.eq_none_str (aO I q (by simp))
  |_=>exact absurd (show false=true from hs) E2
 |bl i=>
  cases rx
  cases y with
  |non=>cases ry;exact PySem.EqNone.eq_bool_none (aO I q (by simp))
  |bl j=>cases ry;exact eq_bool (aO I q pM)
  |str j=>obtain⟨t',rfl⟩:=ry;exact PySem.EqMixed.eq_bool_str (aO I q (by simp))
  |_=>exact absurd (show false=true from hs) E2
 |int i=>
  obtain⟨t,rfl⟩:=rx
  cases y with
  |non=>cases ry;exact PySem.EqNone.eq_int_none (aO I q (by simp))
  |int j=>obtain⟨t',rfl⟩:=ry;exact eq_int (aO I q pL)
  |str j=>obtain⟨t',rfl⟩:=ry;exact PySem.EqMixed.eq_int_str (aO I q (by simp))
  |_=>exact absurd (show false=true from hs) E2
 |str i=>
  obtain⟨t,rfl⟩:=rx
  cases y with
  |non=>cases ry;exact PySem.EqNone.eq_str_none (aO I q (by simp))
  |bl j=>cases ry;exact PySem.EqMixed.eq_str_bool (aO I q (by simp))
  |int j=>obtain⟨t',rfl⟩:=ry;exact PySem.EqMixed.eq_str_int (aO I q (by simp))
  |str j=>obtain⟨t',rfl⟩:=ry;exact eq_str (aO I q pN)
  |_=>exact absurd (show false=true from hs) E2
 |byt i=>
  obtain⟨t,rfl⟩:=rx
  cases y with
  |byt j=>obtain⟨t',rfl⟩:=ry;exact eq_bytes (aO I q pO)
  |_=>exact absurd (show false=true from hs) E2
 |_=>cases y<;>exact absurd (show false=true from hs) E2
theorem vH:OpR X (compareOp .NotEq) rNe:=by
 intro pins s σ H x y v u Q I rx ry h
 obtain⟨hs,q⟩:=h
 cases x with
 |non=>
  cases rx
  cases y with
  |non=>cases ry;exact PySem.EqNone.ne_none_none (aO I q (by simp))
  |bl j=>cases ry;exact PySem.EqNone.ne_none_bool (aO I q (by simp))
  |int j=>obtain⟨t',rfl⟩:=ry;exact PySem.EqNone.ne_none_int (aO I q (by simp))
  |str j=>obtain⟨t',rfl⟩:=ry;exact PySem.EqNone.ne_none_str (aO I q (by simp))
  |_=>exact absurd (show false=true from hs) E2
 |bl i=>
  cases rx
  cases y with
  |non=>cases ry;exact PySem.EqNone.ne_bool_none (aO I q (by simp))
  |bl j=>cases ry;exact ne_bool (aO I q (congrArg not pM))
  |str j=>obtain⟨t',rfl⟩:=ry;exact PySem.EqMixed.ne_bool_str (aO I q (by simp))
  |_=>exact absurd (show false=true from hs) E2
 |int i=>
  obtain⟨t,rfl⟩:=rx
  cases y with
  |non=>cases ry;exact PySem.EqNone.ne_int_none (aO I q (by simp))
  |int j=>obtain⟨t',rfl⟩:=ry;exact ne_int (aO I q (congrArg not pL))
  |str j=>obtain⟨t',rfl⟩:=ry;exact PySem.EqMixed.ne_int_str (aO I q (by simp))
  |_=>exact absurd (show false=true from hs) E2
 |str i=>
  obtain⟨t,rfl⟩:=rx
  cases y with
  |non=>cases ry;exact PySem.EqNone.ne_str_none (aO I q (by simp))
  |bl j=>cases ry;exact PySem.EqMixed.ne_str_bool (aO I q (by simp))
  |int j=>obtain⟨t',rfl⟩:=ry;exact PySem.EqMixed.ne_str_int (aO I q (by simp))
  |str j=>obtain⟨t',rfl⟩:=ry;exact ne_str (aO I q (congrArg not pN))
  |_=>exact absurd (show false=true from hs) E2
 |byt i=>
  obtain⟨t,rfl⟩:=rx
  cases y with
  |byt j=>obtain⟨t',rfl⟩:=ry;exact ne_bytes (aO I q (congrArg not pO))
  |_=>exact absurd (show false=true from hs) E2
 |_=>cases y<;>exact absurd (show false=true from hs) E2
theorem pP:OpR X (compareOp .Lt) (rI0 λi j=> .bl (decide (i<j))):=opB0 λ_ _ _ _ _ _ _ q=>lt_int q
theorem vI:OpR X (compareOp .LtE) (rI0 λi j=> .bl (decide (i<=j))):=opB0 λ_ _ _ _ _ _ _ q=>le_int q
theorem vJ:OpR X (compareOp .Gt) (rI0 λi j=> .bl (decide (j<i))):=opB0 λ_ _ _ _ _ _ _ q=>gt_int q
theorem vK:OpR X (compareOp .GtE) (rI0 λi j=> .bl (decide (j<=i))):=opB0 λ_ _ _ _ _ _ _ q=>ge_int q
theorem jq:OpR X (compareOp .Is) (λx y H Q=>y= .non/\Q (.bl (decide (x= .non))) H):=by
 intro pins s σ H x y v u Q I rx ry h
 obtain⟨rfl,q⟩:=h
 cases ry
 refine is_none_gen (aO I q ?_)
 cases x<;>first
  |(cases rx;rfl)
  |(obtain⟨t,rfl⟩:=rx;rfl)
theorem vL:OpR X (compareOp .IsNot) (λx y H Q=>y= .non/\Q (.bl (!decide (x= .non))) H):=by
 intro pins s σ H x y v u Q I rx ry h
 obtain⟨rfl,q⟩:=h
 cases ry
 refine isnot_none_gen (aO I q ?_)
 cases x<;>first
  |(cases rx;rfl)
  |(obtain⟨t,rfl⟩:=rx;rfl)
theorem OpR.or{f:Value->Value->Sem Value}{r r':R2}(h:OpR X f r)(h':OpR X f r'):OpR X f (λx y H Q=>r x y H Q\/r' x y H Q):=by
 intro pins s σ H x y v u Q I rx ry q
 rcases q with q|q
 ·exact h pins s σ H x y v u Q I rx ry q
 ·exact h' pins s σ H x y v u Q I rx ry q
theorem nomark(b:Expr){op:CmpOp}(h:op≠.In:=by decide)(h2:op≠.NotIn:=by decide):behindInMarks op b=false:=by
 have e1:(op==CmpOp.In)=false:=by cases op<;>first|rfl|exact absurd rfl h
 have e2:(op==CmpOp.NotIn)=false:=by cases op<;>first|rfl|exact absurd rfl h2
 cases b<;>simp[behindInMarks,e1,e2]
theorem vM{op:CmpOp}{r:R2}(ho:OpR X (compareOp op) r)(ha:PE X a ta)(hb:PE X b tb)(hm:behindInMarks op b=false):PE X (.Compare a [op] [b] pos) (tOp r ta tb):=by
 intro pins s σ H Q I h
 exact wpAny_Compare1 (binT ha hb I h λv u s2 x y H2 I2 rx ry q=>ho pins s2 σ H2 x y v u Q I2 rx ry q) hm
def vN(t:TE):TT:=λσ H Q=>t σ H λx H'=>∃ k,x= .bl k/\Q k H'
theorem pQ{op:CmpOp}{r:R2}(ho:OpR X (compareOp op) r)(ha:PE X a ta)(hb:PE X b tb)(hm:behindInMarks op b=false):PT X (.Compare a [op] [b] pos) (vN (tOp r ta tb)):=by
 intro pins s σ H Q I h
 refine wpAny_isTrue_Compare1 (thn (ha pins s σ H _ I h) λv s1 ⟨x,H1,I1,r1,q1⟩=>thn (hb pins s1 σ H1 _ I1 q1) λu s2 ⟨y,H2,I2,r2,q2⟩=>
  thn (ho pins s2 σ H2 x y v u _ I2 r1 r2 q2) λc s3 ⟨z,H3,I3,r3,k,e,q3⟩=>?_) hm
 subst e
 cases r3
 exact wpAny_truthy_bool ⟨H3,I3,q3⟩
def TruV(K:Ex)(x:V)(H:Hp)(k:Bool):Prop:=
 match x with
 | .non=>k=false
 | .bl b=>k=b
 | .int i=>k=(i !=0)
 | .str y=>y.length<=sizeLine/\k=((y.length:Int) !=0)
 | .byt y=>y.size<=sizeLine/\k=((y.size:Int) !=0)
 | .ref p=>(∃ xs,SqL K H p xs/\k=!xs.isEmpty)\/(∃ xs,SqT K H p xs/\k=!xs.isEmpty)\/∃ a8,H p=some (.dK a8)/\k=!a8.isEmpty
 |_=>False
theorem vO{κ:Type}{a8:List (κ × V)}{vs:List (κ × Value)}(r:KV a8 vs):(!vs.isEmpty)=!a8.isEmpty:=by
 cases r<;>rfl
theorem isEmpty_of{xs:List V}{its:List Value}(r:Vals xs its):(!its.toArray.isEmpty)=!xs.isEmpty:=by
 cases r<;>simp
theorem line63:(sizeLine:Nat)<2 ^ 63:=by rw[sizeLine_eq];decide
theorem vP:TruR X (λx H Q=>∃ k,TruV X.K x H k/\Q k H):=by
 intro pins s σ H x v Q I rx h
 obtain⟨k,e,q⟩:=h
 have hl:=line63
 have hs:sizeLine=16777216:=sizeLine_eq
 cases x with
 |non=>
  cases rx
  have e':k=false:=e
  subst e'
  exact truthy_none ⟨H,I,q⟩
 |bl b=>
  cases rx
  have e':k=b:=e
  subst e'
  exact wpAny_truthy_bool ⟨H,I,q⟩
 |int i=>
  obtain⟨t,rfl⟩:=rx
  have e':k=(i !=0):=e
  subst e'
  exact PySem.P.truthy_int ⟨H,I,q⟩
 |str y=>
  obtain⟨t,rfl⟩:=rx
  obtain⟨hy,e'⟩:y.length<=sizeLine/\k=((y.length:Int) !=0):=e
  subst e'
  exact PySem.P.truthy_str (by lia) ⟨H,I.tok _,q⟩
 |byt y=>
  obtain⟨t,rfl⟩:=rx
  obtain⟨hy,e'⟩:y.size<=sizeLine/\k=((y.size:Int) !=0):=e
  subst e'
  exact truthy_bytes (by lia) ⟨H,I.tok _,q⟩
 |ref p=>
  cases rx
  have e':(∃ xs,SqL X.K H p xs/\k=!xs.isEmpty)\/(∃ xs,SqT X.K H p xs/\k=!xs.isEmpty)\/∃ a8,H p=some (.dK a8)/\k=!a8.isEmpty:=e
  rcases e' with⟨xs,hx,e'⟩|⟨xs,hx,e'⟩|⟨a8,hx,e'⟩
  ·subst e'
   obtain⟨its,r,pl,hz⟩:=I.list hx
   have a_:=r.length
   exact wpAny_truthy_list pl.isList (by simp only[ER];lia) ⟨H,I.tok _,by rw[isEmpty_of r];exact q⟩
  ·subst e'
   obtain⟨its,r,pl,hz⟩:=I.tuple hx
   have a_:=r.length
   exact truthy_tuple pl (by simp only[ER];lia) ⟨H,I.tok _,by rw[isEmpty_of r];exact q⟩
  ·subst e'
   obtain⟨hz,hS,vs,r,m⟩:a8.length<=sizeLine/\(p==sysModules)=false/\∃ vs,KV a8 vs/\s.heap.DictOf (bF X.prog X.w) p vs:=I.hok p _ hx
   have a_:a8.length=vs.length:=Paired.length r
   exact wpAny_truthy_dict hS m (by lia) ⟨H,I.tok _,by rw[vO r];exact q⟩
 |_=>exact(show False from e).elim
theorem vQ(ha:PE X a ta)(he:∀ g6,isTrue a X.env g6=(do let v <- g6;standAt a.pos;holding [v] (truthy v))):
  PT X a (λσ H Q=>ta σ H λx H'=>∃ k,TruV X.K x H' k/\Q k H'):=by
 intro pins s σ H Q I h
 exact isTrue_plain (thn (ha pins s σ H _ I h) λv s1 ⟨x,H1,I1,r1,q1⟩=>vP pins s1 σ H1 x v Q I1 r1 q1) (he _)
theorem vR:OpR X (binaryOp .Add) (λx y H Q=>∃ i j,x= .str i/\y= .str j/\i.length+j.length<=sizeLine/\Q (.str (i++j)) H):=by
 intro pins s σ H x y v u Q I rx ry h
 obtain⟨i,j,rfl,rfl,hz,q⟩:=h
 obtain⟨t,rfl⟩:=rx
 obtain⟨t',rfl⟩:=ry
 exact add_str (λt' tk=>⟨.str (i++j),H,I.tok _,⟨_,rfl⟩,q⟩) hz
theorem bS{x:V}{us:List Value}(r:Vals [x] us):∃ u,us=[u]/\RelV x u:=by
 cases r with
 |cons r1 r2=>cases r2;exact⟨_,rfl,r1⟩
theorem gc{x y:V}{us:List Value}(r:Vals [x,y] us):∃ u w',us=[u,w']/\RelV x u/\RelV y w':=by
 cases r with
 |cons r1 r2=>
  cases r2 with
  |cons r3 r4=>cases r4;exact⟨_,_,rfl,r1,r3⟩
theorem vS:bA X (.builtin "abs") (λxs H Q=>∃ i,xs=[.int i]/\Q (.int (if i<0 then -i else i)) H):=by
 intro pins s σ H xs us Q I r h
 obtain⟨i,rfl,q⟩:=h
 obtain⟨u,rfl,t,rfl⟩:=bS r
 exact call_abs_int λu tk=>⟨.int (if i<0 then -i else i),H,I.tok _,⟨_,rfl⟩,q⟩
theorem vT(hc:X.calm=true):bA X (.builtin "max") (λxs H Q=>∃ i j,xs=[.int i,.int j]/\Q (.int (if j>i then j else i)) H):=by
 intro pins s σ H xs us Q I r h
 obtain⟨i,j,rfl,q⟩:=h
 obtain⟨u,w',rfl,⟨t,rfl⟩,⟨t',rfl⟩⟩:=gc r
 refine max_two_ints (I.ok.hd hc) λh' tk k=>⟨_,H,I.kept k,?_,q⟩
 by_cases hj:j>i
 ·rw[if_pos hj,if_pos hj];exact⟨_,rfl⟩
 ·rw[if_neg hj,if_neg hj];exact⟨_,rfl⟩
theorem vU:bA X (.type "int") (λxs H Q=>(∃ i,xs=[.int i]/\Q (.int i) H)\/∃ k,xs=[.bl k]/\Q (.int (if k then 1 else 0)) H):=by
 intro pins s σ H xs us Q I r h
 rcases h with⟨i,rfl,q⟩|⟨k,rfl,q⟩
 ·obtain⟨u,rfl,t,rfl⟩:=bS r
  exact call_int_int ⟨.int i,H,I,⟨_,rfl⟩,q⟩
 ·obtain⟨u,rfl,r1⟩:=bS r
  cases r1
  exact call_int_bool ⟨.int (if k then 1 else 0),H,I.tok _,⟨_,rfl⟩,q⟩
theorem vV:bA X (.type "str") (λxs H Q=>∃ i,xs=[.int i]/\i.natAbs.log2<1920/\Q (.str (toString i)) H):=by
 intro pins s σ H xs us Q I r h
 obtain⟨i,rfl,hz,q⟩:=h
 obtain⟨u,rfl,t,rfl⟩:=bS r
 exact PySem.P.str_of_int hz ⟨.str _,H,I.tok _,⟨_,rfl⟩,q⟩
def LenV(K:Ex)(x:V)(H:Hp)(n:Nat):Prop:=
 match x with
 | .str y=>y.length<=sizeLine/\n=y.length
 | .byt y=>y.size<=sizeLine/\n=y.size
 | .ref p=>(∃ xs,SqL K H p xs/\n=xs.length)\/∃ xs,SqT K H p xs/\n=xs.length
 |_=>False
theorem jr:bA X (.builtin "len") (λxs H Q=>∃ x n,xs=[x]/\LenV X.K x H n/\Q (.int n) H):=by
 intro pins s σ H xs us Q I r h
 obtain⟨x,n,rfl,e,q⟩:=h
 obtain⟨u,rfl,rx⟩:=bS r
 have hl:=line63
 have hs:sizeLine=16777216:=sizeLine_eq
 cases x with
 |str y=>
  obtain⟨t,rfl⟩:=rx
  obtain⟨hy,e'⟩:y.length<=sizeLine/\n=y.length:=e
  subst e'
  exact len_str (by lia) ⟨.int _,H,I.tok _,⟨_,rfl⟩,q⟩
 |byt y=>
  obtain⟨t,rfl⟩:=rx
  obtain⟨hy,e'⟩:y.size<=sizeLine/\n=y.size:=e
  subst e'
  exact len_bytes (by lia) ⟨.int _,H,I.tok _,⟨_,rfl⟩,q⟩
 |ref p=>
  cases rx
  have e':(∃ xs,SqL X.K H p xs/\n=xs.length)\/∃ xs,SqT X.K H p xs/\n=xs.length:=e
  rcases e' with⟨xs,hx,e'⟩|⟨xs,hx,e'⟩
  ·subst e'
   obtain⟨its,r',pl,hz⟩:=I.list hx
   have a_:=r'.length
   exact Calls.call_len_list pl.isList (by simp only[ER];lia) ⟨.int xs.length,H,I.tok _,⟨_,by simp only[ER];rw[a_]⟩,q⟩
  ·subst e'
   obtain⟨its,r',pl,hz⟩:=I.tuple hx
   have a_:=r'.length
   exact len_tuple pl (by simp only[ER];lia) ⟨.int xs.length,H,I.tok _,⟨_,by simp only[ER];rw[a_]⟩,q⟩
 |_=>exact(show False from e).elim
end
structure ObjM(h:Heap)(x dx C:Addr)(mA:Str->Option Value):Prop where
 obj:h.get? x=some (instObj C dx)
 ns:h.Ns1 dx mA
 ne:dx≠x
theorem vW{h:Heap}{dx:Addr}{mA:Str->Option Value}(n:h.Ns1 dx mA):∃ od,h.get? dx=some od/\∀ name,lookIn name od=some (mA name):=by
 obtain⟨o,es,ep,ho,hd,hk,_,hm⟩:=n
 refine⟨o,ho,λname=>?_⟩
 have e:=hm name
 unfold nsFind findBy at e
 rw[<- Array.find?_toList] at e
 unfold lookIn
 rw[hd]
 dsimp only
 split
 ·rename_i y q
  rw[q] at e
  exact congrArg some e
 ·rename_i q
  rw[q] at e
  have a:es.toList.any (·.refKey)=false:=by
   rw[List.any_eq_false]
   intro y hy
   obtain⟨z,t,m9⟩:=hk y (Array.mem_toList_iff.mp hy)
   simp[DictEntry.refKey,m9]
  have a':¬ es.toList.any (·.refKey)=true:=by rw[a];exact E2
  rw[if_neg a']
  exact congrArg some e
theorem ObjM.look{h:Heap}{x dx C:Addr}{mA:Str->Option Value}(I:ObjM h x dx C mA):∃ od,PySem.W.InstAt h x (instObj C dx) C (some od)/\∀ name,lookIn name od=some (mA name):=
 let ⟨od,ho,hl⟩:=vW I.ns
 ⟨od,⟨I.obj,rfl,rfl,ho⟩,hl⟩
section
variable {prog:Program}{w:World}{A:Around}{E:Value->Shared->Prop}{s:Shared}{K:Ex}{x dx C f:Addr}{mA:Str->Option Value}{name:Str}{v:Value}
theorem vX{Li:Bool}{Q:Value->Shared->Prop}(X:K.In s.heap)(I:ObjM s.heap x dx C mA)(hg:plainGet K C name=true)(hh:hasDictIn K C=true)
  (ha:EV K (.ref C) name=some none) (hv:mA name=some v) (Ov:handedIn v=true) (h:Q v {s with toks:=s.toks+1}):
  wpAny (model prog w) A (getAttr (.ref x) name Li) Q E s:=by
 obtain⟨od,J,hl⟩:=I.look
 exact get_value X J (plainGet_of hg).1 (findObj_own hh ha rfl (by rw[hl,hv])) Ov h
theorem vY{pl:Sem Bool}{Q:Value × List Value->Shared->Prop}(X:K.In s.heap)(I:ObjM s.heap x dx C mA)(hg:plainGet K C name=true)
  (hf:EV K (.ref C) name=some (some (.ref f))) (ht:isFn K (.ref f)=true) (hv:mA name=none) (h:Q (.ref f,[.ref x]) s):
  wpAny (model prog w) A (getMethod (.ref x) name pl) Q E s:=by
 obtain⟨od,J,hl⟩:=I.look
 exact method_fn X J (plainGet_of hg).1 (plainGet_of hg).2 hf (beq_iff_eq.mp ht) (by show(lookIn name od).map (·.isSome)=some false;rw[hl,hv];rfl) h
theorem vZ{ns:List Str}{Q:Unit->Shared->Prop}(X:K.In s.heap)(I:ObjM s.heap x dx C mA)
  (hs:EV K (.ref C) "__setattr__"=some (some (.builtin "object.__setattr__"))) (hp:plainOver K C=true) (ht:takerIn K C name=some none) (hh:hasDictIn K C=true)
  (hw:PySem.Within mA ns) (g5:ns.length<=sizeLine)
  (h:∀ h',ObjM h' x dx C (λy=>if y=name then some v else mA y)->Heap.SameBut dx s.heap h'->Q () {s with heap:=h',toks:=s.toks+2}):
  wpAny (model prog w) A (setAttr (.ref x) name v) Q E s:=by
 obtain⟨od,J,hl⟩:=I.look
 refine PySem.W.set_plain X J hs (osa_open (s:={s with toks:=s.toks+1}) (r:=none) X J hp ht λb=>?_)
 obtain⟨cd,hc,f_⟩:=any_some hh
 have hx:s.heap.get? x=some ⟨.ref C,some dx,.plain,#[]⟩:=I.obj
 refine wpAny_bind (wpAny_pure (wpAny_bind (wpAny_bind (wpAny_loadPart hx (wpAny_bind (PySem.W.Looks.here (s:={s with toks:=s.toks+1}) (PySem.W.looks_clsIn X hc) ?_))))))
 rw[f_]
 refine wpAny_pure (a:=some dx) (wpAny_bind (wpAny_pure (wpAny_bind ?_)))
 refine wpAny_nsSet1 (s:={s with toks:=s.toks+1}) I.ns λh' w9 m4=>?_
 obtain⟨oD,Ow,Ox,Lj,Lk,Ll⟩:=w9.count (PySem.Within.cons name v hw)
 refine wpAny_bind (wpAny_lookBehind Lj (by rw[Lk];exact pastItsLine_dict (E1 Ll (by rw[EQ];lia))) ?_)
 exact wpAny_pure (h _ ⟨(m4.2 _ (Ne.symm I.ne)).trans I.obj,w9,I.ne⟩ m4)
theorem wa{R:Result->Shared->Prop}{vs:List Value}{kw:List (Str × Value)}(X:K.In s.heap)(hm:makesIn K C=true)
  (hi:EV K (.ref C) "__init__"=some (some (.ref f))) (hf:PySem.W.typeIn K (.ref f)=some (.type "function"))
  (h:codeAny (model prog w) (A.under (.builtin "type.__call__" ⟨.ref C::vs,kw⟩)) (.call (.ref f) ⟨.ref (s.heap.objs.size+1)::vs,kw⟩) (InitBack (s.heap.objs.size+1) R)
   {s with heap:=(s.heap.push emptyDict).push (instObj C s.heap.objs.size)}):
  codeAny (model prog w) A (.call (.ref C) ⟨vs,kw⟩) R s:=by
 obtain⟨hh,g,d,t,os⟩:=s
 exact make_core (makes_of X hm) (PySem.W.looks_findIn X hi) (λself=>PySem.W.bind_fn X self hf) (.inl rfl) h
end
def putF(f:Str)(v:V):List (Str × V)->List (Str × V)
 |[]=>[(f,v)]
 |(g,x)::r=>if g=f then(g,v)::r else(g,x)::putF f v r
theorem pR(f g:Str)(v:V):∀ fs:List (Str × V),(putF f v fs).lookup g=if g=f then some v else fs.lookup g
 |[]=>by
  show FQ g [(f,v)]=_
  by_cases h:g=f
  ·have hb:(g==f)=true:=beq_iff_eq.mpr h
   simp only[FQ,hb,if_pos h]
  ·have hb:(g==f)=false:=beq_eq_false_iff_ne.mpr h
   simp only[FQ,hb,if_neg h]
 |(k,x)::r=>by
  have ih:=pR f g v r
  rw[show putF f v ((k,x)::r)=(if k=f then(k,v)::r else(k,x)::putF f v r) from rfl]
  by_cases hk:k=f
  ·rw[if_pos hk]
   by_cases h:g=k
   ·have hb:(g==k)=true:=beq_iff_eq.mpr h
    simp only[FQ,hb,if_pos (h.trans hk)]
   ·have hb:(g==k)=false:=beq_eq_false_iff_ne.mpr h
    simp only[FQ,hb,if_neg (λe:g=f=>h (e.trans hk.symm))]
  ·rw[if_neg hk]
   by_cases h:g=k
   ·have hb:(g==k)=true:=beq_iff_eq.mpr h
    simp only[FQ,hb,if_neg (λe:g=f=>hk (h.symm.trans e))]
   ·have hb:(g==k)=false:=beq_eq_false_iff_ne.mpr h
    simp only[FQ,hb]
    exact ih
theorem js(f:Str)(v:V):∀ fs:List (Str × V),f∈(putF f v fs).map (·.1)/\∀ g,g∈fs.map (·.1)->g∈(putF f v fs).map (·.1)
 |[]=>⟨by simp[putF],λg h=>by simp at h⟩
 |(k,x)::r=>by
  obtain⟨i1,i2⟩:=js f v r
  rw[show putF f v ((k,x)::r)=(if k=f then(k,v)::r else(k,x)::putF f v r) from rfl]
  by_cases hk:k=f
  ·rw[if_pos hk]
   subst hk
   exact⟨by simp,λg h=>by simpa using h⟩
  ·rw[if_neg hk]
   refine⟨?_,λg h=>?_⟩
   ·rw[EY]
    exact ES _ i1
   ·rw[EY] at h ⊢
    rcases EO.mp h with e|e
    ·exact EO.mpr (.inl e)
    ·exact ES _ (i2 g e)
theorem pS(f:Str)(v:V):∀ fs:List (Str × V),(putF f v fs).length<=fs.length+1
 |[]=>by simp[putF]
 |(k,x)::r=>by
  have ih:=pS f v r
  rw[show putF f v ((k,x)::r)=(if k=f then(k,v)::r else(k,x)::putF f v r) from rfl]
  by_cases hk:k=f
  ·rw[if_pos hk,EQ,EQ];lia
  ·rw[if_neg hk,EQ,EQ];lia
theorem RelO.some_of{v:V}{o:Option Value}(r:RelO (some v) o):∃ u,o=some u/\RelV v u:=by
 cases o with
 |none=>exact(show False from r).elim
 |some u=>exact⟨u,rfl,r⟩
theorem RelO.none_of{o:Option Value}(r:RelO none o):o=none:=by
 cases o with
 |none=>rfl
 |some u=>exact(show False from r).elim
theorem wc{v:V}{u:Value}(r:RelV v u):handedIn u=true:=by
 cases v with
 |non=>cases(show u=Value.none from r);rfl
 |bl b=>cases(show u=Value.bool b from r);rfl
 |int i=>obtain⟨t,e⟩:=(show ∃ t,u=Value.int i t from r);cases e;rfl
 |str x=>obtain⟨t,e⟩:=(show ∃ t,u=Value.str x t from r);cases e;rfl
 |byt b=>obtain⟨t,e⟩:=(show ∃ t,u=Value.bytes b t from r);cases e;rfl
 |flt b=>obtain⟨t,e⟩:=(show ∃ t,u=Value.float b t from r);cases e;rfl
 |ref a=>cases(show u=Value.ref a from r);rfl
 |ty n=>cases(show u=Value.type n from r);rfl
section
variable {P:Program}{w:World}{H H':Hp}{h h':Heap}{a C dx:Addr}{fs o_:List (Str × V)}
theorem gf(hok:HOk P w H h)(e:H a=some (.ins C dx fs)):∃ mA,ObjM h a dx C mA/\(∀ f,RelO (fs.lookup f) (mA f))/\PySem.Within mA (fs.map (·.1))/\fs.length<=1000/\H dx=some (.own a):=by
 obtain⟨d,z,ne,ob,mA,n,r,q⟩:=(show ObjOk P w H h a (.ins C dx fs) from hok a _ e)
 exact⟨mA,⟨ob,n,ne⟩,r,q,z,d⟩
end
structure Cls(K:Ex)(C:Addr):Prop where
 pg:plainGet K C Str.empty=true
 hd:hasDictIn K C=true
 po:plainOver K C=true
 sa:EV K (.ref C) "__setattr__"=some (some (.builtin "object.__setattr__"))
theorem Cls.get{K:Ex}{C:Addr}(c:Cls K C)(f:Str):plainGet K C f=true:=c.pg
def NoAttr(K:Ex)(C:Addr)(f:Str):Prop:=EV K (.ref C) f=some none
theorem NoAttr.taker{K:Ex}{C:Addr}{f:Str}(n:NoAttr K C f):takerIn K C f=some none:=by
 unfold takerIn
 rw[show EV K (.ref C) f=some none from n]
 rfl
structure Meth(K:Ex)(C:Addr)(m:Str)(f:Addr):Prop where
 at_:EV K (.ref C) m=some (some (.ref f))
 fn:isFn K (.ref f)=true
 kp:keepIn K (.ref f)=true
section
variable {X:Cx}{pins:List (Addr × Obj)}{σ:St}{H:Hp}{s:Shared}{a C dx:Addr}{fs:List (Str × V)}{f:Str}{v:V}{A:Around}{E:Value->Shared->Prop}
theorem we{b:Bool}{Q:Value->Shared->Prop}(I:Inv X pins σ H s)(e:H a=some (.ins C dx fs))(c:Cls X.K C)(n:NoAttr X.K C f)(l:fs.lookup f=some v)
  (h:∀ u s',Inv X pins σ H s'->RelV v u->Q u s'):wpAny (model X.prog X.w) A (getAttr (.ref a) f b) Q E s:=by
 obtain⟨mA,O,r,_,_,_⟩:=gf I.hok e
 obtain⟨u,hu,ru⟩:=RelO.some_of (v:=v) (o:=mA f) (by rw[<- l];exact r f)
 exact vX I.kIn O (c.get f) c.hd n hu (wc ru) (h u _ (I.tok _) ru)
theorem pT{m:Str}{g:Addr}{pl:Sem Bool}{Q:Value × List Value->Shared->Prop}(I:Inv X pins σ H s)(e:H a=some (.ins C dx fs))(c:Cls X.K C)(k:Meth X.K C m g)(l:fs.lookup m=none)
  (h:Q (.ref g,[.ref a]) s):wpAny (model X.prog X.w) A (getMethod (.ref a) m pl) Q E s:=by
 obtain⟨mA,O,r,_,_,_⟩:=gf I.hok e
 have hn:mA m=none:=RelO.none_of (by rw[<- l];exact r m)
 exact vY I.kIn O (c.get m) k.at_ k.fn hn h
theorem wg{y:V}{u:Value}{Q:Unit->Shared->Prop}(I:Inv X pins σ H s)(e:H a=some (.ins C dx fs))(c:Cls X.K C)(n:NoAttr X.K C f)(hl:fs.length<1000)(ry:RelV y u)
  (h:∀ s',Inv X pins σ (upd H a (.ins C dx (putF f y fs))) s'->Q () s'):wpAny (model X.prog X.w) A (setAttr (.ref a) f u) Q E s:=by
 obtain⟨mA,O,r,wi,_,ho⟩:=gf I.hok e
 have hz:(fs.map (·.1)).length<=sizeLine:=by rw[EU,sizeLine_eq];lia
 refine vZ I.kIn O c.sa c.po n.taker c.hd wi hz λh' O' sb=>h _ ?_
 have hd:∃ o,h'.get? dx=some o:=let ⟨o,_,_,e',_⟩:=O'.ns;⟨o,e'⟩
 refine I.write (x:=a) (e:=dx) (by rw[e];exact True.intro) (.inr ho) (λb q hb z=>(sb.2 b hb).trans z) hd ?_
 refine⟨by rw[aq O.ne];exact ho,?_,O.ne,O'.obj,_,O'.ns,λg=>?_,λg hg=>?_⟩
 ·have:=pS f y fs;lia
 ·show RelO ((putF f y fs).lookup g) (if g=f then some u else mA g)
  rw[pR]
  by_cases q:g=f
  ·rw[if_pos q,if_pos q];exact ry
  ·rw[if_neg q,if_neg q];exact r g
 ·by_cases q:g=f
  ·rw[q];exact(js f y fs).1
  ·refine(js f y fs).2 g (wi g λz=>hg ?_)
   show(if g=f then some u else mA g)=none
   rw[if_neg q];exact z
theorem Inv.made(I:Inv X pins σ H s):Inv X pins σ (upd (upd H s.heap.objs.size (.own (s.heap.objs.size+1))) (s.heap.objs.size+1) (.ins C s.heap.objs.size []))
  {s with heap:=(s.heap.push emptyDict).push (instObj C s.heap.objs.size)}:=by
 have e1:(s.heap.push emptyDict).get? s.heap.objs.size=some emptyDict:=Heap.get?_push_size s.heap rfl
 have e2:((s.heap.push emptyDict).push (instObj C s.heap.objs.size)).get? (s.heap.objs.size+1)=some (instObj C s.heap.objs.size):=by
  have:=Heap.get?_push_size (s.heap.push emptyDict) (o:=instObj C s.heap.objs.size) rfl
  rwa [Heap.size_push] at this
 have e3:(s.heap.push emptyDict).Ns s.heap.objs.size (λ_=>none):=⟨emptyDict,#[],_,e1,rfl,(λe he=>absurd he (by simp)),λ_=>rfl⟩
 have I1:=I.laid (a:=s.heap.objs.size) (o:= .own (s.heap.objs.size+1)) (h':=s.heap.push emptyDict) (t':=s.toks) (λb u q=>Heap.get?_push_of_some _ q) (EL _) ⟨_,e1⟩
 refine I1.laid (a:=s.heap.objs.size+1) (o:= .ins C s.heap.objs.size []) (t':=s.toks) (λb u q=>Heap.get?_push_of_some _ q) (Gq (Heap.size_push _ _)) ?_
 have ne:s.heap.objs.size≠s.heap.objs.size+1:=EZ (Hd _)
 refine⟨by rw[aq ne,aA],Fj _,ne,e2,λ_=>none,(Heap.Ns1.of_empty e3).at λo q=>Heap.get?_push_of_some _ q,λ_=>True.intro,λy hy=>absurd rfl hy⟩
theorem attr_of{prog:Program}{w:World}{env:Env}{e:Expr}{f:Str}{pos:Pos}{s:Shared}{Q:Value->Shared->Prop}(hb:attributeBase e f env (eval e env)=eval e env)
  (h:wpAny (model prog w) A (eval e env) (λo s₁=>wpAny (model prog w) A (getAttr o f true) Q E s₁) E s):wpAny (model prog w) A (eval (.Attribute e f pos) env) Q E s:=
 Attribute_any_ h (by rw[arm_eval_Attribute,hb])
end
def tFld(K:Ex)(ta:TE)(f:Str):TE:=λσ H Q=>ta σ H λx H1=>∃ a C dx fs v,x= .ref a/\H1 a=some (.ins C dx fs)/\Cls K C/\NoAttr K C f/\fs.lookup f=some v/\Q v H1
def sFld(K:Ex)(ta tv:TE)(f:Str):TS:=λD σ H=>tv σ H λy H1=>ta σ H1 λx H2=>∃ a C dx fs,x= .ref a/\H2 a=some (.ins C dx fs)/\Cls K C/\NoAttr K C f/\fs.length<1000/\
 D.nx σ (upd H2 a (.ins C dx (putF f y fs)))
section
variable {X:Cx}{o e value:Expr}{f:Str}{pos c8 Oy:Pos}{ta tv:TE}
theorem pU(he:PE X e ta)(hb:attributeBase e f X.env (eval e X.env)=eval e X.env):PE X (.Attribute e f pos) (tFld X.K ta f):=by
 intro pins s σ H Q I h
 refine attr_of hb (thn (he pins s σ H _ I h) λu s1 ⟨x,H1,I1,rx,a,C,dx,fs,v,ex,ea,c,n,l,q⟩=>?_)
 subst ex
 obtain rfl:u=Value.ref a:=rx
 exact we I1 ea c n l λu' s2 I2 ru=>⟨v,H1,I2,ru,q⟩
theorem pV(ha:PE X o ta)(hv:PE X value tv)(hs:swapsWith value (some (.Attribute o f c8)) pos.line X.env=pure false):PS X (.Assign [.Attribute o f c8] value pos) (sFld X.K ta tv f):=by
 intro pins s σ H D I h
 refine plainObj_wpAny_Assign_Attribute (thn (hv pins s σ H _ I h) λu s1 ⟨y,H1,I1,ry,q⟩=>thn (ha pins s1 σ H1 _ I1 q) λov s2 ⟨x,H2,I2,rx,a,C,dx,fs,ex,ea,c,n,l,q2⟩=>?_) hs
 subst ex
 obtain rfl:ov=Value.ref a:=rx
 exact wg I2 ea c n l ry λs3 I3=>⟨σ,_,I3,q2⟩
end
section
variable {X:Cx}{pins:List (Addr × Obj)}{σ:St}{H:Hp}{s:Shared}{A:Around}{E:Value->Shared->Prop}{Q:Value->Shared->Prop}{c:Value}{b:Bool}
inductive TyOf(K:Ex)(H:Hp):V->Value->Prop where
 |non:TyOf K H .non (.type "NoneType")
 |bl (x:Bool):TyOf K H (.bl x) (.type "bool")
 |int (i:Int):TyOf K H (.int i) (.type "int")
 |str (x:Str):TyOf K H (.str x) (.type "str")
 |flt (x:UInt64):TyOf K H (.flt x) (.type "float")
 |lst {a:Addr} {xs:List V} (e:H a=some (.lst xs)):TyOf K H (.ref a) (.type "list")
 |frz {a:Addr} {o:Obj} {xs:List V} (e:H a=some (.frz o (.lst xs))):TyOf K H (.ref a) (.type "list")
 |tup {a:Addr} {xs:List V} (e:H a=some (.tup xs)):TyOf K H (.ref a) (.type "tuple")
 |dK {a:Addr} {a8:List (Key × V)} (e:H a=some (.dK a8)):TyOf K H (.ref a) (.type "dict")
 |dT {a:Addr} {a8:List (List Key × V)} (e:H a=some (.dT a8)):TyOf K H (.ref a) (.type "dict")
 |ins {a C dx:Addr} {fs:List (Str × V)} (e:H a=some (.ins C dx fs)) (cl:Cls K C) (ha:EV K (.ref C) "__class__"=some (some (.builtin "object.__class__")))
   (hn:specialIn K (.builtin "object.__class__") "__get__"=some (some (.builtin "getset_descriptor.__get__"))) (htk:takesIn K (.builtin "object.__class__")=some true)
   (hm:FY K C (.type "object")=some true):TyOf K H (.ref a) (.ref C)
theorem wj{x:V}{u t:Value}(I:Inv X pins σ H s)(rx:RelV x u)(ty:TyOf X.K H x t)(e:kitOne X.K t c=some b)(h:∀ tk,Q (.bool b) {s with toks:=tk}):
  wpAny (model X.prog X.w) A (call (.builtin "isinstance") [u,c]) Q E s:=by
 cases ty with
 |non=>cases(show u=Value.none from rx);exact kia_one kitx_none I.kIn True.intro e (λz=>nomatch z) h
 |bl y=>cases(show u=Value.bool y from rx);exact kia_one kitx_bool I.kIn True.intro e (λz=>nomatch z) h
 |int i=>obtain⟨t,q⟩:=(show ∃ t,u=Value.int i t from rx);cases q;exact kia_one kitx_int I.kIn True.intro e (λz=>nomatch z) h
 |str y=>obtain⟨t,q⟩:=(show ∃ t,u=Value.str y t from rx);cases q;exact kia_one kitx_str I.kIn True.intro e (λz=>nomatch z) h
 |flt y=>obtain⟨t,q⟩:=(show ∃ t,u=Value.float y t from rx);cases q;exact kia_one kitx_float I.kIn True.intro e (λz=>nomatch z) h
 |@lst a xs ea=>
  cases(show u=Value.ref a from rx)
  obtain⟨_,_,n,_,h1⟩:=(show ObjOk X.prog X.w H s.heap a (.lst xs) from I.hok a _ ea)
  exact kia_one kitx_list I.kIn ⟨_,h1,rfl⟩ e (λz=>nomatch z) h
 |@frz a ob xs ea=>
  cases(show u=Value.ref a from rx)
  obtain⟨_,_,_,n,_,h1⟩:=(show ObjOk X.prog X.w H s.heap a (.frz ob (.lst xs)) from I.hok a _ ea)
  exact kia_one kitx_list I.kIn ⟨_,h1,rfl⟩ e (λz=>nomatch z) h
 |@tup a xs ea=>
  cases(show u=Value.ref a from rx)
  obtain⟨_,_,_,p⟩:=(show ObjOk X.prog X.w H s.heap a (.tup xs) from I.hok a _ ea)
  obtain⟨o,h1,h2,_⟩:=p
  exact kia_one kitx_tuple I.kIn ⟨o,h1,h2⟩ e (λz=>nomatch z) h
 |@dK a a8 ea=>
  cases(show u=Value.ref a from rx)
  obtain⟨_,_,vs,_,p⟩:=(show ObjOk X.prog X.w H s.heap a (.dK a8) from I.hok a _ ea)
  obtain⟨o,es,ep,h1,h2,_⟩:=p
  exact kia_one kitx_dict I.kIn ⟨o,h1,h2.1⟩ e (λz=>nomatch z) h
 |@dT a a8 ea=>
  cases(show u=Value.ref a from rx)
  obtain⟨_,_,xs,_,o,es,ep,h1,h2,_⟩:=(show ObjOk X.prog X.w H s.heap a (.dT a8) from I.hok a _ ea)
  exact kia_one kitx_dict I.kIn ⟨o,h1,h2.1⟩ e (λz=>nomatch z) h
 |@ins a C dx fs ea cl ha hn htk hm=>
  cases(show u=Value.ref a from rx)
  obtain⟨mA,O,_⟩:=gf I.hok ea
  obtain⟨od,J,_⟩:=O.look
  exact kia_one (kitx_own (cl.get _) cl.hd ha hn htk hm) I.kIn J e (λz=>nomatch z) h
end
structure Room(k:Nat)(A:Around):Prop where
 hd:A.handled=none
 dp:A.depth+3*k+5<recursionLimit
 un:A.units+16*k+200<cLine
theorem Room.mono{j k:Nat}{A:Around}(r:Room k A)(h:j<=k):Room j A:=⟨r.hd,by have:=r.dp;lia,by have:=r.un;lia⟩
theorem Room.deeper{k:Nat}{A:Around}(r:Room (k+1) A)(env:Env):Room k (A.deeper env):=
 ⟨r.hd,by have:=r.dp;show A.depth+1+3*k+5<_;lia,by have:=r.un;show A.units+3+16*k+200<_;lia⟩
theorem Room.in1{k:Nat}{A:Around}(r:Room (k+1) A):Room k A.in1:=
 ⟨r.hd,by have:=r.dp;show A.depth+3*k+5<_;lia,by have:=r.un;show A.units+1+16*k+200<_;lia⟩
theorem wk{A:Around}{C:Addr}{us:List Value}{kw:List (Str × Value)}:(A.under (.builtin "type.__call__" ⟨.ref C::us,kw⟩)).depth=A.depth+1:=by
 first|rfl|simp[Around.under,Code.weight,Code.isCreation,Code.isGuard,Code.isCaller,Code.frames,Code.isFrame,guardIds]
theorem wl{A:Around}{C:Addr}{us:List Value}{kw:List (Str × Value)}:(A.under (.builtin "type.__call__" ⟨.ref C::us,kw⟩)).units=A.units+1:=by
 first|rfl|simp[Around.under,Code.cUnits,Code.frames,Code.isFrame]
theorem Room.make{k:Nat}{A:Around}(r:Room (k+1) A)(C:Addr)(us:List Value)(kw:List (Str × Value)):Room k (A.under (.builtin "type.__call__" ⟨.ref C::us,kw⟩)):=
 ⟨r.hd,by have:=r.dp;rw[wk];lia,by have:=r.un;rw[wl];lia⟩
theorem Room.depth{k:Nat}{A:Around}(r:Room k A):A.depth<recursionLimit:=by have:=r.dp;lia
theorem Room.units{k:Nat}{A:Around}(r:Room k A):A.units+64<cLine:=by have:=r.un;lia
def tNil:TA:=λ_ H Q=>Q [] H
def gh(ta:TE)(tr:TA):TA:=λσ H Q=>ta σ H λx H1=>tr σ H1 λxs H2=>Q (x::xs) H2
section
variable {X:Cx}{e:Expr}{es:List Expr}{te:TE}{t:TA}{pos:Pos}
theorem pa_nil:PA X [] tNil:=λ_ _ _ _ H Q I h=>Calls.spliced_nil ⟨[],H,I,.nil,h⟩
theorem bv(ha:PE X e te)(hr:PA X es t)(hs:zSE X e es:=by rfl):PA X (e::es) (gh te t):=by
 intro pos pins s σ H Q I h
 rw[hs]
 show wpAny _ _ (spliced ((false,eval e X.env)::backTo pos (starEach es X.env))) _ _ s
 refine Calls.spliced_cons (thn (ha pins s σ H _ I h) λu s1 ⟨x,H1,I1,r1,q1⟩=>?_)
 exact thn (hr pos pins s1 σ H1 _ I1 q1) λus s2 ⟨xs,H2,I2,r2,q2⟩=>⟨x::xs,H2,I2,.cons r1 r2,q2⟩
def tTup(t:TA):TE:=λσ H Q=>t σ H λxs H1=>xs.length<=sizeLine/\∀ p,H1 p=none->Q (.ref p) (upd H1 p (.tup xs))
def tLst(t:TA):TE:=λσ H Q=>t σ H λxs H1=>xs.length<=sizeLine/\∀ p,H1 p=none->Q (.ref p) (upd H1 p (.lst xs))
theorem pW{x1}(h:PA X es t):PE X (.Tuple es x1 pos) (tTup t):=by
 intro pins s σ H Q I hq
 refine wpAny_Tuple_spliced (thn (h pos pins s σ H _ I hq) λus s1 ⟨xs,H1,I1,r,z,q⟩=>⟨by rw[<- r.length];exact z,?_⟩)
 have hf:H1 s1.heap.objs.size=none:=I1.hok.fresh (EL _)
 refine⟨.ref s1.heap.objs.size,upd H1 s1.heap.objs.size (.tup xs),I1.laid (t':=s1.toks) (λb u e=>Heap.get?_push_of_some _ e) (EL _) ?_,rfl,q _ hf⟩
 exact⟨z,us,r,⟨_,Heap.get?_push_size _ rfl,rfl,_,rfl⟩⟩
theorem jt(h:PA X es t):PE X (.List es pos) (tLst t):=by
 intro pins s σ H Q I hq
 refine wpAny_List_spliced (thn (h pos pins s σ H _ I hq) λus s1 ⟨xs,H1,I1,r,z,q⟩=>⟨by rw[<- r.length];exact z,?_⟩)
 have hf:H1 s1.heap.objs.size=none:=I1.hok.fresh (EL _)
 refine⟨.ref s1.heap.objs.size,upd H1 s1.heap.objs.size (.lst xs),I1.laid (t':=s1.toks) (λb u e=>Heap.get?_push_of_some _ e) (EL _) ?_,rfl,q _ hf⟩
 exact⟨z,us,0,r,Heap.get?_push_size _ rfl⟩
end
abbrev Sp:=List V->Hp->VK->XK->Prop
abbrev CXT:=List Env->Hp->Shared->XK->Value->Shared->Prop
structure Env0(P:Program)(w:World)(K:Ex)(mg:Str->Option Value)(base:Heap)(A:Around)(outer:List Env)(s:Shared)(H:Hp):Prop where
 frames:A.frames=some outer
 mod:Mod K mg base
 bs:∀ b o,base.get? b=some o->s.heap.get? b=some o/\H b=none
 bsz:base.objs.size<=s.heap.objs.size
 funs:s.heap.FunFrames base outer
 frf:∀ b∈frs outer,H b=none
 hok:HOk P w H s.heap
 bare:AllBare s.gens
def CE(outer:List Env)(P:Program)(w:World)(H:Hp)(s:Shared)(Q:VK)(u:Value)(s':Shared):Prop:=
 ∃ v H',s'.os=s.os/\AllBare s'.gens/\Un (frs outer) [] H H' s.heap s'.heap/\HOk P w H' s'.heap/\RelV v u/\Q v H'
def CR(CX:CXT)(outer:List Env)(P:Program)(w:World)(H:Hp)(s:Shared)(Q:VK)(E:XK)(r:Result)(s':Shared):Prop:=
 match r with
 | .ok (.ret u)=>CE outer P w H s Q u s'
 | .ok _=>False
 | .error e=>CX outer H s E e s'
structure FnOk(P:Program)(w:World)(K:Ex)(mg:Str->Option Value)(base:Heap)(CX:CXT)(k:Nat)(f:Addr)(fd:FuncData)(ps:List Str)(sp:Sp):Prop where
 len:∀ vs H Q E,sp vs H Q E->vs.length=ps.length
 run:∀ (A:Around) (outer:List Env) (s:Shared) (H:Hp) (args:Args) (us:List Value) (vs:List V) (Q:VK) (E:XK),Room k A->Env0 P w K mg base A outer s H->BindsTo s fd args (ps.zip us)->Vals vs us->sp vs H Q E->
  codeAny (model P w) A (.call (.ref f) args) (CR CX outer P w H s Q E) s
theorem FnOk.mono{P:Program}{w:World}{K:Ex}{mg:Str->Option Value}{base:Heap}{CX:CXT}{j k:Nat}{f:Addr}{fd:FuncData}{ps:List Str}{sp:Sp}(F:FnOk P w K mg base CX j f fd ps sp)(h:j<=k):
  FnOk P w K mg base CX k f fd ps sp:=⟨F.len,λA outer s H args us vs Q E hr=>F.run A outer s H args us vs Q E (hr.mono h)⟩
theorem FnOk.imp{P:Program}{w:World}{K:Ex}{mg:Str->Option Value}{base:Heap}{CX:CXT}{k:Nat}{f:Addr}{fd:FuncData}{ps:List Str}{sp Ie:Sp}(F:FnOk P w K mg base CX k f fd ps sp)
  (h:∀ vs H Q E,Ie vs H Q E->sp vs H Q E):FnOk P w K mg base CX k f fd ps Ie:=
 ⟨λvs H Q E q=>F.len vs H Q E (h _ _ _ _ q),λA outer s H args us vs Q E hr he hb hv hs=>F.run A outer s H args us vs Q E hr he hb hv (h _ _ _ _ hs)⟩
theorem Env0.make{P:Program}{w:World}{K:Ex}{mg:Str->Option Value}{base:Heap}{A:Around}{outer:List Env}{s:Shared}{H:Hp}(e:Env0 P w K mg base A outer s H)(C:Addr)(us:List Value)(kw:List (Str × Value)):
  Env0 P w K mg base (A.under (.builtin "type.__call__" ⟨.ref C::us,kw⟩)) outer s H:=⟨by first|exact e.frames|(simpa[Around.under,Code.envs,Code.isFrame,pushEnvs] using e.frames),e.mod,e.bs,e.bsz,e.funs,e.frf,e.hok,e.bare⟩
theorem Env0.in1{P:Program}{w:World}{K:Ex}{mg:Str->Option Value}{base:Heap}{A:Around}{outer:List Env}{s:Shared}{H:Hp}(e:Env0 P w K mg base A outer s H):
  Env0 P w K mg base A.in1 outer s H:=⟨e.frames,e.mod,e.bs,e.bsz,e.funs,e.frf,e.hok,e.bare⟩
section
variable {X:Cx}{pins:List (Addr × Obj)}{σ:St}{H:Hp}{s s':Shared}
theorem Inv.env0(I:Inv X pins σ H s):Env0 X.prog X.w X.K X.mg X.base X.A X.stack s H:=
 ⟨I.ok.frames,I.ok.mod,I.bs,E1 I.ok.bsz I.sz,I.stack,I.stkFree,I.hok,I.bare⟩
theorem Inv.after{Q:VK}{u:Value}(I:Inv X pins σ H s)(h:CE X.stack X.prog X.w H s Q u s'):EP X pins σ Q u s':=by
 obtain⟨v,H',os,bare,un,hok,r,q⟩:=h
 obtain⟨hh,g,d,t,Oz⟩:=s'
 obtain rfl:Oz=s.os:=os
 exact⟨v,H',I.call (h':=hh) (g':=g) (d':=d) (t':=t) (ch:=[]) un hok bare (λb z=>absurd z (by simp)),r,q⟩
end
def pX(sp:Sp)(m_:List V)(E:XK)(t:TA):TE:=λσ H Q=>t σ H λvs H1=>sp (vs++m_) H1 Q E
def wm(C:Addr)(sp:Sp)(m_:List V)(E:XK)(t:TA):TE:=λσ H Q=>t σ H λvs H1=>∀ x dx,H1 x=none->H1 dx=none->dx≠x->
 sp (.ref x::(vs++m_)) (upd (upd H1 dx (.own x)) x (.ins C dx [])) (λv H2=>v= .non/\Q (.ref x) H2) E
def Binds(K:Ex)(fd:FuncData)(ps:List Str)(ds:List Value):Prop:=
 ∀ (s:Shared) (us:List Value),K.In s.heap->(us++ds).length=ps.length->BindsTo s fd ⟨us,[]⟩ (ps.zip (us++ds))
theorem Binds.all{K:Ex}{fd:FuncData}{ps:List Str}(h:∀ us:List Value,us.length=ps.length->bindArgs fd ⟨us,[]⟩=pure (ps.zip us)):Binds K fd ps []:=λs us _ hl=>by
 rw[Fx] at hl ⊢
 exact .of_eq (h us hl)
def fv(CX:CXT)(X:Cx)(E:XK):Prop:=∀ (pins:List (Addr × Obj)) (σ:St) (H:Hp) (s:Shared) (e:Value) (s':Shared),Inv X pins σ H s->CX X.stack H s E e s'->X.xe e s'
section
variable {X:Cx}{CX:CXT}{k:Nat}{f C:Addr}{fd:FuncData}{ps:List Str}{sp:Sp}{m_:List V}{ds:List Value}{E:XK}{x m:Str}{p pos apos:Pos}{e o:Expr}{es:List Expr}{ta:TE}{t:TA}
theorem wn{pins:List (Addr × Obj)}{σ:St}{H:Hp}{s:Shared}{Q:VK}{us:List Value}{vs:List V}(F:FnOk X.prog X.w X.K X.mg X.base CX k f fd ps sp)(hr:Room k X.A)(hb:Binds X.K fd ps ds)(hd:Vals m_ ds)(hx:fv CX X E)
  (I:Inv X pins σ H s) (r:Vals vs us) (h:sp (vs++m_) H Q E):wpAny (model X.prog X.w) X.A (call (.ref f) us) (EP X pins σ Q) X.xe s:=by
 have r2:Vals (vs++m_) (us++ds):=r.append hd
 have hl:(us++ds).length=ps.length:=by rw[<- r2.length];exact F.len _ _ _ _ h
 refine wpAny_call (codeAny_mono (F.run X.A X.stack s H ⟨us,[]⟩ (us++ds) (vs++m_) Q E hr I.env0 (hb s us I.kIn hl) r2 h) λr s' hq=>?_)
 cases r with
 |error e=>exact hx pins σ H s e s' I hq
 |ok fl=>
  cases fl with
  |ret u=>exact I.after hq
  |next=>exact False.elim hq
  |brk=>exact False.elim hq
  |cont=>exact False.elim hq
theorem wo(F:FnOk X.prog X.w X.K X.mg X.base CX k f fd ps sp)(hr:Room k X.A)(hg:Gl X x)(hm:X.mg x=some (.ref f))(hk:keepIn X.K (.ref f)=true)(hb:Binds X.K fd ps ds)(hd:Vals m_ ds)(hx:fv CX X E)
  (ha:PA X (e::es) t) (d7:zND x:=by decide) (he:zSE X e es:=by rfl) (b9:zPL X pos es:=by rfl):
  PE X (.Call (.Name x p) (e::es) [] pos) (pX sp m_ E t):=by
 intro pins s σ H Q I h
 refine wpAny_Call_Name_kw (cJ I hg hm ?_ d7)
 refine callWith_K (h₀:=X.base) I.ok.mod.kin hk (thn (ha pos pins s σ H _ I h) λus s1 ⟨vs,H1,I1,r,q⟩=>⟨I1.kIn,?_⟩) he b9
 exact wn F hr hb hd hx I1 r q
structure Mk(K:Ex)(C f:Addr):Prop where
 makes:makesIn K C=true
 init:EV K (.ref C) "__init__"=some (some (.ref f))
 fn:isFn K (.ref f)=true
 kp:keepIn K (.ref C)=true
theorem wr{pins:List (Addr × Obj)}{σ:St}{H:Hp}{s:Shared}{Q:VK}{us:List Value}{vs:List V}(M:Mk X.K C f)(F:FnOk X.prog X.w X.K X.mg X.base CX k f fd ps sp)(hr:Room (k+1) X.A)(hb:Binds X.K fd ps ds)(hd:Vals m_ ds)
  (hx:fv CX X E) (I:Inv X pins σ H s) (r:Vals vs us)
  (h:∀ x dx,H x=none->H dx=none->dx≠x->sp (.ref x::(vs++m_)) (upd (upd H dx (.own x)) x (.ins C dx [])) (λv H2=>v= .non/\Q (.ref x) H2) E):
  wpAny (model X.prog X.w) X.A (call (.ref C) us) (EP X pins σ Q) X.xe s:=by
 have hq:=h (s.heap.objs.size+1) s.heap.objs.size (I.hok.fresh (FR _)) (I.hok.fresh (EL _)) (EZ (Hd _))
 have I2:=Inv.made (C:=C) I
 have r2:Vals (V.ref (s.heap.objs.size+1)::(vs++m_)) (Value.ref (s.heap.objs.size+1)::(us++ds)):= .cons rfl (r.append hd)
 have hl:(Value.ref (s.heap.objs.size+1)::us++ds).length=ps.length:=by
  have e:=r2.length
  rw[F.len _ _ _ _ hq] at e
  exact e.symm
 refine wpAny_call (wa (f:=f) I.kIn M.makes M.init (beq_iff_eq.mp M.fn) (codeAny_mono (F.run _ X.stack _ _ ⟨Value.ref (s.heap.objs.size+1)::us,[]⟩ (Value.ref (s.heap.objs.size+1)::(us++ds)) _ _ E (hr.make C us [])
  (I2.env0.make C us []) (hb _ (Value.ref (s.heap.objs.size+1)::us) I2.kIn hl) r2 hq) λr s' j8=>?_))
 cases r with
 |error e=>exact hx pins σ _ _ e s' I2 j8
 |ok fl=>
  cases fl with
  |ret u=>
   obtain⟨v,H',I3,rv,ev,q3⟩:=I2.after j8
   subst ev
   exact⟨rv,⟨V.ref (s.heap.objs.size+1),H',I3,rfl,q3⟩⟩
  |next=>exact False.elim j8
  |brk=>exact False.elim j8
  |cont=>exact False.elim j8
theorem ju(M:Mk X.K C f)(F:FnOk X.prog X.w X.K X.mg X.base CX k f fd ps sp)(hr:Room (k+1) X.A)(hg:Gl X x)(hm:X.mg x=some (.ref C))(hb:Binds X.K fd ps ds)(hd:Vals m_ ds)(hx:fv CX X E)
  (ha:PA X (e::es) t) (d7:zND x:=by decide) (he:zSE X e es:=by rfl) (b9:zPL X pos es:=by rfl):
  PE X (.Call (.Name x p) (e::es) [] pos) (wm C sp m_ E t):=by
 intro pins s σ H Q I h
 refine wpAny_Call_Name_kw (cJ I hg hm ?_ d7)
 refine callWith_K (h₀:=X.base) I.ok.mod.kin M.kp (thn (ha pos pins s σ H _ I h) λus s1 ⟨vs,H1,I1,r,q⟩=>⟨I1.kIn,?_⟩) he b9
 exact wr M F hr hb hd hx I1 r q
end
structure FnScope(N P:List Str)(sc:Scope):Prop where
 kind:sc.kind= .function
 co:sc.isCoroutine=false
 gen:sc.isGenerator=false
 nd:N.Nodup
 pre:N.take P.length=P
 par:∀ x∈P,sc.names.lookup x=some .local\/sc.names.lookup x=some .cell
 nofree:∀ y∈sc.names,y.2≠.free
theorem pY{kindOf:Str->Option NameKind}{x:Str}:∀ {binds:List (Str × Value)} {m:Str->Option Value},(∀ v,(x,v) ∉ binds)->bindL kindOf binds m x=m x
 |[],_,_=>rfl
 |(n,v)::r,m,h=>by
  unfold bindL
  rw[pY λw hw=>h w (ES _ hw)]
  split
  ·have:x≠n:=by rintro rfl;exact h v ET
   simp[this]
  ·rfl
theorem bindC_out{kindOf:Str->Option NameKind}{x:Str}:∀ {binds:List (Str × Value)} {m:Str->Option Value},(∀ v,(x,v) ∉ binds)->bindC kindOf binds m x=m x
 |[],_,_=>rfl
 |(n,v)::r,m,h=>by
  unfold bindC
  rw[bindC_out λw hw=>h w (ES _ hw)]
  split
  ·rfl
  ·have:x≠n:=by rintro rfl;exact h v ET
   simp[this]
theorem bindL_get{kindOf:Str->Option NameKind}{x:Str}{v:Value}:∀ {P:List Str} {vs:List Value} {i:Nat} {m:Str->Option Value},P.Nodup->P[i]?=some x->vs[i]?=some v->kindOf x=some .local->
  bindL kindOf (P.zip vs) m x=some v
 |[],_,_,_,_,h,_,_=>by simp at h
 |_::_,[],_,_,_,_,h,_=>by simp at h
 |p::P,w::vs,0,m,nd,h1,h2,hk=>by
  simp at h1 h2;subst h1;subst h2
  show bindL kindOf ((p,w)::P.zip vs) m p=_
  unfold bindL
  rw[pY λv hv=>(FH.mp nd).1 (GP hv).1,if_pos hk]
  simp
 |p::P,w::vs,i+1,m,nd,h1,h2,hk=>by
  show bindL kindOf ((p,w)::P.zip vs) m x=_
  unfold bindL
  exact bindL_get (i:=i) (FH.mp nd).2 (by simpa using h1) (by simpa using h2) hk
theorem pZ{kindOf:Str->Option NameKind}{x:Str}{v:Value}:∀ {P:List Str} {vs:List Value} {i:Nat} {m:Str->Option Value},P.Nodup->P[i]?=some x->vs[i]?=some v->kindOf x≠some .local->
  bindC kindOf (P.zip vs) m x=some v
 |[],_,_,_,_,h,_,_=>by simp at h
 |_::_,[],_,_,_,_,h,_=>by simp at h
 |p::P,w::vs,0,m,nd,h1,h2,hk=>by
  simp at h1 h2;subst h1;subst h2
  show bindC kindOf ((p,w)::P.zip vs) m p=_
  unfold bindC
  rw[bindC_out λv hv=>(FH.mp nd).1 (GP hv).1,if_neg hk]
  simp
 |p::P,w::vs,i+1,m,nd,h1,h2,hk=>by
  show bindC kindOf ((p,w)::P.zip vs) m x=_
  unfold bindC
  exact pZ (i:=i) (FH.mp nd).2 (by simpa using h1) (by simpa using h2) hk
def start(N:List Str)(vs:List V):St:=vs.map some++FI (N.length - vs.length) none
def cxOf(CX:CXT)(P:Program)(w:World)(K:Ex)(mg:Str->Option Value)(base:Heap)(N:List Str)(qual:Str)(scope:Scope)(f:Addr)(cd:Value)(A:Around)(outer:List Env)(s:Shared)(H:Hp)(E:XK):Cx where
 prog:=P
 w:=w
 K:=K
 mg:=mg
 base:=base
 A:=A.deeper (envOfC qual scope s.heap.objs.size f cd)
 N:=N
 s₀:=s
 H₀:=H
 env:=envOfC qual scope s.heap.objs.size f cd
 outer:=outer
 stack:=envOfC qual scope s.heap.objs.size f cd::outer
 ex:=[]
 calm:=true
 fn:=λ_=>true
 pn:=[]
 xe:=λe s'=>wpAny (model P w) (A.deeper (envOfC qual scope s.heap.objs.size f cd)) (leaving (envOfC qual scope s.heap.objs.size f cd) e) (λ_ Lm=>CX outer H s E e Lm) (λe' Lm=>CX outer H s E e' Lm) s'
theorem cell_has{sc:Scope}{n:Nat}{x:Str}(h:sc.names.lookup x=some .cell):∃ c,(cellsFrom n sc.names []).lookup x=some c:=by
 have q:=cellsFrom_some sc.names n [] (.inl h)
 exact Option.isSome_iff_exists.mp q
theorem wt{CX:CXT}{P:Program}{w:World}{K:Ex}{mg:Str->Option Value}{base:Heap}{N ps:List Str}{qual:Str}{scope:Scope}{f:Addr}{cd:Value}{A:Around}{outer:List Env}{s s1:Shared}{H:Hp}{E:XK}{us:List Value}{vs:List V}
  (S:FnScope N ps scope) (hd:A.handled=none) (e0:Env0 P w K mg base A outer s H) (hl:vs.length=ps.length) (r:Vals vs us)
  (x:InCallC s s.heap.objs.size (bindL (envOfC qual scope s.heap.objs.size f cd).kindOf (ps.zip us) λ_=>none) (cellsFrom (s.heap.objs.size+1) scope.names []) (bindC (envOfC qual scope s.heap.objs.size f cd).kindOf (ps.zip us) λ_=>none) s1):
  Inv (cxOf CX P w K mg base N qual scope f cd A outer s H E) [] (start N vs) H s1:=by
 have b9:ps.length<=N.length:=by have:=congrArg Gc S.pre;rw[Gr] at this;lia
 obtain⟨h1,tk,rfl,hk⟩:=x.done
 have JG:∀ b:Addr,b ∉ (cxOf CX P w K mg base N qual scope f cd A outer s H E).ex:=λb z=>absurd (show b∈([]:List Addr) from z) (by simp)
 refine⟨⟨e0.mod,S.kind,rfl,rfl,EL _,λy z c h1 h2=>?_,λy hy=>?_,λy c _ h=>?_,λ_=>hd,Around.frames_deeper e0.frames,.inr ⟨rfl,rfl⟩,λb z=>absurd z (JG b),e0.bs,e0.bsz,λb _ _=>JG b,λb z=>absurd z (JG b),e0.funs,e0.frf⟩,
  rfl,e0.bare,Un.kept hk,⟨_,x.toInCall.ns,λi y v h1 h2 h3=>?_⟩,λy c h=>⟨_,x.cell y c h⟩,e0.hok.fresh (EL _),λy c h=>?_,λp hp=>absurd (show p∈([]:List (Addr × Obj)) from hp) (by simp),e0.hok.kept hk,?_⟩
 ·exact name_of_addr x.apart (PySem.mem_of_lookup h1) (PySem.mem_of_lookup h2)
 ·have hy:scope.names.lookup y=some .cell\/scope.names.lookup y=some .free:=hy
  rcases hy with hy|hy
  ·exact cell_has hy
  ·exact absurd rfl (S.nofree _ (PySem.mem_of_lookup hy))
 ·exact Go (x.above y c (PySem.mem_of_lookup h))
 ·have hi:i<vs.length:=by
   unfold start at h2
   by_cases hi:i<vs.length
   ·exact hi
   ·rw[FS (by simpa using hi)] at h2
    rw[GQ] at h2
    split at h2<;>cases h2
  have ha:vs[i]?=some v:=by
   unfold start at h2
   rw[FB (by simpa using hi),E3] at h2
   cases e:vs[i]? with
   |none=>rw[e] at h2;cases h2
   |some a=>rw[e] at h2;cases h2;rfl
  obtain⟨u,hu,rv⟩:=r.get ha
  have hp:ps[i]?=some y:=by
   rw[<- S.pre,Hf (by lia)];exact h1
  have Ny:ps.Nodup:=by rw[<- S.pre];exact S.nd.sublist (List.take_sublist _ _)
  refine⟨u,rv,?_⟩
  rcases S.par y (Gs hp) with k|k
  ·exact .inl ⟨k,bindL_get Ny hp hu k⟩
  ·obtain⟨c,e⟩:=cell_has (n:=s.heap.objs.size+1) k
   refine .inr ⟨.inl k,c,e,?_⟩
   have q:=x.cell y c e
   rw[pZ Ny hp hu (by show scope.names.lookup y≠_;rw[k];decide)] at q
   exact q
 ·exact e0.hok.fresh (Go (x.above y c (PySem.mem_of_lookup h)))
 ·unfold start
  show _=N.length
  rw[EW,EU,List.length_replicate]
  lia
theorem qa{CX:CXT}{P:Program}{w:World}{K:Ex}{mg:Str->Option Value}{base:Heap}{k:Nat}{f:Addr}{name qual:Str}{params:Arguments}{body:List Stmt}{scope:Scope}{dV kV doc pm cdv ct oc:Value}{an od:Option Addr}
  {osl:Array (Option Value)} {N ps:List Str} {sp:Sp} (lk:K.lookup f=some ⟨oc,od,.func (fnOf name qual params body scope dV kV doc pm an cdv ct),osl⟩) (g9:codeIn K cdv qual=true) (S:FnScope N ps scope)
  (len:∀ vs H Q E,sp vs H Q E->vs.length=ps.length)
  (a9:∀ (A:Around) (outer:List Env) (s:Shared) (H:Hp) (vs:List V) (Q:VK) (E:XK),Room k (A.deeper (envOfC qual scope s.heap.objs.size f cdv))->sp vs H Q E->
   ∃ t,PSs (cxOf CX P w K mg base N qual scope f cdv A outer s H E) body t/\t {nx:=λ_ H'=>Q .non H',rt:=Q} (start N vs) H):
  FnOk P w K mg base CX (k+1) f (fnOf name qual params body scope dV kV doc pm an cdv ct) ps sp:=by
 refine⟨len,λA outer s H args us vs Q E hr e0 hb r q9=>?_⟩
 have hl:=len _ _ _ _ q9
 have KX:K.In s.heap:=e0.mod.kin.keeps λb o e=>(e0.bs b o e).1
 have OA:s.heap.NoLimit:=e0.mod.nolimit.keeps λb o e=>(e0.bs b o e).1
 have JH:∀ y∈ps.zip us,scope.names.lookup y.1=some .local\/(scope.names.lookup y.1=some .cell/\((cellsFrom (s.heap.objs.size+1) scope.names []).lookup y.1).isSome=true):=λ⟨n,v⟩ hy=>by
  rcases S.par n (GP hy).1 with q|q
  ·exact .inl q
  ·exact .inr ⟨q,cellsFrom_some _ _ _ (.inl q)⟩
 refine codeAny_call_function hr.depth (KX _ _ lk) rfl S.co S.gen rfl (codeRec_of KX g9) (hb _ _ _ _ ?_)
 refine wpAny_newFunctionEnv_cells S.kind JH λenv he s1 x=>?_
 subst he
 refine⟨OA.keeps x.toInCall.keep,codeAny_func ?_⟩
 obtain⟨t,ht,hq⟩:=a9 A outer s H vs Q E (hr.deeper _) q9
 have I:Inv (cxOf CX P w K mg base N qual scope f cdv A outer s H E) [] (start N vs) H s1:=wt S hr.hd e0 hl r x
 refine wpAny_mono (ht [] s1 (start N vs) H _ I hq) (λfl s' hs=>?_) λe s' hs=>hs
 have d5:∀ {σ':St} {H':Hp} {v:V} {u:Value},Inv (cxOf CX P w K mg base N qual scope f cdv A outer s H E) [] σ' H' s'->RelV v u->Q v H'->CE outer P w H s Q u s':=
  λ{σ' H' v u} J rv q=>⟨v,H',J.os,J.bare,J.base,J.hok,rv,q⟩
 cases fl with
 |ret u=>
  obtain⟨v,σ',H',J,rv,q⟩:=hs
  exact d5 J rv q
 |next=>
  obtain⟨σ',H',J,q⟩:=hs
  exact d5 (v:=V.non) (u:=Value.none) J rfl q
 |brk=>
  obtain⟨_,_,_,q⟩:=hs
  exact False.elim q
 |cont=>
  obtain⟨_,_,_,q⟩:=hs
  exact False.elim q
section
variable {X:Cx}{x:Str}{p pos:Pos}{e:Expr}{es:List Expr}{t:TA}{id T:String}{r:List V->Hp->VK->Prop}
def tCB(r:List V->Hp->VK->Prop)(t:TA):TE:=λσ H Q=>t σ H λvs H1=>r vs H1 Q
theorem gj(hc:bA X (.builtin id) r)(hg:Gl X x)(hm:X.mg x=none)(hv:bootBuiltins x=some (.builtin id))(ha:PA X (e::es) t)(hn:x≠"__name__":=by decide)(d7:zND x:=by decide)
  (he:zSE X e es:=by rfl) (b9:zPL X pos es:=by rfl):PE X (.Call (.Name x p) (e::es) [] pos) (tCB r t):=by
 intro pins s σ H Q I h
 refine wpAny_Call_Name_kw (dv I hg hm hv ?_ hn d7)
 exact PyProof.Rows.callWith_builtin1 (thn (ha pos pins s σ H _ I h) λus s1 ⟨vs,H1,I1,r1,q1⟩=>hc pins s1 σ H1 vs us Q I1 r1 q1) he b9
theorem qc(hc:bA X (.type T) r)(hg:Gl X x)(hm:X.mg x=none)(hv:bootBuiltins x=some (.type T))(ha:PA X (e::es) t)(hn:x≠"__name__":=by decide)(d7:zND x:=by decide)
  (he:zSE X e es:=by rfl) (b9:zPL X pos es:=by rfl):PE X (.Call (.Name x p) (e::es) [] pos) (tCB r t):=by
 intro pins s σ H Q I h
 refine wpAny_Call_Name_kw (dv I hg hm hv ?_ hn d7)
 exact PyProof.Rows.callWith_type1 (thn (ha pos pins s σ H _ I h) λus s1 ⟨vs,H1,I1,r1,q1⟩=>hc pins s1 σ H1 vs us Q I1 r1 q1) he b9
end
end L2
namespace HT
open PySem PyProof.Rows
section
variable {prog:Program}{w:World}{A:Around}{E:Value->Shared->Prop}{s:Shared}
theorem cat_tup{t b:Addr}{vs ws:List Value}{Q:Value->Shared->Prop}(ht:IsTup s.heap t vs.toArray)(hb:IsTup s.heap b ws.toArray)(hv:vs≠[])
  (h1:ws=[]->Q (.ref t) s) (h2:ws≠[]->Q (.ref s.heap.objs.size) {s with heap:=s.heap.push {cls:= .type "tuple",data:= .seq (vs++ws).toArray} })
  (g5:vs.length+ws.length<=sizeLine):wpAny (model prog w) A (binaryOp .Add (.ref t) (.ref b)) Q E s:=by
 obtain⟨⟨cls,dd,data,sl⟩,ho,hc,n,hd⟩:=id ht
 obtain⟨⟨OB,Nz,data2,NA⟩,KD,NB,n2,p6⟩:=id hb
 simp only at hc hd NB p6
 subst hc hd NB p6
 have e:vs.toArray++ws.toArray=(vs++ws).toArray:=by simp
 by_cases hw:ws=[]
 ·exact concat_meets ⟨_,ho,rfl⟩ ⟨_,KD,rfl⟩ noFill_tuple_add seq_tuple_add PySem.F.slot_tuple_add PySem.F.entry_tuple_add (PySem.F.args_tuple_add_2 _ _)
   (tuple_addW1 t b vs.toArray ws.toArray n n2 dd Nz sl NA (by simpa using hv) (by simp[hw])) ⟨ho,KD,h1 hw⟩
 ·refine concat_meets ⟨_,ho,rfl⟩ ⟨_,KD,rfl⟩ noFill_tuple_add seq_tuple_add PySem.F.slot_tuple_add PySem.F.entry_tuple_add (PySem.F.args_tuple_add_2 _ _)
   (tuple_addW2 t b vs.toArray ws.toArray n n2 dd Nz sl NA (by simpa using hv) (by simpa using hw) (by rw[ER,ER];exact g5)) ⟨ho,KD,?_⟩
  rw[e]
  exact h2 hw
def sIx(n d:Nat):Option Int->Nat
 |none=>d
 |some v=>if v<0 then(v+(n:Int)).toNat else min v.toNat n
theorem sIx_le(n d:Nat)(hd:d<=n)(o:Option Int):sIx n d o<=n:=by
 cases o with
 |none=>exact hd
 |some v=>
  show(if v<0 then(v+(n:Int)).toNat else min v.toNat n)<=n
  by_cases hv:v<0
  ·rw[if_pos hv];lia
  ·rw[if_neg hv];exact Nat.min_le_right _ _
theorem qd(v:Int)(n d:Nat):(if v<0 then max (v+(n:Int)) 0 else min v (n:Int))=((sIx n d (some v):Nat):Int):=by
 show(if v<0 then max (v+(n:Int)) 0 else min v (n:Int))=(((if v<0 then(v+(n:Int)).toNat else min v.toNat n):Nat):Int)
 by_cases hv:v<0
 ·simp only[if_pos hv];lia
 ·simp only[if_neg hv];lia
theorem wu(lo hi:Option Int)(n:Nat):Builtin.Slice.sliceAdjust lo hi 1 (n:Int)=(((sIx n 0 lo:Nat):Int),((sIx n n hi:Nat):Int)):=by
 have h1:¬ ((1:Int)<0):=by lia
 unfold Builtin.Slice.sliceAdjust
 simp only[h1,if_false]
 refine Prod.ext ?_ ?_
 ·cases lo with
  |none=>rfl
  |some v=>exact qd v n 0
 ·cases hi with
  |none=>rfl
  |some v=>exact qd v n n
theorem wv(i j:Nat):Builtin.Slice.slicePlaces (i:Int) (j:Int) 1=j - i:=by
 unfold Builtin.Slice.slicePlaces
 have h1:(1:Int)>0:=by lia
 simp only[h1,if_true,Int.ediv_one]
 split<;>lia
theorem qe{v:Value}{o:Option Int}{Q:Option Int->Shared->Prop}(p:IsPart v o)(h:Q o s):wpAny (model prog w) A (Builtin.Slice.slicePartIndex v) Q E s:=by
 cases p with
 |none=>exact slicePart_none h
 |int i t=>exact slicePart_int h
theorem ww{sl:Addr}{vl vu:Value}{lo hi:Option Int}{n:Nat}{Q:Int × Int × Nat->Shared->Prop}(hs:s.heap.IsSliceOf sl vl vu .none)(pl:IsPart vl lo)(pu:IsPart vu hi)
  (h:Q (((sIx n 0 lo:Nat):Int),1,sIx n n hi - sIx n 0 lo) s):wpAny (model prog w) A (Builtin.Slice.sliceApplied (.ref sl) (pure (n:Int))) Q E s:=by
 obtain⟨os,x_,NC,KE⟩:=id hs
 unfold Builtin.Slice.sliceApplied Builtin.Slice.sliceFields
 refine wpAny_bind (wpAny_bind (wpAny_field x_ KE (x:=vl) rfl (wpAny_bind (wpAny_field x_ KE (x:=vu) rfl (wpAny_bind (wpAny_field x_ KE (x:= .none) rfl (wpAny_pure ?_)))))))
 refine wpAny_bind (slicePart_none ?_)
 show wpAny _ _ (if((1:Int)==0)=true then _ else _) _ _ s
 rw[if_neg (by decide)]
 refine wpAny_bind (qe pl (wpAny_bind (qe pu (wpAny_bind (wpAny_pure ?_)))))
 show wpAny _ _ (match Builtin.Slice.sliceAdjust lo hi 1 (n:Int) with|(lo,hi)=>pure (lo,(1:Int),Builtin.Slice.slicePlaces lo hi 1)) _ _ s
 rw[wu lo hi n]
 show wpAny _ _ (pure (((sIx n 0 lo:Nat):Int),(1:Int),Builtin.Slice.slicePlaces ((sIx n 0 lo:Nat):Int) ((sIx n n hi:Nat):Int) 1)) _ _ s
 rw[wv]
 exact wpAny_pure h
theorem wx(xs:Array Value)(i k:Nat):((EN k).filterMap λ(m:Nat)=>xs[((i:Int)+(m:Int)*1).toNat]?).toArray=((xs.toList.drop i).take k).toArray:=by
 have e:(λ(m:Nat)=>xs[((i:Int)+(m:Int)*1).toNat]?)=λm=>xs[i+m]?:=by
  funext m
  have:((i:Int)+(m:Int)*1).toNat=i+m:=by lia
  rw[this]
 rw[e]
 have:=pick_run xs i k
 rw[Hg] at this
 have e2:((λx=>xs[x]?) ∘ λx=>i+x)=λm=>xs[i+m]?:=rfl
 rw[e2] at this
 rw[this]
theorem getItem_tuple_cut{t sl:Addr}{items:Array Value}{vl vu:Value}{lo hi:Option Int}{Q:Value->Shared->Prop}(ht:IsTup s.heap t items)(hs:s.heap.IsSliceOf sl vl vu .none)(pl:IsPart vl lo)(pu:IsPart vu hi)
  (hw:¬ (sIx items.size 0 lo=0/\sIx items.size items.size hi=items.size))
  (h:Q (.ref s.heap.objs.size) {s with heap:=s.heap.push {cls:= .type "tuple",data:= .seq ((items.toList.drop (sIx items.size 0 lo)).take (sIx items.size items.size hi - sIx items.size 0 lo)).toArray} })
  (g5:items.size<=sizeLine):wpAny (model prog w) A (getItem (.ref t) (.ref sl)) Q E s:=by
 have g8:sizeOk (.seq ((items.toList.drop (sIx items.size 0 lo)).take (sIx items.size items.size hi - sIx items.size 0 lo)).toArray):=by
  show((items.toList.drop (sIx items.size 0 lo)).take (sIx items.size items.size hi - sIx items.size 0 lo)).toArray.size<=sizeLine
  rw[ER,Gr,Gd,FW]
  lia
 have hj:sIx items.size items.size hi<=items.size:=sIx_le _ _ (EL _) hi
 obtain⟨os,x_,NC,KE⟩:=id hs
 have OC:s.TypeIs (.ref sl) "slice":=⟨os,x_,NC⟩
 unfold getItem
 try with_reducible refine wpAny_holding ?_
 first|refine wpAny_bind (wpAny_pure ?_)|skip
 refine wpAny_bind (wpAny_sequenceKey ht.typeIs (by decide) ?_)
 refine wpAny_bind (wpAny_callSpecial?_slot (name:=Str.ofString "__getitem__") ht.typeIs PyProof.Rows.slot_tuple_getitem
  (wpAny_call_entry PyProof.Rows.slot_tuple_getitem ht.typeIs entry_tuple_getitem ?_ (args_tuple_getitem _ _)))
 show wpAny _ _ (Builtin.Tuple.tupleItemsOf (.ref t)>>=_) _ _ s
 refine wpAny_bind (tupleItemsOf_ ht ?_)
 refine wpAny_bind (wpAny_typeOf OC ?_)
 rw[if_pos (by decide)]
 refine wpAny_bind (ww hs pl pu ?_)
 have c_:¬ ((((sIx items.size 0 lo:Nat):Int)==0 && (1:Int)==1 && (sIx items.size items.size hi - sIx items.size 0 lo)==items.size)=true):=by
  intro q
  rw[Fg,Fg] at q
  have q1:((sIx items.size 0 lo:Nat):Int)=0:=eq_of_beq q.1.1
  have q2:sIx items.size items.size hi - sIx items.size 0 lo=items.size:=eq_of_beq q.2
  exact hw ⟨by lia,by lia⟩
 show wpAny _ _ (if(((sIx items.size 0 lo:Nat):Int)==0 && (1:Int)==1 && (sIx items.size items.size hi - sIx items.size 0 lo)==items.size)=true then _ else _) _ _ s
 rw[if_neg c_,wx]
 first
  |exact wpAny_bind (m:=Builtin.Tuple.tupleExact _) (wpAny_newObj_type (wpAny_pure ⟨_,rfl,wpAny_pure h⟩) g8)
  |exact wpAny_bind (m:=Builtin.Tuple.tupleExact _) (wpAny_newObj_type (wpAny_bind (wpAny_pure (wpAny_pure ⟨_,rfl,wpAny_pure h⟩))) g8)
  |exact wpAny_bind (wpAny_bind (m:=Builtin.Tuple.tupleExact _) (wpAny_newObj_type (wpAny_pure (wpAny_pure ⟨_,rfl,wpAny_pure h⟩)) g8))
  |exact wpAny_bind (wpAny_bind (m:=Builtin.Tuple.tupleExact _) (wpAny_newObj_type (wpAny_pure ⟨_,rfl,wpAny_pure h⟩) g8))
end
end HT
namespace L2
open PySem PySem.Spec PyProof.Rows
abbrev TO:=St->Hp->(Option Int->Hp->Prop)->Prop
def PO(X:Cx)(e:Option Expr)(t:TO):Prop:=
 ∀ (pins:List (Addr × Obj)) (s:Shared) (σ:St) (H:Hp) (Q:Option Int->Hp->Prop),Inv X pins σ H s->t σ H Q->
  wpAny (model X.prog X.w) X.A (evalPart e X.env) (λu s'=>∃ o H',Inv X pins σ H' s'/\IsPart u o/\Q o H') X.xe s
def wy:TO:=λ_ H Q=>Q none H
def wz(t:TE):TO:=λσ H Q=>t σ H λx H1=>∃ i,x= .int i/\Q (some i) H1
theorem intsAre_of{ns:List Int}:∀ {us:List Value},Vals (ns.map V.int) us->IntsAre us ns:=by
 induction ns with
 |nil=>intro us r;rw[FJ] at r;cases r;exact .nil
 |cons n ns ih=>
  intro us r
  rw[EY] at r
  cases r with
  |cons r1 r2=>
   obtain⟨t,e⟩:=r1
   subst e
   exact .cons n t (ih r2)
section
variable {X:Cx}{e:Expr}{te:TE}{lo hi:Option Expr}{tl th:TO}{pos p2:Pos}
theorem qf:PO X none wy:=by
 intro pins s σ H Q I h
 rw[evalPart_none]
 exact wpAny_pure ⟨none,H,I,.none,h⟩
theorem qg(h:PE X e te):PO X (some e) (wz te):=by
 intro pins s σ H Q I hw
 rw[evalPart_some]
 refine thn (h pins s σ H _ I hw) λu s1 ⟨x,H1,I1,r1,q1⟩=>?_
 obtain⟨i,rfl,q⟩:=q1
 obtain⟨t,rfl⟩:=r1
 exact⟨some i,H1,I1,.int i t,q⟩
def SlR(X:Cx)(r:V->Option Int->Option Int->Hp->VK->Prop):Prop:=
 ∀ (pins:List (Addr × Obj)) (s:Shared) (σ:St) (H:Hp) (x:V) (v vl vu:Value) (lo hi:Option Int) (sl:Addr) (Q:VK),Inv X pins σ H s->RelV x v->s.heap.IsSliceOf sl vl vu .none->IsPart vl lo->IsPart vu hi->r x lo hi H Q->
  ∃ T id,typeLookup (.type T) "__getitem__"=pure (some (.builtin id))/\s.TypeIs v T/\wpAny (model X.prog X.w) X.A (getItem v (.ref sl)) (EP X pins σ Q) X.xe s
theorem SlR.or{r r':V->Option Int->Option Int->Hp->VK->Prop}(h:SlR X r)(h':SlR X r'):SlR X (λx lo hi H Q=>r x lo hi H Q\/r' x lo hi H Q):=by
 intro pins s σ H x v vl vu lo hi sl Q I rx hs pl pu q
 rcases q with q|q
 ·exact h pins s σ H x v vl vu lo hi sl Q I rx hs pl pu q
 ·exact h' pins s σ H x v vl vu lo hi sl Q I rx hs pl pu q
def tSl(r:V->Option Int->Option Int->Hp->VK->Prop)(te:TE)(tl th:TO):TE:=λσ H Q=>te σ H λx H1=>tl σ H1 λl H2=>th σ H2 λu H3=>r x l u H3 Q
theorem qh{r:V->Option Int->Option Int->Hp->VK->Prop}(hr:SlR X r)(he:PE X e te)(hl:PO X lo tl)(hu:PO X hi th):PE X (.Subscript e (.Slice lo hi none p2) pos) (tSl r te tl th):=by
 intro pins s σ H Q I h
 refine Subscript_ (thn (he pins s σ H _ I h) λv s1 ⟨x,H1,I1,r1,q1⟩=>?_)
 refine wpAny_Slice (thn (hl pins s1 σ H1 _ I1 q1) λvl s2 ⟨l,H2,I2,pl,q2⟩=>thn (hu pins s2 σ H2 _ I2 q2) λvu s3 ⟨u,H3,I3,pu,q3⟩=>?_)
 rw[evalPart_none]
 refine wpAny_pure ?_
 have I4:Inv X pins σ H3 {s3 with heap:=s3.heap.push {cls:= .type "slice",data:= .fields #[vl,vu,.none]} }:=I3.kept (t':=s3.toks) λb ob q=>Heap.get?_push_of_some _ q
 obtain⟨T,id,hT,ht,hg⟩:=hr pins {s3 with heap:=s3.heap.push {cls:= .type "slice",data:= .fields #[vl,vu,.none]} } σ H3 x v vl vu l u s3.heap.objs.size Q I4 r1 (Heap.IsSliceOf.new ..) pl pu q3
 show wpAny (model X.prog X.w) X.A (subscriptTail e (.Slice lo hi none p2) v (.ref s3.heap.objs.size)) (EP X pins σ Q) X.xe {s3 with heap:=s3.heap.push {cls:= .type "slice",data:= .fields #[vl,vu,.none]} }
 exact tail_any (ops:=[.ref s3.heap.objs.size,v]) ht hT hg (by with_unfolding_all rfl)
def cutV(xs:List V)(lo hi:Option Int):List V:=(xs.drop (HT.sIx xs.length 0 lo)).take (HT.sIx xs.length xs.length hi - HT.sIx xs.length 0 lo)
theorem qi(xs:List V)(lo hi:Option Int):(cutV xs lo hi).length<=xs.length:=by
 unfold cutV
 rw[Gr,Gd]
 lia
def rSlT(K:Ex):V->Option Int->Option Int->Hp->VK->Prop:=λx lo hi H Q=>∃ a xs,x= .ref a/\SqT K H a xs/\
 ¬ (HT.sIx xs.length 0 lo=0/\HT.sIx xs.length xs.length hi=xs.length)/\∀ p,H p=none->Q (.ref p) (upd H p (.tup (cutV xs lo hi)))
theorem wA:SlR X (rSlT X.K):=by
 intro pins s σ H x v vl vu lo hi sl Q I rx hs pl pu h
 obtain⟨a,xs,rfl,hx,hw,q⟩:=h
 cases rx
 obtain⟨its,r,ht,hz⟩:=I.tuple hx
 have a_:its.toArray.size=xs.length:=by rw[ER];exact r.length.symm
 refine⟨"tuple",_,PyProof.Rows.slot_tuple_getitem.lookup,ht.typeIs,?_⟩
 refine HT.getItem_tuple_cut ht hs pl pu (by rw[a_];exact hw) ?_ (by rw[a_];exact hz)
 rw[a_]
 refine⟨.ref s.heap.objs.size,_,I.laid (t':=s.toks) (o:= .tup (cutV xs lo hi)) (λb ob q=>Heap.get?_push_of_some _ q) (EL _) ?_,rfl,q _ (I.hok.fresh (EL _))⟩
 exact⟨E1 (qi xs lo hi) hz,_,(r.drop (HT.sIx xs.length 0 lo)).take (HT.sIx xs.length xs.length hi - HT.sIx xs.length 0 lo),IsTup.new _ _⟩
def qj(K:Ex):R2:=λx y H Q=>∃ a b xs ys,x= .ref a/\y= .ref b/\SqT K H a xs/\SqT K H b ys/\xs≠[]/\xs.length+ys.length<=sizeLine/\
 (ys=[]->Q (.ref a) H)/\(ys≠[]->∀ p,H p=none->Q (.ref p) (upd H p (.tup (xs++ys))))
theorem Vals.nil_iff{xs:List V}{us:List Value}(r:Vals xs us):us=[]↔xs=[]:=by
 cases r with
 |nil=>simp
 |cons _ _=>simp
theorem wB:OpR X (binaryOp .Add) (qj X.K):=by
 intro pins s σ H x y v u Q I rx ry h
 obtain⟨a,b,xs,ys,rfl,rfl,ha,hb,hx,hz,q1,q2⟩:=h
 cases rx
 cases ry
 obtain⟨its,r1,p1,_⟩:=I.tuple ha
 obtain⟨d8,r2,p2,_⟩:=I.tuple hb
 refine HT.cat_tup p1 p2 (λz=>hx (r1.nil_iff.mp z)) (λz=>⟨.ref a,H,I,rfl,q1 (r2.nil_iff.mp z)⟩) (λz=>?_) (by rw[<- r1.length,<- r2.length];exact hz)
 refine⟨.ref s.heap.objs.size,_,I.laid (t':=s.toks) (o:= .tup (xs++ys)) (λb ob q=>Heap.get?_push_of_some _ q) (EL _) ?_,rfl,q2 (λw=>z (r2.nil_iff.mpr w)) _ (I.hok.fresh (EL _))⟩
 exact⟨by rw[EW];exact hz,_,r1.append r2,IsTup.new _ _⟩
end
def ixN(n:Nat)(i:Int):Option Nat:=if 0<=i then(if i<n then some i.toNat else none) else if -(n:Int)<=i then some (i+n).toNat else none
def atI{α:Type}(xs:List α)(i:Int):Option α:=(ixN xs.length i).bind λj=>xs[j]?
theorem wC{n:Nat}{i:Int}{j:Nat}(h:ixN n i=some j):seqIndex? i n=some j/\j<n/\-(n:Int)<=i/\i<n:=by
 unfold ixN at h
 by_cases h0:0<=i
 ·rw[if_pos h0] at h
  by_cases h1:i<n
  ·rw[if_pos h1] at h
   have e:i.toNat=j:=Option.some.inj h
   exact⟨by rw[seqIndex_of h0 h1,e],by lia,by lia,h1⟩
  ·rw[if_neg h1] at h;cases h
 ·rw[if_neg h0] at h
  by_cases h1: -(n:Int)<=i
  ·rw[if_pos h1] at h
   have e:(i+n).toNat=j:=Option.some.inj h
   exact⟨by rw[seqIndex_neg (by lia) h1,e],by lia,h1,by lia⟩
  ·rw[if_neg h1] at h;cases h
theorem atI_get{α:Type}{xs:List α}{i:Int}{v:α}(h:atI xs i=some v):∃ j,seqIndex? i xs.length=some j/\xs[j]?=some v/\j<xs.length/\-(xs.length:Int)<=i/\i<xs.length:=by
 unfold atI at h
 cases e:ixN xs.length i with
 |none=>rw[e] at h;cases h
 |some j=>
  rw[e] at h
  obtain⟨h1,h2,h3,h4⟩:=wC e
  exact⟨j,h1,h,h2,h3,h4⟩
theorem ce{α:Type}{xs:List α}{j:Nat}{v:α}(h:xs[j]?=some v):atI xs (j:Int)=some v:=by
 have hj:j<xs.length:=(E7.mp h).1
 have e:ixN xs.length (j:Int)=some j:=by
  unfold ixN
  rw[if_pos (by lia),if_pos (by lia)];simp
 unfold atI;rw[e];exact h
def fw(b:Expr):Prop:=∀ o i,subscripted b false o i=operate [o,i] (getItem o i)
def IxR(X:Cx)(r:R2):Prop:=
 ∀ (value slice:Expr) (pins:List (Addr × Obj)) (s:Shared) (σ:St) (H:Hp) (x y:V) (v u:Value) (Q:VK),Inv X pins σ H s->RelV x v->RelV y u->r x y H Q->
  subscripted slice false v u=operate [v,u] (getItem v u)->wpAny (model X.prog X.w) X.A (subscriptTail value slice v u) (EP X pins σ Q) X.xe s
def MtR(X:Cx)(id:String)(r:V->List V->Hp->VK->Prop):Prop:=
 ∀ (pins:List (Addr × Obj)) (s:Shared) (σ:St) (H:Hp) (x:V) (xs:List V) (v:Value) (us:List Value) (Q:VK),Inv X pins σ H s->RelV x v->Vals xs us->r x xs H Q->
  wpAny (model X.prog X.w) X.A (call (.builtin id) (v::us)) (EP X pins σ Q) X.xe s
section
variable {X:Cx}{a b:Expr}{ta tb:TE}{pos:Pos}
theorem IxR.or{r r':R2}(h:IxR X r)(h':IxR X r'):IxR X (λx y H Q=>r x y H Q\/r' x y H Q):=by
 intro value slice pins s σ H x y v u Q I rx ry q hs
 rcases q with q|q
 ·exact h value slice pins s σ H x y v u Q I rx ry q hs
 ·exact h' value slice pins s σ H x y v u Q I rx ry q hs
theorem pe_ix{r:R2}(hr:IxR X r)(ha:PE X a ta)(hb:PE X b tb)(hs:fw b):PE X (.Subscript a b pos) (tOp r ta tb):=by
 intro pins s σ H Q I h
 exact Subscript_ (binT ha hb I h λv u s2 x y H2 I2 rx ry q=>hr a b pins s2 σ H2 x y v u Q I2 rx ry q (hs _ _))
def rIxL(K:Ex):R2:=λx y H Q=>∃ p xs i v,x= .ref p/\y= .int i/\SqL K H p xs/\atI xs i=some v/\Q v H
def rIxT(K:Ex):R2:=λx y H Q=>∃ p xs i v,x= .ref p/\y= .int i/\SqT K H p xs/\atI xs i=some v/\Q v H
def rIxS:R2:=λx y H Q=>∃ z i c,x= .str z/\y= .int i/\z.length<=sizeLine/\atI z.cps.toList i=some c/\Q (.str ⟨#[c]⟩) H
theorem ix_list:IxR X (rIxL X.K):=by
 intro value slice pins s σ H x y v u Q I rx ry h hs
 obtain⟨p,xs,i,z,rfl,rfl,hq,he,q⟩:=h
 cases rx
 obtain⟨t,rfl⟩:=ry
 obtain⟨its,r,pl,hz⟩:=I.list hq
 obtain⟨j,h1,h2,h3,h4,h5⟩:=atI_get he
 obtain⟨w,ew,j7⟩:=r.get h2
 have hl:=r.length
 have hn:=line63
 have d5:EP X pins σ Q w s:=⟨z,H,I,j7,q⟩
 by_cases h0:0<=i
 ·have hj:i.toNat=j:=by
   rw[seqIndex_of h0 h5] at h1
   exact Option.some.inj h1
  exact item_listR pl.isList h0 (by lia) (by rw[hj];simpa using ew) d5 hs
 ·have hj:(i+(its.toArray.size:Int)).toNat=j:=by
   rw[seqIndex_neg (by lia) h4] at h1
   rw[ER,<- hl]
   exact Option.some.inj h1
  exact subscriptTail_builtinR (x:=w) pl.isList.typeIs slot_list_getitem.lookup
   (wpAny_getItem_list_neg (Q:=λr s'=>r=w/\EP X pins σ Q r s') pl.isList (by lia) (by rw[ER]<;>lia) (by lia) (by rw[hj];simpa using ew) ⟨rfl,d5⟩) hs
theorem ix_tup:IxR X (rIxT X.K):=by
 intro value slice pins s σ H x y v u Q I rx ry h hs
 obtain⟨p,xs,i,z,rfl,rfl,hq,he,q⟩:=h
 cases rx
 obtain⟨t,rfl⟩:=ry
 obtain⟨its,r,pl,hz⟩:=I.tuple hq
 obtain⟨j,h1,h2,h3,h4,h5⟩:=atI_get he
 obtain⟨w,ew,j7⟩:=r.get h2
 have hl:=r.length
 have hn:=line63
 have d5:EP X pins σ Q w s:=⟨z,H,I,j7,q⟩
 exact subscriptTail_builtinR (x:=w) pl.typeIs slot_tuple_getitem.lookup
  (getItem_tuple (j:=j) (Q:=λr s'=>r=w/\EP X pins σ Q r s') pl (by lia) (by lia) (by rw[ER,<- hl];exact h1) (by simpa using ew) ⟨rfl,d5⟩) hs
theorem wE:IxR X rIxS:=by
 intro value slice pins s σ H x y v u Q I rx ry h hs
 obtain⟨z,i,c,rfl,rfl,hz,he,q⟩:=h
 obtain⟨t,rfl⟩:=rx
 obtain⟨t',rfl⟩:=ry
 obtain⟨j,h1,h2,h3,h4,h5⟩:=atI_get he
 have hl:z.cps.toList.length=z.length:=by simp[Str.length]
 rw[hl] at h1 h4 h5
 have hn:=line63
 exact tail_any (typeIs_str s z t) slot_str_getitem.lookup (getItem_str (c:=c) (by
  have e1:decide (i< -(2 ^ 63:Int))=false:=decide_eq_false (by lia)
  have e2:decide (i >= 2 ^ 63)=false:=decide_eq_false (by lia)
  rw[e1,e2,Bool.or_false]) (by rw[h1];simpa using h2) ⟨.str ⟨#[c]⟩,H,I.tok _,⟨_,rfl⟩,q⟩) hs
def rIx(K:Ex):R2:=λx y H Q=>rIxL K x y H Q\/rIxT K x y H Q\/rIxS x y H Q
theorem qk:IxR X (rIx X.K):=ix_list.or (ix_tup.or wE)
theorem Inv.lst{pins:List (Addr × Obj)}{σ:St}{H:Hp}{s:Shared}{p:Addr}{xs:List V}(I:Inv X pins σ H s)(h:H p=some (.lst xs)):
  ∃ (its:List Value) (n:Nat),Vals xs its/\s.heap.get? p=some {cls:= .type "list",data:= .seq its.toArray n}/\xs.length<=sizeLine:=by
 obtain⟨z,its,n,r,e⟩:=I.hok p _ h
 exact⟨its,n,r,e,z⟩
theorem wF(lo hi:Option Int)(n:Nat):(sliceBounds lo hi none n).1=((HT.sIx n 0 lo:Nat):Int)/\(sliceBounds lo hi none n).2.1=((HT.sIx n n hi:Nat):Int)/\(sliceBounds lo hi none n).2.2=1:=by
 refine⟨?_,?_,rfl⟩
 ·cases lo with
  |none=>simp[sliceBounds,HT.sIx]
  |some i=>
   simp only[sliceBounds,HT.sIx,Hi,show(1:Int)>0 by decide,if_true]
   by_cases h:i<0
   ·simp only[h,if_true]<;>lia
   ·simp only[h,if_false]<;>lia
 ·cases hi with
  |none=>simp[sliceBounds,HT.sIx]
  |some i=>
   simp only[sliceBounds,HT.sIx,Hi,show(1:Int)>0 by decide,if_true]
   by_cases h:i<0
   ·simp only[h,if_true]<;>lia
   ·simp only[h,if_false]<;>lia
theorem wG(its:List Value)(lo hi:Option Int):slicePick its.toArray lo hi none=((its.drop (HT.sIx its.length 0 lo)).take (HT.sIx its.length its.length hi - HT.sIx its.length 0 lo)).toArray:=by
 obtain⟨h1,h2,h3⟩:=wF lo hi its.toArray.size
 unfold slicePick
 rw[h1,h2,h3]
 simp only[sliceRange_one,pick_run,ER]<;>rfl
def rSlL(K:Ex):V->Option Int->Option Int->Hp->VK->Prop:=λx lo hi H Q=>∃ a xs,x= .ref a/\SqL K H a xs/\∀ p,H p=none->Q (.ref p) (upd H p (.lst (cutV xs lo hi)))
theorem ql:SlR X (rSlL X.K):=by
 intro pins s σ H x v vl vu lo hi sl Q I rx hs pl pu h
 obtain⟨a,xs,rfl,hx,q⟩:=h
 cases rx
 obtain⟨its,r,ht,hz⟩:=I.list hx
 have a_:=r.length
 refine⟨"list",_,slot_list_getitem.lookup,ht.isList.typeIs,?_⟩
 refine wpAny_getItem_list_slice ht.isList hs pl pu .none (by simp) ?_ (by rw[ER]<;>lia)
 rw[wG,<- a_]
 refine⟨.ref s.heap.objs.size,_,I.laid (t':=s.toks) (o:= .lst (cutV xs lo hi)) (λb ob q=>Heap.get?_push_of_some _ q) (EL _) ?_,rfl,q _ (I.hok.fresh (EL _))⟩
 exact⟨E1 (qi xs lo hi) hz,_,0,(r.drop (HT.sIx xs.length 0 lo)).take (HT.sIx xs.length xs.length hi - HT.sIx xs.length 0 lo),Heap.get?_push_size _ rfl⟩
def bp:V->Bool
 | .non=>true
 | .bl _=>true
 | .int _=>true
 | .str _=>true
 |_=>false
def eqV:V->V->Bool
 | .non,.non=>true
 | .bl a,.bl b=>a==b
 | .bl a,.int b=>(if a then 1 else 0)==b
 | .int a,.bl b=>a==(if b then 1 else 0)
 | .int a,.int b=>a==b
 | .str a,.str b=>a==b
 |_,_=>false
theorem eqAt_V{A:Around}{s:Shared}{y x:V}{u v:Value}(ry:RelV y u)(rx:RelV x v)(fy:bp y=true)(fx:bp x=true):SeqAt.EqAt A s u v (eqV y x):=by
 cases y with
 |non=>
  cases ry
  cases x with
  |non=>cases rx;exact SeqAt.EqAt.same _
  |bl b=>cases rx;exact SeqAt.EqAt.none_bool b
  |int b=>obtain⟨t,rfl⟩:=rx;exact SeqAt.EqAt.none_int b t
  |str b=>obtain⟨t,rfl⟩:=rx;exact SeqAt.EqAt.none_str b t
  |_=>exact absurd (show false=true from fx) E2
 |bl a=>
  cases ry
  cases x with
  |non=>cases rx;exact SeqAt.EqAt.bool_none a
  |bl b=>cases rx;exact SeqAt.EqAt.bool_bool a b
  |int b=>obtain⟨t,rfl⟩:=rx;exact SeqAt.EqAt.bool_int a b t
  |str b=>obtain⟨t,rfl⟩:=rx;exact SeqAt.EqAt.bool_str a b t
  |_=>exact absurd (show false=true from fx) E2
 |int a=>
  obtain⟨t',rfl⟩:=ry
  cases x with
  |non=>cases rx;exact SeqAt.EqAt.int_none a t'
  |bl b=>cases rx;exact SeqAt.EqAt.int_bool a t' b
  |int b=>obtain⟨t,rfl⟩:=rx;exact SeqAt.EqAt.int_int a t' b t
  |str b=>obtain⟨t,rfl⟩:=rx;exact SeqAt.EqAt.int_str a t' b t
  |_=>exact absurd (show false=true from fx) E2
 |str a=>
  obtain⟨t',rfl⟩:=ry
  cases x with
  |non=>cases rx;exact SeqAt.EqAt.str_none a t'
  |bl b=>cases rx;exact SeqAt.EqAt.str_bool a t' b
  |int b=>obtain⟨t,rfl⟩:=rx;exact SeqAt.EqAt.str_int a t' b t
  |str b=>obtain⟨t,rfl⟩:=rx;exact SeqAt.EqAt.str_str a t' b t
  |_=>exact absurd (show false=true from fx) E2
 |_=>exact absurd (show false=true from fy) E2
def eqU(x:V)(u:Value):Bool:=match u with
 | .none=>eqV .non x
 | .bool b=>eqV (.bl b) x
 | .int i _=>eqV (.int i) x
 | .str z _=>eqV (.str z) x
 |_=>false
theorem qm{x y:V}{u:Value}(r:RelV y u)(f:bp y=true):eqU x u=eqV y x:=by
 cases y with
 |non=>cases r;rfl
 |bl b=>cases r;rfl
 |int i=>obtain⟨t,rfl⟩:=r;rfl
 |str z=>obtain⟨t,rfl⟩:=r;rfl
 |_=>exact absurd (show false=true from f) E2
theorem jv{x:V}:∀ {xs:List V} {us:List Value},Vals xs us->xs.all bp=true->us.any (eqU x)=xs.any λy=>eqV y x
 |_,_,.nil,_=>rfl
 |y::xs,u::us,.cons r t,f=>by
  rw[FC,Fg] at f
  rw[FZ,FZ,qm r f.1,jv t f.2]
theorem mem_eqAt{A:Around}{s:Shared}{x:V}{v:Value}(rx:RelV x v)(fx:bp x=true):∀ {xs:List V} {us:List Value},Vals xs us->xs.all bp=true->∀ u∈us,SeqAt.EqAt A s u v (eqU x u)
 |_,_,.nil,_=>λu hu=>by cases hu
 |y::xs,u::us,.cons r t,f=>λu' hu=>by
  rw[FC,Fg] at f
  rcases EO.mp hu with rfl|hu
  ·rw[qm r f.1];exact eqAt_V r rx f.1 fx
  ·exact mem_eqAt rx fx t f.2 u' hu
def inV(x:V)(xs:List V):Bool:=xs.any λy=>eqV y x
def rIn(K:Ex)(neg:Bool):R2:=λx y H Q=>∃ p xs,y= .ref p/\(SqL K H p xs\/SqT K H p xs)/\bp x=true/\xs.all bp=true/\Q (.bl (if neg then !inV x xs else inV x xs)) H
theorem wH:OpR X (compareOp .NotIn) (rIn X.K true):=by
 intro pins s σ H x y v u Q I rx ry h
 obtain⟨p,xs,rfl,hq,fx,fs,q⟩:=h
 cases ry
 rcases hq with hq|hq
 ·obtain⟨its,r,pl,hz⟩:=I.list hq
  refine SeqAt.notIn_listAt (eqU x) pl.isList (λw hw=>mem_eqAt rx fx r fs w (by simpa using hw)) ⟨.bl _,H,I,rfl,?_⟩
  rw[show its.toArray.any (eqU x)=its.any (eqU x) by simp,jv r fs]
  exact q
 ·obtain⟨its,r,pl,hz⟩:=I.tuple hq
  refine SeqAt.notIn_tupleAt (eqU x) pl (λw hw=>mem_eqAt rx fx r fs w (by simpa using hw)) ⟨.bl _,H,I,rfl,?_⟩
  rw[show its.toArray.any (eqU x)=its.any (eqU x) by simp,jv r fs]
  exact q
theorem wI:OpR X (compareOp .NotIn) (λx y H Q=>∃ i j,x= .str i/\y= .str j/\Q (.bl (!(!(Builtin.Str.occurrences j i 0 j.length 1).isEmpty))) H):=by
 intro pins s σ H x y v u Q I rx ry h
 obtain⟨i,j,rfl,rfl,q⟩:=h
 obtain⟨t,rfl⟩:=rx
 obtain⟨t',rfl⟩:=ry
 exact notIn_str ⟨.bl _,H,I,rfl,q⟩
theorem wJ:bA X (.type "list") (λxs H Q=>∃ p ys,xs=[.ref p]/\(SqL X.K H p ys\/SqT X.K H p ys)/\∀ l,H l=none->Q (.ref l) (upd H l (.lst ys))):=by
 intro pins s σ H xs us Q I r h
 obtain⟨p,ys,rfl,hq,q⟩:=h
 obtain⟨u,rfl,rx⟩:=bS r
 cases rx
 have d5:∀ (its:List Value),Vals ys its->ys.length<=sizeLine->∀ (h':Heap) (c':Nat),(∀ b o',s.heap.get? b=some o'->h'.get? b=some o')->
   h'.get? s.heap.objs.size=some {cls:= .type "list",dict:=none,data:= .seq its.toArray c',slots:=#[]}->EP X pins σ Q (.ref s.heap.objs.size) {s with heap:=h'}:=λits r' hz h' c' kp e=>
  ⟨.ref s.heap.objs.size,_,I.laid (t':=s.toks) kp (EL _) (show ObjOk X.prog X.w _ h' _ (.lst ys) from⟨hz,its,c',r',e⟩),rfl,q _ (I.hok.fresh (EL _))⟩
 rcases hq with hq|hq
 ·obtain⟨its,r',pl,hz⟩:=I.list hq
  have a_:=r'.length
  obtain⟨o,ho,hc,n,hd⟩:=pl.isList
  exact call_list_seq p (.inl rfl) ho hc hd (λh' c' kp e=>d5 its r' hz h' c' kp e) (by simp only[ER]<;>lia)
 ·obtain⟨its,r',pl,hz⟩:=I.tuple hq
  have a_:=r'.length
  obtain⟨o,ho,hc,n,hd⟩:=pl
  exact call_list_seq p (.inr rfl) ho hc hd (λh' c' kp e=>d5 its r' hz h' c' kp e) (by simp only[ER]<;>lia)
theorem wK:bA X (.type "tuple") (λxs H Q=>∃ p ys,xs=[.ref p]/\((SqL X.K H p ys/\∀ l,H l=none->Q (.ref l) (upd H l (.tup ys)))\/(SqT X.K H p ys/\Q (.ref p) H))):=by
 intro pins s σ H xs us Q I r h
 obtain⟨p,ys,rfl,h⟩:=h
 obtain⟨u,rfl,rx⟩:=bS r
 cases rx
 rcases h with⟨hq,q⟩|⟨hq,q⟩
 ·obtain⟨its,r',pl,hz⟩:=I.list hq
  have a_:=r'.length
  refine call_tuple_list pl.isList (λh' kp=>?_) (by simp only[ER]<;>lia)
  have I1:Inv X pins σ H {s with heap:=h'}:=I.kept (t':=s.toks) kp
  have I2:Inv X pins σ (upd H h'.objs.size (.tup ys)) {s with heap:=h'.push {cls:= .type "tuple",data:= .seq its.toArray} }:=
   I1.laid (t':=s.toks) (λb o e=>Heap.get?_push_of_some _ e) (EL _) (show ObjOk X.prog X.w _ _ _ (.tup ys) from⟨hz,its,r',IsTup.new _ _⟩)
  exact⟨.ref h'.objs.size,_,I2,rfl,q _ (I1.hok.fresh (EL _))⟩
 ·obtain⟨its,r',pl,hz⟩:=I.tuple hq
  exact call_tuple_same pl ⟨.ref p,H,I,rfl,q⟩
def tyV(K:Ex)(T:String)(x:V)(H:Hp):Prop:=match x with
 | .str _=>T="str"
 | .int _=>T="int"
 | .ref p=>(T="list"/\∃ xs,SqL K H p xs)\/(T="tuple"/\∃ o,K.lookup p=some o/\o.cls= .type "tuple"/\o.dict=none)\/
   (T="dict"/\((∃ a8,H p=some (.dK a8))\/∃ a8,H p=some (.dT a8)))\/(T="set"/\∃ S n,H p=some (.set S n))
 |_=>False
theorem wL{pins:List (Addr × Obj)}{σ:St}{H:Hp}{s:Shared}{T:String}{x:V}{v:Value}(I:Inv X pins σ H s)(r:RelV x v)(ty:tyV X.K T x H):
  s.TypeIs v T/\∀ a,v= .ref a->∃ ob,s.heap.get? a=some ob/\ob.dict=none:=by
 cases x with
 |str z=>
  obtain⟨t,rfl⟩:=r
  cases(show T="str" from ty)
  exact⟨typeIs_str s z t,λ_ e=>nomatch e⟩
 |int i=>
  obtain⟨t,rfl⟩:=r
  cases(show T="int" from ty)
  exact⟨typeIs_int s i t,λ_ e=>nomatch e⟩
 |ref p=>
  cases r
  rcases ty with⟨rfl,xs,hq⟩|⟨rfl,o,hk,hc,hd⟩|⟨rfl,hk⟩|⟨rfl,S,n,hk⟩
  ·obtain⟨its,_,pl,_⟩:=I.list hq
   refine⟨pl.isList.typeIs,λa e=>?_⟩
   cases e
   obtain⟨o,n,e,c,hd,_⟩:=pl
   exact⟨o,e,hd⟩
  ·refine⟨⟨o,I.kIn p o hk,hc⟩,λa e=>?_⟩
   cases e
   exact⟨o,I.kIn _ o hk,hd⟩
  ·have z:∃ o,s.heap.get? p=some o/\o.ExactDict:=by
    rcases hk with⟨a8,hk⟩|⟨a8,hk⟩
    ·obtain⟨_,_,_,_,o,_,_,e,ex,_⟩:=I.hok p _ hk
     exact⟨o,e,ex⟩
    ·obtain⟨_,_,_,_,o,_,_,e,ex,_⟩:=I.hok p _ hk
     exact⟨o,e,ex⟩
   obtain⟨o,e,ex⟩:=z
   refine⟨⟨o,e,ex.1⟩,λa e2=>?_⟩
   cases e2
   exact⟨o,e,ex.2.1⟩
  ·obtain⟨o,_,_,_,e,ex,_⟩:=I.hok p _ hk
   refine⟨⟨o,e,ex.1⟩,λa e2=>?_⟩
   cases e2
   exact⟨o,e,ex.2.1⟩
 |_=>exact False.elim ty
def tBM(K:Ex)(T:String)(r:V->List V->Hp->VK->Prop)(to:TE)(t:TA):TE:=λσ H Q=>to σ H λx H1=>tyV K T x H1/\t σ H1 λxs H2=>r x xs H2 Q
variable {o e:Expr}{es:List Expr}{to:TE}{t:TA}{name:Str}{apos cpos:Pos}{T id:String}{r:V->List V->Hp->VK->Prop}
theorem dY(pa:PlainAttrs T)(slot:Slot T name id)(Ln:typeOf (.builtin id)=pure (.type "method_descriptor"))(hm:MtR X id r)(ho:PE X o to)(ha:PA X (e::es) t)
  (b8:attributeBase o name X.env (eval o X.env)=eval o X.env:=by rfl)
  (d_:((backTo cpos (starEach (e::es) X.env)).all (λx=>!x.1) && (backToKw cpos (keywordEach [] X.env)).all (λx=>x.1.isSome)
   && decide ((e::es).length+([]:List Keyword).length+(if([]:List Keyword).isEmpty then 0 else 1)<30))=true:=by rfl)
  (c5:(apos.endLine==cpos.line)=true:=by rfl) (hs:zSE X e es:=by rfl) (n4:zPL X cpos es:=by rfl):
  PE X (.Call (.Attribute o name apos) (e::es) [] cpos) (tBM X.K T r to t):=by
 intro pins s σ H Q I h
 refine wpAny_Call_method_late b8 d_ c5 rfl (thn (ho pins s σ H _ I h) λv s1 ⟨x,H1,I1,r1,ty,q1⟩=>?_)
 obtain⟨h1,h2⟩:=wL I1 r1 ty
 refine⟨T,id,pa,slot,Ln,h1,h2,?_⟩
 have hA:=ha cpos pins s1 σ H1 _ I1 q1
 rw[hs] at hA ⊢
 refine Calls.callWith_builtin (by show(false||(backTo cpos (starEach es X.env)).any (·.1))=false;rw[n4]<;>rfl) (Calls.evalArgs_plain ?_)
 exact thn hA λus s2 ⟨vs,H2,I2,r2,q2⟩=>hm pins s2 σ H2 x vs v us Q I2 r1 r2 q2
end
def MtM(X:Cx)(id:String)(r:V->List V->Hp->VK->Prop):Prop:=
 ∀ (pins:List (Addr × Obj)) (s:Shared) (σ:St) (H:Hp) (x:V) (xs:List V) (v:Value) (us:List Value) (Q:VK),Inv X pins σ H s->RelV x v->Vals xs us->r x xs H Q->
  wpAny (model X.prog X.w) X.A (call (.builtin id) (v::us)) (EP X pins σ Q) X.xe s
theorem Vals.one:∀ {x:V} {us:List Value},Vals [x] us->∃ u,us=[u]/\RelV x u
 |_,_,.cons r .nil=>⟨_,rfl,r⟩
theorem Vals.two:∀ {x y:V} {us:List Value},Vals [x,y] us->∃ u v,us=[u,v]/\RelV x u/\RelV y v
 |_,_,_,.cons r (.cons q .nil)=>⟨_,_,rfl,r,q⟩
theorem Vals.zero:∀ {us:List Value},Vals [] us->us=[]
 |_,.nil=>rfl
theorem Vals.dropLast{xs:List V}{us:List Value}(h:Vals xs us):Vals xs.dropLast us.dropLast:=by
 induction h with
 |nil=>exact .nil
 |cons r t ih=>
  cases t with
  |nil=>exact .nil
  |cons q t'=>exact .cons r ih
section
variable {X:Cx}{pins:List (Addr × Obj)}{σ:St}{H:Hp}{s:Shared}{l b:Addr}{xs ys zs:List V}
theorem Inv.lset{its its':List Value}{n:Nat}{f:Array Value->Array Value}{t':Nat}(I:Inv X pins σ H s)(hH:H l=some (.lst xs))
  (e:s.heap.get? l=some {cls:= .type "list",data:= .seq its.toArray n}) (hf:f its.toArray=its'.toArray) (hv:Vals ys its') (hz:ys.length<=sizeLine):
  Inv X pins σ (upd H l (.lst ys)) {s with heap:=s.heap.update l (Obj.mapSeq f),toks:=t'}:=by
 have q:=PySem.IsL.update e f
 rw[hf] at q
 refine I.write (x:=l) (e:=l) (by rw[hH];exact trivial) (.inl rfl) (λb' u hb hu=>(Heap.get?_update_other s.heap (Obj.mapSeq f) (Ne.symm hb)).trans hu) ⟨_,q⟩ ?_
 exact⟨hz,its',_,hv,q⟩
theorem Inv.lnew{its:List Value}{t':Nat}(I:Inv X pins σ H s)(hv:Vals ys its)(hz:ys.length<=sizeLine):
  Inv X pins σ (upd H s.heap.objs.size (.lst ys)) {s with heap:=s.heap.push {cls:= .type "list",data:= .seq its.toArray},toks:=t'}:=
 I.laid (λ_ _ q=>Heap.get?_push_of_some _ q) (EL _) ⟨hz,its,0,hv,Heap.get?_push_size _ rfl⟩
theorem Inv.fresh(I:Inv X pins σ H s):H s.heap.objs.size=none:=I.hok.fresh (EL _)
theorem Inv.lstM(I:Inv X pins σ H s)(hH:H l=some (.lst xs)):xs.length<=sizeLine/\∃ (its:List Value) (n:Nat),Vals xs its/\xs.length=its.length/\s.heap.get? l=some {cls:= .type "list",data:= .seq its.toArray n}:=by
 obtain⟨z,its,n,r,e⟩:=I.hok l _ hH
 exact⟨z,its,n,r,r.length,e⟩
theorem wM{n:Nat}(h:n<=sizeLine):Builtin.List.listTooLong n=false:=by
 unfold Builtin.List.listTooLong
 exact decide_eq_false (by lia)
end
section
variable {X:Cx}
def wN:V->List V->Hp->VK->Prop:=λx vs H Q=>∃ l xs y,x= .ref l/\vs=[y]/\H l=some (.lst xs)/\xs.length<sizeLine/\Q .non (upd H l (.lst (xs++[y])))
theorem gk:MtM X "list.append" wN:=by
 intro pins s σ H x vs v us Q I rx rv h
 obtain⟨l,xs,y,rfl,rfl,hH,hz,q⟩:=h
 cases rx
 obtain⟨u,rfl,ru⟩:=rv.one
 obtain⟨z,its,n,r,hl,e⟩:=I.lstM hH
 refine call_meets F.slot_list_append ⟨_,e,rfl⟩ F.entry_list_append (F.args_list_append_2 _ _) (PySem.list_append l its.toArray n u (by rw[ER];lia)) ⟨e,?_⟩
 refine⟨.non,_,I.lset (its':=its++[u]) hH e (by simp) (r.append (.cons ru .nil)) ?_,rfl,q⟩
 rw[EW,List.length_singleton]
 lia
def wO:V->List V->Hp->VK->Prop:=λx vs H Q=>∃ l b xs zs,x= .ref l/\vs=[.ref b]/\H l=some (.lst xs)/\H b=some (.lst zs)/\xs.length+zs.length<=sizeLine/\Q .non (upd H l (.lst (xs++zs)))
theorem EG:MtM X "list.extend" wO:=by
 intro pins s σ H x vs v us Q I rx rv h
 obtain⟨l,b,xs,zs,rfl,rfl,hH,hB,hz,q⟩:=h
 cases rx
 obtain⟨u,rfl,ru⟩:=rv.one
 cases ru
 obtain⟨z,its,n,r,hl,e⟩:=I.lstM hH
 obtain⟨z2,d8,n2,r2,Ig,e2⟩:=I.lstM hB
 have g5:its.toArray.size+d8.toArray.size<=sizeLine:=by rw[ER,ER];lia
 have JI:¬ (!its.toArray.isEmpty && Builtin.List.listTooLong (its.toArray.size+d8.toArray.size))=true:=by
  rw[wM g5,Hj]
  exact E2
 refine call_meets F.slot_list_extend ⟨_,e,rfl⟩ F.entry_list_extend (F.args_list_extend_2 _ _)
  (AutoSeq1.list_extend_list_list_0 l its.toArray n b d8.toArray n2 JI (by rw[ER];lia) (by lia)) ⟨e,e2,?_⟩
 refine⟨.non,_,I.lset (its':=its++d8) hH e (by simp) (r.append r2) ?_,rfl,q⟩
 rw[EW]
 lia
def rCat:R2:=λx y H Q=>∃ l b xs zs,x= .ref l/\y= .ref b/\H l=some (.lst xs)/\H b=some (.lst zs)/\xs.length+zs.length<=sizeLine/\∀ p,H p=none->Q (.ref p) (upd H p (.lst (xs++zs)))
theorem wP:OpR X (binaryOp .Add) rCat:=by
 intro pins s σ H x y v u Q I rx ry h
 obtain⟨l,b,xs,zs,rfl,rfl,hH,hB,hz,q⟩:=h
 cases rx
 cases ry
 obtain⟨z,its,n,r,hl,e⟩:=I.lstM hH
 obtain⟨z2,d8,n2,r2,Ig,e2⟩:=I.lstM hB
 refine PySem.P.add_list e e2 ?_ (by rw[ER,ER];lia)
 have ea:its.toArray++d8.toArray=(its++d8).toArray:=by simp
 rw[ea]
 exact⟨.ref _,_,I.lnew (t':=s.toks) (r.append r2) (by rw[EW];lia),rfl,q _ I.fresh⟩
end
end L2
namespace ND
open PySem PySem.W PySem.Calls PyProof.Rows
theorem wQ{P:Params}{h:Heap}:∀ (ns:List Int) (vs:List Value),WellAll P h vs (ns.map WData.int)->IntsAre vs ns:=by
 intro ns
 induction ns with
 |nil=>
  intro vs w
  rw[FJ] at w
  cases w
  exact .nil
 |cons n ns ih=>
  intro vs w
  rw[EY] at w
  cases w with
  |cons a b=>
   cases a
   exact .cons _ _ (ih _ b)
theorem wR{l:OpenLaw}{n:Nat}(hn:l.most=some n){P:Params}{h:Heap}{args:List WData}{IB:List Value}
  (y7:l.row.toRowW.claim.pre args=true) (Lo:WellAll P h IB args):
  ∃ a vs ns,IB=[Value.ref a]/\args=[WData.list (ns.map WData.int)]/\h.get? a=some {cls:= .type "list",data:= .seq vs.toArray}/\IntsAre vs ns/\ns.length<=n:=by
 have OD:WShape.hasAll [] args [.list .int]=true:=(pre_splitW y7).1
 have hc:l.pre.holds [] {args:=args}=true:=(pre_splitW y7).2
 obtain⟨d,r,rfl,h1,h2⟩:=hasAllW_cons OD
 obtain rfl:=hasAllW_nil h2
 obtain⟨xs,rfl,h3⟩:=hasW_list h1
 obtain⟨ns,rfl⟩:=items_int h3
 have a_:ns.length<=n:=by
  unfold OpenLaw.pre at hc
  have h4:(WTm.not (.lt (.lit (.int (n:Int))) (.len (.arg 0)))).holds [] {args:=[.list (ns.map .int)]}=true:=by
   have h4:=(holds_andW hc).1
   rw[hn] at h4
   exact h4
  have h5:=condW_of h4 (w_not (w_lt w_lit (w_len_list (w_arg rfl))))
  rw[EU] at h5
  refine Ge λq=>?_
  have q':(n:Int)<((ns.length:Nat):Int):=by lia
  first
   |(rw[decide_eq_true q'] at h5;exact absurd h5 (by decide))
   |(simp at h5;lia)
 cases Lo with
 |cons w1 w2=>
  cases w2
  cases w1 with
  |list ho y8=>exact⟨_,_,ns,rfl,rfl,ho,wQ ns _ y8,a_⟩
theorem wS(l:OpenLaw)(args:List WData):l.row.toRowW.claim.post args (.bool true) args=true:=
 postW_of (r:=l.row.toRowW) (X:=(true==true))
  (show WShape.has [] (.bool true) .bool=true by first|rfl|decide|simp[WShape.has,WShape.arms,WShape.armsAll])
  (show(WTm.eq .res (.lit (.bool true))).value [] {args:=args,res:=some (.bool true),after:=args}=some (.bool (true==true)) from w_eq_bool (w_res rfl) w_lit) rfl
theorem attach_call{l:OpenLaw}{n:Nat}{q:Program}{j3:List Str}{XP:(Str->Option Value)->Heap->Prop}{YP:World->Heap->Prop}{d:DefRec}
  (hn:l.most=some n) (JJ:d.params.defaults=[])
  (call:∀ (w:World) (s₀ s₁:Shared) (mg mb:Str->Option Value) (fa:Addr) (o:Obj) (pm cd doc:Value) (a:Addr) (vs:List Value) (ns:List Int),
   Ground q j3 [] XP w s₀ mg mb s₁.heap->YP w s₁.heap->
   s₁.heap.get? fa=some o->o.data= .func (docDef d.name d.params d.body d.scope pm cd doc)->s₁.heap.CodeRec cd d.name->mg d.name=some (.ref fa)->
   s₁.heap.get? a=some {cls:= .type "list",data:= .seq vs.toArray}->IntsAre vs ns->ns.length<=n->s₁.gens=#[]->
   codeAny (model l.prog w) callerA (.call (.ref fa) ⟨[.ref a],[]⟩) (λr s'=>r= .ok (.ret (.bool true))/\OldK s₁.heap s'.heap/\s'.os=s₁.os/\AllBare s'.gens) s₁):
  WalkO q j3 XP YP l.row.toRowW d [] (λf vs=>PySem.call f vs):=by
 intro w s₀ s₁ mg mb G Y fa o pm cd doc dV kV ho hd g9 hD k_ hg args IB as y7 OE P4 Lo P5
 obtain rfl:dV= .none:=Dflts.none hD JJ
 obtain rfl:kV= .none:=Dflts.noKw hD
 obtain⟨a,vs,ns,rfl,rfl,IC,t_,a_⟩:=wR hn y7 Lo
 refine enter_call (codeAny_mono (call w s₀ s₁ mg mb fa o pm cd doc a vs ns G Y ho (fd_plain hd) g9 k_ IC t_ a_ hg) λr s' hq=>?_)
 obtain⟨rfl,h2,h3,h4⟩:=hq
 exact⟨.inl ⟨.bool true,.bool true,[],rfl,λ_=>rfl,.bool true,wS l _,λ_=>⟨List.Pairwise.nil,λ_ hm=>(nomatch hm)⟩⟩,h2,h3,h4⟩
end ND
namespace L2
open PySem PySem.Spec PyProof.Rows
theorem qo:∀ {vs:List Value} {ns:List Int},IntsAre vs ns->Vals (ns.map V.int) vs
 |_,_,.nil=> .nil
 |_,_,.cons n t h=> .cons ⟨t,rfl⟩ (qo h)
def Only(H:Hp):Prop:=∀ b,H b=none\/∃ o xs,H b=some (.frz o (.lst xs))
theorem wT{P:Program}{w:World}{K:Ex}{mg mb:Str->Option Value}{CX:CXT}{k:Nat}{fa a:Addr}{fd:FuncData}{x:Str}{sp:Sp}{s₁:Shared}{vs:List Value}{ns:List Int}
  (KX:K.In s₁.heap) (hns:s₁.heap.Ns mainGlobals mg) (hb:s₁.heap.Ns builtinsNs mb) (OF:∀ x:Str,x≠"__name__"->mb x=bootBuiltins x) (Lp:s₁.heap.NoLimit) (hg:s₁.gens=#[])
  (ha:s₁.heap.get? a=some {cls:= .type "list",data:= .seq vs.toArray}) (hi:IntsAre vs ns) (hl:ns.length<=sizeLine) (hr:Room k callerA)
  (F:∀ base:Heap,K.In base->base.Ns mainGlobals mg->FnOk P w K mg base CX k fa fd [x] sp) (JK:∀ (s:Shared) (u:Value),BindsTo s fd ⟨[u],[]⟩ [(x,u)])
  (q9:∀ H:Hp,Only H->SqL K H a (ns.map V.int)->sp [.ref a] H (λv _=>v= .bl true) λ_ _ _=>False)
  (Lq:∀ H e s',CX [] H s₁ (λ_ _ _=>False) e s'->False):
  codeAny (model P w) callerA (.call (.ref fa) ⟨[.ref a],[]⟩) (λr s'=>r= .ok (.ret (.bool true))/\OldK s₁.heap s'.heap/\s'.os=s₁.os/\AllBare s'.gens) s₁:=by
 have rv:=qo hi
 have Lr:=hi.length
 -- from an JL heap in NE KG P6 pc ID P7 be j6
 have JM:∀ H:Hp,Only H->SqL K H a (ns.map V.int)->HOk P w H s₁.heap->(∀ b,H b≠none->b=a)->(H a≠none->K.lookup a=none)->
   codeAny (model P w) callerA (.call (.ref fa) ⟨[.ref a],[]⟩) (λr s'=>r= .ok (.ret (.bool true))/\OldK s₁.heap s'.heap/\s'.os=s₁.os/\AllBare s'.gens) s₁:=by
  intro H hO hS hok hA hK
  have p7:∀ {b:Addr} {o:Obj},s₁.heap.get? b=some o->H b=none->(hidT s₁.heap H).get? b=some o:=λe n=>uw e n
  have JG:∀ {b:Addr} {o:Obj} {es:Array DictEntry} {ep:Nat},s₁.heap.get? b=some o->o.data= .dict es ep->H b=none:=λ{b o es ep} e d=>by
   cases q:H b with
   |none=>rfl
   |some u=>
    have e':b=a:=hA b (by rw[q];simp)
    subst e'
    rw[ha] at e;cases e
    have d':Data.seq vs.toArray _=Data.dict es ep:=d
    cases d'
  have KH:∀ {b:Addr} {m:Str->Option Value},s₁.heap.Ns b m->(hidT s₁.heap H).Ns b m:=λ{b m} ⟨o,es,ep,e,d,r⟩=>⟨o,es,ep,p7 e (JG e d),d,r⟩
  have NF:K.In (hidT s₁.heap H):=λb o e=>p7 (KX b o e) (by
   cases q:H b with
   |none=>rfl
   |some u=>
    have e':b=a:=hA b (by rw[q];simp)
    subst e'
    rw[hK (by rw[q];simp)] at e;cases e)
  have hM:Mod K mg (hidT s₁.heap H):=⟨NF,KH hns,⟨mb,KH hb,OF⟩,let ⟨mc,h1,h2⟩:=Lp;⟨mc,KH h1,h2⟩⟩
  have e0:Env0 P w K mg (hidT s₁.heap H) callerA [] s₁ H:=⟨rfl,hM,λb o e=>ux e,Gq (uv _ _),trivial,λb hb=>absurd (show b∈([]:List Addr) from hb) (by simp),hok,.of_eq hg⟩
  refine codeAny_mono ((F _ NF (KH hns)).run callerA [] s₁ H ⟨[.ref a],[]⟩ [.ref a] [.ref a] _ _ hr e0 (JK s₁ (.ref a)) (.cons rfl .nil) (q9 H hO hS)) λr s' h=>?_
  cases r with
  |error e=>exact(Lq H e s' h).elim
  |ok fl=>
   cases fl with
   |next=>exact False.elim h
   |brk=>exact False.elim h
   |cont=>exact False.elim h
   |ret u=>
    obtain⟨v,H',os,bare,un,Ls,r',q⟩:=h
    have q':v= .bl true:=q
    subst q'
    obtain rfl:u=Value.bool true:=r'
    refine⟨rfl,OldK.of_keep λb o e=>?_,os,bare⟩
    cases q:H b with
    |none=>exact un.keep b o e q (by intro z;exact absurd (show b∈([]:List Addr) from z) (by simp)) (by simp)
    |some u=>
     rcases hO b with z|⟨ob,xs,z⟩
     ·rw[q] at z;cases z
     ·have z2:=un.frzs b ob _ z
      obtain⟨e1,_⟩:=hok b _ z
      obtain⟨e2,_⟩:=Ls b _ z2
      rw[e] at e1;cases e1
      exact e2
 cases hk:K.lookup a with
 |some o=>
  -- pc ID is one of pc JN own x9
  have e:=KX a o hk
  rw[ha] at e
  cases e
  refine JM (λ_=>none) (λ_=> .inl rfl) (.inr ⟨_,vs.toArray,_,hk,rfl,rfl,rfl,by rw[ER,Lr];exact hl,by simpa using rv⟩) (λb u z=>by have z':(none:Option HO)=some u:=z;cases z') (λb z=>absurd rfl z) λz=>absurd rfl z
 |none=>
  refine JM (λb=>if b=a then some (.frz {cls:= .type "list",data:= .seq vs.toArray} (.lst (ns.map V.int))) else none) (λb=>?_) (.inl (.inr ⟨{cls:= .type "list",data:= .seq vs.toArray},if_pos rfl⟩)) (λb u z=>?_) (λb z=>?_) λ_=>hk
  ·by_cases hb:b=a
   ·exact .inr ⟨_,_,if_pos hb⟩
   ·exact .inl (if_neg hb)
  ·by_cases hb:b=a
   ·have z':=(if_pos hb).symm.trans z
    cases z'
    subst hb
    exact⟨ha,by rw[EU];exact hl,vs,_,rv,ha⟩
   ·have z':=(if_neg hb).symm.trans z
    cases z'
  ·by_cases hb:b=a
   ·exact hb
   ·exact absurd (if_neg hb) z
theorem walk_of{l:GR}{n k:Nat}{q:Program}{j3:List Str}{XP:(Str->Option Value)->Heap->Prop}{YP:World->Heap->Prop}{d:DefRec}{K:Params->Ex}{CX:World->CXT}{sp:World->Sp}{x:Str}
  (hn:l.most=some n) (w9:n<=sizeLine) (JJ:d.params.defaults=[]) (hr:Room k callerA)
  (hY:∀ (w:World) (h:Heap),YP w h->(K w.params).In h)
  (F:∀ (w:World) (mg:Str->Option Value) (fa:Addr) (h:Heap),(K w.params).In h->h.Ns mainGlobals mg->mg d.name=some (.ref fa)->
   ∃ fd:FuncData,(∀ (s:Shared) (u:Value),BindsTo s fd ⟨[u],[]⟩ [(x,u)])/\
    ∀ base:Heap,(K w.params).In base->base.Ns mainGlobals mg->FnOk l.prog w (K w.params) mg base (CX w) k fa fd [x] (sp w))
  (q9:∀ (w:World) (H:Hp) (a:Addr) (ns:List Int),ns.length<=n->Only H->SqL (K w.params) H a (ns.map V.int)->sp w [.ref a] H (λv _=>v= .bl true) λ_ _ _=>False)
  (Lq:∀ (w:World) (H:Hp) (s:Shared) (e:Value) (s':Shared),CX w [] H s (λ_ _ _=>False) e s'->False):
  Hk q j3 XP YP l.row.toRowW d [] (λf vs=>PySem.call f vs):=by
 refine ND.attach_call hn JJ λw s₀ s₁ mg mb fa o pm cd doc a vs ns G Y ho hd g9 k_ IC t_ a_ hg=>?_
 have KX:=hY w _ Y
 obtain⟨fd,hb,hF⟩:=F w mg fa _ KX G.T.g k_
 exact wT KX G.T.g G.T.b G.T.builtins G.T.nolimit hg IC t_ (E1 a_ w9) hr hF hb (λH hO hS=>q9 w H a ns a_ hO hS) λH e s'=>Lq w H s₁ e s'
def bg(s:Stmt)(j:Nat):Stmt:=match s with
 | .ClassDef _ _ _ body _ _ _ _ _ _ _=>body.getD j (.Pass ⟨0,0,0,0⟩)
 |_=> .Pass ⟨0,0,0,0⟩
def bG(s:Stmt):Arguments:=match s with
 | .FunctionDef _ a _ _ _ _ _ _ _ _=>a
 |_=>{posonlyargs:=[],args:=[],vararg:=none,kwonlyargs:=[],kw_defaults:=[],kwarg:=none,defaults:=[]}
def aJ(s:Stmt):List Stmt:=match s with
 | .FunctionDef _ _ b _ _ _ _ _ _ _=>b
 |_=>[]
def ag(s:Stmt):Scope:=match s with
 | .FunctionDef _ _ _ _ _ _ sc _ _ _=>sc
 |_=>{kind:= .function,names:=[],isGenerator:=false,isCoroutine:=false}
abbrev CX0:CXT:=λ_ _ _ _ _ _=>False
abbrev E0:XK:=λ_ _ _=>False
structure Fun(K:Ex)(x qual:Str)(st:Stmt)(f:Addr)(fd:FuncData):Prop where
 ex:∃ (oc:Value) (od:Option Addr) (kV doc pm:Value) (an:Option Addr) (cdv ct:Value) (osl:Array (Option Value)),
  fd=fnOf x qual (bG st) (aJ st) (ag st) .none kV doc pm an cdv ct/\K.lookup f=some ⟨oc,od,.func fd,osl⟩/\codeIn K cdv qual=true
 kp:keepIn K (.ref f)=true
section
variable {P:Program}{w:World}{K:Ex}{mg:Str->Option Value}{base:Heap}
theorem Fun.ok{x qual:Str}{st:Stmt}{f:Addr}{fd:FuncData}{N ps:List Str}{k:Nat}{sp:Sp}(F:Fun K x qual st f fd)(S:FnScope N ps (ag st))(len:∀ vs H Q E,sp vs H Q E->vs.length=ps.length)
  (a9:∀ (cdv:Value) (A:Around) (outer:List Env) (s:Shared) (H:Hp) (vs:List V) (Q:VK) (E:XK),Room k (A.deeper (envOfC qual (ag st) s.heap.objs.size f cdv))->sp vs H Q E->
   ∃ t,PSs (cxOf CX0 P w K mg base N qual (ag st) f cdv A outer s H E).nox (aJ st) t/\t {nx:=λ_ H'=>Q .non H',rt:=Q} (start N vs) H):FnOk P w K mg base CX0 (k+1) f fd ps sp:=by
 obtain⟨oc,od,kV,doc,pm,an,cdv,ct,osl,rfl,lk,g9⟩:=F.ex
 refine qa lk g9 S len λA outer s H vs Q E hr q9=>?_
 obtain⟨t,h,q⟩:=a9 cdv A outer s H vs Q E hr q9
 exact⟨t,h.nox,q⟩
theorem Fun.binds{x qual:Str}{st:Stmt}{f:Addr}{fd:FuncData}{ps:List Str}(F:Fun K x qual st f fd)
  (h:∀ (kV doc pm:Value) (an:Option Addr) (cdv ct:Value) (us:List Value),us.length=ps.length->bindArgs (fnOf x qual (bG st) (aJ st) (ag st) .none kV doc pm an cdv ct) ⟨us,[]⟩=pure (ps.zip us)):Binds K fd ps []:=by
 obtain⟨oc,od,kV,doc,pm,an,cdv,ct,osl,rfl,lk,g9⟩:=F.ex
 exact .all (h kV doc pm an cdv ct)
theorem gl{x qual:Str}{st:Stmt}{f:Addr}{oc:Value}{od an:Option Addr}{osl:Array (Option Value)}{kV doc pm cdv ct:Value}(l:K.lookup f=some ⟨oc,od,.func (fnOf x qual (bG st) (aJ st) (ag st) .none kV doc pm an cdv ct),osl⟩)
  (c:codeIn K cdv qual=true) (k:keepIn K (.ref f)=true):Fun K x qual st f (fnOf x qual (bG st) (aJ st) (ag st) .none kV doc pm an cdv ct):=⟨⟨oc,od,kV,doc,pm,an,cdv,ct,osl,rfl,l,c⟩,k⟩
end
theorem fz{A:Around}{k:Nat}(hr:Room k A):A.units+1<cLine:=Hl (Nat.add_le_add_left (by decide:1<=64) _) hr.units
theorem wU{n:Nat}(h:n<=1000):n<sizeLine:=Hl h (by decide)
theorem iteF{A B:Prop}(h:B):if false=true then A else B:=by
 rw[if_neg E2]
 exact h
theorem ite2{c A B:Prop}[Decidable c](h1:c->A)(h2:¬ c->B):if c then A else B:=by
 by_cases h:c
 ·rw[if_pos h]
  exact h1 h
 ·rw[if_neg h]
  exact h2 h
theorem jw{c A B:Prop}[Decidable c](hc:c)(h:B):if(!decide c)=true then A else B:=by
 rw[decide_eq_true hc]
 exact iteF h
def Same(H H':Hp):Prop:=∀ b o,H b=some o->H' b=some o
theorem Same.refl(H:Hp):Same H H:=λ_ _ h=>h
theorem Same.trans{H H1 H2:Hp}(a:Same H H1)(b:Same H1 H2):Same H H2:=λc o h=>b c o (a c o h)
theorem Same.free{H H':Hp}(e:Same H H'){l:Addr}(h:H' l=Option.none):H l=Option.none:=by
 cases q:H l with
 |none=>rfl
 |some o=>
  rw[e l o q] at h
  cases h
theorem Same.seq{K:Ex}{H H':Hp}{a:Addr}{xs:List V}(e:Same H H')(h:SqL K H a xs):SqL K H' a xs:=by
 rcases h with(h|⟨o,h⟩)|h
 ·exact .inl (.inl (e _ _ h))
 ·exact .inl (.inr ⟨o,e _ _ h⟩)
 ·exact .inr h
section
variable {κ:Type}[DecidableEq κ]
def valV(a8:List (κ × V))(k:κ):Option V:=(a8.find? λkv=>decide (kv.1=k)).map (·.2)
def putK(a8:List (κ × V))(k:κ)(v:V):List (κ × V):=
 if(a8.any λkv=>decide (kv.1=k))=true then a8.map (λkv=>if kv.1=k then(kv.1,v) else kv) else a8++[(k,v)]
theorem jx{p:κ × V}{r:List (κ × V)}{k:κ}(e:p.1=k):valV (p::r) k=some p.2:=by simp[valV,F4,e]
theorem jy{p:κ × V}{r:List (κ × V)}{k:κ}(e:¬ p.1=k):valV (p::r) k=valV r k:=by simp[valV,F4,e]
theorem RelO.getD{o:Option V}{u:Option Value}{d:V}{d':Value}(r:RelO o u)(rd:RelV d d'):RelV (o.getD d) (u.getD d'):=by
 cases o with
 |none=>cases u with
  |none=>exact rd
  |some _=>exact(show False from r).elim
 |some _=>cases u with
  |none=>exact(show False from r).elim
  |some _=>exact r
theorem KV.val{a8:List (κ × V)}{vs:List (κ × Value)}(r:KV a8 vs)(k:κ):RelO (valV a8 k) (valueAt vs k):=by
 unfold KV at r
 induction r with
 |nil=>exact True.intro
 |@cons p q ps qs h t ih=>
  obtain⟨h1,h2⟩:=h
  by_cases e:p.1=k
  ·have e':q.1=k:=h1.symm.trans e
   have b:valueAt (q::qs) k=some q.2:=by simp[valueAt,F4,e']
   rw[jx e,b];exact h2
  ·have e':¬ q.1=k:=λz=>e (h1.trans z)
   have b:valueAt (q::qs) k=valueAt qs k:=by simp[valueAt,F4,e']
   rw[jy e,b];exact ih
theorem KV.any{a8:List (κ × V)}{vs:List (κ × Value)}(r:KV a8 vs)(k:κ):(a8.any λkv=>decide (kv.1=k))=vs.any λkv=>decide (kv.1=k):=by
 unfold KV at r
 induction r with
 |nil=>rfl
 |cons h t ih=>rw[FZ,FZ,ih,h.1]
theorem KV.keys{a8:List (κ × V)}{vs:List (κ × Value)}(r:KV a8 vs):a8.map (·.1)=vs.map (·.1):=by
 unfold KV at r
 induction r with
 |nil=>rfl
 |cons h t ih=>rw[EY,EY,ih,h.1]
theorem KV.length{a8:List (κ × V)}{vs:List (κ × Value)}(r:KV a8 vs):a8.length=vs.length:=Paired.length r
end
theorem qp{P:Program}{w:World}{k:Key}{u:Value}(r:RelV (kV k) u):(bF P w).is k u=true:=by
 cases k with
 |inl i=>obtain⟨t,e⟩:=(show ∃ t,u=Value.int i t from r);subst e;exact mixKind_int P w i t
 |inr x=>obtain⟨t,e⟩:=(show ∃ t,u=Value.str x t from r);subst e;exact ut P w x t
theorem qq{P:Program}{w:World}:∀ {ks:List Key} {us:List Value},Vals (ks.map kV) us->ItemsAre (bF P w) ks us
 |[],_,r=>by rw[FJ] at r;cases r;exact .nil
 |k::ks,_,r=>by
  rw[EY] at r
  cases r with
  |cons h t=>exact .cons (qp h) (qq t)
abbrev KT(H:Hp):List (List Key × V)->List (List Key × Addr × Value)->Prop:=Paired λp q=>p.1=q.1/\H q.2.1=some (.tup (p.1.map kV))/\RelV p.2 q.2.2
theorem KT.val{H:Hp}{a8:List (List Key × V)}{xs:List (List Key × Addr × Value)}(r:KT H a8 xs)(k:List Key):RelO (valV a8 k) ((atKey xs k).map (·.2)):=by
 induction r with
 |nil=>exact True.intro
 |@cons p q ps qs h t ih=>
  obtain⟨h1,_,h2⟩:=h
  by_cases e:p.1=k
  ·have e':q.1=k:=h1.symm.trans e
   have b:atKey (q::qs) k=some q.2:=by simp[atKey,F4,e']
   rw[jx e,b];exact h2
  ·have e':¬ q.1=k:=λz=>e (h1.trans z)
   have b:atKey (q::qs) k=atKey qs k:=by simp[atKey,F4,e']
   rw[jy e,b];exact ih
theorem KT.keeps{H H':Hp}{a8:List (List Key × V)}{xs:List (List Key × Addr × Value)}(r:KT H a8 xs)(ht:∀ b ys,H b=some (.tup ys)->H' b=some (.tup ys)):KT H' a8 xs:=
 Paired.mapP r λ_ _ z=>⟨z.1,ht _ _ z.2.1,z.2.2⟩
section
variable {P:Program}{w:World}{H:Hp}{h:Heap}{a:Addr}
theorem qr{u:HO}(ok:HOk P w H h)(e:Rd H a u):ObjOk P w H h a u:=e.ok ok
theorem wV{a8:List (Key × V)}(ok:HOk P w H h)(e:Rd H a (.dK a8)):a8.length<=sizeLine/\(a==sysModules)=false/\∃ vs,KV a8 vs/\h.DictOf (bF P w) a vs:=
 show ObjOk P w H h a (.dK a8) from qr ok e
theorem key_of{ks:List Key}(ok:HOk P w H h)(e:H a=some (.tup (ks.map kV))):(tupleKind (bF P w)).is h ks a:=by
 obtain⟨_,its,r,o,h1,h2,n,h3⟩:=(show ObjOk P w H h a (.tup (ks.map kV)) from ok a _ e)
 exact⟨o,its.toArray,n,h1,h2,h3,by simpa using qq r⟩
theorem qt{a8:List (List Key × V)}(ok:HOk P w H h)(e:Rd H a (.dT a8)):a8.length<=sizeLine/\(a==sysModules)=false/\
  ∃ xs,KT H a8 xs/\h.DictOfH (tupleKind (bF P w)) a xs:=by
 obtain⟨z,y,xs,r,o,es,ep,h1,h2,h3,h4,h5⟩:=(show ObjOk P w H h a (.dT a8) from qr ok e)
 refine⟨z,y,xs,r,o,es,ep,h1,h2,h3,h4,λx hx=>?_,h5⟩
 have all:∀ {l:List (List Key × V)} {m:List (List Key × Addr × Value)},KT H l m->∀ x∈m,(tupleKind (bF P w)).is h x.1 x.2.1:=by
  intro l m q
  induction q with
  |nil=>intro x hx;exact nomatch hx
  |@cons p q ps qs hq t ih=>
   intro x hx
   rcases EO.mp hx with e|hx
   ·subst e
    exact key_of ok (by rw[<- hq.1];exact hq.2.1)
   ·exact ih x hx
 exact all r x hx
theorem wW{a8:List (List Key × V)}(ok:HOk P w H h)(e:H a=some (.dT a8)):a8.length<=sizeLine/\(a==sysModules)=false/\
  ∃ xs,KT H a8 xs/\h.DictOfH (tupleKind (bF P w)) a xs:=qt ok (.inl e)
end
def DGet(H:Hp)(a:Addr)(y:V)(r:Option V):Prop:=
 (∃ a8 k,Rd H a (.dK a8)/\y=kV k/\r=valV a8 k)\/∃ a8 k b,Rd H a (.dT a8)/\y= .ref b/\H b=some (.tup (k.map kV))/\r=valV a8 k
def DPut(H:Hp)(a:Addr)(y v:V)(H':Hp):Prop:=
 (∃ a8 k,H a=some (.dK a8)/\y=kV k/\a8.length<sizeLine/\H'=upd H a (.dK (putK a8 k v)))\/
 ∃ a8 k b,H a=some (.dT a8)/\y= .ref b/\H b=some (.tup (k.map kV))/\a8.length<sizeLine/\H'=upd H a (.dT (putK a8 k v))
theorem DGet.k{H:Hp}{a:Addr}{a8:List (Key × V)}{k:Key}(e:H a=some (.dK a8)):DGet H a (kV k) (valV a8 k):= .inl ⟨a8,k,.inl e,rfl,rfl⟩
theorem DGet.t{H:Hp}{a b:Addr}{a8:List (List Key × V)}{k:List Key}(e:H a=some (.dT a8))(eb:H b=some (.tup (k.map kV))):DGet H a (.ref b) (valV a8 k):= .inr ⟨a8,k,b,.inl e,rfl,eb,rfl⟩
theorem DPut.k{H:Hp}{a:Addr}{a8:List (Key × V)}{k:Key}{v:V}(e:H a=some (.dK a8))(hl:a8.length<sizeLine):DPut H a (kV k) v (upd H a (.dK (putK a8 k v))):= .inl ⟨a8,k,e,rfl,hl,rfl⟩
theorem DPut.t{H:Hp}{a b:Addr}{a8:List (List Key × V)}{k:List Key}{v:V}(e:H a=some (.dT a8))(eb:H b=some (.tup (k.map kV)))(hl:a8.length<sizeLine):
  DPut H a (.ref b) v (upd H a (.dT (putK a8 k v))):= .inr ⟨a8,k,b,e,rfl,eb,hl,rfl⟩
section
variable {X:Cx}{pins:List (Addr × Obj)}{σ:St}{H:Hp}{s:Shared}{a:Addr}{y v:V}{u r:Value}{o:Option V}{A:Around}{E:Value->Shared->Prop}
theorem Inv.big(I:Inv X pins σ H s):sysModules<s.heap.objs.size:=by
 have h:mainGlobals<s.heap.objs.size:=(I.mod.glob.keeps I.bk).lt
 exact Hm (by decide) h
theorem wX{h':Heap}{t':Nat}{ob:HO}(I:Inv X pins σ H s)(mu:Mut (H a))(hs:Heap.SameBut a s.heap h')(he:∃ q,h'.get? a=some q)(new:ObjOk X.prog X.w (upd H a ob) h' a ob):
  Inv X pins σ (upd H a ob) {s with heap:=h',toks:=t'}:=
 I.write (x:=a) (e:=a) mu (.inl rfl) (λb q hb z=>(hs.2 b hb).trans z) he new
end
theorem wY{P:Program}{w:World}{H:Hp}(h:Heap)(hb:sysModules<h.objs.size):ObjOk P w H (h.push {cls:= .type "dict",data:= .dict #[]}) h.objs.size (.dT []):=
 ⟨Fj _,beq_eq_false_iff_ne.mpr (Ne.symm (EZ hb)),[],.nil,_,#[],0,Heap.get?_push_size _ rfl,⟨rfl,rfl,rfl⟩,rfl,rfl,Hn⟩
def wZ:TE:=λ_ H Q=>∀ p,H p=none->Q (.ref p) (upd H p (.dT []))
section
variable {X:Cx}{pos:Pos}
theorem pe_dnewT:PE X (.Dict [] [] pos) wZ:=λpins s σ H Q I h=>
 wpAny_Dict_empty ⟨.ref s.heap.objs.size,_,I.laid (a:=s.heap.objs.size) (o:= .dT []) (t':=s.toks) (λ_ _ q=>Heap.get?_push_of_some _ q) (EL _) (wY s.heap I.big),rfl,h _ (I.hok.fresh (EL _))⟩
end
structure M1(X:Cx)(o:Expr)(m:Str)(apos:Pos)(e:Expr)(cpos:Pos):Prop where
 base:attributeBase o m X.env (eval o X.env)=eval o X.env
 few:((backTo cpos (starEach [e] X.env)).all (λx=>!x.1) && (backToKw cpos (keywordEach [] X.env)).all (λx=>x.1.isSome)
  && decide (([e]:List Expr).length+([]:List Keyword).length+(if([]:List Keyword).isEmpty then 0 else 1)<30))=true
 line:(apos.endLine==cpos.line)=true
 trees:backTo cpos (starEach [e] X.env)=[(false,eval e X.env)]
structure M2(X:Cx)(o:Expr)(m:Str)(apos:Pos)(e f:Expr)(cpos:Pos):Prop where
 base:attributeBase o m X.env (eval o X.env)=eval o X.env
 few:((backTo cpos (starEach [e,f] X.env)).all (λx=>!x.1) && (backToKw cpos (keywordEach [] X.env)).all (λx=>x.1.isSome)
  && decide (([e,f]:List Expr).length+([]:List Keyword).length+(if([]:List Keyword).isEmpty then 0 else 1)<30))=true
 line:(apos.endLine==cpos.line)=true
 trees:backTo cpos (starEach [e,f] X.env)=[(false,eval e X.env),(false,eval f X.env)]
section
variable {X:Cx}{pins:List (Addr × Obj)}{σ:St}{H:Hp}{s:Shared}{a:Addr}{y d:V}{u r:Value}{o:Option V}{A:Around}{E:Value->Shared->Prop}
theorem xa{Q:Value->Shared->Prop}(hu:A.units+1<cLine)(I:Inv X pins σ H s)(g:DGet H a y o)(ry:RelV y u)(rd:RelV d r)(h:∀ w' s',Inv X pins σ H s'->RelV (o.getD d) w'->Q w' s'):
  wpAny (model X.prog X.w) A (call (.builtin "dict.get") [.ref a,u,r]) Q E s:=by
 rcases g with⟨a8,k,e,ey,l⟩|⟨a8,k,b,e,ey,eb,l⟩
 ·subst ey
  obtain⟨z,hd,vs,IE,dd⟩:=wV I.hok e
  refine call_meetsIn PySem.F.slot_dict_get dd.typeIs PySem.F.entry_dict_get (PySem.F.args_dict_get_3 _ _ _) (meets_dict_get_default (bF X.prog X.w) a (qp ry) hd r) ⟨_,dd.mapOf,h _ _ (I.tok _) ?_⟩
  rw[l]
  exact(IE.val k).getD rd
 ·subst ey
  cases(show u=Value.ref b from ry)
  obtain⟨z,hd,xs,IE,dd⟩:=qt I.hok e
  refine call_meetsIn PySem.F.slot_dict_get dd.typeIs PySem.F.entry_dict_get (PySem.F.args_dict_get_3 _ _ _) (meetsH_dict_get_default (tupleKind (bF X.prog X.w)) a b hd r) ⟨tupleKind_room_in1 hu,k,xs,key_of I.hok eb,dd,h _ _ (I.tok _) ?_⟩
  rw[l]
  exact(IE.val k).getD rd
end
end L2
end
section
open PySem PySem.Spec PyProof.Rows L2
namespace Exc
open PySem PySem.Spec PyProof.Rows PySem.W L2
def aP:List Value->Bool
 | .ref _::r=>aP r
 |l=>l==[.type "ValueError",.type "Exception",.type "BaseException",.type "object"]
theorem qu(self:Value):∀ {l:List Value},aP l=true->refuseLoop self "__setattr__" l=pure ()
 | .ref c::r,e=>by rw[refuseLoop_ref];exact qu self (by unfold aP at e;exact e)
 |[],e=>by simp[aP] at e
 | .type n::r,e=>by
  have e':(Value.type n::r)=[.type "ValueError",.type "Exception",.type "BaseException",.type "object"]:=by simpa[aP] using e
  rw[e']
  exact PySem.F.store_ValueError.passes self
 | .none::r,e=>by simp[aP] at e
 | .bool _::r,e=>by simp[aP] at e
 | .int _ _::r,e=>by simp[aP] at e
 | .float _ _::r,e=>by simp[aP] at e
 | .str _ _::r,e=>by simp[aP] at e
 | .bytes _ _::r,e=>by simp[aP] at e
 | .builtin _::r,e=>by simp[aP] at e
theorem gm{T:String}(hT:[Value.type "ValueError",.type "Exception",.type "BaseException",.type "object"].contains (.type T)=true):∀ {l:List Value},aP l=true->l.contains (.type T)=true
 | .ref c::r,e=>by rw[Ho,gm hT (l:=r) (by unfold aP at e;exact e),GS]
 |[],e=>by simp[aP] at e
 | .type n::r,e=>by
  have e':(Value.type n::r)=[.type "ValueError",.type "Exception",.type "BaseException",.type "object"]:=by simpa[aP] using e
  rw[e'];exact hT
 | .none::r,e=>by simp[aP] at e
 | .bool _::r,e=>by simp[aP] at e
 | .int _ _::r,e=>by simp[aP] at e
 | .float _ _::r,e=>by simp[aP] at e
 | .str _ _::r,e=>by simp[aP] at e
 | .bytes _ _::r,e=>by simp[aP] at e
 | .builtin _::r,e=>by simp[aP] at e
section
variable {prog:Program}{w:World}{A:Around}{E:Value->Shared->Prop}{s:Shared}{K:Ex}{x C:Addr}{ox:Obj}{cd:ClassData}{name:Str}{v:Value}{vs:Array Value}
theorem xb{Q:Unit->Shared->Prop}(X:K.In s.heap)(hx:s.heap.get? x=some ox)(j5:ox.cls= .ref C)(IF:ox.data= .fields vs)(hd:ox.dict=none)(hc:clsIn K C=some cd)(hm:aP cd.mro=true)(hh:cd.hasDict=true)
  (hs:findIn K (.ref C) "__setattr__"=some (some (.builtin "object.__setattr__"))) (hf:findIn K (.ref C) name=some none)
  (h:∀ h',h'.get? x=some {ox with dict:=some s.heap.objs.size}->h'.Ns1 s.heap.objs.size (λy=>if y=name then some v else none)->(∀ b o,b≠x->s.heap.get? b=some o->h'.get? b=some o)->∀ tk,Q () {s with heap:=h',toks:=tk}):
  wpAny (model prog w) A (setAttr (.ref x) name v) Q E s:=by
 have hn:notCls ox=true:=by unfold notCls;rw[IF]
 have I:InstAt s.heap x ox C none:=⟨hx,j5,hn,by rw[hd];trivial⟩
 refine set_plain X I hs ?_
 have SF:=PySem.F.store_object
 have ne:cd.mro.isEmpty=false:=by cases q:cd.mro with|nil=>rw[q] at hm;simp[aP] at hm|cons _ _=>rfl
 have sub:Looks (model prog w) s.heap (isInstance (.ref x) (.type "object")) true:=I.type.andThen (looks_mroIn X (by unfold mroIn;rw[hc,GT,if_neg (by rw[ne];decide),gm (by decide+kernel) hm]))
 refine codeAny_call_builtin SF.slot.plain SF.entry (@check_slot (model prog w) _ _ _ "object.__setattr__" "object" "__setattr__" (.ref x) [.str name s.toks,v] [] _ SF.kind SF.split sub (SF.args (.ref x) (.str name s.toks) v) ?_)
 have Lu:Looks (model prog w) s.heap (mroOf (.ref C)) cd.mro:=(looks_clsIn X hc).andThen .now
 rw[osa_eq,refuse_eq]
 refine wpAny_bind (wpAny_bind (I.type.here (s:={s with toks:=s.toks+1}) (wpAny_bind (Lu.here (s:={s with toks:=s.toks+1}) ?_))))
 rw[qu _ hm]
 refine wpAny_pure (wpAny_bind (I.type.here (s:={s with toks:=s.toks+1}) (wpAny_bind ((looks_findIn X hf).here (s:={s with toks:=s.toks+1}) (wpAny_bind (Looks.now.here (s:={s with toks:=s.toks+1}) ?_))))))
 obtain⟨oc,OG,OH,osl⟩:=ox
 dsimp only at j5 hd IF
 subst j5 hd IF
 refine wpAny_bind (wpAny_pure (wpAny_bind (wpAny_bind (wpAny_loadPart hx (wpAny_bind ((looks_clsIn X hc).here (s:={s with toks:=s.toks+1}) ?_))))))
 rw[hh]
 rw[if_neg (by decide)]
 have hx₁:(s.heap.push {cls:= .type "dict",data:= .dict #[]}).get? x=some ⟨.ref C,none,.fields vs,osl⟩:=Heap.get?_push_of_some _ hx
 have NG:x≠s.heap.objs.size:=EZ (Heap.lt_size hx)
 show wpAny _ _ (do
  let d <- alloc {cls:=Value.type "dict",data:=Data.dict #[]}
  update x λo=>{cls:=o.cls,dict:=some d,data:=o.data,slots:=o.slots}
  dictMade (.ref C) x d) _ _ _
 refine wpAny_bind (wpAny_alloc' ?_)
 refine wpAny_bind (wpAny_update' hx₁ ?_)
 refine wpAny_pure ?_
 have OI:((s.heap.push {cls:= .type "dict",data:= .dict #[]}).update x λo=>{cls:=o.cls,dict:=some s.heap.objs.size,data:=o.data,slots:=o.slots}).get? s.heap.objs.size
   =some {cls:= .type "dict",data:= .dict #[]}:=
  (Heap.get?_update_ne _ _ _ _ NG.symm).trans (Heap.get?_push_at rfl rfl)
 have OJ:((s.heap.push {cls:= .type "dict",data:= .dict #[]}).update x λo=>{cls:=o.cls,dict:=some s.heap.objs.size,data:=o.data,slots:=o.slots}).Ns s.heap.objs.size (λ_=>none):=
  ⟨_,#[],_,OI,rfl,λe he=>absurd he (by simp),λ_=>rfl⟩
 show wpAny _ _ (Builtin.ObjectAttr.storeInDict s.heap.objs.size (.str name s.toks) name v) _ _ _
 unfold Builtin.ObjectAttr.storeInDict Builtin.ObjectAttr.newKeyGuard
 refine wpAny_bind (wpAny_pure (wpAny_bind (wpAny_nsSet1 (Heap.Ns1.of_empty OJ) λh' k8 hs=>?_)))
 obtain⟨oD,Ow,Ox,Lj,Lk,Ll⟩:=k8.count (Within.cons name v Within.nil)
 refine wpAny_bind (wpAny_lookBehind Lj (by rw[Lk];exact pastItsLine_dict (E1 Ll (by rw[EQ,Gf,sizeLine_eq];lia))) ?_)
 refine wpAny_pure (h h' ?_ k8 (λb o hb q=>?_) _)
 ·exact(hs.2 x NG).trans (Heap.get?_update_self _ hx₁ rfl)
 ·exact(hs.2 b (EZ (Heap.lt_size q))).trans ((Heap.get?_update_ne _ _ _ _ hb).trans (Heap.get?_push_of_some _ q))
theorem xc{Q:Value->Shared->Prop}{rest:List Value}{t0:Addr}{a1 a2 a3 a4 a5:Value}(X:K.In s.heap)(hx:s.heap.get? x=some ox)(j5:ox.cls= .ref C)(IF:ox.data= .fields #[.ref t0,a1,a2,a3,a4,a5])(hc:clsIn K C=some cd)(hm:aP cd.mro=true)(hl:rest.length<=sizeLine)
  (h:∀ h',h'.get? x=some {ox with data:= .fields #[.ref s.heap.objs.size,a1,a2,a3,a4,a5]}->(∀ b o,b≠x->s.heap.get? b=some o->h'.get? b=some o)->Q .none {s with heap:=h'}):
  wpAny (model prog w) A (call (.builtin "ValueError.__init__") (.ref x::rest)) Q E s:=by
 have F:=PySem.F.excBase_ValueError
 have hn:notCls ox=true:=by unfold notCls;rw[IF]
 have ht:Looks (model prog w) s.heap (typeOf (.ref x)) (.ref C):=j5 ▸ (Looks.ld hx).andThen .now
 have ne:cd.mro.isEmpty=false:=by cases q:cd.mro with|nil=>rw[q] at hm;simp[aP] at hm|cons _ _=>rfl
 have sub:Looks (model prog w) s.heap (isInstance (.ref x) (.type "ValueError")) true:=ht.andThen (looks_mroIn X (by unfold mroIn;rw[hc,GT,if_neg (by rw[ne];decide),gm (by decide+kernel) hm]))
 have OK:∀ {Q:Unit->Shared->Prop} {E:Value->Shared->Prop} {A:Around},Q () s->wpAny (model prog w) A (checkBuiltinCall "ValueError.__init__" ⟨.ref x::rest,[]⟩) Q E s:=λ{Q E A} hq=>by
  have Lv:=F.noStar
  simp only[checkBuiltinCall,F.initKind,F.initSplit,F.initRow]
  refine wpAny_bind (sub.here ?_)
  obtain⟨hp,g,d,t,os⟩:=s
  have Lc:=looks_clsIn (M:=model prog w) X hc
  repeat(first|(with_reducible refine wpAny_loadPart_at hx ?_;rw[j5])|(with_reducible refine Lc.here ?_)|wp_step)
  refine wpAny_onRaise ?_
  rw[show ∀ (a b:String) (n:Nat),Bind.check ⟨.positional,"*","ValueError",.self,[⟨"args",.varPos,false⟩]⟩ a b n (F5 (λx=>x.fst) ({pos:=Value.ref x::rest}:Args).kw)=pure () from
   λa b n=>check_star_args _ _ _ _ _ _]
  exact wpAny_pure hq
 refine wpAny_call (codeAny_call_builtin F.init.plain F.initEntry (OK ?_))
 obtain⟨hp,g,d,t,os⟩:=s
 obtain⟨oc,OG,OH,osl⟩:=ox
 dsimp only at j5 IF hx h
 subst j5 IF
 wp_walk
 have hx₁:=Heap.get?_push_of_some {cls:=Value.type "tuple",data:=Data.seq rest.toArray} hx
 refine h _ ?_ (λb o hb q=>?_)
 ·rw[Heap.get?_update_self _ hx₁ rfl];rfl
 ·rw[Heap.get?_update_other _ _ (Ne.symm hb)]
  exact Heap.get?_push_of_some _ q
end
abbrev veLine:List Value:=[.type "ValueError",.type "Exception",.type "BaseException",.type "object"]
section
variable {prog:Program}{w:World}{A:Around}{E:Value->Shared->Prop}{h:Heap}{g:Array GenState}{d:Drawn}{t:Nat}{os:OsState}{K:Ex}
variable {nm q:Str}{C N fI:Addr}{bs bm:List Value}{hdct:Bool}{sn:List Str}{sub:List Value}{ab:Bool}{col:Option Bool}{dd:Option Addr}{k0 k1 k2 k3 k5:Option Value}{rest:List Value}
theorem xg{Q:Fin->Shared->Prop}(X:K.In h)(T:OwnTail h veLine bm)(hC:h.get? C=some (excClassObj nm q C N bs bm hdct sn sub ab col dd k0 k1 k2 k3 k5 "ValueError.__new__"))
  (hi:findIn K (.ref C) "__init__"=some (some (.ref fI))) (hf:typeIn K (.ref fI)=some (.type "function"))
  (hq:∀ h' e,Heap.MadeExcOf h h' e (.ref C) rest->wpAny (model prog w) A (call (.ref fI) (.ref e::rest)) (λr s'=>r= .none/\Q (.done (.ret (.ref e))) s') E ⟨h',g,d,t,os⟩) (hl:rest.length<=sizeLine):
  wpAny (model prog w) A (Builtin.«type.__call__» ⟨.ref C::rest,[]⟩) Q E ⟨h,g,d,t,os⟩:=by
 have F:=PySem.F.excBase_ValueError
 repeat(first|(with_reducible refine wpAny_loadPart_at hC ?_)|(with_reducible refine wpAny_madeBy_exc hC ?_)|wp_step)
 refine codeAny_call_builtin_code (Code.quiet_builtin _ F.quiet) (wpAny_check_new_subT F T hC (codeAny_exc_new_subT F T hC ?_ hl))
 have kp:∀ b o,h.get? b=some o->((h.push {cls:= .type "tuple",data:= .seq rest.toArray}).push {cls:= .ref C,data:= .fields #[.ref h.objs.size,.none,.none,.none,.bool false,.none]}).get? b=some o:=λb o e=>Heap.get?_push_of_some _ (Heap.get?_push_of_some _ e)
 have OL:=kp _ _ hC
 have X1:K.In _:=X.keeps kp
 have he:((h.push {cls:= .type "tuple",data:= .seq rest.toArray}).push {cls:= .ref C,data:= .fields #[.ref h.objs.size,.none,.none,.none,.bool false,.none]}).get? (h.objs.size+1)=some {cls:= .ref C,data:= .fields #[.ref h.objs.size,.none,.none,.none,.bool false,.none]}:=by heap_get
 have OM:(Value.ref C::bm).contains (.ref C)=true:=by simp
 have L1:=looks_findIn (M:=model prog w) X1 hi
 have L2:=bind_fn (M:=model prog w) X1 (.ref (h.objs.size+1)) hf
 show wpAny _ _ _ _ _ _
 unfold isInstance
 repeat(first|(with_reducible refine wpAny_loadPart_at he ?_)|(with_reducible refine wpAny_isSubtype_exc OL ?_;rw[OM])|wp_step)
 refine L1.at ?_
 refine wpAny_holding (wpAny_bind (L2.at ?_))
 refine wpAny_bind (wpAny_mono (hq _ (h.objs.size+1) ⟨kp,Heap.get?_none_of_le (FR _),h.objs.size,he,Heap.get?_none_of_le (EL _),Heap.get?_push_of_some _ (Heap.get?_push_at rfl rfl)⟩) (λr s' hr=>?_) λ_ _ x=>x)
 obtain⟨rfl,hQ⟩:=hr
 refine wpAny_pure ?_
 exact wpAny_pure hQ
theorem xh{Q:Value->Shared->Prop}(X:K.In h)(T:OwnTail h veLine bm)(hC:h.get? C=some (excClassObj nm q C N bs bm hdct sn sub ab col dd k0 k1 k2 k3 k5 "ValueError.__new__"))
  (hi:findIn K (.ref C) "__init__"=some (some (.ref fI))) (hf:typeIn K (.ref fI)=some (.type "function"))
  (hq:∀ h' e,Heap.MadeExcOf h h' e (.ref C) rest->wpAny (model prog w) (A.under (.builtin "type.__call__" ⟨.ref C::rest,[]⟩)) (call (.ref fI) (.ref e::rest)) (λr s'=>r= .none/\Q (.ref e) s') E ⟨h',g,d,t,os⟩) (hl:rest.length<=sizeLine):
  wpAny (model prog w) A (call (.ref C) rest) Q E ⟨h,g,d,t,os⟩:=by
 have f1:=tc_lookup
 have f2:=tc_bind (.ref C)
 have hT:(⟨h,g,d,t,os⟩:Shared).TypeIs (.ref C) "type":=⟨_,hC,rfl⟩
 refine wpAny_call (codeAny_of_tree ?_)
 show wpAny _ _ (callAny (.ref C) _) _ _ _
 repeat(any_goals (first|(with_reducible refine wpAny_loadPart_at hC ?_)|assumption|wp_step))
 exact⟨rfl,codeAny_call_builtin_at (Code.quiet_builtin _ (by decide+kernel)) entry_typeCall (wpAny_check_type_call_sub hC (xg X T hC hi hf (λh' e hm=>hq h' e hm) hl))⟩
end
section
variable {prog:Program}{w:World}{A:Around}{E:Value->Shared->Prop}{s:Shared}{env:Env}
variable {nm q:Str}{C N:Addr}{bs bm:List Value}{hdct:Bool}{sn:List Str}{sub:List Value}{ab:Bool}{col:Option Bool}{dd:Option Addr}{k0 k1 k2 k3 k5:Option Value}{newId:String}
theorem xi{x:Sem Value}{Q:Flow->Shared->Prop}(b8:bm.contains (.type "BaseException")=true)(hh:A.handled=none)
  (h:wpAny (model prog w) A x (λv s₁=>∃ e t od sl,v= .ref e/\s₁.heap.get? C=some (excClassObj nm q C N bs bm hdct sn sub ab col dd k0 k1 k2 k3 k5 newId)/\
   s₁.heap.get? e=some ⟨.ref C,od,.fields #[.ref t,.none,.none,.none,.bool false,.none],sl⟩/\E (.ref e) s₁) E s):
  wpAny (model prog w) A (raiseStmt env (some x) none) Q E s:=by
 have ON:(Value.ref C::bm).contains (.type "BaseException")=true:=by rw[Ho,b8,GS]
 unfold raiseStmt
 refine wpAny_bind (wpAny_mono h (λv s₁ h₁=>?_) λ_ _ x=>x)
 obtain⟨e,t,od,sl,rfl,hC,he,hE⟩:=h₁
 obtain⟨hp,g,d,tk,os⟩:=s₁
 repeat(first|(with_reducible refine wpAny_loadPart_at he ?_)|(with_reducible refine wpAny_loadPart_at hC ?_)|(with_reducible refine wpAny_isSubtype_exc hC ?_;rw[ON])|wp_step)
 exact wpAny_raiseNew_none hh hE
theorem jz{x:Expr}{pos:Pos}{Q:Flow->Shared->Prop}(b8:bm.contains (.type "BaseException")=true)(hh:A.handled=none)
  (h:wpAny (model prog w) A (eval x env) (λv s₁=>∃ e t od sl,v= .ref e/\s₁.heap.get? C=some (excClassObj nm q C N bs bm hdct sn sub ab col dd k0 k1 k2 k3 k5 newId)/\
   s₁.heap.get? e=some ⟨.ref C,od,.fields #[.ref t,.none,.none,.none,.bool false,.none],sl⟩/\E (.ref e) s₁) E s):
  wpAny (model prog w) A (exec (.Raise (some x) none pos) env) Q E s:=by
 rw[arm_exec_Raise]
 show wpAny (model prog w) A (do standAt pos;raiseStmt env (some (do let v <- eval x env;standAt pos;pure v)) none) Q E s
 exact wpAny_bind (wpAny_standAt (xi b8 hh (wpAny_bind (wpAny_mono h (λv s₁ h₁=>wpAny_bind (wpAny_standAt (wpAny_pure h₁))) λ_ _ x=>x))))
end
def ExAt(h:Heap)(e C:Addr)(od:Option Addr)(T:Addr)(fl:Value):Prop:=
 ∃ sl vs oT ts,h.get? e=some ⟨.ref C,od,.fields vs,sl⟩/\vs[1]?=some (.ref T)/\T≠e/\h.get? T=some oT/\oT.data= .fields ts/\ts[3]?=some fl
structure Stay(fs ex:List Addr)(h h':Heap):Prop where
 keep:∀ b o,h.get? b=some o->b ∉ ex->b ∉ fs->h'.get? b=some o
 slot:∀ b o,h.get? b=some o->b ∉ ex->∃ sl,h'.get? b=some {o with slots:=sl}
 there:∀ b o,h.get? b=some o->∃ o',h'.get? b=some o'
theorem Stay.refl{fs ex:List Addr}{h:Heap}:Stay fs ex h h:=⟨λ_ _ e _ _=>e,λ_ o e _=>⟨o.slots,e⟩,λ_ o e=>⟨o,e⟩⟩
theorem Stay.trans{fs ex JB:List Addr}{h h1 h2:Heap}(a:Stay fs ex h h1)(b:Stay fs JB h1 h2):Stay fs (ex++JB) h h2:=
  ⟨λc o e n m=>b.keep c o (a.keep c o e (λz=>n (FG _ z)) m) (λz=>n (E4 _ z)) m,
   λc o e n=>by
    obtain⟨s1,e1⟩:=a.slot c o e (λz=>n (FG _ z))
    obtain⟨s2,e2⟩:=b.slot c _ e1 (λz=>n (E4 _ z))
    exact⟨s2,e2⟩,
   λc o e=>by
    obtain⟨o1,e1⟩:=a.there c o e
    exact b.there c o1 e1⟩
section
variable {M:Model}{A:Around}{E:Value->Shared->Prop}{s:Shared}{env:Env}{outer:List Env}{base:Heap}{L e C T:Addr}{od:Option Addr}
theorem xj{sl:Array (Option Value)}{vs:Array Value}{Q:Unit->Shared->Prop}(y9:A.frames=some (env::outer))(hl:s.heap.FunFrames base (env::outer))(hf:env.frame=some L)
  (he:s.heap.get? e=some ⟨.ref C,od,.fields vs,sl⟩) (h1:vs[1]?=some .none)
  (h:∀ h' T,ExAt h' e C od T (rawInt L)->s.heap.objs.size<=T->Stay (frs (env::outer)) [e] s.heap h'->Q () {s with heap:=h'}):wpAny M A (noteFrame (.ref e) env) Q E s:=by
 have g5:1<vs.size:=(Gu.mp h1).1
 have IG:e ∉ (env::outer).filterMap (·.frame):=λhm=>by
  obtain⟨_,o,ho,hnf⟩:=hl.mem hm
  rw[he] at ho;injection ho with ho;subst ho;exact hnf vs rfl
 unfold noteFrame
 simp only[hf]
 refine wpAny_bind (wpAny_field he rfl h1 ?_)
 rw[if_neg (by decide)]
 refine wpAny_bind (wpAny_frameOf_fun y9 hl hf λh₁ hs₁=>wpAny_bind (wpAny_entryPlaceOf λpl b9=>?_))
 unfold EntryCells.newEntry newFields
 refine wpAny_bind (wpAny_newObj_type ?_ (b9.sizeOk5 _ _ _ _ _))
 have he₁:h₁.get? e=some ⟨.ref C,od,.fields vs,sl⟩:=(hs₁.2.1 e IG).trans he
 have fresh:h₁.get? h₁.objs.size=none:=Heap.get?_none_of_le (EL _)
 generalize JO:({cls:= .type "traceback",dict:=none,data:= .fields ([Value.none,.ref L,.none,rawInt L,.none]++(if pl.isEmpty then FI 6 Value.none else pl)).toArray}:Obj)=oT
 have he₂:=Heap.get?_push_of_some (h:=h₁) oT he₁
 have IH:h₁.objs.size≠e:=FP (Heap.lt_size he₁)
 refine wpAny_setField he₂ rfl g5 (h _ h₁.objs.size ?_ ?_ ?_)
 ·refine⟨sl,vs.setIfInBounds 1 (.ref h₁.objs.size),oT,([Value.none,.ref L,.none,rawInt L,.none]++(if pl.isEmpty then FI 6 Value.none else pl)).toArray,?_,by simp[g5],IH,?_,by rw[<- JO],by simp⟩
  ·rw[Heap.get?_update_self _ he₂ rfl];rfl
  ·rw[Heap.get?_update_other _ _ (Ne.symm IH)]
   exact Heap.get?_push_size h₁ (by rw[<- JO];rfl)
 ·exact Gq hs₁.1.symm
 ·have kp:∀ b o,b≠e->h₁.get? b=some o->((h₁.push oT).update e (Obj.mapFields (·.setIfInBounds 1 (Value.ref h₁.objs.size)))).get? b=some o:=λb o hb z=>by
   rw[Heap.get?_update_other _ _ (Ne.symm hb)]
   exact Heap.get?_push_of_some _ z
  refine⟨λb o q n m=>kp b o (λz=>n (by simp[z])) ((hs₁.2.1 b m).trans q),λb o q n=>?_,λb o q=>?_⟩
  ·obtain⟨t9,z⟩:=hs₁.2.2 b o q
   exact⟨t9,kp b _ (λz=>n (by simp[z])) z⟩
  ·by_cases hb:b=e
   ·subst hb;exact⟨_,Heap.get?_update_self _ he₂ rfl⟩
   ·obtain⟨t9,z⟩:=hs₁.2.2 b o q
    exact⟨_,kp b _ hb z⟩
theorem xk{Q:Unit->Shared->Prop}(y9:A.frames=some (env::outer))(hl:s.heap.FunFrames base (env::outer))(hf:env.frame=some L)(hx:ExAt s.heap e C od T .none)
  (h:∀ h' T',ExAt h' e C od T' (rawInt L)->s.heap.objs.size<=T'->Stay (frs (env::outer)) [T,e] s.heap h'->Q () {s with heap:=h'}):wpAny M A (noteFrame (.ref e) env) Q E s:=by
 obtain⟨sl,vs,oT,ts,he,h1,IH,hT,y_,h3⟩:=hx
 have g5:1<vs.size:=(Gu.mp h1).1
 have KI:3<ts.size:=(Gu.mp h3).1
 have IG:e ∉ (env::outer).filterMap (·.frame):=λhm=>by
  obtain⟨_,o,ho,hnf⟩:=hl.mem hm
  rw[he] at ho;injection ho with ho;subst ho;exact hnf vs rfl
 unfold noteFrame
 simp only[hf]
 refine wpAny_bind (wpAny_field he rfl h1 ?_)
 rw[if_pos (show(Value.ref T !=Value.none)=true from by simp)]
 refine wpAny_bind (wpAny_field hT y_ h3 ?_)
 rw[if_neg (show¬ ((Value.none==rawInt L)=true) from by simp[rawInt])]
 refine wpAny_bind (wpAny_setField hT y_ KI ?_)
 have other:∀ b,b≠T->(s.heap.update T (Obj.mapFields (·.setIfInBounds 3 Value.none))).get? b=s.heap.get? b:=λb hb=>Heap.get?_update_other _ _ (Ne.symm hb)
 have nT:∀ b o,s.heap.get? b=some o->(∀ vs,o.data≠.fields vs)->b≠T:=λb o hb hnf q=>by
  rw[q,hT] at hb;injection hb with hb;subst hb;exact hnf ts y_
 have OO:(s.heap.update T (Obj.mapFields (·.setIfInBounds 3 Value.none))).FunFrames base (env::outer):=hl.of_keeps λb o hb hnf=>⟨o,(other b (nT b o hb hnf)).trans hb,rfl⟩
 have OP:∃ o',(s.heap.update T (Obj.mapFields (·.setIfInBounds 3 Value.none))).get? T=some o':=⟨_,Heap.get?_update_self _ hT (Obj.isFreed_of_fields (Obj.data_mapFields y_ _))⟩
 refine wpAny_bind (wpAny_frameOf_fun y9 OO hf λh₁ hs₁=>wpAny_bind (wpAny_entryPlaceOf λpl b9=>?_))
 unfold EntryCells.newEntry newFields
 refine wpAny_bind (wpAny_newObj_type ?_ (b9.sizeOk5 _ _ _ _ _))
 have he₁:h₁.get? e=some ⟨.ref C,od,.fields vs,sl⟩:=(hs₁.2.1 e IG).trans ((other e (Ne.symm IH)).trans he)
 have fresh:h₁.get? h₁.objs.size=none:=Heap.get?_none_of_le (EL _)
 generalize JO:({cls:= .type "traceback",dict:=none,data:= .fields ([Value.ref T,.ref L,.none,rawInt L,.none]++(if pl.isEmpty then FI 6 Value.none else pl)).toArray}:Obj)=Lw
 have he₂:=Heap.get?_push_of_some (h:=h₁) Lw he₁
 have JP:h₁.objs.size≠e:=FP (Heap.lt_size he₁)
 refine wpAny_setField he₂ rfl g5 (h _ h₁.objs.size ?_ ?_ ?_)
 ·refine⟨sl,vs.setIfInBounds 1 (.ref h₁.objs.size),Lw,([Value.ref T,.ref L,.none,rawInt L,.none]++(if pl.isEmpty then FI 6 Value.none else pl)).toArray,?_,by simp[g5],JP,?_,by rw[<- JO],by simp⟩
  ·rw[Heap.get?_update_self _ he₂ rfl];rfl
  ·rw[Heap.get?_update_other _ _ (Ne.symm JP)]
   exact Heap.get?_push_size h₁ (by rw[<- JO];rfl)
 ·exact Gq (hs₁.1.trans (Heap.size_after_update _ _ _)).symm
 ·have kp:∀ b o,b≠e->h₁.get? b=some o->((h₁.push Lw).update e (Obj.mapFields (·.setIfInBounds 1 (Value.ref h₁.objs.size)))).get? b=some o:=λb o hb z=>by
   rw[Heap.get?_update_other _ _ (Ne.symm hb)]
   exact Heap.get?_push_of_some _ z
  refine⟨λb o q n m=>kp b o (λz=>n (by simp[z])) ((hs₁.2.1 b m).trans ((other b (λz=>n (by simp[z]))).trans q)),λb o q n=>?_,λb o q=>?_⟩
  ·obtain⟨t9,z⟩:=hs₁.2.2 b o ((other b (λz=>n (by simp[z]))).trans q)
   exact⟨t9,kp b _ (λz=>n (by simp[z])) z⟩
  ·by_cases hb:b=e
   ·subst hb;exact⟨_,Heap.get?_update_self _ he₂ rfl⟩
   ·have:∃ o',(s.heap.update T (Obj.mapFields (·.setIfInBounds 3 Value.none))).get? b=some o':=by
     by_cases hb:b=T
     ·rw[hb];exact OP
     ·exact⟨o,(other _ hb).trans q⟩
    obtain⟨o',q'⟩:=this
    obtain⟨t9,z⟩:=hs₁.2.2 b o' q'
    exact⟨_,kp b _ hb z⟩
theorem qv{fl:Value}{Q:Unit->Shared->Prop}(hx:ExAt s.heap e C od T fl)(h:∀ h',ExAt h' e C od T .none->Stay [] [T] s.heap h'->Q () {s with heap:=h'}):wpAny M A (setFlight (.ref e) none) Q E s:=by
 obtain⟨sl,vs,oT,ts,he,h1,IH,hT,y_,h3⟩:=hx
 have KI:3<ts.size:=(Gu.mp h3).1
 unfold setFlight
 refine wpAny_bind (wpAny_field he rfl h1 ?_)
 rw[if_pos (show(Value.ref T !=Value.none)=true from by simp)]
 refine wpAny_setField hT y_ KI (h _ ?_ ?_)
 ·exact⟨sl,vs,_,_,(Heap.get?_update_other _ _ IH).trans he,h1,IH,Heap.get?_update_self _ hT (Obj.isFreed_of_fields (Obj.data_mapFields y_ _)),Obj.data_mapFields y_ _,by simp[KI]⟩
 ·have other:∀ b o,b ∉ [T]->s.heap.get? b=some o->(s.heap.update T (Obj.mapFields (·.setIfInBounds 3 ((none:Option Addr).elim Value.none λf=>rawInt f)))).get? b=some o:=λb o hb q=>(Heap.get?_update_other _ _ (λz=>hb (by simp[z]))).trans q
  refine⟨λb o q n _=>other b o n q,λb o q n=>⟨o.slots,other b o n q⟩,λb o q=>?_⟩
  by_cases hb:b=T
  ·subst hb;exact⟨_,Heap.get?_update_self _ hT (Obj.isFreed_of_fields (Obj.data_mapFields y_ _))⟩
  ·exact⟨o,other b o (by simp[hb]) q⟩
end
def CX1(P:Program)(w:World):CXT:=λouter H s E ev s'=>∃ e C od T H',ev= .ref e/\s'.os=s.os/\AllBare s'.gens/\Un (frs outer) [] H H' s.heap s'.heap/\HOk P w H' s'.heap/\ExAt s'.heap e C od T .none/\s.heap.get? e=none/\s.heap.get? T=none/\H' e=none/\H' T=none/\E (.ref C) od H'
theorem gp{P:Program}{w:World}{H:Hp}{h h':Heap}{fs ex:List Addr}(x:HOk P w H h)(st:Stay fs ex h h')(hf:∀ b∈fs,H b=none)(he:∀ b∈ex,H b=none):HOk P w H h':=λa o q=>
 (x a o q).stay (λb u hb r=>by
  have hn:H b≠none:=by
   rcases hb with rfl|hb
   ·rw[q];exact λz=>nomatch z
   ·rw[hb];exact λz=>nomatch z
  exact st.keep b u r (λz=>hn (he b z)) (λz=>hn (hf b z))) (λ_ q=>q) λ_ _ q=>q
theorem gq{fs o_ ex:List Addr}{H H':Hp}{h h1 h2:Heap}(u:Un fs [] H H' h h1)(st:Stay o_ ex h1 h2)(f6:∀ b∈ex,h.get? b=none)(OQ:∀ b∈o_,b∈fs\/h.get? b=none):Un fs [] H H' h h2 where
 keep:=λb o q n hb hx=>st.keep b o (u.keep b o q n hb hx) (λz=>by rw[f6 b z] at q;cases q) (λz=>(OQ b z).elim hb λy=>by rw[y] at q;cases q)
 slot:=λb o q n hb hx=>by
  obtain⟨sl,e1⟩:=u.slot b o q n hb hx
  obtain⟨t9,e2⟩:=st.slot b _ e1 (λz=>by rw[f6 b z] at q;cases q)
  exact⟨t9,e2⟩
 free:=u.free
 there:=λb o q hx=>by
  obtain⟨o1,e1⟩:=u.there b o q hx
  exact st.there b o1 e1
 tups:=u.tups
 frzs:=u.frzs
 tbls:=u.tbls
section
variable {P:Program}{w:World}{K:Ex}{mg:Str->Option Value}{base:Heap}{N:List Str}{qual:Str}{scope:Scope}{f:Addr}{cd:Value}{A:Around}{outer:List Env}{s:Shared}{H:Hp}{E E':XK}
theorem qw{b:Addr}(hb:b∈frs (envOfC qual scope s.heap.objs.size f cd::outer)):b∈frs outer\/s.heap.get? b=none:=by
 unfold frs at hb
 rw[Gp] at hb
 rcases EO.mp (show b∈s.heap.objs.size::outer.filterMap (·.frame) from hb) with e|e
 ·rw[e];exact .inr (Heap.get?_none_of_le (EL _))
 ·exact .inl e
theorem qy{pins:List (Addr × Obj)}{σ:L2.St}{H1:Hp}{s1:Shared}{e C:Addr}{od:Option Addr}{sl:Array (Option Value)}{vs:Array Value}(I:Inv (cxOf (CX1 P w) P w K mg base N qual scope f cd A outer s H E') pins σ H1 s1)
  (he:s1.heap.get? e=some ⟨.ref C,od,.fields vs,sl⟩) (h1:vs[1]?=some .none) (He:H1 e=none) (ne:s.heap.get? e=none) (hE:E' (.ref C) od H1):(cxOf (CX1 P w) P w K mg base N qual scope f cd A outer s H E').xe (.ref e) s1:=by
 show wpAny _ _ (leaving _ _) _ _ _
 unfold leaving
 refine wpAny_bind (xj I.ok.frames I.stack rfl he h1 λh2 T2 JQ JR Iz=>qv (s:={s1 with heap:=h2}) JQ λh3 Lx Ic=>?_)
 have JS:s1.heap.get? T2=none:=Heap.get?_none_of_le JR
 have f1:∀ b,s1.heap.get? b=none->s.heap.get? b=none:=λb q=>by
  cases z:s.heap.get? b with
  |none=>rfl
  |some o=>
   obtain⟨o',z'⟩:=I.base.there b o z (by exact λy=>absurd (show b∈([]:List Addr) from y) (by simp))
   rw[q] at z';cases z'
 have hok:HOk P w H1 s1.heap:=I.hok
 have JT:H1 T2=none:=hok.fresh JR
 have u2:Un (frs outer) [] H H1 s.heap h2:=gq (show Un (frs outer) [] H H1 s.heap s1.heap from I.base) Iz (λb hb=>by rw[EM.mp hb];exact ne) λb hb=>qw hb
 have u3:Un (frs outer) [] H H1 s.heap h3:=gq u2 Ic (λb hb=>by rw[EM.mp hb];exact f1 T2 JS) λb hb=>by cases hb
 have k2:=gp hok Iz (λb hb=>I.stkFree b hb) (λb hb=>by rw[EM.mp hb];exact He)
 have k3:=gp k2 Ic (λb hb=>by cases hb) (λb hb=>by rw[EM.mp hb];exact JT)
 exact⟨e,C,od,T2,H1,rfl,I.os,I.bare,u3,k3,Lx,ne,f1 T2 JS,He,JT,hE⟩
end
end Exc
namespace L2
theorem Same.tup{K:Ex}{H H':Hp}{a:Addr}{xs:List V}(e:Same H H')(h:SqT K H a xs):SqT K H' a xs:=by
 rcases h with(h|⟨o,h⟩)|h
 ·exact .inl (.inl (e _ _ h))
 ·exact .inl (.inr ⟨o,e _ _ h⟩)
 ·exact .inr h
end L2
namespace My
theorem fA{X:Cx}:fv (Exc.CX1 X.prog X.w) X E0:=λ_ _ _ _ _ _ _ h=>by
 obtain⟨e,C,od,T,H',_,_,_,_,_,_,_,_,_,_,h⟩:=h
 exact h.elim
theorem Fun.okC{P:Program}{w:World}{K:Ex}{mg:Str->Option Value}{base:Heap}{CX:CXT}{x qual:Str}{st:Stmt}{f:Addr}{fd:FuncData}{N ps:List Str}{k:Nat}{sp:Sp}(F:Fun K x qual st f fd)(S:FnScope N ps (ag st))(len:∀ vs H Q E,sp vs H Q E->vs.length=ps.length)
  (a9:∀ (cdv:Value) (A:Around) (outer:List Env) (s:Shared) (H:Hp) (vs:List V) (Q:VK) (E:XK),Room k (A.deeper (envOfC qual (ag st) s.heap.objs.size f cdv))->sp vs H Q E->
   ∃ t,PSs (cxOf CX P w K mg base N qual (ag st) f cdv A outer s H E) (aJ st) t/\t {nx:=λ_ H'=>Q .non H',rt:=Q} (start N vs) H):FnOk P w K mg base CX (k+1) f fd ps sp:=by
 obtain⟨oc,od,kV,doc,pm,an,cdv,ct,osl,rfl,lk,g9⟩:=F.ex
 refine qa lk g9 S len λA outer s H vs Q E hr q9=>?_
 exact a9 cdv A outer s H vs Q E hr q9
def Cal(P:Program)(w:World)(K:Ex)(mg:Str->Option Value)(base:Heap)(n:Nat)(x:Str)(ps:List Str)(sp:Sp):Prop:=
 ∃ f fd,FnOk P w K mg base (Exc.CX1 P w) n f fd ps sp/\Binds K fd ps []/\keepIn K (.ref f)=true/\mg x=some (.ref f)
def Tx(K:Ex)(mg:Str->Option Value)(x:Str)(st:Stmt)(ps:List Str):Prop:=
 ∃ f fd,Fun K x x st f fd/\Binds K fd ps []/\mg x=some (.ref f)
section
variable {X:Cx}{n m:Nat}{ps:List Str}{sp:Sp}{x:Str}{p pos:Pos}{e:Expr}{es:List Expr}{t:TA}
theorem xm(C:Cal X.prog X.w X.K X.mg X.base n x ps sp)(hr:Room m X.A)(ha:PA X (e::es) t)(hg:Gl X x:=by rfl)(hn:n<=m:=by decide)(d7:zND x:=by decide)
  (he:zSE X e es:=by rfl) (b9:zPL X pos es:=by rfl):
  PE X (.Call (.Name x p) (e::es) [] pos) (pX sp [] E0 t):=by
 obtain⟨f,fd,F,hb,hk,hm⟩:=C
 exact wo F (hr.mono hn) hg hm hk hb .nil fA ha d7 he b9
end
section
variable {P:Program}{w:World}{K:Ex}{mg:Str->Option Value}{base:Heap}
theorem Tx.ok{x:Str}{st:Stmt}{N ps:List Str}{k:Nat}{sp:Sp}(T:Tx K mg x st ps)(S:FnScope N ps (ag st))(len:∀ vs H Q E,sp vs H Q E->vs.length=ps.length)
  (a9:∀ (f:Addr) (cdv:Value) (A:Around) (outer:List Env) (s:Shared) (H:Hp) (vs:List V) (Q:VK) (E:XK),Room k (A.deeper (envOfC x (ag st) s.heap.objs.size f cdv))->sp vs H Q E->
   ∃ t,PSs (cxOf (Exc.CX1 P w) P w K mg base N x (ag st) f cdv A outer s H E).nox (aJ st) t/\t {nx:=λ_ H'=>Q .non H',rt:=Q} (start N vs) H):Cal P w K mg base (k+1) x ps sp:=by
 obtain⟨f,fd,F,hb,hm⟩:=T
 refine⟨f,fd,Fun.okC F S len (λcdv A outer s H vs Q E hr h=>?_),hb,F.kp,hm⟩
 obtain⟨t,h1,h2⟩:=a9 f cdv A outer s H vs Q E hr h
 exact⟨t,h1.nox,h2⟩
end
theorem aS{H:Hp}{p:Addr}(h:H p=none)(o:HO):Same H (upd H p o):=λb u q=>by rw[aq (bR q h)];exact q
theorem sz{n:Nat}(h:n<=1000):n<=sizeLine:=Go (wU h)
end My
namespace L2
section
variable {X:Cx}
theorem PE.anti{e:Expr}{t t':TE}(h:PE X e t)(a:∀ s H Q,t' s H Q->t s H Q):PE X e t':=λpins s σ H Q I q=>h pins s σ H Q I (a _ _ _ q)
theorem PT.anti{e:Expr}{t t':TT}(h:PT X e t)(a:∀ s H Q,t' s H Q->t s H Q):PT X e t':=λpins s σ H Q I q=>h pins s σ H Q I (a _ _ _ q)
theorem PW.anti{e:Expr}{t t':TT}(h:PW X e t)(a:∀ s H Q,t' s H Q->t s H Q):PW X e t':=λwh pins s σ H Q I q=>h wh pins s σ H Q I (a _ _ _ q)
theorem PA.anti{e:List Expr}{t t':TA}(h:PA X e t)(a:∀ s H Q,t' s H Q->t s H Q):PA X e t':=λp pins s σ H Q I q=>h p pins s σ H Q I (a _ _ _ q)
theorem PS.anti{e:Stmt}{t t':TS}(h:PS X e t)(a:∀ E s H,t' E s H->t E s H):PS X e t':=λpins s σ H Q I q=>h pins s σ H Q I (a _ _ _ q)
theorem PSs.anti{e:List Stmt}{t t':TS}(h:PSs X e t)(a:∀ E s H,t' E s H->t E s H):PSs X e t':=λpins s σ H Q I q=>h pins s σ H Q I (a _ _ _ q)
end
end L2
namespace My
inductive D where
 |non|bl (b:Bool)|int (i:Int)|str (x:Str)|tup (xs:List D)|lst (xs:List D)
  |rol (xs:List D)
  |obj (x:Str) (fs:List (Str × D))
  |exc (x:Str) (fs:List (Str × D))
  |own (xs:List D)
  |ptr (a:Addr)
  |dti (a8:List ((Int × Int) × Int))
def dtiV(a8:List ((Int × Int) × Int)):List (List Key × V):=a8.map λe=>([.inl e.1.1,.inl e.1.2],.int e.2)
def XO(e C:Addr)(od:Option Addr):HO:= .ext λh=>∃ vs sl,h.get? e=some ⟨.ref C,od,.fields vs,sl⟩
mutual
def Rep(K:Ex)(H:Hp):D->V->Prop
 | .non,v=>v= .non
 | .bl b,v=>v= .bl b
 | .int i,v=>v= .int i
 | .str x,v=>v= .str x
 | .tup ds,v=>∃ a vs,v= .ref a/\H a=some (.tup vs)/\Reps K H ds vs
 | .lst ds,v=>∃ a vs,v= .ref a/\H a=some (.lst vs)/\Reps K H ds vs
 | .rol ds,v=>∃ a vs,v= .ref a/\SqL K H a vs/\Reps K H ds vs
 | .obj x fs,v=>∃ a C dx vs,v= .ref a/\nsIn K mainGlobals x=some (some (.ref C))/\H a=some (.ins C dx vs)/\RepF K H fs vs
 | .exc x fs,v=>∃ a C od vs,v= .ref a/\nsIn K mainGlobals x=some (some (.ref C))/\H a=some (XO a C od)/\RepF K H fs vs/\((od=none/\vs=[])\/∃ b,od=some b/\H b=some (.xd vs))
 | .own _,_=>False
 | .ptr a,v=>v= .ref a
 | .dti a8,v=>∃ a,v= .ref a/\H a=some (.dT (dtiV a8))
def RepF(K:Ex)(H:Hp):List (Str × D)->List (Str × V)->Prop
 |[],vs=>vs=[]
 |(f,d)::ds,vs=>∃ v r,vs=(f,v)::r/\Rep K H d v/\RepF K H ds r
def Reps(K:Ex)(H:Hp):List D->List V->Prop
 |[],vs=>vs=[]
 |d::ds,vs=>∃ v r,vs=v::r/\Rep K H d v/\Reps K H ds r
end
mutual
theorem Rep.mono{K:Ex}{H H':Hp}(g:Same H H'):∀ (d:D) (v:V),Rep K H d v->Rep K H' d v
 | .non,v,h=>by unfold Rep at h ⊢;exact h
 | .bl b,v,h=>by unfold Rep at h ⊢;exact h
 | .int b,v,h=>by unfold Rep at h ⊢;exact h
 | .str b,v,h=>by unfold Rep at h ⊢;exact h
 | .tup ds,v,h=>by
  unfold Rep at h ⊢
  obtain⟨a,vs,e,q,r⟩:=h
  exact⟨a,vs,e,g _ _ q,Reps.mono g ds vs r⟩
 | .lst ds,v,h=>by
  unfold Rep at h ⊢
  obtain⟨a,vs,e,q,r⟩:=h
  exact⟨a,vs,e,g _ _ q,Reps.mono g ds vs r⟩
 | .rol ds,v,h=>by
  unfold Rep at h ⊢
  obtain⟨a,vs,e,q,r⟩:=h
  exact⟨a,vs,e,g.seq q,Reps.mono g ds vs r⟩
 | .obj C fs,v,h=>by
  unfold Rep at h ⊢
  obtain⟨a,C,dx,vs,e,n,q,r⟩:=h
  exact⟨a,C,dx,vs,e,n,g _ _ q,RepF.mono g fs vs r⟩
 | .exc C fs,v,h=>by
  unfold Rep at h ⊢
  obtain⟨a,C,od,vs,e,n,q,r,d⟩:=h
  exact⟨a,C,od,vs,e,n,g _ _ q,RepF.mono g fs vs r,d.imp id λ⟨b,h1,h2⟩=>⟨b,h1,g _ _ h2⟩⟩
 | .own ds,v,h=>by
  unfold Rep at h ⊢
  exact h
 | .ptr a,v,h=>by unfold Rep at h ⊢;exact h
 | .dti a8,v,h=>by
  unfold Rep at h ⊢
  obtain⟨a,e,q⟩:=h
  exact⟨a,e,g _ _ q⟩
theorem RepF.mono{K:Ex}{H H':Hp}(g:Same H H'):∀ (ds:List (Str × D)) (vs:List (Str × V)),RepF K H ds vs->RepF K H' ds vs
 |[],vs,h=>by unfold RepF at h ⊢;exact h
 |(f,d)::ds,vs,h=>by
  unfold RepF at h ⊢
  obtain⟨v,r,e,q1,q2⟩:=h
  exact⟨v,r,e,Rep.mono g d v q1,RepF.mono g ds r q2⟩
theorem Reps.mono{K:Ex}{H H':Hp}(g:Same H H'):∀ (ds:List D) (vs:List V),Reps K H ds vs->Reps K H' ds vs
 |[],vs,h=>by unfold Reps at h ⊢;exact h
 |d::ds,vs,h=>by
  unfold Reps at h ⊢
  obtain⟨v,r,e,q1,q2⟩:=h
  exact⟨v,r,e,Rep.mono g d v q1,Reps.mono g ds r q2⟩
end
section
variable {K:Ex}{H:Hp}
theorem rep_non{v:V}:Rep K H .non v↔v= .non:=by unfold Rep;exact Iff.rfl
theorem rep_bl{b:Bool}{v:V}:Rep K H (.bl b) v↔v= .bl b:=by unfold Rep;exact Iff.rfl
theorem rep_int{i:Int}{v:V}:Rep K H (.int i) v↔v= .int i:=by unfold Rep;exact Iff.rfl
theorem rep_str{x:Str}{v:V}:Rep K H (.str x) v↔v= .str x:=by unfold Rep;exact Iff.rfl
theorem rep_tupS{ds:List D}{v:V}:Rep K H (.tup ds) v↔∃ a vs,v= .ref a/\H a=some (.tup vs)/\Reps K H ds vs:=by
 constructor
 ·intro h;unfold Rep at h;exact h
 ·intro h;unfold Rep;exact h
theorem rep_tup_mp{ds:List D}{v:V}(h:Rep K H (.tup ds) v):∃ a vs,v= .ref a/\SqT K H a vs/\Reps K H ds vs:=by
 obtain⟨a,vs,e,q,r⟩:=rep_tupS.mp h
 exact⟨a,vs,e,SqT.of q,r⟩
theorem rep_ptr{a:Addr}{v:V}:Rep K H (.ptr a) v↔v= .ref a:=by unfold Rep;exact Iff.rfl
theorem rep_dti{a8:List ((Int × Int) × Int)}{v:V}:Rep K H (.dti a8) v↔∃ a,v= .ref a/\H a=some (.dT (dtiV a8)):=by
 constructor
 ·intro h;unfold Rep at h;exact h
 ·intro h;unfold Rep;exact h
theorem rep_lst{ds:List D}{v:V}:Rep K H (.lst ds) v↔∃ a vs,v= .ref a/\H a=some (.lst vs)/\Reps K H ds vs:=by
 constructor
 ·intro h;unfold Rep at h;exact h
 ·intro h;unfold Rep;exact h
theorem rep_rol{ds:List D}{v:V}:Rep K H (.rol ds) v↔∃ a vs,v= .ref a/\SqL K H a vs/\Reps K H ds vs:=by
 constructor
 ·intro h;unfold Rep at h;exact h
 ·intro h;unfold Rep;exact h
theorem rep_obj{x:Str}{fs:List (Str × D)}{v:V}:Rep K H (.obj x fs) v↔∃ a C dx vs,v= .ref a/\nsIn K mainGlobals x=some (some (.ref C))/\H a=some (.ins C dx vs)/\RepF K H fs vs:=by
 constructor
 ·intro h;unfold Rep at h;exact h
 ·intro h;unfold Rep;exact h
theorem rep_exc{x:Str}{fs:List (Str × D)}{v:V}:Rep K H (.exc x fs) v↔∃ a C od vs,v= .ref a/\nsIn K mainGlobals x=some (some (.ref C))/\H a=some (XO a C od)/\RepF K H fs vs/\((od=none/\vs=[])\/∃ b,od=some b/\H b=some (.xd vs)):=by
 constructor
 ·intro h;unfold Rep at h;exact h
 ·intro h;unfold Rep;exact h
theorem rep_own{ds:List D}{v:V}:¬ Rep K H (.own ds) v:=by intro h;unfold Rep at h;exact h
theorem repf_nil{vs:List (Str × V)}:RepF K H [] vs↔vs=[]:=by unfold RepF;exact Iff.rfl
theorem repf_cons{f:Str}{d:D}{ds:List (Str × D)}{vs:List (Str × V)}:RepF K H ((f,d)::ds) vs↔∃ v r,vs=(f,v)::r/\Rep K H d v/\RepF K H ds r:=by
 constructor
 ·intro h;unfold RepF at h;exact h
 ·intro h;unfold RepF;exact h
theorem RepF.look{f:Str}{d:D}:∀ {fs:List (Str × D)} {vs:List (Str × V)},RepF K H fs vs->fs.lookup f=some d->∃ v,vs.lookup f=some v/\Rep K H d v
 |[],_,_,e=>by cases e
 |(g,x)::fs,vs,h,e=>by
  obtain⟨v,r,rfl,h1,h2⟩:=repf_cons.mp h
  rw[E8] at e ⊢
  split at e
  ·cases e
   exact⟨v,rfl,h1⟩
  ·exact RepF.look h2 e
theorem RepF.none{f:Str}:∀ {fs:List (Str × D)} {vs:List (Str × V)},RepF K H fs vs->fs.lookup f=Option.none->vs.lookup f=Option.none
 |[],vs,h,_=>by rw[repf_nil.mp h];rfl
 |(g,x)::fs,vs,h,e=>by
  obtain⟨v,r,rfl,h1,h2⟩:=repf_cons.mp h
  rw[E8] at e ⊢
  split at e
  ·cases e
  ·exact RepF.none h2 e
theorem reps_nil{vs:List V}:Reps K H [] vs↔vs=[]:=by unfold Reps;exact Iff.rfl
theorem reps_cons{d:D}{ds:List D}{vs:List V}:Reps K H (d::ds) vs↔∃ v r,vs=v::r/\Rep K H d v/\Reps K H ds r:=by
 constructor
 ·intro h;unfold Reps at h;exact h
 ·intro h;unfold Reps;exact h
theorem Reps.length:∀ {ds:List D} {vs:List V},Reps K H ds vs->vs.length=ds.length
 |[],vs,h=>by rw[reps_nil.mp h];rfl
 |d::ds,vs,h=>by
  obtain⟨v,r,rfl,_,h2⟩:=reps_cons.mp h
  rw[EQ,EQ,Reps.length h2]
theorem Reps.get:∀ {ds:List D} {vs:List V} {i:Nat} {d:D},Reps K H ds vs->ds[i]?=some d->∃ v,vs[i]?=some v/\Rep K H d v
 |[],_,_,_,_,e=>by simp at e
 |x::ds,vs,0,d,h,e=>by
  obtain⟨v,r,rfl,h1,_⟩:=reps_cons.mp h
  simp at e;subst e
  exact⟨v,rfl,h1⟩
 |x::ds,vs,i+1,d,h,e=>by
  obtain⟨v,r,rfl,_,h2⟩:=reps_cons.mp h
  obtain⟨u,q1,q2⟩:=Reps.get (i:=i) h2 (by simpa using e)
  exact⟨u,by simpa using q1,q2⟩
theorem Reps.ints:∀ {ns:List Int} {vs:List V},Reps K H (ns.map D.int) vs↔vs=ns.map V.int
 |[],vs=>reps_nil
 |n::ns,vs=>by
  rw[EY,reps_cons,EY]
  constructor
  ·rintro⟨v,r,rfl,h1,h2⟩
   rw[rep_int.mp h1,Reps.ints.mp h2]
  ·rintro rfl
   exact⟨_,_,rfl,rep_int.mpr rfl,Reps.ints.mpr rfl⟩
end
abbrev SD:=List (Option D)
def gu:D->Bool| .own _=>true|_=>false
structure RepS(K:Ex)(B F H:Hp)(t:SD)(s:L2.St):Prop where
 len:s.length=t.length
 val:∀ (i:Nat) d,t[i]?=some (some d)->gu d=false->∃ v,s[i]?=some (some v)/\Rep K F d v
 own:∀ (i:Nat) ds,t[i]?=some (some (.own ds))->∃ a vs,s[i]?=some (some (.ref a))/\H a=some (.lst vs)/\B a=none/\F a=none/\Reps K F ds vs
 apart:∀ (i j:Nat) di dj a,t[i]?=some (some (.own di))->t[j]?=some (some (.own dj))->s[i]?=some (some (.ref a))->s[j]?=some (some (.ref a))->i=j
structure Grow(F H F' H':Hp):Prop where
 ff:Same F F'
 fh:Same F' H'
 hh:Same H H'
 out:∀ b,F b=none->H b≠none->F' b=none
theorem Grow.refl{F H:Hp}(h:Same F H):Grow F H F H:=⟨Same.refl F,h,Same.refl H,λ_ h _=>h⟩
theorem Grow.trans{F H F1 H1 F2 H2:Hp}(g:Grow F H F1 H1)(k:Grow F1 H1 F2 H2):Grow F H F2 H2:=
 ⟨g.ff.trans k.ff,k.fh,g.hh.trans k.hh,λb h1 h2=>k.out b (g.out b h1 h2) (by
  cases e:H b with
  |none=>exact absurd e h2
  |some o=>rw[g.hh b o e];exact λz=>nomatch z)⟩
theorem Grow.new{F H:Hp}{p:Addr}(h:Same F H)(hp:H p=none)(o:HO):Grow F H (upd F p o) (upd H p o):=by
 have fp:F p=none:=h.free hp
 refine⟨aS fp o,λb u e=>?_,aS hp o,λb h1 h2=>?_⟩
 ·by_cases hb:b=p
  ·subst hb;rw[aA] at e ⊢;exact e
  ·rw[aq hb] at e ⊢;exact h b u e
 ·by_cases hb:b=p
  ·subst hb;exact absurd hp h2
  ·rw[aq hb];exact h1
class Jx where
 B:Hp
 F0:Hp
 RX:SD->Str->List (Str × D)->Prop
structure Kept[J:Jx](B F0 F H:Hp):Prop where
 bh:Same B H
 fh:Same F H
 f0:Same F0 F
 out:∀ b,F0 b=none->B b≠none->F b=none
 eb:B=J.B
 jf:Same J.F0 F0
 jo:∀ b,J.F0 b=none->B b≠none->F0 b=none
theorem Kept.kf[J:Jx]{B F0 F H:Hp}(k:Kept B F0 F H):Kept B J.F0 F H:=⟨k.bh,k.fh,k.jf.trans k.f0,λb h1 h2=>k.out b (k.jo b h1 h2) h2,k.eb,Same.refl _,λ_ h _=>h⟩
theorem Kept.grow[Jx]{B F0 F H F' H':Hp}(k:Kept B F0 F H)(g:Grow F H F' H'):Kept B F0 F' H':=
 ⟨k.bh.trans g.hh,g.fh,k.f0.trans g.ff,λb h1 h2=>g.out b (k.out b h1 h2) (by
  cases e:B b with
  |none=>exact absurd e h2
  |some o=>rw[k.bh b o e];exact λz=>nomatch z),k.eb,k.jf,k.jo⟩
section
variable {K:Ex}{B F H F' H':Hp}{t:SD}{s:L2.St}
theorem RepS.grow(g:Grow F H F' H')(h:RepS K B F H t s):RepS K B F' H' t s where
 len:=h.len
 val:=λi d e no=>let ⟨v,q1,q2⟩:=h.val i d e no;⟨v,q1,q2.mono g.ff⟩
 own:=λi ds e=>by
  obtain⟨a,vs,q1,q2,q3,q4,q5⟩:=h.own i ds e
  exact⟨a,vs,q1,g.hh a _ q2,q3,g.out a q4 (by rw[q2];exact λz=>nomatch z),q5.mono g.ff⟩
 apart:=h.apart
theorem RepS.set{i:Nat}{d:D}{v:V}(h:RepS K B F H t s)(r:Rep K F d v):RepS K B F H (t.set i (some d)) (s.set i (some v)):=by
 have no:gu d=false:=by
  cases d with
  |own ds=>exact absurd r rep_own
  |_=>rfl
 have get:∀ {j:Nat} {x:D},(t.set i (some d))[j]?=some (some x)->(j=i/\x=d/\i<t.length)\/(j≠i/\t[j]?=some (some x)):=λ{j x} e=>by
  by_cases hj:i=j
  ·subst hj
   rw[Gg] at e
   simp at e
   exact .inl ⟨rfl,e.2.symm,e.1⟩
  ·rw[Fb hj] at e
   exact .inr ⟨λz=>hj z.symm,e⟩
 refine⟨by rw[Gh,Gh];exact h.len,λj x e nx=>?_,λj ds e=>?_,λj k dj dk a e1 e2 e3 e4=>?_⟩
 ·rcases get e with⟨rfl,rfl,hl⟩|⟨hj,e⟩
  ·exact⟨v,by rw[FA (by rw[h.len];exact hl)],r⟩
  ·obtain⟨u,q1,q2⟩:=h.val j x e nx
   exact⟨u,by rw[Fb (λz=>hj z.symm)];exact q1,q2⟩
 ·rcases get e with⟨rfl,rfl,hl⟩|⟨hj,e⟩
  ·cases no
  ·obtain⟨a,vs,q1,q⟩:=h.own j ds e
   exact⟨a,vs,by rw[Fb (λz=>hj z.symm)];exact q1,q⟩
 ·rcases get e1 with⟨rfl,rfl,hl⟩|⟨hj,e1⟩
  ·cases no
  ·rcases get e2 with⟨rfl,rfl,hl⟩|⟨hk,e2⟩
   ·cases no
   ·rw[Fb (λz=>hj z.symm)] at e3
    rw[Fb (λz=>hk z.symm)] at e4
    exact h.apart j k dj dk a e1 e2 e3 e4
theorem RepS.setOwn{i:Nat}{a:Addr}{vs:List V}{ds:List D}(h:RepS K B F H t s)(hB:B a=none)(hF:F a=none)(r:Reps K F ds vs)
  (free:∀ (j:Nat) dj,j≠i->t[j]?=some (some (.own dj))->s[j]?≠some (some (.ref a))):RepS K B F (upd H a (.lst vs)) (t.set i (some (.own ds))) (s.set i (some (.ref a))):=by
 have get:∀ {j:Nat} {x:D},(t.set i (some (.own ds)))[j]?=some (some x)->(j=i/\x= .own ds/\i<t.length)\/(j≠i/\t[j]?=some (some x)):=λ{j x} e=>by
  by_cases hj:i=j
  ·subst hj
   rw[Gg] at e
   simp at e
   exact .inl ⟨rfl,e.2.symm,e.1⟩
  ·rw[Fb hj] at e
   exact .inr ⟨λz=>hj z.symm,e⟩
 refine⟨by rw[Gh,Gh];exact h.len,λj x e nx=>?_,λj dj e=>?_,λj k dj dk b e1 e2 e3 e4=>?_⟩
 ·rcases get e with⟨rfl,rfl,hl⟩|⟨hj,e⟩
  ·cases nx
  ·obtain⟨u,q1,q2⟩:=h.val j x e nx
   exact⟨u,by rw[Fb (λz=>hj z.symm)];exact q1,q2⟩
 ·rcases get e with⟨rfl,e,hl⟩|⟨hj,e⟩
  ·cases e
   exact⟨a,vs,by rw[FA (by rw[h.len];exact hl)],aA,hB,hF,r⟩
  ·obtain⟨b,us,q1,q2,q⟩:=h.own j dj e
   have ne:b≠a:=λz=>free j dj hj e (z ▸ q1)
   exact⟨b,us,by rw[Fb (λz=>hj z.symm)];exact q1,by rw[aq ne];exact q2,q⟩
 ·rcases get e1 with⟨hj,c1,hl⟩|⟨hj,f1⟩
  ·rcases get e2 with⟨hk,c2,Ig⟩|⟨hk,f2⟩
   ·rw[hj,hk]
   ·rw[hj,FA (by rw[h.len];exact hl)] at e3
    rw[Fb (λz=>hk z.symm)] at e4
    cases e3
    exact absurd e4 (free k dk hk f2)
  ·rcases get e2 with⟨hk,c2,Ig⟩|⟨hk,f2⟩
   ·rw[hk,FA (by rw[h.len];exact Ig)] at e4
    rw[Fb (λz=>hj z.symm)] at e3
    cases e4
    exact absurd e3 (free j dj hj f1)
   ·rw[Fb (λz=>hj z.symm)] at e3
    rw[Fb (λz=>hk z.symm)] at e4
    exact h.apart j k dj dk b f1 f2 e3 e4
theorem RepS.freeze[Jx]{F0:Hp}{i:Nat}{ds:List D}(h:RepS K B F H t s)(k:Kept B F0 F H)(e:t[i]?=some (some (.own ds))):∃ F',Kept B F0 F' H/\RepS K B F' H (t.set i (some (.lst ds))) s:=by
 obtain⟨a,vs,q1,q2,q3,q4,q5⟩:=h.own i ds e
 have hl:i<t.length:=(E7.mp e).1
 have g:Same F (upd F a (.lst vs)):=aS q4 _
 have get:∀ {j:Nat} {x:D},(t.set i (some (.lst ds)))[j]?=some (some x)->(j=i/\x= .lst ds)\/(j≠i/\t[j]?=some (some x)):=λ{j x} e=>by
  by_cases hj:i=j
  ·subst hj
   rw[Gg] at e
   simp at e
   exact .inl ⟨rfl,e.2.symm⟩
  ·rw[Fb hj] at e
   exact .inr ⟨λz=>hj z.symm,e⟩
 refine⟨upd F a (.lst vs),⟨k.bh,λb o z=>?_,k.f0.trans g,λb h1 h2=>?_,k.eb,k.jf,k.jo⟩,⟨by rw[Gh];exact h.len,λj x e' nx=>?_,λj dj e'=>?_,λj l dj dl b e1 e2 e3 e4=>?_⟩⟩
 ·by_cases hb:b=a
  ·subst hb;rw[aA] at z;cases z;exact q2
  ·rw[aq hb] at z;exact k.fh b o z
 ·by_cases hb:b=a
  ·subst hb;exact absurd q3 h2
  ·rw[aq hb];exact k.out b h1 h2
 ·rcases get e' with⟨rfl,rfl⟩|⟨hj,e'⟩
  ·exact⟨.ref a,q1,rep_lst.mpr ⟨a,vs,rfl,aA,q5.mono g⟩⟩
  ·obtain⟨u,p1,p2⟩:=h.val j x e' nx
   exact⟨u,p1,p2.mono g⟩
 ·rcases get e' with⟨rfl,c⟩|⟨hj,e'⟩
  ·cases c
  ·obtain⟨b,us,p1,p2,p3,p4,p5⟩:=h.own j dj e'
   have ne:b≠a:=λz=>hj (h.apart j i dj ds a e' e (z ▸ p1) q1)
   exact⟨b,us,p1,p2,p3,by rw[aq ne];exact p4,p5.mono g⟩
 ·rcases get e1 with⟨rfl,c⟩|⟨hj,e1⟩
  ·cases c
  ·rcases get e2 with⟨rfl,c⟩|⟨hk,e2⟩
   ·cases c
   ·exact h.apart j l dj dl b e1 e2 e3 e4
end
def startD(N:List Str)(ds:List D):SD:=ds.map some++FI (N.length - ds.length) none
theorem Rep.noown{K:Ex}{F:Hp}{d:D}{v:V}(r:Rep K F d v):gu d=false:=by
 cases d with
 |own ds=>exact absurd r rep_own
 |_=>rfl
theorem dZ{K:Ex}{B F H:Hp}{N:List Str}{ds:List D}{vs:List V}(h:Reps K F ds vs):RepS K B F H (startD N ds) (L2.start N vs):=by
 have hl:=h.length
 have get:∀ (i:Nat) d,(startD N ds)[i]?=some (some d)->∃ v,(L2.start N vs)[i]?=some (some v)/\Rep K F d v:=λi d e=>by
  unfold startD at e
  unfold L2.start
  by_cases hi:i<ds.length
  ·rw[FB (by simpa using hi),E3] at e
   cases q:ds[i]? with
   |none=>rw[q] at e;cases e
   |some x=>
    rw[q] at e;cases e
    obtain⟨v,q1,q2⟩:=h.get q
    exact⟨v,by rw[FB (by simpa[hl] using hi),E3,q1];rfl,q2⟩
  ·rw[FS (by simpa using hi),GQ] at e
   split at e<;>cases e
 refine⟨by unfold startD L2.start;simp[hl],λi d e _=>get i d e,λi d e=>?_,λi j di dj a e=>?_⟩
 ·obtain⟨v,_,r⟩:=get i _ e;exact absurd r rep_own
 ·obtain⟨v,_,r⟩:=get i _ e;exact absurd r rep_own
abbrev TD:=SD->(D->Prop)->Prop
abbrev TDT:=SD->(Bool->Prop)->Prop
abbrev TDA:=SD->(List D->Prop)->Prop
structure EndsD where
 nx:SD->Prop
 rt:D->Prop
 bk:SD->Prop:=λ_=>False
 ct:SD->Prop:=λ_=>False
abbrev TSD:=EndsD->SD->Prop
def lE(K:Ex)[J:Jx](t:TD):TE:=λs H Q=>∃ B F z,Kept B J.F0 F H/\RepS K B F H z s/\∃ R:D->Prop,t z R/\∀ d v F' H',Grow F H F' H'->R d->Rep K F' d v->Q v H'
def lT(K:Ex)[J:Jx](t:TDT):TT:=λs H Q=>∃ B F z,Kept B J.F0 F H/\RepS K B F H z s/\∃ R:Bool->Prop,t z R/\∀ b F' H',Grow F H F' H'->R b->Q b H'
def lA(K:Ex)[J:Jx](t:TDA):TA:=λs H Q=>∃ B F z,Kept B J.F0 F H/\RepS K B F H z s/\∃ R:List D->Prop,t z R/\∀ ds vs F' H',Grow F H F' H'->R ds->Reps K F' ds vs->Q vs H'
structure EndsOk[Jx](K:Ex)(B F0:Hp)(ED:EndsD)(E:Ends):Prop where
 nx:∀ z' s' F' H',Kept B F0 F' H'->ED.nx z'->RepS K B F' H' z' s'->E.nx s' H'
 rt:∀ d v F' H',Kept B F0 F' H'->ED.rt d->Rep K F' d v->E.rt v H'
 bk:∀ z' s' F' H',Kept B F0 F' H'->ED.bk z'->RepS K B F' H' z' s'->E.bk s' H'
 ct:∀ z' s' F' H',Kept B F0 F' H'->ED.ct z'->RepS K B F' H' z' s'->E.ct s' H'
def lS(K:Ex)[Jx](t:TSD):TS:=λE s H=>∃ B F0 F z,Kept B F0 F H/\RepS K B F H z s/\∃ ED:EndsD,t ED z/\EndsOk K B F0 ED E
abbrev DE(X:Cx)[Jx](e:Expr)(t:TD):Prop:=PE X e (lE X.K t)
abbrev DT(X:Cx)[Jx](e:Expr)(t:TDT):Prop:=PT X e (lT X.K t)
abbrev DW(X:Cx)[Jx](e:Expr)(t:TDT):Prop:=PW X e (lT X.K t)
abbrev DA(X:Cx)[Jx](es:List Expr)(t:TDA):Prop:=PA X es (lA X.K t)
abbrev DS(X:Cx)[Jx](st:Stmt)(t:TSD):Prop:=PS X st (lS X.K t)
abbrev DSs(X:Cx)[Jx](st:List Stmt)(t:TSD):Prop:=PSs X st (lS X.K t)
structure WDE(X:Cx)[Jx](e:Expr)(t:TD):Prop where
 out:DE X e t
structure WDT(X:Cx)[Jx](e:Expr)(t:TDT):Prop where
 out:DT X e t
structure WDW(X:Cx)[Jx](e:Expr)(t:TDT):Prop where
 out:DW X e t
structure WDA(X:Cx)[Jx](es:List Expr)(t:TDA):Prop where
 out:DA X es t
structure WDS(X:Cx)[Jx](st:Stmt)(t:TSD):Prop where
 out:DS X st t
structure WDSs(X:Cx)[Jx](st:List Stmt)(t:TSD):Prop where
 out:DSs X st t
section
variable {X:Cx}
def okR(R:D->Prop):D->Prop| .own _=>False|d=>R d
def dVar(i:Nat):TD:=λz R=>match z[i]? with|some (some d)=>okR R d|_=>False
def dC(d:D):TD:=λ_ R=>R d
theorem aa[Jx](i:Nat){x:Str}{pos:Pos}(hN:X.N[i]?=some x:=by rfl)(hv:Vis X.env.scope x:=by first|exact Or.inl rfl|exact Or.inr (Or.inl rfl)|exact Or.inr (Or.inr rfl))(hd:zND x:=by decide)
  (g9:zNC x:=by decide):WDE X (.Name x pos) (dVar i):=⟨(fq hN hv hd g9).anti λs H Q h=>by
 obtain⟨B,F,z,kf,r,R,h1,h2⟩:=h
 have fh:=kf.fh
 unfold dVar at h1
 split at h1
 ·rename_i d e
  have no:gu d=false:=by
   cases d with
   |own ds=>exact False.elim h1
   |_=>rfl
  have OR:R d:=by
   cases d with
   |own ds=>exact False.elim h1
   |_=>exact h1
  obtain⟨v,q1,q2⟩:=r.val i d e no
  exact⟨v,q1,h2 d v F H (Grow.refl fh) OR q2⟩
 ·exact h1.elim⟩
theorem de_c[Jx]{e:Expr}{d:D}{v:V}(h:PE X e (tC v))(r:∀ H,Rep X.K H d v):DE X e (dC d):=h.anti λs H Q q=>by
 obtain⟨B,F,z,kf,_,R,h1,h2⟩:=q
 have fh:=kf.fh
 exact h2 d v F H (Grow.refl fh) h1 (r F)
theorem ad[Jx]{i j pos}:WDE X (.Constant (.int i) j pos) (dC (.int i)):=⟨de_c uy λ_=>rep_int.mpr rfl⟩
theorem cf[Jx]{b j pos}:WDE X (.Constant (.bool b) j pos) (dC (.bl b)):=⟨de_c uz λ_=>rep_bl.mpr rfl⟩
theorem cr[Jx]{j pos}:WDE X (.Constant .none j pos) (dC .non):=⟨de_c va λ_=>rep_non.mpr rfl⟩
theorem ay[Jx]{x j pos}:WDE X (.Constant (.str x) j pos) (dC (.str x)):=⟨de_c pi λ_=>rep_str.mpr rfl⟩
abbrev RD2:=D->D->(D->Prop)->Prop
def dOp(r:RD2)(ta tb:TD):TD:=λz R=>ta z λx=>tb z λy=>r x y R
def aY(K:Ex)(r:R2)(rd:RD2):Prop:=∀ x y u v F H R Q,Same F H->rd x y R->Rep K F x u->Rep K F y v->(∀ d w F' H',Grow F H F' H'->R d->Rep K F' d w->Q w H')->r u v H Q
theorem jA[Jx]{e:Expr}{r:R2}{rd:RD2}{ta tb:TD}(L:aY X.K r rd)(h:PE X e (tOp r (lE X.K ta) (lE X.K tb))):DE X e (dOp rd ta tb):=h.anti λs H Q q=>by
 obtain⟨B,F,z,kf,rs,R,h1,h2⟩:=q
 have fh:=kf.fh
 refine⟨B,F,z,kf,rs,_,h1,λx u F1 H1 g1 hx rx=>?_⟩
 refine⟨B,F1,z,kf.grow g1,rs.grow g1,_,hx,λy v F2 H2 g2 hy ry=>?_⟩
 exact L x y u v F2 H2 R Q g2.fh hy (rx.mono g2.ff) ry λd w F' H' g3=>h2 d w F' H' (g1.trans (g2.trans g3))
variable {a b c:Expr}{ta tb tc:TD}{pos:Pos}
theorem dz[Jx]{op:Operator}{r:R2}{rd:RD2}(ho:OpR X (binaryOp op) r)(L:aY X.K r rd)(ha:DE X a ta)(hb:DE X b tb):DE X (.BinOp a op b pos) (dOp rd ta tb):=jA L (pJ ho ha hb)
theorem jB[Jx]{op:CmpOp}{r:R2}{rd:RD2}(ho:OpR X (compareOp op) r)(L:aY X.K r rd)(ha:DE X a ta)(hb:DE X b tb)(hm:behindInMarks op b=false):DE X (.Compare a [op] [b] pos) (dOp rd ta tb):=jA L (vM ho ha hb hm)
theorem xn[Jx]{r:R2}{rd:RD2}(hr:IxR X r)(L:aY X.K r rd)(ha:DE X a ta)(hb:DE X b tb)(hs:fw b:=by exact λ_ _=>rfl):DE X (.Subscript a b pos) (dOp rd ta tb):=jA L (pe_ix hr ha hb hs)
def rdAdd:RD2:=λx y R=>match x,y with
 | .int i,.int j=>R (.int (i+j))
 | .str i,.str j=>i.length+j.length<=1000000/\R (.str (i++j))
 | .lst xs,.lst ys=>xs.length+ys.length<=1000000/\R (.lst (xs++ys))
 | .tup xs,.tup ys=>(xs≠[]/\ys≠[]/\xs.length+ys.length<=1000000)/\R (.tup (xs++ys))
 |_,_=>False
def qz(K:Ex):R2:=λx y H Q=>rI0 (λi j=> .int (i+j)) x y H Q\/((λx y H Q=>∃ i j,x= .str i/\y= .str j/\i.length+j.length<=sizeLine/\Q (.str (i++j)) H) x y H Q\/(rCat x y H Q\/qj K x y H Q))
theorem qA:OpR X (binaryOp .Add) (qz X.K):=OpR.or vB (OpR.or vR (OpR.or wP wB))
theorem Reps.append{K:Ex}{F:Hp}:∀ {xs ys:List D} {us vs:List V},Reps K F xs us->Reps K F ys vs->Reps K F (xs++ys) (us++vs)
 |[],ys,us,vs,r1,r2=>by rw[reps_nil.mp r1];exact r2
 |x::xs,ys,us,vs,r1,r2=>by
  obtain⟨u,ur,rfl,a1,a2⟩:=reps_cons.mp r1
  exact reps_cons.mpr ⟨u,ur++vs,rfl,a1,Reps.append a2 r2⟩
theorem Reps.ne_nil{K:Ex}{F:Hp}{xs:List D}{us:List V}(r:Reps K F xs us)(h:xs≠[]):us≠[]:=by
 cases xs with
 |nil=>exact absurd rfl h
 |cons x xs=>obtain⟨u,ur,rfl,_⟩:=reps_cons.mp r;exact λz=>nomatch z
theorem qB{K:Ex}:aY K (qz K) rdAdd:=by
 intro x y u v F H R Q fh h rx ry q
 unfold rdAdd at h
 split at h
 ·exact .inl ⟨_,_,rep_int.mp rx,rep_int.mp ry,q _ _ F H (Grow.refl fh) h (rep_int.mpr rfl)⟩
 ·exact .inr (.inl ⟨_,_,rep_str.mp rx,rep_str.mp ry,E1 h.1 (by decide),q _ _ F H (Grow.refl fh) h.2 (rep_str.mpr rfl)⟩)
 ·obtain⟨a,us,rfl,hq,rr⟩:=rep_lst.mp rx
  obtain⟨b,vs,rfl,j8,j9⟩:=rep_lst.mp ry
  refine .inr (.inr (.inl ⟨a,b,us,vs,rfl,rfl,fh _ _ hq,fh _ _ j8,by rw[rr.length,j9.length];exact E1 h.1 (by decide),λp hp=>?_⟩))
  exact q _ _ _ _ (Grow.new fh hp _) h.2 (rep_lst.mpr ⟨p,_,rfl,aA,(rr.append j9).mono (aS (fh.free hp) _)⟩)
 ·obtain⟨a,us,rfl,hq,rr⟩:=rep_tup_mp rx
  obtain⟨b,vs,rfl,j8,j9⟩:=rep_tup_mp ry
  obtain⟨⟨n1,n2,hz⟩,h⟩:=h
  refine .inr (.inr (.inr ⟨a,b,us,vs,rfl,rfl,fh.tup hq,fh.tup j8,rr.ne_nil n1,by rw[rr.length,j9.length];exact E1 hz (by decide),λz=>absurd z (j9.ne_nil n2),λ_ p hp=>?_⟩))
  exact q _ _ _ _ (Grow.new fh hp _) h (rep_tupS.mpr ⟨p,_,rfl,aA,(rr.append j9).mono (aS (fh.free hp) _)⟩)
 ·exact h.elim
theorem ao[Jx](ha:WDE X a ta)(hb:WDE X b tb):WDE X (.BinOp a .Add b pos) (dOp rdAdd ta tb):=⟨have ha:=ha.out;have hb:=hb.out;dz qA qB ha hb⟩
def rdSub:RD2:=λx y R=>match x,y with| .int i,.int j=>R (.int (i - j))|_,_=>False
theorem qC{K:Ex}:aY K (rI0 λi j=> .int (i - j)) rdSub:=by
 intro x y u v F H R Q fh h rx ry q
 unfold rdSub at h
 split at h
 ·exact⟨_,_,rep_int.mp rx,rep_int.mp ry,q _ _ F H (Grow.refl fh) h (rep_int.mpr rfl)⟩
 ·exact h.elim
theorem bn[Jx](ha:WDE X a ta)(hb:WDE X b tb):WDE X (.BinOp a .Sub b pos) (dOp rdSub ta tb):=⟨have ha:=ha.out;have hb:=hb.out;dz pK qC ha hb⟩
def rdMul:RD2:=λx y R=>match x,y with| .int i,.int j=>CMul i j/\R (.int (i*j))|_,_=>False
theorem xo{K:Ex}:aY K (rI CMul λi j=> .int (i*j)) rdMul:=by
 intro x y u v F H R Q fh h rx ry q
 unfold rdMul at h
 split at h
 ·exact⟨_,_,rep_int.mp rx,rep_int.mp ry,h.1,q _ _ F H (Grow.refl fh) h.2 (rep_int.mpr rfl)⟩
 ·exact h.elim
theorem av[Jx](ha:WDE X a ta)(hb:WDE X b tb):WDE X (.BinOp a .Mult b pos) (dOp rdMul ta tb):=⟨have ha:=ha.out;have hb:=hb.out;dz vC xo ha hb⟩
def rdFdiv:RD2:=λx y R=>match x,y with| .int i,.int j=>(0<j/\j<1073741824)/\R (.int (i / j))|_,_=>False
theorem xp{K:Ex}:aY K (rI CDiv λi j=> .int (i / j)) rdFdiv:=by
 intro x y u v F H R Q fh h rx ry q
 unfold rdFdiv at h
 split at h
 ·exact⟨_,_,rep_int.mp rx,rep_int.mp ry,h.1,q _ _ F H (Grow.refl fh) h.2 (rep_int.mpr rfl)⟩
 ·exact h.elim
theorem aU[Jx](ha:WDE X a ta)(hb:WDE X b tb):WDE X (.BinOp a .FloorDiv b pos) (dOp rdFdiv ta tb):=⟨have ha:=ha.out;have hb:=hb.out;dz vD xp ha hb⟩
def qD(i j:Int):Prop:=j≠0/\j.natAbs<4611686018427387904
theorem xq:OpR X (binaryOp .FloorDiv) (rI qD λi j=> .int (i.fdiv j)):=opI λ_ j _ _ _ _ _ hc q=>floordiv_int hc.1 q (.inl (PyProof.noPylong_of_log2 (Hm ((Hq (λz=>hc.1 (Hr.mp z))).mpr (show j.natAbs<2 ^ 62 from hc.2)) (by decide))))
def rdFdivN:RD2:=λx y R=>match x,y with| .int i,.int j=>(j≠0/\j.natAbs<4611686018427387904)/\R (.int (i.fdiv j))|_,_=>False
theorem xr{K:Ex}:aY K (rI qD λi j=> .int (i.fdiv j)) rdFdivN:=by
 intro x y u v F H R Q fh h rx ry q
 unfold rdFdivN at h
 split at h
 ·exact⟨_,_,rep_int.mp rx,rep_int.mp ry,h.1,q _ _ F H (Grow.refl fh) h.2 (rep_int.mpr rfl)⟩
 ·exact h.elim
theorem xt[Jx](ha:WDE X a ta)(hb:WDE X b tb):WDE X (.BinOp a .FloorDiv b pos) (dOp rdFdivN ta tb):=⟨have ha:=ha.out;have hb:=hb.out;dz xq xr ha hb⟩
def rdMod:RD2:=λx y R=>match x,y with| .int i,.int j=>0<j/\R (.int (i % j))|_,_=>False
theorem xu{K:Ex}:aY K (rI (λ_ j=>0<j) λi j=> .int (i % j)) rdMod:=by
 intro x y u v F H R Q fh h rx ry q
 unfold rdMod at h
 split at h
 ·exact⟨_,_,rep_int.mp rx,rep_int.mp ry,h.1,q _ _ F H (Grow.refl fh) h.2 (rep_int.mpr rfl)⟩
 ·exact h.elim
theorem aw[Jx](ha:WDE X a ta)(hb:WDE X b tb):WDE X (.BinOp a .Mod b pos) (dOp rdMod ta tb):=⟨have ha:=ha.out;have hb:=hb.out;dz vE xu ha hb⟩
def rdModN:RD2:=λx y R=>match x,y with| .int i,.int j=>j≠0/\R (.int (i.fmod j))|_,_=>False
theorem xx{K:Ex}:aY K (rI (λ_ j=>j≠0) λi j=> .int (i.fmod j)) rdModN:=by
 intro x y u v F H R Q fh h rx ry q
 unfold rdModN at h
 split at h
 ·exact⟨_,_,rep_int.mp rx,rep_int.mp ry,h.1,q _ _ F H (Grow.refl fh) h.2 (rep_int.mpr rfl)⟩
 ·exact h.elim
theorem qE[Jx](ha:WDE X a ta)(hb:WDE X b tb):WDE X (.BinOp a .Mod b pos) (dOp rdModN ta tb):=⟨have ha:=ha.out;have hb:=hb.out;dz vF xx ha hb⟩
def rdLt:RD2:=λx y R=>match x,y with| .int i,.int j=>R (.bl (decide (i<j)))|_,_=>False
theorem qF{K:Ex}:aY K (rI0 λi j=> .bl (decide (i<j))) rdLt:=by
 intro x y u v F H R Q fh h rx ry q
 unfold rdLt at h
 split at h
 ·exact⟨_,_,rep_int.mp rx,rep_int.mp ry,q _ _ F H (Grow.refl fh) h (rep_bl.mpr rfl)⟩
 ·exact h.elim
def rdLe:RD2:=λx y R=>match x,y with| .int i,.int j=>R (.bl (decide (i<=j)))|_,_=>False
theorem xy{K:Ex}:aY K (rI0 λi j=> .bl (decide (i<=j))) rdLe:=by
 intro x y u v F H R Q fh h rx ry q
 unfold rdLe at h
 split at h
 ·exact⟨_,_,rep_int.mp rx,rep_int.mp ry,q _ _ F H (Grow.refl fh) h (rep_bl.mpr rfl)⟩
 ·exact h.elim
def rdGt:RD2:=λx y R=>match x,y with| .int i,.int j=>R (.bl (decide (j<i)))|_,_=>False
theorem xz{K:Ex}:aY K (rI0 λi j=> .bl (decide (j<i))) rdGt:=by
 intro x y u v F H R Q fh h rx ry q
 unfold rdGt at h
 split at h
 ·exact⟨_,_,rep_int.mp rx,rep_int.mp ry,q _ _ F H (Grow.refl fh) h (rep_bl.mpr rfl)⟩
 ·exact h.elim
def rdGe:RD2:=λx y R=>match x,y with| .int i,.int j=>R (.bl (decide (j<=i)))|_,_=>False
theorem xA{K:Ex}:aY K (rI0 λi j=> .bl (decide (j<=i))) rdGe:=by
 intro x y u v F H R Q fh h rx ry q
 unfold rdGe at h
 split at h
 ·exact⟨_,_,rep_int.mp rx,rep_int.mp ry,q _ _ F H (Grow.refl fh) h (rep_bl.mpr rfl)⟩
 ·exact h.elim
def rdEq:RD2:=λx y R=>match x,y with
 | .int i,.int j=>R (.bl (decide (i=j)))
 | .bl i,.bl j=>R (.bl (decide (i=j)))
 | .str i,.str j=>R (.bl (decide (i=j)))
 | .non,.non=>R (.bl true)
 |_,_=>False
def rdNe:RD2:=λx y R=>match x,y with
 | .int i,.int j=>R (.bl (!decide (i=j)))
 | .bl i,.bl j=>R (.bl (!decide (i=j)))
 | .str i,.str j=>R (.bl (!decide (i=j)))
 | .non,.non=>R (.bl false)
 |_,_=>False
theorem jC{K:Ex}:aY K rEq rdEq:=by
 intro x y u v F H R Q fh h rx ry q
 unfold rdEq at h
 split at h
 ·rw[rep_int.mp rx,rep_int.mp ry]
  refine⟨rfl,q _ _ F H (Grow.refl fh) h (rep_bl.mpr ?_)⟩
  simp
 ·rw[rep_bl.mp rx,rep_bl.mp ry]
  refine⟨rfl,q _ _ F H (Grow.refl fh) h (rep_bl.mpr ?_)⟩
  simp
 ·rw[rep_str.mp rx,rep_str.mp ry]
  refine⟨rfl,q _ _ F H (Grow.refl fh) h (rep_bl.mpr ?_)⟩
  simp
 ·rw[rep_non.mp rx,rep_non.mp ry]
  refine⟨rfl,q _ _ F H (Grow.refl fh) h (rep_bl.mpr ?_)⟩
  simp
 ·exact h.elim
theorem xB{K:Ex}:aY K rNe rdNe:=by
 intro x y u v F H R Q fh h rx ry q
 unfold rdNe at h
 split at h
 ·rw[rep_int.mp rx,rep_int.mp ry]
  refine⟨rfl,q _ _ F H (Grow.refl fh) h (rep_bl.mpr ?_)⟩
  simp
 ·rw[rep_bl.mp rx,rep_bl.mp ry]
  refine⟨rfl,q _ _ F H (Grow.refl fh) h (rep_bl.mpr ?_)⟩
  simp
 ·rw[rep_str.mp rx,rep_str.mp ry]
  refine⟨rfl,q _ _ F H (Grow.refl fh) h (rep_bl.mpr ?_)⟩
  simp
 ·rw[rep_non.mp rx,rep_non.mp ry]
  refine⟨rfl,q _ _ F H (Grow.refl fh) h (rep_bl.mpr ?_)⟩
  simp
 ·exact h.elim
theorem cR[Jx](ha:WDE X a ta)(hb:WDE X b tb):WDE X (.Compare a [.Eq] [b] pos) (dOp rdEq ta tb):=⟨have ha:=ha.out;have hb:=hb.out;jB jp jC ha hb (nomark _)⟩
def qG:D->Bool| .non=>true|_=>false
def rdIs(f:Bool->Bool):RD2:=λx y R=>match y with| .non=>R (.bl (f (qG x)))|_=>False
theorem qH{K:Ex}{H:Hp}{x:D}{u:V}(r:Rep K H x u):decide (u= .non)=qG x:=by
 cases x with
 |non=>rw[rep_non.mp r];rfl
 |bl b=>rw[rep_bl.mp r];rfl
 |int b=>rw[rep_int.mp r];rfl
 |str b=>rw[rep_str.mp r];rfl
 |tup b=>obtain⟨a,vs,rfl,_⟩:=rep_tup_mp r;rfl
 |lst b=>obtain⟨a,vs,rfl,_⟩:=rep_lst.mp r;rfl
 |rol b=>obtain⟨a,vs,rfl,_⟩:=rep_rol.mp r;rfl
 |obj C b=>obtain⟨a,C,dx,vs,rfl,_⟩:=rep_obj.mp r;rfl
 |exc C b=>obtain⟨a,C,od,vs,rfl,_⟩:=rep_exc.mp r;rfl
 |own b=>exact absurd r rep_own
 |ptr b=>rw[rep_ptr.mp r];rfl
 |dti b=>obtain⟨a,rfl,_⟩:=rep_dti.mp r;rfl
theorem jD{K:Ex}:aY K (λx y H Q=>y= .non/\Q (.bl (decide (x= .non))) H) (rdIs id):=by
 intro x y u v F H R Q fh h rx ry q
 unfold rdIs at h
 split at h
 ·exact⟨rep_non.mp ry,q _ _ F H (Grow.refl fh) h (rep_bl.mpr (by rw[qH rx];rfl))⟩
 ·exact h.elim
theorem xC{K:Ex}:aY K (λx y H Q=>y= .non/\Q (.bl (!decide (x= .non))) H) (rdIs not):=by
 intro x y u v F H R Q fh h rx ry q
 unfold rdIs at h
 split at h
 ·exact⟨rep_non.mp ry,q _ _ F H (Grow.refl fh) h (rep_bl.mpr (by rw[qH rx]))⟩
 ·exact h.elim
theorem xD[Jx](ha:WDE X a ta)(hb:WDE X b tb):WDE X (.Compare a [.Is] [b] pos) (dOp (rdIs id) ta tb):=⟨have ha:=ha.out;have hb:=hb.out;jB jq jD ha hb (nomark _)⟩
def rdIx:RD2:=λx y R=>match x,y with
 | .tup ds,.int i=>∃ d,atI ds i=some d/\R d
 | .lst ds,.int i=>∃ d,atI ds i=some d/\R d
 | .rol ds,.int i=>∃ d,atI ds i=some d/\R d
 | .str x,.int i=>∃ c,(x.length<=1000000/\atI x.cps.toList i=some c)/\R (.str ⟨#[c]⟩)
 |_,_=>False
theorem Reps.at{K:Ex}{H:Hp}{ds:List D}{vs:List V}{i:Int}{d:D}(r:Reps K H ds vs)(e:atI ds i=some d):∃ v,atI vs i=some v/\Rep K H d v:=by
 unfold atI at e ⊢
 rw[r.length]
 cases q:ixN ds.length i with
 |none=>rw[q] at e;cases e
 |some j=>
  rw[q] at e
  exact r.get e
theorem qI{K:Ex}:aY K (rIx K) rdIx:=by
 intro x y u v F H R Q fh h rx ry q
 unfold rdIx at h
 split at h
 ·obtain⟨d,e,h⟩:=h
  obtain⟨a,vs,e1,hq,rs⟩:=rep_tup_mp rx
  obtain⟨w,e2,j7⟩:=rs.at e
  exact .inr (.inl ⟨a,vs,_,w,e1,rep_int.mp ry,fh.tup hq,e2,q d w F H (Grow.refl fh) h j7⟩)
 ·obtain⟨d,e,h⟩:=h
  obtain⟨a,vs,e1,hq,rs⟩:=rep_lst.mp rx
  obtain⟨w,e2,j7⟩:=rs.at e
  exact .inl ⟨a,vs,_,w,e1,rep_int.mp ry,fh.seq (SqL.of hq),e2,q d w F H (Grow.refl fh) h j7⟩
 ·obtain⟨d,e,h⟩:=h
  obtain⟨a,vs,e1,hq,rs⟩:=rep_rol.mp rx
  obtain⟨w,e2,j7⟩:=rs.at e
  exact .inl ⟨a,vs,_,w,e1,rep_int.mp ry,fh.seq hq,e2,q d w F H (Grow.refl fh) h j7⟩
 ·obtain⟨c,⟨hz,e⟩,h⟩:=h
  exact .inr (.inr ⟨_,_,c,rep_str.mp rx,rep_int.mp ry,E1 hz (by decide),e,q _ _ F H (Grow.refl fh) h (rep_str.mpr rfl)⟩)
 ·exact h.elim
theorem ae[Jx](ha:WDE X a ta)(hb:WDE X b tb)(hs:fw b:=by exact λ_ _=>rfl):WDE X (.Subscript a b pos) (dOp rdIx ta tb):=⟨have ha:=ha.out;have hb:=hb.out;xn qk qI ha hb hs⟩
def dUn(r:D->(D->Prop)->Prop)(ta:TD):TD:=λz R=>ta z λx=>r x R
def qJ:D->(D->Prop)->Prop:=λx R=>match x with| .int i=>R (.int (-i))|_=>False
theorem cu[Jx](ha:WDE X a ta):WDE X (.UnaryOp .USub a pos) (dUn qJ ta):=⟨have ha:=ha.out;(vA vG ha).anti λs H Q h=>by
 obtain⟨B,F,z,kf,rs,R,h1,h2⟩:=h
 have fh:=kf.fh
 refine⟨B,F,z,kf,rs,_,h1,λx u F1 H1 g1 hx rx=>?_⟩
 unfold qJ at hx
 split at hx
 ·exact⟨_,rep_int.mp rx,h2 _ _ F1 H1 g1 hx (rep_int.mpr rfl)⟩
 ·exact hx.elim⟩
def dNil:TDA:=λ_ R=>R []
def xE(ta:TD)(tr:TDA):TDA:=λz R=>ta z λx=>tr z λxs=>R (x::xs)
theorem af[Jx]:WDA X [] dNil:=⟨pa_nil.anti λs H Q h=>by
 obtain⟨B,F,z,kf,rs,R,h1,h2⟩:=h
 have fh:=kf.fh
 exact h2 [] [] F H (Grow.refl fh) h1 (reps_nil.mpr rfl)⟩
theorem ac[Jx]{e:Expr}{es:List Expr}{te:TD}{t:TDA}(ha:WDE X e te)(hr:WDA X es t)(hs:zSE X e es:=by rfl):WDA X (e::es) (xE te t):=⟨have ha:=ha.out;have hr:=hr.out;(bv ha hr hs).anti λs H Q h=>by
 obtain⟨B,F,z,kf,rs,R,h1,h2⟩:=h
 have fh:=kf.fh
 refine⟨B,F,z,kf,rs,_,h1,λx u F1 H1 g1 hx rx=>?_⟩
 refine⟨B,F1,z,kf.grow g1,rs.grow g1,_,hx,λxs us F2 H2 g2 hy ry=>?_⟩
 exact h2 _ _ F2 H2 (g1.trans g2) hy (reps_cons.mpr ⟨_,_,rfl,rx.mono g2.ff,ry⟩)⟩
def dTup(t:TDA):TD:=λz R=>t z λxs=>xs.length<=1000/\R (.tup xs)
def dLst(t:TDA):TD:=λz R=>t z λxs=>xs.length<=1000/\R (.lst xs)
theorem aG[Jx]{es:List Expr}{t:TDA}{x1}(h:WDA X es t):WDE X (.Tuple es x1 pos) (dTup t):=⟨have h:=h.out;(pW h).anti λs H Q q=>by
 obtain⟨B,F,z,kf,rs,R,h1,h2⟩:=q
 have fh:=kf.fh
 refine⟨B,F,z,kf,rs,_,h1,λds vs F1 H1 g1 hx rx=>?_⟩
 have hl:=rx.length
 refine⟨sz (by rw[hl];exact hx.1),λp hp=>?_⟩
 exact h2 _ _ _ _ (g1.trans (Grow.new g1.fh hp _)) hx.2 (rep_tupS.mpr ⟨p,vs,rfl,aA,rx.mono (aS (g1.fh.free hp) _)⟩)⟩
theorem bj[Jx]{es:List Expr}{t:TDA}(h:WDA X es t):WDE X (.List es pos) (dLst t):=⟨have h:=h.out;(jt h).anti λs H Q q=>by
 obtain⟨B,F,z,kf,rs,R,h1,h2⟩:=q
 have fh:=kf.fh
 refine⟨B,F,z,kf,rs,_,h1,λds vs F1 H1 g1 hx rx=>?_⟩
 have hl:=rx.length
 refine⟨sz (by rw[hl];exact hx.1),λp hp=>?_⟩
 exact h2 _ _ _ _ (g1.trans (Grow.new g1.fh hp _)) hx.2 (rep_lst.mpr ⟨p,vs,rfl,aA,rx.mono (aS (g1.fh.free hp) _)⟩)⟩
abbrev SpD:=List D->(D->Prop)->Prop
def lSp(K:Ex)(S:SpD):Sp:=λvs H Q _=>∃ F ds,Same F H/\Reps K F ds vs/\∃ R:D->Prop,S ds R/\∀ d v F' H',Grow F H F' H'->R d->Rep K F' d v->Q v H'
def xF(S:SpD)(t:TDA):TD:=λz R=>t z λds=>S ds R
abbrev CalD(P:Program)(w:World)(K:Ex)(mg:Str->Option Value)(base:Heap)(n:Nat)(x:Str)(ps:List Str)(S:SpD):Prop:=Cal P w K mg base n x ps (lSp K S)
theorem ar[Jx]{n m:Nat}{ps:List Str}{S:SpD}{x:Str}{p:Pos}{e:Expr}{es:List Expr}{t:TDA}(C:CalD X.prog X.w X.K X.mg X.base n x ps S)(hr:Room m X.A)(ha:WDA X (e::es) t)(hg:Gl X x:=by rfl)(hn:n<=m:=by decide)(d7:zND x:=by decide)
  (he:zSE X e es:=by rfl) (b9:zPL X pos es:=by rfl):WDE X (.Call (.Name x p) (e::es) [] pos) (xF S t):=⟨have ha:=ha.out;(xm C hr ha hg hn d7 he b9).anti λs H Q h=>by
 obtain⟨B,F,z,kf,rs,R,h1,h2⟩:=h
 have fh:=kf.fh
 refine⟨B,F,z,kf,rs,_,h1,λds vs F1 H1 g1 hx rx=>?_⟩
 exact⟨F1,ds,g1.fh,by rw[Fx];exact rx,R,hx,λd v F' H' g=>h2 d v F' H' (g1.trans g)⟩⟩
abbrev RDn:=List D->(D->Prop)->Prop
def ci(K:Ex)(r:List V->Hp->VK->Prop)(rd:RDn):Prop:=∀ ds vs F H R Q,Same F H->rd ds R->Reps K F ds vs->(∀ d w F' H',Grow F H F' H'->R d->Rep K F' d w->Q w H')->r vs H Q
def dCB(r:RDn)(t:TDA):TD:=λz R=>t z λds=>r ds R
theorem gv[Jx]{x:Str}{p:Pos}{e:Expr}{es:List Expr}{t:TDA}{id:String}{r:List V->Hp->VK->Prop}{rd:RDn}(hc:bA X (.builtin id) r)(L:ci X.K r rd)(hm:X.mg x=none)(hv:bootBuiltins x=some (.builtin id))(ha:DA X (e::es) t)(hg:Gl X x:=by rfl)(hn:x≠"__name__":=by decide)(d7:zND x:=by decide)
  (he:zSE X e es:=by rfl) (b9:zPL X pos es:=by rfl):DE X (.Call (.Name x p) (e::es) [] pos) (dCB rd t):=(gj hc hg hm hv ha hn d7 he b9).anti λs H Q h=>by
 obtain⟨B,F,z,kf,rs,R,h1,h2⟩:=h
 have fh:=kf.fh
 refine⟨B,F,z,kf,rs,_,h1,λds vs F1 H1 g1 hx rx=>?_⟩
 exact L ds vs F1 H1 R Q g1.fh hx rx λd w F' H' g=>h2 d w F' H' (g1.trans g)
def rdLen:RDn:=λds R=>match ds with
 |[.tup xs]=>R (.int xs.length)
 |[.lst xs]=>R (.int xs.length)
 |[.rol xs]=>R (.int xs.length)
 |[.str x]=>x.length<=1000000/\R (.int x.length)
 |_=>False
theorem qK{K:Ex}:ci K (λxs H Q=>∃ x n,xs=[x]/\LenV K x H n/\Q (.int n) H) rdLen:=by
 intro ds vs F H R Q fh h rx q
 unfold rdLen at h
 split at h
 ·obtain⟨v,r,rfl,h1,h2⟩:=reps_cons.mp rx
  rw[reps_nil.mp h2]
  obtain⟨a,us,rfl,hq,rs⟩:=rep_tup_mp h1
  exact⟨.ref a,us.length,rfl,.inr ⟨us,fh.tup hq,rfl⟩,q _ _ F H (Grow.refl fh) h (rep_int.mpr (by rw[rs.length]))⟩
 ·obtain⟨v,r,rfl,h1,h2⟩:=reps_cons.mp rx
  rw[reps_nil.mp h2]
  obtain⟨a,us,rfl,hq,rs⟩:=rep_lst.mp h1
  exact⟨.ref a,us.length,rfl,.inl ⟨us,fh.seq (SqL.of hq),rfl⟩,q _ _ F H (Grow.refl fh) h (rep_int.mpr (by rw[rs.length]))⟩
 ·obtain⟨v,r,rfl,h1,h2⟩:=reps_cons.mp rx
  rw[reps_nil.mp h2]
  obtain⟨a,us,rfl,hq,rs⟩:=rep_rol.mp h1
  exact⟨.ref a,us.length,rfl,.inl ⟨us,fh.seq hq,rfl⟩,q _ _ F H (Grow.refl fh) h (rep_int.mpr (by rw[rs.length]))⟩
 ·obtain⟨v,r,rfl,h1,h2⟩:=reps_cons.mp rx
  rw[reps_nil.mp h2,rep_str.mp h1]
  exact⟨.str _,_,rfl,⟨E1 h.1 (by decide),rfl⟩,q _ _ F H (Grow.refl fh) h.2 (rep_int.mpr rfl)⟩
 ·exact h.elim
theorem cj[Jx]{p:Pos}{e:Expr}{t:TDA}(hm:X.mg "len"=none)(ha:WDA X [e] t)(hg:Gl X "len":=by rfl)(he:zSE X e []:=by rfl):WDE X (.Call (.Name "len" p) [e] [] pos) (dCB rdLen t):=⟨have ha:=ha.out;gv jr qK hm PySem.boot_len ha hg (by decide) (by decide) he⟩
def rdAbs:RDn:=λds R=>match ds with
 |[.int i]=>R (.int (if i<0 then -i else i))
 |_=>False
theorem xG{K:Ex}:ci K (λxs H Q=>∃ i,xs=[.int i]/\Q (.int (if i<0 then -i else i)) H) rdAbs:=by
 intro ds vs F H R Q fh h rx q
 unfold rdAbs at h
 split at h
 ·obtain⟨v,r,rfl,h1,h2⟩:=reps_cons.mp rx
  rw[reps_nil.mp h2,rep_int.mp h1]
  exact⟨_,rfl,q _ _ F H (Grow.refl fh) h (rep_int.mpr rfl)⟩
 ·exact h.elim
theorem eg[Jx]{p:Pos}{e:Expr}{t:TDA}(hm:X.mg "abs"=none)(ha:WDA X [e] t)(hg:Gl X "abs":=by rfl)(he:zSE X e []:=by rfl):WDE X (.Call (.Name "abs" p) [e] [] pos) (dCB rdAbs t):=⟨have ha:=ha.out;gv vS xG hm PyProof.Rows.boot_abs ha hg (by decide) (by decide) he⟩
end
section
variable {X:Cx}{a b c e:Expr}{ta tb tc te:TD}{pos:Pos}
def dTst(t:TD):TDT:=λz R=>t z λx=>match x with| .bl k=>R k|_=>False
theorem cK[Jx]{op:CmpOp}{r:R2}{rd:RD2}(ho:OpR X (compareOp op) r)(L:aY X.K r rd)(ha:DE X a ta)(hb:DE X b tb)(hm:behindInMarks op b=false):DT X (.Compare a [op] [b] pos) (dTst (dOp rd ta tb)):=(pQ ho ha hb hm).anti λs H Q q=>by
 obtain⟨B,F,z,kf,rs,R,h1,h2⟩:=q
 have fh:=kf.fh
 refine⟨B,F,z,kf,rs,_,h1,λx u F1 H1 g1 hx rx=>?_⟩
 refine⟨B,F1,z,kf.grow g1,rs.grow g1,_,hx,λy v F2 H2 g2 hy ry=>?_⟩
 refine L x y u v F2 H2 _ _ g2.fh hy (rx.mono g2.ff) ry λd w F' H' g3 hd rd=>?_
 split at hd
 ·exact⟨_,rep_bl.mp rd,h2 _ F' H' (g1.trans (g2.trans g3)) hd⟩
 ·exact hd.elim
theorem fB[Jx](ha:WDE X a ta)(hb:WDE X b tb):WDT X (.Compare a [.Lt] [b] pos) (dTst (dOp rdLt ta tb)):=⟨have ha:=ha.out;have hb:=hb.out;cK pP qF ha hb (nomark _)⟩
theorem xH[Jx](ha:WDE X a ta)(hb:WDE X b tb):WDT X (.Compare a [.LtE] [b] pos) (dTst (dOp rdLe ta tb)):=⟨have ha:=ha.out;have hb:=hb.out;cK vI xy ha hb (nomark _)⟩
theorem jE[Jx](ha:WDE X a ta)(hb:WDE X b tb):WDT X (.Compare a [.Gt] [b] pos) (dTst (dOp rdGt ta tb)):=⟨have ha:=ha.out;have hb:=hb.out;cK vJ xz ha hb (nomark _)⟩
theorem qL[Jx](ha:WDE X a ta)(hb:WDE X b tb):WDT X (.Compare a [.GtE] [b] pos) (dTst (dOp rdGe ta tb)):=⟨have ha:=ha.out;have hb:=hb.out;cK vK xA ha hb (nomark _)⟩
theorem bq[Jx](ha:WDE X a ta)(hb:WDE X b tb):WDT X (.Compare a [.Eq] [b] pos) (dTst (dOp rdEq ta tb)):=⟨have ha:=ha.out;have hb:=hb.out;cK jp jC ha hb (nomark _)⟩
theorem bZ[Jx](ha:WDE X a ta)(hb:WDE X b tb):WDT X (.Compare a [.NotEq] [b] pos) (dTst (dOp rdNe ta tb)):=⟨have ha:=ha.out;have hb:=hb.out;cK vH xB ha hb (nomark _)⟩
theorem qM[Jx](ha:WDE X a ta)(hb:WDE X b tb):WDT X (.Compare a [.Is] [b] pos) (dTst (dOp (rdIs id) ta tb)):=⟨have ha:=ha.out;have hb:=hb.out;cK jq jD ha hb (nomark _)⟩
theorem xI[Jx](ha:WDE X a ta)(hb:WDE X b tb):WDT X (.Compare a [.IsNot] [b] pos) (dTst (dOp (rdIs not) ta tb)):=⟨have ha:=ha.out;have hb:=hb.out;cK vL xC ha hb (nomark _)⟩
def dTru(t:TD):TDT:=λz R=>t z λx=>match x with
 | .non=>R false
 | .bl k=>R k
 | .int i=>R (i !=0)
 | .str y=>y.length<=1000/\R ((y.length:Int) !=0)
 | .tup xs=>R (!xs.isEmpty)
 | .lst xs=>R (!xs.isEmpty)
 | .rol xs=>R (!xs.isEmpty)
 |_=>False
theorem Reps.isEmpty{K:Ex}{H:Hp}{ds:List D}{vs:List V}(r:Reps K H ds vs):vs.isEmpty=ds.isEmpty:=by
 cases ds with
 |nil=>rw[reps_nil.mp r];rfl
 |cons d ds=>obtain⟨v,r',rfl,_⟩:=reps_cons.mp r;rfl
theorem bH[Jx](ha:WDE X a ta)(he:∀ g6,isTrue a X.env g6=(do let v <- g6;standAt a.pos;holding [v] (truthy v)):=by exact λ_=>rfl):WDT X a (dTru ta):=⟨have ha:=ha.out;(vQ ha he).anti λs H Q q=>by
 obtain⟨B,F,z,kf,rs,R,h1,h2⟩:=q
 have fh:=kf.fh
 refine⟨B,F,z,kf,rs,_,h1,λx u F1 H1 g1 hx rx=>?_⟩
 split at hx
 ·rw[rep_non.mp rx];exact⟨false,rfl,h2 _ F1 H1 g1 hx⟩
 ·rw[rep_bl.mp rx];exact⟨_,rfl,h2 _ F1 H1 g1 hx⟩
 ·rw[rep_int.mp rx];exact⟨_,rfl,h2 _ F1 H1 g1 hx⟩
 ·rw[rep_str.mp rx];exact⟨_,⟨sz hx.1,rfl⟩,h2 _ F1 H1 g1 hx.2⟩
 ·obtain⟨p,vs,rfl,hq,rr⟩:=rep_tup_mp rx
  exact⟨_,.inr (.inl ⟨vs,g1.fh.tup hq,by rw[rr.isEmpty]⟩),h2 _ F1 H1 g1 hx⟩
 ·obtain⟨p,vs,rfl,hq,rr⟩:=rep_lst.mp rx
  exact⟨_,.inl ⟨vs,g1.fh.seq (SqL.of hq),by rw[rr.isEmpty]⟩,h2 _ F1 H1 g1 hx⟩
 ·obtain⟨p,vs,rfl,hq,rr⟩:=rep_rol.mp rx
  exact⟨_,.inl ⟨vs,g1.fh.seq hq,by rw[rr.isEmpty]⟩,h2 _ F1 H1 g1 hx⟩
 ·exact hx.elim⟩
variable {tA x8:TDT}{rest:List Expr}
def dAnd(t u:TDT):TDT:=λz R=>t z λc=>if c=true then u z R else R false
def dOr(t u:TDT):TDT:=λz R=>t z λc=>if c=true then R true else u z R
def dNot(t:TDT):TDT:=λz R=>t z λc=>R (!c)
theorem qN[Jx](ha:WDT X a tA):WDW X (.BoolOp .And [a] pos) tA:=⟨have ha:=ha.out;pj ha⟩
theorem eo[Jx](ha:WDT X a tA):WDW X (.BoolOp .Or [a] pos) tA:=⟨have ha:=ha.out;pk ha⟩
theorem qO[Jx](ha:WDT X a tA)(hb:WDW X (.BoolOp .And (b::rest) pos) x8):WDW X (.BoolOp .And (a::b::rest) pos) (dAnd tA x8):=⟨have ha:=ha.out;have hb:=hb.out;(pp ha hb).anti λs H Q q=>by
 obtain⟨B,F,z,kf,rs,R,h1,h2⟩:=q
 have fh:=kf.fh
 refine⟨B,F,z,kf,rs,_,h1,λk F1 H1 g1 hx=>?_⟩
 cases k with
 |true=>exact⟨B,F1,z,kf.grow g1,rs.grow g1,R,hx,λb F' H' g=>h2 b F' H' (g1.trans g)⟩
 |false=>exact h2 _ F1 H1 g1 hx⟩
theorem dA[Jx](ha:WDT X a tA)(hb:WDW X (.BoolOp .Or (b::rest) pos) x8):WDW X (.BoolOp .Or (a::b::rest) pos) (dOr tA x8):=⟨have ha:=ha.out;have hb:=hb.out;(pq ha hb).anti λs H Q q=>by
 obtain⟨B,F,z,kf,rs,R,h1,h2⟩:=q
 have fh:=kf.fh
 refine⟨B,F,z,kf,rs,_,h1,λk F1 H1 g1 hx=>?_⟩
 cases k with
 |false=>exact⟨B,F1,z,kf.grow g1,rs.grow g1,R,hx,λb F' H' g=>h2 b F' H' (g1.trans g)⟩
 |true=>exact h2 _ F1 H1 g1 hx⟩
theorem cS[Jx](h:WDW X a tA):WDT X a tA:=⟨have h:=h.out;PW.pt h⟩
theorem cC[Jx](ha:WDT X a tA):WDT X (.UnaryOp .Not a pos) (dNot tA):=⟨have ha:=ha.out;(vd ha).anti λs H Q q=>by
 obtain⟨B,F,z,kf,rs,R,h1,h2⟩:=q
 have fh:=kf.fh
 exact⟨B,F,z,kf,rs,_,h1,λk F1 H1 g1 hx=>h2 _ F1 H1 g1 hx⟩⟩
def xJ(ta tb:TD):TD:=λz R=>ta z λx=>match x with| .bl k=>if k=true then tb z R else R (.bl false)|_=>False
def xK(ta:TD):TD:=λz R=>ta z λx=>match x with| .bl k=>R (.bl (!k))|_=>False
theorem eA[Jx]{op}(h:WDE X a ta):WDE X (.BoolOp op [a] pos) ta:=⟨have h:=h.out;vg h⟩
theorem dB[Jx](ha:WDE X a ta)(hb:WDE X (.BoolOp .And (b::rest) pos) tb):WDE X (.BoolOp .And (a::b::rest) pos) (xJ ta tb):=⟨have ha:=ha.out;have hb:=hb.out;(vh ha hb).anti λs H Q q=>by
 obtain⟨B,F,z,kf,rs,R,h1,h2⟩:=q
 have fh:=kf.fh
 refine⟨B,F,z,kf,rs,_,h1,λx u F1 H1 g1 hx rx=>?_⟩
 split at hx
 ·rename_i k
  refine⟨k,rep_bl.mp rx,?_⟩
  cases k with
  |true=>exact⟨B,F1,z,kf.grow g1,rs.grow g1,R,hx,λd v F' H' g=>h2 d v F' H' (g1.trans g)⟩
  |false=>exact h2 _ _ F1 H1 g1 hx (rep_bl.mpr rfl)
 ·exact hx.elim⟩
theorem xL[Jx](ha:WDE X a ta):WDE X (.UnaryOp .Not a pos) (xK ta):=⟨have ha:=ha.out;(vi ha).anti λs H Q q=>by
 obtain⟨B,F,z,kf,rs,R,h1,h2⟩:=q
 have fh:=kf.fh
 refine⟨B,F,z,kf,rs,_,h1,λx u F1 H1 g1 hx rx=>?_⟩
 split at hx
 ·exact⟨_,rep_bl.mp rx,h2 _ _ F1 H1 g1 hx (rep_bl.mpr rfl)⟩
 ·exact hx.elim⟩
def tyD:D->String
 | .non=>"NoneType"| .bl _=>"bool"| .int _=>"int"| .str _=>"str"| .tup _=>"tuple"| .lst _=>"list"| .rol _=>"list"| .obj _ _=>"object"| .exc _ _=>"object"| .own _=>"list"| .ptr _=>"object"| .dti _=>"dict"
def dD(t:String)(x:D):Bool:=tyD x==t||(tyD x=="bool" && t=="int")
def TyQ(K:Ex)(H:Hp)(x:V)(t:String):Prop:=TyOf K H x (.type t)\/(t="tuple"/\∃ a xs,x= .ref a/\SqT K H a xs)\/(t="list"/\∃ a xs,x= .ref a/\SqL K H a xs)
theorem xM:bA X (.builtin "isinstance") (λxs H Q=>∃ x t c k,xs=[x,.ty c]/\TyQ X.K H x t/\kitOne X.K (.type t) (.type c)=some k/\Q (.bl k) H):=by
 intro pins s σ H xs us Q I r h
 obtain⟨x,t,c,k,rfl,ty,e,q⟩:=h
 obtain⟨u,u',rfl,rx,rc⟩:=gc r
 cases(show u'=Value.type c from rc)
 rcases ty with ty|⟨rfl,a,ys,rfl,hq⟩|⟨rfl,a,ys,rfl,hq⟩
 ·exact wj I rx ty e λtk=>⟨.bl k,H,I.tok _,rfl,q⟩
 ·cases(show u=Value.ref a from rx)
  obtain⟨its,_,⟨o,h1,h2,_⟩,_⟩:=I.tuple hq
  exact kia_one kitx_tuple I.kIn ⟨o,h1,h2⟩ e (λz=>nomatch z) λtk=>⟨.bl k,H,I.tok _,rfl,q⟩
 ·cases(show u=Value.ref a from rx)
  obtain⟨its,_,pl,_⟩:=I.list hq
  obtain⟨o,n,h1,h2,_⟩:=pl
  exact kia_one kitx_list I.kIn ⟨o,h1,h2⟩ e (λz=>nomatch z) λtk=>⟨.bl k,H,I.tok _,rfl,q⟩
def dE:D->Bool| .obj _ _=>false| .exc _ _=>false| .ptr _=>false| .dti _=>false|_=>true
theorem xN{K:Ex}{F H:Hp}{x:D}{u:V}(fh:Same F H)(r:Rep K F x u)(no:dE x=true):TyQ K H u (tyD x):=by
 cases x with
 |non=>rw[rep_non.mp r];exact .inl .non
 |bl b=>rw[rep_bl.mp r];exact .inl (.bl b)
 |int b=>rw[rep_int.mp r];exact .inl (.int b)
 |str b=>rw[rep_str.mp r];exact .inl (.str b)
 |tup b=>obtain⟨a,vs,rfl,hq,_⟩:=rep_tup_mp r;exact .inr (.inl ⟨rfl,a,vs,rfl,fh.tup hq⟩)
 |lst b=>obtain⟨a,vs,rfl,hq,_⟩:=rep_lst.mp r;exact .inr (.inr ⟨rfl,a,vs,rfl,fh.seq (SqL.of hq)⟩)
 |rol b=>obtain⟨a,vs,rfl,hq,_⟩:=rep_rol.mp r;exact .inr (.inr ⟨rfl,a,vs,rfl,fh.seq hq⟩)
 |obj C b=>cases no
 |exc C b=>cases no
 |ptr b=>cases no
 |dti b=>cases no
 |own b=>exact absurd r rep_own
def xO(t:String):D->(D->Prop)->Prop:=λx R=>match x with| .obj _ _=>False| .exc _ _=>False| .ptr _=>False| .dti _=>False|x=>R (.bl (dD t x))
theorem dF[Jx]{p p2:Pos}{y:Str}{t:String}(hm:X.mg "isinstance"=none)(OS:X.mg y=none)(ha:WDE X a ta)(hv:bootBuiltins y=some (.type t))
  (hk:∀ x:D,dE x=true->kitOne X.K (.type (tyD x)) (.type t)=some (dD t x)) (hg:Gl X "isinstance":=by rfl) (OT:Gl X y:=by rfl) (hn:y≠"__name__":=by decide) (d7:zND y:=by decide)
  (n5:starEach [a,.Name y p2] X.env=(false,eval a X.env)::starEach [.Name y p2] X.env:=by rfl) (m4:starEach [.Name y p2] X.env=(false,eval (.Name y p2) X.env)::starEach [] X.env:=by rfl) (b9:(backTo pos (starEach [.Name y p2] X.env)).any (·.1)=false:=by rfl):WDE X (.Call (.Name "isinstance" p) [a,.Name y p2] [] pos) (dUn (xO t) ta):=⟨have ha:=ha.out;(gj xM hg hm PyProof.Rows.boot_isinstance (bv ha (bv (vc (v:= .ty t) OT OS hv rfl hn d7) pa_nil m4) n5) (by decide) (by decide) n5 b9).anti λs H Q q=>by
 obtain⟨B,F,z,kf,rs,R,h1,h2⟩:=q
 have fh:=kf.fh
 refine⟨B,F,z,kf,rs,_,h1,λx u F1 H1 g1 hx rx=>?_⟩
 have no:dE x=true:=by
  cases x with
  |obj C b=>exact False.elim hx
  |exc C b=>exact False.elim hx
  |ptr b=>exact False.elim hx
  |dti b=>exact False.elim hx
  |_=>rfl
 have gt:R (.bl (dD t x)):=by
  cases x with
  |obj C b=>exact False.elim hx
  |exc C b=>exact False.elim hx
  |ptr b=>exact False.elim hx
  |dti b=>exact False.elim hx
  |_=>exact hx
 exact⟨u,tyD x,t,_,rfl,xN g1.fh rx no,hk x no,h2 _ _ F1 H1 g1 gt (rep_bl.mpr rfl)⟩⟩
theorem xP{K:Ex}:∀ x:D,dE x=true->kitOne K (.type (tyD x)) (.type "int")=some (dD "int" x):=by intro x no;cases x<;>first|rfl|cases no
theorem kit_bool{K:Ex}:∀ x:D,dE x=true->kitOne K (.type (tyD x)) (.type "bool")=some (dD "bool" x):=by intro x no;cases x<;>first|rfl|cases no
theorem kit_tuple{K:Ex}:∀ x:D,dE x=true->kitOne K (.type (tyD x)) (.type "tuple")=some (dD "tuple" x):=by intro x no;cases x<;>first|rfl|cases no
theorem kit_str{K:Ex}:∀ x:D,dE x=true->kitOne K (.type (tyD x)) (.type "str")=some (dD "str" x):=by intro x no;cases x<;>first|rfl|cases no
def toV:D->Option V
 | .non=>some .non| .bl b=>some (.bl b)| .int i=>some (.int i)| .str x=>some (.str x)|_=>none
def bo(d:D):Bool:=(toV d).isSome
def eqF:D->D->Bool
 | .non,.non=>true
 | .bl a,.bl b=>a==b
 | .bl a,.int b=>(if a then 1 else 0)==b
 | .int a,.bl b=>a==(if b then 1 else 0)
 | .int a,.int b=>a==b
 | .str a,.str b=>a==b
 |_,_=>false
def eqFs:List D->List D->Bool
 |[],[]=>true
 |x::xs,y::ys=>eqF x y && eqFs xs ys
 |_,_=>false
end
section
variable {X:Cx}{a b:Expr}{ta tb:TD}{pos:Pos}
def eqVs:List V->List V->Bool
 |[],[]=>true
 |x::xs,y::ys=>eqV x y && eqVs xs ys
 |_,_=>false
theorem fC:∀ (xs ys:List V),((EN (min xs.length ys.length)).all (λj=>eqV (xs.getD j .non) (ys.getD j .non)) && xs.length==ys.length)=eqVs xs ys
 |[],[]=>rfl
 |[],_::_=>by simp[eqVs]
 |_::_,[]=>by simp[eqVs]
 |x::xs,y::ys=>by
  have ih:=fC xs ys
  rw[eqVs,<- ih]
  have e:min (x::xs).length (y::ys).length=min xs.length ys.length+1:=by simp only[EQ];lia
  rw[e,Hs,FC,GU]
  have e2:((x::xs).length==(y::ys).length)=(xs.length==ys.length):=by simp
  rw[e2,Bool.and_assoc]
  rfl
theorem Vals.getD{xs:List V}{us:List Value}{j:Nat}(r:Vals xs us)(h:j<us.length):RelV (xs.getD j .non) us[j]:=by
 have hl:=L2.Vals.length r
 obtain⟨u,q1,q2⟩:=L2.Vals.get (i:=j) (x:=xs.getD j .non) r (by rw[Fc (by lia)];simp[Fy,Fc (show j<xs.length by lia)])
 rw[Fc h] at q1
 cases q1
 exact q2
theorem flat_getD{xs:List V}{j:Nat}(h:xs.all bp=true):bp (xs.getD j .non)=true:=by
 by_cases hj:j<xs.length
 ·have q:=FK.mp h xs[j] (Fs hj)
  simpa[Fy,Fc hj] using q
 ·simp[Fy,FD (Ge hj),bp]
def rEqT(K:Ex):R2:=λx y H Q=>∃ a b xs ys,x= .ref a/\y= .ref b/\SqT K H a xs/\SqT K H b ys/\xs.all bp=true/\ys.all bp=true/\Q (.bl (eqVs xs ys)) H
theorem xQ(hu:X.A.units+1<cLine):OpR X (compareOp .Eq) (rEqT X.K):=by
 intro pins s σ H x y v u Q I rx ry h
 obtain⟨a,b,xs,ys,rfl,rfl,ha,hb,fx,fy,q⟩:=h
 cases rx
 cases ry
 obtain⟨its,r1,p1,_⟩:=I.tuple ha
 obtain⟨d8,r2,p2,_⟩:=I.tuple hb
 refine SeqAt.eq_tupleAt (e:=λj=>eqV (xs.getD j .non) (ys.getD j .non)) p1 p2 (by lia) (λj h1 h2=>?_) ⟨.bl (eqVs xs ys),H,I,?_,q⟩
 ·rw[ER] at h1 h2
  simp only[Gi]
  exact eqAt_V (Vals.getD r1 h1) (Vals.getD r2 h2) (flat_getD fx) (flat_getD fy)
 ·rw[<- fC,ER,ER,<- L2.Vals.length r1,<- L2.Vals.length r2]
  rfl
theorem jF{K:Ex}{H:Hp}{x y:D}{u v:V}(rx:Rep K H x u)(ry:Rep K H y v)(fx:bo x=true)(fy:bo y=true):eqV u v=eqF x y:=by
 cases x with
 |tup _=>cases fx
 |lst _=>cases fx
 |rol _=>cases fx
 |obj _ _=>cases fx
 |exc _ _=>cases fx
 |ptr _=>cases fx
 |dti _=>cases fx
 |own _=>cases fx
 |non=>rw[rep_non.mp rx];cases y with
  |tup _=>cases fy
  |lst _=>cases fy
  |rol _=>cases fy
  |obj _ _=>cases fy
  |exc _ _=>cases fy
  |ptr _=>cases fy
  |dti _=>cases fy
  |own _=>cases fy
  |non=>rw[rep_non.mp ry];rfl
  |bl _=>rw[rep_bl.mp ry];rfl
  |int _=>rw[rep_int.mp ry];rfl
  |str _=>rw[rep_str.mp ry];rfl
 |bl _=>rw[rep_bl.mp rx];cases y with
  |tup _=>cases fy
  |lst _=>cases fy
  |rol _=>cases fy
  |obj _ _=>cases fy
  |exc _ _=>cases fy
  |ptr _=>cases fy
  |dti _=>cases fy
  |own _=>cases fy
  |non=>rw[rep_non.mp ry];rfl
  |bl _=>rw[rep_bl.mp ry];rfl
  |int _=>rw[rep_int.mp ry];rfl
  |str _=>rw[rep_str.mp ry];rfl
 |int _=>rw[rep_int.mp rx];cases y with
  |tup _=>cases fy
  |lst _=>cases fy
  |rol _=>cases fy
  |obj _ _=>cases fy
  |exc _ _=>cases fy
  |ptr _=>cases fy
  |dti _=>cases fy
  |own _=>cases fy
  |non=>rw[rep_non.mp ry];rfl
  |bl _=>rw[rep_bl.mp ry];rfl
  |int _=>rw[rep_int.mp ry];rfl
  |str _=>rw[rep_str.mp ry];rfl
 |str _=>rw[rep_str.mp rx];cases y with
  |tup _=>cases fy
  |lst _=>cases fy
  |rol _=>cases fy
  |obj _ _=>cases fy
  |exc _ _=>cases fy
  |ptr _=>cases fy
  |dti _=>cases fy
  |own _=>cases fy
  |non=>rw[rep_non.mp ry];rfl
  |bl _=>rw[rep_bl.mp ry];rfl
  |int _=>rw[rep_int.mp ry];rfl
  |str _=>rw[rep_str.mp ry];rfl
theorem eB{K:Ex}{H:Hp}{x:D}{u:V}(rx:Rep K H x u)(fx:bo x=true):bp u=true:=by
 cases x with
 |tup _=>cases fx
 |lst _=>cases fx
 |rol _=>cases fx
 |obj _ _=>cases fx
 |exc _ _=>cases fx
 |ptr _=>cases fx
 |dti _=>cases fx
 |own _=>cases fx
 |non=>rw[rep_non.mp rx];rfl
 |bl _=>rw[rep_bl.mp rx];rfl
 |int _=>rw[rep_int.mp rx];rfl
 |str _=>rw[rep_str.mp rx];rfl
theorem cD{K:Ex}{H:Hp}:∀ {xs:List D} {us:List V},Reps K H xs us->xs.all bo=true->us.all bp=true
 |[],us,r,_=>by rw[reps_nil.mp r];rfl
 |x::xs,us,r,f=>by
  obtain⟨v,vr,rfl,r1,r2⟩:=reps_cons.mp r
  rw[FC,Fg] at f ⊢
  exact⟨eB r1 f.1,cD r2 f.2⟩
theorem gw{K:Ex}{H:Hp}:∀ {xs ys:List D} {us vs:List V},Reps K H xs us->Reps K H ys vs->xs.all bo=true->ys.all bo=true->eqVs us vs=eqFs xs ys
 |[],[],us,vs,r1,r2,_,_=>by rw[reps_nil.mp r1,reps_nil.mp r2];rfl
 |[],y::ys,us,vs,r1,r2,_,_=>by
  obtain⟨v,vr,rfl,_,_⟩:=reps_cons.mp r2
  rw[reps_nil.mp r1];rfl
 |x::xs,[],us,vs,r1,r2,_,_=>by
  obtain⟨v,vr,rfl,_,_⟩:=reps_cons.mp r1
  rw[reps_nil.mp r2];rfl
 |x::xs,y::ys,us,vs,r1,r2,f1,f2=>by
  obtain⟨u,ur,rfl,a1,a2⟩:=reps_cons.mp r1
  obtain⟨v,vr,rfl,b1,b2⟩:=reps_cons.mp r2
  rw[FC,Fg] at f1 f2
  rw[eqVs,eqFs,jF a1 b1 f1.1 f2.1,gw a2 b2 f1.2 f2.2]
def rdEqT:RD2:=λx y R=>match x,y with| .tup xs,.tup ys=>(xs.all bo=true/\ys.all bo=true)/\R (.bl (eqFs xs ys))|_,_=>False
theorem xR{K:Ex}:aY K (rEqT K) rdEqT:=by
 intro x y u v F H R Q fh h rx ry q
 unfold rdEqT at h
 split at h
 ·obtain⟨⟨f1,f2⟩,h⟩:=h
  obtain⟨a,us,rfl,hq,rr⟩:=rep_tup_mp rx
  obtain⟨b,vs,rfl,j8,j9⟩:=rep_tup_mp ry
  exact⟨a,b,us,vs,rfl,rfl,fh.tup hq,fh.tup j8,cD rr f1,cD j9 f2,q _ _ F H (Grow.refl fh) h (rep_bl.mpr (by rw[gw rr j9 f1 f2]))⟩
 ·exact h.elim
theorem xS[Jx](hu:X.A.units+1<cLine)(ha:WDE X a ta)(hb:WDE X b tb):WDT X (.Compare a [.Eq] [b] pos) (dTst (dOp rdEqT ta tb)):=⟨have ha:=ha.out;have hb:=hb.out;cK (xQ hu) xR ha hb (nomark _)⟩
end
section
variable {X:Cx}{a b c e:Expr}{ta tb tc te:TD}{pos:Pos}{st:Stmt}{rest:List Stmt}{t u:TSD}
def xT:TSD:=λE z=>E.nx z
def dSeq(t u:TSD):TSD:=λE z=>t {E with nx:=u E} z
theorem aQ[Jx]:WDSs X [] xT:=⟨pss_nil.anti λE s H q=>by
 obtain⟨B,F0,F,z,k,rs,ED,h,e⟩:=q
 exact e.nx z s F H k h rs⟩
theorem ah[Jx](h1:WDS X st t)(h2:WDSs X rest u):WDSs X (st::rest) (dSeq t u):=⟨have h1:=h1.out;have h2:=h2.out;(fu h1 h2).anti λE s H q=>by
 obtain⟨B,F0,F,z,k,rs,ED,h,e⟩:=q
 exact⟨B,F0,F,z,k,rs,{ED with nx:=u ED},h,⟨λz' s' F' H' k' hz r'=>⟨B,F0,F',z',k',r',ED,hz,e⟩,e.rt,e.bk,e.ct⟩⟩⟩
theorem aj[Jx](h1:WDS X st t):WDSs X [st] t:=⟨have h1:=h1.out;pr h1⟩
def dFrz(i:Nat)(t:TSD):TSD:=λE z=>match z[i]? with|some (some (.own ds))=>t E (z.set i (some (.lst ds)))|_=>False
theorem fD[Jx](i:Nat){JU:List Stmt}(h:WDSs X JU t):WDSs X JU (dFrz i t):=⟨have h:=h.out;PSs.anti h λE s H q=>by
 obtain⟨B,F0,F,z,k,rs,ED,h,e⟩:=q
 unfold dFrz at h
 split at h
 ·rename_i ds ez
  obtain⟨F',k',r'⟩:=rs.freeze k ez
  exact⟨B,F0,F',_,k',r',ED,h,e⟩
 ·exact h.elim⟩
def dRet(te:TD):TSD:=λE z=>te z E.rt
theorem au[Jx](he:WDE X e te):WDS X (.Return (some e) pos) (dRet te):=⟨have he:=he.out;(pw he).anti λE s H q=>by
 obtain⟨B,F0,F,z,k,rs,ED,h,e⟩:=q
 exact⟨B,F,z,k.kf,rs,_,h,λd v F' H' g hd rd=>e.rt d v F' H' (k.grow g) hd rd⟩⟩
def dIfS(c:TDT)(t u:TSD):TSD:=λE z=>c z λb=>if b=true then t E z else u E z
theorem qP[Jx]{c:Expr}{l r:List Stmt}{tc:TDT}(hc:DT X c tc)(ha:DSs X l t)(hb:DSs X r u):DS X (.If c l r pos) (dIfS tc t u):=(pz hc ha hb).anti λE s H q=>by
 obtain⟨B,F0,F,z,k,rs,ED,h,e⟩:=q
 refine⟨B,F,z,k.kf,rs,_,h,λb F1 H1 g hk=>?_⟩
 cases b with
 |true=>exact⟨B,F0,F1,z,k.grow g,rs.grow g,ED,hk,e⟩
 |false=>exact⟨B,F0,F1,z,k.grow g,rs.grow g,ED,hk,e⟩
def dIfJ(c:TDT)(t u:TSD):TSD:=λE z=>∃ J:SD->Prop,(c z λb=>if b=true then t {E with nx:=J} z else u {E with nx:=J} z)/\∀ z',J z'->E.nx z'
theorem eE[Jx]{c:Expr}{l r:List Stmt}{tc:TDT}(hc:WDT X c tc)(ha:WDSs X l t)(hb:WDSs X r u):WDS X (.If c l r pos) (dIfJ tc t u):=⟨have hc:=hc.out;have ha:=ha.out;have hb:=hb.out;(qP hc ha hb).anti λE s H q=>by
 obtain⟨B,F0,F,z,k,rs,ED,⟨J,h,j⟩,e⟩:=q
 exact⟨B,F0,F,z,k,rs,{ED with nx:=J},h,⟨λz' s' F' H' k' hz r'=>e.nx z' s' F' H' k' (j z' hz) r',e.rt,e.bk,e.ct⟩⟩⟩
def dSet(i:Nat)(te:TD):TSD:=λE z=>∃ P:D->Prop,te z P/\∀ d,P d->E.nx (z.set i (some d))
theorem ai[Jx](i:Nat){x:Str}{c8:Pos}(hN:X.N.Nodup)(he:WDE X e te)(hi:X.N[i]?=some x:=by rfl)(hx:Loc X.env.scope x:=by first|exact Or.inl rfl|exact Or.inr rfl)(hs:swapsWith e (some (.Name x c8)) pos.line X.env=pure false:=by rfl)
  (hf:zFN X x:=by first|exact .inl rfl|exact .inr rfl|assumption):WDS X (.Assign [.Name x c8] e pos) (dSet i te):=⟨have he:=he.out;(jm hN hi hx he hs hf).anti λE s H q=>by
 obtain⟨B,F0,F,z,k,rs,ED,⟨P,h,j⟩,e⟩:=q
 exact⟨B,F,z,k.kf,rs,P,h,λd v F' H' g hd rd=>e.nx _ _ F' H' (k.grow g) (j d hd) ((rs.grow g).set rd)⟩⟩
def dNew(i:Nat)(ta:TDA):TSD:=λE z=>ta z λds=>ds.length<=1000/\E.nx (z.set i (some (.own ds)))
theorem gx[Jx](i:Nat){x:Str}{c8 p2:Pos}{es:List Expr}{ta:TDA}(hN:X.N.Nodup)(he:WDA X es ta)(hi:X.N[i]?=some x:=by rfl)(hx:Loc X.env.scope x:=by first|exact Or.inl rfl|exact Or.inr rfl)(hs:swapsWith (.List es p2) (some (.Name x c8)) pos.line X.env=pure false:=by rfl)
  (hf:zFN X x:=by first|exact .inl rfl|exact .inr rfl|assumption):WDS X (.Assign [.Name x c8] (.List es p2) pos) (dNew i ta):=⟨have he:=he.out;(jm hN hi hx (jt he) hs hf).anti λE s H q=>by
 obtain⟨B,F0,F,z,k,rs,ED,h,e⟩:=q
 refine⟨B,F,z,k.kf,rs,_,h,λds vs F1 H1 g hd rd=>?_⟩
 have hl:=rd.length
 refine⟨sz (by rw[hl];exact hd.1),λp hp=>?_⟩
 have k1:=k.grow g
 have r1:=rs.grow g
 have hB:B p=none:=k1.bh.free hp
 have hF:F1 p=none:=k1.fh.free hp
 refine e.nx _ _ F1 _ ⟨k1.bh.trans (aS hp _),k1.fh.trans (aS hp _),k1.f0,k1.out,k1.eb,k1.jf,k1.jo⟩ hd.2 (r1.setOwn hB hF rd λj dj hj e1 e2=>?_)
 obtain⟨a,us,q1,q2,_⟩:=r1.own j dj e1
 rw[e2] at q1
 cases q1
 rw[hp] at q2
 cases q2⟩
def dApp(i:Nat)(te:TD):TSD:=λE z=>match z[i]? with|some (some (.own ds))=>(te z λd=>ds.length<=100000/\E.nx (z.set i (some (.own (ds++[d])))))|_=>False
theorem eF{K:Ex}{F:Hp}{d:D}{v:V}(r:Rep K F d v):Reps K F [d] [v]:=reps_cons.mpr ⟨v,[],rfl,r,reps_nil.mpr rfl⟩
theorem fE[Jx](i:Nat){x:Str}{p1 apos cpos:Pos}(he:WDE X e te)(hN:X.N[i]?=some x:=by rfl)(hv:Vis X.env.scope x:=by first|exact Or.inl rfl|exact Or.inr (Or.inl rfl)|exact Or.inr (Or.inr rfl))(hd:zND x:=by decide)
  (g9:zNC x:=by decide) (n5:zSE X e []:=by rfl)
  (b8:attributeBase (.Name x p1) "append" X.env (eval (.Name x p1) X.env)=eval (.Name x p1) X.env:=by rfl)
  (d_:zHF X cpos [e]:=by rfl)
  (c5:(apos.endLine==cpos.line)=true:=by rfl) (z6:swapsWith (.Call (.Attribute (.Name x p1) "append" apos) [e] [] cpos) none pos.line X.env=pure false:=by rfl):WDS X (.Expr (.Call (.Attribute (.Name x p1) "append" apos) [e] [] cpos) pos) (dApp i te):=⟨have he:=he.out;(pv (dY PySem.F.plainAttrs_list PySem.F.slot_list_append PySem.F.type_list_append gk (fq hN hv hd g9) (bv he pa_nil n5) b8 d_ c5 n5) z6).anti λE s H q=>by
 obtain⟨B,F0,F,z,k,rs,ED,h,e⟩:=q
 unfold dApp at h
 split at h
 ·rename_i ds ez
  obtain⟨a,vs,q1,q2,q3,q4,q5⟩:=rs.own i ds ez
  refine⟨.ref a,q1,.inl ⟨rfl,vs,SqL.of q2⟩,?_⟩
  refine⟨B,F,z,k.kf,rs,_,h,λd v F1 H1 g hd rd=>?_⟩
  have k1:=k.grow g
  have r1:=rs.grow g
  have a1:H1 a=some (.lst vs):=g.hh a _ q2
  have f1:F1 a=none:=g.out a q4 (by rw[q2];exact λz=>nomatch z)
  have hl:vs.length=ds.length:=q5.length
  have hz:vs.length<sizeLine:=by
   have h1:ds.length<=100000:=hd.1
   have h2:(100000:Nat)<sizeLine:=by decide
   lia
  refine⟨a,vs,v,rfl,rfl,a1,hz,?_⟩
  have same:∀ {G:Hp},G a=none->Same G H1->Same G (upd H1 a (.lst (vs++[v]))):=λ{G} ga gs b o eb=>by
   have ne:b≠a:=λz=>by rw[z,ga] at eb;cases eb
   rw[aq ne];exact gs b o eb
  have r2:=r1.setOwn (i:=i) (a:=a) (vs:=vs++[v]) (ds:=ds++[d]) q3 f1 ((q5.mono g.ff).append (eF rd)) (λj dj hj e1 e2=>hj (rs.apart j i dj ds a e1 ez e2 q1))
  have es:s.set i (some (.ref a))=s:=by
   apply Gv
   intro n
   by_cases hn:i=n
   ·subst hn
    rw[FA (E7.mp q1).1,q1]
   ·rw[Fb hn]
  rw[es] at r2
  exact e.nx _ s F1 _ ⟨same q3 k1.bh,same f1 k1.fh,k1.f0,k1.out,k1.eb,k1.jf,k1.jo⟩ hd.2 r2
 ·exact h.elim⟩
def aV:List Nat->List D->SD->SD
 |i::is,d::ds,z=>aV is ds (z.set i (some d))
 |_,_,z=>z
def DGs(X:Cx)(ts:List Expr)(is:List Nat):Prop:=∃ u:TGs,PGs X ts u/\∀ (ds:List D) (vs:List V) (z:SD) (s:L2.St) (B F H:Hp) (Q:L2.St->Hp->Prop),ds.length=is.length->Reps X.K F ds vs->RepS X.K B F H z s->(∀ s',RepS X.K B F H (aV is ds z) s'->Q s' H)->u vs s H Q
theorem eI[Jx]:DGs X [] []:=⟨_,vo,λds vs z s B F H Q hl r rs q=>by
 cases ds with
 |nil=>exact⟨reps_nil.mp r,q s rs⟩
 |cons _ _=>cases hl⟩
theorem dg_cons[Jx](i:Nat){x:Str}{p:Pos}{es:List Expr}{is:List Nat}(hN:X.N.Nodup)(h2:DGs X es is)(hi:X.N[i]?=some x:=by rfl)(hx:Loc X.env.scope x:=by first|exact Or.inl rfl|exact Or.inr rfl)(hf:zFN X x:=by first|exact .inl rfl|exact .inr rfl|assumption)
  (hs:(assignEach (.Name x p::es) X.env).map (·.2)=assign (.Name x p) X.env::(assignEach es X.env).map (·.2):=by rfl):DGs X (.Name x p::es) (i::is):=by
 obtain⟨u,hu,k⟩:=h2
 refine⟨_,vp (fW hN hi hx hf) hu hs,λds vs z s B F H Q hl r rs q=>?_⟩
 cases ds with
 |nil=>cases hl
 |cons d ds=>
  obtain⟨v,vr,rfl,r1,r2⟩:=reps_cons.mp r
  exact⟨v,vr,rfl,k ds vr _ _ B F H Q (Nat.succ.inj hl) r2 (rs.set r1) q⟩
def xU(is:List Nat)(te:TD):TSD:=λE z=>te z λx=>match x with| .tup ds=>ds.length=is.length/\E.nx (aV is ds z)|_=>False
theorem qQ[Jx]{es:List Expr}{k:Nat}{is:List Nat}{p:Pos}(hc:X.calm=true)(he:WDE X e te)(hg:DGs X es is)(hn:(assignEach es X.env).length=is.length:=by rfl)(m6:(assignEach es X.env).findIdx? (·.1)=none:=by rfl)
  (hs:swapsWithSole [.Tuple es k p] e pos.line X.env=pure false:=by rfl) (hw:swappedStores [.Tuple es k p] e X.env=pure none:=by rfl) (h1:(assignEach [.Tuple es k p] X.env).map (·.2)=[assign (.Tuple es k p) X.env]:=by rfl):WDS X (.Assign [.Tuple es k p] e pos) (xU is te):=⟨by
 have he:=he.out
 obtain⟨u,hu,kk⟩:=hg
 refine(pA he (fX hc hu hn m6) hs hw h1).anti λE s H q=>?_
 obtain⟨B,F0,F,z,k,rs,ED,h,e⟩:=q
 refine⟨B,F,z,k.kf,rs,_,h,λd v F' H' g hd rd=>?_⟩
 split at hd
 ·obtain⟨p,vs,rfl,hq,rr⟩:=rep_tup_mp rd
  exact⟨p,vs,rfl,g.fh.tup hq,by rw[rr.length];exact hd.1,kk _ vs z s B F' H' _ hd.1 rr (rs.grow g) λs' r'=>e.nx _ _ F' H' (k.grow g) hd.2 r'⟩
 ·exact hd.elim⟩
def dPar(i j:Nat)(ta:TDA):TSD:=λE z=>ta z λds=>match ds with|[x,y]=>E.nx ((z.set i (some x)).set j (some y))|_=>False
theorem xV[Jx](i j:Nat){x y:Str}{t:TDA}{px py pt:Pos}{kt k2 Iy}(hc:X.calm=true)(hN:X.N.Nodup)(ha:WDA X [a,b] t)(hi:X.N[i]?=some x:=by rfl)(hj:X.N[j]?=some y:=by rfl)(Lh:i≠j:=by decide)
  (hx:X.env.scope.names.lookup x=some .local:=by rfl) (hy:X.env.scope.names.lookup y=some .local:=by rfl)
  (hw:swappedStores [.Tuple [.Name x px,.Name y py] kt pt] (.Tuple [a,b] k2 Iy) X.env=pure (some [x,y]):=by rfl)
  (hs:swapsWithSole [.Tuple [.Name x px,.Name y py] kt pt] (.Tuple [a,b] k2 Iy) pos.line X.env=pure false:=by rfl):WDS X (.Assign [.Tuple [.Name x px,.Name y py] kt pt] (.Tuple [a,b] k2 Iy) pos) (dPar i j t):=⟨have ha:=ha.out;(vq hc hN hi hj Lh hx hy ha hw hs).anti λE s H q=>by
 obtain⟨B,F0,F,z,k,rs,ED,h,e⟩:=q
 refine⟨B,F,z,k.kf,rs,_,h,λds vs F' H' g hd rd=>?_⟩
 split at hd
 ·obtain⟨v,r,rfl,r1,r2⟩:=reps_cons.mp rd
  obtain⟨w,r,rfl,r3,r4⟩:=reps_cons.mp r2
  rw[reps_nil.mp r4]
  exact⟨v,w,rfl,e.nx _ _ F' H' (k.grow g) hd (((rs.grow g).set r1).set r3)⟩
 ·exact hd.elim⟩
def xW(c:TDT)(tb:TSD):TSD:=λE z=>∃ W:Nat->SD->Prop,(∃ m,W m z)/\∀ m z,W m z->
 c z λb=>if b=true then tb {E with nx:=λz'=>∃ m',m'<m/\W m' z',ct:=λz'=>∃ m',m'<m/\W m' z',bk:=E.nx} z else E.nx z
theorem dG[Jx]{c:Expr}{body:List Stmt}{tc:TDT}{tb:TSD}(hp:PassesOwn (model X.prog X.w) X.A X.env X.xe)(hc:WDT X c tc)(hb:WDSs X body tb):WDS X (.While c body [] pos) (xW tc tb):=⟨have hc:=hc.out;have hb:=hb.out;(pB hp hc hb).anti λE s H q=>by
 obtain⟨B,F0,F,z,k,rs,ED,⟨W,⟨m0,w0⟩,b_⟩,e⟩:=q
 refine⟨λm s' H'=>∃ F' z',Kept B F0 F' H'/\RepS X.K B F' H' z' s'/\W m z',⟨m0,F,z,k,rs,w0⟩,?_⟩
 rintro m s1 H1 ⟨F1,z1,k1,r1,w1⟩
 refine⟨B,F1,z1,k1.kf,r1,_,b_ m z1 w1,λb F2 H2 g2 hk=>?_⟩
 cases b with
 |true=>
  refine⟨λs3 H3=>∃ F3 z3,Kept B F0 F3 H3/\RepS X.K B F3 H3 z3 s3/\∃ m',m'<m/\W m' z3,λs3 H3 ⟨F3,z3,k3,r3,m',l,w3⟩=>⟨m',l,F3,z3,k3,r3,w3⟩,?_⟩
  exact⟨B,F0,F2,z1,k1.grow g2,r1.grow g2,_,hk,⟨λz3 s3 F3 H3 k3 h3 r3=>⟨F3,z3,k3,r3,h3⟩,e.rt,e.nx,λz3 s3 F3 H3 k3 h3 r3=>⟨F3,z3,k3,r3,h3⟩⟩⟩
 |false=>exact e.nx z1 s1 F2 H2 (k1.grow g2) hk (r1.grow g2)⟩
abbrev TDI:=SD->(List D->Prop)->Prop
def dItL(t:TD):TDI:=λz R=>t z λx=>match x with| .lst ds=>R ds| .rol ds=>R ds|_=>False
def dItR(t:TD):TDI:=λz R=>t z λx=>match x with| .int n=>(0<=n/\n<2 ^ 62)/\R ((EN n.toNat).map λk=>D.int ((k:Nat):Int))|_=>False
def dFor(i:Nat)(ti:TDI)(tb:TSD):TSD:=λE z=>ti z λds=>∃ W:Nat->SD->Prop,W 0 z/\(∀ k x z,ds[k]?=some x->W k z->tb {E with nx:=W (k+1),ct:=W (k+1),bk:=E.nx} (z.set i (some x)))/\∀ z,W ds.length z->E.nx z
theorem Reps.get'{K:Ex}{H:Hp}{ds:List D}{vs:List V}{k:Nat}{v:V}(r:Reps K H ds vs)(e:vs[k]?=some v):∃ d,ds[k]?=some d/\Rep K H d v:=by
 have hk:k<ds.length:=by rw[<- r.length];exact(E7.mp e).1
 obtain⟨u,q1,q2⟩:=r.get (Fc hk)
 rw[e] at q1;cases q1
 exact⟨_,Fc hk,q2⟩
theorem gy[Jx](i:Nat){x:Str}{p:Pos}{body:List Stmt}{tb:TSD}(hp:PassesOwn (model X.prog X.w) X.A X.env X.xe)(hc:X.calm=true)(hN:X.N.Nodup)(he:WDE X e te)(hb:WDSs X body tb)(hi:X.N[i]?=some x:=by rfl)(hx:Loc X.env.scope x:=by first|exact Or.inl rfl|exact Or.inr rfl)
  (hf:zFN X x:=by first|exact .inl rfl|exact .inr rfl|assumption) (hs:∀ y,zFS X e y:=by exact λ_=>rfl):WDS X (.For (.Name x p) e body [] pos) (dFor i (dItL te) tb):=⟨have he:=he.out;have hb:=hb.out;(dX hp hc (jn he) (fW hN hi hx hf) hb hs).anti λE s H q=>by
 obtain⟨B,F0,F,z,kp,rs,ED,h,e⟩:=q
 refine⟨B,F,z,kp.kf,rs,_,h,λd v F1 H1 g1 hd rd=>?_⟩
 split at hd
 ·obtain⟨p,vs,rfl,hq,rr⟩:=rep_lst.mp rd
  obtain⟨W,w0,b_,out⟩:=hd
  refine⟨p,rfl,⟨vs,g1.fh.seq (SqL.of hq)⟩,pH (K:=X.K) (a:=p) (xs:=vs) (λk s' H'=>∃ F' z',Kept B F0 F' H'/\Same F1 F'/\RepS X.K B F' H' z' s'/\W k z') ⟨F1,z,kp.grow g1,Same.refl F1,rs.grow g1,w0⟩ (λk s' H' _ ⟨F',z',k',g',r',w'⟩=>k'.fh.seq (g'.seq (SqL.of hq))) ?_ ?_⟩
  ·rintro k y s' H' hk ⟨F',z',k',g',r',w'⟩
   obtain⟨d,hd,ry⟩:=rr.get' hk
   -- pc II part at a IJ start is JE pc JV Ly on
   refine⟨B,F',F',_,⟨k'.bh,k'.fh,Same.refl F',λb h1 _=>h1,k'.eb,k'.jf.trans k'.f0,λb h1 h2=>k'.out b (k'.jo b h1 h2) h2⟩,r'.set (ry.mono g'),_,b_ k d z' hd w',?_⟩
   have up:∀ {F2 H2:Hp},Kept B F' F2 H2->Kept B F0 F2 H2:=λk2=>⟨k2.bh,k2.fh,k'.f0.trans k2.f0,λb h1 h2=>k2.out b (k'.out b h1 h2) h2,k'.eb,k'.jf,k'.jo⟩
   exact⟨λz3 s3 F3 H3 k3 h3 r3=>⟨F3,z3,up k3,g'.trans k3.f0,r3,h3⟩,λd v F3 H3 k3=>e.rt d v F3 H3 (up k3),λz3 s3 F3 H3 k3=>e.nx z3 s3 F3 H3 (up k3),λz3 s3 F3 H3 k3 h3 r3=>⟨F3,z3,up k3,g'.trans k3.f0,r3,h3⟩⟩
  ·rintro s' H' ⟨F',z',k',g',r',w'⟩
   exact e.nx z' s' F' H' k' (out z' (by rw[<- rr.length];exact w')) r'
 ·obtain⟨p,vs,rfl,hq,rr⟩:=rep_rol.mp rd
  obtain⟨W,w0,b_,out⟩:=hd
  refine⟨p,rfl,⟨vs,g1.fh.seq hq⟩,pH (K:=X.K) (a:=p) (xs:=vs) (λk s' H'=>∃ F' z',Kept B F0 F' H'/\Same F1 F'/\RepS X.K B F' H' z' s'/\W k z') ⟨F1,z,kp.grow g1,Same.refl F1,rs.grow g1,w0⟩ (λk s' H' _ ⟨F',z',k',g',r',w'⟩=>k'.fh.seq (g'.seq hq)) ?_ ?_⟩
  ·rintro k y s' H' hk ⟨F',z',k',g',r',w'⟩
   obtain⟨d,hd,ry⟩:=rr.get' hk
   -- pc II part at a IJ start is JE pc JV Ly on
   refine⟨B,F',F',_,⟨k'.bh,k'.fh,Same.refl F',λb h1 _=>h1,k'.eb,k'.jf.trans k'.f0,λb h1 h2=>k'.out b (k'.jo b h1 h2) h2⟩,r'.set (ry.mono g'),_,b_ k d z' hd w',?_⟩
   have up:∀ {F2 H2:Hp},Kept B F' F2 H2->Kept B F0 F2 H2:=λk2=>⟨k2.bh,k2.fh,k'.f0.trans k2.f0,λb h1 h2=>k2.out b (k'.out b h1 h2) h2,k'.eb,k'.jf,k'.jo⟩
   exact⟨λz3 s3 F3 H3 k3 h3 r3=>⟨F3,z3,up k3,g'.trans k3.f0,r3,h3⟩,λd v F3 H3 k3=>e.rt d v F3 H3 (up k3),λz3 s3 F3 H3 k3=>e.nx z3 s3 F3 H3 (up k3),λz3 s3 F3 H3 k3 h3 r3=>⟨F3,z3,up k3,g'.trans k3.f0,r3,h3⟩⟩
  ·rintro s' H' ⟨F',z',k',g',r',w'⟩
   exact e.nx z' s' F' H' k' (out z' (by rw[<- rr.length];exact w')) r'
 ·exact hd.elim⟩
theorem bT[Jx](i:Nat){x:Str}{p p1 p2:Pos}{body:List Stmt}{tb:TSD}(hp:PassesOwn (model X.prog X.w) X.A X.env X.xe)(hc:X.calm=true)(hN:X.N.Nodup)(hm:X.mg "range"=none)(he:WDE X e te)(hb:WDSs X body tb)(hg:Gl X "range":=by rfl)(hi:X.N[i]?=some x:=by rfl)(hx:Loc X.env.scope x:=by first|exact Or.inl rfl|exact Or.inr rfl)
  (hf:zFN X x:=by first|exact .inl rfl|exact .inr rfl|assumption) (hs:∀ y,zFS X (.Call (.Name "range" p1) [e] [] p2) y:=by exact λ_=>rfl) (n6:zSE X e []:=by rfl) (f7:starEach [e] X.env=[(false,eval e X.env)]:=by rfl):WDS X (.For (.Name x p) (.Call (.Name "range" p1) [e] [] p2) body [] pos) (dFor i (dItR te) tb):=⟨have he:=he.out;have hb:=hb.out;(dX hp hc (fY hg hm (bv he pa_nil n6) f7) (fW hN hi hx hf) hb hs).anti λE s H q=>by
 obtain⟨B,F0,F,z,kp,rs,ED,h,e⟩:=q
 refine⟨B,F,z,kp.kf,rs,_,h,λd v F1 H1 g1 hd rd=>?_⟩
 split at hd
 ·rename_i n
  obtain⟨⟨b1,b2⟩,W,w0,b_,out⟩:=hd
  have hl:((EN n.toNat).map λk=>D.int ((k:Nat):Int)).length=n.toNat:=by simp
  refine⟨n,by rw[rep_int.mp rd],by lia,b2,pI (lo:=0) (n:=n.toNat) (λk s' H'=>∃ F' z',Kept B F0 F' H'/\RepS X.K B F' H' z' s'/\W k z') ⟨F1,z,kp.grow g1,rs.grow g1,w0⟩ ?_ ?_⟩
  ·rintro k s' H' hk ⟨F',z',k',r',w'⟩
   have e1:(0:Int)+(k:Int)=(k:Int):=by lia
   exact⟨B,F0,F',_,k',r'.set (d:= .int (k:Int)) (rep_int.mpr (by rw[e1])),_,b_ k (.int (k:Int)) z' (by simp[hk]) w',⟨λz3 s3 F3 H3 k3 h3 r3=>⟨F3,z3,k3,r3,h3⟩,e.rt,e.nx,λz3 s3 F3 H3 k3 h3 r3=>⟨F3,z3,k3,r3,h3⟩⟩⟩
  ·rintro s' H' ⟨F',z',k',r',w'⟩
   exact e.nx z' s' F' H' k' (out z' (by rw[hl];exact w')) r'
 ·exact hd.elim⟩
end
section
variable {P:Program}{w:World}{K:Ex}{mg:Str->Option Value}{base:Heap}
theorem _root_.L2.Fun.okD{x:Str}{st:Stmt}{f:Addr}{fd:FuncData}{N ps:List Str}{k:Nat}{S:SpD}(T:Fun K x x st f fd)(F:FnScope N ps (ag st))(len:∀ ds R,S ds R->ds.length=ps.length)
  (a9:∀ (cdv:Value) (A:Around) (outer:List Env) (s:Shared) (H:Hp) (E:XK) (J:Jx),Room k (A.deeper (envOfC x (ag st) s.heap.objs.size f cdv))->
   ∃ t,DSs (cxOf (Exc.CX1 P w) P w K mg base N x (ag st) f cdv A outer s H E).nox (aJ st) t/\∀ ds R,S ds R->t {nx:=λ_=>R .non,rt:=R} (startD N ds)):FnOk P w K mg base (Exc.CX1 P w) (k+1) f fd ps (lSp K S):=by
 refine Fun.okC T F (λvs H Q E h=>?_) (λcdv A outer s H vs Q E hr h=>?_)
 ·obtain⟨F,ds,fh,rs,R,h,_⟩:=h
  rw[rs.length];exact len ds R h
 ·obtain⟨F,ds,fh,rs,R,h,q⟩:=h
  letI:Jx:=⟨H,F,λ_ _ _=>False⟩
  obtain⟨t,ht,hq⟩:=a9 cdv A outer s H E inferInstance hr
  refine⟨_,ht.nox,H,F,F,startD N ds,⟨Same.refl H,fh,Same.refl F,λ_ h _=>h,rfl,Same.refl F,λ_ h _=>h⟩,dZ rs,_,hq ds R h,⟨λz' s' F' H' k hn _=>q _ _ F' H' ⟨k.f0,k.fh,k.bh,k.out⟩ hn (rep_non.mpr rfl),λd v F' H' k hd rd=>q d v F' H' ⟨k.f0,k.fh,k.bh,k.out⟩ hd rd,λ_ _ _ _ _ h _=>h.elim,λ_ _ _ _ _ h _=>h.elim⟩⟩
theorem Tx.okD{x:Str}{st:Stmt}{N ps:List Str}{k:Nat}{S:SpD}(T:Tx K mg x st ps)(F:FnScope N ps (ag st))(len:∀ ds R,S ds R->ds.length=ps.length)
  (a9:∀ (f:Addr) (cdv:Value) (A:Around) (outer:List Env) (s:Shared) (H:Hp) (E:XK) (J:Jx),Room k (A.deeper (envOfC x (ag st) s.heap.objs.size f cdv))->
   ∃ t,DSs (cxOf (Exc.CX1 P w) P w K mg base N x (ag st) f cdv A outer s H E).nox (aJ st) t/\∀ ds R,S ds R->t {nx:=λ_=>R .non,rt:=R} (startD N ds)):CalD P w K mg base (k+1) x ps S:=by
 obtain⟨f,fd,T,hb,hm⟩:=T
 exact⟨f,fd,T.okD F len λcdv A outer s H E J hr=>a9 f cdv A outer s H E J hr,hb,T.kp,hm⟩
end
def eJ:SpD:=λds R=>∃ ns:List Int,ds=[.rol (ns.map D.int)]/\ns.length<=63/\R (.bl true)
theorem xX{K:Ex}{H:Hp}{a:Addr}{ns:List Int}(hl:ns.length<=63)(hS:SqL K H a (ns.map V.int)){E:XK}:lSp K eJ [.ref a] H (λv _=>v= .bl true) E:=
 ⟨H,[.rol (ns.map D.int)],Same.refl H,reps_cons.mpr ⟨_,_,rfl,rep_rol.mpr ⟨a,_,rfl,hS,Reps.ints.mpr rfl⟩,reps_nil.mpr rfl⟩,λd=>d= .bl true,⟨ns,rfl,hl,rfl⟩,λd v F' H' _ hd rd=>by subst hd;exact rep_bl.mp rd⟩
section
variable {X:Cx}{a b c e:Expr}{ta tb tc te:TD}{pos:Pos}
theorem gz[Jx]{x:Str}{p:Pos}{es:List Expr}{t:TDA}{T:String}{r:List V->Hp->VK->Prop}{rd:RDn}(hc:bA X (.type T) r)(L:ci X.K r rd)(hm:X.mg x=none)(hv:bootBuiltins x=some (.type T))(ha:DA X (e::es) t)(hg:Gl X x:=by rfl)(hn:x≠"__name__":=by decide)(d7:zND x:=by decide)
  (he:zSE X e es:=by rfl) (b9:zPL X pos es:=by rfl):DE X (.Call (.Name x p) (e::es) [] pos) (dCB rd t):=(qc hc hg hm hv ha hn d7 he b9).anti λs H Q h=>by
 obtain⟨B,F,z,kf,rs,R,h1,h2⟩:=h
 have fh:=kf.fh
 refine⟨B,F,z,kf,rs,_,h1,λds vs F1 H1 g1 hx rx=>?_⟩
 exact L ds vs F1 H1 R Q g1.fh hx rx λd w F' H' g=>h2 d w F' H' (g1.trans g)
def rdStr:RDn:=λds R=>match ds with|[.int i]=>i.natAbs<18446744073709551616/\R (.str (toString i))|_=>False
theorem xY{K:Ex}:ci K (λxs H Q=>∃ i,xs=[.int i]/\i.natAbs.log2<1920/\Q (.str (toString i)) H) rdStr:=by
 intro ds vs F H R Q fh h rx q
 unfold rdStr at h
 split at h
 ·obtain⟨v,r,rfl,h1,h2⟩:=reps_cons.mp rx
  rw[reps_nil.mp h2,rep_int.mp h1]
  refine⟨_,rfl,?_,q _ _ F H (Grow.refl fh) h.2 (rep_str.mpr rfl)⟩
  rename_i i
  by_cases h0:i.natAbs=0
  ·rw[h0];decide
  ·have:=(Hq h0).mpr (show i.natAbs<2 ^ 64 from h.1)
   lia
 ·exact h.elim
theorem cT[Jx]{p:Pos}{t:TDA}(hm:X.mg "str"=none)(ha:WDA X [e] t)(hg:Gl X "str":=by rfl)(he:zSE X e []:=by rfl):WDE X (.Call (.Name "str" p) [e] [] pos) (dCB rdStr t):=⟨have ha:=ha.out;gz vV xY hm PyProof.Rows.boot_str ha hg (by decide) (by decide) he⟩
def rdInt:RDn:=λds R=>match ds with
 |[.int i]=>R (.int i)
 |[.bl k]=>R (.int (if k then 1 else 0))
 |[.str x]=>∃ n,(PySem.intText? x=some n/\x.length<=640)/\R (.int n)
 |_=>False
theorem qR:bA X (.type "int") (λxs H Q=>((∃ i,xs=[.int i]/\Q (.int i) H)\/∃ k,xs=[.bl k]/\Q (.int (if k then 1 else 0)) H)\/∃ x n,xs=[.str x]/\PySem.intText? x=some n/\x.length<=640/\Q (.int n) H):=by
 intro pins s σ H xs us Q I r h
 rcases h with h|⟨x,n,rfl,h1,h2,q⟩
 ·exact vU pins s σ H xs us Q I r h
 ·obtain⟨u,rfl,t,rfl⟩:=bS r
  exact PySem.W.KIN.call_text h1 h2 ⟨.int n,H,I.tok _,⟨_,rfl⟩,q⟩
theorem qS{K:Ex}:ci K (λxs H Q=>((∃ i,xs=[.int i]/\Q (.int i) H)\/∃ k,xs=[.bl k]/\Q (.int (if k then 1 else 0)) H)\/∃ x n,xs=[.str x]/\PySem.intText? x=some n/\x.length<=640/\Q (.int n) H) rdInt:=by
 intro ds vs F H R Q fh h rx q
 unfold rdInt at h
 split at h
 ·obtain⟨v,r,rfl,h1,h2⟩:=reps_cons.mp rx
  rw[reps_nil.mp h2,rep_int.mp h1]
  exact .inl (.inl ⟨_,rfl,q _ _ F H (Grow.refl fh) h (rep_int.mpr rfl)⟩)
 ·obtain⟨v,r,rfl,h1,h2⟩:=reps_cons.mp rx
  rw[reps_nil.mp h2,rep_bl.mp h1]
  exact .inl (.inr ⟨_,rfl,q _ _ F H (Grow.refl fh) h (rep_int.mpr rfl)⟩)
 ·obtain⟨v,r,rfl,h1,h2⟩:=reps_cons.mp rx
  rw[reps_nil.mp h2,rep_str.mp h1]
  obtain⟨n,⟨e1,e2⟩,h⟩:=h
  exact .inr ⟨_,n,rfl,e1,e2,q _ _ F H (Grow.refl fh) h (rep_int.mpr rfl)⟩
 ·exact h.elim
theorem gA[Jx]{p:Pos}{t:TDA}(hm:X.mg "int"=none)(ha:WDA X [e] t)(hg:Gl X "int":=by rfl)(he:zSE X e []:=by rfl):WDE X (.Call (.Name "int" p) [e] [] pos) (dCB rdInt t):=⟨have ha:=ha.out;gz qR qS hm PyProof.Rows.boot_int ha hg (by decide) (by decide) he⟩
def rdList:RDn:=λds R=>match ds with|[.lst xs]=>R (.lst xs)|[.tup xs]=>R (.lst xs)|[.rol xs]=>R (.lst xs)|_=>False
theorem xZ{K:Ex}:ci K (λxs H Q=>∃ p ys,xs=[.ref p]/\(SqL K H p ys\/SqT K H p ys)/\∀ l,H l=none->Q (.ref l) (upd H l (.lst ys))) rdList:=by
 intro ds vs F H R Q fh h rx q
 unfold rdList at h
 split at h
 ·obtain⟨v,r,rfl,h1,h2⟩:=reps_cons.mp rx
  rw[reps_nil.mp h2]
  obtain⟨a,us,rfl,hq,rs⟩:=rep_lst.mp h1
  exact⟨a,us,rfl,.inl (fh.seq (SqL.of hq)),λl hl=>q _ _ _ _ (Grow.new fh hl _) h (rep_lst.mpr ⟨l,us,rfl,aA,rs.mono (aS (fh.free hl) _)⟩)⟩
 ·obtain⟨v,r,rfl,h1,h2⟩:=reps_cons.mp rx
  rw[reps_nil.mp h2]
  obtain⟨a,us,rfl,hq,rs⟩:=rep_tup_mp h1
  exact⟨a,us,rfl,.inr (fh.tup hq),λl hl=>q _ _ _ _ (Grow.new fh hl _) h (rep_lst.mpr ⟨l,us,rfl,aA,rs.mono (aS (fh.free hl) _)⟩)⟩
 ·obtain⟨v,r,rfl,h1,h2⟩:=reps_cons.mp rx
  rw[reps_nil.mp h2]
  obtain⟨a,us,rfl,hq,rs⟩:=rep_rol.mp h1
  exact⟨a,us,rfl,.inl (fh.seq hq),λl hl=>q _ _ _ _ (Grow.new fh hl _) h (rep_lst.mpr ⟨l,us,rfl,aA,rs.mono (aS (fh.free hl) _)⟩)⟩
 ·exact h.elim
theorem ya[Jx]{p:Pos}{t:TDA}(hm:X.mg "list"=none)(ha:WDA X [e] t)(hg:Gl X "list":=by rfl)(he:zSE X e []:=by rfl):WDE X (.Call (.Name "list" p) [e] [] pos) (dCB rdList t):=⟨have ha:=ha.out;gz wJ xZ hm PyProof.Rows.boot_list ha hg (by decide) (by decide) he⟩
def rdMax:RDn:=λds R=>match ds with|[.int i,.int j]=>R (.int (if j>i then j else i))|_=>False
theorem yb{K:Ex}:ci K (λxs H Q=>∃ i j,xs=[.int i,.int j]/\Q (.int (if j>i then j else i)) H) rdMax:=by
 intro ds vs F H R Q fh h rx q
 unfold rdMax at h
 split at h
 ·obtain⟨v,r,rfl,h1,h2⟩:=reps_cons.mp rx
  obtain⟨v',r',rfl,h3,h4⟩:=reps_cons.mp h2
  rw[reps_nil.mp h4,rep_int.mp h1,rep_int.mp h3]
  exact⟨_,_,rfl,q _ _ F H (Grow.refl fh) h (rep_int.mpr rfl)⟩
 ·exact h.elim
theorem jG[Jx]{p:Pos}{t:TDA}(hc:X.calm=true)(hm:X.mg "max"=none)(ha:WDA X [e,a] t)(hg:Gl X "max":=by rfl)(he:zSE X e [a]:=by rfl)(b9:zPL X pos [a]:=by rfl):WDE X (.Call (.Name "max" p) [e,a] [] pos) (dCB rdMax t):=⟨have ha:=ha.out;gv (vT hc) yb hm PyProof.Rows.boot_max ha hg (by decide) (by decide) he b9⟩
def cU:List D->Option (List Str)
 |[]=>some []
 | .str x::r=>(cU r).map (x::·)
 |_=>none
theorem qT{K:Ex}{F:Hp}:∀ {ds:List D} {xs:List Str} {vs:List V} {us:List Value},cU ds=some xs->Reps K F ds vs->Vals vs us->StrsAre us xs
 |[],xs,vs,us,e,r,q=>by
  cases e
  rw[reps_nil.mp r] at q
  cases q
  exact .nil
 | .str x::ds,xs,vs,us,e,r,q=>by
  obtain⟨v,r',rfl,h1,h2⟩:=reps_cons.mp r
  rw[rep_str.mp h1] at q
  cases q with
  |cons q1 q2=>
   obtain⟨t,rfl⟩:=q1
   cases e2:cU ds with
   |none=>simp[cU,e2] at e
   |some ys=>
    simp[cU,e2] at e
    subst e
    exact .cons x t (qT e2 h2 q2)
def yc:V->List V->Hp->VK->Prop:=λx vs H Q=>∃ p8 l xs ys,x= .str p8/\vs=[.ref l]/\H l=some (.lst xs)/\(∀ us,Vals xs us->StrsAre us ys)/\(ys.map (·.length)).sum+ys.length*p8.length<=16777216/\Q (.str (Txt.join p8 ys)) H
theorem yd:MtR X "str.join" yc:=by
 intro pins s σ H x vs v us Q I rx rv h
 obtain⟨p8,l,xs,ys,rfl,rfl,hl,hs,hz,q⟩:=h
 obtain⟨t,rfl⟩:=rx
 obtain⟨u,rfl,ru⟩:=bS rv
 cases ru
 obtain⟨its,r,pl,_⟩:=I.list (SqL.of hl)
 exact PyProof.Rows.join_list pl.isList (by simpa using hs its r) hz λt' k=>⟨.str _,H,I.tok _,⟨_,rfl⟩,q⟩
def ye(p8:Str)(te:TD):TD:=λz R=>te z λx=>match x with
 | .lst ds=>∃ ys,cU ds=some ys/\(ys.map (·.length)).sum+ys.length*p8.length<=1000000/\R (.str (Txt.join p8 ys))
 |_=>False
theorem jH[Jx]{p8:Str}{k:Nat}{p1 apos cpos:Pos}(he:WDE X e te)(n5:zSE X e []:=by rfl)
  (b8:attributeBase (.Constant (.str p8) k p1) "join" X.env (eval (.Constant (.str p8) k p1) X.env)=eval (.Constant (.str p8) k p1) X.env:=by rfl)
  (d_:zHF X cpos [e]:=by rfl)
  (c5:(apos.endLine==cpos.line)=true:=by rfl):WDE X (.Call (.Attribute (.Constant (.str p8) k p1) "join" apos) [e] [] cpos) (ye p8 te):=⟨have he:=he.out;(dY PySem.F.plainAttrs_str PySem.F.slot_str_join PySem.F.type_str_join yd pi (bv he pa_nil n5) b8 d_ c5 n5).anti λs H Q q=>by
 obtain⟨B,F,z,kf,rs,R,h1,h2⟩:=q
 have fh:=kf.fh
 refine⟨rfl,?_⟩
 refine⟨B,F,z,kf,rs,_,h1,λx u F1 H1 g1 hx rx=>?_⟩
 split at hx
 ·obtain⟨ys,e1,e2,hx⟩:=hx
  obtain⟨l,vs,rfl,hq,rr⟩:=rep_lst.mp rx
  exact⟨p8,l,vs,ys,rfl,rfl,g1.fh _ _ hq,λus q=>qT e1 rr q,E1 e2 (by decide),h2 _ _ F1 H1 g1 hx (rep_str.mpr rfl)⟩
 ·exact hx.elim⟩
def cutD(xs:List D)(lo hi:Option Int):List D:=(xs.drop (HT.sIx xs.length 0 lo)).take (HT.sIx xs.length xs.length hi - HT.sIx xs.length 0 lo)
theorem Reps.drop{K:Ex}{F:Hp}:∀ (n:Nat) {xs:List D} {us:List V},Reps K F xs us->Reps K F (xs.drop n) (us.drop n)
 |0,_,_,r=>r
 |n+1,[],us,r=>by rw[reps_nil.mp r];exact reps_nil.mpr rfl
 |n+1,x::xs,us,r=>by
  obtain⟨u,ur,rfl,_,a2⟩:=reps_cons.mp r
  exact Reps.drop n a2
theorem Reps.take{K:Ex}{F:Hp}:∀ (n:Nat) {xs:List D} {us:List V},Reps K F xs us->Reps K F (xs.take n) (us.take n)
 |0,_,_,_=>reps_nil.mpr rfl
 |n+1,[],us,r=>by rw[reps_nil.mp r];exact reps_nil.mpr rfl
 |n+1,x::xs,us,r=>by
  obtain⟨u,ur,rfl,a1,a2⟩:=reps_cons.mp r
  exact reps_cons.mpr ⟨u,_,rfl,a1,Reps.take n a2⟩
theorem Reps.cut{K:Ex}{F:Hp}{xs:List D}{us:List V}(r:Reps K F xs us)(lo hi:Option Int):Reps K F (cutD xs lo hi) (cutV us lo hi):=by
 unfold cutD cutV
 rw[r.length]
 exact(r.drop _).take _
def yf(ta tb:TD):TD:=λz R=>ta z λx=>tb z λy=>match x,y with| .lst xs,.int i=>R (.lst (cutD xs (some i) none))|_,_=>False
theorem yg[Jx]{p2:Pos}(ha:WDE X a ta)(hb:WDE X b tb):WDE X (.Subscript a (.Slice (some b) none none p2) pos) (yf ta tb):=⟨have ha:=ha.out;have hb:=hb.out;(qh ql ha (qg hb) qf).anti λs H Q q=>by
 obtain⟨B,F,z,kf,rs,R,h1,h2⟩:=q
 have fh:=kf.fh
 refine⟨B,F,z,kf,rs,_,h1,λx u F1 H1 g1 hx rx=>?_⟩
 refine⟨B,F1,z,kf.grow g1,rs.grow g1,_,hx,λy v F2 H2 g2 hy ry=>?_⟩
 split at hy
 ·refine⟨_,rep_int.mp ry,?_⟩
  obtain⟨l,vs,rfl,hq,rr⟩:=rep_lst.mp (rx.mono g2.ff)
  refine⟨l,vs,rfl,SqL.of (g2.fh _ _ hq),λp hp=>?_⟩
  exact h2 _ _ _ _ (g1.trans (g2.trans (Grow.new g2.fh hp _))) hy (rep_lst.mpr ⟨p,_,rfl,aA,(rr.cut _ _).mono (aS (g2.fh.free hp) _)⟩)
 ·exact hy.elim⟩
theorem yi{es:List Expr}{k:Nat}{t:TGs}{n:Nat}(hc:X.calm=true)(h:PGs X es t)(hn:(assignEach es X.env).length=n:=by rfl)(m6:(assignEach es X.env).findIdx? (·.1)=none:=by rfl):
  PG X (.Tuple es k pos) (λv σ H Q=>∃ a xs,v= .ref a/\SqL X.K H a xs/\xs.length=n/\t xs σ H Q):=by
 intro pins s σ H v u Q I r hw
 obtain⟨a,xs,e1,hq,hl,hw⟩:=hw
 subst e1
 cases r
 obtain⟨its,rv,pl,hz⟩:=I.list hq
 have e2:(assignEach es X.env).length=its.toArray.size:=by simp[hn,<- hl,rv.length]
 rw[PyProof.Rows.assign_Tuple]
 refine wpAny_bind (wpAny_standAt ?_)
 unfold unpack
 rw[e2,m6]
 refine wpAny_bind (wpAny_holding (kun_itemsOf (I.ok.hd hc) pl.isList λh' hx=>?_))
 have I1:Inv X pins σ H {s with heap:=h'}:=I.kept (t':=s.toks) λb o e=>hx b o (EZ (Heap.lt_size e)) e
 exact h pins _ σ H xs _ Q I1 (by simpa using rv) hw
def yj(is:List Nat)(te:TD):TSD:=λE z=>te z λx=>match x with| .lst ds=>ds.length=is.length/\E.nx (aV is ds z)|_=>False
theorem yk[Jx]{es:List Expr}{k:Nat}{is:List Nat}{p:Pos}(hc:X.calm=true)(he:WDE X e te)(hg:DGs X es is)(hn:(assignEach es X.env).length=is.length:=by rfl)(m6:(assignEach es X.env).findIdx? (·.1)=none:=by rfl)
  (hs:swapsWithSole [.Tuple es k p] e pos.line X.env=pure false:=by rfl) (hw:swappedStores [.Tuple es k p] e X.env=pure none:=by rfl) (h1:(assignEach [.Tuple es k p] X.env).map (·.2)=[assign (.Tuple es k p) X.env]:=by rfl):WDS X (.Assign [.Tuple es k p] e pos) (yj is te):=⟨by
 have he:=he.out
 obtain⟨u,hu,kk⟩:=hg
 refine(pA he (yi hc hu hn m6) hs hw h1).anti λE s H q=>?_
 obtain⟨B,F0,F,z,k,rs,ED,h,e⟩:=q
 refine⟨B,F,z,k.kf,rs,_,h,λd v F' H' g hd rd=>?_⟩
 split at hd
 ·obtain⟨p,vs,rfl,hq,rr⟩:=rep_lst.mp rd
  exact⟨p,vs,rfl,SqL.of (g.fh _ _ hq),by rw[rr.length];exact hd.1,kk _ vs z s B F' H' _ hd.1 rr (rs.grow g) λs' r'=>e.nx _ _ F' H' (k.grow g) hd.2 r'⟩
 ·exact hd.elim⟩
end
end My
namespace L2
theorem jI{env:Env}:∀ (names:List (Str × NameKind)) (td:List (Str × Addr)),(∀ n,(n,NameKind.free)∈names->∃ c,env.cells.lookup n=some c)->
  ∃ cl,(forIn (m:=Sem) names td λx r=>match x with
     |(name,kind)=>if(kind==NameKind.free)=true then(do let a <- cellOf env name;pure (ForInStep.yield ((name,a)::r))) else pure (ForInStep.yield r))=(pure cl:Sem (List (Str × Addr)))/\
   (∀ n c,cl.lookup n=some c->env.cells.lookup n=some c\/td.lookup n=some c)/\(∀ n,(n,NameKind.free)∈names->∃ c,cl.lookup n=some c)/\∀ n c,td.lookup n=some c->∃ c',cl.lookup n=some c'
 |[],td,_=>⟨td,rfl,(λ_ _ h=> .inr h),(λ_ h=>by cases h),(λ_ c h=>⟨c,h⟩)⟩
 |(name,kind)::r,td,h=>by
  by_cases hk:(kind==NameKind.free)=true
  ·have ek:kind= .free:=by simpa using hk
   subst ek
   obtain⟨c,hc⟩:=h name ET
   obtain⟨cl,e,p1,p2,p3⟩:=jI r ((name,c)::td) λn q=>h n (ES _ q)
   refine⟨cl,?_,λn c' q=>?_,λn q=>?_,λn c' q=>?_⟩
   ·rw[Ht]
    have ec:cellOf env name=pure c:=by unfold cellOf;rw[hc]
    simp only[hk,if_true,ec]
    exact e
   ·rcases p1 n c' q with z|z
    ·exact .inl z
    ·rw[E8] at z
     split at z
     ·rename_i q2
      have en:n=name:=by simpa using q2
      cases z
      exact .inl (en ▸ hc)
     ·exact .inr z
   ·rcases EO.mp q with z|z
    ·cases z
     exact p3 _ c (by rw[E8];simp)
    ·exact p2 n z
   ·by_cases hn:n=name
    ·subst hn;exact p3 n c (by rw[E8];simp)
    ·exact p3 n c' (by rw[E8,beq_eq_false_iff_ne.mpr hn];exact q)
  ·obtain⟨cl,e,p1,p2,p3⟩:=jI r td λn q=>h n (ES _ q)
   refine⟨cl,?_,p1,λn q=>?_,p3⟩
   ·rw[Ht]
    simp only[hk]
    exact e
   ·rcases EO.mp q with z|z
    ·cases z;exact absurd rfl hk
    ·exact p2 n z
theorem closure_is{env:Env}{scope:Scope}(h:∀ n,(n,NameKind.free)∈scope.names->∃ c,env.cells.lookup n=some c):
  ∃ cl,closureFor scope env=pure cl/\(∀ n c,cl.lookup n=some c->env.cells.lookup n=some c)/\∀ n,(n,NameKind.free)∈scope.names->∃ c,cl.lookup n=some c:=by
 obtain⟨cl,e,p1,p2,_⟩:=jI scope.names [] h
 refine⟨cl,?_,λn c q=>(p1 n c q).elim id (λz=>nomatch z),p2⟩
 unfold closureFor
 show(forIn (m:=Sem) scope.names [] _>>=λs=>pure s)=pure cl
 rw[e]
 rfl
theorem gB{env:Env}:∀ {names:List (Str × NameKind)} {n:Str} {k:NameKind},(∀ y∈names,y.2≠.cell)->k= .cell\/k= .free->
  (names.map λ(n,k)=>if(k==NameKind.free && env.scope.kind== .function && env.kindOf n==some .cell) then(n,NameKind.cell) else(n,k)).lookup n=some k->(n,NameKind.free)∈names
 |[],_,_,_,_,h=>by simp at h
 |(a,b)::r,n,k,hc,hk,h=>by
  rw[EY] at h
  by_cases hb:(b==NameKind.free && env.scope.kind== .function && env.kindOf a==some .cell)=true
  ·have eb:b= .free:=by
    have:=(Fg _ _ ▸ ((Fg _ _ ▸ hb).1)).1
    simpa using this
   simp only[hb,if_true] at h
   rw[E8] at h
   split at h
   ·rename_i q
    have en:n=a:=by simpa using q
    subst en eb
    exact ET
   ·exact ES _ (gB (λy q=>hc y (ES _ q)) hk h)
  ·simp only[hb] at h
   rw[if_neg (by simp),E8] at h
   split at h
   ·rename_i q
    have en:n=a:=by simpa using q
    cases h
    subst en
    rcases hk with z|z
    ·exact absurd z (hc _ ET)
    ·rw[z];exact ET
   ·exact ES _ (gB (λy q=>hc y (ES _ q)) hk h)
section
variable {prog:Program}{w:World}{A:Around}{R:Result->Shared->Prop}{s:Shared}
abbrev qU(g_:List Expr)(env:Env):Sem Bool:=forIn g_ true λc r=>if r=true then do let ok <- isTrue c env (eval c env);pure (ForInStep.yield ok) else pure (ForInStep.yield r)
theorem qV{f9 ge iter:Expr}{g_:List Expr}{scope:Scope}{pos:Pos}{it td:Value}{env:Env}(I:Nat->Shared->Prop)
  (b_:∀ n s,I n s->wpAny (model prog w) A (pyNext it) (λr s₁=>match r with
   |none=>R (.ok .next) s₁
   |some v=>wpAny (model prog w) A (letOwnedTupleGo ge it v) (λ_ s₁'=>wpAny (model prog w) A (assign ge env v) (λ_ s₂=>wpAny (model prog w) A (qU g_ env) (λok s₂'=>if ok=true then wpAny (model prog w) A (eval f9 env) (λx s₃=>
     wpAny (model prog w) A (call (.builtin "list.append") [td,x]) (λ_ s₄=>∃ m,m<n/\I m s₄) (λ_ _=>False) s₃)
     (λ_ _=>False) s₂' else ∃ m,m<n/\I m s₂') (λ_ _=>False) s₂) (λ_ _=>False) s₁') (λ_ _=>False) s₁) (λ_ _=>False) s)
  (n:Nat) (h:I n s):
  codeAny (model prog w) A (.compLoop (.ListComp f9 [⟨ge,iter,g_,0⟩] scope pos) 0 it td env) R s:=by
 refine codeAny_loop rfl I (λn s hI=>?_) n h
 show wpAny _ _ ((compTurn (.ListComp f9 [⟨ge,iter,g_,0⟩] scope pos) 0 it td env).onRaise (λx=>do noteFrame x env;theTreesLotGoes x)) _ _ s
 refine wpAny_noted ?_
 rw[compTurn_list]
 refine wpAny_bind (wpAny_standAt (wpAny_bind (wpAny_mono (b_ n s hI) (λr s₁ h₁=>?_) λ_ _ h'=>h'.elim)))
 cases r with
 |none=>exact wpAny_pure h₁
 |some v=>
  refine wpAny_bind (wpAny_mono h₁ (λ_ s₁' h₁'=>wpAny_bind (wpAny_mono h₁' (λ_ s₂ h₂=>wpAny_bind (wpAny_mono h₂ (λok s₃ h₃=>?_) λ_ _ h'=>h'.elim)) λ_ _ h'=>h'.elim)) λ_ _ h'=>h'.elim)
  cases ok with
  |false=>exact wpAny_pure ⟨rfl,h₃⟩
  |true=>
   exact wpAny_bind (wpAny_bind (wpAny_mono h₃ (λx s₄ h₄=>wpAny_bind (wpAny_mono h₄ (λ_ s₅ h₅=>wpAny_pure (wpAny_pure ⟨rfl,h₅⟩)) λ_ _ h'=>h'.elim)) λ_ _ h'=>h'.elim))
end
def bI(X:Cx)(scope:Scope)(cl:List (Str × Addr))(x:Str)(s₀:Shared)(H₀:Hp)(fp:List Addr):Cx where
 prog:=X.prog
 w:=X.w
 K:=X.K
 mg:=X.mg
 base:=X.base
 A:=X.A
 N:=X.N.map (λn=>if n=x then("":Str) else n)++[x]
 s₀:=s₀
 H₀:=H₀
 env:=compEnvC scope cl s₀.heap.objs.size X.env
 outer:=X.stack
 stack:=X.stack
 ex:=fp
 fn:=λ_=>false
 calm:=X.calm
 pn:=[]
 xe:=λ_ _=>False
structure CompScope(X:Cx)(scope:Scope)(x:Str):Prop where
 kind:scope.kind= .function
 nocell:∀ y∈scope.names,y.2≠.cell
 names:∀ y∈scope.names,y.2= .local->scope.names.lookup y.1=some .local
 own:scope.names.lookup x=some .local
 free:∀ n,(n,NameKind.free)∈scope.names->X.env.kindOf n=some .cell
 vis:∀ n∈X.N,n≠x->Vis (relabel scope X.env) n->(n,NameKind.free)∈scope.names
 empty:¬ Vis (relabel scope X.env) ("":Str)
 cells:∀ n,(n,NameKind.free)∈scope.names->(relabel scope X.env).names.lookup n=some .cell
 nd:(X.N.map (λn=>if n=x then("":Str) else n)++[x]).Nodup
section
variable {X:Cx}{pins:List (Addr × Obj)}{σ:St}{H:Hp}{s:Shared}{scope:Scope}{cl:List (Str × Addr)}{x:Str}{fp:List Addr}
theorem jJ(I:Inv X pins σ H s)(S:CompScope X scope x)(c1:∀ n c,cl.lookup n=some c->X.env.cells.lookup n=some c)(c2:∀ n,(n,NameKind.free)∈scope.names->∃ c,cl.lookup n=some c)
  (hf:∀ b∈fp,FpOk X pins H b) (hl:∀ b∈fp,b<s.heap.objs.size):(bI X scope cl x s H fp).Ok where
 mod:=I.ok.mod
 kind:=S.kind
 glob:=I.ok.glob
 blt:=I.ok.blt
 above:=EL _
 inj:=λy z c h1 h2=>I.ok.inj y z c (c1 y c h1) (c1 z c h2)
 has:=λn hn=>by
  rcases hn with hn|hn
  ·exact c2 n (gB S.nocell (.inl rfl) hn)
  ·exact c2 n (gB S.nocell (.inr rfl) hn)
 cab:=λ_ _ h=>nomatch h
 hd:=I.ok.hd
 frames:=I.ok.frames
 stk:= .inl rfl
 exf:=λb hb=>⟨EZ (hl b hb),λy c h=>(hf b hb).2.2.2.2.1 y c (c1 y c h)⟩
 bs:=I.bs
 bsz:=E1 I.ok.bsz I.sz
 noex:=λb o e hb=>by
  have h1:=I.ok.noex b o e
  rcases(hf b hb).2.2.2.1 with z|z
  ·exact h1 z
  ·exact absurd (Fi (Heap.lt_size e) (E1 I.ok.bsz z)) (FV _)
 exfs:=λb hb hs=>by
  rcases EO.mp (I.stkSub b hs) with z|z
  ·exact(hf b hb).2.1 z
  ·exact(hf b hb).2.2.1 z
 funs:=I.stack
 frf:=I.stkFree
theorem qW{h':Heap}{t':Nat}(I:Inv X pins σ H s)(S:CompScope X scope x)(c1:∀ n c,cl.lookup n=some c->X.env.cells.lookup n=some c)(c2:∀ n,(n,NameKind.free)∈scope.names->∃ c,cl.lookup n=some c)
  (hf:∀ b∈fp,FpOk X pins H b) (hl:∀ b∈fp,b<s.heap.objs.size) {m:Str->Option Value} (hn:h'.Ns s.heap.objs.size m) (k:∀ b o,s.heap.get? b=some o->h'.get? b=some o):
  Inv (bI X scope cl x s H fp) [] (σ++[none]) H {s with heap:=h',toks:=t'}:=by
 refine⟨jJ I S c1 c2 hf hl,rfl,I.bare,Un.kept k,⟨m,hn,λi n v e1 e2 e3=>?_⟩,λn c e=>?_,I.hok.fresh (EL _),λn c e=>I.freeC n c (c1 n c e),λp hp=>absurd (show p∈([]:List (Addr × Obj)) from hp) (by simp),I.hok.kept k,?_⟩
 ·have hi:i<σ.length:=by
   rcases F6 i σ.length with q|q
   ·exact q
   ·rw[FS q] at e2
    cases hz:i - σ.length with
    |zero=>rw[hz] at e2;simp at e2
    |succ z=>rw[hz] at e2;simp at e2
  rw[FB hi] at e2
  have KJ:i<X.N.length:=by rw[<- I.len];exact hi
  have I_:(X.N.map (λn=>if n=x then("":Str) else n)++[x])[i]?=some n:=e1
  rw[FB (by simpa using KJ),E3,Fc KJ] at I_
  simp only[GV,Option.some.injEq] at I_
  by_cases hx:X.N[i]=x
  ·rw[if_pos hx] at I_
   subst I_
   exact absurd e3 S.empty
  ·rw[if_neg hx] at I_
   subst I_
   have i_:=S.vis _ (Fs KJ) hx e3
   have k9:=S.free _ i_
   obtain⟨c,hc⟩:=c2 _ i_
   obtain⟨mX,P8,OU⟩:=I.loc
   obtain⟨u,ru,lk⟩:=OU i X.N[i] v (Fc KJ) e2 (.inr (.inl k9))
   refine⟨u,ru,.inr ⟨?_,c,hc,?_⟩⟩
   ·exact .inl (S.cells _ i_)
   ·rcases lk with⟨kl,_⟩|⟨_,c',Ib,j5⟩
    ·rw[k9] at kl;cases kl
    ·have:c=c':=by
      have:=c1 _ c hc
      rw[Ib] at this
      exact(Option.some.inj this).symm
     subst this
     obtain⟨o,ho,hd⟩:=j5
     exact⟨o,k _ _ ho,hd⟩
 ·obtain⟨v,o,ho,hd⟩:=I.cell n c (c1 n c e)
  exact⟨v,o,k _ _ ho,hd⟩
 ·show(σ++[none]).length=(X.N.map _++[x]).length
  rw[EW,EW,EU,I.len]
  rfl
end
def gC(wi:TI)(tt:TT)(i8:TE):TE:=λσ H Q=>wi σ H λJ H1=>∀ D,H1 D=none->∃ W:Nat->Nat->Hp->Prop,(∃ m,W 0 m (upd H1 D (.lst [])))/\∀ i m H,W i m H->
 (J.stop i H/\Q (.ref D) H)\/(J.go i H/\∀ x H',J.yld i H x H'->tt (σ++[some x]) H' λb H1=>if b=true then i8 (σ++[some x]) H1 λy H''=>∃ vs,H'' D=some (.lst vs)/\vs.length<sizeLine/\∃ m',m'<m/\W (i+1) m' (upd H'' D (.lst (vs++[y]))) else ∃ m',m'<m/\W (i+1) m' H1)
def PIf(X:Cx)(g_:List Expr)(t:TT):Prop:=
 ∀ (pins:List (Addr × Obj)) (s:Shared) (σ:St) (H:Hp) (Q:Bool->Hp->Prop),Inv X pins σ H s->t σ H Q->wpAny (model X.prog X.w) X.A (qU g_ X.env) (TP X pins σ Q) X.xe s
theorem pif_nil{X:Cx}:PIf X [] (λ_ H Q=>Q true H):=λpins s σ H Q I q=>wpAny_tests_nil ⟨H,I,q⟩
theorem ym{X:Cx}{c:Expr}{t:TT}(h:PT X c t):PIf X [c] t:=λpins s σ H Q I q=>wpAny_tests_one (h pins s σ H Q I q)
theorem PIf.anti{X:Cx}{e:List Expr}{t t':TT}(h:PIf X e t)(a:∀ s H Q,t' s H Q->t s H Q):PIf X e t':=λpins s σ H Q I q=>h pins s σ H Q I (a _ _ _ q)
section
variable {X:Cx}
theorem yn{P:Program}{w:World}{H:Hp}{h h':Heap}{a:Addr}(x:HOk P w H h)(hn:H a=none)(hs:Heap.SameBut a h h'):HOk P w H h':=λb ob e=>by
 refine(x b ob e).stay (λc w' hc q=>(hs.2 c ?_).trans q) (λ_ q=>q) λ_ _ q=>q
 rintro rfl
 rcases hc with rfl|hc
 ·rw[hn] at e;cases e
 ·rw[hn] at hc;cases hc
theorem pe_comp{f9 iter:Expr}{g_:List Expr}{x:Str}{px:Pos}{scope:Scope}{pos:Pos}{wi:TI}{tt:TT}{i8:TE}(hc:X.calm=true)(S:CompScope X scope x)(hi:PI X (.Name x px) iter wi)
  (hq:∀ cl s₀ H₀ fp,PIf (bI X scope cl x s₀ H₀ fp) g_ tt) (he:∀ cl s₀ H₀ fp,PE (bI X scope cl x s₀ H₀ fp) f9 i8) (hs:∀ y,zFS X iter y:=by exact λ_=>rfl):
  PE X (.ListComp f9 [⟨.Name x px,iter,g_,0⟩] scope pos) (gC wi tt i8):=by
 intro pins s σ H Q I h
 obtain⟨cl,j5,c1,c2⟩:=closure_is (env:=X.env) (scope:=scope) (λn q=>I.ok.has n (.inl (S.free n q)))
 rw[eval_ListComp]
 refine wpAny_comprehension_free (use:=none) rfl hs j5 S.kind S.names (thn (hi pins s σ H _ I h) λv s1 h1=>thn h1 λKC s2 h2=>?_)
 obtain⟨it,fp,tn,J,H1,e,I1,T,st,f1,hr⟩:=h2
 subst e
 have gV:∀ b∈fp,b<s2.heap.objs.size:=λb hb=>by
  obtain⟨o,ho,_⟩:=T.obj _ _ st b hb
  exact Heap.lt_size ho
 have hD:H1 s2.heap.objs.size=none:=I1.hok.fresh (EL _)
 obtain⟨W,⟨m0,w0⟩,step⟩:=hr _ hD
 refine wpAny_newObj_type (wpAny_newFunctionEnv S.nocell (by intro y hy;simp at hy) (λh₁ hns₁ hsb₁=>?_) S.kind)
 have I3:Inv X pins σ (upd H1 s2.heap.objs.size (.lst [])) {s2 with heap:=s2.heap.push {cls:= .type "list",data:= .seq ([]:List Value).toArray},toks:=s2.toks}:=I1.lnew (its:=[]) (ys:=[]) .nil (Fj _)
 have g5:∀ b∈fp,b<(s2.heap.push {cls:= .type "list",data:= .seq ([]:List Value).toArray}).objs.size:=λb hb=>by
  rw[Heap.size_push];exact Hu (gV b hb)
 have n8:∀ b∈fp,FpOk X pins (upd H1 s2.heap.objs.size (.lst [])) b:=λb hb=>⟨by rw[aq (EZ (gV b hb))];exact(f1 b hb).1,(f1 b hb).2⟩
 have kp:∀ b o,(s2.heap.push {cls:= .type "list",data:= .seq ([]:List Value).toArray}).get? b=some o->h₁.get? b=some o:=λb o e=>
  (hsb₁.2 b (EZ (Heap.lt_size e))).trans (Heap.get?_push_of_some _ e)
 have I4:=qW (x:=x) (fp:=fp) (t':=s2.toks+([]:List (Str × Value)).length) I3 S c1 c2 n8 g5 hns₁ kp
 have z7:=jJ (x:=x) (fp:=fp) I3 S c1 c2 n8 g5
 generalize hY:bI X scope cl x {s2 with heap:=s2.heap.push {cls:= .type "list",data:= .seq ([]:List Value).toArray},toks:=s2.toks} (upd H1 s2.heap.objs.size (.lst [])) fp=Y at I4 z7
 have yP:Y.prog=X.prog:=by rw[<- hY];rfl
 have yW:Y.w=X.w:=by rw[<- hY];rfl
 have yK:Y.K=X.K:=by rw[<- hY];rfl
 have yA:Y.A=X.A:=by rw[<- hY];rfl
 have yN:Y.N=X.N.map (λn=>if n=x then("":Str) else n)++[x]:=by rw[<- hY];rfl
 have yE:Y.env=compEnvC scope cl (s2.heap.push {cls:= .type "list",data:= .seq ([]:List Value).toArray}).objs.size X.env:=by rw[<- hY];rfl
 have yX:Y.xe=λ_ _=>False:=by rw[<- hY];rfl
 have yC:Y.calm=true:=by rw[<- hY];exact hc
 have JW:Y.ex=fp:=by rw[<- hY];rfl
 have Lz:Y.pn=[]:=by rw[<- hY];rfl
 have LA:Y.fs=frs X.stack:=by rw[<- hY];rfl
 have LB:Y.H₀=upd H1 s2.heap.objs.size (.lst []):=by rw[<- hY];rfl
 have JX:Y.s₀={s2 with heap:=s2.heap.push {cls:= .type "list",data:= .seq ([]:List Value).toArray},toks:=s2.toks}:=by rw[<- hY];rfl
 have LC:PE Y f9 i8:=by rw[<- hY];exact he _ _ _ _
 have LD:PIf Y g_ tt:=by rw[<- hY];exact hq _ _ _ _
 have g7:∀ {H':Hp},(∀ b∈fp,H' b=none)->∀ b∈fp,FpOk Y [] H' b:=λ{H'} hn b hb=>by
  have h_:b∈Y.ex:=by rw[JW];exact hb
  exact⟨hn b hb,(z7.exf b h_).1,z7.exfs b h_,.inl h_,λn c e=>(z7.exf b h_).2 n c e,by rw[Lz];simp⟩
 have u5:Y.env.scope.names.lookup x=some .local:=by rw[yE];exact lookup_relabel_local S.own
 have JY:Y.N[X.N.length]?=some x:=by rw[yN];simp
 have LF:Y.N.Nodup:=by rw[yN];exact S.nd
 -- pc end of pc JZ
 have d5:∀ (o:Option V) (H':Hp) (s':Shared),Inv Y [] (σ++[o]) H' s'->Q (.ref s2.heap.objs.size) H'->∀ h',Heap.SameBut Y.env.locals s'.heap h'->EP X pins σ Q (.ref s2.heap.objs.size) {s' with heap:=h'}:=λo H' s' I' q h' hsb=>by
  have q_:Y.env.locals=(s2.heap.push {cls:= .type "list",data:= .seq ([]:List Value).toArray}).objs.size:=by rw[yE];rfl
  have ne:∀ b ob,(s2.heap.push {cls:= .type "list",data:= .seq ([]:List Value).toArray}).get? b=some ob->b≠Y.env.locals:=λb ob e=>by rw[q_];exact EZ (Heap.lt_size e)
  have bs:=I'.base
  rw[LA,JW,LB,JX] at bs
  refine⟨.ref s2.heap.objs.size,H',I3.call' (ch:=fp) ?_ ⟨λb ob e n h1 h2=>?_,λb ob e n h1 h2=>?_,bs.free,λb ob e h2=>?_,bs.tups,bs.frzs,bs.tbls⟩ ?_ I'.bare ?_,rfl,q⟩
  ·have:=I'.os
   rw[JX] at this
   exact this
  ·exact(hsb.2 b (ne b ob e)).trans (bs.keep b ob e n h1 h2)
  ·obtain⟨sl,q⟩:=bs.slot b ob e n h1 h2
   exact⟨sl,(hsb.2 b (ne b ob e)).trans q⟩
  ·obtain⟨o',q⟩:=bs.there b ob e h2
   exact⟨o',(hsb.2 b (ne b ob e)).trans q⟩
  ·have:=yn I'.hok I'.free hsb
   rw[yP,yW] at this
   exact this
  ·exact λb hb=>⟨(n8 b hb).2.2.2.1,(n8 b hb).2.1,(n8 b hb).2.2.2.2.1,(n8 b hb).2.2.2.2.2⟩
 have q8:codeAny (model X.prog X.w) X.A (.compLoop (.ListComp f9 [⟨.Name x px,iter,g_,0⟩] scope pos) 0 (.ref it) (.ref s2.heap.objs.size) (compEnvC scope cl (s2.heap.push {cls:= .type "list",data:= .seq ([]:List Value).toArray}).objs.size X.env))
   (compPost (model X.prog X.w) X.A X.xe none (EP X pins σ Q) (.ref s2.heap.objs.size) (s2.heap.push {cls:= .type "list",data:= .seq ([]:List Value).toArray}).objs.size)
   {s2 with heap:=h₁,toks:=s2.toks+([]:List (Str × Value)).length}:=by
  refine qV (λn s'=>∃ i o H',Inv Y [] (σ++[o]) H' s'/\tn i s'.heap/\(∀ b∈fp,H' b=none)/\W i n H') ?_ m0 ⟨0,none,_,I4,T.keep _ _ _ st (λb hb ob e=>kp b ob (Heap.get?_push_of_some _ e)),λb hb=>(n8 b hb).1,w0⟩
  rintro n s3 ⟨i,o,H3,I5,t3,f3,w3⟩
  rcases step i n H3 w3 with⟨stop,q⟩|⟨go,q⟩
  ·have dn:=T.done Y yP yW yK yC i [] s3 _ H3 (λ_ _=>False) I5 (g7 f3) t3 stop
   rw[yA] at dn
   refine thn dn λr s4 ⟨hr,I6⟩=>?_
   subst hr
   obtain⟨m,hn,_⟩:=I6.loc
   have q_:Y.env.locals=(s2.heap.push {cls:= .type "list",data:= .seq ([]:List Value).toArray}).objs.size:=by rw[yE];rfl
   rw[q_] at hn
   exact⟨m,hn,λh' hsb=>d5 o H3 s4 I6 q h' (by rw[q_];exact hsb)⟩
  ·have J0:=T.item Y yP yW yK yC i [] s3 _ H3 (λ_ _=>False) I5 (g7 f3) t3 go
   rw[yA] at J0
   refine thn J0 λr s4 ⟨u,hr,h4⟩=>?_
   subst hr
   refine thn h4 λ_ s5 ⟨xv,H5,I6,r5,y5,m8,JF⟩=>?_
   have LG:=I6.pinned (g7 JF) (T.obj _ _ m8)
   rw[<- yE]
   refine wpAny_assign_Name (dW LG LF JY (.inl u5) r5 (λs6 I7=>?_) (.inr u5))
   have IK:(σ++[o]).set X.N.length (some xv)=σ++[some xv]:=by
    rw[<- I.len]
    simp
   rw[IK] at I7
   have tv:=LD _ s6 _ H5 _ I7 (q xv H5 y5)
   rw[yP,yW,yA,yX] at tv
   refine thn tv λb LH ⟨LI,z8,qb⟩=>?_
   cases b with
   |false=>
    obtain⟨m',hm,w7⟩:=qb
    refine⟨m',hm,i+1,some xv,_,z8.unpinned,T.keep _ _ _ m8 λb hb ob e=>(z8.pin (b,ob) (E4 _ (E4 _ (cB hb e)))).1,λb hb=>?_,w7⟩
    obtain⟨ob,e,d⟩:=T.obj _ _ m8 b hb
    exact(z8.pin (b,ob) (E4 _ (E4 _ (cB hb e)))).2.1
   |true=>
   have ev:=LC _ LH _ LI _ z8 qb
   rw[yP,yW,yA,yX] at ev
   refine thn ev λyv s7 ⟨y,H6,I8,ry,vs,LJ,a_,m',hm,w7⟩=>?_
   have ap:=gk (X:=Y) _ s7 _ H6 (.ref s2.heap.objs.size) [y] (.ref s2.heap.objs.size) [yv] (λ_ H7=>H7=upd H6 s2.heap.objs.size (.lst (vs++[y]))) I8 rfl (.cons ry .nil) ⟨_,vs,y,rfl,rfl,LJ,a_,rfl⟩
   rw[yP,yW,yA,yX] at ap
   refine thn ap λ_ s8 ⟨_,H7,I9,_,e7⟩=>?_
   subst e7
   refine⟨m',hm,i+1,some xv,_,I9.unpinned,T.keep _ _ _ m8 λb hb ob e=>(I9.pin (b,ob) (E4 _ (E4 _ (cB hb e)))).1,λb hb=>?_,w7⟩
   obtain⟨ob,e,d⟩:=T.obj _ _ m8 b hb
   exact(I9.pin (b,ob) (E4 _ (E4 _ (cB hb e)))).2.1
 exact codeAny_compStart_list q8 (T.self _ _ _ _ _ (T.keep _ _ _ st (λb hb ob e=>kp b ob (Heap.get?_push_of_some _ e))) q8)
theorem qX{f9 iter:Expr}{g_:List Expr}{x y:Str}{px py l8:Pos}{scope:Scope}{pos:Pos}{wi:TI}{tt:TT}{i8:TE}{ix:Nat}(hc:X.calm=true)(S:CompScope X scope x)(hi:PI X (.Name x px) iter wi)
  (hq:∀ cl s₀ H₀ fp,PIf (bI X scope cl x s₀ H₀ fp) g_ tt) (he:∀ cl s₀ H₀ fp,PE (bI X scope cl x s₀ H₀ fp) f9 i8) (hN:X.N.Nodup) (J1:X.N[ix]?=some y) (hy:Loc X.env.scope y) (hf:zFN X y)
  (z6:swapsWith (.ListComp f9 [⟨.Name x px,iter,g_,0⟩] scope pos) (some (.Name y py)) l8.line X.env=pure true) (hs:∀ y,zFS X iter y:=by exact λ_=>rfl):
  PS X (.Assign [.Name y py] (.ListComp f9 [⟨.Name x px,iter,g_,0⟩] scope pos) l8) (tAsg (gC wi tt i8) (fV ix)):=by
 intro pins s σ H DE I h
 have h:wi σ H λJ H1=>∀ D,H1 D=none->∃ W:Nat->Nat->Hp->Prop,(∃ m,W 0 m (upd H1 D (.lst [])))/\∀ i m H,W i m H->
  (J.stop i H/\DE.nx (σ.set ix (some (.ref D))) H)\/(J.go i H/\∀ x H',J.yld i H x H'->tt (σ++[some x]) H' λb H1=>if b=true then i8 (σ++[some x]) H1 λy H''=>∃ vs,H'' D=some (.lst vs)/\vs.length<sizeLine/\∃ m',m'<m/\W (i+1) m' (upd H'' D (.lst (vs++[y]))) else ∃ m',m'<m/\W (i+1) m' H1):=h
 obtain⟨cl,j5,c1,c2⟩:=closure_is (env:=X.env) (scope:=scope) (λn q=>I.ok.has n (.inl (S.free n q)))
 rw[exec_Assign_Name_used _ _ _ _ z6]
 refine wpAny_bind (wpAny_standAt (wpAny_bind ?_))
 show wpAny _ X.A (do let _ <- comprehension (.ListComp f9 [⟨.Name x px,iter,g_,0⟩] scope pos) scope X.env _ (newList []) false (eval iter X.env) (some (assign (.Name y py) X.env))) _ _ s
 refine wpAny_bind (wpAny_mono (wpAny_comprehension_free (use:=some (assign (.Name y py) X.env)) (Q:=λ_ s'=>SP X pins DE .next s') rfl hs j5 S.kind S.names
  (thn (hi pins s σ H _ I h) λv s1 h1=>thn h1 λKC s2 h2=>?_)) (λ_ s' hq=>wpAny_pure (wpAny_pure hq)) λ_ _ e=>e)
 obtain⟨it,fp,tn,J,H1,e,I1,T,st,f1,hr⟩:=h2
 subst e
 have gV:∀ b∈fp,b<s2.heap.objs.size:=λb hb=>by
  obtain⟨o,ho,_⟩:=T.obj _ _ st b hb
  exact Heap.lt_size ho
 have hD:H1 s2.heap.objs.size=none:=I1.hok.fresh (EL _)
 obtain⟨W,⟨m0,w0⟩,step⟩:=hr _ hD
 refine wpAny_newObj_type (wpAny_newFunctionEnv S.nocell (by intro y hy;simp at hy) (λh₁ hns₁ hsb₁=>?_) S.kind)
 have I3:Inv X pins σ (upd H1 s2.heap.objs.size (.lst [])) {s2 with heap:=s2.heap.push {cls:= .type "list",data:= .seq ([]:List Value).toArray},toks:=s2.toks}:=I1.lnew (its:=[]) (ys:=[]) .nil (Fj _)
 have g5:∀ b∈fp,b<(s2.heap.push {cls:= .type "list",data:= .seq ([]:List Value).toArray}).objs.size:=λb hb=>by
  rw[Heap.size_push];exact Hu (gV b hb)
 have n8:∀ b∈fp,FpOk X pins (upd H1 s2.heap.objs.size (.lst [])) b:=λb hb=>⟨by rw[aq (EZ (gV b hb))];exact(f1 b hb).1,(f1 b hb).2⟩
 have kp:∀ b o,(s2.heap.push {cls:= .type "list",data:= .seq ([]:List Value).toArray}).get? b=some o->h₁.get? b=some o:=λb o e=>
  (hsb₁.2 b (EZ (Heap.lt_size e))).trans (Heap.get?_push_of_some _ e)
 have I4:=qW (x:=x) (fp:=fp) (t':=s2.toks+([]:List (Str × Value)).length) I3 S c1 c2 n8 g5 hns₁ kp
 have z7:=jJ (x:=x) (fp:=fp) I3 S c1 c2 n8 g5
 generalize hY:bI X scope cl x {s2 with heap:=s2.heap.push {cls:= .type "list",data:= .seq ([]:List Value).toArray},toks:=s2.toks} (upd H1 s2.heap.objs.size (.lst [])) fp=Y at I4 z7
 have yP:Y.prog=X.prog:=by rw[<- hY];rfl
 have yW:Y.w=X.w:=by rw[<- hY];rfl
 have yK:Y.K=X.K:=by rw[<- hY];rfl
 have yA:Y.A=X.A:=by rw[<- hY];rfl
 have yN:Y.N=X.N.map (λn=>if n=x then("":Str) else n)++[x]:=by rw[<- hY];rfl
 have yE:Y.env=compEnvC scope cl (s2.heap.push {cls:= .type "list",data:= .seq ([]:List Value).toArray}).objs.size X.env:=by rw[<- hY];rfl
 have yX:Y.xe=λ_ _=>False:=by rw[<- hY];rfl
 have yC:Y.calm=true:=by rw[<- hY];exact hc
 have JW:Y.ex=fp:=by rw[<- hY];rfl
 have Lz:Y.pn=[]:=by rw[<- hY];rfl
 have LA:Y.fs=frs X.stack:=by rw[<- hY];rfl
 have LB:Y.H₀=upd H1 s2.heap.objs.size (.lst []):=by rw[<- hY];rfl
 have JX:Y.s₀={s2 with heap:=s2.heap.push {cls:= .type "list",data:= .seq ([]:List Value).toArray},toks:=s2.toks}:=by rw[<- hY];rfl
 have LC:PE Y f9 i8:=by rw[<- hY];exact he _ _ _ _
 have LD:PIf Y g_ tt:=by rw[<- hY];exact hq _ _ _ _
 have g7:∀ {H':Hp},(∀ b∈fp,H' b=none)->∀ b∈fp,FpOk Y [] H' b:=λ{H'} hn b hb=>by
  have h_:b∈Y.ex:=by rw[JW];exact hb
  exact⟨hn b hb,(z7.exf b h_).1,z7.exfs b h_,.inl h_,λn c e=>(z7.exf b h_).2 n c e,by rw[Lz];simp⟩
 have u5:Y.env.scope.names.lookup x=some .local:=by rw[yE];exact lookup_relabel_local S.own
 have JY:Y.N[X.N.length]?=some x:=by rw[yN];simp
 have LF:Y.N.Nodup:=by rw[yN];exact S.nd
 -- pc end of pc JZ
 have q_:Y.env.locals=(s2.heap.push {cls:= .type "list",data:= .seq ([]:List Value).toArray}).objs.size:=by rw[yE];rfl
 have d5:∀ (o:Option V) (H':Hp) (s':Shared),Inv Y [] (σ++[o]) H' s'->Inv X pins σ H' s':=λo H' s' I'=>by
  have bs:=I'.base
  rw[LA,JW,LB,JX] at bs
  refine I3.call' (ch:=fp) ?_ bs ?_ I'.bare ?_
  ·have:=I'.os
   rw[JX] at this
   exact this
  ·have:=I'.hok
   rw[yP,yW] at this
   exact this
  ·exact λb hb=>⟨(n8 b hb).2.2.2.1,(n8 b hb).2.1,(n8 b hb).2.2.2.2.1,(n8 b hb).2.2.2.2.2⟩
 have q8:codeAny (model X.prog X.w) X.A (.compLoop (.ListComp f9 [⟨.Name x px,iter,g_,0⟩] scope pos) 0 (.ref it) (.ref s2.heap.objs.size) (compEnvC scope cl (s2.heap.push {cls:= .type "list",data:= .seq ([]:List Value).toArray}).objs.size X.env))
   (compPost (model X.prog X.w) X.A X.xe (some (assign (.Name y py) X.env)) (λ_ s'=>SP X pins DE .next s') (.ref s2.heap.objs.size) (s2.heap.push {cls:= .type "list",data:= .seq ([]:List Value).toArray}).objs.size)
   {s2 with heap:=h₁,toks:=s2.toks+([]:List (Str × Value)).length}:=by
  refine qV (λn s'=>∃ i o H',Inv Y [] (σ++[o]) H' s'/\tn i s'.heap/\(∀ b∈fp,H' b=none)/\W i n H') ?_ m0 ⟨0,none,_,I4,T.keep _ _ _ st (λb hb ob e=>kp b ob (Heap.get?_push_of_some _ e)),λb hb=>(n8 b hb).1,w0⟩
  rintro n s3 ⟨i,o,H3,I5,t3,f3,w3⟩
  rcases step i n H3 w3 with⟨stop,q⟩|⟨go,q⟩
  ·have dn:=T.done Y yP yW yK yC i [] s3 _ H3 (λ_ _=>False) I5 (g7 f3) t3 stop
   rw[yA] at dn
   refine thn dn λr s4 ⟨hr,I6⟩=>?_
   subst hr
   obtain⟨m,hn,_⟩:=I6.loc
   have y9:=I6.free
   rw[q_] at hn y9
   have IX:=d5 o H3 s4 I6
   show wpAny _ X.A (assign (.Name y py) X.env (.ref s2.heap.objs.size)) _ _ s4
   refine wpAny_assign_Name (ph IX hN J1 hy (v:= .ref s2.heap.objs.size) rfl (λs5 I7 ⟨a,hsb,ha⟩=>?_) hf)
   have J2:(s2.heap.push {cls:= .type "list",data:= .seq ([]:List Value).toArray}).objs.size≠X.env.locals:=FP I3.lt
   have J3:∀ z c,X.env.cells.lookup z=some c->c≠(s2.heap.push {cls:= .type "list",data:= .seq ([]:List Value).toArray}).objs.size:=λz c e=>by
    obtain⟨vv,oo,ho,_⟩:=I3.cell z c e
    exact EZ (Heap.lt_size ho)
   have LK:(s2.heap.push {cls:= .type "list",data:= .seq ([]:List Value).toArray}).objs.size≠a:=by
    rcases ha with e|e
    ·rw[e];exact J2
    ·exact λz=>J3 y a e z.symm
   refine⟨m,hn.sameBut hsb LK,λh' Ja=>⟨_,H3,I7.turned (t':=s5.toks) (it:=(s2.heap.push {cls:= .type "list",data:= .seq ([]:List Value).toArray}).objs.size) (λb ob hb e=>(Ja.2 b hb).trans e) y9 J2 (.inr I3.sz) J3 (λp hp=>?_),q⟩⟩
   exact EZ (Heap.lt_size (I3.pin p hp).1)
  ·have J0:=T.item Y yP yW yK yC i [] s3 _ H3 (λ_ _=>False) I5 (g7 f3) t3 go
   rw[yA] at J0
   refine thn J0 λr s4 ⟨u,hr,h4⟩=>?_
   subst hr
   refine thn h4 λ_ s5 ⟨xv,H5,I6,r5,y5,m8,JF⟩=>?_
   have LG:=I6.pinned (g7 JF) (T.obj _ _ m8)
   rw[<- yE]
   refine wpAny_assign_Name (dW LG LF JY (.inl u5) r5 (λs6 I7=>?_) (.inr u5))
   have IK:(σ++[o]).set X.N.length (some xv)=σ++[some xv]:=by
    rw[<- I.len]
    simp
   rw[IK] at I7
   have tv:=LD _ s6 _ H5 _ I7 (q xv H5 y5)
   rw[yP,yW,yA,yX] at tv
   refine thn tv λb LH ⟨LI,z8,qb⟩=>?_
   cases b with
   |false=>
    obtain⟨m',hm,w7⟩:=qb
    refine⟨m',hm,i+1,some xv,_,z8.unpinned,T.keep _ _ _ m8 λb hb ob e=>(z8.pin (b,ob) (E4 _ (E4 _ (cB hb e)))).1,λb hb=>?_,w7⟩
    obtain⟨ob,e,d⟩:=T.obj _ _ m8 b hb
    exact(z8.pin (b,ob) (E4 _ (E4 _ (cB hb e)))).2.1
   |true=>
   have ev:=LC _ LH _ LI _ z8 qb
   rw[yP,yW,yA,yX] at ev
   refine thn ev λyv s7 ⟨y,H6,I8,ry,vs,LJ,a_,m',hm,w7⟩=>?_
   have ap:=gk (X:=Y) _ s7 _ H6 (.ref s2.heap.objs.size) [y] (.ref s2.heap.objs.size) [yv] (λ_ H7=>H7=upd H6 s2.heap.objs.size (.lst (vs++[y]))) I8 rfl (.cons ry .nil) ⟨_,vs,y,rfl,rfl,LJ,a_,rfl⟩
   rw[yP,yW,yA,yX] at ap
   refine thn ap λ_ s8 ⟨_,H7,I9,_,e7⟩=>?_
   subst e7
   refine⟨m',hm,i+1,some xv,_,I9.unpinned,T.keep _ _ _ m8 λb hb ob e=>(I9.pin (b,ob) (E4 _ (E4 _ (cB hb e)))).1,λb hb=>?_,w7⟩
   obtain⟨ob,e,d⟩:=T.obj _ _ m8 b hb
   exact(I9.pin (b,ob) (E4 _ (E4 _ (cB hb e)))).2.1
 exact codeAny_compStart_list q8 (T.self _ _ _ _ _ (T.keep _ _ _ st (λb hb ob e=>kp b ob (Heap.get?_push_of_some _ e))) q8)
end
end L2
namespace My
theorem RepS.snoc{K:Ex}{B F H:Hp}{z:SD}{s:L2.St}{d:D}{v:V}(h:RepS K B F H z s)(r:Rep K F d v):RepS K B F H (z++[some d]) (s++[some v]):=by
 have no:=r.noown
 have get:∀ {j:Nat} {x:D},(z++[some d])[j]?=some (some x)->(j<z.length/\z[j]?=some (some x))\/(j=z.length/\x=d):=λ{j x} e=>by
  rcases F6 j z.length with q|q
  ·rw[FB q] at e;exact .inl ⟨q,e⟩
  ·rw[FS q] at e
   cases hz:j - z.length with
   |zero=>rw[hz] at e;simp at e;exact .inr ⟨by lia,e.symm⟩
   |succ n=>rw[hz] at e;simp at e
 have lt:∀ {j:Nat},j<z.length->(s++[some v])[j]?=s[j]?:=λ{j} q=>FB (by rw[h.len];exact q)
 refine⟨by rw[EW,EW,h.len];rfl,λj x e nx=>?_,λj ds e=>?_,λj k dj dk a e1 e2 e3 e4=>?_⟩
 ·rcases get e with⟨q,e⟩|⟨q,rfl⟩
  ·rw[lt q];exact h.val j x e nx
  ·exact⟨v,by rw[q,FS (by rw[h.len];exact EL _),h.len];simp,r⟩
 ·rcases get e with⟨q,e⟩|⟨q,e⟩
  ·rw[lt q];exact h.own j ds e
  ·rw[<- e] at no;cases no
 ·rcases get e1 with⟨q,e1⟩|⟨q,e1⟩
  ·rcases get e2 with⟨q2,e2⟩|⟨q2,e2⟩
   ·rw[lt q] at e3;rw[lt q2] at e4;exact h.apart j k dj dk a e1 e2 e3 e4
   ·rw[<- e2] at no;cases no
  ·rw[<- e1] at no;cases no
def okB:Bool->Bool->Prop->Prop->Prop
 |_,true,A,_=>A
 |false,false,_,B=>B
 |true,false,_,_=>False
theorem okF{b:Bool}{A B:Prop}(h1:b=true->A)(h2:b=false->B):okB false b A B:=by
 cases b
 ·exact h2 rfl
 ·exact h1 rfl
def cmpG(nf:Bool)(tt:TDT)(te:TD)(z:SD)(R:D->Prop)(items:List D):Prop:=items.length<=100000/\∃ W:Nat->List D->Prop,W 0 []/\(∀ k x ys,items[k]?=some x->(nf=true->ys.length=k)->W k ys->tt (z++[some x]) λb=>okB nf b (te (z++[some x]) λy=>W (k+1) (ys++[y])) (W (k+1) ys))/\∀ ys,(nf=true->ys.length=items.length)->W items.length ys->R (.lst ys)
def cmpF(tt:TDT)(te:TD)(z:SD)(R:D->Prop)(items:List D):Prop:=items.length<=100000/\∃ W:Nat->List D->Prop,W 0 []/\(∀ k x ys,items[k]?=some x->W k ys->tt (z++[some x]) λb=>okB false b (te (z++[some x]) λy=>W (k+1) (ys++[y])) (W (k+1) ys))/\∀ ys,W items.length ys->R (.lst ys)
def cmpP(te:TD)(z:SD)(R:D->Prop)(items:List D):Prop:=items.length<=100000/\∃ W:Nat->List D->Prop,W 0 []/\(∀ k x ys,items[k]?=some x->ys.length=k->W k ys->te (z++[some x]) λy=>W (k+1) (ys++[y]))/\∀ ys,ys.length=items.length->W items.length ys->R (.lst ys)
def gD(ti:TDI)(te:TD):TD:=λz R=>ti z (cmpP te z R)
def qY(ti:TDI)(tt:TDT)(te:TD):TD:=λz R=>ti z (cmpF tt te z R)
def dT1:TDT:=λ_ R=>R true
abbrev DIf(X:Cx)[Jx](g_:List Expr)(t:TDT):Prop:=PIf X g_ (lT X.K t)
theorem jK{X:Cx}[Jx]:DIf X [] dT1:=pif_nil.anti λs H Q q=>by
 obtain⟨B,F,z,kf,rs,R,h1,h2⟩:=q
 exact h2 true F H (Grow.refl kf.fh) h1
theorem qZ{X:Cx}[Jx]{c:Expr}{t:TDT}(h:DT X c t):DIf X [c] t:=ym h
structure ItIs(K:Ex)(J:It)(F1 H1:Hp)(items:List D):Prop where
 go:∀ k F' H',Grow F1 H1 F' H'->k<items.length->J.go k H'
 yld:∀ k F' H' x H'',Grow F1 H1 F' H'->k<items.length->J.yld k H' x H''->H''=H'/\∃ d,items[k]?=some d/\Rep K F' d x
 stop:∀ F' H',Grow F1 H1 F' H'->J.stop items.length H'
def ItOk[Jx](K:Ex)(wi:TI)(ti:TDI):Prop:=∀ {s:L2.St} {H B F:Hp} {z:SD} {P:List D->Prop} {Q:It->Hp->Prop},Kept B Jx.F0 F H->RepS K B F H z s->ti z P->(∀ items J F1 H1,Grow F H F1 H1->P items->ItIs K J F1 H1 items->Q J H1)->wi s H Q
section
variable {X:Cx}
theorem yo[Jx]{K:Ex}{B F H F1 H1:Hp}{z:SD}{s:L2.St}{Q:VK}{R:D->Prop}{nf:Bool}{tt:TDT}{te:TD}{J:It}{items:List D}(kf:Kept B Jx.F0 F H)(g1:Grow F H F1 H1)(rs:RepS K B F H z s)(h2:∀ D ys us F' H',H D=none->F' D=none->Grow F H F' H'->H' D=some (.lst us)->Reps K F' ys us->R (.lst ys)->Q (.ref D) H')
    (it:ItIs K J F1 H1 items) (hd:cmpG nf tt te z R items):
    ∀ D,H1 D=none->∃ W:Nat->Nat->Hp->Prop,(∃ m,W 0 m (upd H1 D (.lst [])))/\∀ i m H,W i m H->
      (J.stop i H/\Q (.ref D) H)\/(J.go i H/\∀ x H',J.yld i H x H'->lT K tt (s++[some x]) H' λb H1=>if b=true then lE K te (s++[some x]) H1 λy H''=>∃ vs,H'' D=some (.lst vs)/\vs.length<sizeLine/\∃ m',m'<m/\W (i+1) m' (upd H'' D (.lst (vs++[y]))) else ∃ m',m'<m/\W (i+1) m' H1):=by
  intro D hD
  obtain⟨hz,W,w0,b_,out⟩:=hd
  have OV:F1 D=none:=g1.fh.free hD
  have hH:H D=none:=g1.hh.free hD
  refine⟨λk m H'=>m=items.length - k/\k<=items.length/\∃ F' ys us,Grow F1 H1 F' H'/\H' D=some (.lst us)/\F' D=none/\Reps K F' ys us/\(ys.length<=k/\(nf=true->ys.length=k))/\W k ys,
    ⟨items.length,by simp,Fj _,F1,[],[],⟨Same.refl F1,g1.fh.trans (aS hD _),aS hD _,λb h _=>h⟩,aA,OV,reps_nil.mpr rfl,⟨EL _,λ_=>rfl⟩,w0⟩,?_⟩
  rintro k m H' ⟨rfl,hk,F',ys,us,G,hu,hF,ry,hl,w⟩
  by_cases gV:k<items.length
  · refine .inr ⟨it.go k F' H' G gV,λx H'' hy=>?_⟩
    obtain⟨e,d,hd,rd⟩:=it.yld k F' H' x H'' G gV hy
    subst e
    refine⟨B,F',z++[some d],kf.grow (g1.trans G),(rs.grow (g1.trans G)).snoc rd,_,b_ k d ys hd hl.2 w,λb F3 H3 g3 hb=>?_⟩
    have LL:H3 D=some (.lst us):=g3.hh D _ hu
    have NH:F3 D=none:=g3.out D hF (by rw[hu];exact λq=>nomatch q)
    cases b with
    |false=>
      cases nf with
      |true=>exact hb.elim
      |false=>exact⟨items.length - (k+1),by lia,rfl,by lia,F3,ys,us,G.trans g3,LL,NH,ry.mono g3.ff,⟨by lia,λz=>nomatch z⟩,hb⟩
    |true=>
    refine⟨B,F3,z++[some d],(kf.grow (g1.trans G)).grow g3,((rs.grow (g1.trans G)).snoc rd).grow g3,_,(show te _ _ from by cases nf<;>exact hb),λy yv F2 H2 g2 hw rv=>?_⟩
    have OW:H2 D=some (.lst us):=g2.hh D _ LL
    have J4:F2 D=none:=g2.out D NH (by rw[LL];exact λq=>nomatch q)
    have P9:us.length<=k:=by rw[ry.length];exact hl.1
    refine⟨us, OW, by   have:(100000:Nat)<sizeLine:=by decide
                        lia,items.length - (k+1),by lia,rfl,by lia,F2,ys++[y],us++[yv],?_,aA,J4,((ry.mono g3.ff).mono g2.ff).append (eF rv),⟨by simp;lia,λz=>by simp[hl.2 z]⟩,hw⟩
    have GG:=(G.trans g3).trans g2
    refine⟨GG.ff,λb o e=>?_,λb o e=>?_,GG.out⟩
    · have ne:b≠D:=λq=>by rw[q,J4] at e;cases e
      rw[aq ne];exact GG.fh b o e
    · have ne:b≠D:=λq=>by rw[q,hD] at e;cases e
      rw[aq ne];exact GG.hh b o e
  · have ek:k=items.length:=by lia
    subst ek
    exact .inl ⟨it.stop F' H' G,h2 D ys us F' H' hH hF (g1.trans G) hu ry (out ys hl.2 w)⟩
theorem yp{F H F' H':Hp}{D:Addr}{us:List V}(GG:Grow F H F' H')(hu:H' D=some (.lst us))(hF:F' D=none)(hH:H D=none):Grow F H (upd F' D (.lst us)) H':=by
 refine⟨GG.ff.trans (aS hF _),λb o e=>?_,GG.hh,λb h1 h3=>?_⟩
 ·by_cases hb:b=D
  ·subst hb;rw[aA] at e;cases e;exact hu
  ·rw[aq hb] at e;exact GG.fh b o e
 ·have ne:b≠D:=λq=>h3 (q ▸ hH)
  rw[aq ne];exact GG.out b h1 h3
variable {f9 iter:Expr}{g_:List Expr}{x:Str}{px pos:Pos}{scope:Scope}{ti te:TD}{tt:TDT}{wi:TI}{Jb:TDI}
theorem gE[Jx]{K:Ex}{nf:Bool}{G:SD->(D->Prop)->List D->Prop}(hG:∀ z R items,G z R items->cmpG nf tt te z R items)(hI:ItOk K wi Jb){s:L2.St}{H:Hp}{Q:VK}(q:lE K (λz R=>Jb z (G z R)) s H Q):gC wi (lT K tt) (lE K te) s H Q:=by
 obtain⟨B,F,z,kf,rs,R,h1,h2⟩:=q
 exact hI kf rs h1 λitems J F1 H1 g1 hg it=>yo kf g1 rs (λD ys us F' H' hH hF GG hu ry hR=>h2 (.lst ys) (.ref D) _ H' (yp GG hu hF hH) hR (rep_lst.mpr ⟨D,us,rfl,aA,ry.mono (aS hF _)⟩)) it (hG _ _ _ hg)
theorem cmpP.g{z:SD}{R:D->Prop}{items:List D}(h:cmpP te z R items):cmpG true dT1 te z R items:=
 let ⟨hz,W,w0,b_,out⟩:=h
 ⟨hz,W,w0,λk x ys e l w=>b_ k x ys e (l rfl) w,λys l w=>out ys (l rfl) w⟩
theorem cmpF.g{z:SD}{R:D->Prop}{items:List D}(h:cmpF tt te z R items):cmpG false tt te z R items:=
 let ⟨hz,W,w0,b_,out⟩:=h
 ⟨hz,W,w0,λk x ys e _ w=>b_ k x ys e w,λys _ w=>out ys w⟩
theorem itL[Jx]{K:Ex}:ItOk K (pD K (lE K ti)) (dItL ti):=λ{s H B F z P Q} kf rs h1 h2=>by
 refine⟨B,F,z,kf,rs,_,h1,λd v F1 H1 g1 hd rd=>?_⟩
 have key:∀ (items:List D) (p:Addr) (vs:List V),SqL K F1 p vs->Reps K F1 items vs->P items->∃ a,V.ref p= .ref a/\(∃ xs,SqL K H1 a xs)/\Q (Itl K a) H1:=λitems p vs hq rr hd=>by
  refine⟨p,rfl,⟨vs,g1.fh.seq hq⟩,h2 items _ F1 H1 g1 hd ⟨λk F' H' G hk=>?_,λk F' H' x H'' G hk hy=>?_,λF' H' G=>?_⟩⟩
  ·have n9:k<vs.length:=by rw[rr.length];exact hk
   exact⟨vs,vs[k],G.hh.seq (g1.fh.seq hq),by simp[n9]⟩
  ·obtain⟨e,hy⟩:=hy
   obtain⟨d,e2,r2⟩:=rr.get' (hy vs (G.hh.seq (g1.fh.seq hq)))
   exact⟨e,d,e2,r2.mono G.ff⟩
  ·exact⟨vs,G.hh.seq (g1.fh.seq hq),by rw[rr.length];exact EL _⟩
 split at hd
 ·obtain⟨p,vs,rfl,hq,rr⟩:=rep_lst.mp rd
  exact key _ p vs (SqL.of hq) rr hd
 ·obtain⟨p,vs,rfl,hq,rr⟩:=rep_rol.mp rd
  exact key _ p vs hq rr hd
 ·exact hd.elim
theorem itR[Jx]{K:Ex}:ItOk K (pF (gh (lE K ti) tNil)) (dItR ti):=λ{s H B F z P Q} kf rs h1 h2=>by
 refine⟨B,F,z,kf,rs,_,h1,λd v F1 H1 g1 hd rd=>?_⟩
 split at hd
 ·rename_i n
  obtain⟨⟨b1,b2⟩,hd⟩:=hd
  have hl:((EN n.toNat).map λk=>D.int ((k:Nat):Int)).length=n.toNat:=by simp
  refine⟨n,by rw[rep_int.mp rd],by lia,b2,h2 _ _ F1 H1 g1 hd ⟨λk F' H' G hk=>by rw[hl] at hk;exact hk,λk F' H' x H'' G hk hy=>?_,λF' H' G=>by show n.toNat<=_;rw[hl];exact EL _⟩⟩
  rw[hl] at hk
  obtain⟨e,rfl⟩:=hy
  exact⟨e,.int (k:Int),by simp[hk],rep_int.mpr (by congr 1;lia)⟩
 ·exact hd.elim
theorem gG[Jx]{p1 p2:Pos}(hc:X.calm=true)(S:CompScope X scope x)(hm:X.mg "range"=none)(hi:WDE X iter ti)(he:∀ cl s₀ H₀ fp,WDE (bI X scope cl x s₀ H₀ fp) f9 te)(hg:Gl X "range":=by rfl)
  (hs:∀ y,zFS X (.Call (.Name "range" p1) [iter] [] p2) y:=by exact λ_=>rfl) (n6:zSE X iter []:=by rfl) (f7:starEach [iter] X.env=[(false,eval iter X.env)]:=by rfl):WDE X (.ListComp f9 [⟨.Name x px,.Call (.Name "range" p1) [iter] [] p2,[],0⟩] scope pos) (gD (dItR ti) te):=⟨have hi:=hi.out;have he:=λcl s₀ H₀ fp=>(he cl s₀ H₀ fp).out;(pe_comp hc S (fY hg hm (bv hi pa_nil n6) f7) (λ_ _ _ _=>jK) he hs).anti λs H Q q=>gE (λ_ _ _=>cmpP.g) itR q⟩
theorem ra[Jx]{K:Ex}{E:Ends}{s:L2.St}{H:Hp}{ix:Nat}(hI:ItOk K wi Jb)(q:lS K (dSet ix (gD Jb te)) E s H):tAsg (gC wi (lT K dT1) (lE K te)) (fV ix) E s H:=by
 obtain⟨B,F0,F,z,k,rs,ED,⟨P,h,j⟩,e⟩:=q
 exact gE (λ_ _ _=>cmpP.g) hI ⟨B,F,z,k.kf,rs,P,h,λd v F' H' g hd rd=>e.nx _ _ F' H' (k.grow g) (j d hd) ((rs.grow g).set rd)⟩
theorem yq[Jx](ix:Nat){y:Str}{py l8:Pos}(hc:X.calm=true)(S:CompScope X scope x)(hN:X.N.Nodup)(hi:WDE X iter ti)(he:∀ cl s₀ H₀ fp,WDE (bI X scope cl x s₀ H₀ fp) f9 te)(J1:X.N[ix]?=some y:=by rfl)(hy:Loc X.env.scope y:=by first|exact Or.inl rfl|exact Or.inr rfl)
  (hf:zFN X y:=by first|exact .inl rfl|exact .inr rfl|assumption) (z6:swapsWith (.ListComp f9 [⟨.Name x px,iter,[],0⟩] scope pos) (some (.Name y py)) l8.line X.env=pure true:=by rfl) (hs:∀ y,zFS X iter y:=by exact λ_=>rfl):WDS X (.Assign [.Name y py] (.ListComp f9 [⟨.Name x px,iter,[],0⟩] scope pos) l8) (dSet ix (gD (dItL ti) te)):=⟨have hi:=hi.out;have he:=λcl s₀ H₀ fp=>(he cl s₀ H₀ fp).out;(qX hc S (jn hi) (λ_ _ _ _=>jK) he hN J1 hy hf z6 hs).anti λE s H q=>ra itL q⟩
theorem yr[Jx](ix:Nat){y:Str}{py l8 p1 p2:Pos}(hc:X.calm=true)(S:CompScope X scope x)(hN:X.N.Nodup)(hm:X.mg "range"=none)(hi:WDE X iter ti)(he:∀ cl s₀ H₀ fp,WDE (bI X scope cl x s₀ H₀ fp) f9 te)(hg:Gl X "range":=by rfl)(J1:X.N[ix]?=some y:=by rfl)(hy:Loc X.env.scope y:=by first|exact Or.inl rfl|exact Or.inr rfl)
  (hf:zFN X y:=by first|exact .inl rfl|exact .inr rfl|assumption) (z6:swapsWith (.ListComp f9 [⟨.Name x px,.Call (.Name "range" p1) [iter] [] p2,[],0⟩] scope pos) (some (.Name y py)) l8.line X.env=pure true:=by rfl)
  (hs:∀ y,zFS X (.Call (.Name "range" p1) [iter] [] p2) y:=by exact λ_=>rfl) (n6:zSE X iter []:=by rfl) (f7:starEach [iter] X.env=[(false,eval iter X.env)]:=by rfl):WDS X (.Assign [.Name y py] (.ListComp f9 [⟨.Name x px,.Call (.Name "range" p1) [iter] [] p2,[],0⟩] scope pos) l8) (dSet ix (gD (dItR ti) te)):=⟨have hi:=hi.out;have he:=λcl s₀ H₀ fp=>(he cl s₀ H₀ fp).out;(qX hc S (fY hg hm (bv hi pa_nil n6) f7) (λ_ _ _ _=>jK) he hN J1 hy hf z6 hs).anti λE s H q=>ra itR q⟩
end
def eK(scope fsc:Scope):List (Str × NameKind):=scope.names.map λ(n,k)=>if(k==NameKind.free && fsc.kind== .function && fsc.names.lookup n==some .cell) then(n,NameKind.cell) else(n,k)
def visB(l:List (Str × NameKind))(n:Str):Bool:=l.lookup n==some .local||l.lookup n==some .cell||l.lookup n==some .free
def cv(scope fsc:Scope)(N:List Str)(x:Str):Bool:=
 scope.kind== .function && scope.names.all (λy=>!(y.2== .cell)) && scope.names.all (λy=>!(y.2== .local)||scope.names.lookup y.1==some .local) && scope.names.lookup x==some .local &&
 scope.names.all (λy=>!(y.2== .free)||fsc.names.lookup y.1==some .cell) && N.all (λn=>decide (n=x)||!visB (eK scope fsc) n||scope.names.any (λy=>decide (y=(n,NameKind.free)))) && !visB (eK scope fsc) "" &&
 scope.names.all (λy=>!(y.2== .free)||(eK scope fsc).lookup y.1==some .cell) && decide (N.map (λn=>if n=x then("":Str) else n)++[x]).Nodup
theorem rb{l:List (Str × NameKind)}{n:Str}(h:l.lookup n=some .local\/l.lookup n=some .cell\/l.lookup n=some .free):visB l n=true:=by
 unfold visB
 rcases h with h|h|h<;>rw[h]<;>rfl
theorem compScope{X:Cx}{scope:Scope}{x:Str}(h:cv scope X.env.scope X.N x=true):CompScope X scope x:=by
 unfold cv at h
 simp only[Fg] at h
 obtain⟨⟨⟨⟨⟨⟨⟨⟨h1,h2⟩,h3⟩,h4⟩,h5⟩,h6⟩,h7⟩,h8⟩,h9⟩:=h
 have er:(relabel scope X.env).names=eK scope X.env.scope:=rfl
 refine⟨by simpa using h1,λy hy=>?_,λy hy e=>?_,by simpa using h4,λn hn=>?_,λn hn ne v=>?_,λv=>?_,λn hn=>?_,of_decide_eq_true h9⟩
 ·have:=FK.mp h2 y hy
  simpa using this
 ·have:=FK.mp h3 y hy
  rw[e] at this
  simpa using this
 ·have:=FK.mp h5 _ hn
  show X.env.scope.names.lookup n=some .cell
  simpa using this
 ·have:=FK.mp h6 n hn
  have v':visB (eK scope X.env.scope) n=true:=rb v
  rw[v'] at this
  simp[ne] at this
  exact this
 ·have v':visB (eK scope X.env.scope) ""=true:=rb v
  rw[v'] at h7
  cases h7
 ·have:=FK.mp h8 _ hn
  rw[er]
  simpa using this
def putD(f:Str)(v:D):List (Str × D)->List (Str × D)
 |[]=>[(f,v)]
 |(g,x)::r=>if g=f then(g,v)::r else(g,x)::putD f v r
theorem RepF.put{K:Ex}{F:Hp}{f:Str}{d:D}{v:V}(r:Rep K F d v):∀ {fs:List (Str × D)} {ws:List (Str × V)},RepF K F fs ws->RepF K F (putD f d fs) (putF f v ws)
 |[],ws,h=>by
  rw[repf_nil.mp h]
  exact repf_cons.mpr ⟨v,[],rfl,r,repf_nil.mpr rfl⟩
 |(g,x)::fs,ws,h=>by
  obtain⟨w,IL,rfl,h1,h2⟩:=repf_cons.mp h
  unfold putD putF
  by_cases e:g=f
  ·rw[if_pos e,if_pos e]
   exact repf_cons.mpr ⟨v,IL,rfl,r,h2⟩
  ·rw[if_neg e,if_neg e]
   exact repf_cons.mpr ⟨w,_,rfl,h1,RepF.put r h2⟩
theorem RepF.length{K:Ex}{F:Hp}:∀ {fs:List (Str × D)} {ws:List (Str × V)},RepF K F fs ws->ws.length=fs.length
 |[],ws,h=>by rw[repf_nil.mp h];rfl
 |(g,x)::fs,ws,h=>by
  obtain⟨w,IL,rfl,h1,h2⟩:=repf_cons.mp h
  rw[EQ,EQ,RepF.length h2]
def ClsA(K:Ex)(x f:Str):Prop:=∃ C,nsIn K mainGlobals x=some (some (.ref C))/\Cls K C/\NoAttr K C f
section
variable {X:Cx}{a b c e:Expr}{ta tb tc te:TD}{pos:Pos}
def dFld(x f:Str)(te:TD):TD:=λz R=>te z λd=>match d with| .obj y fs=>y=x/\∃ d,fs.lookup f=some d/\R d|_=>False
theorem jL[Jx]{x f:Str}(h:ClsA X.K x f)(he:WDE X e te)(hb:attributeBase e f X.env (eval e X.env)=eval e X.env:=by rfl):WDE X (.Attribute e f pos) (dFld x f te):=⟨have he:=he.out;(pU he hb).anti λs H Q q=>by
 obtain⟨C,hn,hc,hf⟩:=h
 obtain⟨B,F,z,kf,rs,R,h1,h2⟩:=q
 have fh:=kf.fh
 refine⟨B,F,z,kf,rs,_,h1,λd u F1 H1 g1 hx rx=>?_⟩
 split at hx
 ·obtain⟨rfl,d,hl,hR⟩:=hx
  obtain⟨a,C',dx,vs,rfl,k8,q,r⟩:=rep_obj.mp rx
  rw[hn] at k8
  cases k8
  obtain⟨v,l,rv⟩:=r.look hl
  exact⟨a,C,dx,vs,v,rfl,g1.fh _ _ q,hc,hf,l,h2 d v F1 H1 g1 hR rv⟩
 ·exact hx.elim⟩
theorem rg[Jx]{x:Str}{d:D}{v:V}{u:Value}(hm:X.mg x=some u)(r:RelV v u)(rd:∀ H,Rep X.K H d v)(hg:Gl X x:=by rfl)(hd:zND x:=by decide):DE X (.Name x pos) (dC d):=de_c (vb hg hm r hd) rd
theorem eL[Jx]{x:Str}{i:Int}(h:∃ t,X.mg x=some (.int i t))(hg:Gl X x:=by rfl)(hd:zND x:=by decide):WDE X (.Name x pos) (dC (.int i)):=⟨by
 obtain⟨t,h⟩:=h
 exact rg (v:= .int i) h ⟨t,rfl⟩ (λ_=>rep_int.mpr rfl) hg hd⟩
theorem gH[Jx]{x y:Str}(h:∃ t,X.mg x=some (.str y t))(hg:Gl X x:=by rfl)(hd:zND x:=by decide):WDE X (.Name x pos) (dC (.str y)):=⟨by
 obtain⟨t,h⟩:=h
 exact rg (v:= .str y) h ⟨t,rfl⟩ (λ_=>rep_str.mpr rfl) hg hd⟩
structure ClsI(K:Ex)(mg:Str->Option Value)(x:Str)(C:Addr):Prop where
 ns:nsIn K mainGlobals x=some (some (.ref C))
 mg:mg x=some (.ref C)
 cl:Cls K C
 ha:EV K (.ref C) "__class__"=some (some (.builtin "object.__class__"))
 hn:specialIn K (.builtin "object.__class__") "__get__"=some (some (.builtin "getset_descriptor.__get__"))
 htk:takesIn K (.builtin "object.__class__")=some true
 hm:FY K C (.type "object")=some true
 self:kitOne K (.ref C) (.ref C)=some true
end
abbrev SiD:=List D->(List (Str × D)->Prop)->Prop
def lSi(K:Ex)(C:Addr)(S:SiD):Sp:=λvs H Q _=>∃ a dx us H1 F ds,vs= .ref a::us/\H=upd (upd H1 dx (.own a)) a (.ins C dx [])/\H1 a=none/\H1 dx=none/\dx≠a/\Same F H1/\Reps K F ds us/\
 ∃ R:List (Str × D)->Prop,S ds R/\∀ fs ws z9 F' H',Grow F H1 F' H'->R fs->H' a=some (.ins C z9 ws)->F' a=none->RepF K F' fs ws->Q .non H'
def CalM(P:Program)(w:World)(K:Ex)(mg:Str->Option Value)(base:Heap)(n:Nat)(x:Str)(ps:List Str)(S:SiD):Prop:=
 ∃ C f fd,nsIn K mainGlobals x=some (some (.ref C))/\mg x=some (.ref C)/\Mk K C f/\FnOk P w K mg base (Exc.CX1 P w) n f fd ps (lSi K C S)/\Binds K fd ps []
def yt(x:Str)(S:SiD)(t:TDA):TD:=λz R=>t z λds=>S ds λfs=>R (.obj x fs)
theorem jM[Jx]{X:Cx}{pos:Pos}{n m:Nat}{ps:List Str}{S:SiD}{x:Str}{p:Pos}{e:Expr}{es:List Expr}{t:TDA}(M:CalM X.prog X.w X.K X.mg X.base n x ps S)(hr:Room m X.A)(ha:WDA X (e::es) t)(hg:Gl X x:=by rfl)(hn:n+1<=m:=by decide)(d7:zND x:=by decide)
  (he:zSE X e es:=by rfl) (b9:zPL X pos es:=by rfl):WDE X (.Call (.Name x p) (e::es) [] pos) (yt x S t):=⟨by
 have ha:=ha.out
 obtain⟨C,f,fd,hns,k_,mk,F,hb⟩:=M
 refine(ju mk F (hr.mono hn) hg k_ hb .nil fA ha d7 he b9).anti λs H Q q=>?_
 obtain⟨B,F,z,kf,rs,R,h1,h2⟩:=q
 have fh:=kf.fh
 refine⟨B,F,z,kf,rs,_,h1,λds vs F1 H1 g1 hx rx=>?_⟩
 intro a dx ha u6 i9
 refine⟨a,dx,vs,H1,F1,ds,by rw[Fx],rfl,ha,u6,i9,g1.fh,rx,_,hx,λfs ws z9 F' H' g hR f8 i6 rf=>⟨rfl,?_⟩⟩
 have s1:Same F' (upd F' a (.ins C z9 ws)):=aS i6 _
 refine h2 (.obj x fs) (.ref a) (upd F' a (.ins C z9 ws)) H' ⟨(g1.ff.trans g.ff).trans s1,λb o q=>?_,g1.hh.trans g.hh,λb q1 q2=>?_⟩ hR (rep_obj.mpr ⟨a,C,z9,ws,rfl,hns,aA,RepF.mono s1 fs ws rf⟩)
 ·by_cases hb:b=a
  ·subst hb;rw[aA] at q;cases q;exact f8
  ·rw[aq hb] at q;exact g.fh b o q
 ·by_cases hb:b=a
  ·subst hb
   exact absurd (g1.hh.free ha) q2
  ·rw[aq hb]
   exact(g1.trans g).out b q1 q2⟩
abbrev TID:=SD->List (Str × D)->(List (Str × D)->Prop)->Prop
def lI(K:Ex)[J:Jx](x:Str)(t:TID):TS:=λE σ H=>∃ C a dx ws F z fs,nsIn K mainGlobals x=some (some (.ref C))/\σ[0]?=some (some (.ref a))/\H a=some (.ins C dx ws)/\J.B a=none/\F a=none/\Kept J.B J.F0 F H/\RepS K J.B F H z σ/\RepF K F fs ws/\
 ∃ R:List (Str × D)->Prop,t z fs R/\∀ o_ IL F' H',Kept J.B J.F0 F' H'->R o_->H' a=some (.ins C dx IL)->F' a=none->RepF K F' o_ IL->E.nx σ H'
abbrev DI(X:Cx)[Jx](x:Str)(st:List Stmt)(t:TID):Prop:=PSs X st (lI X.K x t)
structure WDI(X:Cx)[Jx](x:Str)(st:List Stmt)(t:TID):Prop where
 out:DI X x st t
section
variable {X:Cx}{x f:Str}{e:Expr}{te:TD}{pos c8 p:Pos}{rest:List Stmt}{tr:TID}
def rh:TID:=λ_ fs R=>R fs
def yu(f:Str)(te:TD)(tr:TID):TID:=λz fs R=>te z λd=>fs.length<1000/\tr z (putD f d fs) R
theorem dH[Jx]:WDI X x [] rh:=⟨pss_nil.anti λE s H q=>by
 obtain⟨C,a,dx,ws,F,z,fs,hn,h0,f8,z_,i6,g,rs,rf,R,hR,k⟩:=q
 exact k fs ws F H g hR f8 i6 rf⟩
theorem RepS.other{K:Ex}{B F H:Hp}{z:SD}{σ:L2.St}{a:Addr}{o o':HO}(rs:RepS K B F H z σ)(h:H a=some o)(hl:∀ vs,o≠.lst vs):RepS K B F (upd H a o') z σ:=
 ⟨rs.len,rs.val,λi ds e=>by
  obtain⟨b,vs,q1,q2,q⟩:=rs.own i ds e
  have ne:b≠a:=by
   rintro rfl
   rw[h] at q2
   cases q2
   exact hl vs rfl
  exact⟨b,vs,q1,by rw[aq ne];exact q2,q⟩,rs.apart⟩
theorem bJ[J:Jx]{ps:Pos}{sx:Str}(hA:ClsA X.K x f)(he:WDE X e te)(hr:WDI X x rest tr)(hN:X.N[0]?=some sx:=by rfl)(hv:Vis X.env.scope sx:=by first|exact Or.inl rfl|exact Or.inr (Or.inl rfl)|exact Or.inr (Or.inr rfl))(hd:zND sx:=by decide)
  (g9:zNC sx:=by decide) (hs:swapsWith e (some (.Attribute (.Name sx ps) f c8)) pos.line X.env=pure false:=by rfl):WDI X x (.Assign [.Attribute (.Name sx ps) f c8] e pos::rest) (yu f te tr):=⟨have he:=he.out;have hr:=hr.out;(fu (pV (fq (i:=0) hN hv hd g9) he hs) hr).anti λE s H q=>by
 obtain⟨C,a,dx,ws,F,z,fs,hn,h0,f8,z_,i6,g,rs,rf,R,hR,k⟩:=q
 obtain⟨C',k8,hc,hf⟩:=hA
 rw[hn] at k8
 cases k8
 refine⟨_,F,z,g,rs,_,hR,λd v F2 H2 g2 hx rv=>?_⟩
 have k2:=g.grow g2
 have NI:=g2.hh a _ f8
 have J4:F2 a=none:=g2.out a i6 (by rw[f8];exact λz=>nomatch z)
 refine⟨.ref a,h0,a,C,dx,ws,rfl,NI,hc,hf,by rw[rf.length];exact hx.1,?_⟩
 have OX:Same F2 (upd H2 a (.ins C dx (putF f v ws))):=λb o q=>by
  have ne:b≠a:=by rintro rfl;rw[J4] at q;cases q
  rw[aq ne];exact g2.fh b o q
 have w_:Same J.B (upd H2 a (.ins C dx (putF f v ws))):=λb o q=>by
  have ne:b≠a:=by rintro rfl;rw[z_] at q;cases q
  rw[aq ne];exact k2.bh b o q
 exact⟨C,a,dx,putF f v ws,F2,z,putD f d fs,hn,h0,aA,z_,J4,⟨w_,OX,k2.f0,k2.out,k2.eb,k2.jf,k2.jo⟩,(rs.grow g2).other NI (λ_ z=>nomatch z),RepF.put rv (RepF.mono g2.ff fs ws rf),R,hx.2,k⟩⟩
end
section
variable {P:Program}{w:World}{K:Ex}{mg:Str->Option Value}{base:Heap}
theorem ri{K:Ex}{B F H:Hp}{z:SD}{σ:L2.St}{v:V}(rs:RepS K B F H z σ):RepS K B F H (none::z) (some v::σ):=
  ⟨by rw[EQ,EQ,rs.len],λi d e no=>by
    cases i with
    |zero=>cases e
    |succ i=>exact rs.val i d e no,λi ds e=>by
    cases i with
    |zero=>cases e
    |succ i=>exact rs.own i ds e,λi j di dj a e1 e2 e3 e4=>by
    cases i with
    |zero=>cases e1
    |succ i=>
      cases j with
      |zero=>cases e2
      |succ j=>rw[rs.apart i j di dj a e1 e2 e3 e4]⟩
theorem Cls.okI{x qual:Str}{st:Stmt}{f C:Addr}{fd:FuncData}{N:List Str}{p0:Str}{ps:List Str}{k:Nat}{S:SiD}(T:Fun K "__init__" qual st f fd)(hb:Binds K fd (p0::ps) [])(F:FnScope (p0::N) (p0::ps) (ag st))(len:∀ ds R,S ds R->ds.length=ps.length)
  (hns:nsIn K mainGlobals x=some (some (.ref C))) (k_:mg x=some (.ref C)) (mk:Mk K C f)
  (a9:∀ (cdv:Value) (A:Around) (outer:List Env) (s:Shared) (H:Hp) (E:XK) (J:Jx),Room k (A.deeper (envOfC qual (ag st) s.heap.objs.size f cdv))->
   ∃ t,DI (cxOf (Exc.CX1 P w) P w K mg base (p0::N) qual (ag st) f cdv A outer s H E).nox x (aJ st) t/\∀ ds R,S ds R->t (none::startD N ds) [] R):CalM P w K mg base (k+1) x (p0::ps) S:=by
 refine⟨C,f,fd,hns,k_,mk,Fun.okC T F (λvs H Q E h=>?_) (λcdv A outer s H vs Q E hr h=>?_),hb⟩
 ·obtain⟨a,dx,us,H1,F,ds,rfl,_,_,_,_,_,rs,R,h,_⟩:=h
  rw[EQ,EQ,rs.length,len ds R h]
 ·obtain⟨a,dx,us,H1,F1,ds,rfl,rfl,ha,u6,i9,fh,rs,R,h,q⟩:=h
  letI:Jx:=⟨H1,F1,λ_ _ _=>False⟩
  obtain⟨t,ht,hq⟩:=a9 cdv A outer s _ E inferInstance hr
  have Fa:F1 a=none:=fh.free ha
  have hl:L2.start (p0::N) (.ref a::us)=some (.ref a)::L2.start N us:=by
   unfold L2.start
   rw[EY,EQ,EQ,Hv];rfl
  have s1:Same H1 (upd (upd H1 dx (.own a)) a (.ins C dx [])):=(aS u6 _).trans (aS (by rw[aq (Ne.symm i9)];exact ha) _)
  refine⟨_,ht.nox,C,a,dx,[],F1,none::startD N ds,[],hns,by rw[hl];rfl,aA,ha,Fa,⟨s1,fh.trans s1,Same.refl F1,λ_ h _=>h,rfl,Same.refl F1,λ_ h _=>h⟩,?_,repf_nil.mpr rfl,R,hq ds R h,λo_ IL F' H' g hR f8 i6 rf=>q o_ IL dx F' H' ⟨g.f0,g.fh,g.bh,g.out⟩ hR f8 i6 rf⟩
  rw[hl]
  exact ri (dZ rs)
end
section
variable {X:Cx}{a b c e:Expr}{ta tb tc te:TD}{pos:Pos}
def rj(t u:TD):TDI:=λz R=>t z λx=>u z λy=>match x,y with| .int i,.int j=>(-(2 ^ 62)<=i/\i<2 ^ 62/\-(2 ^ 62)<=j/\j<2 ^ 62)/\R ((EN (j - i).toNat).map λk=>D.int (i+((k:Nat):Int)))|_,_=>False
theorem RepS.change[Jx]{K:Ex}{B F0 F H:Hp}{z:SD}{s:L2.St}{i:Nat}{ds LM:List D}{a:Addr}{p9:List V}(rs:RepS K B F H z s)(k:Kept B F0 F H)(ez:z[i]?=some (some (.own ds)))(q1:s[i]?=some (some (.ref a)))(hB:B a=none)(hF:F a=none)(r:Reps K F LM p9):
  Kept B F0 F (upd H a (.lst p9))/\RepS K B F (upd H a (.lst p9)) (z.set i (some (.own LM))) s:=by
 have same:∀ {G:Hp},G a=none->Same G H->Same G (upd H a (.lst p9)):=λ{G} ga gs b o eb=>by
  have ne:b≠a:=λz=>by rw[z,ga] at eb;cases eb
  rw[aq ne];exact gs b o eb
 have r2:=rs.setOwn (i:=i) (a:=a) (vs:=p9) (ds:=LM) hB hF r (λj dj hj e1 e2=>hj (rs.apart j i dj ds a e1 ez e2 q1))
 have es:s.set i (some (.ref a))=s:=by
  apply Gv
  intro n
  by_cases hn:i=n
  ·subst hn
   rw[FA (E7.mp q1).1,q1]
  ·rw[Fb hn]
 rw[es] at r2
 exact⟨⟨same hB k.bh,same hF k.fh,k.f0,k.out,k.eb,k.jf,k.jo⟩,r2⟩
end
end My
namespace My
open Exc
abbrev XD:=Str->List (Str × D)->Prop
def ErrD(K:Ex)(F:Hp)(x:Str)(fs:List (Str × D))(C:Addr)(od:Option Addr):Prop:=
 nsIn K mainGlobals x=some (some (.ref C))/\∃ vs,RepF K F fs vs/\((od=none/\vs=[])\/∃ b,od=some b/\F b=some (.xd vs))
abbrev SpX:=List D->(D->Prop)->XD->Prop
def lSpX(K:Ex)(S:SpX):Sp:=λvs H Q E=>∃ F ds,Same F H/\Reps K F ds vs/\∃ (R:D->Prop) (RX:XD),S ds R RX/\(∀ d v F' H',Grow F H F' H'->R d->Rep K F' d v->Q v H')/\
 ∀ x fs C od F' H',Grow F H F' H'->RX x fs->ErrD K F' x fs C od->E (.ref C) od H'
def Exd(X:Cx)(H:Hp)(s:Shared)(e C:Addr)(od:Option Addr):Prop:=
  H e=none/\X.s₀.heap.get? e=none/\(∀ p∈X.pn,p.1≠e)/\
  ((∃ sl vs,s.heap.get? e=some ⟨.ref C,od,.fields vs,sl⟩/\vs[1]?=some .none)\/
    ∃ T,ExAt s.heap e C od T .none/\X.s₀.heap.get? T=none/\H T=none/\∀ p∈X.pn,p.1≠T)
def XOk(X:Cx)[J:Jx]:Prop:=∀ (σ:L2.St) (z:SD) (F H:Hp) (s:Shared) (e C:Addr) (od:Option Addr) (x:Str) (fs:List (Str × D)),Inv X [] σ H s->Kept J.B J.F0 F H->RepS X.K J.B F H z σ->J.RX z x fs->ErrD X.K F x fs C od->Exd X H s e C od->X.xe (.ref e) s
theorem Inv.nopins{X:Cx}{pins:List (Addr × Obj)}{σ:L2.St}{H:Hp}{s:Shared}(I:Inv X pins σ H s):Inv X [] σ H s:=I.pins_of λp hp=>by cases hp
section
variable {X:Cx}{k:Nat}{f:Addr}{fd:FuncData}{ps:List Str}{sp:Sp}{E:XK}
theorem gI{pins:List (Addr × Obj)}{σ:L2.St}{H:Hp}{s:Shared}{Q:VK}{us:List Value}{vs:List V}(F:FnOk X.prog X.w X.K X.mg X.base (CX1 X.prog X.w) k f fd ps sp)(hr:Room k X.A)(hb:Binds X.K fd ps [])
  (hx:∀ e s',CX1 X.prog X.w X.stack H s E e s'->X.xe e s') (I:Inv X pins σ H s) (r:Vals vs us) (h:sp vs H Q E):wpAny (model X.prog X.w) X.A (call (.ref f) us) (EP X pins σ Q) X.xe s:=by
 have hl:us.length=ps.length:=by rw[<- L2.Vals.length r];exact F.len _ _ _ _ h
 have h_:=hb s us I.kIn (by rw[Fx];exact hl)
 rw[Fx] at h_
 refine wpAny_call (codeAny_mono (F.run X.A X.stack s H ⟨us,[]⟩ us vs Q E hr I.env0 h_ r h) λr s' hq=>?_)
 cases r with
 |error e=>exact hx e s' hq
 |ok fl=>
  cases fl with
  |ret u=>exact I.after hq
  |next=>exact False.elim hq
  |brk=>exact False.elim hq
  |cont=>exact False.elim hq
end
theorem cL{X:Cx}{pins:List (Addr × Obj)}{σ:L2.St}{H:Hp}{s:Shared}{b:Addr}(I:Inv X pins σ H s)(f6:X.ex=[])(q:s.heap.get? b=none):X.s₀.heap.get? b=none:=by
 cases z:X.s₀.heap.get? b with
 |none=>rfl
 |some o=>
  obtain⟨o',z'⟩:=I.base.there b o z (by rw[f6];simp)
  rw[q] at z';cases z'
theorem pn_free{X:Cx}{pins:List (Addr × Obj)}{σ:L2.St}{H:Hp}{s:Shared}{b:Addr}(I:Inv X pins σ H s)(q:s.heap.get? b=none):∀ p∈X.pn,p.1≠b:=λp hp z=>by
 have:=(I.pin p (FG _ hp)).1
 rw[z,q] at this;cases this
theorem XOk.out{X:Cx}[J:Jx](hx:XOk X)(f6:X.ex=[]){pins:List (Addr × Obj)}{σ:L2.St}{z:SD}{H:Hp}{s s':Shared}{ev:Value}(I:Inv X pins σ H s)
  (h:CX1 X.prog X.w X.stack H s (λCv od H'=>∃ x fs C F',Cv= .ref C/\Kept J.B J.F0 F' H'/\RepS X.K J.B F' H' z σ/\J.RX z x fs/\ErrD X.K F' x fs C od) ev s'):X.xe ev s':=by
 obtain⟨e,C,od,T,H',rfl,x_,hb,un,hok,LN,ne,nT,He,HT,x,fs,C',F',hC,kk,rr,hR,er⟩:=h
 cases hC
 have I':Inv X pins σ H' s':=I.call' x_ un hok hb (λb z=>absurd z (by simp))
 exact hx σ z F' H' s' e C od x fs (Inv.nopins I') kk rr hR er ⟨He,cL I f6 ne,pn_free I ne,.inr ⟨T,LN,cL I f6 nT,HT,pn_free I nT⟩⟩
abbrev CalX(P:Program)(w:World)(K:Ex)(mg:Str->Option Value)(base:Heap)(n:Nat)(x:Str)(ps:List Str)(S:SpX):Prop:=Cal P w K mg base n x ps (lSpX K S)
def yw[J:Jx](S:SpX)(t:TDA):TD:=λz R=>t z λds=>S ds R (J.RX z)
theorem yx{X:Cx}[J:Jx]{pos:Pos}{n m:Nat}{ps:List Str}{S:SpX}{x:Str}{p:Pos}{e:Expr}{es:List Expr}{t:TDA}(C:CalX X.prog X.w X.K X.mg X.base n x ps S)(hx:XOk X)(hr:Room m X.A)(ha:WDA X (e::es) t)(f6:X.ex=[]:=by rfl)(hg:Gl X x:=by rfl)(hn:n<=m:=by decide)(d7:zND x:=by decide)
  (he:zSE X e es:=by rfl) (b9:zPL X pos es:=by rfl):WDE X (.Call (.Name x p) (e::es) [] pos) (yw S t):=⟨by
 have ha:=ha.out
 obtain⟨f,fd,F,hb,hk,hm⟩:=C
 intro pins s σ H Q I h
 obtain⟨B,Fr,z,kf,rs,R,h1,h2⟩:=h
 obtain rfl:B=J.B:=kf.eb
 refine wpAny_Call_Name_kw (cJ I hg hm ?_ d7)
 refine callWith_K (h₀:=X.base) I.ok.mod.kin hk (thn (ha pos pins s σ H (λvs H1=>lSpX X.K S vs H1 Q (λCv od H'=>∃ x fs C F',Cv= .ref C/\Kept J.B J.F0 F' H'/\RepS X.K J.B F' H' z σ/\J.RX z x fs/\ErrD X.K F' x fs C od)) I ⟨_,Fr,z,kf,rs,_,h1,λds vs F1 H1 g1 hx rx=>?_⟩) λus s1 ⟨vs,H1,I1,r,q⟩=>⟨I1.kIn,?_⟩) he b9
 ·exact⟨F1,ds,g1.fh,rx,R,J.RX z,hx,λd v F' H' g=>h2 d v F' H' (g1.trans g),λx fs C od F' H' g hR er=>⟨x,fs,C,F',rfl,(kf.grow g1).grow g,(rs.grow g1).grow g,hR,er⟩⟩
 ·exact gI F (hr.mono hn) hb (λe s' hq=>hx.out f6 I1 hq) I1 r q⟩
section
variable {P:Program}{w:World}{K:Ex}{mg:Str->Option Value}{base:Heap}
theorem rk{N:List Str}{qual:Str}{scope:Scope}{f:Addr}{cd:Value}{A:Around}{outer:List Env}{s:Shared}{H:Hp}{E':XK}{pins:List (Addr × Obj)}{σ:L2.St}{H':Hp}{s':Shared}{e C T:Addr}{od:Option Addr}
  (I':Inv (cxOf (CX1 P w) P w K mg base N qual scope f cd A outer s H E') pins σ H' s') (hx:ExAt s'.heap e C od T .none) (ne:s.heap.get? e=none) (nT:s.heap.get? T=none) (He:H' e=none) (HT:H' T=none) (hE:E' (.ref C) od H'):
  (cxOf (CX1 P w) P w K mg base N qual scope f cd A outer s H E').xe (.ref e) s':=by
 show wpAny _ _ (leaving _ _) _ _ _
 unfold leaving
 refine wpAny_bind (xk I'.ok.frames I'.stack rfl hx λh2 T2 JQ JR Iz=>qv (s:={s' with heap:=h2}) JQ λh3 Lx Ic=>?_)
 have JS:s'.heap.get? T2=none:=Heap.get?_none_of_le JR
 have f1:∀ b,s'.heap.get? b=none->s.heap.get? b=none:=λb q=>cL I' rfl q
 have hok:HOk P w H' s'.heap:=I'.hok
 have JT:H' T2=none:=hok.fresh JR
 have OY:∀ b∈[T,e],s.heap.get? b=none:=λb hb=>by
  rcases EO.mp hb with z|z
  ·rw[z];exact nT
  ·rw[EM.mp z];exact ne
 have u2:Un (frs outer) [] H H' s.heap h2:=gq (show Un (frs outer) [] H H' s.heap s'.heap from I'.base) Iz OY λb hb=>qw hb
 have u3:Un (frs outer) [] H H' s.heap h3:=gq u2 Ic (λb hb=>by rw[EM.mp hb];exact f1 T2 JS) λb hb=>by cases hb
 have k2:=gp hok Iz (λb hb=>I'.stkFree b hb) (λb hb=>by
  rcases EO.mp hb with z|z
  ·rw[z];exact HT
  ·rw[EM.mp z];exact He)
 have k3:=gp k2 Ic (λb hb=>by cases hb) (λb hb=>by rw[EM.mp hb];exact JT)
 exact⟨e,C,od,T2,H',rfl,I'.os,I'.bare,u3,k3,Lx,ne,f1 T2 JS,He,JT,hE⟩
theorem _root_.L2.Fun.okX{x:Str}{st:Stmt}{f:Addr}{fd:FuncData}{N ps:List Str}{k:Nat}{S:SpX}(T:Fun K x x st f fd)(F:FnScope N ps (ag st))(len:∀ ds R RX,S ds R RX->ds.length=ps.length)
  (a9:∀ (cdv:Value) (A:Around) (outer:List Env) (s:Shared) (H:Hp) (E:XK) (J:Jx),Room k (A.deeper (envOfC x (ag st) s.heap.objs.size f cdv))->XOk (cxOf (CX1 P w) P w K mg base N x (ag st) f cdv A outer s H E)->
   ∃ t,DSs (cxOf (CX1 P w) P w K mg base N x (ag st) f cdv A outer s H E) (aJ st) t/\∀ ds R RX,(∀ z,J.RX z=RX)->S ds R RX->t {nx:=λ_=>R .non,rt:=R} (startD N ds)):FnOk P w K mg base (CX1 P w) (k+1) f fd ps (lSpX K S):=by
 refine Fun.okC T F (λvs H Q E h=>?_) (λcdv A outer s H vs Q E hr h=>?_)
 ·obtain⟨F,ds,fh,rs,R,RX,h,_⟩:=h
  rw[rs.length];exact len ds R RX h
 ·obtain⟨F,ds,fh,rs,R,RX,h,q,qx⟩:=h
  letI:Jx:=⟨H,F,λ_=>RX⟩
  have hx:XOk (cxOf (CX1 P w) P w K mg base N x (ag st) f cdv A outer s H E):=by
   intro σ z F' H' s' e C od y fs I kk rr hR er ⟨He,ne,_,hx⟩
   have hE:E (.ref C) od H':=qx y fs C od F' H' ⟨kk.f0,kk.fh,kk.bh,kk.out⟩ hR er
   rcases hx with⟨sl,vs,h1,h2⟩|⟨T,h1,h2,h3,_⟩
   ·exact qy I h1 h2 He ne hE
   ·exact rk I h1 ne h2 He h3 hE
  obtain⟨t,ht,hq⟩:=a9 cdv A outer s H E inferInstance hr hx
  refine⟨_,ht,H,F,F,startD N ds,⟨Same.refl H,fh,Same.refl F,λ_ h _=>h,rfl,Same.refl F,λ_ h _=>h⟩,dZ rs,_,hq ds R RX (λ_=>rfl) h,⟨λz' s' F' H' k hn _=>q _ _ F' H' ⟨k.f0,k.fh,k.bh,k.out⟩ hn (rep_non.mpr rfl),λd v F' H' k hd rd=>q d v F' H' ⟨k.f0,k.fh,k.bh,k.out⟩ hd rd,λ_ _ _ _ _ h _=>h.elim,λ_ _ _ _ _ h _=>h.elim⟩⟩
theorem Tx.okX{x:Str}{st:Stmt}{N ps:List Str}{k:Nat}{S:SpX}(T:Tx K mg x st ps)(F:FnScope N ps (ag st))(len:∀ ds R RX,S ds R RX->ds.length=ps.length)
  (a9:∀ (f:Addr) (cdv:Value) (A:Around) (outer:List Env) (s:Shared) (H:Hp) (E:XK) (J:Jx),Room k (A.deeper (envOfC x (ag st) s.heap.objs.size f cdv))->XOk (cxOf (CX1 P w) P w K mg base N x (ag st) f cdv A outer s H E)->
   ∃ t,DSs (cxOf (CX1 P w) P w K mg base N x (ag st) f cdv A outer s H E) (aJ st) t/\∀ ds R RX,(∀ z,J.RX z=RX)->S ds R RX->t {nx:=λ_=>R .non,rt:=R} (startD N ds)):CalX P w K mg base (k+1) x ps S:=by
 obtain⟨f,fd,T,hb,hm⟩:=T
 exact⟨f,fd,T.okX F len λcdv A outer s H E J hr hx=>a9 f cdv A outer s H E J hr hx,hb,T.kp,hm⟩
end
theorem ObjOk.there{P:Program}{w:World}{H:Hp}{h:Heap}{a:Addr}{o:HO}(x:ObjOk P w H h a o):∃ u,h.get? a=some u:=by
 cases o with
 |lst xs=>obtain⟨_,_,_,_,e⟩:=x;exact⟨_,e⟩
 |tup xs=>obtain⟨_,_,_,o,e,_⟩:=x;exact⟨_,e⟩
 |dK a8=>obtain⟨_,_,_,_,o,_,_,e,_⟩:=x;exact⟨_,e⟩
 |dT a8=>obtain⟨_,_,_,_,o,_,_,e,_⟩:=x;exact⟨_,e⟩
 |set S n=>obtain⟨o,_,_,_,e,_⟩:=x;exact⟨_,e⟩
 |ins C dx fs=>obtain⟨_,_,_,e,_⟩:=x;exact⟨_,e⟩
 |own y=>exact x
 |xd fs=>obtain⟨_,⟨_,_,_,e,_⟩,_⟩:=x;exact⟨_,e⟩
 |rng lo hi=>obtain⟨_,_,_,e⟩:=x;exact⟨_,e⟩
 |frz ob u=>obtain⟨e,_⟩:=x;exact⟨_,e⟩
 |tbl ps=>exact⟨_,(show h.get? a=some _ from x)⟩
 |met f y=>exact⟨_,(show h.get? a=some _ from x)⟩
 |ext φ=>obtain⟨_,e,_⟩:=x;exact e
theorem gJ{P:Program}{w:World}{H:Hp}{h:Heap}{a:Addr}(x:HOk P w H h)(e:h.get? a=none):H a=none:=by
 cases q:H a with
 |none=>rfl
 |some o=>
  obtain⟨u,hu⟩:=ObjOk.there (x a o q)
  rw[e] at hu;cases hu
def del(H:Hp)(a:Addr):Hp:=λb=>if b=a then none else H b
theorem fF{H:Hp}{a:Addr}:del H a a=none:=by unfold del;rw[if_pos rfl]
theorem ck{H:Hp}{a b:Addr}(h:b≠a):del H a b=H b:=by unfold del;rw[if_neg h]
section
variable {X:Cx}{pins:List (Addr × Obj)}{σ:L2.St}{H:Hp}{s:Shared}{e:Addr}
theorem Inv.drop{φ:Heap->Prop}(I:Inv X pins σ H s)(h:H e=some (.ext φ))(ne:X.s₀.heap.get? e=none):Inv X pins σ (del H e) s:=by
 have nx:∀ b o,H b=some o->(∀ φ,o≠.ext φ)->b≠e:=λb o q n z=>by rw[z,h] at q;cases q;exact n φ rfl
 refine⟨I.ok,I.os,I.bare,⟨I.base.keep,I.base.slot,λb o q n hx=>?_,I.base.there,λb xs q=>?_,λb o u q=>?_,λb ps q=>?_⟩,I.loc,I.cell,?_,λx c q=>?_,λp hp=>?_,λa o q=>?_,I.len⟩
 ·have:b≠e:=λz=>by rw[z,ne] at q;cases q
  rw[ck this];exact I.base.free b o q n hx
 ·have:=I.base.tups b xs q
  rw[ck (nx b _ this λφ z=>nomatch z)];exact this
 ·have:=I.base.frzs b o u q
  rw[ck (nx b _ this λφ z=>nomatch z)];exact this
 ·obtain⟨m,this⟩:=I.base.tbls b ps q
  exact⟨m,by rw[ck (nx b _ this λφ z=>nomatch z)];exact this⟩
 ·by_cases z:X.env.locals=e
  ·rw[z];exact fF
  ·rw[ck z];exact I.free
 ·by_cases z:c=e
  ·rw[z];exact fF
  ·rw[ck z];exact I.freeC x c q
 ·obtain⟨h1,h2,h3⟩:=I.pin p hp
  refine⟨h1,?_,h3⟩
  by_cases z:p.1=e
  ·rw[z];exact fF
  ·rw[ck z];exact h2
 ·by_cases z:a=e
  ·rw[z,fF] at q;cases q
  ·rw[ck z] at q
   exact(I.hok a o q).stay (λb u _ r=>r) (λb r=>by rw[ck (nx b _ r λφ z=>nomatch z)];exact r) λb xs r=>by rw[ck (nx b _ r λφ z=>nomatch z)];exact r
theorem Inv.adopt{φ:Heap->Prop}(I:Inv X pins σ H s)(He:H e=none)(ok:ObjOk X.prog X.w H s.heap e (.ext φ))(ne:X.s₀.heap.get? e=none)(hl:e≠X.env.locals)(hc:∀ x c,X.env.cells.lookup x=some c->c≠e)(hp:∀ p∈X.pn++pins,p.1≠e):Inv X pins σ (upd H e (.ext φ)) s:=by
 refine⟨I.ok,I.os,I.bare,⟨I.base.keep,I.base.slot,λb o q n hx=>?_,I.base.there,λb xs q=>?_,λb o u q=>?_,λb ps q=>?_⟩,I.loc,I.cell,?_,λx c q=>?_,λp LO=>?_,λa o q=>?_,I.len⟩
 ·have:b≠e:=λz=>by rw[z,ne] at q;cases q
  rw[aq this];exact I.base.free b o q n hx
 ·have:=I.base.tups b xs q
  rw[aq (bR this He)];exact this
 ·have:=I.base.frzs b o u q
  rw[aq (bR this He)];exact this
 ·obtain⟨m,this⟩:=I.base.tbls b ps q
  exact⟨m,by rw[aq (bR this He)];exact this⟩
 ·rw[aq (Ne.symm hl)];exact I.free
 ·rw[aq (hc x c q)];exact I.freeC x c q
 ·obtain⟨h1,h2,h3⟩:=I.pin p LO
  refine⟨h1,?_,h3⟩
  rw[aq (hp p LO)];exact h2
 ·by_cases z:a=e
  ·rw[z,aA] at q;cases q
   rw[z];exact ok
  ·rw[aq z] at q
   exact(I.hok a o q).stay (λb u _ r=>r) (λb r=>by rw[aq (bR r He)];exact r) λb xs r=>by rw[aq (bR r He)];exact r
end
structure ErrK(K:Ex)(mg:Str->Option Value)(x:Str)(C N:Addr)(bm:List Value):Prop where
 ns:nsIn K mainGlobals x=some (some (.ref C))
 mg:mg x=some (.ref C)
 kp:keepIn K (.ref C)=true
 obj:∃ nm q bs sn sub ab col dd k0 k1 k2 k3 k5,K.lookup C=some (excClassObj nm q C N bs bm true sn sub ab col dd k0 k1 k2 k3 k5 "ValueError.__new__")
 tail:tailIn K veLine bm=true
structure ErrN(K:Ex)(N:Addr):Prop where
 ok:nsOkIn K N=true
 no:nsIn K N "__init__"=some none
theorem jN{K:Ex}:∀ {l:List Value},tailIn K veLine l=true->aP l=true
 |[],e=>by simp[tailIn,veLine] at e
 |v::r,e=>by
  unfold tailIn at e
  rcases Bool.or_eq_true_iff.mp e with q|q
  ·rw[beq_iff_eq.mp q];decide+kernel
  ·split at q
   ·split at q
    ·simp only[Fg,beq_iff_eq] at q
     unfold aP
     exact jN q.2
    ·cases q
   ·cases q
theorem ErrK.base{K:Ex}{mg:Str->Option Value}{x:Str}{C N:Addr}{bm:List Value}(k:ErrK K mg x C N bm):bm.contains (.type "BaseException")=true:=gm (by decide+kernel) (jN k.tail)
section
variable {X:Cx}[J:Jx]{x:Str}{C N:Addr}{bm:List Value}{e:Expr}{es:List Expr}{t:TDA}{p cpos pos:Pos}
def yy(x:Str)(t:TDA):TSD:=λ_ z=>t z λds=>ds.length<=1000/\J.RX z x []
theorem rl(h:∃ C N bm,ErrK X.K X.mg x C N bm/\ErrN X.K N)(hx:XOk X)(hc:X.calm=true)(ha:WDA X (e::es) t)(f6:X.ex=[]:=by rfl)(hg:Gl X x:=by rfl)(d7:zND x:=by decide)
  (he:zSE X e es:=by rfl) (b9:zPL X cpos es:=by rfl):WDS X (.Raise (some (.Call (.Name x p) (e::es) [] cpos)) none pos) (yy x t):=⟨by
 have ha:=ha.out
 obtain⟨C,N,bm,k,kn⟩:=h
 intro pins s σ H D I h
 obtain⟨B,F0,F,z,kf,rs,ED,h,ee⟩:=h
 obtain rfl:B=J.B:=kf.eb
 obtain⟨nm,q,bs,sn,sub,ab,col,dd,k0,k1,k2,k3,k5,lk⟩:=k.obj
 refine jz (nm:=nm) (q:=q) (C:=C) (N:=N) (bs:=bs) (bm:=bm) (hdct:=true) (sn:=sn) (sub:=sub) (ab:=ab) (col:=col) (dd:=dd) (k0:=k0) (k1:=k1) (k2:=k2) (k3:=k3) (k5:=k5) (newId:="ValueError.__new__") k.base (I.ok.hd hc) ?_
 refine wpAny_Call_Name_kw (cJ I hg k.mg ?_ d7)
 refine callWith_K (h₀:=X.base) I.ok.mod.kin k.kp (thn (ha cpos pins s σ H (λvs H1=>∃ F1,vs.length<=1000/\Grow F H F1 H1/\J.RX z x []) I ⟨_,F,z,kf.kf,rs,_,h,λds vs F1 H1 g1 hx rx=>⟨F1,by rw[rx.length];exact hx.1,g1,hx.2⟩⟩) λus s1 ⟨vs,H1,I1,r,F1,hl,g1,hR⟩=>⟨I1.kIn,?_⟩) he b9
 have hC:=I1.kIn _ _ lk
 obtain⟨hp,gg,dr,tk,os⟩:=s1
 refine wpAny_call_exc_subT PySem.F.excBase_ValueError (tail_of_in I1.kIn k.tail) hC (.of_isNs (isNs_of_in I1.kIn kn.ok)) (nsMap_none_of_in I1.kIn kn.ok kn.no) (λh' ea hm=>?_) (by show us.length<=_;rw[<- L2.Vals.length r];exact sz hl)
 obtain⟨ta,h1,h2,h3⟩:=hm.there
 have I2:Inv X pins σ H1 ⟨h',gg,dr,tk,os⟩:=I1.kept (t':=tk) hm.keeps
 refine⟨ea,ta,none,#[],rfl,hm.keeps _ _ hC,h1,?_⟩
 exact hx σ z F1 H1 _ ea C none x [] (Inv.nopins I2) (kf.kf.grow g1) (rs.grow g1) hR ⟨k.ns,[],repf_nil.mpr rfl,.inl ⟨rfl,rfl⟩⟩ ⟨gJ I1.hok hm.new,cL I1 f6 hm.new,pn_free I1 hm.new,.inl ⟨#[],_,h1,rfl⟩⟩⟩
end
def XN(e C:Addr)(od:Option Addr):HO:= .ext λh=>∃ t sl,h.get? e=some ⟨.ref C,od,.fields #[.ref t,.none,.none,.none,.bool false,.none],sl⟩
theorem XN.ok{P:Program}{w:World}{H:Hp}{h:Heap}{e C t:Addr}{od:Option Addr}{sl:Array (Option Value)}(q:h.get? e=some ⟨.ref C,od,.fields #[.ref t,.none,.none,.none,.bool false,.none],sl⟩):ObjOk P w H h e (XN e C od):=
 ⟨⟨t,sl,q⟩,⟨_,q⟩,λh1 h2 ⟨t,sl,q⟩ k=>⟨t,sl,k _ q⟩⟩
theorem XN.get{P:Program}{w:World}{H:Hp}{h:Heap}{e C:Addr}{od:Option Addr}(x:HOk P w H h)(q:H e=some (XN e C od)):∃ t sl,h.get? e=some ⟨.ref C,od,.fields #[.ref t,.none,.none,.none,.bool false,.none],sl⟩:=(x e _ q).1
def ErrF(K:Ex)(F:Hp)(fs:List (Str × D))(od:Option Addr):Prop:=∃ vs,RepF K F fs vs/\((od=none/\vs=[])\/∃ b,od=some b/\F b=some (.xd vs))
def lEi(K:Ex)(C:Addr)(S:SiD):Sp:=λvs H Q _=>∃ e us H1 F ds,vs= .ref e::us/\H=upd H1 e (XN e C none)/\H1 e=none/\Same F H1/\Reps K F ds us/\
 ∃ R:List (Str × D)->Prop,S ds R/\∀ fs od F' H',Grow F H1 F' H'->R fs->H' e=some (XN e C od)->F' e=none->ErrF K F' fs od->Q .non H'
def CalE(P:Program)(w:World)(K:Ex)(mg:Str->Option Value)(base:Heap)(n:Nat)(x:Str)(ps:List Str)(S:SiD):Prop:=
 ∃ C N bm f fd,ErrK K mg x C N bm/\EV K (.ref C) "__init__"=some (some (.ref f))/\isFn K (.ref f)=true/\FnOk P w K mg base (CX1 P w) n f fd ps (lEi K C S)/\Binds K fd ps []
section
variable {X:Cx}{pins:List (Addr × Obj)}{σ:L2.St}{H:Hp}{s:Shared}{e:Addr}
theorem Inv.newx{C:Addr}{h':Heap}{us:List Value}(I:Inv X pins σ H s)(f6:X.ex=[])(hm:Heap.MadeExcOf s.heap h' e (.ref C) us):Inv X pins σ (upd H e (XN e C none)) {s with heap:=h'}:=by
 obtain⟨ta,h1,h2,h3⟩:=hm.there
 have I2:Inv X pins σ H {s with heap:=h'}:=I.kept (t':=s.toks) hm.keeps
 refine Inv.adopt I2 (gJ I.hok hm.new) (XN.ok h1) (cL I f6 hm.new) (λz=>?_) (λx c q z=>?_) λp hp z=>?_
 ·obtain⟨m,⟨o,_,_,ho,_⟩,_⟩:=I.loc
  rw[<- z,hm.new] at ho;cases ho
 ·obtain⟨v,o,ho,_⟩:=I.cell x c q
  rw[z,hm.new] at ho;cases ho
 ·have:=(I.pin p hp).1
  rw[z,hm.new] at this;cases this
end
structure BaseK(K:Ex)(mg:Str->Option Value)(y:Str)(M:Addr):Prop where
 mg:mg y=some (.ref M)
 rd:readsIn K M (.type "type")=true
 fc:findCls K (.ref M) (.type "type") "__init__"=some (.val (.builtin "ValueError.__init__"))
 sp:specialIn K (.ref M) "__getattribute__"=some (some (.builtin "type.__getattribute__"))
structure ErrA(K:Ex)(x:Str)(C:Addr)(cd:ClassData):Prop where
 ns:nsIn K mainGlobals x=some (some (.ref C))
 cl:GW K C=some cd
 mro:aP cd.mro=true
 hd:cd.hasDict=true
 sa:EV K (.ref C) "__setattr__"=some (some (.builtin "object.__setattr__"))
theorem ErrK.a{x:Str}{K:Ex}{mg:Str->Option Value}{C N:Addr}{bm:List Value}(k:ErrK K mg x C N bm)(sa:EV K (.ref C) "__setattr__"=some (some (.builtin "object.__setattr__"))):∃ cd,ErrA K x C cd:=by
 obtain⟨nm,q,bs,sn,sub,ab,col,dd,k0,k1,k2,k3,k5,lk⟩:=k.obj
 exact⟨_,k.ns,by unfold GW;rw[lk],by
  show aP (.ref C::bm)=true
  unfold aP;exact jN k.tail,rfl,sa⟩
def lX(K:Ex)[J:Jx](x:Str)(t:TID):TS:=λE σ H=>∃ C e od ws F z fs,nsIn K mainGlobals x=some (some (.ref C))/\σ[0]?=some (some (.ref e))/\H e=some (XN e C od)/\J.B e=none/\F e=none/\Kept J.B J.F0 F H/\RepS K J.B F H z σ/\RepF K F fs ws/\
 ((od=none/\ws=[])\/∃ b,od=some b/\H b=some (.xd ws)/\J.B b=none/\F b=none/\b≠e/\ws≠[])/\
 ∃ R:List (Str × D)->Prop,t z fs R/\∀ o_ KL F' H',Kept J.B J.F0 F' H'->R o_->H' e=some (XN e C KL)->F' e=none->ErrF K F' o_ KL->E.nx σ H'
abbrev DX(X:Cx)[Jx](x:Str)(st:List Stmt)(t:TID):Prop:=PSs X st (lX X.K x t)
structure WDX(X:Cx)[Jx](x:Str)(st:List Stmt)(t:TID):Prop where
 out:DX X x st t
theorem yz{H:Hp}{a:Addr}{o:HO}(h:H a=some o):upd H a o=H:=by
 funext b
 unfold upd
 by_cases q:b=a
 ·rw[if_pos q,q,h]
 ·rw[if_neg q]
section
variable {X:Cx}[J:Jx]{x f:Str}{e:Expr}{te:TD}{ta:TDA}{pos c8 p:Pos}{rest:List Stmt}{tr:TID}
theorem rn:WDX X x [] rh:=⟨pss_nil.anti λE s H q=>by
 obtain⟨C,a,od,ws,F,z,fs,hn,h0,f8,hB,i6,k,rs,rf,hd,R,hR,kk⟩:=q
 rcases hd with⟨rfl,rfl⟩|⟨b,rfl,hb,KN,KO,ne,_⟩
 ·exact kk fs none F H k hR f8 i6 ⟨[],rf,.inl ⟨rfl,rfl⟩⟩
 ·have s1:Same F (upd F b (.xd ws)):=aS KO _
  refine kk fs (some b) (upd F b (.xd ws)) H ⟨k.bh,λc o q=>?_,k.f0.trans s1,λc h1 h2=>?_,k.eb,k.jf,k.jo⟩ hR f8 (by rw[aq (Ne.symm ne)];exact i6) ⟨ws,RepF.mono s1 fs ws rf,.inr ⟨b,rfl,aA⟩⟩
  ·by_cases hc:c=b
   ·subst hc;rw[aA] at q;cases q;exact hb
   ·rw[aq hc] at q;exact k.fh c o q
  ·have:c≠b:=λz=>h2 (z ▸ KN)
   rw[aq this];exact k.out c h1 h2⟩
def yB(ta:TDA)(tr:TID):TID:=λz fs R=>ta z λds=>ds.length<=1000/\tr z fs R
theorem rq{y sx:Str}{ps py apos cpos:Pos}{es:List Expr}{pl:Sem Bool}(hb:∃ M,BaseK X.K X.mg y M)(hA:∃ C cd,ErrA X.K x C cd)(ha:WDA X es ta)(hr:WDX X x rest tr)(hg:Gl X y:=by rfl)(hN:X.N[0]?=some sx:=by rfl)(hv:Vis X.env.scope sx:=by first|exact Or.inl rfl|exact Or.inr (Or.inl rfl)|exact Or.inr (Or.inr rfl))(hd:zND sx:=by decide)
  (g9:zNC sx:=by decide) (OZ:zND y:=by decide)
  (he:starEach (.Name sx ps::es) X.env=(false,eval (.Name sx ps) X.env)::starEach es X.env:=by rfl) (b9:zPL X cpos es:=by rfl)
  (ht:eval (.Call (.Attribute (.Name y py) "__init__" apos) (.Name sx ps::es) [] cpos) X.env=(do
   let ov <- eval (.Name y py) X.env
   standAt apos.atName
   let (f,first) <- holding [ov] (getMethod ov "__init__" pl)
   callWith cpos f first (backTo cpos (starEach (.Name sx ps::es) X.env)) (backToKw cpos (keywordEach [] X.env))):=by rfl)
  (hs:swapsWith (.Call (.Attribute (.Name y py) "__init__" apos) (.Name sx ps::es) [] cpos) none pos.line X.env=pure false:=by rfl):WDX X x (.Expr (.Call (.Attribute (.Name y py) "__init__" apos) (.Name sx ps::es) [] cpos) pos::rest) (yB ta tr):=⟨by
 have ha:=ha.out
 have hr:=hr.out
 obtain⟨M,bk⟩:=hb
 obtain⟨C,cd,er⟩:=hA
 have step:PS X (.Expr (.Call (.Attribute (.Name y py) "__init__" apos) (.Name sx ps::es) [] cpos) pos) (λE σ H=>∃ C' e od,nsIn X.K mainGlobals x=some (some (.ref C'))/\σ[0]?=some (some (.ref e))/\
   lA X.K ta σ H (λvs H1=>H1 e=some (XN e C' od)/\vs.length<=1000/\E.nx σ H1)):=by
  intro pins s σ H D I h
  obtain⟨C',ea,od,hn,h0,h⟩:=h
  rw[er.ns] at hn
  cases hn
  refine wpAny_Expr_any (methodCall_KW (pl:=pl) (cJ I hg bk.mg ?_ OZ) ht) I.quiet hs
  refine method_cls I.kIn bk.sp (cls_value I.kIn bk.rd bk.fc (by decide+kernel) ?_)
  have I0:Inv X pins σ H {s with toks:=s.toks+1}:=I.tok _
  obtain⟨B,F,z,kf,rs,R,h1,h2⟩:=h
  refine PyProof.Rows.callWith_builtin1 (thn (bv (fq (i:=0) hN hv hd g9) ha he cpos pins _ σ H (λvs H1=>∃ us,vs= .ref ea::us/\H1 ea=some (XN ea C od)/\us.length<=1000/\D.nx σ H1) I0 ⟨.ref ea,h0,⟨B,F,z,kf,rs,R,h1,λds vs F' H' g hx rx=>⟨vs,rfl,h2 ds vs F' H' g hx rx⟩⟩⟩) λus s1 ⟨vs,H1,I1,r,P',ev,u7,hl,J5⟩=>?_) he b9
  subst ev
  cases r with
  |cons r1 r2=>
   rename_i u0 P_ _
   obtain rfl:u0=Value.ref ea:=r1
   obtain⟨t0,sl,n_⟩:=XN.get I1.hok u7
   refine xc (K:=X.K) (C:=C) (cd:=cd) I1.kIn n_ rfl rfl er.cl er.mro (by rw[<- L2.Vals.length r2];exact sz hl) λh' g1 g2=>?_
   refine⟨σ,H1,?_,J5⟩
   have w:=I1.write (x:=ea) (e:=ea) (o:=XN ea C od) (h':=h') (t':=s1.toks) (by rw[u7];exact True.intro) (.inl rfl) (λb u hb q=>g2 b u hb q) ⟨_,g1⟩ (XN.ok g1)
   rw[yz u7] at w
   exact w
 refine(fu step hr).anti λE s H q=>?_
 obtain⟨C',a,od,ws,F,z,fs,hn,h0,f8,hB,i6,k,rs,rf,f_,R,hR,kk⟩:=q
 refine⟨C',a,od,hn,h0,_,F,z,k,rs,_,hR,λds vs F1 H1 g hx rx=>⟨g.hh a _ f8,by rw[rx.length];exact hx.1,?_⟩⟩
 refine⟨C',a,od,ws,F1,z,fs,hn,h0,g.hh a _ f8,hB,g.out a i6 (by rw[f8];exact λz=>nomatch z),k.grow g,rs.grow g,RepF.mono g.ff fs ws rf,?_,R,hx.2,kk⟩
 rcases f_ with f_|⟨b,h1,h2,h3,h4,h5⟩
 ·exact .inl f_
 ·exact .inr ⟨b,h1,g.hh b _ h2,h3,g.out b h4 (by rw[h2];exact λz=>nomatch z),h5⟩⟩
def yD(f:Str)(te:TD)(tr:TID):TID:=λz fs R=>fs=[]/\te z λd=>tr z [(f,d)] R
theorem rz{sx:Str}{ps:Pos}(hA:∃ C cd,ErrA X.K x C cd)(hf:∀ C,nsIn X.K mainGlobals x=some (some (.ref C))->EV X.K (.ref C) f=some none)(he:WDE X e te)(hr:WDX X x rest tr)(hN:X.N[0]?=some sx:=by rfl)(hv:Vis X.env.scope sx:=by first|exact Or.inl rfl|exact Or.inr (Or.inl rfl)|exact Or.inr (Or.inr rfl))(hd:zND sx:=by decide)
  (g9:zNC sx:=by decide) (hs:swapsWith e (some (.Attribute (.Name sx ps) f c8)) pos.line X.env=pure false:=by rfl):WDX X x (.Assign [.Attribute (.Name sx ps) f c8] e pos::rest) (yD f te tr):=⟨by
 have he:=he.out
 have hr:=hr.out
 obtain⟨C,cd,er⟩:=hA
 have J6:=hf C er.ns
 have step:PS X (.Assign [.Attribute (.Name sx ps) f c8] e pos) (λE σ H=>∃ e,σ[0]?=some (some (.ref e))/\
   lE X.K te σ H (λv H1=>H1 e=some (XN e C none)/\∀ b,H1 b=none->b≠e->E.nx σ (upd (upd H1 b (.xd [(f,v)])) e (XN e C (some b))))):=by
  intro pins s σ H D I h
  obtain⟨ea,h0,h⟩:=h
  refine plainObj_wpAny_Assign_Attribute (thn (he pins s σ H _ I h) λu s1 ⟨y,H1,I1,ry,u7,J5⟩=>thn (fq (i:=0) hN hv hd g9 pins s1 σ H1 (λv H'=>v= .ref ea/\H'=H1) I1 ⟨.ref ea,h0,rfl,rfl⟩) λov s2 ⟨v0,H2,I2,r0,e1,e2⟩=>?_) hs
  subst e1 e2
  obtain rfl:ov=Value.ref ea:=r0
  obtain⟨t0,sl,n_⟩:=XN.get I2.hok u7
  refine xb (K:=X.K) (C:=C) (cd:=cd) I2.kIn n_ rfl rfl rfl er.cl er.mro er.hd er.sa J6 λh' g1 g2 g3 tk=>?_
  have y9:H2 s2.heap.objs.size=none:=I2.hok.fresh (EL _)
  have i9:s2.heap.objs.size≠ea:=FP (Heap.lt_size n_)
  have LP:∀ b o,s2.heap.get? b=some o->b≠s2.heap.objs.size:=λb o q=>EZ (Heap.lt_size q)
  have LQ:∀ b,H2 b=none->b≠ea:=λb q z=>by rw[z,u7] at q;cases q
  refine⟨σ,_,?_,J5 _ y9 i9⟩
  have J7:∀ b o,H2 b=some o->(∀ φ,o≠.ext φ)->upd (upd H2 s2.heap.objs.size (.xd [(f,y)])) ea (XN ea C (some s2.heap.objs.size)) b=some o:=λb o q n=>by
   have n1:b≠ea:=λz=>by rw[z,u7] at q;cases q;exact n _ rfl
   rw[aq n1,aq (bR q y9)];exact q
  refine I2.un (h':=h') (t':=tk) ⟨λb o q n _ _=>g3 b o (LQ b n) q,λb o q n _ _=>⟨o.slots,g3 b o (LQ b n) q⟩,λb o q n _=>?_,λb o q _=>?_,λb xs q=>J7 b _ q (λφ z=>nomatch z),λb o u q=>J7 b _ q (λφ z=>nomatch z),λb ps q=>⟨#[],by rw[J7 b _ q (λφ z=>nomatch z)];simp⟩⟩ λa o q=>?_
  ·rw[aq (LQ b n),aq (LP b o q)];exact n
  ·by_cases hb:b=ea
   ·rw[hb];exact⟨_,g1⟩
   ·exact⟨o,g3 b o hb q⟩
  ·by_cases ha:a=ea
   ·subst ha
    rw[aA] at q;cases q
    exact XN.ok g1
   ·rw[aq ha] at q
    by_cases hb:a=s2.heap.objs.size
    ·subst hb
     rw[aA] at q;cases q
     refine⟨_,g2,λg=>?_⟩
     rw[E8]
     by_cases hg:g=f
     ·subst hg;simp;exact ry
     ·have:(g==f)=false:=by simpa using hg
      rw[this,if_neg hg];exact True.intro
    ·rw[aq hb] at q
     refine(I2.hok a o q).stay (λb u h_ r=>?_) (λb r=>J7 b _ r (λφ z=>nomatch z)) λb xs r=>J7 b _ r (λφ z=>nomatch z)
     refine g3 b u (λz=>?_) r
     rcases h_ with e1|e1
     ·exact ha (e1 ▸ z)
     ·rw[z,u7] at e1;cases e1
 refine(fu step hr).anti λE s H q=>?_
 obtain⟨C',a,od,ws,F,z,fs,hn,h0,f8,hB,i6,k,rs,rf,f_,R,⟨rfl,hR⟩,kk⟩:=q
 rw[er.ns] at hn
 cases hn
 have O0:ws=[]:=repf_nil.mp rf
 subst O0
 refine⟨a,h0,_,F,z,k,rs,_,hR,λd v F1 H1 g hx rv=>?_⟩
 have J8:F1 a=none:=g.out a i6 (by rw[f8];exact λz=>nomatch z)
 have k1:=k.grow g
 rcases f_ with⟨rfl,_⟩|⟨b,rfl,h1,h2,h3,h4⟩
 ·refine⟨g.hh a _ f8,λb hb i9=>?_⟩
  have KN:J.B b=none:=k1.bh.free hb
  have KO:F1 b=none:=k1.fh.free hb
  have same:∀ {G:Hp},G a=none->G b=none->Same G H1->Same G (upd (upd H1 b (.xd [(f,v)])) a (XN a C (some b))):=λ{G} ga gb gs c o q=>by
   have n1:c≠a:=λz=>by rw[z,ga] at q;cases q
   have n2:c≠b:=λz=>by rw[z,gb] at q;cases q
   rw[aq n1,aq n2];exact gs c o q
  have t5:=rs.grow g
  refine⟨C,a,some b,[(f,v)],F1,z,[(f,d)],er.ns,h0,aA,hB,J8,⟨same hB KN k1.bh,same J8 KO k1.fh,k1.f0,k1.out,k1.eb,k1.jf,k1.jo⟩,?_,repf_cons.mpr ⟨v,[],rfl,rv,repf_nil.mpr rfl⟩,.inr ⟨b,rfl,by rw[aq i9];exact aA,KN,KO,i9,λz=>nomatch z⟩,R,hx,kk⟩
  refine⟨t5.len,t5.val,λi ds e'=>?_,t5.apart⟩
  obtain⟨c,vs,q1,q2,q⟩:=t5.own i ds e'
  have n1:c≠a:=λz=>by rw[z,g.hh a _ f8] at q2;cases q2
  have n2:c≠b:=λz=>by rw[z,hb] at q2;cases q2
  exact⟨c,vs,q1,by rw[aq n1,aq n2];exact q2,q⟩
 ·exact absurd rfl h4.2⟩
end
section
variable {P:Program}{w:World}{K:Ex}{mg:Str->Option Value}{base:Heap}
theorem Cls.okE{x qual:Str}{st:Stmt}{f C N0:Addr}{bm:List Value}{fd:FuncData}{N:List Str}{p0:Str}{ps:List Str}{k:Nat}{S:SiD}(T:Fun K "__init__" qual st f fd)(hb:Binds K fd (p0::ps) [])(F:FnScope (p0::N) (p0::ps) (ag st))(len:∀ ds R,S ds R->ds.length=ps.length)
  (ek:ErrK K mg x C N0 bm) (hi:EV K (.ref C) "__init__"=some (some (.ref f))) (hf:isFn K (.ref f)=true)
  (a9:∀ (cdv:Value) (A:Around) (outer:List Env) (s:Shared) (H:Hp) (E:XK) (J:Jx),Room k (A.deeper (envOfC qual (ag st) s.heap.objs.size f cdv))->
   ∃ t,DX (cxOf (CX1 P w) P w K mg base (p0::N) qual (ag st) f cdv A outer s H E).nox x (aJ st) t/\∀ ds R,S ds R->t (none::startD N ds) [] R):CalE P w K mg base (k+1) x (p0::ps) S:=by
 refine⟨C,N0,bm,f,fd,ek,hi,hf,Fun.okC T F (λvs H Q E h=>?_) (λcdv A outer s H vs Q E hr h=>?_),hb⟩
 ·obtain⟨a,us,H1,F,ds,rfl,_,_,_,rs,R,h,_⟩:=h
  rw[EQ,EQ,rs.length,len ds R h]
 ·obtain⟨a,us,H1,F1,ds,rfl,rfl,ha,fh,rs,R,h,q⟩:=h
  letI:Jx:=⟨H1,F1,λ_ _ _=>False⟩
  obtain⟨t,ht,hq⟩:=a9 cdv A outer s _ E inferInstance hr
  have Fa:F1 a=none:=fh.free ha
  have hl:L2.start (p0::N) (.ref a::us)=some (.ref a)::L2.start N us:=by
   unfold L2.start
   rw[EY,EQ,EQ,Hv];rfl
  have s1:Same H1 (upd H1 a (XN a C none)):=aS ha _
  refine⟨_,ht.nox,C,a,none,[],F1,none::startD N ds,[],ek.ns,by rw[hl];rfl,aA,ha,Fa,⟨s1,fh.trans s1,Same.refl F1,λ_ h _=>h,rfl,Same.refl F1,λ_ h _=>h⟩,?_,repf_nil.mpr rfl,.inl ⟨rfl,rfl⟩,R,hq ds R h,λo_ KL F' H' g hR f8 i6 er=>q o_ KL F' H' ⟨g.f0,g.fh,g.bh,g.out⟩ hR f8 i6 er⟩
  rw[hl]
  exact ri (dZ rs)
end
abbrev _root_.L2.Cx.held(X:Cx)(e:Addr):Cx:={X with A:=X.A.mark (some (.ref e)),calm:=false,xe:=λ_ _=>False}
section
variable {X:Cx}{pins:List (Addr × Obj)}{σ:L2.St}{H:Hp}{s:Shared}{e:Addr}
theorem Cx.Ok.held(ok:X.Ok):(X.held e).Ok:=
 ⟨ok.mod,ok.kind,ok.glob,ok.blt,ok.above,ok.inj,ok.has,ok.cab,(λz=>nomatch z),ok.frames,ok.stk,ok.exf,ok.bs,ok.bsz,ok.noex,ok.exfs,ok.funs,ok.frf⟩
theorem Inv.held(I:Inv X pins σ H s):Inv (X.held e) pins σ H s:=⟨Cx.Ok.held I.ok,I.os,I.bare,I.base,I.loc,I.cell,I.free,I.freeC,I.pin,I.hok,I.len⟩
end
def subE(x c:Str):Bool:=x==c||c=="MotifError"
structure ErrsK(K:Ex)(mg:Str->Option Value)(es:List Str):Prop where
 cls:∀ x∈es,∃ C N bm,ErrK K mg x C N bm
 sub:∀ x∈es,∀ y∈es,∀ C C',nsIn K mainGlobals x=some (some (.ref C))->nsIn K mainGlobals y=some (some (.ref C'))->FY K C (.ref C')=some (subE x y)
theorem ErrsK.has{K:Ex}{mg:Str->Option Value}{es:List Str}(k:ErrsK K mg es){x y:Str}{C C' N N':Addr}{bm O1:List Value}(hx:x∈es)(hy:y∈es)(a:ErrK K mg x C N bm)(b:ErrK K mg y C' N' O1):(Value.ref C::bm).contains (.ref C')=subE x y:=by
 have h:=k.sub x hx y hy C C' a.ns b.ns
 obtain⟨nm,q,bs,sn,sub,ab,col,dd,k0,k1,k2,k3,k5,lk⟩:=a.obj
 unfold FY GW at h
 rw[lk] at h
 simp only[GT,List.isEmpty_cons,Bool.false_eq_true,if_false,Option.some.injEq] at h
 exact h
structure Held(X:Cx)(pins:List (Addr × Obj))(H:Hp)(s:Shared)(e C:Addr)(od:Option Addr)(T:Addr):Prop where
 ex:ExAt s.heap e C od T .none
 He:H e=none
 HT:H T=none
 e0:X.s₀.heap.get? e=none
 T0:X.s₀.heap.get? T=none
 eP:∀ p∈X.pn++pins,p.1≠e
 TP:∀ p∈X.pn++pins,p.1≠T
section
variable {X:Cx}{pins:List (Addr × Obj)}{σ:L2.St}{H:Hp}{s:Shared}
theorem XO.ok{P:Program}{w:World}{h:Heap}{e C:Addr}{od:Option Addr}{vs:Array Value}{sl:Array (Option Value)}(q:h.get? e=some ⟨.ref C,od,.fields vs,sl⟩):ObjOk P w H h e (XO e C od):=
 ⟨⟨vs,sl,q⟩,⟨_,q⟩,λh1 h2 ⟨vs,sl,q⟩ k=>⟨vs,sl,k _ q⟩⟩
end
abbrev TH:=Str->List (Str × D)->TSD
def DH(X:Cx)[J:Jx](hs:List ExceptHandler)(th:TH):Prop:=
 ∀ (pins:List (Addr × Obj)) (s:Shared) (σ:L2.St) (H:Hp) (D:Ends) (e C:Addr) (od:Option Addr) (T:Addr) (x:Str) (fs:List (Str × My.D)) (B F0 F:Hp) (z:SD) (ED:EndsD),Inv X pins σ H s->Held X pins H s e C od T->Kept B F0 F H->RepS X.K B F H z σ->ErrD X.K F x fs C od->
  th x fs ED z->EndsOk X.K B F0 ED D->wpAny (model X.prog X.w) X.A (handleBy (.ref e) X.env hs) (SP X pins D) X.xe s
structure WDH(X:Cx)[Jx](hs:List ExceptHandler)(th:TH):Prop where
 out:DH X hs th
theorem Kept.re{J:Jx}{B F0 F H:Hp}{RX:SD->XD}(k:@Kept J B F0 F H):@Kept ⟨B,F0,RX⟩ B F0 F H:=@Kept.mk ⟨B,F0,RX⟩ B F0 F H k.bh k.fh k.f0 k.out rfl (Same.refl F0) (λ_ h _=>h)
theorem Kept.un{J:Jx}{B F0 F H F' H':Hp}{RX:SD->XD}(k:@Kept J B F0 F H)(k':@Kept ⟨B,F0,RX⟩ B F0 F' H'):@Kept J B F0 F' H':=by
 obtain⟨a,b,c,d,_,_,_⟩:=k'
 exact @Kept.mk J B F0 F' H' a b c d k.eb k.jf k.jo
def ErrG(K:Ex)(f y:Str):Prop:=∃ C cd,ErrA K y C cd/\EV K (.ref C) "__getattribute__"=some (some (.builtin "BaseException.__getattribute__"))/\EV K (.ref C) "__getattr__"=some none/\EV K (.ref C) f=some none
theorem rA{K:Ex}:tailIn K veLine veLine=true:=by
 unfold tailIn
 rfl
theorem rB{K:Ex}{N:Addr}{c:Value}{d:Option Addr}{es:Array DictEntry}{ep:Nat}{sl:Array (Option Value)}(l:K.lookup N=some ⟨c,d,.dict es ep,sl⟩)(h:es.toList.all (λe=>match e.key with| .str _ _=>true|_=>false)=true):nsOkIn K N=true:=by
 unfold nsOkIn
 rw[l]
 dsimp only
 rw[<- Hw]
 exact h
theorem yF{K:Ex}{M N:Addr}{c0:Value}{dd:Option Addr}{cd:ClassData}{sl:Array (Option Value)}(l:K.lookup M=some ⟨c0,dd,.cls cd,sl⟩)(hn:cd.ns=N)(h1:nsOkIn K N=true)(h2:nsIn K N "__init__"=some none):tailIn K veLine (.ref M::veLine)=true:=by
 unfold tailIn
 subst hn
 dsimp only
 rw[l]
 dsimp only
 rw[h1,h2,rA]
 simp
theorem yG{K:Ex}{C:Addr}:kitOne K (.ref C) (.ref C)=some true:=by
 unfold kitOne
 rw[if_pos (beq_self_eq_true _)]
def rC(S:SpX):SpD:=λds R=>S ds R λ_ _=>False
theorem CalX.no{P:Program}{w:World}{K:Ex}{mg:Str->Option Value}{base:Heap}{n:Nat}{x:Str}{ps:List Str}{S:SpX}(C:CalX P w K mg base n x ps S):CalD P w K mg base n x ps (rC S):=by
 obtain⟨f,fd,F,hb,hk,hm⟩:=C
 refine⟨f,fd,F.imp λvs H Q E h=>?_,hb,hk,hm⟩
 obtain⟨F,ds,fh,rs,R,h,q⟩:=h
 exact⟨F,ds,fh,rs,R,_,h,q,λ_ _ _ _ _ _ _ z=>z.elim⟩
end My
namespace My
def repS(x:Str)(n:Nat):Str:=⟨(FI n x.cps.toList).flatten.toArray⟩
theorem rD{α:Type}(l:List α):∀ m:Nat,(EN m).filterMap (λk=>l[k]?)=l.take m
 |0=>by simp
 |m+1=>by
  rw[F7,List.filterMap_append,rD l m,Hx]
  cases h:l[m]?<;>simp[h]
theorem yH(lo hi:Option Int)(n:Nat):Builtin.Str.strSliceIndices lo hi 1 n=(EN (HT.sIx n n hi - HT.sIx n 0 lo)).map λk=>HT.sIx n 0 lo+k:=by
 have A':∀ (i:Int) (d:Nat),max 0 (min (if i<0 then i+(n:Int) else i) (n:Int))=((HT.sIx n d (some i):Nat):Int):=by
  intro i d
  show max 0 (min (if i<0 then i+(n:Int) else i) (n:Int))=(((if i<0 then(i+(n:Int)).toNat else min i.toNat n):Nat):Int)
  by_cases h:i<0
  ·rw[if_pos h,if_pos h];lia
  ·rw[if_neg h,if_neg h];lia
 have h1:Builtin.Str.strSliceIndices lo hi 1 n=sliceRange ((HT.sIx n 0 lo:Nat):Int) ((HT.sIx n n hi:Nat):Int) 1:=by
  unfold Builtin.Str.strSliceIndices
  simp only[show(1:Int)>0 by decide,if_true]
  cases lo with
  |none=>cases hi with
   |none=>rfl
   |some j=>rw[<- A' j n];rfl
  |some i=>cases hi with
   |none=>rw[<- A' i 0];rfl
   |some j=>rw[<- A' i 0,<- A' j n]
 rw[h1]
 unfold sliceRange
 simp only[show(1:Int)>0 by decide,if_true]
 have e3:(if((HT.sIx n 0 lo:Nat):Int)<((HT.sIx n n hi:Nat):Int) then(((HT.sIx n n hi:Nat):Int) - ((HT.sIx n 0 lo:Nat):Int)+1 - 1) / 1 else 0).toNat=HT.sIx n n hi - HT.sIx n 0 lo:=by
  split<;>lia
 rw[e3]
 apply GX
 intro k _
 lia
theorem slice_cps(y:Str)(lo hi:Option Int):Txt.slice y lo hi=⟨((y.cps.toList.drop (HT.sIx y.length 0 lo)).take (HT.sIx y.length y.length hi - HT.sIx y.length 0 lo)).toArray⟩:=by
 have la:HT.sIx y.length 0 lo<=y.length:=HT.sIx_le _ _ (Fj _) lo
 have lb:HT.sIx y.length y.length hi<=y.length:=HT.sIx_le _ _ (EL _) hi
 unfold Txt.slice
 rw[yH]
 split
 ·rename_i h
  have hl:HT.sIx y.length y.length hi - HT.sIx y.length 0 lo=y.length:=by simpa using h
  have ha:HT.sIx y.length 0 lo=0\/y.length=0:=by lia
  rw[hl]
  obtain⟨cp⟩:=y
  have e:(GY (HT.sIx (Str.mk cp).length 0 lo) cp.toList)=cp.toList:=by
   rcases ha with ha|ha
   ·rw[ha];rfl
   ·have:cp=#[]:=Array.eq_empty_of_size_eq_zero ha
    subst this;simp
  show(⟨cp⟩:Str)=⟨((GY (HT.sIx (Str.mk cp).length 0 lo) cp.toList).take cp.size).toArray⟩
  rw[e,Hy (by simp)]
 ·congr 2
  rw[Hg]
  have:=rD (y.cps.toList.drop (HT.sIx y.length 0 lo)) (HT.sIx y.length y.length hi - HT.sIx y.length 0 lo)
  rw[<- this]
  congr 1
  funext k
  simp
section
variable {X:Cx}[J:Jx]{a b c e:Expr}{ta tb tc te:TD}{pos:Pos}
def EH:RD2:=λx y R=>match x,y with
 | .int i,.int j=>CMul i j/\R (.int (i*j))
 | .str i,.int n=>(-(2 ^ 62)<=n/\n<=1000000/\i.length*n.toNat<=1000000)/\R (.str (repS i n.toNat))
 | .lst xs,.int n=>(-(2 ^ 62)<=n/\n<=1000000/\xs.length*n.toNat<=1000000)/\R (.lst (FI n.toNat xs).flatten)
 |_,_=>False
theorem yI:SlR X (λx lo hi H Q=>∃ y,x= .str y/\y.length<=sizeLine/\Q (.str (Txt.slice y lo hi)) H):=by
 intro pins s σ H x v vl vu lo hi sl Q I rx hs pl pu h
 obtain⟨y,rfl,hz,q⟩:=h
 obtain⟨t,rfl⟩:=rx
 have d5:∀ t' k,EP X pins σ Q (.str (Txt.slice y lo hi) t') {s with toks:=k}:=λt' k=>⟨.str _,H,I.tok k,⟨_,rfl⟩,q⟩
 have le:=E1 (Txt.slice_le y lo hi) hz
 refine⟨"str",_,PySem.F.slot_str_getitem.lookup,typeIs_str _ _ _,?_⟩
 cases pl with
 |none=>cases pu with
  |none=>exact wpAny_getItem_str_slice (l:=none) (u:=none) (st:=none) hs rfl (post_val_or_str ⟨le,d5⟩)
  |int j tj=>exact wpAny_getItem_str_slice (l:=none) (u:=some (j,tj)) (st:=none) hs rfl (post_val_or_str ⟨le,d5⟩)
 |int i ti=>cases pu with
  |none=>exact wpAny_getItem_str_slice (l:=some (i,ti)) (u:=none) (st:=none) hs rfl (post_val_or_str ⟨le,d5⟩)
  |int j tj=>exact wpAny_getItem_str_slice (l:=some (i,ti)) (u:=some (j,tj)) (st:=none) hs rfl (post_val_or_str ⟨le,d5⟩)
abbrev TDO:=SD->(Option Int->Prop)->Prop
def yJ:TDO:=λ_ R=>R none
def yL(te:TD):TDO:=λz R=>te z λx=>match x with| .int i=>R (some i)|_=>False
def lO(K:Ex)[J:Jx](t:TDO):TO:=λs H Q=>∃ B F z,Kept B J.F0 F H/\RepS K B F H z s/\∃ R:Option Int->Prop,t z R/\∀ o F' H',Grow F H F' H'->R o->Q o H'
abbrev DPO(X:Cx)[Jx](e:Option Expr)(t:TDO):Prop:=PO X e (lO X.K t)
structure WDPO(X:Cx)[Jx](e:Option Expr)(t:TDO):Prop where
 out:DPO X e t
theorem PO.anti{X:Cx}{e:Option Expr}{t t':TO}(h:PO X e t)(a:∀ s H Q,t' s H Q->t s H Q):PO X e t':=λpins s σ H Q I q=>h pins s σ H Q I (a _ _ _ q)
theorem fG:WDPO X none yJ:=⟨PO.anti qf λs H Q q=>by
 obtain⟨B,F,z,kf,rs,R,h1,h2⟩:=q
 exact h2 none F H (Grow.refl kf.fh) h1⟩
theorem fH(he:WDE X e te):WDPO X (some e) (yL te):=⟨have he:=he.out;PO.anti (qg he) λs H Q q=>by
 obtain⟨B,F,z,kf,rs,R,h1,h2⟩:=q
 refine⟨B,F,z,kf,rs,_,h1,λx u F1 H1 g1 hx rx=>?_⟩
 split at hx
 ·exact⟨_,rep_int.mp rx,h2 _ F1 H1 g1 hx⟩
 ·exact hx.elim⟩
def rdSl:D->Option Int->Option Int->(D->Prop)->Prop:=λx lo hi R=>match x with
 | .str y=>y.length<=1000000/\R (.str (Txt.slice y lo hi))
 | .lst xs=>R (.lst (cutD xs lo hi))
 | .rol xs=>R (.lst (cutD xs lo hi))
 | .tup xs=>¬ (HT.sIx xs.length 0 lo=0/\HT.sIx xs.length xs.length hi=xs.length)/\R (.tup (cutD xs lo hi))
 |_=>False
def dSl(ta:TD)(tl th:TDO):TD:=λz R=>ta z λx=>tl z λlo=>th z λhi=>rdSl x lo hi R
theorem fJ{lo hi:Option Expr}{tl th:TDO}{p2:Pos}(ha:WDE X a ta)(hl:WDPO X lo tl)(hu:WDPO X hi th):WDE X (.Subscript a (.Slice lo hi none p2) pos) (dSl ta tl th):=⟨have ha:=ha.out;have hl:=hl.out;have hu:=hu.out;(qh (SlR.or yI (SlR.or ql wA)) ha hl hu).anti λs H Q q=>by
 obtain⟨B,F,z,kf,rs,R,h1,h2⟩:=q
 refine⟨B,F,z,kf,rs,_,h1,λx u F1 H1 g1 hx rx=>?_⟩
 refine⟨B,F1,z,kf.grow g1,rs.grow g1,_,hx,λlo F2 H2 g2 hy=>?_⟩
 refine⟨B,F2,z,(kf.grow g1).grow g2,(rs.grow g1).grow g2,_,hy,λhi F3 H3 g3 hw=>?_⟩
 have g:=g1.trans (g2.trans g3)
 have KP:=(rx.mono g2.ff).mono g3.ff
 unfold rdSl at hw
 split at hw
 ·exact .inl ⟨_,rep_str.mp KP,E1 hw.1 (by decide),h2 _ _ F3 H3 g hw.2 (rep_str.mpr rfl)⟩
 ·obtain⟨l,vs,rfl,hq,rr⟩:=rep_lst.mp KP
  refine .inr (.inl ⟨l,vs,rfl,SqL.of (g3.fh _ _ hq),λp hp=>?_⟩)
  exact h2 _ _ _ _ (g.trans (Grow.new g3.fh hp _)) hw (rep_lst.mpr ⟨p,_,rfl,aA,(rr.cut _ _).mono (aS (g3.fh.free hp) _)⟩)
 ·obtain⟨l,vs,rfl,hq,rr⟩:=rep_rol.mp KP
  refine .inr (.inl ⟨l,vs,rfl,g3.fh.seq hq,λp hp=>?_⟩)
  exact h2 _ _ _ _ (g.trans (Grow.new g3.fh hp _)) hw (rep_lst.mpr ⟨p,_,rfl,aA,(rr.cut _ _).mono (aS (g3.fh.free hp) _)⟩)
 ·obtain⟨l,vs,rfl,hq,rr⟩:=rep_tup_mp KP
  refine .inr (.inr ⟨l,vs,rfl,g3.fh.tup hq,by rw[rr.length];exact hw.1,λp hp=>?_⟩)
  exact h2 _ _ _ _ (g.trans (Grow.new g3.fh hp _)) hw.2 (rep_tupS.mpr ⟨p,_,rfl,aA,(rr.cut _ _).mono (aS (g3.fh.free hp) _)⟩)
 ·exact hw.elim⟩
def rdIn(neg:Bool):RD2:=λx y R=>match x,y with
 | .str i,.str j=>R (.bl (if neg then !(!(Builtin.Str.occurrences j i 0 j.length 1).isEmpty) else !(Builtin.Str.occurrences j i 0 j.length 1).isEmpty))
 |x,.lst ys=>(bo x=true/\ys.all bo=true)/\R (.bl (if neg then !(ys.any λy=>eqF y x) else ys.any λy=>eqF y x))
 |x,.rol ys=>(bo x=true/\ys.all bo=true)/\R (.bl (if neg then !(ys.any λy=>eqF y x) else ys.any λy=>eqF y x))
 |x,.tup ys=>(bo x=true/\ys.all bo=true)/\R (.bl (if neg then !(ys.any λy=>eqF y x) else ys.any λy=>eqF y x))
 |_,_=>False
theorem gK{K:Ex}{H:Hp}{x:D}{u:V}(rx:Rep K H x u)(fx:bo x=true):∀ {ys:List D} {vs:List V},Reps K H ys vs->ys.all bo=true->inV u vs=ys.any λy=>eqF y x
 |[],vs,r,_=>by rw[reps_nil.mp r];rfl
 |y::ys,vs,r,f=>by
  obtain⟨v,vr,rfl,r1,r2⟩:=reps_cons.mp r
  rw[FC,Fg] at f
  have ih:=gK rx fx r2 f.2
  unfold inV at ih ⊢
  rw[FZ,FZ,ih,jF r1 rx f.1 fx]
def rInV(K:Ex)(neg:Bool):R2:=λx y H Q=>(∃ i j,x= .str i/\y= .str j/\Q (.bl (if neg then !(!(Builtin.Str.occurrences j i 0 j.length 1).isEmpty) else !(Builtin.Str.occurrences j i 0 j.length 1).isEmpty)) H)\/rIn K neg x y H Q
theorem yM{K:Ex}{neg:Bool}:aY K (rInV K neg) (rdIn neg):=by
 intro x y u v F H R Q fh h rx ry q
 unfold rdIn at h
 split at h
 ·exact .inl ⟨_,_,rep_str.mp rx,rep_str.mp ry,q _ _ F H (Grow.refl fh) h (rep_bl.mpr rfl)⟩
 ·obtain⟨⟨f1,f2⟩,h⟩:=h
  obtain⟨l,vs,rfl,hq,rr⟩:=rep_lst.mp ry
  exact .inr ⟨l,vs,rfl,.inl (fh.seq (SqL.of hq)),eB rx f1,cD rr f2,q _ _ F H (Grow.refl fh) h (rep_bl.mpr (by rw[gK rx f1 rr f2]))⟩
 ·obtain⟨⟨f1,f2⟩,h⟩:=h
  obtain⟨l,vs,rfl,hq,rr⟩:=rep_rol.mp ry
  exact .inr ⟨l,vs,rfl,.inl (fh.seq hq),eB rx f1,cD rr f2,q _ _ F H (Grow.refl fh) h (rep_bl.mpr (by rw[gK rx f1 rr f2]))⟩
 ·obtain⟨⟨f1,f2⟩,h⟩:=h
  obtain⟨l,vs,rfl,hq,rr⟩:=rep_tup_mp ry
  exact .inr ⟨l,vs,rfl,.inr (fh.tup hq),eB rx f1,cD rr f2,q _ _ F H (Grow.refl fh) h (rep_bl.mpr (by rw[gK rx f1 rr f2]))⟩
 ·exact h.elim
theorem yO:OpR X (compareOp .NotIn) (rInV X.K true):=OpR.or wI wH
end
section
variable {X:Cx}[J:Jx]{a b c e:Expr}{ta tb tc te:TD}{pos:Pos}
def dI(x:Str):List D:=x.cps.toList.map λc=>D.str ⟨#[c]⟩
theorem yQ{x:Str}{k c:Nat}(h:x.cps[k]?=some c):(dI x)[k]?=some (.str ⟨#[c]⟩):=by
 unfold dI
 rw[E3,Array.getElem?_toList,h]
 rfl
theorem rE(x:Str):(dI x).length=x.length:=by unfold dI;rw[EU];simp[Str.length]
variable {f9 iter:Expr}{x:Str}{px:Pos}{scope:Scope}{ti:TD}
end
section
variable {X:Cx}[J:Jx]{a b c e o:Expr}{es:List Expr}{ta tb tc te to:TD}{t:TDA}{pos:Pos}
abbrev RTx:=Str->List D->(D->Prop)->Prop
def dTx(r:RTx)(to:TD)(t:TDA):TD:=λz R=>to z λx=>match x with| .str y=>t z λds=>r y ds R|_=>False
def MtS(X:Cx)(id:String)(r:RTx):Prop:=∃ rv:V->List V->Hp->VK->Prop,MtR X id rv/\∀ (y:Str) (ds:List D) (vs:List V) (F H:Hp) (R:D->Prop) (Q:VK),Reps X.K F ds vs->r y ds R->(∀ d v,(∀ G,Rep X.K G d v)->R d->Q v H)->rv (.str y) vs H Q
theorem rF{name:Str}{id:String}{r:RTx}{apos cpos:Pos}(slot:Slot "str" name id)(Ln:typeOf (.builtin id)=pure (.type "method_descriptor"))(hm:MtS X id r)(ho:DE X o to)(ha:DA X (e::es) t)
  (b8:attributeBase o name X.env (eval o X.env)=eval o X.env:=by rfl)
  (d_:zHF X cpos (e::es):=by rfl)
  (c5:(apos.endLine==cpos.line)=true:=by rfl) (hs:zSE X e es:=by rfl) (n4:zPL X cpos es:=by rfl):
  DE X (.Call (.Attribute o name apos) (e::es) [] cpos) (dTx r to t):=by
 obtain⟨rv,hm,L⟩:=hm
 refine(dY PySem.F.plainAttrs_str slot Ln hm ho ha b8 d_ c5 hs n4).anti λs H Q q=>?_
 obtain⟨B,F,z,kf,rs,R,h1,h2⟩:=q
 refine⟨B,F,z,kf,rs,_,h1,λx u F1 H1 g1 hx rx=>?_⟩
 split at hx
 ·rename_i y
  rw[rep_str.mp rx]
  refine⟨rfl,B,F1,z,kf.grow g1,rs.grow g1,_,hx,λds vs F2 H2 g2 hy ry=>?_⟩
  exact L y ds vs F2 H2 R Q ry hy λd v rd hR=>h2 d v F2 H2 (g1.trans g2) hR (rd F2)
 ·exact hx.elim
def EI:RTx:=λy ds R=>match ds with|[.str p]=>R (.bl (Txt.startswith y p))|_=>False
def rEnds:RTx:=λy ds R=>match ds with|[.str p]=>R (.bl (Txt.endswith y p))|_=>False
theorem ms_ends:MtS X "str.endswith" rEnds:=by
 refine⟨λx vs H Q=>∃ y p,x= .str y/\vs=[.str p]/\Q (.bl (Txt.endswith y p)) H,?_,?_⟩
 ·intro pins s σ H x vs v us Q I rx rv h
  obtain⟨y,p,rfl,rfl,q⟩:=h
  obtain⟨t,rfl⟩:=rx
  obtain⟨u,rfl,t',rfl⟩:=bS rv
  exact SC.endswith ⟨.bl _,H,I,rfl,q⟩
 ·intro y ds vs F H R Q r h q
  unfold rEnds at h
  split at h
  ·obtain⟨v,vr,rfl,h1,h2⟩:=reps_cons.mp r
   rw[reps_nil.mp h2,rep_str.mp h1]
   exact⟨_,_,rfl,rfl,q _ _ (λ_=>rep_bl.mpr rfl) h⟩
  ·exact h.elim
theorem yR{apos cpos:Pos}(ho:WDE X o to)(ha:WDA X [e] t)(b8:attributeBase o "endswith" X.env (eval o X.env)=eval o X.env:=by rfl)
  (d_:zHF X cpos [e]:=by rfl)
  (c5:(apos.endLine==cpos.line)=true:=by rfl) (hs:zSE X e []:=by rfl):WDE X (.Call (.Attribute o "endswith" apos) [e] [] cpos) (dTx rEnds to t):=⟨have ho:=ho.out;have ha:=ha.out;rF PySem.F.slot_str_endswith PySem.F.type_str_endswith ms_ends ho ha b8 d_ c5 hs⟩
def rSIndex:RTx:=λy ds R=>match ds with|[.str p]=>∃ i rest,Builtin.Str.occurrences y p 0 y.length 1=i::rest/\R (.int (i:Nat))|_=>False
theorem yT:MtS X "str.index" rSIndex:=by
 refine⟨λx vs H Q=>∃ y p i rest,x= .str y/\vs=[.str p]/\Builtin.Str.occurrences y p 0 y.length 1=i::rest/\Q (.int (i:Nat)) H,?_,?_⟩
 ·intro pins s σ H x vs v us Q I rx rv h
  obtain⟨y,p,i,rest,rfl,rfl,ho,q⟩:=h
  obtain⟨t,rfl⟩:=rx
  obtain⟨u,rfl,t',rfl⟩:=bS rv
  exact SC.index ho ⟨.int _,H,I.tok _,⟨_,rfl⟩,q⟩
 ·intro y ds vs F H R Q r h q
  unfold rSIndex at h
  split at h
  ·obtain⟨i,rest,ho,h⟩:=h
   obtain⟨v,vr,rfl,h1,h2⟩:=reps_cons.mp r
   rw[reps_nil.mp h2,rep_str.mp h1]
   exact⟨_,_,i,rest,rfl,rfl,ho,q _ _ (λ_=>rep_int.mpr rfl) h⟩
  ·exact h.elim
theorem yU{apos cpos:Pos}(ho:WDE X o to)(ha:WDA X [e] t)(b8:attributeBase o "index" X.env (eval o X.env)=eval o X.env:=by rfl)
  (d_:zHF X cpos [e]:=by rfl)
  (c5:(apos.endLine==cpos.line)=true:=by rfl) (hs:zSE X e []:=by rfl):WDE X (.Call (.Attribute o "index" apos) [e] [] cpos) (dTx rSIndex to t):=⟨have ho:=ho.out;have ha:=ha.out;rF PySem.F.slot_str_index PySem.F.type_str_index yT ho ha b8 d_ c5 hs⟩
theorem Reps.init{K:Ex}{F:Hp}:∀ {ds:List D} {vs:List V},Reps K F ds vs->Reps K F ds.dropLast vs.dropLast
 |[],vs,r=>by rw[reps_nil.mp r];exact reps_nil.mpr rfl
 |[d],vs,r=>by
  obtain⟨v,vr,rfl,_,h2⟩:=reps_cons.mp r
  rw[reps_nil.mp h2]
  exact reps_nil.mpr rfl
 |d::d2::ds,vs,r=>by
  obtain⟨v,vr,rfl,h1,h2⟩:=reps_cons.mp r
  obtain⟨v2,Qa,rfl,h3,h4⟩:=reps_cons.mp h2
  rw[Hz,Hz]
  exact reps_cons.mpr ⟨v,_,rfl,h1,Reps.init h2⟩
end
end My
namespace My
open Exc
section
variable {X:Cx}{a b c e:Expr}{ta tb tc te:TD}{pos:Pos}{st:Stmt}{rest:List Stmt}{t u:TSD}
theorem aZ[Jx]{c:Expr}{l r:List Stmt}{tc:TDT}(hc:WDT X c tc)(ha:WDSs X l t)(hb:WDSs X r u):WDS X (.If c l r pos) (dIfS tc t u):=⟨qP (c:=c) (l:=l) (r:=r) (tc:=tc) (hc:=hc.out) (ha:=ha.out) (hb:=hb.out)⟩
end
section
variable {P:Program}{w:World}{K:Ex}{mg:Str->Option Value}{base:Heap}
theorem _root_.L2.Fun.okDW{x:Str}{st:Stmt}{f:Addr}{fd:FuncData}{N ps:List Str}{k:Nat}{S:SpD}(T:Fun K x x st f fd)(F:FnScope N ps (ag st))(len:∀ ds R,S ds R->ds.length=ps.length)
  (a9:∀ (cdv:Value) (A:Around) (outer:List Env) (s:Shared) (H:Hp) (E:XK) (J:Jx),Room k (A.deeper (envOfC x (ag st) s.heap.objs.size f cdv))->
   ∃ t,WDSs (cxOf (Exc.CX1 P w) P w K mg base N x (ag st) f cdv A outer s H E).nox (aJ st) t/\∀ ds R,S ds R->t {nx:=λ_=>R .non,rt:=R} (startD N ds)):FnOk P w K mg base (Exc.CX1 P w) (k+1) f fd ps (lSp K S):=
 T.okD F len λcdv A outer s H E J hr=>let ⟨t,h,q⟩:=a9 cdv A outer s H E J hr;⟨t,h.out,q⟩
theorem Tx.okDW{x:Str}{st:Stmt}{N ps:List Str}{k:Nat}{S:SpD}(T:Tx K mg x st ps)(F:FnScope N ps (ag st))(len:∀ ds R,S ds R->ds.length=ps.length)
  (a9:∀ (f:Addr) (cdv:Value) (A:Around) (outer:List Env) (s:Shared) (H:Hp) (E:XK) (J:Jx),Room k (A.deeper (envOfC x (ag st) s.heap.objs.size f cdv))->
   ∃ t,WDSs (cxOf (Exc.CX1 P w) P w K mg base N x (ag st) f cdv A outer s H E).nox (aJ st) t/\∀ ds R,S ds R->t {nx:=λ_=>R .non,rt:=R} (startD N ds)):CalD P w K mg base (k+1) x ps S:=
 Tx.okD T F len λf cdv A outer s H E J hr=>let ⟨t,h,q⟩:=a9 f cdv A outer s H E J hr;⟨t,h.out,q⟩
theorem Tx.okXW{x:Str}{st:Stmt}{N ps:List Str}{k:Nat}{S:SpX}(T:Tx K mg x st ps)(F:FnScope N ps (ag st))(len:∀ ds R RX,S ds R RX->ds.length=ps.length)
  (a9:∀ (f:Addr) (cdv:Value) (A:Around) (outer:List Env) (s:Shared) (H:Hp) (E:XK) (J:Jx),Room k (A.deeper (envOfC x (ag st) s.heap.objs.size f cdv))->XOk (cxOf (CX1 P w) P w K mg base N x (ag st) f cdv A outer s H E)->
   ∃ t,WDSs (cxOf (CX1 P w) P w K mg base N x (ag st) f cdv A outer s H E) (aJ st) t/\∀ ds R RX,(∀ z,J.RX z=RX)->S ds R RX->t {nx:=λ_=>R .non,rt:=R} (startD N ds)):CalX P w K mg base (k+1) x ps S:=
 Tx.okX T F len λf cdv A outer s H E J hr hx=>let ⟨t,h,q⟩:=a9 f cdv A outer s H E J hr hx;⟨t,h.out,q⟩
theorem Cls.okIW{x qual:Str}{st:Stmt}{f C:Addr}{fd:FuncData}{N:List Str}{p0:Str}{ps:List Str}{k:Nat}{S:SiD}(T:Fun K "__init__" qual st f fd)(hb:Binds K fd (p0::ps) [])(F:FnScope (p0::N) (p0::ps) (ag st))(len:∀ ds R,S ds R->ds.length=ps.length)
  (hns:nsIn K mainGlobals x=some (some (.ref C))) (k_:mg x=some (.ref C)) (mk:Mk K C f)
  (a9:∀ (cdv:Value) (A:Around) (outer:List Env) (s:Shared) (H:Hp) (E:XK) (J:Jx),Room k (A.deeper (envOfC qual (ag st) s.heap.objs.size f cdv))->
   ∃ t,WDI (cxOf (Exc.CX1 P w) P w K mg base (p0::N) qual (ag st) f cdv A outer s H E).nox x (aJ st) t/\∀ ds R,S ds R->t (none::startD N ds) [] R):CalM P w K mg base (k+1) x (p0::ps) S:=
 Cls.okI T hb F len hns k_ mk λcdv A outer s H E J hr=>let ⟨t,h,q⟩:=a9 cdv A outer s H E J hr;⟨t,h.out,q⟩
theorem Cls.okEW{x qual:Str}{st:Stmt}{f C N0:Addr}{bm:List Value}{fd:FuncData}{N:List Str}{p0:Str}{ps:List Str}{k:Nat}{S:SiD}(T:Fun K "__init__" qual st f fd)(hb:Binds K fd (p0::ps) [])(F:FnScope (p0::N) (p0::ps) (ag st))(len:∀ ds R,S ds R->ds.length=ps.length)
  (ek:ErrK K mg x C N0 bm) (hi:EV K (.ref C) "__init__"=some (some (.ref f))) (hf:isFn K (.ref f)=true)
  (a9:∀ (cdv:Value) (A:Around) (outer:List Env) (s:Shared) (H:Hp) (E:XK) (J:Jx),Room k (A.deeper (envOfC qual (ag st) s.heap.objs.size f cdv))->
   ∃ t,WDX (cxOf (CX1 P w) P w K mg base (p0::N) qual (ag st) f cdv A outer s H E).nox x (aJ st) t/\∀ ds R,S ds R->t (none::startD N ds) [] R):CalE P w K mg base (k+1) x (p0::ps) S:=
 Cls.okE T hb F len ek hi hf λcdv A outer s H E J hr=>let ⟨t,h,q⟩:=a9 cdv A outer s H E J hr;⟨t,h.out,q⟩
end
inductive MO where
 |ins (x:Str) (fs:List (Str × D))|lst (ds:List D)|dti (a8:List ((Int × Int) × Int))
abbrev MS:=List (Addr × MO)
def MRep(K:Ex)(F H:Hp)(a:Addr):MO->Prop
 | .ins x fs=>∃ C dx ws,nsIn K mainGlobals x=some (some (.ref C))/\H a=some (.ins C dx ws)/\RepF K F fs ws
 | .lst ds=>∃ vs,H a=some (.lst vs)/\Reps K F ds vs
 | .dti a8=>H a=some (.dT (dtiV a8))
def ax(M:MS):List Addr:=M.map (·.1)
def mget:MS->Addr->Option MO
 |[],_=>none
 |(b,o)::r,a=>if b=a then some o else mget r a
def mput:MS->Addr->MO->MS
 |[],_,_=>[]
 |(b,p)::r,a,o=>if b=a then(b,o)::r else(b,p)::mput r a o
def mdel:MS->Addr->MS
 |[],_=>[]
 |(b,p)::r,a=>if b=a then r else(b,p)::mdel r a
theorem bU:∀ {M:MS} {a:Addr} {o:MO},mget M a=some o->(a,o)∈M
 |[],_,_,h=>by cases h
 |(b,p)::r,a,o,h=>by
  unfold mget at h
  split at h
  ·rename_i e;subst e;cases h;exact ET
  ·exact ES _ (bU h)
theorem cw{M:MS}{a:Addr}{o:MO}(h:(a,o)∈M):a∈ax M:=Fh.mpr ⟨_,h,rfl⟩
theorem gL:∀ (M:MS) (a:Addr) (o:MO),ax (mput M a o)=ax M
 |[],_,_=>rfl
 |(b,p)::r,a,o=>by
  unfold mput
  split
  ·rfl
  ·show b::ax (mput r a o)=b::ax r
   rw[gL r a o]
theorem mem_put:∀ {M:MS} {a b:Addr} {o q:MO},(ax M).Nodup->(b,q)∈mput M a o->(b=a/\q=o/\a∈ax M)\/(b≠a/\(b,q)∈M)
 |[],_,_,_,_,_,h=>by cases h
 |(c,p)::r,a,b,o,q,nd,h=>by
  have J9:c ∉ ax r/\(ax r).Nodup:=FH.mp nd
  unfold mput at h
  split at h
  ·rename_i e
   subst e
   rcases EO.mp h with z|z
   ·cases z;exact .inl ⟨rfl,rfl,ET⟩
   ·have:b∈ax r:=cw z
    exact .inr ⟨λe=>J9.1 (e ▸ this),ES _ z⟩
  ·rename_i ne
   rcases EO.mp h with z|z
   ·cases z;exact .inr ⟨ne,ET⟩
   ·rcases mem_put J9.2 z with⟨e1,e2,e3⟩|⟨e1,e2⟩
    ·exact .inl ⟨e1,e2,ES _ e3⟩
    ·exact .inr ⟨e1,ES _ e2⟩
theorem jO:∀ {M:MS} {a b:Addr} {q:MO},(ax M).Nodup->(b,q)∈mdel M a->b≠a/\(b,q)∈M
 |[],_,_,_,_,h=>by cases h
 |(c,p)::r,a,b,q,nd,h=>by
  have J9:c ∉ ax r/\(ax r).Nodup:=FH.mp nd
  unfold mdel at h
  split at h
  ·rename_i e
   subst e
   exact⟨λe=>J9.1 (e ▸ cw h),ES _ h⟩
  ·rename_i ne
   rcases EO.mp h with z|z
   ·cases z;exact⟨ne,ET⟩
   ·obtain⟨e1,e2⟩:=jO J9.2 z
    exact⟨e1,ES _ e2⟩
theorem del_sub:∀ {M:MS} {a:Addr},(ax (mdel M a)).Sublist (ax M)
 |[],_=> .slnil
 |(c,p)::r,a=>by
  unfold mdel
  split
  ·exact List.sublist_cons_self _ _
  ·exact List.Sublist.cons_cons _ del_sub
theorem MRep.mono{K:Ex}{F H F' H':Hp}{a:Addr}(ff:Same F F')(hh:∀ o,H a=some o->H' a=some o):∀ {o:MO},MRep K F H a o->MRep K F' H' a o
 | .ins x fs,⟨C,dx,ws,n,h,r⟩=>⟨C,dx,ws,n,hh _ h,RepF.mono ff fs ws r⟩
 | .lst ds,⟨vs,h,r⟩=>⟨vs,hh _ h,Reps.mono ff ds vs r⟩
 | .dti a8,h=>hh _ h
theorem MRep.there{K:Ex}{F H:Hp}{a:Addr}:∀ {o:MO},MRep K F H a o->H a≠none
 | .ins x fs,⟨C,dx,ws,n,h,r⟩=>by rw[h];exact λz=>nomatch z
 | .lst ds,⟨vs,h,r⟩=>by rw[h];exact λz=>nomatch z
 | .dti a8,h=>by rw[show H a=_ from h];exact λz=>nomatch z
structure RepM(K:Ex)(F H:Hp)(M:MS):Prop where
 nd:(ax M).Nodup
 ok:∀ a o,(a,o)∈M->MRep K F H a o
 fr:∀ a,a∈ax M->F a=none
theorem RepM.nil{K:Ex}{F H:Hp}:RepM K F H []:=⟨Hn,(λ_ _ h=>nomatch h),(λ_ h=>nomatch h)⟩
theorem RepM.here{K:Ex}{F H:Hp}{M:MS}(r:RepM K F H M){a:Addr}(h:a∈ax M):H a≠none:=by
 obtain⟨⟨b,o⟩,h1,rfl⟩:=Fh.mp h
 exact(r.ok _ _ h1).there
structure GrowM(M M':MS)(F H F' H':Hp):Prop where
 ff:Same F F'
 fh:Same F' H'
 hh:∀ b o,b ∉ ax M->H b=some o->H' b=some o
 out:∀ b,b ∉ ax M->F b=none->H b≠none->F' b=none
 ks:∀ b,b∈ax M'->b∈ax M\/H b=none
theorem Grow.toM{M:MS}{F H F' H':Hp}(g:Grow F H F' H'):GrowM M M F H F' H':=⟨g.ff,g.fh,λb o _ h=>g.hh b o h,λb _ h1 h2=>g.out b h1 h2,λb h=> .inl h⟩
theorem GrowM.refl{M:MS}{F H:Hp}(h:Same F H):GrowM M M F H F H:=(Grow.refl h).toM
theorem GrowM.trans{M M1 M2:MS}{F H F1 H1 F2 H2:Hp}(g:GrowM M M1 F H F1 H1)(k:GrowM M1 M2 F1 H1 F2 H2):GrowM M M2 F H F2 H2 where
  ff:=g.ff.trans k.ff
  fh:=k.fh
  hh:=λb o nb h=>k.hh b o (λz=>by rcases g.ks b z with q|q;exact nb q;rw[q] at h;cases h) (g.hh b o nb h)
  out:=λb nb h1 h2=>k.out b (λz=>by rcases g.ks b z with q|q;exact nb q;exact h2 q) (g.out b nb h1 h2) (by
    cases e:H b with
    |none=>exact absurd e h2
    |some o=>rw[g.hh b o nb e];exact λz=>nomatch z)
  ks := λb h=>by
    rcases k.ks b h with q|q
    · exact g.ks b q
    · by_cases nb:b∈ax M
      · exact .inl nb
      · right
        cases e:H b with
        |none=>rfl
        |some o=>rw[g.hh b o nb e] at q;cases q
theorem RepM.grow{K:Ex}{F H F' H':Hp}{M:MS}(r:RepM K F H M)(g:Grow F H F' H'):RepM K F' H' M:=
 ⟨r.nd,λa o h=>(r.ok a o h).mono g.ff λo e=>g.hh a o e,λa h=>g.out a (r.fr a h) (r.here h)⟩
theorem RepM.put{K:Ex}{F H:Hp}{M:MS}{a:Addr}{o o':MO}{ho:HO}(r:RepM K F H M)(e:mget M a=some o)(h:MRep K F (upd H a ho) a o'):RepM K F (upd H a ho) (mput M a o'):=
 ⟨by rw[gL];exact r.nd,λb q hb=>by
  rcases mem_put r.nd hb with⟨rfl,rfl,_⟩|⟨ne,hb⟩
  ·exact h
  ·exact(r.ok b q hb).mono (Same.refl F) λu z=>by rw[aq ne];exact z,λb hb=>r.fr b (by rw[gL] at hb;exact hb)⟩
theorem GrowM.put{F H:Hp}{M:MS}{a:Addr}{o o':MO}{ho:HO}(fh:Same F H)(fa:F a=none)(e:mget M a=some o):GrowM M (mput M a o') F H F (upd H a ho) where
 ff:=Same.refl F
 fh:=λb u z=>by
  have ne:b≠a:=by rintro rfl;rw[fa] at z;cases z
  rw[aq ne];exact fh b u z
 hh:=λb u nb z=>by
  have ne:b≠a:=by rintro rfl;exact nb (cw (bU e))
  rw[aq ne];exact z
 out:=λb _ h _=>h
 ks:=λb h=> .inl (by rw[gL] at h;exact h)
theorem RepM.new{K:Ex}{F H:Hp}{M:MS}{p:Addr}{o:MO}{ho:HO}(r:RepM K F H M)(fh:Same F H)(hp:H p=none)(h:MRep K F (upd H p ho) p o):RepM K F (upd H p ho) ((p,o)::M):=by
 have np:p ∉ ax M:=λz=>r.here z hp
 refine⟨FH.mpr ⟨np,r.nd⟩,λb q hb=>?_,λb hb=>?_⟩
 ·rcases EO.mp hb with z|z
  ·cases z;exact h
  ·exact(r.ok b q z).mono (Same.refl F) λu z'=>by rw[aq (λe:b=p=>np (e ▸ cw z))];exact z'
 ·rcases EO.mp hb with z|z
  ·rw[z];exact fh.free hp
  ·exact r.fr b z
theorem GrowM.new{F H:Hp}{M:MS}{p:Addr}{o:MO}{ho:HO}(fh:Same F H)(hp:H p=none):GrowM M ((p,o)::M) F H F (upd H p ho) where
 ff:=Same.refl F
 fh:=fh.trans (aS hp _)
 hh:=λb u _ z=>aS hp _ b u z
 out:=λb _ h _=>h
 ks:=λb h=>by
  rcases EO.mp h with z|z
  ·exact .inr (by rw[z];exact hp)
  ·exact .inl z
structure RepZ(K:Ex)(B F H:Hp)(z:SD)(s:L2.St)(M:MS):Prop where
 rs:RepS K B F H z s
 no:∀ (i:Nat) ds,z[i]?≠some (some (.own ds))
 rm:RepM K F H M
 mb:∀ a,a∈ax M->B a=none
theorem Kept.growM[Jx]{B F0 F H F' H':Hp}{M M':MS}(k:Kept B F0 F H)(mb:∀ a,a∈ax M->B a=none)(g:GrowM M M' F H F' H'):Kept B F0 F' H' where
 bh:=λb o e=>g.hh b o (λz=>by rw[mb b z] at e;cases e) (k.bh b o e)
 fh:=g.fh
 f0:=k.f0.trans g.ff
 out:=λb h1 h2=>g.out b (λz=>h2 (mb b z)) (k.out b h1 h2) (by
  cases e:B b with
  |none=>exact absurd e h2
  |some o=>rw[k.bh b o e];exact λz=>nomatch z)
 eb:=k.eb
 jf:=k.jf
 jo:=k.jo
theorem RepS.growM{K:Ex}{B F H F' H':Hp}{z:SD}{s:L2.St}{M M':MS}(r:RepS K B F H z s)(no:∀ (i:Nat) ds,z[i]?≠some (some (.own ds)))(g:GrowM M M' F H F' H'):RepS K B F' H' z s where
 len:=r.len
 val:=λi d e n=>let ⟨v,q1,q2⟩:=r.val i d e n;⟨v,q1,q2.mono g.ff⟩
 own:=λi ds e=>absurd e (no i ds)
 apart:=r.apart
theorem RepZ.growM{K:Ex}{B F H F' H':Hp}{z:SD}{s:L2.St}{M M':MS}(r:RepZ K B F H z s M)(bh:Same B H)(g:GrowM M M' F H F' H')(rm:RepM K F' H' M'):RepZ K B F' H' z s M':=
 ⟨r.rs.growM r.no g,r.no,rm,λa h=>by
  rcases g.ks a h with q|q
  ·exact r.mb a q
  ·exact bh.free q⟩
theorem RepZ.set{K:Ex}{B F H:Hp}{z:SD}{s:L2.St}{M:MS}{i:Nat}{d:D}{v:V}(r:RepZ K B F H z s M)(rd:Rep K F d v):RepZ K B F H (z.set i (some d)) (s.set i (some v)) M:=
 ⟨r.rs.set rd,λj ds e=>by
  by_cases hj:i=j
  ·subst hj
   rw[Gg] at e
   simp at e
   have:=rd.noown
   rw[e.2] at this
   cases this
  ·rw[Fb hj] at e
   exact r.no j ds e,r.rm,r.mb⟩
class Jm extends Jx where
 RM:SD->MS->XD
abbrev TME:=SD->MS->(D->MS->Prop)->Prop
abbrev TMT:=SD->MS->(Bool->MS->Prop)->Prop
abbrev TMA:=SD->MS->(List D->MS->Prop)->Prop
structure EndsM where
 nx:SD->MS->Prop
 rt:D->MS->Prop
 bk:SD->MS->Prop:=λ_ _=>False
 ct:SD->MS->Prop:=λ_ _=>False
abbrev TMS:=EndsM->SD->MS->Prop
def mE(K:Ex)[J:Jm](t:TME):TE:=λs H Q=>∃ F z M,Kept J.B J.F0 F H/\RepZ K J.B F H z s M/\∃ R:D->MS->Prop,t z M R/\∀ d v M' F' H',GrowM M M' F H F' H'->R d M'->Rep K F' d v->RepM K F' H' M'->Q v H'
def mT(K:Ex)[J:Jm](t:TMT):TT:=λs H Q=>∃ F z M,Kept J.B J.F0 F H/\RepZ K J.B F H z s M/\∃ R:Bool->MS->Prop,t z M R/\∀ b M' F' H',GrowM M M' F H F' H'->R b M'->RepM K F' H' M'->Q b H'
def mA(K:Ex)[J:Jm](t:TMA):TA:=λs H Q=>∃ F z M,Kept J.B J.F0 F H/\RepZ K J.B F H z s M/\∃ R:List D->MS->Prop,t z M R/\∀ ds vs M' F' H',GrowM M M' F H F' H'->R ds M'->Reps K F' ds vs->RepM K F' H' M'->Q vs H'
structure EndsOkM[J:Jm](K:Ex)(F0:Hp)(ED:EndsM)(E:Ends):Prop where
 nx:∀ z' s' M' F' H',Kept J.B F0 F' H'->ED.nx z' M'->RepZ K J.B F' H' z' s' M'->E.nx s' H'
 rt:∀ d v M' F' H',Kept J.B F0 F' H'->ED.rt d M'->Rep K F' d v->RepM K F' H' M'->(∀ a,a∈ax M'->J.B a=none)->E.rt v H'
 bk:∀ z' s' M' F' H',Kept J.B F0 F' H'->ED.bk z' M'->RepZ K J.B F' H' z' s' M'->E.bk s' H'
 ct:∀ z' s' M' F' H',Kept J.B F0 F' H'->ED.ct z' M'->RepZ K J.B F' H' z' s' M'->E.ct s' H'
def mS(K:Ex)[J:Jm](t:TMS):TS:=λE s H=>∃ F0 F z M,Kept J.B F0 F H/\RepZ K J.B F H z s M/\∃ ED:EndsM,t ED z M/\EndsOkM K F0 ED E
structure ME(X:Cx)[Jm](e:Expr)(t:TME):Prop where
 out:PE X e (mE X.K t)
structure MT(X:Cx)[Jm](e:Expr)(t:TMT):Prop where
 out:PT X e (mT X.K t)
structure MW(X:Cx)[Jm](e:Expr)(t:TMT):Prop where
 out:PW X e (mT X.K t)
structure MA(X:Cx)[Jm](es:List Expr)(t:TMA):Prop where
 out:PA X es (mA X.K t)
structure MSt(X:Cx)[Jm](st:Stmt)(t:TMS):Prop where
 out:PS X st (mS X.K t)
structure MSs(X:Cx)[Jm](st:List Stmt)(t:TMS):Prop where
 out:PSs X st (mS X.K t)
section
variable {X:Cx}{a b c e:Expr}{ta tb:TME}{pos:Pos}
def mP(t:TD):TME:=λz M R=>t z λd=>R d M
def mPT(t:TDT):TMT:=λz M R=>t z λd=>R d M
def mPA(t:TDA):TMA:=λz M R=>t z λd=>R d M
theorem am[J:Jm]{t:TD}(h:WDE X e t):ME X e (mP t):=⟨PE.anti h.out λs H Q q=>by
 obtain⟨F,z,M,k,r,R,h1,h2⟩:=q
 exact⟨J.B,F,z,k,r.rs,_,h1,λd v F' H' g hd rd=>h2 d v M F' H' g.toM hd rd (r.rm.grow g)⟩⟩
theorem cm[J:Jm]{t:TDT}(h:WDT X e t):MT X e (mPT t):=⟨PT.anti h.out λs H Q q=>by
 obtain⟨F,z,M,k,r,R,h1,h2⟩:=q
 exact⟨J.B,F,z,k,r.rs,_,h1,λd F' H' g hd=>h2 d M F' H' g.toM hd (r.rm.grow g)⟩⟩
theorem aD[J:Jm]{es:List Expr}{t:TDA}(h:WDA X es t):MA X es (mPA t):=⟨PA.anti h.out λs H Q q=>by
 obtain⟨F,z,M,k,r,R,h1,h2⟩:=q
 exact⟨J.B,F,z,k,r.rs,_,h1,λd v F' H' g hd rd=>h2 d v M F' H' g.toM hd rd (r.rm.grow g)⟩⟩
def mOp(r:RD2)(ta tb:TME):TME:=λz M R=>ta z M λx M1=>tb z M1 λy M2=>r x y λd=>R d M2
theorem rG[J:Jm]{e:Expr}{r:R2}{rd:RD2}{ta tb:TME}(L:aY X.K r rd)(h:PE X e (tOp r (mE X.K ta) (mE X.K tb))):ME X e (mOp rd ta tb):=⟨h.anti λs H Q q=>by
 obtain⟨F,z,M,k,rs,R,h1,h2⟩:=q
 refine⟨F,z,M,k,rs,_,h1,λx u M1 F1 H1 g1 hx rx m1=>?_⟩
 refine⟨F1,z,M1,k.growM rs.mb g1,rs.growM k.bh g1 m1,_,hx,λy v M2 F2 H2 g2 hy ry m2=>?_⟩
 exact L x y u v F2 H2 _ Q g2.fh hy (rx.mono g2.ff) ry λd w F3 H3 g3 hd rd=>h2 d w M2 F3 H3 ((g1.trans g2).trans g3.toM) hd rd (m2.grow g3)⟩
theorem rH[J:Jm]{op:Operator}{r:R2}{rd:RD2}(ho:OpR X (binaryOp op) r)(L:aY X.K r rd)(ha:ME X a ta)(hb:ME X b tb):ME X (.BinOp a op b pos) (mOp rd ta tb):=rG L (pJ ho ha.out hb.out)
theorem rJ[J:Jm](ha:ME X a ta)(hb:ME X b tb)(hs:fw b:=by exact λ_ _=>rfl):ME X (.Subscript a b pos) (mOp rdIx ta tb):=rG qI (pe_ix qk ha.out hb.out hs)
theorem gM[Jm](ha:ME X a ta)(hb:ME X b tb):ME X (.BinOp a .Add b pos) (mOp rdAdd ta tb):=rH qA qB ha hb
theorem jP[Jm](ha:ME X a ta)(hb:ME X b tb):ME X (.BinOp a .Sub b pos) (mOp rdSub ta tb):=rH pK qC ha hb
def mTst(t:TME):TMT:=λz M R=>t z M λx M1=>match x with| .bl k=>R k M1|_=>False
theorem gN[J:Jm]{op:CmpOp}{r:R2}{rd:RD2}(ho:OpR X (compareOp op) r)(L:aY X.K r rd)(ha:ME X a ta)(hb:ME X b tb)(hm:behindInMarks op b=false):MT X (.Compare a [op] [b] pos) (mTst (mOp rd ta tb)):=⟨(pQ ho ha.out hb.out hm).anti λs H Q q=>by
 obtain⟨F,z,M,k,rs,R,h1,h2⟩:=q
 refine⟨F,z,M,k,rs,_,h1,λx u M1 F1 H1 g1 hx rx m1=>?_⟩
 refine⟨F1,z,M1,k.growM rs.mb g1,rs.growM k.bh g1 m1,_,hx,λy v M2 F2 H2 g2 hy ry m2=>?_⟩
 refine L x y u v F2 H2 _ _ g2.fh hy (rx.mono g2.ff) ry λd w F3 H3 g3 hd rd=>?_
 dsimp only at hd
 split at hd
 ·exact⟨_,rep_bl.mp rd,h2 _ M2 F3 H3 ((g1.trans g2).trans g3.toM) hd (m2.grow g3)⟩
 ·exact hd.elim⟩
theorem rK[Jm](ha:ME X a ta)(hb:ME X b tb):MT X (.Compare a [.Lt] [b] pos) (mTst (mOp rdLt ta tb)):=gN pP qF ha hb (nomark _)
theorem gO[Jm](ha:ME X a ta)(hb:ME X b tb):MT X (.Compare a [.Eq] [b] pos) (mTst (mOp rdEq ta tb)):=gN jp jC ha hb (nomark _)
theorem rL[Jm](ha:ME X a ta)(hb:ME X b tb):MT X (.Compare a [.Is] [b] pos) (mTst (mOp (rdIs id) ta tb)):=gN jq jD ha hb (nomark _)
theorem yV[Jm](ha:ME X a ta)(hb:ME X b tb)(hm:behindInMarks .NotIn b=false:=by rfl):MT X (.Compare a [.NotIn] [b] pos) (mTst (mOp (rdIn true) ta tb)):=gN yO yM ha hb hm
variable {tA tB:TMT}{rest:List Expr}
theorem mt_w[Jm](h:MW X a tA):MT X a tA:=⟨PW.pt h.out⟩
theorem yY[Jm](ha:MT X a tA):MW X (.BoolOp .And [a] pos) tA:=⟨pj ha.out⟩
theorem yZ[Jm](ha:MT X a tA):MW X (.BoolOp .Or [a] pos) tA:=⟨pk ha.out⟩
def mAnd(tA tB:TMT):TMT:=λz M R=>tA z M λk M1=>if k=true then tB z M1 R else R false M1
def mOr(tA tB:TMT):TMT:=λz M R=>tA z M λk M1=>if k=true then R true M1 else tB z M1 R
theorem za[J:Jm](ha:MT X a tA)(hb:MW X (.BoolOp .And (b::rest) pos) tB):MW X (.BoolOp .And (a::b::rest) pos) (mAnd tA tB):=⟨(pp ha.out hb.out).anti λs H Q q=>by
 obtain⟨F,z,M,k,rs,R,h1,h2⟩:=q
 refine⟨F,z,M,k,rs,_,h1,λx M1 F1 H1 g1 hx m1=>?_⟩
 cases x with
 |true=>exact⟨F1,z,M1,k.growM rs.mb g1,rs.growM k.bh g1 m1,R,hx,λy M2 F2 H2 g2 hy m2=>h2 y M2 F2 H2 (g1.trans g2) hy m2⟩
 |false=>exact h2 _ M1 F1 H1 g1 hx m1⟩
theorem zb[J:Jm](ha:MT X a tA)(hb:MW X (.BoolOp .Or (b::rest) pos) tB):MW X (.BoolOp .Or (a::b::rest) pos) (mOr tA tB):=⟨(pq ha.out hb.out).anti λs H Q q=>by
 obtain⟨F,z,M,k,rs,R,h1,h2⟩:=q
 refine⟨F,z,M,k,rs,_,h1,λx M1 F1 H1 g1 hx m1=>?_⟩
 cases x with
 |false=>exact⟨F1,z,M1,k.growM rs.mb g1,rs.growM k.bh g1 m1,R,hx,λy M2 F2 H2 g2 hy m2=>h2 y M2 F2 H2 (g1.trans g2) hy m2⟩
 |true=>exact h2 _ M1 F1 H1 g1 hx m1⟩
def mIf(tc:TMT)(ta tb:TME):TME:=λz M R=>tc z M λk M1=>if k=true then ta z M1 R else tb z M1 R
theorem fK[J:Jm]{tc:TMT}(hc:MT X c tc)(ha:ME X a ta)(hb:ME X b tb):ME X (.IfExp c a b pos) (mIf tc ta tb):=⟨(vj hc.out ha.out hb.out).anti λs H Q q=>by
 obtain⟨F,z,M,k,rs,R,h1,h2⟩:=q
 refine⟨F,z,M,k,rs,_,h1,λx M1 F1 H1 g1 hx m1=>?_⟩
 cases x with
 |true=>exact⟨F1,z,M1,k.growM rs.mb g1,rs.growM k.bh g1 m1,R,hx,λd v M2 F2 H2 g2 hy rd m2=>h2 d v M2 F2 H2 (g1.trans g2) hy rd m2⟩
 |false=>exact⟨F1,z,M1,k.growM rs.mb g1,rs.growM k.bh g1 m1,R,hx,λd v M2 F2 H2 g2 hy rd m2=>h2 d v M2 F2 H2 (g1.trans g2) hy rd m2⟩⟩
def mNil:TMA:=λ_ M R=>R [] M
def zc(ta:TME)(tr:TMA):TMA:=λz M R=>ta z M λx M1=>tr z M1 λxs M2=>R (x::xs) M2
theorem br[J:Jm]:MA X [] mNil:=⟨pa_nil.anti λs H Q q=>by
 obtain⟨F,z,M,k,rs,R,h1,h2⟩:=q
 exact h2 [] [] M F H (GrowM.refl k.fh) h1 (reps_nil.mpr rfl) rs.rm⟩
theorem aT[J:Jm]{e:Expr}{es:List Expr}{te:TME}{t:TMA}(ha:ME X e te)(hr:MA X es t)(hs:zSE X e es:=by rfl):MA X (e::es) (zc te t):=⟨(bv ha.out hr.out hs).anti λs H Q q=>by
 obtain⟨F,z,M,k,rs,R,h1,h2⟩:=q
 refine⟨F,z,M,k,rs,_,h1,λx u M1 F1 H1 g1 hx rx m1=>?_⟩
 refine⟨F1,z,M1,k.growM rs.mb g1,rs.growM k.bh g1 m1,_,hx,λxs us M2 F2 H2 g2 hy ry m2=>?_⟩
 exact h2 _ _ M2 F2 H2 (g1.trans g2) hy (reps_cons.mpr ⟨_,_,rfl,rx.mono g2.ff,ry⟩) m2⟩
def mTup(t:TMA):TME:=λz M R=>t z M λxs M1=>xs.length<=1000/\R (.tup xs) M1
theorem zd[J:Jm]{es:List Expr}{t:TMA}{x1}(h:MA X es t):ME X (.Tuple es x1 pos) (mTup t):=⟨(pW h.out).anti λs H Q q=>by
 obtain⟨F,z,M,k,rs,R,h1,h2⟩:=q
 refine⟨F,z,M,k,rs,_,h1,λds vs M1 F1 H1 g1 hx rx m1=>?_⟩
 have hl:=rx.length
 refine⟨sz (by rw[hl];exact hx.1),λp hp=>?_⟩
 have gn:=Grow.new g1.fh hp (.tup vs)
 exact h2 _ _ M1 _ _ (g1.trans gn.toM) hx.2 (rep_tupS.mpr ⟨p,vs,rfl,aA,rx.mono (aS (g1.fh.free hp) _)⟩) (m1.grow gn)⟩
def mLst(t:TMA):TME:=λz M R=>t z M λxs M1=>xs.length<=1000/\∀ p,p ∉ ax M1->R (.ptr p) ((p,.lst xs)::M1)
theorem ze[J:Jm]{es:List Expr}{t:TMA}(h:MA X es t):ME X (.List es pos) (mLst t):=⟨(jt h.out).anti λs H Q q=>by
 obtain⟨F,z,M,k,rs,R,h1,h2⟩:=q
 refine⟨F,z,M,k,rs,_,h1,λds vs M1 F1 H1 g1 hx rx m1=>?_⟩
 have hl:=rx.length
 refine⟨sz (by rw[hl];exact hx.1),λp hp=>?_⟩
 exact h2 _ _ _ F1 _ (g1.trans (GrowM.new g1.fh hp)) (hx.2 p λz=>m1.here z hp) (rep_ptr.mpr rfl) (m1.new g1.fh hp ⟨vs,aA,rx⟩)⟩
def mCB(r:RDn)(t:TMA):TME:=λz M R=>t z M λds M1=>r ds λd=>R d M1
theorem zf[J:Jm]{x:Str}{p:Pos}{e:Expr}{es:List Expr}{t:TMA}{id:String}{r:List V->Hp->VK->Prop}{rd:RDn}(hc:bA X (.builtin id) r)(L:ci X.K r rd)(hm:X.mg x=none)(hv:bootBuiltins x=some (.builtin id))(ha:MA X (e::es) t)(hg:Gl X x:=by rfl)(hn:x≠"__name__":=by decide)(d7:zND x:=by decide)
  (he:zSE X e es:=by rfl) (b9:zPL X pos es:=by rfl):ME X (.Call (.Name x p) (e::es) [] pos) (mCB rd t):=⟨(gj hc hg hm hv ha.out hn d7 he b9).anti λs H Q h=>by
 obtain⟨F,z,M,k,rs,R,h1,h2⟩:=h
 refine⟨F,z,M,k,rs,_,h1,λds vs M1 F1 H1 g1 hx rx m1=>?_⟩
 exact L ds vs F1 H1 _ Q g1.fh hx rx λd w F' H' g hd rd=>h2 d w M1 F' H' (g1.trans g.toM) hd rd (m1.grow g)⟩
theorem rM[Jm]{p:Pos}{e:Expr}{t:TMA}(hm:X.mg "len"=none)(ha:MA X [e] t)(hg:Gl X "len":=by rfl)(he:zSE X e []:=by rfl):ME X (.Call (.Name "len" p) [e] [] pos) (mCB rdLen t):=zf jr qK hm PySem.boot_len ha hg (by decide) (by decide) he
theorem zg[J:Jm]{x:Str}{p:Pos}{e:Expr}{es:List Expr}{t:TMA}{T:String}{r:List V->Hp->VK->Prop}{rd:RDn}(hc:bA X (.type T) r)(L:ci X.K r rd)(hm:X.mg x=none)(hv:bootBuiltins x=some (.type T))(ha:MA X (e::es) t)(hg:Gl X x:=by rfl)(hn:x≠"__name__":=by decide)(d7:zND x:=by decide)
  (he:zSE X e es:=by rfl) (b9:zPL X pos es:=by rfl):ME X (.Call (.Name x p) (e::es) [] pos) (mCB rd t):=⟨(qc hc hg hm hv ha.out hn d7 he b9).anti λs H Q h=>by
 obtain⟨F,z,M,k,rs,R,h1,h2⟩:=h
 refine⟨F,z,M,k,rs,_,h1,λds vs M1 F1 H1 g1 hx rx m1=>?_⟩
 exact L ds vs F1 H1 _ Q g1.fh hx rx λd w F' H' g hd rd=>h2 d w M1 F' H' (g1.trans g.toM) hd rd (m1.grow g)⟩
theorem rN[Jm]{p:Pos}{t:TMA}(hm:X.mg "int"=none)(ha:MA X [e] t)(hg:Gl X "int":=by rfl)(he:zSE X e []:=by rfl):ME X (.Call (.Name "int" p) [e] [] pos) (mCB rdInt t):=zg qR qS hm PyProof.Rows.boot_int ha hg (by decide) (by decide) he
def eM(M:MS)(d:D)(x:Str)(fs:List (Str × D)):Prop:=match d with| .ptr a=>mget M a=some (.ins x fs)| .obj y gs=>y=x/\gs=fs|_=>False
def mFld(x f:Str)(te:TME):TME:=λz M R=>te z M λd M1=>∃ fs,eM M1 d x fs/\∃ d',fs.lookup f=some d'/\R d' M1
theorem jQ{K:Ex}{F H:Hp}{M:MS}{d:D}{v:V}{x:Str}{fs:List (Str × D)}(fh:Same F H)(rm:RepM K F H M)(rd:Rep K F d v)(h:eM M d x fs):∃ a C dx ws,v= .ref a/\nsIn K mainGlobals x=some (some (.ref C))/\H a=some (.ins C dx ws)/\RepF K F fs ws:=by
 unfold eM at h
 split at h
 ·rename_i a
  obtain⟨C,dx,ws,n,h1,h2⟩:=rm.ok _ _ (bU h)
  exact⟨a,C,dx,ws,rep_ptr.mp rd,n,h1,h2⟩
 ·obtain⟨rfl,rfl⟩:=h
  obtain⟨a,C,dx,ws,e,n,h1,h2⟩:=rep_obj.mp rd
  exact⟨a,C,dx,ws,e,n,fh _ _ h1,h2⟩
 ·exact h.elim
theorem aL[J:Jm]{x f:Str}(hA:ClsA X.K x f)(he:ME X e ta)(hb:attributeBase e f X.env (eval e X.env)=eval e X.env:=by rfl):ME X (.Attribute e f pos) (mFld x f ta):=⟨(pU he.out hb).anti λs H Q q=>by
 obtain⟨C,hn,hc,hf⟩:=hA
 obtain⟨F,z,M,k,rs,R,h1,h2⟩:=q
 refine⟨F,z,M,k,rs,_,h1,λd u M1 F1 H1 g1 hx rx m1=>?_⟩
 obtain⟨fs,hi,d',hl,hR⟩:=hx
 obtain⟨a,C',dx,ws,rfl,k8,hH,rf⟩:=jQ g1.fh m1 rx hi
 rw[hn] at k8
 cases k8
 obtain⟨v,l,rv⟩:=rf.look hl
 exact⟨a,C,dx,ws,v,rfl,hH,hc,hf,l,h2 d' v M1 F1 H1 g1 hR rv m1⟩⟩
end
abbrev XDM:=Str->List (Str × D)->MS->Prop
abbrev SpM:=List D->MS->(D->MS->Prop)->XDM->Prop
def lSpM(K:Ex)(S:SpM):Sp:=λvs H Q E=>∃ F ds M,Same F H/\Reps K F ds vs/\RepM K F H M/\∃ (R:D->MS->Prop) (RX:XDM),S ds M R RX/\(∀ d v M' F' H',GrowM M M' F H F' H'->R d M'->Rep K F' d v->RepM K F' H' M'->Q v H')/\
 ∀ x fs C od M' F' H',GrowM M M' F H F' H'->RX x fs M'->ErrD K F' x fs C od->RepM K F' H' M'->E (.ref C) od H'
abbrev CalMM(P:Program)(w:World)(K:Ex)(mg:Str->Option Value)(base:Heap)(n:Nat)(x:Str)(ps:List Str)(S:SpM):Prop:=Cal P w K mg base n x ps (lSpM K S)
def ofX(S:SpX):SpM:=λds M R RX=>S ds (λd=>R d M) λx fs=>RX x fs M
def ofD(S:SpD):SpM:=λds M R _=>S ds λd=>R d M
theorem zh{K:Ex}{S:SpX}{vs:List V}{H:Hp}{Q:VK}{E:XK}(h:lSpM K (ofX S) vs H Q E):lSpX K S vs H Q E:=by
 obtain⟨F,ds,M,fh,rs,rm,R,RX,hS,q,qx⟩:=h
 exact⟨F,ds,fh,rs,_,_,hS,λd v F' H' g hd rd=>q d v M F' H' g.toM hd rd (rm.grow g),λx fs C od F' H' g hR er=>qx x fs C od M F' H' g.toM hR er (rm.grow g)⟩
theorem zi{K:Ex}{S:SpD}{vs:List V}{H:Hp}{Q:VK}{E:XK}(h:lSpM K (ofD S) vs H Q E):lSp K S vs H Q E:=by
 obtain⟨F,ds,M,fh,rs,rm,R,RX,hS,q,qx⟩:=h
 exact⟨F,ds,fh,rs,_,hS,λd v F' H' g hd rd=>q d v M F' H' g.toM hd rd (rm.grow g)⟩
section
variable {P:Program}{w:World}{K:Ex}{mg:Str->Option Value}{base:Heap}{n:Nat}{x:Str}{ps:List Str}
theorem CalX.toM{S:SpX}(C:CalX P w K mg base n x ps S):CalMM P w K mg base n x ps (ofX S):=by
 obtain⟨f,fd,F,hb,hk,hm⟩:=C
 exact⟨f,fd,F.imp λvs H Q E h=>zh h,hb,hk,hm⟩
theorem CalD.toM{S:SpD}(C:CalD P w K mg base n x ps S):CalMM P w K mg base n x ps (ofD S):=by
 obtain⟨f,fd,F,hb,hk,hm⟩:=C
 exact⟨f,fd,F.imp λvs H Q E h=>zi h,hb,hk,hm⟩
def CalMth(P:Program)(w:World)(K:Ex)(mg:Str->Option Value)(base:Heap)(n:Nat)(x m:Str)(ps:List Str)(sp:Sp):Prop:=
 ∃ C f fd,nsIn K mainGlobals x=some (some (.ref C))/\Cls K C/\Meth K C m f/\FnOk P w K mg base (CX1 P w) n f fd ps sp/\Binds K fd ps []
theorem Cal.mono{sp:Sp}{n':Nat}(h:Cal P w K mg base n x ps sp)(hn:n<=n'):Cal P w K mg base n' x ps sp:=by
 obtain⟨f,fd,F,h⟩:=h
 exact⟨f,fd,F.mono hn,h⟩
theorem Cal.imp{sp Ie:Sp}(h:Cal P w K mg base n x ps sp)(i:∀ vs H Q E,Ie vs H Q E->sp vs H Q E):Cal P w K mg base n x ps Ie:=by
 obtain⟨f,fd,F,h⟩:=h
 exact⟨f,fd,F.imp i,h⟩
theorem CalMth.imp{m:Str}{sp Ie:Sp}(h:CalMth P w K mg base n x m ps sp)(i:∀ vs H Q E,Ie vs H Q E->sp vs H Q E):CalMth P w K mg base n x m ps Ie:=by
 obtain⟨C,f,fd,h1,h2,h3,h4,h5⟩:=h
 exact⟨C,f,fd,h1,h2,h3,h4.imp i,h5⟩
end
def XOkM(X:Cx)[J:Jm]:Prop:=∀ (σ:L2.St) (z:SD) (M:MS) (F H:Hp) (s:Shared) (e C:Addr) (od:Option Addr) (x:Str) (fs:List (Str × D)),Inv X [] σ H s->Kept J.B J.F0 F H->RepZ X.K J.B F H z σ M->J.RM z M x fs->ErrD X.K F x fs C od->Exd X H s e C od->X.xe (.ref e) s
def EX(X:Cx)[J:Jm](z:SD)(σ:L2.St):XK:=λCv od H'=>∃ x fs C M' F',Cv= .ref C/\Kept J.B J.F0 F' H'/\RepZ X.K J.B F' H' z σ M'/\J.RM z M' x fs/\ErrD X.K F' x fs C od
theorem XOkM.out{X:Cx}[J:Jm](hx:XOkM X)(f6:X.ex=[]){pins:List (Addr × Obj)}{σ:L2.St}{z:SD}{H:Hp}{s s':Shared}{ev:Value}(I:Inv X pins σ H s)
  (h:CX1 X.prog X.w X.stack H s (EX X z σ) ev s'):X.xe ev s':=by
 obtain⟨e,C,od,T,H',rfl,x_,hb,un,hok,LN,ne,nT,He,HT,x,fs,C',M',F',hC,kk,rr,hR,er⟩:=h
 cases hC
 have I':Inv X pins σ H' s':=I.call' x_ un hok hb (λb z=>absurd z (by simp))
 exact hx σ z M' F' H' s' e C od x fs (Inv.nopins I') kk rr hR er ⟨He,cL I f6 ne,pn_free I ne,.inr ⟨T,LN,cL I f6 nT,HT,pn_free I nT⟩⟩
section
variable {X:Cx}[J:Jm]{a b c e o:Expr}{ta tb te:TME}{pos p apos cpos:Pos}{n m:Nat}{ps:List Str}{S:SpM}{x:Str}{es:List Expr}{t:TMA}
def zj(S:SpM)(t:TMA):TME:=λz M R=>t z M λds M1=>S ds M1 R λx fs M'=>J.RM z M' x fs
theorem jR{σ:L2.St}{z:SD}{M M1:MS}{F H F1 H1:Hp}{ds:List D}{vs:List V}{Q:VK}{R:D->MS->Prop}(k:Kept J.B J.F0 F H)(rs:RepZ X.K J.B F H z σ M)(g1:GrowM M M1 F H F1 H1)(m1:RepM X.K F1 H1 M1)(rx:Reps X.K F1 ds vs)
  (hS:S ds M1 R λx fs M'=>J.RM z M' x fs) (h2:∀ d v M' F' H',GrowM M M' F H F' H'->R d M'->Rep X.K F' d v->RepM X.K F' H' M'->Q v H'):lSpM X.K S vs H1 Q (EX X z σ):=
 ⟨F1,ds,M1,g1.fh,rx,m1,R,_,hS,λd v M' F' H' g hd rd m'=>h2 d v M' F' H' (g1.trans g) hd rd m',λy fs C od M' F' H' g hR er m'=>⟨y,fs,C,M',F',rfl,(k.growM rs.mb g1).growM (rs.growM k.bh g1 m1).mb g,(rs.growM k.bh g1 m1).growM (k.growM rs.mb g1).bh g m',hR,er⟩⟩
theorem bc(C:CalMM X.prog X.w X.K X.mg X.base n x ps S)(hx:XOkM X)(hr:Room m X.A)(ha:MA X (e::es) t)(f6:X.ex=[]:=by rfl)(hg:Gl X x:=by rfl)(hn:n<=m:=by decide)(d7:zND x:=by decide)
  (he:zSE X e es:=by rfl) (b9:zPL X pos es:=by rfl):
  ME X (.Call (.Name x p) (e::es) [] pos) (zj S t):=by
 obtain⟨f,fd,F,hb,hk,hm⟩:=C
 refine⟨λpins s σ H Q I h=>?_⟩
 obtain⟨Fr,z,M,k,rs,R,h1,h2⟩:=h
 refine wpAny_Call_Name_kw (cJ I hg hm ?_ d7)
 refine callWith_K (h₀:=X.base) I.ok.mod.kin hk (thn (ha.out pos pins s σ H (λvs H1=>lSpM X.K S vs H1 Q (EX X z σ)) I ⟨Fr,z,M,k,rs,_,h1,λds vs M1 F1 H1 g1 hx rx m1=>jR k rs g1 m1 rx hx h2⟩) λus s1 ⟨vs,H1,I1,r,q⟩=>⟨I1.kIn,?_⟩) he b9
 exact gI F (hr.mono hn) hb (λe s' hq=>hx.out f6 I1 hq) I1 r q
def rO(cs:List Str)(m:Str)(S:Str->SpM)(to:TME)(t:TMA):TME:=λz M R=>to z M λd M1=>∃ x,x∈cs/\∃ fs,eM M1 d x fs/\fs.lookup m=none/\t z M1 λds M2=>S x (d::ds) M2 R λx fs M'=>J.RM z M' x fs
theorem bb{cs:List Str}{nm:Str}{S:Str->SpM}{pl:Sem Bool}(C:∀ x,x∈cs->CalMth X.prog X.w X.K X.mg X.base n x nm ps (lSpM X.K (S x)))(hx:XOkM X)(hr:Room m X.A)(ho:ME X o te)(ha:MA X (e::es) t)(f6:X.ex=[]:=by rfl)(hn:n<=m:=by decide)
  (m6:zSE X e es:=by rfl) (b9:zPL X pos es:=by rfl)
  (ht:eval (.Call (.Attribute o nm apos) (e::es) [] pos) X.env=(do
   let ov <- eval o X.env
   standAt apos.atName
   let (f,first) <- holding [ov] (getMethod ov nm pl)
   callWith pos f first (backTo pos (starEach (e::es) X.env)) (backToKw pos (keywordEach [] X.env))):=by rfl):
  ME X (.Call (.Attribute o nm apos) (e::es) [] pos) (rO cs nm S te t):=by
 refine⟨λpins s σ H Q I h=>?_⟩
 obtain⟨Fr,z,M,k,rs,R,h1,h2⟩:=h
 refine methodCall_KW (pl:=pl) (thn (ho.out pins s σ H (λv H1=>∃ d M1 F1,GrowM M M1 Fr H F1 H1/\Rep X.K F1 d v/\RepM X.K F1 H1 M1/\∃ x,x∈cs/\∃ fs,eM M1 d x fs/\fs.lookup nm=none/\t z M1 λds M2=>S x (d::ds) M2 R λx fs M'=>J.RM z M' x fs) I ⟨Fr,z,M,k,rs,_,h1,λd v M1 F1 H1 g1 hd rd m1=>⟨d,M1,F1,g1,rd,m1,hd⟩⟩) λu s1 ⟨v,H1,I1,rv,d,M1,F1,g1,rd,m1,x,LR,fs,hi,hl,hq⟩=>?_) ht
 obtain⟨C',f,fd,hns,j5,J',F,hb⟩:=C x LR
 obtain⟨a,C2,dx,ws,rfl,u8,hH,rf⟩:=jQ g1.fh m1 rd hi
 rw[hns] at u8
 cases u8
 obtain rfl:u=Value.ref a:=rv
 refine pT I1 hH j5 J' (rf.none hl) ?_
 refine callWith_K (first:=[.ref a]) (h₀:=X.base) I.ok.mod.kin J'.kp (thn (ha.out pos pins s1 σ H1 (λvs H2=>lSpM X.K (S x) (.ref a::vs) H2 Q (EX X z σ)) I1 ⟨F1,z,M1,k.growM rs.mb g1,rs.growM k.bh g1 m1,_,hq,λds vs M2 F2 H2 g2 hx rx m2=>jR k rs (g1.trans g2) m2 (reps_cons.mpr ⟨_,_,rfl,rd.mono g2.ff,rx⟩) hx h2⟩) λus s2 ⟨vs,H2,I2,r,q2⟩=>⟨I2.kIn,?_⟩) m6 b9
 exact gI (us:= .ref a::us) (vs:= .ref a::vs) F (hr.mono hn) hb (λe s' hq=>hx.out f6 I2 hq) I2 (.cons rfl r) q2
theorem dJ{cs:List Str}{nm:Str}{S:Str->SpM}{pl:Sem Bool}(C:∀ x,x∈cs->CalMth X.prog X.w X.K X.mg X.base n x nm ps (lSpM X.K (S x)))(hx:XOkM X)(hr:Room m X.A)(ho:ME X o te)(f6:X.ex=[]:=by rfl)(hn:n<=m:=by decide)
  (ht:eval (.Call (.Attribute o nm apos) [] [] pos) X.env=(do
   let ov <- eval o X.env
   standAt apos.atName
   let (f,first) <- holding [ov] (getMethod ov nm pl)
   callWith pos f first (backTo pos (starEach [] X.env)) (backToKw pos (keywordEach [] X.env))):=by rfl):
  ME X (.Call (.Attribute o nm apos) [] [] pos) (rO cs nm S te mNil):=by
 refine⟨λpins s σ H Q I h=>?_⟩
 obtain⟨Fr,z,M,k,rs,R,h1,h2⟩:=h
 refine methodCall_KW (pl:=pl) (thn (ho.out pins s σ H (λv H1=>∃ d M1 F1,GrowM M M1 Fr H F1 H1/\Rep X.K F1 d v/\RepM X.K F1 H1 M1/\∃ x,x∈cs/\∃ fs,eM M1 d x fs/\fs.lookup nm=none/\S x [d] M1 R λx fs M'=>J.RM z M' x fs) I ⟨Fr,z,M,k,rs,_,h1,λd v M1 F1 H1 g1 hd rd m1=>⟨d,M1,F1,g1,rd,m1,hd⟩⟩) λu s1 ⟨v,H1,I1,rv,d,M1,F1,g1,rd,m1,x,LR,fs,hi,hl,hq⟩=>?_) ht
 obtain⟨C',f,fd,hns,j5,J',F,hb⟩:=C x LR
 obtain⟨a,C2,dx,ws,rfl,u8,hH,rf⟩:=jQ g1.fh m1 rd hi
 rw[hns] at u8
 cases u8
 obtain rfl:u=Value.ref a:=rv
 refine pT I1 hH j5 J' (rf.none hl) ?_
 refine callWith_K0 (first:=[.ref a]) I1.kIn J'.kp (gI (E:=EX X z σ) (us:=[.ref a]) (vs:=[.ref a]) F (hr.mono hn) hb (λe s' hq=>hx.out f6 I1 hq) I1 (.cons rfl .nil) ?_)
 exact jR k rs g1 m1 (eF rd) hq h2
theorem make_of{C:Addr}{S:SiD}{x:Str}{σ:L2.St}{z:SD}{M M1:MS}{F H F1 H1:Hp}{ds:List D}{vs:List V}{a dx:Addr}{Q:VK}{E:XK}{T:List (Str × D)->Prop}(g1:GrowM M M1 F H F1 H1)(m1:RepM X.K F1 H1 M1)(rx:Reps X.K F1 ds vs)(hS:S ds T)
  (ha:H1 a=none) (u6:H1 dx=none) (i9:dx≠a) (q:∀ fs ws dx F' H',Grow F1 H1 F' H'->T fs->H' a=some (.ins C dx ws)->F' a=none->RepF X.K F' fs ws->Q (.ref a) H'):
  lSi X.K C S (.ref a::(vs++[])) (upd (upd H1 dx (.own a)) a (.ins C dx [])) (λv H2=>v= .non/\Q (.ref a) H2) E:=
 ⟨a,dx,vs,H1,F1,ds,by rw[Fx],rfl,ha,u6,i9,g1.fh,rx,_,hS,λfs ws z9 F' H' g hR f8 i6 rf=>⟨rfl,q fs ws z9 F' H' g hR f8 i6 rf⟩⟩
def zk(x:Str)(S:SiD)(t:TMA):TME:=λz M R=>t z M λds M1=>S ds λfs=>R (.obj x fs) M1
theorem gP{S:SiD}(M:CalM X.prog X.w X.K X.mg X.base n x ps S)(hr:Room m X.A)(ha:MA X (e::es) t)(hg:Gl X x:=by rfl)(hn:n+1<=m:=by decide)(d7:zND x:=by decide)
  (he:zSE X e es:=by rfl) (b9:zPL X pos es:=by rfl):
  ME X (.Call (.Name x p) (e::es) [] pos) (zk x S t):=by
 obtain⟨C,f,fd,hns,k_,mk,F,hb⟩:=M
 refine⟨(ju mk F (hr.mono hn) hg k_ hb .nil fA ha.out d7 he b9).anti λs H Q q=>?_⟩
 obtain⟨F,z,M,k,rs,R,h1,h2⟩:=q
 refine⟨F,z,M,k,rs,_,h1,λds vs M1 F1 H1 g1 hx rx m1=>?_⟩
 intro a dx ha u6 i9
 refine make_of (σ:=s) (z:=z) (x:=x) g1 m1 rx hx ha u6 i9 λfs ws dx F' H' g hR f8 i6 rf=>?_
 have s1:Same F' (upd F' a (.ins C dx ws)):=aS i6 _
 have g2:Grow F1 H1 (upd F' a (.ins C dx ws)) H':=⟨g.ff.trans s1,λb o q=>by
  by_cases hb:b=a
  ·subst hb;rw[aA] at q;cases q;exact f8
  ·rw[aq hb] at q;exact g.fh b o q,g.hh,λb q1 q2=>by
  by_cases hb:b=a
  ·subst hb;exact absurd ha q2
  ·rw[aq hb];exact g.out b q1 q2⟩
 exact h2 (.obj x fs) (.ref a) M1 (upd F' a (.ins C dx ws)) H' (g1.trans g2.toM) hR (rep_obj.mpr ⟨a,C,dx,ws,rfl,hns,aA,RepF.mono s1 fs ws rf⟩) (m1.grow g2)
def zl(x:Str)(S:SiD)(t:TMA):TME:=λz M R=>t z M λds M1=>S ds λfs=>∀ a,a ∉ ax M1->R (.ptr a) ((a,.ins x fs)::M1)
theorem zm{S:SiD}(M:CalM X.prog X.w X.K X.mg X.base n x ps S)(hr:Room m X.A)(ha:MA X (e::es) t)(hg:Gl X x:=by rfl)(hn:n+1<=m:=by decide)(d7:zND x:=by decide)
  (he:zSE X e es:=by rfl) (b9:zPL X pos es:=by rfl):
  ME X (.Call (.Name x p) (e::es) [] pos) (zl x S t):=by
 obtain⟨C,f,fd,hns,k_,mk,F,hb⟩:=M
 refine⟨(ju mk F (hr.mono hn) hg k_ hb .nil fA ha.out d7 he b9).anti λs H Q q=>?_⟩
 obtain⟨F,z,M,k,rs,R,h1,h2⟩:=q
 refine⟨F,z,M,k,rs,_,h1,λds vs M1 F1 H1 g1 hx rx m1=>?_⟩
 intro a dx ha u6 i9
 refine make_of (σ:=s) (z:=z) (x:=x) g1 m1 rx hx ha u6 i9 λfs ws dx F' H' g hR f8 i6 rf=>?_
 have na:a ∉ ax M1:=λz=>m1.here z ha
 have m2:=m1.grow g
 refine h2 (.ptr a) (.ref a) _ F' H' (g1.trans ⟨g.ff,g.fh,λb o _ q=>g.hh b o q,λb _ q1 q2=>g.out b q1 q2,λb q=>?_⟩) (hR a na) (rep_ptr.mpr rfl) ⟨FH.mpr ⟨na,m2.nd⟩,λb o q=>?_,λb q=>?_⟩
 ·rcases EO.mp q with q|q
  ·exact .inr (by rw[q];exact ha)
  ·exact .inl q
 ·rcases EO.mp q with q|q
  ·cases q;exact⟨C,dx,ws,hns,f8,rf⟩
  ·exact m2.ok b o q
 ·rcases EO.mp q with q|q
  ·rw[q];exact i6
  ·exact m2.fr b q
end
section
variable {X:Cx}{x:Str}{e:Expr}{es:List Expr}{t:TA}{p cpos pos:Pos}{n m:Nat}{ps:List Str}{S:SiD}
def gQ(X:Cx)(σ:L2.St)(F1 H1:Hp)(x:Str)(fs:List (Str × D)):Prop:=∀ F' H' s' e C od,Inv X [] σ H' s'->Grow F1 H1 F' H'->ErrD X.K F' x fs C od->Exd X H' s' e C od->X.xe (.ref e) s'
theorem zn(M:CalE X.prog X.w X.K X.mg X.base n x ps S)(hr:Room m X.A)(hc:X.calm=true)(ha:PA X (e::es) t)(f6:X.ex=[]:=by rfl)(hg:Gl X x:=by rfl)(hn:n+1<=m:=by decide)(d7:zND x:=by decide)
  (he:zSE X e es:=by rfl) (b9:zPL X cpos es:=by rfl):
  PS X (.Raise (some (.Call (.Name x p) (e::es) [] cpos)) none pos) (λ_ σ H=>t σ H λvs H1=>vs.length<=1000/\∃ F1 ds,Same F1 H1/\Reps X.K F1 ds vs/\∃ T:List (Str × D)->Prop,S ds T/\∀ fs,T fs->gQ X σ F1 H1 x fs):=by
 obtain⟨C,N,bm,f,fd,k,hi,JD,Fn,hb⟩:=M
 intro pins s σ H D I h
 obtain⟨nm,q,bs,sn,sub,ab,col,dd,k0,k1,k2,k3,k5,lk⟩:=k.obj
 refine jz (nm:=nm) (q:=q) (C:=C) (N:=N) (bs:=bs) (bm:=bm) (hdct:=true) (sn:=sn) (sub:=sub) (ab:=ab) (col:=col) (dd:=dd) (k0:=k0) (k1:=k1) (k2:=k2) (k3:=k3) (k5:=k5) (newId:="ValueError.__new__") k.base (I.ok.hd hc) ?_
 refine wpAny_Call_Name_kw (cJ I hg k.mg ?_ d7)
 refine callWith_K (h₀:=X.base) I.ok.mod.kin k.kp (thn (ha cpos pins s σ H _ I h) λus s1 ⟨vs,H1,I1,r,hl,F1,ds,LS,rx,T,hS,hT⟩=>⟨I1.kIn,?_⟩) he b9
 have hC:=I1.kIn _ _ lk
 have O2:us.length<=sizeLine:=by rw[<- L2.Vals.length r];exact sz hl
 refine xh (g:=s1.gens) (d:=s1.drawn) (t:=s1.toks) (os:=s1.os) (rest:=us) I1.kIn (tail_of_in I1.kIn k.tail) hC hi (beq_iff_eq.mp JD) (λh' ea hm=>?_) O2
 have I2:=Inv.newx I1 f6 hm
 have r2:Vals (V.ref ea::vs) (Value.ref ea::us):= .cons rfl r
 have He:H1 ea=none:=gJ I1.hok hm.new
 have q9:lEi X.K C S (V.ref ea::vs) (upd H1 ea (XN ea C none)) (λv H'=>v= .non/\∃ fs od F',Grow F1 H1 F' H'/\gQ X σ F1 H1 x fs/\H' ea=some (XN ea C od)/\F' ea=none/\ErrF X.K F' fs od) (λ_ _ _=>False):=
  ⟨ea,vs,H1,F1,ds,rfl,rfl,He,LS,rx,_,hS,λfs od F' H' g hR h1 h2 h3=>⟨rfl,fs,od,F',g,hT fs hR,h1,h2,h3⟩⟩
 have a_:(Value.ref ea::us).length=ps.length:=by rw[<- L2.Vals.length r2];exact Fn.len _ _ _ _ q9
 have h_:=hb {s1 with heap:=h'} (Value.ref ea::us) I2.kIn (by rw[Fx];exact a_)
 rw[Fx] at h_
 refine wpAny_call (codeAny_mono (Fn.run _ X.stack _ _ ⟨Value.ref ea::us,[]⟩ (Value.ref ea::us) _ _ _ ((hr.mono hn).make C us []) (I2.env0.make C us []) h_ r2 q9) λrr s' hq=>?_)
 cases rr with
 |error e'=>exact(fA (X:=X) pins σ _ _ e' s' I2 hq:X.xe e' s')
 |ok fl=>
  cases fl with
  |next=>exact False.elim hq
  |brk=>exact False.elim hq
  |cont=>exact False.elim hq
  |ret u=>
   obtain⟨v,H',I3,rv,rfl,fs,od,F',g,hR,u7,O3,er⟩:=I2.after hq
   obtain rfl:u=Value.none:=rv
   refine⟨rfl,?_⟩
   have e0:X.s₀.heap.get? ea=none:=cL I1 f6 hm.new
   have I4:=Inv.drop I3 u7 e0
   obtain⟨ta,sl,n_⟩:=XN.get I3.hok u7
   have g4:Grow F1 H1 F' (del H' ea):=⟨g.ff,λb o q=>by
    have:b≠ea:=λz=>by rw[z,O3] at q;cases q
    rw[ck this];exact g.fh b o q,λb o q=>by
    have:b≠ea:=λz=>by rw[z,He] at q;cases q
    rw[ck this];exact g.hh b o q,g.out⟩
   refine⟨ea,ta,od,sl,rfl,I3.kIn _ _ lk,n_,?_⟩
   exact hR F' (del H' ea) s' ea C od (Inv.nopins I4) g4 ⟨k.ns,er⟩ ⟨fF,e0,pn_free I1 hm.new,.inl ⟨sl,_,n_,rfl⟩⟩
theorem zo(h:∃ C N bm,ErrK X.K X.mg x C N bm/\ErrN X.K N)(hc:X.calm=true)(ha:PA X (e::es) t)(f6:X.ex=[]:=by rfl)(hg:Gl X x:=by rfl)(d7:zND x:=by decide)
  (he:zSE X e es:=by rfl) (b9:zPL X cpos es:=by rfl):
  PS X (.Raise (some (.Call (.Name x p) (e::es) [] cpos)) none pos) (λ_ σ H=>t σ H λvs H1=>vs.length<=1000/\∃ F1,Same F1 H1/\gQ X σ F1 H1 x []):=by
 obtain⟨C,N,bm,k,kn⟩:=h
 intro pins s σ H D I h
 obtain⟨nm,q,bs,sn,sub,ab,col,dd,k0,k1,k2,k3,k5,lk⟩:=k.obj
 refine jz (nm:=nm) (q:=q) (C:=C) (N:=N) (bs:=bs) (bm:=bm) (hdct:=true) (sn:=sn) (sub:=sub) (ab:=ab) (col:=col) (dd:=dd) (k0:=k0) (k1:=k1) (k2:=k2) (k3:=k3) (k5:=k5) (newId:="ValueError.__new__") k.base (I.ok.hd hc) ?_
 refine wpAny_Call_Name_kw (cJ I hg k.mg ?_ d7)
 refine callWith_K (h₀:=X.base) I.ok.mod.kin k.kp (thn (ha cpos pins s σ H _ I h) λus s1 ⟨vs,H1,I1,r,hl,F1,LS,hR⟩=>⟨I1.kIn,?_⟩) he b9
 have hC:=I1.kIn _ _ lk
 obtain⟨hp,gg,dr,tk,os⟩:=s1
 refine wpAny_call_exc_subT PySem.F.excBase_ValueError (tail_of_in I1.kIn k.tail) hC (.of_isNs (isNs_of_in I1.kIn kn.ok)) (nsMap_none_of_in I1.kIn kn.ok kn.no) (λh' ea hm=>?_) (by show us.length<=_;rw[<- L2.Vals.length r];exact sz hl)
 obtain⟨ta,h1,h2,h3⟩:=hm.there
 have I2:Inv X pins σ H1 ⟨h',gg,dr,tk,os⟩:=I1.kept (t':=tk) hm.keeps
 refine⟨ea,ta,none,#[],rfl,hm.keeps _ _ hC,h1,?_⟩
 exact hR F1 H1 _ ea C none (Inv.nopins I2) (Grow.refl LS) ⟨k.ns,[],repf_nil.mpr rfl,.inl ⟨rfl,rfl⟩⟩ ⟨gJ I1.hok hm.new,cL I1 f6 hm.new,pn_free I1 hm.new,.inl ⟨#[],_,h1,rfl⟩⟩
end
section
variable {X:Cx}[J:Jm]{x:Str}{e:Expr}{es:List Expr}{t:TMA}{p cpos pos:Pos}{n m:Nat}{ps:List Str}{S:SiD}
def zp(x:Str)(S:SiD)(t:TMA):TMS:=λ_ z M=>t z M λds M1=>ds.length<=1000/\S ds λfs=>J.RM z M1 x fs
theorem rP{σ:L2.St}{z:SD}{M M1:MS}{F H F1 H1:Hp}{fs:List (Str × D)}(hx:XOkM X)(k:Kept J.B J.F0 F H)(rs:RepZ X.K J.B F H z σ M)(g1:GrowM M M1 F H F1 H1)(m1:RepM X.K F1 H1 M1)(hR:J.RM z M1 x fs):gQ X σ F1 H1 x fs:=λF' H' s' e C od I g er ex=>
 hx σ z M1 F' H' s' e C od x fs I ((k.growM rs.mb g1).grow g) ((rs.growM k.bh g1 m1).growM (k.growM rs.mb g1).bh g.toM (m1.grow g)) hR er ex
theorem jS(M:CalE X.prog X.w X.K X.mg X.base n x ps S)(hr:Room m X.A)(hx:XOkM X)(hc:X.calm=true)(ha:MA X (e::es) t)(f6:X.ex=[]:=by rfl)(hg:Gl X x:=by rfl)(hn:n+1<=m:=by decide)(d7:zND x:=by decide)
  (he:zSE X e es:=by rfl) (b9:zPL X cpos es:=by rfl):
  MSt X (.Raise (some (.Call (.Name x p) (e::es) [] cpos)) none pos) (zp x S t):=⟨(zn M hr hc ha.out f6 hg hn d7 he b9).anti λE s H q=>by
 obtain⟨F0,F,z,M,k,rs,ED,h,ee⟩:=q
 exact⟨F,z,M,k.kf,rs,_,h,λds vs M1 F1 H1 g1 gt rx m1=>⟨by rw[rx.length];exact gt.1,F1,ds,g1.fh,rx,_,gt.2,λfs hR=>rP hx k.kf rs g1 m1 hR⟩⟩⟩
def zq(x:Str)(t:TMA):TMS:=λ_ z M=>t z M λds M1=>ds.length<=1000/\J.RM z M1 x []
theorem zr(h:∃ C N bm,ErrK X.K X.mg x C N bm/\ErrN X.K N)(hx:XOkM X)(hc:X.calm=true)(ha:MA X (e::es) t)(f6:X.ex=[]:=by rfl)(hg:Gl X x:=by rfl)(d7:zND x:=by decide)
  (he:zSE X e es:=by rfl) (b9:zPL X cpos es:=by rfl):
  MSt X (.Raise (some (.Call (.Name x p) (e::es) [] cpos)) none pos) (zq x t):=⟨(zo h hc ha.out f6 hg d7 he b9).anti λE s H q=>by
 obtain⟨F0,F,z,M,k,rs,ED,h,ee⟩:=q
 exact⟨F,z,M,k.kf,rs,_,h,λds vs M1 F1 H1 g1 gt rx m1=>⟨by rw[rx.length];exact gt.1,F1,g1.fh,rP hx k.kf rs g1 m1 gt.2⟩⟩⟩
end
section
variable {X:Cx}[J:Jm]{a b c e:Expr}{ta tb tc te:TME}{pos:Pos}{st:Stmt}{rest:List Stmt}{t u:TMS}
def zt:TMS:=λE z M=>E.nx z M
def mSeq(t u:TMS):TMS:=λE z M=>t {E with nx:=u E} z M
theorem ca:MSs X [] zt:=⟨pss_nil.anti λE s H q=>by
 obtain⟨F0,F,z,M,k,rs,ED,h,e⟩:=q
 exact e.nx z s M F H k h rs⟩
theorem aB(h1:MSt X st t)(h2:MSs X rest u):MSs X (st::rest) (mSeq t u):=⟨(fu h1.out h2.out).anti λE s H q=>by
 obtain⟨F0,F,z,M,k,rs,ED,h,e⟩:=q
 exact⟨F0,F,z,M,k,rs,{ED with nx:=u ED},h,⟨λz' s' M' F' H' k' hz r'=>⟨F0,F',z',M',k',r',ED,hz,e⟩,e.rt,e.bk,e.ct⟩⟩⟩
theorem aE(h1:MSt X st t):MSs X [st] t:=⟨pr h1.out⟩
def mRet(te:TME):TMS:=λE z M=>te z M E.rt
theorem aM(he:ME X e te):MSt X (.Return (some e) pos) (mRet te):=⟨(pw he.out).anti λE s H q=>by
 obtain⟨F0,F,z,M,k,rs,ED,h,e⟩:=q
 exact⟨F,z,M,k.kf,rs,_,h,λd v M' F' H' g hd rd m'=>e.rt d v M' F' H' (k.growM rs.mb g) hd rd m' (rs.growM k.bh g m').mb⟩⟩
def zu(te:TME):TMS:=λE z M=>te z M λ_ M1=>E.nx z M1
theorem cx(he:ME X e te)(hs:swapsWith e none pos.line X.env=pure false:=by rfl):MSt X (.Expr e pos) (zu te):=⟨(pv he.out hs).anti λE s H q=>by
 obtain⟨F0,F,z,M,k,rs,ED,h,e⟩:=q
 exact⟨F,z,M,k.kf,rs,_,h,λd v M' F' H' g hd rd m'=>e.nx z s M' F' H' (k.growM rs.mb g) hd (rs.growM k.bh g m')⟩⟩
def mIfS(c:TMT)(t u:TMS):TMS:=λE z M=>c z M λb M1=>if b=true then t E z M1 else u E z M1
theorem cn{c:Expr}{l r:List Stmt}{tc:TMT}(hc:MT X c tc)(ha:MSs X l t)(hb:MSs X r u):MSt X (.If c l r pos) (mIfS tc t u):=⟨(pz hc.out ha.out hb.out).anti λE s H q=>by
 obtain⟨F0,F,z,M,k,rs,ED,h,e⟩:=q
 refine⟨F,z,M,k.kf,rs,_,h,λb M1 F1 H1 g hk m1=>?_⟩
 cases b with
 |true=>exact⟨F0,F1,z,M1,k.growM rs.mb g,rs.growM k.bh g m1,ED,hk,e⟩
 |false=>exact⟨F0,F1,z,M1,k.growM rs.mb g,rs.growM k.bh g m1,ED,hk,e⟩⟩
def mIfJ(c:TMT)(t u:TMS):TMS:=λE z M=>∃ J:SD->MS->Prop,(c z M λb M1=>if b=true then t {E with nx:=J} z M1 else u {E with nx:=J} z M1)/\∀ z' M',J z' M'->E.nx z' M'
theorem rQ{c:Expr}{l r:List Stmt}{tc:TMT}(hc:MT X c tc)(ha:MSs X l t)(hb:MSs X r u):MSt X (.If c l r pos) (mIfJ tc t u):=⟨(cn hc ha hb).out.anti λE s H q=>by
 obtain⟨F0,F,z,M,k,rs,ED,⟨J,h,j⟩,e⟩:=q
 exact⟨F0,F,z,M,k,rs,{ED with nx:=J},h,⟨λz' s' M' F' H' k' hz r'=>e.nx z' s' M' F' H' k' (j z' M' hz) r',e.rt,e.bk,e.ct⟩⟩⟩
def mSet(i:Nat)(te:TME):TMS:=λE z M=>∃ P:D->MS->Prop,te z M P/\∀ d M',P d M'->E.nx (z.set i (some d)) M'
theorem bf(i:Nat){x:Str}{c8:Pos}(hN:X.N.Nodup)(he:ME X e te)(hi:X.N[i]?=some x:=by rfl)(hx:Loc X.env.scope x:=by first|exact Or.inl rfl|exact Or.inr rfl)(hs:swapsWith e (some (.Name x c8)) pos.line X.env=pure false:=by rfl)
  (hf:zFN X x:=by first|exact .inl rfl|exact .inr rfl|assumption):MSt X (.Assign [.Name x c8] e pos) (mSet i te):=⟨(jm hN hi hx he.out hs hf).anti λE s H q=>by
 obtain⟨F0,F,z,M,k,rs,ED,⟨P,h,j⟩,e⟩:=q
 exact⟨F,z,M,k.kf,rs,P,h,λd v M' F' H' g hd rd m'=>e.nx _ _ M' F' H' (k.growM rs.mb g) (j d M' hd) ((rs.growM k.bh g m').set rd)⟩⟩
def zv(x f:Str)(to te:TME):TMS:=λE z M=>te z M λd M1=>to z M1 λo M2=>match o with| .ptr a=>∃ fs,mget M2 a=some (.ins x fs)/\fs.length<1000/\E.nx z (mput M2 a (.ins x (putD f d fs)))|_=>False
theorem gR{x f:Str}{o:Expr}{to:TME}{c8:Pos}(hA:ClsA X.K x f)(ho:ME X o to)(he:ME X e te)(hs:swapsWith e (some (.Attribute o f c8)) pos.line X.env=pure false:=by rfl):
  MSt X (.Assign [.Attribute o f c8] e pos) (zv x f to te):=⟨(pV ho.out he.out hs).anti λE s H q=>by
 obtain⟨C,hn,hc,hf⟩:=hA
 obtain⟨F0,F,z,M,k,rs,ED,h,ee⟩:=q
 refine⟨F,z,M,k.kf,rs,_,h,λd v M1 F1 H1 g1 hx rd m1=>?_⟩
 have k1:=k.growM rs.mb g1
 have t5:=rs.growM k.bh g1 m1
 refine⟨F1,z,M1,k1.kf,t5,_,hx,λo' v' M2 F2 H2 g2 hy ro m2=>?_⟩
 have k2:=k1.growM t5.mb g2
 have Jc:=t5.growM k1.bh g2 m2
 split at hy
 ·rename_i a
  obtain⟨fs,hm,hl,J5⟩:=hy
  obtain⟨C',dx,ws,k8,hH,rf⟩:=m2.ok _ _ (bU hm)
  rw[hn] at k8
  cases k8
  have fa:=m2.fr a (cw (bU hm))
  refine⟨a,C,dx,ws,rep_ptr.mp ro,hH,hc,hf,by rw[rf.length];exact hl,?_⟩
  have m3:RepM X.K F2 (upd H2 a (.ins C dx (putF f v ws))) (mput M2 a (.ins x (putD f d fs))):=m2.put hm ⟨C,dx,_,hn,aA,RepF.put (rd.mono g2.ff) rf⟩
  have g3:GrowM M2 (mput M2 a (.ins x (putD f d fs))) F2 H2 F2 (upd H2 a (.ins C dx (putF f v ws))):=GrowM.put k2.fh fa hm
  exact ee.nx z s _ F2 _ (k2.growM Jc.mb g3) J5 (Jc.growM k2.bh g3 m3)
 ·exact hy.elim⟩
def zw(c:TMT)(tb:TMS):TMS:=λE z M=>∃ W:Nat->SD->MS->Prop,(∃ m,W m z M)/\∀ m z M,W m z M->
 c z M λb M1=>if b=true then tb {E with nx:=λz' M'=>∃ m',m'<m/\W m' z' M',ct:=λz' M'=>∃ m',m'<m/\W m' z' M',bk:=E.nx} z M1 else E.nx z M1
theorem zx{c:Expr}{body:List Stmt}{tc:TMT}{tb:TMS}(hp:PassesOwn (model X.prog X.w) X.A X.env X.xe)(hc:MT X c tc)(hb:MSs X body tb):MSt X (.While c body [] pos) (zw tc tb):=⟨(pB hp hc.out hb.out).anti λE s H q=>by
 obtain⟨F0,F,z,M,k,rs,ED,⟨W,⟨m0,w0⟩,b_⟩,e⟩:=q
 refine⟨λm s' H'=>∃ F' z' M',Kept J.B F0 F' H'/\RepZ X.K J.B F' H' z' s' M'/\W m z' M',⟨m0,F,z,M,k,rs,w0⟩,?_⟩
 rintro m s1 H1 ⟨F1,z1,M1,k1,r1,w1⟩
 refine⟨F1,z1,M1,k1.kf,r1,_,b_ m z1 M1 w1,λb M2 F2 H2 g2 hk m2=>?_⟩
 cases b with
 |true=>
  refine⟨λs3 H3=>∃ F3 z3 M3,Kept J.B F0 F3 H3/\RepZ X.K J.B F3 H3 z3 s3 M3/\∃ m',m'<m/\W m' z3 M3,λs3 H3 ⟨F3,z3,M3,k3,r3,m',l,w3⟩=>⟨m',l,F3,z3,M3,k3,r3,w3⟩,?_⟩
  exact⟨F0,F2,z1,M2,k1.growM r1.mb g2,r1.growM k1.bh g2 m2,_,hk,⟨λz3 s3 M3 F3 H3 k3 h3 r3=>⟨F3,z3,M3,k3,r3,h3⟩,e.rt,e.nx,λz3 s3 M3 F3 H3 k3 h3 r3=>⟨F3,z3,M3,k3,r3,h3⟩⟩⟩
 |false=>exact e.nx z1 s1 M2 F2 H2 (k1.growM r1.mb g2) hk (r1.growM k1.bh g2 m2)⟩
end
section
variable {X:Cx}[J:Jm]{a b c e o:Expr}{ta tb tc te to:TME}{pos:Pos}{st:Stmt}{rest:List Stmt}{t u:TMS}
abbrev TMI:=SD->MS->(List D->MS->Prop)->Prop
def mItR(t:TME):TMI:=λz M R=>t z M λx M1=>match x with| .int n=>(0<=n/\n<2 ^ 62)/\R ((EN n.toNat).map λk=>D.int ((k:Nat):Int)) M1|_=>False
def mFor(i:Nat)(ti:TMI)(tb:TMS):TMS:=λE z M=>ti z M λds M1=>∃ W:Nat->SD->MS->Prop,W 0 z M1/\(∀ k x z M,ds[k]?=some x->W k z M->tb {E with nx:=W (k+1),ct:=W (k+1),bk:=E.nx} (z.set i (some x)) M)/\∀ z M,W ds.length z M->E.nx z M
theorem zy(i:Nat){x:Str}{p p1 p2:Pos}{body:List Stmt}{tb:TMS}(hp:PassesOwn (model X.prog X.w) X.A X.env X.xe)(hc:X.calm=true)(hN:X.N.Nodup)(hm:X.mg "range"=none)(he:ME X e te)(hb:MSs X body tb)(hg:Gl X "range":=by rfl)(hi:X.N[i]?=some x:=by rfl)(hx:Loc X.env.scope x:=by first|exact Or.inl rfl|exact Or.inr rfl)
  (hf:zFN X x:=by first|exact .inl rfl|exact .inr rfl|assumption) (hs:∀ y,zFS X (.Call (.Name "range" p1) [e] [] p2) y:=by exact λ_=>rfl) (n6:zSE X e []:=by rfl) (f7:starEach [e] X.env=[(false,eval e X.env)]:=by rfl):
  MSt X (.For (.Name x p) (.Call (.Name "range" p1) [e] [] p2) body [] pos) (mFor i (mItR te) tb):=⟨(dX hp hc (fY hg hm (bv he.out pa_nil n6) f7) (fW hN hi hx hf) hb.out hs).anti λE s H q=>by
 obtain⟨F0,F,z,M,kp,rs,ED,h,e⟩:=q
 refine⟨F,z,M,kp.kf,rs,_,h,λd v M1 F1 H1 g1 hd rd m1=>?_⟩
 split at hd
 ·rename_i n
  obtain⟨⟨b1,b2⟩,W,w0,b_,out⟩:=hd
  have hl:((EN n.toNat).map λk=>D.int ((k:Nat):Int)).length=n.toNat:=by simp
  refine⟨n,by rw[rep_int.mp rd],by lia,b2,pI (lo:=0) (n:=n.toNat) (λk s' H'=>∃ F' z' M',Kept J.B F0 F' H'/\RepZ X.K J.B F' H' z' s' M'/\W k z' M') ⟨F1,z,M1,kp.growM rs.mb g1,rs.growM kp.bh g1 m1,w0⟩ ?_ ?_⟩
  ·rintro k s' H' hk ⟨F',z',M',k',r',w'⟩
   have e1:(0:Int)+(k:Int)=(k:Int):=by lia
   exact⟨F0,F',_,M',k',r'.set (d:= .int (k:Int)) (rep_int.mpr (by rw[e1])),_,b_ k (.int (k:Int)) z' M' (by simp[hk]) w',⟨λz3 s3 M3 F3 H3 k3 h3 r3=>⟨F3,z3,M3,k3,r3,h3⟩,e.rt,e.nx,λz3 s3 M3 F3 H3 k3 h3 r3=>⟨F3,z3,M3,k3,r3,h3⟩⟩⟩
  ·rintro s' H' ⟨F',z',M',k',r',w'⟩
   exact e.nx z' s' M' F' H' k' (out z' M' (by rw[hl];exact w')) r'
 ·exact hd.elim⟩
def zz(te:TME):TME:=λz M R=>te z M λd M1=>match d with| .ptr a=>∃ ds,mget M1 a=some (.lst ds)/\R (.int ds.length) M1|_=>False
theorem zA{p:Pos}(hm:X.mg "len"=none)(ha:ME X e te)(hg:Gl X "len":=by rfl)(he:zSE X e []:=by rfl):ME X (.Call (.Name "len" p) [e] [] pos) (zz te):=⟨(gj jr hg hm PySem.boot_len (bv ha.out pa_nil he) (by decide) (by decide) he).anti λs H Q h=>by
 obtain⟨F,z,M,k,rs,R,h1,h2⟩:=h
 refine⟨F,z,M,k,rs,_,h1,λd v M1 F1 H1 g1 hx rx m1=>?_⟩
 split at hx
 ·rename_i a
  obtain⟨ds,hm,hR⟩:=hx
  obtain⟨vs,hH,rr⟩:=m1.ok _ _ (bU hm)
  exact⟨.ref a,vs.length,by rw[rep_ptr.mp rx],.inl ⟨vs,SqL.of hH,rfl⟩,h2 _ _ M1 F1 H1 g1 hR (rep_int.mpr (by rw[rr.length])) m1⟩
 ·exact hx.elim⟩
def mIxP(ta tb:TME):TME:=λz M R=>ta z M λx M1=>tb z M1 λy M2=>match x,y with| .ptr a,.int i=>∃ ds,mget M2 a=some (.lst ds)/\∃ d,atI ds i=some d/\R d M2|_,_=>False
theorem zB(ha:ME X a ta)(hb:ME X b tb)(hs:fw b:=by exact λ_ _=>rfl):ME X (.Subscript a b pos) (mIxP ta tb):=⟨(pe_ix ix_list ha.out hb.out hs).anti λs H Q h=>by
 obtain⟨F,z,M,k,rs,R,h1,h2⟩:=h
 refine⟨F,z,M,k,rs,_,h1,λx u M1 F1 H1 g1 hx rx m1=>?_⟩
 refine⟨F1,z,M1,k.growM rs.mb g1,rs.growM k.bh g1 m1,_,hx,λy v M2 F2 H2 g2 hy ry m2=>?_⟩
 split at hy
 ·rename_i p i
  obtain⟨ds,hm,d,hd,hR⟩:=hy
  obtain⟨vs,hH,rr⟩:=m2.ok _ _ (bU hm)
  obtain⟨w,e2,j7⟩:=rr.at hd
  exact⟨p,vs,_,w,rep_ptr.mp rx,rep_int.mp ry,SqL.of hH,e2,h2 d w M2 F2 H2 (g1.trans g2) hR j7 m2⟩
 ·exact hy.elim⟩
def zC(to te:TME):TME:=λz M R=>to z M λo M1=>match o with| .ptr a=>(∃ ds,mget M1 a=some (.lst ds))/\te z M1 λd M2=>∃ ds,mget M2 a=some (.lst ds)/\ds.length<=100000/\R .non (mput M2 a (.lst (ds++[d])))|_=>False
theorem zD{apos cpos:Pos}(ho:ME X o to)(he:ME X e te)(n5:zSE X e []:=by rfl)
  (b8:attributeBase o "append" X.env (eval o X.env)=eval o X.env:=by rfl)
  (d_:zHF X cpos [e]:=by rfl)
  (c5:(apos.endLine==cpos.line)=true:=by rfl):
  ME X (.Call (.Attribute o "append" apos) [e] [] cpos) (zC to te):=⟨(dY PySem.F.plainAttrs_list PySem.F.slot_list_append PySem.F.type_list_append gk ho.out (bv he.out pa_nil n5) b8 d_ c5 n5).anti λs H Q h=>by
 obtain⟨F,z,M,k,rs,R,h1,h2⟩:=h
 refine⟨F,z,M,k,rs,_,h1,λx u M1 F1 H1 g1 hx rx m1=>?_⟩
 split at hx
 ·rename_i a
  obtain⟨⟨Qb,LU⟩,hx⟩:=hx
  obtain⟨O4,O5,Qc⟩:=m1.ok _ _ (bU LU)
  rw[rep_ptr.mp rx]
  refine⟨.inl ⟨rfl,O4,SqL.of O5⟩,?_⟩
  refine⟨F1,z,M1,k.growM rs.mb g1,rs.growM k.bh g1 m1,_,hx,λd v M2 F2 H2 g2 hd rd m2=>?_⟩
  obtain⟨ds,hm,hl,hR⟩:=hd
  obtain⟨vs,hH,rr⟩:=m2.ok _ _ (bU hm)
  have hz:vs.length<sizeLine:=by
   rw[rr.length]
   have h2:(100000:Nat)<sizeLine:=by decide
   lia
  refine⟨a,vs,v,rfl,rfl,hH,hz,?_⟩
  exact h2 _ _ _ F2 _ (g1.trans (g2.trans (GrowM.put g2.fh (m2.fr a (cw (bU hm))) hm))) hR (rep_non.mpr rfl) (m2.put hm ⟨_,aA,rr.append (eF rd)⟩)
 ·exact hx.elim⟩
def frzD:MO->D| .ins x fs=> .obj x fs| .lst ds=> .lst ds| .dti a8=> .dti a8
def mFrz(i:Nat)(t:TMS):TMS:=λE z M=>match z[i]? with|some (some (.ptr a))=>∃ o,mget M a=some o/\t E (z.set i (some (frzD o))) (mdel M a)|_=>False
theorem rR(i:Nat){JU:List Stmt}(h:MSs X JU t):MSs X JU (mFrz i t):=⟨PSs.anti h.out λE s H q=>by
 obtain⟨F0,F,z,M,k,rs,ED,h,e⟩:=q
 unfold mFrz at h
 split at h
 ·rename_i a ez
  obtain⟨o,hm,h⟩:=h
  have mem:=bU hm
  have fa:=rs.rm.fr a (cw mem)
  have ba:=rs.mb a (cw mem)
  obtain⟨v,hv,rv⟩:=rs.rs.val i _ ez rfl
  have O6:=rep_ptr.mp rv
  subst O6
  have hok:=rs.rm.ok a o mem
  obtain⟨ho,f8,LV⟩:∃ ho,H a=some ho/\∀ F',Same F F'->F' a=some ho->Rep X.K F' (frzD o) (.ref a):=by
   cases o with
   |ins x fs=>obtain⟨C,dx,ws,n,h1,h2⟩:=hok;exact⟨_,h1,λF' s' hF=>rep_obj.mpr ⟨a,C,dx,ws,rfl,n,hF,RepF.mono s' fs ws h2⟩⟩
   |lst ds=>obtain⟨vs,h1,h2⟩:=hok;exact⟨_,h1,λF' s' hF=>rep_lst.mpr ⟨a,vs,rfl,hF,h2.mono s'⟩⟩
   |dti a8=>exact⟨_,hok,λF' s' hF=>rep_dti.mpr ⟨a,rfl,hF⟩⟩
  have s1:Same F (upd F a ho):=aS fa _
  have hs:s.set i (some (.ref a))=s:=by
   apply Gv
   intro n
   by_cases hn:i=n
   ·subst hn
    rw[FA (E7.mp hv).1,hv]
   ·rw[Fb hn]
  have k1:Kept J.B F0 (upd F a ho) H:=⟨k.bh,λb u q=>by
   by_cases hb:b=a
   ·subst hb;rw[aA] at q;cases q;exact f8
   ·rw[aq hb] at q;exact k.fh b u q,k.f0.trans s1,λb h1 h2=>by
   by_cases hb:b=a
   ·subst hb;exact absurd ba h2
   ·rw[aq hb];exact k.out b h1 h2,k.eb,k.jf,k.jo⟩
  have r0:RepS X.K J.B (upd F a ho) H z s:=⟨rs.rs.len,λi d e n=>let ⟨v,q1,q2⟩:=rs.rs.val i d e n;⟨v,q1,q2.mono s1⟩,λi ds e=>absurd e (rs.no i ds),rs.rs.apart⟩
  have O7:RepM X.K (upd F a ho) H (mdel M a):=⟨rs.rm.nd.sublist del_sub,λb q hb=>by
   obtain⟨ne,hb⟩:=jO rs.rm.nd hb
   exact(rs.rm.ok b q hb).mono s1 λ_ z=>z,λb hb=>by
   obtain⟨⟨b',q⟩,h_,rfl⟩:=Fh.mp hb
   obtain⟨ne,J_⟩:=jO rs.rm.nd h_
   rw[aq ne];exact rs.rm.fr _ (cw J_)⟩
  have z0:RepZ X.K J.B (upd F a ho) H z s (mdel M a):=⟨r0,rs.no,O7,λb hb=>rs.mb b (del_sub.subset hb)⟩
  have z1:=z0.set (i:=i) (LV _ s1 aA)
  rw[hs] at z1
  exact⟨F0,_,_,_,k1,z1,ED,h,e⟩
 ·exact h.elim⟩
end
theorem rS{K:Ex}{F:Hp}{N:List Str}{ds:List D}{vs:List V}(rs:Reps K F ds vs):∀ (i:Nat) d,(startD N ds)[i]?≠some (some (.own d)):=by
 intro i d e
 unfold startD at e
 by_cases hi:i<ds.length
 ·rw[FB (by simpa using hi),E3] at e
  cases q:ds[i]? with
  |none=>rw[q] at e;cases e
  |some x=>
   rw[q] at e;cases e
   obtain⟨v,_,q2⟩:=rs.get q
   exact rep_own q2
 ·rw[FS (by simpa using hi),GQ] at e
  split at e
  ·cases e
  ·cases e
theorem growM_nil{M':MS}{F H F' H':Hp}(g:GrowM [] M' F H F' H'):Grow F H F' H':=⟨g.ff,g.fh,λb o h=>g.hh b o (λz=>nomatch z) h,λb h1 h2=>g.out b (λz=>nomatch z) h1 h2⟩
section
variable {P:Program}{w:World}{K:Ex}{mg:Str->Option Value}{base:Heap}
theorem CalMM.toX{n:Nat}{x:Str}{ps:List Str}{S:SpM}{S0:SpX}(C:CalMM P w K mg base n x ps S)(h:∀ ds R RX,S0 ds R RX->S ds [] (λd _=>R d) λx fs _=>RX x fs):CalX P w K mg base n x ps S0:=by
 obtain⟨f,fd,F,hb,hk,hm⟩:=C
 refine⟨f,fd,F.imp λvs H Q E q=>?_,hb,hk,hm⟩
 obtain⟨F,ds,fh,rs,R,RX,hS,q1,q2⟩:=q
 exact⟨F,ds,[],fh,rs,RepM.nil,_,_,h ds R RX hS,λd v M' F' H' g hd rd _=>q1 d v F' H' (growM_nil g) hd rd,λy fs C od M' F' H' g hR er _=>q2 y fs C od F' H' (growM_nil g) hR er⟩
open Classical in
theorem Fun.okM{x qual:Str}{st:Stmt}{f:Addr}{fd:FuncData}{N ps:List Str}{k:Nat}{S:SpM}(T:Fun K x qual st f fd)(F:FnScope N ps (ag st))(len:∀ ds M R RX,S ds M R RX->ds.length=ps.length)
  (a9:∀ (cdv:Value) (A:Around) (outer:List Env) (s:Shared) (H:Hp) (E:XK) (J:Jm),Room k (A.deeper (envOfC qual (ag st) s.heap.objs.size f cdv))->XOkM (cxOf (CX1 P w) P w K mg base N qual (ag st) f cdv A outer s H E)->
   ∃ t,MSs (cxOf (CX1 P w) P w K mg base N qual (ag st) f cdv A outer s H E) (aJ st) t/\∀ ds M R RX,(∀ z,J.RM z=λM' x fs=>RX x fs M')->S ds M R RX->t {nx:=λ_ M'=>R .non M',rt:=R} (startD N ds) M):FnOk P w K mg base (CX1 P w) (k+1) f fd ps (lSpM K S):=by
 refine Fun.okC T F (λvs H Q E h=>?_) (λcdv A outer s H vs Q E hr h=>?_)
 ·obtain⟨F,ds,M,fh,rs,rm,R,RX,h,_⟩:=h
  rw[rs.length];exact len ds M R RX h
 ·obtain⟨F,ds,M,fh,rs,rm,R,RX,h,q,qx⟩:=h
  let B:Hp:=λb=>if b∈ax M then none else H b
  have NJ:∀ {b:Addr},b∈ax M->B b=none:=λ{b} h=>if_pos h
  have KQ:∀ {b:Addr},b ∉ ax M->B b=H b:=λ{b} h=>if_neg h
  letI:Jm:={B:=B,F0:=F,RX:=λ_ _ _=>False,RM:=λ_ M' x fs=>RX x fs M'}
  have gr:∀ {M':MS} {F' H':Hp},Kept B F F' H'->(∀ a,a∈ax M'->B a=none)->GrowM M M' F H F' H':=λ{M' F' H'} k mb=>⟨k.f0,k.fh,λb o nb e=>k.bh b o (by rw[KQ nb];exact e),λb nb h1 h2=>k.out b h1 (by rw[KQ nb];exact h2),λb hb=>by
   by_cases nb:b∈ax M
   ·exact .inl nb
   ·right;rw[<- KQ nb];exact mb b hb⟩
  have hx:XOkM (cxOf (CX1 P w) P w K mg base N qual (ag st) f cdv A outer s H E):=by
   intro σ z M' F' H' s' e C od y fs I kk rr hR er ⟨He,ne,_,hx⟩
   have hE:E (.ref C) od H':=qx y fs C od M' F' H' (gr kk rr.mb) hR er rr.rm
   rcases hx with⟨sl,vs,h1,h2⟩|⟨T,h1,h2,h3,_⟩
   ·exact qy I h1 h2 He ne hE
   ·exact rk I h1 ne h2 He h3 hE
  obtain⟨t,ht,hq⟩:=a9 cdv A outer s H E inferInstance hr hx
  have k0:Kept B F F H:=⟨λb o e=>by
   by_cases nb:b∈ax M
   ·rw[NJ nb] at e;cases e
   ·rw[KQ nb] at e;exact e,fh,Same.refl F,λ_ h _=>h,rfl,Same.refl F,λ_ h _=>h⟩
  have r0:RepZ K B F H (startD N ds) (L2.start N vs) M:=⟨dZ rs,rS rs,rm,λa h=>NJ h⟩
  exact⟨_,ht.out,F,F,startD N ds,M,k0,r0,_,hq ds M R RX (λ_=>rfl) h,⟨λz' s' M' F' H' k hn r=>q _ _ M' F' H' (gr k r.mb) hn (rep_non.mpr rfl) r.rm,λd v M' F' H' k hd rd NK mb=>q d v M' F' H' (gr k mb) hd rd NK,λ_ _ _ _ _ _ h _=>h.elim,λ_ _ _ _ _ _ h _=>h.elim⟩⟩
theorem Tx.okM{x:Str}{st:Stmt}{N ps:List Str}{k:Nat}{S:SpM}(T:Tx K mg x st ps)(F:FnScope N ps (ag st))(len:∀ ds M R RX,S ds M R RX->ds.length=ps.length)
  (a9:∀ (f:Addr) (cdv:Value) (A:Around) (outer:List Env) (s:Shared) (H:Hp) (E:XK) (J:Jm),Room k (A.deeper (envOfC x (ag st) s.heap.objs.size f cdv))->XOkM (cxOf (CX1 P w) P w K mg base N x (ag st) f cdv A outer s H E)->
   ∃ t,MSs (cxOf (CX1 P w) P w K mg base N x (ag st) f cdv A outer s H E) (aJ st) t/\∀ ds M R RX,(∀ z,J.RM z=λM' x fs=>RX x fs M')->S ds M R RX->t {nx:=λ_ M'=>R .non M',rt:=R} (startD N ds) M):CalMM P w K mg base (k+1) x ps S:=by
 obtain⟨f,fd,T,hb,hm⟩:=T
 exact⟨f,fd,Fun.okM T F len λcdv A outer s H E J hr hx=>a9 f cdv A outer s H E J hr hx,hb,T.kp,hm⟩
def Txm(K:Ex)(x m:Str)(qual:Str)(st:Stmt)(ps:List Str):Prop:=
 ∃ C f fd,nsIn K mainGlobals x=some (some (.ref C))/\Cls K C/\Meth K C m f/\Fun K m qual st f fd/\Binds K fd ps []
theorem Txm.okM{x m qual:Str}{st:Stmt}{N ps:List Str}{k:Nat}{S:SpM}(T:Txm K x m qual st ps)(F:FnScope N ps (ag st))(len:∀ ds M R RX,S ds M R RX->ds.length=ps.length)
  (a9:∀ (f:Addr) (cdv:Value) (A:Around) (outer:List Env) (s:Shared) (H:Hp) (E:XK) (J:Jm),Room k (A.deeper (envOfC qual (ag st) s.heap.objs.size f cdv))->XOkM (cxOf (CX1 P w) P w K mg base N qual (ag st) f cdv A outer s H E)->
   ∃ t,MSs (cxOf (CX1 P w) P w K mg base N qual (ag st) f cdv A outer s H E) (aJ st) t/\∀ ds M R RX,(∀ z,J.RM z=λM' x fs=>RX x fs M')->S ds M R RX->t {nx:=λ_ M'=>R .non M',rt:=R} (startD N ds) M):CalMth P w K mg base (k+1) x m ps (lSpM K S):=by
 obtain⟨C,f,fd,h1,h2,h3,T,hb⟩:=T
 exact⟨C,f,fd,h1,h2,h3,Fun.okM T F len λcdv A outer s H E J hr hx=>a9 f cdv A outer s H E J hr hx,hb⟩
end
end My
namespace L2
section
variable {X:Cx}{pins:List (Addr × Obj)}{σ:St}{H:Hp}{s:Shared}{h':Heap}
theorem Inv.turned2{t':Nat}{e it:Addr}(I:Inv X pins σ H s)(k:∀ b o,b≠e->b≠it->s.heap.get? b=some o->h'.get? b=some o)(he:FpOk X pins H e)(hi:FpOk X pins H it):Inv X pins σ H {s with heap:=h',toks:=t'}:=by
 obtain⟨e0,e1,e2,e3,e4,e5⟩:=he
 obtain⟨i0,i1,i2,i3,i4,i5⟩:=hi
 have Ix:∀ b u,H b=some u->b≠e/\b≠it:=λb u q=>⟨(λz=>by rw[z,e0] at q;cases q),(λz=>by rw[z,i0] at q;cases q)⟩
 have nc:∀ {b:Addr},b ∉ [e,it]->b≠e/\b≠it:=λ{b} h=>⟨λz=>h (by simp[z]),λz=>h (by simp[z])⟩
 refine I.step (g':=s.gens) (d':=s.drawn) (ch:=[e,it]) (λb hb=>?_) (λb o _ _ hc q _=>k b o (nc hc).1 (nc hc).2 q) (λb o _ _ hc q _=>⟨o.slots,k b o (nc hc).1 (nc hc).2 q⟩) (λ_ _ _ _ n=>n)
  (λb o hc q=>⟨o,k b o (nc hc).1 (nc hc).2 q⟩) (λ_ _ q=>q) (λ_ _ _ q=>q) (λb ps q=>⟨#[],by rw[q];simp⟩) (λm hm=>?_) (λb u q=>?_) I.bare
 ·rcases EO.mp hb with z|z
  ·rw[z];exact⟨e3,e1,e4,e5⟩
  ·rw[EM.mp z];exact⟨i3,i1,i4,i5⟩
 ·obtain⟨o,es,ep,ho,r⟩:=hm
  exact⟨o,es,ep,k _ o (Ne.symm e1) (Ne.symm i1) ho,r⟩
 ·refine(I.hok b u q).stay (λc v hc q'=>k c v ?_ ?_ q') (λ_ q=>q) λ_ _ q=>q
  ·rcases hc with z|z
   ·rw[z];exact(Ix b u q).1
   ·exact(Ix c _ z).1
  ·rcases hc with z|z
   ·rw[z];exact(Ix b u q).2
   ·exact(Ix c _ z).2
end
def Itel(K:Ex)(a:Addr):It:=
 ⟨λi H=>∃ xs x,SqL K H a xs/\xs[i]?=some x,λi H x H'=>∃ T v,H T=none/\x= .ref T/\H'=upd H T (.tup [.int i,v])/\∀ xs,SqL K H a xs->xs[i]?=some v,λi H=>∃ xs,SqL K H a xs/\xs.length<=i⟩
def Ites(x:Str):It:=⟨λi _=>i<x.length,λi H v H'=>∃ T c,H T=none/\v= .ref T/\H'=upd H T (.tup [.int i,.str ⟨#[c]⟩])/\x.cps[i]?=some c,λi _=>i=x.length⟩
theorem zE{P:Program}{w:World}{H:Hp}{h:Heap}{T:Addr}{i:Int}{t:Tok}{v:V}{u:Value}(r:RelV v u)(q:h.get? T=some {cls:= .type "tuple",data:= .seq #[.int i t,u]}):ObjOk P w H h T (.tup [.int i,v]):=
 ⟨by show 2<=sizeLine;decide,[.int i t,u],.cons ⟨t,rfl⟩ (.cons r .nil),⟨_,q,rfl,_,rfl⟩⟩
theorem rT{X:Cx}{pins:List (Addr × Obj)}{σ:St}{H:Hp}{s:Shared}{h':Heap}{t':Nat}{e it:Addr}{i:Int}{t:Tok}{v:V}{u:Value}(I:Inv X pins σ H s)(he:FpOk X pins H e)(hi:FpOk X pins H it)(le:e<s.heap.objs.size)(li:it<s.heap.objs.size)(r:RelV v u)
  (hT:h'.get? s.heap.objs.size=some {cls:= .type "tuple",data:= .seq #[.int i t,u]}) (hk:∀ b o,b≠e->b≠it->s.heap.get? b=some o->h'.get? b=some o):Inv X pins σ (upd H s.heap.objs.size (.tup [.int i,v])) {s with heap:=h',toks:=t'}:=by
 have I1:Inv X pins σ (upd H s.heap.objs.size (.tup [.int i,v])) {s with heap:=s.heap.push {cls:= .type "tuple",data:= .seq #[.int i t,u]},toks:=t'}:=
  I.laid (λb o q=>Heap.get?_push_of_some _ q) (EL _) (zE r (Heap.get?_push_size _ rfl))
 have fp:∀ {b:Addr},FpOk X pins H b->b<s.heap.objs.size->FpOk X pins (upd H s.heap.objs.size (.tup [.int i,v])) b:=λ{b} h l=>⟨by rw[aq (EZ l)];exact h.1,h.2⟩
 refine I1.turned2 (h':=h') (t':=t') (λb o h1 h2 q=>?_) (fp he le) (fp hi li)
 rcases Heap.get?_push_cases (show(s.heap.push {cls:= .type "tuple",data:= .seq #[.int i t,u]}).get? b=some o from q) with⟨rfl,rfl⟩|q2
 ·exact hT
 ·exact hk b o h1 h2 q2
theorem zF{P:Program}{w:World}{K:Ex}{r_:List Expr}{x1:Nat}{tp:Pos}(a e it:Addr)(Jd:e≠it):Turn P w K (.Tuple r_ x1 tp) (Itel K a) [e,it] e (λi h=>(∃ d9,IsEnum h e it i d9)/\h.IsListIter it a i) where
 mem:=by simp
 obj:=λi h st b hb=>by
  obtain⟨⟨d9,he⟩,hit⟩:=st
  rcases EO.mp hb with z|z
  ·rw[z];exact⟨_,he,λv z=>by cases z⟩
  ·rw[EM.mp z]
   obtain⟨o,ho,c,d⟩:=hit
   exact⟨o,ho,λv z=>by rw[d] at z;cases z⟩
 keep:=λi h h' st k=>⟨let ⟨d9,he⟩:=st.1;⟨d9,k e (by simp) _ he⟩,st.2.at λo q=>k it (by simp) o q⟩
 item:=by
  intro X hP hw hK hc i pins s σ H E I hf st hg
  subst hP hw hK
  obtain⟨xs,x,hq,hx⟩:=hg
  obtain⟨its,rv,p,hz⟩:=I.list hq
  obtain⟨u,hu,ru⟩:=rv.get hx
  obtain⟨⟨d9,he⟩,hit⟩:=st
  have fe:=hf e (by simp)
  have fi:=hf it (by simp)
  have le:e<s.heap.objs.size:=Heap.lt_size he
  have li:it<s.heap.objs.size:=by obtain⟨o,ho,_⟩:=hit;exact Heap.lt_size ho
  refine wpAny_pyNext_enum_item he hit p.isList (x:=u) (by simpa using hu) Jd λh' v_ IM hT g5 hk=>?_
  refine⟨_,rfl,wpAny_letOwnedTupleGo_enum v_ λh2 LW m4=>?_⟩
  have o6:Heap.SameBut e h' h2:=m4
  have nT:s.heap.objs.size≠e:=FP le
  have I1:Inv X pins σ (upd H s.heap.objs.size (.tup [.int i,x])) {s with heap:=h2,toks:=s.toks+1}:=rT I fe fi le li ru ((o6.2 _ nT).trans hT) λb o h1 h3 q=>(o6.2 b h1).trans (hk b o h1 h3 q)
  refine⟨.ref s.heap.objs.size,_,I1,rfl,⟨_,x,I.hok.fresh (EL _),rfl,rfl,λys hy=>by rw[I.list_inj hy hq];exact hx⟩,⟨⟨u,by simpa using LW⟩,IM.at λo q=>(o6.2 it (Ne.symm Jd)).trans q⟩,λb hb=>?_⟩
  rcases EO.mp hb with z|z
  ·rw[z,aq (EZ le)];exact fe.1
  ·rw[EM.mp z,aq (EZ li)];exact fi.1
 done:=by
  intro X hP hw hK hc i pins s σ H E I hf st hg
  subst hP hw hK
  obtain⟨xs,hq,hx⟩:=hg
  obtain⟨its,rv,p,hz⟩:=I.list hq
  obtain⟨⟨d9,he⟩,hit⟩:=st
  have hl:=rv.length
  obtain⟨f0,f1,f2,f3,f4,f5⟩:=hf it (by simp)
  exact wpAny_pyNext_enum_end (I.ok.hd hc) he hit p.isList (by simp;lia) λh' eb=>⟨rfl,I.turned (t':=s.toks) (λb o hb q=>eb b o hb q) f0 f1 f3 f4 f5⟩
 self:=λ_ _ _ _ _ st h=>let ⟨⟨d9,he⟩,_⟩:=st;wpAny_pyIter_enum he h
theorem zG{P:Program}{w:World}{K:Ex}{r_:List Expr}{x1:Nat}{tp:Pos}(x:Str)(t:Tok)(e it:Addr)(Jd:e≠it):Turn P w K (.Tuple r_ x1 tp) (Ites x) [e,it] e (λi h=>(∃ d9,IsEnum h e it i d9)/\h.IsStrIter it "str_ascii_iterator" x t i) where
 mem:=by simp
 obj:=λi h st b hb=>by
  obtain⟨⟨d9,he⟩,hit⟩:=st
  rcases EO.mp hb with z|z
  ·rw[z];exact⟨_,he,λv z=>by cases z⟩
  ·rw[EM.mp z]
   obtain⟨o,ho,c,d⟩:=hit
   exact⟨o,ho,λv z=>by rw[d] at z;cases z⟩
 keep:=λi h h' st k=>⟨let ⟨d9,he⟩:=st.1;⟨d9,k e (by simp) _ he⟩,let ⟨o,ho,r⟩:=st.2;⟨o,k it (by simp) o ho,r⟩⟩
 item:=by
  intro X hP hw hK hc i pins s σ H E I hf st hg
  subst hP hw hK
  have hi:i<x.cps.size:=hg
  obtain⟨⟨d9,he⟩,hit⟩:=st
  have fe:=hf e (by simp)
  have fi:=hf it (by simp)
  have le:e<s.heap.objs.size:=Heap.lt_size he
  have li:it<s.heap.objs.size:=by obtain⟨o,ho,_⟩:=hit;exact Heap.lt_size ho
  refine wpAny_pyNext_enum_itemD (Draws.strAscii (A:=X.A.in1) (by exact I.ok.hd hc) it x t) he hit hi Jd (by simp[Jd]) λu h' tk hP v_ IM hT g5 hk=>?_
  obtain⟨c,tu,Ib,rfl⟩:=hP
  refine⟨_,rfl,wpAny_letOwnedTupleGo_enum v_ λh2 LW m4=>?_⟩
  have o6:Heap.SameBut e h' h2:=m4
  have nT:s.heap.objs.size≠e:=FP le
  have I1:Inv X pins σ (upd H s.heap.objs.size (.tup [.int i,.str ⟨#[c]⟩])) {s with heap:=h2,toks:=tk+1}:=rT I fe fi le li ⟨tu,rfl⟩ ((o6.2 _ nT).trans hT) λb o h1 h3 q=>(o6.2 b h1).trans (hk b o h1 h3 q)
  refine⟨.ref s.heap.objs.size,_,I1,rfl,⟨_,c,I.hok.fresh (EL _),rfl,rfl,Ib⟩,⟨⟨_,by simpa using LW⟩,let ⟨o,ho,r⟩:=IM;⟨o,(o6.2 it (Ne.symm Jd)).trans ho,r⟩⟩,λb hb=>?_⟩
  rcases EO.mp hb with z|z
  ·rw[z,aq (EZ le)];exact fe.1
  ·rw[EM.mp z,aq (EZ li)];exact fi.1
 done:=by
  intro X hP hw hK hc i pins s σ H E I hf st hg
  subst hP hw hK
  have hi:i=x.cps.size:=hg
  subst hi
  obtain⟨⟨d9,he⟩,hit⟩:=st
  obtain⟨f0,f1,f2,f3,f4,f5⟩:=hf it (by simp)
  exact wpAny_pyNext_enum_endD (Draws.strAscii (A:=X.A.in1) (by exact I.ok.hd hc) it x t) he hit λh' eb=>⟨rfl,I.turned (t':=s.toks) (λb o hb q=>eb b o hb q) f0 f1 f3 f4 f5⟩
 self:=λ_ _ _ _ _ st h=>let ⟨⟨d9,he⟩,_⟩:=st;wpAny_pyIter_enum he h
def iEnL(K:Ex)(ta:TA):TI:=λσ H R=>ta σ H λvs H1=>∃ a,vs=[.ref a]/\(∃ xs,SqL K H1 a xs)/\R (Itel K a) H1
def iEnS(ta:TA):TI:=λσ H R=>ta σ H λvs H1=>∃ x,vs=[.str x]/\x.cps.all (·<128)=true/\R (Ites x) H1
section
variable {X:Cx}{r_:List Expr}{x1:Nat}{tp p pos:Pos}{l:Expr}{ta:TA}
theorem rV(hg:Gl X "enumerate")(hm:X.mg "enumerate"=none)(ha:PA X [l] ta)(hs:starEach [l] X.env=[(false,eval l X.env)]:=by rfl):PI X (.Tuple r_ x1 tp) (.Call (.Name "enumerate" p) [l] [] pos) (iEnL X.K ta):=by
 intro pins s σ H R I h
 refine Call_ (dv I hg hm PyProof.Rows.boot_enumerate (PyProof.Rows.callWith_type1 (thn (ha pos pins s σ H _ I h) λus s1 ⟨vs,H1,I1,r1,q1⟩=>?_) hs rfl))
 obtain⟨a,rfl,⟨xs,hq⟩,q⟩:=q1
 obtain⟨u,rfl,ru⟩:=bS r1
 cases ru
 obtain⟨its,rv,pl,hz⟩:=I1.list hq
 refine call_enumerate_list pl.isList λh' he hit g5 hk=>?_
 have I2:Inv X pins σ H1 {s1 with heap:=h'}:=I1.kept (t':=s1.toks) hk
 refine wpAny_pyIter_enum he ?_
 have ne:s1.heap.objs.size+1≠s1.heap.objs.size:=HA _
 refine⟨s1.heap.objs.size+1,[s1.heap.objs.size+1,s1.heap.objs.size],_,_,H1,rfl,I2,zF a _ _ ne,⟨⟨_,he⟩,hit⟩,λb hb=>?_,q⟩
 rcases EO.mp hb with z|z
 ·rw[z];exact I1.fpOk (FR _) (I1.hok.fresh (FR _))
 ·rw[EM.mp z];exact I1.fpOk (EL _) (I1.hok.fresh (EL _))
theorem zH(hg:Gl X "enumerate")(hm:X.mg "enumerate"=none)(ha:PA X [l] ta)(hs:starEach [l] X.env=[(false,eval l X.env)]:=by rfl):PI X (.Tuple r_ x1 tp) (.Call (.Name "enumerate" p) [l] [] pos) (iEnS ta):=by
 intro pins s σ H R I h
 refine Call_ (dv I hg hm PyProof.Rows.boot_enumerate (PyProof.Rows.callWith_type1 (thn (ha pos pins s σ H _ I h) λus s1 ⟨vs,H1,I1,r1,q1⟩=>?_) hs rfl))
 obtain⟨x,rfl,LX,q⟩:=q1
 obtain⟨u,rfl,t,rfl⟩:=bS r1
 refine call_enumerate_str λh' he hit g5 hk=>?_
 have I2:Inv X pins σ H1 {s1 with heap:=h'}:=I1.kept (t':=s1.toks) hk
 refine wpAny_pyIter_enum he ?_
 have ne:s1.heap.objs.size+1≠s1.heap.objs.size:=HA _
 have O8:strIterType x="str_ascii_iterator":=by unfold strIterType;rw[LX];rfl
 rw[O8] at hit
 refine⟨s1.heap.objs.size+1,[s1.heap.objs.size+1,s1.heap.objs.size],_,_,H1,rfl,I2,zG x t _ _ ne,⟨⟨_,he⟩,hit⟩,λb hb=>?_,q⟩
 rcases EO.mp hb with z|z
 ·rw[z];exact I1.fpOk (FR _) (I1.hok.fresh (FR _))
 ·rw[EM.mp z];exact I1.fpOk (EL _) (I1.hok.fresh (EL _))
end
end L2
namespace My
open Exc
section
variable {X:Cx}[J:Jm]{a b c e o:Expr}{ta tb tc te to:TME}{pos:Pos}{st:Stmt}{rest:List Stmt}{t u:TMS}
theorem rW{K:Ex}{F:Hp}:∀ (is:List Nat) (ds:List D) (vs:List V) (z:SD),Reps K F ds vs->(∀ (i:Nat) d,z[i]?≠some (some (.own d)))->∀ (i:Nat) d,(aV is ds z)[i]?≠some (some (.own d))
 |[],_,_,z,_,h=>h
 |_::_,[],_,z,_,h=>h
 |i::is,d::ds,vs,z,r,h=>by
  obtain⟨v,vr,rfl,r1,r2⟩:=reps_cons.mp r
  refine rW is ds vr _ r2 λj q e=>?_
  by_cases hj:i=j
  ·subst hj
   rw[Gg] at e
   simp at e
   have:=r1.noown
   rw[e.2] at this
   cases this
  ·rw[Fb hj] at e
   exact h j q e
def mItE(t:TME):TMI:=λz M R=>t z M λx M1=>match x with| .lst ds=>R ds M1|_=>False
def zI(t:TME):TMI:=λz M R=>t z M λx M1=>match x with| .str x=>x.cps.all (·<128)=true/\R (dI x) M1|_=>False
def rX(is:List Nat)(ti:TMI)(tb:TMS):TMS:=λE z M=>ti z M λds M1=>∃ W:Nat->SD->MS->Prop,W 0 z M1/\(∀ (k:Nat) x z M,ds[k]?=some x->W k z M->tb {E with nx:=W (k+1),ct:=W (k+1),bk:=E.nx} (aV is [.int k,x] z) M)/\∀ z M,W ds.length z M->E.nx z M
theorem rY{K:Ex}{F0 F1 H1:Hp}{z:SD}{s:L2.St}{M1:MS}{E:Ends}{ED:EndsM}{It':It}{g:TG}{tb:TMS}{tbv:TS}{ds:List D}{is:List Nat}(hK:K=X.K)(k1:Kept J.B F0 F1 H1)(t5:RepZ K J.B F1 H1 z s M1)(e:EndsOkM K F0 ED E)(a_:is.length=2)
  (go:∀ k F' H',Same F1 F'->Same F' H'->k<ds.length->It'.go k H') (stop:∀ F' H',Same F1 F'->Same F' H'->It'.stop ds.length H')
  (yld:∀ k F' H' x H'',Same F1 F'->Same F' H'->k<ds.length->It'.yld k H' x H''->∃ T d v,H' T=none/\x= .ref T/\H''=upd H' T (.tup [.int k,v])/\ds[k]?=some d/\Rep K F' d v)
  (hg:∀ (dd:List D) (vs:List V) (T:Addr) (z:SD) (s:L2.St) (F H:Hp) (Q:L2.St->Hp->Prop),dd.length=2->H T=some (.tup vs)->Reps K F dd vs->RepS K J.B F H z s->(∀ s',RepS K J.B F H (aV is dd z) s'->Q s' H)->g (.ref T) s H Q)
  (LY:∀ E s H,mS K tb E s H->tbv E s H)
  (hd:∃ W:Nat->SD->MS->Prop,W 0 z M1/\(∀ (k:Nat) x z M,ds[k]?=some x->W k z M->tb {ED with nx:=W (k+1),ct:=W (k+1),bk:=ED.nx} (aV is [.int k,x] z) M)/\∀ z M,W ds.length z M->ED.nx z M):
  ∃ W:Nat->Nat->L2.St->Hp->Prop,(∃ m,W 0 m s H1)/\∀ i m σ H,W i m σ H->
   (It'.stop i H/\E.nx σ H)\/(It'.go i H/\∃ N:L2.St->Hp->Prop,(∀ σ' H',N σ' H'->∃ m',m'<m/\W (i+1) m' σ' H')/\∀ x H',It'.yld i H x H'->g x σ H' λσ2 H2=>tbv {E with nx:=N,ct:=N,bk:=E.nx} σ2 H2):=by
 obtain⟨W,w0,b_,out⟩:=hd
 refine⟨λk m s' H'=>m=ds.length - k/\k<=ds.length/\∃ F' z' M',Kept J.B F0 F' H'/\Same F1 F'/\RepZ K J.B F' H' z' s' M'/\W k z' M',⟨ds.length,by simp,Fj _,F1,z,M1,k1,Same.refl F1,t5,w0⟩,?_⟩
 rintro k m s' H' ⟨rfl,hk,F',z',M',k',g',r',w'⟩
 by_cases gV:k<ds.length
 ·refine .inr ⟨go k F' H' g' k'.fh gV,λs3 H3=>∃ F3 z3 M3,Kept J.B F0 F3 H3/\Same F1 F3/\RepZ K J.B F3 H3 z3 s3 M3/\W (k+1) z3 M3,λs3 H3 h3=>⟨ds.length - (k+1),by lia,rfl,gV,h3⟩,λx H'' hy=>?_⟩
  obtain⟨T,d,v,hT,rfl,rfl,hd,rd⟩:=yld k F' H' x H'' g' k'.fh gV hy
  have gn:=Grow.new k'.fh hT (.tup [.int k,v])
  have k2:=k'.grow gn
  have r2:=r'.growM k'.bh gn.toM (r'.rm.grow gn)
  have rp:Reps K (upd F' T (.tup [.int k,v])) [.int k,d] [.int k,v]:=reps_cons.mpr ⟨_,_,rfl,rep_int.mpr rfl,eF (rd.mono gn.ff)⟩
  refine hg [.int k,d] _ T z' s' _ _ _ rfl aA rp r2.rs λs2 Jc=>LY _ _ _ ?_
  have gF:Same F1 (upd F' T (.tup [.int k,v])):=g'.trans gn.ff
  refine⟨upd F' T (.tup [.int k,v]),upd F' T (.tup [.int k,v]),_,M',⟨k2.bh,k2.fh,Same.refl _,λb h1 _=>h1,k2.eb,k2.jf.trans k2.f0,λb h1 h2=>k2.out b (k2.jo b h1 h2) h2⟩,⟨Jc,rW is _ _ z' rp r2.no,r2.rm,r2.mb⟩,_,b_ k d z' M' hd w',?_⟩
  have up:∀ {F3 H3:Hp},Kept J.B (upd F' T (.tup [.int k,v])) F3 H3->Kept J.B F0 F3 H3:=λk3=>⟨k3.bh,k3.fh,k2.f0.trans k3.f0,λb h1 h2=>k3.out b (k2.out b h1 h2) h2,k2.eb,k2.jf,k2.jo⟩
  exact⟨λz3 s3 M3 F3 H3 k3 h3 r3=>⟨F3,z3,M3,up k3,gF.trans k3.f0,r3,h3⟩,λd v M3 F3 H3 k3=>e.rt d v M3 F3 H3 (up k3),λz3 s3 M3 F3 H3 k3=>e.nx z3 s3 M3 F3 H3 (up k3),λz3 s3 M3 F3 H3 k3 h3 r3=>⟨F3,z3,M3,up k3,gF.trans k3.f0,r3,h3⟩⟩
 ·have ek:k=ds.length:=by lia
  subst ek
  exact .inl ⟨stop F' H' g' k'.fh,e.nx z' s' M' F' H' k' (out z' M' w') r'⟩
theorem zJ{es:List Expr}{x1:Nat}{tp p1 p2:Pos}{is:List Nat}{body:List Stmt}{tb:TMS}(hp:PassesOwn (model X.prog X.w) X.A X.env X.xe)(hc:X.calm=true)(hm:X.mg "enumerate"=none)(he:ME X e te)(hG:DGs X es is)(hb:MSs X body tb)(a_:is.length=2:=by rfl)(hg:Gl X "enumerate":=by rfl)
  (hn:(assignEach es X.env).length=2:=by rfl) (m6:(assignEach es X.env).findIdx? (·.1)=none:=by rfl)
  (hs:∀ y,zFS X (.Call (.Name "enumerate" p1) [e] [] p2) y:=by exact λ_=>rfl) (n6:zSE X e []:=by rfl) (f7:starEach [e] X.env=[(false,eval e X.env)]:=by rfl):
  MSt X (.For (.Tuple es x1 tp) (.Call (.Name "enumerate" p1) [e] [] p2) body [] pos) (rX is (mItE te) tb):=by
 obtain⟨ug,Ka,kk⟩:=hG
 refine⟨(dX hp hc (rV hg hm (bv he.out pa_nil n6) f7) (fX hc Ka hn m6) hb.out hs).anti λE s H q=>?_⟩
 obtain⟨F0,F,z,M,kp,rs,ED,h,e⟩:=q
 refine⟨F,z,M,kp.kf,rs,_,h,λd v M1 F1 H1 g1 hd rd m1=>?_⟩
 split at hd
 ·rename_i ds
  obtain⟨p,vs,rfl,hq,rr⟩:=rep_lst.mp rd
  refine⟨p,rfl,⟨vs,SqL.of (g1.fh _ _ hq)⟩,rY (It':=Itel X.K p) rfl (kp.growM rs.mb g1) (rs.growM kp.bh g1 m1) e a_ (λk F' H' s1 s2 hk=>?_) (λF' H' s1 s2=>?_) (λk F' H' x H'' s1 s2 hk hy=>?_) (λdd p9 T z s F H Q hl hT rp Ih hQ=>?_) (λ_ _ _ h=>h) hd⟩
  ·have n9:k<vs.length:=by rw[rr.length];exact hk
   exact⟨vs,vs[k],SqL.of (s2 _ _ (s1 _ _ hq)),by simp[n9]⟩
  ·exact⟨vs,SqL.of (s2 _ _ (s1 _ _ hq)),by rw[rr.length];exact EL _⟩
  ·obtain⟨T,v,hT,e1,e2,hv⟩:=hy
   obtain⟨d,hd,rd⟩:=rr.get' (hv vs (SqL.of (s2 _ _ (s1 _ _ hq))))
   exact⟨T,d,v,hT,e1,e2,hd,rd.mono s1⟩
  ·exact⟨T,p9,rfl,SqT.of hT,by rw[rp.length];exact hl,kk dd p9 z s J.B F H Q (by rw[hl,a_]) rp Ih hQ⟩
 ·exact hd.elim
theorem zK{es:List Expr}{x1:Nat}{tp p1 p2:Pos}{is:List Nat}{body:List Stmt}{tb:TMS}(hp:PassesOwn (model X.prog X.w) X.A X.env X.xe)(hc:X.calm=true)(hm:X.mg "enumerate"=none)(he:ME X e te)(hG:DGs X es is)(hb:MSs X body tb)(a_:is.length=2:=by rfl)(hg:Gl X "enumerate":=by rfl)
  (hn:(assignEach es X.env).length=2:=by rfl) (m6:(assignEach es X.env).findIdx? (·.1)=none:=by rfl)
  (hs:∀ y,zFS X (.Call (.Name "enumerate" p1) [e] [] p2) y:=by exact λ_=>rfl) (n6:zSE X e []:=by rfl) (f7:starEach [e] X.env=[(false,eval e X.env)]:=by rfl):
  MSt X (.For (.Tuple es x1 tp) (.Call (.Name "enumerate" p1) [e] [] p2) body [] pos) (rX is (zI te) tb):=by
 obtain⟨ug,Ka,kk⟩:=hG
 refine⟨(dX hp hc (zH hg hm (bv he.out pa_nil n6) f7) (fX hc Ka hn m6) hb.out hs).anti λE s H q=>?_⟩
 obtain⟨F0,F,z,M,kp,rs,ED,h,e⟩:=q
 refine⟨F,z,M,kp.kf,rs,_,h,λd v M1 F1 H1 g1 hd rd m1=>?_⟩
 split at hd
 ·rename_i x
  obtain⟨ha,hd⟩:=hd
  have hl:=rE x
  refine⟨x,by rw[rep_str.mp rd],ha,rY (It':=Ites x) rfl (kp.growM rs.mb g1) (rs.growM kp.bh g1 m1) e a_ (λk F' H' s1 s2 hk=>?_) (λF' H' s1 s2=>?_) (λk F' H' x H'' s1 s2 hk hy=>?_) (λdd p9 T z s F H Q hl hT rp Ih hQ=>?_) (λ_ _ _ h=>h) hd⟩
  ·rw[hl] at hk;exact hk
  ·exact hl
  ·obtain⟨T,c,hT,e1,e2,hc⟩:=hy
   exact⟨T,.str ⟨#[c]⟩,.str ⟨#[c]⟩,hT,e1,e2,yQ hc,rep_str.mpr rfl⟩
  ·exact⟨T,p9,rfl,SqT.of hT,by rw[rp.length];exact hl,kk dd p9 z s J.B F H Q (by rw[hl,a_]) rp Ih hQ⟩
 ·exact hd.elim
end
end My
namespace L2
section
variable {prog:Program}{w:World}{K:Type}[DecidableEq K]{j_:HeapKind prog w K}{A:Around}{E:Value->Shared->Prop}{s:Shared}{d a:Addr}{k:K}{xs:List (K × Addr × Value)}
theorem zL{v:Value}{Q:Value->Shared->Prop}(hu:j_.room A)(m9:j_.is s.heap k a)(hm:s.heap.DictOfH j_ d xs)
  (h1:∀ p,atKey xs k=some p->Q p.2 {s with toks:=s.toks+j_.draws k})
  (h2:atKey xs k=none->∀ h',h'.DictOfH j_ d (xs++[(k,a,v)])->Heap.SameBut d s.heap h'->Q v {s with heap:=h',toks:=s.toks+j_.draws k})
  (g5:xs.length<=sizeLine):wpAny (model prog w) A (dictSetDefault d (.ref a) v) Q E s:=by
 obtain⟨o,es,ep,ho,hc,hd,he,NL,hn⟩:=hm
 unfold dictSetDefault
 try with_reducible refine wpAny_holding ?_
 refine wpAny_bind (j_.pyHash hu m9 ?_)
 refine wpAny_bind (wpAny_dictFind_heap (s:={s with toks:=s.toks+j_.draws k}) hu m9 ho hd he NL hn ?_ ?_)
 ·intro c_
  have LZ:k ∉ xs.map (·.1):=not_mem_keys_of_get c_
  refine wpAny_bind (wpAny_rule (wpAny_bind (wpAny_updateDictKeys (hz:=by have e:=size_of_entries he;lia) (s:={s with toks:=s.toks+j_.draws k}) ho hd (wpAny_pure (h2 (atKey_none_of_get c_) _ ⟨_,_,ep+1,Heap.get?_update_self _ ho (Obj.isFreed_of_dict (Obj.data_mapDictKeys hd _)),
   hc.mapDictKeys _,Obj.data_mapDictKeys hd _,?_,?_,?_⟩ (Heap.SameBut.update ..))))))
  ·simp[he,entryOfKey]
  ·intro x hx
   rcases Ff.mp hx with hx|hx
   ·exact j_.keeps (NL x hx) ho hd (Heap.SameBut.update ..)
   ·simp only[EM] at hx
    subst hx
    exact j_.keeps m9 ho hd (Heap.SameBut.update ..)
  ·rw[Fl,Gj]
   refine⟨hn,by simp,?_⟩
   intro x hx y hy
   simp only[EY,FJ,EM] at hy
   subst hy
   exact λe=>LZ (e ▸ hx)
 ·intro j p hj
  refine wpAny_bind (wpAny_dictEntries (s:={s with toks:=s.toks+j_.draws k}) ho hd ?_)
  rw[entry_at he j,hj]
  exact wpAny_bind (wpAny_rule (wpAny_pure (h1 p (atKey_of_get hn hj))))
theorem zM(j_:HeapKind prog w K)(d a:Addr)(hd:(d==sysModules)=false)(v:Value):
  MeetsIn prog w (Builtin.«dict.setdefault» ⟨[.ref d,.ref a,v],[]⟩) (λA R s=>j_.room A.in1/\∃ k xs,j_.is s.heap k a/\s.heap.DictOfH j_ d xs/\xs.length<=sizeLine/\
   (∀ p,atKey xs k=some p->R (.ok (.ret p.2)) {s with toks:=s.toks+j_.draws k})/\
   (atKey xs k=none->∀ h',h'.DictOfH j_ d (xs++[(k,a,v)])->Heap.SameBut d s.heap h'->R (.ok (.ret v)) {s with heap:=h',toks:=s.toks+j_.draws k})):=
 .of_wp λA R s ⟨hu,k,xs,m9,hm,hz,h1,h2⟩=>by
  unfold Builtin.«dict.setdefault»
  refine wpAny_bind ?_
  unfold Builtin.Dict.keyAndDefault
  refine wpAny_bind (wpAny_notOrdered_dict hm.typeIs ?_)
  show wpAny _ _ (pure (d,Value.ref a,some v)) _ _ s
  refine wpAny_pure ?_
  show wpAny _ _ (if(d==sysModules)=true then _ else(dictSetDefault d (.ref a) v>>=_)) _ _ s
  rw[if_neg (by rw[hd];exact E2)]
  exact wpAny_bind (zL hu m9 hm (λp hp=>wpAny_pure ⟨p.2,rfl,h1 p hp⟩) (λhn h' Lu Ja=>wpAny_pure ⟨v,rfl,h2 hn h' Lu Ja⟩) hz)
end
end L2
namespace My
open Exc
def lookD:List ((Int × Int) × Int)->Int->Int->Option Int
 |[],_,_=>none
 |((a,b),h)::r,x,y=>if a=x/\b=y then some h else lookD r x y
theorem jT(x y:Int):∀ a8:List ((Int × Int) × Int),valV (dtiV a8) [.inl x,.inl y]=(lookD a8 x y).map V.int
 |[]=>rfl
 |((a,b),h)::r=>by
  show valV (([.inl a,.inl b],V.int h)::dtiV r) _=_
  unfold lookD
  by_cases e:a=x/\b=y
  ·rw[if_pos e,jx (by rw[e.1,e.2])];rfl
  ·rw[if_neg e,jy (λz=>e (by
    have z':([Sum.inl a,Sum.inl b]:List Key)=[.inl x,.inl y]:=z
    injection z' with z1 z2
    injection z2 with z2 _
    exact⟨Sum.inl.inj z1,Sum.inl.inj z2⟩)),jT x y r]
def sdD(a8:List ((Int × Int) × Int))(x y v:Int):List ((Int × Int) × Int):=if(lookD a8 x y).isSome then a8 else a8++[((x,y),v)]
def zN:V->List V->Hp->VK->Prop:=λx vs H Q=>∃ a b i j d a8,x= .ref a/\vs=[.ref b,.int d]/\H a=some (.dT (dtiV a8))/\H b=some (.tup [.int i,.int j])/\Q (.int ((lookD a8 i j).getD d)) H
theorem zO{X:Cx}(hu:X.A.units+1<cLine):MtR X "dict.get" zN:=by
 intro pins s σ H x vs v us Q I rx rv h
 obtain⟨a,b,i,j,d,a8,rfl,rfl,ha,hb,q⟩:=h
 obtain⟨u,u',rfl,ru,rd⟩:=gc rv
 cases(show v=Value.ref a from rx)
 refine xa hu I (DGet.t (k:=[.inl i,.inl j]) ha hb) ru rd λw' s' I' j7=>⟨.int ((lookD a8 i j).getD d),H,I',?_,q⟩
 rw[jT] at j7
 cases e:lookD a8 i j with
 |none=>rw[e] at j7;exact j7
 |some z=>rw[e] at j7;exact j7
def rSdT:V->List V->Hp->VK->Prop:=λx vs H Q=>∃ a b i j d a8,x= .ref a/\vs=[.ref b,.int d]/\H a=some (.dT (dtiV a8))/\H b=some (.tup [.int i,.int j])/\a8.length<100000/\∀ w,Q (.int w) (upd H a (.dT (dtiV (sdD a8 i j d))))
theorem zP{H:Hp}{a:Addr}{o:HO}(h:H a=some o):upd H a o=H:=by
 funext b
 by_cases e:b=a
 ·subst e;rw[aA,h]
 ·rw[aq e]
theorem zQ{X:Cx}(hu:X.A.units+1<cLine):MtR X "dict.setdefault" rSdT:=by
 intro pins s σ H x vs v us Q I rx rv h
 obtain⟨a,b,i,j,d,a8,rfl,rfl,ha,hb,hl,q⟩:=h
 obtain⟨u,u',rfl,ru,t,rfl⟩:=gc rv
 cases(show v=Value.ref a from rx)
 cases(show u=Value.ref b from ru)
 obtain⟨z,hd,xs,IE,dd⟩:=wW I.hok ha
 have a_:xs.length=a8.length:=by rw[<- Paired.length IE];simp[dtiV]
 have big:(100000:Nat)<sizeLine:=by decide
 have h_:H b=some (.tup (([.inl i,.inl j]:List Key).map kV)):=hb
 have k6:=IE.val [.inl i,.inl j]
 rw[jT] at k6
 refine call_meetsIn PySem.F.slot_dict_setdefault dd.typeIs PySem.F.entry_dict_setdefault (PySem.F.args_dict_setdefault_3 _ _ _) (zM (tupleKind (bF X.prog X.w)) a b hd (.int d t)) ⟨tupleKind_room_in1 hu,[.inl i,.inl j],xs,key_of I.hok h_,dd,by lia,λp hp=>?_,λhn h' O9 hs=>?_⟩
 ·rw[hp] at k6
  cases e:lookD a8 i j with
  |none=>rw[e] at k6;exact k6.elim
  |some w=>
   rw[e] at k6
   have:=q w
   unfold sdD at this
   rw[e] at this
   have e2:(if(some w:Option Int).isSome then a8 else a8++[((i,j),d)])=a8:=rfl
   rw[e2,zP ha] at this
   exact⟨.int w,H,I.tok _,k6,this⟩
 ·rw[hn] at k6
  cases e:lookD a8 i j with
  |some w=>rw[e] at k6;exact k6.elim
  |none=>
   have e2:sdD a8 i j d=a8++[((i,j),d)]:=by unfold sdD;rw[e];rfl
   have e3:dtiV (sdD a8 i j d)=dtiV a8++[([.inl i,.inl j],.int d)]:=by rw[e2];simp[dtiV]
   obtain⟨o,es,ep,ho,hx,h3,h4,_,h5⟩:=O9
   have new:ObjOk X.prog X.w (upd H a (.dT (dtiV (sdD a8 i j d)))) h' a (.dT (dtiV (sdD a8 i j d))):=by
    refine⟨by rw[e3,EW];simp[dtiV];lia,hd,_,?_,o,es,ep,ho,hx,h3,h4,h5⟩
    rw[e3]
    refine KT.keeps (H:=H) (Paired.snoc (a:=(([.inl i,.inl j]:List Key),V.int d)) (b:=(([.inl i,.inl j]:List Key),b,Value.int d t)) IE ⟨rfl,h_,⟨t,rfl⟩⟩) λc ys ec=>?_
    rw[aq (uu ec ha (λz=>nomatch z))]
    exact ec
   exact⟨.int d,_,wX I (by rw[ha];exact True.intro) hs ⟨o,ho⟩ new,⟨t,rfl⟩,q d⟩
section
variable {X:Cx}[J:Jm]{a b c e o f:Expr}{ta tb tc te to:TME}{pos apos cpos:Pos}{t:TMA}
def mD0:TME:=λ_ M R=>R (.dti []) M
theorem zR:ME X (.Dict [] [] pos) mD0:=⟨pe_dnewT.anti λs H Q q=>by
 obtain⟨F,z,M,k,rs,R,h1,h2⟩:=q
 intro p hp
 have gn:=Grow.new k.fh hp (.dT [])
 exact h2 _ _ M _ _ gn.toM h1 (rep_dti.mpr ⟨p,rfl,aA⟩) (rs.rm.grow gn)⟩
def mDN:TME:=λ_ M R=>∀ p,p ∉ ax M->R (.ptr p) ((p,.dti [])::M)
theorem zS:ME X (.Dict [] [] pos) mDN:=⟨pe_dnewT.anti λs H Q q=>by
 obtain⟨F,z,M,k,rs,R,h1,h2⟩:=q
 intro p hp
 exact h2 _ _ _ F _ (GrowM.new k.fh hp) (h1 p λz=>rs.rm.here z hp) (rep_ptr.mpr rfl) (rs.rm.new k.fh hp aA)⟩
def zT(to:TME)(t:TMA):TME:=λz M R=>to z M λd M1=>match d with| .dti a8=>(t z M1 λds M2=>match ds with|[.tup [.int i,.int j],.int x]=>R (.int ((lookD a8 i j).getD x)) M2|_=>False)|_=>False
theorem zU(hu:X.A.units+1<cLine)(ho:ME X o to)(ha:MA X [e,f] t)(b8:attributeBase o "get" X.env (eval o X.env)=eval o X.env:=by rfl)
  (d_:zHF X cpos [e,f]:=by rfl)
  (c5:(apos.endLine==cpos.line)=true:=by rfl) (n5:zSE X e [f]:=by rfl) (b9:zPL X cpos [f]:=by rfl):
  ME X (.Call (.Attribute o "get" apos) [e,f] [] cpos) (zT to t):=⟨(dY PySem.F.plainAttrs_dict PySem.F.slot_dict_get PySem.F.type_dict_get (zO hu) ho.out ha.out b8 d_ c5 n5 b9).anti λs H Q h=>by
 obtain⟨F,z,M,k,rs,R,h1,h2⟩:=h
 refine⟨F,z,M,k,rs,_,h1,λx u M1 F1 H1 g1 hx rx m1=>?_⟩
 split at hx
 ·rename_i a8
  obtain⟨p,rfl,hp⟩:=rep_dti.mp rx
  refine⟨.inr (.inr (.inl ⟨rfl,.inr ⟨_,g1.fh _ _ hp⟩⟩)),?_⟩
  refine⟨F1,z,M1,k.growM rs.mb g1,rs.growM k.bh g1 m1,_,hx,λds vs M2 F2 H2 g2 hd rd m2=>?_⟩
  split at hd
  ·rename_i i j x
   obtain⟨v1,r1,rfl,q1,q2⟩:=reps_cons.mp rd
   obtain⟨v2,r2,rfl,q3,q4⟩:=reps_cons.mp q2
   rw[reps_nil.mp q4,rep_int.mp q3]
   obtain⟨b,us,rfl,hb,ru⟩:=rep_tupS.mp q1
   have L0:us=[.int i,.int j]:=(Reps.ints (ns:=[i,j])).mp ru
   subst L0
   exact⟨p,b,i,j,x,a8,rfl,rfl,g2.fh _ _ (g2.ff _ _ hp),g2.fh _ _ hb,h2 _ _ M2 F2 H2 (g1.trans g2) hd (rep_int.mpr rfl) m2⟩
  ·exact hd.elim
 ·exact hx.elim⟩
def mDsd(to:TME)(t:TMA):TME:=λz M R=>to z M λd M1=>match d with| .ptr a=>(∃ a8,mget M1 a=some (.dti a8))/\(t z M1 λds M2=>match ds with|[.tup [.int i,.int j],.int x]=>∃ a8,mget M2 a=some (.dti a8)/\a8.length<100000/\∀ w,R (.int w) (mput M2 a (.dti (sdD a8 i j x)))|_=>False)|_=>False
theorem zV(hu:X.A.units+1<cLine)(ho:ME X o to)(ha:MA X [e,f] t)(b8:attributeBase o "setdefault" X.env (eval o X.env)=eval o X.env:=by rfl)
  (d_:zHF X cpos [e,f]:=by rfl)
  (c5:(apos.endLine==cpos.line)=true:=by rfl) (n5:zSE X e [f]:=by rfl) (b9:zPL X cpos [f]:=by rfl):
  ME X (.Call (.Attribute o "setdefault" apos) [e,f] [] cpos) (mDsd to t):=⟨(dY PySem.F.plainAttrs_dict PySem.F.slot_dict_setdefault PySem.F.type_dict_setdefault (zQ hu) ho.out ha.out b8 d_ c5 n5 b9).anti λs H Q h=>by
 obtain⟨F,z,M,k,rs,R,h1,h2⟩:=h
 refine⟨F,z,M,k,rs,_,h1,λx u M1 F1 H1 g1 hx rx m1=>?_⟩
 split at hx
 ·rename_i a
  obtain⟨⟨Qd,LU⟩,hx⟩:=hx
  rw[rep_ptr.mp rx]
  refine⟨.inr (.inr (.inl ⟨rfl,.inr ⟨_,m1.ok _ _ (bU LU)⟩⟩)),?_⟩
  refine⟨F1,z,M1,k.growM rs.mb g1,rs.growM k.bh g1 m1,_,hx,λds vs M2 F2 H2 g2 hd rd m2=>?_⟩
  split at hd
  ·rename_i i j x
   obtain⟨a8,hm,hl,hR⟩:=hd
   obtain⟨v1,r1,rfl,q1,q2⟩:=reps_cons.mp rd
   obtain⟨v2,r2,rfl,q3,q4⟩:=reps_cons.mp q2
   rw[reps_nil.mp q4,rep_int.mp q3]
   obtain⟨b,us,rfl,hb,ru⟩:=rep_tupS.mp q1
   have L0:us=[.int i,.int j]:=(Reps.ints (ns:=[i,j])).mp ru
   subst L0
   refine⟨a,b,i,j,x,a8,rfl,rfl,m2.ok _ _ (bU hm),g2.fh _ _ hb,hl,λw=>?_⟩
   exact h2 _ _ _ F2 _ (g1.trans (g2.trans (GrowM.put g2.fh (m2.fr a (cw (bU hm))) hm))) (hR w) (rep_int.mpr rfl) (m2.put hm aA)
  ·exact hd.elim
 ·exact hx.elim⟩
end
section
variable {P:Program}{w:World}{K:Ex}{mg:Str->Option Value}{base:Heap}
open Classical in
theorem Cls.okIM{x qual:Str}{st:Stmt}{f C:Addr}{fd:FuncData}{N:List Str}{p0:Str}{ps:List Str}{k:Nat}{S:SiD}(T:Fun K "__init__" qual st f fd)(hb:Binds K fd (p0::ps) [])(F:FnScope N (p0::ps) (ag st))(len:∀ ds R,S ds R->ds.length=ps.length)
  (hns:nsIn K mainGlobals x=some (some (.ref C))) (k_:mg x=some (.ref C)) (mk:Mk K C f)
  (a9:∀ (cdv:Value) (A:Around) (outer:List Env) (s:Shared) (H:Hp) (E:XK) (J:Jm),Room k (A.deeper (envOfC qual (ag st) s.heap.objs.size f cdv))->XOkM (cxOf (CX1 P w) P w K mg base N qual (ag st) f cdv A outer s H E).nox->
   ∃ t,MSs (cxOf (CX1 P w) P w K mg base N qual (ag st) f cdv A outer s H E).nox (aJ st) t/\∀ a ds R,(∀ z M x fs,¬ J.RM z M x fs)->S ds R->t {nx:=λ_ M'=>∃ fs,M'=[(a,.ins x fs)]/\R fs,rt:=λ_ _=>False} (startD N (.ptr a::ds)) [(a,.ins x [])]):CalM P w K mg base (k+1) x (p0::ps) S:=by
 refine⟨C,f,fd,hns,k_,mk,Fun.okC T F (λvs H Q E h=>?_) (λcdv A outer s H vs Q E hr h=>?_),hb⟩
 ·obtain⟨a,dx,us,H1,F,ds,rfl,_,_,_,_,_,rs,R,h,_⟩:=h
  rw[EQ,EQ,rs.length,len ds R h]
 ·obtain⟨a,dx,us,H1,F1,ds,rfl,rfl,ha,u6,i9,fh,rs,R,h,q⟩:=h
  let H:Hp:=upd (upd H1 dx (.own a)) a (.ins C dx [])
  let B:Hp:=λb=>if b=a then none else H b
  have NM:B a=none:=if_pos rfl
  have hB:∀ {b:Addr},b≠a->B b=H b:=λ{b} h=>if_neg h
  have z_:∀ {b:Addr} {o:HO},H1 b=some o->b≠a/\H b=some o:=λ{b o} e=>by
   have n1:b≠a:=bR e ha
   exact⟨n1,by show upd _ _ _ b=_;rw[aq n1,aq (bR e u6)];exact e⟩
  letI:Jm:={B:=B,F0:=F1,RX:=λ_ _ _=>False,RM:=λ_ _ _ _=>False}
  have hx:XOkM (cxOf (CX1 P w) P w K mg base N qual (ag st) f cdv A outer s H E).nox:=λσ z M' F' H' s' e C od y fs I kk rr hR er _=>hR.elim
  obtain⟨t,ht,hq⟩:=a9 cdv A outer s H E inferInstance hr hx
  have Fa:F1 a=none:=fh.free ha
  have k0:Kept B F1 F1 H:=⟨λb o e=>by
   by_cases n:b=a
   ·rw[n,NM] at e;cases e
   ·rw[hB n] at e;exact e,λb o e=>(z_ (fh b o e)).2,Same.refl F1,λ_ h _=>h,rfl,Same.refl F1,λ_ h _=>h⟩
  have Ih:Reps K F1 (.ptr a::ds) (.ref a::us):=reps_cons.mpr ⟨_,_,rfl,rep_ptr.mpr rfl,rs⟩
  have O_:RepM K F1 H [(a,.ins x [])]:=⟨by simp[ax],λb o hb=>by
   have e:=EM.mp hb
   cases e
   exact⟨C,dx,[],hns,aA,repf_nil.mpr rfl⟩,λb hb=>by
   have e:b=a:=by simpa[ax] using hb
   rw[e];exact Fa⟩
  have r0:RepZ K B F1 H (startD N (.ptr a::ds)) (L2.start N (.ref a::us)) [(a,.ins x [])]:=⟨dZ Ih,rS Ih,O_,λb hb=>by
   have e:b=a:=by simpa[ax] using hb
   rw[e];exact NM⟩
  refine⟨_,ht.out.nox,F1,F1,_,_,k0,r0,_,hq a ds R (λ_ _ _ _ z=>z) h,⟨λz' s' M' F' H' kk hn r=>?_,λd v M' F' H' kk hd rd NK mb=>hd.elim,λ_ _ _ _ _ _ h _=>h.elim,λ_ _ _ _ _ _ h _=>h.elim⟩⟩
  obtain⟨fs,rfl,hR⟩:=hn
  obtain⟨C',z9,ws,k8,f8,rf⟩:=r.rm.ok a _ (EM.mpr rfl)
  have w9:nsIn K mainGlobals x=some (some (.ref C')):=k8
  rw[hns] at w9
  cases w9
  exact q fs ws z9 F' H' ⟨kk.f0,kk.fh,λb o e=>kk.bh b o (by show B b=some o;rw[hB (z_ e).1];exact(z_ e).2),λb h1 h2=>kk.out b h1 (by
   show B b≠none
   cases e:H1 b with
   |none=>exact absurd e h2
   |some o=>rw[hB (z_ e).1,(z_ e).2];exact λz=>nomatch z)⟩ hR f8 (r.rm.fr a (by simp[ax])) rf
end
section
variable {P:Program}{w:World}{K:Ex}{mg:Str->Option Value}{base:Heap}{n:Nat}{x m:Str}{ps:List Str}
theorem CalMth.one{S:SpM}(h:CalMth P w K mg base n x m ps (lSpM K S)):∀ y,y∈[x]->CalMth P w K mg base n y m ps (lSpM K ((λ_=>S) y)):=λy hy=>by
 rw[EM.mp hy];exact h
theorem rZ{f:Addr}{fd:FuncData}{sp:Sp}(h:∀ vs H Q E,¬ sp vs H Q E):FnOk P w K mg base (CX1 P w) n f fd ps sp:=⟨λvs H Q E q=>(h _ _ _ _ q).elim,λA outer s H args us vs Q E _ _ _ _ q=>(h _ _ _ _ q).elim⟩
theorem se{S:SpM}(h:∀ ds M R RX,¬ S ds M R RX):∀ vs H Q E,¬ lSpM K S vs H Q E:=by
 rintro vs H Q E ⟨F,ds,M,_,_,_,R,RX,q,_⟩
 exact h ds M R RX q
theorem CalMth.never{qual:Str}{st:Stmt}{S:SpM}(T:Txm K x m qual st ps)(h:∀ ds M R RX,¬ S ds M R RX):CalMth P w K mg base n x m ps (lSpM K S):=by
 obtain⟨C,f,fd,h1,h2,h3,T,hb⟩:=T
 exact⟨C,f,fd,h1,h2,h3,rZ (se h),hb⟩
theorem CalMM.never{st:Stmt}{S:SpM}(T:Tx K mg x st ps)(h:∀ ds M R RX,¬ S ds M R RX):CalMM P w K mg base n x ps S:=by
 obtain⟨f,fd,T,hb,hm⟩:=T
 exact⟨f,fd,rZ (se h),hb,T.kp,hm⟩
end
def jU(S:SpM):SpM:=λds M R RX=>∃ M1 M2,M=M1++M2/\S ds M2 (λd M'=>R d (M1++M')) λx fs M'=>RX x fs (M1++M')
theorem keys_app{M1 M2:MS}{a:Addr}:a∈ax (M1++M2)↔a∈ax M1\/a∈ax M2:=by unfold ax;rw[Fl,Ff]
theorem sf{K:Ex}{S:SpM}{vs:List V}{H:Hp}{Q:VK}{E:XK}(h:lSpM K (jU S) vs H Q E):lSpM K S vs H Q E:=by
 obtain⟨F,ds,M,fh,rs,rm,R,RX,⟨M1,M2,rfl,hS⟩,q,qx⟩:=h
 have nd:(ax M1++ax M2).Nodup:=by have:=rm.nd;unfold ax at this ⊢;rw[Fl] at this;exact this
 have L3:∀ {a:Addr},a∈ax M1->a ∉ ax M2:=λ{a} h1 h2=>(Gj.mp nd).2.2 a h1 a h2 rfl
 have Pa:RepM K F H M2:=⟨(Gj.mp nd).2.1,λa o h=>rm.ok a o (E4 _ h),λa h=>rm.fr a (keys_app.mpr (.inr h))⟩
 have up:∀ {M':MS} {F' H':Hp},GrowM M2 M' F H F' H'->RepM K F' H' M'->GrowM (M1++M2) (M1++M') F H F' H'/\RepM K F' H' (M1++M'):=λ{M' F' H'} g r=>by
  have u9:∀ {a:Addr},a∈ax M1->H a≠none:=λ{a} h=>rm.here (keys_app.mpr (.inl h))
  have L4:∀ {a:Addr},a∈ax M1->a ∉ ax M':=λ{a} h1 h2=>by
   rcases g.ks a h2 with z|z
   ·exact L3 h1 z
   ·exact u9 h1 z
  refine⟨⟨g.ff,g.fh,λb o nb e=>g.hh b o (λz=>nb (keys_app.mpr (.inr z))) e,λb nb h1 h2=>g.out b (λz=>nb (keys_app.mpr (.inr z))) h1 h2,λb hb=>?_⟩,⟨?_,λa o h=>?_,λa h=>?_⟩⟩
  ·rcases keys_app.mp hb with z|z
   ·exact .inl (keys_app.mpr (.inl z))
   ·exact(g.ks b z).imp (λz=>keys_app.mpr (.inr z)) id
  ·unfold ax
   rw[Fl]
   exact Gj.mpr ⟨(Gj.mp nd).1,r.nd,λa h1 b h2 e=>L4 h1 (e ▸ h2)⟩
  ·rcases Ff.mp h with z|z
   ·have ka:a∈ax M1:=cw z
    exact(rm.ok a o (FG _ z)).mono g.ff λo e=>g.hh a o (L3 ka) e
   ·exact r.ok a o z
  ·rcases keys_app.mp h with z|z
   ·exact g.out a (L3 z) (rm.fr a (keys_app.mpr (.inl z))) (u9 z)
   ·exact r.fr a z
 exact⟨F,ds,M2,fh,rs,Pa,_,_,hS,λd v M' F' H' g hd rd m'=>q d v _ F' H' (up g m').1 hd rd (up g m').2,λx fs C od M' F' H' g hR er m'=>qx x fs C od _ F' H' (up g m').1 hR er (up g m').2⟩
section
variable {P:Program}{w:World}{K:Ex}{mg:Str->Option Value}{base:Heap}{n:Nat}{x m:Str}{ps:List Str}{S:SpM}
theorem CalMM.frame(C:CalMM P w K mg base n x ps S):CalMM P w K mg base n x ps (jU S):=C.imp λ_ _ _ _ h=>sf h
theorem CalMth.frame(C:CalMth P w K mg base n x m ps (lSpM K S)):CalMth P w K mg base n x m ps (lSpM K (jU S)):=C.imp λ_ _ _ _ h=>sf h
end
def nilX(S:SpX):SpM:=λds M R RX=>M=[]/\∃ (R0:D->Prop) (A_:XD),S ds R0 A_/\(∀ d M',R0 d->R d M')/\∀ x fs M',A_ x fs->RX x fs M'
theorem CalMM.nilX{P:Program}{w:World}{K:Ex}{mg:Str->Option Value}{base:Heap}{n:Nat}{x:Str}{ps:List Str}{S:SpX}(C:CalMM P w K mg base n x ps (nilX S)):CalX P w K mg base n x ps S:=C.toX λ_ R RX h=>⟨rfl,R,RX,h,λ_ _ h=>h,λ_ _ _ h=>h⟩
end My
namespace My
section
variable {K:Ex}{h:Heap}{mg:Str->Option Value}{x y m q f:Str}{st:Stmt}{ps:List Str}
abbrev NsC(K:Ex)(x:Str)(C:Addr):Prop:=nsIn K mainGlobals x=some (some (.ref C))
theorem NsC.uniq{C D:Addr}(a:NsC K x C)(b:NsC K x D):C=D:=by
 have e:=a.symm.trans b
 cases e;rfl
abbrev BindA(x q:Str)(st:Stmt)(ps:List Str):Prop:=∀ (kV doc pm:Value) (an:Option Addr) (cdv ct:Value) (us:List Value),us.length=ps.length->bindArgs (fnOf x q (bG st) (aJ st) (ag st) .none kV doc pm an cdv ct) ⟨us,[]⟩=pure (ps.zip us)
def FnIn(K:Ex)(x:Str)(st:Stmt):Prop:=∃ f fd,NsC K x f/\Fun K x x st f fd
theorem fnIn_mk{f:Addr}{oc:Value}{od an:Option Addr}{sl:Array (Option Value)}{kV dc pm cd ct:Value}(a:nsIn K mainGlobals x=some (some (.ref f)))(l:K.lookup f=some ⟨oc,od,.func (fnOf x x (bG st) (aJ st) (ag st) .none kV dc pm an cd ct),sl⟩)(c:codeIn K cd x=true)(k:keepIn K (.ref f)=true):FnIn K x st:=⟨f,_,a,gl l c k⟩
theorem FnIn.tx(T:FnIn K x st)(X:K.In h)(G:h.Ns mainGlobals mg)(b:BindA x x st ps):Tx K mg x st ps:=by
 obtain⟨f,fd,a,F⟩:=T
 exact⟨f,fd,F,F.binds b,mg_of X G a⟩
theorem FnIn.law{p:Str}(T:FnIn K x st)(X:K.In h)(G:h.Ns mainGlobals mg){fa:Addr}(J6:mg x=some (.ref fa))(b:∀ (kV doc pm:Value) (an:Option Addr) (cdv ct v:Value),bindArgs (fnOf x x (bG st) (aJ st) (ag st) .none kV doc pm an cdv ct) ⟨[v],[]⟩=pure [(p,v)]):∃ fd,(∀ (s:Shared) (v:Value),BindsTo s fd ⟨[v],[]⟩ [(p,v)])/\Fun K x x st fa fd:=by
 obtain⟨f,fd,a,F⟩:=T
 have e:=J6.symm.trans (mg_of X G a)
 cases e
 refine⟨fd,λs v=>?_,F⟩
 obtain⟨oc,od,kV,doc,pm,an,cdv,ct,osl,rfl,lk,g9⟩:=F.ex
 exact .of_eq (b _ _ _ _ _ _ v)
theorem bK{us:List Value}{x:Str}{xs:List Str}(h:us.length=(x::xs).length):∃ u t,us=u::t/\t.length=xs.length:=by
 cases us with
 |nil=>cases h
 |cons u t=>exact⟨u,t,rfl,Nat.succ.inj h⟩
theorem len_0{us:List Value}(h:us.length=([]:List Str).length):us=[]:=GZ h
theorem zW{x0:Str}(b:∀ (kV doc pm:Value) (an:Option Addr) (cdv ct u0:Value),bindArgs (fnOf x q (bG st) (aJ st) (ag st) .none kV doc pm an cdv ct) ⟨[u0],[]⟩=pure [(x0,u0)]):BindA x q st [x0]:=λkV doc pm an cdv ct us hl=>by
 obtain⟨u0,t0,rfl,h0⟩:=bK hl
 cases len_0 h0
 exact b kV doc pm an cdv ct u0
theorem bind2{x0 x1:Str}(b:∀ (kV doc pm:Value) (an:Option Addr) (cdv ct u0 u1:Value),bindArgs (fnOf x q (bG st) (aJ st) (ag st) .none kV doc pm an cdv ct) ⟨[u0,u1],[]⟩=pure [(x0,u0),(x1,u1)]):BindA x q st [x0,x1]:=λkV doc pm an cdv ct us hl=>by
 obtain⟨u0,t0,rfl,h0⟩:=bK hl
 obtain⟨u1,t1,rfl,h1⟩:=bK h0
 cases len_0 h1
 exact b kV doc pm an cdv ct u0 u1
theorem bind3{x0 x1 x2:Str}(b:∀ (kV doc pm:Value) (an:Option Addr) (cdv ct u0 u1 u2:Value),bindArgs (fnOf x q (bG st) (aJ st) (ag st) .none kV doc pm an cdv ct) ⟨[u0,u1,u2],[]⟩=pure [(x0,u0),(x1,u1),(x2,u2)]):BindA x q st [x0,x1,x2]:=λkV doc pm an cdv ct us hl=>by
 obtain⟨u0,t0,rfl,h0⟩:=bK hl
 obtain⟨u1,t1,rfl,h1⟩:=bK h0
 obtain⟨u2,t2,rfl,h2⟩:=bK h1
 cases len_0 h2
 exact b kV doc pm an cdv ct u0 u1 u2
theorem bind4{x0 x1 x2 x3:Str}(b:∀ (kV doc pm:Value) (an:Option Addr) (cdv ct u0 u1 u2 u3:Value),bindArgs (fnOf x q (bG st) (aJ st) (ag st) .none kV doc pm an cdv ct) ⟨[u0,u1,u2,u3],[]⟩=pure [(x0,u0),(x1,u1),(x2,u2),(x3,u3)]):BindA x q st [x0,x1,x2,x3]:=λkV doc pm an cdv ct us hl=>by
 obtain⟨u0,t0,rfl,h0⟩:=bK hl
 obtain⟨u1,t1,rfl,h1⟩:=bK h0
 obtain⟨u2,t2,rfl,h2⟩:=bK h1
 obtain⟨u3,t3,rfl,h3⟩:=bK h2
 cases len_0 h3
 exact b kV doc pm an cdv ct u0 u1 u2 u3
theorem bind5{x0 x1 x2 x3 x4:Str}(b:∀ (kV doc pm:Value) (an:Option Addr) (cdv ct u0 u1 u2 u3 u4:Value),bindArgs (fnOf x q (bG st) (aJ st) (ag st) .none kV doc pm an cdv ct) ⟨[u0,u1,u2,u3,u4],[]⟩=pure [(x0,u0),(x1,u1),(x2,u2),(x3,u3),(x4,u4)]):BindA x q st [x0,x1,x2,x3,x4]:=λkV doc pm an cdv ct us hl=>by
 obtain⟨u0,t0,rfl,h0⟩:=bK hl
 obtain⟨u1,t1,rfl,h1⟩:=bK h0
 obtain⟨u2,t2,rfl,h2⟩:=bK h1
 obtain⟨u3,t3,rfl,h3⟩:=bK h2
 obtain⟨u4,t4,rfl,h4⟩:=bK h3
 cases len_0 h4
 exact b kV doc pm an cdv ct u0 u1 u2 u3 u4
structure ClF(K:Ex)(x:Str)(C:Addr):Prop where
 ns:NsC K x C
 cl:Cls K C
 ha:EV K (.ref C) "__class__"=some (some (.builtin "object.__class__"))
 hn:specialIn K (.builtin "object.__class__") "__get__"=some (some (.builtin "getset_descriptor.__get__"))
 ht:takesIn K (.builtin "object.__class__")=some true
 hm:FY K C (.type "object")=some true
def ClIn(K:Ex)(x:Str):Prop:=∃ C,ClF K x C
theorem clIn_mk{C:Addr}(a:nsIn K mainGlobals x=some (some (.ref C)))(pg:plainGet K C Str.empty=true)(hd:hasDictIn K C=true)(po:plainOver K C=true)(sa:EV K (.ref C) "__setattr__"=some (some (.builtin "object.__setattr__")))
  (ha:EV K (.ref C) "__class__"=some (some (.builtin "object.__class__"))) (hn:specialIn K (.builtin "object.__class__") "__get__"=some (some (.builtin "getset_descriptor.__get__"))) (ht:takesIn K (.builtin "object.__class__")=some true) (hm:FY K C (.type "object")=some true):ClIn K x:=⟨C,a,⟨pg,hd,po,sa⟩,ha,hn,ht,hm⟩
theorem ClIn.i(c:ClIn K x)(X:K.In h)(G:h.Ns mainGlobals mg):∃ C,ClsI K mg x C:=by
 obtain⟨C,k⟩:=c
 exact⟨C,k.ns,mg_of X G k.ns,k.cl,k.ha,k.hn,k.ht,k.hm,yG⟩
def NoIn(K:Ex)(x f:Str):Prop:=∃ C,NsC K x C/\EV K (.ref C) f=some none
theorem noIn_mk{C:Addr}(a:nsIn K mainGlobals x=some (some (.ref C)))(b:EV K (.ref C) f=some none):NoIn K x f:=⟨C,a,b⟩
theorem ClIn.a(c:ClIn K x)(n:NoIn K x f):ClsA K x f:=by
 obtain⟨C,k⟩:=c
 obtain⟨D,a,b⟩:=n
 cases NsC.uniq k.ns a
 exact⟨C,a,k.cl,b⟩
theorem NoIn.all(n:NoIn K x f):∀ C,nsIn K mainGlobals x=some (some (.ref C))->EV K (.ref C) f=some none:=λC hC=>by
 obtain⟨D,a,b⟩:=n
 cases NsC.uniq hC a
 exact b
def MtIn(K:Ex)(x m q:Str)(st:Stmt):Prop:=∃ C f fd,NsC K x C/\Meth K C m f/\Fun K m q st f fd
theorem mtIn_mk{C f:Addr}{oc:Value}{od an:Option Addr}{sl:Array (Option Value)}{kV dc pm cd ct:Value}(a:nsIn K mainGlobals x=some (some (.ref C)))(b:EV K (.ref C) m=some (some (.ref f)))(i:isFn K (.ref f)=true)(l:K.lookup f=some ⟨oc,od,.func (fnOf m q (bG st) (aJ st) (ag st) .none kV dc pm an cd ct),sl⟩)(c:codeIn K cd q=true)(k:keepIn K (.ref f)=true):MtIn K x m q st:=⟨C,f,_,a,⟨b,i,k⟩,gl l c k⟩
theorem MtIn.txm(T:MtIn K x m q st)(c:ClIn K x)(b:BindA m q st ps):Txm K x m q st ps:=by
 obtain⟨C,k⟩:=c
 obtain⟨D,f,fd,a,mt,F⟩:=T
 cases NsC.uniq k.ns a
 exact⟨C,f,fd,a,k.cl,mt,F,F.binds b⟩
def InIn(K:Ex)(x q:Str)(st:Stmt):Prop:=∃ C f fd,NsC K x C/\Mk K C f/\Fun K "__init__" q st f fd
theorem inIn_mk{C f:Addr}{oc:Value}{od an:Option Addr}{sl:Array (Option Value)}{kV dc pm cd ct:Value}(a:nsIn K mainGlobals x=some (some (.ref C)))(mk:makesIn K C=true)(b:EV K (.ref C) "__init__"=some (some (.ref f)))(i:isFn K (.ref f)=true)(kp:keepIn K (.ref C)=true)(l:K.lookup f=some ⟨oc,od,.func (fnOf "__init__" q (bG st) (aJ st) (ag st) .none kV dc pm an cd ct),sl⟩)(c:codeIn K cd q=true)(k:keepIn K (.ref f)=true):InIn K x q st:=⟨C,f,_,a,⟨mk,b,i,kp⟩,gl l c k⟩
def Txi(K:Ex)(mg:Str->Option Value)(x q:Str)(st:Stmt)(ps:List Str):Prop:=∃ C f fd,NsC K x C/\mg x=some (.ref C)/\Mk K C f/\Fun K "__init__" q st f fd/\Binds K fd ps []
theorem InIn.txi(T:InIn K x q st)(X:K.In h)(G:h.Ns mainGlobals mg)(b:BindA "__init__" q st ps):Txi K mg x q st ps:=by
 obtain⟨C,f,fd,a,mk,F⟩:=T
 exact⟨C,f,fd,a,mg_of X G a,mk,F,F.binds b⟩
def CiIn(K:Ex)(x:Str)(i:Int):Prop:=∃ t,nsIn K mainGlobals x=some (some (.int i t))
def CsIn(K:Ex)(x y:Str):Prop:=∃ t,nsIn K mainGlobals x=some (some (.str y t))
theorem ciIn_mk{i:Int}{t:Tok}(a:nsIn K mainGlobals x=some (some (.int i t))):CiIn K x i:=⟨t,a⟩
theorem csIn_mk{t:Tok}(a:nsIn K mainGlobals x=some (some (.str y t))):CsIn K x y:=⟨t,a⟩
theorem CiIn.g{i:Int}(c:CiIn K x i)(X:K.In h)(G:h.Ns mainGlobals mg):∃ t,mg x=some (.int i t):=let ⟨t,a⟩:=c;⟨t,mg_of X G a⟩
theorem CsIn.g(c:CsIn K x y)(X:K.In h)(G:h.Ns mainGlobals mg):∃ t,mg x=some (.str y t):=let ⟨t,a⟩:=c;⟨t,mg_of X G a⟩
def NnIn(K:Ex)(x:Str):Prop:=nsIn K mainGlobals x=some none
theorem nnIn_mk(a:nsIn K mainGlobals x=some none):NnIn K x:=a
structure ErF(K:Ex)(x:Str)(bm:List Value)(C N:Addr):Prop where
 ns:NsC K x C
 kp:keepIn K (.ref C)=true
 ob:∃ nm q bs sn sub ab col dd k0 k1 k2 k3 k5,K.lookup C=some (excClassObj nm q C N bs bm true sn sub ab col dd k0 k1 k2 k3 k5 "ValueError.__new__")
structure ErN(K:Ex)(N:Addr):Prop where
 ok:nsOkIn K N=true
 no:nsIn K N "__init__"=some none
def EbIn(K:Ex):Prop:=∃ C N,ErF K "MotifError" Exc.veLine C N/\ErN K N
def EdIn(K:Ex)(x:Str)(C N:Addr):Prop:=∃ B,NsC K "MotifError" B/\ErF K x (.ref B::Exc.veLine) C N
def E0In(K:Ex)(x:Str):Prop:=∃ C N,EdIn K x C N/\ErN K N
def E1In(K:Ex)(x q:Str)(st:Stmt):Prop:=∃ C N f fd,EdIn K x C N/\EV K (.ref C) "__init__"=some (some (.ref f))/\isFn K (.ref f)=true/\Fun K "__init__" q st f fd
def EaIn(K:Ex)(x:Str):Prop:=∃ C,NsC K x C/\EV K (.ref C) "__setattr__"=some (some (.builtin "object.__setattr__"))
def EgIn(K:Ex)(x:Str):Prop:=∃ C,NsC K x C/\EV K (.ref C) "__getattribute__"=some (some (.builtin "BaseException.__getattribute__"))/\EV K (.ref C) "__getattr__"=some none
def EiIn(K:Ex)(x:Str):Prop:=∃ M,NsC K x M/\readsIn K M (.type "type")=true/\findCls K (.ref M) (.type "type") "__init__"=some (.val (.builtin "ValueError.__init__"))/\specialIn K (.ref M) "__getattribute__"=some (some (.builtin "type.__getattribute__"))
section
variable {B C D N:Addr}{nm qn:Str}{bs:List Value}{sn:List Str}{sub:List Value}{ab:Bool}{col:Option Bool}{dd:Option Addr}{k0 k1 k2 k3 k5:Option Value}{nc:Value}{nd:Option Addr}{ne:Array DictEntry}{np:Nat}{nl:Array (Option Value)}
theorem ebIn_mk(a:nsIn K mainGlobals "MotifError"=some (some (.ref C)))(kp:keepIn K (.ref C)=true)(o:K.lookup C=some (excClassObj nm qn C N bs Exc.veLine true sn sub ab col dd k0 k1 k2 k3 k5 "ValueError.__new__"))(nk:K.lookup N=some ⟨nc,nd,.dict ne np,nl⟩)(al:ne.toList.all (λe=>match e.key with| .str _ _=>true|_=>false)=true)(ni:nsIn K N "__init__"=some none):EbIn K:=⟨C,N,⟨a,kp,_,_,_,_,_,_,_,_,_,_,_,_,_,o⟩,rB nk al,ni⟩
theorem e0In_mk(b:nsIn K mainGlobals "MotifError"=some (some (.ref B)))(a:nsIn K mainGlobals x=some (some (.ref C)))(kp:keepIn K (.ref C)=true)(o:K.lookup C=some (excClassObj nm qn C N bs (.ref B::Exc.veLine) true sn sub ab col dd k0 k1 k2 k3 k5 "ValueError.__new__"))(nk:K.lookup N=some ⟨nc,nd,.dict ne np,nl⟩)(al:ne.toList.all (λe=>match e.key with| .str _ _=>true|_=>false)=true)(ni:nsIn K N "__init__"=some none):E0In K x:=⟨C,N,⟨B,b,a,kp,_,_,_,_,_,_,_,_,_,_,_,_,_,o⟩,rB nk al,ni⟩
theorem e1In_mk{f:Addr}{oc:Value}{od an:Option Addr}{sl:Array (Option Value)}{kV dc pm cd ct:Value}(b:nsIn K mainGlobals "MotifError"=some (some (.ref B)))(a:nsIn K mainGlobals x=some (some (.ref C)))(kp:keepIn K (.ref C)=true)(o:K.lookup C=some (excClassObj nm qn C N bs (.ref B::Exc.veLine) true sn sub ab col dd k0 k1 k2 k3 k5 "ValueError.__new__"))
  (j:EV K (.ref C) "__init__"=some (some (.ref f))) (i:isFn K (.ref f)=true) (l:K.lookup f=some ⟨oc,od,.func (fnOf "__init__" q (bG st) (aJ st) (ag st) .none kV dc pm an cd ct),sl⟩) (c:codeIn K cd q=true) (k:keepIn K (.ref f)=true):E1In K x q st:=⟨C,N,f,_,⟨B,b,a,kp,_,_,_,_,_,_,_,_,_,_,_,_,_,o⟩,j,i,gl l c k⟩
theorem eaIn_mk(a:nsIn K mainGlobals x=some (some (.ref C)))(b:EV K (.ref C) "__setattr__"=some (some (.builtin "object.__setattr__"))):EaIn K x:=⟨C,a,b⟩
theorem eiIn_mk(a:nsIn K mainGlobals x=some (some (.ref C)))(b:readsIn K C (.type "type")=true)(c:findCls K (.ref C) (.type "type") "__init__"=some (.val (.builtin "ValueError.__init__")))(d:specialIn K (.ref C) "__getattribute__"=some (some (.builtin "type.__getattribute__"))):EiIn K x:=⟨C,a,b,c,d⟩
end
theorem EbIn.k(e:EbIn K)(X:K.In h)(G:h.Ns mainGlobals mg):∃ C N bm,ErrK K mg "MotifError" C N bm/\ErrN K N:=by
 obtain⟨C,N,k,n⟩:=e
 exact⟨C,N,_,⟨k.ns,mg_of X G k.ns,k.kp,k.ob,rA⟩,n.ok,n.no⟩
theorem EdIn.k{C N:Addr}(e:EdIn K x C N)(b:EbIn K)(X:K.In h)(G:h.Ns mainGlobals mg):∃ bm,ErrK K mg x C N bm:=by
 obtain⟨B,hB,k⟩:=e
 obtain⟨B',N',kb,n⟩:=b
 cases NsC.uniq kb.ns hB
 obtain⟨_,_,_,_,_,_,_,_,_,_,_,_,_,o⟩:=kb.ob
 exact⟨_,k.ns,mg_of X G k.ns,k.kp,k.ob,yF o rfl n.ok n.no⟩
theorem E0In.k(e:E0In K x)(b:EbIn K)(X:K.In h)(G:h.Ns mainGlobals mg):∃ C N bm,ErrK K mg x C N bm/\ErrN K N:=by
 obtain⟨C,N,k,n⟩:=e
 obtain⟨bm,z⟩:=k.k b X G
 exact⟨C,N,bm,z,n.ok,n.no⟩
def Txe(K:Ex)(mg:Str->Option Value)(x q:Str)(st:Stmt)(ps:List Str):Prop:=∃ C N bm f fd,ErrK K mg x C N bm/\EV K (.ref C) "__init__"=some (some (.ref f))/\isFn K (.ref f)=true/\Fun K "__init__" q st f fd/\Binds K fd ps []
theorem E1In.txe(e:E1In K x q st)(b:EbIn K)(X:K.In h)(G:h.Ns mainGlobals mg)(bi:BindA "__init__" q st ps):Txe K mg x q st ps:=by
 obtain⟨C,N,f,fd,k,i,j,F⟩:=e
 obtain⟨bm,z⟩:=k.k b X G
 exact⟨C,N,bm,f,fd,z,i,j,F,F.binds bi⟩
theorem ErrK.a'{C N:Addr}{bm:List Value}(k:ErrK K mg x C N bm)(a:EaIn K x):∃ C cd,ErrA K x C cd:=by
 obtain⟨D,hD,sa⟩:=a
 cases NsC.uniq k.ns hD
 exact⟨C,k.a sa⟩
theorem E1In.a(e:E1In K x q st)(b:EbIn K)(a:EaIn K x)(X:K.In h)(G:h.Ns mainGlobals mg):∃ C cd,ErrA K x C cd:=by
 obtain⟨C,N,f,fd,k,_⟩:=e
 obtain⟨bm,z⟩:=k.k b X G
 exact z.a' a
theorem E1In.c(e:E1In K x q st)(b:EbIn K)(X:K.In h)(G:h.Ns mainGlobals mg):∃ C N bm,ErrK K mg x C N bm:=by
 obtain⟨C,N,f,fd,k,_⟩:=e
 obtain⟨bm,z⟩:=k.k b X G
 exact⟨C,N,bm,z⟩
theorem EiIn.b(e:EiIn K x)(X:K.In h)(G:h.Ns mainGlobals mg):∃ M,BaseK K mg x M:=by
 obtain⟨M,a,b,c,d⟩:=e
 exact⟨M,mg_of X G a,b,c,d⟩
theorem EgIn.g(e:EgIn K x)(a:∃ C cd,ErrA K x C cd)(n:NoIn K x f):ErrG K f x:=by
 obtain⟨C,h1,h2,h3⟩:=e
 obtain⟨D,cd,ea⟩:=a
 cases NsC.uniq ea.ns h1
 exact⟨C,cd,ea,h2,h3,n.all C h1⟩
def AllP(p:Str->Prop):List Str->Prop
 |[]=>True
 |a::l=>p a/\AllP p l
theorem AllP.mem{p:Str->Prop}:∀ {l:List Str},AllP p l->∀ x∈l,p x
 |_::_,h,_,.head _=>h.1
 |_::_,h,_,.tail _ m=>AllP.mem h.2 _ m
end
structure Bx where
 P:Program
 w:World
 K:Ex
 mg:Str->Option Value
 base:Heap
abbrev Bx.T(V:Bx)(x:Str)(st:Stmt)(ps:List Str):Prop:=Tx V.K V.mg x st ps
abbrev Bx.Tm(V:Bx)(x m q:Str)(st:Stmt)(ps:List Str):Prop:=Txm V.K x m q st ps
abbrev Bx.Ti(V:Bx)(x q:Str)(st:Stmt)(ps:List Str):Prop:=Txi V.K V.mg x q st ps
abbrev Bx.Te(V:Bx)(x q:Str)(st:Stmt)(ps:List Str):Prop:=Txe V.K V.mg x q st ps
abbrev Bx.m(V:Bx)(x:Str):Prop:=V.mg x=none
abbrev Bx.gi(V:Bx)(x:Str)(i:Int):Prop:=∃ t,V.mg x=some (.int i t)
abbrev Bx.gs(V:Bx)(x y:Str):Prop:=∃ t,V.mg x=some (.str y t)
abbrev Bx.a(V:Bx)(x f:Str):Prop:=ClsA V.K x f
abbrev Bx.i(V:Bx)(x:Str):Prop:=∃ C,ClsI V.K V.mg x C
abbrev Bx.D(V:Bx)(n:Nat)(x:Str)(ps:List Str)(S:SpD):Prop:=CalD V.P V.w V.K V.mg V.base n x ps S
abbrev Bx.X(V:Bx)(n:Nat)(x:Str)(ps:List Str)(S:SpX):Prop:=CalX V.P V.w V.K V.mg V.base n x ps S
abbrev Bx.MM(V:Bx)(n:Nat)(x:Str)(ps:List Str)(S:SpM):Prop:=CalMM V.P V.w V.K V.mg V.base n x ps S
abbrev Bx.M(V:Bx)(n:Nat)(x:Str)(ps:List Str)(S:SiD):Prop:=CalM V.P V.w V.K V.mg V.base n x ps S
abbrev Bx.E(V:Bx)(n:Nat)(x:Str)(ps:List Str)(S:SiD):Prop:=CalE V.P V.w V.K V.mg V.base n x ps S
abbrev Bx.Q(V:Bx)(n:Nat)(x m:Str)(ps:List Str)(S:SpM):Prop:=CalMth V.P V.w V.K V.mg V.base n x m ps (lSpM V.K S)
abbrev Bx.n(V:Bx)(x:Str):Prop:=∃ C N bm,ErrK V.K V.mg x C N bm/\ErrN V.K N
abbrev Bx.b(V:Bx)(x:Str):Prop:=∃ M,BaseK V.K V.mg x M
abbrev Bx.ea(V:Bx)(x:Str):Prop:=∃ C cd,ErrA V.K x C cd
abbrev Bx.xf(V:Bx)(x f:Str):Prop:=∀ C,nsIn V.K mainGlobals x=some (some (.ref C))->EV V.K (.ref C) f=some none
abbrev Bx.x(V:Bx)(f:Str)(ys:List Str):Prop:=∀ y∈ys,ErrG V.K f y
section
variable {P:Program}{w:World}{K:Ex}{mg:Str->Option Value}{base:Heap}
theorem Txi.okI{x qual:Str}{st:Stmt}{N:List Str}{p0:Str}{ps:List Str}{k:Nat}{S:SiD}(T:Txi K mg x qual st (p0::ps))(F:FnScope (p0::N) (p0::ps) (ag st))(len:∀ ds R,S ds R->ds.length=ps.length)
  (a9:∀ (f:Addr) (cdv:Value) (A:Around) (outer:List Env) (s:Shared) (H:Hp) (E:XK) (J:Jx),Room k (A.deeper (envOfC qual (ag st) s.heap.objs.size f cdv))->
   ∃ t,WDI (cxOf (Exc.CX1 P w) P w K mg base (p0::N) qual (ag st) f cdv A outer s H E).nox x (aJ st) t/\∀ ds R,S ds R->t (none::startD N ds) [] R):CalM P w K mg base (k+1) x (p0::ps) S:=by
 obtain⟨C,f,fd,a,b,c,d,e⟩:=T
 exact Cls.okIW d e F len a b c (a9 f)
theorem Txi.okIM{x qual:Str}{st:Stmt}{N:List Str}{p0:Str}{ps:List Str}{k:Nat}{S:SiD}(T:Txi K mg x qual st (p0::ps))(F:FnScope N (p0::ps) (ag st))(len:∀ ds R,S ds R->ds.length=ps.length)
  (a9:∀ (f:Addr) (cdv:Value) (A:Around) (outer:List Env) (s:Shared) (H:Hp) (E:XK) (J:Jm),Room k (A.deeper (envOfC qual (ag st) s.heap.objs.size f cdv))->XOkM (cxOf (Exc.CX1 P w) P w K mg base N qual (ag st) f cdv A outer s H E).nox->
   ∃ t,MSs (cxOf (Exc.CX1 P w) P w K mg base N qual (ag st) f cdv A outer s H E).nox (aJ st) t/\∀ a ds R,(∀ z M x fs,¬ J.RM z M x fs)->S ds R->t {nx:=λ_ M'=>∃ fs,M'=[(a,.ins x fs)]/\R fs,rt:=λ_ _=>False} (startD N (.ptr a::ds)) [(a,.ins x [])]):CalM P w K mg base (k+1) x (p0::ps) S:=by
 obtain⟨C,f,fd,a,b,c,d,e⟩:=T
 exact Cls.okIM d e F len a b c (a9 f)
theorem Txe.okE{x qual:Str}{st:Stmt}{N:List Str}{p0:Str}{ps:List Str}{k:Nat}{S:SiD}(T:Txe K mg x qual st (p0::ps))(F:FnScope (p0::N) (p0::ps) (ag st))(len:∀ ds R,S ds R->ds.length=ps.length)
  (a9:∀ (f:Addr) (cdv:Value) (A:Around) (outer:List Env) (s:Shared) (H:Hp) (E:XK) (J:Jx),Room k (A.deeper (envOfC qual (ag st) s.heap.objs.size f cdv))->
   ∃ t,WDX (cxOf (Exc.CX1 P w) P w K mg base (p0::N) qual (ag st) f cdv A outer s H E).nox x (aJ st) t/\∀ ds R,S ds R->t (none::startD N ds) [] R):CalE P w K mg base (k+1) x (p0::ps) S:=by
 obtain⟨C,N',bm,f,fd,a,b,c,d,e⟩:=T
 exact Cls.okEW d e F len a b c (a9 f)
end
section
variable {X:Cx}[J:Jx]{a b c e o f9 iter:Expr}{es:List Expr}{ta tb tc te to ti tj:TD}{tt:TDT}{t:TDA}{pos px:Pos}{x:Str}{scope:Scope}
theorem itR2{K:Ex}:ItOk K (pG (gh (lE K ti) (gh (lE K tj) tNil))) (rj ti tj):=λ{s H B F z P Q} kf rs h1 h2=>by
 refine⟨B,F,z,kf,rs,_,h1,λd1 v1 F1 H1 g1 h1 r1=>?_⟩
 refine⟨B,F1,z,kf.grow g1,rs.grow g1,_,h1,λd2 v2 F2 H2 g2 hd r2=>?_⟩
 split at hd
 ·rename_i lo l9
  obtain⟨bd,hd⟩:=hd
  have hl:((EN (l9 - lo).toNat).map λk=>D.int (lo+((k:Nat):Int))).length=(l9 - lo).toNat:=by simp
  refine⟨lo,l9,by rw[rep_int.mp r1,rep_int.mp r2],bd,h2 _ _ F2 H2 (g1.trans g2) hd ⟨λk F' H' G hk=>by rw[hl] at hk;exact hk,λk F' H' x H'' G hk hy=>?_,λF' H' G=>by show(l9 - lo).toNat<=_;rw[hl];exact EL _⟩⟩
  rw[hl] at hk
  obtain⟨e,rfl⟩:=hy
  exact⟨e,.int (lo+(k:Int)),by simp[hk],rep_int.mpr rfl⟩
 ·exact hd.elim
theorem si(hc:X.calm=true)(S:CompScope X scope x)(hi:WDE X iter ti)(hq:∀ cl s₀ H₀ fp,WDT (bI X scope cl x s₀ H₀ fp) c tt)(he:∀ cl s₀ H₀ fp,WDE (bI X scope cl x s₀ H₀ fp) f9 te)(hs:∀ y,zFS X iter y:=by exact λ_=>rfl):
  WDE X (.ListComp f9 [⟨.Name x px,iter,[c],0⟩] scope pos) (qY (dItL ti) tt te):=⟨(pe_comp hc S (jn hi.out) (λa b c d=>qZ (hq a b c d).out) (λa b c d=>(he a b c d).out) hs).anti λs H Q q=>gE (λ_ _ _=>cmpF.g) itL q⟩
theorem zX{p1 p2:Pos}(hc:X.calm=true)(S:CompScope X scope x)(hm:X.mg "range"=none)(ha:WDE X a ti)(hb:WDE X b tj)(hq:∀ cl s₀ H₀ fp,WDT (bI X scope cl x s₀ H₀ fp) c tt)(he:∀ cl s₀ H₀ fp,WDE (bI X scope cl x s₀ H₀ fp) f9 te)(hg:Gl X "range":=by rfl)
  (hs:∀ y,zFS X (.Call (.Name "range" p1) [a,b] [] p2) y:=by exact λ_=>rfl) (n6:zSE X a [b]:=by rfl) (L5:zSE X b []:=by rfl) (f7:starEach [a,b] X.env=[(false,eval a X.env),(false,eval b X.env)]:=by rfl) (L6:starEach [b] X.env=[(false,eval b X.env)]:=by rfl):
  WDE X (.ListComp f9 [⟨.Name x px,.Call (.Name "range" p1) [a,b] [] p2,[c],0⟩] scope pos) (qY (rj ti tj) tt te):=⟨(pe_comp hc S (vy hg hm (bv ha.out (bv hb.out pa_nil L5) n6) f7 L6) (λa b c d=>qZ (hq a b c d).out) (λa b c d=>(he a b c d).out) hs).anti λs H Q q=>gE (λ_ _ _=>cmpF.g) itR2 q⟩
def EJ(ix:Nat)(Jb:TDI)(te:TD):TSD:=λE z=>Jb z (cmpP te z λd=>match d with| .lst ys=>E.nx (z.set ix (some (.own ys)))|_=>False)
theorem intsAre_of:∀ {ns:List Int} {us:List Value},Vals (ns.map V.int) us->IntsAre us ns
 |[],_,.nil=> .nil
 |n::ns,_,.cons ⟨t,rfl⟩ r=> .cons _ _ (intsAre_of r)
theorem zY(hc:X.calm=true):bA X (.builtin "min") (λxs H Q=>∃ (p:Addr) (ns:List Int),xs=[.ref p]/\SqL X.K H p (ns.map V.int)/\0<ns.length/\∀ m,m∈ns->(∀ a∈ns,m<=a)->Q (.int m) H):=by
 intro pins s σ H xs us Q I r h
 obtain⟨p,ns,rfl,hq,i9,q⟩:=h
 obtain⟨u,rfl,rx⟩:=bS r
 cases rx
 obtain⟨its,r',pl,hz⟩:=I.list hq
 have hi:=intsAre_of r'
 have hl:=pl.isList
 obtain⟨xs,e⟩:=hi.allInts.items
 have hns:ns=xs.toList.map (·.1):=by rw[<- hi.numsOf,<- nums_intItems,<- e]
 have g5:0<xs.size:=by
  have h3:=i9;rw[hns,EU,FW] at h3;exact h3
 rw[e] at hl
 refine min_intList (I.ok.hd hc) hl g5 λv h' tk hv hk=>?_
 obtain⟨t,rfl⟩:=intItems_at hv
 obtain⟨h1,h2⟩:=argBest_lt (numAt xs) (xs.size - 1)
 refine⟨.int _,H,I.kept hk,⟨t,rfl⟩,q _ ?_ λa ha=>?_⟩
 ·rw[hns,numAt_eq];exact getD_mem (by rw[EU,FW];lia)
 ·rw[hns] at ha
  obtain⟨j,hj,rfl⟩:=mem_getD ha
  rw[EU,FW] at hj
  rw[<- numAt_eq];exact h2 j (by lia)
def rdMinL:RDn:=λds R=>match ds with|[.lst xs]=>∃ ns:List Int,xs=ns.map D.int/\0<ns.length/\∀ m,m∈ns->(∀ a∈ns,m<=a)->R (.int m)|_=>False
theorem zZ{K:Ex}:ci K (λxs H Q=>∃ (p:Addr) (ns:List Int),xs=[.ref p]/\SqL K H p (ns.map V.int)/\0<ns.length/\∀ m,m∈ns->(∀ a∈ns,m<=a)->Q (.int m) H) rdMinL:=by
 intro ds vs F H R Q fh h rx q
 unfold rdMinL at h
 split at h
 ·obtain⟨ns,rfl,hl,h⟩:=h
  obtain⟨v,r,rfl,h1,h2⟩:=reps_cons.mp rx
  rw[reps_nil.mp h2]
  obtain⟨a,us,rfl,hq,rs⟩:=rep_lst.mp h1
  rw[Reps.ints.mp rs] at hq
  exact⟨a,ns,rfl,fh.seq (SqL.of hq),hl,λm h1 h2=>q _ _ F H (Grow.refl fh) (h m h1 h2) (rep_int.mpr rfl)⟩
 ·exact h.elim
theorem sj{p:Pos}(hc:X.calm=true)(hm:X.mg "min"=none)(ha:WDA X [e] t)(hg:Gl X "min":=by rfl)(he:zSE X e []:=by rfl)(b9:zPL X pos []:=by rfl):WDE X (.Call (.Name "min" p) [e] [] pos) (dCB rdMinL t):=⟨gv (zY hc) zZ hm PyProof.Rows.boot_min ha.out hg (by decide) (by decide) he b9⟩
def rdTuple:RDn:=λds R=>match ds with|[.lst xs]=>R (.tup xs)|[.tup xs]=>R (.tup xs)|_=>False
theorem Aa{K:Ex}:ci K (λxs H Q=>∃ p ys,xs=[.ref p]/\((SqL K H p ys/\∀ l,H l=none->Q (.ref l) (upd H l (.tup ys)))\/(SqT K H p ys/\Q (.ref p) H))) rdTuple:=by
 intro ds vs F H R Q fh h rx q
 unfold rdTuple at h
 split at h
 ·obtain⟨v,r,rfl,h1,h2⟩:=reps_cons.mp rx
  rw[reps_nil.mp h2]
  obtain⟨a,us,rfl,hq,rs⟩:=rep_lst.mp h1
  exact⟨a,us,rfl,.inl ⟨fh.seq (SqL.of hq),λl hl=>q _ _ _ _ (Grow.new fh hl _) h (rep_tupS.mpr ⟨l,us,rfl,aA,rs.mono (aS (fh.free hl) _)⟩)⟩⟩
 ·obtain⟨v,r,rfl,h1,h2⟩:=reps_cons.mp rx
  rw[reps_nil.mp h2]
  obtain⟨a,us,rfl,hq,rs⟩:=rep_tup_mp h1
  exact⟨a,us,rfl,.inr ⟨fh.tup hq,q _ _ F H (Grow.refl fh) h h1⟩⟩
 ·exact h.elim
theorem Ab{p:Pos}(hm:X.mg "tuple"=none)(ha:WDA X [e] t)(hg:Gl X "tuple":=by rfl)(he:zSE X e []:=by rfl):WDE X (.Call (.Name "tuple" p) [e] [] pos) (dCB rdTuple t):=⟨gz wK Aa hm PyProof.Rows.boot_tuple ha.out hg (by decide) (by decide) he⟩
def Ac(is:List Nat)(ti:TDI)(tb:TSD):TSD:=λE z=>ti z λds=>∃ W:Nat->SD->Prop,W 0 z/\(∀ (k:Nat) x z,ds[k]?=some x->W k z->tb {E with nx:=W (k+1),ct:=W (k+1),bk:=E.nx} (aV is [.int k,x] z))/\∀ z,W ds.length z->E.nx z
theorem Ad{K:Ex}{B F0 F1 H1:Hp}{z:SD}{s:L2.St}{E:Ends}{ED:EndsD}{It':It}{g:TG}{tb:TSD}{tbv:TS}{ds:List D}{is:List Nat}(k1:Kept B F0 F1 H1)(t5:RepS K B F1 H1 z s)(e:EndsOk K B F0 ED E)
  (go:∀ k F' H',Same F1 F'->Same F' H'->k<ds.length->It'.go k H') (stop:∀ F' H',Same F1 F'->Same F' H'->It'.stop ds.length H')
  (yld:∀ k F' H' x H'',Same F1 F'->Same F' H'->k<ds.length->It'.yld k H' x H''->∃ T d v,H' T=none/\x= .ref T/\H''=upd H' T (.tup [.int k,v])/\ds[k]?=some d/\Rep K F' d v)
  (hg:∀ (dd:List D) (vs:List V) (T:Addr) (z:SD) (s:L2.St) (F H:Hp) (Q:L2.St->Hp->Prop),dd.length=2->H T=some (.tup vs)->Reps K F dd vs->RepS K B F H z s->(∀ s',RepS K B F H (aV is dd z) s'->Q s' H)->g (.ref T) s H Q)
  (LY:∀ E s H,lS K tb E s H->tbv E s H)
  (hd:∃ W:Nat->SD->Prop,W 0 z/\(∀ (k:Nat) x z,ds[k]?=some x->W k z->tb {ED with nx:=W (k+1),ct:=W (k+1),bk:=ED.nx} (aV is [.int k,x] z))/\∀ z,W ds.length z->ED.nx z):
  ∃ W:Nat->Nat->L2.St->Hp->Prop,(∃ m,W 0 m s H1)/\∀ i m σ H,W i m σ H->
   (It'.stop i H/\E.nx σ H)\/(It'.go i H/\∃ N:L2.St->Hp->Prop,(∀ σ' H',N σ' H'->∃ m',m'<m/\W (i+1) m' σ' H')/\∀ x H',It'.yld i H x H'->g x σ H' λσ2 H2=>tbv {E with nx:=N,ct:=N,bk:=E.nx} σ2 H2):=by
 obtain⟨W,w0,b_,out⟩:=hd
 refine⟨λk m s' H'=>m=ds.length - k/\k<=ds.length/\∃ F' z',Kept B F0 F' H'/\Same F1 F'/\RepS K B F' H' z' s'/\W k z',⟨ds.length,by simp,Fj _,F1,z,k1,Same.refl F1,t5,w0⟩,?_⟩
 rintro k m s' H' ⟨rfl,hk,F',z',k',g',r',w'⟩
 by_cases gV:k<ds.length
 ·refine .inr ⟨go k F' H' g' k'.fh gV,λs3 H3=>∃ F3 z3,Kept B F0 F3 H3/\Same F1 F3/\RepS K B F3 H3 z3 s3/\W (k+1) z3,λs3 H3 h3=>⟨ds.length - (k+1),by lia,rfl,gV,h3⟩,λx H'' hy=>?_⟩
  obtain⟨T,d,v,hT,rfl,rfl,hd,rd⟩:=yld k F' H' x H'' g' k'.fh gV hy
  have gn:=Grow.new k'.fh hT (.tup [.int k,v])
  have k2:=k'.grow gn
  have rp:Reps K (upd F' T (.tup [.int k,v])) [.int k,d] [.int k,v]:=reps_cons.mpr ⟨_,_,rfl,rep_int.mpr rfl,eF (rd.mono gn.ff)⟩
  refine hg [.int k,d] _ T z' s' _ _ _ rfl aA rp (r'.grow gn) λs2 Jc=>LY _ _ _ ?_
  have gF:Same F1 (upd F' T (.tup [.int k,v])):=g'.trans gn.ff
  refine⟨B,upd F' T (.tup [.int k,v]),upd F' T (.tup [.int k,v]),_,⟨k2.bh,k2.fh,Same.refl _,λb h1 _=>h1,k2.eb,k2.jf.trans k2.f0,λb h1 h2=>k2.out b (k2.jo b h1 h2) h2⟩,Jc,_,b_ k d z' hd w',?_⟩
  have up:∀ {F3 H3:Hp},Kept B (upd F' T (.tup [.int k,v])) F3 H3->Kept B F0 F3 H3:=λk3=>⟨k3.bh,k3.fh,k2.f0.trans k3.f0,λb h1 h2=>k3.out b (k2.out b h1 h2) h2,k2.eb,k2.jf,k2.jo⟩
  exact⟨λz3 s3 F3 H3 k3 h3 r3=>⟨F3,z3,up k3,gF.trans k3.f0,r3,h3⟩,λd v F3 H3 k3=>e.rt d v F3 H3 (up k3),λz3 s3 F3 H3 k3=>e.nx z3 s3 F3 H3 (up k3),λz3 s3 F3 H3 k3 h3 r3=>⟨F3,z3,up k3,gF.trans k3.f0,r3,h3⟩⟩
 ·have ek:k=ds.length:=by lia
  subst ek
  exact .inl ⟨stop F' H' g' k'.fh,e.nx z' s' F' H' k' (out z' w') r'⟩
theorem Ae{es:List Expr}{x1:Nat}{tp p1 p2:Pos}{is:List Nat}{body:List Stmt}{tb:TSD}(hp:PassesOwn (model X.prog X.w) X.A X.env X.xe)(hc:X.calm=true)(hm:X.mg "enumerate"=none)(he:WDE X e te)(hG:DGs X es is)(hb:WDSs X body tb)(a_:is.length=2:=by rfl)(hg:Gl X "enumerate":=by rfl)
  (hn:(assignEach es X.env).length=2:=by rfl) (m6:(assignEach es X.env).findIdx? (·.1)=none:=by rfl)
  (hs:∀ y,zFS X (.Call (.Name "enumerate" p1) [e] [] p2) y:=by exact λ_=>rfl) (n6:zSE X e []:=by rfl) (f7:starEach [e] X.env=[(false,eval e X.env)]:=by rfl):
  WDS X (.For (.Tuple es x1 tp) (.Call (.Name "enumerate" p1) [e] [] p2) body [] pos) (Ac is (dItL te) tb):=by
 obtain⟨ug,Ka,kk⟩:=hG
 refine⟨(dX hp hc (rV hg hm (bv he.out pa_nil n6) f7) (fX hc Ka hn m6) hb.out hs).anti λE s H q=>?_⟩
 obtain⟨B,F0,F,z,kp,rs,ED,h,e⟩:=q
 refine⟨B,F,z,kp.kf,rs,_,h,λd v F1 H1 g1 hd rd=>?_⟩
 have key:∀ (ds:List D) (p:Addr) (vs:List V),SqL X.K F1 p vs->Reps X.K F1 ds vs->(∃ W:Nat->SD->Prop,W 0 z/\(∀ (k:Nat) x z,ds[k]?=some x->W k z->tb {ED with nx:=W (k+1),ct:=W (k+1),bk:=ED.nx} (aV is [.int k,x] z))/\∀ z,W ds.length z->ED.nx z)->_:=λds p vs hq rr hd=>
  Ad (It':=Itel X.K p) (g:=gTup X.K 2 ug) (tbv:=lS X.K tb) (E:=E) (kp.grow g1) (rs.grow g1) e (λk F' H' s1 s2 hk=>⟨vs,vs[k]'(by rw[rr.length];exact hk),s2.seq (s1.seq hq),by simp[rr.length,hk]⟩) (λF' H' s1 s2=>⟨vs,s2.seq (s1.seq hq),by rw[rr.length];exact EL _⟩) (λk F' H' x H'' s1 s2 hk hy=>by
   obtain⟨T,v,hT,e1,e2,hv⟩:=hy
   obtain⟨d,hd,rd⟩:=rr.get' (hv vs (s2.seq (s1.seq hq)))
   exact⟨T,d,v,hT,e1,e2,hd,rd.mono s1⟩) (λdd p9 T z s F H Q hl hT rp Ih hQ=>⟨T,p9,rfl,SqT.of hT,by rw[rp.length];exact hl,kk dd p9 z s B F H Q (by rw[hl,a_]) rp Ih hQ⟩) (λ_ _ _ h=>h) hd
 split at hd
 ·obtain⟨p,vs,rfl,hq,rr⟩:=rep_lst.mp rd
  exact⟨p,rfl,⟨vs,g1.fh.seq (SqL.of hq)⟩,key _ p vs (SqL.of hq) rr hd⟩
 ·obtain⟨p,vs,rfl,hq,rr⟩:=rep_rol.mp rd
  exact⟨p,rfl,⟨vs,g1.fh.seq hq⟩,key _ p vs hq rr hd⟩
 ·exact hd.elim
theorem jV:∀ {xs:List V},xs.all bp=true->eqVs xs xs=true
 |[],_=>rfl
 |x::xs,h=>by
  rw[FC,Fg] at h
  rw[eqVs,jV h.2,Gw]
  cases x<;>first|rfl|(simp[eqV];done)|exact absurd (show false=true from h.1) E2
theorem Af{pins:List (Addr × Obj)}{s:Shared}{σ:L2.St}{H:Hp}{A:Around}(I:Inv X pins σ H s)(hu:A.units<cLine){a b:Addr}{xs ys:List V}(h:(SqT X.K H a xs/\SqT X.K H b ys)\/(SqL X.K H a xs/\SqL X.K H b ys))(fx:xs.all bp=true)(fy:ys.all bp=true):SeqAt.EqAt A s (.ref a) (.ref b) (eqVs xs ys):=by
 rcases h with⟨h,h'⟩|⟨h,h'⟩
 ·by_cases e:a=b
  ·subst e
   rw[I.tuple_inj h h',jV fy]
   exact SeqAt.EqAt.same _
  ·obtain⟨its,r1,p1,_⟩:=I.tuple h
   obtain⟨d8,r2,p2,_⟩:=I.tuple h'
   refine SeqAt.EqAt.of_refs e ?_
   have:=SeqAt.RcAt.tuples (A:=A) (e:=λj=>eqV (xs.getD j .non) (ys.getD j .non)) p1 p2 hu (λj h1 h2=>by
    rw[ER] at h1 h2
    simp only[Gi]
    exact eqAt_V (Vals.getD r1 h1) (Vals.getD r2 h2) (flat_getD fx) (flat_getD fy))
   rw[ER,ER,<- L2.Vals.length r1,<- L2.Vals.length r2] at this
   rwa [<- fC]
 ·by_cases e:a=b
  ·subst e
   rw[I.list_inj h h',jV fy]
   exact SeqAt.EqAt.same _
  ·obtain⟨its,r1,p1,_⟩:=I.list h
   obtain⟨d8,r2,p2,_⟩:=I.list h'
   refine SeqAt.EqAt.of_refs e ?_
   have l1:=L2.Vals.length r1
   have l2:=L2.Vals.length r2
   by_cases hl:its.length=d8.length
   ·have:=SeqAt.RcAt.lists (A:=A) (e:=λj=>eqV (xs.getD j .non) (ys.getD j .non)) p1.isList p2.isList (by rw[ER,ER,hl]) hu (λj h1 h2=>by
     rw[ER] at h1 h2
     simp only[Gi]
     exact eqAt_V (Vals.getD r1 h1) (Vals.getD r2 h2) (flat_getD fx) (flat_getD fy))
    rw[ER,<- l1] at this
    have e2:=fC xs ys
    rw[show min xs.length ys.length=xs.length by lia,show(xs.length==ys.length)=true by rw[l1,l2,hl];exact beq_self_eq_true _,Gw] at e2
    rwa [<- e2]
   ·have:=SeqAt.RcAt.lists_lengths (A:=A) p1.isList p2.isList (by rw[ER,ER];simpa using hl) hu
    have e2:=fC xs ys
    rw[show(xs.length==ys.length)=false by rw[l1,l2];simpa using hl,Hj] at e2
    rwa [<- e2]
def EqE(K:Ex)(H:Hp)(x y:V)(b:Bool):Prop:=(bp x=true/\bp y=true/\b=eqV x y)\/∃ a a' xs ys,x= .ref a/\y= .ref a'/\((SqT K H a xs/\SqT K H a' ys)\/(SqL K H a xs/\SqL K H a' ys))/\xs.all bp=true/\ys.all bp=true/\b=eqVs xs ys
def rEqN(K:Ex):R2:=λx y H Q=>∃ (a b:Addr) (xs ys:List V) (es:List Bool),x= .ref a/\y= .ref b/\((SqT K H a xs/\SqT K H b ys)\/(SqL K H a xs/\SqL K H b ys))/\xs.length=ys.length/\es.length=xs.length/\(∀ j,j<xs.length->EqE K H (xs.getD j .non) (ys.getD j .non) (es.getD j true))/\Q (.bl (es.all id)) H
theorem so{es:List Bool}{n:Nat}(h:es.length=n):(EN n).all (λj=>es.getD j true)=es.all id:=by
 subst h
 induction es with
 |nil=>rfl
 |cons e es ih=>
  rw[EQ,Hs,FC,GU,FC,<- ih]
  rfl
theorem Ag(hu:X.A.units+1<cLine):OpR X (compareOp .Eq) (rEqN X.K):=by
 intro pins s σ H x y v u Q I rx ry h
 obtain⟨a,b,xs,ys,es,rfl,rfl,hs,hl,he,hE,q⟩:=h
 cases rx
 cases ry
 have el:∀ {its d8:List Value},Vals xs its->Vals ys d8->∀ j (h1:j<its.length) (h2:j<d8.length),SeqAt.EqAt X.A.in1 s its[j] d8[j] (es.getD j true):=λ{its d8} r1 r2 j h1 h2=>by
  have g1:=Vals.getD r1 h1
  have g2:=Vals.getD r2 h2
  rcases hE j (by rw[L2.Vals.length r1];exact h1) with⟨f1,f2,e⟩|⟨a,a',Qe,Qf,e1,e2,hq,f1,f2,e⟩
  ·rw[e]
   exact eqAt_V g1 g2 f1 f2
  ·rw[e1] at g1
   rw[e2] at g2
   have g1:its[j]= .ref a:=g1
   have g2:d8[j]= .ref a':=g2
   rw[e,g1,g2]
   exact Af I hu hq f1 f2
 rcases hs with⟨ha,hb⟩|⟨ha,hb⟩
 ·obtain⟨its,r1,p1,_⟩:=I.tuple ha
  obtain⟨d8,r2,p2,_⟩:=I.tuple hb
  refine SeqAt.eq_tupleAt (e:=λj=>es.getD j true) p1 p2 (by lia) (λj h1 h2=>?_) ⟨.bl (es.all id),H,I,?_,q⟩
  ·rw[ER] at h1 h2
   simp only[Gi]
   exact el r1 r2 j h1 h2
  ·rw[ER,ER,<- L2.Vals.length r1,<- L2.Vals.length r2,<- hl,Nat.min_self,so he,beq_self_eq_true,Gw]
   rfl
 ·obtain⟨its,r1,p1,_⟩:=I.list ha
  obtain⟨d8,r2,p2,_⟩:=I.list hb
  have l1:=L2.Vals.length r1
  have l2:=L2.Vals.length r2
  refine SeqAt.eq_listAt (e:=λj=>es.getD j true) p1.isList p2.isList (by rw[ER,ER];lia) (by lia) (λj h1 h2=>?_) ⟨.bl (es.all id),H,I,?_,q⟩
  ·rw[ER] at h1 h2
   simp only[Gi]
   exact el r1 r2 j h1 h2
  ·rw[ER,<- l1,so he]
   rfl
def sh2(x y:D):Bool:=(bo x && bo y)||match x,y with| .tup a,.tup b=>a.all bo && b.all bo| .lst a,.lst b=>a.all bo && b.all bo|_,_=>false
def eq2(x y:D):Bool:=match x,y with| .tup a,.tup b=>eqFs a b| .lst a,.lst b=>eqFs a b|x,y=>eqF x y
theorem EqE.of{K:Ex}{F H:Hp}(fh:Same F H){x y:D}{u v:V}(rx:Rep K F x u)(ry:Rep K F y v)(h:sh2 x y=true):EqE K H u v (eq2 x y):=by
 unfold sh2 at h
 rw[Bool.or_eq_true,Fg] at h
 rcases h with⟨f1,f2⟩|h
 ·refine .inl ⟨eB rx f1,eB ry f2,?_⟩
  rw[jF rx ry f1 f2]
  unfold eq2
  split
  ·cases f1
  ·cases f1
  ·rfl
 ·split at h
  ·rw[Fg] at h
   obtain⟨a,us,rfl,hq,rr⟩:=rep_tup_mp rx
   obtain⟨b,vs,rfl,j8,j9⟩:=rep_tup_mp ry
   exact .inr ⟨a,b,us,vs,rfl,rfl,.inl ⟨fh.tup hq,fh.tup j8⟩,cD rr h.1,cD j9 h.2,(gw rr j9 h.1 h.2).symm⟩
  ·rw[Fg] at h
   obtain⟨a,us,rfl,hq,rr⟩:=rep_lst.mp rx
   obtain⟨b,vs,rfl,j8,j9⟩:=rep_lst.mp ry
   exact .inr ⟨a,b,us,vs,rfl,rfl,.inr ⟨SqL.of (fh _ _ hq),SqL.of (fh _ _ j8)⟩,cD rr h.1,cD j9 h.2,(gw rr j9 h.1 h.2).symm⟩
  ·cases h
def sh2s:List D->List D->Bool
 |[],[]=>true
 |x::xs,y::ys=>sh2 x y && sh2s xs ys
 |_,_=>false
def eq2s(xs ys:List D):List Bool:=List.zipWith eq2 xs ys
theorem EqE.all{K:Ex}{F H:Hp}(fh:Same F H):∀ {xs ys:List D} {us vs:List V},Reps K F xs us->Reps K F ys vs->sh2s xs ys=true->us.length=vs.length/\(eq2s xs ys).length=us.length/\∀ j,j<us.length->EqE K H (us.getD j .non) (vs.getD j .non) ((eq2s xs ys).getD j true)
 |[],[],us,vs,r1,r2,_=>by
  rw[reps_nil.mp r1,reps_nil.mp r2]
  exact⟨rfl,rfl,λj h=>absurd h (Gk j)⟩
 |x::xs,y::ys,us,vs,r1,r2,h=>by
  obtain⟨u,ur,rfl,a1,a2⟩:=reps_cons.mp r1
  obtain⟨v,vr,rfl,b1,b2⟩:=reps_cons.mp r2
  rw[sh2s,Fg] at h
  obtain⟨q1,q2,q3⟩:=EqE.all fh a2 b2 h.2
  refine⟨by rw[EQ,EQ,q1],by show(eq2s xs ys).length+1=_;rw[q2,EQ],λj hj=>?_⟩
  cases j with
  |zero=>exact EqE.of fh a1 b1 h.1
  |succ j=>exact q3 j (Nat.lt_of_succ_lt_succ hj)
def rdEqN:RD2:=λx y R=>match x,y with
 | .tup xs,.tup ys=>sh2s xs ys=true/\R (.bl ((eq2s xs ys).all id))
 | .lst xs,.lst ys=>sh2s xs ys=true/\R (.bl ((eq2s xs ys).all id))
 |_,_=>False
theorem Ah{K:Ex}:aY K (rEqN K) rdEqN:=by
 intro x y u v F H R Q fh h rx ry q
 unfold rdEqN at h
 split at h
 ·obtain⟨a,us,rfl,hq,rr⟩:=rep_tup_mp rx
  obtain⟨b,vs,rfl,j8,j9⟩:=rep_tup_mp ry
  obtain⟨q1,q2,q3⟩:=EqE.all fh rr j9 h.1
  exact⟨a,b,us,vs,_,rfl,rfl,.inl ⟨fh.tup hq,fh.tup j8⟩,q1,q2,q3,q _ _ F H (Grow.refl fh) h.2 (rep_bl.mpr rfl)⟩
 ·obtain⟨a,us,rfl,hq,rr⟩:=rep_lst.mp rx
  obtain⟨b,vs,rfl,j8,j9⟩:=rep_lst.mp ry
  obtain⟨q1,q2,q3⟩:=EqE.all fh rr j9 h.1
  exact⟨a,b,us,vs,_,rfl,rfl,.inr ⟨SqL.of (fh _ _ hq),SqL.of (fh _ _ j8)⟩,q1,q2,q3,q _ _ F H (Grow.refl fh) h.2 (rep_bl.mpr rfl)⟩
 ·exact h.elim
theorem sq[Jx](hu:X.A.units+1<cLine)(ha:WDE X a ta)(hb:WDE X b tb):WDE X (.Compare a [.Eq] [b] pos) (dOp rdEqN ta tb):=⟨have ha:=ha.out;have hb:=hb.out;jB (Ag hu) Ah ha hb (nomark _)⟩
end
end My
end
section
namespace My
open PySem PySem.Spec PyProof.Rows L2
theorem b64B{w:Int}(h:0<w)(h':w<=33554432): -(2 ^ 64)<w/\w<2 ^ 64:=by lia
theorem s64B{s w:Int}(h:0<=s)(h':s<w)(Qg:w<=33554432): -(2 ^ 64)<s/\s<2 ^ 64:=by lia
theorem d30B{w:Int}(h:0<w)(h':w<=33554432):0<w/\w<1073741824:=by lia
theorem ab24{x y:Int}(h:x.natAbs<=12)(h':y.natAbs<=12):(x+y).natAbs<=24:=by lia
theorem sq0(a:Int):0<=a*a:=(HB 0 a).elim (λq=>G0 q q) (λq=>Int.mul_nonneg_of_nonpos_of_nonpos q q)
theorem u64{w:Int}(h:w=1\/w=-1\/w=0): -(2 ^ 64)<w/\w<2 ^ 64:=by lia
theorem n64{w:Int}{k:Nat}(h:w.natAbs<=k)(hk:k<=1073741823:=by decide): -(2 ^ 64)<w/\w<2 ^ 64:=by lia
theorem i64{w:Int}{a b:Int}(h:a<=w)(h':w<=b)(ha: -1000000000001<=a:=by decide)(hb:b<=1000000000001:=by decide): -(2 ^ 64)<w/\w<2 ^ 64:=by lia
theorem fdm(a b:Int)(hb:b≠0):(a - a.fdiv b*b).natAbs<b.natAbs/\(a.fdiv b).natAbs<=a.natAbs+1:=by
 have e:=Int.fmod_def a b
 have e2:a - a.fdiv b*b=a.fmod b:=by rw[e,E9]
 rw[e2]
 have r:(a.fmod b).natAbs<b.natAbs:=by
  rcases(by lia:0<b\/b<0) with h|h
  ·have h1:=HC a h
   have h2:=HD a h
   lia
  ·have h1:=HC (-a) (show 0< -b by lia)
   have h2:=HD (-a) (show 0< -b by lia)
   rw[Int.neg_fmod_neg] at h1 h2
   lia
 refine⟨r,?_⟩
 have e3:(b*a.fdiv b).natAbs=b.natAbs*(a.fdiv b).natAbs:=FT _ _
 have e4:=Int.mul_fdiv_self a b
 rcases F6 (a.natAbs+1) (a.fdiv b).natAbs with c|c
 ·have h1:b.natAbs*(a.natAbs+2)<=b.natAbs*(a.fdiv b).natAbs:=Nat.mul_le_mul_left _ c
  have h2:b.natAbs*(a.natAbs+2)=b.natAbs*a.natAbs+2*b.natAbs:=by rw[Nat.mul_add,Nat.mul_comm _ 2]
  have h3:1*a.natAbs<=b.natAbs*a.natAbs:=Nat.mul_le_mul_right _ (by lia)
  lia
 ·exact c
def Uni(a b c d p0 p1 q0 q1:Int):Prop:=∃ m n k l:Int,(m*l - n*k=1\/m*l - n*k=-1)/\p0=m*a+n*c/\p1=m*b+n*d/\q0=k*a+l*c/\q1=k*b+l*d
theorem Uni.refl(a b c d:Int):Uni a b c d a b c d:=⟨1,0,0,1,.inl (by decide),by lia,by lia,by lia,by lia⟩
theorem Uni.step{a b c d p0 p1 q0 q1:Int}(t:Int)(h:Uni a b c d p0 p1 q0 q1):Uni a b c d q0 q1 (p0 - t*q0) (p1 - t*q1):=by
 obtain⟨m,n,k,l,hd,rfl,rfl,rfl,rfl⟩:=h
 refine⟨k,l,m - t*k,n - t*l,?_,rfl,rfl,by grind,by grind⟩
 rcases hd with h|h
 ·right;grind
 ·left;grind
theorem Uni.neg{a b c d p0 p1 q0 q1:Int}(h:Uni a b c d p0 p1 q0 q1):Uni a b c d (-p0) (-p1) q0 q1:=by
 obtain⟨m,n,k,l,hd,rfl,rfl,rfl,rfl⟩:=h
 refine⟨-m,-n,k,l,?_,by grind,by grind,rfl,rfl⟩
 rcases hd with h|h
 ·right;grind
 ·left;grind
theorem Uni.inv{a b c d p0 p1 q0 q1:Int}(h:Uni a b c d p0 p1 q0 q1):Uni p0 p1 q0 q1 a b c d:=by
 obtain⟨m,n,k,l,hd,rfl,rfl,rfl,rfl⟩:=h
 rcases hd with h|h
 ·exact⟨l,-n,-k,m,.inl (by grind),by grind,by grind,by grind,by grind⟩
 ·exact⟨-l,n,k,-m,.inr (by grind),by grind,by grind,by grind,by grind⟩
theorem Uni.det{a b c d p0 p1 q0 q1:Int}(h:Uni a b c d p0 p1 q0 q1):p0*q1 - p1*q0=a*d - b*c\/p0*q1 - p1*q0=-(a*d - b*c):=by
 obtain⟨m,n,k,l,hd,rfl,rfl,rfl,rfl⟩:=h
 rcases hd with h|h
 ·left;grind
 ·right;grind
def Lev(a b c d p0 p1 q0:Int):Prop:=0<=p1/\Uni a b c d p0 p1 q0 0
def FamOf(a b c d w h s:Int):Prop:=0<w/\0<h/\0<=s/\s<w/\Uni a b c d w 0 s h
theorem Ai(x:Int):(if x<0 then -x else x)=x\/(if x<0 then -x else x)=-x:=by
 split<;>simp
theorem Aj{x:Int}(h:x≠0):0<(if x<0 then -x else x):=by split<;>lia
theorem fL{a b c d p0 p1 q0:Int}(hn:¬ a*d=b*c)(h:Lev a b c d p0 p1 q0):FamOf a b c d (if q0<0 then -q0 else q0) p1 (p0 % (if q0<0 then -q0 else q0)):=by
 obtain⟨hp,hu⟩:=h
 have dt:=hu.det
 have Pb:q0≠0:=by
  rintro rfl
  simp at dt
  lia
 have Qh:p1≠0:=by
  rintro rfl
  simp at dt
  lia
 have hw:=Aj Pb
 have hs:=Ai q0
 generalize (if q0<0 then -q0 else q0)=w at hw hs
 refine⟨hw,by lia,Ft _ (by lia),Fu _ hw,?_⟩
 have em:=Fv p0 w
 generalize p0 % w=s at em
 generalize p0 / w=t at em
 obtain⟨m,n,k,l,hd,e1,e2,e3,e4⟩:=hu
 rcases hs with e|e
 ·refine⟨k,l,m - t*k,n - t*l,?_,by grind,by grind,by grind,by grind⟩
  rcases hd with h|h
  ·right;grind
  ·left;grind
 ·refine⟨-k,-l,m+t*k,n+t*l,?_,by grind,by grind,by grind,by grind⟩
  rcases hd with h|h
  ·left;grind
  ·right;grind
theorem in_fam{w h s x y i j:Int}(hh:0<h)(ex:x=i*w+j*s)(ey:y=j*h):y % h=0/\(x - y / h*s) % w=0:=by
 subst ex ey
 rw[Fp _ (by lia)]
 refine⟨Gx _ _,?_⟩
 have e:i*w+j*s - j*s=i*w:=by lia
 rw[e]
 exact Gx _ _
theorem FamOf.first{a b c d w h s:Int}(f:FamOf a b c d w h s):b % h=0/\(a - b / h*s) % w=0:=by
 obtain⟨hw,hh,_,_,hu⟩:=f
 obtain⟨m,n,k,l,_,e1,e2,e3,e4⟩:=hu.inv
 exact in_fam (i:=m) (j:=n) hh e1 (by lia)
theorem FamOf.second{a b c d w h s:Int}(f:FamOf a b c d w h s):d % h=0/\(c - d / h*s) % w=0:=by
 obtain⟨hw,hh,_,_,hu⟩:=f
 obtain⟨m,n,k,l,_,e1,e2,e3,e4⟩:=hu.inv
 exact in_fam (i:=k) (j:=l) hh e3 (by lia)
theorem sr{a b c d u v i j:Int}(eu:u=i*a+j*c)(ev:v=i*b+j*d):(u*d - v*c).fmod (a*d - b*c)=0/\(a*v - b*u).fmod (a*d - b*c)=0:=by
 subst eu ev
 refine⟨G1 ⟨i,by grind⟩,G1 ⟨j,by grind⟩⟩
theorem FamOf.cells{a b c d w h s:Int}(f:FamOf a b c d w h s):w*h=a*d - b*c\/w*h=-(a*d - b*c):=by
 have:=f.2.2.2.2.det
 simpa using this
theorem bB{a d:Int}{A B:Nat}(h1:a.natAbs<=A)(h2:d.natAbs<=B):(a*d).natAbs<=A*B:=by
 rw[FT];exact Gy h1 h2
theorem Ak{c gap g:Int}{N:Nat}(hg:0<g)(c0:0<=c)(cg:c<=g)(h:gap.natAbs<=N):(c*gap / g).natAbs<=N:=by
 have h1:(c*gap).natAbs<=g.natAbs*N:=by rw[FT];exact Gy (by omega) h
 have e:((g.natAbs*N:Nat):Int)=N*g:=by rw[Int.natCast_mul,Int.natAbs_of_nonneg (by omega),E9]
 have l1:=Int.le_ediv_of_mul_le (a:=-(N:Int)) (b:=c*gap) hg (by rw[FU];omega)
 have l2:=Int.ediv_le_of_le_mul (a:=c*gap) (b:=(N:Int)) hg (by omega)
 omega
theorem cy{w h:Int}(hw:0<w)(hh:0<h):w<=w*h/\h<=w*h:=by
 have h1:=Gz (show 1<=h by lia) (show 0<=w by lia)
 have h2:=E6 (show 1<=w by lia) (show 0<=h by lia)
 lia
theorem FamOf.bd{a b c d w h s:Int}(f:FamOf a b c d w h s){N:Nat}(hN:(a*d - b*c).natAbs<=N):w<=N/\h<=N/\s<N:=by
 obtain⟨h1,h2⟩:=cy f.1 f.2.1
 have h3:=f.cells
 have h4:=f.2.2.2.1
 lia
def Meas(x y g u:Int):Prop:=0<=g/\(∃ i,x=i*g)/\(∃ j,y=j*g)/\∃ n,g=u*x+n*y
theorem ss{x y u g q:Int}(h:0<=g/\∃ m n k l:Int,(m*l - n*k=1\/m*l - n*k=-1)/\u=m*1+n*0/\g=m*x+n*y/\q=k*1+l*0/\0=k*x+l*y):Meas x y g u:=by
 obtain⟨h0,m,n,k,l,hd,e1,e2,e3,e4⟩:=h
 refine⟨h0,?_,?_,n,by grind⟩
 ·rcases hd with h|h
  ·exact⟨l,by grind⟩
  ·exact⟨-l,by grind⟩
 ·rcases hd with h|h
  ·exact⟨-k,by grind⟩
  ·exact⟨k,by grind⟩
theorem Meas.pos{x y g u:Int}(h:Meas x y g u)(hx:0<x):0<g:=by
 obtain⟨h0,⟨i,hi⟩,_⟩:=h
 rcases(by lia:g=0\/0<g) with e|e
 ·subst e;simp at hi;lia
 ·exact e
theorem Meas.le{x y g u:Int}(h:Meas x y g u)(hx:0<x):g<=x:=by
 have hg:=h.pos hx
 obtain⟨h0,⟨i,hi⟩,_⟩:=h
 have Qi:0<i:=by
  rcases(by lia:i<=0\/0<i) with e|e
  ·have:=FL e h0
   lia
  ·exact e
 have:=E6 (show 1<=i by lia) h0
 lia
structure MetR(w1 h1 s1 w2 h2 s2 w h s A:Int):Prop where
 w0:0<w
 h0:0<h
 s0:0<=s
 sw:s<w
 in1:∃ i,w=i*w1
 in2:∃ i,w=i*w2
 up1:∃ i j,s=i*w1+j*s1/\h=j*h1
 up2:∃ i j,s=i*w2+j*s2/\h=j*h2
 A0:0<A
 cells:w*h*A=w1*h1*w2*h2
 d11:A∣w1*h1
 d12:A∣w1*h2
 d21:A∣w2*h1
 d22:A∣w2*h2
 ds:A∣s1*h2 - h1*s2
 all:∀ x y:Int,(∃ i j,x=i*w1+j*s1/\y=j*h1)->(∃ i j,x=i*w2+j*s2/\y=j*h2)->∃ i j,x=i*w+j*s/\y=j*h
 comb:∀ G:Int,G∣w1*h1->G∣w1*h2->G∣w2*h1->G∣w2*h2->G∣s1*h2 - h1*s2->G∣A
theorem dL{x y:Int}(h:0<x*y)(hy:0<y):0<x:=by
 rcases(by lia:x<=0\/0<x) with e|e
 ·have:=FL e (show 0<=y by lia)
  lia
 ·exact e
theorem jW{a b c:Int}(ha:0<a)(h:a*b=a*c):b=c:=G2 (by lia) h
theorem r1(k j c:Int):k*(j*c)=j*(c*k):=by grind
theorem r2(j u c n d:Int):j*(u*c+n*d)=u*(j*c)+n*d*j:=by grind
theorem r3(u j d n j1:Int):u*(j*d)+n*d*j1=d*(u*j+n*j1):=by grind
theorem r4(j u c n d:Int):j*(u*c+n*d)=u*c*j+n*(j*d):=by grind
theorem r5(u c j n j1:Int):u*c*j+n*(j1*c)=c*(u*j+n*j1):=by grind
theorem r6(g e i1 a i2 b d T s1 c s2:Int)(q:i1*(a*(e*g))+d*T*s1=i2*(b*(e*g))+c*T*s2):g*(e*(i1*a - i2*b))=T*(c*s2 - d*s1):=by grind
theorem r7(g T f:Int):g*(T*f)=T*(f*g):=by grind
theorem r8(T v e q f:Int):T*(v*e+q*f)=v*T*e+q*(T*f):=by grind
theorem r9(v T e q m:Int):v*T*e+q*(e*m)=e*(v*T+q*m):=by grind
theorem r10(e r f:Int):e*r*f=e*(r*f):=by grind
theorem r11(i u a n b:Int):i*(u*a+n*b)=u*(i*a)+n*b*i:=by grind
theorem r12(u r f i2 b n i1:Int):u*(r*f+i2*b)+n*b*i1=u*(r*f)+b*(u*i2+n*i1):=by grind
theorem r13(u r f b M a e g d s1 t:Int):(u*(r*f)+b*M)*(a*(e*g))+d*(e*r)*s1=(M+r*t)*(a*b*(e*g))+r*(e*(d*s1)+f*u*(a*(e*g)) - a*b*(e*g)*t):=by grind
theorem r14(d e r c k:Int):d*(e*r)*(c*k)=r*(c*d*k*e):=by grind
theorem Al{a b c d e f k gg u n u' n' v q s1 s2 t s x y i1 j1 i2 j2:Int}(hk:0<k)(B_:0<gg)(he:0<e)
  (s9:u*a+n*b=1) (o7:u'*c+n'*d=1) (gap:c*s2 - d*s1=f*gg) (s_:v*e+q*f=1)
  (hs:s=e*(d*s1)+f*u*(a*(e*gg)) - a*b*(e*gg)*t) (x1:x=i1*(a*(e*gg))+j1*s1) (y1:y=j1*(c*k)) (x2:x=i2*(b*(e*gg))+j2*s2) (y2:y=j2*(d*k)):
  ∃ i j,x=i*(a*b*(e*gg))+j*s/\y=j*(c*d*k*e):=by
 have h1:j1*c=j2*d:=jW hk (by rw[r1 k j1 c,r1 k j2 d,<- y1,<- y2])
 have KR:j1=d*(u'*j2+n'*j1):=by
  have p:=r2 j1 u' c n' d
  rw[o7,h1,r3] at p
  lia
 have NN:j2=c*(u'*j2+n'*j1):=by
  have p:=r4 j2 u' c n' d
  rw[o7,<- h1,r5] at p
  lia
 generalize u'*j2+n'*j1=T at KR NN
 have q1:i1*(a*(e*gg))+d*T*s1=i2*(b*(e*gg))+c*T*s2:=by rw[<- KR,<- NN,<- x1,<- x2]
 have h2:e*(i1*a - i2*b)=T*f:=jW B_ (by rw[r6 gg e i1 a i2 b d T s1 c s2 q1,r7,gap])
 have eT:T=e*(v*T+q*(i1*a - i2*b)):=by
  have p:=r8 T v e q f
  rw[s_,<- h2,r9] at p
  lia
 generalize hr:v*T+q*(i1*a - i2*b)=r at eT
 have h3:i1*a - i2*b=r*f:=jW he (by rw[h2,eT,r10])
 have h4:i1=u*(r*f)+b*(u*i2+n*i1):=by
  have p:=r11 i1 u a n b
  have q3:i1*a=r*f+i2*b:=by lia
  rw[s9,q3,r12] at p
  lia
 generalize u*i2+n*i1=M at h4
 refine⟨M+r*t,r,?_,?_⟩
 ·rw[hs,x1,KR,eT,<- r13,<- h4]
 ·rw[y1,KR,eT,r14]
theorem Am{a b c d e f k gg u n u' n' v q s1 s2 t s:Int}(ha:0<a)(hb:0<b)(hc:0<c)(hd:0<d)(he:0<e)(hk:0<k)(B_:0<gg)
  (s9:u*a+n*b=1) (o7:u'*c+n'*d=1) (gap:c*s2 - d*s1=f*gg) (s_:v*e+q*f=1)
  (hs:s=e*(d*s1)+f*u*(a*(e*gg)) - a*b*(e*gg)*t) (m1:0<=s) (m2:s<a*b*(e*gg)):
  MetR (a*(e*gg)) (c*k) s1 (b*(e*gg)) (d*k) s2 (a*b*(e*gg)) (c*d*k*e) s (k*gg):=by
 have hg:0<e*gg:=E5 he B_
 have hW:0<a*b*(e*gg):=E5 (E5 ha hb) hg
 have L7:d*s1=c*s2 - f*gg:=by lia
 have ua:u*a=1 - n*b:=by lia
 refine⟨hW,E5 (E5 (E5 hc hd) hk) he,m1,m2,⟨b,?_⟩,⟨a,?_⟩,⟨f*u - t*b,d*e,?_,?_⟩,⟨-(f*n) - t*a,c*e,?_,?_⟩,E5 hk B_,?_,⟨a*e*c,?_⟩,⟨a*e*d,?_⟩,⟨b*e*c,?_⟩,⟨b*e*d,?_⟩,⟨-f,?_⟩,?_,?_⟩
 ·grind
 ·grind
 ·grind
 ·grind
 ·rw[hs,L7]
  have x2:f*u*(a*(e*gg))=f*(u*a)*(e*gg):=by grind
  rw[x2,ua];grind
 ·grind
 ·grind
 ·grind
 ·grind
 ·grind
 ·grind
 ·have:s1*(d*k) - c*k*s2=-(k*(c*s2 - d*s1)):=by grind
  rw[this,gap];grind
 ·rintro x y ⟨i1,j1,x1,z1⟩ ⟨i2,j2,x2,z2⟩
  exact Al hk B_ he s9 o7 gap s_ hs x1 z1 x2 z2
 ·rintro G ⟨y1,z1⟩ ⟨y2,z2⟩ ⟨y3,z3⟩ ⟨y4,z4⟩ ⟨y5,z5⟩
  refine⟨v*(u'*u*y1+n'*u*y2+u'*n*y3+n'*n*y4) - q*y5,?_⟩
  have k1:k*(e*gg)=G*(u'*u*y1+n'*u*y2+u'*n*y3+n'*n*y4):=by
   have p1:k*(e*gg)=(u'*c+n'*d)*(u*a+n*b)*(k*(e*gg)):=by rw[s9,o7];grind
   have p2:(u'*c+n'*d)*(u*a+n*b)*(k*(e*gg))=u'*u*(a*(e*gg)*(c*k))+n'*u*(a*(e*gg)*(d*k))+u'*n*(b*(e*gg)*(c*k))+n'*n*(b*(e*gg)*(d*k)):=by grind
   rw[p1,p2,z1,z2,z3,z4];grind
  have k2:k*(f*gg)=-(G*y5):=by
   rw[<- z5,<- gap];grind
  have k3:k*gg=(v*e+q*f)*(k*gg):=by rw[s_];grind
  have k4:(v*e+q*f)*(k*gg)=v*(k*(e*gg))+q*(k*(f*gg)):=by grind
  rw[k3,k4,k1,k2];grind
theorem jX{w1 h1 s1 w2 h2 s2 g u k u' gg t6:Int}(o8:0<w1)(u_:0<w2)(NO:0<h1)(w_:0<h2)
  (M1:Meas w1 w2 g u) (M2:Meas h1 h2 k u')
  (M3:Meas g (h1*h2 / k / h2*s2 - h1*h2 / k / h1*s1) gg t6):
  MetR w1 h1 s1 w2 h2 s2 (w1*w2 / g) (h1*h2 / k*(g / gg)) ((g / gg*(h1*h2 / k / h1*s1)+g / gg*(h1*h2 / k / h2*s2 - h1*h2 / k / h1*s1) / g*u*w1) % (w1*w2 / g)) (k*gg):=by
 have hg:=M1.pos o8
 have hk:=M2.pos NO
 have B_:=M3.pos hg
 obtain⟨_,⟨a,ea⟩,⟨b,eb⟩,n,en⟩:=M1
 obtain⟨_,⟨c,ec⟩,⟨d,ed⟩,n',Qj⟩:=M2
 have ha:0<a:=dL (ea ▸ o8) hg
 have hb:0<b:=dL (eb ▸ u_) hg
 have hc:0<c:=dL (ec ▸ NO) hk
 have hd:0<d:=dL (ed ▸ w_) hk
 have s9:u*a+n*b=1:=by
  have p:(u*a+n*b)*g=1*g:=by
   have:(u*a+n*b)*g=u*(a*g)+n*(b*g):=by grind
   rw[this,<- ea,<- eb];lia
  exact F8 (by lia) p
 have o7:u'*c+n'*d=1:=by
  have p:(u'*c+n'*d)*k=1*k:=by
   have:(u'*c+n'*d)*k=u'*(c*k)+n'*(d*k):=by grind
   rw[this,<- ec,<- ed];lia
  exact F8 (by lia) p
 have eW:w1*w2 / g=a*b*g:=by
  have:w1*w2=(a*b*g)*g:=by rw[ea,eb];grind
  rw[this];exact Fp _ (by lia)
 have eR:h1*h2 / k=c*d*k:=by
  have:h1*h2=(c*d*k)*k:=by rw[ec,ed];grind
  rw[this];exact Fp _ (by lia)
 have Pc:h1*h2 / k / h1=d:=by
  rw[eR]
  have:c*d*k=d*h1:=by rw[ec];grind
  rw[this];exact Fp _ (by lia)
 have Pd:h1*h2 / k / h2=c:=by
  rw[eR]
  have:c*d*k=c*h2:=by rw[ed];grind
  rw[this];exact Fp _ (by lia)
 rw[Pc,Pd] at M3 ⊢
 obtain⟨_,⟨e,ee⟩,⟨f,ef⟩,q,eq⟩:=M3
 have he:0<e:=dL (ee ▸ hg) B_
 have s_:t6*e+q*f=1:=by
  have p:(t6*e+q*f)*gg=1*gg:=by
   have:(t6*e+q*f)*gg=t6*(e*gg)+q*(f*gg):=by grind
   rw[this,<- ee,<- ef];lia
  exact F8 (by lia) p
 have eC:g / gg=e:=by rw[ee];exact Fp _ (by lia)
 have eS:e*(c*s2 - d*s1) / g=f:=by
  have:e*(c*s2 - d*s1)=f*g:=by rw[ef,ee];grind
  rw[this];exact Fp _ (by lia)
 rw[eC,eS,eW,eR]
 have hW:0<a*b*g:=E5 (E5 ha hb) hg
 have em:=Fv (e*(d*s1)+f*u*w1) (a*b*g)
 have m1:=Ft (e*(d*s1)+f*u*w1) (show a*b*g≠0 by lia)
 have m2:=Fu (e*(d*s1)+f*u*w1) hW
 generalize (e*(d*s1)+f*u*w1) % (a*b*g)=s at em m1 m2 ⊢
 generalize (e*(d*s1)+f*u*w1) / (a*b*g)=t at em
 subst ea eb ec ed
 subst ee
 exact Am ha hb hc hd he hk B_ s9 o7 ef s_ em m1 m2
theorem jY{x y g u:Int}(hx:0<x)(hy:0<y)(M:Meas x y g u):0<x*y / g/\x*y / g<=x*y/\x*y / g / x*1<=y/\0<=x*y / g / x/\x*y / g / y<=x/\0<=x*y / g / y:=by
 have hg:=M.pos hx
 obtain⟨_,⟨a,ea⟩,⟨b,eb⟩,_⟩:=M
 have ha:0<a:=dL (ea ▸ hx) hg
 have hb:0<b:=dL (eb ▸ hy) hg
 have e1:x*y / g=a*b*g:=by
  have:x*y=(a*b*g)*g:=by rw[ea,eb];grind
  rw[this];exact Fp _ (by lia)
 have e2:a*b*g / x=b:=by
  have:a*b*g=b*x:=by rw[ea];grind
  rw[this];exact Fp _ (by lia)
 have e3:a*b*g / y=a:=by
  have:a*b*g=a*y:=by rw[eb];grind
  rw[this];exact Fp _ (by lia)
 have p1:0<a*b*g:=E5 (E5 ha hb) hg
 have q1:=(cy (w:=b) (h:=g) hb hg).1
 have q2:=(cy (w:=a) (h:=g) ha hg).1
 have q3:x*y=a*b*g*g:=by rw[ea,eb];grind
 have q4:=(cy (w:=a*b*g) (h:=g) p1 hg).1
 rw[e1,e2,e3]
 lia
def cell(ns:List Int)(k:Int):Int:=ns.getD k.toNat 0
theorem su{ns:List Int}{k:Int}(h0:0<=k)(h1:k<(ns.length:Int)):atI (ns.map D.int) k=some (.int (cell ns k)):=by
 obtain⟨j,rfl⟩:∃ j:Nat,k=(j:Int):=⟨k.toNat,by lia⟩
 have hk:j<ns.length:=by lia
 refine ce ?_
 rw[E3,Fc hk]
 simp[cell,Fy,Fc hk]
theorem An{ns:List Int}{k:Int}(h1:(ns.length:Int)<=k):cell ns k=0:=by
 have hk:ns.length<=k.toNat:=by lia
 simp[cell,Fy,FD hk]
theorem EK(k:Int):∃ m,atI [D.int 12,D.int 720] (k % 2)=some (.int m)/\(m=12\/m=720):=by
 rcases(by lia:k % 2=0\/k % 2=1) with e|e
 ·rw[e];exact⟨12,rfl,.inl rfl⟩
 ·rw[e];exact⟨720,rfl,.inr rfl⟩
theorem bV{a b:Int}(h:0<b):0<=a % b:=Ft a (by lia)
theorem bW{a b:Int}(h:0<b):a % b<b:=Fu a h
def Ao:SpD:=λds R=>∃ (ns:List Int) (k:Int),ds=[.rol (ns.map D.int),.int k]/\0<=k/\R (.int (cell ns k))
def Ap:SpD:=λds R=>∃ i:Int,ds=[.int i]/\R (.bl true)
def Aq:SpD:=λds R=>∃ w h s x y:Int,ds=[.tup [.int w,.int h,.int s],.int x,.int y]/\0<w/\0<h/\h<1073741824/\0<=s/\s<1073741824/\
 R (.bl (decide (y % h=0/\(x - y / h*s) % w=0)))
def Ar:SpD:=λds R=>∃ a b c d u v:Int,ds=[.tup [.int a,.int b],.tup [.int c,.int d],.int u,.int v]/\a.natAbs<1073741824/\b.natAbs<1073741824/\c.natAbs<1073741824/\d.natAbs<1073741824/\
 ¬ a*d=b*c/\R (.bl (decide ((u*d - v*c).fmod (a*d - b*c)=0/\(a*v - b*u).fmod (a*d - b*c)=0)))
def As:SpD:=λds R=>∃ x y:Int,ds=[.int x,.int y]/\∀ g:Int,0<=g->g∣x->g∣y->(∀ e,e∣x->e∣y->e∣g)->R (.int g)
theorem sy{e x:Int}:e∣(if x<0 then -x else x)↔e∣x:=by
 split
 ·exact Int.dvd_neg
 ·exact Iff.rfl
theorem sA{e a b:Int}(hb:e∣b):e∣a % b↔e∣a:=by
 have e1:=Fv a b
 rw[e1]
 constructor
 ·intro h
  have:=G3 h (HE (c:=a / b) hb)
  simpa using this
 ·intro h
  exact Int.dvd_sub h (HE hb)
def Au:SpD:=λds R=>∃ w h s x y:Int,ds=[.tup [.int w,.int h,.int s],.int x,.int y]/\0<w/\0<h/\h<1073741824/\0<=s/\s<1073741824/\
 R (.tup [.int ((x - y / h*s) % w),.int (y % h)])
def Av:SpD:=λds R=>∃ a b c d:Int,ds=[.tup [.int a,.int b],.tup [.int c,.int d]]/\b.natAbs<4611686018427387904/\d.natAbs<4611686018427387904/\
 ∀ p0 p1 q0,Lev a b c d p0 p1 q0->R (.tup [.tup [.int p0,.int p1],.tup [.int q0,.int 0]])
def Aw:SpD:=λds R=>∃ a b c d:Int,ds=[.tup [.int a,.int b],.tup [.int c,.int d]]/\a.natAbs<4611686018427387904/\b.natAbs<4611686018427387904/\c.natAbs<4611686018427387904/\d.natAbs<4611686018427387904/\
 (a*d=b*c->R .non)/\(¬ a*d=b*c->∀ w h s,FamOf a b c d w h s->R (.tup [.int w,.int h,.int s]))
def Ax:SpD:=λds R=>∃ w h s:Int,ds=[.tup [.int w,.int h,.int s]]/\0<w/\R (.tup [.int w,.int h,.int (-s % w)])
def Ay:SpD:=λds R=>∃ w h s:Int,ds=[.tup [.int w,.int h,.int s]]/\0<w/\0<h/\w<4611686018427387904/\h<4611686018427387904/\0<=s/\s<4611686018427387904/\
 ∀ w' h' s',FamOf 0 w (-h) s w' h' s'->R (.tup [.int w',.int h',.int s'])
def Az:SpD:=λds R=>∃ x y:Int,ds=[.int x,.int y]/\x.natAbs<4611686018427387904/\y.natAbs<4611686018427387904/\∀ g u,Meas x y g u->R (.tup [.int g,.int u])
def AA:SpD:=λds R=>∃ w1 h1 s1 w2 h2 s2:Int,ds=[.tup [.int w1,.int h1,.int s1],.tup [.int w2,.int h2,.int s2]]/\0<w1/\w1<=33554432/\0<h1/\h1<=33554432/\0<=s1/\s1<w1/\0<w2/\w2<=33554432/\0<h2/\h2<=33554432/\0<=s2/\s2<w2/\
 ∀ w h s A,MetR w1 h1 s1 w2 h2 s2 w h s A->R (.tup [.int w,.int h,.int s])
def Drawn(xs:List Int):Prop:=∀ x∈xs,0<=x/\x<5040
theorem Drawn.at{xs:List Int}(h:Drawn xs)(k:Int):0<=cell xs k/\cell xs k<5040:=by
 by_cases hk:k.toNat<xs.length
 ·have:cell xs k=xs[k.toNat]:=by simp[cell,Fy,Fc hk]
  rw[this];exact h _ (Fs hk)
 ·have:cell xs k=0:=by simp[cell,Fy,FD (Ge hk)]
  lia
theorem cE{xs:List Int}{k:Int}(h0:0<=k)(h:k.toNat<xs.length):atI (xs.map D.int) k=some (.int (cell xs k)):=su h0 (by lia)
theorem sB{xs:List Int}{v:Int}:xs.map D.int++[D.int v]=(xs++[v]).map D.int:=by simp
theorem sC{xs:List Int}{v:Int}(h:Drawn xs)(h1:0<=v)(h2:v<5040):Drawn (xs++[v]):=by
 intro x hx
 rcases Ff.mp hx with q|q
 ·exact h x q
 ·rw[EM.mp q];exact⟨h1,h2⟩
def AB:SpD:=λds R=>∃ (ns:List Int) (k:Int) (n:Nat),ds=[.rol (ns.map D.int),.int k,.int n]/\0<=k/\n<=100/\∀ xs:List Int,xs.length=n->Drawn xs->R (.lst (xs.map D.int))
def AC:SpD:=λds R=>∃ xs:List Int,ds=[.lst (xs.map D.int)]/\8<=xs.length/\Drawn xs/\
 ∀ a b c d:Int,(-12<=a/\a<=12)->(-12<=b/\b<=12)->(-12<=c/\c<=12)->(-12<=d/\d<=12)->¬ a*d=b*c->R (.lst [.tup [.int a,.int b],.tup [.int c,.int d]])
abbrev cs(x:Str):List Nat:=x.cps.toList
theorem bL(x:Str):(cs x).length=x.length:=by simp[Str.length]
theorem sE:cs ""=[]:=rfl
theorem bC(x y:Str):cs (x++y)=cs x++cs y:=by
 show((x++y:Str)).cps.toList=_
 rw[show(x++y:Str).cps=x.cps++y.cps from rfl,Array.toList_append]
theorem aC(x y:Str):(x++y).length=x.length+y.length:=by rw[<- bL,bC,EW,bL,bL]
def aH(c:Nat):Prop:=c=46\/(49<=c/\c<=54)
theorem gS:∀ (L:List Str),cU (L.map D.str)=some L
 |[]=>rfl
 |x::L=>by simp[cU,gS L]
def eN(x:Str):Prop:=0<x.length/\x.length<=7/\∀ c∈cs x,aH c
theorem AD{x:Str}(h:eN x)(v:Int):∃ c,(x.length<=1000000/\atI (cs x) (v % (x.length:Int))=some c)/\aH c:=by
 have h1:=bV (a:=v) (show 0<(x.length:Int) by have:=h.1;lia)
 have h2:=bW (a:=v) (show 0<(x.length:Int) by have:=h.1;lia)
 obtain⟨j,ej⟩:∃ j:Nat,v % (x.length:Int)=(j:Int):=⟨(v % (x.length:Int)).toNat,by lia⟩
 have hj:j<(cs x).length:=by rw[bL];lia
 refine⟨(cs x)[j],⟨by have:=h.2.1;lia,?_⟩,h.2.2 _ (Fs hj)⟩
 rw[ej]
 exact ce (Fc hj)
theorem AE:eN "1.23456":=⟨by decide+kernel,by decide+kernel,by unfold aH;decide+kernel⟩
theorem AF:eN "12":=⟨by decide+kernel,by decide+kernel,by unfold aH;decide+kernel⟩
theorem AG:eN "1.":=⟨by decide+kernel,by decide+kernel,by unfold aH;decide+kernel⟩
theorem AH:eN "...2":=⟨by decide+kernel,by decide+kernel,by unfold aH;decide+kernel⟩
theorem AI(k:Int):∃ x,atI [D.str "1.23456",D.str "12",D.str "1.",D.str "...2"] (k % 4)=some (.str x)/\eN x:=by
 rcases(by lia:k % 4=0\/k % 4=1\/k % 4=2\/k % 4=3) with e|e|e|e<;>rw[e]
 ·exact⟨_,rfl,AE⟩
 ·exact⟨_,rfl,AF⟩
 ·exact⟨_,rfl,AG⟩
 ·exact⟨_,rfl,AH⟩
theorem AJ(k:Int):∃ m,atI [D.int 1,D.int 70] (k % 2)=some (.int m)/\(m=1\/m=70):=by
 rcases(by lia:k % 2=0\/k % 2=1) with e|e<;>rw[e]
 ·exact⟨1,rfl,.inl rfl⟩
 ·exact⟨70,rfl,.inr rfl⟩
structure Rows(L:List Str):Prop where
 many:1<=L.length/\L.length<=8
 wide:∃ w,(1<=w/\w<=8)/\∀ l∈L,l.length=w/\∀ c∈cs l,aH c
theorem Rows.of{L:List Str}{w t:Nat}(h1:1<=t)(h2:t<=8)(hl:L.length=t)(w1:1<=w)(w2:w<=8)(h:∀ l∈L,l.length=w/\∀ c∈cs l,aH c):Rows L:=⟨by lia,w,⟨w1,w2⟩,h⟩
theorem AK{x:Str}{c:Nat}{i:Nat}(h1:x.length=i)(h2:∀ c∈cs x,aH c)(hc:aH c):(x++⟨#[c]⟩:Str).length=i+1/\∀ c'∈cs (x++⟨#[c]⟩),aH c':=by
 refine⟨by rw[aC,h1];rfl,λc' q=>?_⟩
 rw[bC] at q
 rcases Ff.mp q with q|q
 ·exact h2 _ q
 ·have:c'=c:=by simpa[cs] using q
  rw[this];exact hc
theorem AL{L:List Str}{x:Str}:L.map D.str++[D.str x]=(L++[x]).map D.str:=by simp
def cM(L:List Str)(a b c d:Int):Str:=("["++Txt.join "/" L)++((((((((";":Str)++(toString a:String))++",")++(toString b:String))++";")++(toString c:String))++",")++(toString d:String))++"]"
theorem bw{a:Int}(h: -12<=a/\a<=12):((toString a:String):Str).length<=3:=by
 have key:∀ k:Fin 25,((toString (((k.val:Nat):Int) - 12):String):Str).length<=3:=by decide+kernel
 have:=key ⟨(a+12).toNat,by lia⟩
 have e:(((a+12).toNat:Nat):Int) - 12=a:=by lia
 rw[e] at this
 exact this
def B12(a:Int):Prop:=-12<=a/\a<=12
theorem B12.lt{a:Int}(h:B12 a):a.natAbs<1073741824:=by unfold B12 at h;lia
theorem jZ{L:List Str}{w:Nat}(h:∀ l∈L,l.length=w):(L.map (·.length)).sum=L.length*w:=by
 induction L with
 |nil=>simp
 |cons x L ih=>
  rw[EY,List.sum_cons,ih (λl hl=>h l (ES _ hl)),h x ET,EQ,Nat.succ_mul,Nat.add_comm]
theorem sF{L:List Str}(h:Rows L):(L.map (·.length)).sum+L.length*("/":Str).length<=72:=by
 obtain⟨h1,w,hw,h2⟩:=h
 rw[jZ (λl hl=>(h2 l hl).1)]
 have e:("/":Str).length=1:=rfl
 rw[e]
 have:=Gy h1.2 hw.2
 lia
def AM:SpD:=λds R=>∃ xs:List Int,ds=[.lst (xs.map D.int)]/\40<=xs.length/\Drawn xs/\∀ L:List Str,Rows L->R (.lst (L.map D.str))
def AN:SpD:=λds R=>∃ (L:List Str) (a b c d:Int),ds=[.lst (L.map D.str),.tup [.int a,.int b],.tup [.int c,.int d]]/\Rows L/\B12 a/\B12 b/\B12 c/\B12 d/\R (.str (cM L a b c d))
structure Leaf where
 rows:List Str
 a:Int
 b:Int
 c:Int
 d:Int
 w0:Int
 w1:Int
 w2:Int
 w3:Int
 w4:Int
 w5:Int
 hues:List Int
def Leaf.D(l:Leaf):My.D:= .tup [.lst (l.rows.map D.str),.tup [.int l.a,.int l.b],.tup [.int l.c,.int l.d],.tup [.int l.w0,.int l.w1,.int l.w2,.int l.w3,.int l.w4,.int l.w5],.lst (l.hues.map D.int)]
structure Leaf.Ok(l:Leaf):Prop where
 rows:Rows l.rows
 a:B12 l.a
 b:B12 l.b
 c:B12 l.c
 d:B12 l.d
 ne:¬ l.a*l.d=l.b*l.c
 w0:l.w0.natAbs<=1
 w1:l.w1.natAbs<=1
 w2:l.w2.natAbs<=1
 w3:l.w3.natAbs<=1
 w4:l.w4.natAbs<=1000
 w5:l.w5.natAbs<=1000
 many:l.hues.length=7
 hue:∀ h∈l.hues,0<=h/\h<=6
def onB(a b c d u v:Int):Bool:=decide ((u*d - v*c).fmod (a*d - b*c)=0/\(a*v - b*u).fmod (a*d - b*c)=0)
def scanRow(f:Int->Bool):Nat->List Nat->Option Nat
 |_,[]=>none
 |i,c::r=>if c≠46/\f i=true then some c else scanRow f (i+1) r
def bM(f:Int->Int->Bool):Nat->List Str->Option Nat
 |_,[]=>none
 |j,l::r=>match scanRow (λi=>f i j) 0 (cs l) with|some c=>some c|none=>bM f (j+1) r
def Leaf.hit(l:Leaf)(x y:Int):Option Nat:=bM (λi j=>onB l.a l.b l.c l.d (l.w0*x+l.w1*y+l.w4 - i) (l.w2*x+l.w3*y+l.w5 - j)) 0 l.rows
def Leaf.shows(l:Leaf)(x y:Int):Int:=match l.hit x y with|some c=>cell l.hues ((c:Int) - 48)|none=>0
theorem one_sign{c:Nat}:(⟨#[c]⟩:Str)="."↔c=46:=by
 constructor
 ·intro h
  have:(#[c]:Array Nat)=(".":Str).cps:=congrArg Str.cps h
  have e:(#[c]:Array Nat).toList=(".":Str).cps.toList:=by rw[this]
  have e2:(".":Str).cps.toList=[46]:=rfl
  rw[e2] at e
  simpa using e
 ·rintro rfl;rfl
theorem digit_of{c:Nat}(h:49<=c/\c<=54):PySem.intText? (⟨#[c]⟩:Str)=some ((c:Int) - 48):=by
 rcases(by lia:c=49\/c=50\/c=51\/c=52\/c=53\/c=54) with e|e|e|e|e|e<;>subst e<;>decide+kernel
theorem at_str{L:List Str}{j:Nat}{x:Str}(h:L[j]?=some x):atI (L.map D.str) (j:Int)=some (.str x):=ce (by rw[E3,h];rfl)
theorem bN{n:Int}{k:Nat}{x:D}(h:((EN n.toNat).map λk=>D.int ((k:Nat):Int))[k]?=some x):k<n.toNat/\x= .int (k:Int):=by
 have hk:k<n.toNat:=by simpa using(E7.mp h).1
 refine⟨hk,?_⟩
 simp[hk] at h
 exact h.symm
theorem bx{n:Int}:((EN n.toNat).map λk=>D.int ((k:Nat):Int)).length=n.toNat:=by simp
def aW:List Leaf->Int->Int->Int
 |[],_,_=>0
 |l::r,x,y=>if l.shows x y≠0 then l.shows x y else aW r x y
theorem AO{hs:List Int}(h:∀ h∈hs,0<=h/\h<=6)(k:Int):0<=cell hs k/\cell hs k<=6:=by
 by_cases hk:k.toNat<hs.length
 ·have:cell hs k=hs[k.toNat]:=by simp[cell,Fy,Fc hk]
  rw[this];exact h _ (Fs hk)
 ·have:cell hs k=0:=by simp[cell,Fy,FD (Ge hk)]
  lia
theorem Leaf.shows_le{l:Leaf}(h:l.Ok)(x y:Int):0<=l.shows x y/\l.shows x y<=6:=by
 unfold Leaf.shows
 split
 ·exact AO h.hue _
 ·lia
theorem sG:∀ {ls:List Leaf} (x y:Int),(∀ l∈ls,l.Ok)->0<=aW ls x y/\aW ls x y<=6
 |[],_,_,_=>by simp[aW]
 |l::r,x,y,h=>by
  unfold aW
  split
  ·exact Leaf.shows_le (h l ET) x y
  ·exact sG x y λl' q=>h l' (ES _ q)
def bt(L:List Str)(a b c d:Int):Leaf:=⟨L,a,b,c,d,1,0,0,1,0,0,[0,1,2,3,4,5,6]⟩
def AQ:SpD:=λds R=>∃ (ns:List Int) (k:Int),ds=[.rol (ns.map D.int),.int k]/\0<=k/\
 ∀ (L:List Str) (a b c d:Int),Rows L->B12 a->B12 b->B12 c->B12 d->¬ a*d=b*c->R (.lst [.str (cM L a b c d),.int 0,.lst [(bt L a b c d).D]])
def AR:SpD:=λds R=>∃ (l:Leaf) (x y:Int),ds=[l.D,.int x,.int y]/\l.Ok/\R (.int (l.shows x y))
def AS:SpD:=λds R=>∃ (ls:List Leaf) (x y:Int),ds=[.lst (ls.map Leaf.D),.int x,.int y]/\(∀ l∈ls,l.Ok)/\R (.int (aW ls x y))
inductive Pat where
 |mot (L:List Str) (a b c d:Int)
 |over (p q:Pat)
 |sh (a b:Int) (p:Pat)
 |mir (p:Pat)
 |tur (p:Pat)
 |hue (f g:Int) (p:Pat)
def Pat.text:Pat->Str
 | .mot L a b c d=>cM L a b c d
 | .over p q=>(((("(":Str)++p.text)++"|")++q.text)++")"
 | .sh a b p=>((((("s":Str)++(toString a:String))++",")++(toString b:String))++":")++p.text
 | .mir p=>("m":Str)++p.text
 | .tur p=>("t":Str)++p.text
 | .hue f g p=>((("h":Str)++(toString f:String))++(toString g:String))++p.text
def Pat.depth:Pat->Nat
 | .mot ..=>0
 | .over p q=>1+max p.depth q.depth
 | .sh _ _ p=>p.depth+1
 | .mir p=>p.depth+1
 | .tur p=>p.depth+1
 | .hue _ _ p=>p.depth+1
def Leaf.by(l:Leaf)(b0 b1 b2 b3 b4 b5:Int):Leaf:=
 {l with w0:=l.w0*b0+l.w1*b2,w1:=l.w0*b1+l.w1*b3,w2:=l.w2*b0+l.w3*b2,w3:=l.w2*b1+l.w3*b3,w4:=l.w4+l.w0*b4+l.w1*b5,w5:=l.w5+l.w2*b4+l.w3*b5}
def bD(f g h:Int):Int:=if h=f then g else h
def Leaf.dye(l:Leaf)(f g:Int):Leaf:={l with hues:=l.hues.map (bD f g)}
def Pat.leaves:Pat->List Leaf
 | .mot L a b c d=>[bt L a b c d]
 | .over p q=>p.leaves++q.leaves
 | .sh a b p=>p.leaves.map (λl=>l.by 1 0 0 1 (-a) (-b))
 | .mir p=>p.leaves.map (λl=>l.by (-1) 0 0 1 0 0)
 | .tur p=>p.leaves.map (λl=>l.by 0 1 (-1) 0 0 0)
 | .hue f g p=>p.leaves.map (λl=>(l.by 1 0 0 1 0 0).dye f g)
def Pat.show:Pat->Int->Int->Int
 | .mot L a b c d,x,y=>(bt L a b c d).shows x y
 | .over p q,x,y=>if p.show x y≠0 then p.show x y else q.show x y
 | .sh a b p,x,y=>p.show (x - a) (y - b)
 | .mir p,x,y=>p.show (-x) y
 | .tur p,x,y=>p.show y (-x)
 | .hue f g p,x,y=>bD f g (p.show x y)
def Pat.Wf:Pat->Prop
 | .mot L a b c d=>Rows L/\B12 a/\B12 b/\B12 c/\B12 d/\¬ a*d=b*c
 | .over p q=>p.Wf/\q.Wf
 | .sh a b p=>B12 a/\B12 b/\p.Wf
 | .mir p=>p.Wf
 | .tur p=>p.Wf
 | .hue f g p=>(1<=f/\f<=6)/\(1<=g/\g<=6)/\p.Wf
theorem Leaf.by_shows(l:Leaf)(b0 b1 b2 b3 b4 b5 x y:Int):(l.by b0 b1 b2 b3 b4 b5).shows x y=l.shows (b0*x+b1*y+b4) (b2*x+b3*y+b5):=by
 have e1:(l.w0*b0+l.w1*b2)*x+(l.w0*b1+l.w1*b3)*y+(l.w4+l.w0*b4+l.w1*b5)=l.w0*(b0*x+b1*y+b4)+l.w1*(b2*x+b3*y+b5)+l.w4:=by grind
 have e2:(l.w2*b0+l.w3*b2)*x+(l.w2*b1+l.w3*b3)*y+(l.w5+l.w2*b4+l.w3*b5)=l.w2*(b0*x+b1*y+b4)+l.w3*(b2*x+b3*y+b5)+l.w5:=by grind
 simp only[Leaf.shows,Leaf.hit,Leaf.by,e1,e2]
theorem fM(b0 b1 b2 b3 b4 b5 x y:Int):∀ ls:List Leaf,aW (ls.map (λl=>l.by b0 b1 b2 b3 b4 b5)) x y=aW ls (b0*x+b1*y+b4) (b2*x+b3*y+b5)
 |[]=>rfl
 |l::r=>by
  rw[EY,aW,aW,Leaf.by_shows,fM b0 b1 b2 b3 b4 b5 x y r]
theorem scanRow_sign{f:Int->Bool}:∀ {cs:List Nat} {i c:Nat},(∀ c∈cs,aH c)->scanRow f i cs=some c->49<=c/\c<=54
 |[],_,_,_,h=>by cases h
 |a::r,i,c,hs,h=>by
  rw[scanRow] at h
  split at h
  ·rename_i q
   cases h
   have:=hs a ET
   unfold aH at this
   have:=q.1
   lia
  ·exact scanRow_sign (λc q=>hs c (ES _ q)) h
theorem ke{f:Int->Int->Bool}:∀ {L:List Str} {j c:Nat},(∀ l∈L,∀ c∈cs l,aH c)->bM f j L=some c->49<=c/\c<=54
 |[],_,_,_,h=>by cases h
 |a::r,j,c,hs,h=>by
  rw[bM] at h
  split at h
  ·rename_i q
   cases h
   exact scanRow_sign (hs a ET) q
  ·exact ke (λl q=>hs l (ES _ q)) h
theorem AT{hs:List Int}{k:Int}{f g:Int}(h:k.toNat<hs.length):cell (hs.map (bD f g)) k=bD f g (cell hs k):=by
 simp[cell,Fy,E3,Fc h]
theorem Leaf.dye_shows{l:Leaf}(ok:l.Ok){f g:Int}(hf:1<=f)(x y:Int):(l.dye f g).shows x y=bD f g (l.shows x y):=by
 have e:(l.dye f g).hit x y=l.hit x y:=rfl
 unfold Leaf.shows
 rw[e]
 cases h:l.hit x y with
 |none=>simp[bD];lia
 |some c=>
  have hc:49<=c/\c<=54:=ke (λl' q=>let ⟨_,_,_,h⟩:=ok.rows;(h l' q).2) h
  exact AT (by rw[ok.many];lia)
theorem sH{f g h:Int}(hf:1<=f)(hg:1<=g):bD f g h=0↔h=0:=by
 unfold bD
 split<;>lia
theorem sI{f g:Int}(hf:1<=f)(hg:1<=g)(x y:Int):∀ ls:List Leaf,(∀ l∈ls,l.Ok)->aW (ls.map (λl=>l.dye f g)) x y=bD f g (aW ls x y)
 |[],_=>by simp[aW,bD];lia
 |l::r,h=>by
  rw[EY,aW,aW,Leaf.dye_shows (h l ET) hf,sI hf hg x y r λl q=>h l (ES _ q)]
  by_cases z:l.shows x y=0
  ·rw[if_neg (λq=>q ((sH hf hg).mpr z)),if_neg (λq=>q z)]
  ·rw[if_pos (λq=>z ((sH hf hg).mp q)),if_pos z]
theorem sJ(x y:Int):∀ (a b:List Leaf),aW (a++b) x y=if aW a x y≠0 then aW a x y else aW b x y
 |[],b=>by simp[aW]
 |l::r,b=>by
  rw[Fz,aW,aW]
  by_cases z:l.shows x y≠0
  ·rw[if_pos z,if_pos z,if_pos z]
  ·rw[if_neg z,if_neg z,sJ x y r b]
structure Leaf.Near(l:Leaf)(n:Nat):Prop where
 u0:(l.w0.natAbs=1/\l.w1=0/\l.w2=0/\l.w3.natAbs=1)\/(l.w0=0/\l.w1.natAbs=1/\l.w2.natAbs=1/\l.w3=0)
 w4:l.w4.natAbs<=24*n
 w5:l.w5.natAbs<=24*n
theorem Leaf.Near.mono{l:Leaf}{n m:Nat}(h:l.Near n)(k:n<=m):l.Near m:=⟨h.u0,by have:=h.w4;lia,by have:=h.w5;lia⟩
theorem Leaf.Near.unit{l:Leaf}{n:Nat}(h:l.Near n):(l.w0=1\/l.w0=-1\/l.w0=0)/\(l.w1=1\/l.w1=-1\/l.w1=0)/\(l.w2=1\/l.w2=-1\/l.w2=0)/\(l.w3=1\/l.w3=-1\/l.w3=0):=by
 have:=h.u0
 lia
theorem sK{e w v a b:Int}{n:Nat}(h:e.natAbs<=24*n)(hw:w=1\/w=-1\/w=0)(hv:v=1\/v=-1\/v=0)(ha:B12 a)(hb:B12 b):(e+w* -a+v* -b).natAbs<=24*(n+1):=by
 have m:∀ {w a:Int},(w=1\/w=-1\/w=0)->B12 a->(w* -a).natAbs<=12:=λhw ha=>by
  unfold B12 at ha
  rcases hw with rfl|rfl|rfl<;>lia
 have:=m hw ha
 have:=m hv hb
 generalize w* -a=x at*
 generalize v* -b=y at*
 clear m hw hv ha hb
 lia
theorem AU{l:Leaf}{n:Nat}{a b:Int}(h:l.Near n)(ha:B12 a)(hb:B12 b):(l.by 1 0 0 1 (-a) (-b)).Near (n+1):=by
 obtain⟨h0,h1,h2,h3⟩:=h.unit
 exact⟨by simpa[Leaf.by] using h.u0,sK h.w4 h0 h1 ha hb,sK h.w5 h2 h3 ha hb⟩
theorem AV{l:Leaf}{n:Nat}(h:l.Near n):(l.by (-1) 0 0 1 0 0).Near (n+1):=by
 have p:=h.w4
 have q:=h.w5
 exact⟨by simpa[Leaf.by] using h.u0,by simp[Leaf.by];lia,by simp[Leaf.by];lia⟩
theorem AW{l:Leaf}{n:Nat}(h:l.Near n):(l.by 0 1 (-1) 0 0 0).Near (n+1):=by
 have p:=h.w4
 have q:=h.w5
 refine⟨?_,by simp[Leaf.by];lia,by simp[Leaf.by];lia⟩
 rcases h.u0 with⟨a,b,c,d⟩|⟨a,b,c,d⟩
 ·exact .inr (by simp[Leaf.by,a,b,c,d])
 ·exact .inl (by simp[Leaf.by,a,b,c,d])
theorem sL{l:Leaf}{n:Nat}{f g:Int}(h:l.Near n):((l.by 1 0 0 1 0 0).dye f g).Near (n+1):=by
 have p:=h.w4
 have q:=h.w5
 exact⟨by simpa[Leaf.by,Leaf.dye] using h.u0,by simp[Leaf.by,Leaf.dye];lia,by simp[Leaf.by,Leaf.dye];lia⟩
structure Leaf.Good(l:Leaf):Prop where
 rows:Rows l.rows
 a:B12 l.a
 b:B12 l.b
 c:B12 l.c
 d:B12 l.d
 ne:¬ l.a*l.d=l.b*l.c
 many:l.hues.length=7
 hue:∀ h∈l.hues,0<=h/\h<=6
theorem Leaf.ok_of{l:Leaf}{n:Nat}(g:l.Good)(h:l.Near n)(hn:n<=40):l.Ok:=by
 have:=h.u0
 have:=h.w4
 have:=h.w5
 exact⟨g.rows,g.a,g.b,g.c,g.d,g.ne,by lia,by lia,by lia,by lia,by lia,by lia,g.many,g.hue⟩
theorem Pat.leaf_good:∀ {p:Pat},p.Wf->∀ l∈p.leaves,l.Good/\l.Near p.depth
 | .mot L a b c d,h,l,q=>by
  have:l=bt L a b c d:=by simpa[Pat.leaves] using q
  subst this
  obtain⟨h1,h2,h3,h4,h5,h6⟩:=h
  exact⟨⟨h1,h2,h3,h4,h5,h6,rfl,by intro h q;simp[bt] at q;lia⟩,⟨by simp[bt],by simp[bt],by simp[bt]⟩⟩
 | .over p r,h,l,q=>by
  rcases Ff.mp q with q|q
  ·obtain⟨g,n⟩:=Pat.leaf_good h.1 l q
   exact⟨g,n.mono (by simp only[Pat.depth];lia)⟩
  ·obtain⟨g,n⟩:=Pat.leaf_good h.2 l q
   exact⟨g,n.mono (by simp only[Pat.depth];lia)⟩
 | .sh a b p,h,l,q=>by
  obtain⟨l',q',rfl⟩:=Fh.mp q
  obtain⟨g,n⟩:=Pat.leaf_good h.2.2 l' q'
  exact⟨⟨g.rows,g.a,g.b,g.c,g.d,g.ne,g.many,g.hue⟩,AU n h.1 h.2.1⟩
 | .mir p,h,l,q=>by
  obtain⟨l',q',rfl⟩:=Fh.mp q
  obtain⟨g,n⟩:=Pat.leaf_good (p:=p) h l' q'
  exact⟨⟨g.rows,g.a,g.b,g.c,g.d,g.ne,g.many,g.hue⟩,AV n⟩
 | .tur p,h,l,q=>by
  obtain⟨l',q',rfl⟩:=Fh.mp q
  obtain⟨g,n⟩:=Pat.leaf_good (p:=p) h l' q'
  exact⟨⟨g.rows,g.a,g.b,g.c,g.d,g.ne,g.many,g.hue⟩,AW n⟩
 | .hue f k p,h,l,q=>by
  obtain⟨l',q',rfl⟩:=Fh.mp q
  obtain⟨g,n⟩:=Pat.leaf_good (p:=p) h.2.2 l' q'
  refine⟨⟨g.rows,g.a,g.b,g.c,g.d,g.ne,?_,λv hv=>?_⟩,sL n⟩
  ·show(l'.hues.map _).length=7
   rw[EU];exact g.many
  ·obtain⟨u,hu,rfl⟩:=Fh.mp hv
   have:=g.hue u hu
   have:=h.2.1
   unfold bD
   split<;>lia
theorem Pat.leaf_ok{p:Pat}(h:p.Wf)(hd:p.depth<=40):∀ l∈p.leaves,l.Ok:=λl q=>Leaf.ok_of (Pat.leaf_good h l q).1 (Pat.leaf_good h l q).2 hd
theorem Pat.show_leaves:∀ {p:Pat},p.Wf->p.depth<=40->∀ x y,aW p.leaves x y=p.show x y
 | .mot L a b c d,_,_,x,y=>by
  simp only[Pat.leaves,Pat.show,aW]
  split
  ·rfl
  ·lia
 | .over p q,h,hd,x,y=>by
  simp only[Pat.depth] at hd
  rw[Pat.leaves,sJ,Pat.show_leaves h.1 (by lia),Pat.show_leaves h.2 (by lia),Pat.show]
 | .sh a b p,h,hd,x,y=>by
  simp only[Pat.depth] at hd
  rw[Pat.leaves,fM,Pat.show_leaves h.2.2 (by lia),Pat.show]
  congr 1<;>lia
 | .mir p,h,hd,x,y=>by
  simp only[Pat.depth] at hd
  rw[Pat.leaves,fM,Pat.show_leaves (p:=p) h (by lia),Pat.show]
  congr 1<;>lia
 | .tur p,h,hd,x,y=>by
  simp only[Pat.depth] at hd
  rw[Pat.leaves,fM,Pat.show_leaves (p:=p) h (by lia),Pat.show]
  congr 1<;>lia
 | .hue f g p,h,hd,x,y=>by
  simp only[Pat.depth] at hd
  have e:p.leaves.map (λl=>(l.by 1 0 0 1 0 0).dye f g)=(p.leaves.map (λl=>l.by 1 0 0 1 0 0)).map (λl=>l.dye f g):=by rw[GA];rfl
  rw[Pat.leaves,e,sI h.1.1 h.2.1.1,fM,Pat.show_leaves h.2.2 (by lia),Pat.show]
  ·congr 2<;>lia
  ·intro l q
   obtain⟨l',q',rfl⟩:=Fh.mp q
   obtain⟨g',n⟩:=Pat.leaf_good h.2.2 l' q'
   have n':=sL (f:=f) (g:=g) n
   have:(l'.by 1 0 0 1 0 0).Near (p.depth+1):=⟨n'.u0,n'.w4,n'.w5⟩
   exact Leaf.ok_of ⟨g'.rows,g'.a,g'.b,g'.c,g'.d,g'.ne,g'.many,g'.hue⟩ this (by lia)
def Pat.D(p:Pat):My.D:= .lst [.str p.text,.int p.depth,.lst (p.leaves.map Leaf.D)]
def Leaf.T(dy:Bool)(d9 new b0 b1 b2 b3 b4 b5:Int)(l:Leaf):Leaf:=if dy then(l.by b0 b1 b2 b3 b4 b5).dye d9 new else l.by b0 b1 b2 b3 b4 b5
theorem cV{a:Int}(h:1<=a/\a<=6):((toString a:String):Str).length<=3:=bw (by lia)
def Wraps(p:Pat)(H:Prop)(R:My.D->Prop):Prop:=(5<=p.depth->R p.D)/\(p.depth<5->R (Pat.mir p).D/\R (Pat.tur p).D/\(∀ a b,B12 a->B12 b->R (Pat.sh a b p).D)/\(H->∀ f g:Int,(1<=f/\f<=6)->(1<=g/\g<=6)->R (Pat.hue f g p).D))
theorem AX{p:Pat}{R:My.D->Prop}{j:Int}(h:Wraps p (j=3) R)(hd:p.depth<5){k A B d9 new:Int}(hA:B12 A)(hB:B12 B)(ho:1<=d9/\d9<=6)(hn:1<=new/\new<=6)(hj:0<=j/\j<4):
  ∃ (hs:Str) (b0 b1 b2 b3 b4 b5:Int),atI [D.str "m",D.str "t",D.str ((((("s":Str)++(toString A:String))++",")++(toString B:String))++":"),D.str ((("h":Str)++(toString d9:String))++(toString new:String))] j=some (.str hs)/\
   atI ([D.tup [.int (-1),.int 0,.int 0,.int 1,.int 0,.int 0],D.tup [.int 0,.int 1,.int (-1),.int 0,.int 0,.int 0]]++[D.tup [.int 1,.int 0,.int 0,.int 1,.int (-A),.int (-B)],D.tup [.int 1,.int 0,.int 0,.int 1,.int 0,.int 0]]) j=some (.tup [.int b0,.int b1,.int b2,.int b3,.int b4,.int b5])/\
   (b0.natAbs<=1/\b1.natAbs<=1/\b2.natAbs<=1/\b3.natAbs<=1/\b4.natAbs<=12/\b5.natAbs<=12)/\hs.length<=20/\
   R (.lst [.str (hs++p.text),.int (p.depth+1),.lst ((p.leaves.map (Leaf.T (decide (j=3)) d9 new b0 b1 b2 b3 b4 b5)).map Leaf.D)]):=by
 obtain⟨h1,h2,h3,h4⟩:=h.2 hd
 have l1:("s":Str).length=1:=rfl
 have l2:(",":Str).length=1:=rfl
 have l3:(":":Str).length=1:=rfl
 have l4:("h":Str).length=1:=rfl
 have lA:=bw hA
 have lB:=bw hB
 have lo:=cV ho
 have ln:=cV hn
 have eD:∀ n:Nat,D.int ((n+1:Nat):Int)=D.int ((n:Int)+1):=λn=>by congr 1
 unfold B12 at hA hB
 rcases(by lia:j=0\/j=1\/j=2\/j=3) with rfl|rfl|rfl|rfl
 ·exact⟨_,_,_,_,_,_,_,rfl,rfl,by lia,by decide,h1⟩
 ·exact⟨_,_,_,_,_,_,_,rfl,rfl,by lia,by decide,h2⟩
 ·refine⟨_,_,_,_,_,_,_,rfl,rfl,by lia,?_,h3 A B hA hB⟩
  repeat rw[aC]
  lia
 ·refine⟨_,_,_,_,_,_,_,rfl,rfl,by lia,?_,h4 rfl d9 new ho hn⟩
  repeat rw[aC]
  lia
theorem AY(h d9 new:Int):atI [D.int h,D.int new] (if decide (h=d9)=true then(1:Int) else 0)=some (.int (bD d9 new h)):=by
 unfold bD
 by_cases e:h=d9
 ·rw[if_pos e,if_pos (by simpa using e)];rfl
 ·rw[if_neg e,if_neg (by simpa using e)];rfl
theorem kg{α:Type}{xs:List α}{k:Nat}{x:α}(h:xs[k]?=some x):xs.take (k+1)=xs.take k++[x]:=by
 have hk:k<xs.length:=(E7.mp h).1
 rw[Hx,h];rfl
theorem Pat.leaves_len:∀ (p:Pat),p.leaves.length<=2 ^ p.depth
 | .mot ..=>EL _
 | .over p q=>by
  have h1:=p.leaves_len
  have h2:=q.leaves_len
  have m1:2 ^ p.depth<=2 ^ (max p.depth q.depth):=FE (by decide) (G4 _ _)
  have m2:2 ^ q.depth<=2 ^ (max p.depth q.depth):=FE (by decide) (G5 _ _)
  rw[Pat.leaves,EW,Pat.depth,G6]
  lia
 | .sh a b p=>by rw[Pat.leaves,EU,Pat.depth,Fq];have:=p.leaves_len;lia
 | .mir p=>by rw[Pat.leaves,EU,Pat.depth,Fq];have:=p.leaves_len;lia
 | .tur p=>by rw[Pat.leaves,EU,Pat.depth,Fq];have:=p.leaves_len;lia
 | .hue f g p=>by rw[Pat.leaves,EU,Pat.depth,Fq];have:=p.leaves_len;lia
theorem Pat.leaves_32{p:Pat}(h:p.depth<=5):p.leaves.length<=32:=E1 p.leaves_len (FE (by decide) h)
def AZ:SpD:=λds R=>∃ (p:Pat) (draw:Int),ds=[p.D,.int draw]/\p.Wf/\p.depth<=5/\p.text.length<=100000/\Wraps p (draw % 4=3) R
theorem sM{a b c d u v:Int}(hn:¬ a*d=b*c)(h:(u*d - v*c).fmod (a*d - b*c)=0/\(a*v - b*u).fmod (a*d - b*c)=0):∃ i j,u=i*a+j*c/\v=i*b+j*d:=by
 have hz:a*d - b*c≠0:=by omega
 obtain⟨i,ei⟩:(a*d - b*c)∣(u*d - v*c):=⟨_,(HF h.1).symm⟩
 obtain⟨j,ej⟩:(a*d - b*c)∣(a*v - b*u):=⟨_,(HF h.2).symm⟩
 refine⟨i,j,?_,?_⟩
 ·have:(a*d - b*c)*u=(a*d - b*c)*(i*a+j*c):=by
   have q1:(a*d - b*c)*u=a*(u*d - v*c)+c*(a*v - b*u):=by grind
   rw[q1,ei,ej];grind
  exact G2 hz this
 ·have:(a*d - b*c)*v=(a*d - b*c)*(i*b+j*d):=by
   have q1:(a*d - b*c)*v=b*(u*d - v*c)+d*(a*v - b*u):=by grind
   rw[q1,ei,ej];grind
  exact G2 hz this
theorem Uni.trans{a b c d p0 p1 q0 q1 x0 x1 y0 y1:Int}(h:Uni a b c d p0 p1 q0 q1)(k:Uni p0 p1 q0 q1 x0 x1 y0 y1):Uni a b c d x0 x1 y0 y1:=by
 obtain⟨m,n,k1,l,hd,rfl,rfl,rfl,rfl⟩:=h
 obtain⟨m',n',k',l',f_,rfl,rfl,rfl,rfl⟩:=k
 have dt:(m'*m+n'*k1)*(k'*n+l'*l) - (m'*n+n'*l)*(k'*m+l'*k1)=(m'*l' - n'*k')*(m*l - n*k1):=by grind
 refine⟨m'*m+n'*k1,m'*n+n'*l,k'*m+l'*k1,k'*n+l'*l,?_,by grind,by grind,by grind,by grind⟩
 rw[dt]
 rcases hd with e|e<;>rcases f_ with e'|e'<;>rw[e,e']<;>decide
theorem eO:∀ (n:Nat) (a b c d:Int),d.natAbs<=n->∃ p0 p1 q0,Lev a b c d p0 p1 q0
 |n,a,b,c,d,hn=>by
  by_cases hd:d=0
  ·subst hd
   by_cases hb:0<=b
   ·exact⟨a,b,c,hb,Uni.refl a b c 0⟩
   ·exact⟨-a,-b,c,by lia,(Uni.refl a b c 0).neg⟩
  ·match n,hn with
   |0,hn=>exact absurd (by lia:d=0) hd
   |n+1,hn=>
    have lt:=(fdm b d hd).1
    obtain⟨p0,p1,q0,h0,hu⟩:=eO n c d (a - b.fdiv d*c) (b - b.fdiv d*d) (by lia)
    exact⟨p0,p1,q0,h0,((Uni.refl a b c d).step (b.fdiv d)).trans hu⟩
theorem A1{a b c d g:Int}(hn:¬ a*d=b*c)(g0:0<=g)(g1:g∣b)(g2:g∣d)(g3:∀ e,e∣b->e∣d->e∣g):
  ∃ w s,FamOf a b c d w g s:=by
 obtain⟨p0,p1,q0,hL⟩:=eO d.natAbs a b c d (EL _)
 have hF:=fL hn hL
 have hp:=hF.2.1
 obtain⟨m,n,k,l,_,e1,e2,e3,e4⟩:=hL.2
 obtain⟨m',n',k',l',_,f1,f2,f3,f4⟩:=hL.2.inv
 have d1:p1∣g:=g3 p1 ⟨m',by rw[f2];grind⟩ ⟨k',by rw[f4];grind⟩
 have d2:g∣p1:=by
  rw[e2]
  exact G3 (GB g1) (GB g2)
 have:p1=g:=HG (by lia) g0 d1 d2
 subst this
 exact⟨_,_,hF⟩
theorem FamOf.uniq_lean{a b c d w h s x i j:Int}(f:FamOf a b c d w h s)(e1:x=i*a+j*c)(e2:h=i*b+j*d)(h0:0<=x)(h1:x<=s):x=s:=by
 obtain⟨hw,hh,hs,z6,hu⟩:=f
 obtain⟨m,n,k,l,_,f1,f2,f3,f4⟩:=hu.inv
 -- (x,h)=(i m+j k) (w,0)+(i n+j l) (s,h)
 have ex:x=(i*m+j*k)*w+(i*n+j*l)*s:=by rw[e1,f1,f3];grind
 have eh:h=(i*n+j*l)*h:=by
  have:i*b+j*d=(i*n+j*l)*h:=by rw[f2,f4];grind
  rw[<- this];exact e2
 have one:i*n+j*l=1:=by
  have:(i*n+j*l)*h=1*h:=by lia
  exact F8 (by lia) this
 rw[one] at ex
 generalize i*m+j*k=t at ex
 have:t*w=x - s:=by lia
 rcases(by lia:t<=-1\/t=0\/1<=t) with z|z|z
 ·have:=E6 z (show 0<=w by lia)
  lia
 ·subst z;lia
 ·have:=E6 z (show 0<=w by lia)
  lia
theorem notT{c:Prop}[Decidable c](h:(!decide c)=true):¬ c:=by
 intro q
 rw[decide_eq_true q] at h
 cases h
theorem notF{c:Prop}[Decidable c](h:¬ (!decide c)=true):c:=by
 rcases Classical.em c with q|q
 ·exact q
 ·rw[decide_eq_false q] at h
  exact absurd rfl h
def Leaf.o0(l:Leaf):Int:=l.w0*l.a+l.w2*l.b
def Leaf.o1(l:Leaf):Int:=l.w1*l.a+l.w3*l.b
def Leaf.t0(l:Leaf):Int:=l.w0*l.c+l.w2*l.d
def Leaf.t1(l:Leaf):Int:=l.w1*l.c+l.w3*l.d
theorem cX{w a:Int}(h:w=1\/w=-1\/w=0)(ha:B12 a):(w*a).natAbs<=12:=by
 unfold B12 at ha
 rcases h with e|e|e<;>rw[e]<;>lia
theorem mul12{a b:Int}(ha:B12 a)(hb:B12 b):(a*b).natAbs<=144:=by
 unfold B12 at ha hb
 rw[FT]
 exact E1 (Gy (show a.natAbs<=12 by lia) (show b.natAbs<=12 by lia)) (by decide)
theorem Leaf.sizes{l:Leaf}{n:Nat}(g:l.Good)(h:l.Near n):l.o0.natAbs<=24/\l.o1.natAbs<=24/\l.t0.natAbs<=24/\l.t1.natAbs<=24/\¬ l.o0*l.t1=l.o1*l.t0/\(l.o0*l.t1 - l.o1*l.t0).natAbs<=288:=by
 obtain⟨h0,h1,h2,h3⟩:=h.unit
 have a0:=cX h0 g.a
 have a1:=cX h1 g.a
 have b2:=cX h2 g.b
 have b3:=cX h3 g.b
 have c0:=cX h0 g.c
 have c1:=cX h1 g.c
 have d2:=cX h2 g.d
 have d3:=cX h3 g.d
 have dt:l.o0*l.t1 - l.o1*l.t0=(l.w0*l.w3 - l.w1*l.w2)*(l.a*l.d - l.b*l.c):=by unfold Leaf.o0 Leaf.o1 Leaf.t0 Leaf.t1;grind
 have dw:(l.w0*l.w3 - l.w1*l.w2).natAbs=1:=by
  rcases h.u0 with⟨p,q,r,t⟩|⟨p,q,r,t⟩
  ·rw[q,GC,GD,FT,p,t]
  ·rw[p,GC,Int.zero_sub,Int.natAbs_neg,FT,q,r]
 have da:(l.o0*l.t1 - l.o1*l.t0).natAbs=(l.a*l.d - l.b*l.c).natAbs:=by rw[dt,FT,dw,Nat.one_mul]
 refine⟨ab24 a0 b2,ab24 a1 b3,ab24 c0 d2,ab24 c1 d3,λz=>g.ne ?_,?_⟩
 ·rw[z,HH] at da
  exact Int.sub_eq_zero.mp (Hr.mp da.symm)
 ·rw[da]
  have m1:=mul12 g.a g.d
  have m2:=mul12 g.b g.c
  generalize l.a*l.d=x at*
  generalize l.b*l.c=y at*
  clear da dw dt d3 d2 c1 c0 b3 b2 a1 a0 h3 h2 h1 h0 h g
  lia
def A2:SpD:=λds R=>∃ (l:Leaf) (n:Nat),ds=[l.D]/\l.Good/\l.Near n/\∀ w h s:Int,FamOf l.o0 l.o1 l.t0 l.t1 w h s->w*h<=288->R (.tup [.int w,.int h,.int s])
theorem A3{w h s x y:Int}(h1:y % h=0/\(x - y / h*s) % w=0):∃ i j,x=i*w+j*s/\y=j*h:=by
 refine⟨(x - y / h*s) / w,y / h,?_,?_⟩
 ·have:=F9 (x - y / h*s) w
  rw[h1.2] at this
  rw[E9 w] at this
  lia
 ·have:=F9 y h
  rw[h1.1,E9 h] at this
  lia
theorem eQ(x y:Int):∃ g u,Meas x y g u:=by
 obtain⟨p0,p1,q0,hL⟩:=eO y.natAbs 1 x 0 y (EL _)
 exact⟨p1,p0,ss ⟨hL.1,hL.2⟩⟩
theorem Meas.gcd{x y g u G:Int}(h:Meas x y g u)(g0:0<=G)(g1:G∣x)(g2:G∣y)(g3:∀ e,e∣x->e∣y->e∣G):G=g:=by
 obtain⟨h0,⟨i,ei⟩,⟨j,ej⟩,n,en⟩:=h
 refine HG g0 h0 ?_ (g3 g ⟨i,by rw[ei,E9]⟩ ⟨j,by rw[ej,E9]⟩)
 rw[en]
 exact G3 (GB g1) (GB g2)
structure Fm(w h s:Int):Prop where
 w0:0<w
 w1:w<=720
 h0:0<h
 h1:h<=720
 s0:0<=s
 sw:s<w
theorem A5{w1 h1 s1 w2 h2 s2:Int}(f:Fm w1 h1 s1)(k:Fm w2 h2 s2):∃ g u w h s A,Meas w1 w2 g u/\w=w1*w2 / g/\MetR w1 h1 s1 w2 h2 s2 w h s A:=by
 obtain⟨g,u,M1⟩:=eQ w1 w2
 obtain⟨k',u',M2⟩:=eQ h1 h2
 obtain⟨gg,t6,M3⟩:=eQ g (h1*h2 / k' / h2*s2 - h1*h2 / k' / h1*s1)
 exact⟨g,u,_,_,_,_,M1,rfl,jX f.w0 k.w0 f.h0 k.h0 M1 M2 M3⟩
theorem MetR.high{w1 h1 s1 w2 h2 s2 w h s A x j:Int}(M:MetR w1 h1 s1 w2 h2 s2 w h s A)(hh:0<h1)(hj:1<=j)(e1:∃ i,x=i*w1+j*s1)(e2:∃ i k,x=i*w2+k*s2/\j*h1=k*h2):h<=j*h1/\(j*h1=h->0<=x->x<w->x=s):=by
 obtain⟨i,e1⟩:=e1
 obtain⟨i',k,e3,e4⟩:=e2
 obtain⟨a,b,e5,e6⟩:=M.all x (j*h1) ⟨i,j,e1,rfl⟩ ⟨i',k,e3,e4⟩
 have hp:0<j*h1:=E5 (by lia) hh
 have hb:1<=b:=by
  rcases(by lia:b<=0\/1<=b) with z|z
  ·have:=FL z (show 0<=h by have:=M.h0;lia)
   lia
  ·exact z
 refine⟨?_,λe x0 x1=>?_⟩
 ·have:=E6 hb (show 0<=h by have:=M.h0;lia)
  lia
 ·have ob:b=1:=by
   have:b*h=1*h:=by lia
   exact F8 (by have:=M.h0;lia) this
  rw[ob] at e5
  have s0:=M.s0
  have sw:=M.sw
  have:a*w=x - s:=by lia
  rcases(by lia:a<=-1\/a=0\/1<=a) with z|z|z
  ·have:=E6 z (show 0<=w by lia)
   lia
  ·subst z;lia
  ·have:=E6 z (show 0<=w by lia)
   lia
def A6:SpD:=λds R=>∃ w1 h1 s1 w2 h2 s2:Int,ds=[.tup [.int w1,.int h1,.int s1],.tup [.int w2,.int h2,.int s2]]/\Fm w1 h1 s1/\Fm w2 h2 s2/\
 ∀ w h s A,MetR w1 h1 s1 w2 h2 s2 w h s A->(w*h<=720->R (.tup [.int w,.int h,.int s]))/\(720<w*h->R .non)
theorem A7{x w1 s S i:Int}(hw:0<w1)(hx:x<w1)(x0:0<=x)(hS:0<=S)(e:S=i*w1+s)(e2:∃ i',x=i'*w1+s):∃ k,S=x+k*w1/\0<=k:=by
 obtain⟨i',e2⟩:=e2
 refine⟨i - i',by grind,?_⟩
 rcases(by lia:i - i'<=-1\/0<=i - i') with z|z
 ·have:=E6 z (show 0<=w1 by lia)
  have:(i - i')*w1=S - x:=by grind
  lia
 ·exact z
def InF(w h s x y:Int):Prop:=∃ i j,x=i*w+j*s/\y=j*h
def Leaf.Lat(l:Leaf)(x y:Int):Prop:=∃ i j,x=i*l.o0+j*l.t0/\y=i*l.o1+j*l.t1
theorem FamOf.lat{a b c d w h s:Int}(f:FamOf a b c d w h s)(x y:Int):InF w h s x y↔∃ i j,x=i*a+j*c/\y=i*b+j*d:=by
 obtain⟨_,_,_,_,hu⟩:=f
 obtain⟨m,n,k,l,_,e1,e2,e3,e4⟩:=id hu
 obtain⟨m',n',k',l',_,f1,f2,f3,f4⟩:=hu.inv
 constructor
 ·rintro⟨i,j,rfl,rfl⟩
  refine⟨i*m+j*k,i*n+j*l,by rw[e1,e3];grind,?_⟩
  have z:i*0+j*h=(i*m+j*k)*b+(i*n+j*l)*d:=by rw[e2,e4];grind
  lia
 ·rintro⟨i,j,rfl,rfl⟩
  refine⟨i*m'+j*k',i*n'+j*l',by rw[f1,f3];grind,by rw[f2,f4];grind⟩
theorem MetR.lat{w1 h1 s1 w2 h2 s2 w h s A:Int}(M:MetR w1 h1 s1 w2 h2 s2 w h s A)(x y:Int):InF w h s x y↔InF w1 h1 s1 x y/\InF w2 h2 s2 x y:=by
 constructor
 ·rintro⟨i,j,rfl,rfl⟩
  obtain⟨a1,e1⟩:=M.in1
  obtain⟨a2,e2⟩:=M.in2
  obtain⟨b1,c1,e3,e4⟩:=M.up1
  obtain⟨b2,c2,e5,e6⟩:=M.up2
  refine⟨⟨i*a1+j*b1,j*c1,?_,?_⟩,⟨i*a2+j*b2,j*c2,?_,?_⟩⟩
  ·rw[e1,e3];grind
  ·rw[e4];grind
  ·rw[e2,e5];grind
  ·rw[e6];grind
 ·rintro⟨h1,h2⟩
  exact M.all x y h1 h2
theorem InF.le{w h s w' h' s':Int}(hw:0<w)(hh:0<h)(L8:0<w')(L9:0<h')(sub:∀ x y,InF w' h' s' x y->InF w h s x y):w*h<=w'*h'/\w<=w'/\h<=h':=by
 obtain⟨i,j,e1,e2⟩:=sub w' 0 ⟨1,0,by lia,by lia⟩
 have j0:j=0:=by
  rcases Gm.mp e2.symm with z|z
  ·exact z
  ·lia
 subst j0
 have i1:1<=i:=by
  rcases(by lia:i<=0\/1<=i) with z|z
  ·have:=FL z (show 0<=w by lia)
   lia
  ·exact z
 obtain⟨i',j',e3,e4⟩:=sub s' h' ⟨0,1,by lia,by lia⟩
 have j1:1<=j':=by
  rcases(by lia:j'<=0\/1<=j') with z|z
  ·have:=FL z (show 0<=h by lia)
   lia
  ·exact z
 have a1:=E6 i1 (show 0<=w by lia)
 have a2:=E6 j1 (show 0<=h by lia)
 have b1:w<=w':=by lia
 have b2:h<=h':=by lia
 exact⟨HI b1 b2 (by lia) (by lia),b1,b2⟩
theorem InF.uniq{w h s w' h' s':Int}(hw:0<w)(hh:0<h)(hs:0<=s)(z6:s<w)(L8:0<w')(L9:0<h')(Ja:0<=s')(Pe:s'<w')(e:∀ x y,InF w h s x y↔InF w' h' s' x y):w=w'/\h=h'/\s=s':=by
 obtain⟨_,a1,a2⟩:=InF.le hw hh L8 L9 (λx y q=>(e x y).mpr q)
 obtain⟨_,b1,b2⟩:=InF.le L8 L9 hw hh (λx y q=>(e x y).mp q)
 have ew:w=w':=by lia
 have eh:h=h':=by lia
 subst ew eh
 refine⟨rfl,rfl,?_⟩
 obtain⟨i,j,e1,e2⟩:=(e s h).mp ⟨0,1,by lia,by lia⟩
 have j1:j=1:=by
  have:j*h=1*h:=by lia
  exact F8 (by lia) this
 subst j1
 have:i*w=s - s':=by lia
 rcases(by lia:i<=-1\/i=0\/1<=i) with z|z|z
 ·have:=E6 z (show 0<=w by lia)
  lia
 ·subst z;lia
 ·have:=E6 z (show 0<=w by lia)
  lia
structure Fam0(w h s:Int):Prop where
 w0:0<w
 h0:0<h
 s0:0<=s
 sw:s<w
theorem sN{w1 h1 s1 w2 h2 s2:Int}(f:Fam0 w1 h1 s1)(k:Fam0 w2 h2 s2):∃ w h s,Fam0 w h s/\∀ x y,InF w h s x y↔InF w1 h1 s1 x y/\InF w2 h2 s2 x y:=by
 obtain⟨g,u,M1⟩:=eQ w1 w2
 obtain⟨k',u',M2⟩:=eQ h1 h2
 obtain⟨gg,t6,M3⟩:=eQ g (h1*h2 / k' / h2*s2 - h1*h2 / k' / h1*s1)
 have M:=jX f.w0 k.w0 f.h0 k.h0 M1 M2 M3
 exact⟨_,_,_,⟨M.w0,M.h0,M.s0,M.sw⟩,M.lat⟩
theorem Leaf.fam_ex{l:Leaf}{n:Nat}(g:l.Good)(h:l.Near n):∃ w k s,Fam0 w k s/\∀ x y,InF w k s x y↔l.Lat x y:=by
 obtain⟨_,_,_,_,ne,_⟩:=Leaf.sizes g h
 obtain⟨p0,p1,q0,hL⟩:=eO l.t1.natAbs l.o0 l.o1 l.t0 l.t1 (EL _)
 have f:=fL ne hL
 exact⟨_,_,_,⟨f.1,f.2.1,f.2.2.1,f.2.2.2.1⟩,f.lat⟩
def bO(ls:List Leaf)(x y:Int):Prop:=∀ l∈ls,l.Lat x y
theorem sO{n:Nat}:∀ (ls:List Leaf) (w h s:Int),Fam0 w h s->(∀ l∈ls,l.Good/\l.Near n)->∃ w' h' s',Fam0 w' h' s'/\∀ x y,InF w' h' s' x y↔InF w h s x y/\bO ls x y
 |[],w,h,s,f,_=>⟨w,h,s,f,λx y=>⟨λq=>⟨q,λl z=>by cases z⟩,λq=>q.1⟩⟩
 |l::r,w,h,s,f,g=>by
  obtain⟨w1,h1,s1,f1,e1⟩:=Leaf.fam_ex (g l ET).1 (g l ET).2
  obtain⟨w2,h2,s2,f2,e2⟩:=sN f f1
  obtain⟨w3,h3,s3,f3,e3⟩:=sO r w2 h2 s2 f2 λl' q=>g l' (ES _ q)
  refine⟨w3,h3,s3,f3,λx y=>?_⟩
  rw[e3,e2,e1]
  constructor
  ·rintro⟨⟨a,b⟩,c⟩
   exact⟨a,λl' q=>(EO.mp q).elim (λz=>z ▸ b) (c l')⟩
  ·rintro⟨a,b⟩
   exact⟨⟨a,b l ET⟩,λl' q=>b l' (ES _ q)⟩
theorem cut1(d:D)(ds:List D):cutD (d::ds) (some 1) none=ds:=by
 unfold cutD
 have e1:HT.sIx (d::ds).length 0 (some 1)=1:=by simp[HT.sIx]
 have e2:HT.sIx (d::ds).length (d::ds).length none=(d::ds).length:=by simp[HT.sIx]
 rw[e1,e2,List.drop_one,List.tail_cons,EQ,HJ,GE]
def kh:SpD:=λds R=>∃ (ls:List Leaf) (n:Nat),ds=[.lst (ls.map Leaf.D)]/\ls≠[]/\(∀ l∈ls,l.Good/\l.Near n)/\
 ∀ w h s:Int,Fam0 w h s->(∀ x y,InF w h s x y↔bO ls x y)->(w*h<=720->R (.tup [.int w,.int h,.int s]))/\(720<w*h->R .non)
def Pat.Lat:Pat->Int->Int->Prop
 | .mot _ a b c d,x,y=>∃ i j,x=i*a+j*c/\y=i*b+j*d
 | .over p q,x,y=>p.Lat x y/\q.Lat x y
 | .sh _ _ p,x,y=>p.Lat x y
 | .mir p,x,y=>p.Lat (-x) y
 | .tur p,x,y=>p.Lat y (-x)
 | .hue _ _ p,x,y=>p.Lat x y
theorem Leaf.by_lat(l:Leaf)(b0 b1 b2 b3 b4 b5 x y:Int):(l.by b0 b1 b2 b3 b4 b5).Lat x y↔∃ u v,l.Lat u v/\x=b0*u+b2*v/\y=b1*u+b3*v:=by
 have e0:(l.by b0 b1 b2 b3 b4 b5).o0=b0*l.o0+b2*l.o1:=by simp only[Leaf.o0,Leaf.o1,Leaf.by];grind
 have e1:(l.by b0 b1 b2 b3 b4 b5).o1=b1*l.o0+b3*l.o1:=by simp only[Leaf.o0,Leaf.o1,Leaf.by];grind
 have e2:(l.by b0 b1 b2 b3 b4 b5).t0=b0*l.t0+b2*l.t1:=by simp only[Leaf.t0,Leaf.t1,Leaf.by];grind
 have e3:(l.by b0 b1 b2 b3 b4 b5).t1=b1*l.t0+b3*l.t1:=by simp only[Leaf.t0,Leaf.t1,Leaf.by];grind
 unfold Leaf.Lat
 rw[e0,e1,e2,e3]
 generalize l.o0=o0
 generalize l.o1=o1
 generalize l.t0=t0
 generalize l.t1=t1
 constructor
 ·rintro⟨i,j,rfl,rfl⟩
  exact⟨_,_,⟨i,j,rfl,rfl⟩,by grind,by grind⟩
 ·rintro⟨_,_,⟨i,j,rfl,rfl⟩,rfl,rfl⟩
  exact⟨i,j,by grind,by grind⟩
theorem Leaf.dye_lat(l:Leaf)(f g x y:Int):(l.dye f g).Lat x y↔l.Lat x y:=Iff.rfl
theorem A8(a b:List Leaf)(x y:Int):bO (a++b) x y↔bO a x y/\bO b x y:=by
 constructor
 ·intro h
  exact⟨λl q=>h l (FG _ q),λl q=>h l (E4 _ q)⟩
 ·rintro⟨h1,h2⟩ l q
  rcases Ff.mp q with q|q
  ·exact h1 l q
  ·exact h2 l q
theorem latAll_map{f:Leaf->Leaf}{x y u v:Int}(hf:∀ l:Leaf,(f l).Lat x y↔l.Lat u v)(ls:List Leaf):bO (ls.map f) x y↔bO ls u v:=by
 constructor
 ·intro h l q
  exact(hf l).mp (h _ (Fh.mpr ⟨l,q,rfl⟩))
 ·intro h l q
  obtain⟨l',q',rfl⟩:=Fh.mp q
  exact(hf l').mpr (h l' q')
theorem sP(l:Leaf)(e f x y:Int):(l.by 1 0 0 1 e f).Lat x y↔l.Lat x y:=by
 rw[Leaf.by_lat]
 constructor
 ·rintro⟨u,v,h,e1,e2⟩
  have e1:x=u:=by lia
  have e2:y=v:=by lia
  rw[e1,e2];exact h
 ·intro h
  exact⟨x,y,h,by lia,by lia⟩
theorem Pat.lat_leaves:∀ (p:Pat) (x y:Int),bO p.leaves x y↔p.Lat x y
 | .mot L a b c d,x,y=>by
  have e0:(bt L a b c d).o0=a:=by simp[Leaf.o0,bt]
  have e1:(bt L a b c d).o1=b:=by simp[Leaf.o1,bt]
  have e2:(bt L a b c d).t0=c:=by simp[Leaf.t0,bt]
  have e3:(bt L a b c d).t1=d:=by simp[Leaf.t1,bt]
  have e:(bt L a b c d).Lat x y↔(Pat.mot L a b c d).Lat x y:=by
   unfold Leaf.Lat
   rw[e0,e1,e2,e3]
   exact Iff.rfl
  rw[<- e]
  constructor
  ·intro h;exact h _ ET
  ·intro h l q
   rw[EM.mp q];exact h
 | .over p q,x,y=>by rw[Pat.leaves,A8,Pat.lat_leaves p,Pat.lat_leaves q,Pat.Lat]
 | .sh a b p,x,y=>by rw[Pat.leaves,latAll_map (λl=>sP l _ _ x y),Pat.lat_leaves p,Pat.Lat]
 | .mir p,x,y=>by
  have e:∀ l:Leaf,(l.by (-1) 0 0 1 0 0).Lat x y↔l.Lat (-x) y:=λl=>by
   rw[Leaf.by_lat]
   constructor
   ·rintro⟨u,v,h,e1,e2⟩
    have e1: -x=u:=by lia
    have e2:y=v:=by lia
    rw[e1,e2];exact h
   ·intro h
    exact⟨-x,y,h,by lia,by lia⟩
  rw[Pat.leaves,latAll_map e,Pat.lat_leaves p,Pat.Lat]
 | .tur p,x,y=>by
  have e:∀ l:Leaf,(l.by 0 1 (-1) 0 0 0).Lat x y↔l.Lat y (-x):=λl=>by
   rw[Leaf.by_lat]
   constructor
   ·rintro⟨u,v,h,e1,e2⟩
    have e1: -x=v:=by lia
    have e2:y=u:=by lia
    rw[e1,e2];exact h
   ·intro h
    exact⟨y,-x,h,by lia,by lia⟩
  rw[Pat.leaves,latAll_map e,Pat.lat_leaves p,Pat.Lat]
 | .hue f g p,x,y=>by
  rw[Pat.leaves,latAll_map (λl=>(Leaf.dye_lat _ f g x y).trans (sP l _ _ x y)),Pat.lat_leaves p,Pat.Lat]
structure Pat.Fam(p:Pat)(w h s:Int):Prop where
 f:Fam0 w h s
 lat:∀ x y,InF w h s x y↔p.Lat x y
theorem Pat.Fam.uniq{p:Pat}{w h s w' h' s':Int}(a:p.Fam w h s)(b:p.Fam w' h' s'):w=w'/\h=h'/\s=s':=
 InF.uniq a.f.w0 a.f.h0 a.f.s0 a.f.sw b.f.w0 b.f.h0 b.f.s0 b.f.sw λx y=>(a.lat x y).trans (b.lat x y).symm
theorem Pat.Fam.mot{L:List Str}{a b c d w h s:Int}(k:FamOf a b c d w h s):(Pat.mot L a b c d).Fam w h s:=⟨⟨k.1,k.2.1,k.2.2.1,k.2.2.2.1⟩,k.lat⟩
theorem Pat.Fam.sh{p:Pat}{w h s:Int}(a b:Int)(k:p.Fam w h s):(Pat.sh a b p).Fam w h s:=⟨k.f,k.lat⟩
theorem Pat.Fam.hue{p:Pat}{w h s:Int}(a b:Int)(k:p.Fam w h s):(Pat.hue a b p).Fam w h s:=⟨k.f,k.lat⟩
theorem Pat.Fam.mir{p:Pat}{w h s:Int}(k:p.Fam w h s):(Pat.mir p).Fam w h (-s % w):=by
 refine⟨⟨k.f.w0,k.f.h0,bV k.f.w0,bW k.f.w0⟩,λx y=>?_⟩
 show _↔p.Lat (-x) y
 rw[<- k.lat]
 have e:=Fv (-s) w
 generalize -s % w=r at e
 generalize -s / w=t at e
 constructor
 ·rintro⟨i,j,rfl,rfl⟩
  exact⟨j*t - i,j,by rw[e];grind,rfl⟩
 ·rintro⟨i,j,ex,rfl⟩
  exact⟨j*t - i,j,by rw[e];grind,rfl⟩
theorem Pat.Fam.tur{p:Pat}{w h s w' h' s':Int}(k:p.Fam w h s)(f:FamOf 0 w (-h) s w' h' s'):(Pat.tur p).Fam w' h' s':=by
 refine⟨⟨f.1,f.2.1,f.2.2.1,f.2.2.2.1⟩,λx y=>?_⟩
 show _↔p.Lat y (-x)
 rw[<- k.lat,f.lat]
 constructor
 ·rintro⟨i,j,rfl,rfl⟩
  exact⟨i,j,by grind,by grind⟩
 ·rintro⟨i,j,ex,ey⟩
  exact⟨i,j,by grind,by grind⟩
theorem Pat.Fam.over{p q:Pat}{w1 h1 s1 w2 h2 s2 w h s A:Int}(k1:p.Fam w1 h1 s1)(k2:q.Fam w2 h2 s2)(M:MetR w1 h1 s1 w2 h2 s2 w h s A):(Pat.over p q).Fam w h s:=by
 refine⟨⟨M.w0,M.h0,M.s0,M.sw⟩,λx y=>?_⟩
 rw[M.lat,k1.lat,k2.lat]
 exact Iff.rfl
theorem fN{w h s:Int}(hw:0<w)(hh:0<h):∃ w' h' s',FamOf 0 w (-h) s w' h' s'/\w'*h'=w*h:=by
 have hp:0<w*h:=E5 hw hh
 have hn:¬ 0*s=w* -h:=by rw[FM];lia
 obtain⟨p0,p1,q0,hL⟩:=eO s.natAbs 0 w (-h) s (EL _)
 have f:=fL hn hL
 refine⟨_,_,_,f,?_⟩
 have LO:=E5 f.1 f.2.1
 have c:=f.cells
 rw[FM] at c
 lia
theorem sQ{L:List Str}{a b c d:Int}(hn:¬ a*d=b*c):∃ w h s,FamOf a b c d w h s/\(Pat.mot L a b c d).Fam w h s:=by
 obtain⟨p0,p1,q0,hL⟩:=eO d.natAbs a b c d (EL _)
 have f:=fL hn hL
 exact⟨_,_,_,f,.mot f⟩
theorem Pat.fam_ex:∀ {p:Pat},p.Wf->∃ w h s,p.Fam w h s
 | .mot L a b c d,h=>by
  obtain⟨w,k,s,_,f⟩:=sQ (L:=L) h.2.2.2.2.2
  exact⟨w,k,s,f⟩
 | .over p q,h=>by
  obtain⟨w1,h1,s1,f1⟩:=Pat.fam_ex h.1
  obtain⟨w2,h2,s2,f2⟩:=Pat.fam_ex h.2
  obtain⟨w,k,s,f,e⟩:=sN f1.f f2.f
  refine⟨w,k,s,f,λx y=>?_⟩
  rw[e,f1.lat,f2.lat]
  exact Iff.rfl
 | .sh a b p,h=>by
  obtain⟨w,k,s,f⟩:=Pat.fam_ex h.2.2
  exact⟨w,k,s,f.sh a b⟩
 | .mir p,h=>by
  obtain⟨w,k,s,f⟩:=Pat.fam_ex (p:=p) h
  exact⟨w,k,_,f.mir⟩
 | .tur p,h=>by
  obtain⟨w,k,s,f⟩:=Pat.fam_ex (p:=p) h
  obtain⟨w',k',s',f',_⟩:=fN (s:=s) f.f.w0 f.f.h0
  exact⟨w',k',s',f.tur f'⟩
 | .hue a b p,h=>by
  obtain⟨w,k,s,f⟩:=Pat.fam_ex h.2.2
  exact⟨w,k,s,f.hue a b⟩
def Pat.Fits(p:Pat):Prop:=∃ w h s,p.Fam w h s/\w*h<=720
theorem Pat.fits_mot{L:List Str}{a b c d:Int}(ha:B12 a)(hb:B12 b)(hc:B12 c)(hd:B12 d)(hn:¬ a*d=b*c):(Pat.mot L a b c d).Fits:=by
 obtain⟨w,h,s,k,f⟩:=sQ (L:=L) hn
 refine⟨w,h,s,f,?_⟩
 have kc:=k.cells
 unfold B12 at*
 have m1:=bB (a:=a) (d:=d) (A:=12) (B:=12) (by lia) (by lia)
 have m2:=bB (a:=b) (d:=c) (A:=12) (B:=12) (by lia) (by lia)
 lia
theorem Pat.Fits.sh{p:Pat}(a b:Int)(k:p.Fits):(Pat.sh a b p).Fits:=by
 obtain⟨w,h,s,f,q⟩:=k
 exact⟨w,h,s,f.sh a b,q⟩
theorem Pat.Fits.hue{p:Pat}(a b:Int)(k:p.Fits):(Pat.hue a b p).Fits:=by
 obtain⟨w,h,s,f,q⟩:=k
 exact⟨w,h,s,f.hue a b,q⟩
theorem Pat.Fits.mir{p:Pat}(k:p.Fits):(Pat.mir p).Fits:=by
 obtain⟨w,h,s,f,q⟩:=k
 exact⟨w,h,_,f.mir,q⟩
theorem Pat.Fits.tur{p:Pat}(k:p.Fits):(Pat.tur p).Fits:=by
 obtain⟨w,h,s,f,q⟩:=k
 obtain⟨w',k',s',f',e⟩:=fN (s:=s) f.f.w0 f.f.h0
 exact⟨w',k',s',f.tur f',by lia⟩
theorem sR{L:List Str}{a b c d:Int}(hL:Rows L)(ha:B12 a)(hb:B12 b)(hc:B12 c)(hd:B12 d):(cM L a b c d).length<=100:=by
 have la:=bw ha
 have lb:=bw hb
 have lc:=bw hc
 have ld:=bw hd
 have l1:(";":Str).length=1:=rfl
 have l2:(",":Str).length=1:=rfl
 have l3:("[":Str).length=1:=rfl
 have l4:("]":Str).length=1:=rfl
 have ls:=sF hL
 have lj:=StrLaws.join_length_le "/" L
 have lg:(Txt.join "/" L).length<=72:=by
  have e:Txt.join "/" L=Str.join "/" L:=StrLaws.glued_eq_join _ _
  rw[e];exact E1 lj ls
 unfold cM
 repeat rw[aC]
 lia
theorem Pat.text_len:∀ {p:Pat},p.Wf->p.text.length+10<=110*2 ^ p.depth
 | .mot L a b c d,h=>by
  have:=sR h.1 h.2.1 h.2.2.1 h.2.2.2.1 h.2.2.2.2.1
  show(cM L a b c d).length+10<=110*2 ^ 0
  lia
 | .over p q,h=>by
  have h1:=Pat.text_len h.1
  have h2:=Pat.text_len h.2
  have m1:2 ^ p.depth<=2 ^ (max p.depth q.depth):=FE (by decide) (G4 _ _)
  have m2:2 ^ q.depth<=2 ^ (max p.depth q.depth):=FE (by decide) (G5 _ _)
  have l1:("(":Str).length=1:=rfl
  have l2:("|":Str).length=1:=rfl
  have l3:(")":Str).length=1:=rfl
  rw[Pat.text,Pat.depth,G6]
  repeat rw[aC]
  lia
 | .sh a b p,h=>by
  have h1:=Pat.text_len h.2.2
  have la:=bw h.1
  have lb:=bw h.2.1
  have l1:("s":Str).length=1:=rfl
  have l2:(",":Str).length=1:=rfl
  have l3:(":":Str).length=1:=rfl
  have:0<2 ^ p.depth:=FN (by decide)
  rw[Pat.text,Pat.depth,Fq]
  repeat rw[aC]
  lia
 | .mir p,h=>by
  have h1:=Pat.text_len (p:=p) h
  have l1:("m":Str).length=1:=rfl
  have:0<2 ^ p.depth:=FN (by decide)
  rw[Pat.text,Pat.depth,Fq,aC]
  lia
 | .tur p,h=>by
  have h1:=Pat.text_len (p:=p) h
  have l1:("t":Str).length=1:=rfl
  have:0<2 ^ p.depth:=FN (by decide)
  rw[Pat.text,Pat.depth,Fq,aC]
  lia
 | .hue f g p,h=>by
  have h1:=Pat.text_len h.2.2
  have la:=cV h.1
  have lb:=cV h.2.1
  have l1:("h":Str).length=1:=rfl
  have:0<2 ^ p.depth:=FN (by decide)
  rw[Pat.text,Pat.depth,Fq]
  repeat rw[aC]
  lia
theorem Pat.leaves_pos:∀ p:Pat,0<p.leaves.length
 | .mot ..=>Nat.zero_lt_one
 | .over p q=>by rw[Pat.leaves,EW];have:=p.leaves_pos;lia
 | .sh _ _ p=>by rw[Pat.leaves,EU];exact p.leaves_pos
 | .mir p=>by rw[Pat.leaves,EU];exact p.leaves_pos
 | .tur p=>by rw[Pat.leaves,EU];exact p.leaves_pos
 | .hue _ _ p=>by rw[Pat.leaves,EU];exact p.leaves_pos
theorem Pat.text_short{p:Pat}(h:p.Wf)(hd:p.depth<=5):p.text.length<=3510:=by
 have h1:=Pat.text_len h
 have h2:2 ^ p.depth<=2 ^ 5:=FE (by decide) hd
 lia
structure Pat.Ok(p:Pat):Prop where
 wf:p.Wf
 deep:p.depth<=5
 fits:p.Fits
theorem Wraps.of{p:Pat}{H:Prop}{R:My.D->Prop}(h:p.Ok)(hR:∀ q:Pat,q.Ok->R q.D):Wraps p H R:=by
 refine⟨λ_=>hR p h,λhd=>⟨hR _ ⟨h.wf,?_,h.fits.mir⟩,hR _ ⟨h.wf,?_,h.fits.tur⟩,λa b ha hb=>hR _ ⟨⟨ha,hb,h.wf⟩,?_,h.fits.sh a b⟩,λ_ f g hf hg=>hR _ ⟨⟨hf,hg,h.wf⟩,?_,h.fits.hue f g⟩⟩⟩<;>(simp only[Pat.depth];lia)
def A9:SpD:=λds R=>∃ p q:Pat,ds=[p.D,q.D]/\p.Wf/\q.Wf/\p.depth<=5/\q.depth<=5/\R p.D/\(p.depth<5->q.depth<5->(Pat.over p q).Fits->R (Pat.over p q).D)
def Ba:SpD:=λds R=>∃ (ns:List Int) (k:Int),ds=[.rol (ns.map D.int),.int k]/\0<=k/\∀ p:Pat,p.Ok->R p.D
inductive Wt where
 |sign (c:Nat)|pat (d:Nat)|lin (w h k:Nat)|hue|num|fig|more
 deriving DecidableEq
abbrev isSg(c:Nat):Bool:=c==46||(49<=c && c<=54)
def motW(r:List Wt):List Wt:= .lin 0 0 0:: .num:: .sign 44:: .num:: .sign 59:: .num:: .sign 44:: .num:: .sign 93::r
def bP(d c:Nat)(r:List Wt):Option (List Wt):=
 if c=91 then some (motW r)
 else if d=5 then none
 else if c=40 then some (.pat (d+1):: .sign 124:: .pat (d+1):: .sign 41::r)
 else if c=115 then some (.num:: .sign 44:: .num:: .sign 58:: .pat (d+1)::r)
 else if c=104 then some (.hue:: .hue:: .pat (d+1)::r)
 else if c=109\/c=116 then some (.pat (d+1)::r)
 else none
def cN(w h k c:Nat)(r:List Wt):Option (List Wt):=
 if isSg c then(if h<(if 0<k then w else 8) then some (.lin w (h+1) k::r) else none)
 else if h=0\/(0<k/\h<w) then none
 else if c=47 then(if k<7 then some (.lin h 0 (k+1)::r) else none)
 else if c=59 then some r
 else none
def aK:List Wt->Nat->Option (List Wt)
 |[],_=>none
 | .sign s::r,c=>if c=s then some r else none
 | .pat d::r,c=>bP d c r
 | .lin w h k::r,c=>cN w h k c r
 | .hue::r,c=>if 49<=c/\c<=54 then some r else none
 | .more::r,_=>some r
 | .num::r,c=>if c=49 then some (.more::r) else if c=45 then some (.fig::r) else if 48<=c/\c<=57 then some r else none
 | .fig::r,c=>if c=49 then some (.more::r) else if 50<=c/\c<=57 then some r else none
def aI(st:List Wt)(c:Nat):List Wt:=match st with
 | .more::r=>if 48<=c/\c<=50 then st else r
 |_=>st
def step(st:List Wt)(c:Nat):Option (List Wt):=aK (aI st c) c
def walk:List Wt->List Nat->Nat->Option Nat
 |st,[],k=>if st=[] then none else some k
 |st,c::l,k=>match step st c with
  |none=>some k
  |some st'=>walk st' l (k+1)
def cY(t:Str):Option Nat:=walk [.pat 0] (cs t) 0
def Pat.Syn:Pat->Prop
 | .mot L a b c d=>Rows L/\B12 a/\B12 b/\B12 c/\B12 d
 | .over p q=>p.Syn/\q.Syn
 | .sh a b p=>B12 a/\B12 b/\p.Syn
 | .mir p=>p.Syn
 | .tur p=>p.Syn
 | .hue f g p=>(1<=f/\f<=6)/\(1<=g/\g<=6)/\p.Syn
theorem Pat.Wf.syn:∀ {p:Pat},p.Wf->p.Syn
 | .mot ..,h=>⟨h.1,h.2.1,h.2.2.1,h.2.2.2.1,h.2.2.2.2.1⟩
 | .over p q,h=>⟨Pat.Wf.syn h.1,Pat.Wf.syn h.2⟩
 | .sh a b p,h=>⟨h.1,h.2.1,Pat.Wf.syn h.2.2⟩
 | .mir p,h=>Pat.Wf.syn (p:=p) h
 | .tur p,h=>Pat.Wf.syn (p:=p) h
 | .hue f g p,h=>⟨h.1,h.2.1,Pat.Wf.syn h.2.2⟩
theorem aF{st st':List Wt}{c:Nat}{l:List Nat}{k:Nat}(h:step st c=some st'):walk st (c::l) k=walk st' l (k+1):=by
 rw[walk,h]
def numL(a:Int):List Nat:=cs (toString a:String)
theorem sS{a:Int}(h:B12 a){P:Int->Prop}(hP:∀ k:Fin 25,P (((k.val:Nat):Int) - 12)):P a:=by
 unfold B12 at h
 have:=hP ⟨(a+12).toNat,by lia⟩
 have e:(((a+12).toNat:Nat):Int) - 12=a:=by lia
 rw[e] at this
 exact this
def isNumL(l:List Nat):Prop:=(∃ c,(48<=c/\c<=57)/\l=[c])\/(∃ c,(48<=c/\c<=50)/\l=[49,c])\/(∃ c,(49<=c/\c<=57)/\l=[45,c])\/∃ c,(48<=c/\c<=50)/\l=[45,49,c]
theorem numL_is{a:Int}(h:B12 a):isNumL (numL a):=by
 have key:∀ k:Fin 25,(numL (((k.val:Nat):Int) - 12))∈([[45,49,50],[45,49,49],[45,49,48],[45,57],[45,56],[45,55],[45,54],[45,53],[45,52],[45,51],[45,50],[45,49],[48],[49],[50],[51],[52],[53],[54],[55],[56],[57],[49,48],[49,49],[49,50]]:List (List Nat)):=by decide+kernel
 have h1:=sS (P:=λa=>numL a∈([[45,49,50],[45,49,49],[45,49,48],[45,57],[45,56],[45,55],[45,54],[45,53],[45,52],[45,51],[45,50],[45,49],[48],[49],[50],[51],[52],[53],[54],[55],[56],[57],[49,48],[49,49],[49,50]]:List (List Nat))) h key
 revert h1
 generalize numL a=l
 intro h1
 unfold isNumL
 simp only[EO,FO,or_false] at h1
 rcases h1 with e|e|e|e|e|e|e|e|e|e|e|e|e|e|e|e|e|e|e|e|e|e|e|e|e<;>subst e
 all_goals first
  |exact .inl ⟨_,by decide,rfl⟩
  |exact .inr (.inl ⟨_,by decide,rfl⟩)
  |exact .inr (.inr (.inl ⟨_,by decide,rfl⟩))
  |exact .inr (.inr (.inr ⟨_,by decide,rfl⟩))
theorem Bb{l:List Nat}(h:isNumL l):∃ a,B12 a/\numL a=l:=by
 have key:∀ c:Fin 58,(48<=c.val->∃ k:Fin 25,numL (((k.val:Nat):Int) - 12)=[c.val])/\(48<=c.val->c.val<=50->∃ k:Fin 25,numL (((k.val:Nat):Int) - 12)=[49,c.val])/\(49<=c.val->∃ k:Fin 25,numL (((k.val:Nat):Int) - 12)=[45,c.val])/\(48<=c.val->c.val<=50->∃ k:Fin 25,numL (((k.val:Nat):Int) - 12)=[45,49,c.val]):=by decide+kernel
 have d5:∀ k:Fin 25,B12 (((k.val:Nat):Int) - 12):=λk=>by unfold B12;have:=k.isLt;lia
 rcases h with⟨c,hc,rfl⟩|⟨c,hc,rfl⟩|⟨c,hc,rfl⟩|⟨c,hc,rfl⟩
 ·obtain⟨k,e⟩:=(key ⟨c,by lia⟩).1 (by show 48<=c;lia)
  exact⟨_,d5 k,e⟩
 ·obtain⟨k,e⟩:=(key ⟨c,by lia⟩).2.1 (by show 48<=c;lia) (by show c<=50;lia)
  exact⟨_,d5 k,e⟩
 ·obtain⟨k,e⟩:=(key ⟨c,by lia⟩).2.2.1 (by show 49<=c;lia)
  exact⟨_,d5 k,e⟩
 ·obtain⟨k,e⟩:=(key ⟨c,by lia⟩).2.2.2 (by show 48<=c;lia) (by show c<=50;lia)
  exact⟨_,d5 k,e⟩
def endS(c:Nat):Prop:=c=44\/c=59\/c=58\/c=93
theorem eU{l:List Nat}(h:isNumL l){c:Nat}(hc:endS c)(r:List Wt)(t:List Nat)(k:Nat):walk (.num:: .sign c::r) (l++c::t) k=walk r t (k+l.length+1):=by
 unfold endS at hc
 have Pf:¬ (48<=c/\c<=50):=by lia
 have d5:∀ k,walk (.sign c::r) (c::t) k=walk r t (k+1):=λk=>aF (by simp[step,aI,aK])
 have Kb:∀ k,walk (.more:: .sign c::r) (c::t) k=walk r t (k+1):=λk=>aF (by simp[step,aI,aK,Pf])
 rcases h with⟨x,hx,rfl⟩|⟨x,hx,rfl⟩|⟨x,hx,rfl⟩|⟨x,hx,rfl⟩
 ·by_cases e:x=49
  ·subst e
   show walk _ (49::c::t) k=_
   rw[aF (st':= .more:: .sign c::r) (by simp[step,aI,aK]),Kb];simp
  ·show walk _ (x::c::t) k=_
   rw[aF (st':= .sign c::r) (by simp[step,aI,aK,e,hx,show¬ x=45 by lia]),d5];simp
 ·show walk _ (49::x::c::t) k=_
  rw[aF (st':= .more:: .sign c::r) (by simp[step,aI,aK]),aF (st':= .sign c::r) (by simp[step,aI,aK,hx]),d5];simp
 ·show walk _ (45::x::c::t) k=_
  rw[aF (st':= .fig:: .sign c::r) (by simp[step,aI,aK])]
  by_cases e:x=49
  ·subst e
   rw[aF (st':= .more:: .sign c::r) (by simp[step,aI,aK]),Kb];simp
  ·rw[aF (st':= .sign c::r) (by simp[step,aI,aK,e,show 50<=x/\x<=57 by lia]),d5];simp
 ·show walk _ (45::49::x::c::t) k=_
  rw[aF (st':= .fig:: .sign c::r) (by simp[step,aI,aK]),aF (st':= .more:: .sign c::r) (by simp[step,aI,aK]),aF (st':= .sign c::r) (by simp[step,aI,aK,hx]),d5];simp
def rowsL:List (List Nat)->List Nat
 |[]=>[]
 |[x]=>x
 |x::y::r=>x++47::rowsL (y::r)
theorem Bc{c:Nat}(h:aH c):isSg c=true:=by
 unfold aH at h
 unfold isSg
 rcases h with h|h
 ·subst h;rfl
 ·have:(decide (49<=c) && decide (c<=54))=true:=by simp[h]
  rw[this,GS]
theorem isSign_of{c:Nat}(h:isSg c=true):aH c:=by
 unfold isSg at h
 unfold aH
 simp at h
 lia
theorem dM{w h k c:Nat}{r:List Wt}:step (.lin w h k::r) c=cN w h k c r:=by simp[step,aI,aK]
theorem eV{w k:Nat}{r:List Wt}:∀ (x:List Nat) (h:Nat) (t:List Nat) (j:Nat),(∀ c∈x,aH c)->h+x.length<=(if 0<k then w else 8)->walk (.lin w h k::r) (x++t) j=walk (.lin w (h+x.length) k::r) t (j+x.length)
 |[],h,t,j,_,_=>rfl
 |c::x,h,t,j,hs,hl=>by
  rw[EQ] at hl ⊢
  have h1:step (.lin w h k::r) c=some (.lin w (h+1) k::r):=by
   rw[dM]
   unfold cN
   rw[if_pos (Bc (hs c ET)),if_pos (by lia)]
  rw[Fz,aF h1,eV x (h+1) t (j+1) (λc q=>hs c (ES _ q)) (by lia)]
  rw[show h+1+x.length=h+(x.length+1) by lia,show j+1+x.length=j+(x.length+1) by lia]
theorem sT{wd:Nat}(hw:1<=wd/\wd<=8){r:List Wt}:∀ (L:List (List Nat)) (w0 k:Nat) (t:List Nat) (j:Nat),L≠[]->(∀ x∈L,x.length=wd/\∀ c∈x,aH c)->k+L.length<=8->(0<k->w0=wd)->walk (.lin w0 0 k::r) (rowsL L++59::t) j=walk r t (j+(rowsL L).length+1)
 |[],_,_,_,_,ne,_,_,_=>absurd rfl ne
 |[x],w0,k,t,j,_,hs,hl,hk=>by
  obtain⟨h1,h2⟩:=hs x ET
  have hb:0+x.length<=(if 0<k then w0 else 8):=by split<;>lia
  have ns:isSg 59=false:=rfl
  have h3:step (.lin w0 (0+x.length) k::r) 59=some r:=by
   rw[dM]
   unfold cN
   rw[ns,if_neg E2,if_neg (by lia),if_neg (by decide),if_pos rfl]
  show walk (.lin w0 0 k::r) (x++59::t) j=walk r t (j+x.length+1)
  rw[eV x 0 _ j h2 hb,aF h3]
 |x::y::L,w0,k,t,j,_,hs,hl,hk=>by
  obtain⟨h1,h2⟩:=hs x ET
  rw[EQ,EQ] at hl
  have hb:0+x.length<=(if 0<k then w0 else 8):=by split<;>lia
  have ns:isSg 47=false:=rfl
  have h3:step (.lin w0 (0+x.length) k::r) 47=some (.lin (0+x.length) 0 (k+1)::r):=by
   rw[dM]
   unfold cN
   rw[ns,if_neg E2,if_neg (by lia),if_pos rfl,if_pos (by lia)]
  show walk (.lin w0 0 k::r) ((x++47::rowsL (y::L))++59::t) j=walk r t (j+(x++47::rowsL (y::L)).length+1)
  rw[Fw,Fz,eV x 0 _ j h2 hb,aF h3,sT hw (y::L) (0+x.length) (k+1) t _ (λz=>nomatch z) (λz q=>hs z (ES _ q)) (by rw[EQ];lia) (λ_=>by lia)]
  rw[EW,EQ]
  congr 1
  lia
def motL(L:List (List Nat))(a b c d:Int):List Nat:=91::(rowsL L++59::(numL a++44::(numL b++59::(numL c++44::(numL d++[93])))))
def Pat.tl:Pat->List Nat
 | .mot L a b c d=>motL (L.map cs) a b c d
 | .over p q=>40::(p.tl++124::(q.tl++[41]))
 | .sh a b p=>115::(numL a++44::(numL b++58::p.tl))
 | .mir p=>109::p.tl
 | .tur p=>116::p.tl
 | .hue f g p=>104::(numL f++(numL g++p.tl))
theorem sU:∀ L:List Str,cs (Str.join "/" L)=rowsL (L.map cs)
 |[]=>rfl
 |[x]=>rfl
 |x::y::L=>by
  show cs (x++"/"++Str.join "/" (y::L))=cs x++47::rowsL ((y::L).map cs)
  rw[bC,bC,sU (y::L),Fw]
  rfl
theorem cZ:∀ p:Pat,cs p.text=p.tl
 | .mot L a b c d=>by
  show cs (cM L a b c d)=motL (L.map cs) a b c d
  unfold cM motL
  have e:Txt.join "/" L=Str.join "/" L:=StrLaws.glued_eq_join _ _
  rw[e]
  repeat rw[bC]
  rw[sU]
  simp only[Fw]
  rfl
 | .over p q=>by
  rw[Pat.text,Pat.tl]
  repeat rw[bC]
  rw[cZ p,cZ q]
  simp only[Fw]
  rfl
 | .sh a b p=>by
  rw[Pat.text,Pat.tl]
  repeat rw[bC]
  rw[cZ p]
  simp only[Fw]
  rfl
 | .mir p=>by
  rw[Pat.text,Pat.tl,bC,cZ p]
  rfl
 | .tur p=>by
  rw[Pat.text,Pat.tl,bC,cZ p]
  rfl
 | .hue f g p=>by
  rw[Pat.text,Pat.tl]
  repeat rw[bC]
  rw[cZ p]
  simp only[Fw]
  rfl
theorem hueL{f:Int}(h:1<=f/\f<=6):numL f=[(48+f).toNat]:=by
 have key:∀ k:Fin 6,numL (((k.val:Nat):Int)+1)=[49+k.val]:=by decide+kernel
 have:=key ⟨(f - 1).toNat,by lia⟩
 have e:(((f - 1).toNat:Nat):Int)+1=f:=by lia
 rw[e] at this
 rw[this]
 congr 1
 show 49+(f - 1).toNat=(48+f).toNat
 lia
theorem bQ{d c:Nat}{r:List Wt}:step (.pat d::r) c=bP d c r:=by simp[step,aI,aK]
theorem sV{f:Int}(h:1<=f/\f<=6)(r:List Wt)(t:List Nat)(k:Nat):walk (.hue::r) (numL f++t) k=walk r t (k+1):=by
 rw[hueL h]
 show walk (.hue::r) ((48+f).toNat::t) k=_
 exact aF (by simp[step,aI,aK];lia)
theorem Bd{L:List Str}{a b c d:Int}(hL:Rows L)(ha:B12 a)(hb:B12 b)(hc:B12 c)(hd:B12 d)(n:Nat)(r:List Wt)(t:List Nat)(k:Nat):walk (.pat n::r) (motL (L.map cs) a b c d++t) k=walk r t (k+(motL (L.map cs) a b c d).length):=by
 obtain⟨h1,w,hw,hs⟩:=hL
 have Ja:∀ x∈L.map cs,x.length=w/\∀ c∈x,aH c:=λx hx=>by
  obtain⟨l,q1,q2⟩:=Fh.mp hx
  subst q2
  exact⟨by rw[bL];exact(hs l q1).1,(hs l q1).2⟩
 have i9:L.map cs≠[]:=λz=>by have:=congrArg Gc z;simp at this;subst this;simp at h1
 unfold motL
 simp only[Fz,Fw,HK]
 have d5:∀ k,walk (.sign 93::r) (93::t) k=walk r t (k+1):=λk=>aF (by simp[step,aI,aK])
 rw[aF (st':=motW r) (by rw[bQ];simp[bP])]
 unfold motW
 rw[sT hw (L.map cs) 0 0 _ _ i9 Ja (by rw[EU];lia) (λz=>absurd z (by lia))]
 rw[eU (numL_is ha) (.inl rfl),eU (numL_is hb) (.inr (.inl rfl)),eU (numL_is hc) (.inl rfl),eU (numL_is hd) (.inr (.inr (.inr rfl)))]
 congr 1
 simp only[EQ,EW,Gf]
 lia
theorem cF:∀ {p:Pat},p.Syn->∀ (d:Nat) (r:List Wt) (t:List Nat) (k:Nat),p.depth+d<=5->walk (.pat d::r) (p.tl++t) k=walk r t (k+p.tl.length)
 | .mot L a b c e,h,d,r,t,k,_=>Bd h.1 h.2.1 h.2.2.1 h.2.2.2.1 h.2.2.2.2 d r t k
 | .over p q,h,d,r,t,k,hd=>by
  rw[Pat.depth] at hd
  have h1:step (.pat d::r) 40=some (.pat (d+1):: .sign 124:: .pat (d+1):: .sign 41::r):=by rw[bQ];simp[bP,show¬ d=5 by lia]
  rw[Pat.tl]
  simp only[Fz,Fw,HK]
  rw[aF h1,cF h.1 (d+1) _ _ _ (by lia),aF (st':= .pat (d+1):: .sign 41::r) (by simp[step,aI,aK]),cF h.2 (d+1) _ _ _ (by lia),aF (st':=r) (by simp[step,aI,aK])]
  congr 1
  simp only[EQ,EW,Gf]
  lia
 | .sh a b p,h,d,r,t,k,hd=>by
  rw[Pat.depth] at hd
  have h1:step (.pat d::r) 115=some (.num:: .sign 44:: .num:: .sign 58:: .pat (d+1)::r):=by rw[bQ];simp[bP,show¬ d=5 by lia]
  rw[Pat.tl]
  simp only[Fz,Fw]
  rw[aF h1,eU (numL_is h.1) (.inl rfl),eU (numL_is h.2.1) (.inr (.inr (.inl rfl))),cF h.2.2 (d+1) _ _ _ (by lia)]
  congr 1
  simp only[EQ,EW]
  lia
 | .mir p,h,d,r,t,k,hd=>by
  rw[Pat.depth] at hd
  have h1:step (.pat d::r) 109=some (.pat (d+1)::r):=by rw[bQ];simp[bP,show¬ d=5 by lia]
  rw[Pat.tl,Fz,aF h1,cF (p:=p) h (d+1) _ _ _ (by lia),EQ]
  congr 1
  lia
 | .tur p,h,d,r,t,k,hd=>by
  rw[Pat.depth] at hd
  have h1:step (.pat d::r) 116=some (.pat (d+1)::r):=by rw[bQ];simp[bP,show¬ d=5 by lia]
  rw[Pat.tl,Fz,aF h1,cF (p:=p) h (d+1) _ _ _ (by lia),EQ]
  congr 1
  lia
 | .hue f g p,h,d,r,t,k,hd=>by
  rw[Pat.depth] at hd
  have h1:step (.pat d::r) 104=some (.hue:: .hue:: .pat (d+1)::r):=by rw[bQ];simp[bP,show¬ d=5 by lia]
  rw[Pat.tl]
  simp only[Fz,Fw]
  rw[aF h1,sV h.1,sV h.2.1,cF h.2.2 (d+1) _ _ _ (by lia)]
  rw[hueL h.1,hueL h.2.1]
  congr 1
  simp only[EQ,EW,Gf]
  lia
theorem sW{p:Pat}(h:p.Syn)(hd:p.depth<=5):cY p.text=none:=by
 unfold cY
 rw[cZ]
 have:=cF h 0 [] [] 0 (by lia)
 rw[Fx] at this
 rw[this]
 rfl
theorem fO{x y:Str}(h:cs x=cs y):x=y:=by
 obtain⟨a⟩:=x
 obtain⟨b⟩:=y
 have:a=b:=HL.mp h
 rw[this]
def Pat.lineAt:Pat->Nat->Option Nat
 | .mot _ a b c d,k=>if a*d=b*c then some k else none
 | .over p q,k=>match p.lineAt (k+1) with
  |some j=>some j
  |none=>q.lineAt (k+1+p.tl.length+1)
 | .sh a b p,k=>p.lineAt (k+1+(numL a).length+1+(numL b).length+1)
 | .mir p,k=>p.lineAt (k+1)
 | .tur p,k=>p.lineAt (k+1)
 | .hue _ _ p,k=>p.lineAt (k+3)
theorem Pat.line_wf:∀ {p:Pat} (k:Nat),p.Syn->p.lineAt k=none->p.Wf
 | .mot L a b c d,k,h,e=>by
  refine⟨h.1,h.2.1,h.2.2.1,h.2.2.2.1,h.2.2.2.2,λz=>?_⟩
  rw[Pat.lineAt,if_pos z] at e;cases e
 | .over p q,k,h,e=>by
  rw[Pat.lineAt] at e
  cases hp:p.lineAt (k+1) with
  |some j=>rw[hp] at e;cases e
  |none=>rw[hp] at e;exact⟨Pat.line_wf _ h.1 hp,Pat.line_wf _ h.2 e⟩
 | .sh a b p,k,h,e=>⟨h.1,h.2.1,Pat.line_wf _ h.2.2 (by rw[Pat.lineAt] at e;exact e)⟩
 | .mir p,k,h,e=>Pat.line_wf (p:=p) (k+1) h (by rw[Pat.lineAt] at e;exact e)
 | .tur p,k,h,e=>Pat.line_wf (p:=p) (k+1) h (by rw[Pat.lineAt] at e;exact e)
 | .hue f g p,k,h,e=>⟨h.1,h.2.1,Pat.line_wf _ h.2.2 (by rw[Pat.lineAt] at e;exact e)⟩
theorem Pat.wf_line:∀ {p:Pat} (k:Nat),p.Wf->p.lineAt k=none
 | .mot L a b c d,k,h=>by rw[Pat.lineAt,if_neg h.2.2.2.2.2]
 | .over p q,k,h=>by
  rw[Pat.lineAt,Pat.wf_line (p:=p) _ h.1]
  exact Pat.wf_line (p:=q) _ h.2
 | .sh a b p,k,h=>by rw[Pat.lineAt];exact Pat.wf_line (p:=p) _ h.2.2
 | .mir p,k,h=>by rw[Pat.lineAt];exact Pat.wf_line (p:=p) _ h
 | .tur p,k,h=>by rw[Pat.lineAt];exact Pat.wf_line (p:=p) _ h
 | .hue f g p,k,h=>by rw[Pat.lineAt];exact Pat.wf_line (p:=p) _ h.2.2
theorem Pat.syn_len:∀ {p:Pat},p.Syn->p.text.length+10<=110*2 ^ p.depth
 | .mot L a b c d,h=>by
  have:=sR h.1 h.2.1 h.2.2.1 h.2.2.2.1 h.2.2.2.2
  show(cM L a b c d).length+10<=110*2 ^ 0
  lia
 | .over p q,h=>by
  have h1:=Pat.syn_len h.1
  have h2:=Pat.syn_len h.2
  have m1:2 ^ p.depth<=2 ^ (max p.depth q.depth):=FE (by decide) (G4 _ _)
  have m2:2 ^ q.depth<=2 ^ (max p.depth q.depth):=FE (by decide) (G5 _ _)
  have l1:("(":Str).length=1:=rfl
  have l2:("|":Str).length=1:=rfl
  have l3:(")":Str).length=1:=rfl
  rw[Pat.text,Pat.depth,G6]
  repeat rw[aC]
  lia
 | .sh a b p,h=>by
  have h1:=Pat.syn_len h.2.2
  have la:=bw h.1
  have lb:=bw h.2.1
  have l1:("s":Str).length=1:=rfl
  have l2:(",":Str).length=1:=rfl
  have l3:(":":Str).length=1:=rfl
  have:0<2 ^ p.depth:=FN (by decide)
  rw[Pat.text,Pat.depth,Fq]
  repeat rw[aC]
  lia
 | .mir p,h=>by
  have h1:=Pat.syn_len (p:=p) h
  have l1:("m":Str).length=1:=rfl
  have:0<2 ^ p.depth:=FN (by decide)
  rw[Pat.text,Pat.depth,Fq,aC]
  lia
 | .tur p,h=>by
  have h1:=Pat.syn_len (p:=p) h
  have l1:("t":Str).length=1:=rfl
  have:0<2 ^ p.depth:=FN (by decide)
  rw[Pat.text,Pat.depth,Fq,aC]
  lia
 | .hue f g p,h=>by
  have h1:=Pat.syn_len h.2.2
  have la:=cV h.1
  have lb:=cV h.2.1
  have l1:("h":Str).length=1:=rfl
  have:0<2 ^ p.depth:=FN (by decide)
  rw[Pat.text,Pat.depth,Fq]
  repeat rw[aC]
  lia
theorem Pat.syn_short{p:Pat}(h:p.Syn)(hd:p.depth<=5):p.text.length<=3510:=by
 have h1:=Pat.syn_len h
 have h2:2 ^ p.depth<=2 ^ 5:=FE (by decide) hd
 lia
theorem ifT{c A B:Prop}[Decidable c](h:c)(a:A):if c then A else B:=by rw[if_pos h];exact a
theorem ifdT{p A B:Prop}[Decidable p](h:p)(a:A):if decide p=true then A else B:=by rw[if_pos (decide_eq_true h)];exact a
theorem ifdF{p A B:Prop}[Decidable p](h:¬ p)(b:B):if decide p=true then A else B:=by rw[if_neg (by simpa using h)];exact b
def rdF(t:Str)(k:Nat):List (Str × D):=[("text",.str t),("place",.int k)]
def RdM(a:Addr)(t:Str)(k:Nat):MS:=[(a,.ins "Reading" (rdF t k))]
theorem cG{a:Addr}{o:MO}:mget [(a,o)] a=some o:=by unfold mget;rw[if_pos rfl]
theorem eX{a:Addr}{o o':MO}:mput [(a,o)] a o'=[(a,o')]:=by unfold mput;rw[if_pos rfl]
theorem aN{a:Addr}{t:Str}{k:Nat}:mget (RdM a t k) a=some (.ins "Reading" (rdF t k)):=cG
theorem ki{t:Str}{k:Nat}:(rdF t k).lookup ("text":Str)=some (.str t):=rfl
theorem db{t:Str}{k:Nat}:(rdF t k).lookup ("place":Str)=some (.int k):=by
 unfold rdF
 rw[E8,show(("place":Str)==("text":Str))=false by decide+kernel]
 rfl
theorem Be{t:Str}{k:Nat}:putD ("place":Str) (.int ((k:Int)+1)) (rdF t k)=rdF t (k+1):=by
 unfold rdF putD
 rw[if_neg (by decide+kernel)]
 unfold putD
 rw[if_pos rfl]
 rfl
theorem cO{t:Str}{k:Nat}:(rdF t k).lookup ("may_take":Str)=none:=by
 unfold rdF
 rw[E8,show(("may_take":Str)==("text":Str))=false by decide+kernel,E8,show(("may_take":Str)==("place":Str))=false by decide+kernel]
 rfl
theorem cb{t:Str}{k:Nat}:(rdF t k).lookup ("take":Str)=none:=by
 unfold rdF
 rw[E8,show(("take":Str)==("text":Str))=false by decide+kernel,E8,show(("take":Str)==("place":Str))=false by decide+kernel]
 rfl
structure At(t:Str)(k:Nat)(l:List Nat):Prop where
 eq:(cs t).drop k=l
 le:k<=t.length
 sz:t.length<=100000
theorem At.nil{t:Str}{k:Nat}(h:At t k []):k=t.length:=by
 have h1:=congrArg Gc h.eq
 rw[Gd,bL] at h1
 have:=h.le
 simp at h1
 lia
theorem At.lt{t:Str}{k c:Nat}{l:List Nat}(h:At t k (c::l)):k<t.length:=by
 have h1:=congrArg Gc h.eq
 rw[Gd,bL] at h1
 simp at h1
 lia
theorem At.get{t:Str}{k c:Nat}{l:List Nat}(h:At t k (c::l)):(cs t)[k]?=some c:=by
 have h1:=congrArg (·[0]?) h.eq
 simpa using h1
theorem At.next{t:Str}{k c:Nat}{l:List Nat}(h:At t k (c::l)):At t (k+1) l:=by
 refine⟨?_,h.lt,h.sz⟩
 have h1:=congrArg (GY 1) h.eq
 rw[List.drop_drop] at h1
 simpa using h1
theorem At.app{t:Str}:∀ {x l:List Nat} {k:Nat},At t k (x++l)->At t (k+x.length) l
 |[],_,_,h=>h
 |c::x,l,k,h=>by
  have h1:At t (k+1+x.length) l:=At.app (At.next h)
  have e:k+1+x.length=k+(c::x).length:=by rw[EQ];lia
  rw[e] at h1;exact h1
theorem sX{c:Nat}{al:Str}:(!(!(Builtin.Str.occurrences al ⟨#[c]⟩ 0 al.length 1).isEmpty))=!decide (c∈cs al):=by
 rw[StrLaws.found_one]
def mayS(al:Str):List Nat->Str|c::_=>if c∈cs al then⟨#[c]⟩ else ""|[]=>""
def mayN(al:Str):List Nat->Nat|c::_=>if c∈cs al then 1 else 0|[]=>0
theorem dN{al:Str}{c:Nat}{l:List Nat}(h:c∈cs al):mayS al (c::l)=⟨#[c]⟩:=if_pos h
theorem dO{al:Str}{c:Nat}{l:List Nat}(h:c∈cs al):mayN al (c::l)=1:=if_pos h
theorem de{al:Str}{c:Nat}{l:List Nat}(h:c ∉ cs al):mayS al (c::l)="":=if_neg h
theorem df{al:Str}{c:Nat}{l:List Nat}(h:c ∉ cs al):mayN al (c::l)=0:=if_neg h
def Bf:SiD:=λds R=>∃ t:Str,ds=[.str t]/\R (rdF t 0)
def Bg:SpM:=λds M R RX=>∃ (a:Addr) (t:Str) (k:Nat) (l:List Nat) (al:Str),ds=[.ptr a,.str al]/\M=RdM a t k/\At t k l/\R (.str (mayS al l)) (RdM a t (k+mayN al l))
def Bh:SpM:=λds M R RX=>∃ (a:Addr) (t:Str) (k:Nat) (l:List Nat) (al:Str),ds=[.ptr a,.str al]/\M=RdM a t k/\At t k l/\
 (∀ c l',l=c::l'->c∈cs al->R (.str ⟨#[c]⟩) (RdM a t (k+1)))/\((∀ c l',l=c::l'->c ∉ cs al)->∀ M',RX "WrongSign" [("place",.int k)] M')
theorem walk_bad{st:List Wt}{l:List Nat}{k:Nat}(h1:st≠[])(h:∀ c l',l=c::l'->step st c=none):walk st l k=some k:=by
 cases l with
 |nil=>rw[walk,if_neg h1]
 |cons c l=>rw[walk,h c l rfl]
theorem dP{e:Nat}{r:List Wt}{l:List Nat}{k:Nat}(h:∀ l',l≠e::l'):walk (.sign e::r) l k=some k:=
 walk_bad (λz=>nomatch z) λc l' q=>by
  have:c≠e:=λz=>h l' (z ▸ q)
  simp[step,aI,aK,this]
theorem dQ{e:Nat}{r:List Wt}{l:List Nat}{k:Nat}:walk (.sign e::r) (e::l) k=walk r l (k+1):=aF (by simp[step,aI,aK])
theorem Bi{e:Nat}{r:List Wt}{l:List Nat}{k:Nat}(h:∀ d l',l=d::l'->¬ (48<=d/\d<=50)):walk (.more:: .sign e::r) l k=walk (.sign e::r) l k:=by
 cases l with
 |nil=>simp[walk]
 |cons d l=>
  have:step (.more:: .sign e::r) d=step (.sign e::r) d:=by simp[step,aI,h d l rfl]
  rw[walk,walk,this]
theorem Bj{pre:List Nat}(hp:pre=[]\/pre=[45]){c:Nat}(hc:49<=c/\c<=57){x l3 l:List Nat}(hx:(c=49/\∃ d,(48<=d/\d<=50)/\x=[d])\/(x=[]/\(c=49->∀ d l',l3=d::l'->¬ (48<=d/\d<=50))))(k e:Nat)(r:List Wt)(hl:l=pre++c::(x++l3)):
  walk (.num:: .sign e::r) l k=walk (.sign e::r) l3 (k+(pre++c::x).length):=by
 subst hl
 have fig:∀ k,walk (.fig:: .sign e::r) (c::(x++l3)) k=walk (.sign e::r) l3 (k+(c::x).length):=λk=>by
  rcases hx with⟨rfl,d,hd,rfl⟩|⟨rfl,h⟩
  ·rw[aF (st':= .more:: .sign e::r) (by simp[step,aI,aK])]
   show walk _ (d::l3) _=_
   rw[aF (st':= .sign e::r) (by simp[step,aI,aK,hd])]
   rfl
  ·by_cases e1:c=49
   ·subst e1
    rw[aF (st':= .more:: .sign e::r) (by simp[step,aI,aK])]
    show walk _ l3 _=_
    rw[Bi (h rfl)];rfl
   ·rw[aF (st':= .sign e::r) (by simp[step,aI,aK,e1,show 50<=c/\c<=57 by lia])];rfl
 rcases hp with rfl|rfl
 ·have same:step (.num:: .sign e::r) c=step (.fig:: .sign e::r) c:=by
   by_cases e1:c=49
   ·subst e1;simp[step,aI,aK]
   ·simp[step,aI,aK,e1,show¬ c=45 by lia,show 48<=c/\c<=57 by lia,show 50<=c/\c<=57 by lia]
  have:=fig k
  rw[walk] at this
  show walk _ (c::(x++l3)) k=_
  rw[walk,same,this]
  simp
 ·show walk _ (45::c::(x++l3)) k=_
  rw[aF (st':= .fig:: .sign e::r) (by simp[step,aI,aK]),fig]
  congr 1
  simp only[EW,EQ,Gf]
  lia
theorem Bk{pre:List Nat}(hp:pre=[]\/pre=[45]){l l1:List Nat}(hl:l=pre++l1)(h:∀ c l',l1=c::l'->¬ (49<=c/\c<=57))(h0:pre=[]->∀ c l',l1=c::l'->c≠48/\c≠45)(k:Nat)(r:List Wt):walk (.num::r) l k=some (k+pre.length):=by
 subst hl
 rcases hp with rfl|rfl
 ·refine walk_bad (λz=>nomatch z) λc l' q=>?_
  have h1:=h c l' q
  have h2:=h0 rfl c l' q
  simp[step,aI,aK,h2.2,show¬ c=49 by lia,show¬ (48<=c/\c<=57) by lia]
 ·show walk _ (45::l1) k=_
  rw[aF (st':= .fig::r) (by simp[step,aI,aK])]
  refine walk_bad (λz=>nomatch z) λc l' q=>?_
  have h1:=h c l' q
  simp[step,aI,aK,show¬ c=49 by lia,show¬ (50<=c/\c<=57) by lia]
theorem kj{x:Int}(h:B12 x):PySem.intText? ⟨(numL x).toArray⟩=some x:=
 sS (P:=λx=>PySem.intText? ⟨(numL x).toArray⟩=some x) h (by decide+kernel)
theorem eY(x y:List Nat):((⟨x.toArray⟩:Str)++⟨y.toArray⟩:Str)=⟨(x++y).toArray⟩:=by
 apply fO
 rw[bC]
theorem digits19{c:Nat}:c∈cs "123456789"↔49<=c/\c<=57:=by
 have e:cs "123456789"=[49,50,51,52,53,54,55,56,57]:=rfl
 rw[e];simp;lia
theorem digits02{c:Nat}:c∈cs "012"↔48<=c/\c<=50:=by
 have e:cs "012"=[48,49,50]:=rfl
 rw[e];simp;lia
theorem Bl(w:List Nat)(c:Nat):Txt.endswith ⟨(w++[c]).toArray⟩ "1"=decide (c=49):=by
 unfold Txt.endswith
 have e1:("1":Str).length=1:=rfl
 have e2:(⟨(w++[c]).toArray⟩:Str).length=w.length+1:=by simp[Str.length]
 rw[e1,e2]
 have e3:decide (0+1<=w.length+1)=true:=by simp
 rw[e3,Bool.true_and,HJ]
 unfold Builtin.Str.subAt
 have e4:(⟨(w++[c]).toArray⟩:Str).cps.extract w.length (w.length+("1":Str).length)=#[c]:=by
  apply HL.mp
  simp[Array.toList_extract,e1]
 rw[e4]
 have e5:("1":Str).cps=#[49]:=rfl
 rw[e5]
 by_cases h:c=49
 ·subst h;rfl
 ·simp[h]
def Bm:SpM:=λds M R RX=>∃ (a:Addr) (t:Str) (k:Nat) (l:List Nat),ds=[.ptr a]/\M=RdM a t k/\At t k l/\
 (∀ x l',B12 x->l=numL x++l'->(∀ e r,walk (.num:: .sign e::r) l k=walk (.sign e::r) l' (k+(numL x).length))->R (.int x) (RdM a t (k+(numL x).length)))/\
 (∀ j:Nat,(∀ r,walk (.num::r) l k=some j)->∀ M',RX "WrongSign" [("place",.int j)] M')
def Bn:SpM:=λds M R RX=>∃ (a:Addr) (t:Str) (k:Nat) (l:List Nat),ds=[.ptr a]/\M=RdM a t k/\At t k l/\
 (∀ x y l',B12 x->B12 y->l=numL x++44::(numL y++l')->(∀ e r,walk (.num:: .sign 44:: .num:: .sign e::r) l k=walk (.sign e::r) l' (k+(numL x).length+1+(numL y).length))->R (.tup [.int x,.int y]) (RdM a t (k+(numL x).length+1+(numL y).length)))/\
 (∀ j:Nat,(∀ r,walk (.num:: .sign 44:: .num::r) l k=some j)->∀ M',RX "WrongSign" [("place",.int j)] M')
def sgPre:Nat->List Nat->List Nat
 |0,_=>[]
 |_+1,[]=>[]
 |n+1,c::l=>if isSg c=true then c::sgPre n l else[]
theorem eZ(n c:Nat)(l:List Nat):sgPre (n+1) (c::l)=if isSg c=true then c::sgPre n l else[]:=rfl
theorem sgPre_succ:∀ (n:Nat) (l:List Nat),(∃ c l',l=sgPre n l++c::l'/\(sgPre n l).length=n/\isSg c=true/\sgPre (n+1) l=sgPre n l++[c])\/(∃ l',l=sgPre n l++l'/\(∀ c L_,l'=c::L_->isSg c=false)/\∀ m,n<=m->sgPre m l=sgPre n l)
 |0,[]=> .inr ⟨[],rfl,(λ_ _ q=>nomatch q),λm _=>by cases m<;>rfl⟩
 |0,c::l=>by
  by_cases h:isSg c=true
  ·exact .inl ⟨c,l,rfl,rfl,h,by rw[eZ,if_pos h];rfl⟩
  ·refine .inr ⟨c::l,rfl,λ_ _ q=>?_,λm _=>?_⟩
   ·cases q;simpa using h
   ·cases m with
    |zero=>rfl
    |succ m=>rw[eZ,if_neg h];rfl
 |n+1,[]=> .inr ⟨[],rfl,(λ_ _ q=>nomatch q),λm _=>by cases m<;>rfl⟩
 |n+1,c::l=>by
  by_cases h:isSg c=true
  ·have e:∀ m,sgPre (m+1) (c::l)=c::sgPre m l:=λm=>by rw[eZ,if_pos h]
   rcases sgPre_succ n l with⟨d,l',h1,h2,h3,h4⟩|⟨l',h1,h2,h3⟩
   ·refine .inl ⟨d,l',?_,by rw[e,EQ,h2],h3,by rw[e,e,h4];rfl⟩
    rw[e];exact congrArg (c::·) h1
   ·refine .inr ⟨l',?_,h2,λm hm=>?_⟩
    ·rw[e];exact congrArg (c::·) h1
    ·cases m with
     |zero=>lia
     |succ m=>rw[e,e,h3 m (by lia)]
  ·refine .inr ⟨c::l,?_,λ_ _ q=>?_,λm hm=>?_⟩
   ·rw[eZ,if_neg h];rfl
   ·cases q;simpa using h
   ·cases m with
    |zero=>lia
    |succ m=>rw[eZ,if_neg h,eZ,if_neg h]
theorem gT:∀ (n:Nat) (l:List Nat),(sgPre n l).length<=n
 |0,_=>EL _
 |n+1,[]=>Fj _
 |n+1,c::l=>by
  rw[sgPre]
  split
  ·rw[EQ];exact Nat.succ_le_succ (gT n l)
  ·exact Fj _
theorem sgPre_sign:∀ (n:Nat) (l:List Nat),∀ c∈sgPre n l,aH c
 |0,_,_,h=>by cases h
 |n+1,[],_,h=>by cases h
 |n+1,c::l,d,h=>by
  rw[sgPre] at h
  split at h
  ·rename_i q
   rcases EO.mp h with e|e
   ·rw[e];exact isSign_of q
   ·exact sgPre_sign n l d e
  ·cases h
theorem sgPre_split(n:Nat)(l:List Nat):∃ l',l=sgPre n l++l'/\((sgPre n l).length=n\/∀ c L_,l'=c::L_->isSg c=false):=by
 rcases sgPre_succ n l with⟨d,l',h1,h2,h3,h4⟩|⟨l',h1,h2,h3⟩
 ·exact⟨d::l',h1,.inl h2⟩
 ·exact⟨l',h1,.inr h2⟩
theorem signs_is{c:Nat}:c∈cs ".123456"↔isSg c=true:=by
 have e:cs ".123456"=[46,49,50,51,52,53,54]:=rfl
 rw[e]
 simp
 lia
theorem dR(x:List Nat):(⟨x.toArray⟩:Str).length=x.length:=by simp[Str.length]
def Bo:SpM:=λds M R RX=>∃ (a:Addr) (t:Str) (k:Nat) (l:List Nat) (n m:Nat),ds=[.ptr a,.int n,.int m]/\M=RdM a t k/\At t k l/\n<=m/\m<=8/\
 (n<=(sgPre m l).length->R (.str ⟨(sgPre m l).toArray⟩) (RdM a t (k+(sgPre m l).length)))/\((sgPre m l).length<n->∀ M',RX "WrongSign" [("place",.int ((k+(sgPre m l).length:Nat):Int))] M')
theorem Bp{p a:Addr}{o:MO}{t:Str}{k:Nat}(h:p≠a):mget ((p,o)::RdM a t k) a=some (.ins "Reading" (rdF t k)):=by
 unfold mget
 rw[if_neg h]
 exact cG
theorem cP{p:Addr}{o:MO}{M:MS}:mget ((p,o)::M) p=some o:=by unfold mget;rw[if_pos rfl]
theorem sY{p:Addr}{o o':MO}{M:MS}:mput ((p,o)::M) p o'=(p,o')::M:=by unfold mput;rw[if_pos rfl]
theorem km{p:Addr}{o:MO}{M:MS}:mdel ((p,o)::M) p=M:=by unfold mdel;rw[if_pos rfl]
structure RowsL(L:List (List Nat))(w:Nat):Prop where
 many:1<=L.length/\L.length<=8
 w1:1<=w
 w8:w<=8
 each:∀ x∈L,x.length=w/\∀ c∈x,aH c
theorem gU:∀ (L:List (List Nat)) (x:List Nat),L≠[]->rowsL (L++[x])=rowsL L++47::x
 |[],_,h=>absurd rfl h
 |[y],x,_=>rfl
 |y::z::L,x,_=>by
  show y++47::rowsL ((z::L)++[x])=(y++47::rowsL (z::L))++47::x
  rw[gU (z::L) x (λq=>nomatch q)]
  simp
structure LinAt(w h n:Nat)(l:List Nat):Prop where
 h1:1<=h
 n1:1<=n
 one:n=1->h=8\/∀ c l',l=c::l'->isSg c=false
 more:2<=n->w=h
theorem Bq{w h n:Nat}{l:List Nat}(H:LinAt w h n l)(hn:n<=8)(stop:n=8\/∀ l',l≠47::l')(r:List Wt)(p:Nat):walk (.lin w h (n - 1)::r) l p=walk (.sign 59::r) l p:=by
 cases l with
 |nil=>simp[walk]
 |cons c l=>
  have key:step (.lin w h (n - 1)::r) c=step (.sign 59::r) c:=by
   rw[dM]
   unfold cN
   have Pg:step (.sign 59::r) c=if c=59 then some r else none:=by simp[step,aI,aK]
   rw[Pg]
   have h1:=H.h1
   by_cases hs:isSg c=true
   ·rw[if_pos hs]
    have nc:¬ c=59:=by rintro rfl;cases hs
    rw[if_neg nc]
    refine if_neg ?_
    by_cases n1:n=1
    ·rcases H.one n1 with e|e
     ·subst n1;simp;lia
     ·rw[e c l rfl] at hs;cases hs
    ·have NP:=H.n1
     have:=H.more (by lia)
     rw[if_pos (by lia)];lia
   ·rw[if_neg hs]
    have g:¬ (h=0\/(0<n - 1/\h<w)):=by
     have NP:=H.n1
     rintro(z|⟨z1,z2⟩)
     ·lia
     ·have:=H.more (by lia);lia
    rw[if_neg g]
    by_cases NQ:c=47
    ·subst NQ
     rw[if_pos rfl,if_neg (c:=47=59) (by decide)]
     refine if_neg ?_
     rcases stop with e|e
     ·lia
     ·exact absurd rfl (e l)
    ·rw[if_neg NQ]
  rw[walk,walk,key]
theorem sZ{w h n:Nat}{l:List Nat}(H:LinAt w h n (47::l))(hn:n<8)(r:List Wt)(p:Nat):walk (.lin w h (n - 1)::r) (47::l) p=walk (.lin h 0 n::r) l (p+1):=by
 refine aF ?_
 rw[dM]
 unfold cN
 have h1:=H.h1
 have NP:=H.n1
 have ns:isSg 47=false:=rfl
 rw[ns,if_neg E2,if_neg (by
  rintro(z|⟨z1,z2⟩)
  ·lia
  ·have:=H.more (by lia);lia),if_pos rfl,if_pos (by lia)]
 congr 3
 lia
theorem tf{w n:Nat}{x l:List Nat}(hs:∀ c∈x,aH c)(hx:x.length<w)(hw:w<=8)(hn:n=0->x=[])(hl:∀ c l',l=c::l'->isSg c=false)(r:List Wt)(p:Nat):walk (.lin w 0 n::r) (x++l) p=some (p+x.length):=by
 rw[eV x 0 l p hs (by split<;>lia)]
 refine walk_bad (λz=>nomatch z) λc l' q=>?_
 rw[dM]
 unfold cN
 rw[hl c l' q,if_neg E2]
 refine if_pos ?_
 by_cases n0:n=0
 ·left;rw[hn n0];rfl
 ·right;exact⟨by lia,by lia⟩
def lstD(L:List (List Nat)):List D:=L.map λx=>D.str ⟨x.toArray⟩
def Br:SpM:=λds M R RX=>∃ (a:Addr) (t:Str) (k:Nat) (l:List Nat),ds=[.ptr a]/\M=RdM a t k/\At t k l/\
 (∀ (L:List (List Nat)) (w:Nat) l',RowsL L w->l=rowsL L++l'->(∀ r,walk (.lin 0 0 0::r) l k=walk (.sign 59::r) l' (k+(rowsL L).length))->R (.lst (lstD L)) (RdM a t (k+(rowsL L).length)))/\
 (∀ j:Nat,(∀ r,walk (.lin 0 0 0::r) l k=some j)->∀ M',RX "WrongSign" [("place",.int j)] M')
def hmX(w h s:Int)(i j:Int):Int:=(i - j / h*s) % w
def hRow(w h s:Int)(j:Nat):Nat->List Nat->List ((Int × Int) × Int)->List ((Int × Int) × Int)
 |_,[],kv=>kv
 |i,c::r,kv=>hRow w h s j (i+1) r (if c=46 then kv else sdD kv (hmX w h s i j) ((j:Int) % h) ((c:Int) - 48))
def hAll(w h s:Int):Nat->List (List Nat)->List ((Int × Int) × Int)->List ((Int × Int) × Int)
 |_,[],kv=>kv
 |j,x::r,kv=>hAll w h s (j+1) r (hRow w h s j 0 x kv)
theorem tm(kv:List ((Int × Int) × Int))(x y v:Int):(sdD kv x y v).length<=kv.length+1:=by
 unfold sdD
 split
 ·lia
 ·rw[EW];simp
theorem Bs{c:Nat}(h:49<=c/\c<=54):∃ i rest,Builtin.Str.occurrences ".123456" ⟨#[c]⟩ 0 (".123456":Str).length 1=i::rest/\((i:Nat):Int)=(c:Int) - 48:=by
 rcases(by lia:c=49\/c=50\/c=51\/c=52\/c=53\/c=54) with e|e|e|e|e|e<;>subst e
 ·exact⟨1,[],by decide+kernel,by decide⟩
 ·exact⟨2,[],by decide+kernel,by decide⟩
 ·exact⟨3,[],by decide+kernel,by decide⟩
 ·exact⟨4,[],by decide+kernel,by decide⟩
 ·exact⟨5,[],by decide+kernel,by decide⟩
 ·exact⟨6,[],by decide+kernel,by decide⟩
theorem Bt{x:List Nat}(h:∀ c∈x,aH c):(⟨x.toArray⟩:Str).cps.all (·<128)=true:=by
 rw[<- Hw,FK]
 intro c hc
 have:=h c hc
 unfold aH at this
 simp
 lia
theorem Bu{L:List (List Nat)}{j:Nat}{d:D}(h:(lstD L)[j]?=some d):∃ x,L[j]?=some x/\d= .str ⟨x.toArray⟩:=by
 unfold lstD at h
 rw[E3] at h
 cases e:L[j]? with
 |none=>rw[e] at h;cases h
 |some x=>rw[e] at h;cases h;exact⟨x,rfl,rfl⟩
theorem Bv{x:List Nat}{i:Nat}{d:D}(h:(dI ⟨x.toArray⟩)[i]?=some d):∃ c,x[i]?=some c/\d= .str ⟨#[c]⟩:=by
 unfold dI at h
 rw[E3] at h
 cases e:x[i]? with
 |none=>simp[e] at h
 |some c=>simp[e] at h;exact⟨c,rfl,h.symm⟩
theorem tw{α:Type}{l:List α}{i:Nat}{x:α}(h:l[i]?=some x):l.drop i=x::l.drop (i+1):=by
 have hi:i<l.length:=(E7.mp h).1
 rw[Gn hi]
 congr 1
 rw[Fc hi] at h
 exact Option.some.inj h
def Bw:SpM:=λds M R RX=>∃ (L:List (List Nat)) (wd:Nat) (w h s:Int),ds=[.lst (lstD L),.tup [.int w,.int h,.int s]]/\RowsL L wd/\0<w/\0<h/\h<1073741824/\0<=s/\s<1073741824/\R (.dti (hAll w h s 0 L [])) M
def moF(k:Nat)(sh:D)(hu:List ((Int × Int) × Int)):List (Str × D):=[("place",.int k),("shifts",sh),("hues",.dti hu)]
def By:SiD:=λds R=>∃ (k:Nat) (L:List (List Nat)) (wd:Nat) (a b c d:Int),ds=[.int k,.lst (lstD L),.tup [.int a,.int b],.tup [.int c,.int d]]/\RowsL L wd/\B12 a/\B12 b/\B12 c/\B12 d/\
 (a*d=b*c->R (moF k .non []))/\(¬ a*d=b*c->∀ w h s,FamOf a b c d w h s->R (moF k (.tup [.int w,.int h,.int s]) (hAll w h s 0 L [])))
theorem Bz{v:D}:putD ("place":Str) v []=([("place",v)]:List (Str × D)):=rfl
theorem tz{u v:D}:putD ("shifts":Str) v [("place",u)]=([("place",u),("shifts",v)]:List (Str × D)):=by
 unfold putD
 rw[if_neg (by decide+kernel)]
 rfl
theorem tD{t u v:D}:putD ("hues":Str) v [("place",t),("shifts",u)]=([("place",t),("shifts",u),("hues",v)]:List (Str × D)):=by
 unfold putD
 rw[if_neg (by decide+kernel)]
 unfold putD
 rw[if_neg (by decide+kernel)]
 rfl
theorem ko{u v:D}:([("place",u),("shifts",v)]:List (Str × D)).lookup ("shifts":Str)=some v:=by
 rw[E8,show(("shifts":Str)==("place":Str))=false by decide+kernel]
 rfl
def BA:SiD:=λds R=>∃ (x y:Str) (fs gs:List (Str × D)),ds=[.obj x fs,.obj y gs]/\R [("above",.obj x fs),("below",.obj y gs)]
def BB:SiD:=λds R=>∃ (x:Str) (fs:List (Str × D)) (a b:Int),ds=[.obj x fs,.int a,.int b]/\R [("form",.obj x fs),("x",.int a),("y",.int b)]
def BC:SiD:=λds R=>∃ (x:Str) (fs:List (Str × D)),ds=[.obj x fs]/\R [("form",.obj x fs)]
def BD:SiD:=λds R=>∃ (x:Str) (fs:List (Str × D)),ds=[.obj x fs]/\R [("form",.obj x fs)]
def BE:SiD:=λds R=>∃ (x:Str) (fs:List (Str × D)) (a b:Int),ds=[.obj x fs,.int a,.int b]/\R [("form",.obj x fs),("old",.int a),("new",.int b)]
def FormOf:Pat->Nat->D->Prop
 | .mot L a b c d,k,v=>∃ sh hu,v= .obj "Motif" (moF k sh hu)/\(a*d=b*c->sh= .non)/\(¬ a*d=b*c->∃ w h s,FamOf a b c d w h s/\sh= .tup [.int w,.int h,.int s]/\hu=hAll w h s 0 (L.map cs) [])
 | .over p q,k,v=>∃ u u',v= .obj "Over" [("above",u),("below",u')]/\FormOf p (k+1) u/\FormOf q (k+1+p.tl.length+1) u'
 | .sh a b p,k,v=>∃ u,v= .obj "Shifted" [("form",u),("x",.int a),("y",.int b)]/\FormOf p (k+1+(numL a).length+1+(numL b).length+1) u
 | .mir p,k,v=>∃ u,v= .obj "Mirror" [("form",u)]/\FormOf p (k+1) u
 | .tur p,k,v=>∃ u,v= .obj "Turn" [("form",u)]/\FormOf p (k+1) u
 | .hue f g p,k,v=>∃ u,v= .obj "Rehue" [("form",u),("old",.int f),("new",.int g)]/\FormOf p (k+3) u
def Pat.cls:Pat->Str
 | .mot ..=>"Motif"| .over ..=>"Over"| .sh ..=>"Shifted"| .mir ..=>"Mirror"| .tur ..=>"Turn"| .hue ..=>"Rehue"
theorem FormOf.obj{p:Pat}{k:Nat}{v:D}(h:FormOf p k v):∃ fs,v= .obj p.cls fs:=by
 cases p with
 |mot L a b c d=>obtain⟨sh,hu,rfl,_⟩:=h;exact⟨_,rfl⟩
 |over p q=>obtain⟨_,_,rfl,_⟩:=h;exact⟨_,rfl⟩
 |sh a b p=>obtain⟨_,rfl,_⟩:=h;exact⟨_,rfl⟩
 |mir p=>obtain⟨_,rfl,_⟩:=h;exact⟨_,rfl⟩
 |tur p=>obtain⟨_,rfl,_⟩:=h;exact⟨_,rfl⟩
 |hue f g p=>obtain⟨_,rfl,_⟩:=h;exact⟨_,rfl⟩
theorem BF{L:List (List Nat)}{w:Nat}(h:RowsL L w):Rows (L.map λx=>(⟨x.toArray⟩:Str))/\(L.map λx=>(⟨x.toArray⟩:Str)).map cs=L:=by
 refine⟨⟨by rw[EU];exact h.many,w,⟨h.w1,h.w8⟩,λl hl=>?_⟩,?_⟩
 ·obtain⟨x,hx,rfl⟩:=Fh.mp hl
  obtain⟨h1,h2⟩:=h.each x hx
  exact⟨by rw[dR];exact h1,h2⟩
 ·rw[GA]
  simp[Function.comp_def,cs]
def BG:SpM:=λds M R RX=>∃ (a:Addr) (t:Str) (k:Nat) (l:List Nat),ds=[.ptr a]/\M=RdM a t k/\At t k l/\
 (∀ p l',p.Syn->p.depth=0->l=p.tl++l'->∀ v,FormOf p k v->R v (RdM a t (k+p.tl.length)))/\
 (∀ j:Nat,(∀ r,walk (.pat 5::r) l k=some j)->∀ M',RX "WrongSign" [("place",.int j)] M')
theorem BH{d:Nat}{l:List Nat}{k:Nat}{r:List Wt}(h:d=5\/∀ c l',l=c::l'->c ∉ cs "(smth"):walk (.pat d::r) l k=walk (.pat 5::r) l k:=by
 rcases h with rfl|h
 ·rfl
 ·cases l with
  |nil=>simp[walk]
  |cons c l=>
   have hc:=h c l rfl
   have e:cs "(smth"=[40,115,109,116,104]:=rfl
   rw[e] at hc
   simp only[EO,FO,or_false,not_or] at hc
   have:step (.pat d::r) c=step (.pat 5::r) c:=by
    rw[bQ,bQ]
    unfold bP
    by_cases KS:c=91
    ·rw[if_pos KS,if_pos KS]
    ·rw[if_neg KS,if_neg KS,if_pos rfl]
     split
     ·rfl
     ·rw[if_neg hc.1,if_neg hc.2.1,if_neg hc.2.2.2.2,if_neg (by rintro(z|z);exact hc.2.2.1 z;exact hc.2.2.2.1 z)]
   rw[walk,walk,this]
theorem hue_dig{c:Nat}:c∈cs "123456"↔49<=c/\c<=54:=by
 have e:cs "123456"=[49,50,51,52,53,54]:=rfl
 rw[e];simp;lia
theorem gW{c:Nat}(h:49<=c/\c<=54):numL ((c:Int) - 48)=[c]:=by
 rw[hueL (by lia)]
 congr 1
 lia
theorem kq{c:Nat}(h:49<=c/\c<=54){r:List Wt}{l:List Nat}{k:Nat}:walk (.hue::r) (c::l) k=walk r l (k+1):=aF (by simp[step,aI,aK,h])
theorem tE{r:List Wt}{l:List Nat}{k:Nat}(h:∀ c l',l=c::l'->c ∉ cs "123456"):walk (.hue::r) l k=some k:=
 walk_bad (λz=>nomatch z) λc l' q=>by
  have:=λz=>h c l' q (hue_dig.mpr z)
  simp only[step,aI,aK]
  exact if_neg this
def dg(j:Nat):SpM:=λds M R RX=>∃ (a:Addr) (t:Str) (k:Nat) (l:List Nat) (d:Nat),ds=[.ptr a,.int d]/\M=RdM a t k/\At t k l/\d+j=6/\1<=j/\
 (∀ p l',p.Syn->p.depth+d<=5->l=p.tl++l'->∀ v,FormOf p k v->R v (RdM a t (k+p.tl.length)))/\(∀ i:Nat,(∀ r,walk (.pat d::r) l k=some i)->∀ M',RX "WrongSign" [("place",.int i)] M')
theorem BI{ds:List D}{M:MS}{R:D->MS->Prop}{RX:XDM}:¬ dg 0 ds M R RX:=by
 rintro⟨_,_,_,_,_,_,_,_,_,h,_⟩
 exact absurd h (by decide)
def tF(j:Nat):SpM:=λds M R RX=>∃ (a:Addr) (t:Str) (k:Nat) (l:List Nat) (d:Nat),ds=[.ptr a,.int d]/\M=RdM a t k/\At t k l/\d+j=6/\1<=j/\
 (∀ p q l',p.Syn->q.Syn->p.depth+d<=5->q.depth+d<=5->l=p.tl++124::(q.tl++41::l')->∀ u u',FormOf p k u->FormOf q (k+p.tl.length+1) u'->R (.obj "Over" [("above",u),("below",u')]) (RdM a t (k+p.tl.length+1+q.tl.length+1)))/\
 (∀ i:Nat,(∀ r,walk (.pat d:: .sign 124:: .pat d:: .sign 41::r) l k=some i)->∀ M',RX "WrongSign" [("place",.int i)] M')
def tG(j:Nat):SpM:=λds M R RX=>∃ (a:Addr) (t:Str) (k:Nat) (l:List Nat) (d:Nat),ds=[.ptr a,.int d]/\M=RdM a t k/\At t k l/\d+j=6/\1<=j/\
 (∀ x y p l',B12 x->B12 y->p.Syn->p.depth+d<=5->l=numL x++44::(numL y++58::(p.tl++l'))->∀ u,FormOf p (k+(numL x).length+1+(numL y).length+1) u->R (.obj "Shifted" [("form",u),("x",.int x),("y",.int y)]) (RdM a t (k+(numL x).length+1+(numL y).length+1+p.tl.length)))/\
 (∀ i:Nat,(∀ r,walk (.num:: .sign 44:: .num:: .sign 58:: .pat d::r) l k=some i)->∀ M',RX "WrongSign" [("place",.int i)] M')
def tH(j:Nat):SpM:=λds M R RX=>∃ (a:Addr) (t:Str) (k:Nat) (l:List Nat) (d:Nat),ds=[.ptr a,.int d]/\M=RdM a t k/\At t k l/\d+j=6/\1<=j/\
 (∀ c e p l',(49<=c/\c<=54)->(49<=e/\e<=54)->p.Syn->p.depth+d<=5->l=c::e::(p.tl++l')->∀ u,FormOf p (k+2) u->R (.obj "Rehue" [("form",u),("old",.int ((c:Int) - 48)),("new",.int ((e:Int) - 48))]) (RdM a t (k+2+p.tl.length)))/\
 (∀ i:Nat,(∀ r,walk (.hue:: .hue:: .pat d::r) l k=some i)->∀ M',RX "WrongSign" [("place",.int i)] M')
def Pat.Area(p:Pat)(N:Int):Prop:=∃ w h s,p.Fam w h s/\w*h<=N
theorem Pat.Fits.wide{p:Pat}(h:p.Fits):p.Area 33554432:=by
 obtain⟨w,k,s,f,b⟩:=h
 exact⟨w,k,s,f,by lia⟩
theorem Pat.Area.small{p:Pat}{N:Int}(h:p.Area N){w k s:Int}(f:p.Fam w k s):0<w/\w<=N/\0<k/\k<=N/\0<=s/\s<w:=by
 obtain⟨w',k',s',f',hb⟩:=h
 obtain⟨rfl,rfl,rfl⟩:=f.uniq f'
 obtain⟨h1,h2⟩:=cy f.f.w0 f.f.h0
 exact⟨f.f.w0,by lia,f.f.h0,by lia,f.f.s0,f.f.sw⟩
theorem Pat.Area.tur{p:Pat}{N:Int}(h:p.Area N):(Pat.tur p).Area N:=by
 obtain⟨w,k,s,f,b⟩:=h
 obtain⟨w2,h2,s2,g,e⟩:=fN (s:=s) f.f.w0 f.f.h0
 exact⟨_,_,_,f.tur g,by lia⟩
def Pat.Cal:Pat->Prop
 | .mot ..=>True
 | .over p q=>p.Cal/\q.Cal/\(p.Wf->q.Wf->p.Area 33554432/\q.Area 33554432)
 | .sh _ _ p=>p.Cal
 | .mir p=>p.Cal
 | .tur p=>p.Cal/\(p.Wf->p.Area 33554432)
 | .hue _ _ p=>p.Cal
theorem Pat.cls_mem(p:Pat):p.cls∈(["Motif","Over","Shifted","Mirror","Turn","Rehue"]:List Str):=by
 cases p<;>simp[Pat.cls]
theorem no_look{f g:Str}{v:D}{r:List (Str × D)}(h:(f==g)=false)(hr:r.lookup f=none):(((g,v)::r:List (Str × D))).lookup f=none:=by
 rw[E8,h];exact hr
theorem FormOf.objm{p:Pat}{k:Nat}{v:D}(h:FormOf p k v):∃ fs,v= .obj p.cls fs/\fs.lookup ("family":Str)=none/\fs.lookup ("shows":Str)=none:=by
 cases p with
 |mot L a b c d=>obtain⟨sh,hu,rfl,_⟩:=h;exact⟨_,rfl,no_look (by decide+kernel) (no_look (by decide+kernel) (no_look (by decide+kernel) rfl)),no_look (by decide+kernel) (no_look (by decide+kernel) (no_look (by decide+kernel) rfl))⟩
 |over p q=>obtain⟨_,_,rfl,_⟩:=h;exact⟨_,rfl,no_look (by decide+kernel) (no_look (by decide+kernel) rfl),no_look (by decide+kernel) (no_look (by decide+kernel) rfl)⟩
 |sh a b p=>obtain⟨_,rfl,_⟩:=h;exact⟨_,rfl,no_look (by decide+kernel) (no_look (by decide+kernel) (no_look (by decide+kernel) rfl)),no_look (by decide+kernel) (no_look (by decide+kernel) (no_look (by decide+kernel) rfl))⟩
 |mir p=>obtain⟨_,rfl,_⟩:=h;exact⟨_,rfl,no_look (by decide+kernel) rfl,no_look (by decide+kernel) rfl⟩
 |tur p=>obtain⟨_,rfl,_⟩:=h;exact⟨_,rfl,no_look (by decide+kernel) rfl,no_look (by decide+kernel) rfl⟩
 |hue f g p=>obtain⟨_,rfl,_⟩:=h;exact⟨_,rfl,no_look (by decide+kernel) (no_look (by decide+kernel) (no_look (by decide+kernel) rfl)),no_look (by decide+kernel) (no_look (by decide+kernel) (no_look (by decide+kernel) rfl))⟩
theorem kr{k:Nat}{sh:D}{hu:List ((Int × Int) × Int)}:(moF k sh hu).lookup ("shifts":Str)=some sh:=by
 unfold moF
 rw[E8,show(("shifts":Str)==("place":Str))=false by decide+kernel]
 rfl
theorem BJ{k:Nat}{sh:D}{hu:List ((Int × Int) × Int)}:(moF k sh hu).lookup ("place":Str)=some (.int k):=rfl
theorem BK{k:Nat}{sh:D}{hu:List ((Int × Int) × Int)}:(moF k sh hu).lookup ("hues":Str)=some (.dti hu):=by
 unfold moF
 rw[E8,show(("hues":Str)==("place":Str))=false by decide+kernel,E8,show(("hues":Str)==("shifts":Str))=false by decide+kernel]
 rfl
theorem fb{f g:Str}{u v:D}{r:List (Str × D)}(h:(g==f)=false):(((f,u)::(g,v)::r:List (Str × D))).lookup g=some v:=by
 rw[E8,h,E8,beq_self_eq_true]
theorem ku{e f g:Str}{t u v:D}{r:List (Str × D)}(h1:(g==e)=false)(h2:(g==f)=false):(((e,t)::(f,u)::(g,v)::r:List (Str × D))).lookup g=some v:=by
 rw[E8,h1];exact fb h2
theorem Pat.Fits.small{p:Pat}(h:p.Fits){w k s:Int}(f:p.Fam w k s):0<w/\w<=720/\0<k/\k<=720/\0<=s/\s<w:=by
 obtain⟨w',k',s',f',hb⟩:=h
 obtain⟨rfl,rfl,rfl⟩:=f.uniq f'
 obtain⟨h1,h2⟩:=cy f.f.w0 f.f.h0
 exact⟨f.f.w0,by lia,f.f.h0,by lia,f.f.s0,f.f.sw⟩
def bX(j:Nat)(x:Str):SpX:=λds R RX=>∃ (p:Pat) (k:Nat) (v:D),ds=[v]/\FormOf p k v/\p.Syn/\p.depth<j/\p.cls=x/\p.Cal/\(∀ i:Nat,p.lineAt k=some i->RX "OneLine" [("place",.int i)])/\(p.lineAt k=none->∀ w h s,p.Fam w h s->R (.tup [.int w,.int h,.int s]))
theorem fg{x:Str}{ds:List D}{M:MS}{R:D->MS->Prop}{RX:XDM}:¬ ofX (bX 0 x) ds M R RX:=by
 rintro⟨_,_,_,_,_,_,h,_⟩
 exact absurd h (Gk _)
theorem lookD_app(x y v X Y:Int):∀ kv:List ((Int × Int) × Int),lookD (kv++[((x,y),v)]) X Y=match lookD kv X Y with|some u=>some u|none=>if x=X/\y=Y then some v else none
 |[]=>rfl
 |((a,b),h)::r=>by
  show lookD (((a,b),h)::(r++[((x,y),v)])) X Y=_
  unfold lookD
  by_cases e:a=X/\b=Y
  ·rw[if_pos e,if_pos e]
  ·rw[if_neg e,if_neg e];exact lookD_app x y v X Y r
theorem BL(kv:List ((Int × Int) × Int))(x y v X Y:Int):lookD (sdD kv x y v) X Y=match lookD kv X Y with|some u=>some u|none=>if x=X/\y=Y then some v else none:=by
 unfold sdD
 split
 ·rename_i hs
  cases e:lookD kv X Y with
  |some u=>rfl
  |none=>
   show none=_
   rw[if_neg]
   rintro⟨rfl,rfl⟩
   rw[e] at hs
   cases hs
 ·exact lookD_app x y v X Y kv
theorem look_row(w h s:Int)(j:Nat)(X Y:Int):∀ (x:List Nat) (i:Nat) (kv:List ((Int × Int) × Int)),lookD (hRow w h s j i x kv) X Y=match lookD kv X Y with|some u=>some u|none=>(scanRow (λi=>decide (hmX w h s i j=X/\(j:Int) % h=Y)) i x).map λc=>(c:Int) - 48
 |[],i,kv=>by
  rw[hRow,scanRow]
  cases lookD kv X Y<;>rfl
 |c::r,i,kv=>by
  rw[hRow,look_row w h s j X Y r (i+1),scanRow]
  by_cases t8:c=46
  ·rw[if_pos t8,if_neg (c:=c≠46/\_) (λz=>z.1 t8)]
  ·rw[if_neg t8,BL]
   cases lookD kv X Y with
   |some u=>rfl
   |none=>
    by_cases e:hmX w h s i j=X/\(j:Int) % h=Y
    ·rw[if_pos (c:=c≠46/\_) ⟨t8,decide_eq_true e⟩]
     show(match (if hmX w h s i j=X/\(j:Int) % h=Y then some ((c:Int) - 48) else none) with|some u=>some u|none=>_)=_
     rw[if_pos e];rfl
    ·rw[if_neg (c:=c≠46/\_) (λz=>e (of_decide_eq_true z.2))]
     show(match (if hmX w h s i j=X/\(j:Int) % h=Y then some ((c:Int) - 48) else none) with|some u=>some u|none=>_)=_
     rw[if_neg e]
theorem tI(w h s X Y:Int):∀ (L:List Str) (j:Nat) (kv:List ((Int × Int) × Int)),lookD (hAll w h s j (L.map cs) kv) X Y=match lookD kv X Y with|some u=>some u|none=>(bM (λi j=>decide (hmX w h s i j=X/\j % h=Y)) j L).map λc=>(c:Int) - 48
 |[],j,kv=>by
  rw[FJ,hAll,bM]
  cases lookD kv X Y<;>rfl
 |x::r,j,kv=>by
  rw[EY,hAll,tI w h s X Y r (j+1),look_row,bM]
  cases lookD kv X Y with
  |some u=>rfl
  |none=>
   show(match (scanRow (λi=>decide (hmX w h s i j=X/\(j:Int) % h=Y)) 0 (cs x)).map (λc=>(c:Int) - 48) with|some u=>some u|none=>_)=_
   cases scanRow (λi=>decide (hmX w h s i j=X/\(j:Int) % h=Y)) 0 (cs x)<;>rfl
theorem BM{a b c d w h s:Int}(F:FamOf a b c d w h s)(hn:¬ a*d=b*c)(x y i j:Int):decide (hmX w h s i j=hmX w h s x y/\j % h=y % h)=onB a b c d (x - i) (y - j):=by
 have hw:=F.1
 have hh:=F.2.1
 have key:(hmX w h s i j=hmX w h s x y/\j % h=y % h)↔InF w h s (x - i) (y - j):=by
  unfold hmX
  constructor
  ·rintro⟨e1,e2⟩
   have dy:=F9 y h
   have dj:=F9 j h
   have m1:=F9 (x - y / h*s) w
   have m2:=F9 (i - j / h*s) w
   refine⟨(x - y / h*s) / w - (i - j / h*s) / w,y / h - j / h,?_,?_⟩
   ·rw[GF,GF,E9 ((x - y / h*s) / w) w,E9 ((i - j / h*s) / w) w]
    lia
   ·rw[GF,E9 (y / h) h,E9 (j / h) h]
    lia
  ·rintro⟨m,q,ex,ey⟩
   have Ph:y=j+q*h:=by lia
   have JB:x=i+(m*w+q*s):=by lia
   subst JB Ph
   rw[HM,Int.add_mul_ediv_right _ _ (by lia)]
   refine⟨?_,rfl⟩
   have e:i+(m*w+q*s) - (j / h+q)*s=i - j / h*s+m*w:=by rw[GH];lia
   rw[e,HM]
 unfold onB
 congr 1
 apply propext
 rw[key,F.lat]
 constructor
 ·rintro⟨m,q,eu,ev⟩
  exact sr eu ev
 ·exact λz=>sM hn z
theorem BN{c:Nat}(h:49<=c/\c<=54):cell [0,1,2,3,4,5,6] ((c:Int) - 48)=(c:Int) - 48:=by
 rcases(by lia:c=49\/c=50\/c=51\/c=52\/c=53\/c=54) with e|e|e|e|e|e<;>subst e<;>rfl
theorem motif_shows{L:List Str}{a b c d w h s:Int}(hL:Rows L)(F:FamOf a b c d w h s)(hn:¬ a*d=b*c)(x y:Int):(lookD (hAll w h s 0 (L.map cs) []) (hmX w h s x y) (y % h)).getD 0=(bt L a b c d).shows x y:=by
 rw[tI]
 show((bM (λi j=>decide (hmX w h s i j=hmX w h s x y/\j % h=y % h)) 0 L).map λc=>(c:Int) - 48).getD 0=_
 have e:(λi j=>decide (hmX w h s i j=hmX w h s x y/\j % h=y % h))=λi j=>onB a b c d (1*x+0*y+0 - i) (0*x+1*y+0 - j):=by
  funext i j
  rw[BM F hn]
  congr 1<;>lia
 rw[e]
 show _=match bM (λi j=>onB a b c d (1*x+0*y+0 - i) (0*x+1*y+0 - j)) 0 L with|some c=>cell [0,1,2,3,4,5,6] ((c:Int) - 48)|none=>0
 cases q:bM (λi j=>onB a b c d (1*x+0*y+0 - i) (0*x+1*y+0 - j)) 0 L with
 |none=>rfl
 |some c=>
  have hc:49<=c/\c<=54:=ke (λl' q=>let ⟨_,_,_,h⟩:=hL;(h l' q).2) q
  exact(BN hc).symm
def bY(j:Nat)(x:Str):SpX:=λds R RX=>∃ (p:Pat) (k:Nat) (v:D) (X Y:Int),ds=[v,.int X,.int Y]/\FormOf p k v/\p.Wf/\p.depth<j/\p.cls=x/\R (.int (p.show X Y))
theorem fj{x:Str}{ds:List D}{M:MS}{R:D->MS->Prop}{RX:XDM}:¬ ofX (bY 0 x) ds M R RX:=by
 rintro⟨_,_,_,_,_,_,_,_,h,_⟩
 exact absurd h (Gk _)
structure PatOf(p:Pat)(w h s:Int)(fs:List (Str × D)):Prop extends Pat.Fam p w h s where
 form:∃ k v,fs.lookup ("form":Str)=some v/\FormOf p k v
def aX(p:Pat)(d:D):Prop:=∃ w h s fs,d= .obj "Pattern" fs/\fs.lookup ("text":Str)=some (.str p.text)/\fs.lookup ("shifts":Str)=some (.tup [.int w,.int h,.int s])/\PatOf p w h s fs
def bu(x:Int):Prop:=-1000000000000<=x/\x<=1000000000000
theorem Pat.show_le{p:Pat}(h:p.Wf)(hd:p.depth<=40)(x y:Int):0<=p.show x y/\p.show x y<=6:=by
 rw[<- Pat.show_leaves h hd]
 exact sG x y (Pat.leaf_ok h hd)
def bE(h:Int):Nat:=if h=0 then 46 else(48+h).toNat
def az(p:Pat)(x y:Int)(n:Nat):Str:=⟨((EN n).map λ(k:Nat)=>bE (p.show (x+(k:Int)) y)).toArray⟩
theorem tJ(p:Pat)(x y:Int)(n:Nat):(az p x y n).length=n:=by simp[az,Str.length]
theorem tK{h:Int}(h0:0<=h)(h6:h<=6):atI (cs ".123456") h=some (bE h):=by
 rcases(by lia:h=0\/h=1\/h=2\/h=3\/h=4\/h=5\/h=6) with e|e|e|e|e|e|e<;>subst e<;>decide+kernel
theorem range2_int{i j:Int}{k:Nat}{x:D}(h:((EN (j - i).toNat).map λk=>D.int (i+((k:Nat):Int)))[k]?=some x):k<(j - i).toNat/\x= .int (i+(k:Int)):=by
 have hk:k<(j - i).toNat:=by simpa using(E7.mp h).1
 refine⟨hk,?_⟩
 simp[hk] at h
 exact h.symm
theorem Pat.Fits.over_parts{p q:Pat}(hp:p.Wf)(hq:q.Wf)(h:(Pat.over p q).Fits):p.Fits/\q.Fits:=by
 obtain⟨w,k,s,f,hb⟩:=h
 obtain⟨w1,k1,s1,f1⟩:=Pat.fam_ex hp
 obtain⟨w2,k2,s2,f2⟩:=Pat.fam_ex hq
 have l1:=(InF.le f1.f.w0 f1.f.h0 f.f.w0 f.f.h0 (λx y z=>(f1.lat x y).mpr ((f.lat x y).mp z).1)).1
 have l2:=(InF.le f2.f.w0 f2.f.h0 f.f.w0 f.f.h0 (λx y z=>(f2.lat x y).mpr ((f.lat x y).mp z).2)).1
 exact⟨⟨w1,k1,s1,f1,by lia⟩,⟨w2,k2,s2,f2,by lia⟩⟩
theorem Pat.Fits.of_sh{a b:Int}{p:Pat}(h:(Pat.sh a b p).Fits):p.Fits:=by
 obtain⟨w,k,s,f,hb⟩:=h
 exact⟨w,k,s,⟨f.f,f.lat⟩,hb⟩
theorem Pat.Fits.of_hue{a b:Int}{p:Pat}(h:(Pat.hue a b p).Fits):p.Fits:=by
 obtain⟨w,k,s,f,hb⟩:=h
 exact⟨w,k,s,⟨f.f,f.lat⟩,hb⟩
theorem Pat.Fits.of_mir{p:Pat}(hp:p.Wf)(h:(Pat.mir p).Fits):p.Fits:=by
 obtain⟨w,k,s,f,hb⟩:=h
 obtain⟨w1,k1,s1,f1⟩:=Pat.fam_ex hp
 obtain⟨rfl,rfl,_⟩:=f.uniq f1.mir
 exact⟨_,_,_,f1,hb⟩
theorem Pat.Fits.of_tur{p:Pat}(hp:p.Wf)(h:(Pat.tur p).Fits):p.Fits:=by
 obtain⟨w,k,s,f,hb⟩:=h
 obtain⟨w1,k1,s1,f1⟩:=Pat.fam_ex hp
 obtain⟨w',k',s',f',e⟩:=fN (s:=s1) f1.f.w0 f1.f.h0
 obtain⟨rfl,rfl,_⟩:=f.uniq (f1.tur f')
 exact⟨_,_,_,f1,by lia⟩
theorem Pat.cal_of:∀ {p:Pat},p.Wf->p.Fits->p.Cal
 | .mot ..,_,_=>trivial
 | .over p q,h,f=>by
  obtain⟨f1,f2⟩:=Pat.Fits.over_parts h.1 h.2 f
  exact⟨Pat.cal_of h.1 f1,Pat.cal_of h.2 f2,λ_ _=>⟨f1.wide,f2.wide⟩⟩
 | .sh a b p,h,f=>Pat.cal_of (p:=p) h.2.2 f.of_sh
 | .mir p,h,f=>Pat.cal_of (p:=p) h (f.of_mir h)
 | .tur p,h,f=>⟨Pat.cal_of (p:=p) h (f.of_tur h),λ_=>Pat.Fits.wide (p:=p) (f.of_tur h)⟩
 | .hue a b p,h,f=>Pat.cal_of (p:=p) h.2.2 f.of_hue
theorem Pat.cal_w:∀ {p:Pat} {w h s:Int},p.Wf->p.Cal->p.Fam w h s->w<=1125899906842624
 | .mot L a b c d,w,h,s,e8,_,f=>by
  have:=(Pat.fits_mot (L:=L) e8.2.1 e8.2.2.1 e8.2.2.2.1 e8.2.2.2.2.1 e8.2.2.2.2.2).small f
  lia
 | .over p q,w,h,s,e8,hc,f=>by
  obtain⟨f1,f2⟩:=hc.2.2 e8.1 e8.2
  obtain⟨w1,k1,s1,g1⟩:=Pat.fam_ex e8.1
  obtain⟨w2,k2,s2,g2⟩:=Pat.fam_ex e8.2
  have a1:=f1.small g1
  have a2:=f2.small g2
  have o9:InF w h s (w1*w2) 0:=(f.lat _ _).mpr ⟨(g1.lat _ _).mp ⟨w2,0,by rw[E9];lia,by lia⟩,(g2.lat _ _).mp ⟨w1,0,by lia,by lia⟩⟩
  obtain⟨i,j,e1,e2⟩:=o9
  have hj:j=0:=by
   rcases Gm.mp e2.symm with z|z
   ·exact z
   ·have:=f.f.h0;lia
  subst hj
  have hp:0<w1*w2:=E5 a1.1 a2.1
  have e3:w1*w2=i*w:=by lia
  have hi:0<i:=by
   have:=f.f.w0
   rcases(by lia:i<=0\/0<i) with z|z
   ·have:=FL z (show 0<=w by lia)
    lia
   ·exact z
  have h1:=E6 (show 1<=i by lia) (show 0<=w by have:=f.f.w0;lia)
  have h2:=bB (a:=w1) (d:=w2) (A:=33554432) (B:=33554432) (by lia) (by lia)
  lia
 | .sh a b p,w,h,s,e8,hc,f=>Pat.cal_w (p:=p) e8.2.2 hc ⟨f.f,f.lat⟩
 | .mir p,w,h,s,e8,hc,f=>by
  obtain⟨w1,k1,s1,f1⟩:=Pat.fam_ex (p:=p) e8
  obtain⟨rfl,_,_⟩:=f.uniq f1.mir
  exact Pat.cal_w (p:=p) e8 hc f1
 | .tur p,w,h,s,e8,hc,f=>by
  have:=(hc.2 e8).tur.small f
  lia
 | .hue a b p,w,h,s,e8,hc,f=>Pat.cal_w (p:=p) e8.2.2 hc ⟨f.f,f.lat⟩
theorem tL:∀ L:List Str,cs (Str.join "" L)=L.flatMap cs
 |[]=>rfl
 |[x]=>by simp[Str.join]
 |x::y::r=>by
  show cs (x++""++Str.join "" (y::r))=_
  rw[bC,bC,tL (y::r),sE]
  simp
theorem tM(f:Nat->Nat)(n:Nat):Str.join "" ((EN n).map λi=>(⟨#[f i]⟩:Str))=⟨((EN n).map f).toArray⟩:=by
 apply fO
 rw[tL,List.flatMap_map]
 show(EN n).flatMap (λi=>[f i])=(EN n).map f
 rw[List.map_eq_flatMap]
theorem cQ{e:Nat}:∀ {a b x y:List Nat},e ∉ a->e ∉ b->a++e::x=b++e::y->a=b/\x=y
 |[],[],x,y,_,_,h=>by cases h;exact⟨rfl,rfl⟩
 |[],c::b,x,y,_,hb,h=>by
  cases h
  exact absurd ET hb
 |c::a,[],x,y,ha,_,h=>by
  cases h
  exact absurd ET ha
 |c::a,d::b,x,y,ha,hb,h=>by
  have h':c::(a++e::x)=d::(b++e::y):=h
  injection h' with h1 h2
  obtain⟨e1,e2⟩:=cQ (λz=>ha (ES _ z)) (λz=>hb (ES _ z)) h2
  exact⟨by rw[h1,e1],e2⟩
theorem fk{a b:Int}(ha:B12 a)(hb:B12 b)(h:numL a=numL b):a=b:=by
 have h1:=kj ha
 rw[h,kj hb] at h1
 exact(Option.some.inj h1).symm
theorem BO{a:Int}(ha:B12 a):∀ c∈numL a,c=45\/(48<=c/\c<=57):=by
 rcases numL_is ha with⟨c,hc,e⟩|⟨c,hc,e⟩|⟨c,hc,e⟩|⟨c,hc,e⟩<;>rw[e]<;>simp<;>lia
theorem cq{a:Int}(ha:B12 a){e:Nat}(he:endS e):e ∉ numL a:=λz=>by
 have:=BO ha e z
 unfold endS at he
 lia
theorem rowsL_chars:∀ {L:List (List Nat)},(∀ x∈L,∀ c∈x,aH c)->∀ c∈rowsL L,aH c\/c=47
 |[],_,c,h=>by cases h
 |[x],hx,c,h=> .inl (hx x ET c h)
 |x::y::L,hx,c,h=>by
  have h':c∈x++47::rowsL (y::L):=h
  rcases Ff.mp h' with z|z
  ·exact .inl (hx x ET c z)
  ·rcases EO.mp z with z|z
   ·exact .inr z
   ·exact rowsL_chars (λx q=>hx x (ES _ q)) c z
theorem fP{c:Nat}(h:aH c):c≠47/\c≠59:=by unfold aH at h;lia
theorem tN:∀ {L M:List (List Nat)},L≠[]->M≠[]->(∀ x∈L,∀ c∈x,aH c)->(∀ x∈M,∀ c∈x,aH c)->rowsL L=rowsL M->L=M
 |[],_,h,_,_,_,_=>absurd rfl h
 |_,[],_,h,_,_,_=>absurd rfl h
 |[x],[y],_,_,_,_,h=>by rw[show x=y from h]
 |[x],y::z::M,_,_,hx,_,h=>by
  have h':x=y++47::rowsL (z::M):=h
  have:(47:Nat)∈x:=by rw[h'];simp
  exact absurd rfl (fP (hx x ET 47 this)).1
 |x::z::L,[y],_,_,_,hy,h=>by
  have h':x++47::rowsL (z::L)=y:=h
  have:(47:Nat)∈y:=by rw[<- h'];simp
  exact absurd rfl (fP (hy y ET 47 this)).1
 |x::z::L,y::z'::M,_,_,hx,hy,h=>by
  have h':x++47::rowsL (z::L)=y++47::rowsL (z'::M):=h
  obtain⟨e1,e2⟩:=cQ (λq=>(fP (hx x ET 47 q)).1 rfl) (λq=>(fP (hy y ET 47 q)).1 rfl) h'
  rw[e1,tN (L:=z::L) (M:=z'::M) (λq=>nomatch q) (λq=>nomatch q) (λx q=>hx x (ES _ q)) (λx q=>hy x (ES _ q)) e2]
theorem tO:∀ {L M:List Str},L.map cs=M.map cs->L=M
 |[],[],_=>rfl
 |[],_::_,h=>by cases h
 |_::_,[],h=>by cases h
 |x::L,y::M,h=>by
  rw[EY,EY] at h
  injection h with h1 h2
  rw[fO h1,tO h2]
theorem BP{L L':List Str}{a b c d a' b' c' d':Int}{x y:List Nat}(h:(Pat.mot L a b c d).Syn)(h':(Pat.mot L' a' b' c' d').Syn)(e:(Pat.mot L a b c d).tl++x=(Pat.mot L' a' b' c' d').tl++y):Pat.mot L a b c d=Pat.mot L' a' b' c' d'/\x=y:=by
 have e0:91::(rowsL (L.map cs)++59::(numL a++44::(numL b++59::(numL c++44::(numL d++93::x)))))=91::(rowsL (L'.map cs)++59::(numL a'++44::(numL b'++59::(numL c'++44::(numL d'++93::y))))):=by
  simpa[Pat.tl,motL] using e
 injection e0 with _ e1
 have sg:∀ {L:List Str},Rows L->∀ x∈L.map cs,∀ c∈x,aH c:=λ{L} hL x hx=>by
  obtain⟨l,hl,rfl⟩:=Fh.mp hx
  obtain⟨_,w,_,q⟩:=hL
  exact(q l hl).2
 have NR:∀ {L:List Str},Rows L->(59:Nat) ∉ rowsL (L.map cs):=λ{L} hL z=>by
  rcases rowsL_chars (sg hL) 59 z with q|q
  ·exact(fP q).2 rfl
  ·cases q
 have ne:∀ {L:List Str},Rows L->L.map cs≠[]:=λ{L} hL z=>by
  have h1:=hL.many.1
  have h2:=congrArg Gc z
  rw[EU] at h2
  simp at h2
  rw[h2] at h1
  simp at h1
 obtain⟨q1,e2⟩:=cQ (NR h.1) (NR h'.1) e1
 obtain⟨q2,e3⟩:=cQ (cq h.2.1 (.inl rfl)) (cq h'.2.1 (.inl rfl)) e2
 obtain⟨q3,e4⟩:=cQ (cq h.2.2.1 (.inr (.inl rfl))) (cq h'.2.2.1 (.inr (.inl rfl))) e3
 obtain⟨q4,e5⟩:=cQ (cq h.2.2.2.1 (.inl rfl)) (cq h'.2.2.2.1 (.inl rfl)) e4
 obtain⟨q5,e6⟩:=cQ (cq h.2.2.2.2 (.inr (.inr (.inr rfl)))) (cq h'.2.2.2.2 (.inr (.inr (.inr rfl)))) e5
 rw[tO (tN (ne h.1) (ne h'.1) (sg h.1) (sg h'.1) q1),fk h.2.1 h'.2.1 q2,fk h.2.2.1 h'.2.2.1 q3,fk h.2.2.2.1 h'.2.2.2.1 q4,fk h.2.2.2.2 h'.2.2.2.2 q5]
 exact⟨rfl,e6⟩
def Pat.head:Pat->Nat
 | .mot ..=>91| .over ..=>40| .sh ..=>115| .mir ..=>109| .tur ..=>116| .hue ..=>104
theorem Pat.tl_head(p:Pat):∃ l,p.tl=p.head::l:=by cases p<;>exact⟨_,rfl⟩
theorem dS{p q:Pat}{x y:List Nat}(e:p.tl++x=q.tl++y):p.head=q.head:=by
 obtain⟨l1,e1⟩:=p.tl_head
 obtain⟨l2,e2⟩:=q.tl_head
 rw[e1,e2] at e
 have e':p.head::(l1++x)=q.head::(l2++y):=e
 injection e'
theorem tP{f g:Int}(h:1<=f/\f<=6)(h':1<=g/\g<=6)(e:(48+f).toNat=(48+g).toNat):f=g:=by lia
theorem BQ{p q:Pat}{x y:List Nat}(hp:p.Syn)(hq:q.Syn)(e:p.tl++x=q.tl++y):p=q/\x=y:=by
 have hh:=dS e
 induction p generalizing q x y with
 |mot=>
  cases q with
  |mot=>exact BP hp hq e
  |_=>simp[Pat.head] at hh
 |over p q i1 i2=>
  cases q with
  |over p' q'=>
   have e0:40::(p.tl++124::(q.tl++41::x))=40::(p'.tl++124::(q'.tl++41::y)):=by simpa[Pat.tl] using e
   injection e0 with _ e1
   obtain⟨rfl,e2⟩:=i1 hp.1 hq.1 e1 (dS e1)
   injection e2 with _ e3
   obtain⟨rfl,e4⟩:=i2 hp.2 hq.2 e3 (dS e3)
   injection e4 with _ e5
   exact⟨rfl,e5⟩
  |_=>simp[Pat.head] at hh
 |sh a b p i=>
  cases q with
  |sh a' b' p'=>
   have e0:115::(numL a++44::(numL b++58::(p.tl++x)))=115::(numL a'++44::(numL b'++58::(p'.tl++y))):=by simpa[Pat.tl] using e
   injection e0 with _ e1
   obtain⟨q2,e3⟩:=cQ (cq hp.1 (.inl rfl)) (cq hq.1 (.inl rfl)) e1
   obtain⟨q3,e4⟩:=cQ (cq hp.2.1 (.inr (.inr (.inl rfl)))) (cq hq.2.1 (.inr (.inr (.inl rfl)))) e3
   obtain⟨rfl,e5⟩:=i hp.2.2 hq.2.2 e4 (dS e4)
   rw[fk hp.1 hq.1 q2,fk hp.2.1 hq.2.1 q3]
   exact⟨rfl,e5⟩
  |_=>simp[Pat.head] at hh
 |mir p i=>
  cases q with
  |mir p'=>
   have e0:109::(p.tl++x)=109::(p'.tl++y):=e
   injection e0 with _ e1
   obtain⟨rfl,e5⟩:=i (q:=p') hp hq e1 (dS e1)
   exact⟨rfl,e5⟩
  |_=>simp[Pat.head] at hh
 |tur p i=>
  cases q with
  |tur p'=>
   have e0:116::(p.tl++x)=116::(p'.tl++y):=e
   injection e0 with _ e1
   obtain⟨rfl,e5⟩:=i (q:=p') hp hq e1 (dS e1)
   exact⟨rfl,e5⟩
  |_=>simp[Pat.head] at hh
 |hue f g p i=>
  cases q with
  |hue f' g' p'=>
   have e0:104::(numL f++(numL g++(p.tl++x)))=104::(numL f'++(numL g'++(p'.tl++y))):=by simpa[Pat.tl] using e
   rw[hueL hp.1,hueL hp.2.1,hueL hq.1,hueL hq.2.1] at e0
   have e1:104::(48+f).toNat::(48+g).toNat::(p.tl++x)=104::(48+f').toNat::(48+g').toNat::(p'.tl++y):=e0
   injection e1 with _ e2
   injection e2 with e3 e4
   injection e4 with e5 e6
   obtain⟨rfl,e7⟩:=i hp.2.2 hq.2.2 e6 (dS e6)
   rw[tP hp.1 hq.1 e3,tP hp.2.1 hq.2.1 e5]
   exact⟨rfl,e7⟩
  |_=>simp[Pat.head] at hh
def BR:SiD:=λds R=>∃ (t:Str) (w h s:Int) (x:Str) (fs:List (Str × D)),ds=[.str t,.tup [.int w,.int h,.int s],.obj x fs]/\R [("text",.str t),("shifts",.tup [.int w,.int h,.int s]),("form",.obj x fs)]
def BS:SiD:=λds R=>∃ i:Int,ds=[.int i]/\R [("place",.int i)]
def BT:SiD:=λds R=>∃ i:Int,ds=[.int i]/\R [("place",.int i)]
def tQ:SpX:=λds R RX=>(∃ (t:Str) (k:Nat),ds=[.str t]/\t.length<=100000/\cY t=some k/\RX "WrongSign" [("place",.int k)])\/
 ∃ p:Pat,ds=[.str p.text]/\p.Syn/\p.depth<=5/\p.Cal/\(∀ k:Nat,p.lineAt 0=some k->RX "OneLine" [("place",.int k)])/\(p.lineAt 0=none->¬ p.Fits->RX "TooGreat" [])/\(p.lineAt 0=none->p.Fits->∀ d,aX p d->R d)
theorem tR{p:Pat}{R:D->Prop}(ok:p.Ok)(h:∀ d,aX p d->R d):rC tQ [.str p.text] R:=
 .inr ⟨p,rfl,ok.wf.syn,ok.deep,Pat.cal_of ok.wf ok.fits,(λk e=>by rw[Pat.wf_line 0 ok.wf] at e;cases e),λ_ z=>z ok.fits,λ_ _=>h⟩
def BU:SpX:=λds R RX=>∃ x y:Int,ds=[.int x,.int y]/\(bu x/\bu y->R .non)/\(¬ (bu x/\bu y)->RX "TooFar" [])
def BV:SpX:=λds R RX=>∃ (p:Pat) (d:D) (x y:Int),ds=[d,.int x,.int y]/\aX p d/\p.Ok/\(bu x/\bu y->R (.int (p.show x y)))/\(¬ (bu x/\bu y)->RX "TooFar" [])
def BW:SpD:=λds R=>∃ (p:Pat) (d:D) (x y:Int) (n:Nat),ds=[d,.int x,.int y,.int n]/\aX p d/\p.Ok/\n<=1000/\bu x/\bu (x+n - 1)/\bu y/\R (.str (az p x y n))
theorem BX{x n:Int}:x.fmod n=0↔n∣x:=⟨Int.dvd_of_fmod_eq_zero,G1⟩
theorem BY(a b c d u v i j:Int):onB a b c d (u+(i*a+j*c)) (v+(i*b+j*d))=onB a b c d u v:=by
 unfold onB
 have e1:(u+(i*a+j*c))*d - (v+(i*b+j*d))*c=(u*d - v*c)+(a*d - b*c)*i:=by grind
 have e2:a*(v+(i*b+j*d)) - b*(u+(i*a+j*c))=(a*v - b*u)+(a*d - b*c)*j:=by grind
 rw[e1,e2]
 simp only[BX]
 have h1:(a*d - b*c∣u*d - v*c+(a*d - b*c)*i)↔a*d - b*c∣u*d - v*c:=HN (HP _ _)
 have h2:(a*d - b*c∣a*v - b*u+(a*d - b*c)*j)↔a*d - b*c∣a*v - b*u:=HN (HP _ _)
 simp only[h1,h2]
def Pat.Keeps(p:Pat)(X Y:Int):Prop:=∀ x y,p.show (x+X) (y+Y)=p.show x y
theorem Pat.lat_keeps:∀ {p:Pat} {X Y:Int},p.Lat X Y->p.Keeps X Y
 | .mot L a b c d,_,_,⟨i,j,rfl,rfl⟩,x,y=>by
  have e:∀ u v:Int,onB a b c d (1*(x+(i*a+j*c))+0*(y+(i*b+j*d))+0 - u) (0*(x+(i*a+j*c))+1*(y+(i*b+j*d))+0 - v)=onB a b c d (1*x+0*y+0 - u) (0*x+1*y+0 - v):=λu v=>by
   rw[<- BY a b c d (1*x+0*y+0 - u) (0*x+1*y+0 - v) i j]
   congr 1<;>lia
  show Leaf.shows _ _ _=Leaf.shows _ _ _
  unfold Leaf.shows Leaf.hit
  simp only[bt,e]
 | .over p q,X,Y,h,x,y=>by
  simp only[Pat.show]
  rw[Pat.lat_keeps h.1 x y,Pat.lat_keeps h.2 x y]
 | .sh a b p,X,Y,h,x,y=>by
  have:=Pat.lat_keeps (p:=p) h (x - a) (y - b)
  simp only[Pat.show]
  rw[<- this];congr 1<;>lia
 | .mir p,X,Y,h,x,y=>by
  have:=Pat.lat_keeps (p:=p) h (-x) y
  simp only[Pat.show]
  rw[<- this];congr 1;lia
 | .tur p,X,Y,h,x,y=>by
  have:=Pat.lat_keeps (p:=p) h y (-x)
  simp only[Pat.show]
  rw[<- this];congr 1;lia
 | .hue f g p,X,Y,h,x,y=>by
  simp only[Pat.show]
  rw[Pat.lat_keeps (p:=p) h x y]
namespace Pat.Keeps
variable {p:Pat}{X Y U V:Int}
theorem zero:p.Keeps 0 0:=λx y=>by rw[GI,GI]
theorem add(h:p.Keeps X Y)(k:p.Keeps U V):p.Keeps (X+U) (Y+V):=λx y=>by
 rw[<- HQ,<- HQ,k,h]
theorem neg(h:p.Keeps X Y):p.Keeps (-X) (-Y):=λx y=>by
 have:=h (x+-X) (y+-Y)
 rw[<- this];congr 1<;>lia
theorem sub(h:p.Keeps X Y)(k:p.Keeps U V):p.Keeps (X - U) (Y - V):=by
 have:=h.add k.neg
 rwa [<- HR,<- HR] at this
theorem nat(h:p.Keeps X Y):∀ n:Nat,p.Keeps ((n:Int)*X) ((n:Int)*Y)
 |0=>by simpa using zero
 |n+1=>by
  have:=(nat h n).add h
  have e:∀ z:Int,((n+1:Nat):Int)*z=(n:Int)*z+z:=λz=>by rw[HS,GH];simp
  rw[e,e];exact this
theorem mul(h:p.Keeps X Y)(n:Int):p.Keeps (n*X) (n*Y):=by
 rcases HB 0 n with q|q
 ·have:=h.nat n.toNat
  rwa [Fk q] at this
 ·have:=(h.nat (-n).toNat).neg
  rw[Fk (by lia)] at this
  simpa[FU] using this
end Pat.Keeps
theorem InF.keeps{p:Pat}{w h s x y:Int}(a:p.Keeps w 0)(b:p.Keeps s h)(q:InF w h s x y):p.Keeps x y:=by
 obtain⟨i,j,rfl,rfl⟩:=q
 have:=(a.mul i).add (b.mul j)
 rwa [GJ,G7] at this
theorem InF.one(w h s:Int):InF w h s w 0:=⟨1,0,by lia,by lia⟩
theorem InF.two(w h s:Int):InF w h s s h:=⟨0,1,by lia,by lia⟩
theorem Pat.Fam.keeps{p:Pat}{w h s x y:Int}(f:p.Fam w h s)(q:InF w h s x y):p.Keeps x y:=Pat.lat_keeps ((f.lat x y).mp q)
structure Pat.Least(p:Pat)(w h s:Int):Prop where
 f:Fam0 w h s
 lat:∀ x y,InF w h s x y↔p.Keeps x y
theorem Pat.Least.uniq{p:Pat}{w h s w' h' s':Int}(a:p.Least w h s)(b:p.Least w' h' s'):w=w'/\h=h'/\s=s':=
 InF.uniq a.f.w0 a.f.h0 a.f.s0 a.f.sw b.f.w0 b.f.h0 b.f.s0 b.f.sw λx y=>(a.lat x y).trans (b.lat x y).symm
theorem BZ{P:Nat->Prop}(h:∃ n,P n):∃ n,P n/\∀ m,P m->n<=m:=by
 obtain⟨n,hn⟩:=h
 induction n using Nat.strongRecOn with
 |ind n ih=>
  by_cases q:∃ m,m<n/\P m
  ·obtain⟨m,hm,pm⟩:=q
   exact ih m hm pm
  ·exact⟨n,hn,λm pm=>Ge λz=>q ⟨m,z,pm⟩⟩
theorem tS{P:Int->Prop}{w:Int}(hw:0<w)(h:P w):∃ n:Int,0<n/\P n/\∀ m,0<m->P m->n<=m:=by
 obtain⟨n,⟨a,b⟩,c⟩:=BZ (P:=λn=>0<n/\P (n:Int)) ⟨w.toNat,by lia,by rw[Fk (by lia)];exact h⟩
 exact⟨n,by lia,b,λm hm pm=>by have:=c m.toNat ⟨by lia,by rw[Fk (by lia)];exact pm⟩;lia⟩
theorem tT{P:Int->Prop}{n:Int}(hn:0<n)(pn:P n)(l:∀ m,0<m->P m->n<=m)(cl:∀ x q,P x->P (x - q*n)){x:Int}(hx:P x):n∣x:=by
 have e:=Fv x n
 have a:=Ft x (by lia:n≠0)
 have b:=Fu x hn
 have c:=cl x (x / n) hx
 have d:x - x / n*n=x % n:=by rw[e,E9]
 rw[d] at c
 by_cases z:x % n=0
 ·exact Int.dvd_of_emod_eq_zero z
 ·have:=l _ (by lia) c;lia
theorem Pat.least_ex{p:Pat}{w h s:Int}(F:p.Fam w h s):∃ w' h' s',p.Least w' h' s'/\w'∣w/\h'∣h/\w'*h'<=w*h/\w'<=w/\h'<=h:=by
 obtain⟨m,m0,mk,ml⟩:=tS (P:=λx=>p.Keeps x 0) F.f.w0 (F.keeps (InF.one w h s))
 have md:∀ {x},p.Keeps x 0->m∣x:=λ{x} q=>tT (P:=λx=>p.Keeps x 0) m0 mk ml (λx q hx=>by
  have:=hx.sub (mk.mul q);rwa [GJ,GD] at this) q
 obtain⟨k,k0,⟨t,kk⟩,kl⟩:=tS (P:=λy=>∃ x,p.Keeps x y) F.f.h0 ⟨s,F.keeps (InF.two w h s)⟩
 have kd:∀ {x y},p.Keeps x y->k∣y:=λ{x y} q=>tT (P:=λy=>∃ x,p.Keeps x y) k0 ⟨t,kk⟩ kl (λy q ⟨x,hx⟩=>⟨x - q*t,hx.sub (kk.mul q)⟩) ⟨x,q⟩
 have e:=Fv t m
 have sk:p.Keeps (t % m) k:=by
  have:=kk.sub (mk.mul (t / m))
  rw[GJ,GD] at this
  rw[e,E9];exact this
 have L:p.Least m k (t % m):=by
  refine⟨⟨m0,k0,Ft t (by lia),Fu t m0⟩,λx y=>⟨λq=>q.keeps mk sk,λq=>?_⟩⟩
  obtain⟨j,rfl⟩:=kd q
  have:=q.sub (sk.mul j)
  rw[E9 k j,HH] at this
  obtain⟨i,hi⟩:=md this
  exact⟨i,j,by rw[E9 i m,<- hi];lia,E9 _ _⟩
 obtain⟨a,b,c⟩:=InF.le m0 k0 F.f.w0 F.f.h0 (λx y q=>(L.lat x y).mpr (F.keeps q))
 exact⟨m,k,_,L,md (F.keeps (InF.one w h s)),kd (F.keeps (InF.two w h s)),a,b,c⟩
theorem tU{w h s:Int}(hw:0<w)(hh:0<h)(x y:Int):InF w h s (x - hmX w h s x y) (y - y % h):=by
 have e1:=Fv y h
 have e2:=Fv (x - y / h*s) w
 refine⟨(x - y / h*s) / w,y / h,?_,by rw[e1,E9];lia⟩
 unfold hmX
 rw[e2,E9 w];lia
theorem Pat.show_home{p:Pat}{w h s:Int}(hw:0<w)(hh:0<h)(k:∀ x y,InF w h s x y->p.Keeps x y)(x y:Int):p.show (hmX w h s x y) (y % h)=p.show x y:=by
 have:=k _ _ (tU (s:=s) hw hh x y) (hmX w h s x y) (y % h)
 rw[<- this];congr 1<;>lia
theorem B0(f:Nat->Nat){w c:Nat}(h:c<w):((EN w).map f).drop c++((EN w).map f).take c=(EN w).map λk=>f ((c+k) % w):=by
 apply Gv
 intro i
 by_cases h1:i<w - c
 ·rw[FB (by simp;exact h1),List.getElem?_drop,E3,E3,FF (by lia),FF (by lia)]
  simp[HU (show c+i<w by lia)]
 ·rw[FS (by simp;lia)]
  simp only[Gd,EU,Ga]
  by_cases h2:i<w
  ·rw[Hf (by lia),E3,E3,FF (by lia),FF (by lia)]
   have e:(c+i) % w=i - (w - c):=by
    rw[show c+i=(i - (w - c))+w by lia,Nat.add_mod_right,HU (by lia)]
   simp[e]
  ·rw[FD (by simp;lia),FD (by simp;lia)]
theorem gX(l:List Nat):cs (⟨l.toArray⟩:Str)=l:=by simp
theorem B1{l:List Nat}{t:Str}{c:Int}(ht:cs t=l)(c0:0<=c)(cl:c<l.length):Txt.slice t (some c) none++Txt.slice t none (some c)=(⟨(l.drop c.toNat++l.take c.toNat).toArray⟩:Str):=by
 have hl:t.length=l.length:=by rw[<- ht,bL]
 apply fO
 rw[bC,slice_cps,slice_cps,gX,gX,gX,show t.cps.toList=l from ht,hl]
 have e1:HT.sIx l.length 0 (some c)=c.toNat:=by show(if c<0 then _ else min c.toNat l.length)=_;rw[if_neg (by lia)];lia
 have e2:HT.sIx l.length l.length none=l.length:=rfl
 have e3:HT.sIx l.length 0 none=0:=rfl
 have e4:HT.sIx l.length l.length (some c)=c.toNat:=by show(if c<0 then _ else min c.toNat l.length)=_;rw[if_neg (by lia)];lia
 rw[e1,e2,e3,e4,List.drop_zero,Hy (by simp)]
 rfl
theorem dh(p:Pat)(x y:Int)(n:Nat):cs (az p x y n)=(EN n).map λ(k:Nat)=>bE (p.show (x+(k:Int)) y):=gX _
theorem tV{p:Pat}{w h s:Int}(hw:0<w)(hh:0<h)(k:∀ x y,InF w h s x y->p.Keeps x y)(x y:Int):
  Txt.slice (az p 0 (y % h) w.toNat) (some (hmX w h s x y)) none++Txt.slice (az p 0 (y % h) w.toNat) none (some (hmX w h s x y))=az p x y w.toNat:=by
 have c0:0<=hmX w h s x y:=Ft _ (by lia)
 have c1:hmX w h s x y<w:=Fu _ hw
 rw[B1 (dh p 0 (y % h) w.toNat) c0 (by simp;lia),B0 _ (by lia)]
 unfold az
 congr 2
 apply GX
 intro i _
 have e:=Pat.show_home hw hh k (x+(i:Int)) y
 rw[<- e]
 congr 2
 have q:hmX w h s (x+(i:Int)) y=(hmX w h s x y+i) % w:=by
  unfold hmX
  rw[Int.emod_add_emod];congr 1;lia
 rw[q,G7,Int.natCast_emod,HS,Fk c0,Fk (by lia)]
def aR(p:Pat)(w h:Int):D:= .lst ((EN h.toNat).map λ(y:Nat)=>D.str (az p 0 (y:Int) w.toNat))
def B2:SpD:=λds R=>∃ (p:Pat) (d:D),ds=[d]/\aX p d/\p.Ok/\∀ w h s,p.Fam w h s->w*h<=720->w<=720->h<=720->R (aR p w h)
def B3:SpD:=λds R=>∃ (p:Pat) (w h s x y:Int),ds=[.tup [.int w,.int h,.int s],aR p w h,.int x,.int y]/\p.Fam w h s/\w<=720/\h<=720/\R (.str (az p x y w.toNat))
theorem tW{a b:Int}(a0:0<=a)(a6:a<=6)(b0:0<=b)(b6:b<=6)(e:bE a=bE b):a=b:=by
 unfold bE at e
 split at e<;>split at e<;>lia
theorem B4{p q:Pat}{x y u v:Int}{n:Nat}(hp:p.Ok)(hq:q.Ok)(e:az p x y n=az q u v n){k:Nat}(hk:k<n):p.show (x+k) y=q.show (u+k) v:=by
 have e2:cs (az p x y n)=cs (az q u v n):=by rw[e]
 rw[dh,dh] at e2
 have e3:=congrArg (λl=>l[k]?) e2
 simp[hk] at e3
 have a:=Pat.show_le hp.wf (by have:=hp.deep;lia) (x+k) y
 have b:=Pat.show_le hq.wf (by have:=hq.deep;lia) (u+k) v
 exact tW a.1 a.2 b.1 b.2 e3
theorem rowText_eq{p q:Pat}{x y u v:Int}{n:Nat}(e:∀ k:Nat,k<n->p.show (x+k) y=q.show (u+k) v):az p x y n=az q u v n:=by
 apply fO
 rw[dh,dh]
 exact GX λk hk=>by rw[e k (by simpa using hk)]
theorem gY{p:Pat}{w h s:Int}(ok:p.Ok)(F:p.Fam w h s)(x y:Int):(∀ j:Nat,j<h.toNat->az p x (y+j) w.toNat=az p 0 j w.toNat)↔p.Keeps x y:=by
 have hw:=F.f.w0
 have hh:=F.f.h0
 constructor
 ·intro e a b
  have c0:0<=hmX w h s a b:=Ft _ (by lia)
  have c1:hmX w h s a b<w:=Fu _ hw
  have d0:0<=b % h:=Ft _ (by lia)
  have d1:b % h<h:=Fu _ hh
  have k:=F.keeps (tU (s:=s) hw hh a b)
  have q:=B4 ok ok (e (b % h).toNat (by lia)) (k:=(hmX w h s a b).toNat) (by lia)
  rw[Fk c0,Fk d0] at q
  have q1:=k (x+hmX w h s a b) (y+b % h)
  have q2:=k (0+hmX w h s a b) (b % h)
  rw[show x+hmX w h s a b+(a - hmX w h s a b)=a+x by lia,show y+b % h+(b - b % h)=b+y by lia] at q1
  rw[show 0+hmX w h s a b+(a - hmX w h s a b)=a by lia,show b % h+(b - b % h)=b by lia] at q2
  rw[q1,q2,q]
 ·intro k j _
  exact rowText_eq λi _=>by
   have:=k (0+i) j
   rw[<- this];congr 1<;>lia
def B5:SpD:=λds R=>∃ n:Int,ds=[.int n]/\0<n/\n<=1000/\∀ ns:List Int,ns.length<=1000->(∀ m,m∈ns↔1<=m/\m<=n/\n % m=0)->R (.lst (ns.map D.int))
def B6:SpD:=λds R=>∃ (p:Pat) (w h s x y:Int),ds=[.tup [.int w,.int h,.int s],aR p w h,.int x,.int y]/\p.Ok/\p.Fam w h s/\w<=720/\h<=720/\∀ b,(b=true↔p.Keeps x y)->R (.bl b)
structure Pat.LeastW(p:Pat)(w m:Int):Prop where
 lo:1<=m
 hi:m<=w
 md:w % m=0
 k:p.Keeps m 0
 l:∀ d,1<=d->d<=w->w % d=0->p.Keeps d 0->m<=d
theorem Pat.LeastW.eq{p:Pat}{w h s w' h' s' m:Int}(F:p.Fam w h s)(L:p.Least w' h' s')(a:p.LeastW w m):m=w':=by
 have w0:=L.f.w0
 have k:p.Keeps w' 0:=(L.lat _ _).mp (InF.one _ _ _)
 obtain⟨i,j,e1,e2⟩:=(L.lat m 0).mpr a.k
 have h0:=L.f.h0
 have j0:j=0:=by
  rcases Gb j 0 with q|q|q
  ·have:=GK q h0;lia
  ·exact q
  ·have:=E5 q h0;lia
 subst j0
 rw[GC,GI] at e1
 have lo:=a.lo
 have i0:0<i:=by
  rcases Gb i 0 with q|q|q
  ·have:=GK q w0;lia
  ·subst q;lia
  ·exact q
 have h1:w'<=m:=by
  rw[e1]
  have:=E6 (show 1<=i by lia) (show 0<=w' by lia)
  lia
 obtain⟨i2,j2,f1,f2⟩:=(L.lat w 0).mpr (F.keeps (InF.one w h s))
 have Pj:j2=0:=by
  rcases Gb j2 0 with q|q|q
  ·have:=GK q h0;lia
  ·exact q
  ·have:=E5 q h0;lia
 subst Pj
 have h2:=a.l w' (by lia) (by have:=a.hi;lia) (by rw[f1,GC,GI];exact Gx _ _) k
 lia
def B7:SpD:=λds R=>∃ (p:Pat) (w h s:Int),ds=[.tup [.int w,.int h,.int s],aR p w h]/\p.Ok/\p.Fam w h s/\w<=720/\h<=720/\∀ m,p.LeastW w m->R (.int m)
def B8:SpD:=λds R=>∃ (p:Pat) (w h s m y:Int),ds=[.tup [.int w,.int h,.int s],aR p w h,.int m,.int y]/\p.Ok/\p.Fam w h s/\w<=720/\h<=720/\0<=m/\m<=720/\(∀ t,0<=t->t<m->p.Keeps t y->(∀ u,0<=u->u<t->¬ p.Keeps u y)->R (.int t))/\((∀ t,0<=t->t<m->¬ p.Keeps t y)->R .non)
theorem B9{j h:Int}(h0:0<h)(e:h=j*h):j=1:=by
 have:(j - 1)*h=0:=by rw[GF,<- e];lia
 rcases Gm.mp this with q|q<;>lia
theorem small_mul{i w:Int}(w0:0<w)(a: -w<i*w)(b:i*w<w):i=0:=by
 rcases Gb i 0 with q|q|q
 ·have:=E6 (show i<=-1 by lia) (show 0<=w by lia);lia
 ·exact q
 ·have:=E6 (show 1<=i by lia) (show 0<=w by lia);lia
theorem Pat.Least.slant{p:Pat}{w h s t:Int}(L:p.Least w h s)(a:0<=t)(b:t<w)(k:p.Keeps t h):t=s:=by
 obtain⟨i,j,e1,e2⟩:=(L.lat t h).mpr k
 have j1:=B9 L.f.h0 e2
 subst j1
 have s0:=L.f.s0
 have sw:=L.f.sw
 have:=small_mul (i:=i) L.f.w0 (by lia) (by lia)
 subst this
 lia
theorem Pat.Least.row{p:Pat}{w h s x y:Int}(L:p.Least w h s)(k:p.Keeps x y):p.Keeps (x % w) y:=by
 have e:=Fv x w
 have:=k.sub (((L.lat _ _).mp (InF.one w h s)).mul (x / w))
 rw[GJ,GD] at this
 rw[e,E9];exact this
theorem Pat.Least.down{p:Pat}{w h s x y:Int}(L:p.Least w h s)(k:p.Keeps x y)(y0:0<y):h<=y/\y % h=0:=by
 obtain⟨i,j,e1,e2⟩:=(L.lat x y).mpr k
 have h0:=L.f.h0
 have j0:0<j:=by
  rcases Gb j 0 with q|q|q
  ·have:=GK q h0;lia
  ·subst q;lia
  ·exact q
 have:=E6 (show 1<=j by lia) (show 0<=h by lia)
 exact⟨by lia,by rw[e2];exact Gx _ _⟩
def Ca:SpD:=λds R=>∃ (p:Pat) (d:D),ds=[d]/\aX p d/\p.Ok/\∀ w h s,p.Least w h s->w*h<=720->w<=720->h<=720->R (.tup [.int w,.int h,.int s])
def dm(p:Pat)(w h s:Int):D:= .tup [.int w,.int h,.int s,.tup ((EN h.toNat).map λ(y:Nat)=>D.str (az p 0 (y:Int) w.toNat))]
def Cb:SpD:=λds R=>∃ (p:Pat) (d:D),ds=[d]/\aX p d/\p.Ok/\∀ w h s,p.Least w h s->w*h<=720->w<=720->h<=720->R (dm p w h s)
def Cc:SpD:=λds R=>∃ p q r:Int,ds=[.tup [.int p,.int q,.int r],.tup [.int p,.int q,.int r]]/\R (.bl true)
theorem Cd{p:Pat}{R:D->Prop}(ok:p.Ok)(h:∀ w h s,p.Fam w h s->w*h<=720->w<=720->h<=720->R (.tup [.int w,.int h,.int s])):kh [.lst (p.leaves.map Leaf.D)] R:=by
 refine⟨p.leaves,p.depth,rfl,λz=>by have:=Pat.leaves_pos p;rw[z] at this;simp at this,λl hl=>Pat.leaf_good ok.wf l hl,λw k s f lat=>?_⟩
 have F:p.Fam w k s:=⟨f,λx y=>(lat x y).trans (Pat.lat_leaves p x y)⟩
 have sm:=ok.fits.small F
 have wh:w*k<=720:=by
  obtain⟨w',h',s',f',hb⟩:=ok.fits
  obtain⟨rfl,rfl,_⟩:=F.uniq f'
  exact hb
 exact⟨λ_=>h w k s F wh sm.2.1 sm.2.2.2.1,λz=>by lia⟩
def FamD(p:Pat):D->Prop:=λx=>∃ w h s:Int,x= .tup [.int w,.int h,.int s]/\p.Fam w h s/\w*h<=720/\w<=720/\h<=720
theorem Ce{p:Pat}(ok:p.Ok):kh [.lst (p.leaves.map Leaf.D)] (FamD p):=Cd ok λw h s F a b c=>⟨w,h,s,rfl,F,a,b,c⟩
def Cf(p:Pat):D->Prop:=λx=>∃ w h s:Int,x= .tup [.int w,.int h,.int s]/\p.Least w h s/\w*h<=720/\w<=720/\h<=720
theorem Pat.Least.le{p:Pat}{w h s w' h' s':Int}(F:p.Fam w h s)(L:p.Least w' h' s'):w'*h'<=w*h:=(InF.le L.f.w0 L.f.h0 F.f.w0 F.f.h0 (λx y q=>(L.lat x y).mpr (F.keeps q))).1
theorem Cg(p:Pat)(x y:Int)(n:Nat):Txt.join "" ((EN n).map λ(i:Nat)=>(⟨#[bE (p.show (x+(i:Int)) y)]⟩:Str))=az p x y n:=(StrLaws.glued_eq_join _ _).trans (tM (λi=>bE (p.show (x+(i:Int)) y)) n)
theorem Ch(f:Nat->Nat)(n:Nat):(((EN n).map λ(i:Nat)=>(⟨#[f i]⟩:Str)).map (·.length)).sum=n:=by
 rw[jZ (w:=1) (λl hl=>by obtain⟨i,_,rfl⟩:=Fh.mp hl;rfl),EU,Ga,Nat.mul_one]
theorem kx(f:Nat->Str)(n:Nat):((EN n).map λ(i:Nat)=>D.str (f i))=((EN n).map f).map D.str:=by rw[GA];rfl
def Ci:SpD:=λds R=>∃ (p:Pat) (w h s:Int),ds=[.lst (p.leaves.map Leaf.D),.tup [.int w,.int h,.int s]]/\p.Wf/\p.depth<=5/\0<w/\w<=720/\0<h/\h<=720/\R (aR p w h)
def Cj:SpD:=λds R=>∃ (p:Pat) (w h s x y:Int),ds=[aR p w h,.tup [.int w,.int h,.int s],.int x,.int y]/\p.Ok/\p.Fam w h s/\w<=720/\h<=720/\∀ b,(b=true↔p.Keeps x y)->R (.bl b)
theorem Pat.Least.first{p:Pat}{w h s x y:Int}(L:p.Least w h s)(k:p.Keeps x y)(y0:0<=y)(yh:y<h)(x0:0<=x)(xw:x<w):x=0/\y=0:=by
 obtain⟨i,j,e1,e2⟩:=(L.lat x y).mpr k
 have h0:=L.f.h0
 have j0:=small_mul (i:=j) h0 (by lia) (by lia)
 subst j0
 have i0:=small_mul (i:=i) L.f.w0 (by lia) (by lia)
 subst i0
 lia
def Ck:SpD:=λds R=>∃ (p:Pat) (w h s:Int),ds=[aR p w h,.tup [.int w,.int h,.int s]]/\p.Ok/\p.Fam w h s/\w<=720/\h<=720/\∀ w' h' s',p.Least w' h' s'->w'*h'<=w*h->w'<=w->h'<=h->R (.tup [.int w',.int h',.int s'])
theorem tX{p:Pat}(X Y:Int):(Pat.mir p).Keeps X Y↔p.Keeps (-X) Y:=by
 constructor<;>intro h x y
 ·have:=h (-x) y
  simp only[Pat.show,GL,HV] at this
  exact this
 ·have:=h (-x) y
  simp only[Pat.show,GL]
  exact this
theorem tY{p:Pat}(X Y:Int):(Pat.tur p).Keeps X Y↔p.Keeps Y (-X):=by
 constructor<;>intro h x y
 ·have:=h (-y) x
  simp only[Pat.show,GL,HV] at this
  exact this
 ·have:=h y (-x)
  simp only[Pat.show,GL]
  exact this
theorem tZ{p:Pat}(a b X Y:Int):(Pat.sh a b p).Keeps X Y↔p.Keeps X Y:=by
 constructor<;>intro h x y
 ·have:=h (x+a) (y+b)
  simp only[Pat.show] at this
  rw[show x+a+X - a=x+X by lia,show y+b+Y - b=y+Y by lia,show x+a - a=x by lia,show y+b - b=y by lia] at this
  exact this
 ·have:=h (x - a) (y - b)
  simp only[Pat.show]
  rw[show x+X - a=x - a+X by lia,show y+Y - b=y - b+Y by lia]
  exact this
theorem Pat.Least.mir{p:Pat}{w h s:Int}(k:p.Least w h s):(Pat.mir p).Least w h (-s % w):=by
 refine⟨⟨k.f.w0,k.f.h0,bV k.f.w0,bW k.f.w0⟩,λx y=>?_⟩
 rw[tX,<- k.lat]
 have e:=Fv (-s) w
 generalize -s % w=r at e
 generalize -s / w=t at e
 constructor
 ·rintro⟨i,j,rfl,rfl⟩
  exact⟨j*t - i,j,by rw[e];grind,rfl⟩
 ·rintro⟨i,j,ex,rfl⟩
  exact⟨j*t - i,j,by rw[e];grind,rfl⟩
theorem Pat.Least.tur{p:Pat}{w h s w' h' s':Int}(k:p.Least w h s)(f:FamOf 0 w (-h) s w' h' s'):(Pat.tur p).Least w' h' s':=by
 refine⟨⟨f.1,f.2.1,f.2.2.1,f.2.2.2.1⟩,λx y=>?_⟩
 rw[tY,<- k.lat,f.lat]
 constructor
 ·rintro⟨i,j,rfl,rfl⟩
  exact⟨i,j,by grind,by grind⟩
 ·rintro⟨i,j,ex,ey⟩
  exact⟨i,j,by grind,by grind⟩
theorem Pat.Least.sh{p:Pat}{w h s:Int}(a b:Int)(k:p.Least w h s):(Pat.sh a b p).Least w h s:=⟨k.f,λx y=>by rw[tZ,k.lat]⟩
structure Mv(p q:Pat)(b0 b1 b2 b3:Int):Prop where
 keeps:∀ X Y,q.Keeps X Y↔p.Keeps (b0*X+b1*Y) (b2*X+b3*Y)
 leaf:∀ l ls,p.leaves=l::ls->∃ l' ls',q.leaves=l'::ls'/\l'.w0=l.w0*b0+l.w1*b2/\l'.w1=l.w0*b1+l.w1*b3/\l'.w2=l.w2*b0+l.w3*b2/\l'.w3=l.w2*b1+l.w3*b3
 area:∀ w h s,p.Least w h s->∃ w' h' s',q.Least w' h' s'/\w'*h'=w*h
theorem Mv.refl(p:Pat):Mv p p 1 0 0 1:=⟨λX Y=>by simp,λl ls e=>⟨l,ls,e,by simp,by simp,by simp,by simp⟩,λw h s L=>⟨w,h,s,L,rfl⟩⟩
theorem Mv.mir{p q:Pat}{b0 b1 b2 b3:Int}(m:Mv p q b0 b1 b2 b3):Mv p (.mir q) (-b0) b1 (-b2) b3:=by
 refine⟨λX Y=>?_,λl ls e=>?_,λw h s L=>?_⟩
 ·rw[tX,m.keeps,FM,FM,FU,FU]
 ·obtain⟨l',ls',e',h0,h1,h2,h3⟩:=m.leaf l ls e
  refine⟨_,_,by rw[Pat.leaves,e',EY],?_,?_,?_,?_⟩<;>simp only[Leaf.by,h0,h1,h2,h3]<;>grind
 ·obtain⟨w',h',s',L',e⟩:=m.area w h s L
  exact⟨_,_,_,L'.mir,e⟩
theorem Mv.tur{p q:Pat}{b0 b1 b2 b3:Int}(m:Mv p q b0 b1 b2 b3):Mv p (.tur q) (-b1) b0 (-b3) b2:=by
 refine⟨λX Y=>?_,λl ls e=>?_,λw h s L=>?_⟩
 ·rw[tY,m.keeps,FM,FM,FU,FU,GM (b0*Y),GM (b2*Y)]
 ·obtain⟨l',ls',e',h0,h1,h2,h3⟩:=m.leaf l ls e
  refine⟨_,_,by rw[Pat.leaves,e',EY],?_,?_,?_,?_⟩<;>simp only[Leaf.by,h0,h1,h2,h3]<;>grind
 ·obtain⟨w',h',s',L',e⟩:=m.area w h s L
  obtain⟨w2,h2,s2,f,e2⟩:=fN (s:=s') L'.f.w0 L'.f.h0
  exact⟨_,_,_,L'.tur f,by lia⟩
theorem Mv.sh{p q:Pat}{b0 b1 b2 b3:Int}(a b:Int)(m:Mv p q b0 b1 b2 b3):Mv p (.sh a b q) b0 b1 b2 b3:=by
 refine⟨λX Y=>?_,λl ls e=>?_,λw h s L=>?_⟩
 ·rw[tZ,m.keeps]
 ·obtain⟨l',ls',e',h0,h1,h2,h3⟩:=m.leaf l ls e
  refine⟨_,_,by rw[Pat.leaves,e',EY],?_,?_,?_,?_⟩<;>simp only[Leaf.by,h0,h1,h2,h3]<;>grind
 ·obtain⟨w',h',s',L',e⟩:=m.area w h s L
  exact⟨_,_,_,L'.sh a b,e⟩
theorem Cl{p:Pat}{w h k:Int}(a:0<=k)(b:k<h):atI ((EN h.toNat).map λ(y:Nat)=>D.str (az p 0 (y:Int) w.toNat)) k=some (.str (az p 0 k w.toNat)):=by
 have e:k=((k.toNat:Nat):Int):=by lia
 rw[e]
 exact ce (by rw[E3,FF (by lia)];simp)
theorem ub{p:Pat}{w i j:Int}(a:0<=i)(b:i<w):atI (cs (az p 0 j w.toNat)) i=some (bE (p.show i j)):=by
 have e:i=((i.toNat:Nat):Int):=by lia
 rw[e]
 exact ce (by rw[dh,E3,FF (by lia)];simp)
structure Side(a w:Int)(A t:Nat):Prop where
 n:bu a
 A4:A<=4000000000000
 t1:t<=1000
 e:bu (a+A*w+t - 1)
theorem Side.of{a w:Int}{A t:Nat}(n:bu a)(w0:0<w)(hA:(A:Int)<=(1000000000000 - a+1) / w)(h:(t<=720/\(t:Int)<=1000000000000 - a+1 - A*w/\¬ (a=-1000000000000/\A=0))\/(a=-1000000000000/\A=0/\1<=t/\t<=720)):Side a w A t:=by
 have h1:=E6 hA (show 0<=w by omega)
 have h2:=Int.ediv_mul_le (1000000000000 - a+1) (show w≠0 by omega)
 have h3:(A:Int)<=A*w:=by
  have:=Gz (show 1<=w by omega) (show 0<=(A:Int) by omega)
  omega
 unfold bu at n
 rcases h with⟨t7,ht,ne⟩|⟨e1,rfl,t0,t7⟩
 ·refine⟨n,by omega,by omega,?_,by omega⟩
  by_cases z:A=0
  ·subst z;simp at ne ⊢;omega
  ·omega
 ·refine⟨n,by omega,by omega,?_,?_⟩<;>simp<;>omega
end My
end
section
namespace My
local macro_rules | `(tactic| k_memK) => `(tactic| exact⟨rfl, rfl, rfl, by decide +kernel, rfl, by decide +kernel, by decide +kernel⟩)
local macro_rules | `(tactic| k_places) => `(tactic| try simp only[Fd, Fe, My.aV])
open PySem PySem.Spec PyProof.Rows L2
def top(i:Nat):Stmt:=PySem.Challenge.pw_motiffield_k41_whole_brought_back.main.body.getD i (.Pass ⟨0,0,0,0⟩)
abbrev ky:Stmt:=top 59
abbrev kz:List Str:=["_law_script","_law_k"]
theorem Cm:FnScope ["_law_script","_law_k"] kz (ag ky):=by k_memK
abbrev kA:Stmt:=top 61
abbrev kB:List Str:=["_law_script","_law_k","_law_many"]
theorem sc__law_draws:FnScope ["_law_script","_law_k","_law_many","_law_left","_law_drawn","_law_turn","_law_seed"] kB (ag kA):=by k_memK
abbrev kC:Stmt:=top 64
abbrev kD:List Str:=["_law_draws_here"]
theorem sc__law_lines:FnScope ["_law_draws_here","_law_wide","_law_tall","_law_signs","_law_lines_here","_law_j","_law_line","_law_i","_law_place","_law_value"] kD (ag kC):=by k_memK
abbrev kE:Stmt:=top 62
abbrev kF:List Str:=["_law_draws_here"]
theorem sc__law_shift_pair:FnScope ["_law_draws_here","_law_a","_law_b","_law_c","_law_d"] kF (ag kE):=by k_memK
abbrev kG:Stmt:=top 63
abbrev kH:List Str:=["_law_lines_here","_law_one","_law_two"]
theorem sc__law_motif_text:FnScope ["_law_lines_here","_law_one","_law_two","_law_tail"] kH (ag kG):=by k_memK
abbrev kI:Stmt:=top 65
abbrev kJ:List Str:=["_law_script","_law_k"]
theorem sc__law_motif:FnScope ["_law_script","_law_k","_law_draws_here","_law_lines_here","_law_one","_law_two","_law_leaf"] kJ (ag kI):=by k_memK
abbrev gZ:Stmt:=top 66
abbrev kK:List Str:=["_law_part","_law_draw"]
theorem sc__law_wrapped:FnScope ["_law_part","_law_draw","_law_across","_law_down","_law_old","_law_new","_law_shift","_law_head","_law_ways","_law_by","_law_leaves","_law_leaf","_law_a","_law_b","_law_c","_law_d","_law_e","_law_f","_law_way","_law_hues"] kK (ag gZ):=by k_memK
abbrev kL:Stmt:=top 70
abbrev kM:List Str:=["_law_a","_law_b"]
theorem sc__law_gcd:FnScope ["_law_a","_law_b"] kM (ag kL):=by k_memK
abbrev kN:Stmt:=top 67
abbrev kO:List Str:=["_law_one","_law_two","_law_u","_law_v"]
theorem sc__law_on:FnScope ["_law_one","_law_two","_law_u","_law_v","_law_size"] kO (ag kN):=by k_memK
abbrev kP:Stmt:=top 72
abbrev kQ:List Str:=["_law_leaf"]
theorem sc__law_leaf_family:FnScope ["_law_leaf","_law_a","_law_b","_law_c","_law_d","_law_e","_law_f","_law_one","_law_two","_law_high","_law_wide","_law_lean"] kQ (ag kP):=by k_memK
abbrev kR:Stmt:=top 71
abbrev kS:List Str:=["_law_three","_law_x","_law_y"]
theorem Cn:FnScope ["_law_three","_law_x","_law_y"] kS (ag kR):=by k_memK
abbrev kT:Stmt:=top 73
abbrev kU:List Str:=["_law_one","_law_two"]
theorem sc__law_both:FnScope ["_law_one","_law_two","_law_wide","_law_high","_law_x"] kU (ag kT):=by k_memK
abbrev kW:Stmt:=top 74
abbrev kX:List Str:=["_law_leaves"]
theorem sc__law_family:FnScope ["_law_leaves","_law_both_here","_law_leaf"] kX (ag kW):=by k_memK
abbrev kY:Stmt:=top 75
abbrev kZ:List Str:=["_law_upper","_law_lower"]
theorem sc__law_over:FnScope ["_law_upper","_law_lower","_law_leaves"] kZ (ag kY):=by k_memK
abbrev lf:Stmt:=top 76
abbrev lh:List Str:=["_law_script","_law_k"]
theorem sc__law_pattern:FnScope ["_law_script","_law_k","_law_plan","_law_part","_law_turn","_law_step","_law_other"] lh (ag lf):=by k_memK
abbrev hJ:Stmt:=top 81
abbrev ll:List Str:=["_law_script"]
theorem sc__law_word:FnScope ["_law_script","_law_draw","_law_across","_law_down","_law_there","_law_back"] ll (ag hJ):=by k_memK
abbrev lm:Stmt:=bg (top 2) 0
abbrev lp:List Str:=["self","place"]
theorem Co:FnScope ["self","place"] lp (ag lm):=by k_memK
abbrev lq:Stmt:=bg (top 47) 1
abbrev lr:List Str:=["self","allowed"]
theorem Cp:FnScope ["self","allowed"] lr (ag lq):=by k_memK
abbrev lu:Stmt:=bg (top 47) 2
abbrev lv:List Str:=["self","allowed"]
theorem sc_Reading_take:FnScope ["self","allowed","sign"] lv (ag lu):=by k_memK
abbrev ly:Stmt:=top 50
abbrev lz:List Str:=["reading","least","most"]
theorem sc_line_from:FnScope ["reading","least","most","line","column"] lz (ag ly):=by k_memK
abbrev lC:Stmt:=top 51
abbrev lD:List Str:=["reading"]
theorem sc_lines_from:FnScope ["reading","lines","width"] lD (ag lC):=by k_memK
abbrev lF:Stmt:=top 48
abbrev lG:List Str:=["reading"]
theorem sc_number_from:FnScope ["reading","written"] lG (ag lF):=by k_memK
abbrev lH:Stmt:=top 49
abbrev lJ:List Str:=["reading"]
theorem sc_shift_from:FnScope ["reading","x"] lJ (ag lH):=by k_memK
abbrev lK:Stmt:=top 7
abbrev lL:List Str:=["first","second"]
theorem sc_levelled:FnScope ["first","second","times","rest"] lL (ag lK):=by k_memK
abbrev lM:Stmt:=top 9
abbrev lN:List Str:=["first","second"]
theorem sc_spread:FnScope ["first","second","pair","width"] lN (ag lM):=by k_memK
abbrev lP:Stmt:=top 10
abbrev lQ:List Str:=["family","x","y"]
theorem sc_home:FnScope ["family","x","y","width","height","slant"] lQ (ag lP):=by k_memK
abbrev lR:Stmt:=top 16
abbrev lU:List Str:=["lines","family"]
theorem sc_hues_by_home:FnScope ["lines","family","hues","row","line","column","sign"] lU (ag lR):=by k_memK
abbrev lV:Stmt:=bg (top 17) 0
abbrev lW:List Str:=["self","place","lines","first","second"]
theorem Cq:FnScope ["self","place","lines","first","second"] lW (ag lV):=by k_memK
abbrev lY:Stmt:=top 52
abbrev lZ:List Str:=["reading"]
theorem sc_motif_from:FnScope ["reading","place","lines","first","second"] lZ (ag lY):=by k_memK
abbrev ma:Stmt:=bg (top 20) 0
abbrev me:List Str:=["self","form"]
theorem Cr:FnScope ["self","form"] me (ag ma):=by k_memK
abbrev mf:Stmt:=bg (top 21) 0
abbrev mi:List Str:=["self","form"]
theorem Cs:FnScope ["self","form"] mi (ag mf):=by k_memK
abbrev mj:Stmt:=bg (top 18) 0
abbrev mm:List Str:=["self","above","below"]
theorem Ct:FnScope ["self","above","below"] mm (ag mj):=by k_memK
abbrev mn:Stmt:=bg (top 19) 0
abbrev mo:List Str:=["self","form","x","y"]
theorem Cu:FnScope ["self","form","x","y"] mo (ag mn):=by k_memK
abbrev mv:Stmt:=bg (top 22) 0
abbrev mx:List Str:=["self","form","old","new"]
theorem Cw:FnScope ["self","form","old","new"] mx (ag mv):=by k_memK
abbrev hU:Stmt:=top 53
abbrev fQ:List Str:=["reading","around"]
theorem sc_over_from:FnScope ["reading","around","above","below"] fQ (ag hU):=by k_memK
abbrev hV:Stmt:=top 54
abbrev fR:List Str:=["reading","around"]
theorem sc_shifted_from:FnScope ["reading","around","shift"] fR (ag hV):=by k_memK
abbrev hZ:Stmt:=top 55
abbrev fS:List Str:=["reading","around"]
theorem sc_rehue_from:FnScope ["reading","around","old","new"] fS (ag hZ):=by k_memK
abbrev ia:Stmt:=top 56
abbrev cH:List Str:=["reading","around"]
theorem sc_form_from:FnScope ["reading","around","sign"] cH (ag ia):=by k_memK
abbrev mz:Stmt:=bg (top 47) 0
abbrev mB:List Str:=["self","text"]
theorem Cy:FnScope ["self","text"] mB (ag mz):=by k_memK
abbrev mC:Stmt:=bg (top 46) 0
abbrev mD:List Str:=["self","text","shifts","form"]
theorem Cz:FnScope ["self","text","shifts","form"] mD (ag mC):=by k_memK
abbrev mF:Stmt:=bg (top 3) 0
abbrev mG:List Str:=["self","place"]
theorem CA:FnScope ["self","place"] mG (ag mF):=by k_memK
abbrev mH:Stmt:=top 8
abbrev mI:List Str:=["one","two"]
theorem sc_measure:FnScope ["one","two","last"] mI (ag mH):=by k_memK
abbrev mJ:Stmt:=top 11
abbrev mK:List Str:=["one","two"]
theorem sc_met:FnScope ["one","two","common","width","rise","start","gap","climbs","steps"] mK (ag mJ):=by k_memK
abbrev mL:Stmt:=top 12
abbrev mM:List Str:=["family"]
theorem CB:FnScope ["family"] mM (ag mL):=by k_memK
abbrev mN:Stmt:=top 13
abbrev mO:List Str:=["family"]
theorem CC:FnScope ["family"] mO (ag mN):=by k_memK
abbrev ib:Stmt:=bg (top 17) 1
abbrev cz:List Str:=["self"]
theorem CD:FnScope ["self"] cz (ag ib):=by k_memK
abbrev ic:Stmt:=bg (top 18) 1
abbrev ie:List Str:=["self"]
theorem sc_Over_family:FnScope ["self","first"] ie (ag ic):=by k_memK
abbrev ig:Stmt:=bg (top 19) 1
abbrev ii:List Str:=["self"]
theorem CF:FnScope ["self"] ii (ag ig):=by k_memK
abbrev ij:Stmt:=bg (top 20) 1
abbrev ik:List Str:=["self"]
theorem CG:FnScope ["self"] ik (ag ij):=by k_memK
abbrev il:Stmt:=bg (top 21) 1
abbrev im:List Str:=["self"]
theorem CH:FnScope ["self"] im (ag il):=by k_memK
abbrev io:Stmt:=bg (top 22) 1
abbrev ip:List Str:=["self"]
theorem CI:FnScope ["self"] ip (ag io):=by k_memK
abbrev mQ:Stmt:=top 57
abbrev mR:List Str:=["text"]
theorem sc_read:FnScope ["text","reading","form","family"] mR (ag mQ):=by k_memK
abbrev mU:Stmt:=top 27
abbrev mV:List Str:=["x","y"]
theorem CJ:FnScope ["x","y"] mV (ag mU):=by k_memK
abbrev iq:Stmt:=bg (top 17) 2
abbrev cA:List Str:=["self","x","y"]
theorem CK:FnScope ["self","x","y"] cA (ag iq):=by k_memK
abbrev ir:Stmt:=bg (top 18) 2
abbrev iu:List Str:=["self","x","y"]
theorem sc_Over_shows:FnScope ["self","x","y","hue"] iu (ag ir):=by k_memK
abbrev iv:Stmt:=bg (top 19) 2
abbrev iw:List Str:=["self","x","y"]
theorem CL:FnScope ["self","x","y"] iw (ag iv):=by k_memK
abbrev iy:Stmt:=bg (top 20) 2
abbrev iz:List Str:=["self","x","y"]
theorem CM:FnScope ["self","x","y"] iz (ag iy):=by k_memK
abbrev iA:Stmt:=bg (top 21) 2
abbrev iB:List Str:=["self","x","y"]
theorem CN:FnScope ["self","x","y"] iB (ag iA):=by k_memK
abbrev iC:Stmt:=bg (top 22) 2
abbrev iD:List Str:=["self","x","y"]
theorem sc_Rehue_shows:FnScope ["self","x","y","hue"] iD (ag iC):=by k_memK
abbrev mW:Stmt:=top 28
abbrev mY:List Str:=["pattern","x","y"]
theorem CO:FnScope ["pattern","x","y"] mY (ag mW):=by k_memK
abbrev iE:Stmt:=top 29
abbrev mZ:List Str:=["pattern","x","y","many"]
theorem CP:FnScope ["pattern","x","y","many"] mZ (ag iE):=by k_memK
abbrev iF:Stmt:=top 30
abbrev ng:List Str:=["pattern"]
theorem CQ:FnScope ["pattern"] ng (ag iF):=by k_memK
abbrev iG:Stmt:=top 33
abbrev nh:List Str:=["number"]
theorem CS:FnScope ["number"] nh (ag iG):=by k_memK
abbrev nj:Stmt:=top 31
abbrev nq:List Str:=["family","rows","x","y"]
theorem sc_round_row:FnScope ["family","rows","x","y","cell","row"] nq (ag nj):=by k_memK
abbrev nt:Stmt:=top 34
abbrev nu:List Str:=["family","rows","x","y"]
theorem sc_changes_nothing:FnScope ["family","rows","x","y","step","row"] nu (ag nt):=by k_memK
abbrev iH:Stmt:=top 35
abbrev nv:List Str:=["family","rows"]
theorem CT:FnScope ["family","rows"] nv (ag iH):=by k_memK
abbrev nw:Stmt:=top 36
abbrev ny:List Str:=["family","rows","width","height"]
theorem sc_slant_at:FnScope ["family","rows","width","height","slant"] ny (ag nw):=by k_memK
abbrev iI:Stmt:=top 37
abbrev nz:List Str:=["pattern"]
theorem sc_least_shifts:FnScope ["pattern","family","rows","width","height"] nz (ag iI):=by k_memK
abbrev iJ:Stmt:=top 38
abbrev nA:List Str:=["pattern"]
theorem sc_least_form:FnScope ["pattern","family","rows"] nA (ag iJ):=by k_memK
abbrev nB:Stmt:=top 40
abbrev nC:List Str:=["one","two"]
theorem CU:FnScope ["one","two"] nC (ag nB):=by k_memK
abbrev nD:Stmt:=top 79
abbrev nE:List Str:=["_law_lines_here","_law_three","_law_x","_law_y"]
theorem sc__law_keeps:FnScope ["_law_lines_here","_law_three","_law_x","_law_y","_law_j","_law_other","_law_begin"] nE (ag nD):=by k_memK
abbrev nF:Stmt:=top 80
abbrev nG:List Str:=["_law_lines_here","_law_three"]
theorem sc__law_least:FnScope ["_law_lines_here","_law_three","_law_wide","_law_high","_law_lean"] nG (ag nF):=by k_memK
abbrev nH:Stmt:=top 68
abbrev nI:List Str:=["_law_leaf","_law_x","_law_y"]
theorem sc__law_leaf_shows:FnScope ["_law_leaf","_law_x","_law_y","_law_way","_law_u","_law_v","_law_j","_law_i"] nI (ag nH):=by k_memK
abbrev nJ:Stmt:=top 69
abbrev nK:List Str:=["_law_leaves","_law_x","_law_y"]
theorem sc__law_shows:FnScope ["_law_leaves","_law_x","_law_y","_law_leaf","_law_hue"] nK (ag nJ):=by k_memK
abbrev iK:Stmt:=top 78
abbrev nL:List Str:=["_law_leaves","_law_three"]
theorem sc__law_table:FnScope ["_law_leaves","_law_three","_law_lines_here","_law_y"] nL (ag iK):=by k_memK
abbrev nM:Stmt:=top 82
abbrev nN:List Str:=["_law_part"]
theorem sc__law_own:FnScope ["_law_part","_law_three","_law_found"] nN (ag nM):=by k_memK
abbrev nO:Stmt:=top 60
abbrev nP:List Str:=["_law_found"]
theorem CV:FnScope ["_law_found"] nP (ag nO):=by k_memK
abbrev nQ:Stmt:=top 77
abbrev nR:List Str:=["_law_found","_law_due"]
theorem sc__law_numbers:FnScope ["_law_found","_law_due","_law_k"] nR (ag nQ):=by k_memK
abbrev nS:Stmt:=top 83
abbrev nU:List Str:=["_law_found","_law_own_here"]
theorem sc__law_is_form:FnScope ["_law_found","_law_own_here","_law_y"] nU (ag nS):=by k_memK
abbrev nV:Stmt:=top 41
abbrev nW:List Str:=["one","two"]
theorem sc_common_field:FnScope ["one","two","family"] nW (ag nV):=by k_memK
abbrev nX:Stmt:=top 42
abbrev nY:List Str:=["one","two","width","height"]
theorem sc_first_unlike:FnScope ["one","two","width","height","y","x"] nY (ag nX):=by k_memK
abbrev nZ:Stmt:=top 43
abbrev oa:List Str:=["one","two"]
theorem sc_first_parting:FnScope ["one","two","family"] oa (ag nZ):=by k_memK
abbrev iL:Stmt:=top 84
abbrev oe:List Str:=["_law_script"]
theorem sc_law:FnScope ["_law_script","_law_part","_law_moved","_law_step","_law_one","_law_two","_law_told","_law_own_here","_law_other"] oe (ag iL):=by k_memK
structure Pat.Re(p:Pat)(A B:List Nat)(l:Leaf)(ls:List Leaf):Prop where
 leaves:p.leaves=l::ls
 no:91 ∉ A
 tl:p.tl=A++91::(rowsL (l.rows.map cs)++B)
 rows:Rows l.rows
 re:∀ L':List Str,Rows L'->∃ q:Pat,q.leaves={l with rows:=L'}::ls/\q.tl=A++91::(rowsL (L'.map cs)++B)/\q.depth=p.depth/\(∀ x y,q.Lat x y↔p.Lat x y)/\q.Wf
theorem uc:∀ l1 l2:List Str,eqFs (l1.map D.str) (l2.map D.str)=decide (l1=l2)
 |[],[]=>rfl
 |[],_::_=>rfl
 |_::_,[]=>rfl
 |x::l1,y::l2=>by
  rw[EY,EY,eqFs,uc l1 l2]
  show(x==y && decide (l1=l2))=decide (x::l1=y::l2)
  rw[FX]
  simp
theorem iM(l:List Str):(l.map D.str).all bo=true:=by
 rw[GU]
 exact FK.mpr λx _=>rfl
def bz(p:Pat)(w h:Int):List Str:=(EN h.toNat).map λ(y:Nat)=>az p 0 (y:Int) w.toNat
theorem ud(p:Pat)(w h s:Int):dm p w h s= .tup [.int w,.int h,.int s,.tup ((bz p w h).map D.str)]:=by
 unfold dm bz
 rw[kx]
theorem ue{p q:Pat}(i7:p.Ok)(c7:q.Ok){w h s w' h' s':Int}(L:p.Least w h s)(L':q.Least w' h' s'):((eq2s [.int w,.int h,.int s,.tup ((bz p w h).map D.str)] [.int w',.int h',.int s',.tup ((bz q w' h').map D.str)]).all id=true)↔∀ x y,p.show x y=q.show x y:=by
 have e:(eq2s [D.int w,.int h,.int s,.tup ((bz p w h).map D.str)] [.int w',.int h',.int s',.tup ((bz q w' h').map D.str)]).all id=((w==w') && ((h==h') && ((s==s') && (eqFs ((bz p w h).map D.str) ((bz q w' h').map D.str) && true)))):=rfl
 rw[e,uc]
 simp only[Fg,beq_iff_eq,decide_eq_true_eq,Gw]
 constructor
 ·rintro⟨rfl,rfl,rfl,er⟩ x y
  have w0:=L.f.w0
  have h0:=L.f.h0
  rw[<- Pat.show_home w0 h0 (λ_ _ k=>(L.lat _ _).mp k) x y,<- Pat.show_home w0 h0 (λ_ _ k=>(L'.lat _ _).mp k) x y]
  have a0:=bV (a:=x - y / h*s) w0
  have a1:=bW (a:=x - y / h*s) w0
  have b0:=bV (a:=y) h0
  have b1:=bW (a:=y) h0
  have Ma:hmX w h s x y<w:=a1
  have Mb:0<=hmX w h s x y:=a0
  generalize hmX w h s x y=i at Mb Ma
  generalize y % h=j at b0 b1
  have r1:(bz p w h)[j.toNat]?=(bz q w h)[j.toNat]?:=by rw[er]
  unfold bz at r1
  rw[E3,E3,FF (by omega),GV,GV,Option.some.injEq,Fk b0] at r1
  have g1:=ub (p:=p) (w:=w) (i:=i) (j:=j) Mb Ma
  have g2:=ub (p:=q) (w:=w) (i:=i) (j:=j) Mb Ma
  rw[r1,g2] at g1
  have p1:=Pat.show_le i7.wf (by have:=i7.deep;omega) i j
  have p2:=Pat.show_le c7.wf (by have:=c7.deep;omega) i j
  exact(tW p2.1 p2.2 p1.1 p1.2 (Option.some.inj g1)).symm
 ·intro hs
  have kk:∀ X Y,q.Keeps X Y↔p.Keeps X Y:=λX Y=>by
   unfold Pat.Keeps
   simp only[hs]
  obtain⟨rfl,rfl,rfl⟩:=L.uniq ⟨L'.f,λx y=>(L'.lat x y).trans (kk x y)⟩
  refine⟨rfl,rfl,rfl,?_⟩
  unfold bz az
  simp only[hs]
structure ComF(p q:Pat)(w h s:Int):Prop where
 f:Fam0 w h s
 lat:∀ x y,InF w h s x y↔p.Keeps x y/\q.Keeps x y
theorem ComF.uniq{p q:Pat}{w h s w' h' s':Int}(a:ComF p q w h s)(b:ComF p q w' h' s'):w=w'/\h=h'/\s=s':=
 InF.uniq a.f.w0 a.f.h0 a.f.s0 a.f.sw b.f.w0 b.f.h0 b.f.s0 b.f.sw λx y=>(a.lat x y).trans (b.lat x y).symm
theorem ComF.of{p q:Pat}{w1 h1 s1 w2 h2 s2 w h s A:Int}(a:p.Least w1 h1 s1)(b:q.Least w2 h2 s2)(M:MetR w1 h1 s1 w2 h2 s2 w h s A):ComF p q w h s:=
 ⟨⟨M.w0,M.h0,M.s0,M.sw⟩,λx y=>by rw[M.lat,a.lat,b.lat]⟩
theorem ComF.all{p q:Pat}{w h s:Int}(b:ComF p q w h s)(e:∀ x y:Int,0<=x->x<w->0<=y->y<h->p.show x y=q.show x y)(x y:Int):p.show x y=q.show x y:=by
 have w0:=b.f.w0
 have h0:=b.f.h0
 rw[<- Pat.show_home w0 h0 (λx y k=>((b.lat x y).mp k).1) x y,<- Pat.show_home w0 h0 (λx y k=>((b.lat x y).mp k).2) x y]
 exact e _ _ (bV w0) (bW w0) (bV h0) (bW h0)
theorem MetR.le2{w1 h1 s1 w2 h2 s2 w h s A:Int}(M:MetR w1 h1 s1 w2 h2 s2 w h s A)(f1:Fam0 w1 h1 s1)(f2:Fam0 w2 h2 s2)(b1:w1*h1<=720)(b2:w2*h2<=720):w*h<=518400:=by
 have c:=M.cells
 have A0:=M.A0
 have wp:=E5 M.w0 M.h0
 have e1:=Gz (show 1<=A by omega) (show 0<=w*h by omega)
 have p1:=E5 f1.w0 f1.h0
 have p2:=E5 f2.w0 f2.h0
 have e2:=HI b1 b2 (Int.le_of_lt p2) (by omega)
 rw[<- Int.mul_assoc] at e2
 omega
structure Mv2(p q:Pat)(b0 b1 b2 b3 b4 b5:Int):Prop where
 sh:∀ x y,q.show x y=p.show (b0*x+b1*y+b4) (b2*x+b3*y+b5)
 leaf:∀ l ls,p.leaves=l::ls->∃ l' ls',q.leaves=l'::ls'/\(l'.w0=l.w0*b0+l.w1*b2/\l'.w1=l.w0*b1+l.w1*b3/\l'.w2=l.w2*b0+l.w3*b2/\l'.w3=l.w2*b1+l.w3*b3)/\l'.w4=l.w4+l.w0*b4+l.w1*b5/\l'.w5=l.w5+l.w2*b4+l.w3*b5
theorem Mv2.refl(p:Pat):Mv2 p p 1 0 0 1 0 0:=⟨λx y=>by simp,λl ls e=>⟨l,ls,e,by simp,by simp,by simp⟩⟩
theorem Mv2.mir{p q:Pat}{b0 b1 b2 b3 b4 b5:Int}(m:Mv2 p q b0 b1 b2 b3 b4 b5):Mv2 p (.mir q) (-b0) b1 (-b2) b3 b4 b5:=by
 refine⟨λx y=>?_,λl ls e=>?_⟩
 ·simp only[Pat.show,m.sh]
  congr 1<;>grind
 ·obtain⟨l',ls',e',⟨h0,h1,h2,h3⟩,h4,h5⟩:=m.leaf l ls e
  refine⟨_,_,by rw[Pat.leaves,e',EY],⟨?_,?_,?_,?_⟩,?_,?_⟩<;>simp only[Leaf.by,h0,h1,h2,h3,h4,h5]<;>grind
theorem Mv2.tur{p q:Pat}{b0 b1 b2 b3 b4 b5:Int}(m:Mv2 p q b0 b1 b2 b3 b4 b5):Mv2 p (.tur q) (-b1) b0 (-b3) b2 b4 b5:=by
 refine⟨λx y=>?_,λl ls e=>?_⟩
 ·simp only[Pat.show,m.sh]
  congr 1<;>grind
 ·obtain⟨l',ls',e',⟨h0,h1,h2,h3⟩,h4,h5⟩:=m.leaf l ls e
  refine⟨_,_,by rw[Pat.leaves,e',EY],⟨?_,?_,?_,?_⟩,?_,?_⟩<;>simp only[Leaf.by,h0,h1,h2,h3,h4,h5]<;>grind
theorem Mv2.shift{p q:Pat}{b0 b1 b2 b3 b4 b5:Int}(a b:Int)(m:Mv2 p q b0 b1 b2 b3 b4 b5):Mv2 p (.sh a b q) b0 b1 b2 b3 (b4 - b0*a - b1*b) (b5 - b2*a - b3*b):=by
 refine⟨λx y=>?_,λl ls e=>?_⟩
 ·simp only[Pat.show,m.sh]
  congr 1<;>grind
 ·obtain⟨l',ls',e',⟨h0,h1,h2,h3⟩,h4,h5⟩:=m.leaf l ls e
  refine⟨_,_,by rw[Pat.leaves,e',EY],⟨?_,?_,?_,?_⟩,?_,?_⟩<;>simp only[Leaf.by,h0,h1,h2,h3,h4,h5]<;>grind
def iN(p q:Pat):Prop:=∃ b0 b1 b2 b3 b4 b5,Mv2 p q b0 b1 b2 b3 b4 b5
theorem Wraps.moved2{p q:Pat}{H:Prop}(no:¬ H){R:My.D->Prop}(h:q.Ok)(m:iN p q)(hR:∀ q':Pat,q'.Ok->iN p q'->R q'.D):Wraps q H R:=by
 obtain⟨b0,b1,b2,b3,b4,b5,m⟩:=m
 refine⟨λ_=>hR q h ⟨_,_,_,_,_,_,m⟩,λhd=>⟨hR _ ⟨h.wf,?_,h.fits.mir⟩ ⟨_,_,_,_,_,_,m.mir⟩,hR _ ⟨h.wf,?_,h.fits.tur⟩ ⟨_,_,_,_,_,_,m.tur⟩,λa b ha hb=>hR _ ⟨⟨ha,hb,h.wf⟩,?_,h.fits.sh a b⟩ ⟨_,_,_,_,_,_,m.shift a b⟩,λz=>absurd z no⟩⟩<;>(simp only[Pat.depth];omega)
theorem Mv2.same{p q:Pat}{b0 b1 b2 b3 b4 b5:Int}(m:Mv2 p q b0 b1 b2 b3 b4 b5){l l':Leaf}{n:Nat}(nr:l.Near n)(h:l'.w0=l.w0*b0+l.w1*b2/\l'.w1=l.w0*b1+l.w1*b3/\l'.w2=l.w2*b0+l.w3*b2/\l'.w3=l.w2*b1+l.w3*b3)(h4:l'.w4=l.w4+l.w0*b4+l.w1*b5)(h5:l'.w5=l.w5+l.w2*b4+l.w3*b5)
  (e:l'.w0=l.w0/\l'.w1=l.w1/\l'.w2=l.w2/\l'.w3=l.w3/\l'.w4=l.w4/\l'.w5=l.w5) (x y:Int):p.show x y=q.show x y:=by
 obtain⟨a0,a1,a2,a3⟩:=h
 obtain⟨e0,e1,e2,e3,e4,e5⟩:=e
 rw[e0] at a0;rw[e1] at a1;rw[e2] at a2;rw[e3] at a3;rw[e4] at h4;rw[e5] at h5
 have key:b0=1/\b1=0/\b2=0/\b3=1/\b4=0/\b5=0:=by
  clear e0 e1 e2 e3 e4 e5 m
  rcases nr.u0 with⟨u0,u1,u2,u3⟩|⟨u0,u1,u2,u3⟩
  ·rcases(by omega:l.w0=1\/l.w0=-1) with z|z<;>rcases(by omega:l.w3=1\/l.w3=-1) with z'|z'<;>rw[z,u1] at a0 a1 h4<;>rw[u2,z'] at a2 a3 h5<;>omega
  ·rcases(by omega:l.w1=1\/l.w1=-1) with z|z<;>rcases(by omega:l.w2=1\/l.w2=-1) with z'|z'<;>rw[u0,z] at a0 a1 h4<;>rw[z',u3] at a2 a3 h5<;>omega
 obtain⟨rfl,rfl,rfl,rfl,rfl,rfl⟩:=key
 rw[m.sh]
 simp
theorem CW{p q:Pat}(e:∀ x y,p.show x y=q.show x y)(w h s:Int):dm q w h s=dm p w h s/\aR q w h=aR p w h:=by
 have r:∀ x y n,az q x y n=az p x y n:=λx y n=>by
  unfold az
  simp only[e]
 unfold dm aR
 constructor<;>simp only[r]
theorem way_eq{l l':Leaf}:eqFs [.int l'.w0,.int l'.w1,.int l'.w2,.int l'.w3,.int l'.w4,.int l'.w5] [.int l.w0,.int l.w1,.int l.w2,.int l.w3,.int l.w4,.int l.w5]=true↔l'.w0=l.w0/\l'.w1=l.w1/\l'.w2=l.w2/\l'.w3=l.w3/\l'.w4=l.w4/\l'.w5=l.w5:=by
 simp[eqFs,eqF]
theorem CY{p q:Pat}(i7:p.Ok)(c7:q.Ok){w h s w' h' s':Int}(L:p.Least w h s)(L':q.Least w' h' s'):sh2s [.tup [.int w,.int h,.int s],aR p w h] [.tup [.int w',.int h',.int s'],aR q w' h']=true/\((eq2s [.tup [.int w,.int h,.int s],aR p w h] [.tup [.int w',.int h',.int s'],aR q w' h']).all id=true↔∀ x y,p.show x y=q.show x y):=by
 have fe:∀ (p:Pat) (w h:Int),aR p w h= .lst ((bz p w h).map D.str):=λp w h=>by
  unfold aR bz
  rw[kx]
 rw[fe,fe,<- ue i7 c7 L L']
 constructor
 ·show(true && ((false||(_ && _)) && true))=true
  rw[iM,iM]
  rfl
 ·show(((w==w') && ((h==h') && ((s==s') && true))) && (eqFs ((bz p w h).map D.str) ((bz q w' h').map D.str) && true))=true↔((w==w') && ((h==h') && ((s==s') && (eqFs ((bz p w h).map D.str) ((bz q w' h').map D.str) && true))))=true
  simp only[Fg,and_assoc,true_and,and_true]
section
variable {V:Bx}
abbrev iO(V:Bx):Prop:=V.D 1 "_law_at" kz Ao
theorem CZ(T:V.T "_law_at" ky kz)(uB:V.m "len"):iO V:=by
 refine Tx.okDW T Cm (λds R h=>?_) (λf cdv A outer s H E J hr=>⟨_,((ah (aZ (fB (aa 1) (cj uB (ac (aa 0) af))) (aj (au (ae (aa 0) (aa 1)))) aQ)
   (aj (au ad)))),λds R h=>?_⟩)
 ·obtain⟨ns,k,rfl,_⟩:=h;rfl
 ·obtain⟨ns,k,rfl,hk,hR⟩:=h
  refine ite2 (λc=>?_) (λc=>?_)
  ·have c':=of_decide_eq_true c
   rw[EU] at c'
   exact⟨_,su hk c',hR⟩
  ·have c':=of_decide_eq_false (Fo.mpr c)
   rw[EU] at c'
   rw[An (by lia)] at hR
   exact hR
abbrev iP(V:Bx):Prop:=V.D 2 "_law_draws" kB AB
theorem C0(T:V.T "_law_draws" kA kB)(uA:V.m "range")(uY:iO V):iP V:=by
 refine Tx.okDW T sc__law_draws (λds R h=>?_) (λf cdv A outer s H E J hr=>⟨_,((ah (ai 3 sc__law_draws.nd (ar uY hr (ac (aa 0) (ac (aa 1) af))))
   (ah (gx 4 sc__law_draws.nd af)
   (ah (aZ (bq (aw (ar uY hr (ac (aa 0) (ac (ao (aa 1) ad) af))) ad) ad) (ah (bT 5 PassesOwn.never rfl sc__law_draws.nd uA (aa 2) (ah (fE 4 (aw (aa 3) ad))
     (aj (ai 3 sc__law_draws.nd (aU (aa 3) ad)))))
    (fD 4 (aj (au (aa 4))))) aQ)
   (ah (ai 6 sc__law_draws.nd (aw (ao (aa 3) ad) ad))
   (ah (bT 5 PassesOwn.never rfl sc__law_draws.nd uA (aa 2) (ah (ai 6 sc__law_draws.nd (aw (ao (ao (av (aa 6) ad) (ar uY hr (ac (aa 0) (ac (ao (ao (aa 1) ad) (aw (aa 5) ad)) af)))) (aa 5)) ad))
    (aj (fE 4 (aw (aw (av (aa 6) ad) ad) ad)))))
   (fD 4 (aj (au (aa 4)))))))))),λds R h=>?_⟩)
 ·obtain⟨_,_,_,rfl,_⟩:=h;rfl
 ·obtain⟨ns,k,n,rfl,hk,hn,hR⟩:=h
  refine⟨λd=>∃ v:Int,d= .int v,⟨ns,k,rfl,hk,_,rfl⟩,?_⟩
  rintro _ ⟨left,rfl⟩;k_places
  refine⟨by simp,?_⟩
  refine⟨ns,k+1,rfl,by lia,by decide,ite2 (λ_=>?_) (λ_=>?_)⟩
  ·refine⟨⟨by lia,by lia⟩,λi z=>∃ (xs:List Int) (l:Int) (o p:Option D),z=[some (.rol (ns.map D.int)),some (.int k),some (.int n),some (.int l),some (.own (xs.map D.int)),o,p]/\xs.length=i/\Drawn xs,⟨[],left,_,_,rfl,rfl,(λx hx=>by cases hx)⟩,?_,?_⟩
   ·rintro i x z hi ⟨xs,l,o,p,rfl,hl,hd⟩;k_places
    have l9:i<n:=by simpa using(E7.mp hi).1
    refine⟨by decide,by simp;lia,?_⟩
    refine⟨λd=>∃ v:Int,d= .int v,⟨⟨by decide,by decide⟩,_,rfl⟩,?_⟩
    rintro _ ⟨l',rfl⟩;k_places
    rw[sB]
    exact⟨_,l',_,_,rfl,by simp[hl],sC hd (bV (by decide)) (bW (by decide))⟩
   ·rintro z ⟨xs,l,o,p,rfl,hl,hd⟩;k_places
    exact hR xs (by simpa using hl) hd
  ·refine⟨λd=>∃ v:Int,d= .int v/\0<=v/\v<2147483647,⟨by decide,_,rfl,bV (by decide),bW (by decide)⟩,?_⟩
   rintro _ ⟨Mc,rfl,s1,s2⟩;k_places
   refine⟨⟨by lia,by lia⟩,λi z=>∃ (xs:List Int) (sd:Int) (o:Option D),z=[some (.rol (ns.map D.int)),some (.int k),some (.int n),some (.int left),some (.own (xs.map D.int)),o,some (.int sd)]/\xs.length=i/\Drawn xs/\0<=sd/\sd<2147483647,⟨[],Mc,_,rfl,rfl,(λx hx=>by cases hx),s1,s2⟩,?_,?_⟩
   ·rintro i x z hi ⟨xs,sd,o,rfl,hl,hd,s1,s2⟩;k_places
    have l9:i<n:=by simpa using(E7.mp hi).1
    have ex:x= .int (i:Int):=by simp[l9] at hi;exact hi.symm
    subst ex
    refine⟨λd=>∃ v:Int,d= .int v/\0<=v/\v<2147483647,⟨.inr ⟨by decide,by decide⟩,by decide,ns,_,rfl,by lia,by decide,_,rfl,bV (by decide),bW (by decide)⟩,?_⟩
    rintro _ ⟨Pk,rfl,t1,t2⟩;k_places
    refine⟨.inr ⟨by decide,by decide⟩,by decide,by decide,by simp;lia,?_⟩
    rw[sB]
    exact⟨_,Pk,_,rfl,by simp[hl],sC hd (bV (by decide)) (bW (by decide)),t1,t2⟩
   ·rintro z ⟨xs,sd,o,rfl,hl,hd,_⟩;k_places
    exact hR xs (by simpa using hl) hd
abbrev og(V:Bx):Prop:=V.D 1 "_law_lines" kD AM
theorem C1(T:V.T "_law_lines" kC kD)(uA:V.m "range")(uB:V.m "len"):og V:=by
 refine Tx.okDW T sc__law_lines (λds R h=>?_) (λf cdv A outer s H E J hr=>⟨_,((ah (ai 1 sc__law_lines.nd (ao ad (aw (ae (aa 0) ad) ad)))
   (ah (ai 2 sc__law_lines.nd (ao ad (aw (ae (aa 0) ad) ad)))
   (ah (eE (bq (aw (ae (aa 0) ad) ad) ad) (ah (ai 1 sc__law_lines.nd (ao ad (aw (ae (aa 0) ad) ad)))
    (aj (ai 2 sc__law_lines.nd (ao ad (aw (ae (aa 0) ad) ad))))) aQ)
   (ah (ai 3 sc__law_lines.nd (ae (bj (ac ay (ac ay (ac ay (ac ay af))))) (aw (ae (aa 0) ad) ad)))
   (ah (gx 4 sc__law_lines.nd af)
   (ah (bT 5 PassesOwn.never rfl sc__law_lines.nd uA (aa 2) (ah (ai 6 sc__law_lines.nd ay)
    (ah (bT 7 PassesOwn.never rfl sc__law_lines.nd uA (aa 1) (ah (ai 8 sc__law_lines.nd (ao (av (aa 5) (aa 1)) (aa 7)))
     (ah (ai 9 sc__law_lines.nd (aw (aU (ae (aa 0) (ao ad (aU (aa 8) ad))) (ae (bj (ac ad (ac ad af))) (aw (aa 8) ad))) ad))
     (aj (ai 6 sc__law_lines.nd (ao (aa 6) (ae (aa 3) (aw (aa 9) (cj uB (ac (aa 3) af))))))))))
    (aj (fE 4 (aa 6))))))
   (fD 4 (aj (au (aa 4))))))))))),λds R h=>?_⟩)
 ·obtain⟨_,rfl,_⟩:=h;rfl
 ·obtain⟨xs,rfl,hl,hd,hR⟩:=h
  have v3:∀ k:Nat,k<40->atI (xs.map D.int) (k:Int)=some (.int (cell xs k)):=λk hk=>cE (by lia) (by simpa using(by lia:k<xs.length))
  have a0:atI (xs.map D.int) 0=some (.int (cell xs 0)):=v3 0 (by decide)
  have a1:atI (xs.map D.int) 1=some (.int (cell xs 1)):=v3 1 (by decide)
  have a2:atI (xs.map D.int) 2=some (.int (cell xs 2)):=v3 2 (by decide)
  have a3:atI (xs.map D.int) 3=some (.int (cell xs 3)):=v3 3 (by decide)
  clear hl
  refine⟨λd=>∃ v:Int,d= .int v/\1<=v/\v<=8,⟨_,a0,by decide,_,rfl,by lia⟩,?_⟩
  rintro _ ⟨w0,rfl,Pl⟩;k_places
  refine⟨λd=>∃ v:Int,d= .int v/\1<=v/\v<=8,⟨_,a1,by decide,_,rfl,by lia⟩,?_⟩
  rintro _ ⟨t0,rfl,Qk⟩;k_places
  refine⟨λz=>∃ w t:Nat,z=[some (.lst (xs.map D.int)),some (.int w),some (.int t),none,none,none,none,none,none,none]/\(1<=w/\w<=8)/\(1<=t/\t<=8),⟨_,a2,by decide,ite2 (λ_=>?_) (λ_=>?_)⟩,?_⟩
  ·refine⟨λd=>∃ v:Nat,d= .int v/\1<=v/\v<=8,⟨_,a0,by decide,(1+cell xs 0 % 8).toNat,by rw[Fk (by lia)],by lia⟩,?_⟩
   rintro _ ⟨w,rfl,hw⟩;k_places
   refine⟨λd=>∃ v:Nat,d= .int v/\1<=v/\v<=8,⟨_,a1,by decide,(1+cell xs 1 % 8).toNat,by rw[Fk (by lia)],by lia⟩,?_⟩
   rintro _ ⟨t,rfl,ht⟩;k_places
   exact⟨w,t,rfl,hw,ht⟩
  ·obtain⟨w,rfl⟩:∃ w:Nat,w0=(w:Int):=⟨w0.toNat,by lia⟩
   obtain⟨t,rfl⟩:∃ t:Nat,t0=(t:Int):=⟨t0.toNat,by lia⟩
   exact⟨w,t,rfl,by lia,by lia⟩
  rintro _ ⟨w,t,rfl,hw,ht⟩;k_places
  obtain⟨sg,es,hs⟩:=AI (cell xs 3)
  refine⟨λd=>d= .str sg,⟨by simp,_,a3,by decide,_,es,rfl⟩,?_⟩;rintro _ rfl;k_places
  refine⟨by simp,?_⟩
  refine⟨⟨by lia,by lia⟩,λk z=>∃ (L:List Str) (o1 o2 o3 o4 o5:Option D),z=[some (.lst (xs.map D.int)),some (.int w),some (.int t),some (.str sg),some (.own (L.map D.str)),o1,o2,o3,o4,o5]/\L.length=k/\∀ l∈L,l.length=w/\∀ c∈cs l,aH c,⟨[],_,_,_,_,_,rfl,rfl,(λx hx=>by cases hx)⟩,?_,?_⟩
  ·rintro j x z hj ⟨L,o1,o2,o3,o4,o5,rfl,hL,o9⟩;k_places
   have Je:j<t:=by simpa using(E7.mp hj).1
   have ex:x= .int (j:Int):=by simp[Je] at hj;exact hj.symm
   subst ex
   refine⟨λd=>d= .str "",rfl,?_⟩;rintro _ rfl;k_places
   refine⟨⟨by lia,by lia⟩,λi z=>∃ (ln:Str) (o3 o4 o5:Option D),z=[some (.lst (xs.map D.int)),some (.int w),some (.int t),some (.str sg),some (.own (L.map D.str)),some (.int j),some (.str ln),o3,o4,o5]/\ln.length=i/\∀ c∈cs ln,aH c,⟨_,_,_,_,rfl,rfl,(λc hc=>by rw[sE] at hc;cases hc)⟩,?_,?_⟩
   ·rintro i y z hi ⟨ln,o3,o4,o5,rfl,KU,Md⟩;k_places
    have l9:i<w:=by simpa using(E7.mp hi).1
    have ey:y= .int (i:Int):=by simp[l9] at hi;exact hi.symm
    subst ey
    have pb:=bB (a:=(j:Int)) (d:=(w:Int)) (A:=7) (B:=8) (by lia) (by lia)
    have pn:0<=(j:Int)*(w:Int):=G0 (by lia) (by lia)
    refine⟨λd=>∃ p:Nat,d= .int p/\p<=63,⟨.inl ⟨by lia,by lia⟩,((j:Int)*w+i).toNat,by rw[Fk (by lia)],by lia⟩,?_⟩
    rintro _ ⟨p,rfl,hp⟩;k_places
    obtain⟨m,em,hm⟩:=AJ (p:Int)
    have ap:=v3 (8+p / 2) (by lia)
    have ec:((8+p / 2:Nat):Int)=8+(p:Int) / 2:=by lia
    rw[ec] at ap
    refine⟨λd=>∃ v:Int,d= .int v,⟨⟨by decide,by decide⟩,_,ap,by simp,by decide,_,em,⟨by lia,by lia⟩,by decide,_,rfl⟩,?_⟩
    rintro _ ⟨v,rfl⟩;k_places
    obtain⟨c,⟨h1,h2⟩,h3⟩:=AD hs v
    refine⟨λd=>∃ x:Str,d= .str x/\x.length=i+1/\∀ c∈cs x,aH c,⟨h1,by have:=hs.1;lia,c,⟨h1,h2⟩,?_,_,rfl,AK KU Md h3⟩,?_⟩
    ·rw[KU];show i+1<=1000000;lia
    rintro _ ⟨x,rfl,g1,g2⟩;k_places
    exact⟨x,_,_,_,rfl,g1,g2⟩
   ·rintro z ⟨ln,o3,o4,o5,rfl,KU,Md⟩;k_places
    have Me:ln.length=w:=by simpa using KU
    refine⟨by simp[hL];lia,?_⟩
    rw[AL]
    refine⟨_,_,_,_,_,_,rfl,by simp[hL],λl hl=>?_⟩
    rcases Ff.mp hl with q|q
    ·exact o9 l q
    ·rw[EM.mp q];exact⟨Me,Md⟩
  ·rintro z ⟨L,o1,o2,o3,o4,o5,rfl,hL,o9⟩;k_places
   exact hR L (Rows.of ht.1 ht.2 (by simpa using hL) hw.1 hw.2 o9)
abbrev oh(V:Bx):Prop:=V.D 1 "_law_shift_pair" kF AC
theorem C3(T:V.T "_law_shift_pair" kE kF)(uD:V.m "int"):oh V:=by
 refine Tx.okDW T sc__law_shift_pair (λds R h=>?_) (λf cdv A outer s H E J hr=>⟨_,((ah (aZ (bq (aw (aU (ae (aa 0) ad) ad) ad) ad) (aj (au (bj (ac (aG (ac (ao ad (aw (ae (aa 0) ad) ad)) (ac ad af))) (ac (aG (ac ad (ac (ao ad (aw (ae (aa 0) ad) ad)) af))) af))))) aQ)
   (ah (aZ (bq (aw (aU (ae (aa 0) ad) ad) ad) ad) (aj (au (bj (ac (aG (ac (ao ad (aw (ae (aa 0) ad) ad)) (ac ad af))) (ac (aG (ac (bn (aw (ae (aa 0) ad) ad) ad) (ac (ao ad (aw (ae (aa 0) ad) ad)) af))) af))))) aQ)
   (ah (ai 1 sc__law_shift_pair.nd (bn (aw (ae (aa 0) ad) ad) ad))
   (ah (ai 2 sc__law_shift_pair.nd (bn (aw (ae (aa 0) ad) ad) ad))
   (ah (ai 3 sc__law_shift_pair.nd (bn (aw (ae (aa 0) ad) ad) ad))
   (ah (ai 4 sc__law_shift_pair.nd (bn (aw (ae (aa 0) ad) ad) ad))
   (ah (ai 1 sc__law_shift_pair.nd (ao (aa 1) (gA uD (ac (dB (cR (aa 1) ad) (eA (cR (aa 2) ad))) af))))
   (ah (aZ (bq (av (aa 1) (aa 4)) (av (aa 2) (aa 3))) (aj (au (bj (ac (aG (ac (aa 1) (ac (aa 2) af))) (ac (aG (ac (cu (aa 2)) (ac (aa 1) af))) af))))) aQ)
   (aj (au (bj (ac (aG (ac (aa 1) (ac (aa 2) af))) (ac (aG (ac (aa 3) (ac (aa 4) af))) af)))))))))))))),λds R h=>?_⟩)
 ·obtain⟨_,rfl,_⟩:=h;rfl
 ·obtain⟨xs,rfl,hl,hd,hR⟩:=h
  have a3:=cE (xs:=xs) (k:=3) (by decide) (show 3<xs.length by lia)
  have a4:=cE (xs:=xs) (k:=4) (by decide) (show 4<xs.length by lia)
  have a5:=cE (xs:=xs) (k:=5) (by decide) (show 5<xs.length by lia)
  have a6:=cE (xs:=xs) (k:=6) (by decide) (show 6<xs.length by lia)
  have a7:=cE (xs:=xs) (k:=7) (by decide) (show 7<xs.length by lia)
  generalize cell xs 3=x3 at*
  generalize cell xs 4=x4 at*
  generalize cell xs 5=x5 at*
  generalize cell xs 6=x6 at*
  generalize cell xs 7=x7 at*
  clear hl hd
  refine⟨_,a3,⟨by decide,by decide⟩,by decide,ite2 (λ_=>?_) (λ_=>?_)⟩
  ·refine⟨_,a4,by decide,by simp,_,a5,by decide,by simp,by simp,hR _ _ _ _ (by lia) (by lia) (by lia) (by lia) ?_⟩
   have p:0<(1+x4 % 6)*(1+x5 % 6):=E5 (by lia) (by lia)
   lia
  refine⟨_,a3,⟨by decide,by decide⟩,by decide,ite2 (λ_=>?_) (λ_=>?_)⟩
  ·refine⟨_,a4,by decide,by simp,_,a6,by decide,_,a5,by decide,by simp,by simp,hR _ _ _ _ (by lia) (by lia) (by lia) (by lia) ?_⟩
   have p:0<(1+x4 % 6)*(1+x5 % 4):=E5 (by lia) (by lia)
   lia
  refine⟨λd=>∃ v:Int,d= .int v/\-12<=v/\v<=12,⟨_,a4,by decide,_,rfl,by lia⟩,?_⟩
  rintro _ ⟨a,rfl,ha⟩;k_places
  refine⟨λd=>∃ v:Int,d= .int v/\-12<=v/\v<=12,⟨_,a5,by decide,_,rfl,by lia⟩,?_⟩
  rintro _ ⟨b,rfl,hb⟩;k_places
  refine⟨λd=>∃ v:Int,d= .int v/\-12<=v/\v<=12,⟨_,a6,by decide,_,rfl,by lia⟩,?_⟩
  rintro _ ⟨c,rfl,hc⟩;k_places
  refine⟨λd=>∃ v:Int,d= .int v/\-12<=v/\v<=12,⟨_,a7,by decide,_,rfl,by lia⟩,?_⟩
  rintro _ ⟨d,rfl,f_⟩;k_places
  refine⟨λx=>∃ v:Int,x= .int v/\(-12<=v/\v<=12)/\¬ (v=0/\b=0),ite2 (λe=>?_) (λe=>?_),?_⟩
  ·have e':=of_decide_eq_true e
   by_cases NS:b=0
   ·refine⟨_,rfl,?_⟩
    subst e' NS
    simp
   ·refine⟨_,rfl,?_⟩
    subst e'
    simp[NS]
  ·have e':=of_decide_eq_false (Fo.mpr e)
   refine⟨_,rfl,?_⟩
   simp
   lia
  rintro _ ⟨a,rfl,ha,Kc⟩;k_places
  refine⟨.inl (i64 ha.1 ha.2),.inl (i64 hb.1 hb.2),ite2 (λe=>?_) (λe=>?_)⟩
  ·refine⟨by simp,by simp,by simp,hR a b (-b) a ha hb (by lia) ha ?_⟩
   rw[FM]
   intro z
   have s1:0<=a*a:=sq0 a
   have s2:0<=b*b:=sq0 b
   have z1:a*a=0:=by omega
   have z2:b*b=0:=by omega
   exact Kc ⟨(Gm.mp z1).elim id id,(Gm.mp z2).elim id id⟩
  ·have e':=of_decide_eq_false (Fo.mpr e)
   exact⟨by simp,by simp,by simp,hR a b c d ha hb hc f_ e'⟩
abbrev oi(V:Bx):Prop:=V.D 1 "_law_motif_text" kH AN
theorem C4(T:V.T "_law_motif_text" kG kH)(uK:V.m "str"):oi V:=by
 refine Tx.okDW T sc__law_motif_text (λds R h=>?_) (λf cdv A outer s H E J hr=>⟨_,((ah (ai 3 sc__law_motif_text.nd (ao (ao (ao (ao (ao (ao (ao ay (cT uK (ac (ae (aa 1) ad) af))) ay) (cT uK (ac (ae (aa 1) ad) af))) ay) (cT uK (ac (ae (aa 2) ad) af))) ay) (cT uK (ac (ae (aa 2) ad) af))))
   (aj (au (ao (ao (ao ay (jH (aa 0))) (aa 3)) ay))))),λds R h=>?_⟩)
 ·obtain⟨_,_,_,_,_,rfl,_⟩:=h;rfl
 ·obtain⟨L,a,b,c,d,rfl,hL,ha,hb,hc,hd,hR⟩:=h
  have la:=bw ha
  have lb:=bw hb
  have lc:=bw hc
  have ld:=bw hd
  have l1:(";":Str).length=1:=rfl
  have l2:(",":Str).length=1:=rfl
  have l3:("[":Str).length=1:=rfl
  have l4:("]":Str).length=1:=rfl
  have ls:=sF hL
  have lj:=StrLaws.join_length_le "/" L
  unfold B12 at ha hb hc hd
  refine⟨λx=>x= .str ((((((((";":Str)++(toString a:String))++",")++(toString b:String))++";")++(toString c:String))++",")++(toString d:String)),⟨_,rfl,by lia,?_,?_,_,rfl,by lia,?_,?_,_,rfl,by lia,?_,?_,_,rfl,by lia,?_,rfl⟩,?_⟩
  ·lia
  ·rw[aC];lia
  ·rw[aC,aC];lia
  ·rw[aC,aC,aC];lia
  ·rw[aC,aC,aC,aC];lia
  ·rw[aC,aC,aC,aC,aC];lia
  ·rw[aC,aC,aC,aC,aC,aC];lia
  rintro _ rfl;k_places
  have lg:(Txt.join "/" L).length<=72:=by
   have e:Txt.join "/" L=Str.join "/" L:=StrLaws.glued_eq_join _ _
   rw[e];exact E1 lj ls
  refine⟨L,gS L,by lia,?_,?_,?_,hR⟩
  ·lia
  ·repeat rw[aC]
   lia
  ·repeat rw[aC]
   lia
abbrev oj(V:Bx):Prop:=V.D 3 "_law_motif" kJ AQ
theorem C5(T:V.T "_law_motif" kI kJ)(Jf:iP V)(Mf:og V)(Mg:oh V)(Mh:oi V):oj V:=by
 refine Tx.okDW T sc__law_motif (λds R h=>?_) (λf cdv A outer s H E J hr=>⟨_,((ah (ai 2 sc__law_motif.nd (ar Jf hr (ac (aa 0) (ac (aa 1) (ac ad af)))))
   (ah (ai 3 sc__law_motif.nd (ar Mf hr (ac (aa 2) af)))
   (ah (yk rfl (ar Mg hr (ac (aa 2) af)) (dg_cons 4 sc__law_motif.nd (dg_cons 5 sc__law_motif.nd eI)))
   (ah (ai 6 sc__law_motif.nd (aG (ac (aa 3) (ac (aa 4) (ac (aa 5) (ac (aG (ac ad (ac ad (ac ad (ac ad (ac ad (ac ad af))))))) (ac (bj (ac ad (ac ad (ac ad (ac ad (ac ad (ac ad (ac ad af)))))))) af)))))))
   (aj (au (bj (ac (ar Mh hr (ac (aa 3) (ac (aa 4) (ac (aa 5) af)))) (ac ad (ac (bj (ac (aa 6) af)) af))))))))))),λds R h=>?_⟩)
 ·obtain⟨_,_,rfl,_⟩:=h;rfl
 ·obtain⟨ns,k,rfl,hk,hR⟩:=h
  refine⟨λx=>∃ xs:List Int,x= .lst (xs.map D.int)/\xs.length=40/\Drawn xs,⟨ns,k,40,rfl,hk,by decide,λxs h1 h2=>⟨xs,rfl,h1,h2⟩⟩,?_⟩
  rintro _ ⟨xs,rfl,hl,hd⟩;k_places
  refine⟨λx=>∃ L:List Str,x= .lst (L.map D.str)/\Rows L,⟨xs,rfl,by lia,hd,λL h=>⟨L,rfl,h⟩⟩,?_⟩
  rintro _ ⟨L,rfl,hL⟩;k_places
  refine⟨xs,rfl,by lia,hd,λa b c d ha hb hc f_ hn=>⟨rfl,?_⟩⟩
  refine⟨λx=>x=(bt L a b c d).D,⟨by simp,by simp,by simp,rfl⟩,?_⟩;rintro _ rfl;k_places
  exact⟨L,a,b,c,d,rfl,hL,ha,hb,hc,f_,by simp,by simp,hR L a b c d hL ha hb hc f_ hn⟩
abbrev iQ(V:Bx):Prop:=V.D 1 "_law_wrapped" kK AZ
theorem C6(T:V.T "_law_wrapped" gZ kK)(uK:V.m "str")(Mi:V.m "list")(uD:V.m "int"):iQ V:=by
 refine Tx.okDW T sc__law_wrapped (λds R h=>?_) (λf cdv A outer s H E J hr=>⟨_,((ah (aZ (qL (ae (aa 0) ad) ad) (aj (au (aa 0))) aQ)
   (ah (ai 2 sc__law_wrapped.nd (bn (aw (aU (aa 1) ad) ad) ad))
   (ah (ai 3 sc__law_wrapped.nd (bn (aw (aU (aa 1) ad) ad) ad))
   (ah (ai 4 sc__law_wrapped.nd (ao ad (aw (aU (aa 1) ad) ad)))
   (ah (ai 5 sc__law_wrapped.nd (ao ad (aw (aU (aa 1) ad) ad)))
   (ah (ai 6 sc__law_wrapped.nd (ao (ao (ao (ao ay (cT uK (ac (aa 2) af))) ay) (cT uK (ac (aa 3) af))) ay))
   (ah (ai 7 sc__law_wrapped.nd (ae (bj (ac ay (ac ay (ac (aa 6) (ac (ao (ao ay (cT uK (ac (aa 4) af))) (cT uK (ac (aa 5) af))) af))))) (aw (aa 1) ad)))
   (ah (ai 8 sc__law_wrapped.nd (bj (ac (aG (ac (cu ad) (ac ad (ac ad (ac ad (ac ad (ac ad af))))))) (ac (aG (ac ad (ac ad (ac (cu ad) (ac ad (ac ad (ac ad af))))))) af))))
   (ah (ai 8 sc__law_wrapped.nd (ao (aa 8) (bj (ac (aG (ac ad (ac ad (ac ad (ac ad (ac (cu (aa 2)) (ac (cu (aa 3)) af))))))) (ac (aG (ac ad (ac ad (ac ad (ac ad (ac ad (ac ad af))))))) af)))))
   (ah (ai 9 sc__law_wrapped.nd (ae (aa 8) (aw (aa 1) ad)))
   (ah (gx 10 sc__law_wrapped.nd af)
   (ah (gy 11 PassesOwn.never rfl sc__law_wrapped.nd (ae (aa 0) ad) (ah (qQ rfl (ae (aa 11) ad) (dg_cons 12 sc__law_wrapped.nd (dg_cons 13 sc__law_wrapped.nd (dg_cons 14 sc__law_wrapped.nd (dg_cons 15 sc__law_wrapped.nd (dg_cons 16 sc__law_wrapped.nd (dg_cons 17 sc__law_wrapped.nd eI)))))))
    (ah (ai 18 sc__law_wrapped.nd (aG (ac (ao (av (aa 12) (ae (aa 9) ad)) (av (aa 13) (ae (aa 9) ad))) (ac (ao (av (aa 12) (ae (aa 9) ad)) (av (aa 13) (ae (aa 9) ad))) af))))
    (ah (ai 18 sc__law_wrapped.nd (ao (aa 18) (aG (ac (ao (av (aa 14) (ae (aa 9) ad)) (av (aa 15) (ae (aa 9) ad))) (ac (ao (av (aa 14) (ae (aa 9) ad)) (av (aa 15) (ae (aa 9) ad))) af)))))
    (ah (ai 16 sc__law_wrapped.nd (ao (ao (aa 16) (av (aa 12) (ae (aa 9) ad))) (av (aa 13) (ae (aa 9) ad))))
    (ah (ai 17 sc__law_wrapped.nd (ao (ao (aa 17) (av (aa 14) (ae (aa 9) ad))) (av (aa 15) (ae (aa 9) ad))))
    (ah (ai 19 sc__law_wrapped.nd (ya Mi (ac (ae (aa 11) ad) af)))
    (ah (eE (bq (aw (aa 1) ad) ad) (aj (yq 19 rfl (compScope (by change cv _ (ag gZ) ["_law_part","_law_draw","_law_across","_law_down","_law_old","_law_new","_law_shift","_law_head","_law_ways","_law_by","_law_leaves","_law_leaf","_law_a","_law_b","_law_c","_law_d","_law_e","_law_f","_law_way","_law_hues"] _=true;decide+kernel)) sc__law_wrapped.nd (ae (aa 11) ad) (λcl s0 H0 fp=>(ae (bj (ac (aa 20) (ac (aa 5) af))) (gA uD (ac (cR (aa 20) (aa 4)) af)))))) aQ)
    (aj (fE 10 (aG (ac (ae (aa 11) ad) (ac (ae (aa 11) ad) (ac (ae (aa 11) ad) (ac (ao (aa 18) (aG (ac (aa 16) (ac (aa 17) af)))) (ac (aa 19) af))))))))))))))))
   (fD 10 (aj (au (bj (ac (ao (aa 7) (ae (aa 0) ad)) (ac (ao (ae (aa 0) ad) ad) (ac (aa 10) af)))))))))))))))))))),λds R h=>?_⟩)
 ·obtain⟨_,_,rfl,_⟩:=h;rfl
 ·obtain⟨p,draw,rfl,wf,hd,ht,hW⟩:=h
  refine⟨_,rfl,ite2 (λc=>?_) (λc=>?_)⟩
  ·have c':=of_decide_eq_true c
   exact hW.1 (by lia)
  have c':=of_decide_eq_false (Fo.mpr c)
  have f_:p.depth<5:=by lia
  refine⟨λd=>∃ v:Int,d= .int v/\B12 v,⟨⟨by decide,by decide⟩,by decide,_,rfl,by unfold B12;lia⟩,?_⟩
  rintro _ ⟨A,rfl,hA⟩;simp only[Fd,Fe,aV]
  refine⟨λd=>∃ v:Int,d= .int v/\B12 v,⟨⟨by decide,by decide⟩,by decide,_,rfl,by unfold B12;lia⟩,?_⟩
  rintro _ ⟨B,rfl,hB⟩;simp only[Fd,Fe,aV]
  refine⟨λd=>∃ v:Int,d= .int v/\1<=v/\v<=6,⟨⟨by decide,by decide⟩,by decide,_,rfl,by lia⟩,?_⟩
  rintro _ ⟨d9,rfl,ho⟩;simp only[Fd,Fe,aV]
  refine⟨λd=>∃ v:Int,d= .int v/\1<=v/\v<=6,⟨⟨by decide,by decide⟩,by decide,_,rfl,by lia⟩,?_⟩
  rintro _ ⟨new,rfl,hn⟩;simp only[Fd,Fe,aV]
  have l1:("s":Str).length=1:=rfl
  have l2:(",":Str).length=1:=rfl
  have l3:(":":Str).length=1:=rfl
  have l4:("h":Str).length=1:=rfl
  have lA:=bw hA
  have lB:=bw hB
  have lo:=cV ho
  have ln:=cV hn
  obtain⟨hs,b0,b1,b2,b3,b4,b5,e1,e2,hb,hl,hR⟩:=AX hW f_ (k:=0) hA hB ho hn (by lia)
  unfold B12 at hA hB
  refine⟨λx=>x= .str ((((("s":Str)++(toString A:String))++",")++(toString B:String))++":"),⟨by lia,?_,?_,by lia,?_,?_,rfl⟩,?_⟩
  ·lia
  ·rw[aC];lia
  ·rw[aC,aC];lia
  ·rw[aC,aC,aC];lia
  rintro _ rfl;simp only[Fd,Fe,aV]
  refine⟨λx=>x= .str hs,⟨by lia,?_,by lia,?_,by simp,by decide,_,e1,rfl⟩,?_⟩
  ·lia
  ·rw[aC];lia
  rintro _ rfl;simp only[Fd,Fe,aV]
  refine⟨λx=>x= .lst [D.tup [.int (-1),.int 0,.int 0,.int 1,.int 0,.int 0],D.tup [.int 0,.int 1,.int (-1),.int 0,.int 0,.int 0]],⟨by simp,by simp,by simp,rfl⟩,?_⟩;rintro _ rfl;simp only[Fd,Fe,aV]
  refine⟨λx=>x= .lst ([D.tup [.int (-1),.int 0,.int 0,.int 1,.int 0,.int 0],D.tup [.int 0,.int 1,.int (-1),.int 0,.int 0,.int 0]]++[D.tup [.int 1,.int 0,.int 0,.int 1,.int (-A),.int (-B)],D.tup [.int 1,.int 0,.int 0,.int 1,.int 0,.int 0]]),⟨by simp,by simp,by simp,by simp,rfl⟩,?_⟩;rintro _ rfl;simp only[Fd,Fe,aV]
  refine⟨λx=>x= .tup [.int b0,.int b1,.int b2,.int b3,.int b4,.int b5],⟨by decide,_,e2,rfl⟩,?_⟩;rintro _ rfl;simp only[Fd,Fe,aV]
  refine⟨by simp,?_⟩
  generalize D.str ((((("s":Str)++(toString A:String))++",")++(toString B:String))++":")=sD
  generalize D.lst ([D.tup [.int (-1),.int 0,.int 0,.int 1,.int 0,.int 0],D.tup [.int 0,.int 1,.int (-1),.int 0,.int 0,.int 0]]++[D.tup [.int 1,.int 0,.int 0,.int 1,.int (-A),.int (-B)],D.tup [.int 1,.int 0,.int 0,.int 1,.int 0,.int 0]])=wD
  clear e1 e2 hW lA lB lo ln l1 l2 l3 l4 hA hB c'
  refine⟨_,rfl,λk z=>∃ Mj Ml Mm Mn Mo Mp Mq Mr Jg:Option D,z=[some p.D,some (.int draw),some (.int A),some (.int B),some (.int d9),some (.int new),some sD,some (.str hs),some wD,some (.tup [.int b0,.int b1,.int b2,.int b3,.int b4,.int b5]),some (.own (((p.leaves.take k).map (Leaf.T (decide (draw % 4=3)) d9 new b0 b1 b2 b3 b4 b5)).map Leaf.D)),Mj,Ml,Mm,Mn,Mo,Mp,Mq,Mr,Jg],⟨_,_,_,_,_,_,_,_,_,rfl⟩,?_,?_⟩
  ·rintro k v z hk ⟨Mj,Ml,Mm,Mn,Mo,Mp,Mq,Mr,Jg,rfl⟩;k_places
   rw[E3] at hk
   have n9:k<p.leaves.length:=by
    rcases F6 k p.leaves.length with q|q
    ·exact q
    ·rw[FD q] at hk;cases hk
   have Jh:p.leaves[k]?=some p.leaves[k]:=Fc n9
   rw[Jh] at hk
   cases hk
   obtain⟨gd,nr⟩:=Pat.leaf_good wf p.leaves[k] (Fs n9)
   have a_:(p.leaves.take k).length<=1000:=by rw[Gr];have:=Pat.leaves_32 hd;lia
   generalize p.leaves[k]=l at Jh gd nr
   obtain⟨r0,r1,r2,r3⟩:=nr.unit
   obtain⟨q0,q1,q2,q3,q4,q5⟩:=hb
   refine⟨_,rfl,rfl,?_⟩
   simp only[Fd,Fe,aV]
   refine⟨λx=>x= .tup [.int (l.w0*b0+l.w1*b2),.int (l.w0*b1+l.w1*b3)],⟨_,rfl,.inr (n64 q0),_,rfl,.inr (n64 q2),_,rfl,.inr (n64 q1),_,rfl,.inr (n64 q3),by simp,rfl⟩,?_⟩;rintro _ rfl;simp only[Fd,Fe,aV]
   refine⟨λx=>x= .tup [.int (l.w0*b0+l.w1*b2),.int (l.w0*b1+l.w1*b3),.int (l.w2*b0+l.w3*b2),.int (l.w2*b1+l.w3*b3)],⟨_,rfl,.inr (n64 q0),_,rfl,.inr (n64 q2),_,rfl,.inr (n64 q1),_,rfl,.inr (n64 q3),by simp,by simp,rfl⟩,?_⟩;rintro _ rfl;simp only[Fd,Fe,aV]
   refine⟨λx=>x= .int (l.w4+l.w0*b4+l.w1*b5),⟨_,rfl,.inr (n64 q4),_,rfl,.inr (n64 q5),rfl⟩,?_⟩;rintro _ rfl;simp only[Fd,Fe,aV]
   refine⟨λx=>x= .int (l.w5+l.w2*b4+l.w3*b5),⟨_,rfl,.inr (n64 q4),_,rfl,.inr (n64 q5),rfl⟩,?_⟩;rintro _ rfl;simp only[Fd,Fe,aV]
   refine⟨λx=>x= .lst (l.hues.map D.int),⟨_,rfl,rfl⟩,?_⟩;rintro _ rfl;simp only[Fd,Fe,aV]
   refine⟨λz=>∃ Jg:List Int,Jg=(Leaf.T (decide (draw % 4=3)) d9 new b0 b1 b2 b3 b4 b5 l).hues/\z=[some p.D,some (.int draw),some (.int A),some (.int B),some (.int d9),some (.int new),some sD,some (.str hs),some wD,some (.tup [.int b0,.int b1,.int b2,.int b3,.int b4,.int b5]),some (.own (((p.leaves.take k).map (Leaf.T (decide (draw % 4=3)) d9 new b0 b1 b2 b3 b4 b5)).map Leaf.D)),some l.D,some (.int l.w0),some (.int l.w1),some (.int l.w2),some (.int l.w3),some (.int (l.w4+l.w0*b4+l.w1*b5)),some (.int (l.w5+l.w2*b4+l.w3*b5)),some (.tup [.int (l.w0*b0+l.w1*b2),.int (l.w0*b1+l.w1*b3),.int (l.w2*b0+l.w3*b2),.int (l.w2*b1+l.w3*b3)]),some (.lst (Jg.map D.int))],⟨by decide,ite2 (λc=>?_) (λc=>?_)⟩,?_⟩
   ·have c3:=of_decide_eq_true c
    refine⟨λx=>x= .lst ((l.hues.map (bD d9 new)).map D.int),⟨_,rfl,by rw[EU,gd.many];decide,λk ys=>ys=((l.hues.take k).map (bD d9 new)).map D.int,rfl,?_,?_⟩,?_⟩
    ·rintro k' x ys hx hl rfl
     rw[E3] at hx
     cases e:l.hues[k']? with
     |none=>rw[e] at hx;cases hx
     |some hu=>
      rw[e] at hx
      cases hx
      refine⟨by simp,_,AY hu d9 new,?_⟩
      dsimp only
      rw[kg e]
      simp
    ·rintro ys hl rfl
     rw[EU,GE]
    ·rintro _ rfl;k_places
     exact⟨_,by simp[Leaf.T,c3,Leaf.dye,Leaf.by],rfl⟩
   ·have c3:=of_decide_eq_false (Fo.mpr c)
    exact⟨_,by simp[Leaf.T,c3,Leaf.by],rfl⟩
   rintro _ ⟨hu,Pm,rfl⟩;k_places
   refine⟨_,rfl,_,rfl,_,rfl,by simp,by simp,by simp,by rw[EU,EU];lia,?_⟩
   have eT:(D.tup [.lst (l.rows.map D.str),.tup [.int l.a,.int l.b],.tup [.int l.c,.int l.d],.tup ([.int (l.w0*b0+l.w1*b2),.int (l.w0*b1+l.w1*b3),.int (l.w2*b0+l.w3*b2),.int (l.w2*b1+l.w3*b3)]++[.int (l.w4+l.w0*b4+l.w1*b5),.int (l.w5+l.w2*b4+l.w3*b5)]),.lst (hu.map D.int)])=(Leaf.T (decide (draw % 4=3)) d9 new b0 b1 b2 b3 b4 b5 l).D:=by
    rw[Pm]
    by_cases c3:draw % 4=3
    ·simp[Leaf.T,c3,Leaf.D,Leaf.dye,Leaf.by]
    ·simp[Leaf.T,c3,Leaf.D,Leaf.by]
   have e9:((p.leaves.take (k+1)).map (Leaf.T (decide (draw % 4=3)) d9 new b0 b1 b2 b3 b4 b5)).map Leaf.D=((p.leaves.take k).map (Leaf.T (decide (draw % 4=3)) d9 new b0 b1 b2 b3 b4 b5)).map Leaf.D++[(Leaf.T (decide (draw % 4=3)) d9 new b0 b1 b2 b3 b4 b5 l).D]:=by
    rw[kg Jh,Fl,Fl,EY,EY,FJ,FJ]
   rw[e9,<- eT]
   exact⟨_,_,_,_,_,_,_,_,_,rfl⟩
  ·rintro z ⟨Mj,Ml,Mm,Mn,Mo,Mp,Mq,Mr,Jg,rfl⟩;k_places
   rw[EU,GE]
   refine⟨_,rfl,by lia,_,rfl,by simp,hR⟩
abbrev iR(V:Bx):Prop:=V.D 1 "_law_gcd" kM As
theorem C7(T:V.T "_law_gcd" kL kM)(uM:V.m "abs"):iR V:=by
 refine Tx.okDW T sc__law_gcd (λds R h=>?_) (λf cdv A outer s H E J hr=>⟨_,((ah (ai 0 sc__law_gcd.nd (eg uM (ac (aa 0) af)))
   (ah (ai 1 sc__law_gcd.nd (eg uM (ac (aa 1) af)))
   (ah (dG PassesOwn.never (bZ (aa 1) ad) (aj (xV 0 1 rfl sc__law_gcd.nd (ac (aa 1) (ac (aw (aa 0) (aa 1)) af)))))
   (aj (au (aa 0))))))),λds R h=>?_⟩)
 ·obtain⟨x,y,rfl,_⟩:=h;rfl
 ·obtain⟨x,y,rfl,hR⟩:=h
  refine⟨λd=>d= .int (if x<0 then -x else x),rfl,?_⟩;rintro _ rfl;k_places
  refine⟨λd=>d= .int (if y<0 then -y else y),rfl,?_⟩;rintro _ rfl;k_places
  have hx:0<=(if x<0 then -x else x):=by split<;>lia
  have hy:0<=(if y<0 then -y else y):=by split<;>lia
  have Ms:∀ e,(e∣(if x<0 then -x else x)/\e∣(if y<0 then -y else y))↔(e∣x/\e∣y):=λe=>by rw[sy,sy]
  generalize (if x<0 then -x else x)=a at hx Ms ⊢
  generalize (if y<0 then -y else y)=b at hy Ms ⊢
  refine⟨λm z=>∃ a b:Int,z=[some (.int a),some (.int b)]/\0<=a/\0<=b/\(∀ e,(e∣a/\e∣b)↔(e∣x/\e∣y))/\m=b.toNat,⟨_,a,b,rfl,hx,hy,Ms,rfl⟩,?_⟩
  rintro m z ⟨a,b,rfl,ha,hb,Kc,rfl⟩;k_places
  refine ite2 (λc=>?_) (λc=>?_)
  ·have c':¬ b=0:=by simpa using c
   have q1:=bV (a:=a) (show 0<b by lia)
   have q2:=bW (a:=a) (show 0<b by lia)
   refine⟨by lia,_,?_,b,a % b,rfl,hb,q1,λe=>?_,rfl⟩
   ·lia
   ·rw[<- Kc e]
    constructor
    ·rintro⟨h1,h2⟩;exact⟨(sA h1).mp h2,h1⟩
    ·rintro⟨h1,h2⟩;exact⟨h2,(sA h2).mpr h1⟩
  ·have c':b=0:=by simpa using c
   subst c'
   have g:=(Kc a).mp ⟨Int.dvd_refl a,Int.dvd_zero a⟩
   exact hR a ha g.1 g.2 λe h1 h2=>((Kc e).mpr ⟨h1,h2⟩).1
abbrev iS(V:Bx):Prop:=V.D 1 "_law_on" kO Ar
theorem C8(T:V.T "_law_on" kN kO):iS V:=by
 refine Tx.okDW T sc__law_on (λds R h=>?_) (λf cdv A outer s H E J hr=>⟨_,((ah (ai 4 sc__law_on.nd (bn (av (ae (aa 0) ad) (ae (aa 1) ad)) (av (ae (aa 0) ad) (ae (aa 1) ad))))
   (aj (au (dB (cR (qE (bn (av (aa 2) (ae (aa 1) ad)) (av (aa 3) (ae (aa 1) ad))) (aa 4)) ad) (eA (cR (qE (bn (av (ae (aa 0) ad) (aa 3)) (av (ae (aa 0) ad) (aa 2))) (aa 4)) ad))))))),λds R h=>?_⟩)
 ·obtain⟨a,b,c,d,u,v,rfl,_⟩:=h;rfl
 ·obtain⟨a,b,c,d,u,v,rfl,ha,hb,hc,hd,hn,hR⟩:=h
  have Ji:∀ {x:Int},x.natAbs<1073741824->-(2 ^ 64)<x/\x<2 ^ 64:=λh=>n64 (Nat.le_of_lt_succ h)
  refine⟨λx=>x= .int (a*d - b*c),⟨_,rfl,_,rfl,.inl (Ji ha),_,rfl,_,rfl,.inl (Ji hb),rfl⟩,?_⟩;rintro _ rfl;k_places
  refine⟨_,rfl,.inr (Ji hd),_,rfl,.inr (Ji hc),by omega,ite2 (λe=>?_) (λe=>?_)⟩
  ·have e':=of_decide_eq_true e
   refine⟨_,rfl,.inl (Ji ha),_,rfl,.inl (Ji hb),by omega,?_⟩
   have q:decide ((a*v - b*u).fmod (a*d - b*c)=0)=decide ((u*d - v*c).fmod (a*d - b*c)=0/\(a*v - b*u).fmod (a*d - b*c)=0):=by simp[e']
   have g:R (.bl (decide ((a*v - b*u).fmod (a*d - b*c)=0))):=by rw[q];exact hR
   exact g
  ·have e':=of_decide_eq_false (Fo.mpr e)
   have q:decide ((u*d - v*c).fmod (a*d - b*c)=0/\(a*v - b*u).fmod (a*d - b*c)=0)=false:=by simp[e']
   rw[q] at hR
   exact hR
abbrev ol(V:Bx):Prop:=V.D 2 "_law_leaf_family" kQ A2
theorem C9(T:V.T "_law_leaf_family" kP kQ)(uM:V.m "abs")(Jj:iR V)(Jk:iS V):ol V:=by
 refine Tx.okDW T sc__law_leaf_family (λds R h=>?_) (λf cdv A outer s H E J hr=>⟨_,((ah (qQ rfl (ae (aa 0) ad) (dg_cons 1 sc__law_leaf_family.nd (dg_cons 2 sc__law_leaf_family.nd (dg_cons 3 sc__law_leaf_family.nd (dg_cons 4 sc__law_leaf_family.nd (dg_cons 5 sc__law_leaf_family.nd (dg_cons 6 sc__law_leaf_family.nd eI)))))))
   (ah (ai 7 sc__law_leaf_family.nd (aG (ac (ao (av (aa 1) (ae (ae (aa 0) ad) ad)) (av (aa 3) (ae (ae (aa 0) ad) ad))) (ac (ao (av (aa 2) (ae (ae (aa 0) ad) ad)) (av (aa 4) (ae (ae (aa 0) ad) ad))) af))))
   (ah (ai 8 sc__law_leaf_family.nd (aG (ac (ao (av (aa 1) (ae (ae (aa 0) ad) ad)) (av (aa 3) (ae (ae (aa 0) ad) ad))) (ac (ao (av (aa 2) (ae (ae (aa 0) ad) ad)) (av (aa 4) (ae (ae (aa 0) ad) ad))) af))))
   (ah (ai 9 sc__law_leaf_family.nd (ar Jj hr (ac (ae (aa 7) ad) (ac (ae (aa 8) ad) af))))
   (ah (ai 10 sc__law_leaf_family.nd (aU (eg uM (ac (bn (av (ae (aa 7) ad) (ae (aa 8) ad)) (av (ae (aa 7) ad) (ae (aa 8) ad))) af)) (aa 9)))
   (ah (ai 11 sc__law_leaf_family.nd ad)
   (ah (dG PassesOwn.never (cC (bH (ar Jk hr (ac (aa 7) (ac (aa 8) (ac (aa 11) (ac (aa 9) af))))))) (aj (ai 11 sc__law_leaf_family.nd (ao (aa 11) ad))))
   (aj (au (aG (ac (aa 10) (ac (aa 9) (ac (aa 11) af)))))))))))))),λds R h=>?_⟩)
 ·obtain⟨_,_,rfl,_⟩:=h;rfl
 ·obtain⟨l,n,rfl,gd,nr,hR⟩:=h
  obtain⟨h0,h1,h2,h3⟩:=nr.unit
  obtain⟨z0,z1,z2,z3,ne,z5⟩:=Leaf.sizes gd nr
  have ha:=gd.a
  have hb:=gd.b
  have hc:=gd.c
  have hd:=gd.d
  unfold B12 at ha hb hc hd
  refine⟨_,rfl,rfl,?_⟩
  simp only[Fd,Fe,aV]
  refine⟨λx=>x= .tup [.int l.o0,.int l.o1],⟨_,rfl,_,rfl,.inl (u64 h0),_,rfl,_,rfl,.inl (u64 h2),_,rfl,_,rfl,.inl (u64 h1),_,rfl,_,rfl,.inl (u64 h3),by simp,rfl⟩,?_⟩;rintro _ rfl;k_places
  refine⟨λx=>x= .tup [.int l.t0,.int l.t1],⟨_,rfl,_,rfl,.inl (u64 h0),_,rfl,_,rfl,.inl (u64 h2),_,rfl,_,rfl,.inl (u64 h1),_,rfl,_,rfl,.inl (u64 h3),by simp,rfl⟩,?_⟩;rintro _ rfl;k_places
  generalize l.o0=o0 at*
  generalize l.o1=o1 at*
  generalize l.t0=t0 at*
  generalize l.t1=t1 at*
  refine⟨λx=>∃ g:Int,x= .int g/\0<=g/\g∣o1/\g∣t1/\∀ e,e∣o1->e∣t1->e∣g,⟨_,rfl,_,rfl,o1,t1,rfl,λg q0 q1 q2 q3=>⟨g,rfl,q0,q1,q2,q3⟩⟩,?_⟩
  rintro _ ⟨g,rfl,q0,q1,q2,q3⟩;k_places
  obtain⟨w,s,f⟩:=A1 ne q0 q1 q2 q3
  have hg:=f.2.1
  have k1:=bB (a:=o0) (d:=t1) (A:=24) (B:=24) z0 z3
  have k2:=bB (a:=o1) (d:=t0) (A:=24) (B:=24) z1 z2
  have Ql:=f.bd (N:=288) z5
  have j5:=f.cells
  have ew:(if o0*t1 - o1*t0<0 then -(o0*t1 - o1*t0) else o0*t1 - o1*t0) / g=w:=by
   have hp:=E5 f.1 hg
   have:(if o0*t1 - o1*t0<0 then -(o0*t1 - o1*t0) else o0*t1 - o1*t0)=w*g:=by split<;>lia
   rw[this]
   exact Fp _ (by lia)
  refine⟨λx=>x= .int w,⟨_,rfl,_,rfl,.inl (n64 z0),_,rfl,_,rfl,.inl (n64 z1),⟨by lia,by lia⟩,?_⟩,?_⟩
  ·exact congrArg D.int ew
  rintro _ rfl;k_places
  refine⟨λx=>x= .int 0,rfl,?_⟩;rintro _ rfl;k_places
  have hp:=E5 f.1 hg
  refine⟨λm z=>∃ x:Int,z=[some l.D,some (.int l.w0),some (.int l.w1),some (.int l.w2),some (.int l.w3),some (.int l.w4),some (.int l.w5),some (.tup [.int o0,.int o1]),some (.tup [.int t0,.int t1]),some (.int g),some (.int w),some (.int x)]/\0<=x/\x<=s/\m=(s - x).toNat,⟨_,0,rfl,by lia,f.2.2.1,rfl⟩,?_⟩
  rintro m z ⟨x,rfl,x0,x1,rfl⟩;k_places
  refine⟨o0,o1,t0,t1,x,g,rfl,by lia,by lia,by lia,by lia,ne,?_⟩
  refine ite2 (λc=>?_) (λc=>?_)
  ·have c':¬ ((x*t1 - g*t0).fmod (o0*t1 - o1*t0)=0/\(o0*g - o1*x).fmod (o0*t1 - o1*t0)=0):=notT c
   have xs:x≠s:=by
    rintro rfl
    obtain⟨_,_,_,_,m',n',k',l',_,e1,e2,e3,e4⟩:=id f
    exact c' (sr e3 e4)
   refine⟨λd=>d= .int (x+1),rfl,?_⟩;rintro _ rfl;k_places
   exact⟨_,by lia,x+1,rfl,by lia,by lia,rfl⟩
  ·have c':(x*t1 - g*t0).fmod (o0*t1 - o1*t0)=0/\(o0*g - o1*x).fmod (o0*t1 - o1*t0)=0:=by
    exact notF c
   obtain⟨i,j,e1,e2⟩:=sM ne c'
   have:x=s:=f.uniq_lean e1 e2 x0 x1
   subst this
   exact⟨by simp,hR w g x f (by lia)⟩
abbrev om(V:Bx):Prop:=V.D 1 "_law_in_family" kS Aq
theorem Da(T:V.T "_law_in_family" kR kS):om V:=by
 refine Tx.okDW T Cn (λds R h=>?_) (λf cdv A outer s H E J hr=>⟨_,((aj (au (dB (cR (aw (aa 2) (ae (aa 0) ad)) ad) (eA (cR (aw (bn (aa 1) (av (aU (aa 2) (ae (aa 0) ad)) (ae (aa 0) ad))) (ae (aa 0) ad)) ad)))))),λds R h=>?_⟩)
 ·obtain⟨w,h,s,x,y,rfl,_⟩:=h;rfl
 ·obtain⟨w,h,s,x,y,rfl,hw,hh,w_,hs,m4,hR⟩:=h
  refine⟨_,rfl,hh,ite2 (λc=>?_) (λc=>?_)⟩
  ·have c':=of_decide_eq_true c
   refine⟨_,rfl,⟨hh,w_⟩,_,rfl,.inr ⟨by lia,by lia⟩,_,rfl,hw,?_⟩
   have e:decide ((x - y / h*s) % w=0)=decide (y % h=0/\(x - y / h*s) % w=0):=by simp[c']
   have g:R (.bl (decide ((x - y / h*s) % w=0))):=by rw[e];exact hR
   exact g
  ·have c':=of_decide_eq_false (Fo.mpr c)
   have e:decide (y % h=0/\(x - y / h*s) % w=0)=false:=by simp[c']
   rw[e] at hR
   exact hR
abbrev oq(V:Bx):Prop:=V.D 2 "_law_both" kU A6
theorem Db(T:V.T "_law_both" kT kU)(Jj:iR V)(Mt:om V):oq V:=by
  refine Tx.okDW T sc__law_both (λds R h=>?_) (λf cdv A outer s H E J hr=>⟨_,((ah (ai 2 sc__law_both.nd (aU (av (ae (aa 0) ad) (ae (aa 1) ad)) (ar Jj hr (ac (ae (aa 0) ad) (ac (ae (aa 1) ad) af)))))
      (ah (ai 3 sc__law_both.nd (ae (aa 0) ad))
      (ah (dG PassesOwn.never (xH (av (aa 2) (aa 3)) ad) (ah (ai 4 sc__law_both.nd (aw (av (ae (aa 0) ad) (aU (aa 3) (ae (aa 0) ad))) (ae (aa 0) ad)))
        (ah (dG PassesOwn.never (fB (aa 4) (aa 2)) (ah (aZ (bH (ar Mt hr (ac (aa 1) (ac (aa 4) (ac (aa 3) af))))) (aj (au (aG (ac (aa 2) (ac (aa 3) (ac (aa 4) af)))))) aQ)
          (aj (ai 4 sc__law_both.nd (ao (aa 4) (ae (aa 0) ad))))))
        (aj (ai 3 sc__law_both.nd (ao (aa 3) (ae (aa 0) ad)))))))
      (aj (au cr)))))),λds R h=>?_⟩)
  · obtain⟨_,_,_,_,_,_,rfl,_⟩:=h;rfl
  · obtain⟨w1,h1,s1,w2,h2,s2,rfl,f1,f2,hR⟩:=h
    obtain⟨a1,a2,a3,a4,a5,a6⟩:=f1
    obtain⟨b1,b2,b3,b4,b5,b6⟩:=f2
    obtain⟨g,u,W,Hh,S,A,M1,eW,M⟩:=A5 ⟨a1,a2,a3,a4,a5,a6⟩ ⟨b1,b2,b3,b4,b5,b6⟩
    have NT:=hR W Hh S A M
    have wb:W<=518400:=by
      have:=(jY a1 b1 M1).2.1
      have:=bB (a:=w1) (d:=w2) (A:=720) (B:=720) (by lia) (by lia)
      lia
    have mw:=M.w0
    have mh:=M.h0
    have ms:=M.s0
    have Qm:=M.sw
    refine⟨λx=>x= .int W,⟨_,rfl,_,rfl,.inl ⟨by lia,by lia⟩,_,rfl,_,rfl,w1,w2,rfl,λG q0 q1 q2 q3=>?_⟩,?_⟩
    · have eG:=M1.gcd q0 q1 q2 q3
      subst eG
      have hg:=M1.pos a1
      have Mu:=M1.le a1
      exact⟨⟨hg,by lia⟩,by rw[<- eW]⟩
    rintro _ rfl;k_places
    refine⟨λx=>x= .int h1,⟨_,rfl,rfl⟩,?_⟩;rintro _ rfl;k_places
    obtain⟨i0,j0,eS,eH⟩:=M.up1
    have Pn:1<=j0:=by
      rcases(by lia:j0<=0\/1<=j0) with z|z
      · have:=FL z (show 0<=h1 by lia)
        lia
      · exact z
    refine⟨λm z=>∃ (j:Int) (o:Option D),z=[some (.tup [.int w1,.int h1,.int s1]),some (.tup [.int w2,.int h2,.int s2]),some (.int W),some (.int (j*h1)),o]/\1<=j/\j<=j0/\m=(j0 - j).toNat,⟨_,1,_,by rw[HW];rfl,by lia,Pn,rfl⟩,?_⟩
    rintro m z ⟨j,o,rfl,C_,Mw,rfl⟩;k_places
    have Po:0<j*h1:=E5 (by lia) a3
    have Pp:j*h1<=Hh:=by
      rw[eH]
      exact E6 Mw (by lia)
    have Qn:=Gz Pp (show 0<=W by lia)
    refine⟨.inl ⟨by lia,by lia⟩,ite2 (λc=>?_) (λc=>?_)⟩
    · have c':=of_decide_eq_true c
      have Qo:j*h1<=720:=by
        have:=(cy (w:=W) (h:=j*h1) mw Po).2
        lia
      have Pq:j*h1 / h1=j:=Fp _ (by lia)
      refine⟨λx=>∃ v:Int,x= .int v/\0<=v/\v<w1/\∃ i,v=i*w1+j*s1,⟨_,rfl,_,rfl,⟨by lia,by lia⟩,.inl ⟨by lia,by lia⟩,_,rfl,a1,_,rfl,bV a1,bW a1,?_⟩,?_⟩
      · rw[Pq]
        refine⟨-(s1*j / w1),?_⟩
        have:=Fv (s1*j) w1
        rw[this]
        have e1:s1*j=j*s1:=E9 _ _
        have e2:w1*(s1*j / w1)=s1*j / w1*w1:=E9 _ _
        rw[e2,FU]
        lia
      rintro _ ⟨x0,rfl,x1,x2,i1,NU⟩;k_places
      refine⟨λm z=>∃ (x:Int),z=[some (.tup [.int w1,.int h1,.int s1]),some (.tup [.int w2,.int h2,.int s2]),some (.int W),some (.int (j*h1)),some (.int x)]/\0<=x/\(∃ i,x=i*w1+j*s1)/\(j=j0->x<=S)/\m=(W - x).toNat,⟨_,x0,rfl,x1,⟨i1,NU⟩,λej=>?_,rfl⟩,?_⟩
      · subst ej
        obtain⟨k,ek,k0⟩:=A7 a1 x2 x1 ms eS ⟨i1,NU⟩
        have:=G0 k0 (show 0<=w1 by lia)
        lia
      rintro m z ⟨x,rfl,y0,⟨i2,ex⟩,yS,rfl⟩;k_places
      refine ite2 (λc=>?_) (λc=>?_)
      · have cW:=of_decide_eq_true c
        refine⟨w2,h2,s2,x,j*h1,rfl,b1,b3,by lia,b5,by lia,?_⟩
        refine ite2 (λq=>?_) (λq=>?_)
        · have q':=of_decide_eq_true q
          obtain⟨i3,k3,e3,e4⟩:=A3 q'
          obtain⟨z1,z2⟩:=M.high a3 C_ ⟨i2,ex⟩ ⟨i3,k3,e3,e4⟩
          have Mx:j*h1=Hh:=by lia
          have:=z2 Mx y0 cW
          subst this
          have:=NT.1 (by rw[<- Mx];lia)
          rw[<- Mx] at this
          exact⟨by simp,this⟩
        · have q':=of_decide_eq_false (Fo.mpr q)
          refine⟨λd=>d= .int (x+w1),⟨_,rfl,rfl⟩,?_⟩;rintro _ rfl;k_places
          refine⟨_,by lia,x+w1,rfl,by lia,⟨i2+1,by grind⟩,λej=>?_,rfl⟩
          subst ej
          have hx:=yS rfl
          have ne:x≠S:=by
            rintro rfl
            obtain⟨i4,j4,e5,e6⟩:=M.up2
            exact q' (in_fam (i:=i4) (j:=j4) b3 e5 (by rw[<- eH];exact e6))
          -- pc next one of pc row is not Mz S
          have:∃ t:Int,S=x+t*w1:=⟨i0 - i2,by rw[ex];grind⟩
          obtain⟨t,et⟩:=this
          have t1:1<=t:=by
            rcases(by lia:t<=0\/1<=t) with z|z
            · have:=FL z (show 0<=w1 by lia)
              lia
            · exact z
          have:=E6 t1 (show 0<=w1 by lia)
          lia
      · have cW:=of_decide_eq_false (Fo.mpr c)
        have Qp:j<j0:=by
          rcases(by lia:j<j0\/j=j0) with z|z
          · exact z
          · have:=yS z;lia
        refine⟨λd=>d= .int ((j+1)*h1),⟨_,rfl,by congr 1;grind⟩,?_⟩;rintro _ rfl;k_places
        exact⟨_,by lia,j+1,_,rfl,by lia,by lia,rfl⟩
    · have c':=of_decide_eq_false (Fo.mpr c)
      exact NT.2 (by lia)
abbrev iT(V:Bx):Prop:=V.D 3 "_law_family" kX kh
theorem Dc(T:V.T "_law_family" kW kX)(KW:ol V)(MB:oq V):iT V:=by
  refine Tx.okDW T sc__law_family (λds R h=>?_) (λf cdv A outer s H E J hr=>⟨_,((ah (ai 1 sc__law_family.nd (ar KW hr (ac (ae (aa 0) ad) af)))
      (ah (gy 2 PassesOwn.never rfl sc__law_family.nd (yg (aa 0) ad) (ah (ai 1 sc__law_family.nd (ar MB hr (ac (aa 1) (ac (ar KW hr (ac (aa 2) af)) af))))
        (aj (aZ (qM (aa 1) cr) (aj (au cr)) aQ))))
      (aj (au (aa 1)))))),λds R h=>?_⟩)
  · obtain⟨_,_,rfl,_⟩:=h;rfl
  · obtain⟨ls,n,rfl,i9,hg,hR⟩:=h
    cases ls with
    |nil=>exact absurd rfl i9
    |cons l0 ls=>
    refine⟨λx=>∃ w h s:Int,x= .tup [.int w,.int h,.int s]/\FamOf l0.o0 l0.o1 l0.t0 l0.t1 w h s/\w*h<=288,⟨_,ce (j:=0) rfl,l0,n,rfl,(hg l0 ET).1,(hg l0 ET).2,λw h s f q=>⟨w,h,s,rfl,f,q⟩⟩,?_⟩
    rintro _ ⟨w0,h0,s0,rfl,f0,q0⟩;k_places
    try simp only[Fd,Fe]
    have ec:cutD (F5 Leaf.D (l0::ls)) (some 1) none=ls.map Leaf.D:=by rw[EY,cut1]
    refine⟨λk z=>∃ (w h s:Int) (o:Option D),z=[some (.lst ((l0::ls).map Leaf.D)),some (.tup [.int w,.int h,.int s]),o]/\Fam0 w h s/\w*h<=720/\∀ x y,InF w h s x y↔bO (l0::ls.take k) x y,⟨w0,h0,s0,_,rfl,⟨f0.1,f0.2.1,f0.2.2.1,f0.2.2.2.1⟩,by lia,λx y=>?_⟩,?_,?_⟩
    · rw[f0.lat]
      constructor
      · intro q l z
        rcases EO.mp z with e|e
        · rw[e];exact q
        · cases e
      · intro q
        exact q l0 ET
    · rintro k v z hk ⟨w,h,s,o,rfl,fm,NV,lat⟩;k_places
      rw[ec,E3] at hk
      have n9:k<ls.length:=by
        rcases F6 k ls.length with q|q
        · exact q
        · rw[FD q] at hk;cases hk
      have Jh:ls[k]?=some ls[k]:=Fc n9
      rw[Jh] at hk
      cases hk
      obtain⟨gd,nr⟩:=hg ls[k] (ES _ (Fs n9))
      have Kd:∀ l∈ls.drop (k+1),l.Good/\l.Near n:=λl q=>hg l (ES _ (HX q))
      have y8:∀ x y,bO (l0::ls) x y↔(bO (l0::ls.take k) x y/\ls[k].Lat x y)/\bO (ls.drop (k+1)) x y:=λx y=>by
        have ed:ls=ls.take k++ls[k]::ls.drop (k+1):=by rw[<- Gn n9,List.take_append_drop]
        constructor
        · intro q
          refine⟨⟨λl z=>?_,q _ (ES _ (Fs n9))⟩,λl z=>q l (ES _ (HX z))⟩
          rcases EO.mp z with e|e
          · exact q l (e ▸ ET)
          · exact q l (ES _ (List.mem_of_mem_take e))
        · rintro⟨⟨q1,q2⟩,q3⟩ l z
          rcases EO.mp z with e|e
          · exact q1 l (e ▸ ET)
          · rw[ed] at e
            rcases Ff.mp e with e|e
            · exact q1 l (ES _ e)
            · rcases EO.mp e with e|e
              · rw[e];exact q2
              · exact q3 l e
      have g8:∀ x y,bO (l0::ls.take (k+1)) x y↔bO (l0::ls.take k) x y/\ls[k].Lat x y:=λx y=>by
        rw[kg Jh]
        constructor
        · intro q
          refine⟨λl z=>q l ?_,q _ (ES _ (E4 _ ET))⟩
          rcases EO.mp z with e|e
          · rw[e];exact ET
          · exact ES _ (FG _ e)
        · rintro⟨q1,q2⟩ l z
          rcases EO.mp z with e|e
          · exact q1 l (e ▸ ET)
          · rcases Ff.mp e with e|e
            · exact q1 l (ES _ e)
            · rw[EM.mp e];exact q2
      generalize ls[k]=l at gd nr y8 g8
      obtain⟨p1,p2⟩:=cy fm.w0 fm.h0
      refine⟨λx=>(∃ w h s:Int,x= .tup [.int w,.int h,.int s]/\Fam0 w h s/\w*h<=720/\∀ x y,InF w h s x y↔bO (l0::ls.take (k+1)) x y)\/(x= .non/\R .non),⟨l,n,rfl,gd,nr,λw2 h2 s2 f2 b2=>?_⟩,?_⟩
      · obtain⟨r1,r2⟩:=cy f2.1 f2.2.1
        refine⟨w,h,s,w2,h2,s2,rfl,⟨fm.w0,by lia,fm.h0,by lia,fm.s0,fm.sw⟩,⟨f2.1,by lia,f2.2.1,by lia,f2.2.2.1,f2.2.2.2.1⟩,λW Hh S A M=>⟨λq=>?_,λq=>?_⟩⟩
        · refine .inl ⟨W,Hh,S,rfl,⟨M.w0,M.h0,M.s0,M.sw⟩,q,λx y=>?_⟩
          rw[M.lat,lat,f2.lat,g8]
          exact Iff.rfl
        · refine .inr ⟨rfl,?_⟩
          obtain⟨w3,h3,s3,f3,e3⟩:=sO (ls.drop (k+1)) W Hh S ⟨M.w0,M.h0,M.s0,M.sw⟩ Kd
          refine(hR w3 h3 s3 f3 λx y=>?_).2 ?_
          · rw[e3,M.lat,lat,f2.lat,y8]
            exact Iff.rfl
          · have:=(InF.le M.w0 M.h0 f3.w0 f3.h0 (λx y z=>((e3 x y).mp z).1)).1
            lia
      · rintro _ (⟨W,Hh,S,rfl,Pr,q,e'⟩|⟨rfl,hn⟩);k_places
        · try simp only[Fd,Fe]
          exact⟨W,Hh,S,_,rfl,Pr,q,e'⟩
        · try simp only[Fd,Fe]
          exact hn
    · rintro z ⟨w,h,s,o,rfl,fm,NV,lat⟩;k_places
      rw[ec,EU,GE] at lat
      exact(hR w h s fm lat).1 NV
abbrev ot(V:Bx):Prop:=V.D 4 "_law_over" kZ A9
theorem Dd(T:V.T "_law_over" kY kZ)(IN:V.m "max")(Jl:iT V):ot V:=by
 refine Tx.okDW T sc__law_over (λds R h=>?_) (λf cdv A outer s H E J hr=>⟨_,((ah (ai 2 sc__law_over.nd (ao (ae (aa 0) ad) (ae (aa 1) ad)))
   (ah (aZ (cS (dA (qL (jG rfl IN (ac (ae (aa 0) ad) (ac (ae (aa 1) ad) af))) ad) (eo (qM (ar Jl hr (ac (aa 2) af)) cr)))) (aj (au (aa 0))) aQ)
   (aj (au (bj (ac (ao (ao (ao (ao ay (ae (aa 0) ad)) ay) (ae (aa 1) ad)) ay) (ac (ao ad (jG rfl IN (ac (ae (aa 0) ad) (ac (ae (aa 1) ad) af)))) (ac (aa 2) af))))))))),λds R h=>?_⟩)
 ·obtain⟨_,_,rfl,_⟩:=h;rfl
 ·obtain⟨p,q,rfl,wp,wq,dp,dq,KY,KZ⟩:=h
  have n1:=Pat.leaves_32 dp
  have n2:=Pat.leaves_32 dq
  refine⟨λx=>x= .lst ((Pat.over p q).leaves.map Leaf.D),⟨_,rfl,_,rfl,?_,?_⟩,?_⟩
  ·rw[EU,EU];lia
  ·rw[Pat.leaves,Fl]
  rintro _ rfl;k_places
  refine⟨_,rfl,_,rfl,ite2 (λc=>KY) (λc=>?_)⟩
  have c':=of_decide_eq_false (Fo.mpr c)
  have ep:p.depth<5/\q.depth<5:=by
   split at c'<;>lia
  refine⟨(Pat.over p q).leaves,(Pat.over p q).depth,rfl,?_,λl hl=>Pat.leaf_good (p:= .over p q) ⟨wp,wq⟩ l hl,λw h s f lat=>⟨λsm=>?_,λ_=>KY⟩⟩
  ·intro z
   have:(Pat.over p q).leaves.length=0:=by rw[z];rfl
   rw[Pat.leaves,EW] at this
   have:=Pat.leaves_pos p
   lia
  have t1:=Pat.text_short wp dp
  have t2:=Pat.text_short wq dq
  have l1:("(":Str).length=1:=rfl
  have l2:("|":Str).length=1:=rfl
  have l3:(")":Str).length=1:=rfl
  have Ps:(Pat.over p q).Fits:=⟨w,h,s,⟨f,λx y=>(lat x y).trans (Pat.lat_leaves (.over p q) x y)⟩,sm⟩
  refine⟨_,rfl,?_,?_,_,rfl,?_,?_,_,rfl,_,rfl,by simp,?_⟩
  ·lia
  ·rw[aC];lia
  ·rw[aC,aC];lia
  ·rw[aC,aC,aC];lia
  have g:=KZ ep.1 ep.2 Ps
  have e:(1+(if(q.depth:Int)>(p.depth:Int) then(q.depth:Int) else(p.depth:Int)))=(((Pat.over p q).depth:Nat):Int):=by
   rw[Pat.depth]
   split<;>lia
  unfold Pat.D at g
  rw[<- e] at g
  exact g
abbrev ou(V:Bx):Prop:=V.D 5 "_law_pattern" lh Ba
theorem De(T:V.T "_law_pattern" lf lh)(uA:V.m "range")(Jf:iP V)(K0:oj V)(IP:iQ V)(K1:ot V):ou V:=by
  refine Tx.okDW T sc__law_pattern (λds R h=>?_) (λf cdv A outer s H E J hr=>⟨_,((ah (ai 2 sc__law_pattern.nd (ar Jf hr (ac (aa 0) (ac (aa 1) (ac ad af)))))
      (ah (ai 3 sc__law_pattern.nd (ar K0 hr (ac (aa 0) (ac (ao (aa 1) ad) af))))
      (ah (bT 4 PassesOwn.never rfl sc__law_pattern.nd uA (aw (ae (aa 2) ad) ad) (ah (ai 5 sc__law_pattern.nd (ae (aa 2) (ao ad (av ad (aa 4)))))
        (aj (eE (bq (aw (aa 5) ad) ad) (aj (ai 3 sc__law_pattern.nd (ar IP hr (ac (aa 3) (ac (aU (aa 5) ad) af))))) (ah (ai 6 sc__law_pattern.nd (ar K0 hr (ac (aa 0) (ac (ao (ao (aa 1) ad) (av ad (aa 4))) af))))
         (ah (eE (bq (aw (aU (aa 5) ad) ad) ad) (aj (ai 6 sc__law_pattern.nd (ar IP hr (ac (aa 6) (ac (ae (aa 2) (ao ad (av ad (aa 4)))) af))))) aQ)
         (aj (ai 3 sc__law_pattern.nd (ae (bj (ac (ar K1 hr (ac (aa 3) (ac (aa 6) af))) (ac (ar K1 hr (ac (aa 6) (ac (aa 3) af))) af))) (aw (aU (aa 5) ad) ad))))))))))
      (aj (au (aa 3))))))),λds R h=>?_⟩)
  · obtain⟨_,_,rfl,_⟩:=h;rfl
  · obtain⟨ns,k,rfl,hk,hR⟩:=h
    refine⟨λx=>∃ xs:List Int,x= .lst (xs.map D.int)/\xs.length=13/\Drawn xs,⟨ns,k,13,rfl,hk,by decide,λxs h1 h2=>⟨xs,rfl,h1,h2⟩⟩,?_⟩
    rintro _ ⟨xs,rfl,hl,hd⟩;k_places
    refine⟨λx=>∃ p:Pat,x=p.D/\p.Ok,⟨ns,k+2,rfl,by lia,λL a b c d h1 h2 h3 h4 h5 h6=>⟨.mot L a b c d,rfl,⟨h1,h2,h3,h4,h5,h6⟩,by simp[Pat.depth],Pat.fits_mot h2 h3 h4 h5 h6⟩⟩,?_⟩
    rintro _ ⟨p0,rfl,Pt⟩;k_places
    have a0:=cE (xs:=xs) (k:=0) (by decide) (show 0<xs.length by lia)
    have h7:=bV (a:=cell xs 0) (show(0:Int)<7 by decide)
    have h8:=bW (a:=cell xs 0) (show(0:Int)<7 by decide)
    refine⟨_,a0,by decide,⟨by lia,by lia⟩,λi z=>∃ (p:Pat) (o1 o2 o3:Option D),z=[some (.rol (ns.map D.int)),some (.int k),some (.lst (xs.map D.int)),some p.D,o1,o2,o3]/\p.Ok,⟨p0,_,_,_,rfl,Pt⟩,?_,?_⟩
    · rintro i v z hi ⟨p,o1,o2,o3,rfl,ok⟩;k_places
      obtain⟨l9,rfl⟩:=bN hi
      have a1:=cE (xs:=xs) (k:=1+2*(i:Int)) (by lia) (by lia)
      have a2:=cE (xs:=xs) (k:=2+2*(i:Int)) (by lia) (by lia)
      generalize cell xs (1+2*(i:Int))=st at a1
      generalize cell xs (2+2*(i:Int))=sv at a2
      refine⟨λx=>x= .int st,⟨.inr ⟨by lia,by lia⟩,_,a1,rfl⟩,?_⟩;rintro _ rfl;k_places
      refine⟨λz=>∃ (p:Pat) (o3:Option D),z=[some (.rol (ns.map D.int)),some (.int k),some (.lst (xs.map D.int)),some p.D,some (.int i),some (.int st),o3]/\p.Ok,⟨by decide,ite2 (λc=>?_) (λc=>?_)⟩,?_⟩
      · refine⟨λx=>∃ p:Pat,x=p.D/\p.Ok,⟨⟨by decide,by decide⟩,p,_,rfl,ok.wf,ok.deep,by have:=Pat.text_short ok.wf ok.deep;lia,Wraps.of ok λq hq=>⟨q,rfl,hq⟩⟩,?_⟩
        rintro _ ⟨q,rfl,c7⟩;k_places
        exact⟨q,_,rfl,c7⟩
      · refine⟨λx=>∃ p:Pat,x=p.D/\p.Ok,⟨.inr ⟨by lia,by lia⟩,ns,k+4+2*(i:Int),rfl,by lia,λL a b c d h1 h2 h3 h4 h5 h6=>⟨.mot L a b c d,rfl,⟨h1,h2,h3,h4,h5,h6⟩,by simp[Pat.depth],Pat.fits_mot h2 h3 h4 h5 h6⟩⟩,?_⟩
        rintro _ ⟨q,rfl,c7⟩;k_places
        refine⟨λz=>∃ (q:Pat),z=[some (.rol (ns.map D.int)),some (.int k),some (.lst (xs.map D.int)),some p.D,some (.int i),some (.int st),some q.D]/\q.Ok,⟨⟨by decide,by decide⟩,by decide,ite2 (λc=>?_) (λc=>?_)⟩,?_⟩
        · refine⟨λx=>∃ p:Pat,x=p.D/\p.Ok,⟨.inr ⟨by lia,by lia⟩,_,a2,q,_,rfl,c7.wf,c7.deep,by have:=Pat.text_short c7.wf c7.deep;lia,Wraps.of c7 λq hq=>⟨q,rfl,hq⟩⟩,?_⟩
          rintro _ ⟨q,rfl,c7⟩;k_places
          exact⟨q,rfl,c7⟩
        · exact⟨q,rfl,c7⟩
        rintro _ ⟨q,rfl,c7⟩;k_places
        refine⟨λx=>∃ p:Pat,x=p.D/\p.Ok,?_,?_⟩
        · have d5:∀ r r':Pat,r.Ok->r'.Ok->∃ x,atI [r.D,r'.D] (st / 4 % 2)=some x/\∃ p:Pat,x=p.D/\p.Ok:=λr r' hr Pu=>by
            rcases(by lia:st / 4 % 2=0\/st / 4 % 2=1) with e|e<;>rw[e]
            · exact⟨_,rfl,r,rfl,hr⟩
            · exact⟨_,rfl,r',rfl,Pu⟩
          have NW:p.depth<5->q.depth<5->(Pat.over p q).Fits->(Pat.over p q).Ok:=λd1 d2 ft=>⟨⟨ok.wf,c7.wf⟩,by simp only[Pat.depth];lia,ft⟩
          have NX:q.depth<5->p.depth<5->(Pat.over q p).Fits->(Pat.over q p).Ok:=λd1 d2 ft=>⟨⟨c7.wf,ok.wf⟩,by simp only[Pat.depth];lia,ft⟩
          refine⟨p,q,rfl,ok.wf,c7.wf,ok.deep,c7.deep,?_,λd1 d2 ft=>?_⟩<;>refine⟨q,p,rfl,c7.wf,ok.wf,c7.deep,ok.deep,?_,λd3 d4 NY=>?_⟩<;>refine⟨by simp,⟨by decide,by decide⟩,by decide,?_⟩
          · exact d5 _ _ ok c7
          · exact d5 _ _ ok (NX d3 d4 NY)
          · exact d5 _ _ (NW d1 d2 ft) c7
          · exact d5 _ _ (NW d1 d2 ft) (NX d3 d4 NY)
        rintro _ ⟨q',rfl,MC⟩;k_places
        exact⟨q',_,rfl,MC⟩
      rintro _ ⟨q,o3,rfl,c7⟩;k_places
      exact⟨q,_,_,_,rfl,c7⟩
    · rintro z ⟨p,o1,o2,o3,rfl,ok⟩;k_places
      exact hR p ok
def Df:SpD:=λds R=>∃ ns:List Int,ds=[.rol (ns.map D.int)]/\∀ xs:List Int,xs.length<=5->(∀ x∈xs,¬ x % 4=3)->R (.lst (xs.map D.int))
theorem Dg(i:Int):∃ xs:List Int,atI [D.lst [.int 0,.int 0],.lst [.int 1,.int 1,.int 1,.int 1],.lst [.int 0,.int 1,.int 0,.int 1],.lst [.int 1,.int 0,.int 1,.int 0]] (i % 4)=some (.lst (xs.map D.int))/\xs.length<=5/\∀ x∈xs,¬ x % 4=3:=by
 rcases(by omega:i % 4=0\/i % 4=1\/i % 4=2\/i % 4=3) with e|e|e|e<;>rw[e]
 ·exact⟨[0,0],rfl,by decide,by decide⟩
 ·exact⟨[1,1,1,1],rfl,by decide,by decide⟩
 ·exact⟨[0,1,0,1],rfl,by decide,by decide⟩
 ·exact⟨[1,0,1,0],rfl,by decide,by decide⟩
theorem pow5{k:Nat}(h:k<5):∃ m:Int,atI [D.int 2,.int 4,.int 8,.int 16,.int 32] (k:Int)=some (.int m)/\0<m/\m<1073741824:=by
 rcases(by omega:k=0\/k=1\/k=2\/k=3\/k=4) with rfl|rfl|rfl|rfl|rfl<;>exact⟨_,rfl,by decide,by decide⟩
abbrev ow(V:Bx):Prop:=V.D 2 "_law_word" ll Df
theorem Dh(T:V.T "_law_word" hJ ll)(uA:V.m "range")(uY:iO V):ow V:=by
 refine Tx.okDW T sc__law_word (λds R h=>?_) (λf cdv A outer s H E J hr=>⟨_,((ah (ai 1 sc__law_word.nd (ar uY hr (ac (aa 0) (ac ad af))))
   (ah (ai 2 sc__law_word.nd (bn (aw (aU (aa 1) ad) ad) ad))
   (ah (ai 3 sc__law_word.nd (bn (aw (aU (aa 1) ad) ad) ad))
   (ah (ai 4 sc__law_word.nd (ao (ao ad (av ad (ao (aa 2) ad))) (av ad (ao (aa 3) ad))))
   (ah (ai 5 sc__law_word.nd (ao (ao ad (av ad (bn ad (aa 2)))) (av ad (bn ad (aa 3)))))
   (ah (aZ (cS (qO (bq (aw (aa 1) ad) ad) (qN (bq (aw (aU (aa 1) ad) ad) ad)))) (aj (au (bj (ac (aa 4) (ac (aa 5) af))))) aQ)
   (ah (aZ (bq (aw (aa 1) ad) ad) (aj (au (ae (bj (ac (bj (ac ad (ac ad af))) (ac (bj (ac ad (ac ad (ac ad (ac ad af))))) (ac (bj (ac ad (ac ad (ac ad (ac ad af))))) (ac (bj (ac ad (ac ad (ac ad (ac ad af))))) af))))) (aw (aU (aa 1) ad) ad)))) aQ)
   (aj (au (gG rfl (compScope (by change cv _ (ag hJ) ["_law_script","_law_draw","_law_across","_law_down","_law_there","_law_back"] _=true;decide+kernel)) uA (ao ad (aw (ar uY hr (ac (aa 0) (ac ad af))) ad)) (λcl s0 H0 fp=>(aw (aU (aa 1) (ae (bj (ac ad (ac ad (ac ad (ac ad (ac ad af)))))) (aa 6))) ad))))))))))))),λds R h=>?_⟩)
 ·obtain⟨_,rfl,_⟩:=h;rfl
 ·obtain⟨ns,rfl,hR⟩:=h
  generalize hd:cell ns 0=d
  refine⟨λx=>x= .int d,⟨ns,0,rfl,by decide,by rw[hd]⟩,?_⟩
  rintro _ rfl;k_places
  refine⟨λx=>∃ a:Int,x= .int a,⟨⟨by decide,by decide⟩,by decide,_,rfl⟩,?_⟩
  rintro _ ⟨a,rfl⟩;k_places
  refine⟨λx=>∃ b:Int,x= .int b,⟨⟨by decide,by decide⟩,by decide,_,rfl⟩,?_⟩
  rintro _ ⟨b,rfl⟩;k_places
  refine⟨λx=>∃ t:Int,x= .int t/\¬ t % 4=3,⟨.inl ⟨by decide,by decide⟩,.inl ⟨by decide,by decide⟩,_,rfl,by omega⟩,?_⟩
  rintro _ ⟨t,rfl,ht⟩;k_places
  refine⟨λx=>∃ t:Int,x= .int t/\¬ t % 4=3,⟨.inl ⟨by decide,by decide⟩,.inl ⟨by decide,by decide⟩,_,rfl,by omega⟩,?_⟩
  rintro _ ⟨u,rfl,hu⟩;k_places
  show dSeq _ _ _ [_,_,_,_,_,_]
  have tu:∀ x∈[t,u],¬ x % 4=3:=λx hx=>by
   rcases EO.mp hx with rfl|hx
   ·exact ht
   ·rw[EM.mp hx];exact hu
  refine(λhr=>⟨by decide,ite2 (λ_=>⟨⟨by decide,by decide⟩,by decide,ite2 (λ_=>⟨by show(2:Nat)<=1000;decide,hR [t,u] (by show 2<=5;decide) tu⟩) (λ_=>hr)⟩) (λ_=>hr)⟩) ?_
  refine⟨by decide,ite2 (λ_=>?_) λ_=>?_⟩
  ·obtain⟨xs,e,h1,h2⟩:=Dg (d / 6)
   exact⟨by show(2:Nat)<=1000;decide,by show(4:Nat)<=1000;decide,by show(4:Nat)<=1000;decide,by show(4:Nat)<=1000;decide,by show(4:Nat)<=1000;decide,⟨by decide,by decide⟩,by decide,_,e,hR xs h1 h2⟩
  refine⟨ns,1,rfl,by decide,by decide,⟨by omega,by omega⟩,by rw[bx];omega,λk ys=>∃ xs:List Int,ys=xs.map D.int/\xs.length=k/\∀ x∈xs,¬ x % 4=3,⟨[],rfl,rfl,λx hx=>absurd hx FO⟩,?_,?_⟩
  ·rintro k v ys hk hy ⟨xs,rfl,xl,hx⟩;k_places
   obtain⟨p_,rfl⟩:=bN hk
   obtain⟨m,e,m0,m1⟩:=pow5 (k:=k) (by omega)
   refine⟨by show(5:Nat)<=1000;decide,_,e,⟨m0,m1⟩,by decide,xs++[d / m % 2],by rw[Fl];rfl,by rw[EW,xl];rfl,λx gt=>?_⟩
   rcases Ff.mp gt with q|q
   ·exact hx x q
   ·rw[EM.mp q];omega
  ·rintro ys hy ⟨xs,rfl,xl,hx⟩;k_places
   rw[bx] at xl
   exact hR xs (by omega) hx
abbrev iU(V:Bx):Prop:=V.E 1 "WrongSign" lp BS
theorem Di(T:V.Te "WrongSign" "WrongSign.__init__" lm lp)(Jn:V.b "MotifError")(uAS:V.ea "WrongSign")(MD:V.xf "WrongSign" "place"):iU V:=by
 refine Txe.okE T Co (λds R h=>?_) (λf cdv A outer s H E J hr=>⟨_,((rq Jn uAS (ac (aa 1) af) (rz uAS MD (aa 1) rn))),λds R h=>?_⟩)
 ·obtain⟨i,rfl,_⟩:=h;rfl
 ·obtain⟨i,rfl,hR⟩:=h
  exact⟨by show(1:Nat)<=1000;decide,rfl,hR⟩
abbrev du(V:Bx):Prop:=V.Q 1 "Reading" "may_take" lr Bg
theorem Dj(T:V.Tm "Reading" "may_take" "Reading.may_take" lq lr)(uB:V.m "len")(Ii:V.a "Reading" "text")(uE:V.a "Reading" "place"):du V:=by
 refine Txm.okM T Cp (λds M R RX h=>?_) (λf cdv A outer s H E J hr hx=>⟨_,((aB (cn (mt_w (zb (gO (aL uE (am (aa 0))) (rM uB (aT (aL Ii (am (aa 0))) br))) (yZ (yV (rJ (aL Ii (am (aa 0))) (aL uE (am (aa 0)))) (am (aa 1)))))) (aE (aM (am ay))) ca)
   (aB (gR uE (am (aa 0)) (gM (aL uE (am (aa 0))) (am ad)))
   (aE (aM (rJ (aL Ii (am (aa 0))) (jP (aL uE (am (aa 0))) (am ad)))))))),λds M R RX b7 h=>?_⟩)
 ·obtain⟨_,_,_,_,_,rfl,_⟩:=h;rfl
 ·obtain⟨a,t,k,l,al,rfl,rfl,d6,hR⟩:=h
  refine⟨_,aN,_,db,_,aN,_,ki,E1 d6.sz (by decide),?_⟩
  cases l with
  |nil=>
   refine ifdT (by rw[d6.nil]) (ifT rfl ?_)
   exact hR
  |cons c l=>
   have lt:=d6.lt
   refine ifdF (by lia) ?_
   refine⟨_,aN,_,ki,_,aN,_,db,c,⟨E1 d6.sz (by decide),ce d6.get⟩,?_⟩
   refine ite2 (λe=>?_) (λe=>?_)
   ·have e2:(!(!(Builtin.Str.occurrences al ⟨#[c]⟩ 0 al.length 1).isEmpty))=true:=e
    rw[sX] at e2
    have nc:c ∉ cs al:=by simpa using e2
    rw[de nc,df nc] at hR
    exact hR
   ·have e2:¬ (!(!(Builtin.Str.occurrences al ⟨#[c]⟩ 0 al.length 1).isEmpty))=true:=e
    rw[sX] at e2
    have nc:c∈cs al:=by simpa using e2
    rw[dN nc,dO nc] at hR
    refine⟨_,aN,_,db,_,aN,by show(2:Nat)<1000;decide,?_⟩
    rw[show mput (RdM a t k) a (.ins "Reading" (putD ("place":Str) (.int ((k:Int)+1)) (rdF t k)))=RdM a t (k+1) by rw[Be];exact eX]
    refine⟨_,aN,_,ki,_,aN,_,db,c,⟨E1 d6.sz (by decide),?_⟩,hR⟩
    rw[show((k+1:Nat):Int) - 1=(k:Int) by lia]
    exact ce d6.get
abbrev cI(V:Bx):Prop:=V.Q 3 "Reading" "take" lv Bh
theorem Dk(T:V.Tm "Reading" "take" "Reading.take" lu lv)(uE:V.a "Reading" "place")(uH:du V)(uZ:iU V):cI V:=by
 refine Txm.okM T sc_Reading_take (λds M R RX h=>?_) (λf cdv A outer s H E J hr hx=>⟨_,((aB (bf 2 sc_Reading_take.nd (bb (CalMth.one uH) hx hr (am (aa 0)) (aD (ac (aa 1) af))))
   (aB (cn (cm (bq (aa 2) ay)) (aE (jS uZ hr hx rfl (aT (aL uE (am (aa 0))) br))) ca)
   (aE (aM (am (aa 2))))))),λds M R RX b7 h=>?_⟩)
 ·obtain⟨_,_,_,_,_,rfl,_⟩:=h;rfl
 ·obtain⟨a,t,k,l,al,rfl,rfl,d6,hR,hX⟩:=h
  refine⟨λd M'=>d= .str (mayS al l)/\M'=RdM a t (k+mayN al l),⟨_,EM.mpr rfl,_,aN,cO,a,t,k,l,al,rfl,rfl,d6,rfl,rfl⟩,?_⟩
  rintro _ _ ⟨rfl,rfl⟩;k_places
  have no:(∀ c l',l=c::l'->c ∉ cs al)->mayS al l=""/\mayN al l=0:=λh=>by
   cases l with
   |nil=>exact⟨rfl,rfl⟩
   |cons c l=>exact⟨de (h c l rfl),df (h c l rfl)⟩
  by_cases h:∃ c l',l=c::l'/\c∈cs al
  ·obtain⟨c,l',rfl,hc⟩:=h
   rw[dN hc,dO hc]
   exact hR c l' rfl hc
  ·have h':∀ c l',l=c::l'->c ∉ cs al:=λc l' e hc=>h ⟨c,l',e,hc⟩
   obtain⟨e1,e2⟩:=no h'
   rw[e1,e2]
   refine⟨_,aN,_,db,by show(1:Nat)<=1000;decide,(k:Int),rfl,?_⟩
   rw[b7]
   exact hX h' _
abbrev oy(V:Bx):Prop:=V.MM 4 "line_from" lz Bo
theorem Dl(T:V.T "line_from" ly lz)(uA:V.m "range")(uV:V.gs "SIGNS" ".123456")(uC:cI V)(uH:du V):oy V:=by
 refine Tx.okM T sc_line_from (λds M R RX h=>?_) (λf cdv A outer s H E J hr hx=>⟨_,((aB (bf 3 sc_line_from.nd (am ay))
   (aB (zy 4 PassesOwn.leaving rfl sc_line_from.nd uA (am (aa 2)) (aE (bf 3 sc_line_from.nd (gM (am (aa 3)) (fK (cm (fB (aa 4) (aa 1))) (bb (CalMth.one uC) hx hr (am (aa 0)) (aD (ac (gH uV) af))) (bb (CalMth.one uH) hx hr (am (aa 0)) (aD (ac (gH uV) af))))))))
   (aE (aM (am (aa 3))))))),λds M R RX b7 h=>?_⟩)
 ·obtain⟨_,_,_,_,_,_,rfl,_⟩:=h;rfl
 ·obtain⟨a,t,k,l,n,m,rfl,rfl,d6,Qq,Qr,hR,hX⟩:=h
  refine⟨λd M'=>d= .str ""/\M'=RdM a t k,⟨rfl,rfl⟩,?_⟩
  rintro _ _ ⟨rfl,rfl⟩;k_places
  refine⟨⟨by lia,by lia⟩,λi z M'=>i<=m/\∃ col,z=[some (.ptr a),some (.int n),some (.int m),some (.str ⟨(sgPre i l).toArray⟩),col]/\M'=RdM a t (k+(sgPre i l).length)/\min i n<=(sgPre i l).length,⟨Fj _,none,rfl,rfl,by simp⟩,?_,?_⟩
  ·rintro i x z M' hi ⟨Qs,col,rfl,rfl,v4⟩;k_places
   obtain⟨IQ,rfl⟩:=bN hi
   have IQ:i<m:=by lia
   have MF:=gT i l
   rcases sgPre_succ i l with⟨c,l',h1,h2,h3,h4⟩|⟨l',h1,h2,h3⟩
   ·have c9:At t (k+(sgPre i l).length) (c::l'):=by have:=d6;rw[h1] at this;exact this.app
    refine⟨λd M'=>d= .str ⟨(sgPre (i+1) l).toArray⟩/\M'=RdM a t (k+(sgPre i l).length+1),?_,?_⟩
    ·refine ite2 (λ_=>?_) (λ_=>?_)
     ·refine⟨_,EM.mpr rfl,_,aN,cb,a,t,_,_,".123456",rfl,rfl,c9,λc' l2 e hc=>?_,λc_=>absurd (signs_is.mpr h3) (c_ c l' rfl)⟩
      cases e
      refine⟨by rw[dR,show(⟨#[c]⟩:Str).length=1 from rfl];lia,?_,rfl⟩
      rw[show(⟨#[c]⟩:Str)=⟨[c].toArray⟩ from rfl,eY,h4]
     ·refine⟨_,EM.mpr rfl,_,aN,cO,a,t,_,_,".123456",rfl,rfl,c9,?_⟩
      rw[dN (signs_is.mpr h3),dO (signs_is.mpr h3)]
      refine⟨by rw[dR,show(⟨#[c]⟩:Str).length=1 from rfl];lia,?_,rfl⟩
      rw[show(⟨#[c]⟩:Str)=⟨[c].toArray⟩ from rfl,eY,h4]
    ·rintro _ _ ⟨rfl,rfl⟩;k_places
     refine⟨IQ,_,rfl,?_,?_⟩
     ·rw[h4,EW];rfl
     ·rw[h4,EW,h2];show _<=i+1;lia
   ·have c9:At t (k+(sgPre i l).length) l':=by have:=d6;rw[h1] at this;exact this.app
    have c_:∀ c l2,l'=c::l2->c ∉ cs ".123456":=λc l2 q z=>by
     have:=h2 c l2 q
     rw[signs_is.mp z] at this
     cases this
    have v5:mayS ".123456" l'=""/\mayN ".123456" l'=0:=by
     cases l' with
     |nil=>exact⟨rfl,rfl⟩
     |cons c l2=>exact⟨de (c_ c l2 rfl),df (c_ c l2 rfl)⟩
    refine⟨λd M'=>d= .str ⟨(sgPre (i+1) l).toArray⟩/\M'=RdM a t (k+(sgPre i l).length)/\¬ i<n,?_,?_⟩
    ·refine ite2 (λc=>?_) (λc=>?_)
     ·have c':=of_decide_eq_true c
      refine⟨_,EM.mpr rfl,_,aN,cb,a,t,_,_,".123456",rfl,rfl,c9,λc' l2 e hc=>absurd hc (c_ c' l2 e),λ_ M'=>?_⟩
      rw[b7]
      have:=hX (by rw[h3 m (by lia)];lia) M'
      rw[h3 m (by lia)] at this
      exact this
     ·have c':¬ i<n:=λz=>c (decide_eq_true (by lia))
      refine⟨_,EM.mpr rfl,_,aN,cO,a,t,_,_,".123456",rfl,rfl,c9,?_⟩
      rw[v5.1,v5.2]
      refine⟨by rw[dR,show("":Str).length=0 from rfl];lia,?_,rfl,c'⟩
      rw[show("":Str)=⟨([]:List Nat).toArray⟩ from rfl,eY,Fx,h3 (i+1) (by lia)]
    ·rintro _ _ ⟨rfl,rfl,o9⟩;k_places
     refine⟨IQ,_,rfl,by rw[h3 (i+1) (by lia)],?_⟩
     rw[h3 (i+1) (by lia)]
     lia
  ·intro z M' hz
   rw[bx,HY] at hz
   obtain⟨_,col,rfl,rfl,v4⟩:=hz
   exact hR (by lia)
abbrev oz(V:Bx):Prop:=V.MM 5 "lines_from" lD Br
theorem Dm(T:V.T "lines_from" lC lD)(uB:V.m "len")(K2:oy V)(K3:V.gi "LONGEST" 8)(uH:du V):oz V:=by
  refine Tx.okM T sc_lines_from (λds M R RX h=>?_) (λf cdv A outer s H E J hr hx=>⟨_,((aB (bf 1 sc_lines_from.nd (ze (aT (bc (CalMM.frame K2) hx hr (aD (ac (aa 0) (ac ad (ac (eL K3) af))))) br)))
      (aB (bf 2 sc_lines_from.nd (rM uB (aT (zB (am (aa 1)) (am ad)) br)))
      (aB (zx PassesOwn.leaving (mt_w (za (rK (zA uB (am (aa 1))) (am (eL K3))) (yY (gO (bb (CalMth.one (CalMth.frame uH)) hx hr (am (aa 0)) (aD (ac ay af))) (am ay))))) (aE (cx (zD (am (aa 1)) (bc (CalMM.frame K2) hx hr (aD (ac (aa 0) (ac (aa 2) (ac (aa 2) af)))))))))
      (rR 1 (aE (aM (am (aa 1))))))))),λds M R RX b7 h=>?_⟩)
  · obtain⟨_,_,_,_,rfl,_⟩:=h;rfl
  · obtain⟨a,t,k,l,rfl,rfl,d6,hR,hX⟩:=h
    obtain⟨l1,K4,hg⟩:=sgPre_split 8 l
    have NZ:=sgPre_sign 8 l
    have D':=gT 8 l
    refine⟨λd M'=>∃ p,p≠a/\1<=(sgPre 8 l).length/\d= .ptr p/\M'=(p,.lst [.str ⟨(sgPre 8 l).toArray⟩])::RdM a t (k+(sgPre 8 l).length),⟨[],RdM a t k,rfl,a,t,k,l,1,8,rfl,rfl,d6,by decide,by decide,λh1=>⟨by show 1<=1000;decide,λp hp=>?_⟩,λh1 M'=>?_⟩,?_⟩
    · exact⟨p,λe=>hp (by rw[e];exact EM.mpr rfl),h1,rfl,rfl⟩
    · rw[b7]
      refine hX _ (λr=>?_) _
      have e0:sgPre 8 l=[]:=GZ (by lia)
      rw[e0] at K4 hg ⊢
      rw[K4]
      have:=tf (w:=1) (n:=0) (x:=[]) (l:=l1) (λc z=>nomatch z) (by decide) (by decide) (λ_=>rfl) (hg.resolve_left (by decide)) r k
      refine walk_bad (λz=>nomatch z) λc l' q=>?_
      rw[dM]
      unfold cN
      rw[hg.resolve_left (by decide) c l' q,if_neg E2]
      exact if_pos (.inl rfl)
    rintro _ _ ⟨p,Pw,h1,rfl,rfl⟩;k_places
    refine⟨λd M'=>d= .int (sgPre 8 l).length/\M'=(p,.lst [.str ⟨(sgPre 8 l).toArray⟩])::RdM a t (k+(sgPre 8 l).length),⟨_,cP,_,rfl,by rw[dR];lia,by rw[dR],rfl⟩,?_⟩
    rintro _ _ ⟨rfl,rfl⟩;k_places
    refine⟨λm z M'=>∃ (L:List (List Nat)) (w0:Nat) (l2:List Nat),RowsL L (sgPre 8 l).length/\l=rowsL L++l2/\LinAt w0 (sgPre 8 l).length L.length l2/\(∀ r,walk (.lin 0 0 0::r) l k=walk (.lin w0 (sgPre 8 l).length (L.length - 1)::r) l2 (k+(rowsL L).length))/\m=8 - L.length/\z=[some (.ptr a),some (.ptr p),some (.int (sgPre 8 l).length)]/\M'=(p,.lst (lstD L))::RdM a t (k+(rowsL L).length),⟨7,[sgPre 8 l],0,l1,⟨by simp,h1,D',λx hx=>?_⟩,K4,⟨h1,by simp,λ_=>hg,λz=>absurd z (by simp)⟩,λr=>?_,rfl,rfl,rfl⟩,?_⟩
    · rw[EM.mp hx];exact⟨rfl,NZ⟩
    · have:=eV (w:=0) (k:=0) (r:=r) (sgPre 8 l) 0 l1 k NZ (by simp;lia)
      rw[<- K4,GN] at this
      exact this
    rintro m z M' ⟨L,w0,l2,hL,Ig,IR,hw,rfl,rfl,rfl⟩;k_places
    have u9:=hL.many
    have l_:At t (k+(rowsL L).length) l2:=by have:=d6;rw[Ig] at this;exact this.app
    have Ke:(lstD L).length=L.length:=by simp[lstD]
    have done:(L.length=8\/∀ l',l2≠47::l')->R (.lst (lstD L)) (RdM a t (k+(rowsL L).length)):=λst=>hR L _ l2 hL Ig λr=>by rw[hw r,Bq IR (by lia) st]
    refine⟨_,cP,?_⟩
    rw[Ke]
    refine ite2 (λc=>?_) (λc=>?_)
    · have c':L.length<8:=by have:=of_decide_eq_true c;lia
      refine⟨_,EM.mpr rfl,_,Bp Pw,cO,[(p,_)],RdM a t _,rfl,a,t,_,l2,"/",rfl,rfl,l_,?_⟩
      by_cases N1:∃ l',l2=47::l'
      · obtain⟨l3,rfl⟩:=N1
        have N2:(47:Nat)∈cs "/":=by decide
        rw[dN N2,dO N2]
        obtain⟨l4,MG,Px⟩:=sgPre_split (sgPre 8 l).length l3
        have MH:=sgPre_sign (sgPre 8 l).length l3
        have Py:=gT (sgPre 8 l).length l3
        refine⟨⟨_,cP⟩,[(p,_)],RdM a t _,rfl,a,t,_,l3,(sgPre 8 l).length,(sgPre 8 l).length,rfl,rfl,l_.next,EL _,D',λh2=>?_,λh2 M'=>?_⟩
        · have a_:(sgPre (sgPre 8 l).length l3).length=(sgPre 8 l).length:=by lia
          refine⟨_,cP,by rw[Ke];lia,?_⟩
          refine⟨8 - (L.length+1),by lia,L++[sgPre (sgPre 8 l).length l3],(sgPre 8 l).length,l4,⟨by rw[EW];simp;lia,h1,D',λx hx=>?_⟩,?_,⟨h1,by rw[EW];simp,λz=>?_,λ_=>rfl⟩,λr=>?_,by rw[EW];rfl,rfl,?_⟩
          · rcases Ff.mp hx with q|q
            · exact hL.each x q
            · rw[EM.mp q];exact⟨a_,MH⟩
          · rw[gU L _ (λq=>by rw[q] at u9;simp at u9),Fw,Fz,<- MG];exact Ig
          · rw[EW] at z;simp at z;rw[z] at u9;simp at u9
          · rw[hw r,sZ IR c' r]
            have:=eV (w:=(sgPre 8 l).length) (k:=L.length) (r:=r) (sgPre (sgPre 8 l).length l3) 0 l4 (k+(rowsL L).length+1) MH (by rw[if_pos (by lia)];lia)
            rw[<- MG,GN,a_] at this
            rw[this,gU L _ (λq=>by rw[q] at u9;simp at u9),EW,EW]
            show walk (.lin _ _ L.length::r) l4 _=walk (.lin _ _ (L.length+1 - 1)::r) l4 _
            congr 1
            rw[EQ,a_]
            lia
          · show mput ((p,MO.lst (lstD L))::RdM a t _) p _=_
            rw[sY,gU L _ (λq=>by rw[q] at u9;simp at u9)]
            show _::RdM a t _=_
            congr 1
            · simp[lstD]
            · congr 1
              simp
              lia
        · rw[b7]
          refine hX _ (λr=>?_) _
          rw[hw r,sZ IR c' r]
          have:=tf (w:=(sgPre 8 l).length) (n:=L.length) MH h2 D' (λq=>by lia) (Px.resolve_left (by lia)) r (k+(rowsL L).length+1)
          rw[<- MG] at this
          exact this
      · have c_:∀ l',l2≠47::l':=λl' q=>N1 ⟨l',q⟩
        have v5:mayS "/" l2=""/\mayN "/" l2=0:=by
          cases l2 with
          |nil=>exact⟨rfl,rfl⟩
          |cons c l3=>
            have:c ∉ cs "/":=λq=>c_ l3 (by rw[show c=47 from EM.mp q])
            exact⟨de this,df this⟩
        rw[v5.1,v5.2]
        refine⟨_,cP,?_⟩
        rw[show mdel ([(p,MO.lst (lstD L))]++RdM a t (k+(rowsL L).length+0)) p=RdM a t (k+(rowsL L).length) from km]
        exact done (.inr c_)
    · have c':L.length=8:=by
        have:¬ ((L.length:Int)<8):=λz=>c (decide_eq_true z)
        lia
      refine⟨_,cP,?_⟩
      rw[km]
      exact done (.inl c')
abbrev oA(V:Bx):Prop:=V.MM 4 "number_from" lG Bm
theorem Dn(T:V.T "number_from" lF lG)(uD:V.m "int")(uH:du V)(uC:cI V):oA V:=by
  refine Tx.okM T sc_number_from (λds M R RX h=>?_) (λf cdv A outer s H E J hr hx=>⟨_,((aB (cn (gO (bb (CalMth.one uH) hx hr (am (aa 0)) (aD (ac ay af))) (am ay)) (aE (aM (am ad))) ca)
      (aB (bf 1 sc_number_from.nd (gM (bb (CalMth.one uH) hx hr (am (aa 0)) (aD (ac ay af))) (bb (CalMth.one uC) hx hr (am (aa 0)) (aD (ac ay af)))))
      (aB (rQ (cm (bH (yR (aa 1) (ac ay af)))) (aE (bf 1 sc_number_from.nd (gM (am (aa 1)) (bb (CalMth.one uH) hx hr (am (aa 0)) (aD (ac ay af)))))) ca)
      (aE (aM (am (gA uD (ac (aa 1) af))))))))),λds M R RX b7 h=>?_⟩)
  · obtain⟨_,_,_,_,rfl,_⟩:=h;rfl
  · obtain⟨a,t,k,l,rfl,rfl,d6,hR,hX⟩:=h
    refine⟨_,EM.mpr rfl,_,aN,cO,a,t,k,l,"0",rfl,rfl,d6,?_⟩
    by_cases z0:∃ l',l=48::l'
    · obtain⟨l',rfl⟩:=z0
      have e0:(48:Nat)∈cs "0":=by decide
      rw[dN e0,dO e0]
      refine hR 0 l' (by unfold B12;lia) ?_ λe r=>?_
      · rw[show numL 0=[48] by decide+kernel];rfl
      · rw[show numL 0=[48] by decide+kernel,aF (st':= .sign e::r) (by simp[step,aI,aK])];rfl
    have n0:mayS "0" l=""/\mayN "0" l=0:=by
      cases l with
      |nil=>exact⟨rfl,rfl⟩
      |cons c l=>
        have:c ∉ cs "0":=λq=>z0 ⟨l,by rw[show c=48 from EM.mp q]⟩
        exact⟨de this,df this⟩
    rw[n0.1,n0.2]
    obtain⟨pre,l1,hp,rfl,hS,hN,h0⟩:∃ pre l1,(pre=[]\/pre=[45])/\l=pre++l1/\mayS "-" l=⟨pre.toArray⟩/\mayN "-" l=pre.length/\(pre=[]->∀ c l',l1=c::l'->c≠48/\c≠45):=by
      by_cases z1:∃ l',l=45::l'
      · obtain⟨l',rfl⟩:=z1
        exact⟨[45],l',.inr rfl,rfl,rfl,rfl,λq=>nomatch q⟩
      · refine⟨[],l,.inl rfl,rfl,?_⟩
        cases l with
        |nil=>exact⟨rfl,rfl,λ_ c l' q=>nomatch q⟩
        |cons c l=>
          have:c ∉ cs "-":=λq=>z1 ⟨l,by rw[show c=45 from EM.mp q]⟩
          refine⟨de this,df this,λ_ c' l' q=>?_⟩
          cases q
          exact⟨λe=>z0 ⟨l,by rw[e]⟩,λe=>z1 ⟨l,by rw[e]⟩⟩
    have c9:=d6.app
    refine⟨λd M'=>∃ c l2,l1=c::l2/\(49<=c/\c<=57)/\d= .str ⟨(pre++[c]).toArray⟩/\M'=RdM a t (k+pre.length+1),?_,?_⟩
    · refine⟨_,EM.mpr rfl,_,aN,cO,a,t,k,_,"-",rfl,rfl,d6,?_⟩
      rw[hS,hN]
      refine⟨_,EM.mpr rfl,_,aN,cb,a,t,k+pre.length,l1,"123456789",rfl,rfl,c9,λc l2 e hc=>?_,λc_ M'=>?_⟩
      · refine⟨?_,c,l2,e,digits19.mp hc,?_,rfl⟩
        · rcases hp with rfl|rfl<;>simp[Str.length]
        · rw[show(⟨#[c]⟩:Str)=⟨[c].toArray⟩ from rfl,eY]
      · rw[b7]
        exact hX _ (Bk hp rfl (λc l' q=>λz=>c_ c l' q (digits19.mpr z)) h0 k) M'
    · rintro _ _ ⟨c,l2,rfl,hc,rfl,rfl⟩;k_places
      have l_:=c9.next
      refine⟨λz M'=>∃ x l3,((c=49/\∃ d,(48<=d/\d<=50)/\x=[d])\/(x=[]/\(c=49->∀ d l',l3=d::l'->¬ (48<=d/\d<=50))))/\l2=x++l3/\z=[some (.ptr a),some (.str ⟨(pre++c::x).toArray⟩)]/\M'=RdM a t (k+pre.length+1+x.length),?_,?_⟩
      · show if Txt.endswith ⟨(pre++[c]).toArray⟩ "1"=true then _ else _
        rw[Bl]
        refine ite2 (λe=>?_) (λe=>?_)
        · have e':=of_decide_eq_true e
          by_cases z2:∃ d l3,l2=d::l3/\(48<=d/\d<=50)
          · obtain⟨d,l3,rfl,hd⟩:=z2
            refine⟨λv M'=>v= .str ⟨(pre++[c,d]).toArray⟩/\M'=RdM a t (k+pre.length+1+1),⟨_,EM.mpr rfl,_,aN,cO,a,t,_,_,"012",rfl,rfl,l_,?_⟩,?_⟩
            · rw[dN (digits02.mpr hd),dO (digits02.mpr hd)]
              refine⟨?_,?_,rfl⟩
              · rcases hp with rfl|rfl<;>simp[Str.length]
              · rw[show(⟨#[d]⟩:Str)=⟨[d].toArray⟩ from rfl,eY];simp
            · rintro _ _ ⟨rfl,rfl⟩;k_places
              exact⟨[d],l3,.inl ⟨e',d,hd,rfl⟩,rfl,rfl,rfl⟩
          · have c_:∀ d l',l2=d::l'->¬ (48<=d/\d<=50):=λd l' q z=>z2 ⟨d,l',q,z⟩
            have hm:mayS "012" l2=""/\mayN "012" l2=0:=by
              cases l2 with
              |nil=>exact⟨rfl,rfl⟩
              |cons d l2=>exact⟨de (λq=>c_ d l2 rfl (digits02.mp q)),df (λq=>c_ d l2 rfl (digits02.mp q))⟩
            refine⟨λv M'=>v= .str ⟨(pre++[c]).toArray⟩/\M'=RdM a t (k+pre.length+1),⟨_,EM.mpr rfl,_,aN,cO,a,t,_,_,"012",rfl,rfl,l_,?_⟩,?_⟩
            · rw[hm.1,hm.2]
              refine⟨?_,?_,rfl⟩
              · rcases hp with rfl|rfl<;>simp[Str.length,show(Str.ofString "").cps.size=0 from rfl]
              · rw[show("":Str)=⟨([]:List Nat).toArray⟩ from rfl,eY];simp
            · rintro _ _ ⟨rfl,rfl⟩;k_places
              exact⟨[],l2,.inr ⟨rfl,λ_=>c_⟩,rfl,rfl,rfl⟩
        · have e':¬ c=49:=λz=>e (decide_eq_true z)
          exact⟨[],l2,.inr ⟨rfl,λz=>absurd z e'⟩,rfl,rfl,rfl⟩
      · rintro _ _ ⟨x,l3,hx,rfl,rfl,rfl⟩;k_places
        have hn:isNumL (pre++c::x):=by
          rcases hx with⟨rfl,d,hd,rfl⟩|⟨rfl,_⟩
          · rcases hp with rfl|rfl
            · exact .inr (.inl ⟨d,hd,rfl⟩)
            · exact .inr (.inr (.inr ⟨d,hd,rfl⟩))
          · rcases hp with rfl|rfl
            · exact .inl ⟨c,by lia,rfl⟩
            · exact .inr (.inr (.inl ⟨c,hc,rfl⟩))
        obtain⟨v,hv,ev⟩:=Bb hn
        refine⟨v,⟨?_,?_⟩,?_⟩
        · rw[<- ev];exact kj hv
        · rw[<- ev]
          have:=bw hv
          rw[<- bL] at this ⊢
          show(numL v).length<=640
          exact E1 this (by decide)
        · have:=hR v l3 hv (by rw[ev];simp) λe r=>by rw[ev];exact Bj hp hc hx k e r rfl
          rw[ev] at this
          have e2:k+(pre++c::x).length=k+pre.length+1+x.length:=by simp;lia
          rw[e2] at this
          exact this
abbrev fT(V:Bx):Prop:=V.MM 5 "shift_from" lJ Bn
theorem Do(T:V.T "shift_from" lH lJ)(K5:oA V)(uC:cI V):fT V:=by
 refine Tx.okM T sc_shift_from (λds M R RX h=>?_) (λf cdv A outer s H E J hr hx=>⟨_,((aB (bf 1 sc_shift_from.nd (bc K5 hx hr (aD (ac (aa 0) af))))
   (aB (cx (bb (CalMth.one uC) hx hr (am (aa 0)) (aD (ac ay af))))
   (aE (aM (zd (aT (am (aa 1)) (aT (bc K5 hx hr (aD (ac (aa 0) af))) br)))))))),λds M R RX b7 h=>?_⟩)
 ·obtain⟨_,_,_,_,rfl,_⟩:=h;rfl
 ·obtain⟨a,t,k,l,rfl,rfl,d6,hR,hX⟩:=h
  refine⟨λd M'=>∃ x l1,B12 x/\l=numL x++l1/\(∀ e r,walk (.num:: .sign e::r) l k=walk (.sign e::r) l1 (k+(numL x).length))/\d= .int x/\M'=RdM a t (k+(numL x).length),⟨a,t,k,l,rfl,rfl,d6,λx l' hx e hw=>⟨x,l',hx,e,hw,rfl,rfl⟩,λj hj M'=>?_⟩,?_⟩
  ·rw[b7];exact hX j (λr=>hj _) M'
  rintro _ _ ⟨x,l1,gt,rfl,o8,rfl,rfl⟩;k_places
  have c9:=d6.app
  refine⟨_,EM.mpr rfl,_,aN,cb,a,t,_,l1,",",rfl,rfl,c9,λc l2 e hc=>?_,λc_ M'=>?_⟩
  ·have ec:c=44:=EM.mp hc
   subst ec
   subst e
   refine⟨a,t,_,l2,rfl,rfl,c9.next,λy l' hy e hw=>?_,λj hj M'=>?_⟩
   ·subst e
    refine⟨by simp,hR x y l' gt hy rfl λe r=>?_⟩
    rw[o8 44 _,dQ,hw e r]
   ·rw[b7]
    refine hX j (λr=>?_) M'
    rw[o8 44 _,dQ,hj]
  ·rw[b7]
   refine hX _ (λr=>?_) M'
   rw[o8 44 _,dP λl' q=>c_ 44 l' q (by decide)]
abbrev iV(V:Bx):Prop:=V.D 1 "levelled" lL Av
theorem Dp(T:V.T "levelled" lK lL):iV V:=by
 refine Tx.okDW T sc_levelled (λds R h=>?_) (λf cdv A outer s H E J hr=>⟨_,((ah (dG PassesOwn.never (bZ (ae (aa 1) ad) ad) (ah (ai 2 sc_levelled.nd (xt (ae (aa 0) ad) (ae (aa 1) ad)))
    (ah (ai 3 sc_levelled.nd (aG (ac (bn (ae (aa 0) ad) (av (aa 2) (ae (aa 1) ad))) (ac (bn (ae (aa 0) ad) (av (aa 2) (ae (aa 1) ad))) af))))
    (ah (ai 0 sc_levelled.nd (aa 1))
    (aj (ai 1 sc_levelled.nd (aa 3)))))))
   (ah (eE (fB (ae (aa 0) ad) ad) (aj (ai 0 sc_levelled.nd (aG (ac (cu (ae (aa 0) ad)) (ac (cu (ae (aa 0) ad)) af))))) aQ)
   (aj (au (aG (ac (aa 0) (ac (aa 1) af)))))))),λds R h=>?_⟩)
 ·obtain⟨a,b,c,d,rfl,_⟩:=h;rfl
 ·obtain⟨a,b,c,d,rfl,hb,hd,hR⟩:=h
  refine⟨λm z=>∃ (f0 f1 s0 s1:Int) (t r:Option D),z=[some (.tup [.int f0,.int f1]),some (.tup [.int s0,.int s1]),t,r]/\Uni a b c d f0 f1 s0 s1/\f1.natAbs<4611686018427387904/\s1.natAbs<4611686018427387904/\m=s1.natAbs,⟨_,a,b,c,d,none,none,rfl,Uni.refl a b c d,hb,hd,rfl⟩,?_⟩
  rintro m z ⟨f0,f1,s0,s1,t,r,rfl,hu,hf,hs,rfl⟩;k_places
  refine⟨_,rfl,ite2 (λcc=>?_) (λcc=>?_)⟩
  ·have c':¬ s1=0:=by simpa using cc
   obtain⟨g1,g2⟩:=fdm f1 s1 c'
   refine⟨λd=>d= .int (f1.fdiv s1),⟨_,rfl,_,rfl,⟨c',hs⟩,rfl⟩,?_⟩;rintro _ rfl;k_places
   refine⟨λd=>d= .tup [.int (f0 - f1.fdiv s1*s0),.int (f1 - f1.fdiv s1*s1)],⟨_,rfl,_,rfl,.inl ⟨by lia,by lia⟩,_,rfl,_,rfl,.inl ⟨by lia,by lia⟩,by simp,rfl⟩,?_⟩;rintro _ rfl;k_places
   refine⟨λd=>d= .tup [.int s0,.int s1],rfl,?_⟩;rintro _ rfl;k_places
   refine⟨λd=>d= .tup [.int (f0 - f1.fdiv s1*s0),.int (f1 - f1.fdiv s1*s1)],rfl,?_⟩;rintro _ rfl;k_places
   exact⟨_,g1,s0,s1,_,_,_,_,rfl,hu.step _,hs,by lia,rfl⟩
  ·have c':s1=0:=by simpa using cc
   subst c'
   refine⟨λz=>∃ p0 p1:Int,z=[some (.tup [.int p0,.int p1]),some (.tup [.int s0,.int 0]),t,r]/\Lev a b c d p0 p1 s0,⟨_,rfl,ite2 (λe=>?_) (λe=>?_)⟩,?_⟩
   ·have e':=of_decide_eq_true e
    refine⟨λd=>d= .tup [.int (-f0),.int (-f1)],⟨_,rfl,_,rfl,by simp,rfl⟩,?_⟩;rintro _ rfl;k_places
    exact⟨_,_,rfl,by lia,hu.neg⟩
   ·have e':=of_decide_eq_false (Fo.mpr e)
    exact⟨_,_,rfl,by lia,hu⟩
   ·rintro _ ⟨p0,p1,rfl,hL⟩;k_places
    exact⟨by simp,hR p0 p1 s0 hL⟩
abbrev iW(V:Bx):Prop:=V.D 2 "spread" lN Aw
theorem Dq(T:V.T "spread" lM lN)(uM:V.m "abs")(Jo:iV V):iW V:=by
 refine Tx.okDW T sc_spread (λds R h=>?_) (λf cdv A outer s H E J hr=>⟨_,((ah (aZ (bq (av (ae (aa 0) ad) (ae (aa 1) ad)) (av (ae (aa 0) ad) (ae (aa 1) ad))) (aj (au cr)) aQ)
   (ah (ai 2 sc_spread.nd (ar Jo hr (ac (aa 0) (ac (aa 1) af))))
   (ah (ai 3 sc_spread.nd (eg uM (ac (ae (ae (aa 2) ad) ad) af)))
   (aj (au (aG (ac (aa 3) (ac (ae (ae (aa 2) ad) ad) (ac (aw (ae (ae (aa 2) ad) ad) (aa 3)) af)))))))))),λds R h=>?_⟩)
 ·obtain⟨a,b,c,d,rfl,_⟩:=h;rfl
 ·obtain⟨a,b,c,d,rfl,ha,hb,hc,hd,hN,hR⟩:=h
  refine⟨_,rfl,_,rfl,.inl ⟨by lia,by lia⟩,_,rfl,_,rfl,.inl ⟨by lia,by lia⟩,ite2 (λe=>?_) (λe=>?_)⟩
  ·exact hN (of_decide_eq_true e)
  ·have e':=of_decide_eq_false (Fo.mpr e)
   refine⟨λx=>∃ p0 p1 q0:Int,x= .tup [.tup [.int p0,.int p1],.tup [.int q0,.int 0]]/\Lev a b c d p0 p1 q0,⟨a,b,c,d,rfl,hb,hd,λp0 p1 q0 hL=>⟨p0,p1,q0,rfl,hL⟩⟩,?_⟩
   rintro _ ⟨p0,p1,q0,rfl,hL⟩;k_places
   have hF:=fL e' hL
   refine⟨λx=>x= .int (if q0<0 then -q0 else q0),⟨_,rfl,_,rfl,rfl⟩,?_⟩;rintro _ rfl;k_places
   exact⟨_,rfl,_,rfl,_,rfl,_,rfl,hF.1,by simp,hR e' _ _ _ hF⟩
abbrev fo(V:Bx):Prop:=V.D 1 "home" lQ Au
theorem Dr(T:V.T "home" lP lQ):fo V:=by
 refine Tx.okDW T sc_home (λds R h=>?_) (λf cdv A outer s H E J hr=>⟨_,((ah (ai 3 sc_home.nd (ae (aa 0) ad))
   (ah (ai 4 sc_home.nd (ae (aa 0) ad))
   (ah (ai 5 sc_home.nd (ae (aa 0) ad))
   (aj (au (aG (ac (aw (bn (aa 1) (av (aU (aa 2) (aa 4)) (aa 5))) (aa 3)) (ac (aw (aa 2) (aa 4)) af))))))))),λds R h=>?_⟩)
 ·obtain⟨w,h,s,x,y,rfl,_⟩:=h;rfl
 ·obtain⟨w,h,s,x,y,rfl,hw,hh,w_,hs,m4,hR⟩:=h
  refine⟨λd=>d= .int w,⟨_,rfl,rfl⟩,?_⟩;rintro _ rfl;k_places
  refine⟨λd=>d= .int h,⟨_,rfl,rfl⟩,?_⟩;rintro _ rfl;k_places
  refine⟨λd=>d= .int s,⟨_,rfl,rfl⟩,?_⟩;rintro _ rfl;k_places
  exact⟨⟨hh,w_⟩,.inr ⟨by lia,by lia⟩,hw,hh,by simp,hR⟩
abbrev oB(V:Bx):Prop:=V.MM 2 "hues_by_home" lU Bw
theorem Ds(T:V.T "hues_by_home" lR lU)(IS:V.m "enumerate")(uT:fo V)(uV:V.gs "SIGNS" ".123456"):oB V:=by
 refine Tx.okM T sc_hues_by_home (λds M R RX h=>?_) (λf cdv A outer s H E J hr hx=>⟨_,((aB (bf 2 sc_hues_by_home.nd zS)
   (aB (zJ PassesOwn.leaving rfl IS (am (aa 0)) (dg_cons 3 sc_hues_by_home.nd (dg_cons 4 sc_hues_by_home.nd eI)) (aE (zK PassesOwn.leaving rfl IS (am (aa 4)) (dg_cons 5 sc_hues_by_home.nd (dg_cons 6 sc_hues_by_home.nd eI)) (aE (rQ (cm (bZ (aa 6) ay)) (aE (cx (zV (fz hr) (am (aa 2)) (aD (ac (ar uT hr (ac (aa 1) (ac (aa 5) (ac (aa 3) af)))) (ac (yU (gH uV) (ac (aa 6) af)) af)))))) ca)))))
   (rR 2 (aE (aM (am (aa 2)))))))),λds M R RX b7 h=>?_⟩)
 ·obtain⟨_,_,_,_,_,rfl,_⟩:=h;rfl
 ·obtain⟨L,wd,w,h,s,rfl,hL,hw,hh,w_,hs,m4,hR⟩:=h
  have Pz:=hL.w8
  refine⟨λd M'=>∃ p,p ∉ ax M/\d= .ptr p/\M'=(p,.dti [])::M,λp hp=>⟨p,hp,rfl,rfl⟩,?_⟩
  rintro _ _ ⟨p,hp,rfl,rfl⟩;k_places
  refine⟨λj z M'=>∃ (kv:List ((Int × Int) × Int)) (x3 x4 x5 x6:Option D),hAll w h s j (L.drop j) kv=hAll w h s 0 L []/\kv.length<=8*j/\z=[some (.lst (lstD L)),some (.tup [.int w,.int h,.int s]),some (.ptr p),x3,x4,x5,x6]/\M'=(p,.dti kv)::M,⟨[],none,none,none,none,rfl,by simp,rfl,rfl⟩,?_,?_⟩
  ·rintro j d z M' hd ⟨kv,x3,x4,x5,x6,e1,PB,rfl,rfl⟩;k_places
   obtain⟨x,gt,rfl⟩:=Bu hd
   have hj:j<L.length:=(E7.mp gt).1
   have Qt:=hL.many
   obtain⟨xl,xs⟩:=hL.each x (Gs gt)
   rw[tw gt] at e1
   refine⟨Bt xs,λi z M'=>∃ (D_:List ((Int × Int) × Int)) (x5 x6:Option D),hRow w h s j i (x.drop i) D_=hRow w h s j 0 x kv/\D_.length<=8*j+i/\i<=x.length/\z=[some (.lst (lstD L)),some (.tup [.int w,.int h,.int s]),some (.ptr p),some (.int j),some (.str ⟨x.toArray⟩),x5,x6]/\M'=(p,.dti D_)::M,⟨kv,x5,x6,rfl,by lia,Fj _,rfl,rfl⟩,?_,?_⟩
   ·rintro i d z M' p6 ⟨D_,y5,y6,e2,MI,hi,rfl,rfl⟩;k_places
    obtain⟨c,hc,rfl⟩:=Bv p6
    have IQ:i<x.length:=(E7.mp hc).1
    have sc:=xs c (Gs hc)
    rw[tw hc,hRow] at e2
    refine⟨λz M'=>∃ Kf:List ((Int × Int) × Int),hRow w h s j (i+1) (x.drop (i+1)) Kf=hRow w h s j 0 x kv/\Kf.length<=8*j+(i+1)/\z=[some (.lst (lstD L)),some (.tup [.int w,.int h,.int s]),some (.ptr p),some (.int j),some (.str ⟨x.toArray⟩),some (.int i),some (.str ⟨#[c]⟩)]/\M'=(p,.dti Kf)::M,?_,?_⟩
    ·show if(!decide ((⟨#[c]⟩:Str)="."))=true then _ else _
     by_cases t8:c=46
     ·subst t8
      rw[if_pos rfl] at e2
      exact⟨D_,e2,by lia,rfl,rfl⟩
     ·rw[if_neg t8] at e2
      refine ifT (by simp[one_sign,t8]) ?_
      have c6:49<=c/\c<=54:=by unfold aH at sc;lia
      obtain⟨ix,rest,ho,JY⟩:=Bs c6
      refine⟨⟨_,cP⟩,w,h,s,i,j,rfl,hw,hh,w_,hs,m4,ix,rest,ho,_,cP,by have:=tm D_ (hmX w h s i j) ((j:Int) % h) ((c:Int) - 48);lia,λv=>?_⟩
      rw[sY,JY]
      exact⟨_,e2,by have:=tm D_ (hmX w h s i j) ((j:Int) % h) ((c:Int) - 48);lia,rfl,rfl⟩
    ·rintro z M' ⟨Kf,e3,h3,rfl,rfl⟩;k_places
     exact⟨Kf,_,_,e3,h3,IQ,rfl,rfl⟩
   ·rintro z M' hz
    rw[rE,dR] at hz
    obtain⟨D_,y5,y6,e2,MI,hi,rfl,rfl⟩:=hz
    rw[HZ] at e2
    refine⟨D_,_,_,_,_,?_,by lia,rfl,rfl⟩
    rw[<- e1,hAll,<- e2]
    rfl
  ·rintro z M' hz
   rw[show(lstD L).length=L.length by simp[lstD]] at hz
   obtain⟨kv,x3,x4,x5,x6,e1,PB,rfl,rfl⟩:=hz
   rw[HZ] at e1
   refine⟨_,cP,?_⟩
   rw[km]
   have e2:kv=hAll w h s 0 L []:=e1
   rw[<- e2] at hR
   exact hR
abbrev oC(V:Bx):Prop:=V.M 3 "Motif" lW By
theorem Dt(T:V.Ti "Motif" "Motif.__init__" lV lW)(Jp:iW V)(MJ:oB V)(Ij:V.a "Motif" "place")(uJ:V.a "Motif" "shifts")(Ik:V.a "Motif" "hues"):oC V:=by
 refine Txi.okIM T Cq (λds R h=>?_) (λf cdv A outer s H E J hr hx=>⟨_,((aB (gR Ij (am (aa 0)) (am (aa 1)))
   (aB (gR uJ (am (aa 0)) (am (ar Jp hr (ac (aa 3) (ac (aa 4) af)))))
   (aE (gR Ik (am (aa 0)) (fK (rL (aL uJ (am (aa 0))) (am cr)) zR (bc MJ hx hr (aT (am (aa 2)) (aT (aL uJ (am (aa 0))) br))))))))),λa ds R c_ h=>?_⟩)
 ·obtain⟨_,_,_,_,_,_,_,rfl,_⟩:=h;rfl
 ·obtain⟨k,L,wd,x,y,u,v,rfl,hL,gt,hy,hu,hv,h0,h1⟩:=h
  unfold B12 at gt hy hu hv
  refine⟨_,cG,by show(0:Nat)<1000;decide,?_⟩
  rw[eX,Bz]
  refine⟨x,y,u,v,rfl,by lia,by lia,by lia,by lia,λe=>?_,λe w h s F=>?_⟩
  ·refine⟨_,cG,by show(1:Nat)<1000;decide,?_⟩
   rw[eX,tz]
   refine⟨_,cG,_,ko,?_⟩
   refine⟨_,cG,by show(2:Nat)<1000;decide,?_⟩
   rw[eX,tD]
   exact⟨_,rfl,h0 e⟩
  ·refine⟨_,cG,by show(1:Nat)<1000;decide,?_⟩
   rw[eX,tz]
   refine⟨_,cG,_,ko,?_⟩
   obtain⟨b1,b2,b3⟩:=F.bd (N:=288) (by
    have m1:=bB (a:=x) (d:=v) (A:=12) (B:=12) (by lia) (by lia)
    have m2:=bB (a:=y) (d:=u) (A:=12) (B:=12) (by lia) (by lia)
    lia)
   refine⟨_,cG,_,ko,L,wd,w,h,s,rfl,hL,F.1,F.2.1,by lia,F.2.2.1,by lia,?_⟩
   refine⟨_,cG,by show(2:Nat)<1000;decide,?_⟩
   rw[eX,tD]
   exact⟨_,rfl,h1 e w h s F⟩
abbrev iX(V:Bx):Prop:=V.MM 6 "motif_from" lZ BG
theorem Du(T:V.T "motif_from" lY lZ)(MK:oz V)(uX:fT V)(uE:V.a "Reading" "place")(ML:oC V)(uC:cI V):iX V:=by
  refine Tx.okM T sc_motif_from (λds M R RX h=>?_) (λf cdv A outer s H E J hr hx=>⟨_,((aB (bf 1 sc_motif_from.nd (aL uE (am (aa 0))))
      (aB (cx (bb (CalMth.one uC) hx hr (am (aa 0)) (aD (ac ay af))))
      (aB (bf 2 sc_motif_from.nd (bc MK hx hr (aD (ac (aa 0) af))))
      (aB (cx (bb (CalMth.one uC) hx hr (am (aa 0)) (aD (ac ay af))))
      (aB (bf 3 sc_motif_from.nd (bc uX hx hr (aD (ac (aa 0) af))))
      (aB (cx (bb (CalMth.one uC) hx hr (am (aa 0)) (aD (ac ay af))))
      (aB (bf 4 sc_motif_from.nd (bc uX hx hr (aD (ac (aa 0) af))))
      (aB (cx (bb (CalMth.one uC) hx hr (am (aa 0)) (aD (ac ay af))))
      (aE (aM (am (jM ML hr (ac (aa 1) (ac (aa 2) (ac (aa 3) (ac (aa 4) af))))))))))))))))),λds M R RX b7 h=>?_⟩)
  · obtain⟨_,_,_,_,rfl,_⟩:=h;rfl
  · obtain⟨a,t,k,l,rfl,rfl,d6,hR,hX⟩:=h
    refine⟨λd M'=>d= .int k/\M'=RdM a t k,⟨_,aN,_,db,rfl,rfl⟩,?_⟩
    rintro _ _ ⟨rfl,rfl⟩;k_places
    refine⟨_,EM.mpr rfl,_,aN,cb,a,t,_,l,"[",rfl,rfl,d6,λc l1 e hc=>?_,λc_ M'=>?_⟩
    · have ec:c=91:=EM.mp hc
      subst ec
      subst e
      have hb:∀ r,walk (.pat 5::r) (91::l1) k=walk (motW r) l1 (k+1):=λr=>aF (by rw[bQ];rfl)
      refine⟨λd M'=>∃ (L:List (List Nat)) (w:Nat) (l2:List Nat),RowsL L w/\l1=rowsL L++l2/\(∀ r,walk (.lin 0 0 0::r) l1 (k+1)=walk (.sign 59::r) l2 (k+1+(rowsL L).length))/\d= .lst (lstD L)/\M'=RdM a t (k+1+(rowsL L).length),⟨a,t,_,l1,rfl,rfl,d6.next,λL w l' h1 h2 h3=>⟨L,w,l',h1,h2,h3,rfl,rfl⟩,λj hj M'=>?_⟩,?_⟩
      · rw[b7]
        exact hX j (λr=>by rw[hb];exact hj _) M'
      rintro _ _ ⟨L,w,l2,hL,rfl,u_,rfl,rfl⟩;k_places
      have l_:=d6.next.app
      have J_:∀ r,walk (.pat 5::r) (91::(rowsL L++l2)) k=walk (.sign 59:: .num:: .sign 44:: .num:: .sign 59:: .num:: .sign 44:: .num:: .sign 93::r) l2 (k+1+(rowsL L).length):=λr=>by rw[hb];exact u_ _
      refine⟨_,EM.mpr rfl,_,aN,cb,a,t,_,l2,";",rfl,rfl,l_,λc l3 e hc=>?_,λc_ M'=>?_⟩
      · have ec:c=59:=EM.mp hc
        subst ec
        subst e
        have E_:=l_.next
        have MN:∀ r,walk (.pat 5::r) (91::(rowsL L++59::l3)) k=walk (.num:: .sign 44:: .num:: .sign 59:: .num:: .sign 44:: .num:: .sign 93::r) l3 (k+1+(rowsL L).length+1):=λr=>by rw[J_,dQ]
        refine⟨λd M'=>∃ x y l4,B12 x/\B12 y/\l3=numL x++44::(numL y++l4)/\(∀ e r,walk (.num:: .sign 44:: .num:: .sign e::r) l3 (k+1+(rowsL L).length+1)=walk (.sign e::r) l4 (k+1+(rowsL L).length+1+(numL x).length+1+(numL y).length))/\d= .tup [.int x,.int y]/\M'=RdM a t (k+1+(rowsL L).length+1+(numL x).length+1+(numL y).length),⟨a,t,_,l3,rfl,rfl,E_,λx y l' h1 h2 h3 h4=>⟨x,y,l',h1,h2,h3,h4,rfl,rfl⟩,λj hj M'=>?_⟩,?_⟩
        · rw[b7]
          exact hX j (λr=>by rw[MN];exact hj _) M'
        rintro _ _ ⟨x,y,l4,gt,hy,rfl,N3,rfl,rfl⟩;k_places
        have Kg:At t (k+1+(rowsL L).length+1+(numL x).length+1+(numL y).length) l4:=E_.app.next.app
        refine⟨_,EM.mpr rfl,_,aN,cb,a,t,_,l4,";",rfl,rfl,Kg,λc l5 e hc=>?_,λc_ M'=>?_⟩
        · have ec:c=59:=EM.mp hc
          subst ec
          subst e
          have Kh:=Kg.next
          have N4:∀ r,walk (.pat 5::r) (91::(rowsL L++59::(numL x++44::(numL y++59::l5)))) k=walk (.num:: .sign 44:: .num:: .sign 93::r) l5 (k+1+(rowsL L).length+1+(numL x).length+1+(numL y).length+1):=λr=>by rw[MN,N3,dQ]
          refine⟨λd M'=>∃ u v l6,B12 u/\B12 v/\l5=numL u++44::(numL v++l6)/\(∀ e r,walk (.num:: .sign 44:: .num:: .sign e::r) l5 (k+1+(rowsL L).length+1+(numL x).length+1+(numL y).length+1)=walk (.sign e::r) l6 (k+1+(rowsL L).length+1+(numL x).length+1+(numL y).length+1+(numL u).length+1+(numL v).length))/\d= .tup [.int u,.int v]/\M'=RdM a t (k+1+(rowsL L).length+1+(numL x).length+1+(numL y).length+1+(numL u).length+1+(numL v).length),⟨a,t,_,l5,rfl,rfl,Kh,λx y l' h1 h2 h3 h4=>⟨x,y,l',h1,h2,h3,h4,rfl,rfl⟩,λj hj M'=>?_⟩,?_⟩
          · rw[b7]
            exact hX j (λr=>by rw[N4];exact hj _) M'
          rintro _ _ ⟨u,v,l6,hu,hv,rfl,N5,rfl,rfl⟩;k_places
          have MP:At t (k+1+(rowsL L).length+1+(numL x).length+1+(numL y).length+1+(numL u).length+1+(numL v).length) l6:=Kh.app.next.app
          refine⟨_,EM.mpr rfl,_,aN,cb,a,t,_,l6,"]",rfl,rfl,MP,λc l7 e hc=>?_,λc_ M'=>?_⟩
          · have ec:c=93:=EM.mp hc
            subst ec
            subst e
            obtain⟨KY,KZ⟩:=BF hL
            have N6:(Pat.mot (L.map λx=>(⟨x.toArray⟩:Str)) x y u v).tl=motL L x y u v:=by rw[Pat.tl,KZ]
            have Ki:∀ w,FormOf (Pat.mot (L.map λx=>(⟨x.toArray⟩:Str)) x y u v) k w->R w (RdM a t (k+1+(rowsL L).length+1+(numL x).length+1+(numL y).length+1+(numL u).length+1+(numL v).length+1)):=λw hw=>by
              have:=hR (Pat.mot (L.map λx=>(⟨x.toArray⟩:Str)) x y u v) l7 ⟨KY,gt,hy,hu,hv⟩ rfl (by rw[N6];simp[motL]) w hw
              rw[N6] at this
              have e:k+(motL L x y u v).length=k+1+(rowsL L).length+1+(numL x).length+1+(numL y).length+1+(numL u).length+1+(numL v).length+1:=by
                simp[motL];lia
              rw[e] at this
              exact this
            refine⟨k,L,w,x,y,u,v,rfl,hL,gt,hy,hu,hv,λe=>?_,λe w h s F=>?_⟩
            · exact Ki _ ⟨.non,[],rfl,λ_=>rfl,λz=>absurd e z⟩
            · exact Ki _ ⟨_,_,rfl,λz=>absurd z e,λ_=>⟨w,h,s,F,rfl,by rw[KZ]⟩⟩
          · rw[b7]
            refine hX _ (λr=>?_) M'
            rw[N4,N5,dP λl' q=>c_ 93 l' q (by decide)]
        · rw[b7]
          refine hX _ (λr=>?_) M'
          rw[MN,N3,dP λl' q=>c_ 59 l' q (by decide)]
      · rw[b7]
        refine hX _ (λr=>?_) M'
        rw[J_,dP λl' q=>c_ 59 l' q (by decide)]
    · rw[b7]
      refine hX _ (λr=>?_) M'
      refine walk_bad (λz=>nomatch z) λc l' q=>?_
      rw[bQ]
      unfold bP
      have:¬ c=91:=λz=>c_ c l' q (by rw[z];decide)
      rw[if_neg this,if_pos rfl]
abbrev iY(V:Bx):Prop:=V.M 1 "Mirror" me BC
theorem Dv(T:V.Ti "Mirror" "Mirror.__init__" ma me)(uQ:V.a "Mirror" "form"):iY V:=by
 refine Txi.okI T Cr (λds R h=>?_) (λf cdv A outer s H E J hr=>⟨_,((bJ uQ (aa 1) dH)),λds R h=>?_⟩)
 ·obtain⟨_,_,rfl,_⟩:=h;rfl
 ·obtain⟨x,fs,rfl,hR⟩:=h
  exact⟨by decide,hR⟩
abbrev iZ(V:Bx):Prop:=V.M 1 "Turn" mi BD
theorem Dw(T:V.Ti "Turn" "Turn.__init__" mf mi)(uO:V.a "Turn" "form"):iZ V:=by
 refine Txi.okI T Cs (λds R h=>?_) (λf cdv A outer s H E J hr=>⟨_,((bJ uO (aa 1) dH)),λds R h=>?_⟩)
 ·obtain⟨_,_,rfl,_⟩:=h;rfl
 ·obtain⟨x,fs,rfl,hR⟩:=h
  exact⟨by decide,hR⟩
abbrev ja(V:Bx):Prop:=V.M 1 "Over" mm BA
theorem Dx(T:V.Ti "Over" "Over.__init__" mj mm)(uS:V.a "Over" "above")(uN:V.a "Over" "below"):ja V:=by
 refine Txi.okI T Ct (λds R h=>?_) (λf cdv A outer s H E J hr=>⟨_,((bJ uS (aa 1) (bJ uN (aa 2) dH))),λds R h=>?_⟩)
 ·obtain⟨_,_,_,_,rfl,_⟩:=h;rfl
 ·obtain⟨x,y,fs,gs,rfl,hR⟩:=h
  refine⟨by decide,by show(1:Nat)<1000;decide,?_⟩
  show R (putD _ _ (putD _ _ []))
  rw[putD,putD,if_neg (by decide+kernel)]
  exact hR
abbrev jb(V:Bx):Prop:=V.M 1 "Shifted" mo BB
theorem Dy(T:V.Ti "Shifted" "Shifted.__init__" mn mo)(uR:V.a "Shifted" "form")(Il:V.a "Shifted" "x")(Im:V.a "Shifted" "y"):jb V:=by
 refine Txi.okI T Cu (λds R h=>?_) (λf cdv A outer s H E J hr=>⟨_,((bJ uR (aa 1) (bJ Il (aa 2) (bJ Im (aa 3) dH)))),λds R h=>?_⟩)
 ·obtain⟨_,_,_,_,rfl,_⟩:=h;rfl
 ·obtain⟨x,fs,a,b,rfl,hR⟩:=h
  refine⟨by decide,by show(1:Nat)<1000;decide,by show(2:Nat)<1000;decide,?_⟩
  show R (putD _ _ (putD _ _ (putD _ _ [])))
  rw[show putD ("x":Str) (.int a) (putD ("form":Str) (.obj x fs) [])=([("form",.obj x fs),("x",.int a)]:List (Str × D)) by rw[putD,putD,if_neg (by decide+kernel)];rfl,putD,if_neg (by decide+kernel),putD,if_neg (by decide+kernel)]
  exact hR
abbrev jc(V:Bx):Prop:=V.M 1 "Rehue" mx BE
theorem Dz(T:V.Ti "Rehue" "Rehue.__init__" mv mx)(uP:V.a "Rehue" "form")(Io:V.a "Rehue" "old")(Ip:V.a "Rehue" "new"):jc V:=by
 refine Txi.okI T Cw (λds R h=>?_) (λf cdv A outer s H E J hr=>⟨_,((bJ uP (aa 1) (bJ Io (aa 2) (bJ Ip (aa 3) dH)))),λds R h=>?_⟩)
 ·obtain⟨_,_,_,_,rfl,_⟩:=h;rfl
 ·obtain⟨x,fs,a,b,rfl,hR⟩:=h
  refine⟨by decide,by show(1:Nat)<1000;decide,by show(2:Nat)<1000;decide,?_⟩
  show R (putD _ _ (putD _ _ (putD _ _ [])))
  rw[show putD ("old":Str) (.int a) (putD ("form":Str) (.obj x fs) [])=([("form",.obj x fs),("old",.int a)]:List (Str × D)) by rw[putD,putD,if_neg (by decide+kernel)];rfl,putD,if_neg (by decide+kernel),putD,if_neg (by decide+kernel)]
  exact hR
theorem DB{n j:Nat}(hL:6<=n)(T:V.T "over_from" hU fQ)(uI:V.MM n "form_from" cH (dg j))(Kj:ja V)(uC:cI V):V.MM (n+1) "over_from" fQ (tF j):=by
 refine Tx.okM T sc_over_from (λds M R RX h=>?_) (λf cdv A outer s H E J hr hx=>⟨_,((aB (bf 2 sc_over_from.nd (bc (hn:=by omega) uI hx hr (aD (ac (aa 0) (ac (aa 1) af)))))
   (aB (cx (bb (hn:=by omega) (CalMth.one uC) hx hr (am (aa 0)) (aD (ac ay af))))
   (aB (bf 3 sc_over_from.nd (bc (hn:=by omega) uI hx hr (aD (ac (aa 0) (ac (aa 1) af)))))
   (aB (cx (bb (hn:=by omega) (CalMth.one uC) hx hr (am (aa 0)) (aD (ac ay af))))
   (aE (aM (am (jM (hn:=by omega) Kj hr (ac (aa 2) (ac (aa 3) af))))))))))),λds M R RX b7 h=>?_⟩)
 ·obtain⟨_,_,_,_,_,rfl,_⟩:=h;rfl
 ·obtain⟨a,t,k,l,d,rfl,rfl,d6,IT,C_,hR,hX⟩:=h
  refine⟨λv M'=>∃ p l1,p.Syn/\p.depth+d<=5/\l=p.tl++l1/\FormOf p k v/\M'=RdM a t (k+p.tl.length),⟨a,t,k,l,d,rfl,rfl,d6,IT,C_,λp l' h1 h2 h3 v h4=>⟨p,l',h1,h2,h3,h4,rfl⟩,λi hi M'=>?_⟩,?_⟩
  ·rw[b7];exact hX i (λr=>hi _) M'
  rintro v _ ⟨p,l1,hp,MQ,rfl,hv,rfl⟩;k_places
  obtain⟨fs,rfl⟩:=hv.obj
  have c9:=d6.app
  have o8:∀ r,walk (.pat d:: .sign 124:: .pat d:: .sign 41::r) (p.tl++l1) k=walk (.sign 124:: .pat d:: .sign 41::r) l1 (k+p.tl.length):=λr=>cF hp d _ l1 k MQ
  refine⟨_,EM.mpr rfl,_,aN,cb,a,t,_,l1,"|",rfl,rfl,c9,λc l2 e hc=>?_,λc_ M'=>?_⟩
  ·have ec:c=124:=EM.mp hc
   subst ec
   subst e
   refine⟨λv M'=>∃ q l3,q.Syn/\q.depth+d<=5/\l2=q.tl++l3/\FormOf q (k+p.tl.length+1) v/\M'=RdM a t (k+p.tl.length+1+q.tl.length),⟨a,t,_,l2,d,rfl,rfl,c9.next,IT,C_,λp l' h1 h2 h3 v h4=>⟨p,l',h1,h2,h3,h4,rfl⟩,λi hi M'=>?_⟩,?_⟩
   ·rw[b7];exact hX i (λr=>by rw[o8,dQ];exact hi _) M'
   rintro v _ ⟨q,l3,hq,N7,rfl,N8,rfl⟩;k_places
   obtain⟨gs,rfl⟩:=N8.obj
   have E_:=c9.next.app
   have PC:∀ r,walk (.pat d:: .sign 124:: .pat d:: .sign 41::r) (p.tl++124::(q.tl++l3)) k=walk (.sign 41::r) l3 (k+p.tl.length+1+q.tl.length):=λr=>by rw[o8,dQ,cF hq d _ l3 _ N7]
   refine⟨_,EM.mpr rfl,_,aN,cb,a,t,_,l3,")",rfl,rfl,E_,λc l4 e hc=>?_,λc_ M'=>?_⟩
   ·have ec:c=41:=EM.mp hc
    subst ec
    subst e
    exact⟨_,_,_,_,rfl,hR p q l4 hp hq MQ N7 rfl _ _ hv N8⟩
   ·rw[b7]
    refine hX _ (λr=>?_) M'
    rw[PC,dP λl' q=>c_ 41 l' q (by decide)]
  ·rw[b7]
   refine hX _ (λr=>?_) M'
   rw[o8,dP λl' q=>c_ 124 l' q (by decide)]
theorem DC{n j:Nat}(hL:6<=n)(T:V.T "shifted_from" hV fR)(uX:fT V)(uI:V.MM n "form_from" cH (dg j))(Kk:jb V)(uC:cI V):V.MM (n+1) "shifted_from" fR (tG j):=by
 refine Tx.okM T sc_shifted_from (λds M R RX h=>?_) (λf cdv A outer s H E J hr hx=>⟨_,((aB (bf 2 sc_shifted_from.nd (bc (hn:=by omega) uX hx hr (aD (ac (aa 0) af))))
   (aB (cx (bb (hn:=by omega) (CalMth.one uC) hx hr (am (aa 0)) (aD (ac ay af))))
   (aE (aM (gP (hn:=by omega) Kk hr (aT (bc (hn:=by omega) uI hx hr (aD (ac (aa 0) (ac (aa 1) af)))) (aT (am (ae (aa 2) ad)) (aT (am (ae (aa 2) ad)) br))))))))),λds M R RX b7 h=>?_⟩)
 ·obtain⟨_,_,_,_,_,rfl,_⟩:=h;rfl
 ·obtain⟨a,t,k,l,d,rfl,rfl,d6,IT,C_,hR,hX⟩:=h
  refine⟨λv M'=>∃ x y l1,B12 x/\B12 y/\l=numL x++44::(numL y++l1)/\(∀ e r,walk (.num:: .sign 44:: .num:: .sign e::r) l k=walk (.sign e::r) l1 (k+(numL x).length+1+(numL y).length))/\v= .tup [.int x,.int y]/\M'=RdM a t (k+(numL x).length+1+(numL y).length),⟨a,t,_,l,rfl,rfl,d6,λx y l' h1 h2 h3 h4=>⟨x,y,l',h1,h2,h3,h4,rfl,rfl⟩,λi hi M'=>?_⟩,?_⟩
  ·rw[b7];exact hX i (λr=>hi _) M'
  rintro _ _ ⟨x,y,l1,gt,hy,rfl,o8,rfl,rfl⟩;k_places
  have c9:At t (k+(numL x).length+1+(numL y).length) l1:=d6.app.next.app
  refine⟨_,EM.mpr rfl,_,aN,cb,a,t,_,l1,":",rfl,rfl,c9,λc l2 e hc=>?_,λc_ M'=>?_⟩
  ·have ec:c=58:=EM.mp hc
   subst ec
   subst e
   refine⟨a,t,_,l2,d,rfl,rfl,c9.next,IT,C_,λp l' h1 h2 h3 v h4=>?_,λi hi M'=>?_⟩
   ·obtain⟨fs,rfl⟩:=h4.obj
    subst h3
    exact⟨_,rfl,_,rfl,_,_,_,_,rfl,hR x y p l' gt hy h1 h2 rfl _ h4⟩
   ·rw[b7]
    refine hX i (λr=>?_) M'
    rw[o8,dQ];exact hi _
  ·rw[b7]
   refine hX _ (λr=>?_) M'
   rw[o8,dP λl' q=>c_ 58 l' q (by decide)]
theorem DD{n j:Nat}(hL:6<=n)(T:V.T "rehue_from" hZ fS)(uD:V.m "int")(uI:V.MM n "form_from" cH (dg j))(Kl:jc V)(uC:cI V):V.MM (n+1) "rehue_from" fS (tH j):=by
 refine Tx.okM T sc_rehue_from (λds M R RX h=>?_) (λf cdv A outer s H E J hr hx=>⟨_,((aB (bf 2 sc_rehue_from.nd (rN uD (aT (bb (hn:=by omega) (CalMth.one uC) hx hr (am (aa 0)) (aD (ac ay af))) br)))
   (aB (bf 3 sc_rehue_from.nd (rN uD (aT (bb (hn:=by omega) (CalMth.one uC) hx hr (am (aa 0)) (aD (ac ay af))) br)))
   (aE (aM (gP (hn:=by omega) Kl hr (aT (bc (hn:=by omega) uI hx hr (aD (ac (aa 0) (ac (aa 1) af)))) (aT (am (aa 2)) (aT (am (aa 3)) br))))))))),λds M R RX b7 h=>?_⟩)
 ·obtain⟨_,_,_,_,_,rfl,_⟩:=h;rfl
 ·obtain⟨a,t,k,l,d,rfl,rfl,d6,IT,C_,hR,hX⟩:=h
  refine⟨λv M'=>∃ c l1,(49<=c/\c<=54)/\l=c::l1/\v= .int ((c:Int) - 48)/\M'=RdM a t (k+1),⟨_,EM.mpr rfl,_,aN,cb,a,t,_,l,"123456",rfl,rfl,d6,λc l1 e hc=>?_,λc_ M'=>?_⟩,?_⟩
  ·exact⟨_,⟨digit_of (hue_dig.mp hc),by show(1:Nat)<=640;decide⟩,c,l1,hue_dig.mp hc,e,rfl,rfl⟩
  ·rw[b7]
   exact hX _ (λr=>tE c_) M'
  rintro _ _ ⟨c,l1,hc,rfl,rfl,rfl⟩;k_places
  refine⟨λv M'=>∃ e l2,(49<=e/\e<=54)/\l1=e::l2/\v= .int ((e:Int) - 48)/\M'=RdM a t (k+2),⟨_,EM.mpr rfl,_,aN,cb,a,t,_,l1,"123456",rfl,rfl,d6.next,λc l1 e hc=>?_,λc_ M'=>?_⟩,?_⟩
  ·exact⟨_,⟨digit_of (hue_dig.mp hc),by show(1:Nat)<=640;decide⟩,c,l1,hue_dig.mp hc,e,rfl,rfl⟩
  ·rw[b7]
   exact hX _ (λr=>by rw[kq hc,tE c_]) M'
  rintro _ _ ⟨e,l2,he,rfl,rfl,rfl⟩;k_places
  refine⟨a,t,_,l2,d,rfl,rfl,d6.next.next,IT,C_,λp l' h1 h2 h3 v h4=>?_,λi hi M'=>?_⟩
  ·obtain⟨fs,rfl⟩:=h4.obj
   subst h3
   exact⟨_,_,_,_,rfl,hR c e p l' hc he h1 h2 rfl _ h4⟩
  ·rw[b7]
   refine hX i (λr=>?_) M'
   rw[kq hc,kq he];exact hi _
theorem DF{n j:Nat}(hL:6<=n)(T:V.T "form_from" ia cH)(PD:V.MM n "over_from" fQ (tF j))(PF:V.MM n "shifted_from" fR (tG j))(uI:V.MM n "form_from" cH (dg j))(PH:V.MM n "rehue_from" fS (tH j))(Km:iX V)(Kn:V.gi "DEEP" 5)(Ko:iY V)(Kp:iZ V)(uH:du V):V.MM (n+1) "form_from" cH (dg (j+1)):=by
 refine Tx.okM T sc_form_from (λds M R RX h=>?_) (λf cdv A outer s H E J hr hx=>⟨_,((aB (bf 2 sc_form_from.nd (fK (cm (fB (aa 1) (eL Kn))) (bb (hn:=by omega) (CalMth.one uH) hx hr (am (aa 0)) (aD (ac ay af))) (am ay)))
   (aB (cn (cm (bq (aa 2) ay)) (aE (aM (bc (hn:=by omega) PD hx hr (aD (ac (aa 0) (ac (ao (aa 1) ad) af)))))) ca)
   (aB (cn (cm (bq (aa 2) ay)) (aE (aM (bc (hn:=by omega) PF hx hr (aD (ac (aa 0) (ac (ao (aa 1) ad) af)))))) ca)
   (aB (cn (cm (bq (aa 2) ay)) (aE (aM (gP (hn:=by omega) Ko hr (aT (bc (hn:=by omega) uI hx hr (aD (ac (aa 0) (ac (ao (aa 1) ad) af)))) br)))) ca)
   (aB (cn (cm (bq (aa 2) ay)) (aE (aM (gP (hn:=by omega) Kp hr (aT (bc (hn:=by omega) uI hx hr (aD (ac (aa 0) (ac (ao (aa 1) ad) af)))) br)))) ca)
   (aB (cn (cm (bq (aa 2) ay)) (aE (aM (bc (hn:=by omega) PH hx hr (aD (ac (aa 0) (ac (ao (aa 1) ad) af)))))) ca)
   (aE (aM (bc (hn:=by omega) Km hx hr (aD (ac (aa 0) af)))))))))))),λds M R RX b7 h=>?_⟩)
 ·obtain⟨_,_,_,_,_,rfl,_⟩:=h;rfl
 ·obtain⟨a,t,k,l,d,rfl,rfl,d6,IT,C_,hR,hX⟩:=h
  have Qu:d<=5:=by lia
  refine⟨λv M'=>(v= .str ""/\M'=RdM a t k/\(d=5\/∀ c l',l=c::l'->c ∉ cs "(smth"))\/(∃ c l',l=c::l'/\c∈cs "(smth"/\d<5/\v= .str ⟨#[c]⟩/\M'=RdM a t (k+1)),?_,?_⟩
  ·show if decide ((d:Int)<5)=true then _ else _
   refine ite2 (λc=>?_) (λc=>?_)
   ·have c':d<5:=by have:=of_decide_eq_true c;lia
    refine⟨_,EM.mpr rfl,_,aN,cO,a,t,_,l,"(smth",rfl,rfl,d6,?_⟩
    by_cases h:∃ c l',l=c::l'/\c∈cs "(smth"
    ·obtain⟨c,l',rfl,hc⟩:=h
     rw[dN hc,dO hc]
     exact .inr ⟨c,l',rfl,hc,c',rfl,rfl⟩
    ·have c_:∀ c l',l=c::l'->c ∉ cs "(smth":=λc l' e hc=>h ⟨c,l',e,hc⟩
     have hm:mayS "(smth" l=""/\mayN "(smth" l=0:=by
      cases l with
      |nil=>exact⟨rfl,rfl⟩
      |cons c l=>exact⟨de (c_ c l rfl),df (c_ c l rfl)⟩
     rw[hm.1,hm.2]
     exact .inl ⟨rfl,rfl,.inr c_⟩
   ·have c':d=5:=by
     have:¬ ((d:Int)<5):=λz=>c (decide_eq_true z)
     lia
    exact .inl ⟨rfl,rfl,.inl c'⟩
  rintro _ _ (⟨rfl,rfl,c_⟩|⟨c,l1,rfl,hc,gV,rfl,rfl⟩);k_places
  ·refine⟨a,t,k,l,rfl,rfl,d6,λp l' h1 h2 h3 v h4=>hR p l' h1 (by lia) h3 v h4,λi hi M'=>?_⟩
   rw[b7]
   exact hX i (λr=>by rw[BH c_];exact hi r) M'
  have c9:=d6.next
  have hj:1<=j:=by lia
  have PJ:cs "(smth"=[40,115,109,116,104]:=rfl
  rw[PJ] at hc
  simp only[EO,FO,or_false] at hc
  have nd:¬ d=5:=by lia
  rcases hc with rfl|rfl|rfl|rfl|rfl
  ·have hw:∀ r,walk (.pat d::r) (40::l1) k=walk (.pat (d+1):: .sign 124:: .pat (d+1):: .sign 41::r) l1 (k+1):=λr=>aF (by rw[bQ];unfold bP;rw[if_neg (by decide),if_neg nd,if_pos rfl])
   refine⟨a,t,k+1,l1,d+1,rfl,rfl,c9,by lia,hj,λp q l' h1 h2 h3 h4 h5 u u' h6 h7=>?_,λi hi M'=>?_⟩
   ·have:=hR (.over p q) l' ⟨h1,h2⟩ (by rw[Pat.depth];lia) (by rw[h5,Pat.tl];simp) _ ⟨u,u',rfl,h6,h7⟩
    have e:k+(Pat.over p q).tl.length=k+1+p.tl.length+1+q.tl.length+1:=by rw[Pat.tl];simp;lia
    rw[e] at this
    exact this
   ·rw[b7];exact hX i (λr=>by rw[hw];exact hi r) M'
  ·have hw:∀ r,walk (.pat d::r) (115::l1) k=walk (.num:: .sign 44:: .num:: .sign 58:: .pat (d+1)::r) l1 (k+1):=λr=>aF (by rw[bQ];unfold bP;rw[if_neg (by decide),if_neg nd,if_neg (by decide),if_pos rfl])
   refine⟨a,t,k+1,l1,d+1,rfl,rfl,c9,by lia,hj,λx y p l' h1 h2 h3 h4 h5 u h6=>?_,λi hi M'=>?_⟩
   ·have:=hR (.sh x y p) l' ⟨h1,h2,h3⟩ (by rw[Pat.depth];lia) (by rw[h5,Pat.tl];simp) _ ⟨u,rfl,h6⟩
    have e:k+(Pat.sh x y p).tl.length=k+1+(numL x).length+1+(numL y).length+1+p.tl.length:=by rw[Pat.tl];simp;lia
    rw[e] at this
    exact this
   ·rw[b7];exact hX i (λr=>by rw[hw];exact hi r) M'
  ·have hw:∀ r,walk (.pat d::r) (109::l1) k=walk (.pat (d+1)::r) l1 (k+1):=λr=>aF (by rw[bQ];unfold bP;rw[if_neg (by decide),if_neg nd,if_neg (by decide),if_neg (by decide),if_neg (by decide),if_pos (.inl rfl)])
   refine⟨a,t,k+1,l1,d+1,rfl,rfl,c9,by lia,hj,λp l' h1 h2 h3 v h4=>?_,λi hi M'=>?_⟩
   ·obtain⟨fs,rfl⟩:=h4.obj
    have:=hR (.mir p) l' h1 (by rw[Pat.depth];lia) (by rw[h3,Pat.tl];simp) _ ⟨_,rfl,h4⟩
    have e:k+(Pat.mir p).tl.length=k+1+p.tl.length:=by rw[Pat.tl];simp;lia
    rw[e] at this
    exact⟨_,_,rfl,this⟩
   ·rw[b7];exact hX i (λr=>by rw[hw];exact hi r) M'
  ·have hw:∀ r,walk (.pat d::r) (116::l1) k=walk (.pat (d+1)::r) l1 (k+1):=λr=>aF (by rw[bQ];unfold bP;rw[if_neg (by decide),if_neg nd,if_neg (by decide),if_neg (by decide),if_neg (by decide),if_pos (.inr rfl)])
   refine⟨a,t,k+1,l1,d+1,rfl,rfl,c9,by lia,hj,λp l' h1 h2 h3 v h4=>?_,λi hi M'=>?_⟩
   ·obtain⟨fs,rfl⟩:=h4.obj
    have:=hR (.tur p) l' h1 (by rw[Pat.depth];lia) (by rw[h3,Pat.tl];simp) _ ⟨_,rfl,h4⟩
    have e:k+(Pat.tur p).tl.length=k+1+p.tl.length:=by rw[Pat.tl];simp;lia
    rw[e] at this
    exact⟨_,_,rfl,this⟩
   ·rw[b7];exact hX i (λr=>by rw[hw];exact hi r) M'
  ·have hw:∀ r,walk (.pat d::r) (104::l1) k=walk (.hue:: .hue:: .pat (d+1)::r) l1 (k+1):=λr=>aF (by rw[bQ];unfold bP;rw[if_neg (by decide),if_neg nd,if_neg (by decide),if_neg (by decide),if_pos rfl])
   refine⟨a,t,k+1,l1,d+1,rfl,rfl,c9,by lia,hj,λc e p l' h1 h2 h3 h4 h5 u h6=>?_,λi hi M'=>?_⟩
   ·have:=hR (.hue ((c:Int) - 48) ((e:Int) - 48) p) l' ⟨by lia,by lia,h3⟩ (by rw[Pat.depth];lia) (by rw[h5,Pat.tl,gW h1,gW h2];simp) _ ⟨u,rfl,h6⟩
    have e:k+(Pat.hue ((c:Int) - 48) ((e:Int) - 48) p).tl.length=k+1+2+p.tl.length:=by rw[Pat.tl,gW h1,gW h2];simp;lia
    rw[e] at this
    exact this
   ·rw[b7];exact hX i (λr=>by rw[hw];exact hi r) M'
theorem DG(PK:V.T "over_from" hU fQ)(PL:V.T "shifted_from" hV fR)(PM:V.T "rehue_from" hZ fS)(N9:V.T "form_from" ia cH)(Kj:ja V)(uC:cI V)(uX:fT V)(Kk:jb V)(uD:V.m "int")(Kl:jc V)(Km:iX V)(Kn:V.gi "DEEP" 5)(Ko:iY V)(Kp:iZ V)(uH:du V):∀ j,V.MM (6+2*j) "form_from" cH (dg j):=by
 intro j
 induction j with
 |zero=>exact CalMM.never N9 (λds M R RX=>BI)
 |succ j ih=>
  have Kq:=ih
  have MU:=DB (n:=6+2*j) (j:=j) (by omega) PK Kq Kj uC
  have MV:=DC (n:=6+2*j) (j:=j) (by omega) PL uX Kq Kk uC
  have MX:=DD (n:=6+2*j) (j:=j) (by omega) PM uD Kq Kl uC
  have Kq:=Cal.mono ih (FR _)
  exact DF (n:=6+2*j+1) (j:=j) (by omega) N9 MU MV Kq MX Km Kn Ko Kp uH
abbrev oE(V:Bx):Prop:=V.M 1 "Reading" mB Bf
theorem DJ(T:V.Ti "Reading" "Reading.__init__" mz mB)(Ii:V.a "Reading" "text")(uE:V.a "Reading" "place"):oE V:=by
 refine Txi.okI T Cy (λds R h=>?_) (λf cdv A outer s H E J hr=>⟨_,((bJ Ii (aa 1) (bJ uE ad dH))),λds R h=>?_⟩)
 ·obtain⟨_,rfl,_⟩:=h;rfl
 ·obtain⟨t,rfl,hR⟩:=h
  refine⟨by decide,by show(1:Nat)<1000;decide,?_⟩
  show R (putD _ _ (putD _ _ []))
  rw[putD,putD,if_neg (by decide+kernel)]
  exact hR
abbrev oF(V:Bx):Prop:=V.M 1 "Pattern" mD BR
theorem DK(T:V.Ti "Pattern" "Pattern.__init__" mC mD)(MY:V.a "Pattern" "text")(uU:V.a "Pattern" "shifts")(Jq:V.a "Pattern" "form"):oF V:=by
 refine Txi.okI T Cz (λds R h=>?_) (λf cdv A outer s H E J hr=>⟨_,((bJ MY (aa 1) (bJ uU (aa 2) (bJ Jq (aa 3) dH)))),λds R h=>?_⟩)
 ·obtain⟨_,_,_,_,_,_,rfl,_⟩:=h;rfl
 ·obtain⟨t,w,h,s,x,fs,rfl,hR⟩:=h
  refine⟨by decide,by show(1:Nat)<1000;decide,by show(2:Nat)<1000;decide,?_⟩
  show R (putD _ _ (putD _ _ (putD _ _ [])))
  rw[show putD ("shifts":Str) (.tup [.int w,.int h,.int s]) (putD ("text":Str) (.str t) [])=([("text",.str t),("shifts",.tup [.int w,.int h,.int s])]:List (Str × D)) by rw[putD,putD,if_neg (by decide+kernel)];rfl,putD,if_neg (by decide+kernel),putD,if_neg (by decide+kernel)]
  exact hR
abbrev jd(V:Bx):Prop:=V.E 1 "OneLine" mG BT
theorem DL(T:V.Te "OneLine" "OneLine.__init__" mF mG)(Jn:V.b "MotifError")(uBB:V.ea "OneLine")(MZ:V.xf "OneLine" "place"):jd V:=by
 refine Txe.okE T CA (λds R h=>?_) (λf cdv A outer s H E J hr=>⟨_,((rq Jn uBB (ac (aa 1) af) (rz uBB MZ (aa 1) rn))),λds R h=>?_⟩)
 ·obtain⟨i,rfl,_⟩:=h;rfl
 ·obtain⟨i,rfl,hR⟩:=h
  exact⟨by show(1:Nat)<=1000;decide,rfl,hR⟩
abbrev oG(V:Bx):Prop:=V.D 2 "measure" mI Az
theorem DM(T:V.T "measure" mH mI)(Jo:iV V):oG V:=by
 refine Tx.okDW T sc_measure (λds R h=>?_) (λf cdv A outer s H E J hr=>⟨_,((ah (ai 2 sc_measure.nd (ae (ar Jo hr (ac (aG (ac ad (ac (aa 0) af))) (ac (aG (ac ad (ac (aa 1) af))) af))) ad))
   (aj (au (aG (ac (ae (aa 2) ad) (ac (ae (aa 2) ad) af))))))),λds R h=>?_⟩)
 ·obtain⟨x,y,rfl,_⟩:=h;rfl
 ·obtain⟨x,y,rfl,hx,hy,hR⟩:=h
  refine⟨λd=>∃ p0 p1:Int,d= .tup [.int p0,.int p1]/\Meas x y p1 p0,⟨by simp,by simp,1,x,0,y,rfl,hx,hy,λp0 p1 q0 hL=>⟨_,rfl,p0,p1,rfl,ss ⟨hL.1,hL.2⟩⟩⟩,?_⟩
  rintro _ ⟨p0,p1,rfl,hM⟩;k_places
  exact⟨_,rfl,_,rfl,by simp,hR p1 p0 hM⟩
abbrev fU(V:Bx):Prop:=V.D 3 "met" mK AA
theorem DN(T:V.T "met" mJ mK)(Kr:oG V):fU V:=by
 refine Tx.okDW T sc_met (λds R h=>?_) (λf cdv A outer s H E J hr=>⟨_,((ah (ai 2 sc_met.nd (ar Kr hr (ac (ae (aa 0) ad) (ac (ae (aa 1) ad) af))))
   (ah (ai 3 sc_met.nd (aU (av (ae (aa 0) ad) (ae (aa 1) ad)) (ae (aa 2) ad)))
   (ah (ai 4 sc_met.nd (aU (av (ae (aa 0) ad) (ae (aa 1) ad)) (ae (ar Kr hr (ac (ae (aa 0) ad) (ac (ae (aa 1) ad) af))) ad)))
   (ah (ai 5 sc_met.nd (av (aU (aa 4) (ae (aa 0) ad)) (ae (aa 0) ad)))
   (ah (ai 6 sc_met.nd (bn (av (aU (aa 4) (ae (aa 1) ad)) (ae (aa 1) ad)) (aa 5)))
   (ah (ai 7 sc_met.nd (aU (ae (aa 2) ad) (ae (ar Kr hr (ac (ae (aa 2) ad) (ac (aa 6) af))) ad)))
   (ah (ai 8 sc_met.nd (av (aU (av (aa 7) (aa 6)) (ae (aa 2) ad)) (ae (aa 2) ad)))
   (aj (au (aG (ac (aa 3) (ac (av (aa 4) (aa 7)) (ac (aw (ao (av (aa 7) (aa 5)) (av (aa 8) (ae (aa 0) ad))) (aa 3)) af)))))))))))))),λds R h=>?_⟩)
 ·obtain⟨_,_,_,_,_,_,rfl,_⟩:=h;rfl
 ·obtain⟨w1,h1,s1,w2,h2,s2,rfl,a1,a2,a3,a4,a5,a6,b1,b2,b3,b4,b5,b6,hR⟩:=h
  refine⟨λd=>∃ g u:Int,d= .tup [.int g,.int u]/\Meas w1 w2 g u,⟨_,rfl,_,rfl,w1,w2,rfl,by omega,by omega,λg u M=>⟨g,u,rfl,M⟩⟩,?_⟩
  rintro _ ⟨g,u,rfl,M1⟩;k_places
  have hg:=M1.pos a1
  have Mu:=M1.le a1
  refine⟨λd=>d= .int (w1*w2 / g),⟨_,rfl,_,rfl,.inl (b64B a1 a2),_,rfl,d30B hg (GO Mu a2),rfl⟩,?_⟩;rintro _ rfl;k_places
  refine⟨λd=>∃ k u':Int,d= .int (h1*h2 / k)/\Meas h1 h2 k u',⟨_,rfl,_,rfl,.inl (b64B a3 a4),_,rfl,_,rfl,h1,h2,rfl,by omega,by omega,λk u' M=>⟨_,rfl,d30B (M.pos a3) (GO (M.le a3) a4),k,u',rfl,M⟩⟩,?_⟩
  rintro _ ⟨k,u',rfl,M2⟩;k_places
  obtain⟨r0,r1,r2,r3,r4,r5⟩:=jY a3 b3 M2
  have PN:h1*h2<=1125899906842624:=by
   have:=bB (a:=h1) (d:=h2) (A:=33554432) (B:=33554432) (by omega) (by omega)
   omega
  refine⟨λd=>d= .int (h1*h2 / k / h1*s1),⟨_,rfl,d30B a3 a4,_,rfl,.inr (s64B a5 a6 a2),rfl⟩,?_⟩;rintro _ rfl;k_places
  refine⟨λd=>d= .int (h1*h2 / k / h2*s2 - h1*h2 / k / h1*s1),⟨_,rfl,d30B b3 b4,_,rfl,.inr (s64B b5 b6 b2),rfl⟩,?_⟩;rintro _ rfl;k_places
  have t1:=bB (a:=h1*h2 / k / h1) (d:=s1) (A:=33554432) (B:=33554432) (by omega) (by omega)
  have t2:=bB (a:=h1*h2 / k / h2) (d:=s2) (A:=33554432) (B:=33554432) (by omega) (by omega)
  refine⟨λd=>∃ gg t6:Int,d= .int (g / gg)/\Meas g (h1*h2 / k / h2*s2 - h1*h2 / k / h1*s1) gg t6,⟨_,rfl,_,rfl,g,_,rfl,by omega,by omega,λgg t6 M=>⟨_,rfl,d30B (M.pos hg) (GO (M.le hg) (GO Mu a2)),gg,t6,rfl,M⟩⟩,?_⟩
  rintro _ ⟨gg,t6,rfl,M3⟩;k_places
  have B_:=M3.pos hg
  have c1:0<=g / gg:=Int.ediv_nonneg (by omega) (by omega)
  have c2:g / gg<=g:=Int.ediv_le_self _ (by omega)
  have c4:=Ak (c:=g / gg) (gap:=h1*h2 / k / h2*s2 - h1*h2 / k / h1*s1) (N:=2251799813685248) hg c1 c2 (by omega)
  have mr:=jX a1 b1 a3 b3 M1 M2 M3
  refine⟨λd=>d= .int (g / gg*(h1*h2 / k / h2*s2 - h1*h2 / k / h1*s1) / g*u),⟨.inl ⟨by omega,by omega⟩,_,rfl,⟨by omega,by omega⟩,_,rfl,.inl ⟨by omega,by omega⟩,rfl⟩,?_⟩;rintro _ rfl;k_places
  obtain⟨w0,w3,_⟩:=jY a1 b1 M1
  have PP:w1*w2<=1125899906842624:=by
   have:=bB (a:=w1) (d:=w2) (A:=33554432) (B:=33554432) (by omega) (by omega)
   omega
  have J_:=bB (a:=h1*h2 / k) (d:=g / gg) (A:=1125899906842624) (B:=33554432) (by omega) (by omega)
  exact⟨.inl ⟨by omega,by omega⟩,.inl ⟨by omega,by omega⟩,_,rfl,.inr ⟨by omega,by omega⟩,w0,by simp,hR _ _ _ _ mr⟩
abbrev je(V:Bx):Prop:=V.D 1 "mirrored" mM Ax
theorem DO(T:V.T "mirrored" mL mM):je V:=by
 refine Tx.okDW T CB (λds R h=>?_) (λf cdv A outer s H E J hr=>⟨_,((aj (au (aG (ac (ae (aa 0) ad) (ac (ae (aa 0) ad) (ac (aw (cu (ae (aa 0) ad)) (ae (aa 0) ad)) af))))))),λds R h=>?_⟩)
 ·obtain⟨w,h,s,rfl,_⟩:=h;rfl
 ·obtain⟨w,h,s,rfl,hw,hR⟩:=h
  exact⟨_,rfl,_,rfl,_,rfl,_,rfl,hw,by simp,hR⟩
abbrev jg(V:Bx):Prop:=V.D 3 "turned" mO Ay
theorem DP(T:V.T "turned" mN mO)(Jp:iW V):jg V:=by
 refine Tx.okDW T CC (λds R h=>?_) (λf cdv A outer s H E J hr=>⟨_,((aj (au (ar Jp hr (ac (aG (ac ad (ac (ae (aa 0) ad) af))) (ac (aG (ac (cu (ae (aa 0) ad)) (ac (ae (aa 0) ad) af))) af)))))),λds R h=>?_⟩)
 ·obtain⟨w,h,s,rfl,_⟩:=h;rfl
 ·obtain⟨w,h,s,rfl,hw,hh,u_,w_,hs,m4,hR⟩:=h
  have hp:0<w*h:=E5 hw hh
  have hn:¬ 0*s=w* -h:=by rw[FM];lia
  exact⟨_,rfl,by simp,_,rfl,_,rfl,by simp,0,w,-h,s,rfl,by lia,by lia,by lia,by lia,λe=>absurd e hn,λ_ w' h' s' f=>hR w' h' s' f⟩
theorem ok_Motif_family{n j:Nat}(hL:3<=n)(T:V.Tm "Motif" "family" "Motif.family" ib cz)(uJ:V.a "Motif" "shifts")(Ij:V.a "Motif" "place")(uAH:jd V):V.Q (n+1) "Motif" "family" cz (ofX (bX (j+1) "Motif")):=by
 refine Txm.okM T CD (λds M R RX h=>?_) (λf cdv A outer s H E J hr hx=>⟨_,((aB (cn (rL (aL uJ (am (aa 0))) (am cr)) (aE (jS (hn:=by omega) uAH hr hx rfl (aT (aL Ij (am (aa 0))) br))) ca)
   (aE (aM (aL uJ (am (aa 0))))))),λds M R RX b7 h=>?_⟩)
 ·obtain⟨_,_,_,rfl,_⟩:=h;rfl
 ·obtain⟨p,k,v,rfl,hv,hs,hd,hc,e_,hX,hR⟩:=h
  cases p with
  |over p q=>exact absurd (show("Over":Str)="Motif" from hc) (by decide+kernel)
  |sh a b p=>exact absurd (show("Shifted":Str)="Motif" from hc) (by decide+kernel)
  |mir p=>exact absurd (show("Mirror":Str)="Motif" from hc) (by decide+kernel)
  |tur p=>exact absurd (show("Turn":Str)="Motif" from hc) (by decide+kernel)
  |hue f g p=>exact absurd (show("Rehue":Str)="Motif" from hc) (by decide+kernel)
  |mot L a b c d=>
   obtain⟨sh,hu,rfl,h0,h1⟩:=hv
   refine⟨_,⟨rfl,rfl⟩,_,kr,?_⟩
   by_cases e:a*d=b*c
   ·rw[h0 e]
    refine⟨_,⟨rfl,rfl⟩,_,BJ,by show(1:Nat)<=1000;decide,(k:Int),rfl,?_⟩
    rw[b7]
    exact hX k (by rw[Pat.lineAt,if_pos e])
   ·obtain⟨w,h,s,F,rfl,rfl⟩:=h1 e
    exact⟨_,⟨rfl,rfl⟩,_,kr,hR (by rw[Pat.lineAt,if_neg e]) w h s (Pat.Fam.mot F)⟩
theorem DQ{n j:Nat}(hL:3<=n)(T:V.Tm "Over" "family" "Over.family" ic ie)(Iq:fU V)(uS:V.a "Over" "above")(uN:V.a "Over" "below")(uG:∀ x,x∈(["Motif","Over","Shifted","Mirror","Turn","Rehue"]:List Str)->V.Q n x "family" cz (ofX (bX j x))):V.Q (n+1) "Over" "family" ie (ofX (bX (j+1) "Over")):=by
 refine Txm.okM T sc_Over_family (λds M R RX h=>?_) (λf cdv A outer s H E J hr hx=>⟨_,((aB (bf 1 sc_Over_family.nd (dJ (hn:=by omega) uG hx hr (aL uS (am (aa 0)))))
   (aE (aM (bc (hn:=by omega) (CalD.toM Iq) hx hr (aT (am (aa 1)) (aT (dJ (hn:=by omega) uG hx hr (aL uN (am (aa 0)))) br))))))),λds M R RX b7 h=>?_⟩)
 ·obtain⟨_,_,_,rfl,_⟩:=h;rfl
 ·obtain⟨p,k,v,rfl,hv,hs,hd,hc,e_,hX,hR⟩:=h
  cases p with
  |mot L a b c d=>exact absurd (show("Motif":Str)="Over" from hc) (by decide+kernel)
  |sh a b p=>exact absurd (show("Shifted":Str)="Over" from hc) (by decide+kernel)
  |mir p=>exact absurd (show("Mirror":Str)="Over" from hc) (by decide+kernel)
  |tur p=>exact absurd (show("Turn":Str)="Over" from hc) (by decide+kernel)
  |hue f g p=>exact absurd (show("Rehue":Str)="Over" from hc) (by decide+kernel)
  |over p q=>
   obtain⟨u,u',rfl,hu,Ks⟩:=hv
   obtain⟨fs,rfl,hf,_⟩:=hu.objm
   obtain⟨gs,rfl,hg,_⟩:=Ks.objm
   rw[Pat.depth] at hd
   refine⟨λd M'=>(∃ w h s,p.lineAt (k+1)=none/\p.Fam w h s/\d= .tup [.int w,.int h,.int s])/\M'=M,⟨_,⟨rfl,rfl⟩,_,rfl,p.cls,p.cls_mem,fs,⟨rfl,rfl⟩,hf,p,k+1,_,rfl,hu,hs.1,by lia,rfl,e_.1,λi hi=>?_,λhn w h s F=>⟨⟨w,h,s,hn,F,rfl⟩,rfl⟩⟩,?_⟩
   ·rw[b7]
    exact hX i (by rw[Pat.lineAt,hi])
   rintro _ _ ⟨⟨w1,h1,s1,M0,F1,rfl⟩,rfl⟩;k_places
   refine⟨_,⟨rfl,rfl⟩,_,fb (by decide+kernel),q.cls,q.cls_mem,gs,⟨rfl,rfl⟩,hg,q,k+1+p.tl.length+1,_,rfl,Ks,hs.2,by lia,rfl,e_.2.1,λi hi=>?_,λw9 w2 h2 s2 F2=>?_⟩
   ·rw[b7]
    exact hX i (by rw[Pat.lineAt,M0];exact hi)
   ·obtain⟨f1,f2⟩:=e_.2.2 (Pat.line_wf _ hs.1 M0) (Pat.line_wf _ hs.2 w9)
    obtain⟨a1,a2,a3,a4,a5,a6⟩:=f1.small F1
    obtain⟨b1,b2,b3,b4,b5,b6⟩:=f2.small F2
    exact⟨w1,h1,s1,w2,h2,s2,rfl,a1,a2,a3,a4,a5,a6,b1,b2,b3,b4,b5,b6,λw h s A MR=>hR (by rw[Pat.lineAt,M0];exact w9) w h s (Pat.Fam.over F1 F2 MR)⟩
theorem DR{n j:Nat}(hL:3<=n)(T:V.Tm "Shifted" "family" "Shifted.family" ig ii)(uR:V.a "Shifted" "form")(uG:∀ x,x∈(["Motif","Over","Shifted","Mirror","Turn","Rehue"]:List Str)->V.Q n x "family" cz (ofX (bX j x))):V.Q (n+1) "Shifted" "family" ii (ofX (bX (j+1) "Shifted")):=by
 refine Txm.okM T CF (λds M R RX h=>?_) (λf cdv A outer s H E J hr hx=>⟨_,((aE (aM (dJ (hn:=by omega) uG hx hr (aL uR (am (aa 0))))))),λds M R RX b7 h=>?_⟩)
 ·obtain⟨_,_,_,rfl,_⟩:=h;rfl
 ·obtain⟨p,k,v,rfl,hv,hs,hd,hc,e_,hX,hR⟩:=h
  cases p with
  |mot L a b c d=>exact absurd (show("Motif":Str)="Shifted" from hc) (by decide+kernel)
  |over p q=>exact absurd (show("Over":Str)="Shifted" from hc) (by decide+kernel)
  |mir p=>exact absurd (show("Mirror":Str)="Shifted" from hc) (by decide+kernel)
  |tur p=>exact absurd (show("Turn":Str)="Shifted" from hc) (by decide+kernel)
  |hue f g p=>exact absurd (show("Rehue":Str)="Shifted" from hc) (by decide+kernel)
  |sh a b p=>
   obtain⟨u,rfl,hu⟩:=hv
   obtain⟨fs,rfl,hf,_⟩:=hu.objm
   rw[Pat.depth] at hd
   refine⟨_,⟨rfl,rfl⟩,_,rfl,p.cls,p.cls_mem,fs,⟨rfl,rfl⟩,hf,p,_,_,rfl,hu,hs.2.2,by lia,rfl,e_,λi hi=>?_,λhn w h s F=>?_⟩
   ·rw[b7]
    exact hX i (by rw[Pat.lineAt];exact hi)
   ·exact hR (by rw[Pat.lineAt];exact hn) w h s (F.sh a b)
theorem DU{n j:Nat}(hL:3<=n)(T:V.Tm "Mirror" "family" "Mirror.family" ij ik)(Kt:je V)(uQ:V.a "Mirror" "form")(uG:∀ x,x∈(["Motif","Over","Shifted","Mirror","Turn","Rehue"]:List Str)->V.Q n x "family" cz (ofX (bX j x))):V.Q (n+1) "Mirror" "family" ik (ofX (bX (j+1) "Mirror")):=by
 refine Txm.okM T CG (λds M R RX h=>?_) (λf cdv A outer s H E J hr hx=>⟨_,((aE (aM (bc (hn:=by omega) (CalD.toM Kt) hx hr (aT (dJ (hn:=by omega) uG hx hr (aL uQ (am (aa 0)))) br))))),λds M R RX b7 h=>?_⟩)
 ·obtain⟨_,_,_,rfl,_⟩:=h;rfl
 ·obtain⟨p,k,v,rfl,hv,hs,hd,hc,e_,hX,hR⟩:=h
  cases p with
  |mot L a b c d=>exact absurd (show("Motif":Str)="Mirror" from hc) (by decide+kernel)
  |over p q=>exact absurd (show("Over":Str)="Mirror" from hc) (by decide+kernel)
  |sh a b p=>exact absurd (show("Shifted":Str)="Mirror" from hc) (by decide+kernel)
  |tur p=>exact absurd (show("Turn":Str)="Mirror" from hc) (by decide+kernel)
  |hue f g p=>exact absurd (show("Rehue":Str)="Mirror" from hc) (by decide+kernel)
  |mir p=>
   obtain⟨u,rfl,hu⟩:=hv
   obtain⟨fs,rfl,hf,_⟩:=hu.objm
   rw[Pat.depth] at hd
   refine⟨_,⟨rfl,rfl⟩,_,rfl,p.cls,p.cls_mem,fs,⟨rfl,rfl⟩,hf,p,_,_,rfl,hu,hs,by lia,rfl,e_,λi hi=>?_,λhn w h s F=>?_⟩
   ·rw[b7]
    exact hX i (by rw[Pat.lineAt];exact hi)
   ·exact⟨w,h,s,rfl,F.f.w0,hR (by rw[Pat.lineAt];exact hn) w h _ F.mir⟩
theorem DV{n j:Nat}(hL:3<=n)(T:V.Tm "Turn" "family" "Turn.family" il im)(Ku:jg V)(uO:V.a "Turn" "form")(uG:∀ x,x∈(["Motif","Over","Shifted","Mirror","Turn","Rehue"]:List Str)->V.Q n x "family" cz (ofX (bX j x))):V.Q (n+1) "Turn" "family" im (ofX (bX (j+1) "Turn")):=by
 refine Txm.okM T CH (λds M R RX h=>?_) (λf cdv A outer s H E J hr hx=>⟨_,((aE (aM (bc (hn:=by omega) (CalD.toM Ku) hx hr (aT (dJ (hn:=by omega) uG hx hr (aL uO (am (aa 0)))) br))))),λds M R RX b7 h=>?_⟩)
 ·obtain⟨_,_,_,rfl,_⟩:=h;rfl
 ·obtain⟨p,k,v,rfl,hv,hs,hd,hc,e_,hX,hR⟩:=h
  cases p with
  |mot L a b c d=>exact absurd (show("Motif":Str)="Turn" from hc) (by decide+kernel)
  |over p q=>exact absurd (show("Over":Str)="Turn" from hc) (by decide+kernel)
  |sh a b p=>exact absurd (show("Shifted":Str)="Turn" from hc) (by decide+kernel)
  |mir p=>exact absurd (show("Mirror":Str)="Turn" from hc) (by decide+kernel)
  |hue f g p=>exact absurd (show("Rehue":Str)="Turn" from hc) (by decide+kernel)
  |tur p=>
   obtain⟨u,rfl,hu⟩:=hv
   obtain⟨fs,rfl,hf,_⟩:=hu.objm
   rw[Pat.depth] at hd
   refine⟨_,⟨rfl,rfl⟩,_,rfl,p.cls,p.cls_mem,fs,⟨rfl,rfl⟩,hf,p,_,_,rfl,hu,hs,by lia,rfl,e_.1,λi hi=>?_,λhn w h s F=>?_⟩
   ·rw[b7]
    exact hX i (by rw[Pat.lineAt];exact hi)
   ·obtain⟨a1,a2,a3,a4,a5,a6⟩:=(e_.2 (Pat.line_wf _ hs hn)).small F
    exact⟨w,h,s,rfl,a1,a3,by lia,by lia,a5,by lia,λw' h' s' F'=>hR (by rw[Pat.lineAt];exact hn) w' h' s' (F.tur F')⟩
theorem DY{n j:Nat}(hL:3<=n)(T:V.Tm "Rehue" "family" "Rehue.family" io ip)(uP:V.a "Rehue" "form")(uG:∀ x,x∈(["Motif","Over","Shifted","Mirror","Turn","Rehue"]:List Str)->V.Q n x "family" cz (ofX (bX j x))):V.Q (n+1) "Rehue" "family" ip (ofX (bX (j+1) "Rehue")):=by
 refine Txm.okM T CI (λds M R RX h=>?_) (λf cdv A outer s H E J hr hx=>⟨_,((aE (aM (dJ (hn:=by omega) uG hx hr (aL uP (am (aa 0))))))),λds M R RX b7 h=>?_⟩)
 ·obtain⟨_,_,_,rfl,_⟩:=h;rfl
 ·obtain⟨p,k,v,rfl,hv,hs,hd,hc,e_,hX,hR⟩:=h
  cases p with
  |mot L a b c d=>exact absurd (show("Motif":Str)="Rehue" from hc) (by decide+kernel)
  |over p q=>exact absurd (show("Over":Str)="Rehue" from hc) (by decide+kernel)
  |sh a b p=>exact absurd (show("Shifted":Str)="Rehue" from hc) (by decide+kernel)
  |mir p=>exact absurd (show("Mirror":Str)="Rehue" from hc) (by decide+kernel)
  |tur p=>exact absurd (show("Turn":Str)="Rehue" from hc) (by decide+kernel)
  |hue f g p=>
   obtain⟨u,rfl,hu⟩:=hv
   obtain⟨fs,rfl,hf,_⟩:=hu.objm
   rw[Pat.depth] at hd
   refine⟨_,⟨rfl,rfl⟩,_,rfl,p.cls,p.cls_mem,fs,⟨rfl,rfl⟩,hf,p,_,_,rfl,hu,hs.2.2,by lia,rfl,e_,λi hi=>?_,λhn w h s F=>?_⟩
   ·rw[b7]
    exact hX i (by rw[Pat.lineAt];exact hi)
   ·exact hR (by rw[Pat.lineAt];exact hn) w h s (F.hue f g)
theorem DZ(N_:V.Tm "Motif" "family" "Motif.family" ib cz)(Oa:V.Tm "Over" "family" "Over.family" ic ie)(Ob:V.Tm "Shifted" "family" "Shifted.family" ig ii)(Oc:V.Tm "Mirror" "family" "Mirror.family" ij ik)(Od:V.Tm "Turn" "family" "Turn.family" il im)(Oe:V.Tm "Rehue" "family" "Rehue.family" io ip)(uJ:V.a "Motif" "shifts")(Ij:V.a "Motif" "place")(uAH:jd V)(Iq:fU V)(uS:V.a "Over" "above")(uN:V.a "Over" "below")(uR:V.a "Shifted" "form")(Kt:je V)(uQ:V.a "Mirror" "form")(Ku:jg V)(uO:V.a "Turn" "form")(uP:V.a "Rehue" "form"):∀ j x,x∈(["Motif","Over","Shifted","Mirror","Turn","Rehue"]:List Str)->V.Q (3+j) x "family" cz (ofX (bX j x)):=by
 intro j
 induction j with
 |zero=>
  intro x hx
  simp only[EO,FO,or_false] at hx
  rcases hx with rfl|rfl|rfl|rfl|rfl|rfl
  ·exact CalMth.never N_ (λds M R RX=>fg)
  ·exact CalMth.never Oa (λds M R RX=>fg)
  ·exact CalMth.never Ob (λds M R RX=>fg)
  ·exact CalMth.never Oc (λds M R RX=>fg)
  ·exact CalMth.never Od (λds M R RX=>fg)
  ·exact CalMth.never Oe (λds M R RX=>fg)
 |succ j Kv=>
  intro x hx
  simp only[EO,FO,or_false] at hx
  rcases hx with rfl|rfl|rfl|rfl|rfl|rfl
  ·exact ok_Motif_family (n:=3+j) (j:=j) (by omega) N_ uJ Ij uAH
  ·exact DQ (n:=3+j) (j:=j) (by omega) Oa Iq uS uN Kv
  ·exact DR (n:=3+j) (j:=j) (by omega) Ob uR Kv
  ·exact DU (n:=3+j) (j:=j) (by omega) Oc Kt uQ Kv
  ·exact DV (n:=3+j) (j:=j) (by omega) Od Ku uO Kv
  ·exact DY (n:=3+j) (j:=j) (by omega) Oe uP Kv
abbrev uf(V:Bx):Prop:=V.MM 18 "form_from" cH (dg 6)
abbrev uh(V:Bx):Prop:=∀ x,x∈(["Motif","Over","Shifted","Mirror","Turn","Rehue"]:List Str)->V.Q 9 x "family" cz (ofX (bX 6 x))
abbrev oH(V:Bx):Prop:=V.X 19 "read" mR tQ
theorem D0(T:V.T "read" mQ mR)(uB:V.m "len")(uI:uf V)(Jr:V.gi "MOST" 720)(uE:V.a "Reading" "place")(M4:oE V)(M5:oF V)(uG:uh V)(uZ:iU V)(Js:V.n "TooGreat"):oH V:=by
 refine CalMM.nilX (Tx.okM T sc_read (λds M R RX h=>?_) (λf cdv A outer s H E J hr hx=>⟨_,((aB (bf 1 sc_read.nd (zm M4 hr (aD (ac (aa 0) af))))
   (aB (bf 2 sc_read.nd (bc uI hx hr (aD (ac (aa 1) (ac ad af)))))
   (aB (cn (rK (aL uE (am (aa 1))) (am (cj uB (ac (aa 0) af)))) (aE (jS uZ hr hx rfl (aT (aL uE (am (aa 1))) br))) ca)
   (aB (bf 3 sc_read.nd (dJ uG hx hr (am (aa 2))))
   (aB (cn (cm (jE (av (ae (aa 3) ad) (ae (aa 3) ad)) (eL Jr))) (aE (zr Js hx rfl (aD (ac ay af)))) ca)
   (aE (aM (am (jM M5 hr (ac (aa 0) (ac (aa 3) (ac (aa 2) af))))))))))))),λds M R RX b7 h=>?_⟩))
 ·obtain⟨_,R0,A_,h,_⟩:=h
  rcases h with⟨_,_,rfl,_⟩|⟨_,rfl,_⟩<;>rfl
 ·obtain⟨rfl,R0,A_,h,hR,hX⟩:=h
  obtain⟨t,ht,PQ,v6⟩:∃ t:Str,ds=[.str t]/\t.length<=100000/\((∃ k:Nat,cY t=some k/\A_ "WrongSign" [("place",.int k)])\/∃ p:Pat,t=p.text/\p.Syn/\p.depth<=5/\p.Cal/\(∀ k:Nat,p.lineAt 0=some k->A_ "OneLine" [("place",.int k)])/\(p.lineAt 0=none->¬ p.Fits->A_ "TooGreat" [])/\(p.lineAt 0=none->p.Fits->∀ d,aX p d->R0 d)):=by
   rcases h with⟨t,k,e,h1,h2,h3⟩|⟨p,e,h1,h2,h3⟩
   ·exact⟨t,e,h1,.inl ⟨k,h2,h3⟩⟩
   ·exact⟨p.text,e,by have:=Pat.syn_short h1 h2;lia,.inr ⟨p,rfl,h1,h2,h3⟩⟩
  subst ht
  have d6:At t 0 (cs t):=⟨rfl,Fj _,PQ⟩
  refine⟨λd M'=>∃ a,d= .ptr a/\M'=RdM a t 0,⟨t,rfl,λa _=>⟨a,rfl,rfl⟩⟩,?_⟩
  rintro _ _ ⟨a,rfl,rfl⟩;k_places
  refine⟨λv M'=>∃ p l',p.Syn/\p.depth<=5/\cs t=p.tl++l'/\FormOf p 0 v/\M'=RdM a t p.tl.length,⟨a,t,0,cs t,0,rfl,rfl,d6,rfl,by decide,λp l' h1 h2 h3 v h4=>⟨p,l',h1,by lia,h3,h4,by rw[GN]⟩,λi hi M'=>?_⟩,?_⟩
  ·rw[b7]
   have hw:cY t=some i:=hi []
   rcases v6 with⟨k,h1,h2⟩|⟨p,rfl,h1,h2,_⟩
   ·rw[hw] at h1
    cases h1
    exact hX _ _ _ h2
   ·rw[sW h1 h2] at hw
    cases hw
  rintro v _ ⟨p,l',hp,MQ,hl,hv,rfl⟩;k_places
  have hw:cY t=walk [] l' p.tl.length:=by
   unfold cY
   rw[hl,cF hp 0 [] l' 0 (by lia),GN]
  have a_:t.length=p.tl.length+l'.length:=by rw[<- bL,hl,EW]
  refine⟨_,aN,_,db,by lia,ite2 (λc=>?_) (λc=>?_)⟩
  ·have c':=of_decide_eq_true c
   refine⟨_,aN,_,db,by show(1:Nat)<=1000;decide,(p.tl.length:Int),rfl,?_⟩
   rw[b7]
   have u_:cY t=some p.tl.length:=by
    rw[hw]
    cases l' with
    |nil=>simp at a_;lia
    |cons c l=>simp[walk,step,aI,aK]
   rcases v6 with⟨k,h1,h2⟩|⟨q,rfl,h1,h2,_⟩
   ·rw[u_] at h1
    cases h1
    exact hX _ _ _ h2
   ·rw[sW h1 h2] at u_
    cases u_
  have c':¬ ((p.tl.length:Int)<(t.length:Int)):=λz=>c (decide_eq_true z)
  have PR:l'=[]:=GZ (by lia)
  subst PR
  rcases v6 with⟨k,h1,h2⟩|⟨q,rfl,h1,h2,e_,M6,IU,Kw⟩
  ·rw[hw] at h1
   cases h1
  obtain⟨rfl,_⟩:=BQ (p:=q) (q:=p) (x:=[]) (y:=[]) h1 hp (by rw[<- cZ,hl];simp)
  obtain⟨fs,rfl,hf,_⟩:=hv.objm
  refine⟨λd M'=>∃ w h s,q.lineAt 0=none/\q.Fam w h s/\d= .tup [.int w,.int h,.int s],⟨q.cls,q.cls_mem,fs,⟨rfl,rfl⟩,hf,q,0,_,rfl,hv,hp,by lia,rfl,e_,λi hi=>?_,λhn w h s F=>⟨w,h,s,hn,F,rfl⟩⟩,?_⟩
  ·rw[b7]
   exact hX _ _ _ (M6 i hi)
  rintro _ M' ⟨w,h,s,hn,F,rfl⟩;k_places
  have e8:=Pat.line_wf 0 hp hn
  have N5:=Pat.cal_w e8 e_ F
  have Pl:=F.f.w0
  refine⟨_,rfl,_,rfl,.inl ⟨by lia,by lia⟩,ite2 (λc=>?_) (λc=>?_)⟩
  ·have c2:=of_decide_eq_true c
   refine⟨by show(1:Nat)<=1000;decide,?_⟩
   rw[b7]
   refine hX _ _ _ (IU hn λ⟨w',h',s',F',hb⟩=>?_)
   obtain⟨rfl,rfl,_⟩:=F.uniq F'
   lia
  ·have c2:¬ (720<w*h):=λz=>c (decide_eq_true z)
   refine⟨_,_,_,_,_,_,rfl,hR _ _ (Kw hn ⟨w,h,s,F,by lia⟩ _ ⟨w,h,s,_,rfl,rfl,fb (by decide+kernel),⟨F,0,_,ku (by decide+kernel) (by decide+kernel),hv⟩⟩)⟩
abbrev oI(V:Bx):Prop:=V.X 1 "refuse_far" mV BU
theorem D1(T:V.T "refuse_far" mU mV)(IN:V.m "max")(uM:V.m "abs")(M7:V.gi "FAR" 1000000000000)(M8:V.n "TooFar"):oI V:=by
 refine Tx.okXW T CJ (λds R RX h=>?_) (λf cdv A outer s H E J hr hx=>⟨_,((aj (aZ (jE (jG rfl IN (ac (eg uM (ac (aa 0) af)) (ac (eg uM (ac (aa 1) af)) af))) (eL M7)) (aj (rl M8 hx rfl (ac ay af))) aQ))),λds R RX b7 h=>?_⟩)
 ·obtain⟨_,_,rfl,_⟩:=h;rfl
 ·obtain⟨x,y,rfl,h1,h2⟩:=h
  refine ite2 (λc=>?_) (λc=>?_)
  ·have c':=of_decide_eq_true c
   refine⟨by show(1:Nat)<=1000;decide,?_⟩
   rw[b7]
   refine h2 λ⟨⟨a1,a2⟩,a3,a4⟩=>?_
   split at c'<;>split at c'<;>split at c'<;>lia
  ·have c':¬ _:=λz=>c (decide_eq_true z)
   refine h1 ?_
   unfold bu
   split at c'<;>split at c'<;>split at c'<;>lia
theorem ok_Motif_shows{n j:Nat}(hL:1<=n)(T:V.Tm "Motif" "shows" "Motif.shows" iq cA)(uT:fo V)(Ik:V.a "Motif" "hues")(uJ:V.a "Motif" "shifts"):V.Q (n+1) "Motif" "shows" cA (ofX (bY (j+1) "Motif")):=by
 refine Txm.okM T CK (λds M R RX h=>?_) (λf cdv A outer s H E J hr hx=>⟨_,((aE (aM (zU (fz hr) (aL Ik (am (aa 0))) (aT (bc (hn:=by omega) (CalD.toM uT) hx hr (aT (aL uJ (am (aa 0))) (aT (am (aa 1)) (aT (am (aa 2)) br)))) (aT (am ad) br)))))),λds M R RX b7 h=>?_⟩)
 ·obtain⟨_,_,_,_,_,rfl,_⟩:=h;rfl
 ·obtain⟨p,k,v,X,Y,rfl,hv,e8,hd,hc,hR⟩:=h
  cases p with
  |over p q=>exact absurd (show("Over":Str)="Motif" from hc) (by decide+kernel)
  |sh a b p=>exact absurd (show("Shifted":Str)="Motif" from hc) (by decide+kernel)
  |mir p=>exact absurd (show("Mirror":Str)="Motif" from hc) (by decide+kernel)
  |tur p=>exact absurd (show("Turn":Str)="Motif" from hc) (by decide+kernel)
  |hue f g p=>exact absurd (show("Rehue":Str)="Motif" from hc) (by decide+kernel)
  |mot L a b c d=>
   obtain⟨sh,hu,rfl,h0,h1⟩:=hv
   obtain⟨hL,ha,hb,Ib,f_,hn⟩:=e8
   obtain⟨w,h,s,F,rfl,rfl⟩:=h1 hn
   unfold B12 at ha hb Ib f_
   obtain⟨b1,b2,b3⟩:=F.bd (N:=288) (by
    have m1:=bB (a:=a) (d:=d) (A:=12) (B:=12) (by lia) (by lia)
    have m2:=bB (a:=b) (d:=c) (A:=12) (B:=12) (by lia) (by lia)
    lia)
   refine⟨_,⟨rfl,rfl⟩,_,BK,_,⟨rfl,rfl⟩,_,kr,w,h,s,X,Y,rfl,F.1,F.2.1,by lia,F.2.2.1,by lia,?_⟩
   have e:=motif_shows hL F hn X Y
   rw[Pat.show] at hR
   rw[<- e] at hR
   exact hR
theorem D2{n j:Nat}(hL:1<=n)(T:V.Tm "Over" "shows" "Over.shows" ir iu)(uS:V.a "Over" "above")(uN:V.a "Over" "below")(uF:∀ x,x∈(["Motif","Over","Shifted","Mirror","Turn","Rehue"]:List Str)->V.Q n x "shows" cA (ofX (bY j x))):V.Q (n+1) "Over" "shows" iu (ofX (bY (j+1) "Over")):=by
 refine Txm.okM T sc_Over_shows (λds M R RX h=>?_) (λf cdv A outer s H E J hr hx=>⟨_,((aB (bf 3 sc_Over_shows.nd (bb (hn:=by omega) uF hx hr (aL uS (am (aa 0))) (aD (ac (aa 1) (ac (aa 2) af)))))
   (aE (aM (fK (cm (bq (aa 3) ad)) (bb (hn:=by omega) uF hx hr (aL uN (am (aa 0))) (aD (ac (aa 1) (ac (aa 2) af)))) (am (aa 3))))))),λds M R RX b7 h=>?_⟩)
 ·obtain⟨_,_,_,_,_,rfl,_⟩:=h;rfl
 ·obtain⟨p,k,v,X,Y,rfl,hv,e8,hd,hc,hR⟩:=h
  cases p with
  |mot L a b c d=>exact absurd (show("Motif":Str)="Over" from hc) (by decide+kernel)
  |sh a b p=>exact absurd (show("Shifted":Str)="Over" from hc) (by decide+kernel)
  |mir p=>exact absurd (show("Mirror":Str)="Over" from hc) (by decide+kernel)
  |tur p=>exact absurd (show("Turn":Str)="Over" from hc) (by decide+kernel)
  |hue f g p=>exact absurd (show("Rehue":Str)="Over" from hc) (by decide+kernel)
  |over p q=>
   obtain⟨u,u',rfl,hu,Ks⟩:=hv
   obtain⟨fs,rfl,_,hf⟩:=hu.objm
   obtain⟨gs,rfl,_,hg⟩:=Ks.objm
   rw[Pat.depth] at hd
   refine⟨λd M'=>d= .int (p.show X Y)/\M'=M,⟨_,⟨rfl,rfl⟩,_,rfl,p.cls,p.cls_mem,fs,⟨rfl,rfl⟩,hf,p,_,_,X,Y,rfl,hu,e8.1,by lia,rfl,rfl,rfl⟩,?_⟩
   rintro _ _ ⟨rfl,rfl⟩;k_places
   rw[Pat.show] at hR
   show if decide (p.show X Y=0)=true then _ else _
   refine ite2 (λe=>?_) (λe=>?_)
   ·have e':=of_decide_eq_true e
    rw[if_neg (λz=>z e')] at hR
    exact⟨_,⟨rfl,rfl⟩,_,fb (by decide+kernel),q.cls,q.cls_mem,gs,⟨rfl,rfl⟩,hg,q,_,_,X,Y,rfl,Ks,e8.2,by lia,rfl,hR⟩
   ·have e':p.show X Y≠0:=λz=>e (decide_eq_true z)
    rw[if_pos e'] at hR
    exact hR
theorem D3{n j:Nat}(hL:1<=n)(T:V.Tm "Shifted" "shows" "Shifted.shows" iv iw)(uR:V.a "Shifted" "form")(Im:V.a "Shifted" "y")(Il:V.a "Shifted" "x")(uF:∀ x,x∈(["Motif","Over","Shifted","Mirror","Turn","Rehue"]:List Str)->V.Q n x "shows" cA (ofX (bY j x))):V.Q (n+1) "Shifted" "shows" iw (ofX (bY (j+1) "Shifted")):=by
 refine Txm.okM T CL (λds M R RX h=>?_) (λf cdv A outer s H E J hr hx=>⟨_,((aE (aM (bb (hn:=by omega) uF hx hr (aL uR (am (aa 0))) (aT (jP (am (aa 1)) (aL Il (am (aa 0)))) (aT (jP (am (aa 2)) (aL Im (am (aa 0)))) br)))))),λds M R RX b7 h=>?_⟩)
 ·obtain⟨_,_,_,_,_,rfl,_⟩:=h;rfl
 ·obtain⟨p,k,v,X,Y,rfl,hv,e8,hd,hc,hR⟩:=h
  cases p with
  |mot L a b c d=>exact absurd (show("Motif":Str)="Shifted" from hc) (by decide+kernel)
  |over p q=>exact absurd (show("Over":Str)="Shifted" from hc) (by decide+kernel)
  |mir p=>exact absurd (show("Mirror":Str)="Shifted" from hc) (by decide+kernel)
  |tur p=>exact absurd (show("Turn":Str)="Shifted" from hc) (by decide+kernel)
  |hue f g p=>exact absurd (show("Rehue":Str)="Shifted" from hc) (by decide+kernel)
  |sh a b p=>
   obtain⟨u,rfl,hu⟩:=hv
   obtain⟨fs,rfl,_,hf⟩:=hu.objm
   rw[Pat.depth] at hd
   exact⟨_,⟨rfl,rfl⟩,_,rfl,p.cls,p.cls_mem,fs,⟨rfl,rfl⟩,hf,_,⟨rfl,rfl⟩,_,fb (by decide+kernel),_,⟨rfl,rfl⟩,_,ku (by decide+kernel) (by decide+kernel),p,_,_,X - a,Y - b,rfl,hu,e8.2.2,by lia,rfl,hR⟩
theorem D4{n j:Nat}(hL:1<=n)(T:V.Tm "Mirror" "shows" "Mirror.shows" iy iz)(uQ:V.a "Mirror" "form")(uF:∀ x,x∈(["Motif","Over","Shifted","Mirror","Turn","Rehue"]:List Str)->V.Q n x "shows" cA (ofX (bY j x))):V.Q (n+1) "Mirror" "shows" iz (ofX (bY (j+1) "Mirror")):=by
 refine Txm.okM T CM (λds M R RX h=>?_) (λf cdv A outer s H E J hr hx=>⟨_,((aE (aM (bb (hn:=by omega) uF hx hr (aL uQ (am (aa 0))) (aD (ac (cu (aa 1)) (ac (aa 2) af))))))),λds M R RX b7 h=>?_⟩)
 ·obtain⟨_,_,_,_,_,rfl,_⟩:=h;rfl
 ·obtain⟨p,k,v,X,Y,rfl,hv,e8,hd,hc,hR⟩:=h
  cases p with
  |mot L a b c d=>exact absurd (show("Motif":Str)="Mirror" from hc) (by decide+kernel)
  |over p q=>exact absurd (show("Over":Str)="Mirror" from hc) (by decide+kernel)
  |sh a b p=>exact absurd (show("Shifted":Str)="Mirror" from hc) (by decide+kernel)
  |tur p=>exact absurd (show("Turn":Str)="Mirror" from hc) (by decide+kernel)
  |hue f g p=>exact absurd (show("Rehue":Str)="Mirror" from hc) (by decide+kernel)
  |mir p=>
   obtain⟨u,rfl,hu⟩:=hv
   obtain⟨fs,rfl,_,hf⟩:=hu.objm
   rw[Pat.depth] at hd
   exact⟨_,⟨rfl,rfl⟩,_,rfl,p.cls,p.cls_mem,fs,⟨rfl,rfl⟩,hf,p,_,_,-X,Y,rfl,hu,e8,by lia,rfl,hR⟩
theorem D5{n j:Nat}(hL:1<=n)(T:V.Tm "Turn" "shows" "Turn.shows" iA iB)(uO:V.a "Turn" "form")(uF:∀ x,x∈(["Motif","Over","Shifted","Mirror","Turn","Rehue"]:List Str)->V.Q n x "shows" cA (ofX (bY j x))):V.Q (n+1) "Turn" "shows" iB (ofX (bY (j+1) "Turn")):=by
 refine Txm.okM T CN (λds M R RX h=>?_) (λf cdv A outer s H E J hr hx=>⟨_,((aE (aM (bb (hn:=by omega) uF hx hr (aL uO (am (aa 0))) (aD (ac (aa 2) (ac (cu (aa 1)) af))))))),λds M R RX b7 h=>?_⟩)
 ·obtain⟨_,_,_,_,_,rfl,_⟩:=h;rfl
 ·obtain⟨p,k,v,X,Y,rfl,hv,e8,hd,hc,hR⟩:=h
  cases p with
  |mot L a b c d=>exact absurd (show("Motif":Str)="Turn" from hc) (by decide+kernel)
  |over p q=>exact absurd (show("Over":Str)="Turn" from hc) (by decide+kernel)
  |sh a b p=>exact absurd (show("Shifted":Str)="Turn" from hc) (by decide+kernel)
  |mir p=>exact absurd (show("Mirror":Str)="Turn" from hc) (by decide+kernel)
  |hue f g p=>exact absurd (show("Rehue":Str)="Turn" from hc) (by decide+kernel)
  |tur p=>
   obtain⟨u,rfl,hu⟩:=hv
   obtain⟨fs,rfl,_,hf⟩:=hu.objm
   rw[Pat.depth] at hd
   exact⟨_,⟨rfl,rfl⟩,_,rfl,p.cls,p.cls_mem,fs,⟨rfl,rfl⟩,hf,p,_,_,Y,-X,rfl,hu,e8,by lia,rfl,hR⟩
theorem D6{n j:Nat}(hL:1<=n)(T:V.Tm "Rehue" "shows" "Rehue.shows" iC iD)(uP:V.a "Rehue" "form")(Io:V.a "Rehue" "old")(Ip:V.a "Rehue" "new")(uF:∀ x,x∈(["Motif","Over","Shifted","Mirror","Turn","Rehue"]:List Str)->V.Q n x "shows" cA (ofX (bY j x))):V.Q (n+1) "Rehue" "shows" iD (ofX (bY (j+1) "Rehue")):=by
 refine Txm.okM T sc_Rehue_shows (λds M R RX h=>?_) (λf cdv A outer s H E J hr hx=>⟨_,((aB (bf 3 sc_Rehue_shows.nd (bb (hn:=by omega) uF hx hr (aL uP (am (aa 0))) (aD (ac (aa 1) (ac (aa 2) af)))))
   (aE (aM (fK (gO (am (aa 3)) (aL Io (am (aa 0)))) (aL Ip (am (aa 0))) (am (aa 3))))))),λds M R RX b7 h=>?_⟩)
 ·obtain⟨_,_,_,_,_,rfl,_⟩:=h;rfl
 ·obtain⟨p,k,v,X,Y,rfl,hv,e8,hd,hc,hR⟩:=h
  cases p with
  |mot L a b c d=>exact absurd (show("Motif":Str)="Rehue" from hc) (by decide+kernel)
  |over p q=>exact absurd (show("Over":Str)="Rehue" from hc) (by decide+kernel)
  |sh a b p=>exact absurd (show("Shifted":Str)="Rehue" from hc) (by decide+kernel)
  |mir p=>exact absurd (show("Mirror":Str)="Rehue" from hc) (by decide+kernel)
  |tur p=>exact absurd (show("Turn":Str)="Rehue" from hc) (by decide+kernel)
  |hue f g p=>
   obtain⟨u,rfl,hu⟩:=hv
   obtain⟨fs,rfl,_,hf⟩:=hu.objm
   rw[Pat.depth] at hd
   refine⟨λd M'=>d= .int (p.show X Y)/\M'=M,⟨_,⟨rfl,rfl⟩,_,rfl,p.cls,p.cls_mem,fs,⟨rfl,rfl⟩,hf,p,_,_,X,Y,rfl,hu,e8.2.2,by lia,rfl,rfl,rfl⟩,?_⟩
   rintro _ _ ⟨rfl,rfl⟩;k_places
   rw[Pat.show] at hR
   unfold bD at hR
   refine⟨_,⟨rfl,rfl⟩,_,fb (by decide+kernel),ite2 (λe=>?_) (λe=>?_)⟩
   ·rw[if_pos (of_decide_eq_true e)] at hR
    exact⟨_,⟨rfl,rfl⟩,_,ku (by decide+kernel) (by decide+kernel),hR⟩
   ·rw[if_neg (λz=>e (decide_eq_true z))] at hR
    exact hR
theorem D7(Of:V.Tm "Motif" "shows" "Motif.shows" iq cA)(Og:V.Tm "Over" "shows" "Over.shows" ir iu)(Oh:V.Tm "Shifted" "shows" "Shifted.shows" iv iw)(Oi:V.Tm "Mirror" "shows" "Mirror.shows" iy iz)(Oj:V.Tm "Turn" "shows" "Turn.shows" iA iB)(Ol:V.Tm "Rehue" "shows" "Rehue.shows" iC iD)(uT:fo V)(Ik:V.a "Motif" "hues")(uJ:V.a "Motif" "shifts")(uS:V.a "Over" "above")(uN:V.a "Over" "below")(uR:V.a "Shifted" "form")(Im:V.a "Shifted" "y")(Il:V.a "Shifted" "x")(uQ:V.a "Mirror" "form")(uO:V.a "Turn" "form")(uP:V.a "Rehue" "form")(Io:V.a "Rehue" "old")(Ip:V.a "Rehue" "new"):∀ j x,x∈(["Motif","Over","Shifted","Mirror","Turn","Rehue"]:List Str)->V.Q (1+j) x "shows" cA (ofX (bY j x)):=by
 intro j
 induction j with
 |zero=>
  intro x hx
  simp only[EO,FO,or_false] at hx
  rcases hx with rfl|rfl|rfl|rfl|rfl|rfl
  ·exact CalMth.never Of (λds M R RX=>fj)
  ·exact CalMth.never Og (λds M R RX=>fj)
  ·exact CalMth.never Oh (λds M R RX=>fj)
  ·exact CalMth.never Oi (λds M R RX=>fj)
  ·exact CalMth.never Oj (λds M R RX=>fj)
  ·exact CalMth.never Ol (λds M R RX=>fj)
 |succ j Kx=>
  intro x hx
  simp only[EO,FO,or_false] at hx
  rcases hx with rfl|rfl|rfl|rfl|rfl|rfl
  ·exact ok_Motif_shows (n:=1+j) (j:=j) (by omega) Of uT Ik uJ
  ·exact D2 (n:=1+j) (j:=j) (by omega) Og uS uN Kx
  ·exact D3 (n:=1+j) (j:=j) (by omega) Oh uR Im Il Kx
  ·exact D4 (n:=1+j) (j:=j) (by omega) Oi uQ Kx
  ·exact D5 (n:=1+j) (j:=j) (by omega) Oj uO Kx
  ·exact D6 (n:=1+j) (j:=j) (by omega) Ol uP Io Ip Kx
abbrev ui(V:Bx):Prop:=∀ x,x∈(["Motif","Over","Shifted","Mirror","Turn","Rehue"]:List Str)->V.Q 7 x "shows" cA (ofX (bY 6 x))
abbrev jh(V:Bx):Prop:=V.X 8 "cell_at" mY BV
theorem D8(T:V.T "cell_at" mW mY)(M9:oI V)(Jq:V.a "Pattern" "form")(uF:ui V):jh V:=by
 refine CalMM.nilX (Tx.okM T CO (λds M R RX h=>?_) (λf cdv A outer s H E J hr hx=>⟨_,((aB (cx (bc (CalX.toM M9) hx hr (aD (ac (aa 1) (ac (aa 2) af)))))
   (aE (aM (bb uF hx hr (aL Jq (am (aa 0))) (aD (ac (aa 1) (ac (aa 2) af)))))))),λds M R RX b7 h=>?_⟩))
 ·obtain⟨_,R0,A_,⟨_,_,_,_,rfl,_⟩,_⟩:=h;rfl
 ·obtain⟨rfl,R0,A_,⟨p,d,x,y,rfl,⟨w,h,s,fs,rfl,e1,e2,hp⟩,ok,h1,h2⟩,hR,hX⟩:=h
  obtain⟨k,v,e3,hv⟩:=hp.form
  obtain⟨gs,rfl,_,hg⟩:=hv.objm
  have Qv:=ok.deep
  refine⟨x,y,rfl,λhn=>?_,λhn=>?_⟩
  ·exact⟨_,⟨rfl,rfl⟩,_,e3,p.cls,p.cls_mem,gs,⟨rfl,rfl⟩,hg,p,k,_,x,y,rfl,hv,ok.wf,by lia,rfl,hR _ _ (h1 hn)⟩
  ·rw[b7]
   exact hX _ _ _ (h2 hn)
abbrev ji(V:Bx):Prop:=V.D 9 "row_from" mZ BW
theorem D9(T:V.T "row_from" iE mZ)(uA:V.m "range")(IV:jh V)(uV:V.gs "SIGNS" ".123456"):ji V:=by
 refine Tx.okDW T CP (λds R h=>?_) (λf cdv A outer s H E J hr=>⟨_,((aj (au (jH (gG rfl (compScope (by change cv _ (ag iE) ["pattern","x","y","many"] _=true;decide+kernel)) uA (aa 3) (λcl s0 H0 fp=>(ae (gH uV) (ar (CalX.no IV) hr (ac (aa 0) (ac (ao (aa 1) (aa 4)) (ac (aa 2) af))))))))))),λds R h=>?_⟩)
 ·obtain⟨_,_,_,_,_,rfl,_⟩:=h;rfl
 ·obtain⟨p,d,x,y,n,rfl,hd,ok,hn,PU,JQ,hy,hR⟩:=h
  obtain⟨w,h,s,fs,rfl,_⟩:=id hd
  refine⟨⟨by lia,by lia⟩,by rw[bx];lia,λk ys=>ys=(EN k).map λ(i:Nat)=>D.str ⟨#[bE (p.show (x+(i:Int)) y)]⟩,rfl,?_,?_⟩
  ·rintro k v ys hk hl rfl
   obtain⟨p_,rfl⟩:=bN hk
   obtain⟨b0,b6⟩:=Pat.show_le ok.wf (by have:=ok.deep;lia) (x+(k:Int)) y
   unfold bu at PU JQ
   refine⟨p,.obj "Pattern" fs,x+(k:Int),y,rfl,hd,ok,λ_=>?_,λz=>z ⟨⟨by lia,by lia⟩,hy⟩⟩
   refine⟨_,⟨by decide,tK b0 b6⟩,?_⟩
   show _=F5 _ (EN (k+1))
   rw[F7,Fl];rfl
  ·rintro ys hl rfl
   rw[bx,HY]
   have e1:((EN n).map λ(i:Nat)=>D.str ⟨#[bE (p.show (x+(i:Int)) y)]⟩)=((EN n).map λ(i:Nat)=>(⟨#[bE (p.show (x+(i:Int)) y)]⟩:Str)).map D.str:=by rw[GA];rfl
   rw[e1]
   refine⟨_,gS _,?_,?_⟩
   ·have e2:(((EN n).map λ(i:Nat)=>(⟨#[bE (p.show (x+(i:Int)) y)]⟩:Str)).map (·.length)).sum=n*1:=by
     rw[jZ (w:=1) (λl hl=>by obtain⟨i,_,rfl⟩:=Fh.mp hl;rfl),EU,Ga]
    rw[e2,show("":Str).length=0 from rfl]
    simp
    lia
   ·rw[show Txt.join "" ((EN n).map λ(i:Nat)=>(⟨#[bE (p.show (x+(i:Int)) y)]⟩:Str))=az p x y n from(StrLaws.glued_eq_join _ _).trans (tM (λi=>bE (p.show (x+(i:Int)) y)) n)]
    exact hR
abbrev oJ(V:Bx):Prop:=V.D 10 "field_rows" ng B2
theorem Ea(T:V.T "field_rows" iF ng)(uA:V.m "range")(Jt:ji V)(uU:V.a "Pattern" "shifts"):oJ V:=by
 refine Tx.okDW T CQ (λds R h=>?_) (λf cdv A outer s H E J hr=>⟨_,((aj (au (gG rfl (compScope (by change cv _ (ag iF) ["pattern"] _=true;decide+kernel)) uA (ae (jL uU (aa 0)) ad) (λcl s0 H0 fp=>(ar Jt hr (ac (aa 0) (ac ad (ac (aa 1) (ac (ae (jL uU (aa 0)) ad) af)))))))))),λds R h=>?_⟩)
 ·obtain⟨_,_,rfl,_⟩:=h;rfl
 ·obtain⟨p,d,rfl,hd,ok,hR⟩:=h
  obtain⟨w,h,s,fs,rfl,e1,e2,hp⟩:=id hd
  have F:=hp.toFam
  have sm:=ok.fits.small F
  have wh:w*h<=720:=by
   obtain⟨w',h',s',f',hb⟩:=ok.fits
   obtain⟨rfl,rfl,_⟩:=F.uniq f'
   exact hb
  refine⟨rfl,_,e2,_,rfl,⟨by lia,by lia⟩,by rw[bx];lia,λk ys=>ys=(EN k).map λ(y:Nat)=>D.str (az p 0 (y:Int) w.toNat),rfl,?_,?_⟩
  ·rintro k v ys hk hl rfl
   obtain⟨p_,rfl⟩:=bN hk
   refine⟨rfl,_,e2,_,rfl,p,.obj "Pattern" fs,0,k,w.toNat,by rw[Fk (by lia)],hd,ok,by lia,⟨by lia,by lia⟩,⟨by lia,by lia⟩,⟨by lia,by lia⟩,?_⟩
   show _=F5 _ (EN (k+1))
   rw[F7,Fl];rfl
  ·rintro ys hl rfl
   rw[bx]
   exact hR w h s F wh sm.2.1 sm.2.2.2.1
abbrev C_measures(V:Bx):Prop:=V.D 1 "measures" nh B5
theorem Eb(T:V.T "measures" iG nh)(uA:V.m "range"):C_measures V:=by
 refine Tx.okDW T CS (λds R h=>?_) (λf cdv A outer s H E J hr=>⟨_,((aj (au (zX rfl (compScope (by change cv _ (ag iG) ["number"] _=true;decide+kernel)) uA ad (ao (aa 0) ad) (λcl s0 H0 fp=>(bq (aw (aa 0) (aa 1)) ad)) (λcl s0 H0 fp=>(aa 1)))))),λds R h=>?_⟩)
 ·obtain⟨_,rfl,_⟩:=h;rfl
 ·obtain⟨n,rfl,n0,n1,hR⟩:=h
  refine⟨⟨by lia,by lia,by lia,by lia⟩,by simp;lia,λk ys=>∃ ns:List Int,ys=ns.map D.int/\ns.length<=k/\∀ m,m∈ns↔1<=m/\m<=k/\n % m=0,⟨[],rfl,EL _,λm=>by simp;lia⟩,?_,?_⟩
  ·rintro k v ys hk ⟨ns,rfl,hl,hm⟩;k_places
   obtain⟨p_,rfl⟩:=range2_int hk
   refine⟨by lia,?_⟩
   refine okF (λc=>?_) (λc=>?_)
   ·have c':=of_decide_eq_true c
    refine⟨ns++[1+(k:Int)],by simp,by simp;lia,λm=>?_⟩
    rw[Ff,hm,EM]
    constructor
    ·rintro(q|rfl)
     ·lia
     ·exact⟨by lia,by lia,c'⟩
    ·rintro⟨a,b,c⟩
     by_cases e:m=1+(k:Int)
     ·exact .inr e
     ·exact .inl ⟨a,by lia,c⟩
   ·have c':=of_decide_eq_false c
    refine⟨ns,rfl,by lia,λm=>?_⟩
    rw[hm]
    constructor
    ·rintro⟨a,b,c⟩;exact⟨a,by lia,c⟩
    ·rintro⟨a,b,c⟩
     refine⟨a,?_,c⟩
     by_cases e:m=1+(k:Int)
     ·subst e;exact absurd c c'
     ·lia
  ·rintro ys ⟨ns,rfl,hl,hm⟩;k_places
   have e:((EN (n+1 - 1).toNat).map λk=>D.int (1+((k:Nat):Int))).length=n.toNat:=by simp
   rw[e] at hl hm
   exact hR ns (by lia) λm=>by rw[hm];lia
abbrev oK(V:Bx):Prop:=V.D 2 "round_row" nq B3
theorem Ec(T:V.T "round_row" nj nq)(uT:fo V):oK V:=by
 refine Tx.okDW T sc_round_row (λds R h=>?_) (λf cdv A outer s H E J hr=>⟨_,((ah (ai 4 sc_round_row.nd (ar uT hr (ac (aa 0) (ac (aa 2) (ac (aa 3) af)))))
   (ah (ai 5 sc_round_row.nd (ae (aa 1) (ae (aa 4) ad)))
   (aj (au (ao (fJ (aa 5) (fH (ae (aa 4) ad)) fG) (fJ (aa 5) fG (fH (ae (aa 4) ad))))))))),λds R h=>?_⟩)
 ·obtain⟨_,_,_,_,_,_,rfl,_⟩:=h;rfl
 ·obtain⟨p,w,h,s,x,y,rfl,F,w7,h7,hR⟩:=h
  have f:=F.f
  have y0:=Ft y (show h≠0 by have:=f.h0;lia)
  have y1:=Fu y f.h0
  refine⟨λd=>d= .tup [.int (hmX w h s x y),.int (y % h)],⟨w,h,s,x,y,rfl,f.w0,f.h0,by lia,f.s0,by have:=f.sw;lia,rfl⟩,?_⟩
  rintro _ rfl;k_places
  refine⟨λd=>d= .str (az p 0 (y % h) w.toNat),⟨_,rfl,_,?_,rfl⟩,?_⟩
  ·have e:y % h=(((y % h).toNat:Nat):Int):=by lia
   rw[e]
   exact ce (by rw[E3,FF (by lia)];simp)
  rintro _ rfl;k_places
  have l:=tJ p 0 (y % h) w.toNat
  refine⟨_,rfl,by lia,_,rfl,by lia,?_⟩
  have e:=tV f.w0 f.h0 (λ_ _ q=>F.keeps q) x y
  refine⟨?_,?_⟩
  ·rw[<- bL,<- bL,<- EW,<- bC,e,dh];simp;lia
  ·rw[e];exact hR
abbrev jj(V:Bx):Prop:=V.D 3 "changes_nothing" nu B6
theorem Ed(T:V.T "changes_nothing" nt nu)(IS:V.m "enumerate")(M_:oK V):jj V:=by
 refine Tx.okDW T sc_changes_nothing (λds R h=>?_) (λf cdv A outer s H E J hr=>⟨_,((ah (Ae PassesOwn.never rfl IS (aa 1) (dg_cons 4 sc_changes_nothing.nd (dg_cons 5 sc_changes_nothing.nd eI)) (aj (aZ (bZ (ar M_ hr (ac (aa 0) (ac (aa 1) (ac (aa 2) (ac (ao (aa 3) (aa 4)) af))))) (aa 5)) (aj (au cf)) aQ)))
   (aj (au cf)))),λds R h=>?_⟩)
 ·obtain⟨_,_,_,_,_,_,rfl,_⟩:=h;rfl
 ·obtain⟨p,w,h,s,x,y,rfl,ok,F,w7,h7,hR⟩:=h
  have e0:∀ k:Nat,k<h.toNat->((EN h.toNat).map λ(y:Nat)=>D.str (az p 0 (y:Int) w.toNat))[k]?=some (.str (az p 0 (k:Int) w.toNat)):=λk hk=>by simp[hk]
  refine⟨λk z=>∃ o1 o2,z=[some (.tup [.int w,.int h,.int s]),some (aR p w h),some (.int x),some (.int y),o1,o2]/\∀ j:Nat,j<k->az p x (y+j) w.toNat=az p 0 j w.toNat,⟨_,_,rfl,λj hj=>absurd hj (Gk j)⟩,?_,?_⟩
  ·rintro k v z hk ⟨o1,o2,rfl,hj⟩;k_places
   have p_:k<h.toNat:=by simpa using(E7.mp hk).1
   rw[e0 k p_] at hk
   cases hk
   refine⟨p,w,h,s,x,y+k,rfl,F,w7,h7,ite2 (λc=>?_) (λc=>?_)⟩
   ·refine hR false ?_
    have c':¬ az p x (y+k) w.toNat=az p 0 k w.toNat:=λz=>by simp[z] at c
    rw[<- gY ok F]
    exact⟨(λz=>nomatch z),λz=>absurd (z k p_) c'⟩
   ·have c':az p x (y+k) w.toNat=az p 0 k w.toNat:=by simpa using c
    refine⟨_,_,rfl,λj Mw=>?_⟩
    by_cases e:j=k
    ·subst e;exact c'
    ·exact hj j (by lia)
  ·rintro z ⟨o1,o2,rfl,hj⟩;k_places
   rw[show((EN h.toNat).map λ(y:Nat)=>D.str (az p 0 (y:Int) w.toNat)).length=h.toNat by simp] at hj
   exact hR true ((gY ok F x y).mp hj|>λz=>⟨λ_=>z,λ_=>rfl⟩)
abbrev oM(V:Bx):Prop:=V.D 4 "least_width" nv B7
theorem Ee(T:V.T "least_width" iH nv)(Ju:V.m "min")(Jv:C_measures V)(Jw:jj V):oM V:=by
 refine Tx.okDW T CT (λds R h=>?_) (λf cdv A outer s H E J hr=>⟨_,((aj (au (sj rfl Ju (ac (si rfl (compScope (by change cv _ (ag iH) ["family","rows"] _=true;decide+kernel)) (ar Jv hr (ac (ae (aa 0) ad) af)) (λcl s0 H0 fp=>(bH (ar Jw hr (ac (aa 0) (ac (aa 1) (ac (aa 2) (ac ad af))))))) (λcl s0 H0 fp=>(aa 2))) af))))),λds R h=>?_⟩)
 ·obtain⟨_,_,_,_,rfl,_⟩:=h;rfl
 ·obtain⟨p,w,h,s,rfl,ok,F,w7,h7,hR⟩:=h
  have w0:=F.f.w0
  refine⟨_,rfl,w,rfl,w0,by lia,λns hl hm=>⟨by simp;lia,λk ys=>∃ ms:List Int,ys=ms.map D.int/\∀ m,m∈ms↔(∃ j:Nat,j<k/\ns[j]?=some m)/\p.Keeps m 0,⟨[],rfl,λm=>by simp⟩,?_,?_⟩⟩
  ·rintro k v ys hk ⟨ms,rfl,v7⟩;k_places
   obtain⟨m,em,rfl⟩:∃ m,ns[k]?=some m/\v= .int m:=by
    rw[E3] at hk
    cases q:ns[k]? with
    |none=>rw[q] at hk;cases hk
    |some m=>rw[q] at hk;cases hk;exact⟨m,rfl,rfl⟩
   refine⟨p,w,h,s,m,0,rfl,ok,F,w7,h7,λb hb=>okF (λc=>?_) (λc=>?_)⟩
   ·refine⟨ms++[m],by simp,λm'=>?_⟩
    rw[Ff,v7,EM]
    constructor
    ·rintro(⟨⟨j,h1,h2⟩,h3⟩|rfl)
     ·exact⟨⟨j,by lia,h2⟩,h3⟩
     ·exact⟨⟨k,by lia,em⟩,hb.mp c⟩
    ·rintro⟨⟨j,h1,h2⟩,h3⟩
     by_cases e:j=k
     ·subst e;rw[em] at h2;cases h2;exact .inr rfl
     ·exact .inl ⟨⟨j,by lia,h2⟩,h3⟩
   ·refine⟨ms,rfl,λm'=>?_⟩
    rw[v7]
    constructor
    ·rintro⟨⟨j,h1,h2⟩,h3⟩;exact⟨⟨j,by lia,h2⟩,h3⟩
    ·rintro⟨⟨j,h1,h2⟩,h3⟩
     by_cases e:j=k
     ·subst e;rw[em] at h2;cases h2
      rw[hb.mpr h3] at c;cases c
     ·exact⟨⟨j,by lia,h2⟩,h3⟩
  ·rintro ys ⟨ms,rfl,v7⟩;k_places
   rw[EU] at v7
   have o9:∀ m,m∈ms↔(1<=m/\m<=w/\w % m=0)/\p.Keeps m 0:=λm=>by
    rw[v7,<- hm,H4]
    constructor
    ·rintro⟨⟨j,_,h2⟩,h3⟩;exact⟨⟨j,h2⟩,h3⟩
    ·rintro⟨⟨j,h2⟩,h3⟩;exact⟨⟨j,(E7.mp h2).1,h2⟩,h3⟩
   have hw:w∈ms:=(o9 w).mpr ⟨⟨by lia,by lia,Int.emod_self⟩,F.keeps (InF.one w h s)⟩
   refine⟨ms,rfl,H8 hw,λm Na v4=>hR m ?_⟩
   obtain⟨⟨a,b,c⟩,d⟩:=(o9 m).mp Na
   exact⟨a,b,c,d,λd' h1 h2 h3 h4=>v4 d' ((o9 d').mpr ⟨⟨h1,h2,h3⟩,h4⟩)⟩
abbrev oN(V:Bx):Prop:=V.D 4 "slant_at" ny B8
theorem Ef(T:V.T "slant_at" nw ny)(uA:V.m "range")(Jw:jj V):oN V:=by
 refine Tx.okDW T sc_slant_at (λds R h=>?_) (λf cdv A outer s H E J hr=>⟨_,((ah (bT 4 PassesOwn.never rfl sc_slant_at.nd uA (aa 2) (aj (aZ (bH (ar Jw hr (ac (aa 0) (ac (aa 1) (ac (aa 4) (ac (aa 3) af)))))) (aj (au (aa 4))) aQ)))
   (aj (au cr)))),λds R h=>?_⟩)
 ·obtain⟨_,_,_,_,_,_,rfl,_⟩:=h;rfl
 ·obtain⟨p,w,h,s,m,y,rfl,ok,F,w7,h7,m0,m7,hR,hN⟩:=h
  refine⟨⟨by lia,by lia⟩,λk z=>∃ o1,z=[some (.tup [.int w,.int h,.int s]),some (aR p w h),some (.int m),some (.int y),o1]/\∀ u,0<=u->u<(k:Int)->¬ p.Keeps u y,⟨_,rfl,λu a b=>by lia⟩,?_,?_⟩
  ·rintro k v z hk ⟨o1,rfl,hj⟩;k_places
   obtain⟨p_,rfl⟩:=bN hk
   refine⟨p,w,h,s,k,y,rfl,ok,F,w7,h7,λb hb=>ite2 (λc=>?_) (λc=>?_)⟩
   ·exact hR k (by lia) (by lia) (hb.mp c) hj
   ·refine⟨_,rfl,λu a b'=>?_⟩
    by_cases e:u=k
    ·subst e;exact λz=>c (hb.mpr z)
    ·exact hj u a (by lia)
  ·rintro z ⟨o1,rfl,hj⟩;k_places
   rw[bx] at hj
   exact hN λt a b=>hj t a (by lia)
abbrev jk(V:Bx):Prop:=V.D 11 "least_shifts" nz Ca
theorem Eg(T:V.T "least_shifts" iI nz)(Ju:V.m "min")(Nb:oJ V)(Nc:oM V)(Jv:C_measures V)(K6:oN V)(uU:V.a "Pattern" "shifts"):jk V:=by
 refine Tx.okDW T sc_least_shifts (λds R h=>?_) (λf cdv A outer s H E J hr=>⟨_,((ah (ai 1 sc_least_shifts.nd (jL uU (aa 0)))
   (ah (ai 2 sc_least_shifts.nd (ar Nb hr (ac (aa 0) af)))
   (ah (ai 3 sc_least_shifts.nd (ar Nc hr (ac (aa 1) (ac (aa 2) af))))
   (ah (ai 4 sc_least_shifts.nd (sj rfl Ju (ac (si rfl (compScope (by change cv _ (ag iI) ["pattern","family","rows","width","height"] _=true;decide+kernel)) (ar Jv hr (ac (ae (aa 1) ad) af)) (λcl s0 H0 fp=>(xI (ar K6 hr (ac (aa 1) (ac (aa 2) (ac (aa 3) (ac (aa 5) af))))) cr)) (λcl s0 H0 fp=>(aa 5))) af)))
   (aj (au (aG (ac (aa 3) (ac (aa 4) (ac (ar K6 hr (ac (aa 1) (ac (aa 2) (ac (aa 3) (ac (aa 4) af))))) af))))))))))),λds R h=>?_⟩)
 ·obtain⟨_,_,rfl,_⟩:=h;rfl
 ·obtain⟨p,d,rfl,hd,ok,hR⟩:=h
  obtain⟨w,h,s,fs,rfl,e1,e2,hp⟩:=id hd
  have F:=hp.toFam
  have sm:=ok.fits.small F
  refine⟨λd=>d= .tup [.int w,.int h,.int s],⟨rfl,_,e2,rfl⟩,?_⟩
  rintro _ rfl;k_places
  refine⟨λd=>d=aR p w h/\w*h<=720,⟨p,_,rfl,hd,ok,λw' h' s' F' hb _ _=>?_⟩,?_⟩
  ·obtain⟨rfl,rfl,rfl⟩:=F.uniq F'
   exact⟨rfl,hb⟩
  rintro _ ⟨rfl,hb⟩;k_places
  obtain⟨w',h',s',L,d1,d2,MF,Om,IW⟩:=Pat.least_ex F
  have w0:=L.f.w0
  have h0:=L.f.h0
  refine⟨λd=>d= .int w',⟨p,w,h,s,rfl,ok,F,sm.2.1,sm.2.2.2.1,λm lw=>by rw[lw.eq F L]⟩,?_⟩
  rintro _ rfl;k_places
  refine⟨λd=>d= .int h',⟨_,rfl,h,rfl,sm.2.2.1,by lia,λns hl hm=>⟨by simp;lia,λk ys=>∃ ms:List Int,ys=ms.map D.int/\∀ m,m∈ms↔(∃ j:Nat,j<k/\ns[j]?=some m)/\∃ t,p.Keeps t m,⟨[],rfl,λm=>by simp⟩,?_,?_⟩⟩,?_⟩
  ·rintro k v ys hk ⟨ms,rfl,v7⟩;k_places
   obtain⟨m,em,rfl⟩:∃ m,ns[k]?=some m/\v= .int m:=by
    rw[E3] at hk
    cases q:ns[k]? with
    |none=>rw[q] at hk;cases hk
    |some m=>rw[q] at hk;cases hk;exact⟨m,rfl,rfl⟩
   have PV:(∃ t,p.Keeps t m)->∃ zs:List Int,ms.map D.int++[D.int m]=zs.map D.int/\∀ m,m∈zs↔(∃ j:Nat,j<k+1/\ns[j]?=some m)/\∃ t,p.Keeps t m:=λc=>by
    refine⟨ms++[m],by simp,λm'=>?_⟩
    rw[Ff,v7,EM]
    constructor
    ·rintro(⟨⟨j,h1,h2⟩,h3⟩|rfl)
     ·exact⟨⟨j,by lia,h2⟩,h3⟩
     ·exact⟨⟨k,by lia,em⟩,c⟩
    ·rintro⟨⟨j,h1,h2⟩,h3⟩
     by_cases e:j=k
     ·subst e;rw[em] at h2;cases h2;exact .inr rfl
     ·exact .inl ⟨⟨j,by lia,h2⟩,h3⟩
   refine⟨p,w,h,s,w',m,rfl,ok,F,sm.2.1,sm.2.2.2.1,by lia,by lia,λt _ _ kt _=>PV ⟨t,kt⟩,λno=>?_⟩
   show ∃ zs:List Int,ms.map D.int=zs.map D.int/\∀ m,m∈zs↔(∃ j:Nat,j<k+1/\ns[j]?=some m)/\∃ t,p.Keeps t m
   refine⟨ms,rfl,λm'=>?_⟩
   rw[v7]
   constructor
   ·rintro⟨⟨j,h1,h2⟩,h3⟩;exact⟨⟨j,by lia,h2⟩,h3⟩
   ·rintro⟨⟨j,h1,h2⟩,h3⟩
    by_cases e:j=k
    ·subst e;rw[em] at h2;cases h2
     obtain⟨t,kt⟩:=h3
     exact absurd (L.row kt) (no _ (Ft _ (by lia)) (Fu _ w0))
    ·exact⟨⟨j,by lia,h2⟩,h3⟩
  ·rintro ys ⟨ms,rfl,v7⟩;k_places
   rw[EU] at v7
   have o9:∀ m,m∈ms↔(1<=m/\m<=h/\h % m=0)/\∃ t,p.Keeps t m:=λm=>by
    rw[v7,<- hm,H4]
    constructor
    ·rintro⟨⟨j,_,h2⟩,h3⟩;exact⟨⟨j,h2⟩,h3⟩
    ·rintro⟨⟨j,h2⟩,h3⟩;exact⟨⟨j,(E7.mp h2).1,h2⟩,h3⟩
   have hh:h'∈ms:=(o9 h').mpr ⟨⟨by lia,IW,Int.emod_eq_zero_of_dvd d2⟩,s',(L.lat _ _).mp (InF.two _ _ _)⟩
   refine⟨ms,rfl,H8 hh,λm Na v4=>?_⟩
   obtain⟨⟨a,b,c⟩,t,kt⟩:=(o9 m).mp Na
   have h1:=(L.down kt (by lia)).1
   have h2:=v4 h' hh
   show D.int m=D.int h'
   rw[show m=h' by lia]
  rintro _ rfl;k_places
  refine⟨p,w,h,s,w',h',rfl,ok,F,sm.2.1,sm.2.2.2.1,by lia,by lia,λt a b kt _=>⟨by show(3:Nat)<=1000;decide,?_⟩,λno=>absurd ((L.lat _ _).mp (InF.two _ _ _)) (no s' L.f.s0 L.f.sw)⟩
  rw[L.slant a b kt]
  exact hR w' h' s' L (by lia) (by lia) (by lia)
abbrev jl(V:Bx):Prop:=V.D 12 "least_form" nA Cb
theorem Eh(T:V.T "least_form" iJ nA)(uA:V.m "range")(uW:V.m "tuple")(IY:jk V)(Jt:ji V):jl V:=by
 refine Tx.okDW T sc_least_form (λds R h=>?_) (λf cdv A outer s H E J hr=>⟨_,((ah (ai 1 sc_least_form.nd (ar IY hr (ac (aa 0) af)))
   (ah (yr 2 rfl (compScope (by change cv _ (ag iJ) ["pattern","family","rows"] _=true;decide+kernel)) sc_least_form.nd uA (ae (aa 1) ad) (λcl s0 H0 fp=>(ar Jt hr (ac (aa 0) (ac ad (ac (aa 3) (ac (ae (aa 1) ad) af)))))))
   (aj (au (aG (ac (ae (aa 1) ad) (ac (ae (aa 1) ad) (ac (ae (aa 1) ad) (ac (Ab uW (ac (aa 2) af)) af)))))))))),λds R h=>?_⟩)
 ·obtain⟨_,_,rfl,_⟩:=h;rfl
 ·obtain⟨p,d,rfl,hd,ok,hR⟩:=h
  obtain⟨w0,h0,s0,fs,rfl,e1,e2,hp⟩:=id hd
  refine⟨λd=>∃ w h s,d= .tup [.int w,.int h,.int s]/\p.Least w h s/\w*h<=720/\w<=720/\h<=720,⟨p,_,rfl,hd,ok,λw h s L a b c=>⟨w,h,s,rfl,L,a,b,c⟩⟩,?_⟩
  rintro _ ⟨w,h,s,rfl,L,hb,w7,h7⟩;k_places
  have w0:=L.f.w0
  have h0:=L.f.h0
  refine⟨λd=>d=aR p w h,⟨_,rfl,⟨by lia,by lia⟩,by rw[bx];lia,λk ys=>ys=(EN k).map λ(y:Nat)=>D.str (az p 0 (y:Int) w.toNat),rfl,?_,?_⟩,?_⟩
  ·rintro k v ys hk hl rfl
   obtain⟨p_,rfl⟩:=bN hk
   refine⟨_,rfl,p,.obj "Pattern" fs,0,k,w.toNat,by rw[Fk (by lia)],hd,ok,by lia,⟨by lia,by lia⟩,⟨by lia,by lia⟩,⟨by lia,by lia⟩,?_⟩
   show _=F5 _ (EN (k+1))
   rw[F7,Fl];rfl
  ·rintro ys hl rfl
   rw[bx];rfl
  rintro _ rfl;k_places
  exact⟨_,rfl,_,rfl,_,rfl,by show(4:Nat)<=1000;decide,hR w h s L hb w7 h7⟩
def Ei:SpD:=λds R=>∃ (p q:Pat) (d e:D),ds=[d,e]/\aX p d/\aX q e/\p.Ok/\q.Ok/\∀ b:Bool,(b=true↔∀ x y,p.show x y=q.show x y)->R (.bl b)
abbrev oO(V:Bx):Prop:=V.D 13 "one_pattern" nC Ei
theorem Ej(T:V.T "one_pattern" nB nC)(Ir:jl V):oO V:=by
 refine Tx.okDW T CU (λds R h=>?_) (λf cdv A outer s H E J hr=>⟨_,((aj (au (sq (fz hr) (ar Ir hr (ac (aa 0) af)) (ar Ir hr (ac (aa 1) af)))))),λds R h=>?_⟩)
 ·obtain⟨_,_,_,_,rfl,_⟩:=h;rfl
 ·obtain⟨p,q,d,e,rfl,hd,he,i7,c7,hR⟩:=h
  obtain⟨wd,f_,sd,fs,rfl,q1,q2,F_⟩:=hd
  have hd:aX p (.obj "Pattern" fs):=⟨wd,f_,sd,fs,rfl,q1,q2,F_⟩
  obtain⟨G',p6,G_,m5,rfl,q3,q4,k7⟩:=he
  have he:aX q (.obj "Pattern" m5):=⟨G',p6,G_,m5,rfl,q3,q4,k7⟩
  refine⟨p,_,rfl,hd,i7,λw h s L _ _ _=>⟨q,_,rfl,he,c7,λw' h' s' L' _ _ _=>?_⟩⟩
  rw[ud,ud]
  refine⟨?_,hR _ (ue i7 c7 L L')⟩
  have e2:∀ a b:List Str,sh2 (.tup (a.map D.str)) (.tup (b.map D.str))=true:=λa b=>by
   show(false||(_ && _))=true
   rw[iM,iM]
   rfl
  show(true && (true && (true && (sh2 _ _ && true))))=true
  rw[e2]
  rfl
abbrev oP(V:Bx):Prop:=V.D 1 "_law_keeps" nE Cj
theorem Ek(T:V.T "_law_keeps" nD nE)(uA:V.m "range"):oP V:=by
 refine Tx.okDW T sc__law_keeps (λds R h=>?_) (λf cdv A outer s H E J hr=>⟨_,((ah (bT 4 PassesOwn.never rfl sc__law_keeps.nd uA (ae (aa 1) ad) (ah (ai 5 sc__law_keeps.nd (ae (aa 0) (aw (ao (aa 4) (aa 3)) (ae (aa 1) ad))))
    (ah (ai 6 sc__law_keeps.nd (aw (bn (aa 2) (av (aU (ao (aa 4) (aa 3)) (ae (aa 1) ad)) (ae (aa 1) ad))) (ae (aa 1) ad)))
    (aj (aZ (bZ (ao (fJ (aa 5) (fH (aa 6)) fG) (fJ (aa 5) fG (fH (aa 6)))) (ae (aa 0) (aa 4))) (aj (au cf)) aQ)))))
   (aj (au cf)))),λds R h=>?_⟩)
 ·obtain⟨_,_,_,_,_,_,rfl,_⟩:=h;rfl
 ·obtain⟨p,w,h,s,x,y,rfl,ok,F,w7,h7,hR⟩:=h
  have f:=F.f
  have v8:∀ k:Int,0<=k->k<h->atI ((EN h.toNat).map λ(y:Nat)=>D.str (az p 0 (y:Int) w.toNat)) k=some (.str (az p 0 k w.toNat)):=λk a b=>by
   have e:k=((k.toNat:Nat):Int):=by lia
   rw[e]
   exact ce (by rw[E3,FF (by lia)];simp)
  refine⟨_,rfl,⟨by have:=f.h0;lia,by lia⟩,λk z=>∃ o1 o2 o3,z=[some (aR p w h),some (.tup [.int w,.int h,.int s]),some (.int x),some (.int y),o1,o2,o3]/\∀ j:Nat,j<k->az p x (y+j) w.toNat=az p 0 j w.toNat,⟨_,_,_,rfl,λj hj=>absurd hj (Gk j)⟩,?_,?_⟩
  ·rintro k v z hk ⟨o1,o2,o3,rfl,hj⟩;k_places
   obtain⟨p_,rfl⟩:=bN hk
   have m0:=Ft (y+(k:Int)) (show h≠0 by have:=f.h0;lia)
   have m1:=Fu (y+(k:Int)) f.h0
   refine⟨λd=>d= .str (az p 0 ((y+k) % h) w.toNat),⟨_,rfl,f.h0,_,by rw[GM];exact v8 _ m0 m1,rfl⟩,?_⟩
   rintro _ rfl;k_places
   refine⟨λd=>d= .int (hmX w h s x (y+k)),⟨_,rfl,⟨f.h0,by lia⟩,_,rfl,.inr ⟨by have:=f.s0;lia,by have:=f.sw;lia⟩,_,rfl,f.w0,by rw[GM (k:Int) y];rfl⟩,?_⟩
   rintro _ rfl;k_places
   have l:=tJ p 0 ((y+k) % h) w.toNat
   have e:=tV f.w0 f.h0 (λ_ _ q=>F.keeps q) x (y+k)
   refine⟨by lia,by lia,?_,?_⟩
   ·rw[<- bL,<- bL,<- EW,<- bC,e,dh];simp;lia
   rw[e]
   refine⟨_,v8 k (by lia) (by lia),ite2 (λc=>?_) (λc=>?_)⟩
   ·refine hR false ?_
    have c':¬ az p x (y+k) w.toNat=az p 0 k w.toNat:=λz=>by simp[z] at c
    rw[<- gY ok F]
    exact⟨(λz=>nomatch z),λz=>absurd (z k (by lia)) c'⟩
   ·have c':az p x (y+k) w.toNat=az p 0 k w.toNat:=by simpa using c
    refine⟨_,_,_,rfl,λj Mw=>?_⟩
    by_cases e:j=k
    ·subst e;exact c'
    ·exact hj j (by lia)
  ·rintro z ⟨o1,o2,o3,rfl,hj⟩;k_places
   rw[bx] at hj
   exact hR true ⟨λ_=>(gY ok F x y).mp hj,λ_=>rfl⟩
abbrev oQ(V:Bx):Prop:=V.D 2 "_law_least" nG Ck
theorem El(T:V.T "_law_least" nF nG)(K7:oP V):oQ V:=by
  refine Tx.okDW T sc__law_least (λds R h=>?_) (λf cdv A outer s H E J hr=>⟨_,((ah (ai 2 sc__law_least.nd ad)
      (ah (dG PassesOwn.never (cC (bH (ar K7 hr (ac (aa 0) (ac (aa 1) (ac (aa 2) (ac ad af))))))) (aj (ai 2 sc__law_least.nd (ao (aa 2) ad))))
      (ah (ai 3 sc__law_least.nd ad)
      (ah (ai 4 sc__law_least.nd ad)
      (ah (dG PassesOwn.never (cC (bH (ar K7 hr (ac (aa 0) (ac (aa 1) (ac (aa 4) (ac (aa 3) af))))))) (ah (ai 4 sc__law_least.nd (ao (aa 4) ad))
        (aj (eE (bq (aa 4) (aa 2)) (ah (ai 4 sc__law_least.nd ad)
         (aj (ai 3 sc__law_least.nd (ao (aa 3) ad)))) aQ))))
      (aj (au (aG (ac (aa 2) (ac (aa 3) (ac (aa 4) af)))))))))))),λds R h=>?_⟩)
  · obtain⟨_,_,_,_,rfl,_⟩:=h;rfl
  · obtain⟨p,w,h,s,rfl,ok,F,w7,h7,hR⟩:=h
    obtain⟨w',h',s',L,d1,d2,MF,Om,IW⟩:=Pat.least_ex F
    have w0:=L.f.w0
    have h0:=L.f.h0
    have kw:p.Keeps w' 0:=(L.lat _ _).mp (InF.one _ _ _)
    have ks:p.Keeps s' h':=(L.lat _ _).mp (InF.two _ _ _)
    refine⟨λd=>d= .int 1,rfl,?_⟩
    rintro _ rfl;k_places
    refine⟨λm z=>∃ x:Int,z=[some (aR p w h),some (.tup [.int w,.int h,.int s]),some (.int x),none,none]/\1<=x/\x<=w'/\m=(w' - x).toNat,⟨_,1,rfl,by lia,by lia,rfl⟩,?_⟩
    rintro m z ⟨x,rfl,x1,xw,hm⟩;k_places
    refine⟨p,w,h,s,x,0,rfl,ok,F,w7,h7,λb hb=>?_⟩
    cases b with
    |false=>
      have nk:¬ p.Keeps x 0:=λz=>nomatch hb.mpr z
      have:x≠w':=λz=>nk (z ▸ kw)
      refine⟨λd=>d= .int (x+1),rfl,?_⟩
      rintro _ rfl;k_places
      exact⟨(w' - (x+1)).toNat,by lia,x+1,rfl,by lia,by lia,rfl⟩
    |true=>
      have k:=hb.mp rfl
      obtain⟨i,j,e1,e2⟩:=(L.lat x 0).mpr k
      have j0:j=0:=small_mul (i:=j) h0 (by lia) (by lia)
      subst j0
      have ex:x=w':=by
        rcases Gb i 1 with q|q|q
        · have:=E6 (show i<=0 by lia) (show 0<=w' by lia);lia
        · subst q;lia
        · have:=E6 (show 2<=i by lia) (show 0<=w' by lia);lia
      subst ex
      refine⟨λd=>d= .int 1,rfl,?_⟩
      rintro _ rfl;k_places
      refine⟨λd=>d= .int 0,rfl,?_⟩
      rintro _ rfl;k_places
      have Nd:∀ a b:Int,a<b->a*x+x<=b*x:=λa b q=>by
        have:=E6 (show a+1<=b by lia) (show 0<=x by lia)
        rw[GH] at this;lia
      refine⟨λm z=>∃ y l:Int,z=[some (aR p w h),some (.tup [.int w,.int h,.int s]),some (.int x),some (.int y),some (.int l)]/\1<=y/\y<=h'/\0<=l/\l<x/\(y=h'->l<=s')/\m=(h'*x - y*x+(x - l)).toNat,⟨_,1,0,rfl,by lia,by lia,by lia,w0,λ_=>L.f.s0,rfl⟩,?_⟩
      rintro m z ⟨y,l,rfl,y1,yh,l0,lx,On,hm⟩;k_places
      have my:y*x<=h'*x:=E6 yh (by lia)
      refine⟨p,w,h,s,l,y,rfl,ok,F,w7,h7,λb hb=>?_⟩
      cases b with
      |false=>
        have nk:¬ p.Keeps l y:=λz=>nomatch hb.mpr z
        have ne:y=h'->l≠s':=λq z=>nk (q ▸ z ▸ ks)
        have sw:=L.f.sw
        refine⟨λd=>d= .int (l+1),rfl,?_⟩
        rintro _ rfl;k_places
        refine⟨λz=>∃ y' l':Int,z=[some (aR p w h),some (.tup [.int w,.int h,.int s]),some (.int x),some (.int y'),some (.int l')]/\1<=y'/\y'<=h'/\0<=l'/\l'<x/\(y'=h'->l'<=s')/\(h'*x - y'*x+(x - l')).toNat<m,ite2 (λc=>?_) (λc=>?_),?_⟩
        · have c':=of_decide_eq_true c
          have yl:y<h':=by
            rcases Int.lt_or_eq_of_le yh with q|q
            · exact q
            · have:=On q;have:=ne q;lia
          have:=Nd y h' yl
          refine⟨λd=>d= .int 0,rfl,?_⟩
          rintro _ rfl;k_places
          refine⟨λd=>d= .int (y+1),rfl,?_⟩
          rintro _ rfl;k_places
          refine⟨y+1,0,rfl,by lia,by lia,by lia,w0,λ_=>L.f.s0,?_⟩
          rw[GH,HW];lia
        · have c':¬ (l+1=x):=λz=>c (decide_eq_true z)
          exact⟨y,l+1,rfl,y1,yh,by lia,by lia,λq=>by have:=On q;have:=ne q;lia,by lia⟩
        · rintro _ ⟨y',l',rfl,a1,a2,a3,a4,a5,a6⟩;k_places
          exact⟨_,a6,y',l',rfl,a1,a2,a3,a4,a5,rfl⟩
      |true=>
        have k:=hb.mp rfl
        have ey:y=h':=by have:=(L.down k (by lia)).1;lia
        subst ey
        have el:=L.slant l0 lx k
        subst el
        exact⟨by show(3:Nat)<=1000;decide,hR x y l L MF Om IW⟩
abbrev oR(V:Bx):Prop:=V.D 2 "_law_leaf_shows" nI AR
theorem Em(T:V.T "_law_leaf_shows" nH nI)(uA:V.m "range")(uB:V.m "len")(uD:V.m "int")(Jk:iS V):oR V:=by
 refine Tx.okDW T sc__law_leaf_shows (λds R h=>?_) (λf cdv A outer s H E J hr=>⟨_,((ah (ai 3 sc__law_leaf_shows.nd (ae (aa 0) ad))
   (ah (ai 4 sc__law_leaf_shows.nd (ao (ao (av (ae (aa 3) ad) (aa 1)) (av (ae (aa 3) ad) (aa 2))) (ae (aa 3) ad)))
   (ah (ai 5 sc__law_leaf_shows.nd (ao (ao (av (ae (aa 3) ad) (aa 1)) (av (ae (aa 3) ad) (aa 2))) (ae (aa 3) ad)))
   (ah (bT 6 PassesOwn.never rfl sc__law_leaf_shows.nd uA (cj uB (ac (ae (aa 0) ad) af)) (aj (bT 7 PassesOwn.never rfl sc__law_leaf_shows.nd uA (cj uB (ac (ae (ae (aa 0) ad) (aa 6)) af)) (aj (aZ (cS (qO (bZ (ae (ae (ae (aa 0) ad) (aa 6)) (aa 7)) ay) (qN (bH (ar Jk hr (ac (ae (aa 0) ad) (ac (ae (aa 0) ad) (ac (bn (aa 4) (aa 7)) (ac (bn (aa 5) (aa 6)) af))))))))) (aj (au (ae (ae (aa 0) ad) (gA uD (ac (ae (ae (ae (aa 0) ad) (aa 6)) (aa 7)) af))))) aQ)))))
   (aj (au ad))))))),λds R h=>?_⟩)
 ·obtain⟨_,_,_,rfl,_⟩:=h;rfl
 ·obtain⟨l,x,y,rfl,ok,hR⟩:=h
  obtain⟨hm,wd,Pz,o9⟩:=id ok.rows
  refine⟨λd=>d= .tup [.int l.w0,.int l.w1,.int l.w2,.int l.w3,.int l.w4,.int l.w5],⟨_,rfl,rfl⟩,?_⟩;rintro _ rfl;k_places
  refine⟨λd=>d= .int (l.w0*x+l.w1*y+l.w4),⟨_,rfl,.inl (n64 ok.w0),_,rfl,.inl (n64 ok.w1),_,rfl,rfl⟩,?_⟩;rintro _ rfl;k_places
  refine⟨λd=>d= .int (l.w2*x+l.w3*y+l.w5),⟨_,rfl,.inl (n64 ok.w2),_,rfl,.inl (n64 ok.w3),_,rfl,rfl⟩,?_⟩;rintro _ rfl;k_places
  have Iu:R (.int (match l.hit x y with|some c=>cell l.hues ((c:Int) - 48)|none=>0)):=hR
  unfold Leaf.hit at Iu
  generalize l.w0*x+l.w1*y+l.w4=U at Iu ⊢
  generalize l.w2*x+l.w3*y+l.w5=V at Iu ⊢
  generalize ef:(λi j=>onB l.a l.b l.c l.d (U - i) (V - j))=f at Iu
  have e0:∀ i j,f i j=onB l.a l.b l.c l.d (U - i) (V - j):=λi j=>by rw[<- ef]
  have a_:((l.rows.map D.str).length:Int).toNat=l.rows.length:=by simp
  refine⟨_,rfl,⟨by lia,by simp;lia⟩,λk z=>∃ o1 o2:Option D,z=[some l.D,some (.int x),some (.int y),some (.tup [.int l.w0,.int l.w1,.int l.w2,.int l.w3,.int l.w4,.int l.w5]),some (.int U),some (.int V),o1,o2]/\bM f 0 l.rows=bM f k (l.rows.drop k),⟨_,_,rfl,rfl⟩,?_,?_⟩
  ·rintro j v z hj ⟨o1,o2,rfl,hs⟩;k_places
   obtain⟨Je,rfl⟩:=bN hj
   rw[a_] at Je
   have Ky:l.rows[j]?=some l.rows[j]:=Fc Je
   have v9:l.rows.drop j=l.rows[j]::l.rows.drop (j+1):=Gn Je
   obtain⟨o8,u_⟩:=o9 l.rows[j] (Fs Je)
   generalize l.rows[j]=row at Ky v9 o8 u_
   have IZ:=at_str Ky
   have j5:=bL row
   refine⟨_,rfl,_,IZ,by lia,⟨by lia,by lia⟩,λi z=>∃ o2:Option D,z=[some l.D,some (.int x),some (.int y),some (.tup [.int l.w0,.int l.w1,.int l.w2,.int l.w3,.int l.w4,.int l.w5]),some (.int U),some (.int V),some (.int j),o2]/\scanRow (λi=>f i j) 0 (cs row)=scanRow (λi=>f i j) i ((cs row).drop i),⟨_,rfl,rfl⟩,?_,?_⟩
   ·rintro i v z hi ⟨o2,rfl,Jy⟩;k_places
    obtain⟨l9,rfl⟩:=bN hi
    have Nf:i<(cs row).length:=by lia
    have H9:(cs row).drop i=(cs row)[i]::(cs row).drop (i+1):=Gn Nf
    have Kz:=u_ (cs row)[i] (Fs Nf)
    have Ng:atI (cs row) (i:Int)=some (cs row)[i]:=ce (Fc Nf)
    generalize (cs row)[i]=c at H9 Kz Ng
    refine⟨_,rfl,_,IZ,c,⟨by lia,Ng⟩,ite2 (λq=>?_) (λq=>?_)⟩
    ·have t8:¬ c=46:=by
      intro z
      have:(⟨#[c]⟩:Str)=".":=one_sign.mpr z
      simp[this] at q
     refine⟨_,rfl,_,rfl,l.a,l.b,l.c,l.d,U - i,V - j,rfl,ok.a.lt,ok.b.lt,ok.c.lt,ok.d.lt,ok.ne,?_⟩
     refine ite2 (λq2=>?_) (λq2=>?_)
     ·have d5:f i j=true:=by rw[e0];exact q2
      have PX:49<=c/\c<=54:=by unfold aH at Kz;lia
      refine⟨_,rfl,_,rfl,_,IZ,c,⟨by lia,Ng⟩,_,⟨digit_of PX,by show 1<=640;decide⟩,_,cE (by lia) (by rw[ok.many];lia),?_⟩
      rw[hs,v9,bM,Jy,H9,scanRow,if_pos ⟨t8,d5⟩] at Iu
      exact Iu
     ·have d5:¬ f i j=true:=by rw[e0];exact q2
      refine⟨_,rfl,?_⟩
      rw[Jy,H9,scanRow,if_neg (λz=>d5 z.2)]
    ·have t8:c=46:=by
      rcases Classical.em (c=46) with z|z
      ·exact z
      ·exact absurd (by
        have:¬ (⟨#[c]⟩:Str)=".":=λw=>z (one_sign.mp w)
        simp[this]) q
     refine⟨_,rfl,?_⟩
     rw[Jy,H9,scanRow,if_neg (λz=>z.1 t8)]
   ·rintro z ⟨o2,rfl,Jy⟩;k_places
    refine⟨_,_,rfl,?_⟩
    have hn:((row.length:Int).toNat)=(cs row).length:=by lia
    rw[bx,hn,G8 (EL _),scanRow] at Jy
    rw[hs,v9,bM,Jy]
  ·rintro z ⟨o1,o2,rfl,hs⟩;k_places
   rw[bx,a_,G8 (EL _),bM] at hs
   rw[hs] at Iu
   exact Iu
abbrev oS(V:Bx):Prop:=V.D 3 "_law_shows" nK AS
theorem En(T:V.T "_law_shows" nJ nK)(Nh:oR V):oS V:=by
 refine Tx.okDW T sc__law_shows (λds R h=>?_) (λf cdv A outer s H E J hr=>⟨_,((ah (gy 3 PassesOwn.never rfl sc__law_shows.nd (aa 0) (ah (ai 4 sc__law_shows.nd (ar Nh hr (ac (aa 3) (ac (aa 1) (ac (aa 2) af)))))
    (aj (aZ (bZ (aa 4) ad) (aj (au (aa 4))) aQ))))
   (aj (au ad)))),λds R h=>?_⟩)
 ·obtain⟨_,_,_,rfl,_⟩:=h;rfl
 ·obtain⟨ls,x,y,rfl,ok,hR⟩:=h
  refine⟨λk z=>∃ o1 o2:Option D,z=[some (.lst (ls.map Leaf.D)),some (.int x),some (.int y),o1,o2]/\aW ls x y=aW (ls.drop k) x y,⟨_,_,rfl,rfl⟩,?_,?_⟩
  ·rintro k v z hk ⟨o1,o2,rfl,hs⟩;k_places
   rw[E3] at hk
   have n9:k<ls.length:=by
    rcases F6 k ls.length with q|q
    ·exact q
    ·rw[FD q] at hk;cases hk
   rw[Fc n9] at hk
   cases hk
   have ed:ls.drop k=ls[k]::ls.drop (k+1):=Gn n9
   have Oo:=ok ls[k] (Fs n9)
   generalize ls[k]=l at ed Oo
   refine⟨λd=>d= .int (l.shows x y),⟨l,x,y,rfl,Oo,rfl⟩,?_⟩;rintro _ rfl;k_places
   refine ite2 (λq=>?_) (λq=>?_)
   ·have q':¬ l.shows x y=0:=by simpa using q
    rw[hs,ed,aW,if_pos q'] at hR
    exact hR
   ·have q':l.shows x y=0:=by simpa using q
    refine⟨_,_,rfl,?_⟩
    rw[hs,ed,aW,if_neg (λz=>z q')]
  ·rintro z ⟨o1,o2,rfl,hs⟩;k_places
   rw[EU,G8 (EL _),aW] at hs
   rw[hs] at hR
   exact hR
abbrev oU(V:Bx):Prop:=V.D 4 "_law_table" nL Ci
theorem Eo(T:V.T "_law_table" iK nL)(uA:V.m "range")(Ni:oS V):oU V:=by
 refine Tx.okDW T sc__law_table (λds R h=>?_) (λf cdv A outer s H E J hr=>⟨_,((ah (gx 2 sc__law_table.nd af)
   (ah (bT 3 PassesOwn.never rfl sc__law_table.nd uA (ae (aa 1) ad) (aj (fE 2 (jH (gG rfl (compScope (by change cv _ (ag iK) ["_law_leaves","_law_three","_law_lines_here","_law_y"] _=true;decide+kernel)) uA (ae (aa 1) ad) (λcl s0 H0 fp=>(ae ay (ar Ni hr (ac (aa 0) (ac (aa 4) (ac (aa 3) af)))))))))))
   (fD 2 (aj (au (aa 2))))))),λds R h=>?_⟩)
 ·obtain⟨_,_,_,_,rfl,_⟩:=h;rfl
 ·obtain⟨p,w,h,s,rfl,wf,dp,w0,w7,h0,h7,hR⟩:=h
  refine⟨by simp,?_⟩
  refine⟨_,rfl,⟨by lia,by lia⟩,λk z=>∃ o,z=[some (.lst (p.leaves.map Leaf.D)),some (.tup [.int w,.int h,.int s]),some (.own ((EN k).map λ(y:Nat)=>D.str (az p 0 (y:Int) w.toNat))),o],⟨_,rfl⟩,?_,?_⟩
  ·rintro k v z hk ⟨o,rfl⟩;k_places
   obtain⟨p_,rfl⟩:=bN hk
   refine⟨_,rfl,⟨by lia,by lia⟩,by rw[bx];lia,λi ys=>ys=(EN i).map λ(x:Nat)=>D.str ⟨#[bE (p.show (0+(x:Int)) k)]⟩,rfl,?_,?_⟩
   ·rintro i v ys hi hl rfl
    obtain⟨IQ,rfl⟩:=bN hi
    refine⟨p.leaves,i,k,rfl,Pat.leaf_ok wf (by lia),?_⟩
    rw[Pat.show_leaves wf (by lia)]
    obtain⟨b0,b6⟩:=Pat.show_le wf (by lia) (i:Int) k
    refine⟨_,⟨by decide,tK b0 b6⟩,?_⟩
    show _=F5 _ (EN (i+1))
    rw[F7,Fl]
    simp only[EY,FJ,G7]
   ·rintro ys hl rfl
    rw[bx,kx]
    refine⟨_,gS _,?_,?_⟩
    ·rw[Ch,show("":Str).length=0 from rfl]
     simp
     lia
    ·rw[Cg]
     refine⟨by simp;lia,?_⟩
     refine⟨some (.int k),?_⟩
     rw[F7,Fl];rfl
  ·rintro z ⟨o,rfl⟩;k_places
   rw[bx]
   exact hR
def Ep:SpD:=λds R=>∃ p:Pat,ds=[p.D]/\p.Ok/\∀ w h s,p.Least w h s->w*h<=720->h<=720->R (.lst [.tup [.int w,.int h,.int s],aR p w h])
abbrev oV(V:Bx):Prop:=V.D 5 "_law_own" nN Ep
theorem Er(T:V.T "_law_own" nM nN)(Jl:iT V)(Nj:oQ V)(K8:oU V):oV V:=by
 refine Tx.okDW T sc__law_own (λds R h=>?_) (λf cdv A outer s H E J hr=>⟨_,((ah (ai 1 sc__law_own.nd (ar Jl hr (ac (ae (aa 0) ad) af)))
   (ah (ai 2 sc__law_own.nd (ar Nj hr (ac (ar K8 hr (ac (ae (aa 0) ad) (ac (aa 1) af))) (ac (aa 1) af))))
   (aj (au (bj (ac (aa 2) (ac (ar K8 hr (ac (ae (aa 0) ad) (ac (aa 2) af))) af)))))))),λds R h=>?_⟩)
 ·obtain⟨_,rfl,_⟩:=h;rfl
 ·obtain⟨p,rfl,ok,hR⟩:=h
  refine⟨FamD p,⟨_,rfl,Ce ok⟩,?_⟩
  rintro _ ⟨w,h,s,rfl,F,wh,w7,h7⟩;k_places
  refine⟨Cf p,⟨_,rfl,p,w,h,s,rfl,ok.wf,ok.deep,F.f.w0,w7,F.f.h0,h7,p,w,h,s,rfl,ok,F,w7,h7,λw' h' s' L a b c=>⟨w',h',s',rfl,L,by omega,by omega,by omega⟩⟩,?_⟩
  rintro _ ⟨w',h',s',rfl,L,PY,a,b⟩;k_places
  exact⟨_,rfl,p,w',h',s',rfl,ok.wf,ok.deep,L.f.w0,a,L.f.h0,b,by show(2:Nat)<=1000;decide,hR w' h' s' L PY b⟩
abbrev oW(V:Bx):Prop:=V.D 1 "_law_whole" nP Ap
theorem Es(T:V.T "_law_whole" nO nP)(uL:V.m "isinstance")(Jz:V.m "bool")(uD:V.m "int"):oW V:=by
 refine Tx.okDW T CV (λds R h=>?_) (λf cdv A outer s H E J hr=>⟨_,((aj (au (dB (dF uL uD (aa 0) PyProof.Rows.boot_int xP) (eA (xL (dF uL Jz (aa 0) PyProof.Rows.boot_bool kit_bool))))))),λds R h=>?_⟩)
 ·obtain⟨i,rfl,_⟩:=h;rfl
 ·obtain⟨i,rfl,hR⟩:=h
  exact hR
abbrev oX(V:Bx):Prop:=V.D 2 "_law_numbers" nR Cc
theorem Et(T:V.T "_law_numbers" nQ nR)(uB:V.m "len")(uL:V.m "isinstance")(uW:V.m "tuple")(uA:V.m "range")(Nk:oW V):oX V:=by
 refine Tx.okDW T sc__law_numbers (λds R h=>?_) (λf cdv A outer s H E J hr=>⟨_,((ah (aZ (cS (dA (cC (bH (dF uL uW (aa 0) PyProof.Rows.boot_tuple kit_tuple))) (eo (bZ (cj uB (ac (aa 0) af)) (cj uB (ac (aa 1) af)))))) (aj (au cf)) aQ)
   (ah (bT 2 PassesOwn.never rfl sc__law_numbers.nd uA (cj uB (ac (aa 1) af)) (aj (aZ (cS (dA (cC (bH (ar Nk hr (ac (ae (aa 0) (aa 2)) af)))) (eo (bZ (ae (aa 0) (aa 2)) (ae (aa 1) (aa 2)))))) (aj (au cf)) aQ)))
   (aj (au cf))))),λds R h=>?_⟩)
 ·obtain⟨p,q,r,rfl,_⟩:=h;rfl
 ·obtain⟨p,q,r,rfl,hR⟩:=h
  refine⟨⟨by simp,by simp⟩,λk z=>∃ o,z=[some (.tup [.int p,.int q,.int r]),some (.tup [.int p,.int q,.int r]),o],⟨_,rfl⟩,?_,?_⟩
  ·rintro k x z hk ⟨o,rfl⟩;k_places
   have p_:k<3:=by
    have:=(E7.mp hk).1
    simpa using this
   rcases(by lia:k=0\/k=1\/k=2) with rfl|rfl|rfl
   ·cases hk
    exact⟨_,rfl,_,rfl,_,rfl,_,rfl,jw rfl ⟨_,rfl⟩⟩
   ·cases hk
    exact⟨_,rfl,_,rfl,_,rfl,_,rfl,jw rfl ⟨_,rfl⟩⟩
   ·cases hk
    exact⟨_,rfl,_,rfl,_,rfl,_,rfl,jw rfl ⟨_,rfl⟩⟩
  ·rintro z ⟨o,rfl⟩;k_places
   exact hR
def Eu:SpD:=λds R=>∃ (p:Pat) (w h s:Int),ds=[dm p w h s,.lst [.tup [.int w,.int h,.int s],aR p w h]]/\0<=h/\h<=720/\R (.bl true)
abbrev oY(V:Bx):Prop:=V.D 3 "_law_is_form" nU Eu
theorem Ev(T:V.T "_law_is_form" nS nU)(uB:V.m "len")(uL:V.m "isinstance")(uW:V.m "tuple")(uA:V.m "range")(uK:V.m "str")(Nl:oX V):oY V:=by
 refine Tx.okDW T sc__law_is_form (λds R h=>?_) (λf cdv A outer s H E J hr=>⟨_,((ah (aZ (cS (dA (cC (bH (dF uL uW (aa 0) PyProof.Rows.boot_tuple kit_tuple))) (dA (bZ (cj uB (ac (aa 0) af)) ad) (eo (cC (bH (ar Nl hr (ac (fJ (aa 0) fG (fH ad)) (ac (ae (aa 1) ad) af))))))))) (aj (au cf)) aQ)
   (ah (aZ (cS (dA (cC (bH (dF uL uW (ae (aa 0) ad) PyProof.Rows.boot_tuple kit_tuple))) (eo (bZ (cj uB (ac (ae (aa 0) ad) af)) (cj uB (ac (ae (aa 1) ad) af)))))) (aj (au cf)) aQ)
   (ah (bT 2 PassesOwn.never rfl sc__law_is_form.nd uA (cj uB (ac (ae (aa 1) ad) af)) (aj (aZ (cS (dA (cC (bH (dF uL uK (ae (ae (aa 0) ad) (aa 2)) PyProof.Rows.boot_str kit_str))) (eo (bZ (ae (ae (aa 0) ad) (aa 2)) (ae (ae (aa 1) ad) (aa 2)))))) (aj (au cf)) aQ)))
   (aj (au cf)))))),λds R h=>?_⟩)
 ·obtain⟨_,_,_,_,rfl,_⟩:=h;rfl
 ·obtain⟨p,w,h,s,rfl,h0,h7,hR⟩:=h
  refine⟨by show¬ (0=0/\3=4);decide,_,rfl,w,h,s,rfl,?_⟩
  refine ite2 (λc=>absurd c (by simp)) λ_=>?_
  refine⟨_,rfl,_,rfl,_,rfl,ite2 (λc=>absurd c (by simp)) λ_=>?_⟩
  refine⟨_,rfl,⟨by rw[EU,Ga];omega,by rw[EU,Ga];omega⟩,λk z=>∃ o,z=[some (dm p w h s),some (.lst [.tup [.int w,.int h,.int s],aR p w h]),o],⟨_,rfl⟩,?_,?_⟩
  ·rintro k v z hk ⟨o,rfl⟩;k_places
   obtain⟨p_,rfl⟩:=bN hk
   rw[EU,Ga] at p_
   have ak:=Cl (p:=p) (w:=w) (h:=h) (k:=k) (by omega) (by omega)
   exact⟨_,rfl,_,ak,_,rfl,_,ak,_,rfl,_,ak,ite2 (λc=>absurd c (by simp)) λ_=>⟨_,rfl⟩⟩
  ·rintro z ⟨o,rfl⟩;k_places
   exact hR
def Ew:SpX:=λds R RX=>∃ (p q:Pat) (d e:D),ds=[d,e]/\aX p d/\aX q e/\p.Ok/\q.Ok/\∀ w h s,ComF p q w h s->(w*h<=720->R (.tup [.int w,.int h,.int s]))/\(720<w*h->RX "TooGreat" [])
abbrev oZ(V:Bx):Prop:=V.X 12 "common_field" nW Ew
theorem Ey(T:V.T "common_field" nV nW)(Iq:fU V)(IY:jk V)(Jr:V.gi "MOST" 720)(Js:V.n "TooGreat"):oZ V:=by
 refine Tx.okXW T sc_common_field (λds R RX h=>?_) (λf cdv A outer s H E J hr hx=>⟨_,((ah (ai 2 sc_common_field.nd (ar Iq hr (ac (ar IY hr (ac (aa 0) af)) (ac (ar IY hr (ac (aa 1) af)) af))))
   (ah (aZ (jE (av (ae (aa 2) ad) (ae (aa 2) ad)) (eL Jr)) (aj (rl Js hx rfl (ac ay af))) aQ)
   (aj (au (aa 2)))))),λds R RX b7 h=>?_⟩)
 ·obtain⟨_,_,_,_,rfl,_⟩:=h;rfl
 ·obtain⟨p,q,d,e,rfl,hd,he,i7,c7,hR⟩:=h
  obtain⟨wd,f_,sd,fs,rfl,q1,q2,F_⟩:=hd
  have hd:aX p (.obj "Pattern" fs):=⟨wd,f_,sd,fs,rfl,q1,q2,F_⟩
  obtain⟨G',p6,G_,m5,rfl,q3,q4,k7⟩:=he
  have he:aX q (.obj "Pattern" m5):=⟨G',p6,G_,m5,rfl,q3,q4,k7⟩
  refine⟨λx=>∃ w h s,x= .tup [.int w,.int h,.int s]/\ComF p q w h s/\w*h<=518400,⟨p,_,rfl,hd,i7,λw1 h1 s1 L1 PZ a1 b1=>⟨q,_,rfl,he,c7,λw2 h2 s2 L2 P0 a2 b2=>⟨w1,h1,s1,w2,h2,s2,rfl,L1.f.w0,by omega,L1.f.h0,by omega,L1.f.s0,L1.f.sw,L2.f.w0,by omega,L2.f.h0,by omega,L2.f.s0,L2.f.sw,λw h s A M=>⟨w,h,s,rfl,ComF.of L1 L2 M,M.le2 L1.f L2.f PZ P0⟩⟩⟩⟩,?_⟩
  rintro _ ⟨w,h,s,rfl,C,wh⟩;k_places
  have pl:=cy C.f.w0 C.f.h0
  have w0:=C.f.w0
  refine⟨_,rfl,_,rfl,.inl ⟨by omega,by omega⟩,ite2 (λc=>?_) (λc=>?_)⟩
  ·have c':=of_decide_eq_true c
   refine⟨by show(1:Nat)<=1000;decide,?_⟩
   rw[b7]
   exact(hR w h s C).2 c'
  ·have c':¬ (720<w*h):=λz=>c (decide_eq_true z)
   exact(hR w h s C).1 (by omega)
def Ez:SpD:=λds R=>∃ (p q:Pat) (d e:D) (w h:Int),ds=[d,e,.int w,.int h]/\aX p d/\aX q e/\p.Ok/\q.Ok/\0<=w/\w<=720/\0<=h/\h<=720/\((∀ x y:Int,0<=x->x<w->0<=y->y<h->p.show x y=q.show x y)->R .non)/\∀ x y:Int,0<=x->x<w->0<=y->y<h->p.show x y≠q.show x y->(∀ x' y':Int,0<=x'->x'<w->0<=y'->(y'<y\/(y'=y/\x'<x))->p.show x' y'=q.show x' y')->R (.tup [.int x,.int y])
abbrev pd(V:Bx):Prop:=V.D 9 "first_unlike" nY Ez
theorem EA(T:V.T "first_unlike" nX nY)(uA:V.m "range")(IV:jh V):pd V:=by
 refine Tx.okDW T sc_first_unlike (λds R h=>?_) (λf cdv A outer s H E J hr=>⟨_,((ah (bT 4 PassesOwn.never rfl sc_first_unlike.nd uA (aa 3) (aj (bT 5 PassesOwn.never rfl sc_first_unlike.nd uA (aa 2) (aj (aZ (bZ (ar (CalX.no IV) hr (ac (aa 0) (ac (aa 5) (ac (aa 4) af)))) (ar (CalX.no IV) hr (ac (aa 1) (ac (aa 5) (ac (aa 4) af))))) (aj (au (aG (ac (aa 5) (ac (aa 4) af))))) aQ)))))
   (aj (au cr)))),λds R h=>?_⟩)
 ·obtain⟨_,_,_,_,_,_,rfl,_⟩:=h;rfl
 ·obtain⟨p,q,d,e,w,h,rfl,hd,he,i7,c7,w0,w7,h0,h7,hN,hS⟩:=h
  obtain⟨wd,f_,sd,fs,rfl,q1,q2,F_⟩:=hd
  have hd:aX p (.obj "Pattern" fs):=⟨wd,f_,sd,fs,rfl,q1,q2,F_⟩
  obtain⟨G',p6,G_,m5,rfl,q3,q4,k7⟩:=he
  have he:aX q (.obj "Pattern" m5):=⟨G',p6,G_,m5,rfl,q3,q4,k7⟩
  refine⟨⟨by omega,by omega⟩,λk z=>∃ o4 o5,z=[some (.obj "Pattern" fs),some (.obj "Pattern" m5),some (.int w),some (.int h),o4,o5]/\∀ x y:Int,0<=x->x<w->0<=y->y<k->p.show x y=q.show x y,⟨_,_,rfl,λx y _ _ a b=>by omega⟩,?_,?_⟩
  ·rintro k v z hk ⟨o4,o5,rfl,hj⟩;k_places
   obtain⟨p_,rfl⟩:=bN hk
   refine⟨⟨by omega,by omega⟩,λi z=>∃ o5,z=[some (.obj "Pattern" fs),some (.obj "Pattern" m5),some (.int w),some (.int h),some (.int k),o5]/\∀ x:Int,0<=x->x<i->p.show x k=q.show x k,⟨_,rfl,λx a b=>by omega⟩,?_,?_⟩
   ·rintro i v z hi ⟨o5,rfl,l9⟩;k_places
    obtain⟨IQ,rfl⟩:=bN hi
    have nn:bu (i:Int)/\bu (k:Int):=⟨⟨by omega,by omega⟩,by omega,by omega⟩
    refine⟨p,_,i,k,rfl,hd,i7,λ_=>⟨q,_,i,k,rfl,he,c7,λ_=>?_,λn=>n nn⟩,λn=>n nn⟩
    refine ite2 (λc=>?_) (λc=>?_)
    ·refine⟨by show(2:Nat)<=1000;decide,hS i k (by omega) (by omega) (by omega) (by omega) (λz=>by simp[z] at c) λx' y' a b c d=>?_⟩
     rcases d with d|⟨rfl,d⟩
     ·exact hj x' y' a b c (by omega)
     ·exact l9 x' a (by omega)
    ·have c':p.show i k=q.show i k:=by simpa using c
     refine⟨_,rfl,λx a b=>?_⟩
     by_cases e:x=i
     ·rw[e];exact c'
     ·exact l9 x a (by omega)
   ·rintro z ⟨o5,rfl,l9⟩;k_places
    rw[bx] at l9
    refine⟨_,_,rfl,λx y a b c d=>?_⟩
    by_cases e:y=k
    ·rw[e];exact l9 x a (by omega)
    ·exact hj x y a b c (by omega)
  ·rintro z ⟨o4,o5,rfl,hj⟩;k_places
   rw[bx] at hj
   exact hN λx y a b c d=>hj x y a b c (by omega)
def EB:SpX:=λds R RX=>∃ (p q:Pat) (d e:D),ds=[d,e]/\aX p d/\aX q e/\p.Ok/\q.Ok/\∀ w h s,ComF p q w h s->(720<w*h->RX "TooGreat" [])/\(w*h<=720->((∀ x y:Int,p.show x y=q.show x y)->R .non)/\∀ x y:Int,0<=x->x<w->0<=y->y<h->p.show x y≠q.show x y->(∀ x' y':Int,0<=x'->x'<w->0<=y'->(y'<y\/(y'=y/\x'<x))->p.show x' y'=q.show x' y')->R (.tup [.int x,.int y]))
abbrev pe(V:Bx):Prop:=V.X 13 "first_parting" oa EB
theorem EC(T:V.T "first_parting" nZ oa)(Nm:oZ V)(Nn:pd V):pe V:=by
 refine Tx.okXW T sc_first_parting (λds R RX h=>?_) (λf cdv A outer s H E J hr hx=>⟨_,((ah (ai 2 sc_first_parting.nd (yx Nm hx hr (ac (aa 0) (ac (aa 1) af))))
   (aj (au (ar Nn hr (ac (aa 0) (ac (aa 1) (ac (ae (aa 2) ad) (ac (ae (aa 2) ad) af))))))))),λds R RX b7 h=>?_⟩)
 ·obtain⟨_,_,_,_,rfl,_⟩:=h;rfl
 ·obtain⟨p,q,d,e,rfl,hd,he,i7,c7,hR⟩:=h
  obtain⟨wd,f_,sd,fs,rfl,q1,q2,F_⟩:=hd
  have hd:aX p (.obj "Pattern" fs):=⟨wd,f_,sd,fs,rfl,q1,q2,F_⟩
  obtain⟨G',p6,G_,m5,rfl,q3,q4,k7⟩:=he
  have he:aX q (.obj "Pattern" m5):=⟨G',p6,G_,m5,rfl,q3,q4,k7⟩
  refine⟨λx=>∃ w h s,x= .tup [.int w,.int h,.int s]/\ComF p q w h s/\w*h<=720,⟨p,q,_,_,rfl,hd,he,i7,c7,λw h s C=>⟨λwh=>⟨w,h,s,rfl,C,wh⟩,λwh=>by rw[b7];exact(hR w h s C).1 wh⟩⟩,?_⟩
  rintro _ ⟨w,h,s,rfl,C,wh⟩;k_places
  have pl:=cy C.f.w0 C.f.h0
  have w0:=C.f.w0
  have h0:=C.f.h0
  obtain⟨r1,r2⟩:=(hR w h s C).2 wh
  exact⟨_,rfl,_,rfl,p,q,_,_,w,h,rfl,hd,he,i7,c7,by omega,by omega,by omega,by omega,λe=>r1 λx y=>C.all e x y,r2⟩
theorem EE{fa:Addr}{fd:FuncData}(F:Fun V.K "law" "law" iL fa fd)(uL:V.m "isinstance")(Jz:V.m "bool")(No:ou V)(Np:ow V)(IP:iQ V)(K9:oH V)(Nq:oO V)(K':oV V)(K_:oY V)(Ir:jl V)(Nr:pe V):FnOk V.P V.w V.K V.mg V.base (Exc.CX1 V.P V.w) 20 fa fd oe (lSp V.K eJ):=by
 refine Fun.okDW F sc_law (λds R h=>?_) (λcdv A outer s H E J hr=>⟨_,((ah (ai 1 sc_law.nd (ar No hr (ac (aa 0) (ac ad af))))
   (ah (ai 2 sc_law.nd (aa 1))
   (ah (gy 3 PassesOwn.never rfl sc_law.nd (ar Np hr (ac (aa 0) af)) (aj (ai 2 sc_law.nd (ar IP hr (ac (aa 2) (ac (aa 3) af))))))
   (ah (ai 4 sc_law.nd (ar (CalX.no K9) hr (ac (ae (aa 1) ad) af)))
   (ah (ai 5 sc_law.nd (ar (CalX.no K9) hr (ac (ae (aa 2) ad) af)))
   (ah (ai 6 sc_law.nd (ar Nq hr (ac (aa 4) (ac (aa 5) af))))
   (ah (aZ (cC (bH (dF uL Jz (aa 6) PyProof.Rows.boot_bool kit_bool))) (aj (au cf)) aQ)
   (ah (ai 7 sc_law.nd (ar K' hr (ac (aa 1) af)))
   (ah (aZ (xS (fz hr) (ae (ae (ae (aa 2) ad) ad) ad) (ae (ae (ae (aa 1) ad) ad) ad)) (aj (au (dB (aa 6) (dB (xD (ar (CalX.no Nr) hr (ac (aa 4) (ac (aa 5) af))) cr) (eA (ar K_ hr (ac (ar Ir hr (ac (aa 5) af)) (ac (aa 7) af)))))))) aQ)
   (ah (ai 8 sc_law.nd (ar K' hr (ac (aa 2) af)))
   (aj (au (dB (cR (aa 6) (sq (fz hr) (aa 7) (aa 8))) (eA (ar K_ hr (ac (ar Ir hr (ac (aa 5) af)) (ac (aa 8) af)))))))))))))))))),λds R h=>?_⟩)
 ·obtain⟨ns,rfl,_⟩:=h;rfl
 ·obtain⟨ns,rfl,hl,hR⟩:=h
  refine⟨λx=>∃ p:Pat,x=p.D/\p.Ok,⟨ns,2,rfl,by decide,λp ok=>⟨p,rfl,ok⟩⟩,?_⟩
  rintro _ ⟨p,rfl,i7⟩;k_places
  refine⟨λx=>x=p.D,rfl,?_⟩
  rintro _ rfl;k_places
  refine⟨ns,rfl,λxs xl hx=>⟨λk z=>∃ (q:Pat) (o3:Option D),z=[some (.rol (ns.map D.int)),some p.D,some q.D,o3,none,none,none,none,none]/\q.Ok/\iN p q,⟨p,_,rfl,i7,⟨_,_,_,_,_,_,Mv2.refl p⟩⟩,?_,?_⟩⟩
  ·rintro k v z hk ⟨q,o3,rfl,c7,mq⟩;k_places
   rw[E3] at hk
   obtain⟨x,e1,rfl⟩:=Option.map_eq_some_iff.mp hk
   have nx:=hx x (Gs e1)
   have tq:=Pat.text_short c7.wf c7.deep
   refine⟨λy=>∃ q:Pat,y=q.D/\q.Ok/\iN p q,⟨q,x,rfl,c7.wf,c7.deep,by omega,Wraps.moved2 nx c7 mq λq' h1 h2=>⟨q',rfl,h1,h2⟩⟩,?_⟩
   rintro _ ⟨q',rfl,h1,h2⟩;k_places
   exact⟨q',_,rfl,h1,h2⟩
  rintro z ⟨q,o3,rfl,c7,b0,b1,b2,b3,b4,b5,m⟩;k_places
  refine⟨λx=>aX p x,⟨_,rfl,tR i7 λd hd=>hd⟩,?_⟩
  rintro _ ⟨wd,hd,sd,fs,rfl,e1,e2,F_⟩;k_places
  have Op:aX p (.obj "Pattern" fs):=⟨wd,hd,sd,fs,rfl,e1,e2,F_⟩
  refine⟨λx=>aX q x,⟨_,rfl,tR c7 λd hd=>hd⟩,?_⟩
  rintro _ ⟨G',p6,G_,m5,rfl,e3,e4,k7⟩;k_places
  have La:aX q (.obj "Pattern" m5):=⟨G',p6,G_,m5,rfl,e3,e4,k7⟩
  refine⟨λx=>∃ t:Bool,x= .bl t/\(t=true↔∀ x y,p.show x y=q.show x y),⟨p,q,_,_,rfl,Op,La,i7,c7,λt ht=>⟨t,rfl,ht⟩⟩,?_⟩
  rintro _ ⟨t,rfl,ht⟩;k_places
  refine⟨λx=>∃ w h s,x= .lst [.tup [.int w,.int h,.int s],aR p w h]/\p.Least w h s/\w*h<=720/\h<=720,⟨p,rfl,i7,λw h s L a b=>⟨w,h,s,rfl,L,a,b⟩⟩,?_⟩
  rintro _ ⟨w,h,s,rfl,L,wh,h7⟩;k_places
  have h0:=L.f.h0
  obtain⟨l,ls,el⟩:∃ l ls,p.leaves=l::ls:=by
   have:=Pat.leaves_pos p
   cases e:p.leaves with
   |nil=>rw[e] at this;exact absurd this (by decide)
   |cons l ls=>exact⟨l,ls,rfl⟩
  obtain⟨l',ls',P1,hm,h4,h5⟩:=m.leaf l ls el
  have nr:=(Pat.leaf_good i7.wf l (by rw[el];exact ET)).2
  have Oq:∀ {p:Pat} {l:Leaf} {ls:List Leaf},p.leaves=l::ls->atI (p.leaves.map Leaf.D) 0=some l.D:=λ{p l ls} e=>ce (j:=0) (by rw[e];rfl)
  refine⟨_,rfl,_,Oq P1,_,rfl,_,rfl,_,Oq el,_,rfl,⟨rfl,rfl⟩,ite2 (λc=>?_) λc=>?_⟩
  ·have sm:=m.same nr hm h4 h5 (way_eq.mp c)
   have tt:t=true:=ht.mpr sm
   subst tt
   have kk:∀ X Y,q.Keeps X Y↔p.Keeps X Y:=λX Y=>by
    unfold Pat.Keeps
    simp only[sm]
   refine⟨p,q,_,_,rfl,Op,La,i7,c7,λw2 h2 s2 C=>⟨λbig=>?_,λ_=>⟨λ_=>?_,λx y _ _ _ _ ne=>absurd (sm x y) ne⟩⟩⟩
   ·obtain⟨rfl,rfl,_⟩:=L.uniq ⟨C.f,λx y=>(C.lat x y).trans ⟨λz=>z.1,λz=>⟨z,(kk x y).mpr z⟩⟩⟩
    omega
   ·refine⟨q,_,rfl,La,c7,λw' h' s' L' _ _ _=>?_⟩
    obtain⟨rfl,rfl,rfl⟩:=L.uniq ⟨L'.f,λx y=>(L'.lat x y).trans (kk x y)⟩
    rw[(CW sm w h s).1]
    exact⟨p,w,h,s,rfl,by omega,h7,hR⟩
  ·refine⟨λx=>∃ w h s,x= .lst [.tup [.int w,.int h,.int s],aR q w h]/\q.Least w h s/\h<=720,⟨q,rfl,c7,λw h s L _ b=>⟨w,h,s,rfl,L,b⟩⟩,?_⟩
   rintro _ ⟨w',h',s',rfl,L',P2⟩;k_places
   have Qw:=L'.f.h0
   obtain⟨o1,o2⟩:=CY i7 c7 L L'
   refine⟨o1,?_⟩
   have te:t=(eq2s [.tup [.int w,.int h,.int s],aR p w h] [.tup [.int w',.int h',.int s'],aR q w' h']).all id:=by rw[FX,ht,o2]
   rw[<- te]
   refine ite2 (λ_=>⟨q,_,rfl,La,c7,λw2 h2 s2 L2 _ _ _=>?_⟩) (λc=>absurd (decide_eq_true rfl) c)
   obtain⟨rfl,rfl,rfl⟩:=L'.uniq L2
   exact⟨q,w',h',s',rfl,by omega,P2,hR⟩
end
local macro_rules | `(tactic| walk_at "b1") => `(tactic| exact zW λ_ _ _ _ _ _ _ => rfl)
local macro_rules | `(tactic| walk_at "b2") => `(tactic| exact bind2 λ_ _ _ _ _ _ _ _ => rfl)
local macro_rules | `(tactic| walk_at "b3") => `(tactic| exact bind3 λ_ _ _ _ _ _ _ _ _ => rfl)
local macro_rules | `(tactic| walk_at "b4") => `(tactic| exact bind4 λ_ _ _ _ _ _ _ _ _ _ => rfl)
local macro_rules | `(tactic| walk_at "b5") => `(tactic| exact bind5 λ_ _ _ _ _ _ _ _ _ _ _ => rfl)
structure TopIn(K:Ex):Prop where
 uGM:FnIn K "_law_at" ky
 uIA:FnIn K "_law_draws" kA
 uFT:FnIn K "_law_lines" kC
 uHY:FnIn K "_law_shift_pair" kE
 uGD:FnIn K "_law_motif_text" kG
 uEN:FnIn K "_law_motif" kI
 uGL:FnIn K "_law_wrapped" gZ
 uFR:FnIn K "_law_gcd" kL
 uHV:FnIn K "_law_on" kN
 uGP:FnIn K "_law_leaf_family" kP
 uGY:FnIn K "_law_in_family" kR
 uGZ:FnIn K "_law_both" kT
 uIG:FnIn K "_law_family" kW
 uGG:FnIn K "_law_over" kY
 uFB:FnIn K "_law_pattern" lf
 uEH:FnIn K "_law_word" hJ
 uIL:FnIn K "line_from" ly
 uFD:FnIn K "lines_from" lC
 uGX:FnIn K "number_from" lF
 uHX:FnIn K "shift_from" lH
 uGU:FnIn K "levelled" lK
 uFE:FnIn K "spread" lM
 uGE:FnIn K "home" lP
 uEL:FnIn K "hues_by_home" lR
 uII:FnIn K "motif_from" lY
 uET:FnIn K "over_from" hU
 uHQ:FnIn K "shifted_from" hV
 uIJ:FnIn K "rehue_from" hZ
 uIK:FnIn K "form_from" ia
 uGR:FnIn K "measure" mH
 uEU:FnIn K "met" mJ
 uFI:FnIn K "mirrored" mL
 uFA:FnIn K "turned" mN
 uEW:FnIn K "read" mQ
 uIB:FnIn K "refuse_far" mU
 uFF:FnIn K "cell_at" mW
 uGB:FnIn K "row_from" iE
 uHL:FnIn K "field_rows" iF
 uEG:FnIn K "measures" iG
 uHU:FnIn K "round_row" nj
 uEQ:FnIn K "changes_nothing" nt
 uFX:FnIn K "least_width" iH
 uFG:FnIn K "slant_at" nw
 uFS:FnIn K "least_shifts" iI
 uEK:FnIn K "least_form" iJ
 uHE:FnIn K "one_pattern" nB
 uEZ:FnIn K "_law_keeps" nD
 uEV:FnIn K "_law_least" nF
 uEY:FnIn K "_law_leaf_shows" nH
 uHK:FnIn K "_law_shows" nJ
 uFM:FnIn K "_law_table" iK
 uFW:FnIn K "_law_own" nM
 uHJ:FnIn K "_law_whole" nO
 uIE:FnIn K "_law_numbers" nQ
 uGF:FnIn K "_law_is_form" nS
 uGS:FnIn K "common_field" nV
 uGT:FnIn K "first_unlike" nX
 uGW:FnIn K "first_parting" nZ
 uGN:FnIn K "law" iL
 uIN:NnIn K "len"
 uGA:NnIn K "range"
 uIY:NnIn K "int"
 uIQ:NnIn K "str"
 uHF:NnIn K "list"
 uHP:NnIn K "abs"
 uHB:NnIn K "max"
 uIR:NnIn K "enumerate"
 uHC:NnIn K "min"
 uFO:NnIn K "tuple"
 uFQ:NnIn K "isinstance"
 uFC:NnIn K "bool"
 uBU:ClIn K "Reading"
 uBJ:ClIn K "Motif"
 uCI:ClIn K "Mirror"
 uCY:ClIn K "Turn"
 uCA:ClIn K "Over"
 uBR:ClIn K "Shifted"
 uBM:ClIn K "Rehue"
 uCR:ClIn K "Pattern"
 uEM:InIn K "Motif" "Motif.__init__" lV
 uHD:InIn K "Mirror" "Mirror.__init__" ma
 uGQ:InIn K "Turn" "Turn.__init__" mf
 uIX:InIn K "Over" "Over.__init__" mj
 uGJ:InIn K "Shifted" "Shifted.__init__" mn
 uHG:InIn K "Rehue" "Rehue.__init__" mv
 uFJ:InIn K "Reading" "Reading.__init__" mz
 uGC:InIn K "Pattern" "Pattern.__init__" mC
 uFL:MtIn K "Reading" "may_take" "Reading.may_take" lq
 uEX:MtIn K "Reading" "take" "Reading.take" lu
 uFN:MtIn K "Motif" "family" "Motif.family" ib
 uHW:MtIn K "Over" "family" "Over.family" ic
 uHO:MtIn K "Shifted" "family" "Shifted.family" ig
 uFU:MtIn K "Mirror" "family" "Mirror.family" ij
 uHM:MtIn K "Turn" "family" "Turn.family" il
 uIP:MtIn K "Rehue" "family" "Rehue.family" io
 uHI:MtIn K "Motif" "shows" "Motif.shows" iq
 uFP:MtIn K "Over" "shows" "Over.shows" ir
 uHN:MtIn K "Shifted" "shows" "Shifted.shows" iv
 uFK:MtIn K "Mirror" "shows" "Mirror.shows" iy
 uGK:MtIn K "Turn" "shows" "Turn.shows" iA
 uHR:MtIn K "Rehue" "shows" "Rehue.shows" iC
 uGV:NoIn K "Reading" "text"
 uHA:NoIn K "Reading" "place"
 uHZ:NoIn K "Motif" "place"
 uEJ:NoIn K "Motif" "shifts"
 uID:NoIn K "Motif" "hues"
 uFY:NoIn K "Mirror" "form"
 uIU:NoIn K "Turn" "form"
 uIV:NoIn K "Over" "above"
 uES:NoIn K "Over" "below"
 uEI:NoIn K "Shifted" "form"
 uIW:NoIn K "Shifted" "x"
 uHS:NoIn K "Shifted" "y"
 uER:NoIn K "Rehue" "form"
 uIO:NoIn K "Rehue" "old"
 uIM:NoIn K "Rehue" "new"
 uIC:NoIn K "Pattern" "text"
 uFZ:NoIn K "Pattern" "shifts"
 uEO:NoIn K "Pattern" "form"
 uGO:CsIn K "SIGNS" ".123456"
 uIF:CiIn K "LONGEST" 8
 uIH:CiIn K "DEEP" 5
 uEP:CiIn K "MOST" 720
 uFV:CiIn K "FAR" 1000000000000
 eb:EbIn K
 uZ:E1In K "WrongSign" "WrongSign.__init__" lm
 uAS:EaIn K "WrongSign"
 uIS:NoIn K "WrongSign" "place"
 uAH:E1In K "OneLine" "OneLine.__init__" mF
 uBB:EaIn K "OneLine"
 uHH:NoIn K "OneLine" "place"
 uFH:E0In K "TooGreat"
 uEF:E0In K "TooFar"
 uIT:EiIn K "MotifError"
theorem EF{V:Bx}{h:Heap}(t:TopIn V.K)(X:V.K.In h)(G:h.Ns mainGlobals V.mg){fa:Addr}{fd:FuncData}(F:Fun V.K "law" "law" iL fa fd):FnOk V.P V.w V.K V.mg V.base (Exc.CX1 V.P V.w) 20 fa fd oe (lSp V.K eJ):=by
 have uB:=mg_none_of X G t.uIN
 have uA:=mg_none_of X G t.uGA
 have uD:=mg_none_of X G t.uIY
 have uK:=mg_none_of X G t.uIQ
 have Mi:=mg_none_of X G t.uHF
 have uM:=mg_none_of X G t.uHP
 have IN:=mg_none_of X G t.uHB
 have IS:=mg_none_of X G t.uIR
 have Ju:=mg_none_of X G t.uHC
 have uW:=mg_none_of X G t.uFO
 have uL:=mg_none_of X G t.uFQ
 have Jz:=mg_none_of X G t.uFC
 have Ii:=t.uBU.a t.uGV
 have uE:=t.uBU.a t.uHA
 have Ij:=t.uBJ.a t.uHZ
 have uJ:=t.uBJ.a t.uEJ
 have Ik:=t.uBJ.a t.uID
 have uQ:=t.uCI.a t.uFY
 have uO:=t.uCY.a t.uIU
 have uS:=t.uCA.a t.uIV
 have uN:=t.uCA.a t.uES
 have uR:=t.uBR.a t.uEI
 have Il:=t.uBR.a t.uIW
 have Im:=t.uBR.a t.uHS
 have uP:=t.uBM.a t.uER
 have Io:=t.uBM.a t.uIO
 have Ip:=t.uBM.a t.uIM
 have MY:=t.uCR.a t.uIC
 have uU:=t.uCR.a t.uFZ
 have Jq:=t.uCR.a t.uEO
 have uV:=t.uGO.g X G
 have K3:=t.uIF.g X G
 have Kn:=t.uIH.g X G
 have Jr:=t.uEP.g X G
 have M7:=t.uFV.g X G
 have uAS:=t.uZ.a t.eb t.uAS X G
 have MD:=t.uIS.all
 have uBB:=t.uAH.a t.eb t.uBB X G
 have MZ:=t.uHH.all
 have Js:=t.uFH.k t.eb X G
 have M8:=t.uEF.k t.eb X G
 have Jn:=t.uIT.b X G
 have uY:iO V:=CZ (t.uGM.tx X G (by walk_at "b2")) uB
 have Jf:iP V:=C0 (t.uIA.tx X G (by walk_at "b3")) uA uY
 have Mf:og V:=C1 (t.uFT.tx X G (by walk_at "b1")) uA uB
 have Mg:oh V:=C3 (t.uHY.tx X G (by walk_at "b1")) uD
 have Mh:oi V:=C4 (t.uGD.tx X G (by walk_at "b3")) uK
 have K0:oj V:=C5 (t.uEN.tx X G (by walk_at "b2")) Jf Mf Mg Mh
 have IP:iQ V:=C6 (t.uGL.tx X G (by walk_at "b2")) uK Mi uD
 have Jj:iR V:=C7 (t.uFR.tx X G (by walk_at "b2")) uM
 have Jk:iS V:=C8 (t.uHV.tx X G (by walk_at "b4"))
 have KW:ol V:=C9 (t.uGP.tx X G (by walk_at "b1")) uM Jj Jk
 have Mt:om V:=Da (t.uGY.tx X G (by walk_at "b3"))
 have MB:oq V:=Db (t.uGZ.tx X G (by walk_at "b2")) Jj Mt
 have Jl:iT V:=Dc (t.uIG.tx X G (by walk_at "b1")) KW MB
 have K1:ot V:=Dd (t.uGG.tx X G (by walk_at "b2")) IN Jl
 have No:ou V:=De (t.uFB.tx X G (by walk_at "b2")) uA Jf K0 IP K1
 have Np:ow V:=Dh (t.uEH.tx X G (by walk_at "b1")) uA uY
 have uZ:iU V:=Di (t.uZ.txe t.eb X G (by walk_at "b2")) Jn uAS MD
 have uH:du V:=Dj (t.uFL.txm t.uBU (by walk_at "b2")) uB Ii uE
 have uC:cI V:=Dk (t.uEX.txm t.uBU (by walk_at "b2")) uE uH uZ
 have K2:oy V:=Dl (t.uIL.tx X G (by walk_at "b3")) uA uV uC uH
 have MK:oz V:=Dm (t.uFD.tx X G (by walk_at "b1")) uB K2 K3 uH
 have K5:oA V:=Dn (t.uGX.tx X G (by walk_at "b1")) uD uH uC
 have uX:fT V:=Do (t.uHX.tx X G (by walk_at "b1")) K5 uC
 have Jo:iV V:=Dp (t.uGU.tx X G (by walk_at "b2"))
 have Jp:iW V:=Dq (t.uFE.tx X G (by walk_at "b2")) uM Jo
 have uT:fo V:=Dr (t.uGE.tx X G (by walk_at "b3"))
 have MJ:oB V:=Ds (t.uEL.tx X G (by walk_at "b2")) IS uT uV
 have ML:oC V:=Dt (t.uEM.txi X G (by walk_at "b5")) Jp MJ Ij uJ Ik
 have Km:iX V:=Du (t.uII.tx X G (by walk_at "b1")) MK uX uE ML uC
 have Ko:iY V:=Dv (t.uHD.txi X G (by walk_at "b2")) uQ
 have Kp:iZ V:=Dw (t.uGQ.txi X G (by walk_at "b2")) uO
 have Kj:ja V:=Dx (t.uIX.txi X G (by walk_at "b3")) uS uN
 have Kk:jb V:=Dy (t.uGJ.txi X G (by walk_at "b4")) uR Il Im
 have Kl:jc V:=Dz (t.uHG.txi X G (by walk_at "b4")) uP Io Ip
 have uI:uf V:=DG (t.uET.tx X G (by walk_at "b2")) (t.uHQ.tx X G (by walk_at "b2")) (t.uIJ.tx X G (by walk_at "b2")) (t.uIK.tx X G (by walk_at "b2")) Kj uC uX Kk uD Kl Km Kn Ko Kp uH 6
 have M4:oE V:=DJ (t.uFJ.txi X G (by walk_at "b2")) Ii uE
 have M5:oF V:=DK (t.uGC.txi X G (by walk_at "b4")) MY uU Jq
 have uAH:jd V:=DL (t.uAH.txe t.eb X G (by walk_at "b2")) Jn uBB MZ
 have Kr:oG V:=DM (t.uGR.tx X G (by walk_at "b2")) Jo
 have Iq:fU V:=DN (t.uEU.tx X G (by walk_at "b2")) Kr
 have Kt:je V:=DO (t.uFI.tx X G (by walk_at "b1"))
 have Ku:jg V:=DP (t.uFA.tx X G (by walk_at "b1")) Jp
 have uG:uh V:=DZ (t.uFN.txm t.uBJ (by walk_at "b1")) (t.uHW.txm t.uCA (by walk_at "b1")) (t.uHO.txm t.uBR (by walk_at "b1")) (t.uFU.txm t.uCI (by walk_at "b1")) (t.uHM.txm t.uCY (by walk_at "b1")) (t.uIP.txm t.uBM (by walk_at "b1")) uJ Ij uAH Iq uS uN uR Kt uQ Ku uO uP 6
 have K9:oH V:=D0 (t.uEW.tx X G (by walk_at "b1")) uB uI Jr uE M4 M5 uG uZ Js
 have M9:oI V:=D1 (t.uIB.tx X G (by walk_at "b2")) IN uM M7 M8
 have uF:ui V:=D7 (t.uHI.txm t.uBJ (by walk_at "b3")) (t.uFP.txm t.uCA (by walk_at "b3")) (t.uHN.txm t.uBR (by walk_at "b3")) (t.uFK.txm t.uCI (by walk_at "b3")) (t.uGK.txm t.uCY (by walk_at "b3")) (t.uHR.txm t.uBM (by walk_at "b3")) uT Ik uJ uS uN uR Im Il uQ uO uP Io Ip 6
 have IV:jh V:=D8 (t.uFF.tx X G (by walk_at "b3")) M9 Jq uF
 have Jt:ji V:=D9 (t.uGB.tx X G (by walk_at "b4")) uA IV uV
 have Nb:oJ V:=Ea (t.uHL.tx X G (by walk_at "b1")) uA Jt uU
 have Jv:C_measures V:=Eb (t.uEG.tx X G (by walk_at "b1")) uA
 have M_:oK V:=Ec (t.uHU.tx X G (by walk_at "b4")) uT
 have Jw:jj V:=Ed (t.uEQ.tx X G (by walk_at "b4")) IS M_
 have Nc:oM V:=Ee (t.uFX.tx X G (by walk_at "b2")) Ju Jv Jw
 have K6:oN V:=Ef (t.uFG.tx X G (by walk_at "b4")) uA Jw
 have IY:jk V:=Eg (t.uFS.tx X G (by walk_at "b1")) Ju Nb Nc Jv K6 uU
 have Ir:jl V:=Eh (t.uEK.tx X G (by walk_at "b1")) uA uW IY Jt
 have Nq:oO V:=Ej (t.uHE.tx X G (by walk_at "b2")) Ir
 have K7:oP V:=Ek (t.uEZ.tx X G (by walk_at "b4")) uA
 have Nj:oQ V:=El (t.uEV.tx X G (by walk_at "b2")) K7
 have Nh:oR V:=Em (t.uEY.tx X G (by walk_at "b3")) uA uB uD Jk
 have Ni:oS V:=En (t.uHK.tx X G (by walk_at "b3")) Nh
 have K8:oU V:=Eo (t.uFM.tx X G (by walk_at "b2")) uA Ni
 have K':oV V:=Er (t.uFW.tx X G (by walk_at "b1")) Jl Nj K8
 have Nk:oW V:=Es (t.uHJ.tx X G (by walk_at "b1")) uL Jz uD
 have Nl:oX V:=Et (t.uIE.tx X G (by walk_at "b2")) uB uL uW uA Nk
 have K_:oY V:=Ev (t.uGF.tx X G (by walk_at "b2")) uB uL uW uA uK Nl
 have Nm:oZ V:=Ey (t.uGS.tx X G (by walk_at "b2")) Iq IY Jr Js
 have Nn:pd V:=EA (t.uGT.tx X G (by walk_at "b4")) uA IV
 have Nr:pe V:=EC (t.uGW.tx X G (by walk_at "b2")) Nm Nn
 exact EE F uL Jz No Np IP K9 Nq K' K_ Ir Nr
theorem all_mk{l:GR}{w:World}{K:Ex}{h:Heap}{mg:Str->Option Value}{fa:Addr}(X:K.In h)(G:h.Ns mainGlobals mg)(J6:mg "law"=some (.ref fa))(t:TopIn K):
  ∃ fd:FuncData,(∀ (s:Shared) (v:Value),BindsTo s fd ⟨[v],[]⟩ [("_law_script",v)])/\∀ base:Heap,K.In base->base.Ns mainGlobals mg->FnOk l.prog w K mg base (Exc.CX1 l.prog w) 20 fa fd ["_law_script"] (lSp K eJ):=by
 obtain⟨fd,b,F⟩:=t.uGN.law X G J6 (λ_ _ _ _ _ _ _=>rfl)
 exact⟨fd,b,λbase _ _=>EF (V:=⟨l.prog,w,K,mg,base⟩) t X G F⟩
theorem law_walk{l:GR}{q:Program}{j3:List Str}{XP:(Str->Option Value)->Heap->Prop}{YP:World->Heap->Prop}{d:DefRec}{K:Params->Ex}(hn:l.most=some 63)(JJ:d.params.defaults=[])
  (hY:∀ (w:World) (h:Heap),YP w h->(K w.params).In h)
  (F:∀ (w:World) (mg:Str->Option Value) (fa:Addr) (h:Heap),(K w.params).In h->h.Ns mainGlobals mg->mg d.name=some (.ref fa)->
   ∃ fd:FuncData,(∀ (s:Shared) (u:Value),BindsTo s fd ⟨[u],[]⟩ [("_law_script",u)])/\∀ base:Heap,(K w.params).In base->base.Ns mainGlobals mg->FnOk l.prog w (K w.params) mg base (Exc.CX1 l.prog w) 20 fa fd ["_law_script"] (lSp (K w.params) eJ)):
  Hk q j3 XP YP l.row.toRowW d [] (λf vs=>PySem.call f vs):=
 L2.walk_of (n:=63) (k:=20) (x:="_law_script") (CX:=λw=>Exc.CX1 l.prog w) (sp:=λw=>lSp (K w.params) eJ) hn (by decide) JJ ⟨rfl,by decide,by decide⟩ hY F (λ_ _ a ns hl _ hS=>xX hl hS) λ_ _ _ _ _ ⟨_,_,_,_,_,_,_,_,_,_,_,_,_,_,_,z⟩=>z
end My
open PySem PySem.W PyProof.Rows
local macro_rules | `(tactic| walk_at "top") => `(tactic| first | ((with_reducible refine' My.fnIn_mk ?a ?l ?c ?k); (case a => k_is); (case l => k_is); (case c => k_is); (case k => k_is)) | ((with_reducible refine' My.nnIn_mk ?a); (case a => k_is)) | ((with_reducible refine' My.noIn_mk ?a ?b); (case a => k_is); (case b => k_is)) | ((with_reducible refine' My.mtIn_mk ?a ?b ?i ?l ?c ?k); (case a => k_is); (case b => k_is); (case i => k_is); (case l => k_is); (case c => k_is); (case k => k_is)) | ((with_reducible refine' My.inIn_mk ?a ?mk ?b ?i ?kp ?l ?c ?k); (case a => k_is); (case mk => k_is); (case b => k_is); (case i => k_is); (case kp => k_is); (case l => k_is); (case c => k_is); (case k => k_is)) | ((with_reducible refine' My.clIn_mk ?a ?pg ?hd ?po ?sa ?ha ?hn ?ht ?hm); (case a => k_is); (case pg => k_is); (case hd => k_is); (case po => k_is); (case sa => k_is); (case ha => k_is); (case hn => k_is); (case ht => k_is); (case hm => k_is)) | ((with_reducible refine' My.ciIn_mk ?a); (case a => k_is)) | ((with_reducible refine' My.csIn_mk ?a); (case a => k_is)) | ((with_reducible refine' My.ebIn_mk ?a ?kp ?o ?nk ?al ?ni); (case a => k_is); (case kp => k_is); (case o => k_is); (case nk => k_is); (case al => rfl); (case ni => k_is)) | ((with_reducible refine' My.e0In_mk ?b ?a ?kp ?o ?nk ?al ?ni); (case b => k_is); (case a => k_is); (case kp => k_is); (case o => k_is); (case nk => k_is); (case al => rfl); (case ni => k_is)) | ((with_reducible refine' My.e1In_mk ?b ?a ?kp ?o ?j ?i ?l ?c ?k); (case b => k_is); (case a => k_is); (case kp => k_is); (case o => k_is); (case j => k_is); (case i => k_is); (case l => k_is); (case c => k_is); (case k => k_is)) | ((with_reducible refine' My.eaIn_mk ?a ?b); (case a => k_is); (case b => k_is)) | ((with_reducible refine' My.eiIn_mk ?a ?b ?c ?d); (case a => k_is); (case b => k_is); (case c => k_is); (case d => k_is)))
set_option maxRecDepth 100000 in
set_option maxHeartbeats 0 in
theorem PySem.Challenge.cw_motiffield_k41_whole_brought_back_holds : PySem.Challenge.rw_motiffield_k41_whole_brought_back.Holds := by
  w_on; o_law; k_head; (case hw => w_witness2)
  k_fill
  refine My.law_walk (l := PySem.Challenge.rw_motiffield_k41_whole_brought_back) rfl rfl (λw h Y => kIn_of Y) ?F
  case F =>
    intro w mg fa h KX G k_
    refine My.all_mk KX G k_ ?_
    constructor
    all_goals walk_at "top"
end
