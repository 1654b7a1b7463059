import PyProof.Rows.All
import Wide.All
import OpenK.AllK
import Wide.FinOn
import Lean
import PyProof.EqAt
import PyProof.EqKinds
import PyProof.TupleCall
import PySem.Challenge.RW_motiffield_k11_too_great
set_option Elab.async false
set_option linter.all false
set_option maxRecDepth 100000
set_option maxHeartbeats 4000000
open PySem.W renaming Frag->Ax,findIn->AD,mroIn->Bc,OpenLaw->B9,clsIn->Cf,WalkO->CB
open List renaming mem_singleton->Ay,mem_cons->AA,length_cons->AB,mem_cons_of_mem->AC,mem_cons_self->AE,length_map->AH,length_append->AI,mem_append_right->AJ,size_toArray->AM,getElem?_eq_some_iff->AN,map_cons->AO,getElem?_set_ne->AQ,lookup_cons->AR,set_cons_succ->AS,set_cons_zero->AT,mem_append->AW,getElem?_eq_getElem->AX,mem_map->A1,getElem?_map->A2,append_assoc->A7,append_nil->A8,range->Ba,getElem?_set_self->Bb,cons_append->Be,mem_append_left->Bf,nodup_cons->Bg,getElem?_append_left->Bh,lookup->Bm,map_append->Bo,replicate->Bt,getElem?_append_right->Bu,any_cons->Bv,find?_cons->Bw,getElem_mem->By,all_eq_true->Bz,length->BB,all_cons->BC,map_nil->BD,length_nil->BE,getElem?_set->BF,length_set->BG,getD->BH,nodup_append->BJ,not_mem_nil->BL,filterMap_cons->BO,getElem?_eq_none->BV,take_length->BY,of_mem_zip->B4,length_take->B5,getElem?_replicate->B6,mem_of_getElem?->B7,length_drop->B8,contains_cons->Ca,map->Cd,ext_getElem?->Ce,eq_nil_of_length_eq_zero->Cg,mem_filter->Ct,mem_filterMap->Cw,nodup_nil->CF,forIn_cons->CI,dropLast_cons₂->CM,nil_append->C1,drop_eq_getElem_cons->C4,mem_of_mem_drop->Dc,drop_length->Dd
open Nat renaming le_refl->Az,ne_of_lt->AF,le_trans->AK,lt_of_lt_of_le->AV,zero_le->AY,pow_succ->A5,pow_le_pow_right->Bd,pow_pos->Bk,ne_of_gt->Bl,le_succ->Bn,lt_irrefl->Bs,lt_or_ge->BI,le_of_lt->BN,le_of_eq->BQ,mul_le_mul->BT,zero_add->B2,le_max_left->Co,le_max_right->Cp,pow_add->Cq,lt_succ_self->Cy,le_of_not_lt->CA,lt_of_le_of_lt->CC,lt_trans->CD,log2_lt->CG,lt_succ_of_lt->CJ,add_sub_add_right->CK,succ_ne_self->CN,not_lt_zero->CO,add_sub_cancel->C0
open Bool renaming false_ne_true->AG,and_eq_true->AZ,eq_false_iff->A6,eq_iff_iff->BP,or_true->BR
open Int renaming mul_pos->AL,mul_le_mul_of_nonneg_right->AU,mul_ediv_cancel->A3,mul_comm->A9,mul_nonpos_of_nonpos_of_nonneg->Bi,mul_neg->Bj,natAbs_mul->Bp,emod_def->Bq,neg_mul->Br,eq_of_mul_eq_mul_right->BA,mul_eq_zero->BK,toNat_of_nonneg->BM,mul_le_mul_of_nonneg_left->BU,dvd_mul_of_dvd_right->BW,zero_mul->BX,add_zero->BZ,lt_trichotomy->B0,neg_add->B1,le_trans->B3,mul_nonneg->Ch,emod_nonneg->Ci,emod_lt_of_pos->Cj,mul_emod_left->Ck,fmod_eq_zero_of_dvd->Cl,eq_of_mul_eq_mul_left->Cm,dvd_add->Cn,mul_neg_of_neg_of_pos->Cr,natAbs_eq_zero->CH,le_total->CP,fmod_nonneg_of_pos->CQ,fmod_lt_of_pos->CS,dvd_mul_of_dvd_left->CT,mul_fdiv_cancel_of_fmod_eq_zero->CU,dvd_antisymm->CV,sub_zero->CW,emod_add_mul_ediv->CY,mul_le_mul->CZ,dvd_add_left->C5,dvd_mul_right->C6,add_assoc->C7,sub_eq_add_neg->C8,mul_zero->C9,neg_neg->Da,add_comm->Db
open Array renaming getElem?_eq_some_iff->BS,append_assoc->Cs,length_toList->Cu,all_toList->CL,toList_inj->C3
open Option renaming bind_some->Cb,getD_none->Cz
open PySem.W (InitBack any_some callWith_K callWith_K0 cellsFrom_some cls_value codeIn codeRec_of emptyDict eq_bytes findCls findObj_own fnOf get_value handedIn hasDictIn hideAll hideAll_get hideAll_none hideAll_size instObj isFn isNs_of_in kIn_of keepIn kia_one kitOne kitx_bool kitx_dict kitx_float kitx_int kitx_list kitx_none kitx_own kitx_str kitx_tuple kun_itemsOf len_bytes lookIn make_core makesIn makes_of methodCall_KW methodObj method_cls method_fn mg_none_of mg_of ne_bytes nsIn nsMap_none_of_in nsOkIn of_hideAll osa_open plainGet plainGet_of plainOver readsIn specialIn tailIn tail_of_in takerIn takesIn truthy_bytes)
namespace PySem.W.Fast
def tw14817175138480314697:=()
def tw3525425253076008708:=()
def tw4645776935248003715:=()
def tw13762370255480744032:=()
def tw2161525076043996419:=()
def tw4660771600402193180:=()
def tw9092413439055281524:=()
def tw8136589769885016425:=()
def tw8296307348991033030:=()
def tw10051973429339786940:=()
def tw8271174049198018389:=()
def tw12148533125751107991:=()
def tw12704743968131988957:=()
def tw807650750782827166:=()
def tw8152760029229402525:=()
def tw16035009675457617045:=()
def tw4212330463536018671:=()
def tw14241628515517924495:=()
def tw8262118302140963372:=()
def tw16732710530732358549:=()
def tw2370003482749076702:=()
def tw9057590752558841201:=()
def tw1691526181069824046:=()
def tw11062880446685523725:=()
def tw16718161540151776177:=()
def tw15813103957134500197:=()
def tw1760820716813432179:=()
def tw11604761199021625579:=()
def tw8136266662852162251:=()
def tw5382065176185392546:=()
def tw15599914168733057478:=()
def tw15195753385020599746:=()
def tw6210206844293791628:=()
def tw15538857582606264384:=()
def tw9673794023841933007:=()
def tw15946758532263604819:=()
def tw2264937347664922477:=()
def tw17656807360647654505:=()
def tw9444618220382515647:=()
def tw4755951604775888187:=()
def tw2401514970774636093:=()
def tw9384363872790120513:=()
def tw8417840949482398309:=()
def tw5605663098327509107:=()
def tw10392769503225637821:=()
def tw2952232906253212286:=()
def tw5687588845668960303:=()
def tw17634349826493254645:=()
def tw4089276838723173781:=()
def tw2558114397034407778:=()
def tw15298863437793718764:=()
def tw11608779184870012834:=()
def tw7475734580443173626:=()
def tw11066390549693498581:=()
def tw6332560688651280611:=()
def tw3861985074005010258:=()
def tw6593492287895151834:=()
def tw5006296588451072620:=()
def tw8329548331574453268:=()
def tw1035161423399923644:=()
def tw3942823237125650023:=()
def tw12849814190990332373:=()
def tw3534061340746595337:=()
def tw12506055145279727428:=()
def tw12237334642271581767:=()
def tw6186869809304725355:=()
def tw10895294729042478300:=()
def tw523346984120097227:=()
def tw925131610694346990:=()
def tw9436121900214600792:=()
def tw17199114805508176396:=()
def tw5500590757646467499:=()
def tw15707176403302185323:=()
def tw3889012720705607573:=()
def tw12890282443407238796:=()
def tw4170791468106972340:=()
def tw6290548407360940900:=()
def tw16565841319307754198:=()
def tw12899532239800544496:=()
def tw14411705819215988692:=()
def tw3304766359321811511:=()
def tw4724564897951352942:=()
def tw1602980127563017539:=()
def tw14202445261721784516:=()
def tw13578646092319699972:=()
def tw13148466084111850371:=()
def tw10375223574819675429:=()
def tw6610640757819810645:=()
def tw16586313372126174852:=()
def tw3702357365285651187:=()
def tw11921868364696520197:=()
def tw6654273495579709643:=()
def tw17491659612981178540:=()
def tw3198627781459289761:=()
def tw1731679712219324255:=()
def tw16932824606645042105:=()
def tw4127783112272224417:=()
def tw6221327750735905779:=()
def tw1878117607858547450:=()
def tw7198659960415959049:=()
def tw7913384852072216899:=()
def tw9213718392847419383:=()
def tw2130316534244961773:=()
def tw14830781001324058549:=()
def tw519154841044952301:=()
def tw4256420472173396992:=()
def tw5956636504645386184:=()
def tw15172132383113615350:=()
def tw15595979382116792245:=()
def tw12797351176168889696:=()
def tw9210394469641265141:=()
def tw6493342792566637457:=()
def tw1417783385967902455:=()
def tw3469181269905293348:=()
def tw432548587278239108:=()
def tw10482941822350962898:=()
def tw17884278673367448122:=()
def tw13607487016007556094:=()
def tw1002069020670030729:=()
def tw5072791768366529874:=()
def tw7798173244700994939:=()
def tw18233622324975758512:=()
def tw12497110766080180773:=()
def tw14649185687950137759:=()
def tw12139794438049738875:=()
def tw3134548044109307024:=()
def tw8739560002591547258:=()
def tw2744831315487361493:=()
def tw7075114246771322823:=()
def tw11513224199212998180:=()
def tw17423811837685496220:=()
def tw12766306994215250416:=()
def tw11497941191302730126:=()
def tw12083537036973467104:=()
def tw18229351812106346094:=()
def tw18406125374380075073:=()
def tw12792731776076125792:=()
def tw13263893038971840301:=()
def tw5374986652357458408:=()
def tw14190832782426998877:=()
def tw9099955772097202372:=()
def tw17009214544321391898:=()
def tw5417024817593127393:=()
def tw15471723071907126499:=()
def tw8906830102392604477:=()
def tw3043232530885238840:=()
def tw8669101666079589267:=()
def tw8408950101662359570:=()
def tw9110016934888977779:=()
def tw16584466432527551863:=()
def tw9874118589334122777:=()
def tw4774434844030799165:=()
def tw7605916069000400726:=()
def tw4355890044712068064:=()
def tw975863010253986006:=()
def tw16042475596718988676:=()
def tw7962905260383848759:=()
def tw16121823418743218431:=()
def tw5230785947425773:=()
def tw4103725829449028225:=()
def tw13412210403074362226:=()
def tw12397601428184662376:=()
def tw2736443198510112406:=()
def tw11532647549613760976:=()
def tw6935237167001660650:=()
def tw15278216667895806184:=()
def tw15781730041733059537:=()
def tw13309668211810061416:=()
def tw13522063648903029696:=()
def tw12480667593759093748:=()
def tw1520193176095897002:=()
def tw1529663788142783487:=()
def tw16808559382032792441:=()
def tw12441981838305590321:=()
def tw11083056357026623357:=()
def tw67996455511006663:=()
def tw17382725708237755215:=()
def tw14302845278497128250:=()
def tw18236672234029786067:=()
def tw9344211050970178386:=()
def tw11719934664483920317:=()
def tw11976029669359474681:=()
def tw5698712274643286210:=()
def tw5624196511257502712:=()
def tw724927563076064432:=()
def tw8847166561009349233:=()
def tw13135896119150616179:=()
def tw2192928881255744265:=()
def tw15372866985204631470:=()
def tw15800713425449858006:=()
def tw18294131246154992403:=()
def tw11017183461135983682:=()
def tw431264945009827695:=()
def tw8874797225461555393:=()
def tw8954772163257636700:=()
def tw4452080812886528314:=()
def tw14465059560525250566:=()
def tw15508027434123507546:=()
def tw18260611509391374063:=()
def tw13743649913237726573:=()
def tw9264042674211727446:=()
def tw16186381001943008682:=()
def tw3952351953770653151:=()
def tw15057381345818943881:=()
def tw9247133212205007223:=()
def tw3123881188290366566:=()
def tw1923344910501919686:=()
def tw4176889711244427471:=()
def tw17069731209989901922:=()
def tw14933140346584654312:=()
def tw3889649838829408487:=()
def tw12800597559695872583:=()
def tw4237880795912970967:=()
def tw16243698757455068030:=()
def tw11537673487332259282:=()
def tw15987504391057961789:=()
def tw4230013488847612755:=()
def tw2518803443341501727:=()
def tw400631658565747680:=()
def tw15571949840199037592:=()
def tw17338204408742538020:=()
def tw5782039708835720393:=()
def tw11855773422335887568:=()
def tw13749316542571610916:=()
def tw12791051141290722461:=()
def tw10598525368839980498:=()
def tw13037834641849899856:=()
def tw13586522704246591263:=()
def tw17710956642613636756:=()
def tw5213551963406720231:=()
def tw10835876268548333637:=()
def tw6312588099855933998:=()
def tw3167751384421543814:=()
def tw14228737756016349259:=()
def tw17688118945116059641:=()
def tw6277291536140539721:=()
def tw10074031592848064484:=()
def tw13623141868257719910:=()
def tw2126781524815175461:=()
end PySem.W.Fast
section
namespace L2
open PySem PySem.Spec PyProof.Rows
abbrev Key:=Sum Int Str
def de:Key->Value->Bool
 | .inl k,v=>Value.isInt k v
 | .inr x,v=>Value.isStrOf x v
def keyH(w:World):Key->Int
 | .inl k=>hashInt k
 | .inr x=>hashStr w x
theorem keyIs_shape:∀ {k:Key} {v:Value},de k v=true->(∃ i t,k=Sum.inl i/\v=Value.int i t)\/(∃ x t,k=Sum.inr x/\v=Value.str x t)
 | .inl i,v,h=>by
  obtain⟨t,e⟩:=Value.isInt_shape (k:=i) (v:=v) h
  exact .inl ⟨i,t,rfl,e⟩
 | .inr x,v,h=>by
  obtain⟨t,e⟩:=Value.isStrOf_shape (x:=x) (v:=v) h
  exact .inr ⟨x,t,rfl,e⟩
theorem pP(i:Int)(t:Tok):de (.inl i) (.int i t)=true:=by simp[de,Value.isInt]
theorem pQ(x:Str)(t:Tok):de (.inr x) (.str x t)=true:=by simp[de,Value.isStrOf]
theorem pR(a b:Int):decide ((Sum.inl a:Key)=Sum.inl b)=(a==b):=by
 by_cases e:a=b
 ·subst e;simp
 ·have h:¬ (Sum.inl a:Key)=Sum.inl b:=λq=>e (Sum.inl.inj q)
  rw[decide_eq_false h]
  exact(beq_eq_false_iff_ne.mpr e).symm
theorem pS(a b:Str):decide ((Sum.inr a:Key)=Sum.inr b)=decide (a=b):=by
 by_cases e:a=b
 ·subst e;simp
 ·have h:¬ (Sum.inr a:Key)=Sum.inr b:=λq=>e (Sum.inr.inj q)
  rw[decide_eq_false h,decide_eq_false e]
theorem pT(a:Int)(b:Str):decide ((Sum.inl a:Key)=Sum.inr b)=false:=decide_eq_false (λq=>nomatch q)
theorem pU(a:Str)(b:Int):decide ((Sum.inr a:Key)=Sum.inl b)=false:=decide_eq_false (λq=>nomatch q)
def bG(prog:Program)(w:World):PySem.KeyKind prog w Key where
 is:=de
 hash:=keyH w
 inj:=λv a b ha hb=>by
  rcases keyIs_shape ha with⟨i,t,rfl,rfl⟩|⟨x,t,rfl,rfl⟩
  ·rcases keyIs_shape hb with⟨j,u,rfl,e⟩|⟨y,u,rfl,e⟩
   ·injection e with e1 _;rw[e1]
   ·exact nomatch e
  ·rcases keyIs_shape hb with⟨j,u,rfl,e⟩|⟨y,u,rfl,e⟩
   ·exact nomatch e
   ·injection e with e1 _;rw[e1]
 byValue:=λk v h=>by
  rcases keyIs_shape h with⟨i,t,rfl,rfl⟩|⟨x,t,rfl,rfl⟩<;>rfl
 pyHash:=λhv h=>by
  rcases keyIs_shape hv with⟨i,t,rfl,rfl⟩|⟨x,t,rfl,rfl⟩
  ·exact wpAny_pyHash_int h
  ·exact wpAny_pyHash_str h
 eqBool:=λhu hv h=>by
  rcases keyIs_shape hu with⟨i,t,rfl,rfl⟩|⟨x,t,rfl,rfl⟩
  ·rcases keyIs_shape hv with⟨j,u,rfl,rfl⟩|⟨y,u,rfl,rfl⟩
   ·rw[pR] at h;exact wpAny_eqBool_int h
   ·rw[pT] at h;exact SeqAt.EqAt.int_str i t y u _ _ _ _ h
  ·rcases keyIs_shape hv with⟨j,u,rfl,rfl⟩|⟨y,u,rfl,rfl⟩
   ·rw[pU] at h;exact SeqAt.EqAt.str_int x t j u _ _ _ _ h
   ·rw[pS] at h;exact wpAny_eqBool_str h
 «strs»:=λk x t v h=>by
  rcases keyIs_shape h with⟨i,u,rfl,e⟩|⟨y,u,rfl,e⟩
  ·exact nomatch e
  ·injection e with e1 _
   subst e1
   cases v<;>rfl
theorem mixKind_int(prog:Program)(w:World)(i:Int)(t:Tok):(bG prog w).is (.inl i) (.int i t)=true:=pP i t
theorem pV(prog:Program)(w:World)(x:Str)(t:Tok):(bG prog w).is (.inr x) (.str x t)=true:=pQ x t
inductive V where
 |non|bl (b:Bool)|int (i:Int)|str (x:Str)|byt (b:Array UInt8)|flt (b:UInt64)|ref (a:Addr)|ty (n:String)
 deriving DecidableEq
def RelV:V->Value->Prop
 | .non,u=>u=Value.none
 | .bl b,u=>u=Value.bool b
 | .int i,u=>∃ t,u=Value.int i t
 | .str x,u=>∃ t,u=Value.str x t
 | .byt b,u=>∃ t,u=Value.bytes b t
 | .flt b,u=>∃ t,u=Value.float b t
 | .ref a,u=>u=Value.ref a
 | .ty n,u=>u=Value.type n
abbrev Vals:List V->List Value->Prop:=Paired RelV
theorem Vals.length{xs:List V}{us:List Value}(r:Vals xs us):xs.length=us.length:=Paired.length r
theorem Vals.get:∀ {xs:List V} {us:List Value} {i:Nat} {x:V},Vals xs us->xs[i]?=some x->∃ u,us[i]?=some u/\RelV x u
 |_,_,_,_,.nil,e=>by simp at e
 |_,_,0,_,.cons r _,e=>by simp at e;subst e;exact⟨_,rfl,r⟩
 |_,_,i+1,x,.cons _ t,e=>by
  obtain⟨u,h1,h2⟩:=Vals.get (i:=i) (x:=x) t (by simpa using e)
  exact⟨u,by simpa using h1,h2⟩
theorem Vals.set{x:V}{u:Value}(r:RelV x u):∀ {xs:List V} {us:List Value} (i:Nat),Vals xs us->Vals (xs.set i x) (us.set i u)
 |_,_,_,.nil=> .nil
 |_,_,0,.cons _ t=> .cons r t
 |_,_,i+1,.cons q t=> .cons q (Vals.set r i t)
theorem Vals.append:∀ {xs ys:List V} {us ws:List Value},Vals xs us->Vals ys ws->Vals (xs++ys) (us++ws)
 |_,_,_,_,.nil,s=>s
 |_,_,_,_,.cons r t,s=> .cons r (Vals.append t s)
theorem Vals.take:∀ {xs:List V} {us:List Value} (n:Nat),Vals xs us->Vals (xs.take n) (us.take n)
 |_,_,0,_=> .nil
 |_,_,_+1,.nil=> .nil
 |_,_,n+1,.cons r t=> .cons r (Vals.take n t)
theorem Vals.drop:∀ {xs:List V} {us:List Value} (n:Nat),Vals xs us->Vals (xs.drop n) (us.drop n)
 |_,_,0,r=>r
 |_,_,_+1,.nil=> .nil
 |_,_,n+1,.cons _ t=>Vals.drop n t
def RelO:Option V->Option Value->Prop
 |some v,some u=>RelV v u
 |none,none=>True
 |_,_=>False
def KV{κ:Type}:List (κ × V)->List (κ × Value)->Prop:=Paired λ(p:κ × V) (q:κ × Value)=>p.1=q.1/\RelV p.2 q.2
def kV:Key->V
 | .inl i=> .int i
 | .inr x=> .str x
inductive HO where
  |lst (xs:List V)
  |tup (xs:List V)
  |dK (a8:List (Key × V))|dT (a8:List (List Key × V))
  |set (S:Int->Bool) (n:Nat)
  |ins (C dx:Addr) (fs:List (Str × V))
  |own (x:Addr)
  |xd (fs:List (Str × V))
  |met (f x:Addr)
  |rng (lo hi:Int)
  |frz (o:Obj) (u:HO)
  |tbl (ps:Array Value)
  |ext (φ:Heap->Prop)
abbrev Hp:=Addr->Option HO
def upd(H:Hp)(a:Addr)(o:HO):Hp:=λb=>if b=a then some o else H b
theorem az{H:Hp}{a:Addr}{o:HO}:upd H a o a=some o:=by unfold upd;rw[if_pos rfl]
theorem ak{H:Hp}{a b:Addr}{o:HO}(h:b≠a):upd H a o b=H b:=by unfold upd;rw[if_neg h]
theorem pW{H:Hp}{a b:Addr}{o u:HO}(h:H a=some o)(h':H b=some u)(d:o≠u):a≠b:=by
 intro e;subst e;rw[h] at h';exact d (Option.some.inj h')
theorem bw{H:Hp}{a b:Addr}{o:HO}(h:H a=some o)(h':H b=none):a≠b:=by
 intro e;subst e;rw[h] at h';cases h'
section
variable (P:Program)(w:World)
def ObjOk(H:Hp)(h:Heap)(a:Addr):HO->Prop
 | .lst xs=>xs.length<=sizeLine/\∃ (its:List Value) (n:Nat),Vals xs its/\h.get? a=some {cls:= .type "list",data:= .seq its.toArray n}
 | .tup xs=>xs.length<=sizeLine/\∃ its:List Value,Vals xs its/\IsTup h a its.toArray
 | .dK a8=>a8.length<=sizeLine/\(a==sysModules)=false/\∃ vs,KV a8 vs/\h.DictOf (bG P w) a vs
 | .dT a8=>a8.length<=sizeLine/\(a==sysModules)=false/\∃ xs:List (List Key × Addr × Value),
   Paired (λ(p:List Key × V) (q:List Key × Addr × Value)=>p.1=q.1/\H q.2.1=some (.tup (p.1.map kV))/\RelV p.2 q.2.2) a8 xs/\
   ∃ o es ep,h.get? a=some o/\o.ExactDict/\o.data= .dict es ep/\es.toList=xs.map (entryOfKey (tupleKind (bG P w)))/\(xs.map (·.1)).Nodup
 | .set S n=>h.SetOf (intKind P w) a S n
 | .ins C dx fs=>H dx=some (.own a)/\fs.length<=1000/\dx≠a/\h.get? a=some (instObj C dx)/\
   ∃ mA,h.Ns1 dx mA/\(∀ f,RelO (fs.lookup f) (mA f))/\PySem.Within mA (fs.map (·.1))
 | .own _=>∃ o,h.get? a=some o
 | .xd fs=>∃ mA,h.Ns1 a mA/\∀ f,RelO (fs.lookup f) (mA f)
 | .rng lo hi=>∃ t u v,h.get? a=some {cls:= .type "range",data:= .fields #[.int lo t,.int hi u,.int 1 v]}
 | .frz o u=>h.get? a=some o/\ObjOk H h a u
 | .tbl ps=>h.get? a=some {cls:= .none,data:= .fields ps}
 | .met f x=>h.get? a=some (methodObj (.ref f) (.ref x))
 | .ext φ=>φ h/\(∃ o,h.get? a=some o)/\∀ h1 h2:Heap,φ h1->(∀ o,h1.get? a=some o->h2.get? a=some o)->φ h2
def HOk(H:Hp)(h:Heap):Prop:=∀ a o,H a=some o->ObjOk P w H h a o
end
section
variable {P:Program}{w:World}{H H':Hp}{h h':Heap}{a:Addr}{o:HO}
theorem ObjOk.lt(x:ObjOk P w H h a o):a<h.objs.size:=by
 cases o with
 |lst xs=>obtain⟨_,_,_,_,e⟩:=x;exact Heap.lt_size e
 |tup xs=>obtain⟨_,_,_,p⟩:=x;exact p.lt
 |dK a8=>obtain⟨_,_,_,_,o,_,_,e,_⟩:=x;exact Heap.lt_size e
 |dT a8=>obtain⟨_,_,_,_,o,_,_,e,_⟩:=x;exact Heap.lt_size e
 |set S n=>obtain⟨o,_,_,_,e,_⟩:=x;exact Heap.lt_size e
 |ins C dx fs=>obtain⟨_,_,_,e,_⟩:=x;exact Heap.lt_size e
 |own y=>obtain⟨_,e⟩:=x;exact Heap.lt_size e
 |xd fs=>obtain⟨_,⟨_,_,_,e,_⟩,_⟩:=x;exact Heap.lt_size e
 |rng lo hi=>obtain⟨_,_,_,e⟩:=x;exact Heap.lt_size e
 |frz ob u=>obtain⟨e,_⟩:=x;exact Heap.lt_size e
 |tbl ps=>exact Heap.lt_size (show h.get? a=some _ from x)
 |met f y=>exact Heap.lt_size (show h.get? a=some _ from x)
 |ext φ=>obtain⟨_,⟨_,e⟩,_⟩:=x;exact Heap.lt_size e
theorem Paired.mapP{α β:Type}{F G:α->β->Prop}:∀ {l₁:List α} {l₂:List β},Paired F l₁ l₂->(∀ a b,F a b->G a b)->Paired G l₁ l₂
 |_,_,.nil,_=> .nil
 |_,_,.cons r t,f=> .cons (f _ _ r) (Paired.mapP t f)
theorem ObjOk.stay(x:ObjOk P w H h a o)(k:∀ b u,(b=a\/H b=some (.own a))->h.get? b=some u->h'.get? b=some u)
  (ho:∀ b,H b=some (.own a)->H' b=some (.own a)) (ht:∀ b xs,H b=some (.tup xs)->H' b=some (.tup xs)):ObjOk P w H' h' a o:=by
 induction o with
 |lst xs=>obtain⟨z,its,n,r,e⟩:=x;exact⟨z,its,n,r,k _ _ (.inl rfl) e⟩
 |tup xs=>obtain⟨z,its,r,ob,e,c⟩:=x;exact⟨z,its,r,ob,k _ _ (.inl rfl) e,c⟩
 |dK a8=>obtain⟨z,y,vs,r,ob,es,ep,e,c⟩:=x;exact⟨z,y,vs,r,ob,es,ep,k _ _ (.inl rfl) e,c⟩
 |dT a8=>
  obtain⟨z,y,xs,r,ob,es,ep,e,c⟩:=x
  exact⟨z,y,xs,Paired.mapP r λp q z=>⟨z.1,ht _ _ z.2.1,z.2.2⟩,ob,es,ep,k _ _ (.inl rfl) e,c⟩
 |set S n=>obtain⟨ob,es,ep,t,e,c⟩:=x;exact⟨ob,es,ep,t,k _ _ (.inl rfl) e,c⟩
 |ins C dx fs=>
  obtain⟨d,z,ne,e,mA,⟨od,es,ep,e2,c⟩,r⟩:=x
  exact⟨ho _ d,z,ne,k _ _ (.inl rfl) e,mA,⟨od,es,ep,k _ _ (.inr d) e2,c⟩,r⟩
 |own y=>obtain⟨ob,e⟩:=x;exact⟨ob,k _ _ (.inl rfl) e⟩
 |xd fs=>obtain⟨mA,⟨od,es,ep,e,c⟩,r⟩:=x;exact⟨mA,⟨od,es,ep,k _ _ (.inl rfl) e,c⟩,r⟩
 |rng lo hi=>obtain⟨t,u,v,e⟩:=x;exact⟨t,u,v,k _ _ (.inl rfl) e⟩
 |frz ob u ih=>obtain⟨e,q⟩:=x;exact⟨k _ _ (.inl rfl) e,ih q⟩
 |tbl ps=>
  have e:h.get? a=some {cls:= .none,data:= .fields ps}:=x
  show h'.get? a=some {cls:= .none,data:= .fields ps}
  exact k a _ (.inl rfl) e
 |met f y=>
  have e:h.get? a=some (methodObj (.ref f) (.ref y)):=x
  show h'.get? a=some (methodObj (.ref f) (.ref y))
  exact k a _ (.inl rfl) e
 |ext φ=>obtain⟨p,⟨o,e⟩,st⟩:=x;exact⟨st _ _ p λo q=>k _ _ (.inl rfl) q,⟨o,k _ _ (.inl rfl) e⟩,st⟩
theorem HOk.lt(x:HOk P w H h)(e:H a=some o):a<h.objs.size:=(x a o e).lt
theorem HOk.fresh(x:HOk P w H h)(e:h.objs.size<=a):H a=none:=by
 cases q:H a with
 |none=>rfl
 |some u=>exact absurd (AV (x.lt q) e) (Bs _)
theorem HOk.kept(x:HOk P w H h)(k:∀ b u,h.get? b=some u->h'.get? b=some u):HOk P w H h':=λa o e=>
 (x a o e).stay (λb u _ q=>k b u q) (λ_ q=>q) λ_ _ q=>q
theorem HOk.laid(x:HOk P w H h)(k:∀ b u,h.get? b=some u->h'.get? b=some u)(hp:h.objs.size<=a)(new:ObjOk P w (upd H a o) h' a o):HOk P w (upd H a o) h':=λb u e=>by
 have hn:=x.fresh hp
 by_cases hb:b=a
 ·subst hb;rw[az] at e;cases e;exact new
 ·rw[ak hb] at e
  exact(x b u e).stay (λc v _ q=>k c v q) (λc q=>by rw[ak (bw q hn)];exact q) λc xs q=>by rw[ak (bw q hn)];exact q
end
def Rd(H:Hp)(a:Addr)(u:HO):Prop:=H a=some u\/∃ o,H a=some (.frz o u)
theorem Rd.of{H:Hp}{a:Addr}{u:HO}(h:H a=some u):Rd H a u:= .inl h
theorem Rd.ok{P:Program}{w:World}{H:Hp}{h:Heap}{a:Addr}{u:HO}(r:Rd H a u)(x:HOk P w H h):ObjOk P w H h a u:=by
 rcases r with r|⟨o,r⟩
 ·exact x a u r
 ·obtain⟨_,q⟩:=x a _ r
  exact q
def Mut:Option HO->Prop
 |some (.lst _)=>True
 |some (.dK _)=>True
 |some (.dT _)=>True
 |some (.set _ _)=>True
 |some (.ins _ _ _)=>True
 |some (.ext _)=>True
 |_=>False
section
variable {P:Program}{w:World}{H:Hp}{h h':Heap}{x e:Addr}{o':HO}
theorem HOk.write(ok:HOk P w H h)(mu:Mut (H x))(he:e=x\/H e=some (.own x))(k:∀ b u,b≠e->h.get? b=some u->h'.get? b=some u)(u5:∃ u,h'.get? e=some u)
  (new:ObjOk P w (upd H x o') h' x o'):HOk P w (upd H x o') h':=λb u q=>by
 have DU:∀ c y,H c=some (.own y)->c≠x:=λc y r z=>by subst z;rw[r] at mu;exact mu
 have Fu:∀ c xs,H c=some (.tup xs)->c≠x:=λc xs r z=>by subst z;rw[r] at mu;exact mu
 by_cases hb:b=x
 ·subst hb;rw[az] at q;cases q;exact new
 ·rw[ak hb] at q
  by_cases z7:b=e
  ·have q':H b=some (.own x):=by
    rcases he with z|z
    ·exact absurd (z7.trans z) hb
    ·rw[z7];exact z
   rw[q] at q';cases q'
   obtain⟨v,hv⟩:=u5
   exact⟨v,by rw[z7];exact hv⟩
  ·refine(ok b u q).stay (λc v hc r=>k c v ?_ r) (λc r=>by rw[ak (DU c b r)];exact r) λc xs r=>by rw[ak (Fu c xs r)];exact r
   rcases hc with rfl|hc
   ·exact z7
   ·rintro rfl
    rcases he with z|z
    ·exact DU c b hc z
    ·rw[hc] at z;cases z;exact hb rfl
end
structure Un(fs ex:List Addr)(H H':Hp)(h h':Heap):Prop where
 keep:∀ b o,h.get? b=some o->H b=none->b ∉ fs->b ∉ ex->h'.get? b=some o
 slot:∀ b o,h.get? b=some o->H b=none->b∈fs->b ∉ ex->∃ sl,h'.get? b=some {o with slots:=sl}
 free:∀ b o,h.get? b=some o->H b=none->b ∉ ex->H' b=none
 there:∀ b o,h.get? b=some o->b ∉ ex->∃ o',h'.get? b=some o'
 tups:∀ b xs,H b=some (.tup xs)->H' b=some (.tup xs)
 frzs:∀ b o u,H b=some (.frz o u)->H' b=some (.frz o u)
 tbls:∀ b ps,H b=some (.tbl ps)->∃ more,H' b=some (.tbl (ps++more))
section
variable {fs i9 ex Fv:List Addr}{H H1 H2:Hp}{h h1 h2 h':Heap}{a x e:Addr}{o:HO}
theorem Un.any(u:Un fs ex H H1 h h1){b:Addr}{ob:Obj}(q:h.get? b=some ob)(n:H b=none)(hx:b ∉ ex):∃ sl,h1.get? b=some {ob with slots:=sl}:=by
 by_cases hb:b∈fs
 ·exact u.slot b ob q n hb hx
 ·exact⟨ob.slots,u.keep b ob q n hb hx⟩
theorem Un.trans(a:Un fs ex H H1 h h1)(b:Un fs ex H1 H2 h1 h2):Un fs ex H H2 h h2 where
 keep:=λc ob q n hc hx=>b.keep c ob (a.keep c ob q n hc hx) (a.free c ob q n hx) hc hx
 slot:=λc ob q n hc hx=>by
  obtain⟨sl,e1⟩:=a.slot c ob q n hc hx
  obtain⟨m8,e2⟩:=b.slot c _ e1 (a.free c ob q n hx) hc hx
  exact⟨m8,e2⟩
 free:=λc ob q n hx=>by
  obtain⟨o',e1⟩:=a.there c ob q hx
  exact b.free c o' e1 (a.free c ob q n hx) hx
 there:=λc ob q hx=>by
  obtain⟨o',e1⟩:=a.there c ob q hx
  exact b.there c o' e1 hx
 tups:=λc xs q=>b.tups c xs (a.tups c xs q)
 frzs:=λc ob xs q=>b.frzs c ob xs (a.frzs c ob xs q)
 tbls:=λc ps q=>by
  obtain⟨m1,e1⟩:=a.tbls c ps q
  obtain⟨m2,e2⟩:=b.tbls c _ e1
  exact⟨m1++m2,by rw[e2,Cs]⟩
theorem Un.kept(k:∀ b u,h.get? b=some u->h'.get? b=some u):Un fs ex H H h h':=
 ⟨λb ob q _ _ _=>k b ob q,λb ob q _ _ _=>⟨ob.slots,k b ob q⟩,λ_ _ _ n _=>n,λb ob q _=>⟨ob,k b ob q⟩,λ_ _ q=>q,λ_ _ _ q=>q,λ_ ps q=>⟨#[],by rw[q];simp⟩⟩
theorem Un.refl:Un fs ex H H h h:=Un.kept λ_ _ q=>q
theorem Un.laid(k:∀ b u,h.get? b=some u->h'.get? b=some u)(hp:h.objs.size<=a)(hn:H a=none):Un fs ex H (upd H a o) h h' where
 keep:=λb u q _ _ _=>k b u q
 slot:=λb u q _ _ _=>⟨u.slots,k b u q⟩
 free:=λb u q n _=>by rw[ak (AF (AV (Heap.lt_size q) hp))];exact n
 there:=λb u q _=>⟨u,k b u q⟩
 tups:=λb xs q=>by rw[ak (bw q hn)];exact q
 frzs:=λb u xs q=>by rw[ak (bw q hn)];exact q
 tbls:=λb ps q=>⟨#[],by rw[ak (bw q hn),q];simp⟩
theorem Un.write(mu:Mut (H x))(he:e=x\/H e=some (.own x))(k:∀ b u,b≠e->h.get? b=some u->h'.get? b=some u)(u5:∃ u,h'.get? e=some u):Un fs ex H (upd H x o) h h':=by
 have hx:∀ b,H b=none->b≠x:=λb n z=>by subst z;rw[n] at mu;exact mu
 have hb:∀ b,H b=none->b≠e:=λb n z=>by
  subst z
  rcases he with r|r
  ·exact hx b n r
  ·rw[n] at r;cases r
 have hm:∀ b u,H b=some u->¬ Mut (some u)->b≠x:=λb u q nm z=>by subst z;rw[q] at mu;exact nm mu
 refine⟨λb u q n _ _=>k b u (hb b n) q,λb u q n _ _=>⟨u.slots,k b u (hb b n) q⟩,λb u q n _=>by rw[ak (hx b n)];exact n,λb u q _=>?_,
  λb xs q=>by rw[ak (hm b _ q λz=>z)];exact q,λb u xs q=>by rw[ak (hm b _ q λz=>z)];exact q,λb ps q=>⟨#[],by rw[ak (hm b _ q λz=>z),q];simp⟩⟩
 by_cases z7:b=e
 ·subst z7;exact u5
 ·exact⟨u,k b u z7 q⟩
end
def trk(h:Heap)(H:Hp):List Addr:=(Ba h.objs.size).filter λa=>(H a).isSome
def hidT(h:Heap)(H:Hp):Heap:=hideAll h (trk h H)
theorem pX(h:Heap)(H:Hp):(hidT h H).objs.size=h.objs.size:=hideAll_size _ _
theorem pY{h:Heap}{H:Hp}{b:Addr}{o:Obj}(e:h.get? b=some o)(n:H b=none):(hidT h H).get? b=some o:=
 hideAll_get _ e λhm=>by
  have q:(H b).isSome=true:=(Ct.mp hm).2
  rw[n] at q;simp at q
theorem pZ{h:Heap}{H:Hp}{b:Addr}{o:Obj}(e:(hidT h H).get? b=some o):h.get? b=some o/\H b=none:=by
 have e':h.get? b=some o:=of_hideAll (trk h H) e
 refine⟨e',?_⟩
 cases q:H b with
 |none=>rfl
 |some x=>
  have hm:b∈trk h H:=Ct.mpr ⟨List.mem_range.mpr (Heap.lt_size e'),by simp[q]⟩
  have z:(hidT h H).get? b=none:=hideAll_none (trk h H) hm
  rw[z] at e;cases e
def allNews(g h:Heap)(L:Addr):List (Addr × Obj):=(Ba h.objs.size).filterMap λa=>if a=L\/(g.get? a).isSome=true then none else(h.get? a).map λo=>(a,o)
def rest(g h:Heap)(L d:Addr):List (Addr × Obj):=(allNews g h L).filter λp=>decide (p.1≠d)
structure Mod(K:Ax)(mg:Str->Option Value)(base:Heap):Prop where
 kin:K.In base
 glob:base.Ns mainGlobals mg
 blt:∃ mb,base.Ns builtinsNs mb/\∀ x:Str,x≠"__name__"->mb x=bootBuiltins x
 nolimit:base.NoLimit
structure Cx where
 prog:Program
 w:World
 K:Ax
 mg:Str->Option Value
 base:Heap
 A:Around
 N:List Str
 s₀:Shared
 H₀:Hp
 env:Env
 outer:List Env
 stack:List Env
 ex:List Addr
 fn:Str->Bool
 calm:Bool
 pn:List (Addr × Obj)
 xe:Value->Shared->Prop
abbrev zSE(X:Cx)(e:Expr)(es:List Expr):Prop:=starEach (e::es) X.env=(false,eval e X.env)::starEach es X.env
abbrev zPL(X:Cx)(p:Pos)(es:List Expr):Prop:=(backTo p (starEach es X.env)).any (·.1)=false
abbrev zHF(X:Cx)(p:Pos)(es:List Expr):Prop:=((backTo p (starEach es X.env)).all (λx=>!x.1) && (backToKw p (keywordEach [] X.env)).all (λx=>x.1.isSome) && decide (es.length+([]:List Keyword).length+(if([]:List Keyword).isEmpty then 0 else 1)<30))=true
abbrev zFN(X:Cx)(x:Str):Prop:=X.fn x=true\/X.env.scope.names.lookup x=some .local
abbrev zND(x:Str):Prop:=(x==("__debug__":Str))=false
abbrev zNC(x:Str):Prop:=(x==("__classdict__":Str))=false
abbrev zFS(X:Cx)(e:Expr)(y:Value):Prop:=foldedSetIterable e X.env y=pure y
def frs(l:List Env):List Addr:=l.filterMap (·.frame)
abbrev Cx.fs(X:Cx):List Addr:=frs X.outer
def Vis(sc:Scope)(x:Str):Prop:=sc.names.lookup x=some .local\/sc.names.lookup x=some .cell\/sc.names.lookup x=some .free
def Loc(sc:Scope)(x:Str):Prop:=sc.names.lookup x=some .local\/sc.names.lookup x=some .cell
def Look(env:Env)(h:Heap)(m:Str->Option Value)(x:Str)(u:Value):Prop:=
 (env.kindOf x=some .local/\m x=some u)\/((env.kindOf x=some .cell\/env.kindOf x=some .free)/\∃ c,env.cells.lookup x=some c/\h.IsCell c (some u))
structure Cx.Ok(X:Cx):Prop where
 mod:Mod X.K X.mg X.base
 kind:X.env.scope.kind= .function
 glob:X.env.globals=mainGlobals
 blt:X.env.builtins=builtinsNs
 above:X.s₀.heap.objs.size<=X.env.locals
 inj:∀ x y c,X.env.cells.lookup x=some c->X.env.cells.lookup y=some c->x=y
 has:∀ x,(X.env.kindOf x=some .cell\/X.env.kindOf x=some .free)->∃ c,X.env.cells.lookup x=some c
 cab:∀ x c,X.fn x=true->X.env.cells.lookup x=some c->X.s₀.heap.objs.size<=c
 hd:X.calm=true->X.A.handled=none
 frames:X.A.frames=some X.stack
 stk:X.stack=X.outer\/(X.stack=X.env::X.outer/\X.env.frame=some X.env.locals)
 exf:∀ b∈X.ex,b≠X.env.locals/\∀ x c,X.env.cells.lookup x=some c->c≠b
 bs:∀ b o,X.base.get? b=some o->X.s₀.heap.get? b=some o/\X.H₀ b=none
 bsz:X.base.objs.size<=X.s₀.heap.objs.size
 noex:∀ b o,X.base.get? b=some o->b ∉ X.ex
 exfs:∀ b∈X.ex,b ∉ X.fs
 funs:X.s₀.heap.FunFrames X.base X.outer
 frf:∀ b∈X.fs,X.H₀ b=none
structure Inv(X:Cx)(pins:List (Addr × Obj))(σ:List (Option V))(H:Hp)(s:Shared):Prop where
 ok:X.Ok
 os:s.os=X.s₀.os
 bare:AllBare s.gens
 base:Un X.fs X.ex X.H₀ H X.s₀.heap s.heap
 loc:∃ m,s.heap.Ns X.env.locals m/\∀ (i:Nat) (x:Str) (v:V),X.N[i]?=some x->σ[i]?=some (some v)->Vis X.env.scope x->∃ u,RelV v u/\Look X.env s.heap m x u
 cell:∀ x c,X.env.cells.lookup x=some c->∃ v,s.heap.IsCell c v
 free:H X.env.locals=none
 freeC:∀ x c,X.env.cells.lookup x=some c->H c=none
 pin:∀ p∈X.pn++pins,s.heap.get? p.1=some p.2/\H p.1=none/\p.1≠X.env.locals/\p.1 ∉ X.fs/\∀ v,p.2.data≠.cell v
 hok:HOk X.prog X.w H s.heap
 len:σ.length=X.N.length
section
variable {X:Cx}{pins:List (Addr × Obj)}{σ:List (Option V)}{H H':Hp}{s:Shared}{h':Heap}
theorem Cx.Ok.nofr(ok:X.Ok){b:Addr}{o:Obj}(e:X.base.get? b=some o):b ∉ X.fs:=λhb=>by
 have:=(ok.funs.mem hb).1
 rw[e] at this;cases this
theorem Inv.bs(I:Inv X pins σ H s):∀ b o,X.base.get? b=some o->s.heap.get? b=some o/\H b=none:=λb o e=>
 ⟨I.base.keep b o (I.ok.bs b o e).1 (I.ok.bs b o e).2 (I.ok.nofr e) (I.ok.noex b o e),I.base.free b o (I.ok.bs b o e).1 (I.ok.bs b o e).2 (I.ok.noex b o e)⟩
theorem Inv.bk(I:Inv X pins σ H s):∀ b o,X.base.get? b=some o->s.heap.get? b=some o:=λb o e=>(I.bs b o e).1
theorem Inv.mod(I:Inv X pins σ H s):Mod X.K X.mg X.base:=I.ok.mod
theorem Inv.kIn(I:Inv X pins σ H s):X.K.In s.heap:=I.ok.mod.kin.keeps I.bk
theorem Inv.nolimit(I:Inv X pins σ H s):s.heap.NoLimit:=I.ok.mod.nolimit.keeps I.bk
theorem Inv.fr(I:Inv X pins σ H s):∃ m,Fr X.base X.env.locals s.heap m:=
 let ⟨m,hn,_⟩:=I.loc
 ⟨m,hn,I.bk,AK I.ok.bsz I.ok.above⟩
theorem Inv.lt(I:Inv X pins σ H s):X.env.locals<s.heap.objs.size:=let ⟨_,hn,_⟩:=I.loc;hn.lt
theorem Inv.sz(I:Inv X pins σ H s):X.s₀.heap.objs.size<=s.heap.objs.size:=AK I.ok.above (BN I.lt)
theorem Inv.nofs(I:Inv X pins σ H s){a:Addr}(h:s.heap.objs.size<=a):a ∉ X.fs:=λhb=>by
 obtain⟨_,o,ho,_⟩:=I.ok.funs.mem hb
 exact absurd (AV (Heap.lt_size ho) (AK I.sz h)) (Bs _)
theorem Inv.cne(I:Inv X pins σ H s):∀ x c,X.env.cells.lookup x=some c->c≠X.env.locals:=λx c e z=>by
 obtain⟨v,o,ho,hd⟩:=I.cell x c e
 obtain⟨m,⟨o',es,ep,z8,d_,_⟩,_⟩:=I.loc
 rw[z,z8] at ho;cases ho;rw[d_] at hd;cases hd
theorem Inv.funs(I:Inv X pins σ H s):s.heap.FunFrames X.base X.outer:=by
 have all:∀ (l:List Env),(∀ b∈frs l,b∈X.fs)->X.s₀.heap.FunFrames X.base l->s.heap.FunFrames X.base l:=by
  intro l
  induction l with
  |nil=>intro _ _;trivial
  |cons env r ih=>
   intro hs hl
   obtain⟨hk,⟨L,o,hf,hn,ho,hd⟩,hr⟩:=hl
   have hL:L∈X.fs:=hs L (by unfold frs;rw[BO,hf];exact AE)
   obtain⟨sl,e⟩:=I.base.slot L o ho (I.ok.frf L hL) hL λz=>I.ok.exfs L z hL
   exact⟨hk,⟨L,_,hf,hn,e,hd⟩,ih (λb hb=>hs b (by unfold frs;rw[BO,hf];exact AC _ hb)) hr⟩
 exact all X.outer (λ_ hb=>hb) I.ok.funs
theorem Inv.stack(I:Inv X pins σ H s):s.heap.FunFrames X.base X.stack:=by
 rcases I.ok.stk with e|⟨e,hf⟩
 ·rw[e];exact I.funs
 ·rw[e]
  obtain⟨m,hn,_⟩:=I.loc
  refine .cons (by rw[I.ok.kind];decide) hf hn ?_ I.funs
  exact Heap.get?_none_of_le (AK I.ok.bsz I.ok.above)
theorem Inv.stkSub(I:Inv X pins σ H s):∀ b∈frs X.stack,b∈X.env.locals::X.fs:=λb hb=>by
 rcases I.ok.stk with e|⟨e,hf⟩
 ·rw[e] at hb;exact AC _ hb
 ·rw[e] at hb
  unfold frs at hb
  rw[BO,hf] at hb
  exact hb
theorem Inv.stkFree(I:Inv X pins σ H s):∀ b∈frs X.stack,H b=none:=λb hb=>by
 rcases AA.mp (I.stkSub b hb) with e|hb
 ·rw[e];exact I.free
 ·obtain⟨_,o,ho,_⟩:=I.ok.funs.mem hb
  exact I.base.free b o ho (I.ok.frf b hb) λz=>I.ok.exfs b z hb
theorem Inv.step{g':Array GenState}{t':Nat}{d':Drawn}{ch:List Addr}(I:Inv X pins σ H s)
  (u6:∀ b∈ch,(b∈X.ex\/X.s₀.heap.objs.size<=b)/\b≠X.env.locals/\(∀ x c,X.env.cells.lookup x=some c->c≠b)/\∀ p∈X.pn++pins,p.1≠b)
  (keep:∀ b o,b≠X.env.locals->b ∉ X.fs->b ∉ ch->s.heap.get? b=some o->H b=none->h'.get? b=some o)
  (slot:∀ b o,b≠X.env.locals->b∈X.fs->b ∉ ch->s.heap.get? b=some o->H b=none->∃ sl,h'.get? b=some {o with slots:=sl}) (free:∀ b o,b ∉ ch->s.heap.get? b=some o->H b=none->H' b=none)
  (there:∀ b o,b ∉ ch->s.heap.get? b=some o->∃ o',h'.get? b=some o')
  (tups:∀ b xs,H b=some (.tup xs)->H' b=some (.tup xs)) (frzs:∀ b o u,H b=some (.frz o u)->H' b=some (.frz o u)) (tbls:∀ b ps,H b=some (.tbl ps)->∃ more,H' b=some (.tbl (ps++more)))
  (ns:∀ m,s.heap.Ns X.env.locals m->h'.Ns X.env.locals m) (hok:HOk X.prog X.w H' h') (hg:AllBare g'):
  Inv X pins σ H' {s with heap:=h',gens:=g',drawn:=d',toks:=t'}:=by
 have Hw:∀ b o,X.s₀.heap.get? b=some o->b≠X.env.locals:=λb o e=>AF (AV (Heap.lt_size e) I.ok.above)
 have EZ:∀ b o,X.s₀.heap.get? b=some o->b ∉ X.ex->b ∉ ch:=λb o e hx hb=>by
  rcases(u6 b hb).1 with z|z
  ·exact hx z
  ·exact absurd (AV (Heap.lt_size e) z) (Bs _)
 have j3:∀ x c,X.env.cells.lookup x=some c->∀ v,s.heap.IsCell c v->h'.IsCell c v:=λx c e v ⟨o,ho,hd⟩=>by
  have DV:c ∉ ch:=λz=>(u6 c z).2.2.1 x c e rfl
  by_cases hc:c∈X.fs
  ·obtain⟨sl,q⟩:=slot c o (I.cne x c e) hc DV ho (I.freeC x c e)
   exact⟨_,q,hd⟩
  ·exact⟨o,keep c o (I.cne x c e) hc DV ho (I.freeC x c e),hd⟩
 refine⟨I.ok,I.os,hg,⟨λb o e n hb hx=>?_,λb o e n hb hx=>?_,λb o e n hx=>?_,λb o e hx=>?_,λb xs e=>tups b xs (I.base.tups b xs e),λb o xs e=>frzs b o xs (I.base.frzs b o xs e),λb ps e=>?_⟩,?_,λx c e=>?_,?_,λx c e=>?_,λp hp=>?_,hok,I.len⟩
 ·exact keep b o (Hw b o e) hb (EZ b o e hx) (I.base.keep b o e n hb hx) (I.base.free b o e n hx)
 ·obtain⟨sl,e1⟩:=I.base.slot b o e n hb hx
  obtain⟨m8,e2⟩:=slot b _ (Hw b o e) hb (EZ b o e hx) e1 (I.base.free b o e n hx)
  exact⟨m8,e2⟩
 ·obtain⟨o',e1⟩:=I.base.there b o e hx
  exact free b o' (EZ b o e hx) e1 (I.base.free b o e n hx)
 ·obtain⟨o',e1⟩:=I.base.there b o e hx
  exact there b o' (EZ b o e hx) e1
 ·obtain⟨m1,e1⟩:=I.base.tbls b ps e
  obtain⟨m2,e2⟩:=tbls b _ e1
  exact⟨m1++m2,by rw[e2,Cs]⟩
 ·obtain⟨m,hn,hl⟩:=I.loc
  refine⟨m,ns m hn,λi x v e1 e2 e3=>?_⟩
  obtain⟨u,r,l⟩:=hl i x v e1 e2 e3
  refine⟨u,r,?_⟩
  rcases l with l|⟨k,c,e,z⟩
  ·exact .inl l
  ·exact .inr ⟨k,c,e,j3 x c e _ z⟩
 ·obtain⟨v,z⟩:=I.cell x c e
  exact⟨v,j3 x c e v z⟩
 ·obtain⟨m,⟨o,_,_,ho,_⟩,_⟩:=I.loc
  exact free _ o (λz=>(u6 _ z).2.1 rfl) ho I.free
 ·obtain⟨v,o,ho,hd⟩:=I.cell x c e
  exact free c o (λz=>(u6 c z).2.2.1 x c e rfl) ho (I.freeC x c e)
 ·obtain⟨e,n,ne,nf,d⟩:=I.pin p hp
  have DV:p.1 ∉ ch:=λz=>(u6 p.1 z).2.2.2 p hp rfl
  exact⟨keep p.1 p.2 ne nf DV e n,free p.1 p.2 DV e n,ne,nf,d⟩
theorem Inv.un{t':Nat}(I:Inv X pins σ H s)(u:Un X.fs [] H H' s.heap h')(hok:HOk X.prog X.w H' h'):Inv X pins σ H' {s with heap:=h',toks:=t'}:=by
 obtain⟨m,⟨o,es,ep,ho,r⟩,_⟩:=id I.loc
 obtain⟨sl,hL⟩:=u.any ho I.free (by simp)
 exact I.step (g':=s.gens) (d':=s.drawn) (ch:=[]) (λ_ z=>nomatch z) (λb o _ hb _ e n=>u.keep b o e n hb (by simp)) (λb o _ hb _ e n=>u.slot b o e n hb (by simp)) (λb o _ e n=>u.free b o e n (by simp)) (λb o _ e=>u.there b o e (by simp)) u.tups u.frzs u.tbls (λm' hm=>by
  obtain⟨o',Fw,Fx,z8,r'⟩:=hm
  rw[ho] at z8;cases z8
  exact⟨_,Fw,Fx,hL,r'⟩) hok I.bare
theorem Inv.call{g':Array GenState}{t':Nat}{d':Drawn}{ch:List Addr}(I:Inv X pins σ H s)(u:Un (frs X.stack) ch H H' s.heap h')(hok:HOk X.prog X.w H' h')(hg:AllBare g')
  (u6:∀ b∈ch,(b∈X.ex\/X.s₀.heap.objs.size<=b)/\b≠X.env.locals/\(∀ x c,X.env.cells.lookup x=some c->c≠b)/\∀ p∈X.pn++pins,p.1≠b):
  Inv X pins σ H' {s with heap:=h',gens:=g',drawn:=d',toks:=t'}:=by
 obtain⟨m,⟨o,es,ep,ho,r⟩,_⟩:=id I.loc
 obtain⟨sl,hL⟩:=u.any ho I.free λz=>(u6 _ z).2.1 rfl
 exact I.step (ch:=ch) u6 (λb o hL hb hc e n=>u.keep b o e n (λz=>(AA.mp (I.stkSub b z)).elim hL hb) hc) (λb o _ _ hc e n=>u.any e n hc) (λb o hc e n=>u.free b o e n hc) (λb o hc e=>u.there b o e hc) u.tups u.frzs u.tbls (λm' hm=>by
  obtain⟨o',Fw,Fx,z8,r'⟩:=hm
  rw[ho] at z8;cases z8
  exact⟨_,Fw,Fx,hL,r'⟩) hok hg
theorem Inv.turned{t':Nat}{it:Addr}(I:Inv X pins σ H s)(k:∀ b o,b≠it->s.heap.get? b=some o->h'.get? b=some o)(hn:H it=none)(hL:it≠X.env.locals)
  (h1:it∈X.ex\/X.s₀.heap.objs.size<=it) (h2:∀ x c,X.env.cells.lookup x=some c->c≠it) (h3:∀ p∈X.pn++pins,p.1≠it):Inv X pins σ H {s with heap:=h',toks:=t'}:=by
 have z9:∀ b u,H b=some u->b≠it:=λb u e z=>by rw[z,hn] at e;cases e
 refine I.step (g':=s.gens) (d':=s.drawn) (ch:=[it]) (λb hb=>?_) (λb o _ _ hc e _=>k b o (λz=>hc (by simp[z])) e) (λb o _ _ hc e _=>⟨o.slots,k b o (λz=>hc (by simp[z])) e⟩) (λ_ _ _ _ n=>n)
  (λb o hc e=>⟨o,k b o (λz=>hc (by simp[z])) e⟩) (λ_ _ e=>e) (λ_ _ _ e=>e) (λb ps e=>⟨#[],by rw[e];simp⟩) (λm hm=>?_) (λb u e=>?_) I.bare
 ·have e:b=it:=by simpa using hb
  subst e
  exact⟨h1,hL,h2,h3⟩
 ·obtain⟨o,es,ep,ho,r⟩:=hm
  exact⟨o,es,ep,k _ o (Ne.symm hL) ho,r⟩
 ·refine(I.hok b u e).stay (λc v hc q=>k c v ?_ q) (λ_ q=>q) λ_ _ q=>q
  rcases hc with z|z
  ·rw[z];exact z9 b u e
  ·exact z9 c _ z
theorem Inv.tok(I:Inv X pins σ H s)(t:Nat):Inv X pins σ H {s with toks:=t}:=I.un (h':=s.heap) (t':=t) Un.refl I.hok
theorem Inv.kept{t':Nat}(I:Inv X pins σ H s)(k:∀ b u,s.heap.get? b=some u->h'.get? b=some u):Inv X pins σ H {s with heap:=h',toks:=t'}:=I.un (Un.kept k) (I.hok.kept k)
theorem Inv.laid{a:Addr}{o:HO}{t':Nat}(I:Inv X pins σ H s)(k:∀ b u,s.heap.get? b=some u->h'.get? b=some u)(hp:s.heap.objs.size<=a)(new:ObjOk X.prog X.w (upd H a o) h' a o):
  Inv X pins σ (upd H a o) {s with heap:=h',toks:=t'}:=I.un (Un.laid k hp (I.hok.fresh hp)) (I.hok.laid k hp new)
theorem Inv.write{x e:Addr}{o:HO}{t':Nat}(I:Inv X pins σ H s)(mu:Mut (H x))(he:e=x\/H e=some (.own x))(k:∀ b u,b≠e->s.heap.get? b=some u->h'.get? b=some u)(u5:∃ u,h'.get? e=some u)
  (new:ObjOk X.prog X.w (upd H x o) h' x o):Inv X pins σ (upd H x o) {s with heap:=h',toks:=t'}:=I.un (Un.write mu he k u5) (I.hok.write mu he k u5 new)
theorem Inv.pins_of{x_:List (Addr × Obj)}(I:Inv X pins σ H s)(h:∀ p∈x_,s.heap.get? p.1=some p.2/\H p.1=none/\p.1≠X.env.locals/\p.1 ∉ X.fs/\∀ v,p.2.data≠.cell v):Inv X x_ σ H s:=
 ⟨I.ok,I.os,I.bare,I.base,I.loc,I.cell,I.free,I.freeC,λp hp=>(AW.mp hp).elim (λz=>I.pin p (Bf _ z)) (h p),I.hok,I.len⟩
theorem lG{N:List Str}(hN:N.Nodup){i j:Nat}{x:Str}(a:N[i]?=some x)(b:N[j]?=some x):i=j:=by
 obtain⟨h1,e1⟩:=AN.mp a
 obtain⟨h2,e2⟩:=AN.mp b
 exact(List.getElem_inj hN).mp (e1.trans e2.symm)
theorem lH{M:Model}{A:Around}{E:Value->Shared->Prop}{i:Nat}{x:Str}{v:V}{u:Value}{Q:Unit->Shared->Prop}(I:Inv X pins σ H s)(hN:X.N.Nodup)(hi:X.N[i]?=some x)(hx:Loc X.env.scope x)(r:RelV v u)
  (h:∀ s',Inv X pins (σ.set i (some v)) H s'->(∃ a,Heap.SameBut a s.heap s'.heap/\(a=X.env.locals\/X.env.cells.lookup x=some a))->Q () s') (hf:zFN X x:=by first|exact .inl rfl|exact .inr rfl|assumption):wpAny M A (storeName X.env x u) Q E s:=by
 obtain⟨m,hn,hl⟩:=id I.loc
 have z_:(X.env.scope.kind== .class||(X.env.scope.kind== .module && X.env.locals !=X.env.globals))=false:=by rw[I.ok.kind];rfl
 have hiσ:i<σ.length:=by rw[I.len];exact(AN.mp hi).1
 have cne:=I.cne
 have h_:∀ {a:Addr} {h':Heap},(∃ o,s.heap.get? a=some o/\H a=none)->Heap.SameBut a s.heap h'->HOk X.prog X.w H h':=λ{a h'} ha hs b ob e=>by
  obtain⟨_,_,g8⟩:=ha
  refine(I.hok b ob e).stay (λc w' hc q=>(hs.2 c ?_).trans q) (λ_ q=>q) λ_ _ q=>q
  rintro rfl
  rcases hc with rfl|hc
  ·rw[g8] at e;cases e
  ·rw[g8] at hc;cases hc
 rcases hx with hk|hk
 ·refine wpAny_storeName_local hk hn (λh' ge hs=>?_) z_
  obtain⟨oL,_,_,IL,_⟩:=id hn
  refine h _ ⟨I.ok,I.os,I.bare,⟨λb o e n hb hx=>?_,λb o e n hb hx=>?_,I.base.free,λb o e hx=>?_,I.base.tups,I.base.frzs,I.base.tbls⟩,⟨_,ge,λj y v' e1 e2 e3=>?_⟩,λy c e=>?_,I.free,I.freeC,λp hp=>?_,h_ ⟨oL,IL,I.free⟩ hs,by simpa using I.len⟩ ⟨_,hs,.inl rfl⟩
  ·exact(hs.2 b (AF (AV (Heap.lt_size e) I.ok.above))).trans (I.base.keep b o e n hb hx)
  ·obtain⟨sl,e1⟩:=I.base.slot b o e n hb hx
   exact⟨sl,(hs.2 b (AF (AV (Heap.lt_size e) I.ok.above))).trans e1⟩
  ·obtain⟨o',e1⟩:=I.base.there b o e hx
   exact⟨o',(hs.2 b (AF (AV (Heap.lt_size e) I.ok.above))).trans e1⟩
  ·by_cases hj:j=i
   ·subst hj
    rw[hi] at e1;cases e1
    rw[Bb hiσ] at e2
    cases e2
    exact⟨u,r,.inl ⟨hk,by simp⟩⟩
   ·rw[AQ (Ne.symm hj)] at e2
    obtain⟨u',r',q⟩:=hl j y v' e1 e2 e3
    refine⟨u',r',?_⟩
    rcases q with⟨k,e⟩|⟨k,c,e,z⟩
    ·refine .inl ⟨k,?_⟩
     have:y≠x:=λe=>hj (lG hN e1 (e ▸ hi))
     simp[this,e]
    ·exact .inr ⟨k,c,e,z.sameBut hs (cne y c e)⟩
  ·obtain⟨w',z⟩:=I.cell y c e
   exact⟨w',z.sameBut hs (cne y c e)⟩
  ·obtain⟨e,n,ne,nf,d⟩:=I.pin p hp
   exact⟨(hs.2 p.1 ne).trans e,n,ne,nf,d⟩
 ·have DY:X.fn x=true:=by
   rcases hf with z|z
   ·exact z
   ·rw[z] at hk;cases hk
  obtain⟨c,hc⟩:=I.ok.has x (.inl hk)
  obtain⟨w',z⟩:=I.cell x c hc
  refine wpAny_storeName_cell I.ok.kind hk hc z (λh' Dw hs=>?_)
  obtain⟨oc,Hx,Fy⟩:=id z
  refine h {s with heap:=h'} ⟨I.ok,I.os,I.bare,⟨λb o e n hb hx=>?_,λb o e n hb hx=>?_,I.base.free,λb o e hx=>?_,I.base.tups,I.base.frzs,I.base.tbls⟩,⟨m,hn.sameBut hs (Ne.symm (cne x c hc)),λj y v' e1 e2 e3=>?_⟩,λy c' e=>?_,I.free,I.freeC,λp hp=>?_,h_ ⟨oc,Hx,I.freeC x c hc⟩ hs,by simpa using I.len⟩ ⟨c,hs,.inr hc⟩
  ·exact(hs.2 b (AF (AV (Heap.lt_size e) (I.ok.cab x c DY hc)))).trans (I.base.keep b o e n hb hx)
  ·obtain⟨sl,e1⟩:=I.base.slot b o e n hb hx
   exact⟨sl,(hs.2 b (AF (AV (Heap.lt_size e) (I.ok.cab x c DY hc)))).trans e1⟩
  ·obtain⟨o',e1⟩:=I.base.there b o e hx
   exact⟨o',(hs.2 b (AF (AV (Heap.lt_size e) (I.ok.cab x c DY hc)))).trans e1⟩
  ·by_cases hj:j=i
   ·subst hj
    rw[hi] at e1;cases e1
    rw[Bb hiσ] at e2
    cases e2
    exact⟨u,r,.inr ⟨.inl hk,c,hc,Dw⟩⟩
   ·rw[AQ (Ne.symm hj)] at e2
    obtain⟨u',r',q⟩:=hl j y v' e1 e2 e3
    refine⟨u',r',?_⟩
    rcases q with q|⟨k,c',e,z'⟩
    ·exact .inl q
    ·refine .inr ⟨k,c',e,z'.sameBut hs ?_⟩
     rintro rfl
     exact hj (lG hN e1 (I.ok.inj _ _ _ e hc ▸ hi))
  ·by_cases Hy:c'=c
   ·subst Hy;exact⟨_,Dw⟩
   ·obtain⟨w2,z2⟩:=I.cell y c' e
    exact⟨w2,z2.sameBut hs Hy⟩
  ·obtain⟨e,n,ne,nf,d⟩:=I.pin p hp
   refine⟨(hs.2 p.1 ?_).trans e,n,ne,nf,d⟩
   intro q
   rw[q,Hx] at e
   have q':oc=p.2:=Option.some.inj e
   exact d w' (by rw[<- q'];exact Fy)
theorem df{M:Model}{A:Around}{E:Value->Shared->Prop}{i:Nat}{x:Str}{v:V}{u:Value}{Q:Unit->Shared->Prop}(I:Inv X pins σ H s)(hN:X.N.Nodup)(hi:X.N[i]?=some x)(hx:Loc X.env.scope x)(r:RelV v u)
  (h:∀ s',Inv X pins (σ.set i (some v)) H s'->Q () s') (hf:zFN X x:=by first|exact .inl rfl|exact .inr rfl|assumption):wpAny M A (storeName X.env x u) Q E s:=
 lH I hN hi hx r (λs' I' _=>h s' I') hf
theorem Inv.call'{s':Shared}{ch:List Addr}(I:Inv X pins σ H s)(ho:s'.os=s.os)(u:Un (frs X.stack) ch H H' s.heap s'.heap)(hok:HOk X.prog X.w H' s'.heap)(hg:AllBare s'.gens)
  (u6:∀ b∈ch,(b∈X.ex\/X.s₀.heap.objs.size<=b)/\b≠X.env.locals/\(∀ x c,X.env.cells.lookup x=some c->c≠b)/\∀ p∈X.pn++pins,p.1≠b):Inv X pins σ H' s':=by
 obtain⟨h',g',d',t',o'⟩:=s'
 have e:o'=s.os:=ho
 subst e
 exact I.call (g':=g') (t':=t') (d':=d') u hok hg u6
end
abbrev XK:=Value->Option Addr->Hp->Prop
abbrev St:=List (Option V)
abbrev VK:=V->Hp->Prop
abbrev TE:=St->Hp->VK->Prop
abbrev TT:=St->Hp->(Bool->Hp->Prop)->Prop
abbrev TA:=St->Hp->(List V->Hp->Prop)->Prop
structure Ends where
 nx:St->Hp->Prop
 rt:VK
 bk:St->Hp->Prop:=λ_ _=>False
 ct:St->Hp->Prop:=λ_ _=>False
abbrev TS:=Ends->St->Hp->Prop
def EP(X:Cx)(pins:List (Addr × Obj))(σ:St)(Q:VK)(u:Value)(s':Shared):Prop:=∃ v H',Inv X pins σ H' s'/\RelV v u/\Q v H'
def TP(X:Cx)(pins:List (Addr × Obj))(σ:St)(Q:Bool->Hp->Prop)(b:Bool)(s':Shared):Prop:=∃ H',Inv X pins σ H' s'/\Q b H'
def AP(X:Cx)(pins:List (Addr × Obj))(σ:St)(Q:List V->Hp->Prop)(us:List Value)(s':Shared):Prop:=∃ vs H',Inv X pins σ H' s'/\Vals vs us/\Q vs H'
def SP(X:Cx)(pins:List (Addr × Obj))(D:Ends)(f:Flow)(s':Shared):Prop:=
 match f with
 | .next=>∃ σ' H',Inv X pins σ' H' s'/\D.nx σ' H'
 | .brk=>∃ σ' H',Inv X pins σ' H' s'/\D.bk σ' H'
 | .cont=>∃ σ' H',Inv X pins σ' H' s'/\D.ct σ' H'
 | .ret u=>∃ v σ' H',Inv X pins σ' H' s'/\RelV v u/\D.rt v H'
def PE(X:Cx)(e:Expr)(t:TE):Prop:=
 ∀ (pins:List (Addr × Obj)) (s:Shared) (σ:St) (H:Hp) (Q:VK),Inv X pins σ H s->t σ H Q->wpAny (model X.prog X.w) X.A (eval e X.env) (EP X pins σ Q) X.xe s
def PT(X:Cx)(e:Expr)(t:TT):Prop:=
 ∀ (pins:List (Addr × Obj)) (s:Shared) (σ:St) (H:Hp) (Q:Bool->Hp->Prop),Inv X pins σ H s->t σ H Q->wpAny (model X.prog X.w) X.A (isTrue e X.env (eval e X.env)) (TP X pins σ Q) X.xe s
def PW(X:Cx)(e:Expr)(t:TT):Prop:=
 ∀ (e_:Sem Value) (pins:List (Addr × Obj)) (s:Shared) (σ:St) (H:Hp) (Q:Bool->Hp->Prop),Inv X pins σ H s->t σ H Q->wpAny (model X.prog X.w) X.A (isTrue e X.env e_) (TP X pins σ Q) X.xe s
theorem PW.pt{X:Cx}{e:Expr}{t:TT}(h:PW X e t):PT X e t:=h _
def PA(X:Cx)(es:List Expr)(t:TA):Prop:=
 ∀ (pos:Pos) (pins:List (Addr × Obj)) (s:Shared) (σ:St) (H:Hp) (Q:List V->Hp->Prop),Inv X pins σ H s->t σ H Q->wpAny (model X.prog X.w) X.A (spliced (backTo pos (starEach es X.env))) (AP X pins σ Q) X.xe s
def PS(X:Cx)(st:Stmt)(t:TS):Prop:=
 ∀ (pins:List (Addr × Obj)) (s:Shared) (σ:St) (H:Hp) (D:Ends),Inv X pins σ H s->t D σ H->wpAny (model X.prog X.w) X.A (exec st X.env) (SP X pins D) X.xe s
def PSs(X:Cx)(st:List Stmt)(t:TS):Prop:=
 ∀ (pins:List (Addr × Obj)) (s:Shared) (σ:St) (H:Hp) (D:Ends),Inv X pins σ H s->t D σ H->wpAny (model X.prog X.w) X.A (execs st X.env) (SP X pins D) X.xe s
theorem thn{α:Type}{t:Sem α}{Q Q':α->Shared->Prop}{M:Model}{A:Around}{E:Value->Shared->Prop}{s:Shared}(h:wpAny M A t Q E s)(hQ:∀ a s,Q a s->Q' a s):wpAny M A t Q' E s:=wpAny_mono h hQ λ_ _ x=>x
section
variable {X:Cx}
theorem bin{a b:Expr}{ta tb:TE}(ha:PE X a ta)(hb:PE X b tb){pins:List (Addr × Obj)}{s:Shared}{σ:St}{H:Hp}{R:V->V->Hp->Prop}(I:Inv X pins σ H s)(h:ta σ H λx H1=>tb σ H1 λy H2=>R x y H2)
  {α:Type} {Q:α->Shared->Prop} {f:Value->Value->Sem α}
  (hf:∀ v u s2 x y H2,Inv X pins σ H2 s2->RelV x v->RelV y u->R x y H2->wpAny (model X.prog X.w) X.A (f v u) Q X.xe s2):
  wpAny (model X.prog X.w) X.A (eval a X.env) (λv s₁=>wpAny (model X.prog X.w) X.A (eval b X.env) (λu s₂=>wpAny (model X.prog X.w) X.A (f v u) Q X.xe s₂) X.xe s₁) X.xe s:=by
 refine thn (ha pins s σ H _ I h) λv s1 ⟨x,H1,I1,r1,q1⟩=>?_
 refine thn (hb pins s1 σ H1 _ I1 q1) λu s2 ⟨y,H2,I2,r2,q2⟩=>?_
 exact hf v u s2 x y H2 I2 r1 r2 q2
def tVar(i:Nat):TE:=λσ H Q=>∃ v,σ[i]?=some (some v)/\Q v H
def tC(v:V):TE:=λ_ H Q=>Q v H
theorem dQ{i:Nat}{x:Str}{pos:Pos}(hN:X.N[i]?=some x)(hv:Vis X.env.scope x)(hd:zND x:=by decide)(f7:zNC x:=by decide):PE X (.Name x pos) (tVar i):=by
 intro pins s σ H Q I h
 obtain⟨v,e,h⟩:=h
 obtain⟨m,hn,hl⟩:=I.loc
 obtain⟨u,r,l⟩:=hl i x v hN e hv
 have d6:EP X pins σ Q u s:=⟨v,H,I,r,h⟩
 rcases l with⟨hk,hm⟩|⟨hk,c,hc,j5⟩
 ·exact wpAny_Name (wpAny_loadName_local I.ok.kind hk hn hm d6) hd
 ·rcases hk with hk|hk
  ·exact wpAny_Name (wpAny_loadName_cell I.ok.kind hk hc j5 d6) hd
  ·exact wpAny_Name (wpAny_loadName_free I.ok.kind hk hc j5 d6 f7) hd
theorem qa{i j pos}:PE X (.Constant (.int i) j pos) (tC (.int i)):=λ_ _ _ H _ I h=>wpAny_Constant_int ⟨.int i,H,I.tok _,⟨_,rfl⟩,h⟩
theorem qc{b j pos}:PE X (.Constant (.bool b) j pos) (tC (.bl b)):=λ_ _ _ H _ I h=>Constant_bool ⟨.bl b,H,I,rfl,h⟩
theorem qd{j pos}:PE X (.Constant .none j pos) (tC .non):=λ_ _ _ H _ I h=>Constant_none ⟨.non,H,I,rfl,h⟩
theorem lJ{x j pos}:PE X (.Constant (.str x) j pos) (tC (.str x)):=λ_ _ _ H _ I h=>Calls.Constant_str ⟨.str x,H,I.tok _,⟨_,rfl⟩,h⟩
def Gl(X:Cx)(x:Str):Prop:=X.env.kindOf x=some .globalImplicit
theorem bY{E:Value->Shared->Prop}{pins:List (Addr × Obj)}{s:Shared}{σ:St}{H:Hp}{x:Str}{u:Value}{pos:Pos}{Q:Value->Shared->Prop}(I:Inv X pins σ H s)(hg:Gl X x)(hm:X.mg x=some u)(h:Q u s)
  (hd:zND x:=by decide):wpAny (model X.prog X.w) X.A (eval (.Name x pos) X.env) Q E s:=
 Calls.Name_function_global I.ok.kind hg (Calls.loadGlobal_global (by rw[I.ok.glob];exact I.mod.glob.keeps I.bk) hm h) hd
theorem dg{E:Value->Shared->Prop}{pins:List (Addr × Obj)}{s:Shared}{σ:St}{H:Hp}{x:Str}{u:Value}{pos:Pos}{Q:Value->Shared->Prop}(I:Inv X pins σ H s)(hg:Gl X x)(hm:X.mg x=none)(hv:bootBuiltins x=some u)(h:Q u s)
  (hn:x≠"__name__":=by decide) (hd:zND x:=by decide):wpAny (model X.prog X.w) X.A (eval (.Name x pos) X.env) Q E s:=by
 obtain⟨mb,h1,h2⟩:=I.mod.blt
 exact Calls.Name_function_global I.ok.kind hg (Calls.loadGlobal_builtin (by rw[I.ok.glob];exact I.mod.glob.keeps I.bk) hm (by rw[I.ok.blt];exact h1.keeps I.bk) ((h2 x hn).trans hv) h) hd
theorem lK{x:Str}{v:V}{u:Value}{pos:Pos}(hg:Gl X x)(hm:X.mg x=some u)(r:RelV v u)(hd:zND x:=by decide):PE X (.Name x pos) (tC v):=
 λ_ _ _ H _ I h=>bY I hg hm ⟨v,H,I,r,h⟩ hd
theorem qe{x:Str}{v:V}{u:Value}{pos:Pos}(hg:Gl X x)(hm:X.mg x=none)(hv:bootBuiltins x=some u)(r:RelV v u)(hn:x≠"__name__":=by decide)(hd:zND x:=by decide):PE X (.Name x pos) (tC v):=
 λ_ _ _ H _ I h=>dg I hg hm hv ⟨v,H,I,r,h⟩ hn hd
variable {a b:Expr}{ta tb:TE}{pos:Pos}
def tB(t:TE):TT:=λσ H Q=>t σ H λx H1=>∃ c,x= .bl c/\Q c H1
variable {tA A':TT}{rest:List Expr}
def tAnd(t u:TT):TT:=λσ H Q=>t σ H λc H1=>if c=true then u σ H1 Q else Q false H1
def tOr(t u:TT):TT:=λσ H Q=>t σ H λc H1=>if c=true then Q true H1 else u σ H1 Q
def tNot(t:TT):TT:=λσ H Q=>t σ H λc H1=>Q (!c) H1
theorem qf(ha:PT X a tA):PW X (.BoolOp .And [a] pos) tA:=by
 intro wh pins s σ H Q I h
 refine isTrue_and (thn (ha pins s σ H Q I h) λc s1 e=>?_)
 cases c with
 |true=>exact isTrue_and_nil e
 |false=>exact e
theorem lL(ha:PT X a tA):PW X (.BoolOp .Or [a] pos) tA:=by
 intro wh pins s σ H Q I h
 refine isTrue_or (thn (ha pins s σ H Q I h) λc s1 e=>?_)
 cases c with
 |false=>exact isTrue_or_nil e
 |true=>exact e
theorem qg(ha:PT X a tA)(hb:PW X (.BoolOp .And (b::rest) pos) A'):PW X (.BoolOp .And (a::b::rest) pos) (tAnd tA A'):=by
 intro wh pins s σ H Q I h
 refine isTrue_and (thn (ha pins s σ H _ I h) λc s1 ⟨H1,I1,q1⟩=>?_)
 cases c with
 |true=>exact hb wh pins s1 σ H1 Q I1 q1
 |false=>exact⟨H1,I1,q1⟩
theorem lM(ha:PT X a tA)(hb:PW X (.BoolOp .Or (b::rest) pos) A'):PW X (.BoolOp .Or (a::b::rest) pos) (tOr tA A'):=by
 intro wh pins s σ H Q I h
 refine isTrue_or (thn (ha pins s σ H _ I h) λc s1 ⟨H1,I1,q1⟩=>?_)
 cases c with
 |true=>exact⟨H1,I1,q1⟩
 |false=>exact hb wh pins s1 σ H1 Q I1 q1
theorem qh(ha:PT X a tA):PT X (.UnaryOp .Not a pos) (tNot tA):=by
 intro pins s σ H Q I h
 exact isTrue_not (ha pins s σ H (λc H1=>Q (!c) H1) I h)
def qi(ta tb:TE):TE:=λσ H Q=>ta σ H λx H1=>∃ c,x= .bl c/\if c=true then tb σ H1 Q else Q (.bl false) H1
def qj(ta:TE):TE:=λσ H Q=>ta σ H λx H1=>∃ c,x= .bl c/\Q (.bl (!c)) H1
theorem qk{op}{t:TE}(h:PE X a t):PE X (.BoolOp op [a] pos) t:=λpins s σ H Q I hw=>BoolOp_one (h pins s σ H Q I hw)
theorem ql(ha:PE X a ta)(hb:PE X (.BoolOp .And (b::rest) pos) tb):PE X (.BoolOp .And (a::b::rest) pos) (qi ta tb):=by
 intro pins s σ H Q I h
 refine BoolOp_and (thn (ha pins s σ H _ I h) λv s1 ⟨x,H1,I1,r1,q1⟩=>?_)
 obtain⟨c,rfl,q1⟩:=q1
 cases r1
 refine wpAny_truthy_bool ?_
 cases c with
 |true=>exact hb pins s1 σ H1 Q I1 q1
 |false=>exact⟨.bl false,H1,I1,rfl,q1⟩
theorem qm(ha:PE X a ta):PE X (.UnaryOp .Not a pos) (qj ta):=by
 intro pins s σ H Q I h
 refine UnaryOp_ (thn (ha pins s σ H _ I h) λv s1 ⟨x,H1,I1,r1,q1⟩=>?_)
 obtain⟨c,rfl,q1⟩:=q1
 cases r1
 exact not_of (wpAny_truthy_bool ⟨.bl (!c),H1,I1,rfl,q1⟩)
def tIf(t:TT)(ta tb:TE):TE:=λσ H Q=>t σ H λc H1=>if c=true then ta σ H1 Q else tb σ H1 Q
theorem qo{c:Expr}(hc:PT X c tA)(ha:PE X a ta)(hb:PE X b tb):PE X (.IfExp c a b pos) (tIf tA ta tb):=by
 intro pins s σ H Q I h
 refine wpAny_IfExp (thn (hc pins s σ H _ I h) λd s1 ⟨H1,I1,q1⟩=>?_)
 cases d with
 |true=>exact ha pins s1 σ H1 Q I1 q1
 |false=>exact hb pins s1 σ H1 Q I1 q1
end
def SqL(K:Ax)(H:Hp)(a:Addr)(xs:List V):Prop:=
 Rd H a (.lst xs)\/
  ∃ (o:Obj) (its:Array Value) (n:Nat),K.lookup a=some o/\o.cls= .type "list"/\o.dict=none/\o.data= .seq its n/\its.size<=sizeLine/\Vals xs its.toList
def SqT(K:Ax)(H:Hp)(a:Addr)(xs:List V):Prop:=
 Rd H a (.tup xs)\/
  ∃ (o:Obj) (its:Array Value) (n:Nat),K.lookup a=some o/\o.cls= .type "tuple"/\o.data= .seq its n/\its.size<=sizeLine/\Vals xs its.toList
def absV:Value->Option V
 | .none=>some .non
 | .bool b=>some (.bl b)
 | .int i _=>some (.int i)
 | .str x _=>some (.str x)
 | .bytes b _=>some (.byt b)
 | .float b _=>some (.flt b)
 | .ref a=>some (.ref a)
 | .type n=>some (.ty n)
 |_=>none
theorem RelV.abs{x:V}{u:Value}(r:RelV x u):absV u=some x:=by
 cases x with
 |non=>cases r;rfl
 |bl _=>cases r;rfl
 |int _=>obtain⟨t,rfl⟩:=r;rfl
 |str _=>obtain⟨t,rfl⟩:=r;rfl
 |byt _=>obtain⟨t,rfl⟩:=r;rfl
 |flt _=>obtain⟨t,rfl⟩:=r;rfl
 |ref _=>cases r;rfl
 |ty _=>cases r;rfl
theorem RelV.inj{x y:V}{u:Value}(r:RelV x u)(q:RelV y u):x=y:=Option.some.inj (r.abs.symm.trans q.abs)
theorem Vals.inj:∀ {xs ys:List V} {us:List Value},Vals xs us->Vals ys us->xs=ys
 |_,_,_,.nil,.nil=>rfl
 |_,_,_,.cons r t,.cons r' t'=>by rw[r.inj r',Vals.inj t t']
section
variable {X:Cx}{pins:List (Addr × Obj)}{σ:St}{H:Hp}{s:Shared}{a:Addr}{xs ys:List V}
theorem SqL.of{K:Ax}(h:H a=some (.lst xs)):SqL K H a xs:= .inl (.inl h)
theorem SqT.of{K:Ax}(h:H a=some (.tup xs)):SqT K H a xs:= .inl (.inl h)
theorem Inv.list(I:Inv X pins σ H s)(h:SqL X.K H a xs):∃ its:List Value,Vals xs its/\PlainL s.heap a its.toArray/\xs.length<=sizeLine:=by
 rcases h with h|⟨o,its,n,hk,hc,hd,hs,hz,r⟩
 ·obtain⟨z,its,n,r,e⟩:=h.ok I.hok
  exact⟨its,r,⟨_,n,e,rfl,rfl,rfl⟩,z⟩
 ·refine⟨its.toList,r,⟨o,n,I.kIn a o hk,hc,hd,by simpa using hs⟩,?_⟩
  have e:=r.length
  simp only[Cu] at e
  lia
theorem Inv.tuple(I:Inv X pins σ H s)(h:SqT X.K H a xs):∃ its:List Value,Vals xs its/\IsTup s.heap a its.toArray/\xs.length<=sizeLine:=by
 rcases h with h|⟨o,its,n,hk,hc,hs,hz,r⟩
 ·obtain⟨z,its,r,p⟩:=h.ok I.hok
  exact⟨its,r,p,z⟩
 ·refine⟨its.toList,r,⟨o,I.kIn a o hk,hc,n,by simpa using hs⟩,?_⟩
  have e:=r.length
  simp only[Cu] at e
  lia
theorem Inv.list_inj(I:Inv X pins σ H s)(h:SqL X.K H a xs)(h':SqL X.K H a ys):xs=ys:=by
 obtain⟨its,r,⟨o,n,e,_,_,d⟩,_⟩:=I.list h
 obtain⟨its',r',⟨o',n',e',_,_,d'⟩,_⟩:=I.list h'
 rw[e] at e';cases e'
 rw[d] at d'
 injection d' with d1 _
 have:its=its':=by simpa using congrArg Array.toList d1
 subst this
 exact r.inj r'
end
abbrev Cx.wish(X:Cx)(E:Value->Shared->Prop):Cx:={X with xe:=E}
abbrev Cx.nox(X:Cx):Cx:=X.wish λ_ _=>False
theorem Cx.Ok.wish{X:Cx}(ok:X.Ok)(E:Value->Shared->Prop):(X.wish E).Ok:=
 ⟨ok.mod,ok.kind,ok.glob,ok.blt,ok.above,ok.inj,ok.has,ok.cab,ok.hd,ok.frames,ok.stk,ok.exf,ok.bs,ok.bsz,ok.noex,ok.exfs,ok.funs,ok.frf⟩
theorem Cx.Ok.unwish{X:Cx}{E:Value->Shared->Prop}(ok:(X.wish E).Ok):X.Ok:=
 ⟨ok.mod,ok.kind,ok.glob,ok.blt,ok.above,ok.inj,ok.has,ok.cab,ok.hd,ok.frames,ok.stk,ok.exf,ok.bs,ok.bsz,ok.noex,ok.exfs,ok.funs,ok.frf⟩
section
variable {X:Cx}{pins:List (Addr × Obj)}{σ:St}{H:Hp}{s:Shared}{E:Value->Shared->Prop}
theorem Inv.wish(I:Inv X pins σ H s)(E:Value->Shared->Prop):Inv (X.wish E) pins σ H s:=⟨I.ok.wish E,I.os,I.bare,I.base,I.loc,I.cell,I.free,I.freeC,I.pin,I.hok,I.len⟩
theorem Inv.unwish(I:Inv (X.wish E) pins σ H s):Inv X pins σ H s:=⟨I.ok.unwish,I.os,I.bare,I.base,I.loc,I.cell,I.free,I.freeC,I.pin,I.hok,I.len⟩
theorem SP.unwish{D:Ends}{f:Flow}{s':Shared}(h:SP (X.wish E) pins D f s'):SP X pins D f s':=by
 cases f with
 |next=>obtain⟨σ',H',I,q⟩:=h;exact⟨σ',H',I.unwish,q⟩
 |brk=>obtain⟨σ',H',I,q⟩:=h;exact⟨σ',H',I.unwish,q⟩
 |cont=>obtain⟨σ',H',I,q⟩:=h;exact⟨σ',H',I.unwish,q⟩
 |ret u=>obtain⟨v,σ',H',I,r,q⟩:=h;exact⟨v,σ',H',I.unwish,r,q⟩
theorem PE.nox{e:Expr}{t:TE}(h:PE X.nox e t):PE X e t:=λpins s σ H Q I hw=>
 wpAny_mono (h pins s σ H Q (I.wish _) hw) (λ_ _ ⟨v,H',I',r,q⟩=>⟨v,H',I'.unwish,r,q⟩) λ_ _ z=>False.elim z
theorem PT.nox{e:Expr}{t:TT}(h:PT X.nox e t):PT X e t:=λpins s σ H Q I hw=>
 wpAny_mono (h pins s σ H Q (I.wish _) hw) (λ_ _ ⟨H',I',q⟩=>⟨H',I'.unwish,q⟩) λ_ _ z=>False.elim z
theorem PSs.nox{st:List Stmt}{t:TS}(h:PSs X.nox st t):PSs X st t:=λpins s σ H D I hw=>
 wpAny_mono (h pins s σ H D (I.wish _) hw) (λ_ _ q=>q.unwish) λ_ _ z=>False.elim z
end
section
variable {X:Cx}{st:Stmt}{rest:List Stmt}{t u:TS}{e:Expr}{te:TE}{pos:Pos}
def qp:TS:=λD σ H=>D.nx σ H
def tSeq(t u:TS):TS:=λD σ H=>t {D with nx:=u D} σ H
theorem pss_nil:PSs X [] qp:=λ_ _ σ H _ I h=>wpAny_execs_nil ⟨σ,H,I,h⟩
theorem dR(h1:PS X st t)(h2:PSs X rest u):PSs X (st::rest) (tSeq t u):=by
 intro pins s σ H D I h
 refine wpAny_execs_cons (thn (h1 pins s σ H {D with nx:=u D} I h) λf s1 q=>?_)
 cases f with
 |next=>
  obtain⟨σ',H',I',q⟩:=q
  exact h2 pins s1 σ' H' D I' q
 |ret v=>exact q
 |brk=>exact q
 |cont=>exact q
theorem lN(h1:PS X st t):PSs X [st] t:=by
 intro pins s σ H D I h
 refine wpAny_execs_cons (thn (h1 pins s σ H D I h) λf s1 q=>?_)
 cases f with
 |next=>exact wpAny_execs_nil q
 |ret v=>exact q
 |brk=>exact q
 |cont=>exact q
theorem Inv.quiet{pins:List (Addr × Obj)}{σ:St}{H:Hp}{s:Shared}(I:Inv X pins σ H s):interactive X.env=false:=by simp[interactive,I.ok.kind]
def qq(te:TE):TS:=λD σ H=>te σ H λ_ H1=>D.nx σ H1
theorem lP(he:PE X e te)(hs:swapsWith e none pos.line X.env=pure false:=by rfl):PS X (.Expr e pos) (qq te):=by
 intro pins s σ H D I h
 exact wpAny_Expr_any (thn (he pins s σ H _ I h) λv s1 ⟨x,H1,I1,r1,q1⟩=>⟨σ,H1,I1,q1⟩) I.quiet hs
def tRet(te:TE):TS:=λD σ H=>te σ H D.rt
theorem lQ(he:PE X e te):PS X (.Return (some e) pos) (tRet te):=by
 intro pins s σ H D I h
 exact wpAny_Return_some (thn (he pins s σ H _ I h) λv s1 ⟨x,H1,I1,r1,q1⟩=>⟨x,σ,H1,I1,r1,q1⟩)
def tIfS(c:TT)(t u:TS):TS:=λD σ H=>c σ H λb H1=>if b=true then t D σ H1 else u D σ H1
theorem lR{c:Expr}{a b:List Stmt}{tc:TT}(hc:PT X c tc)(ha:PSs X a t)(hb:PSs X b u):PS X (.If c a b pos) (tIfS tc t u):=by
 intro pins s σ H D I h
 refine wpAny_If (thn (hc pins s σ H _ I h) λd s1 ⟨H1,I1,q1⟩=>?_)
 cases d with
 |true=>exact ha pins s1 σ H1 D I1 q1
 |false=>exact hb pins s1 σ H1 D I1 q1
end
abbrev TG:=V->St->Hp->(St->Hp->Prop)->Prop
abbrev TGs:=List V->St->Hp->(St->Hp->Prop)->Prop
def PG(X:Cx)(d9:Expr)(t:TG):Prop:=
 ∀ (pins:List (Addr × Obj)) (s:Shared) (σ:St) (H:Hp) (v:V) (u:Value) (Q:St->Hp->Prop),Inv X pins σ H s->RelV v u->t v σ H Q->
  wpAny (model X.prog X.w) X.A (assign d9 X.env u) (λ_ s'=>∃ σ' H',Inv X pins σ' H' s'/\Q σ' H') X.xe s
def PGs(X:Cx)(ts:List Expr)(t:TGs):Prop:=
 ∀ (pins:List (Addr × Obj)) (s:Shared) (σ:St) (H:Hp) (vs:List V) (us:List Value) (Q:St->Hp->Prop),Inv X pins σ H s->Vals vs us->t vs σ H Q->
  wpAny (model X.prog X.w) X.A (assignInOrder ((assignEach ts X.env).map (·.2)) us) (λ_ s'=>∃ σ' H',Inv X pins σ' H' s'/\Q σ' H') X.xe s
section
variable {X:Cx}{pos:Pos}
def eY(i:Nat):TG:=λv σ H Q=>Q (σ.set i (some v)) H
theorem eZ{i:Nat}{x:Str}(hN:X.N.Nodup)(hi:X.N[i]?=some x)(hx:Loc X.env.scope x)(hf:zFN X x:=by first|exact .inl rfl|exact .inr rfl|assumption):PG X (.Name x pos) (eY i):=by
 intro pins s σ H v u Q I r h
 exact wpAny_assign_Name (df I hN hi hx r (λs' I'=>⟨_,H,I',h⟩) hf)
def gNil:TGs:=λvs σ H Q=>vs=[]/\Q σ H
def qr(t:TG)(u:TGs):TGs:=λvs σ H Q=>∃ v r,vs=v::r/\t v σ H λσ' H'=>u r σ' H' Q
theorem qt:PGs X [] gNil:=by
 intro pins s σ H vs us Q I r h
 obtain⟨e,h⟩:=h
 subst e
 cases r
 exact assignInOrder_nil ⟨σ,H,I,h⟩
theorem qu{e:Expr}{es:List Expr}{t:TG}{u:TGs}(h1:PG X e t)(h2:PGs X es u)
  (hs:(assignEach (e::es) X.env).map (·.2)=assign e X.env::(assignEach es X.env).map (·.2):=by rfl):PGs X (e::es) (qr t u):=by
 intro pins s σ H vs us Q I r h
 obtain⟨v,vr,e1,h⟩:=h
 subst e1
 cases r with
 |cons r rr=>
  rw[hs]
  refine assignInOrder_cons (thn (h1 pins s σ H _ _ _ I r h) λ_ s1 ⟨σ1,H1,I1,q1⟩=>?_)
  exact h2 pins s1 σ1 H1 _ _ Q I1 rr q1
def gTup(K:Ax)(n:Nat)(t:TGs):TG:=λv σ H Q=>∃ a xs,v= .ref a/\SqT K H a xs/\xs.length=n/\t xs σ H Q
theorem gS{es:List Expr}{k:Nat}{t:TGs}{n:Nat}(hc:X.calm=true)(h:PGs X es t)
  (hn:(assignEach es X.env).length=n:=by rfl) (m9:(assignEach es X.env).findIdx? (·.1)=none:=by rfl):PG X (.Tuple es k pos) (gTup X.K n t):=by
 intro pins s σ H v u Q I r hw
 obtain⟨a,xs,e1,hq,hl,hw⟩:=hw
 subst e1
 cases r
 obtain⟨its,rv,ht,hz⟩:=I.tuple hq
 refine assign_Tuple_tuple (I.ok.hd hc) ht (by simp[hn,<- hl,rv.length]) m9 λh' hx=>?_
 have I1:Inv X pins σ H {s with heap:=h'}:=I.kept (t':=s.toks) λb o e=>hx b o (AF (Heap.lt_size e)) e
 exact h pins _ σ H xs _ Q I1 (by simpa using rv) hw
def tAsg(te:TE)(g:TG):TS:=λD σ H=>te σ H λx H1=>g x σ H1 D.nx
theorem lU{tg e:Expr}{te:TE}{g:TG}(he:PE X e te)(hg:PG X tg g)(hs:swapsWithSole [tg] e pos.line X.env=pure false:=by rfl)(hw:swappedStores [tg] e X.env=pure none:=by rfl)
  (h1:(assignEach [tg] X.env).map (·.2)=[assign tg X.env]:=by rfl):PS X (.Assign [tg] e pos) (tAsg te g):=by
 intro pins s σ H D I h
 refine wpAny_Assign_stores (thn (he pins s σ H _ I h) λv s1 ⟨x,H1,I1,r1,q1⟩=>?_) hs hw
 rw[h1]
 exact thn (hg pins s1 σ H1 x v _ I1 r1 q1) λ_ s2 q=>q
theorem gT{i:Nat}{x:Str}{e:Expr}{te:TE}{c5:Pos}(hN:X.N.Nodup)(hi:X.N[i]?=some x)(hx:Loc X.env.scope x)(he:PE X e te)(hs:swapsWith e (some (.Name x c5)) pos.line X.env=pure false:=by rfl)(hf:zFN X x:=by first|exact .inl rfl|exact .inr rfl|assumption):
  PS X (.Assign [.Name x c5] e pos) (tAsg te (eY i)):=by
 intro pins s σ H D I h
 refine wpAny_Assign_Name (thn (he pins s σ H _ I h) λv s1 ⟨y,H1,I1,r1,q1⟩=>?_) hs
 exact df I1 hN hi hx r1 (λs2 I2=>⟨_,H1,I2,q1⟩) hf
def tPar(i j:Nat)(ta:TA):TS:=λD σ H=>ta σ H λvs H1=>∃ v w,vs=[v,w]/\D.nx ((σ.set i (some v)).set j (some w)) H1
theorem qv{i j:Nat}{x y:Str}{a b:Expr}{ta:TA}{px py pt:Pos}{kt k2 A_}(hc:X.calm=true)(hN:X.N.Nodup)(hi:X.N[i]?=some x)(hj:X.N[j]?=some y)(Fz:i≠j)
  (hx:X.env.scope.names.lookup x=some .local) (hy:X.env.scope.names.lookup y=some .local) (ha:PA X [a,b] ta)
  (hw:swappedStores [.Tuple [.Name x px,.Name y py] kt pt] (.Tuple [a,b] k2 A_) X.env=pure (some [x,y]))
  (hs:swapsWithSole [.Tuple [.Name x px,.Name y py] kt pt] (.Tuple [a,b] k2 A_) pos.line X.env=pure false:=by rfl):
  PS X (.Assign [.Tuple [.Name x px,.Name y py] kt pt] (.Tuple [a,b] k2 A_) pos) (tPar i j ta):=by
 intro pins s σ H D I h
 rw[exec_Assign_arm]
 refine wpAny_bind (wpAny_standAt ?_)
 rw[hs]
 refine wpAny_bind (wpAny_pure ?_)
 rw[if_neg (by decide)]
 refine wpAny_bind (Tuple_ (thn (ha _ pins s σ H _ I h) λus s1 ⟨vs,H1,I1,r1,q1⟩=>?_))
 obtain⟨v,w,e1,q1⟩:=q1
 subst e1
 obtain⟨u1,u2,rfl,rv,m_⟩:∃ u1 u2,us=[u1,u2]/\RelV v u1/\RelV w u2:=by
  cases r1 with
  |cons p q=>
   cases q with
   |cons p' q'=>
    cases q'
    exact⟨_,_,rfl,p,p'⟩
 refine wpAny_newObj_type ?_ (by show 2<=sizeLine;decide)
 have I2:Inv X pins σ H1 {s1 with heap:=s1.heap.push {cls:= .type "tuple",data:= .seq [u1,u2].toArray} }:=I1.kept (t':=s1.toks) λb o e=>Heap.get?_push_of_some _ e
 rw[hw]
 refine wpAny_bind (wpAny_pure ?_)
 show wpAny (model X.prog X.w) X.A (do rule "assign.swapped-stores";let items <- unpackItems (.ref s1.heap.objs.size) 2 none;assignInOrder [λv=>bindName X.env y v,λv=>bindName X.env x v] items.reverse;pure Flow.next) _ _ _
 refine wpAny_bind (wpAny_rule (wpAny_bind (unpackItems_tuple (items:=#[u1,u2]) (I.ok.hd hc) (IsTup.new s1.heap _) λh' e8=>?_)))
 have I3:=I2.kept (h':=h') (t':=s1.toks) λb o e=>e8 b o (AF (Heap.lt_size e)) e
 show wpAny _ _ (assignInOrder [λv=>bindName X.env y v,λv=>bindName X.env x v] [u2,u1]>>=λ_=>pure Flow.next) _ _ _
 refine wpAny_bind (assignInOrder_cons (wpAny_bindName (df I3 hN hj (.inl hy) m_ (λs2 I4=>?_) (.inr hy))))
 refine assignInOrder_cons (wpAny_bindName (df I4 hN hi (.inl hx) rv (λs3 I5=>assignInOrder_nil (wpAny_pure ?_)) (.inr hx)))
 rw[List.set_comm _ _ (Ne.symm Fz)] at I5
 exact⟨_,H1,I5,q1⟩
def qw(c:TT)(tb:TS):TS:=λD σ H=>∃ W:Nat->St->Hp->Prop,(∃ m,W m σ H)/\∀ m σ H,W m σ H->
 c σ H λb H1=>if b=true then ∃ N:St->Hp->Prop,(∀ σ' H',N σ' H'->∃ m',m'<m/\W m' σ' H')/\tb {D with nx:=N,ct:=N,bk:=D.nx} σ H1 else D.nx σ H1
theorem lV{c:Expr}{body:List Stmt}{tc:TT}{tb:TS}(hp:PassesOwn (model X.prog X.w) X.A X.env X.xe)(hc:PT X c tc)(hb:PSs X body tb):PS X (.While c body [] pos) (qw tc tb):=by
 intro pins s σ H D I h
 obtain⟨W,⟨m0,w0⟩,b_⟩:=h
 refine wpAny_While (codeAny_whileLoop (λn s'=>∃ σ' H',Inv X pins σ' H' s'/\W n σ' H') ?_ m0 ⟨σ,H,I,w0⟩)
 rintro n s1 ⟨σ1,H1,I1,w1⟩
 refine wpAny_passesOwn hp (thn (hc pins s1 σ1 H1 _ I1 (b_ n σ1 H1 w1)) λb s2 ⟨H2,I2,q2⟩=>?_)
 cases b with
 |true=>
  obtain⟨N,hN,q2⟩:=q2
  rw[if_pos rfl]
  refine wpAny_passesOwn hp (thn (hb pins s2 σ1 H2 _ I2 q2) λf s3 q3=>?_)
  cases f with
  |next=>
   obtain⟨σ3,H3,I3,n3⟩:=q3
   obtain⟨m',hm,w3⟩:=hN σ3 H3 n3
   exact⟨m',hm,σ3,H3,I3,w3⟩
  |cont=>
   obtain⟨σ3,H3,I3,n3⟩:=q3
   obtain⟨m',hm,w3⟩:=hN σ3 H3 n3
   exact⟨m',hm,σ3,H3,I3,w3⟩
  |brk=>exact q3
  |ret v=>exact q3
 |false=>
  rw[if_neg AG]
  exact wpAny_execs_nil ⟨σ1,H2,I2,q2⟩
end
structure It where
 go:Nat->Hp->Prop
 yld:Nat->Hp->V->Hp->Prop
 stop:Nat->Hp->Prop
def FpOk(X:Cx)(pins:List (Addr × Obj))(H:Hp)(b:Addr):Prop:=
 H b=none/\b≠X.env.locals/\b ∉ X.fs/\(b∈X.ex\/X.s₀.heap.objs.size<=b)/\(∀ x c,X.env.cells.lookup x=some c->c≠b)/\∀ p∈X.pn++pins,p.1≠b
theorem Inv.fpOk{X:Cx}{pins:List (Addr × Obj)}{σ:St}{H H':Hp}{s:Shared}{b:Addr}(I:Inv X pins σ H s)(hb:s.heap.objs.size<=b)(hn:H' b=none):FpOk X pins H' b:=by
 refine⟨hn,Bl (AV I.lt hb),I.nofs hb,.inr (AK I.sz hb),λx c e z=>?_,λp hp z=>?_⟩
 ·obtain⟨v,q⟩:=I.cell x c e
  exact absurd (AV q.lt (by rw[z];exact hb)) (Bs _)
 ·exact absurd (AV (Heap.lt_size (I.pin p hp).1) (by rw[z];exact hb)) (Bs _)
structure Turn(P:Program)(w:World)(K:Ax)(tg:Expr)(J:It)(fp:List Addr)(it:Addr)(tn:Nat->Heap->Prop):Prop where
 mem:it∈fp
 obj:∀ i h,tn i h->∀ b∈fp,∃ o,h.get? b=some o/\∀ v,o.data≠.cell v
 keep:∀ i h h',tn i h->(∀ b∈fp,∀ o,h.get? b=some o->h'.get? b=some o)->tn i h'
 item:∀ (X:Cx),X.prog=P->X.w=w->X.K=K->X.calm=true->∀ (i:Nat) (pins:List (Addr × Obj)) (s:Shared) (σ:St) (H:Hp) (E:Value->Shared->Prop),Inv X pins σ H s->(∀ b∈fp,FpOk X pins H b)->tn i s.heap->J.go i H->
  wpAny (model P w) X.A (pyNext (.ref it)) (λr s1=>∃ u,r=some u/\
   wpAny (model P w) X.A (letOwnedTupleGo tg (.ref it) u) (λ_ s2=>∃ x H',Inv X pins σ H' s2/\RelV x u/\J.yld i H x H'/\tn (i+1) s2.heap/\∀ b∈fp,H' b=none) E s1) E s
 done:∀ (X:Cx),X.prog=P->X.w=w->X.K=K->X.calm=true->∀ (i:Nat) (pins:List (Addr × Obj)) (s:Shared) (σ:St) (H:Hp) (E:Value->Shared->Prop),Inv X pins σ H s->(∀ b∈fp,FpOk X pins H b)->tn i s.heap->J.stop i H->
  wpAny (model P w) X.A (pyNext (.ref it)) (λr s1=>r=none/\Inv X pins σ H s1) E s
 self:∀ (A:Around) (i:Nat) (s:Shared) (Q:Value->Shared->Prop) (E:Value->Shared->Prop),tn i s.heap->Q (.ref it) s->wpAny (model P w) A (pyIter (.ref it)) Q E s
abbrev TI:=St->Hp->(It->Hp->Prop)->Prop
def PIE(X:Cx)(pins:List (Addr × Obj))(σ:St)(tg:Expr)(R:It->Hp->Prop)(E1:Value)(s2:Shared):Prop:=
 ∃ (it:Addr) (fp:List Addr) (tn:Nat->Heap->Prop) (J:It) (H':Hp),E1= .ref it/\Inv X pins σ H' s2/\Turn X.prog X.w X.K tg J fp it tn/\tn 0 s2.heap/\(∀ b∈fp,FpOk X pins H' b)/\R J H'
def PI(X:Cx)(tg iter:Expr)(wi:TI):Prop:=
 ∀ (pins:List (Addr × Obj)) (s:Shared) (σ:St) (H:Hp) (R:It->Hp->Prop),Inv X pins σ H s->wi σ H R->
  wpAny (model X.prog X.w) X.A (eval iter X.env) (λv s1=>wpAny (model X.prog X.w) X.A (pyIter v) (PIE X pins σ tg R) X.xe s1) X.xe s
theorem lW{M:Model}{A:Around}{E:Value->Shared->Prop}{s:Shared}{tg:Expr}{it:Addr}{u:Value}{o:Obj}{n:String}{vs:Array Value}{Q:Unit->Shared->Prop}(ho:s.heap.get? it=some o)(hc:o.cls= .type n)(hd:o.data= .fields vs)
    (hn:["enumerate","zip","dict_itemiterator","dict_reverseitemiterator","odict_iterator","itertools.zip_longest","itertools.pairwise"].contains n=false) (hQ:Q () s):wpAny M A (letOwnedTupleGo tg (.ref it) u) Q E s:=by
  unfold letOwnedTupleGo
  cases tg<;>first
    |exact wpAny_pure hQ
    |(cases u<;>first
        |exact wpAny_pure hQ
        | (refine wpAny_bind (wpAny_load ho ?_)
           rw[hc,hd]
           show wpAny M A (if(["enumerate","zip","dict_itemiterator","dict_reverseitemiterator","odict_iterator","itertools.zip_longest","itertools.pairwise"].contains n && vs[0]?==some (rawInt _))=true then _ else _) Q E s
           rw[if_neg (by intro h;rw[hn,Bool.false_and] at h;cases h)]
           exact wpAny_pure hQ))
def Itl(K:Ax)(a:Addr):It:=
 ⟨λi H=>∃ xs x,SqL K H a xs/\xs[i]?=some x,λi H x H'=>H'=H/\∀ xs,SqL K H a xs->xs[i]?=some x,λi H=>∃ xs,SqL K H a xs/\xs.length<=i⟩
def Itr(lo:Int)(n:Nat):It:=⟨λi _=>i<n,λi H x H'=>H'=H/\x= .int (lo+i),λi _=>n<=i⟩
theorem qy{P:Program}{w:World}{K:Ax}{tg:Expr}(a it:Addr):Turn P w K tg (Itl K a) [it] it (λi h=>h.IsListIter it a i) where
 mem:=by simp
 obj:=λi h st b hb=>by
  have e:b=it:=by simpa using hb
  subst e
  obtain⟨o,e,c,d⟩:=st
  exact⟨o,e,λv z=>by rw[d] at z;cases z⟩
 keep:=λi h h' st k=>st.at λo e=>k it (by simp) o e
 item:=by
  intro X hP hw hK hc i pins s σ H E I hf st hg
  subst hP hw hK
  obtain⟨xs,x,hq,hx⟩:=hg
  obtain⟨its,rv,p,hz⟩:=I.list hq
  obtain⟨u,hu,ru⟩:=rv.get hx
  obtain⟨f0,f1,f2,f3,f4,f5⟩:=hf it (by simp)
  refine wpAny_pyNext_list_item st p.isList (x:=u) (by simpa using hu) λh' st' sb=>?_
  have I1:Inv X pins σ H {s with heap:=h'}:=I.turned (t':=s.toks) (λb o hb e=>(sb.2 b hb).trans e) f0 f1 f3 f4 f5
  obtain⟨o,e,c,d⟩:=id st'
  exact⟨u,rfl,lW (s:={s with heap:=h'}) e c d (by decide) ⟨x,H,I1,ru,⟨rfl,λys hy=>by rw[I.list_inj hy hq];exact hx⟩,st',λb hb=>(hf b hb).1⟩⟩
 done:=by
  intro X hP hw hK hc i pins s σ H E I hf st hg
  subst hP hw hK
  obtain⟨xs,hq,hx⟩:=hg
  obtain⟨its,rv,p,hz⟩:=I.list hq
  obtain⟨f0,f1,f2,f3,f4,f5⟩:=hf it (by simp)
  have hl:=rv.length
  exact wpAny_pyNext_list_end (I.ok.hd hc) st p.isList (by simp;lia) λh' eb=>⟨rfl,I.turned (t':=s.toks) (λb o hb e=>eb b o hb e) f0 f1 f3 f4 f5⟩
 self:=λ_ _ _ _ _ st h=>wpAny_pyIter_listiter st h
theorem qz{P:Program}{w:World}{K:Ax}{tg:Expr}(it:Addr)(lo:Int)(n:Nat):Turn P w K tg (Itr lo n) [it] it (λi h=>IsRangeIter h it (lo+(i:Nat)*1) ((n:Int) - (i:Nat)) 1) where
 mem:=by simp
 obj:=λi h st b hb=>by
  have e:b=it:=by simpa using hb
  subst e
  exact⟨_,st,λv z=>by
   have z':Data.fields _=Data.cell v:=z
   cases z'⟩
 keep:=λi h h' st k=>k it (by simp) _ st
 item:=by
  intro X hP hw hK hc i pins s σ H E I hf st hg
  subst hP hw hK
  obtain⟨f0,f1,f2,f3,f4,f5⟩:=hf it (by simp)
  have W:=Walks.range (prog:=X.prog) (w:=X.w) (I.ok.hd hc) it lo 1 n
  refine W.item i s _ _ hg st λv h' tk hv st' kk=>?_
  obtain⟨t,rfl⟩:=hv
  have I1:Inv X pins σ H {s with heap:=h',toks:=tk}:=I.turned (λb o hb e=>kk b o (by simpa using hb) e) f0 f1 f3 f4 f5
  refine⟨_,rfl,lW (s:={s with heap:=h',toks:=tk}) (n:="range_iterator") st' rfl rfl (by decide) ⟨.int (lo+i),H,I1,⟨t,?_⟩,⟨rfl,rfl⟩,st',λb hb=>(hf b hb).1⟩⟩
  rw[Int.mul_one]
 done:=by
  intro X hP hw hK hc i pins s σ H E I hf st hg
  subst hP hw hK
  obtain⟨f0,f1,f2,f3,f4,f5⟩:=hf it (by simp)
  exact wpAny_pyNext_range_end (I.ok.hd hc) st (by have:n<=i:=hg;lia) λh' eb=>⟨rfl,I.turned (t':=s.toks) (λb o hb e=>eb b o hb e) f0 f1 f3 f4 f5⟩
 self:=λ_ _ _ _ _ st h=>wpAny_pyIter_rangeiter st h
section
variable {X:Cx}{tg:Expr}
def lY(K:Ax)(tl:TE):TI:=λσ H R=>tl σ H λx H1=>∃ a,x= .ref a/\(∃ xs,SqL K H1 a xs)/\R (Itl K a) H1
theorem lZ{l:Expr}{tl:TE}(hl:PE X l tl):PI X tg l (lY X.K tl):=by
 intro pins s σ H R I h
 refine thn (hl pins s σ H _ I h) λv s1 ⟨x,H1,I1,r1,q1⟩=>?_
 obtain⟨a,e,⟨xs,hq⟩,q⟩:=q1
 subst e
 cases r1
 obtain⟨its,rv,p,hz⟩:=I1.list hq
 refine wpAny_pyIter_list p.isList ?_
 refine⟨s1.heap.objs.size,[s1.heap.objs.size],_,_,H1,rfl,I1.kept (t':=s1.toks) λb o e=>Heap.get?_push_of_some _ e,qy a _,⟨_,Heap.get?_push_size _ rfl,rfl,rfl⟩,λb hb=>?_,q⟩
 have e:b=s1.heap.objs.size:=by simpa using hb
 subst e
 exact I1.fpOk (Az _) (I1.hok.fresh (Az _))
theorem qA{pins:List (Addr × Obj)}{σ:St}{H:Hp}{s:Shared}{R:It->Hp->Prop}{E:Value->Shared->Prop}{lo hi:Int}{t u v:Tok}{tk:Nat}(I:Inv X pins σ H s)(h1: -(2 ^ 62)<=lo)(h2:lo<2 ^ 62)(h3: -(2 ^ 62)<=hi)(h4:hi<2 ^ 62)
  (q:R (Itr lo (hi - lo).toNat) H):wpAny (model X.prog X.w) X.A (pyIter (.ref s.heap.objs.size)) (PIE X pins σ tg R) E {s with heap:=s.heap.push {cls:= .type "range",data:= .fields #[.int lo t,.int hi u,.int 1 v]},toks:=tk}:=by
 refine wpAny_pyIter_range (IsRange.new ..) (small_one h1 h2 h3 h4) ?_
 have I1:Inv X pins σ H {s with heap:=s.heap.push {cls:= .type "range",data:= .fields #[.int lo t,.int hi u,.int 1 v]},toks:=tk}:=I.kept λb o e=>Heap.get?_push_of_some _ e
 refine⟨(s.heap.push {cls:= .type "range",data:= .fields #[.int lo t,.int hi u,.int 1 v]}).objs.size,[(s.heap.push {cls:= .type "range",data:= .fields #[.int lo t,.int hi u,.int 1 v]}).objs.size],_,_,H,rfl,
  I1.kept (t':=tk) λb o e=>Heap.get?_push_of_some _ e,qz _ lo (hi - lo).toNat,?_,λb hb=>?_,q⟩
 ·have e1:lo+((0:Nat):Int)*1=lo:=by simp
  have e2:(((hi - lo).toNat:Nat):Int) - ((0:Nat):Int)=Builtin.Range.rangeSize lo hi 1:=by rw[rangeSize_one];split<;>lia
  show IsRangeIter _ _ (lo+((0:Nat):Int)*1) ((((hi - lo).toNat:Nat):Int) - ((0:Nat):Int)) 1
  rw[e1,e2]
  exact Heap.get?_push_size _ rfl
 ·have e:b=(s.heap.push {cls:= .type "range",data:= .fields #[.int lo t,.int hi u,.int 1 v]}).objs.size:=by simpa using hb
  subst e
  exact I1.fpOk (Az _) (I1.hok.fresh (Az _))
def qB(ta:TA):TI:=λσ H R=>ta σ H λvs H1=>∃ j:Int,vs=[.int j]/\-(2 ^ 62)<=j/\j<2 ^ 62/\R (Itr 0 j.toNat) H1
theorem ma{a:Expr}{ta:TA}{p pos:Pos}(hg:Gl X "range")(hm:X.mg "range"=none)(ha:PA X [a] ta)(hs:starEach [a] X.env=[(false,eval a X.env)]:=by rfl):PI X tg (.Call (.Name "range" p) [a] [] pos) (qB ta):=by
 intro pins s σ H R I h
 refine Call_ (dg I hg hm boot_range (PyProof.Rows.callWith_type1 (thn (ha pos pins s σ H _ I h) λus s1 ⟨vs,H1,I1,r1,q1⟩=>?_) hs rfl))
 obtain⟨j,e,q1,q2,q⟩:=q1
 subst e
 cases r1 with
 |cons r rr=>
  cases rr
  obtain⟨t,rfl⟩:=r
  exact call_range_1 (qA I1 (by lia) (by lia) q1 q2 (by simpa using q))
def tFor(wi:TI)(g:TG)(tb:TS):TS:=λD σ H=>wi σ H λJ H1=>∃ W:Nat->Nat->St->Hp->Prop,(∃ m,W 0 m σ H1)/\∀ i m σ H,W i m σ H->
 (J.stop i H/\D.nx σ H)\/(J.go i H/\∃ N:St->Hp->Prop,(∀ σ' H',N σ' H'->∃ m',m'<m/\W (i+1) m' σ' H')/\∀ x H',J.yld i H x H'->g x σ H' λσ2 H2=>tb {D with nx:=N,ct:=N,bk:=D.nx} σ2 H2)
def fb(fp:List Addr)(h:Heap):List (Addr × Obj):=fp.filterMap λb=>(h.get? b).map λo=>(b,o)
theorem bR{fp:List Addr}{h:Heap}{b:Addr}{o:Obj}(hb:b∈fp)(e:h.get? b=some o):(b,o)∈fb fp h:=Cw.mpr ⟨b,hb,by rw[e];rfl⟩
theorem qC{fp:List Addr}{h:Heap}{p:Addr × Obj}(hp:p∈fb fp h):p.1∈fp/\h.get? p.1=some p.2:=by
 obtain⟨b,hb,e⟩:=Cw.mp hp
 cases q:h.get? b with
 |none=>rw[q] at e;cases e
 |some o=>
  rw[q] at e
  have e':(b,o)=p:=Option.some.inj e
  subst e'
  exact⟨hb,q⟩
theorem Inv.pinned{pins:List (Addr × Obj)}{σ:St}{H:Hp}{s:Shared}{fp:List Addr}(I:Inv X pins σ H s)(hf:∀ b∈fp,FpOk X pins H b)(ho:∀ b∈fp,∃ o,s.heap.get? b=some o/\∀ v,o.data≠.cell v):Inv X (pins++fb fp s.heap) σ H s:=
 I.pins_of λp hp=>(AW.mp hp).elim (λz=>I.pin p (AJ _ z)) λz=>by
  obtain⟨hb,e⟩:=qC z
  obtain⟨f0,f1,f2,_⟩:=hf p.1 hb
  obtain⟨o,e',d⟩:=ho p.1 hb
  rw[e] at e';cases e'
  exact⟨e,f0,f1,f2,d⟩
theorem Inv.unpinned{pins pl:List (Addr × Obj)}{σ:St}{H:Hp}{s:Shared}(I:Inv X (pins++pl) σ H s):Inv X pins σ H s:=I.pins_of λp hp=>I.pin p (AJ _ (Bf _ hp))
theorem dS{iter:Expr}{body:List Stmt}{wi:TI}{g:TG}{tb:TS}{pos:Pos}(hp:PassesOwn (model X.prog X.w) X.A X.env X.xe)(hc:X.calm=true)(hi:PI X tg iter wi)(hg:PG X tg g)(hb:PSs X body tb)
  (hs:∀ x,foldedSetIterable iter X.env x=pure x:=by intro _;rfl):PS X (.For tg iter body [] pos) (tFor wi g tb):=by
 intro pins s σ H D I h
 refine wpAny_For (thn (hi pins s σ H _ I h) λv s1 h1=>thn h1 λE1 s2 h2=>?_) hs
 obtain⟨it,fp,tn,J,H2,e,I2,T,n4,f2,W,⟨m0,w0⟩,b_⟩:=h2
 subst e
 -- DZ Hz true of j_ B_ v4 through j_ n5
 have f6:∀ {H':Hp},(∀ b∈fp,H' b=none)->∀ b∈fp,FpOk X pins H' b:=λhn b hb=>⟨hn b hb,(f2 b hb).2⟩
 refine codeAny_forLoop_any (λn s'=>∃ i σ' H',Inv X pins σ' H' s'/\tn i s'.heap/\(∀ b∈fp,H' b=none)/\W i n σ' H') ?_ m0 ⟨0,σ,H2,I2,n4,λb hb=>(f2 b hb).1,w0⟩
 rintro n s3 ⟨i,σ3,H3,I3,u7,HA,w3⟩
 rcases b_ i n σ3 H3 w3 with⟨stop,qn⟩|⟨go,N,hN,step⟩
 ·refine wpAny_passesOwn hp (thn (T.done X rfl rfl rfl hc i pins s3 σ3 H3 X.xe I3 (f6 HA) u7 stop) λr s4 ⟨hr,I4⟩=>?_)
  subst hr
  exact wpAny_execs_nil ⟨σ3,H3,I4,qn⟩
 ·refine wpAny_passesOwn hp (thn (T.item X rfl rfl rfl hc i pins s3 σ3 H3 X.xe I3 (f6 HA) u7 go) λr s4 ⟨u,hr,h4⟩=>?_)
  subst hr
  refine wpAny_passesOwn hp (thn h4 λ_ s5 ⟨x,H5,I5,r5,y5,k6,D0⟩=>?_)
  have IM:=I5.pinned (f6 D0) (T.obj _ _ k6)
  refine wpAny_passesOwn hp (thn (hg _ s5 σ3 H5 x u _ IM r5 (step x H5 y5)) λ_ s6 ⟨σ6,H6,I6,q6⟩=>?_)
  refine wpAny_passesOwn hp (thn (hb _ s6 σ6 H6 _ I6 q6) λf s7 q7=>?_)
  have again:∀ {σ7:St} {H7:Hp},Inv X (pins++fb fp s5.heap) σ7 H7 s7->N σ7 H7->∃ m,m<n/\∃ i σ' H',Inv X pins σ' H' s7/\tn i s7.heap/\(∀ b∈fp,H' b=none)/\W i m σ' H':=λ{σ7 H7} I7 n7=>by
   obtain⟨m',hm,w7⟩:=hN σ7 H7 n7
   refine⟨m',hm,i+1,σ7,H7,I7.unpinned,T.keep _ _ _ k6 λb hb o e=>(I7.pin (b,o) (AJ _ (AJ _ (bR hb e)))).1,λb hb=>?_,w7⟩
   obtain⟨o,e,d⟩:=T.obj _ _ k6 b hb
   exact(I7.pin (b,o) (AJ _ (AJ _ (bR hb e)))).2.1
  cases f with
  |next=>obtain⟨σ7,H7,I7,n7⟩:=q7;exact again I7 n7
  |cont=>obtain⟨σ7,H7,I7,n7⟩:=q7;exact again I7 n7
  |brk=>obtain⟨σ7,H7,I7,q7⟩:=q7;exact⟨σ7,H7,I7.unpinned,q7⟩
  |ret v=>obtain⟨x7,σ7,H7,I7,r7,q7⟩:=q7;exact⟨x7,σ7,H7,I7.unpinned,r7,q7⟩
end
theorem me{K:Ax}{a:Addr}{xs:List V}{g:TG}{tb:TS}{D:Ends}{σ:St}{H:Hp}(Pv:Nat->St->Hp->Prop)(h0:Pv 0 σ H)(hl:∀ i σ H,i<=xs.length->Pv i σ H->SqL K H a xs)
  (hs:∀ i x σ H,xs[i]?=some x->Pv i σ H->g x σ H λσ2 H2=>tb {D with nx:=Pv (i+1),ct:=Pv (i+1),bk:=D.nx} σ2 H2) (hd:∀ σ H,Pv xs.length σ H->D.nx σ H):
  ∃ W:Nat->Nat->St->Hp->Prop,(∃ m,W 0 m σ H)/\∀ i m σ H,W i m σ H->
   ((Itl K a).stop i H/\D.nx σ H)\/((Itl K a).go i H/\∃ N:St->Hp->Prop,(∀ σ' H',N σ' H'->∃ m',m'<m/\W (i+1) m' σ' H')/\∀ x H',(Itl K a).yld i H x H'->g x σ H' λσ2 H2=>tb {D with nx:=N,ct:=N,bk:=D.nx} σ2 H2):=by
 refine⟨λi m σ H=>m=xs.length - i/\i<=xs.length/\Pv i σ H,⟨xs.length,by simp,AY _,h0⟩,?_⟩
 rintro i m σ H ⟨rfl,hi,p⟩
 have q:=hl i σ H hi p
 by_cases g9:i<xs.length
 ·refine .inr ⟨⟨xs,xs[i],q,by simp[g9]⟩,Pv (i+1),λσ' H' p'=>⟨xs.length - (i+1),by lia,rfl,g9,p'⟩,λx H' y=>?_⟩
  obtain⟨e,y⟩:=y
  subst e
  exact hs i x σ _ (y xs q) p
 ·have e:i=xs.length:=by lia
  subst e
  exact .inl ⟨⟨xs,q,Az _⟩,hd σ H p⟩
theorem mf{lo:Int}{n:Nat}{g:TG}{tb:TS}{D:Ends}{σ:St}{H:Hp}(Pv:Nat->St->Hp->Prop)(h0:Pv 0 σ H)
  (hs:∀ i σ H,i<n->Pv i σ H->g (.int (lo+i)) σ H λσ2 H2=>tb {D with nx:=Pv (i+1),ct:=Pv (i+1),bk:=D.nx} σ2 H2) (hd:∀ σ H,Pv n σ H->D.nx σ H):
  ∃ W:Nat->Nat->St->Hp->Prop,(∃ m,W 0 m σ H)/\∀ i m σ H,W i m σ H->
   ((Itr lo n).stop i H/\D.nx σ H)\/((Itr lo n).go i H/\∃ N:St->Hp->Prop,(∀ σ' H',N σ' H'->∃ m',m'<m/\W (i+1) m' σ' H')/\∀ x H',(Itr lo n).yld i H x H'->g x σ H' λσ2 H2=>tb {D with nx:=N,ct:=N,bk:=D.nx} σ2 H2):=by
 refine⟨λi m σ H=>m=n - i/\i<=n/\Pv i σ H,⟨n,by simp,AY _,h0⟩,?_⟩
 rintro i m σ H ⟨rfl,hi,p⟩
 by_cases g9:i<n
 ·refine .inr ⟨g9,Pv (i+1),λσ' H' p'=>⟨n - (i+1),by lia,rfl,g9,p'⟩,λx H' y=>?_⟩
  obtain⟨e,y⟩:=y
  subst e y
  exact hs i σ _ g9 p
 ·have e:i=n:=by lia
  subst e
  exact .inl ⟨Az _,hd σ H p⟩
abbrev R2:=V->V->Hp->VK->Prop
def OpR(X:Cx)(f:Value->Value->Sem Value)(r:R2):Prop:=
 ∀ (pins:List (Addr × Obj)) (s:Shared) (σ:St) (H:Hp) (x y:V) (v u:Value) (Q:VK),Inv X pins σ H s->RelV x v->RelV y u->r x y H Q->
  wpAny (model X.prog X.w) X.A (f v u) (EP X pins σ Q) X.xe s
def UnR(X:Cx)(f:Value->Sem Value)(r:V->Hp->VK->Prop):Prop:=
 ∀ (pins:List (Addr × Obj)) (s:Shared) (σ:St) (H:Hp) (x:V) (v:Value) (Q:VK),Inv X pins σ H s->RelV x v->r x H Q->
  wpAny (model X.prog X.w) X.A (f v) (EP X pins σ Q) X.xe s
def bx(X:Cx)(f:Value)(r:List V->Hp->VK->Prop):Prop:=
 ∀ (pins:List (Addr × Obj)) (s:Shared) (σ:St) (H:Hp) (xs:List V) (us:List Value) (Q:VK),Inv X pins σ H s->Vals xs us->r xs H Q->
  wpAny (model X.prog X.w) X.A (call f us) (EP X pins σ Q) X.xe s
def TruR(X:Cx)(r:V->Hp->(Bool->Hp->Prop)->Prop):Prop:=
 ∀ (pins:List (Addr × Obj)) (s:Shared) (σ:St) (H:Hp) (x:V) (v:Value) (Q:Bool->Hp->Prop),Inv X pins σ H s->RelV x v->r x H Q->
  wpAny (model X.prog X.w) X.A (truthy v) (TP X pins σ Q) X.xe s
def tOp(r:R2)(ta tb:TE):TE:=λσ H Q=>ta σ H λx H1=>tb σ H1 λy H2=>r x y H2 Q
def tUn(r:V->Hp->VK->Prop)(ta:TE):TE:=λσ H Q=>ta σ H λx H1=>r x H1 Q
def rI(C:Int->Int->Prop)(g:Int->Int->V):R2:=λx y H Q=>∃ i j,x= .int i/\y= .int j/\C i j/\Q (g i j) H
def rI0(g:Int->Int->V):R2:=λx y H Q=>∃ i j,x= .int i/\y= .int j/\Q (g i j) H
def rU(g:Int->V):V->Hp->VK->Prop:=λx H Q=>∃ i,x= .int i/\Q (g i) H
section
variable {X:Cx}{a b c:Expr}{ta tb tc:TE}{pos:Pos}
theorem binT(ha:PE X a ta)(hb:PE X b tb){pins:List (Addr × Obj)}{s:Shared}{σ:St}{H:Hp}{R:V->V->Hp->Prop}(I:Inv X pins σ H s)
  (h:ta σ H λx H1=>tb σ H1 λy H2=>R x y H2) {Q:Value->Shared->Prop} {f:Value->Value->Sem Value}
  (hf:∀ v u s2 x y H2,Inv X pins σ H2 s2->RelV x v->RelV y u->R x y H2->wpAny (model X.prog X.w) X.A (f v u) Q X.xe s2):
  wpAny (model X.prog X.w) X.A (eval a X.env) (λv s₁=>wpAny (model X.prog X.w) X.A (eval b X.env) (λu s₂=>wpAny (model X.prog X.w) X.A (f v u) Q X.xe s₂) X.xe s₁) X.xe s:=by
 refine thn (ha pins s σ H _ I h) λv s1 ⟨x,H1,I1,r1,q1⟩=>?_
 refine thn (hb pins s1 σ H1 _ I1 q1) λu s2 ⟨y,H2,I2,r2,q2⟩=>?_
 exact hf v u s2 x y H2 I2 r1 r2 q2
theorem mi{op:Operator}{r:R2}(ho:OpR X (binaryOp op) r)(ha:PE X a ta)(hb:PE X b tb):PE X (.BinOp a op b pos) (tOp r ta tb):=by
 intro pins s σ H Q I h
 exact wpAny_BinOp (binT ha hb I h λv u s2 x y H2 I2 rx ry q=>ho pins s2 σ H2 x y v u Q I2 rx ry q)
theorem qE{op:UnaryOp}{r:V->Hp->VK->Prop}(ho:UnR X (unaryOp op) r)(ha:PE X a ta):PE X (.UnaryOp op a pos) (tUn r ta):=by
 intro pins s σ H Q I h
 exact UnaryOp_ (thn (ha pins s σ H _ I h) λv s1 ⟨x,H1,I1,r1,q1⟩=>ho pins s1 σ H1 x v Q I1 r1 q1)
theorem opI{f:Value->Value->Sem Value}{C:Int->Int->Prop}{g:Int->Int->Int}
  (rule:∀ (i j:Int) (t u:Tok) (s:Shared) (Q:Value->Shared->Prop) (E:Value->Shared->Prop),C i j->Q (.int (g i j) s.toks) {s with toks:=s.toks+1}->wpAny (model X.prog X.w) X.A (f (.int i t) (.int j u)) Q E s):
  OpR X f (rI C λi j=> .int (g i j)):=by
 intro pins s σ H x y v u Q I rx ry h
 obtain⟨i,j,rfl,rfl,hc,q⟩:=h
 obtain⟨t,rfl⟩:=rx
 obtain⟨t',rfl⟩:=ry
 exact rule i j t t' s _ _ hc ⟨.int (g i j),H,I.tok _,⟨_,rfl⟩,q⟩
theorem opI0{f:Value->Value->Sem Value}{g:Int->Int->Int}
  (rule:∀ (i j:Int) (t u:Tok) (s:Shared) (Q:Value->Shared->Prop) (E:Value->Shared->Prop),Q (.int (g i j) s.toks) {s with toks:=s.toks+1}->wpAny (model X.prog X.w) X.A (f (.int i t) (.int j u)) Q E s):
  OpR X f (rI0 λi j=> .int (g i j)):=by
 intro pins s σ H x y v u Q I rx ry h
 obtain⟨i,j,rfl,rfl,q⟩:=h
 obtain⟨t,rfl⟩:=rx
 obtain⟨t',rfl⟩:=ry
 exact rule i j t t' s _ _ ⟨.int (g i j),H,I.tok _,⟨_,rfl⟩,q⟩
theorem opB0{f:Value->Value->Sem Value}{g:Int->Int->Bool}
  (rule:∀ (i j:Int) (t u:Tok) (s:Shared) (Q:Value->Shared->Prop) (E:Value->Shared->Prop),Q (.bool (g i j)) s->wpAny (model X.prog X.w) X.A (f (.int i t) (.int j u)) Q E s):
  OpR X f (rI0 λi j=> .bl (g i j)):=by
 intro pins s σ H x y v u Q I rx ry h
 obtain⟨i,j,rfl,rfl,q⟩:=h
 obtain⟨t,rfl⟩:=rx
 obtain⟨t',rfl⟩:=ry
 exact rule i j t t' s _ _ ⟨.bl (g i j),H,I,rfl,q⟩
def CDiv(i j:Int):Prop:=0<j/\j<1073741824
def CMul(i j:Int):Prop:=(-(2 ^ 64)<i/\i<2 ^ 64)\/(-(2 ^ 64)<j/\j<2 ^ 64)
theorem CMul.ok{i j:Int}(h:CMul i j):IntMulOk i j:=by
 rcases h with⟨h1,h2⟩|⟨h1,h2⟩
 ·exact .of_left (intBits_le_64 h1 h2)
 ·exact .of_right (intBits_le_64 h1 h2)
theorem qF:OpR X (binaryOp .Add) (rI0 λi j=> .int (i+j)):=opI0 λ_ _ _ _ _ _ _ q=>add_int q
theorem mj:OpR X (binaryOp .Sub) (rI0 λi j=> .int (i - j)):=opI0 λ_ _ _ _ _ _ _ q=>sub_int q
theorem qG:OpR X (binaryOp .Mult) (rI CMul λi j=> .int (i*j)):=opI λ_ _ _ _ _ _ _ hc q=>mul_int q hc.ok
theorem qH:OpR X (binaryOp .FloorDiv) (rI CDiv λi j=> .int (i / j)):=opI λi j _ _ _ _ _ hc q=>by
 have h1:(0:Int)<j:=hc.1
 have h2:j<1073741824:=hc.2
 exact floordiv_int (by lia) (by rw[Int.fdiv_eq_ediv_of_nonneg i (by lia)];exact q) (.inl (PyProof.noPylong_small (by lia)))
theorem qI:OpR X (binaryOp .Mod) (rI (λ_ j=>0<j) λi j=> .int (i % j)):=opI λi j _ _ _ _ _ hc q=>by
 have h1:(0:Int)<j:=hc
 exact mod_int' (by lia) (by rw[Int.fmod_eq_emod_of_nonneg i (by lia)];exact q)
theorem qJ:OpR X (binaryOp .Mod) (rI (λ_ j=>j≠0) λi j=> .int (i.fmod j)):=opI λ_ _ _ _ _ _ _ hc q=>mod_int' hc q
theorem unI{f:Value->Sem Value}{g:Int->Int}
  (rule:∀ (i:Int) (t:Tok) (s:Shared) (Q:Value->Shared->Prop) (E:Value->Shared->Prop),Q (.int (g i) s.toks) {s with toks:=s.toks+1}->wpAny (model X.prog X.w) X.A (f (.int i t)) Q E s):
  UnR X f (rU λi=> .int (g i)):=by
 intro pins s σ H x v Q I rx h
 obtain⟨i,rfl,q⟩:=h
 obtain⟨t,rfl⟩:=rx
 exact rule i t s _ _ ⟨.int (g i),H,I.tok _,⟨_,rfl⟩,q⟩
theorem qK:UnR X (unaryOp .USub) (rU λi=> .int (-i)):=unI λ_ _ _ _ _ q=>neg_int q
end
def scal:V->V->Bool
 | .non,.non=>true| .non,.int _=>true| .int _,.non=>true| .non,.bl _=>true| .bl _,.non=>true| .non,.str _=>true| .str _,.non=>true
 | .int _,.int _=>true| .bl _,.bl _=>true| .str _,.str _=>true| .byt _,.byt _=>true
 | .int _,.str _=>true| .str _,.int _=>true| .bl _,.str _=>true| .str _,.bl _=>true
 |_,_=>false
def rEq:R2:=λx y H Q=>scal x y=true/\Q (.bl (decide (x=y))) H
def rNe:R2:=λx y H Q=>scal x y=true/\Q (.bl (!decide (x=y))) H
theorem ml{i j:Int}:decide (V.int i=V.int j)=(i==j):=by
 rw[BP]
 simp
theorem mm{i j:Bool}:decide (V.bl i=V.bl j)=(i==j):=by
 rw[BP]
 simp
theorem mn{i j:Str}:decide (V.str i=V.str j)=(i==j):=by
 rw[BP]
 simp
theorem mo{i j:Array UInt8}:decide (V.byt i=V.byt j)=(i.toList==j.toList):=by
 rw[BP]
 cases i
 cases j
 simp
section
variable {X:Cx}{a b c:Expr}{ta tb tc:TE}{pos:Pos}
theorem aM{pins:List (Addr × Obj)}{σ:St}{H:Hp}{s:Shared}{Q:VK}{k k':Bool}(I:Inv X pins σ H s)(q:Q (.bl k) H)(e:k=k'):EP X pins σ Q (.bool k') s:=by
 subst e
 exact⟨.bl k,H,I,rfl,q⟩
theorem gU:OpR X (compareOp .Eq) rEq:=by
 intro pins s σ H x y v u Q I rx ry h
 obtain⟨hs,q⟩:=h
 cases x with
 |non=>
  cases rx
  cases y with
  |non=>cases ry;exact PySem.EqNone.eq_none_none (aM I q (by simp))
  |bl j=>cases ry;exact PySem.EqNone.eq_none_bool (aM I q (by simp))
  |int j=>obtain⟨t',rfl⟩:=ry;exact PySem.EqNone.eq_none_int (aM I q (by simp))
  |str j=>obtain⟨t',rfl⟩:=ry;exact PySem.EqNone.eq_none_str (aM I q (by simp))
  |_=>exact absurd (show false=true from hs) AG
 |bl i=>
  cases rx
  cases y with
  |non=>cases ry;exact PySem.EqNone.eq_bool_none (aM I q (by simp))
  |bl j=>cases ry;exact eq_bool (aM I q mm)
  |str j=>obtain⟨t',rfl⟩:=ry;exact PySem.EqMixed.eq_bool_str (aM I q (by simp))
  |_=>exact absurd (show false=true from hs) AG
 |int i=>
  obtain⟨t,rfl⟩:=rx
  cases y with
  |non=>cases ry;exact PySem.EqNone.eq_int_none (aM I q (by simp))
  |int j=>obtain⟨t',rfl⟩:=ry;exact eq_int (aM I q ml)
  |str j=>obtain⟨t',rfl⟩:=ry;exact PySem.EqMixed.eq_int_str (aM I q (by simp))
  |_=>exact absurd (show false=true from hs) AG
 |str i=>
  obtain⟨t,rfl⟩:=rx
  cases y with
  |non=>cases ry;exact PySem.EqNone.eq_str_none (aM I q (by simp))
  |bl j=>cases ry;exact PySem.EqMixed.eq_str_bool (aM I q (by simp))
  |int j=>obtain⟨t',rfl⟩:=ry;exact PySem.EqMixed.eq_str_int (aM I q (by simp))
  |str j=>obtain⟨t',rfl⟩:=ry;exact eq_str (aM I q mn)
  |_=>exact absurd (show false=true from hs) AG
 |byt i=>
  obtain⟨t,rfl⟩:=rx
  cases y with
  |byt j=>obtain⟨t',rfl⟩:=ry;exact eq_bytes (aM I q mo)
  |_=>exact absurd (show false=true from hs) AG
 |_=>cases y<;>exact absurd (show false=true from hs) AG
theorem qL:OpR X (compareOp .NotEq) rNe:=by
 intro pins s σ H x y v u Q I rx ry h
 obtain⟨hs,q⟩:=h
 cases x with
 |non=>
  cases rx
  cases y with
  |non=>cases ry;exact PySem.EqNone.ne_none_none (aM I q (by simp))
  |bl j=>cases ry;exact PySem.EqNone.ne_none_bool (aM I q (by simp))
  |int j=>obtain⟨t',rfl⟩:=ry;exact PySem.EqNone.ne_none_int (aM I q (by simp))
  |str j=>obtain⟨t',rfl⟩:=ry;exact PySem.EqNone.ne_none_str (aM I q (by simp))
  |_=>exact absurd (show false=true from hs) AG
 |bl i=>
  cases rx
  cases y with
  |non=>cases ry;exact PySem.EqNone.ne_bool_none (aM I q (by simp))
  |bl j=>cases ry;exact ne_bool (aM I q (congrArg not mm))
  |str j=>obtain⟨t',rfl⟩:=ry;exact PySem.EqMixed.ne_bool_str (aM I q (by simp))
  |_=>exact absurd (show false=true from hs) AG
 |int i=>
  obtain⟨t,rfl⟩:=rx
  cases y with
  |non=>cases ry;exact PySem.EqNone.ne_int_none (aM I q (by simp))
  |int j=>obtain⟨t',rfl⟩:=ry;exact ne_int (aM I q (congrArg not ml))
  |str j=>obtain⟨t',rfl⟩:=ry;exact PySem.EqMixed.ne_int_str (aM I q (by simp))
  |_=>exact absurd (show false=true from hs) AG
 |str i=>
  obtain⟨t,rfl⟩:=rx
  cases y with
  |non=>cases ry;exact PySem.EqNone.ne_str_none (aM I q (by simp))
  |bl j=>cases ry;exact PySem.EqMixed.ne_str_bool (aM I q (by simp))
  |int j=>obtain⟨t',rfl⟩:=ry;exact PySem.EqMixed.ne_str_int (aM I q (by simp))
  |str j=>obtain⟨t',rfl⟩:=ry;exact ne_str (aM I q (congrArg not mn))
  |_=>exact absurd (show false=true from hs) AG
 |byt i=>
  obtain⟨t,rfl⟩:=rx
  cases y with
  |byt j=>obtain⟨t',rfl⟩:=ry;exact ne_bytes (aM I q (congrArg not mo))
  |_=>exact absurd (show false=true from hs) AG
 |_=>cases y<;>exact absurd (show false=true from hs) AG
theorem mq:OpR X (compareOp .Lt) (rI0 λi j=> .bl (decide (i<j))):=opB0 λ_ _ _ _ _ _ _ q=>lt_int q
theorem qM:OpR X (compareOp .LtE) (rI0 λi j=> .bl (decide (i<=j))):=opB0 λ_ _ _ _ _ _ _ q=>le_int q
theorem qN:OpR X (compareOp .Gt) (rI0 λi j=> .bl (decide (j<i))):=opB0 λ_ _ _ _ _ _ _ q=>gt_int q
theorem qO:OpR X (compareOp .GtE) (rI0 λi j=> .bl (decide (j<=i))):=opB0 λ_ _ _ _ _ _ _ q=>ge_int q
theorem gW:OpR X (compareOp .Is) (λx y H Q=>y= .non/\Q (.bl (decide (x= .non))) H):=by
 intro pins s σ H x y v u Q I rx ry h
 obtain⟨rfl,q⟩:=h
 cases ry
 refine is_none_gen (aM I q ?_)
 cases x<;>first
  |(cases rx;rfl)
  |(obtain⟨t,rfl⟩:=rx;rfl)
theorem OpR.or{f:Value->Value->Sem Value}{r r':R2}(h:OpR X f r)(h':OpR X f r'):OpR X f (λx y H Q=>r x y H Q\/r' x y H Q):=by
 intro pins s σ H x y v u Q I rx ry q
 rcases q with q|q
 ·exact h pins s σ H x y v u Q I rx ry q
 ·exact h' pins s σ H x y v u Q I rx ry q
theorem nomark(b:Expr){op:CmpOp}(h:op≠.In:=by decide)(h2:op≠.NotIn:=by decide):behindInMarks op b=false:=by
 have e1:(op==CmpOp.In)=false:=by cases op<;>first|rfl|exact absurd rfl h
 have e2:(op==CmpOp.NotIn)=false:=by cases op<;>first|rfl|exact absurd rfl h2
 cases b<;>simp[behindInMarks,e1,e2]
theorem qP{op:CmpOp}{r:R2}(ho:OpR X (compareOp op) r)(ha:PE X a ta)(hb:PE X b tb)(hm:behindInMarks op b=false):PE X (.Compare a [op] [b] pos) (tOp r ta tb):=by
 intro pins s σ H Q I h
 exact wpAny_Compare1 (binT ha hb I h λv u s2 x y H2 I2 rx ry q=>ho pins s2 σ H2 x y v u Q I2 rx ry q) hm
def qQ(t:TE):TT:=λσ H Q=>t σ H λx H'=>∃ k,x= .bl k/\Q k H'
theorem mv{op:CmpOp}{r:R2}(ho:OpR X (compareOp op) r)(ha:PE X a ta)(hb:PE X b tb)(hm:behindInMarks op b=false):PT X (.Compare a [op] [b] pos) (qQ (tOp r ta tb)):=by
 intro pins s σ H Q I h
 refine wpAny_isTrue_Compare1 (thn (ha pins s σ H _ I h) λv s1 ⟨x,H1,I1,r1,q1⟩=>thn (hb pins s1 σ H1 _ I1 q1) λu s2 ⟨y,H2,I2,r2,q2⟩=>
  thn (ho pins s2 σ H2 x y v u _ I2 r1 r2 q2) λc s3 ⟨z,H3,I3,r3,k,e,q3⟩=>?_) hm
 subst e
 cases r3
 exact wpAny_truthy_bool ⟨H3,I3,q3⟩
def TruV(K:Ax)(x:V)(H:Hp)(k:Bool):Prop:=
 match x with
 | .non=>k=false
 | .bl b=>k=b
 | .int i=>k=(i !=0)
 | .str y=>y.length<=sizeLine/\k=((y.length:Int) !=0)
 | .byt y=>y.size<=sizeLine/\k=((y.size:Int) !=0)
 | .ref p=>(∃ xs,SqL K H p xs/\k=!xs.isEmpty)\/(∃ xs,SqT K H p xs/\k=!xs.isEmpty)\/∃ a8,H p=some (.dK a8)/\k=!a8.isEmpty
 |_=>False
theorem qR{κ:Type}{a8:List (κ × V)}{vs:List (κ × Value)}(r:KV a8 vs):(!vs.isEmpty)=!a8.isEmpty:=by
 cases r<;>rfl
theorem isEmpty_of{xs:List V}{its:List Value}(r:Vals xs its):(!its.toArray.isEmpty)=!xs.isEmpty:=by
 cases r<;>simp
theorem line63:(sizeLine:Nat)<2 ^ 63:=by rw[sizeLine_eq];decide
theorem qS:TruR X (λx H Q=>∃ k,TruV X.K x H k/\Q k H):=by
 intro pins s σ H x v Q I rx h
 obtain⟨k,e,q⟩:=h
 have hl:=line63
 have hs:sizeLine=16777216:=sizeLine_eq
 cases x with
 |non=>
  cases rx
  have e':k=false:=e
  subst e'
  exact truthy_none ⟨H,I,q⟩
 |bl b=>
  cases rx
  have e':k=b:=e
  subst e'
  exact wpAny_truthy_bool ⟨H,I,q⟩
 |int i=>
  obtain⟨t,rfl⟩:=rx
  have e':k=(i !=0):=e
  subst e'
  exact PySem.P.truthy_int ⟨H,I,q⟩
 |str y=>
  obtain⟨t,rfl⟩:=rx
  obtain⟨hy,e'⟩:y.length<=sizeLine/\k=((y.length:Int) !=0):=e
  subst e'
  exact PySem.P.truthy_str (by lia) ⟨H,I.tok _,q⟩
 |byt y=>
  obtain⟨t,rfl⟩:=rx
  obtain⟨hy,e'⟩:y.size<=sizeLine/\k=((y.size:Int) !=0):=e
  subst e'
  exact truthy_bytes (by lia) ⟨H,I.tok _,q⟩
 |ref p=>
  cases rx
  have e':(∃ xs,SqL X.K H p xs/\k=!xs.isEmpty)\/(∃ xs,SqT X.K H p xs/\k=!xs.isEmpty)\/∃ a8,H p=some (.dK a8)/\k=!a8.isEmpty:=e
  rcases e' with⟨xs,hx,e'⟩|⟨xs,hx,e'⟩|⟨a8,hx,e'⟩
  ·subst e'
   obtain⟨its,r,pl,hz⟩:=I.list hx
   have a_:=r.length
   exact wpAny_truthy_list pl.isList (by simp only[AM];lia) ⟨H,I.tok _,by rw[isEmpty_of r];exact q⟩
  ·subst e'
   obtain⟨its,r,pl,hz⟩:=I.tuple hx
   have a_:=r.length
   exact truthy_tuple pl (by simp only[AM];lia) ⟨H,I.tok _,by rw[isEmpty_of r];exact q⟩
  ·subst e'
   obtain⟨hz,hS,vs,r,m⟩:a8.length<=sizeLine/\(p==sysModules)=false/\∃ vs,KV a8 vs/\s.heap.DictOf (bG X.prog X.w) p vs:=I.hok p _ hx
   have a_:a8.length=vs.length:=Paired.length r
   exact wpAny_truthy_dict hS m (by lia) ⟨H,I.tok _,by rw[qR r];exact q⟩
 |_=>exact(show False from e).elim
theorem qT(ha:PE X a ta)(he:∀ e_,isTrue a X.env e_=(do let v <- e_;standAt a.pos;holding [v] (truthy v))):
  PT X a (λσ H Q=>ta σ H λx H'=>∃ k,TruV X.K x H' k/\Q k H'):=by
 intro pins s σ H Q I h
 exact isTrue_plain (thn (ha pins s σ H _ I h) λv s1 ⟨x,H1,I1,r1,q1⟩=>qS pins s1 σ H1 x v Q I1 r1 q1) (he _)
theorem qU:OpR X (binaryOp .Add) (λx y H Q=>∃ i j,x= .str i/\y= .str j/\i.length+j.length<=sizeLine/\Q (.str (i++j)) H):=by
 intro pins s σ H x y v u Q I rx ry h
 obtain⟨i,j,rfl,rfl,hz,q⟩:=h
 obtain⟨t,rfl⟩:=rx
 obtain⟨t',rfl⟩:=ry
 exact add_str (λt' tk=>⟨.str (i++j),H,I.tok _,⟨_,rfl⟩,q⟩) hz
theorem bH{x:V}{us:List Value}(r:Vals [x] us):∃ u,us=[u]/\RelV x u:=by
 cases r with
 |cons r1 r2=>cases r2;exact⟨_,rfl,r1⟩
theorem gX{x y:V}{us:List Value}(r:Vals [x,y] us):∃ u w',us=[u,w']/\RelV x u/\RelV y w':=by
 cases r with
 |cons r1 r2=>
  cases r2 with
  |cons r3 r4=>cases r4;exact⟨_,_,rfl,r1,r3⟩
theorem qV:bx X (.builtin "abs") (λxs H Q=>∃ i,xs=[.int i]/\Q (.int (if i<0 then -i else i)) H):=by
 intro pins s σ H xs us Q I r h
 obtain⟨i,rfl,q⟩:=h
 obtain⟨u,rfl,t,rfl⟩:=bH r
 exact call_abs_int λu tk=>⟨.int (if i<0 then -i else i),H,I.tok _,⟨_,rfl⟩,q⟩
theorem qW:bx X (.type "int") (λxs H Q=>(∃ i,xs=[.int i]/\Q (.int i) H)\/∃ k,xs=[.bl k]/\Q (.int (if k then 1 else 0)) H):=by
 intro pins s σ H xs us Q I r h
 rcases h with⟨i,rfl,q⟩|⟨k,rfl,q⟩
 ·obtain⟨u,rfl,t,rfl⟩:=bH r
  exact call_int_int ⟨.int i,H,I,⟨_,rfl⟩,q⟩
 ·obtain⟨u,rfl,r1⟩:=bH r
  cases r1
  exact call_int_bool ⟨.int (if k then 1 else 0),H,I.tok _,⟨_,rfl⟩,q⟩
theorem qX:bx X (.type "str") (λxs H Q=>∃ i,xs=[.int i]/\i.natAbs.log2<1920/\Q (.str (toString i)) H):=by
 intro pins s σ H xs us Q I r h
 obtain⟨i,rfl,hz,q⟩:=h
 obtain⟨u,rfl,t,rfl⟩:=bH r
 exact PySem.P.str_of_int hz ⟨.str _,H,I.tok _,⟨_,rfl⟩,q⟩
def LenV(K:Ax)(x:V)(H:Hp)(n:Nat):Prop:=
 match x with
 | .str y=>y.length<=sizeLine/\n=y.length
 | .byt y=>y.size<=sizeLine/\n=y.size
 | .ref p=>(∃ xs,SqL K H p xs/\n=xs.length)\/∃ xs,SqT K H p xs/\n=xs.length
 |_=>False
theorem gY:bx X (.builtin "len") (λxs H Q=>∃ x n,xs=[x]/\LenV X.K x H n/\Q (.int n) H):=by
 intro pins s σ H xs us Q I r h
 obtain⟨x,n,rfl,e,q⟩:=h
 obtain⟨u,rfl,rx⟩:=bH r
 have hl:=line63
 have hs:sizeLine=16777216:=sizeLine_eq
 cases x with
 |str y=>
  obtain⟨t,rfl⟩:=rx
  obtain⟨hy,e'⟩:y.length<=sizeLine/\n=y.length:=e
  subst e'
  exact len_str (by lia) ⟨.int _,H,I.tok _,⟨_,rfl⟩,q⟩
 |byt y=>
  obtain⟨t,rfl⟩:=rx
  obtain⟨hy,e'⟩:y.size<=sizeLine/\n=y.size:=e
  subst e'
  exact len_bytes (by lia) ⟨.int _,H,I.tok _,⟨_,rfl⟩,q⟩
 |ref p=>
  cases rx
  have e':(∃ xs,SqL X.K H p xs/\n=xs.length)\/∃ xs,SqT X.K H p xs/\n=xs.length:=e
  rcases e' with⟨xs,hx,e'⟩|⟨xs,hx,e'⟩
  ·subst e'
   obtain⟨its,r',pl,hz⟩:=I.list hx
   have a_:=r'.length
   exact Calls.call_len_list pl.isList (by simp only[AM];lia) ⟨.int xs.length,H,I.tok _,⟨_,by simp only[AM];rw[a_]⟩,q⟩
  ·subst e'
   obtain⟨its,r',pl,hz⟩:=I.tuple hx
   have a_:=r'.length
   exact len_tuple pl (by simp only[AM];lia) ⟨.int xs.length,H,I.tok _,⟨_,by simp only[AM];rw[a_]⟩,q⟩
 |_=>exact(show False from e).elim
end
structure ObjM(h:Heap)(x dx C:Addr)(mA:Str->Option Value):Prop where
 obj:h.get? x=some (instObj C dx)
 ns:h.Ns1 dx mA
 ne:dx≠x
theorem qY{h:Heap}{dx:Addr}{mA:Str->Option Value}(n:h.Ns1 dx mA):∃ od,h.get? dx=some od/\∀ name,lookIn name od=some (mA name):=by
 obtain⟨o,es,ep,ho,hd,hk,_,hm⟩:=n
 refine⟨o,ho,λname=>?_⟩
 have e:=hm name
 unfold nsFind findBy at e
 rw[<- Array.find?_toList] at e
 unfold lookIn
 rw[hd]
 dsimp only
 split
 ·rename_i y q
  rw[q] at e
  exact congrArg some e
 ·rename_i q
  rw[q] at e
  have a:es.toList.any (·.refKey)=false:=by
   rw[List.any_eq_false]
   intro y hy
   obtain⟨z,t,k7⟩:=hk y (Array.mem_toList_iff.mp hy)
   simp[DictEntry.refKey,k7]
  have a':¬ es.toList.any (·.refKey)=true:=by rw[a];exact AG
  rw[if_neg a']
  exact congrArg some e
theorem ObjM.look{h:Heap}{x dx C:Addr}{mA:Str->Option Value}(I:ObjM h x dx C mA):∃ od,PySem.W.InstAt h x (instObj C dx) C (some od)/\∀ name,lookIn name od=some (mA name):=
 let ⟨od,ho,hl⟩:=qY I.ns
 ⟨od,⟨I.obj,rfl,rfl,ho⟩,hl⟩
section
variable {prog:Program}{w:World}{A:Around}{E:Value->Shared->Prop}{s:Shared}{K:Ax}{x dx C f:Addr}{mA:Str->Option Value}{name:Str}{v:Value}
theorem qZ{FA:Bool}{Q:Value->Shared->Prop}(X:K.In s.heap)(I:ObjM s.heap x dx C mA)(hg:plainGet K C name=true)(hh:hasDictIn K C=true)
  (ha:AD K (.ref C) name=some none) (hv:mA name=some v) (IN:handedIn v=true) (h:Q v {s with toks:=s.toks+1}):
  wpAny (model prog w) A (getAttr (.ref x) name FA) Q E s:=by
 obtain⟨od,J,hl⟩:=I.look
 exact get_value X J (plainGet_of hg).1 (findObj_own hh ha rfl (by rw[hl,hv])) IN h
theorem ra{pl:Sem Bool}{Q:Value × List Value->Shared->Prop}(X:K.In s.heap)(I:ObjM s.heap x dx C mA)(hg:plainGet K C name=true)
  (hf:AD K (.ref C) name=some (some (.ref f))) (ht:isFn K (.ref f)=true) (hv:mA name=none) (h:Q (.ref f,[.ref x]) s):
  wpAny (model prog w) A (getMethod (.ref x) name pl) Q E s:=by
 obtain⟨od,J,hl⟩:=I.look
 exact method_fn X J (plainGet_of hg).1 (plainGet_of hg).2 hf (beq_iff_eq.mp ht) (by show(lookIn name od).map (·.isSome)=some false;rw[hl,hv];rfl) h
theorem rb{ns:List Str}{Q:Unit->Shared->Prop}(X:K.In s.heap)(I:ObjM s.heap x dx C mA)
  (hs:AD K (.ref C) "__setattr__"=some (some (.builtin "object.__setattr__"))) (hp:plainOver K C=true) (ht:takerIn K C name=some none) (hh:hasDictIn K C=true)
  (hw:PySem.Within mA ns) (gt:ns.length<=sizeLine)
  (h:∀ h',ObjM h' x dx C (λy=>if y=name then some v else mA y)->Heap.SameBut dx s.heap h'->Q () {s with heap:=h',toks:=s.toks+2}):
  wpAny (model prog w) A (setAttr (.ref x) name v) Q E s:=by
 obtain⟨od,J,hl⟩:=I.look
 refine PySem.W.set_plain X J hs (osa_open (s:={s with toks:=s.toks+1}) (r:=none) X J hp ht λb=>?_)
 obtain⟨cd,hc,d_⟩:=any_some hh
 have hx:s.heap.get? x=some ⟨.ref C,some dx,.plain,#[]⟩:=I.obj
 refine wpAny_bind (wpAny_pure (wpAny_bind (wpAny_bind (wpAny_loadPart hx (wpAny_bind (PySem.W.Looks.here (s:={s with toks:=s.toks+1}) (PySem.W.looks_clsIn X hc) ?_))))))
 rw[d_]
 refine wpAny_pure (a:=some dx) (wpAny_bind (wpAny_pure (wpAny_bind ?_)))
 refine wpAny_nsSet1 (s:={s with toks:=s.toks+1}) I.ns λh' u8 k8=>?_
 obtain⟨oD,IP,IQ,FC,FD,FE⟩:=u8.count (PySem.Within.cons name v hw)
 refine wpAny_bind (wpAny_lookBehind FC (by rw[FD];exact pastItsLine_dict (AK FE (by rw[AB];lia))) ?_)
 exact wpAny_pure (h _ ⟨(k8.2 _ (Ne.symm I.ne)).trans I.obj,u8,I.ne⟩ k8)
theorem rg{R:Result->Shared->Prop}{vs:List Value}{kw:List (Str × Value)}(X:K.In s.heap)(hm:makesIn K C=true)
  (hi:AD K (.ref C) "__init__"=some (some (.ref f))) (hf:PySem.W.typeIn K (.ref f)=some (.type "function"))
  (h:codeAny (model prog w) (A.under (.builtin "type.__call__" ⟨.ref C::vs,kw⟩)) (.call (.ref f) ⟨.ref (s.heap.objs.size+1)::vs,kw⟩) (InitBack (s.heap.objs.size+1) R)
   {s with heap:=(s.heap.push emptyDict).push (instObj C s.heap.objs.size)}):
  codeAny (model prog w) A (.call (.ref C) ⟨vs,kw⟩) R s:=by
 obtain⟨hh,g,d,t,os⟩:=s
 exact make_core (makes_of X hm) (PySem.W.looks_findIn X hi) (λself=>PySem.W.bind_fn X self hf) (.inl rfl) h
end
def putF(f:Str)(v:V):List (Str × V)->List (Str × V)
 |[]=>[(f,v)]
 |(g,x)::r=>if g=f then(g,v)::r else(g,x)::putF f v r
theorem mx(f g:Str)(v:V):∀ fs:List (Str × V),(putF f v fs).lookup g=if g=f then some v else fs.lookup g
 |[]=>by
  show Bm g [(f,v)]=_
  by_cases h:g=f
  ·have hb:(g==f)=true:=beq_iff_eq.mpr h
   simp only[Bm,hb,if_pos h]
  ·have hb:(g==f)=false:=beq_eq_false_iff_ne.mpr h
   simp only[Bm,hb,if_neg h]
 |(k,x)::r=>by
  have ih:=mx f g v r
  rw[show putF f v ((k,x)::r)=(if k=f then(k,v)::r else(k,x)::putF f v r) from rfl]
  by_cases hk:k=f
  ·rw[if_pos hk]
   by_cases h:g=k
   ·have hb:(g==k)=true:=beq_iff_eq.mpr h
    simp only[Bm,hb,if_pos (h.trans hk)]
   ·have hb:(g==k)=false:=beq_eq_false_iff_ne.mpr h
    simp only[Bm,hb,if_neg (λe:g=f=>h (e.trans hk.symm))]
  ·rw[if_neg hk]
   by_cases h:g=k
   ·have hb:(g==k)=true:=beq_iff_eq.mpr h
    simp only[Bm,hb,if_neg (λe:g=f=>hk (h.symm.trans e))]
   ·have hb:(g==k)=false:=beq_eq_false_iff_ne.mpr h
    simp only[Bm,hb]
    exact ih
theorem gZ(f:Str)(v:V):∀ fs:List (Str × V),f∈(putF f v fs).map (·.1)/\∀ g,g∈fs.map (·.1)->g∈(putF f v fs).map (·.1)
 |[]=>⟨by simp[putF],λg h=>by simp at h⟩
 |(k,x)::r=>by
  obtain⟨i1,i2⟩:=gZ f v r
  rw[show putF f v ((k,x)::r)=(if k=f then(k,v)::r else(k,x)::putF f v r) from rfl]
  by_cases hk:k=f
  ·rw[if_pos hk]
   subst hk
   exact⟨by simp,λg h=>by simpa using h⟩
  ·rw[if_neg hk]
   refine⟨?_,λg h=>?_⟩
   ·rw[AO]
    exact AC _ i1
   ·rw[AO] at h ⊢
    rcases AA.mp h with e|e
    ·exact AA.mpr (.inl e)
    ·exact AC _ (i2 g e)
theorem my(f:Str)(v:V):∀ fs:List (Str × V),(putF f v fs).length<=fs.length+1
 |[]=>by simp[putF]
 |(k,x)::r=>by
  have ih:=my f v r
  rw[show putF f v ((k,x)::r)=(if k=f then(k,v)::r else(k,x)::putF f v r) from rfl]
  by_cases hk:k=f
  ·rw[if_pos hk,AB,AB];lia
  ·rw[if_neg hk,AB,AB];lia
theorem RelO.some_of{v:V}{o:Option Value}(r:RelO (some v) o):∃ u,o=some u/\RelV v u:=by
 cases o with
 |none=>exact(show False from r).elim
 |some u=>exact⟨u,rfl,r⟩
theorem RelO.none_of{o:Option Value}(r:RelO none o):o=none:=by
 cases o with
 |none=>rfl
 |some u=>exact(show False from r).elim
theorem rh{v:V}{u:Value}(r:RelV v u):handedIn u=true:=by
 cases v with
 |non=>cases(show u=Value.none from r);rfl
 |bl b=>cases(show u=Value.bool b from r);rfl
 |int i=>obtain⟨t,e⟩:=(show ∃ t,u=Value.int i t from r);cases e;rfl
 |str x=>obtain⟨t,e⟩:=(show ∃ t,u=Value.str x t from r);cases e;rfl
 |byt b=>obtain⟨t,e⟩:=(show ∃ t,u=Value.bytes b t from r);cases e;rfl
 |flt b=>obtain⟨t,e⟩:=(show ∃ t,u=Value.float b t from r);cases e;rfl
 |ref a=>cases(show u=Value.ref a from r);rfl
 |ty n=>cases(show u=Value.type n from r);rfl
section
variable {P:Program}{w:World}{H H':Hp}{h h':Heap}{a C dx:Addr}{fs i9:List (Str × V)}
theorem fg(hok:HOk P w H h)(e:H a=some (.ins C dx fs)):∃ mA,ObjM h a dx C mA/\(∀ f,RelO (fs.lookup f) (mA f))/\PySem.Within mA (fs.map (·.1))/\fs.length<=1000/\H dx=some (.own a):=by
 obtain⟨d,z,ne,ob,mA,n,r,q⟩:=(show ObjOk P w H h a (.ins C dx fs) from hok a _ e)
 exact⟨mA,⟨ob,n,ne⟩,r,q,z,d⟩
end
structure Cls(K:Ax)(C:Addr):Prop where
 pg:plainGet K C Str.empty=true
 hd:hasDictIn K C=true
 po:plainOver K C=true
 sa:AD K (.ref C) "__setattr__"=some (some (.builtin "object.__setattr__"))
theorem Cls.get{K:Ax}{C:Addr}(c:Cls K C)(f:Str):plainGet K C f=true:=c.pg
def NoAttr(K:Ax)(C:Addr)(f:Str):Prop:=AD K (.ref C) f=some none
theorem NoAttr.taker{K:Ax}{C:Addr}{f:Str}(n:NoAttr K C f):takerIn K C f=some none:=by
 unfold takerIn
 rw[show AD K (.ref C) f=some none from n]
 rfl
structure Con(K:Ax)(C:Addr)(f:Str)(v:V)(u:Value):Prop where
 at_:AD K (.ref C) f=some (some u)
 rel:RelV v u
 get:specialIn K u "__get__"=some none
 cp:PySem.W.copiedNames.contains f=false
structure Meth(K:Ax)(C:Addr)(m:Str)(f:Addr):Prop where
 at_:AD K (.ref C) m=some (some (.ref f))
 fn:isFn K (.ref f)=true
 kp:keepIn K (.ref f)=true
section
variable {X:Cx}{pins:List (Addr × Obj)}{σ:St}{H:Hp}{s:Shared}{a C dx:Addr}{fs:List (Str × V)}{f:Str}{v:V}{A:Around}{E:Value->Shared->Prop}
theorem ri{b:Bool}{Q:Value->Shared->Prop}(I:Inv X pins σ H s)(e:H a=some (.ins C dx fs))(c:Cls X.K C)(n:NoAttr X.K C f)(l:fs.lookup f=some v)
  (h:∀ u s',Inv X pins σ H s'->RelV v u->Q u s'):wpAny (model X.prog X.w) A (getAttr (.ref a) f b) Q E s:=by
 obtain⟨mA,O,r,_,_,_⟩:=fg I.hok e
 obtain⟨u,hu,ru⟩:=RelO.some_of (v:=v) (o:=mA f) (by rw[<- l];exact r f)
 exact qZ I.kIn O (c.get f) c.hd n hu (rh ru) (h u _ (I.tok _) ru)
theorem mz{m:Str}{g:Addr}{pl:Sem Bool}{Q:Value × List Value->Shared->Prop}(I:Inv X pins σ H s)(e:H a=some (.ins C dx fs))(c:Cls X.K C)(k:Meth X.K C m g)(l:fs.lookup m=none)
  (h:Q (.ref g,[.ref a]) s):wpAny (model X.prog X.w) A (getMethod (.ref a) m pl) Q E s:=by
 obtain⟨mA,O,r,_,_,_⟩:=fg I.hok e
 have hn:mA m=none:=RelO.none_of (by rw[<- l];exact r m)
 exact ra I.kIn O (c.get m) k.at_ k.fn hn h
theorem rj{y:V}{u:Value}{Q:Unit->Shared->Prop}(I:Inv X pins σ H s)(e:H a=some (.ins C dx fs))(c:Cls X.K C)(n:NoAttr X.K C f)(hl:fs.length<1000)(ry:RelV y u)
  (h:∀ s',Inv X pins σ (upd H a (.ins C dx (putF f y fs))) s'->Q () s'):wpAny (model X.prog X.w) A (setAttr (.ref a) f u) Q E s:=by
 obtain⟨mA,O,r,wi,_,ho⟩:=fg I.hok e
 have hz:(fs.map (·.1)).length<=sizeLine:=by rw[AH,sizeLine_eq];lia
 refine rb I.kIn O c.sa c.po n.taker c.hd wi hz λh' O' sb=>h _ ?_
 have hd:∃ o,h'.get? dx=some o:=let ⟨o,_,_,e',_⟩:=O'.ns;⟨o,e'⟩
 refine I.write (x:=a) (e:=dx) (by rw[e];exact True.intro) (.inr ho) (λb q hb z=>(sb.2 b hb).trans z) hd ?_
 refine⟨by rw[ak O.ne];exact ho,?_,O.ne,O'.obj,_,O'.ns,λg=>?_,λg hg=>?_⟩
 ·have:=my f y fs;lia
 ·show RelO ((putF f y fs).lookup g) (if g=f then some u else mA g)
  rw[mx]
  by_cases q:g=f
  ·rw[if_pos q,if_pos q];exact ry
  ·rw[if_neg q,if_neg q];exact r g
 ·by_cases q:g=f
  ·rw[q];exact(gZ f y fs).1
  ·refine(gZ f y fs).2 g (wi g λz=>hg ?_)
   show(if g=f then some u else mA g)=none
   rw[if_neg q];exact z
theorem Inv.made(I:Inv X pins σ H s):Inv X pins σ (upd (upd H s.heap.objs.size (.own (s.heap.objs.size+1))) (s.heap.objs.size+1) (.ins C s.heap.objs.size []))
  {s with heap:=(s.heap.push emptyDict).push (instObj C s.heap.objs.size)}:=by
 have e1:(s.heap.push emptyDict).get? s.heap.objs.size=some emptyDict:=Heap.get?_push_size s.heap rfl
 have e2:((s.heap.push emptyDict).push (instObj C s.heap.objs.size)).get? (s.heap.objs.size+1)=some (instObj C s.heap.objs.size):=by
  have:=Heap.get?_push_size (s.heap.push emptyDict) (o:=instObj C s.heap.objs.size) rfl
  rwa [Heap.size_push] at this
 have e3:(s.heap.push emptyDict).Ns s.heap.objs.size (λ_=>none):=⟨emptyDict,#[],_,e1,rfl,(λe he=>absurd he (by simp)),λ_=>rfl⟩
 have I1:=I.laid (a:=s.heap.objs.size) (o:= .own (s.heap.objs.size+1)) (h':=s.heap.push emptyDict) (t':=s.toks) (λb u q=>Heap.get?_push_of_some _ q) (Az _) ⟨_,e1⟩
 refine I1.laid (a:=s.heap.objs.size+1) (o:= .ins C s.heap.objs.size []) (t':=s.toks) (λb u q=>Heap.get?_push_of_some _ q) (BQ (Heap.size_push _ _)) ?_
 have ne:s.heap.objs.size≠s.heap.objs.size+1:=AF (Cy _)
 refine⟨by rw[ak ne,az],AY _,ne,e2,λ_=>none,(Heap.Ns1.of_empty e3).at λo q=>Heap.get?_push_of_some _ q,λ_=>True.intro,λy hy=>absurd rfl hy⟩
theorem attr_of{prog:Program}{w:World}{env:Env}{e:Expr}{f:Str}{pos:Pos}{s:Shared}{Q:Value->Shared->Prop}(hb:attributeBase e f env (eval e env)=eval e env)
  (h:wpAny (model prog w) A (eval e env) (λo s₁=>wpAny (model prog w) A (getAttr o f true) Q E s₁) E s):wpAny (model prog w) A (eval (.Attribute e f pos) env) Q E s:=
 Attribute_any_ h (by rw[arm_eval_Attribute,hb])
end
def tFld(K:Ax)(ta:TE)(f:Str):TE:=λσ H Q=>ta σ H λx H1=>∃ a C dx fs v,x= .ref a/\H1 a=some (.ins C dx fs)/\Cls K C/\NoAttr K C f/\fs.lookup f=some v/\Q v H1
def sFld(K:Ax)(ta tv:TE)(f:Str):TS:=λD σ H=>tv σ H λy H1=>ta σ H1 λx H2=>∃ a C dx fs,x= .ref a/\H2 a=some (.ins C dx fs)/\Cls K C/\NoAttr K C f/\fs.length<1000/\
 D.nx σ (upd H2 a (.ins C dx (putF f y fs)))
section
variable {X:Cx}{o e value:Expr}{f:Str}{pos c5 IR:Pos}{ta tv:TE}
theorem mB(he:PE X e ta)(hb:attributeBase e f X.env (eval e X.env)=eval e X.env):PE X (.Attribute e f pos) (tFld X.K ta f):=by
 intro pins s σ H Q I h
 refine attr_of hb (thn (he pins s σ H _ I h) λu s1 ⟨x,H1,I1,rx,a,C,dx,fs,v,ex,ea,c,n,l,q⟩=>?_)
 subst ex
 obtain rfl:u=Value.ref a:=rx
 exact ri I1 ea c n l λu' s2 I2 ru=>⟨v,H1,I2,ru,q⟩
theorem mC(ha:PE X o ta)(hv:PE X value tv)(hs:swapsWith value (some (.Attribute o f c5)) pos.line X.env=pure false):PS X (.Assign [.Attribute o f c5] value pos) (sFld X.K ta tv f):=by
 intro pins s σ H D I h
 refine plainObj_wpAny_Assign_Attribute (thn (hv pins s σ H _ I h) λu s1 ⟨y,H1,I1,ry,q⟩=>thn (ha pins s1 σ H1 _ I1 q) λov s2 ⟨x,H2,I2,rx,a,C,dx,fs,ex,ea,c,n,l,q2⟩=>?_) hs
 subst ex
 obtain rfl:ov=Value.ref a:=rx
 exact rj I2 ea c n l ry λs3 I3=>⟨σ,_,I3,q2⟩
end
section
variable {X:Cx}{pins:List (Addr × Obj)}{σ:St}{H:Hp}{s:Shared}{A:Around}{E:Value->Shared->Prop}{Q:Value->Shared->Prop}{c:Value}{b:Bool}
inductive TyOf(K:Ax)(H:Hp):V->Value->Prop where
 |non:TyOf K H .non (.type "NoneType")
 |bl (x:Bool):TyOf K H (.bl x) (.type "bool")
 |int (i:Int):TyOf K H (.int i) (.type "int")
 |str (x:Str):TyOf K H (.str x) (.type "str")
 |flt (x:UInt64):TyOf K H (.flt x) (.type "float")
 |lst {a:Addr} {xs:List V} (e:H a=some (.lst xs)):TyOf K H (.ref a) (.type "list")
 |frz {a:Addr} {o:Obj} {xs:List V} (e:H a=some (.frz o (.lst xs))):TyOf K H (.ref a) (.type "list")
 |tup {a:Addr} {xs:List V} (e:H a=some (.tup xs)):TyOf K H (.ref a) (.type "tuple")
 |dK {a:Addr} {a8:List (Key × V)} (e:H a=some (.dK a8)):TyOf K H (.ref a) (.type "dict")
 |dT {a:Addr} {a8:List (List Key × V)} (e:H a=some (.dT a8)):TyOf K H (.ref a) (.type "dict")
 |ins {a C dx:Addr} {fs:List (Str × V)} (e:H a=some (.ins C dx fs)) (cl:Cls K C) (ha:AD K (.ref C) "__class__"=some (some (.builtin "object.__class__")))
   (hn:specialIn K (.builtin "object.__class__") "__get__"=some (some (.builtin "getset_descriptor.__get__"))) (htk:takesIn K (.builtin "object.__class__")=some true)
   (hm:Bc K C (.type "object")=some true):TyOf K H (.ref a) (.ref C)
theorem mD{x:V}{u t:Value}(I:Inv X pins σ H s)(rx:RelV x u)(ty:TyOf X.K H x t)(e:kitOne X.K t c=some b)(h:∀ tk,Q (.bool b) {s with toks:=tk}):
  wpAny (model X.prog X.w) A (call (.builtin "isinstance") [u,c]) Q E s:=by
 cases ty with
 |non=>cases(show u=Value.none from rx);exact kia_one kitx_none I.kIn True.intro e (λz=>nomatch z) h
 |bl y=>cases(show u=Value.bool y from rx);exact kia_one kitx_bool I.kIn True.intro e (λz=>nomatch z) h
 |int i=>obtain⟨t,q⟩:=(show ∃ t,u=Value.int i t from rx);cases q;exact kia_one kitx_int I.kIn True.intro e (λz=>nomatch z) h
 |str y=>obtain⟨t,q⟩:=(show ∃ t,u=Value.str y t from rx);cases q;exact kia_one kitx_str I.kIn True.intro e (λz=>nomatch z) h
 |flt y=>obtain⟨t,q⟩:=(show ∃ t,u=Value.float y t from rx);cases q;exact kia_one kitx_float I.kIn True.intro e (λz=>nomatch z) h
 |@lst a xs ea=>
  cases(show u=Value.ref a from rx)
  obtain⟨_,_,n,_,h1⟩:=(show ObjOk X.prog X.w H s.heap a (.lst xs) from I.hok a _ ea)
  exact kia_one kitx_list I.kIn ⟨_,h1,rfl⟩ e (λz=>nomatch z) h
 |@frz a ob xs ea=>
  cases(show u=Value.ref a from rx)
  obtain⟨_,_,_,n,_,h1⟩:=(show ObjOk X.prog X.w H s.heap a (.frz ob (.lst xs)) from I.hok a _ ea)
  exact kia_one kitx_list I.kIn ⟨_,h1,rfl⟩ e (λz=>nomatch z) h
 |@tup a xs ea=>
  cases(show u=Value.ref a from rx)
  obtain⟨_,_,_,p⟩:=(show ObjOk X.prog X.w H s.heap a (.tup xs) from I.hok a _ ea)
  obtain⟨o,h1,h2,_⟩:=p
  exact kia_one kitx_tuple I.kIn ⟨o,h1,h2⟩ e (λz=>nomatch z) h
 |@dK a a8 ea=>
  cases(show u=Value.ref a from rx)
  obtain⟨_,_,vs,_,p⟩:=(show ObjOk X.prog X.w H s.heap a (.dK a8) from I.hok a _ ea)
  obtain⟨o,es,ep,h1,h2,_⟩:=p
  exact kia_one kitx_dict I.kIn ⟨o,h1,h2.1⟩ e (λz=>nomatch z) h
 |@dT a a8 ea=>
  cases(show u=Value.ref a from rx)
  obtain⟨_,_,xs,_,o,es,ep,h1,h2,_⟩:=(show ObjOk X.prog X.w H s.heap a (.dT a8) from I.hok a _ ea)
  exact kia_one kitx_dict I.kIn ⟨o,h1,h2.1⟩ e (λz=>nomatch z) h
 |@ins a C dx fs ea cl ha hn htk hm=>
  cases(show u=Value.ref a from rx)
  obtain⟨mA,O,_⟩:=fg I.hok ea
  obtain⟨od,J,_⟩:=O.look
  exact kia_one (kitx_own (cl.get _) cl.hd ha hn htk hm) I.kIn J e (λz=>nomatch z) h
end
structure Room(k:Nat)(A:Around):Prop where
 hd:A.handled=none
 dp:A.depth+3*k+5<recursionLimit
 un:A.units+16*k+200<cLine
theorem Room.mono{j k:Nat}{A:Around}(r:Room k A)(h:j<=k):Room j A:=⟨r.hd,by have:=r.dp;lia,by have:=r.un;lia⟩
theorem Room.deeper{k:Nat}{A:Around}(r:Room (k+1) A)(env:Env):Room k (A.deeper env):=
 ⟨r.hd,by have:=r.dp;show A.depth+1+3*k+5<_;lia,by have:=r.un;show A.units+3+16*k+200<_;lia⟩
theorem Room.in1{k:Nat}{A:Around}(r:Room (k+1) A):Room k A.in1:=
 ⟨r.hd,by have:=r.dp;show A.depth+3*k+5<_;lia,by have:=r.un;show A.units+1+16*k+200<_;lia⟩
theorem rk{A:Around}{C:Addr}{us:List Value}{kw:List (Str × Value)}:(A.under (.builtin "type.__call__" ⟨.ref C::us,kw⟩)).depth=A.depth+1:=by
 first|rfl|simp[Around.under,Code.weight,Code.isCreation,Code.isGuard,Code.isCaller,Code.frames,Code.isFrame,guardIds]
theorem rl{A:Around}{C:Addr}{us:List Value}{kw:List (Str × Value)}:(A.under (.builtin "type.__call__" ⟨.ref C::us,kw⟩)).units=A.units+1:=by
 first|rfl|simp[Around.under,Code.cUnits,Code.frames,Code.isFrame]
theorem Room.make{k:Nat}{A:Around}(r:Room (k+1) A)(C:Addr)(us:List Value)(kw:List (Str × Value)):Room k (A.under (.builtin "type.__call__" ⟨.ref C::us,kw⟩)):=
 ⟨r.hd,by have:=r.dp;rw[rk];lia,by have:=r.un;rw[rl];lia⟩
theorem Room.depth{k:Nat}{A:Around}(r:Room k A):A.depth<recursionLimit:=by have:=r.dp;lia
theorem Room.units{k:Nat}{A:Around}(r:Room k A):A.units+64<cLine:=by have:=r.un;lia
def tNil:TA:=λ_ H Q=>Q [] H
def rn(ta:TE)(tr:TA):TA:=λσ H Q=>ta σ H λx H1=>tr σ H1 λxs H2=>Q (x::xs) H2
section
variable {X:Cx}{e:Expr}{es:List Expr}{te:TE}{t:TA}{pos:Pos}
theorem pa_nil:PA X [] tNil:=λ_ _ _ _ H Q I h=>Calls.spliced_nil ⟨[],H,I,.nil,h⟩
theorem bn(ha:PE X e te)(hr:PA X es t)(hs:zSE X e es:=by rfl):PA X (e::es) (rn te t):=by
 intro pos pins s σ H Q I h
 rw[hs]
 show wpAny _ _ (spliced ((false,eval e X.env)::backTo pos (starEach es X.env))) _ _ s
 refine Calls.spliced_cons (thn (ha pins s σ H _ I h) λu s1 ⟨x,H1,I1,r1,q1⟩=>?_)
 exact thn (hr pos pins s1 σ H1 _ I1 q1) λus s2 ⟨xs,H2,I2,r2,q2⟩=>⟨x::xs,H2,I2,.cons r1 r2,q2⟩
def tTup(t:TA):TE:=λσ H Q=>t σ H λxs H1=>xs.length<=sizeLine/\∀ p,H1 p=none->Q (.ref p) (upd H1 p (.tup xs))
def tLst(t:TA):TE:=λσ H Q=>t σ H λxs H1=>xs.length<=sizeLine/\∀ p,H1 p=none->Q (.ref p) (upd H1 p (.lst xs))
theorem mF{x1}(h:PA X es t):PE X (.Tuple es x1 pos) (tTup t):=by
 intro pins s σ H Q I hq
 refine wpAny_Tuple_spliced (thn (h pos pins s σ H _ I hq) λus s1 ⟨xs,H1,I1,r,z,q⟩=>⟨by rw[<- r.length];exact z,?_⟩)
 have hf:H1 s1.heap.objs.size=none:=I1.hok.fresh (Az _)
 refine⟨.ref s1.heap.objs.size,upd H1 s1.heap.objs.size (.tup xs),I1.laid (t':=s1.toks) (λb u e=>Heap.get?_push_of_some _ e) (Az _) ?_,rfl,q _ hf⟩
 exact⟨z,us,r,⟨_,Heap.get?_push_size _ rfl,rfl,_,rfl⟩⟩
theorem hU(h:PA X es t):PE X (.List es pos) (tLst t):=by
 intro pins s σ H Q I hq
 refine wpAny_List_spliced (thn (h pos pins s σ H _ I hq) λus s1 ⟨xs,H1,I1,r,z,q⟩=>⟨by rw[<- r.length];exact z,?_⟩)
 have hf:H1 s1.heap.objs.size=none:=I1.hok.fresh (Az _)
 refine⟨.ref s1.heap.objs.size,upd H1 s1.heap.objs.size (.lst xs),I1.laid (t':=s1.toks) (λb u e=>Heap.get?_push_of_some _ e) (Az _) ?_,rfl,q _ hf⟩
 exact⟨z,us,0,r,Heap.get?_push_size _ rfl⟩
end
abbrev Sp:=List V->Hp->VK->XK->Prop
abbrev CXT:=List Env->Hp->Shared->XK->Value->Shared->Prop
structure Env0(P:Program)(w:World)(K:Ax)(mg:Str->Option Value)(base:Heap)(A:Around)(outer:List Env)(s:Shared)(H:Hp):Prop where
 frames:A.frames=some outer
 mod:Mod K mg base
 bs:∀ b o,base.get? b=some o->s.heap.get? b=some o/\H b=none
 bsz:base.objs.size<=s.heap.objs.size
 funs:s.heap.FunFrames base outer
 frf:∀ b∈frs outer,H b=none
 hok:HOk P w H s.heap
 bare:AllBare s.gens
def CE(outer:List Env)(P:Program)(w:World)(H:Hp)(s:Shared)(Q:VK)(u:Value)(s':Shared):Prop:=
 ∃ v H',s'.os=s.os/\AllBare s'.gens/\Un (frs outer) [] H H' s.heap s'.heap/\HOk P w H' s'.heap/\RelV v u/\Q v H'
def CR(CX:CXT)(outer:List Env)(P:Program)(w:World)(H:Hp)(s:Shared)(Q:VK)(E:XK)(r:Result)(s':Shared):Prop:=
 match r with
 | .ok (.ret u)=>CE outer P w H s Q u s'
 | .ok _=>False
 | .error e=>CX outer H s E e s'
structure FnOk(P:Program)(w:World)(K:Ax)(mg:Str->Option Value)(base:Heap)(CX:CXT)(k:Nat)(f:Addr)(fd:FuncData)(ps:List Str)(sp:Sp):Prop where
 len:∀ vs H Q E,sp vs H Q E->vs.length=ps.length
 run:∀ (A:Around) (outer:List Env) (s:Shared) (H:Hp) (args:Args) (us:List Value) (vs:List V) (Q:VK) (E:XK),Room k A->Env0 P w K mg base A outer s H->BindsTo s fd args (ps.zip us)->Vals vs us->sp vs H Q E->
  codeAny (model P w) A (.call (.ref f) args) (CR CX outer P w H s Q E) s
theorem FnOk.mono{P:Program}{w:World}{K:Ax}{mg:Str->Option Value}{base:Heap}{CX:CXT}{j k:Nat}{f:Addr}{fd:FuncData}{ps:List Str}{sp:Sp}(F:FnOk P w K mg base CX j f fd ps sp)(h:j<=k):
  FnOk P w K mg base CX k f fd ps sp:=⟨F.len,λA outer s H args us vs Q E hr=>F.run A outer s H args us vs Q E (hr.mono h)⟩
theorem FnOk.imp{P:Program}{w:World}{K:Ax}{mg:Str->Option Value}{base:Heap}{CX:CXT}{k:Nat}{f:Addr}{fd:FuncData}{ps:List Str}{sp y7:Sp}(F:FnOk P w K mg base CX k f fd ps sp)
  (h:∀ vs H Q E,y7 vs H Q E->sp vs H Q E):FnOk P w K mg base CX k f fd ps y7:=
 ⟨λvs H Q E q=>F.len vs H Q E (h _ _ _ _ q),λA outer s H args us vs Q E hr he hb hv hs=>F.run A outer s H args us vs Q E hr he hb hv (h _ _ _ _ hs)⟩
theorem Env0.make{P:Program}{w:World}{K:Ax}{mg:Str->Option Value}{base:Heap}{A:Around}{outer:List Env}{s:Shared}{H:Hp}(e:Env0 P w K mg base A outer s H)(C:Addr)(us:List Value)(kw:List (Str × Value)):
  Env0 P w K mg base (A.under (.builtin "type.__call__" ⟨.ref C::us,kw⟩)) outer s H:=⟨by first|exact e.frames|(simpa[Around.under,Code.envs,Code.isFrame,pushEnvs] using e.frames),e.mod,e.bs,e.bsz,e.funs,e.frf,e.hok,e.bare⟩
theorem Env0.in1{P:Program}{w:World}{K:Ax}{mg:Str->Option Value}{base:Heap}{A:Around}{outer:List Env}{s:Shared}{H:Hp}(e:Env0 P w K mg base A outer s H):
  Env0 P w K mg base A.in1 outer s H:=⟨e.frames,e.mod,e.bs,e.bsz,e.funs,e.frf,e.hok,e.bare⟩
section
variable {X:Cx}{pins:List (Addr × Obj)}{σ:St}{H:Hp}{s s':Shared}
theorem Inv.env0(I:Inv X pins σ H s):Env0 X.prog X.w X.K X.mg X.base X.A X.stack s H:=
 ⟨I.ok.frames,I.ok.mod,I.bs,AK I.ok.bsz I.sz,I.stack,I.stkFree,I.hok,I.bare⟩
theorem Inv.after{Q:VK}{u:Value}(I:Inv X pins σ H s)(h:CE X.stack X.prog X.w H s Q u s'):EP X pins σ Q u s':=by
 obtain⟨v,H',os,bare,un,hok,r,q⟩:=h
 obtain⟨hh,g,d,t,IS⟩:=s'
 obtain rfl:IS=s.os:=os
 exact⟨v,H',I.call (h':=hh) (g':=g) (d':=d) (t':=t) (ch:=[]) un hok bare (λb z=>absurd z (by simp)),r,q⟩
end
def mG(sp:Sp)(k9:List V)(E:XK)(t:TA):TE:=λσ H Q=>t σ H λvs H1=>sp (vs++k9) H1 Q E
def rq(C:Addr)(sp:Sp)(k9:List V)(E:XK)(t:TA):TE:=λσ H Q=>t σ H λvs H1=>∀ x dx,H1 x=none->H1 dx=none->dx≠x->
 sp (.ref x::(vs++k9)) (upd (upd H1 dx (.own x)) x (.ins C dx [])) (λv H2=>v= .non/\Q (.ref x) H2) E
def Binds(K:Ax)(fd:FuncData)(ps:List Str)(ds:List Value):Prop:=
 ∀ (s:Shared) (us:List Value),K.In s.heap->(us++ds).length=ps.length->BindsTo s fd ⟨us,[]⟩ (ps.zip (us++ds))
theorem Binds.all{K:Ax}{fd:FuncData}{ps:List Str}(h:∀ us:List Value,us.length=ps.length->bindArgs fd ⟨us,[]⟩=pure (ps.zip us)):Binds K fd ps []:=λs us _ hl=>by
 rw[A8] at hl ⊢
 exact .of_eq (h us hl)
def dU(CX:CXT)(X:Cx)(E:XK):Prop:=∀ (pins:List (Addr × Obj)) (σ:St) (H:Hp) (s:Shared) (e:Value) (s':Shared),Inv X pins σ H s->CX X.stack H s E e s'->X.xe e s'
section
variable {X:Cx}{CX:CXT}{k:Nat}{f C:Addr}{fd:FuncData}{ps:List Str}{sp:Sp}{k9:List V}{ds:List Value}{E:XK}{x m:Str}{p pos apos:Pos}{e o:Expr}{es:List Expr}{ta:TE}{t:TA}
theorem rz{pins:List (Addr × Obj)}{σ:St}{H:Hp}{s:Shared}{Q:VK}{us:List Value}{vs:List V}(F:FnOk X.prog X.w X.K X.mg X.base CX k f fd ps sp)(hr:Room k X.A)(hb:Binds X.K fd ps ds)(hd:Vals k9 ds)(hx:dU CX X E)
  (I:Inv X pins σ H s) (r:Vals vs us) (h:sp (vs++k9) H Q E):wpAny (model X.prog X.w) X.A (call (.ref f) us) (EP X pins σ Q) X.xe s:=by
 have r2:Vals (vs++k9) (us++ds):=r.append hd
 have hl:(us++ds).length=ps.length:=by rw[<- r2.length];exact F.len _ _ _ _ h
 refine wpAny_call (codeAny_mono (F.run X.A X.stack s H ⟨us,[]⟩ (us++ds) (vs++k9) Q E hr I.env0 (hb s us I.kIn hl) r2 h) λr s' hq=>?_)
 cases r with
 |error e=>exact hx pins σ H s e s' I hq
 |ok fl=>
  cases fl with
  |ret u=>exact I.after hq
  |next=>exact False.elim hq
  |brk=>exact False.elim hq
  |cont=>exact False.elim hq
theorem rA(F:FnOk X.prog X.w X.K X.mg X.base CX k f fd ps sp)(hr:Room k X.A)(hg:Gl X x)(hm:X.mg x=some (.ref f))(hk:keepIn X.K (.ref f)=true)(hb:Binds X.K fd ps ds)(hd:Vals k9 ds)(hx:dU CX X E)
  (ha:PA X (e::es) t) (c_:zND x:=by decide) (he:zSE X e es:=by rfl) (b9:zPL X pos es:=by rfl):
  PE X (.Call (.Name x p) (e::es) [] pos) (mG sp k9 E t):=by
 intro pins s σ H Q I h
 refine wpAny_Call_Name_kw (bY I hg hm ?_ c_)
 refine callWith_K (h₀:=X.base) I.ok.mod.kin hk (thn (ha pos pins s σ H _ I h) λus s1 ⟨vs,H1,I1,r,q⟩=>⟨I1.kIn,?_⟩) he b9
 exact rz F hr hb hd hx I1 r q
structure Mk(K:Ax)(C f:Addr):Prop where
 makes:makesIn K C=true
 init:AD K (.ref C) "__init__"=some (some (.ref f))
 fn:isFn K (.ref f)=true
 kp:keepIn K (.ref C)=true
theorem rB{pins:List (Addr × Obj)}{σ:St}{H:Hp}{s:Shared}{Q:VK}{us:List Value}{vs:List V}(M:Mk X.K C f)(F:FnOk X.prog X.w X.K X.mg X.base CX k f fd ps sp)(hr:Room (k+1) X.A)(hb:Binds X.K fd ps ds)(hd:Vals k9 ds)
  (hx:dU CX X E) (I:Inv X pins σ H s) (r:Vals vs us)
  (h:∀ x dx,H x=none->H dx=none->dx≠x->sp (.ref x::(vs++k9)) (upd (upd H dx (.own x)) x (.ins C dx [])) (λv H2=>v= .non/\Q (.ref x) H2) E):
  wpAny (model X.prog X.w) X.A (call (.ref C) us) (EP X pins σ Q) X.xe s:=by
 have hq:=h (s.heap.objs.size+1) s.heap.objs.size (I.hok.fresh (Bn _)) (I.hok.fresh (Az _)) (AF (Cy _))
 have I2:=Inv.made (C:=C) I
 have r2:Vals (V.ref (s.heap.objs.size+1)::(vs++k9)) (Value.ref (s.heap.objs.size+1)::(us++ds)):= .cons rfl (r.append hd)
 have hl:(Value.ref (s.heap.objs.size+1)::us++ds).length=ps.length:=by
  have e:=r2.length
  rw[F.len _ _ _ _ hq] at e
  exact e.symm
 refine wpAny_call (rg (f:=f) I.kIn M.makes M.init (beq_iff_eq.mp M.fn) (codeAny_mono (F.run _ X.stack _ _ ⟨Value.ref (s.heap.objs.size+1)::us,[]⟩ (Value.ref (s.heap.objs.size+1)::(us++ds)) _ _ E (hr.make C us [])
  (I2.env0.make C us []) (hb _ (Value.ref (s.heap.objs.size+1)::us) I2.kIn hl) r2 hq) λr s' n6=>?_))
 cases r with
 |error e=>exact hx pins σ _ _ e s' I2 n6
 |ok fl=>
  cases fl with
  |ret u=>
   obtain⟨v,H',I3,rv,ev,q3⟩:=I2.after n6
   subst ev
   exact⟨rv,⟨V.ref (s.heap.objs.size+1),H',I3,rfl,q3⟩⟩
  |next=>exact False.elim n6
  |brk=>exact False.elim n6
  |cont=>exact False.elim n6
theorem hV(M:Mk X.K C f)(F:FnOk X.prog X.w X.K X.mg X.base CX k f fd ps sp)(hr:Room (k+1) X.A)(hg:Gl X x)(hm:X.mg x=some (.ref C))(hb:Binds X.K fd ps ds)(hd:Vals k9 ds)(hx:dU CX X E)
  (ha:PA X (e::es) t) (c_:zND x:=by decide) (he:zSE X e es:=by rfl) (b9:zPL X pos es:=by rfl):
  PE X (.Call (.Name x p) (e::es) [] pos) (rq C sp k9 E t):=by
 intro pins s σ H Q I h
 refine wpAny_Call_Name_kw (bY I hg hm ?_ c_)
 refine callWith_K (h₀:=X.base) I.ok.mod.kin M.kp (thn (ha pos pins s σ H _ I h) λus s1 ⟨vs,H1,I1,r,q⟩=>⟨I1.kIn,?_⟩) he b9
 exact rB M F hr hb hd hx I1 r q
end
structure FnScope(N P:List Str)(sc:Scope):Prop where
 kind:sc.kind= .function
 co:sc.isCoroutine=false
 gen:sc.isGenerator=false
 nd:N.Nodup
 pre:N.take P.length=P
 par:∀ x∈P,sc.names.lookup x=some .local\/sc.names.lookup x=some .cell
 nofree:∀ y∈sc.names,y.2≠.free
theorem mH{kindOf:Str->Option NameKind}{x:Str}:∀ {binds:List (Str × Value)} {m:Str->Option Value},(∀ v,(x,v) ∉ binds)->bindL kindOf binds m x=m x
 |[],_,_=>rfl
 |(n,v)::r,m,h=>by
  unfold bindL
  rw[mH λw hw=>h w (AC _ hw)]
  split
  ·have:x≠n:=by rintro rfl;exact h v AE
   simp[this]
  ·rfl
theorem bindC_out{kindOf:Str->Option NameKind}{x:Str}:∀ {binds:List (Str × Value)} {m:Str->Option Value},(∀ v,(x,v) ∉ binds)->bindC kindOf binds m x=m x
 |[],_,_=>rfl
 |(n,v)::r,m,h=>by
  unfold bindC
  rw[bindC_out λw hw=>h w (AC _ hw)]
  split
  ·rfl
  ·have:x≠n:=by rintro rfl;exact h v AE
   simp[this]
theorem bindL_get{kindOf:Str->Option NameKind}{x:Str}{v:Value}:∀ {P:List Str} {vs:List Value} {i:Nat} {m:Str->Option Value},P.Nodup->P[i]?=some x->vs[i]?=some v->kindOf x=some .local->
  bindL kindOf (P.zip vs) m x=some v
 |[],_,_,_,_,h,_,_=>by simp at h
 |_::_,[],_,_,_,_,h,_=>by simp at h
 |p::P,w::vs,0,m,nd,h1,h2,hk=>by
  simp at h1 h2;subst h1;subst h2
  show bindL kindOf ((p,w)::P.zip vs) m p=_
  unfold bindL
  rw[mH λv hv=>(Bg.mp nd).1 (B4 hv).1,if_pos hk]
  simp
 |p::P,w::vs,i+1,m,nd,h1,h2,hk=>by
  show bindL kindOf ((p,w)::P.zip vs) m x=_
  unfold bindL
  exact bindL_get (i:=i) (Bg.mp nd).2 (by simpa using h1) (by simpa using h2) hk
theorem mI{kindOf:Str->Option NameKind}{x:Str}{v:Value}:∀ {P:List Str} {vs:List Value} {i:Nat} {m:Str->Option Value},P.Nodup->P[i]?=some x->vs[i]?=some v->kindOf x≠some .local->
  bindC kindOf (P.zip vs) m x=some v
 |[],_,_,_,_,h,_,_=>by simp at h
 |_::_,[],_,_,_,_,h,_=>by simp at h
 |p::P,w::vs,0,m,nd,h1,h2,hk=>by
  simp at h1 h2;subst h1;subst h2
  show bindC kindOf ((p,w)::P.zip vs) m p=_
  unfold bindC
  rw[bindC_out λv hv=>(Bg.mp nd).1 (B4 hv).1,if_neg hk]
  simp
 |p::P,w::vs,i+1,m,nd,h1,h2,hk=>by
  show bindC kindOf ((p,w)::P.zip vs) m x=_
  unfold bindC
  exact mI (i:=i) (Bg.mp nd).2 (by simpa using h1) (by simpa using h2) hk
def start(N:List Str)(vs:List V):St:=vs.map some++Bt (N.length - vs.length) none
def cxOf(CX:CXT)(P:Program)(w:World)(K:Ax)(mg:Str->Option Value)(base:Heap)(N:List Str)(qual:Str)(scope:Scope)(f:Addr)(cd:Value)(A:Around)(outer:List Env)(s:Shared)(H:Hp)(E:XK):Cx where
 prog:=P
 w:=w
 K:=K
 mg:=mg
 base:=base
 A:=A.deeper (envOfC qual scope s.heap.objs.size f cd)
 N:=N
 s₀:=s
 H₀:=H
 env:=envOfC qual scope s.heap.objs.size f cd
 outer:=outer
 stack:=envOfC qual scope s.heap.objs.size f cd::outer
 ex:=[]
 calm:=true
 fn:=λ_=>true
 pn:=[]
 xe:=λe s'=>wpAny (model P w) (A.deeper (envOfC qual scope s.heap.objs.size f cd)) (leaving (envOfC qual scope s.heap.objs.size f cd) e) (λ_ FF=>CX outer H s E e FF) (λe' FF=>CX outer H s E e' FF) s'
theorem cell_has{sc:Scope}{n:Nat}{x:Str}(h:sc.names.lookup x=some .cell):∃ c,(cellsFrom n sc.names []).lookup x=some c:=by
 have q:=cellsFrom_some sc.names n [] (.inl h)
 exact Option.isSome_iff_exists.mp q
theorem rC{CX:CXT}{P:Program}{w:World}{K:Ax}{mg:Str->Option Value}{base:Heap}{N ps:List Str}{qual:Str}{scope:Scope}{f:Addr}{cd:Value}{A:Around}{outer:List Env}{s s1:Shared}{H:Hp}{E:XK}{us:List Value}{vs:List V}
  (S:FnScope N ps scope) (hd:A.handled=none) (e0:Env0 P w K mg base A outer s H) (hl:vs.length=ps.length) (r:Vals vs us)
  (x:InCallC s s.heap.objs.size (bindL (envOfC qual scope s.heap.objs.size f cd).kindOf (ps.zip us) λ_=>none) (cellsFrom (s.heap.objs.size+1) scope.names []) (bindC (envOfC qual scope s.heap.objs.size f cd).kindOf (ps.zip us) λ_=>none) s1):
  Inv (cxOf CX P w K mg base N qual scope f cd A outer s H E) [] (start N vs) H s1:=by
 have b9:ps.length<=N.length:=by have:=congrArg BB S.pre;rw[B5] at this;lia
 obtain⟨h1,tk,rfl,hk⟩:=x.done
 have D1:∀ b:Addr,b ∉ (cxOf CX P w K mg base N qual scope f cd A outer s H E).ex:=λb z=>absurd (show b∈([]:List Addr) from z) (by simp)
 refine⟨⟨e0.mod,S.kind,rfl,rfl,Az _,λy z c h1 h2=>?_,λy hy=>?_,λy c _ h=>?_,λ_=>hd,Around.frames_deeper e0.frames,.inr ⟨rfl,rfl⟩,λb z=>absurd z (D1 b),e0.bs,e0.bsz,λb _ _=>D1 b,λb z=>absurd z (D1 b),e0.funs,e0.frf⟩,
  rfl,e0.bare,Un.kept hk,⟨_,x.toInCall.ns,λi y v h1 h2 h3=>?_⟩,λy c h=>⟨_,x.cell y c h⟩,e0.hok.fresh (Az _),λy c h=>?_,λp hp=>absurd (show p∈([]:List (Addr × Obj)) from hp) (by simp),e0.hok.kept hk,?_⟩
 ·exact name_of_addr x.apart (PySem.mem_of_lookup h1) (PySem.mem_of_lookup h2)
 ·have hy:scope.names.lookup y=some .cell\/scope.names.lookup y=some .free:=hy
  rcases hy with hy|hy
  ·exact cell_has hy
  ·exact absurd rfl (S.nofree _ (PySem.mem_of_lookup hy))
 ·exact BN (x.above y c (PySem.mem_of_lookup h))
 ·have hi:i<vs.length:=by
   unfold start at h2
   by_cases hi:i<vs.length
   ·exact hi
   ·rw[Bu (by simpa using hi)] at h2
    rw[B6] at h2
    split at h2<;>cases h2
  have ha:vs[i]?=some v:=by
   unfold start at h2
   rw[Bh (by simpa using hi),A2] at h2
   cases e:vs[i]? with
   |none=>rw[e] at h2;cases h2
   |some a=>rw[e] at h2;cases h2;rfl
  obtain⟨u,hu,rv⟩:=r.get ha
  have hp:ps[i]?=some y:=by
   rw[<- S.pre,List.getElem?_take_of_lt (by lia)];exact h1
  have HB:ps.Nodup:=by rw[<- S.pre];exact S.nd.sublist (List.take_sublist _ _)
  refine⟨u,rv,?_⟩
  rcases S.par y (B7 hp) with k|k
  ·exact .inl ⟨k,bindL_get HB hp hu k⟩
  ·obtain⟨c,e⟩:=cell_has (n:=s.heap.objs.size+1) k
   refine .inr ⟨.inl k,c,e,?_⟩
   have q:=x.cell y c e
   rw[mI HB hp hu (by show scope.names.lookup y≠_;rw[k];decide)] at q
   exact q
 ·exact e0.hok.fresh (BN (x.above y c (PySem.mem_of_lookup h)))
 ·unfold start
  show _=N.length
  rw[AI,AH,List.length_replicate]
  lia
theorem mJ{CX:CXT}{P:Program}{w:World}{K:Ax}{mg:Str->Option Value}{base:Heap}{k:Nat}{f:Addr}{name qual:Str}{params:Arguments}{body:List Stmt}{scope:Scope}{dV kV doc pm cdv ct oc:Value}{an od:Option Addr}
  {osl:Array (Option Value)} {N ps:List Str} {sp:Sp} (lk:K.lookup f=some ⟨oc,od,.func (fnOf name qual params body scope dV kV doc pm an cdv ct),osl⟩) (f7:codeIn K cdv qual=true) (S:FnScope N ps scope)
  (len:∀ vs H Q E,sp vs H Q E->vs.length=ps.length)
  (a9:∀ (A:Around) (outer:List Env) (s:Shared) (H:Hp) (vs:List V) (Q:VK) (E:XK),Room k (A.deeper (envOfC qual scope s.heap.objs.size f cdv))->sp vs H Q E->
   ∃ t,PSs (cxOf CX P w K mg base N qual scope f cdv A outer s H E) body t/\t {nx:=λ_ H'=>Q .non H',rt:=Q} (start N vs) H):
  FnOk P w K mg base CX (k+1) f (fnOf name qual params body scope dV kV doc pm an cdv ct) ps sp:=by
 refine⟨len,λA outer s H args us vs Q E hr e0 hb r n8=>?_⟩
 have hl:=len _ _ _ _ n8
 have KX:K.In s.heap:=e0.mod.kin.keeps λb o e=>(e0.bs b o e).1
 have IT:s.heap.NoLimit:=e0.mod.nolimit.keeps λb o e=>(e0.bs b o e).1
 have D2:∀ y∈ps.zip us,scope.names.lookup y.1=some .local\/(scope.names.lookup y.1=some .cell/\((cellsFrom (s.heap.objs.size+1) scope.names []).lookup y.1).isSome=true):=λ⟨n,v⟩ hy=>by
  rcases S.par n (B4 hy).1 with q|q
  ·exact .inl q
  ·exact .inr ⟨q,cellsFrom_some _ _ _ (.inl q)⟩
 refine codeAny_call_function hr.depth (KX _ _ lk) rfl S.co S.gen rfl (codeRec_of KX f7) (hb _ _ _ _ ?_)
 refine wpAny_newFunctionEnv_cells S.kind D2 λenv he s1 x=>?_
 subst he
 refine⟨IT.keeps x.toInCall.keep,codeAny_func ?_⟩
 obtain⟨t,ht,hq⟩:=a9 A outer s H vs Q E (hr.deeper _) n8
 have I:Inv (cxOf CX P w K mg base N qual scope f cdv A outer s H E) [] (start N vs) H s1:=rC S hr.hd e0 hl r x
 refine wpAny_mono (ht [] s1 (start N vs) H _ I hq) (λfl s' hs=>?_) λe s' hs=>hs
 have d6:∀ {σ':St} {H':Hp} {v:V} {u:Value},Inv (cxOf CX P w K mg base N qual scope f cdv A outer s H E) [] σ' H' s'->RelV v u->Q v H'->CE outer P w H s Q u s':=
  λ{σ' H' v u} J rv q=>⟨v,H',J.os,J.bare,J.base,J.hok,rv,q⟩
 cases fl with
 |ret u=>
  obtain⟨v,σ',H',J,rv,q⟩:=hs
  exact d6 J rv q
 |next=>
  obtain⟨σ',H',J,q⟩:=hs
  exact d6 (v:=V.non) (u:=Value.none) J rfl q
 |brk=>
  obtain⟨_,_,_,q⟩:=hs
  exact False.elim q
 |cont=>
  obtain⟨_,_,_,q⟩:=hs
  exact False.elim q
section
variable {X:Cx}{x:Str}{p pos:Pos}{e:Expr}{es:List Expr}{t:TA}{id T:String}{r:List V->Hp->VK->Prop}
def tCB(r:List V->Hp->VK->Prop)(t:TA):TE:=λσ H Q=>t σ H λvs H1=>r vs H1 Q
theorem dW(hc:bx X (.builtin id) r)(hg:Gl X x)(hm:X.mg x=none)(hv:bootBuiltins x=some (.builtin id))(ha:PA X (e::es) t)(hn:x≠"__name__":=by decide)(c_:zND x:=by decide)
  (he:zSE X e es:=by rfl) (b9:zPL X pos es:=by rfl):PE X (.Call (.Name x p) (e::es) [] pos) (tCB r t):=by
 intro pins s σ H Q I h
 refine wpAny_Call_Name_kw (dg I hg hm hv ?_ hn c_)
 exact PyProof.Rows.callWith_builtin1 (thn (ha pos pins s σ H _ I h) λus s1 ⟨vs,H1,I1,r1,q1⟩=>hc pins s1 σ H1 vs us Q I1 r1 q1) he b9
theorem mK(hc:bx X (.type T) r)(hg:Gl X x)(hm:X.mg x=none)(hv:bootBuiltins x=some (.type T))(ha:PA X (e::es) t)(hn:x≠"__name__":=by decide)(c_:zND x:=by decide)
  (he:zSE X e es:=by rfl) (b9:zPL X pos es:=by rfl):PE X (.Call (.Name x p) (e::es) [] pos) (tCB r t):=by
 intro pins s σ H Q I h
 refine wpAny_Call_Name_kw (dg I hg hm hv ?_ hn c_)
 exact PyProof.Rows.callWith_type1 (thn (ha pos pins s σ H _ I h) λus s1 ⟨vs,H1,I1,r1,q1⟩=>hc pins s1 σ H1 vs us Q I1 r1 q1) he b9
end
end L2
namespace HT
open PySem PyProof.Rows
section
variable {prog:Program}{w:World}{A:Around}{E:Value->Shared->Prop}{s:Shared}
theorem cat_tup{t b:Addr}{vs ws:List Value}{Q:Value->Shared->Prop}(ht:IsTup s.heap t vs.toArray)(hb:IsTup s.heap b ws.toArray)(hv:vs≠[])
  (h1:ws=[]->Q (.ref t) s) (h2:ws≠[]->Q (.ref s.heap.objs.size) {s with heap:=s.heap.push {cls:= .type "tuple",data:= .seq (vs++ws).toArray} })
  (gt:vs.length+ws.length<=sizeLine):wpAny (model prog w) A (binaryOp .Add (.ref t) (.ref b)) Q E s:=by
 obtain⟨⟨cls,dd,data,sl⟩,ho,hc,n,hd⟩:=id ht
 obtain⟨⟨IU,HC,data2,HD⟩,E2,HE,n2,E3⟩:=id hb
 simp only at hc hd HE E3
 subst hc hd HE E3
 have e:vs.toArray++ws.toArray=(vs++ws).toArray:=by simp
 by_cases hw:ws=[]
 ·exact concat_meets ⟨_,ho,rfl⟩ ⟨_,E2,rfl⟩ noFill_tuple_add seq_tuple_add PySem.F.slot_tuple_add PySem.F.entry_tuple_add (PySem.F.args_tuple_add_2 _ _)
   (tuple_addW1 t b vs.toArray ws.toArray n n2 dd HC sl HD (by simpa using hv) (by simp[hw])) ⟨ho,E2,h1 hw⟩
 ·refine concat_meets ⟨_,ho,rfl⟩ ⟨_,E2,rfl⟩ noFill_tuple_add seq_tuple_add PySem.F.slot_tuple_add PySem.F.entry_tuple_add (PySem.F.args_tuple_add_2 _ _)
   (tuple_addW2 t b vs.toArray ws.toArray n n2 dd HC sl HD (by simpa using hv) (by simpa using hw) (by rw[AM,AM];exact gt)) ⟨ho,E2,?_⟩
  rw[e]
  exact h2 hw
def sIx(n d:Nat):Option Int->Nat
 |none=>d
 |some v=>if v<0 then(v+(n:Int)).toNat else min v.toNat n
end
end HT
namespace L2
open PySem PySem.Spec PyProof.Rows
abbrev TO:=St->Hp->(Option Int->Hp->Prop)->Prop
def PO(X:Cx)(e:Option Expr)(t:TO):Prop:=
 ∀ (pins:List (Addr × Obj)) (s:Shared) (σ:St) (H:Hp) (Q:Option Int->Hp->Prop),Inv X pins σ H s->t σ H Q->
  wpAny (model X.prog X.w) X.A (evalPart e X.env) (λu s'=>∃ o H',Inv X pins σ H' s'/\IsPart u o/\Q o H') X.xe s
def rD:TO:=λ_ H Q=>Q none H
def rE(t:TE):TO:=λσ H Q=>t σ H λx H1=>∃ i,x= .int i/\Q (some i) H1
section
variable {X:Cx}{e:Expr}{te:TE}{lo hi:Option Expr}{tl th:TO}{pos p2:Pos}
theorem rF:PO X none rD:=by
 intro pins s σ H Q I h
 rw[evalPart_none]
 exact wpAny_pure ⟨none,H,I,.none,h⟩
theorem rG(h:PE X e te):PO X (some e) (rE te):=by
 intro pins s σ H Q I hw
 rw[evalPart_some]
 refine thn (h pins s σ H _ I hw) λu s1 ⟨x,H1,I1,r1,q1⟩=>?_
 obtain⟨i,rfl,q⟩:=q1
 obtain⟨t,rfl⟩:=r1
 exact⟨some i,H1,I1,.int i t,q⟩
def SlR(X:Cx)(r:V->Option Int->Option Int->Hp->VK->Prop):Prop:=
 ∀ (pins:List (Addr × Obj)) (s:Shared) (σ:St) (H:Hp) (x:V) (v vl vu:Value) (lo hi:Option Int) (sl:Addr) (Q:VK),Inv X pins σ H s->RelV x v->s.heap.IsSliceOf sl vl vu .none->IsPart vl lo->IsPart vu hi->r x lo hi H Q->
  ∃ T id,typeLookup (.type T) "__getitem__"=pure (some (.builtin id))/\s.TypeIs v T/\wpAny (model X.prog X.w) X.A (getItem v (.ref sl)) (EP X pins σ Q) X.xe s
def tSl(r:V->Option Int->Option Int->Hp->VK->Prop)(te:TE)(tl th:TO):TE:=λσ H Q=>te σ H λx H1=>tl σ H1 λl H2=>th σ H2 λu H3=>r x l u H3 Q
theorem rH{r:V->Option Int->Option Int->Hp->VK->Prop}(hr:SlR X r)(he:PE X e te)(hl:PO X lo tl)(hu:PO X hi th):PE X (.Subscript e (.Slice lo hi none p2) pos) (tSl r te tl th):=by
 intro pins s σ H Q I h
 refine Subscript_ (thn (he pins s σ H _ I h) λv s1 ⟨x,H1,I1,r1,q1⟩=>?_)
 refine wpAny_Slice (thn (hl pins s1 σ H1 _ I1 q1) λvl s2 ⟨l,H2,I2,pl,q2⟩=>thn (hu pins s2 σ H2 _ I2 q2) λvu s3 ⟨u,H3,I3,pu,q3⟩=>?_)
 rw[evalPart_none]
 refine wpAny_pure ?_
 have I4:Inv X pins σ H3 {s3 with heap:=s3.heap.push {cls:= .type "slice",data:= .fields #[vl,vu,.none]} }:=I3.kept (t':=s3.toks) λb ob q=>Heap.get?_push_of_some _ q
 obtain⟨T,id,hT,ht,hg⟩:=hr pins {s3 with heap:=s3.heap.push {cls:= .type "slice",data:= .fields #[vl,vu,.none]} } σ H3 x v vl vu l u s3.heap.objs.size Q I4 r1 (Heap.IsSliceOf.new ..) pl pu q3
 show wpAny (model X.prog X.w) X.A (subscriptTail e (.Slice lo hi none p2) v (.ref s3.heap.objs.size)) (EP X pins σ Q) X.xe {s3 with heap:=s3.heap.push {cls:= .type "slice",data:= .fields #[vl,vu,.none]} }
 exact tail_any (ops:=[.ref s3.heap.objs.size,v]) ht hT hg (by with_unfolding_all rfl)
def cutV(xs:List V)(lo hi:Option Int):List V:=(xs.drop (HT.sIx xs.length 0 lo)).take (HT.sIx xs.length xs.length hi - HT.sIx xs.length 0 lo)
theorem rJ(xs:List V)(lo hi:Option Int):(cutV xs lo hi).length<=xs.length:=by
 unfold cutV
 rw[B5,B8]
 lia
def mL(K:Ax):R2:=λx y H Q=>∃ a b xs ys,x= .ref a/\y= .ref b/\SqT K H a xs/\SqT K H b ys/\xs≠[]/\xs.length+ys.length<=sizeLine/\
 (ys=[]->Q (.ref a) H)/\(ys≠[]->∀ p,H p=none->Q (.ref p) (upd H p (.tup (xs++ys))))
theorem Vals.nil_iff{xs:List V}{us:List Value}(r:Vals xs us):us=[]↔xs=[]:=by
 cases r with
 |nil=>simp
 |cons _ _=>simp
theorem rK:OpR X (binaryOp .Add) (mL X.K):=by
 intro pins s σ H x y v u Q I rx ry h
 obtain⟨a,b,xs,ys,rfl,rfl,ha,hb,hx,hz,q1,q2⟩:=h
 cases rx
 cases ry
 obtain⟨its,r1,p1,_⟩:=I.tuple ha
 obtain⟨j6,r2,p2,_⟩:=I.tuple hb
 refine HT.cat_tup p1 p2 (λz=>hx (r1.nil_iff.mp z)) (λz=>⟨.ref a,H,I,rfl,q1 (r2.nil_iff.mp z)⟩) (λz=>?_) (by rw[<- r1.length,<- r2.length];exact hz)
 refine⟨.ref s.heap.objs.size,_,I.laid (t':=s.toks) (o:= .tup (xs++ys)) (λb ob q=>Heap.get?_push_of_some _ q) (Az _) ?_,rfl,q2 (λw=>z (r2.nil_iff.mpr w)) _ (I.hok.fresh (Az _))⟩
 exact⟨by rw[AI];exact hz,_,r1.append r2,IsTup.new _ _⟩
end
def ixN(n:Nat)(i:Int):Option Nat:=if 0<=i then(if i<n then some i.toNat else none) else if -(n:Int)<=i then some (i+n).toNat else none
def atI{α:Type}(xs:List α)(i:Int):Option α:=(ixN xs.length i).bind λj=>xs[j]?
theorem rL{n:Nat}{i:Int}{j:Nat}(h:ixN n i=some j):seqIndex? i n=some j/\j<n/\-(n:Int)<=i/\i<n:=by
 unfold ixN at h
 by_cases h0:0<=i
 ·rw[if_pos h0] at h
  by_cases h1:i<n
  ·rw[if_pos h1] at h
   have e:i.toNat=j:=Option.some.inj h
   exact⟨by rw[seqIndex_of h0 h1,e],by lia,by lia,h1⟩
  ·rw[if_neg h1] at h;cases h
 ·rw[if_neg h0] at h
  by_cases h1: -(n:Int)<=i
  ·rw[if_pos h1] at h
   have e:(i+n).toNat=j:=Option.some.inj h
   exact⟨by rw[seqIndex_neg (by lia) h1,e],by lia,h1,by lia⟩
  ·rw[if_neg h1] at h;cases h
theorem atI_get{α:Type}{xs:List α}{i:Int}{v:α}(h:atI xs i=some v):∃ j,seqIndex? i xs.length=some j/\xs[j]?=some v/\j<xs.length/\-(xs.length:Int)<=i/\i<xs.length:=by
 unfold atI at h
 cases e:ixN xs.length i with
 |none=>rw[e] at h;cases h
 |some j=>
  rw[e] at h
  obtain⟨h1,h2,h3,h4⟩:=rL e
  exact⟨j,h1,h,h2,h3,h4⟩
theorem dX{α:Type}{xs:List α}{j:Nat}{v:α}(h:xs[j]?=some v):atI xs (j:Int)=some v:=by
 have hj:j<xs.length:=(AN.mp h).1
 have e:ixN xs.length (j:Int)=some j:=by
  unfold ixN
  rw[if_pos (by lia),if_pos (by lia)];simp
 unfold atI;rw[e];exact h
def dY(b:Expr):Prop:=∀ o i,subscripted b false o i=operate [o,i] (getItem o i)
def IxR(X:Cx)(r:R2):Prop:=
 ∀ (value slice:Expr) (pins:List (Addr × Obj)) (s:Shared) (σ:St) (H:Hp) (x y:V) (v u:Value) (Q:VK),Inv X pins σ H s->RelV x v->RelV y u->r x y H Q->
  subscripted slice false v u=operate [v,u] (getItem v u)->wpAny (model X.prog X.w) X.A (subscriptTail value slice v u) (EP X pins σ Q) X.xe s
def MtR(X:Cx)(id:String)(r:V->List V->Hp->VK->Prop):Prop:=
 ∀ (pins:List (Addr × Obj)) (s:Shared) (σ:St) (H:Hp) (x:V) (xs:List V) (v:Value) (us:List Value) (Q:VK),Inv X pins σ H s->RelV x v->Vals xs us->r x xs H Q->
  wpAny (model X.prog X.w) X.A (call (.builtin id) (v::us)) (EP X pins σ Q) X.xe s
section
variable {X:Cx}{a b:Expr}{ta tb:TE}{pos:Pos}
theorem IxR.or{r r':R2}(h:IxR X r)(h':IxR X r'):IxR X (λx y H Q=>r x y H Q\/r' x y H Q):=by
 intro value slice pins s σ H x y v u Q I rx ry q hs
 rcases q with q|q
 ·exact h value slice pins s σ H x y v u Q I rx ry q hs
 ·exact h' value slice pins s σ H x y v u Q I rx ry q hs
theorem pe_ix{r:R2}(hr:IxR X r)(ha:PE X a ta)(hb:PE X b tb)(hs:dY b):PE X (.Subscript a b pos) (tOp r ta tb):=by
 intro pins s σ H Q I h
 exact Subscript_ (binT ha hb I h λv u s2 x y H2 I2 rx ry q=>hr a b pins s2 σ H2 x y v u Q I2 rx ry q (hs _ _))
def rIxL(K:Ax):R2:=λx y H Q=>∃ p xs i v,x= .ref p/\y= .int i/\SqL K H p xs/\atI xs i=some v/\Q v H
def rIxT(K:Ax):R2:=λx y H Q=>∃ p xs i v,x= .ref p/\y= .int i/\SqT K H p xs/\atI xs i=some v/\Q v H
def rIxS:R2:=λx y H Q=>∃ z i c,x= .str z/\y= .int i/\z.length<=sizeLine/\atI z.cps.toList i=some c/\Q (.str ⟨#[c]⟩) H
theorem ix_list:IxR X (rIxL X.K):=by
 intro value slice pins s σ H x y v u Q I rx ry h hs
 obtain⟨p,xs,i,z,rfl,rfl,hq,he,q⟩:=h
 cases rx
 obtain⟨t,rfl⟩:=ry
 obtain⟨its,r,pl,hz⟩:=I.list hq
 obtain⟨j,h1,h2,h3,h4,h5⟩:=atI_get he
 obtain⟨w,ew,m_⟩:=r.get h2
 have hl:=r.length
 have hn:=line63
 have d6:EP X pins σ Q w s:=⟨z,H,I,m_,q⟩
 by_cases h0:0<=i
 ·have hj:i.toNat=j:=by
   rw[seqIndex_of h0 h5] at h1
   exact Option.some.inj h1
  exact item_listR pl.isList h0 (by lia) (by rw[hj];simpa using ew) d6 hs
 ·have hj:(i+(its.toArray.size:Int)).toNat=j:=by
   rw[seqIndex_neg (by lia) h4] at h1
   rw[AM,<- hl]
   exact Option.some.inj h1
  exact subscriptTail_builtinR (x:=w) pl.isList.typeIs slot_list_getitem.lookup
   (wpAny_getItem_list_neg (Q:=λr s'=>r=w/\EP X pins σ Q r s') pl.isList (by lia) (by rw[AM]<;>lia) (by lia) (by rw[hj];simpa using ew) ⟨rfl,d6⟩) hs
theorem ix_tup:IxR X (rIxT X.K):=by
 intro value slice pins s σ H x y v u Q I rx ry h hs
 obtain⟨p,xs,i,z,rfl,rfl,hq,he,q⟩:=h
 cases rx
 obtain⟨t,rfl⟩:=ry
 obtain⟨its,r,pl,hz⟩:=I.tuple hq
 obtain⟨j,h1,h2,h3,h4,h5⟩:=atI_get he
 obtain⟨w,ew,m_⟩:=r.get h2
 have hl:=r.length
 have hn:=line63
 have d6:EP X pins σ Q w s:=⟨z,H,I,m_,q⟩
 exact subscriptTail_builtinR (x:=w) pl.typeIs slot_tuple_getitem.lookup
  (getItem_tuple (j:=j) (Q:=λr s'=>r=w/\EP X pins σ Q r s') pl (by lia) (by lia) (by rw[AM,<- hl];exact h1) (by simpa using ew) ⟨rfl,d6⟩) hs
theorem rM:IxR X rIxS:=by
 intro value slice pins s σ H x y v u Q I rx ry h hs
 obtain⟨z,i,c,rfl,rfl,hz,he,q⟩:=h
 obtain⟨t,rfl⟩:=rx
 obtain⟨t',rfl⟩:=ry
 obtain⟨j,h1,h2,h3,h4,h5⟩:=atI_get he
 have hl:z.cps.toList.length=z.length:=by simp[Str.length]
 rw[hl] at h1 h4 h5
 have hn:=line63
 exact tail_any (typeIs_str s z t) slot_str_getitem.lookup (getItem_str (c:=c) (by
  have e1:decide (i< -(2 ^ 63:Int))=false:=decide_eq_false (by lia)
  have e2:decide (i >= 2 ^ 63)=false:=decide_eq_false (by lia)
  rw[e1,e2,Bool.or_false]) (by rw[h1];simpa using h2) ⟨.str ⟨#[c]⟩,H,I.tok _,⟨_,rfl⟩,q⟩) hs
def rIx(K:Ax):R2:=λx y H Q=>rIxL K x y H Q\/rIxT K x y H Q\/rIxS x y H Q
theorem mM:IxR X (rIx X.K):=ix_list.or (ix_tup.or rM)
theorem Inv.lst{pins:List (Addr × Obj)}{σ:St}{H:Hp}{s:Shared}{p:Addr}{xs:List V}(I:Inv X pins σ H s)(h:H p=some (.lst xs)):
  ∃ (its:List Value) (n:Nat),Vals xs its/\s.heap.get? p=some {cls:= .type "list",data:= .seq its.toArray n}/\xs.length<=sizeLine:=by
 obtain⟨z,its,n,r,e⟩:=I.hok p _ h
 exact⟨its,n,r,e,z⟩
theorem rN(lo hi:Option Int)(n:Nat):(sliceBounds lo hi none n).1=((HT.sIx n 0 lo:Nat):Int)/\(sliceBounds lo hi none n).2.1=((HT.sIx n n hi:Nat):Int)/\(sliceBounds lo hi none n).2.2=1:=by
 refine⟨?_,?_,rfl⟩
 ·cases lo with
  |none=>simp[sliceBounds,HT.sIx]
  |some i=>
   simp only[sliceBounds,HT.sIx,Cz,show(1:Int)>0 by decide,if_true]
   by_cases h:i<0
   ·simp only[h,if_true]<;>lia
   ·simp only[h,if_false]<;>lia
 ·cases hi with
  |none=>simp[sliceBounds,HT.sIx]
  |some i=>
   simp only[sliceBounds,HT.sIx,Cz,show(1:Int)>0 by decide,if_true]
   by_cases h:i<0
   ·simp only[h,if_true]<;>lia
   ·simp only[h,if_false]<;>lia
theorem rO(its:List Value)(lo hi:Option Int):slicePick its.toArray lo hi none=((its.drop (HT.sIx its.length 0 lo)).take (HT.sIx its.length its.length hi - HT.sIx its.length 0 lo)).toArray:=by
 obtain⟨h1,h2,h3⟩:=rN lo hi its.toArray.size
 unfold slicePick
 rw[h1,h2,h3]
 simp only[sliceRange_one,pick_run,AM]<;>rfl
def rSlL(K:Ax):V->Option Int->Option Int->Hp->VK->Prop:=λx lo hi H Q=>∃ a xs,x= .ref a/\SqL K H a xs/\∀ p,H p=none->Q (.ref p) (upd H p (.lst (cutV xs lo hi)))
theorem rP:SlR X (rSlL X.K):=by
 intro pins s σ H x v vl vu lo hi sl Q I rx hs pl pu h
 obtain⟨a,xs,rfl,hx,q⟩:=h
 cases rx
 obtain⟨its,r,ht,hz⟩:=I.list hx
 have a_:=r.length
 refine⟨"list",_,slot_list_getitem.lookup,ht.isList.typeIs,?_⟩
 refine wpAny_getItem_list_slice ht.isList hs pl pu .none (by simp) ?_ (by rw[AM]<;>lia)
 rw[rO,<- a_]
 refine⟨.ref s.heap.objs.size,_,I.laid (t':=s.toks) (o:= .lst (cutV xs lo hi)) (λb ob q=>Heap.get?_push_of_some _ q) (Az _) ?_,rfl,q _ (I.hok.fresh (Az _))⟩
 exact⟨AK (rJ xs lo hi) hz,_,0,(r.drop (HT.sIx xs.length 0 lo)).take (HT.sIx xs.length xs.length hi - HT.sIx xs.length 0 lo),Heap.get?_push_size _ rfl⟩
def bz:V->Bool
 | .non=>true
 | .bl _=>true
 | .int _=>true
 | .str _=>true
 |_=>false
def eqV:V->V->Bool
 | .non,.non=>true
 | .bl a,.bl b=>a==b
 | .bl a,.int b=>(if a then 1 else 0)==b
 | .int a,.bl b=>a==(if b then 1 else 0)
 | .int a,.int b=>a==b
 | .str a,.str b=>a==b
 |_,_=>false
theorem eqAt_V{A:Around}{s:Shared}{y x:V}{u v:Value}(ry:RelV y u)(rx:RelV x v)(fy:bz y=true)(fx:bz x=true):SeqAt.EqAt A s u v (eqV y x):=by
 cases y with
 |non=>
  cases ry
  cases x with
  |non=>cases rx;exact SeqAt.EqAt.same _
  |bl b=>cases rx;exact SeqAt.EqAt.none_bool b
  |int b=>obtain⟨t,rfl⟩:=rx;exact SeqAt.EqAt.none_int b t
  |str b=>obtain⟨t,rfl⟩:=rx;exact SeqAt.EqAt.none_str b t
  |_=>exact absurd (show false=true from fx) AG
 |bl a=>
  cases ry
  cases x with
  |non=>cases rx;exact SeqAt.EqAt.bool_none a
  |bl b=>cases rx;exact SeqAt.EqAt.bool_bool a b
  |int b=>obtain⟨t,rfl⟩:=rx;exact SeqAt.EqAt.bool_int a b t
  |str b=>obtain⟨t,rfl⟩:=rx;exact SeqAt.EqAt.bool_str a b t
  |_=>exact absurd (show false=true from fx) AG
 |int a=>
  obtain⟨t',rfl⟩:=ry
  cases x with
  |non=>cases rx;exact SeqAt.EqAt.int_none a t'
  |bl b=>cases rx;exact SeqAt.EqAt.int_bool a t' b
  |int b=>obtain⟨t,rfl⟩:=rx;exact SeqAt.EqAt.int_int a t' b t
  |str b=>obtain⟨t,rfl⟩:=rx;exact SeqAt.EqAt.int_str a t' b t
  |_=>exact absurd (show false=true from fx) AG
 |str a=>
  obtain⟨t',rfl⟩:=ry
  cases x with
  |non=>cases rx;exact SeqAt.EqAt.str_none a t'
  |bl b=>cases rx;exact SeqAt.EqAt.str_bool a t' b
  |int b=>obtain⟨t,rfl⟩:=rx;exact SeqAt.EqAt.str_int a t' b t
  |str b=>obtain⟨t,rfl⟩:=rx;exact SeqAt.EqAt.str_str a t' b t
  |_=>exact absurd (show false=true from fx) AG
 |_=>exact absurd (show false=true from fy) AG
def eqU(x:V)(u:Value):Bool:=match u with
 | .none=>eqV .non x
 | .bool b=>eqV (.bl b) x
 | .int i _=>eqV (.int i) x
 | .str z _=>eqV (.str z) x
 |_=>false
theorem mN{x y:V}{u:Value}(r:RelV y u)(f:bz y=true):eqU x u=eqV y x:=by
 cases y with
 |non=>cases r;rfl
 |bl b=>cases r;rfl
 |int i=>obtain⟨t,rfl⟩:=r;rfl
 |str z=>obtain⟨t,rfl⟩:=r;rfl
 |_=>exact absurd (show false=true from f) AG
theorem hZ{x:V}:∀ {xs:List V} {us:List Value},Vals xs us->xs.all bz=true->us.any (eqU x)=xs.any λy=>eqV y x
 |_,_,.nil,_=>rfl
 |y::xs,u::us,.cons r t,f=>by
  rw[BC,AZ] at f
  rw[Bv,Bv,mN r f.1,hZ t f.2]
theorem mem_eqAt{A:Around}{s:Shared}{x:V}{v:Value}(rx:RelV x v)(fx:bz x=true):∀ {xs:List V} {us:List Value},Vals xs us->xs.all bz=true->∀ u∈us,SeqAt.EqAt A s u v (eqU x u)
 |_,_,.nil,_=>λu hu=>by cases hu
 |y::xs,u::us,.cons r t,f=>λu' hu=>by
  rw[BC,AZ] at f
  rcases AA.mp hu with rfl|hu
  ·rw[mN r f.1];exact eqAt_V r rx f.1 fx
  ·exact mem_eqAt rx fx t f.2 u' hu
def inV(x:V)(xs:List V):Bool:=xs.any λy=>eqV y x
def rIn(K:Ax)(neg:Bool):R2:=λx y H Q=>∃ p xs,y= .ref p/\(SqL K H p xs\/SqT K H p xs)/\bz x=true/\xs.all bz=true/\Q (.bl (if neg then !inV x xs else inV x xs)) H
theorem rQ:OpR X (compareOp .NotIn) (rIn X.K true):=by
 intro pins s σ H x y v u Q I rx ry h
 obtain⟨p,xs,rfl,hq,fx,fs,q⟩:=h
 cases ry
 rcases hq with hq|hq
 ·obtain⟨its,r,pl,hz⟩:=I.list hq
  refine SeqAt.notIn_listAt (eqU x) pl.isList (λw hw=>mem_eqAt rx fx r fs w (by simpa using hw)) ⟨.bl _,H,I,rfl,?_⟩
  rw[show its.toArray.any (eqU x)=its.any (eqU x) by simp,hZ r fs]
  exact q
 ·obtain⟨its,r,pl,hz⟩:=I.tuple hq
  refine SeqAt.notIn_tupleAt (eqU x) pl (λw hw=>mem_eqAt rx fx r fs w (by simpa using hw)) ⟨.bl _,H,I,rfl,?_⟩
  rw[show its.toArray.any (eqU x)=its.any (eqU x) by simp,hZ r fs]
  exact q
theorem rR:OpR X (compareOp .NotIn) (λx y H Q=>∃ i j,x= .str i/\y= .str j/\Q (.bl (!(!(Builtin.Str.occurrences j i 0 j.length 1).isEmpty))) H):=by
 intro pins s σ H x y v u Q I rx ry h
 obtain⟨i,j,rfl,rfl,q⟩:=h
 obtain⟨t,rfl⟩:=rx
 obtain⟨t',rfl⟩:=ry
 exact notIn_str ⟨.bl _,H,I,rfl,q⟩
theorem rS:bx X (.type "list") (λxs H Q=>∃ p ys,xs=[.ref p]/\(SqL X.K H p ys\/SqT X.K H p ys)/\∀ l,H l=none->Q (.ref l) (upd H l (.lst ys))):=by
 intro pins s σ H xs us Q I r h
 obtain⟨p,ys,rfl,hq,q⟩:=h
 obtain⟨u,rfl,rx⟩:=bH r
 cases rx
 have d6:∀ (its:List Value),Vals ys its->ys.length<=sizeLine->∀ (h':Heap) (c':Nat),(∀ b o',s.heap.get? b=some o'->h'.get? b=some o')->
   h'.get? s.heap.objs.size=some {cls:= .type "list",dict:=none,data:= .seq its.toArray c',slots:=#[]}->EP X pins σ Q (.ref s.heap.objs.size) {s with heap:=h'}:=λits r' hz h' c' kp e=>
  ⟨.ref s.heap.objs.size,_,I.laid (t':=s.toks) kp (Az _) (show ObjOk X.prog X.w _ h' _ (.lst ys) from⟨hz,its,c',r',e⟩),rfl,q _ (I.hok.fresh (Az _))⟩
 rcases hq with hq|hq
 ·obtain⟨its,r',pl,hz⟩:=I.list hq
  have a_:=r'.length
  obtain⟨o,ho,hc,n,hd⟩:=pl.isList
  exact call_list_seq p (.inl rfl) ho hc hd (λh' c' kp e=>d6 its r' hz h' c' kp e) (by simp only[AM]<;>lia)
 ·obtain⟨its,r',pl,hz⟩:=I.tuple hq
  have a_:=r'.length
  obtain⟨o,ho,hc,n,hd⟩:=pl
  exact call_list_seq p (.inr rfl) ho hc hd (λh' c' kp e=>d6 its r' hz h' c' kp e) (by simp only[AM]<;>lia)
def tyV(K:Ax)(T:String)(x:V)(H:Hp):Prop:=match x with
 | .str _=>T="str"
 | .int _=>T="int"
 | .ref p=>(T="list"/\∃ xs,SqL K H p xs)\/(T="tuple"/\∃ o,K.lookup p=some o/\o.cls= .type "tuple"/\o.dict=none)\/
   (T="dict"/\((∃ a8,H p=some (.dK a8))\/∃ a8,H p=some (.dT a8)))\/(T="set"/\∃ S n,H p=some (.set S n))
 |_=>False
theorem rT{pins:List (Addr × Obj)}{σ:St}{H:Hp}{s:Shared}{T:String}{x:V}{v:Value}(I:Inv X pins σ H s)(r:RelV x v)(ty:tyV X.K T x H):
  s.TypeIs v T/\∀ a,v= .ref a->∃ ob,s.heap.get? a=some ob/\ob.dict=none:=by
 cases x with
 |str z=>
  obtain⟨t,rfl⟩:=r
  cases(show T="str" from ty)
  exact⟨typeIs_str s z t,λ_ e=>nomatch e⟩
 |int i=>
  obtain⟨t,rfl⟩:=r
  cases(show T="int" from ty)
  exact⟨typeIs_int s i t,λ_ e=>nomatch e⟩
 |ref p=>
  cases r
  rcases ty with⟨rfl,xs,hq⟩|⟨rfl,o,hk,hc,hd⟩|⟨rfl,hk⟩|⟨rfl,S,n,hk⟩
  ·obtain⟨its,_,pl,_⟩:=I.list hq
   refine⟨pl.isList.typeIs,λa e=>?_⟩
   cases e
   obtain⟨o,n,e,c,hd,_⟩:=pl
   exact⟨o,e,hd⟩
  ·refine⟨⟨o,I.kIn p o hk,hc⟩,λa e=>?_⟩
   cases e
   exact⟨o,I.kIn _ o hk,hd⟩
  ·have z:∃ o,s.heap.get? p=some o/\o.ExactDict:=by
    rcases hk with⟨a8,hk⟩|⟨a8,hk⟩
    ·obtain⟨_,_,_,_,o,_,_,e,ex,_⟩:=I.hok p _ hk
     exact⟨o,e,ex⟩
    ·obtain⟨_,_,_,_,o,_,_,e,ex,_⟩:=I.hok p _ hk
     exact⟨o,e,ex⟩
   obtain⟨o,e,ex⟩:=z
   refine⟨⟨o,e,ex.1⟩,λa e2=>?_⟩
   cases e2
   exact⟨o,e,ex.2.1⟩
  ·obtain⟨o,_,_,_,e,ex,_⟩:=I.hok p _ hk
   refine⟨⟨o,e,ex.1⟩,λa e2=>?_⟩
   cases e2
   exact⟨o,e,ex.2.1⟩
 |_=>exact False.elim ty
def tBM(K:Ax)(T:String)(r:V->List V->Hp->VK->Prop)(to:TE)(t:TA):TE:=λσ H Q=>to σ H λx H1=>tyV K T x H1/\t σ H1 λxs H2=>r x xs H2 Q
variable {o e:Expr}{es:List Expr}{to:TE}{t:TA}{name:Str}{apos cpos:Pos}{T id:String}{r:V->List V->Hp->VK->Prop}
theorem dZ(pa:PlainAttrs T)(slot:Slot T name id)(FG:typeOf (.builtin id)=pure (.type "method_descriptor"))(hm:MtR X id r)(ho:PE X o to)(ha:PA X (e::es) t)
  (b7:attributeBase o name X.env (eval o X.env)=eval o X.env:=by rfl)
  (d7:((backTo cpos (starEach (e::es) X.env)).all (λx=>!x.1) && (backToKw cpos (keywordEach [] X.env)).all (λx=>x.1.isSome)
   && decide ((e::es).length+([]:List Keyword).length+(if([]:List Keyword).isEmpty then 0 else 1)<30))=true:=by rfl)
  (c8:(apos.endLine==cpos.line)=true:=by rfl) (hs:zSE X e es:=by rfl) (k_:zPL X cpos es:=by rfl):
  PE X (.Call (.Attribute o name apos) (e::es) [] cpos) (tBM X.K T r to t):=by
 intro pins s σ H Q I h
 refine wpAny_Call_method_late b7 d7 c8 rfl (thn (ho pins s σ H _ I h) λv s1 ⟨x,H1,I1,r1,ty,q1⟩=>?_)
 obtain⟨h1,h2⟩:=rT I1 r1 ty
 refine⟨T,id,pa,slot,FG,h1,h2,?_⟩
 have hA:=ha cpos pins s1 σ H1 _ I1 q1
 rw[hs] at hA ⊢
 refine Calls.callWith_builtin (by show(false||(backTo cpos (starEach es X.env)).any (·.1))=false;rw[k_]<;>rfl) (Calls.evalArgs_plain ?_)
 exact thn hA λus s2 ⟨vs,H2,I2,r2,q2⟩=>hm pins s2 σ H2 x vs v us Q I2 r1 r2 q2
end
def MtM(X:Cx)(id:String)(r:V->List V->Hp->VK->Prop):Prop:=
 ∀ (pins:List (Addr × Obj)) (s:Shared) (σ:St) (H:Hp) (x:V) (xs:List V) (v:Value) (us:List Value) (Q:VK),Inv X pins σ H s->RelV x v->Vals xs us->r x xs H Q->
  wpAny (model X.prog X.w) X.A (call (.builtin id) (v::us)) (EP X pins σ Q) X.xe s
theorem Vals.one:∀ {x:V} {us:List Value},Vals [x] us->∃ u,us=[u]/\RelV x u
 |_,_,.cons r .nil=>⟨_,rfl,r⟩
theorem Vals.two:∀ {x y:V} {us:List Value},Vals [x,y] us->∃ u v,us=[u,v]/\RelV x u/\RelV y v
 |_,_,_,.cons r (.cons q .nil)=>⟨_,_,rfl,r,q⟩
theorem Vals.zero:∀ {us:List Value},Vals [] us->us=[]
 |_,.nil=>rfl
theorem Vals.dropLast{xs:List V}{us:List Value}(h:Vals xs us):Vals xs.dropLast us.dropLast:=by
 induction h with
 |nil=>exact .nil
 |cons r t ih=>
  cases t with
  |nil=>exact .nil
  |cons q t'=>exact .cons r ih
section
variable {X:Cx}{pins:List (Addr × Obj)}{σ:St}{H:Hp}{s:Shared}{l b:Addr}{xs ys zs:List V}
theorem Inv.lset{its its':List Value}{n:Nat}{f:Array Value->Array Value}{t':Nat}(I:Inv X pins σ H s)(hH:H l=some (.lst xs))
  (e:s.heap.get? l=some {cls:= .type "list",data:= .seq its.toArray n}) (hf:f its.toArray=its'.toArray) (hv:Vals ys its') (hz:ys.length<=sizeLine):
  Inv X pins σ (upd H l (.lst ys)) {s with heap:=s.heap.update l (Obj.mapSeq f),toks:=t'}:=by
 have q:=PySem.IsL.update e f
 rw[hf] at q
 refine I.write (x:=l) (e:=l) (by rw[hH];exact trivial) (.inl rfl) (λb' u hb hu=>(Heap.get?_update_other s.heap (Obj.mapSeq f) (Ne.symm hb)).trans hu) ⟨_,q⟩ ?_
 exact⟨hz,its',_,hv,q⟩
theorem Inv.lnew{its:List Value}{t':Nat}(I:Inv X pins σ H s)(hv:Vals ys its)(hz:ys.length<=sizeLine):
  Inv X pins σ (upd H s.heap.objs.size (.lst ys)) {s with heap:=s.heap.push {cls:= .type "list",data:= .seq its.toArray},toks:=t'}:=
 I.laid (λ_ _ q=>Heap.get?_push_of_some _ q) (Az _) ⟨hz,its,0,hv,Heap.get?_push_size _ rfl⟩
theorem Inv.fresh(I:Inv X pins σ H s):H s.heap.objs.size=none:=I.hok.fresh (Az _)
theorem Inv.lstM(I:Inv X pins σ H s)(hH:H l=some (.lst xs)):xs.length<=sizeLine/\∃ (its:List Value) (n:Nat),Vals xs its/\xs.length=its.length/\s.heap.get? l=some {cls:= .type "list",data:= .seq its.toArray n}:=by
 obtain⟨z,its,n,r,e⟩:=I.hok l _ hH
 exact⟨z,its,n,r,r.length,e⟩
theorem rV{n:Nat}(h:n<=sizeLine):Builtin.List.listTooLong n=false:=by
 unfold Builtin.List.listTooLong
 exact decide_eq_false (by lia)
end
section
variable {X:Cx}
def rW:V->List V->Hp->VK->Prop:=λx vs H Q=>∃ l xs y,x= .ref l/\vs=[y]/\H l=some (.lst xs)/\xs.length<sizeLine/\Q .non (upd H l (.lst (xs++[y])))
theorem fj:MtM X "list.append" rW:=by
 intro pins s σ H x vs v us Q I rx rv h
 obtain⟨l,xs,y,rfl,rfl,hH,hz,q⟩:=h
 cases rx
 obtain⟨u,rfl,ru⟩:=rv.one
 obtain⟨z,its,n,r,hl,e⟩:=I.lstM hH
 refine call_meets F.slot_list_append ⟨_,e,rfl⟩ F.entry_list_append (F.args_list_append_2 _ _) (PySem.list_append l its.toArray n u (by rw[AM];lia)) ⟨e,?_⟩
 refine⟨.non,_,I.lset (its':=its++[u]) hH e (by simp) (r.append (.cons ru .nil)) ?_,rfl,q⟩
 rw[AI,List.length_singleton]
 lia
def rX:V->List V->Hp->VK->Prop:=λx vs H Q=>∃ l b xs zs,x= .ref l/\vs=[.ref b]/\H l=some (.lst xs)/\H b=some (.lst zs)/\xs.length+zs.length<=sizeLine/\Q .non (upd H l (.lst (xs++zs)))
theorem As:MtM X "list.extend" rX:=by
 intro pins s σ H x vs v us Q I rx rv h
 obtain⟨l,b,xs,zs,rfl,rfl,hH,hB,hz,q⟩:=h
 cases rx
 obtain⟨u,rfl,ru⟩:=rv.one
 cases ru
 obtain⟨z,its,n,r,hl,e⟩:=I.lstM hH
 obtain⟨z2,j6,n2,r2,y8,e2⟩:=I.lstM hB
 have gt:its.toArray.size+j6.toArray.size<=sizeLine:=by rw[AM,AM];lia
 have D3:¬ (!its.toArray.isEmpty && Builtin.List.listTooLong (its.toArray.size+j6.toArray.size))=true:=by
  rw[rV gt,Bool.and_false]
  exact AG
 refine call_meets F.slot_list_extend ⟨_,e,rfl⟩ F.entry_list_extend (F.args_list_extend_2 _ _)
  (AutoSeq1.list_extend_list_list_0 l its.toArray n b j6.toArray n2 D3 (by rw[AM];lia) (by lia)) ⟨e,e2,?_⟩
 refine⟨.non,_,I.lset (its':=its++j6) hH e (by simp) (r.append r2) ?_,rfl,q⟩
 rw[AI]
 lia
def rCat:R2:=λx y H Q=>∃ l b xs zs,x= .ref l/\y= .ref b/\H l=some (.lst xs)/\H b=some (.lst zs)/\xs.length+zs.length<=sizeLine/\∀ p,H p=none->Q (.ref p) (upd H p (.lst (xs++zs)))
theorem rY:OpR X (binaryOp .Add) rCat:=by
 intro pins s σ H x y v u Q I rx ry h
 obtain⟨l,b,xs,zs,rfl,rfl,hH,hB,hz,q⟩:=h
 cases rx
 cases ry
 obtain⟨z,its,n,r,hl,e⟩:=I.lstM hH
 obtain⟨z2,j6,n2,r2,y8,e2⟩:=I.lstM hB
 refine PySem.P.add_list e e2 ?_ (by rw[AM,AM];lia)
 have ea:its.toArray++j6.toArray=(its++j6).toArray:=by simp
 rw[ea]
 exact⟨.ref _,_,I.lnew (t':=s.toks) (r.append r2) (by rw[AI];lia),rfl,q _ I.fresh⟩
end
end L2
namespace HF
open PySem PySem.W PySem.Calls PyProof.Rows
theorem rZ{P:Params}{h:Heap}:∀ (ns:List Int) (vs:List Value),WellAll P h vs (ns.map WData.int)->IntsAre vs ns:=by
 intro ns
 induction ns with
 |nil=>
  intro vs w
  rw[BD] at w
  cases w
  exact .nil
 |cons n ns ih=>
  intro vs w
  rw[AO] at w
  cases w with
  |cons a b=>
   cases a
   exact .cons _ _ (ih _ b)
theorem se{l:OpenLaw}{n:Nat}(hn:l.most=some n){P:Params}{h:Heap}{args:List WData}{C_:List Value}
  (v5:l.row.toRowW.claim.pre args=true) (FH:WellAll P h C_ args):
  ∃ a vs ns,C_=[Value.ref a]/\args=[WData.list (ns.map WData.int)]/\h.get? a=some {cls:= .type "list",data:= .seq vs.toArray}/\IntsAre vs ns/\ns.length<=n:=by
 have IV:WShape.hasAll [] args [.list .int]=true:=(pre_splitW v5).1
 have hc:l.pre.holds [] {args:=args}=true:=(pre_splitW v5).2
 obtain⟨d,r,rfl,h1,h2⟩:=hasAllW_cons IV
 obtain rfl:=hasAllW_nil h2
 obtain⟨xs,rfl,h3⟩:=hasW_list h1
 obtain⟨ns,rfl⟩:=items_int h3
 have a_:ns.length<=n:=by
  unfold OpenLaw.pre at hc
  have h4:(WTm.not (.lt (.lit (.int (n:Int))) (.len (.arg 0)))).holds [] {args:=[.list (ns.map .int)]}=true:=by
   have h4:=(holds_andW hc).1
   rw[hn] at h4
   exact h4
  have h5:=condW_of h4 (w_not (w_lt w_lit (w_len_list (w_arg rfl))))
  rw[AH] at h5
  refine CA λq=>?_
  have q':(n:Int)<((ns.length:Nat):Int):=by lia
  first
   |(rw[decide_eq_true q'] at h5;exact absurd h5 (by decide))
   |(simp at h5;lia)
 cases FH with
 |cons w1 w2=>
  cases w2
  cases w1 with
  |list ho v6=>exact⟨_,_,ns,rfl,rfl,ho,rZ ns _ v6,a_⟩
theorem sf(l:OpenLaw)(args:List WData):l.row.toRowW.claim.post args (.bool true) args=true:=
 postW_of (r:=l.row.toRowW) (X:=(true==true))
  (show WShape.has [] (.bool true) .bool=true by first|rfl|decide|simp[WShape.has,WShape.arms,WShape.armsAll])
  (show(WTm.eq .res (.lit (.bool true))).value [] {args:=args,res:=some (.bool true),after:=args}=some (.bool (true==true)) from w_eq_bool (w_res rfl) w_lit) rfl
theorem attach_call{l:OpenLaw}{n:Nat}{q:Program}{g_:List Str}{XP:(Str->Option Value)->Heap->Prop}{YP:World->Heap->Prop}{d:DefRec}
  (hn:l.most=some n) (D4:d.params.defaults=[])
  (call:∀ (w:World) (s₀ s₁:Shared) (mg mb:Str->Option Value) (fa:Addr) (o:Obj) (pm cd doc:Value) (a:Addr) (vs:List Value) (ns:List Int),
   Ground q g_ [] XP w s₀ mg mb s₁.heap->YP w s₁.heap->
   s₁.heap.get? fa=some o->o.data= .func (docDef d.name d.params d.body d.scope pm cd doc)->s₁.heap.CodeRec cd d.name->mg d.name=some (.ref fa)->
   s₁.heap.get? a=some {cls:= .type "list",data:= .seq vs.toArray}->IntsAre vs ns->ns.length<=n->s₁.gens=#[]->
   codeAny (model l.prog w) callerA (.call (.ref fa) ⟨[.ref a],[]⟩) (λr s'=>r= .ok (.ret (.bool true))/\OldK s₁.heap s'.heap/\s'.os=s₁.os/\AllBare s'.gens) s₁):
  WalkO q g_ XP YP l.row.toRowW d [] (λf vs=>PySem.call f vs):=by
 intro w s₀ s₁ mg mb G Y fa o pm cd doc dV kV ho hd f7 hD j7 hg args C_ as v5 IW Kc FH Kd
 obtain rfl:dV= .none:=Dflts.none hD D4
 obtain rfl:kV= .none:=Dflts.noKw hD
 obtain⟨a,vs,ns,rfl,rfl,De,p8,a_⟩:=se hn v5 FH
 refine enter_call (codeAny_mono (call w s₀ s₁ mg mb fa o pm cd doc a vs ns G Y ho (fd_plain hd) f7 j7 De p8 a_ hg) λr s' hq=>?_)
 obtain⟨rfl,h2,h3,h4⟩:=hq
 exact⟨.inl ⟨.bool true,.bool true,[],rfl,λ_=>rfl,.bool true,sf l _,λ_=>⟨List.Pairwise.nil,λ_ hm=>(nomatch hm)⟩⟩,h2,h3,h4⟩
end HF
namespace L2
open PySem PySem.Spec PyProof.Rows
theorem mO:∀ {vs:List Value} {ns:List Int},IntsAre vs ns->Vals (ns.map V.int) vs
 |_,_,.nil=> .nil
 |_,_,.cons n t h=> .cons ⟨t,rfl⟩ (mO h)
def Only(H:Hp):Prop:=∀ b,H b=none\/∃ o xs,H b=some (.frz o (.lst xs))
theorem si{P:Program}{w:World}{K:Ax}{mg mb:Str->Option Value}{CX:CXT}{k:Nat}{fa a:Addr}{fd:FuncData}{x:Str}{sp:Sp}{s₁:Shared}{vs:List Value}{ns:List Int}
  (KX:K.In s₁.heap) (hns:s₁.heap.Ns mainGlobals mg) (hb:s₁.heap.Ns builtinsNs mb) (IY:∀ x:Str,x≠"__name__"->mb x=bootBuiltins x) (FI:s₁.heap.NoLimit) (hg:s₁.gens=#[])
  (ha:s₁.heap.get? a=some {cls:= .type "list",data:= .seq vs.toArray}) (hi:IntsAre vs ns) (hl:ns.length<=sizeLine) (hr:Room k callerA)
  (F:∀ base:Heap,K.In base->base.Ns mainGlobals mg->FnOk P w K mg base CX k fa fd [x] sp) (D5:∀ (s:Shared) (u:Value),BindsTo s fd ⟨[u],[]⟩ [(x,u)])
  (n8:∀ H:Hp,Only H->SqL K H a (ns.map V.int)->sp [.ref a] H (λv _=>v= .bl true) λ_ _ _=>False)
  (FJ:∀ H e s',CX [] H s₁ (λ_ _ _=>False) e s'->False):
  codeAny (model P w) callerA (.call (.ref fa) ⟨[.ref a],[]⟩) (λr s'=>r= .ok (.ret (.bool true))/\OldK s₁.heap s'.heap/\s'.os=s₁.os/\AllBare s'.gens) s₁:=by
 have rv:=mO hi
 have FK:=hi.length
 -- from an D6 heap in HG E4 Ke j_ Df Kf be h_
 have D7:∀ H:Hp,Only H->SqL K H a (ns.map V.int)->HOk P w H s₁.heap->(∀ b,H b≠none->b=a)->(H a≠none->K.lookup a=none)->
   codeAny (model P w) callerA (.call (.ref fa) ⟨[.ref a],[]⟩) (λr s'=>r= .ok (.ret (.bool true))/\OldK s₁.heap s'.heap/\s'.os=s₁.os/\AllBare s'.gens) s₁:=by
  intro H hO hS hok hA hK
  have m6:∀ {b:Addr} {o:Obj},s₁.heap.get? b=some o->H b=none->(hidT s₁.heap H).get? b=some o:=λe n=>pY e n
  have D1:∀ {b:Addr} {o:Obj} {es:Array DictEntry} {ep:Nat},s₁.heap.get? b=some o->o.data= .dict es ep->H b=none:=λ{b o es ep} e d=>by
   cases q:H b with
   |none=>rfl
   |some u=>
    have e':b=a:=hA b (by rw[q];simp)
    subst e'
    rw[ha] at e;cases e
    have d':Data.seq vs.toArray _=Data.dict es ep:=d
    cases d'
  have E5:∀ {b:Addr} {m:Str->Option Value},s₁.heap.Ns b m->(hidT s₁.heap H).Ns b m:=λ{b m} ⟨o,es,ep,e,d,r⟩=>⟨o,es,ep,m6 e (D1 e d),d,r⟩
  have HH:K.In (hidT s₁.heap H):=λb o e=>m6 (KX b o e) (by
   cases q:H b with
   |none=>rfl
   |some u=>
    have e':b=a:=hA b (by rw[q];simp)
    subst e'
    rw[hK (by rw[q];simp)] at e;cases e)
  have hM:Mod K mg (hidT s₁.heap H):=⟨HH,E5 hns,⟨mb,E5 hb,IY⟩,let ⟨mc,h1,h2⟩:=FI;⟨mc,E5 h1,h2⟩⟩
  have e0:Env0 P w K mg (hidT s₁.heap H) callerA [] s₁ H:=⟨rfl,hM,λb o e=>pZ e,BQ (pX _ _),trivial,λb hb=>absurd (show b∈([]:List Addr) from hb) (by simp),hok,.of_eq hg⟩
  refine codeAny_mono ((F _ HH (E5 hns)).run callerA [] s₁ H ⟨[.ref a],[]⟩ [.ref a] [.ref a] _ _ hr e0 (D5 s₁ (.ref a)) (.cons rfl .nil) (n8 H hO hS)) λr s' h=>?_
  cases r with
  |error e=>exact(FJ H e s' h).elim
  |ok fl=>
   cases fl with
   |next=>exact False.elim h
   |brk=>exact False.elim h
   |cont=>exact False.elim h
   |ret u=>
    obtain⟨v,H',os,bare,un,FL,r',q⟩:=h
    have q':v= .bl true:=q
    subst q'
    obtain rfl:u=Value.bool true:=r'
    refine⟨rfl,OldK.of_keep λb o e=>?_,os,bare⟩
    cases q:H b with
    |none=>exact un.keep b o e q (by intro z;exact absurd (show b∈([]:List Addr) from z) (by simp)) (by simp)
    |some u=>
     rcases hO b with z|⟨ob,xs,z⟩
     ·rw[q] at z;cases z
     ·have z2:=un.frzs b ob _ z
      obtain⟨e1,_⟩:=hok b _ z
      obtain⟨e2,_⟩:=FL b _ z2
      rw[e] at e1;cases e1
      exact e2
 cases hk:K.lookup a with
 |some o=>
  -- j_ Df is one of j_ D8 own v4
  have e:=KX a o hk
  rw[ha] at e
  cases e
  refine D7 (λ_=>none) (λ_=> .inl rfl) (.inr ⟨_,vs.toArray,_,hk,rfl,rfl,rfl,by rw[AM,FK];exact hl,by simpa using rv⟩) (λb u z=>by have z':(none:Option HO)=some u:=z;cases z') (λb z=>absurd rfl z) λz=>absurd rfl z
 |none=>
  refine D7 (λb=>if b=a then some (.frz {cls:= .type "list",data:= .seq vs.toArray} (.lst (ns.map V.int))) else none) (λb=>?_) (.inl (.inr ⟨{cls:= .type "list",data:= .seq vs.toArray},if_pos rfl⟩)) (λb u z=>?_) (λb z=>?_) λ_=>hk
  ·by_cases hb:b=a
   ·exact .inr ⟨_,_,if_pos hb⟩
   ·exact .inl (if_neg hb)
  ·by_cases hb:b=a
   ·have z':=(if_pos hb).symm.trans z
    cases z'
    subst hb
    exact⟨ha,by rw[AH];exact hl,vs,_,rv,ha⟩
   ·have z':=(if_neg hb).symm.trans z
    cases z'
  ·by_cases hb:b=a
   ·exact hb
   ·exact absurd (if_neg hb) z
theorem walk_of{l:B9}{n k:Nat}{q:Program}{g_:List Str}{XP:(Str->Option Value)->Heap->Prop}{YP:World->Heap->Prop}{d:DefRec}{K:Params->Ax}{CX:World->CXT}{sp:World->Sp}{x:Str}
  (hn:l.most=some n) (u8:n<=sizeLine) (D4:d.params.defaults=[]) (hr:Room k callerA)
  (hY:∀ (w:World) (h:Heap),YP w h->(K w.params).In h)
  (F:∀ (w:World) (mg:Str->Option Value) (fa:Addr) (h:Heap),(K w.params).In h->h.Ns mainGlobals mg->mg d.name=some (.ref fa)->
   ∃ fd:FuncData,(∀ (s:Shared) (u:Value),BindsTo s fd ⟨[u],[]⟩ [(x,u)])/\
    ∀ base:Heap,(K w.params).In base->base.Ns mainGlobals mg->FnOk l.prog w (K w.params) mg base (CX w) k fa fd [x] (sp w))
  (n8:∀ (w:World) (H:Hp) (a:Addr) (ns:List Int),ns.length<=n->Only H->SqL (K w.params) H a (ns.map V.int)->sp w [.ref a] H (λv _=>v= .bl true) λ_ _ _=>False)
  (FJ:∀ (w:World) (H:Hp) (s:Shared) (e:Value) (s':Shared),CX w [] H s (λ_ _ _=>False) e s'->False):
  CB q g_ XP YP l.row.toRowW d [] (λf vs=>PySem.call f vs):=by
 refine HF.attach_call hn D4 λw s₀ s₁ mg mb fa o pm cd doc a vs ns G Y ho hd f7 j7 De p8 a_ hg=>?_
 have KX:=hY w _ Y
 obtain⟨fd,hb,hF⟩:=F w mg fa _ KX G.T.g j7
 exact si KX G.T.g G.T.b G.T.builtins G.T.nolimit hg De p8 (AK a_ u8) hr hF hb (λH hO hS=>n8 w H a ns a_ hO hS) λH e s'=>FJ w H s₁ e s'
def aZ(s:Stmt)(j:Nat):Stmt:=match s with
 | .ClassDef _ _ _ body _ _ _ _ _ _ _=>body.getD j (.Pass ⟨0,0,0,0⟩)
 |_=> .Pass ⟨0,0,0,0⟩
def bo(s:Stmt):Arguments:=match s with
 | .FunctionDef _ a _ _ _ _ _ _ _ _=>a
 |_=>{posonlyargs:=[],args:=[],vararg:=none,kwonlyargs:=[],kw_defaults:=[],kwarg:=none,defaults:=[]}
def aJ(s:Stmt):List Stmt:=match s with
 | .FunctionDef _ _ b _ _ _ _ _ _ _=>b
 |_=>[]
def ag(s:Stmt):Scope:=match s with
 | .FunctionDef _ _ _ _ _ _ sc _ _ _=>sc
 |_=>{kind:= .function,names:=[],isGenerator:=false,isCoroutine:=false}
abbrev CX0:CXT:=λ_ _ _ _ _ _=>False
abbrev E0:XK:=λ_ _ _=>False
structure Fun(K:Ax)(x qual:Str)(st:Stmt)(f:Addr)(fd:FuncData):Prop where
 ex:∃ (oc:Value) (od:Option Addr) (kV doc pm:Value) (an:Option Addr) (cdv ct:Value) (osl:Array (Option Value)),
  fd=fnOf x qual (bo st) (aJ st) (ag st) .none kV doc pm an cdv ct/\K.lookup f=some ⟨oc,od,.func fd,osl⟩/\codeIn K cdv qual=true
 kp:keepIn K (.ref f)=true
section
variable {P:Program}{w:World}{K:Ax}{mg:Str->Option Value}{base:Heap}
theorem Fun.ok{x qual:Str}{st:Stmt}{f:Addr}{fd:FuncData}{N ps:List Str}{k:Nat}{sp:Sp}(F:Fun K x qual st f fd)(S:FnScope N ps (ag st))(len:∀ vs H Q E,sp vs H Q E->vs.length=ps.length)
  (a9:∀ (cdv:Value) (A:Around) (outer:List Env) (s:Shared) (H:Hp) (vs:List V) (Q:VK) (E:XK),Room k (A.deeper (envOfC qual (ag st) s.heap.objs.size f cdv))->sp vs H Q E->
   ∃ t,PSs (cxOf CX0 P w K mg base N qual (ag st) f cdv A outer s H E).nox (aJ st) t/\t {nx:=λ_ H'=>Q .non H',rt:=Q} (start N vs) H):FnOk P w K mg base CX0 (k+1) f fd ps sp:=by
 obtain⟨oc,od,kV,doc,pm,an,cdv,ct,osl,rfl,lk,f7⟩:=F.ex
 refine mJ lk f7 S len λA outer s H vs Q E hr n8=>?_
 obtain⟨t,h,q⟩:=a9 cdv A outer s H vs Q E hr n8
 exact⟨t,h.nox,q⟩
theorem Fun.binds{x qual:Str}{st:Stmt}{f:Addr}{fd:FuncData}{ps:List Str}(F:Fun K x qual st f fd)
  (h:∀ (kV doc pm:Value) (an:Option Addr) (cdv ct:Value) (us:List Value),us.length=ps.length->bindArgs (fnOf x qual (bo st) (aJ st) (ag st) .none kV doc pm an cdv ct) ⟨us,[]⟩=pure (ps.zip us)):Binds K fd ps []:=by
 obtain⟨oc,od,kV,doc,pm,an,cdv,ct,osl,rfl,lk,f7⟩:=F.ex
 exact .all (h kV doc pm an cdv ct)
theorem fk{x qual:Str}{st:Stmt}{f:Addr}{oc:Value}{od an:Option Addr}{osl:Array (Option Value)}{kV doc pm cdv ct:Value}(l:K.lookup f=some ⟨oc,od,.func (fnOf x qual (bo st) (aJ st) (ag st) .none kV doc pm an cdv ct),osl⟩)
  (c:codeIn K cdv qual=true) (k:keepIn K (.ref f)=true):Fun K x qual st f (fnOf x qual (bo st) (aJ st) (ag st) .none kV doc pm an cdv ct):=⟨⟨oc,od,kV,doc,pm,an,cdv,ct,osl,rfl,l,c⟩,k⟩
end
theorem sj{A:Around}{k:Nat}(hr:Room k A):A.units+1<cLine:=CC (Nat.add_le_add_left (by decide:1<=64) _) hr.units
theorem sk{n:Nat}(h:n<=1000):n<sizeLine:=CC h (by decide)
theorem iteF{A B:Prop}(h:B):if false=true then A else B:=by
 rw[if_neg AG]
 exact h
theorem ite2{c A B:Prop}[Decidable c](h1:c->A)(h2:¬ c->B):if c then A else B:=by
 by_cases h:c
 ·rw[if_pos h]
  exact h1 h
 ·rw[if_neg h]
  exact h2 h
theorem ia{c A B:Prop}[Decidable c](hc:c)(h:B):if(!decide c)=true then A else B:=by
 rw[decide_eq_true hc]
 exact iteF h
def Same(H H':Hp):Prop:=∀ b o,H b=some o->H' b=some o
theorem Same.refl(H:Hp):Same H H:=λ_ _ h=>h
theorem Same.trans{H H1 H2:Hp}(a:Same H H1)(b:Same H1 H2):Same H H2:=λc o h=>b c o (a c o h)
theorem Same.free{H H':Hp}(e:Same H H'){l:Addr}(h:H' l=Option.none):H l=Option.none:=by
 cases q:H l with
 |none=>rfl
 |some o=>
  rw[e l o q] at h
  cases h
theorem Same.seq{K:Ax}{H H':Hp}{a:Addr}{xs:List V}(e:Same H H')(h:SqL K H a xs):SqL K H' a xs:=by
 rcases h with(h|⟨o,h⟩)|h
 ·exact .inl (.inl (e _ _ h))
 ·exact .inl (.inr ⟨o,e _ _ h⟩)
 ·exact .inr h
section
variable {κ:Type}[DecidableEq κ]
def valV(a8:List (κ × V))(k:κ):Option V:=(a8.find? λkv=>decide (kv.1=k)).map (·.2)
def putK(a8:List (κ × V))(k:κ)(v:V):List (κ × V):=
 if(a8.any λkv=>decide (kv.1=k))=true then a8.map (λkv=>if kv.1=k then(kv.1,v) else kv) else a8++[(k,v)]
theorem ib{p:κ × V}{r:List (κ × V)}{k:κ}(e:p.1=k):valV (p::r) k=some p.2:=by simp[valV,Bw,e]
theorem ic{p:κ × V}{r:List (κ × V)}{k:κ}(e:¬ p.1=k):valV (p::r) k=valV r k:=by simp[valV,Bw,e]
theorem RelO.getD{o:Option V}{u:Option Value}{d:V}{d':Value}(r:RelO o u)(rd:RelV d d'):RelV (o.getD d) (u.getD d'):=by
 cases o with
 |none=>cases u with
  |none=>exact rd
  |some _=>exact(show False from r).elim
 |some _=>cases u with
  |none=>exact(show False from r).elim
  |some _=>exact r
theorem KV.val{a8:List (κ × V)}{vs:List (κ × Value)}(r:KV a8 vs)(k:κ):RelO (valV a8 k) (valueAt vs k):=by
 unfold KV at r
 induction r with
 |nil=>exact True.intro
 |@cons p q ps qs h t ih=>
  obtain⟨h1,h2⟩:=h
  by_cases e:p.1=k
  ·have e':q.1=k:=h1.symm.trans e
   have b:valueAt (q::qs) k=some q.2:=by simp[valueAt,Bw,e']
   rw[ib e,b];exact h2
  ·have e':¬ q.1=k:=λz=>e (h1.trans z)
   have b:valueAt (q::qs) k=valueAt qs k:=by simp[valueAt,Bw,e']
   rw[ic e,b];exact ih
theorem KV.any{a8:List (κ × V)}{vs:List (κ × Value)}(r:KV a8 vs)(k:κ):(a8.any λkv=>decide (kv.1=k))=vs.any λkv=>decide (kv.1=k):=by
 unfold KV at r
 induction r with
 |nil=>rfl
 |cons h t ih=>rw[Bv,Bv,ih,h.1]
theorem KV.keys{a8:List (κ × V)}{vs:List (κ × Value)}(r:KV a8 vs):a8.map (·.1)=vs.map (·.1):=by
 unfold KV at r
 induction r with
 |nil=>rfl
 |cons h t ih=>rw[AO,AO,ih,h.1]
theorem KV.length{a8:List (κ × V)}{vs:List (κ × Value)}(r:KV a8 vs):a8.length=vs.length:=Paired.length r
end
theorem so{P:Program}{w:World}{k:Key}{u:Value}(r:RelV (kV k) u):(bG P w).is k u=true:=by
 cases k with
 |inl i=>obtain⟨t,e⟩:=(show ∃ t,u=Value.int i t from r);subst e;exact mixKind_int P w i t
 |inr x=>obtain⟨t,e⟩:=(show ∃ t,u=Value.str x t from r);subst e;exact pV P w x t
theorem mQ{P:Program}{w:World}:∀ {ks:List Key} {us:List Value},Vals (ks.map kV) us->ItemsAre (bG P w) ks us
 |[],_,r=>by rw[BD] at r;cases r;exact .nil
 |k::ks,_,r=>by
  rw[AO] at r
  cases r with
  |cons h t=>exact .cons (so h) (mQ t)
abbrev KT(H:Hp):List (List Key × V)->List (List Key × Addr × Value)->Prop:=Paired λp q=>p.1=q.1/\H q.2.1=some (.tup (p.1.map kV))/\RelV p.2 q.2.2
theorem KT.val{H:Hp}{a8:List (List Key × V)}{xs:List (List Key × Addr × Value)}(r:KT H a8 xs)(k:List Key):RelO (valV a8 k) ((atKey xs k).map (·.2)):=by
 induction r with
 |nil=>exact True.intro
 |@cons p q ps qs h t ih=>
  obtain⟨h1,_,h2⟩:=h
  by_cases e:p.1=k
  ·have e':q.1=k:=h1.symm.trans e
   have b:atKey (q::qs) k=some q.2:=by simp[atKey,Bw,e']
   rw[ib e,b];exact h2
  ·have e':¬ q.1=k:=λz=>e (h1.trans z)
   have b:atKey (q::qs) k=atKey qs k:=by simp[atKey,Bw,e']
   rw[ic e,b];exact ih
theorem KT.keeps{H H':Hp}{a8:List (List Key × V)}{xs:List (List Key × Addr × Value)}(r:KT H a8 xs)(ht:∀ b ys,H b=some (.tup ys)->H' b=some (.tup ys)):KT H' a8 xs:=
 Paired.mapP r λ_ _ z=>⟨z.1,ht _ _ z.2.1,z.2.2⟩
section
variable {P:Program}{w:World}{H:Hp}{h:Heap}{a:Addr}
theorem sq{u:HO}(ok:HOk P w H h)(e:Rd H a u):ObjOk P w H h a u:=e.ok ok
theorem key_of{ks:List Key}(ok:HOk P w H h)(e:H a=some (.tup (ks.map kV))):(tupleKind (bG P w)).is h ks a:=by
 obtain⟨_,its,r,o,h1,h2,n,h3⟩:=(show ObjOk P w H h a (.tup (ks.map kV)) from ok a _ e)
 exact⟨o,its.toArray,n,h1,h2,h3,by simpa using mQ r⟩
theorem sr{a8:List (List Key × V)}(ok:HOk P w H h)(e:Rd H a (.dT a8)):a8.length<=sizeLine/\(a==sysModules)=false/\
  ∃ xs,KT H a8 xs/\h.DictOfH (tupleKind (bG P w)) a xs:=by
 obtain⟨z,y,xs,r,o,es,ep,h1,h2,h3,h4,h5⟩:=(show ObjOk P w H h a (.dT a8) from sq ok e)
 refine⟨z,y,xs,r,o,es,ep,h1,h2,h3,h4,λx hx=>?_,h5⟩
 have all:∀ {l:List (List Key × V)} {m:List (List Key × Addr × Value)},KT H l m->∀ x∈m,(tupleKind (bG P w)).is h x.1 x.2.1:=by
  intro l m q
  induction q with
  |nil=>intro x hx;exact nomatch hx
  |@cons p q ps qs hq t ih=>
   intro x hx
   rcases AA.mp hx with e|hx
   ·subst e
    exact key_of ok (by rw[<- hq.1];exact hq.2.1)
   ·exact ih x hx
 exact all r x hx
theorem ss{a8:List (List Key × V)}(ok:HOk P w H h)(e:H a=some (.dT a8)):a8.length<=sizeLine/\(a==sysModules)=false/\
  ∃ xs,KT H a8 xs/\h.DictOfH (tupleKind (bG P w)) a xs:=sr ok (.inl e)
end
def DGet(H:Hp)(a:Addr)(y:V)(r:Option V):Prop:=
 (∃ a8 k,Rd H a (.dK a8)/\y=kV k/\r=valV a8 k)\/∃ a8 k b,Rd H a (.dT a8)/\y= .ref b/\H b=some (.tup (k.map kV))/\r=valV a8 k
def DPut(H:Hp)(a:Addr)(y v:V)(H':Hp):Prop:=
 (∃ a8 k,H a=some (.dK a8)/\y=kV k/\a8.length<sizeLine/\H'=upd H a (.dK (putK a8 k v)))\/
 ∃ a8 k b,H a=some (.dT a8)/\y= .ref b/\H b=some (.tup (k.map kV))/\a8.length<sizeLine/\H'=upd H a (.dT (putK a8 k v))
theorem DGet.k{H:Hp}{a:Addr}{a8:List (Key × V)}{k:Key}(e:H a=some (.dK a8)):DGet H a (kV k) (valV a8 k):= .inl ⟨a8,k,.inl e,rfl,rfl⟩
theorem DGet.t{H:Hp}{a b:Addr}{a8:List (List Key × V)}{k:List Key}(e:H a=some (.dT a8))(eb:H b=some (.tup (k.map kV))):DGet H a (.ref b) (valV a8 k):= .inr ⟨a8,k,b,.inl e,rfl,eb,rfl⟩
theorem DPut.k{H:Hp}{a:Addr}{a8:List (Key × V)}{k:Key}{v:V}(e:H a=some (.dK a8))(hl:a8.length<sizeLine):DPut H a (kV k) v (upd H a (.dK (putK a8 k v))):= .inl ⟨a8,k,e,rfl,hl,rfl⟩
theorem DPut.t{H:Hp}{a b:Addr}{a8:List (List Key × V)}{k:List Key}{v:V}(e:H a=some (.dT a8))(eb:H b=some (.tup (k.map kV)))(hl:a8.length<sizeLine):
  DPut H a (.ref b) v (upd H a (.dT (putK a8 k v))):= .inr ⟨a8,k,b,e,rfl,eb,hl,rfl⟩
section
variable {X:Cx}{pins:List (Addr × Obj)}{σ:St}{H:Hp}{s:Shared}{a:Addr}{y v:V}{u r:Value}{o:Option V}{A:Around}{E:Value->Shared->Prop}
theorem Inv.big(I:Inv X pins σ H s):sysModules<s.heap.objs.size:=by
 have h:mainGlobals<s.heap.objs.size:=(I.mod.glob.keeps I.bk).lt
 exact CD (by decide) h
theorem su{h':Heap}{t':Nat}{ob:HO}(I:Inv X pins σ H s)(mu:Mut (H a))(hs:Heap.SameBut a s.heap h')(he:∃ q,h'.get? a=some q)(new:ObjOk X.prog X.w (upd H a ob) h' a ob):
  Inv X pins σ (upd H a ob) {s with heap:=h',toks:=t'}:=
 I.write (x:=a) (e:=a) mu (.inl rfl) (λb q hb z=>(hs.2 b hb).trans z) he new
end
theorem sv{P:Program}{w:World}{H:Hp}(h:Heap)(hb:sysModules<h.objs.size):ObjOk P w H (h.push {cls:= .type "dict",data:= .dict #[]}) h.objs.size (.dT []):=
 ⟨AY _,beq_eq_false_iff_ne.mpr (Ne.symm (AF hb)),[],.nil,_,#[],0,Heap.get?_push_size _ rfl,⟨rfl,rfl,rfl⟩,rfl,rfl,CF⟩
def sy:TE:=λ_ H Q=>∀ p,H p=none->Q (.ref p) (upd H p (.dT []))
section
variable {X:Cx}{pos:Pos}
theorem pe_dnewT:PE X (.Dict [] [] pos) sy:=λpins s σ H Q I h=>
 wpAny_Dict_empty ⟨.ref s.heap.objs.size,_,I.laid (a:=s.heap.objs.size) (o:= .dT []) (t':=s.toks) (λ_ _ q=>Heap.get?_push_of_some _ q) (Az _) (sv s.heap I.big),rfl,h _ (I.hok.fresh (Az _))⟩
end
structure M1(X:Cx)(o:Expr)(m:Str)(apos:Pos)(e:Expr)(cpos:Pos):Prop where
 base:attributeBase o m X.env (eval o X.env)=eval o X.env
 few:((backTo cpos (starEach [e] X.env)).all (λx=>!x.1) && (backToKw cpos (keywordEach [] X.env)).all (λx=>x.1.isSome)
  && decide (([e]:List Expr).length+([]:List Keyword).length+(if([]:List Keyword).isEmpty then 0 else 1)<30))=true
 line:(apos.endLine==cpos.line)=true
 trees:backTo cpos (starEach [e] X.env)=[(false,eval e X.env)]
structure M2(X:Cx)(o:Expr)(m:Str)(apos:Pos)(e f:Expr)(cpos:Pos):Prop where
 base:attributeBase o m X.env (eval o X.env)=eval o X.env
 few:((backTo cpos (starEach [e,f] X.env)).all (λx=>!x.1) && (backToKw cpos (keywordEach [] X.env)).all (λx=>x.1.isSome)
  && decide (([e,f]:List Expr).length+([]:List Keyword).length+(if([]:List Keyword).isEmpty then 0 else 1)<30))=true
 line:(apos.endLine==cpos.line)=true
 trees:backTo cpos (starEach [e,f] X.env)=[(false,eval e X.env),(false,eval f X.env)]
end L2
end
section
open PySem PySem.Spec PyProof.Rows L2
namespace Exc
open PySem PySem.Spec PyProof.Rows PySem.W L2
def aL:List Value->Bool
 | .ref _::r=>aL r
 |l=>l==[.type "ValueError",.type "Exception",.type "BaseException",.type "object"]
theorem mR(self:Value):∀ {l:List Value},aL l=true->refuseLoop self "__setattr__" l=pure ()
 | .ref c::r,e=>by rw[refuseLoop_ref];exact mR self (by unfold aL at e;exact e)
 |[],e=>by simp[aL] at e
 | .type n::r,e=>by
  have e':(Value.type n::r)=[.type "ValueError",.type "Exception",.type "BaseException",.type "object"]:=by simpa[aL] using e
  rw[e']
  exact PySem.F.store_ValueError.passes self
 | .none::r,e=>by simp[aL] at e
 | .bool _::r,e=>by simp[aL] at e
 | .int _ _::r,e=>by simp[aL] at e
 | .float _ _::r,e=>by simp[aL] at e
 | .str _ _::r,e=>by simp[aL] at e
 | .bytes _ _::r,e=>by simp[aL] at e
 | .builtin _::r,e=>by simp[aL] at e
theorem fo{T:String}(hT:[Value.type "ValueError",.type "Exception",.type "BaseException",.type "object"].contains (.type T)=true):∀ {l:List Value},aL l=true->l.contains (.type T)=true
 | .ref c::r,e=>by rw[Ca,fo hT (l:=r) (by unfold aL at e;exact e),BR]
 |[],e=>by simp[aL] at e
 | .type n::r,e=>by
  have e':(Value.type n::r)=[.type "ValueError",.type "Exception",.type "BaseException",.type "object"]:=by simpa[aL] using e
  rw[e'];exact hT
 | .none::r,e=>by simp[aL] at e
 | .bool _::r,e=>by simp[aL] at e
 | .int _ _::r,e=>by simp[aL] at e
 | .float _ _::r,e=>by simp[aL] at e
 | .str _ _::r,e=>by simp[aL] at e
 | .bytes _ _::r,e=>by simp[aL] at e
 | .builtin _::r,e=>by simp[aL] at e
section
variable {prog:Program}{w:World}{A:Around}{E:Value->Shared->Prop}{s:Shared}{K:Ax}{x C:Addr}{ox:Obj}{cd:ClassData}{name:Str}{v:Value}{vs:Array Value}
theorem sA{Q:Unit->Shared->Prop}(X:K.In s.heap)(hx:s.heap.get? x=some ox)(i6:ox.cls= .ref C)(Dg:ox.data= .fields vs)(hd:ox.dict=none)(hc:clsIn K C=some cd)(hm:aL cd.mro=true)(hh:cd.hasDict=true)
  (hs:findIn K (.ref C) "__setattr__"=some (some (.builtin "object.__setattr__"))) (hf:findIn K (.ref C) name=some none)
  (h:∀ h',h'.get? x=some {ox with dict:=some s.heap.objs.size}->h'.Ns1 s.heap.objs.size (λy=>if y=name then some v else none)->(∀ b o,b≠x->s.heap.get? b=some o->h'.get? b=some o)->∀ tk,Q () {s with heap:=h',toks:=tk}):
  wpAny (model prog w) A (setAttr (.ref x) name v) Q E s:=by
 have hn:notCls ox=true:=by unfold notCls;rw[Dg]
 have I:InstAt s.heap x ox C none:=⟨hx,i6,hn,by rw[hd];trivial⟩
 refine set_plain X I hs ?_
 have SF:=PySem.F.store_object
 have ne:cd.mro.isEmpty=false:=by cases q:cd.mro with|nil=>rw[q] at hm;simp[aL] at hm|cons _ _=>rfl
 have sub:Looks (model prog w) s.heap (isInstance (.ref x) (.type "object")) true:=I.type.andThen (looks_mroIn X (by unfold mroIn;rw[hc,Cb,if_neg (by rw[ne];decide),fo (by decide+kernel) hm]))
 refine codeAny_call_builtin SF.slot.plain SF.entry (@check_slot (model prog w) _ _ _ "object.__setattr__" "object" "__setattr__" (.ref x) [.str name s.toks,v] [] _ SF.kind SF.split sub (SF.args (.ref x) (.str name s.toks) v) ?_)
 have FM:Looks (model prog w) s.heap (mroOf (.ref C)) cd.mro:=(looks_clsIn X hc).andThen .now
 rw[osa_eq,refuse_eq]
 refine wpAny_bind (wpAny_bind (I.type.here (s:={s with toks:=s.toks+1}) (wpAny_bind (FM.here (s:={s with toks:=s.toks+1}) ?_))))
 rw[mR _ hm]
 refine wpAny_pure (wpAny_bind (I.type.here (s:={s with toks:=s.toks+1}) (wpAny_bind ((looks_findIn X hf).here (s:={s with toks:=s.toks+1}) (wpAny_bind (Looks.now.here (s:={s with toks:=s.toks+1}) ?_))))))
 obtain⟨oc,IZ,I_,osl⟩:=ox
 dsimp only at i6 hd Dg
 subst i6 hd Dg
 refine wpAny_bind (wpAny_pure (wpAny_bind (wpAny_bind (wpAny_loadPart hx (wpAny_bind ((looks_clsIn X hc).here (s:={s with toks:=s.toks+1}) ?_))))))
 rw[hh]
 rw[if_neg (by decide)]
 have hx₁:(s.heap.push {cls:= .type "dict",data:= .dict #[]}).get? x=some ⟨.ref C,none,.fields vs,osl⟩:=Heap.get?_push_of_some _ hx
 have HI:x≠s.heap.objs.size:=AF (Heap.lt_size hx)
 show wpAny _ _ (do
  let d <- alloc {cls:=Value.type "dict",data:=Data.dict #[]}
  update x λo=>{cls:=o.cls,dict:=some d,data:=o.data,slots:=o.slots}
  dictMade (.ref C) x d) _ _ _
 refine wpAny_bind (wpAny_alloc' ?_)
 refine wpAny_bind (wpAny_update' hx₁ ?_)
 refine wpAny_pure ?_
 have Ja:((s.heap.push {cls:= .type "dict",data:= .dict #[]}).update x λo=>{cls:=o.cls,dict:=some s.heap.objs.size,data:=o.data,slots:=o.slots}).get? s.heap.objs.size
   =some {cls:= .type "dict",data:= .dict #[]}:=
  (Heap.get?_update_ne _ _ _ _ HI.symm).trans (Heap.get?_push_at rfl rfl)
 have Jb:((s.heap.push {cls:= .type "dict",data:= .dict #[]}).update x λo=>{cls:=o.cls,dict:=some s.heap.objs.size,data:=o.data,slots:=o.slots}).Ns s.heap.objs.size (λ_=>none):=
  ⟨_,#[],_,Ja,rfl,λe he=>absurd he (by simp),λ_=>rfl⟩
 show wpAny _ _ (Builtin.ObjectAttr.storeInDict s.heap.objs.size (.str name s.toks) name v) _ _ _
 unfold Builtin.ObjectAttr.storeInDict Builtin.ObjectAttr.newKeyGuard
 refine wpAny_bind (wpAny_pure (wpAny_bind (wpAny_nsSet1 (Heap.Ns1.of_empty Jb) λh' ge hs=>?_)))
 obtain⟨oD,IP,IQ,FC,FD,FE⟩:=ge.count (Within.cons name v Within.nil)
 refine wpAny_bind (wpAny_lookBehind FC (by rw[FD];exact pastItsLine_dict (AK FE (by rw[AB,BE,sizeLine_eq];lia))) ?_)
 refine wpAny_pure (h h' ?_ ge (λb o hb q=>?_) _)
 ·exact(hs.2 x HI).trans (Heap.get?_update_self _ hx₁ rfl)
 ·exact(hs.2 b (AF (Heap.lt_size q))).trans ((Heap.get?_update_ne _ _ _ _ hb).trans (Heap.get?_push_of_some _ q))
theorem sB{Q:Value->Shared->Prop}{rest:List Value}{t0:Addr}{a1 a2 a3 a4 a5:Value}(X:K.In s.heap)(hx:s.heap.get? x=some ox)(i6:ox.cls= .ref C)(Dg:ox.data= .fields #[.ref t0,a1,a2,a3,a4,a5])(hc:clsIn K C=some cd)(hm:aL cd.mro=true)(hl:rest.length<=sizeLine)
  (h:∀ h',h'.get? x=some {ox with data:= .fields #[.ref s.heap.objs.size,a1,a2,a3,a4,a5]}->(∀ b o,b≠x->s.heap.get? b=some o->h'.get? b=some o)->Q .none {s with heap:=h'}):
  wpAny (model prog w) A (call (.builtin "ValueError.__init__") (.ref x::rest)) Q E s:=by
 have F:=PySem.F.excBase_ValueError
 have hn:notCls ox=true:=by unfold notCls;rw[Dg]
 have ht:Looks (model prog w) s.heap (typeOf (.ref x)) (.ref C):=i6 ▸ (Looks.ld hx).andThen .now
 have ne:cd.mro.isEmpty=false:=by cases q:cd.mro with|nil=>rw[q] at hm;simp[aL] at hm|cons _ _=>rfl
 have sub:Looks (model prog w) s.heap (isInstance (.ref x) (.type "ValueError")) true:=ht.andThen (looks_mroIn X (by unfold mroIn;rw[hc,Cb,if_neg (by rw[ne];decide),fo (by decide+kernel) hm]))
 have Jc:∀ {Q:Unit->Shared->Prop} {E:Value->Shared->Prop} {A:Around},Q () s->wpAny (model prog w) A (checkBuiltinCall "ValueError.__init__" ⟨.ref x::rest,[]⟩) Q E s:=λ{Q E A} hq=>by
  have FN:=F.noStar
  simp only[checkBuiltinCall,F.initKind,F.initSplit,F.initRow]
  refine wpAny_bind (sub.here ?_)
  obtain⟨hp,g,d,t,os⟩:=s
  have Lc:=looks_clsIn (M:=model prog w) X hc
  repeat(first|(with_reducible refine wpAny_loadPart_at hx ?_;rw[i6])|(with_reducible refine Lc.here ?_)|wp_step)
  refine wpAny_onRaise ?_
  rw[show ∀ (a b:String) (n:Nat),Bind.check ⟨.positional,"*","ValueError",.self,[⟨"args",.varPos,false⟩]⟩ a b n (Cd (λx=>x.fst) ({pos:=Value.ref x::rest}:Args).kw)=pure () from
   λa b n=>check_star_args _ _ _ _ _ _]
  exact wpAny_pure hq
 refine wpAny_call (codeAny_call_builtin F.init.plain F.initEntry (Jc ?_))
 obtain⟨hp,g,d,t,os⟩:=s
 obtain⟨oc,IZ,I_,osl⟩:=ox
 dsimp only at i6 Dg hx h
 subst i6 Dg
 wp_walk
 have hx₁:=Heap.get?_push_of_some {cls:=Value.type "tuple",data:=Data.seq rest.toArray} hx
 refine h _ ?_ (λb o hb q=>?_)
 ·rw[Heap.get?_update_self _ hx₁ rfl];rfl
 ·rw[Heap.get?_update_other _ _ (Ne.symm hb)]
  exact Heap.get?_push_of_some _ q
end
abbrev veLine:List Value:=[.type "ValueError",.type "Exception",.type "BaseException",.type "object"]
section
variable {prog:Program}{w:World}{A:Around}{E:Value->Shared->Prop}{h:Heap}{g:Array GenState}{d:Drawn}{t:Nat}{os:OsState}{K:Ax}
variable {nm q:Str}{C N fI:Addr}{bs bm:List Value}{hdct:Bool}{sn:List Str}{sub:List Value}{ab:Bool}{col:Option Bool}{dd:Option Addr}{k0 k1 k2 k3 k5:Option Value}{rest:List Value}
theorem sC{Q:Fin->Shared->Prop}(X:K.In h)(T:OwnTail h veLine bm)(hC:h.get? C=some (excClassObj nm q C N bs bm hdct sn sub ab col dd k0 k1 k2 k3 k5 "ValueError.__new__"))
  (hi:findIn K (.ref C) "__init__"=some (some (.ref fI))) (hf:typeIn K (.ref fI)=some (.type "function"))
  (hq:∀ h' e,Heap.MadeExcOf h h' e (.ref C) rest->wpAny (model prog w) A (call (.ref fI) (.ref e::rest)) (λr s'=>r= .none/\Q (.done (.ret (.ref e))) s') E ⟨h',g,d,t,os⟩) (hl:rest.length<=sizeLine):
  wpAny (model prog w) A (Builtin.«type.__call__» ⟨.ref C::rest,[]⟩) Q E ⟨h,g,d,t,os⟩:=by
 have F:=PySem.F.excBase_ValueError
 repeat(first|(with_reducible refine wpAny_loadPart_at hC ?_)|(with_reducible refine wpAny_madeBy_exc hC ?_)|wp_step)
 refine codeAny_call_builtin_code (Code.quiet_builtin _ F.quiet) (wpAny_check_new_subT F T hC (codeAny_exc_new_subT F T hC ?_ hl))
 have kp:∀ b o,h.get? b=some o->((h.push {cls:= .type "tuple",data:= .seq rest.toArray}).push {cls:= .ref C,data:= .fields #[.ref h.objs.size,.none,.none,.none,.bool false,.none]}).get? b=some o:=λb o e=>Heap.get?_push_of_some _ (Heap.get?_push_of_some _ e)
 have Jd:=kp _ _ hC
 have X1:K.In _:=X.keeps kp
 have he:((h.push {cls:= .type "tuple",data:= .seq rest.toArray}).push {cls:= .ref C,data:= .fields #[.ref h.objs.size,.none,.none,.none,.bool false,.none]}).get? (h.objs.size+1)=some {cls:= .ref C,data:= .fields #[.ref h.objs.size,.none,.none,.none,.bool false,.none]}:=by heap_get
 have Je:(Value.ref C::bm).contains (.ref C)=true:=by simp
 have L1:=looks_findIn (M:=model prog w) X1 hi
 have L2:=bind_fn (M:=model prog w) X1 (.ref (h.objs.size+1)) hf
 show wpAny _ _ _ _ _ _
 unfold isInstance
 repeat(first|(with_reducible refine wpAny_loadPart_at he ?_)|(with_reducible refine wpAny_isSubtype_exc Jd ?_;rw[Je])|wp_step)
 refine L1.at ?_
 refine wpAny_holding (wpAny_bind (L2.at ?_))
 refine wpAny_bind (wpAny_mono (hq _ (h.objs.size+1) ⟨kp,Heap.get?_none_of_le (Bn _),h.objs.size,he,Heap.get?_none_of_le (Az _),Heap.get?_push_of_some _ (Heap.get?_push_at rfl rfl)⟩) (λr s' hr=>?_) λ_ _ x=>x)
 obtain⟨rfl,hQ⟩:=hr
 refine wpAny_pure ?_
 exact wpAny_pure hQ
theorem sE{Q:Value->Shared->Prop}(X:K.In h)(T:OwnTail h veLine bm)(hC:h.get? C=some (excClassObj nm q C N bs bm hdct sn sub ab col dd k0 k1 k2 k3 k5 "ValueError.__new__"))
  (hi:findIn K (.ref C) "__init__"=some (some (.ref fI))) (hf:typeIn K (.ref fI)=some (.type "function"))
  (hq:∀ h' e,Heap.MadeExcOf h h' e (.ref C) rest->wpAny (model prog w) (A.under (.builtin "type.__call__" ⟨.ref C::rest,[]⟩)) (call (.ref fI) (.ref e::rest)) (λr s'=>r= .none/\Q (.ref e) s') E ⟨h',g,d,t,os⟩) (hl:rest.length<=sizeLine):
  wpAny (model prog w) A (call (.ref C) rest) Q E ⟨h,g,d,t,os⟩:=by
 have f1:=tc_lookup
 have f2:=tc_bind (.ref C)
 have hT:(⟨h,g,d,t,os⟩:Shared).TypeIs (.ref C) "type":=⟨_,hC,rfl⟩
 refine wpAny_call (codeAny_of_tree ?_)
 show wpAny _ _ (callAny (.ref C) _) _ _ _
 repeat(any_goals (first|(with_reducible refine wpAny_loadPart_at hC ?_)|assumption|wp_step))
 exact⟨rfl,codeAny_call_builtin_at (Code.quiet_builtin _ (by decide+kernel)) entry_typeCall (wpAny_check_type_call_sub hC (sC X T hC hi hf (λh' e hm=>hq h' e hm) hl))⟩
end
section
variable {prog:Program}{w:World}{A:Around}{E:Value->Shared->Prop}{s:Shared}{env:Env}
variable {nm q:Str}{C N:Addr}{bs bm:List Value}{hdct:Bool}{sn:List Str}{sub:List Value}{ab:Bool}{col:Option Bool}{dd:Option Addr}{k0 k1 k2 k3 k5:Option Value}{newId:String}
theorem sF{x:Sem Value}{Q:Flow->Shared->Prop}(b7:bm.contains (.type "BaseException")=true)(hh:A.handled=none)
  (h:wpAny (model prog w) A x (λv s₁=>∃ e t od sl,v= .ref e/\s₁.heap.get? C=some (excClassObj nm q C N bs bm hdct sn sub ab col dd k0 k1 k2 k3 k5 newId)/\
   s₁.heap.get? e=some ⟨.ref C,od,.fields #[.ref t,.none,.none,.none,.bool false,.none],sl⟩/\E (.ref e) s₁) E s):
  wpAny (model prog w) A (raiseStmt env (some x) none) Q E s:=by
 have FO:(Value.ref C::bm).contains (.type "BaseException")=true:=by rw[Ca,b7,BR]
 unfold raiseStmt
 refine wpAny_bind (wpAny_mono h (λv s₁ h₁=>?_) λ_ _ x=>x)
 obtain⟨e,t,od,sl,rfl,hC,he,hE⟩:=h₁
 obtain⟨hp,g,d,tk,os⟩:=s₁
 repeat(first|(with_reducible refine wpAny_loadPart_at he ?_)|(with_reducible refine wpAny_loadPart_at hC ?_)|(with_reducible refine wpAny_isSubtype_exc hC ?_;rw[FO])|wp_step)
 exact wpAny_raiseNew_none hh hE
theorem mU{x:Expr}{pos:Pos}{Q:Flow->Shared->Prop}(b7:bm.contains (.type "BaseException")=true)(hh:A.handled=none)
  (h:wpAny (model prog w) A (eval x env) (λv s₁=>∃ e t od sl,v= .ref e/\s₁.heap.get? C=some (excClassObj nm q C N bs bm hdct sn sub ab col dd k0 k1 k2 k3 k5 newId)/\
   s₁.heap.get? e=some ⟨.ref C,od,.fields #[.ref t,.none,.none,.none,.bool false,.none],sl⟩/\E (.ref e) s₁) E s):
  wpAny (model prog w) A (exec (.Raise (some x) none pos) env) Q E s:=by
 rw[arm_exec_Raise]
 show wpAny (model prog w) A (do standAt pos;raiseStmt env (some (do let v <- eval x env;standAt pos;pure v)) none) Q E s
 exact wpAny_bind (wpAny_standAt (sF b7 hh (wpAny_bind (wpAny_mono h (λv s₁ h₁=>wpAny_bind (wpAny_standAt (wpAny_pure h₁))) λ_ _ x=>x))))
end
def ExAt(h:Heap)(e C:Addr)(od:Option Addr)(T:Addr)(fl:Value):Prop:=
 ∃ sl vs oT ts,h.get? e=some ⟨.ref C,od,.fields vs,sl⟩/\vs[1]?=some (.ref T)/\T≠e/\h.get? T=some oT/\oT.data= .fields ts/\ts[3]?=some fl
structure Stay(fs ex:List Addr)(h h':Heap):Prop where
 keep:∀ b o,h.get? b=some o->b ∉ ex->b ∉ fs->h'.get? b=some o
 slot:∀ b o,h.get? b=some o->b ∉ ex->∃ sl,h'.get? b=some {o with slots:=sl}
 there:∀ b o,h.get? b=some o->∃ o',h'.get? b=some o'
theorem Stay.trans{fs ex Fv:List Addr}{h h1 h2:Heap}(a:Stay fs ex h h1)(b:Stay fs Fv h1 h2):Stay fs (ex++Fv) h h2:=
  ⟨λc o e n m=>b.keep c o (a.keep c o e (λz=>n (Bf _ z)) m) (λz=>n (AJ _ z)) m,
   λc o e n=>by
    obtain⟨s1,e1⟩:=a.slot c o e (λz=>n (Bf _ z))
    obtain⟨s2,e2⟩:=b.slot c _ e1 (λz=>n (AJ _ z))
    exact⟨s2,e2⟩,
   λc o e=>by
    obtain⟨o1,e1⟩:=a.there c o e
    exact b.there c o1 e1⟩
section
variable {M:Model}{A:Around}{E:Value->Shared->Prop}{s:Shared}{env:Env}{outer:List Env}{base:Heap}{L e C T:Addr}{od:Option Addr}
theorem mV{sl:Array (Option Value)}{vs:Array Value}{Q:Unit->Shared->Prop}(hfr:A.frames=some (env::outer))(hl:s.heap.FunFrames base (env::outer))(hf:env.frame=some L)
  (he:s.heap.get? e=some ⟨.ref C,od,.fields vs,sl⟩) (h1:vs[1]?=some .none)
  (h:∀ h' T,ExAt h' e C od T (rawInt L)->s.heap.objs.size<=T->Stay (frs (env::outer)) [e] s.heap h'->Q () {s with heap:=h'}):wpAny M A (noteFrame (.ref e) env) Q E s:=by
 have gt:1<vs.size:=(BS.mp h1).1
 have Dh:e ∉ (env::outer).filterMap (·.frame):=λhm=>by
  obtain⟨_,o,ho,hnf⟩:=hl.mem hm
  rw[he] at ho;injection ho with ho;subst ho;exact hnf vs rfl
 unfold noteFrame
 simp only[hf]
 refine wpAny_bind (wpAny_field he rfl h1 ?_)
 rw[if_neg (by decide)]
 refine wpAny_bind (wpAny_frameOf_fun hfr hl hf λh₁ hs₁=>wpAny_bind (wpAny_entryPlaceOf λpl b9=>?_))
 unfold EntryCells.newEntry newFields
 refine wpAny_bind (wpAny_newObj_type ?_ (b9.sizeOk5 _ _ _ _ _))
 have he₁:h₁.get? e=some ⟨.ref C,od,.fields vs,sl⟩:=(hs₁.2.1 e Dh).trans he
 have fresh:h₁.get? h₁.objs.size=none:=Heap.get?_none_of_le (Az _)
 generalize D9:({cls:= .type "traceback",dict:=none,data:= .fields ([Value.none,.ref L,.none,rawInt L,.none]++(if pl.isEmpty then Bt 6 Value.none else pl)).toArray}:Obj)=oT
 have he₂:=Heap.get?_push_of_some (h:=h₁) oT he₁
 have p9:h₁.objs.size≠e:=Bl (Heap.lt_size he₁)
 refine wpAny_setField he₂ rfl gt (h _ h₁.objs.size ?_ ?_ ?_)
 ·refine⟨sl,vs.setIfInBounds 1 (.ref h₁.objs.size),oT,([Value.none,.ref L,.none,rawInt L,.none]++(if pl.isEmpty then Bt 6 Value.none else pl)).toArray,?_,by simp[gt],p9,?_,by rw[<- D9],by simp⟩
  ·rw[Heap.get?_update_self _ he₂ rfl];rfl
  ·rw[Heap.get?_update_other _ _ (Ne.symm p9)]
   exact Heap.get?_push_size h₁ (by rw[<- D9];rfl)
 ·exact BQ hs₁.1.symm
 ·have kp:∀ b o,b≠e->h₁.get? b=some o->((h₁.push oT).update e (Obj.mapFields (·.setIfInBounds 1 (Value.ref h₁.objs.size)))).get? b=some o:=λb o hb z=>by
   rw[Heap.get?_update_other _ _ (Ne.symm hb)]
   exact Heap.get?_push_of_some _ z
  refine⟨λb o q n m=>kp b o (λz=>n (by simp[z])) ((hs₁.2.1 b m).trans q),λb o q n=>?_,λb o q=>?_⟩
  ·obtain⟨m8,z⟩:=hs₁.2.2 b o q
   exact⟨m8,kp b _ (λz=>n (by simp[z])) z⟩
  ·by_cases hb:b=e
   ·subst hb;exact⟨_,Heap.get?_update_self _ he₂ rfl⟩
   ·obtain⟨m8,z⟩:=hs₁.2.2 b o q
    exact⟨_,kp b _ hb z⟩
theorem mW{Q:Unit->Shared->Prop}(hfr:A.frames=some (env::outer))(hl:s.heap.FunFrames base (env::outer))(hf:env.frame=some L)(hx:ExAt s.heap e C od T .none)
  (h:∀ h' T',ExAt h' e C od T' (rawInt L)->s.heap.objs.size<=T'->Stay (frs (env::outer)) [T,e] s.heap h'->Q () {s with heap:=h'}):wpAny M A (noteFrame (.ref e) env) Q E s:=by
 obtain⟨sl,vs,oT,ts,he,h1,p9,hT,i_,h3⟩:=hx
 have gt:1<vs.size:=(BS.mp h1).1
 have E6:3<ts.size:=(BS.mp h3).1
 have Dh:e ∉ (env::outer).filterMap (·.frame):=λhm=>by
  obtain⟨_,o,ho,hnf⟩:=hl.mem hm
  rw[he] at ho;injection ho with ho;subst ho;exact hnf vs rfl
 unfold noteFrame
 simp only[hf]
 refine wpAny_bind (wpAny_field he rfl h1 ?_)
 rw[if_pos (show(Value.ref T !=Value.none)=true from by simp)]
 refine wpAny_bind (wpAny_field hT i_ h3 ?_)
 rw[if_neg (show¬ ((Value.none==rawInt L)=true) from by simp[rawInt])]
 refine wpAny_bind (wpAny_setField hT i_ E6 ?_)
 have other:∀ b,b≠T->(s.heap.update T (Obj.mapFields (·.setIfInBounds 3 Value.none))).get? b=s.heap.get? b:=λb hb=>Heap.get?_update_other _ _ (Ne.symm hb)
 have nT:∀ b o,s.heap.get? b=some o->(∀ vs,o.data≠.fields vs)->b≠T:=λb o hb hnf q=>by
  rw[q,hT] at hb;injection hb with hb;subst hb;exact hnf ts i_
 have Jf:(s.heap.update T (Obj.mapFields (·.setIfInBounds 3 Value.none))).FunFrames base (env::outer):=hl.of_keeps λb o hb hnf=>⟨o,(other b (nT b o hb hnf)).trans hb,rfl⟩
 have Jg:∃ o',(s.heap.update T (Obj.mapFields (·.setIfInBounds 3 Value.none))).get? T=some o':=⟨_,Heap.get?_update_self _ hT (Obj.isFreed_of_fields (Obj.data_mapFields i_ _))⟩
 refine wpAny_bind (wpAny_frameOf_fun hfr Jf hf λh₁ hs₁=>wpAny_bind (wpAny_entryPlaceOf λpl b9=>?_))
 unfold EntryCells.newEntry newFields
 refine wpAny_bind (wpAny_newObj_type ?_ (b9.sizeOk5 _ _ _ _ _))
 have he₁:h₁.get? e=some ⟨.ref C,od,.fields vs,sl⟩:=(hs₁.2.1 e Dh).trans ((other e (Ne.symm p9)).trans he)
 have fresh:h₁.get? h₁.objs.size=none:=Heap.get?_none_of_le (Az _)
 generalize D9:({cls:= .type "traceback",dict:=none,data:= .fields ([Value.ref T,.ref L,.none,rawInt L,.none]++(if pl.isEmpty then Bt 6 Value.none else pl)).toArray}:Obj)=FP
 have he₂:=Heap.get?_push_of_some (h:=h₁) FP he₁
 have D':h₁.objs.size≠e:=Bl (Heap.lt_size he₁)
 refine wpAny_setField he₂ rfl gt (h _ h₁.objs.size ?_ ?_ ?_)
 ·refine⟨sl,vs.setIfInBounds 1 (.ref h₁.objs.size),FP,([Value.ref T,.ref L,.none,rawInt L,.none]++(if pl.isEmpty then Bt 6 Value.none else pl)).toArray,?_,by simp[gt],D',?_,by rw[<- D9],by simp⟩
  ·rw[Heap.get?_update_self _ he₂ rfl];rfl
  ·rw[Heap.get?_update_other _ _ (Ne.symm D')]
   exact Heap.get?_push_size h₁ (by rw[<- D9];rfl)
 ·exact BQ (hs₁.1.trans (Heap.size_after_update _ _ _)).symm
 ·have kp:∀ b o,b≠e->h₁.get? b=some o->((h₁.push FP).update e (Obj.mapFields (·.setIfInBounds 1 (Value.ref h₁.objs.size)))).get? b=some o:=λb o hb z=>by
   rw[Heap.get?_update_other _ _ (Ne.symm hb)]
   exact Heap.get?_push_of_some _ z
  refine⟨λb o q n m=>kp b o (λz=>n (by simp[z])) ((hs₁.2.1 b m).trans ((other b (λz=>n (by simp[z]))).trans q)),λb o q n=>?_,λb o q=>?_⟩
  ·obtain⟨m8,z⟩:=hs₁.2.2 b o ((other b (λz=>n (by simp[z]))).trans q)
   exact⟨m8,kp b _ (λz=>n (by simp[z])) z⟩
  ·by_cases hb:b=e
   ·subst hb;exact⟨_,Heap.get?_update_self _ he₂ rfl⟩
   ·have:∃ o',(s.heap.update T (Obj.mapFields (·.setIfInBounds 3 Value.none))).get? b=some o':=by
     by_cases hb:b=T
     ·rw[hb];exact Jg
     ·exact⟨o,(other _ hb).trans q⟩
    obtain⟨o',q'⟩:=this
    obtain⟨m8,z⟩:=hs₁.2.2 b o' q'
    exact⟨_,kp b _ hb z⟩
theorem flight_none{fl:Value}{Q:Unit->Shared->Prop}(hx:ExAt s.heap e C od T fl)(h:∀ h',ExAt h' e C od T .none->Stay [] [T] s.heap h'->Q () {s with heap:=h'}):wpAny M A (setFlight (.ref e) none) Q E s:=by
 obtain⟨sl,vs,oT,ts,he,h1,p9,hT,i_,h3⟩:=hx
 have E6:3<ts.size:=(BS.mp h3).1
 unfold setFlight
 refine wpAny_bind (wpAny_field he rfl h1 ?_)
 rw[if_pos (show(Value.ref T !=Value.none)=true from by simp)]
 refine wpAny_setField hT i_ E6 (h _ ?_ ?_)
 ·exact⟨sl,vs,_,_,(Heap.get?_update_other _ _ p9).trans he,h1,p9,Heap.get?_update_self _ hT (Obj.isFreed_of_fields (Obj.data_mapFields i_ _)),Obj.data_mapFields i_ _,by simp[E6]⟩
 ·have other:∀ b o,b ∉ [T]->s.heap.get? b=some o->(s.heap.update T (Obj.mapFields (·.setIfInBounds 3 ((none:Option Addr).elim Value.none λf=>rawInt f)))).get? b=some o:=λb o hb q=>(Heap.get?_update_other _ _ (λz=>hb (by simp[z]))).trans q
  refine⟨λb o q n _=>other b o n q,λb o q n=>⟨o.slots,other b o n q⟩,λb o q=>?_⟩
  by_cases hb:b=T
  ·subst hb;exact⟨_,Heap.get?_update_self _ hT (Obj.isFreed_of_fields (Obj.data_mapFields i_ _))⟩
  ·exact⟨o,other b o (by simp[hb]) q⟩
end
def CX1(P:Program)(w:World):CXT:=λouter H s E ev s'=>∃ e C od T H',ev= .ref e/\s'.os=s.os/\AllBare s'.gens/\Un (frs outer) [] H H' s.heap s'.heap/\HOk P w H' s'.heap/\ExAt s'.heap e C od T .none/\s.heap.get? e=none/\s.heap.get? T=none/\H' e=none/\H' T=none/\E (.ref C) od H'
theorem eg{P:Program}{w:World}{H:Hp}{h h':Heap}{fs ex:List Addr}(x:HOk P w H h)(st:Stay fs ex h h')(hf:∀ b∈fs,H b=none)(he:∀ b∈ex,H b=none):HOk P w H h':=λa o q=>
 (x a o q).stay (λb u hb r=>by
  have hn:H b≠none:=by
   rcases hb with rfl|hb
   ·rw[q];exact λz=>nomatch z
   ·rw[hb];exact λz=>nomatch z
  exact st.keep b u r (λz=>hn (he b z)) (λz=>hn (hf b z))) (λ_ q=>q) λ_ _ q=>q
theorem fq{fs i9 ex:List Addr}{H H':Hp}{h h1 h2:Heap}(u:Un fs [] H H' h h1)(st:Stay i9 ex h1 h2)(hex:∀ b∈ex,h.get? b=none)(E7:∀ b∈i9,b∈fs\/h.get? b=none):Un fs [] H H' h h2 where
 keep:=λb o q n hb hx=>st.keep b o (u.keep b o q n hb hx) (λz=>by rw[hex b z] at q;cases q) (λz=>(E7 b z).elim hb λy=>by rw[y] at q;cases q)
 slot:=λb o q n hb hx=>by
  obtain⟨sl,e1⟩:=u.slot b o q n hb hx
  obtain⟨m8,e2⟩:=st.slot b _ e1 (λz=>by rw[hex b z] at q;cases q)
  exact⟨m8,e2⟩
 free:=u.free
 there:=λb o q hx=>by
  obtain⟨o1,e1⟩:=u.there b o q hx
  exact st.there b o1 e1
 tups:=u.tups
 frzs:=u.frzs
 tbls:=u.tbls
section
variable {P:Program}{w:World}{K:Ax}{mg:Str->Option Value}{base:Heap}{N:List Str}{qual:Str}{scope:Scope}{f:Addr}{cd:Value}{A:Around}{outer:List Env}{s:Shared}{H:Hp}{E E':XK}
theorem mY{b:Addr}(hb:b∈frs (envOfC qual scope s.heap.objs.size f cd::outer)):b∈frs outer\/s.heap.get? b=none:=by
 unfold frs at hb
 rw[BO] at hb
 rcases AA.mp (show b∈s.heap.objs.size::outer.filterMap (·.frame) from hb) with e|e
 ·rw[e];exact .inr (Heap.get?_none_of_le (Az _))
 ·exact .inl e
theorem sG{pins:List (Addr × Obj)}{σ:L2.St}{H1:Hp}{s1:Shared}{e C:Addr}{od:Option Addr}{sl:Array (Option Value)}{vs:Array Value}(I:Inv (cxOf (CX1 P w) P w K mg base N qual scope f cd A outer s H E') pins σ H1 s1)
  (he:s1.heap.get? e=some ⟨.ref C,od,.fields vs,sl⟩) (h1:vs[1]?=some .none) (He:H1 e=none) (ne:s.heap.get? e=none) (hE:E' (.ref C) od H1):(cxOf (CX1 P w) P w K mg base N qual scope f cd A outer s H E').xe (.ref e) s1:=by
 show wpAny _ _ (leaving _ _) _ _ _
 unfold leaving
 refine wpAny_bind (mV I.ok.frames I.stack rfl he h1 λh2 T2 u9 p_ n4=>flight_none (s:={s1 with heap:=h2}) u9 λh3 D_ u7=>?_)
 have v7:s1.heap.get? T2=none:=Heap.get?_none_of_le p_
 have f1:∀ b,s1.heap.get? b=none->s.heap.get? b=none:=λb q=>by
  cases z:s.heap.get? b with
  |none=>rfl
  |some o=>
   obtain⟨o',z'⟩:=I.base.there b o z (by exact λy=>absurd (show b∈([]:List Addr) from y) (by simp))
   rw[q] at z';cases z'
 have hok:HOk P w H1 s1.heap:=I.hok
 have y9:H1 T2=none:=hok.fresh p_
 have u2:Un (frs outer) [] H H1 s.heap h2:=fq (show Un (frs outer) [] H H1 s.heap s1.heap from I.base) n4 (λb hb=>by rw[Ay.mp hb];exact ne) λb hb=>mY hb
 have u3:Un (frs outer) [] H H1 s.heap h3:=fq u2 u7 (λb hb=>by rw[Ay.mp hb];exact f1 T2 v7) λb hb=>by cases hb
 have k2:=eg hok n4 (λb hb=>I.stkFree b hb) (λb hb=>by rw[Ay.mp hb];exact He)
 have k3:=eg k2 u7 (λb hb=>by cases hb) (λb hb=>by rw[Ay.mp hb];exact y9)
 exact⟨e,C,od,T2,H1,rfl,I.os,I.bare,u3,k3,D_,ne,f1 T2 v7,He,y9,hE⟩
end
end Exc
namespace L2
theorem Same.tup{K:Ax}{H H':Hp}{a:Addr}{xs:List V}(e:Same H H')(h:SqT K H a xs):SqT K H' a xs:=by
 rcases h with(h|⟨o,h⟩)|h
 ·exact .inl (.inl (e _ _ h))
 ·exact .inl (.inr ⟨o,e _ _ h⟩)
 ·exact .inr h
end L2
namespace My
theorem el{X:Cx}:dU (Exc.CX1 X.prog X.w) X E0:=λ_ _ _ _ _ _ _ h=>by
 obtain⟨e,C,od,T,H',_,_,_,_,_,_,_,_,_,_,h⟩:=h
 exact h.elim
theorem Fun.okC{P:Program}{w:World}{K:Ax}{mg:Str->Option Value}{base:Heap}{CX:CXT}{x qual:Str}{st:Stmt}{f:Addr}{fd:FuncData}{N ps:List Str}{k:Nat}{sp:Sp}(F:Fun K x qual st f fd)(S:FnScope N ps (ag st))(len:∀ vs H Q E,sp vs H Q E->vs.length=ps.length)
  (a9:∀ (cdv:Value) (A:Around) (outer:List Env) (s:Shared) (H:Hp) (vs:List V) (Q:VK) (E:XK),Room k (A.deeper (envOfC qual (ag st) s.heap.objs.size f cdv))->sp vs H Q E->
   ∃ t,PSs (cxOf CX P w K mg base N qual (ag st) f cdv A outer s H E) (aJ st) t/\t {nx:=λ_ H'=>Q .non H',rt:=Q} (start N vs) H):FnOk P w K mg base CX (k+1) f fd ps sp:=by
 obtain⟨oc,od,kV,doc,pm,an,cdv,ct,osl,rfl,lk,f7⟩:=F.ex
 refine mJ lk f7 S len λA outer s H vs Q E hr n8=>?_
 exact a9 cdv A outer s H vs Q E hr n8
def Cal(P:Program)(w:World)(K:Ax)(mg:Str->Option Value)(base:Heap)(n:Nat)(x:Str)(ps:List Str)(sp:Sp):Prop:=
 ∃ f fd,FnOk P w K mg base (Exc.CX1 P w) n f fd ps sp/\Binds K fd ps []/\keepIn K (.ref f)=true/\mg x=some (.ref f)
def Tx(K:Ax)(mg:Str->Option Value)(x:Str)(st:Stmt)(ps:List Str):Prop:=
 ∃ f fd,Fun K x x st f fd/\Binds K fd ps []/\mg x=some (.ref f)
section
variable {X:Cx}{n m:Nat}{ps:List Str}{sp:Sp}{x:Str}{p pos:Pos}{e:Expr}{es:List Expr}{t:TA}
theorem sH(C:Cal X.prog X.w X.K X.mg X.base n x ps sp)(hr:Room m X.A)(ha:PA X (e::es) t)(hg:Gl X x:=by rfl)(hn:n<=m:=by decide)(c_:zND x:=by decide)
  (he:zSE X e es:=by rfl) (b9:zPL X pos es:=by rfl):
  PE X (.Call (.Name x p) (e::es) [] pos) (mG sp [] E0 t):=by
 obtain⟨f,fd,F,hb,hk,hm⟩:=C
 exact rA F (hr.mono hn) hg hm hk hb .nil el ha c_ he b9
end
section
variable {P:Program}{w:World}{K:Ax}{mg:Str->Option Value}{base:Heap}
theorem Tx.ok{x:Str}{st:Stmt}{N ps:List Str}{k:Nat}{sp:Sp}(T:Tx K mg x st ps)(S:FnScope N ps (ag st))(len:∀ vs H Q E,sp vs H Q E->vs.length=ps.length)
  (a9:∀ (f:Addr) (cdv:Value) (A:Around) (outer:List Env) (s:Shared) (H:Hp) (vs:List V) (Q:VK) (E:XK),Room k (A.deeper (envOfC x (ag st) s.heap.objs.size f cdv))->sp vs H Q E->
   ∃ t,PSs (cxOf (Exc.CX1 P w) P w K mg base N x (ag st) f cdv A outer s H E).nox (aJ st) t/\t {nx:=λ_ H'=>Q .non H',rt:=Q} (start N vs) H):Cal P w K mg base (k+1) x ps sp:=by
 obtain⟨f,fd,F,hb,hm⟩:=T
 refine⟨f,fd,Fun.okC F S len (λcdv A outer s H vs Q E hr h=>?_),hb,F.kp,hm⟩
 obtain⟨t,h1,h2⟩:=a9 f cdv A outer s H vs Q E hr h
 exact⟨t,h1.nox,h2⟩
end
theorem aO{H:Hp}{p:Addr}(h:H p=none)(o:HO):Same H (upd H p o):=λb u q=>by rw[ak (bw q h)];exact q
theorem sz{n:Nat}(h:n<=1000):n<=sizeLine:=BN (sk h)
end My
namespace L2
section
variable {X:Cx}
theorem PE.anti{e:Expr}{t t':TE}(h:PE X e t)(a:∀ s H Q,t' s H Q->t s H Q):PE X e t':=λpins s σ H Q I q=>h pins s σ H Q I (a _ _ _ q)
theorem PT.anti{e:Expr}{t t':TT}(h:PT X e t)(a:∀ s H Q,t' s H Q->t s H Q):PT X e t':=λpins s σ H Q I q=>h pins s σ H Q I (a _ _ _ q)
theorem PW.anti{e:Expr}{t t':TT}(h:PW X e t)(a:∀ s H Q,t' s H Q->t s H Q):PW X e t':=λwh pins s σ H Q I q=>h wh pins s σ H Q I (a _ _ _ q)
theorem PA.anti{e:List Expr}{t t':TA}(h:PA X e t)(a:∀ s H Q,t' s H Q->t s H Q):PA X e t':=λp pins s σ H Q I q=>h p pins s σ H Q I (a _ _ _ q)
theorem PS.anti{e:Stmt}{t t':TS}(h:PS X e t)(a:∀ E s H,t' E s H->t E s H):PS X e t':=λpins s σ H Q I q=>h pins s σ H Q I (a _ _ _ q)
theorem PSs.anti{e:List Stmt}{t t':TS}(h:PSs X e t)(a:∀ E s H,t' E s H->t E s H):PSs X e t':=λpins s σ H Q I q=>h pins s σ H Q I (a _ _ _ q)
end
end L2
namespace My
inductive D where
 |non|bl (b:Bool)|int (i:Int)|str (x:Str)|tup (xs:List D)|lst (xs:List D)
  |rol (xs:List D)
  |obj (x:Str) (fs:List (Str × D))
  |exc (x:Str) (fs:List (Str × D))
  |own (xs:List D)
  |ptr (a:Addr)
  |dti (a8:List ((Int × Int) × Int))
def dtiV(a8:List ((Int × Int) × Int)):List (List Key × V):=a8.map λe=>([.inl e.1.1,.inl e.1.2],.int e.2)
def XO(e C:Addr)(od:Option Addr):HO:= .ext λh=>∃ vs sl,h.get? e=some ⟨.ref C,od,.fields vs,sl⟩
mutual
def Rep(K:Ax)(H:Hp):D->V->Prop
 | .non,v=>v= .non
 | .bl b,v=>v= .bl b
 | .int i,v=>v= .int i
 | .str x,v=>v= .str x
 | .tup ds,v=>∃ a vs,v= .ref a/\H a=some (.tup vs)/\Reps K H ds vs
 | .lst ds,v=>∃ a vs,v= .ref a/\H a=some (.lst vs)/\Reps K H ds vs
 | .rol ds,v=>∃ a vs,v= .ref a/\SqL K H a vs/\Reps K H ds vs
 | .obj x fs,v=>∃ a C dx vs,v= .ref a/\nsIn K mainGlobals x=some (some (.ref C))/\H a=some (.ins C dx vs)/\RepF K H fs vs
 | .exc x fs,v=>∃ a C od vs,v= .ref a/\nsIn K mainGlobals x=some (some (.ref C))/\H a=some (XO a C od)/\RepF K H fs vs/\((od=none/\vs=[])\/∃ b,od=some b/\H b=some (.xd vs))
 | .own _,_=>False
 | .ptr a,v=>v= .ref a
 | .dti a8,v=>∃ a,v= .ref a/\H a=some (.dT (dtiV a8))
def RepF(K:Ax)(H:Hp):List (Str × D)->List (Str × V)->Prop
 |[],vs=>vs=[]
 |(f,d)::ds,vs=>∃ v r,vs=(f,v)::r/\Rep K H d v/\RepF K H ds r
def Reps(K:Ax)(H:Hp):List D->List V->Prop
 |[],vs=>vs=[]
 |d::ds,vs=>∃ v r,vs=v::r/\Rep K H d v/\Reps K H ds r
end
mutual
theorem Rep.mono{K:Ax}{H H':Hp}(g:Same H H'):∀ (d:D) (v:V),Rep K H d v->Rep K H' d v
 | .non,v,h=>by unfold Rep at h ⊢;exact h
 | .bl b,v,h=>by unfold Rep at h ⊢;exact h
 | .int b,v,h=>by unfold Rep at h ⊢;exact h
 | .str b,v,h=>by unfold Rep at h ⊢;exact h
 | .tup ds,v,h=>by
  unfold Rep at h ⊢
  obtain⟨a,vs,e,q,r⟩:=h
  exact⟨a,vs,e,g _ _ q,Reps.mono g ds vs r⟩
 | .lst ds,v,h=>by
  unfold Rep at h ⊢
  obtain⟨a,vs,e,q,r⟩:=h
  exact⟨a,vs,e,g _ _ q,Reps.mono g ds vs r⟩
 | .rol ds,v,h=>by
  unfold Rep at h ⊢
  obtain⟨a,vs,e,q,r⟩:=h
  exact⟨a,vs,e,g.seq q,Reps.mono g ds vs r⟩
 | .obj C fs,v,h=>by
  unfold Rep at h ⊢
  obtain⟨a,C,dx,vs,e,n,q,r⟩:=h
  exact⟨a,C,dx,vs,e,n,g _ _ q,RepF.mono g fs vs r⟩
 | .exc C fs,v,h=>by
  unfold Rep at h ⊢
  obtain⟨a,C,od,vs,e,n,q,r,d⟩:=h
  exact⟨a,C,od,vs,e,n,g _ _ q,RepF.mono g fs vs r,d.imp id λ⟨b,h1,h2⟩=>⟨b,h1,g _ _ h2⟩⟩
 | .own ds,v,h=>by
  unfold Rep at h ⊢
  exact h
 | .ptr a,v,h=>by unfold Rep at h ⊢;exact h
 | .dti a8,v,h=>by
  unfold Rep at h ⊢
  obtain⟨a,e,q⟩:=h
  exact⟨a,e,g _ _ q⟩
theorem RepF.mono{K:Ax}{H H':Hp}(g:Same H H'):∀ (ds:List (Str × D)) (vs:List (Str × V)),RepF K H ds vs->RepF K H' ds vs
 |[],vs,h=>by unfold RepF at h ⊢;exact h
 |(f,d)::ds,vs,h=>by
  unfold RepF at h ⊢
  obtain⟨v,r,e,q1,q2⟩:=h
  exact⟨v,r,e,Rep.mono g d v q1,RepF.mono g ds r q2⟩
theorem Reps.mono{K:Ax}{H H':Hp}(g:Same H H'):∀ (ds:List D) (vs:List V),Reps K H ds vs->Reps K H' ds vs
 |[],vs,h=>by unfold Reps at h ⊢;exact h
 |d::ds,vs,h=>by
  unfold Reps at h ⊢
  obtain⟨v,r,e,q1,q2⟩:=h
  exact⟨v,r,e,Rep.mono g d v q1,Reps.mono g ds r q2⟩
end
section
variable {K:Ax}{H:Hp}
theorem rep_non{v:V}:Rep K H .non v↔v= .non:=by unfold Rep;exact Iff.rfl
theorem rep_bl{b:Bool}{v:V}:Rep K H (.bl b) v↔v= .bl b:=by unfold Rep;exact Iff.rfl
theorem rep_int{i:Int}{v:V}:Rep K H (.int i) v↔v= .int i:=by unfold Rep;exact Iff.rfl
theorem rep_str{x:Str}{v:V}:Rep K H (.str x) v↔v= .str x:=by unfold Rep;exact Iff.rfl
theorem rep_tupS{ds:List D}{v:V}:Rep K H (.tup ds) v↔∃ a vs,v= .ref a/\H a=some (.tup vs)/\Reps K H ds vs:=by
 constructor
 ·intro h;unfold Rep at h;exact h
 ·intro h;unfold Rep;exact h
theorem rep_tup_mp{ds:List D}{v:V}(h:Rep K H (.tup ds) v):∃ a vs,v= .ref a/\SqT K H a vs/\Reps K H ds vs:=by
 obtain⟨a,vs,e,q,r⟩:=rep_tupS.mp h
 exact⟨a,vs,e,SqT.of q,r⟩
theorem rep_ptr{a:Addr}{v:V}:Rep K H (.ptr a) v↔v= .ref a:=by unfold Rep;exact Iff.rfl
theorem rep_dti{a8:List ((Int × Int) × Int)}{v:V}:Rep K H (.dti a8) v↔∃ a,v= .ref a/\H a=some (.dT (dtiV a8)):=by
 constructor
 ·intro h;unfold Rep at h;exact h
 ·intro h;unfold Rep;exact h
theorem rep_lst{ds:List D}{v:V}:Rep K H (.lst ds) v↔∃ a vs,v= .ref a/\H a=some (.lst vs)/\Reps K H ds vs:=by
 constructor
 ·intro h;unfold Rep at h;exact h
 ·intro h;unfold Rep;exact h
theorem rep_rol{ds:List D}{v:V}:Rep K H (.rol ds) v↔∃ a vs,v= .ref a/\SqL K H a vs/\Reps K H ds vs:=by
 constructor
 ·intro h;unfold Rep at h;exact h
 ·intro h;unfold Rep;exact h
theorem rep_obj{x:Str}{fs:List (Str × D)}{v:V}:Rep K H (.obj x fs) v↔∃ a C dx vs,v= .ref a/\nsIn K mainGlobals x=some (some (.ref C))/\H a=some (.ins C dx vs)/\RepF K H fs vs:=by
 constructor
 ·intro h;unfold Rep at h;exact h
 ·intro h;unfold Rep;exact h
theorem rep_exc{x:Str}{fs:List (Str × D)}{v:V}:Rep K H (.exc x fs) v↔∃ a C od vs,v= .ref a/\nsIn K mainGlobals x=some (some (.ref C))/\H a=some (XO a C od)/\RepF K H fs vs/\((od=none/\vs=[])\/∃ b,od=some b/\H b=some (.xd vs)):=by
 constructor
 ·intro h;unfold Rep at h;exact h
 ·intro h;unfold Rep;exact h
theorem rep_own{ds:List D}{v:V}:¬ Rep K H (.own ds) v:=by intro h;unfold Rep at h;exact h
theorem repf_nil{vs:List (Str × V)}:RepF K H [] vs↔vs=[]:=by unfold RepF;exact Iff.rfl
theorem repf_cons{f:Str}{d:D}{ds:List (Str × D)}{vs:List (Str × V)}:RepF K H ((f,d)::ds) vs↔∃ v r,vs=(f,v)::r/\Rep K H d v/\RepF K H ds r:=by
 constructor
 ·intro h;unfold RepF at h;exact h
 ·intro h;unfold RepF;exact h
theorem RepF.look{f:Str}{d:D}:∀ {fs:List (Str × D)} {vs:List (Str × V)},RepF K H fs vs->fs.lookup f=some d->∃ v,vs.lookup f=some v/\Rep K H d v
 |[],_,_,e=>by cases e
 |(g,x)::fs,vs,h,e=>by
  obtain⟨v,r,rfl,h1,h2⟩:=repf_cons.mp h
  rw[AR] at e ⊢
  split at e
  ·cases e
   exact⟨v,rfl,h1⟩
  ·exact RepF.look h2 e
theorem RepF.none{f:Str}:∀ {fs:List (Str × D)} {vs:List (Str × V)},RepF K H fs vs->fs.lookup f=Option.none->vs.lookup f=Option.none
 |[],vs,h,_=>by rw[repf_nil.mp h];rfl
 |(g,x)::fs,vs,h,e=>by
  obtain⟨v,r,rfl,h1,h2⟩:=repf_cons.mp h
  rw[AR] at e ⊢
  split at e
  ·cases e
  ·exact RepF.none h2 e
theorem reps_nil{vs:List V}:Reps K H [] vs↔vs=[]:=by unfold Reps;exact Iff.rfl
theorem reps_cons{d:D}{ds:List D}{vs:List V}:Reps K H (d::ds) vs↔∃ v r,vs=v::r/\Rep K H d v/\Reps K H ds r:=by
 constructor
 ·intro h;unfold Reps at h;exact h
 ·intro h;unfold Reps;exact h
theorem Reps.length:∀ {ds:List D} {vs:List V},Reps K H ds vs->vs.length=ds.length
 |[],vs,h=>by rw[reps_nil.mp h];rfl
 |d::ds,vs,h=>by
  obtain⟨v,r,rfl,_,h2⟩:=reps_cons.mp h
  rw[AB,AB,Reps.length h2]
theorem Reps.get:∀ {ds:List D} {vs:List V} {i:Nat} {d:D},Reps K H ds vs->ds[i]?=some d->∃ v,vs[i]?=some v/\Rep K H d v
 |[],_,_,_,_,e=>by simp at e
 |x::ds,vs,0,d,h,e=>by
  obtain⟨v,r,rfl,h1,_⟩:=reps_cons.mp h
  simp at e;subst e
  exact⟨v,rfl,h1⟩
 |x::ds,vs,i+1,d,h,e=>by
  obtain⟨v,r,rfl,_,h2⟩:=reps_cons.mp h
  obtain⟨u,q1,q2⟩:=Reps.get (i:=i) h2 (by simpa using e)
  exact⟨u,by simpa using q1,q2⟩
theorem Reps.ints:∀ {ns:List Int} {vs:List V},Reps K H (ns.map D.int) vs↔vs=ns.map V.int
 |[],vs=>reps_nil
 |n::ns,vs=>by
  rw[AO,reps_cons,AO]
  constructor
  ·rintro⟨v,r,rfl,h1,h2⟩
   rw[rep_int.mp h1,Reps.ints.mp h2]
  ·rintro rfl
   exact⟨_,_,rfl,rep_int.mpr rfl,Reps.ints.mpr rfl⟩
end
abbrev SD:=List (Option D)
def fu:D->Bool| .own _=>true|_=>false
structure RepS(K:Ax)(B F H:Hp)(t:SD)(s:L2.St):Prop where
 len:s.length=t.length
 val:∀ (i:Nat) d,t[i]?=some (some d)->fu d=false->∃ v,s[i]?=some (some v)/\Rep K F d v
 own:∀ (i:Nat) ds,t[i]?=some (some (.own ds))->∃ a vs,s[i]?=some (some (.ref a))/\H a=some (.lst vs)/\B a=none/\F a=none/\Reps K F ds vs
 apart:∀ (i j:Nat) di dj a,t[i]?=some (some (.own di))->t[j]?=some (some (.own dj))->s[i]?=some (some (.ref a))->s[j]?=some (some (.ref a))->i=j
structure Grow(F H F' H':Hp):Prop where
 ff:Same F F'
 fh:Same F' H'
 hh:Same H H'
 out:∀ b,F b=none->H b≠none->F' b=none
theorem Grow.refl{F H:Hp}(h:Same F H):Grow F H F H:=⟨Same.refl F,h,Same.refl H,λ_ h _=>h⟩
theorem Grow.trans{F H F1 H1 F2 H2:Hp}(g:Grow F H F1 H1)(k:Grow F1 H1 F2 H2):Grow F H F2 H2:=
 ⟨g.ff.trans k.ff,k.fh,g.hh.trans k.hh,λb h1 h2=>k.out b (g.out b h1 h2) (by
  cases e:H b with
  |none=>exact absurd e h2
  |some o=>rw[g.hh b o e];exact λz=>nomatch z)⟩
theorem Grow.new{F H:Hp}{p:Addr}(h:Same F H)(hp:H p=none)(o:HO):Grow F H (upd F p o) (upd H p o):=by
 have fp:F p=none:=h.free hp
 refine⟨aO fp o,λb u e=>?_,aO hp o,λb h1 h2=>?_⟩
 ·by_cases hb:b=p
  ·subst hb;rw[az] at e ⊢;exact e
  ·rw[ak hb] at e ⊢;exact h b u e
 ·by_cases hb:b=p
  ·subst hb;exact absurd hp h2
  ·rw[ak hb];exact h1
class Jx where
 B:Hp
 F0:Hp
 RX:SD->Str->List (Str × D)->Prop
structure Kept[J:Jx](B F0 F H:Hp):Prop where
 bh:Same B H
 fh:Same F H
 f0:Same F0 F
 out:∀ b,F0 b=none->B b≠none->F b=none
 eb:B=J.B
 jf:Same J.F0 F0
 jo:∀ b,J.F0 b=none->B b≠none->F0 b=none
theorem Kept.kf[J:Jx]{B F0 F H:Hp}(k:Kept B F0 F H):Kept B J.F0 F H:=⟨k.bh,k.fh,k.jf.trans k.f0,λb h1 h2=>k.out b (k.jo b h1 h2) h2,k.eb,Same.refl _,λ_ h _=>h⟩
theorem Kept.grow[Jx]{B F0 F H F' H':Hp}(k:Kept B F0 F H)(g:Grow F H F' H'):Kept B F0 F' H':=
 ⟨k.bh.trans g.hh,g.fh,k.f0.trans g.ff,λb h1 h2=>g.out b (k.out b h1 h2) (by
  cases e:B b with
  |none=>exact absurd e h2
  |some o=>rw[k.bh b o e];exact λz=>nomatch z),k.eb,k.jf,k.jo⟩
section
variable {K:Ax}{B F H F' H':Hp}{t:SD}{s:L2.St}
theorem RepS.grow(g:Grow F H F' H')(h:RepS K B F H t s):RepS K B F' H' t s where
 len:=h.len
 val:=λi d e no=>let ⟨v,q1,q2⟩:=h.val i d e no;⟨v,q1,q2.mono g.ff⟩
 own:=λi ds e=>by
  obtain⟨a,vs,q1,q2,q3,q4,q5⟩:=h.own i ds e
  exact⟨a,vs,q1,g.hh a _ q2,q3,g.out a q4 (by rw[q2];exact λz=>nomatch z),q5.mono g.ff⟩
 apart:=h.apart
theorem RepS.set{i:Nat}{d:D}{v:V}(h:RepS K B F H t s)(r:Rep K F d v):RepS K B F H (t.set i (some d)) (s.set i (some v)):=by
 have no:fu d=false:=by
  cases d with
  |own ds=>exact absurd r rep_own
  |_=>rfl
 have get:∀ {j:Nat} {x:D},(t.set i (some d))[j]?=some (some x)->(j=i/\x=d/\i<t.length)\/(j≠i/\t[j]?=some (some x)):=λ{j x} e=>by
  by_cases hj:i=j
  ·subst hj
   rw[BF] at e
   simp at e
   exact .inl ⟨rfl,e.2.symm,e.1⟩
  ·rw[AQ hj] at e
   exact .inr ⟨λz=>hj z.symm,e⟩
 refine⟨by rw[BG,BG];exact h.len,λj x e nx=>?_,λj ds e=>?_,λj k dj dk a e1 e2 e3 e4=>?_⟩
 ·rcases get e with⟨rfl,rfl,hl⟩|⟨hj,e⟩
  ·exact⟨v,by rw[Bb (by rw[h.len];exact hl)],r⟩
  ·obtain⟨u,q1,q2⟩:=h.val j x e nx
   exact⟨u,by rw[AQ (λz=>hj z.symm)];exact q1,q2⟩
 ·rcases get e with⟨rfl,rfl,hl⟩|⟨hj,e⟩
  ·cases no
  ·obtain⟨a,vs,q1,q⟩:=h.own j ds e
   exact⟨a,vs,by rw[AQ (λz=>hj z.symm)];exact q1,q⟩
 ·rcases get e1 with⟨rfl,rfl,hl⟩|⟨hj,e1⟩
  ·cases no
  ·rcases get e2 with⟨rfl,rfl,hl⟩|⟨hk,e2⟩
   ·cases no
   ·rw[AQ (λz=>hj z.symm)] at e3
    rw[AQ (λz=>hk z.symm)] at e4
    exact h.apart j k dj dk a e1 e2 e3 e4
theorem RepS.setOwn{i:Nat}{a:Addr}{vs:List V}{ds:List D}(h:RepS K B F H t s)(hB:B a=none)(hF:F a=none)(r:Reps K F ds vs)
  (free:∀ (j:Nat) dj,j≠i->t[j]?=some (some (.own dj))->s[j]?≠some (some (.ref a))):RepS K B F (upd H a (.lst vs)) (t.set i (some (.own ds))) (s.set i (some (.ref a))):=by
 have get:∀ {j:Nat} {x:D},(t.set i (some (.own ds)))[j]?=some (some x)->(j=i/\x= .own ds/\i<t.length)\/(j≠i/\t[j]?=some (some x)):=λ{j x} e=>by
  by_cases hj:i=j
  ·subst hj
   rw[BF] at e
   simp at e
   exact .inl ⟨rfl,e.2.symm,e.1⟩
  ·rw[AQ hj] at e
   exact .inr ⟨λz=>hj z.symm,e⟩
 refine⟨by rw[BG,BG];exact h.len,λj x e nx=>?_,λj dj e=>?_,λj k dj dk b e1 e2 e3 e4=>?_⟩
 ·rcases get e with⟨rfl,rfl,hl⟩|⟨hj,e⟩
  ·cases nx
  ·obtain⟨u,q1,q2⟩:=h.val j x e nx
   exact⟨u,by rw[AQ (λz=>hj z.symm)];exact q1,q2⟩
 ·rcases get e with⟨rfl,e,hl⟩|⟨hj,e⟩
  ·cases e
   exact⟨a,vs,by rw[Bb (by rw[h.len];exact hl)],az,hB,hF,r⟩
  ·obtain⟨b,us,q1,q2,q⟩:=h.own j dj e
   have ne:b≠a:=λz=>free j dj hj e (z ▸ q1)
   exact⟨b,us,by rw[AQ (λz=>hj z.symm)];exact q1,by rw[ak ne];exact q2,q⟩
 ·rcases get e1 with⟨hj,c1,hl⟩|⟨hj,f1⟩
  ·rcases get e2 with⟨hk,c2,y8⟩|⟨hk,f2⟩
   ·rw[hj,hk]
   ·rw[hj,Bb (by rw[h.len];exact hl)] at e3
    rw[AQ (λz=>hk z.symm)] at e4
    cases e3
    exact absurd e4 (free k dk hk f2)
  ·rcases get e2 with⟨hk,c2,y8⟩|⟨hk,f2⟩
   ·rw[hk,Bb (by rw[h.len];exact y8)] at e4
    rw[AQ (λz=>hj z.symm)] at e3
    cases e4
    exact absurd e3 (free j dj hj f1)
   ·rw[AQ (λz=>hj z.symm)] at e3
    rw[AQ (λz=>hk z.symm)] at e4
    exact h.apart j k dj dk b f1 f2 e3 e4
theorem RepS.freeze[Jx]{F0:Hp}{i:Nat}{ds:List D}(h:RepS K B F H t s)(k:Kept B F0 F H)(e:t[i]?=some (some (.own ds))):∃ F',Kept B F0 F' H/\RepS K B F' H (t.set i (some (.lst ds))) s:=by
 obtain⟨a,vs,q1,q2,q3,q4,q5⟩:=h.own i ds e
 have hl:i<t.length:=(AN.mp e).1
 have g:Same F (upd F a (.lst vs)):=aO q4 _
 have get:∀ {j:Nat} {x:D},(t.set i (some (.lst ds)))[j]?=some (some x)->(j=i/\x= .lst ds)\/(j≠i/\t[j]?=some (some x)):=λ{j x} e=>by
  by_cases hj:i=j
  ·subst hj
   rw[BF] at e
   simp at e
   exact .inl ⟨rfl,e.2.symm⟩
  ·rw[AQ hj] at e
   exact .inr ⟨λz=>hj z.symm,e⟩
 refine⟨upd F a (.lst vs),⟨k.bh,λb o z=>?_,k.f0.trans g,λb h1 h2=>?_,k.eb,k.jf,k.jo⟩,⟨by rw[BG];exact h.len,λj x e' nx=>?_,λj dj e'=>?_,λj l dj dl b e1 e2 e3 e4=>?_⟩⟩
 ·by_cases hb:b=a
  ·subst hb;rw[az] at z;cases z;exact q2
  ·rw[ak hb] at z;exact k.fh b o z
 ·by_cases hb:b=a
  ·subst hb;exact absurd q3 h2
  ·rw[ak hb];exact k.out b h1 h2
 ·rcases get e' with⟨rfl,rfl⟩|⟨hj,e'⟩
  ·exact⟨.ref a,q1,rep_lst.mpr ⟨a,vs,rfl,az,q5.mono g⟩⟩
  ·obtain⟨u,p1,p2⟩:=h.val j x e' nx
   exact⟨u,p1,p2.mono g⟩
 ·rcases get e' with⟨rfl,c⟩|⟨hj,e'⟩
  ·cases c
  ·obtain⟨b,us,p1,p2,p3,p4,p5⟩:=h.own j dj e'
   have ne:b≠a:=λz=>hj (h.apart j i dj ds a e' e (z ▸ p1) q1)
   exact⟨b,us,p1,p2,p3,by rw[ak ne];exact p4,p5.mono g⟩
 ·rcases get e1 with⟨rfl,c⟩|⟨hj,e1⟩
  ·cases c
  ·rcases get e2 with⟨rfl,c⟩|⟨hk,e2⟩
   ·cases c
   ·exact h.apart j l dj dl b e1 e2 e3 e4
end
def startD(N:List Str)(ds:List D):SD:=ds.map some++Bt (N.length - ds.length) none
theorem Rep.noown{K:Ax}{F:Hp}{d:D}{v:V}(r:Rep K F d v):fu d=false:=by
 cases d with
 |own ds=>exact absurd r rep_own
 |_=>rfl
theorem eo{K:Ax}{B F H:Hp}{N:List Str}{ds:List D}{vs:List V}(h:Reps K F ds vs):RepS K B F H (startD N ds) (L2.start N vs):=by
 have hl:=h.length
 have get:∀ (i:Nat) d,(startD N ds)[i]?=some (some d)->∃ v,(L2.start N vs)[i]?=some (some v)/\Rep K F d v:=λi d e=>by
  unfold startD at e
  unfold L2.start
  by_cases hi:i<ds.length
  ·rw[Bh (by simpa using hi),A2] at e
   cases q:ds[i]? with
   |none=>rw[q] at e;cases e
   |some x=>
    rw[q] at e;cases e
    obtain⟨v,q1,q2⟩:=h.get q
    exact⟨v,by rw[Bh (by simpa[hl] using hi),A2,q1];rfl,q2⟩
  ·rw[Bu (by simpa using hi),B6] at e
   split at e<;>cases e
 refine⟨by unfold startD L2.start;simp[hl],λi d e _=>get i d e,λi d e=>?_,λi j di dj a e=>?_⟩
 ·obtain⟨v,_,r⟩:=get i _ e;exact absurd r rep_own
 ·obtain⟨v,_,r⟩:=get i _ e;exact absurd r rep_own
abbrev TD:=SD->(D->Prop)->Prop
abbrev TDT:=SD->(Bool->Prop)->Prop
abbrev TDA:=SD->(List D->Prop)->Prop
structure EndsD where
 nx:SD->Prop
 rt:D->Prop
 bk:SD->Prop:=λ_=>False
 ct:SD->Prop:=λ_=>False
abbrev TSD:=EndsD->SD->Prop
def lE(K:Ax)[J:Jx](t:TD):TE:=λs H Q=>∃ B F z,Kept B J.F0 F H/\RepS K B F H z s/\∃ R:D->Prop,t z R/\∀ d v F' H',Grow F H F' H'->R d->Rep K F' d v->Q v H'
def lT(K:Ax)[J:Jx](t:TDT):TT:=λs H Q=>∃ B F z,Kept B J.F0 F H/\RepS K B F H z s/\∃ R:Bool->Prop,t z R/\∀ b F' H',Grow F H F' H'->R b->Q b H'
def lA(K:Ax)[J:Jx](t:TDA):TA:=λs H Q=>∃ B F z,Kept B J.F0 F H/\RepS K B F H z s/\∃ R:List D->Prop,t z R/\∀ ds vs F' H',Grow F H F' H'->R ds->Reps K F' ds vs->Q vs H'
structure EndsOk[Jx](K:Ax)(B F0:Hp)(ED:EndsD)(E:Ends):Prop where
 nx:∀ z' s' F' H',Kept B F0 F' H'->ED.nx z'->RepS K B F' H' z' s'->E.nx s' H'
 rt:∀ d v F' H',Kept B F0 F' H'->ED.rt d->Rep K F' d v->E.rt v H'
 bk:∀ z' s' F' H',Kept B F0 F' H'->ED.bk z'->RepS K B F' H' z' s'->E.bk s' H'
 ct:∀ z' s' F' H',Kept B F0 F' H'->ED.ct z'->RepS K B F' H' z' s'->E.ct s' H'
def lS(K:Ax)[Jx](t:TSD):TS:=λE s H=>∃ B F0 F z,Kept B F0 F H/\RepS K B F H z s/\∃ ED:EndsD,t ED z/\EndsOk K B F0 ED E
abbrev DE(X:Cx)[Jx](e:Expr)(t:TD):Prop:=PE X e (lE X.K t)
abbrev DT(X:Cx)[Jx](e:Expr)(t:TDT):Prop:=PT X e (lT X.K t)
abbrev DW(X:Cx)[Jx](e:Expr)(t:TDT):Prop:=PW X e (lT X.K t)
abbrev DA(X:Cx)[Jx](es:List Expr)(t:TDA):Prop:=PA X es (lA X.K t)
abbrev DS(X:Cx)[Jx](st:Stmt)(t:TSD):Prop:=PS X st (lS X.K t)
abbrev DSs(X:Cx)[Jx](st:List Stmt)(t:TSD):Prop:=PSs X st (lS X.K t)
structure WDE(X:Cx)[Jx](e:Expr)(t:TD):Prop where
 out:DE X e t
structure WDT(X:Cx)[Jx](e:Expr)(t:TDT):Prop where
 out:DT X e t
structure WDW(X:Cx)[Jx](e:Expr)(t:TDT):Prop where
 out:DW X e t
structure WDA(X:Cx)[Jx](es:List Expr)(t:TDA):Prop where
 out:DA X es t
structure WDS(X:Cx)[Jx](st:Stmt)(t:TSD):Prop where
 out:DS X st t
structure WDSs(X:Cx)[Jx](st:List Stmt)(t:TSD):Prop where
 out:DSs X st t
section
variable {X:Cx}
def okR(R:D->Prop):D->Prop| .own _=>False|d=>R d
def dVar(i:Nat):TD:=λz R=>match z[i]? with|some (some d)=>okR R d|_=>False
def dC(d:D):TD:=λ_ R=>R d
theorem aa[Jx](i:Nat){x:Str}{pos:Pos}(hN:X.N[i]?=some x:=by rfl)(hv:Vis X.env.scope x:=by first|exact Or.inl rfl|exact Or.inr (Or.inl rfl)|exact Or.inr (Or.inr rfl))(hd:zND x:=by decide)
  (f7:zNC x:=by decide):WDE X (.Name x pos) (dVar i):=⟨(dQ hN hv hd f7).anti λs H Q h=>by
 obtain⟨B,F,z,kf,r,R,h1,h2⟩:=h
 have fh:=kf.fh
 unfold dVar at h1
 split at h1
 ·rename_i d e
  have no:fu d=false:=by
   cases d with
   |own ds=>exact False.elim h1
   |_=>rfl
  have Jh:R d:=by
   cases d with
   |own ds=>exact False.elim h1
   |_=>exact h1
  obtain⟨v,q1,q2⟩:=r.val i d e no
  exact⟨v,q1,h2 d v F H (Grow.refl fh) Jh q2⟩
 ·exact h1.elim⟩
theorem de_c[Jx]{e:Expr}{d:D}{v:V}(h:PE X e (tC v))(r:∀ H,Rep X.K H d v):DE X e (dC d):=h.anti λs H Q q=>by
 obtain⟨B,F,z,kf,_,R,h1,h2⟩:=q
 have fh:=kf.fh
 exact h2 d v F H (Grow.refl fh) h1 (r F)
theorem ad[Jx]{i j pos}:WDE X (.Constant (.int i) j pos) (dC (.int i)):=⟨de_c qa λ_=>rep_int.mpr rfl⟩
theorem eA[Jx]{b j pos}:WDE X (.Constant (.bool b) j pos) (dC (.bl b)):=⟨de_c qc λ_=>rep_bl.mpr rfl⟩
theorem bI[Jx]{j pos}:WDE X (.Constant .none j pos) (dC .non):=⟨de_c qd λ_=>rep_non.mpr rfl⟩
theorem aw[Jx]{x j pos}:WDE X (.Constant (.str x) j pos) (dC (.str x)):=⟨de_c lJ λ_=>rep_str.mpr rfl⟩
abbrev RD2:=D->D->(D->Prop)->Prop
def dOp(r:RD2)(ta tb:TD):TD:=λz R=>ta z λx=>tb z λy=>r x y R
def aR(K:Ax)(r:R2)(rd:RD2):Prop:=∀ x y u v F H R Q,Same F H->rd x y R->Rep K F x u->Rep K F y v->(∀ d w F' H',Grow F H F' H'->R d->Rep K F' d w->Q w H')->r u v H Q
theorem ie[Jx]{e:Expr}{r:R2}{rd:RD2}{ta tb:TD}(L:aR X.K r rd)(h:PE X e (tOp r (lE X.K ta) (lE X.K tb))):DE X e (dOp rd ta tb):=h.anti λs H Q q=>by
 obtain⟨B,F,z,kf,rs,R,h1,h2⟩:=q
 have fh:=kf.fh
 refine⟨B,F,z,kf,rs,_,h1,λx u F1 H1 g1 hx rx=>?_⟩
 refine⟨B,F1,z,kf.grow g1,rs.grow g1,_,hx,λy v F2 H2 g2 hy ry=>?_⟩
 exact L x y u v F2 H2 R Q g2.fh hy (rx.mono g2.ff) ry λd w F' H' g3=>h2 d w F' H' (g1.trans (g2.trans g3))
variable {a b c:Expr}{ta tb tc:TD}{pos:Pos}
theorem cG[Jx]{op:Operator}{r:R2}{rd:RD2}(ho:OpR X (binaryOp op) r)(L:aR X.K r rd)(ha:DE X a ta)(hb:DE X b tb):DE X (.BinOp a op b pos) (dOp rd ta tb):=ie L (mi ho ha hb)
theorem mZ[Jx]{op:CmpOp}{r:R2}{rd:RD2}(ho:OpR X (compareOp op) r)(L:aR X.K r rd)(ha:DE X a ta)(hb:DE X b tb)(hm:behindInMarks op b=false):DE X (.Compare a [op] [b] pos) (dOp rd ta tb):=ie L (qP ho ha hb hm)
theorem sI[Jx]{r:R2}{rd:RD2}(hr:IxR X r)(L:aR X.K r rd)(ha:DE X a ta)(hb:DE X b tb)(hs:dY b:=by exact λ_ _=>rfl):DE X (.Subscript a b pos) (dOp rd ta tb):=ie L (pe_ix hr ha hb hs)
def rdAdd:RD2:=λx y R=>match x,y with
 | .int i,.int j=>R (.int (i+j))
 | .str i,.str j=>i.length+j.length<=1000000/\R (.str (i++j))
 | .lst xs,.lst ys=>xs.length+ys.length<=1000000/\R (.lst (xs++ys))
 | .tup xs,.tup ys=>(xs≠[]/\ys≠[]/\xs.length+ys.length<=1000000)/\R (.tup (xs++ys))
 |_,_=>False
def ng(K:Ax):R2:=λx y H Q=>rI0 (λi j=> .int (i+j)) x y H Q\/((λx y H Q=>∃ i j,x= .str i/\y= .str j/\i.length+j.length<=sizeLine/\Q (.str (i++j)) H) x y H Q\/(rCat x y H Q\/mL K x y H Q))
theorem nh:OpR X (binaryOp .Add) (ng X.K):=OpR.or qF (OpR.or qU (OpR.or rY rK))
theorem Reps.append{K:Ax}{F:Hp}:∀ {xs ys:List D} {us vs:List V},Reps K F xs us->Reps K F ys vs->Reps K F (xs++ys) (us++vs)
 |[],ys,us,vs,r1,r2=>by rw[reps_nil.mp r1];exact r2
 |x::xs,ys,us,vs,r1,r2=>by
  obtain⟨u,ur,rfl,a1,a2⟩:=reps_cons.mp r1
  exact reps_cons.mpr ⟨u,ur++vs,rfl,a1,Reps.append a2 r2⟩
theorem Reps.ne_nil{K:Ax}{F:Hp}{xs:List D}{us:List V}(r:Reps K F xs us)(h:xs≠[]):us≠[]:=by
 cases xs with
 |nil=>exact absurd rfl h
 |cons x xs=>obtain⟨u,ur,rfl,_⟩:=reps_cons.mp r;exact λz=>nomatch z
theorem nj{K:Ax}:aR K (ng K) rdAdd:=by
 intro x y u v F H R Q fh h rx ry q
 unfold rdAdd at h
 split at h
 ·exact .inl ⟨_,_,rep_int.mp rx,rep_int.mp ry,q _ _ F H (Grow.refl fh) h (rep_int.mpr rfl)⟩
 ·exact .inr (.inl ⟨_,_,rep_str.mp rx,rep_str.mp ry,AK h.1 (by decide),q _ _ F H (Grow.refl fh) h.2 (rep_str.mpr rfl)⟩)
 ·obtain⟨a,us,rfl,hq,rr⟩:=rep_lst.mp rx
  obtain⟨b,vs,rfl,n6,p6⟩:=rep_lst.mp ry
  refine .inr (.inr (.inl ⟨a,b,us,vs,rfl,rfl,fh _ _ hq,fh _ _ n6,by rw[rr.length,p6.length];exact AK h.1 (by decide),λp hp=>?_⟩))
  exact q _ _ _ _ (Grow.new fh hp _) h.2 (rep_lst.mpr ⟨p,_,rfl,az,(rr.append p6).mono (aO (fh.free hp) _)⟩)
 ·obtain⟨a,us,rfl,hq,rr⟩:=rep_tup_mp rx
  obtain⟨b,vs,rfl,n6,p6⟩:=rep_tup_mp ry
  obtain⟨⟨n1,n2,hz⟩,h⟩:=h
  refine .inr (.inr (.inr ⟨a,b,us,vs,rfl,rfl,fh.tup hq,fh.tup n6,rr.ne_nil n1,by rw[rr.length,p6.length];exact AK hz (by decide),λz=>absurd z (p6.ne_nil n2),λ_ p hp=>?_⟩))
  exact q _ _ _ _ (Grow.new fh hp _) h (rep_tupS.mpr ⟨p,_,rfl,az,(rr.append p6).mono (aO (fh.free hp) _)⟩)
 ·exact h.elim
theorem am[Jx](ha:WDE X a ta)(hb:WDE X b tb):WDE X (.BinOp a .Add b pos) (dOp rdAdd ta tb):=⟨have ha:=ha.out;have hb:=hb.out;cG nh nj ha hb⟩
def rdSub:RD2:=λx y R=>match x,y with| .int i,.int j=>R (.int (i - j))|_,_=>False
theorem nn{K:Ax}:aR K (rI0 λi j=> .int (i - j)) rdSub:=by
 intro x y u v F H R Q fh h rx ry q
 unfold rdSub at h
 split at h
 ·exact⟨_,_,rep_int.mp rx,rep_int.mp ry,q _ _ F H (Grow.refl fh) h (rep_int.mpr rfl)⟩
 ·exact h.elim
theorem bg[Jx](ha:WDE X a ta)(hb:WDE X b tb):WDE X (.BinOp a .Sub b pos) (dOp rdSub ta tb):=⟨have ha:=ha.out;have hb:=hb.out;cG mj nn ha hb⟩
def rdMul:RD2:=λx y R=>match x,y with| .int i,.int j=>CMul i j/\R (.int (i*j))|_,_=>False
theorem sJ{K:Ax}:aR K (rI CMul λi j=> .int (i*j)) rdMul:=by
 intro x y u v F H R Q fh h rx ry q
 unfold rdMul at h
 split at h
 ·exact⟨_,_,rep_int.mp rx,rep_int.mp ry,h.1,q _ _ F H (Grow.refl fh) h.2 (rep_int.mpr rfl)⟩
 ·exact h.elim
theorem av[Jx](ha:WDE X a ta)(hb:WDE X b tb):WDE X (.BinOp a .Mult b pos) (dOp rdMul ta tb):=⟨have ha:=ha.out;have hb:=hb.out;cG qG sJ ha hb⟩
def rdFdiv:RD2:=λx y R=>match x,y with| .int i,.int j=>(0<j/\j<1073741824)/\R (.int (i / j))|_,_=>False
theorem sK{K:Ax}:aR K (rI CDiv λi j=> .int (i / j)) rdFdiv:=by
 intro x y u v F H R Q fh h rx ry q
 unfold rdFdiv at h
 split at h
 ·exact⟨_,_,rep_int.mp rx,rep_int.mp ry,h.1,q _ _ F H (Grow.refl fh) h.2 (rep_int.mpr rfl)⟩
 ·exact h.elim
theorem aW[Jx](ha:WDE X a ta)(hb:WDE X b tb):WDE X (.BinOp a .FloorDiv b pos) (dOp rdFdiv ta tb):=⟨have ha:=ha.out;have hb:=hb.out;cG qH sK ha hb⟩
def nq(i j:Int):Prop:=j≠0/\j.natAbs<4611686018427387904
theorem sL:OpR X (binaryOp .FloorDiv) (rI nq λi j=> .int (i.fdiv j)):=opI λ_ j _ _ _ _ _ hc q=>floordiv_int hc.1 q (.inl (PyProof.noPylong_of_log2 (CD ((CG (λz=>hc.1 (CH.mp z))).mpr (show j.natAbs<2 ^ 62 from hc.2)) (by decide))))
def rdFdivN:RD2:=λx y R=>match x,y with| .int i,.int j=>(j≠0/\j.natAbs<4611686018427387904)/\R (.int (i.fdiv j))|_,_=>False
theorem sM{K:Ax}:aR K (rI nq λi j=> .int (i.fdiv j)) rdFdivN:=by
 intro x y u v F H R Q fh h rx ry q
 unfold rdFdivN at h
 split at h
 ·exact⟨_,_,rep_int.mp rx,rep_int.mp ry,h.1,q _ _ F H (Grow.refl fh) h.2 (rep_int.mpr rfl)⟩
 ·exact h.elim
theorem sN[Jx](ha:WDE X a ta)(hb:WDE X b tb):WDE X (.BinOp a .FloorDiv b pos) (dOp rdFdivN ta tb):=⟨have ha:=ha.out;have hb:=hb.out;cG sL sM ha hb⟩
def rdMod:RD2:=λx y R=>match x,y with| .int i,.int j=>0<j/\R (.int (i % j))|_,_=>False
theorem sO{K:Ax}:aR K (rI (λ_ j=>0<j) λi j=> .int (i % j)) rdMod:=by
 intro x y u v F H R Q fh h rx ry q
 unfold rdMod at h
 split at h
 ·exact⟨_,_,rep_int.mp rx,rep_int.mp ry,h.1,q _ _ F H (Grow.refl fh) h.2 (rep_int.mpr rfl)⟩
 ·exact h.elim
theorem ax[Jx](ha:WDE X a ta)(hb:WDE X b tb):WDE X (.BinOp a .Mod b pos) (dOp rdMod ta tb):=⟨have ha:=ha.out;have hb:=hb.out;cG qI sO ha hb⟩
def rdModN:RD2:=λx y R=>match x,y with| .int i,.int j=>j≠0/\R (.int (i.fmod j))|_,_=>False
theorem sP{K:Ax}:aR K (rI (λ_ j=>j≠0) λi j=> .int (i.fmod j)) rdModN:=by
 intro x y u v F H R Q fh h rx ry q
 unfold rdModN at h
 split at h
 ·exact⟨_,_,rep_int.mp rx,rep_int.mp ry,h.1,q _ _ F H (Grow.refl fh) h.2 (rep_int.mpr rfl)⟩
 ·exact h.elim
theorem nt[Jx](ha:WDE X a ta)(hb:WDE X b tb):WDE X (.BinOp a .Mod b pos) (dOp rdModN ta tb):=⟨have ha:=ha.out;have hb:=hb.out;cG qJ sP ha hb⟩
def rdLt:RD2:=λx y R=>match x,y with| .int i,.int j=>R (.bl (decide (i<j)))|_,_=>False
theorem nu{K:Ax}:aR K (rI0 λi j=> .bl (decide (i<j))) rdLt:=by
 intro x y u v F H R Q fh h rx ry q
 unfold rdLt at h
 split at h
 ·exact⟨_,_,rep_int.mp rx,rep_int.mp ry,q _ _ F H (Grow.refl fh) h (rep_bl.mpr rfl)⟩
 ·exact h.elim
def rdLe:RD2:=λx y R=>match x,y with| .int i,.int j=>R (.bl (decide (i<=j)))|_,_=>False
theorem sQ{K:Ax}:aR K (rI0 λi j=> .bl (decide (i<=j))) rdLe:=by
 intro x y u v F H R Q fh h rx ry q
 unfold rdLe at h
 split at h
 ·exact⟨_,_,rep_int.mp rx,rep_int.mp ry,q _ _ F H (Grow.refl fh) h (rep_bl.mpr rfl)⟩
 ·exact h.elim
def rdGt:RD2:=λx y R=>match x,y with| .int i,.int j=>R (.bl (decide (j<i)))|_,_=>False
theorem sR{K:Ax}:aR K (rI0 λi j=> .bl (decide (j<i))) rdGt:=by
 intro x y u v F H R Q fh h rx ry q
 unfold rdGt at h
 split at h
 ·exact⟨_,_,rep_int.mp rx,rep_int.mp ry,q _ _ F H (Grow.refl fh) h (rep_bl.mpr rfl)⟩
 ·exact h.elim
def rdGe:RD2:=λx y R=>match x,y with| .int i,.int j=>R (.bl (decide (j<=i)))|_,_=>False
theorem sS{K:Ax}:aR K (rI0 λi j=> .bl (decide (j<=i))) rdGe:=by
 intro x y u v F H R Q fh h rx ry q
 unfold rdGe at h
 split at h
 ·exact⟨_,_,rep_int.mp rx,rep_int.mp ry,q _ _ F H (Grow.refl fh) h (rep_bl.mpr rfl)⟩
 ·exact h.elim
def rdEq:RD2:=λx y R=>match x,y with
 | .int i,.int j=>R (.bl (decide (i=j)))
 | .bl i,.bl j=>R (.bl (decide (i=j)))
 | .str i,.str j=>R (.bl (decide (i=j)))
 | .non,.non=>R (.bl true)
 |_,_=>False
def rdNe:RD2:=λx y R=>match x,y with
 | .int i,.int j=>R (.bl (!decide (i=j)))
 | .bl i,.bl j=>R (.bl (!decide (i=j)))
 | .str i,.str j=>R (.bl (!decide (i=j)))
 | .non,.non=>R (.bl false)
 |_,_=>False
theorem ig{K:Ax}:aR K rEq rdEq:=by
 intro x y u v F H R Q fh h rx ry q
 unfold rdEq at h
 split at h
 ·rw[rep_int.mp rx,rep_int.mp ry]
  refine⟨rfl,q _ _ F H (Grow.refl fh) h (rep_bl.mpr ?_)⟩
  simp
 ·rw[rep_bl.mp rx,rep_bl.mp ry]
  refine⟨rfl,q _ _ F H (Grow.refl fh) h (rep_bl.mpr ?_)⟩
  simp
 ·rw[rep_str.mp rx,rep_str.mp ry]
  refine⟨rfl,q _ _ F H (Grow.refl fh) h (rep_bl.mpr ?_)⟩
  simp
 ·rw[rep_non.mp rx,rep_non.mp ry]
  refine⟨rfl,q _ _ F H (Grow.refl fh) h (rep_bl.mpr ?_)⟩
  simp
 ·exact h.elim
theorem sT{K:Ax}:aR K rNe rdNe:=by
 intro x y u v F H R Q fh h rx ry q
 unfold rdNe at h
 split at h
 ·rw[rep_int.mp rx,rep_int.mp ry]
  refine⟨rfl,q _ _ F H (Grow.refl fh) h (rep_bl.mpr ?_)⟩
  simp
 ·rw[rep_bl.mp rx,rep_bl.mp ry]
  refine⟨rfl,q _ _ F H (Grow.refl fh) h (rep_bl.mpr ?_)⟩
  simp
 ·rw[rep_str.mp rx,rep_str.mp ry]
  refine⟨rfl,q _ _ F H (Grow.refl fh) h (rep_bl.mpr ?_)⟩
  simp
 ·rw[rep_non.mp rx,rep_non.mp ry]
  refine⟨rfl,q _ _ F H (Grow.refl fh) h (rep_bl.mpr ?_)⟩
  simp
 ·exact h.elim
theorem cH[Jx](ha:WDE X a ta)(hb:WDE X b tb):WDE X (.Compare a [.Eq] [b] pos) (dOp rdEq ta tb):=⟨have ha:=ha.out;have hb:=hb.out;mZ gU ig ha hb (nomark _)⟩
def nv:D->Bool| .non=>true|_=>false
def rdIs(f:Bool->Bool):RD2:=λx y R=>match y with| .non=>R (.bl (f (nv x)))|_=>False
theorem sU{K:Ax}{H:Hp}{x:D}{u:V}(r:Rep K H x u):decide (u= .non)=nv x:=by
 cases x with
 |non=>rw[rep_non.mp r];rfl
 |bl b=>rw[rep_bl.mp r];rfl
 |int b=>rw[rep_int.mp r];rfl
 |str b=>rw[rep_str.mp r];rfl
 |tup b=>obtain⟨a,vs,rfl,_⟩:=rep_tup_mp r;rfl
 |lst b=>obtain⟨a,vs,rfl,_⟩:=rep_lst.mp r;rfl
 |rol b=>obtain⟨a,vs,rfl,_⟩:=rep_rol.mp r;rfl
 |obj C b=>obtain⟨a,C,dx,vs,rfl,_⟩:=rep_obj.mp r;rfl
 |exc C b=>obtain⟨a,C,od,vs,rfl,_⟩:=rep_exc.mp r;rfl
 |own b=>exact absurd r rep_own
 |ptr b=>rw[rep_ptr.mp r];rfl
 |dti b=>obtain⟨a,rfl,_⟩:=rep_dti.mp r;rfl
theorem ii{K:Ax}:aR K (λx y H Q=>y= .non/\Q (.bl (decide (x= .non))) H) (rdIs id):=by
 intro x y u v F H R Q fh h rx ry q
 unfold rdIs at h
 split at h
 ·exact⟨rep_non.mp ry,q _ _ F H (Grow.refl fh) h (rep_bl.mpr (by rw[sU rx];rfl))⟩
 ·exact h.elim
theorem sV[Jx](ha:WDE X a ta)(hb:WDE X b tb):WDE X (.Compare a [.Is] [b] pos) (dOp (rdIs id) ta tb):=⟨have ha:=ha.out;have hb:=hb.out;mZ gW ii ha hb (nomark _)⟩
def rdIx:RD2:=λx y R=>match x,y with
 | .tup ds,.int i=>∃ d,atI ds i=some d/\R d
 | .lst ds,.int i=>∃ d,atI ds i=some d/\R d
 | .rol ds,.int i=>∃ d,atI ds i=some d/\R d
 | .str x,.int i=>∃ c,(x.length<=1000000/\atI x.cps.toList i=some c)/\R (.str ⟨#[c]⟩)
 |_,_=>False
theorem Reps.at{K:Ax}{H:Hp}{ds:List D}{vs:List V}{i:Int}{d:D}(r:Reps K H ds vs)(e:atI ds i=some d):∃ v,atI vs i=some v/\Rep K H d v:=by
 unfold atI at e ⊢
 rw[r.length]
 cases q:ixN ds.length i with
 |none=>rw[q] at e;cases e
 |some j=>
  rw[q] at e
  exact r.get e
theorem nw{K:Ax}:aR K (rIx K) rdIx:=by
 intro x y u v F H R Q fh h rx ry q
 unfold rdIx at h
 split at h
 ·obtain⟨d,e,h⟩:=h
  obtain⟨a,vs,e1,hq,rs⟩:=rep_tup_mp rx
  obtain⟨w,e2,m_⟩:=rs.at e
  exact .inr (.inl ⟨a,vs,_,w,e1,rep_int.mp ry,fh.tup hq,e2,q d w F H (Grow.refl fh) h m_⟩)
 ·obtain⟨d,e,h⟩:=h
  obtain⟨a,vs,e1,hq,rs⟩:=rep_lst.mp rx
  obtain⟨w,e2,m_⟩:=rs.at e
  exact .inl ⟨a,vs,_,w,e1,rep_int.mp ry,fh.seq (SqL.of hq),e2,q d w F H (Grow.refl fh) h m_⟩
 ·obtain⟨d,e,h⟩:=h
  obtain⟨a,vs,e1,hq,rs⟩:=rep_rol.mp rx
  obtain⟨w,e2,m_⟩:=rs.at e
  exact .inl ⟨a,vs,_,w,e1,rep_int.mp ry,fh.seq hq,e2,q d w F H (Grow.refl fh) h m_⟩
 ·obtain⟨c,⟨hz,e⟩,h⟩:=h
  exact .inr (.inr ⟨_,_,c,rep_str.mp rx,rep_int.mp ry,AK hz (by decide),e,q _ _ F H (Grow.refl fh) h (rep_str.mpr rfl)⟩)
 ·exact h.elim
theorem af[Jx](ha:WDE X a ta)(hb:WDE X b tb)(hs:dY b:=by exact λ_ _=>rfl):WDE X (.Subscript a b pos) (dOp rdIx ta tb):=⟨have ha:=ha.out;have hb:=hb.out;sI mM nw ha hb hs⟩
def dUn(r:D->(D->Prop)->Prop)(ta:TD):TD:=λz R=>ta z λx=>r x R
def ny:D->(D->Prop)->Prop:=λx R=>match x with| .int i=>R (.int (-i))|_=>False
theorem bD[Jx](ha:WDE X a ta):WDE X (.UnaryOp .USub a pos) (dUn ny ta):=⟨have ha:=ha.out;(qE qK ha).anti λs H Q h=>by
 obtain⟨B,F,z,kf,rs,R,h1,h2⟩:=h
 have fh:=kf.fh
 refine⟨B,F,z,kf,rs,_,h1,λx u F1 H1 g1 hx rx=>?_⟩
 unfold ny at hx
 split at hx
 ·exact⟨_,rep_int.mp rx,h2 _ _ F1 H1 g1 hx (rep_int.mpr rfl)⟩
 ·exact hx.elim⟩
def dNil:TDA:=λ_ R=>R []
def sW(ta:TD)(tr:TDA):TDA:=λz R=>ta z λx=>tr z λxs=>R (x::xs)
theorem ae[Jx]:WDA X [] dNil:=⟨pa_nil.anti λs H Q h=>by
 obtain⟨B,F,z,kf,rs,R,h1,h2⟩:=h
 have fh:=kf.fh
 exact h2 [] [] F H (Grow.refl fh) h1 (reps_nil.mpr rfl)⟩
theorem ac[Jx]{e:Expr}{es:List Expr}{te:TD}{t:TDA}(ha:WDE X e te)(hr:WDA X es t)(hs:zSE X e es:=by rfl):WDA X (e::es) (sW te t):=⟨have ha:=ha.out;have hr:=hr.out;(bn ha hr hs).anti λs H Q h=>by
 obtain⟨B,F,z,kf,rs,R,h1,h2⟩:=h
 have fh:=kf.fh
 refine⟨B,F,z,kf,rs,_,h1,λx u F1 H1 g1 hx rx=>?_⟩
 refine⟨B,F1,z,kf.grow g1,rs.grow g1,_,hx,λxs us F2 H2 g2 hy ry=>?_⟩
 exact h2 _ _ F2 H2 (g1.trans g2) hy (reps_cons.mpr ⟨_,_,rfl,rx.mono g2.ff,ry⟩)⟩
def dTup(t:TDA):TD:=λz R=>t z λxs=>xs.length<=1000/\R (.tup xs)
def dLst(t:TDA):TD:=λz R=>t z λxs=>xs.length<=1000/\R (.lst xs)
theorem ao[Jx]{es:List Expr}{t:TDA}{x1}(h:WDA X es t):WDE X (.Tuple es x1 pos) (dTup t):=⟨have h:=h.out;(mF h).anti λs H Q q=>by
 obtain⟨B,F,z,kf,rs,R,h1,h2⟩:=q
 have fh:=kf.fh
 refine⟨B,F,z,kf,rs,_,h1,λds vs F1 H1 g1 hx rx=>?_⟩
 have hl:=rx.length
 refine⟨sz (by rw[hl];exact hx.1),λp hp=>?_⟩
 exact h2 _ _ _ _ (g1.trans (Grow.new g1.fh hp _)) hx.2 (rep_tupS.mpr ⟨p,vs,rfl,az,rx.mono (aO (g1.fh.free hp) _)⟩)⟩
theorem aD[Jx]{es:List Expr}{t:TDA}(h:WDA X es t):WDE X (.List es pos) (dLst t):=⟨have h:=h.out;(hU h).anti λs H Q q=>by
 obtain⟨B,F,z,kf,rs,R,h1,h2⟩:=q
 have fh:=kf.fh
 refine⟨B,F,z,kf,rs,_,h1,λds vs F1 H1 g1 hx rx=>?_⟩
 have hl:=rx.length
 refine⟨sz (by rw[hl];exact hx.1),λp hp=>?_⟩
 exact h2 _ _ _ _ (g1.trans (Grow.new g1.fh hp _)) hx.2 (rep_lst.mpr ⟨p,vs,rfl,az,rx.mono (aO (g1.fh.free hp) _)⟩)⟩
abbrev SpD:=List D->(D->Prop)->Prop
def lSp(K:Ax)(S:SpD):Sp:=λvs H Q _=>∃ F ds,Same F H/\Reps K F ds vs/\∃ R:D->Prop,S ds R/\∀ d v F' H',Grow F H F' H'->R d->Rep K F' d v->Q v H'
def sX(S:SpD)(t:TDA):TD:=λz R=>t z λds=>S ds R
abbrev CalD(P:Program)(w:World)(K:Ax)(mg:Str->Option Value)(base:Heap)(n:Nat)(x:Str)(ps:List Str)(S:SpD):Prop:=Cal P w K mg base n x ps (lSp K S)
theorem aA[Jx]{n m:Nat}{ps:List Str}{S:SpD}{x:Str}{p:Pos}{e:Expr}{es:List Expr}{t:TDA}(C:CalD X.prog X.w X.K X.mg X.base n x ps S)(hr:Room m X.A)(ha:WDA X (e::es) t)(hg:Gl X x:=by rfl)(hn:n<=m:=by decide)(c_:zND x:=by decide)
  (he:zSE X e es:=by rfl) (b9:zPL X pos es:=by rfl):WDE X (.Call (.Name x p) (e::es) [] pos) (sX S t):=⟨have ha:=ha.out;(sH C hr ha hg hn c_ he b9).anti λs H Q h=>by
 obtain⟨B,F,z,kf,rs,R,h1,h2⟩:=h
 have fh:=kf.fh
 refine⟨B,F,z,kf,rs,_,h1,λds vs F1 H1 g1 hx rx=>?_⟩
 exact⟨F1,ds,g1.fh,by rw[A8];exact rx,R,hx,λd v F' H' g=>h2 d v F' H' (g1.trans g)⟩⟩
abbrev RDn:=List D->(D->Prop)->Prop
def bZ(K:Ax)(r:List V->Hp->VK->Prop)(rd:RDn):Prop:=∀ ds vs F H R Q,Same F H->rd ds R->Reps K F ds vs->(∀ d w F' H',Grow F H F' H'->R d->Rep K F' d w->Q w H')->r vs H Q
def dCB(r:RDn)(t:TDA):TD:=λz R=>t z λds=>r ds R
theorem nz[Jx]{x:Str}{p:Pos}{e:Expr}{es:List Expr}{t:TDA}{id:String}{r:List V->Hp->VK->Prop}{rd:RDn}(hc:bx X (.builtin id) r)(L:bZ X.K r rd)(hm:X.mg x=none)(hv:bootBuiltins x=some (.builtin id))(ha:DA X (e::es) t)(hg:Gl X x:=by rfl)(hn:x≠"__name__":=by decide)(c_:zND x:=by decide)
  (he:zSE X e es:=by rfl) (b9:zPL X pos es:=by rfl):DE X (.Call (.Name x p) (e::es) [] pos) (dCB rd t):=(dW hc hg hm hv ha hn c_ he b9).anti λs H Q h=>by
 obtain⟨B,F,z,kf,rs,R,h1,h2⟩:=h
 have fh:=kf.fh
 refine⟨B,F,z,kf,rs,_,h1,λds vs F1 H1 g1 hx rx=>?_⟩
 exact L ds vs F1 H1 R Q g1.fh hx rx λd w F' H' g=>h2 d w F' H' (g1.trans g)
def rdLen:RDn:=λds R=>match ds with
 |[.tup xs]=>R (.int xs.length)
 |[.lst xs]=>R (.int xs.length)
 |[.rol xs]=>R (.int xs.length)
 |[.str x]=>x.length<=1000000/\R (.int x.length)
 |_=>False
theorem nA{K:Ax}:bZ K (λxs H Q=>∃ x n,xs=[x]/\LenV K x H n/\Q (.int n) H) rdLen:=by
 intro ds vs F H R Q fh h rx q
 unfold rdLen at h
 split at h
 ·obtain⟨v,r,rfl,h1,h2⟩:=reps_cons.mp rx
  rw[reps_nil.mp h2]
  obtain⟨a,us,rfl,hq,rs⟩:=rep_tup_mp h1
  exact⟨.ref a,us.length,rfl,.inr ⟨us,fh.tup hq,rfl⟩,q _ _ F H (Grow.refl fh) h (rep_int.mpr (by rw[rs.length]))⟩
 ·obtain⟨v,r,rfl,h1,h2⟩:=reps_cons.mp rx
  rw[reps_nil.mp h2]
  obtain⟨a,us,rfl,hq,rs⟩:=rep_lst.mp h1
  exact⟨.ref a,us.length,rfl,.inl ⟨us,fh.seq (SqL.of hq),rfl⟩,q _ _ F H (Grow.refl fh) h (rep_int.mpr (by rw[rs.length]))⟩
 ·obtain⟨v,r,rfl,h1,h2⟩:=reps_cons.mp rx
  rw[reps_nil.mp h2]
  obtain⟨a,us,rfl,hq,rs⟩:=rep_rol.mp h1
  exact⟨.ref a,us.length,rfl,.inl ⟨us,fh.seq hq,rfl⟩,q _ _ F H (Grow.refl fh) h (rep_int.mpr (by rw[rs.length]))⟩
 ·obtain⟨v,r,rfl,h1,h2⟩:=reps_cons.mp rx
  rw[reps_nil.mp h2,rep_str.mp h1]
  exact⟨.str _,_,rfl,⟨AK h.1 (by decide),rfl⟩,q _ _ F H (Grow.refl fh) h.2 (rep_int.mpr rfl)⟩
 ·exact h.elim
theorem dh[Jx]{p:Pos}{e:Expr}{t:TDA}(hm:X.mg "len"=none)(ha:WDA X [e] t)(hg:Gl X "len":=by rfl)(he:zSE X e []:=by rfl):WDE X (.Call (.Name "len" p) [e] [] pos) (dCB rdLen t):=⟨have ha:=ha.out;nz gY nA hm PySem.boot_len ha hg (by decide) (by decide) he⟩
def rdAbs:RDn:=λds R=>match ds with
 |[.int i]=>R (.int (if i<0 then -i else i))
 |_=>False
theorem sY{K:Ax}:bZ K (λxs H Q=>∃ i,xs=[.int i]/\Q (.int (if i<0 then -i else i)) H) rdAbs:=by
 intro ds vs F H R Q fh h rx q
 unfold rdAbs at h
 split at h
 ·obtain⟨v,r,rfl,h1,h2⟩:=reps_cons.mp rx
  rw[reps_nil.mp h2,rep_int.mp h1]
  exact⟨_,rfl,q _ _ F H (Grow.refl fh) h (rep_int.mpr rfl)⟩
 ·exact h.elim
theorem fv[Jx]{p:Pos}{e:Expr}{t:TDA}(hm:X.mg "abs"=none)(ha:WDA X [e] t)(hg:Gl X "abs":=by rfl)(he:zSE X e []:=by rfl):WDE X (.Call (.Name "abs" p) [e] [] pos) (dCB rdAbs t):=⟨have ha:=ha.out;nz qV sY hm PyProof.Rows.boot_abs ha hg (by decide) (by decide) he⟩
end
section
variable {X:Cx}{a b c e:Expr}{ta tb tc te:TD}{pos:Pos}
def dTst(t:TD):TDT:=λz R=>t z λx=>match x with| .bl k=>R k|_=>False
theorem cI[Jx]{op:CmpOp}{r:R2}{rd:RD2}(ho:OpR X (compareOp op) r)(L:aR X.K r rd)(ha:DE X a ta)(hb:DE X b tb)(hm:behindInMarks op b=false):DT X (.Compare a [op] [b] pos) (dTst (dOp rd ta tb)):=(mv ho ha hb hm).anti λs H Q q=>by
 obtain⟨B,F,z,kf,rs,R,h1,h2⟩:=q
 have fh:=kf.fh
 refine⟨B,F,z,kf,rs,_,h1,λx u F1 H1 g1 hx rx=>?_⟩
 refine⟨B,F1,z,kf.grow g1,rs.grow g1,_,hx,λy v F2 H2 g2 hy ry=>?_⟩
 refine L x y u v F2 H2 _ _ g2.fh hy (rx.mono g2.ff) ry λd w F' H' g3 hd rd=>?_
 split at hd
 ·exact⟨_,rep_bl.mp rd,h2 _ F' H' (g1.trans (g2.trans g3)) hd⟩
 ·exact hd.elim
theorem eB[Jx](ha:WDE X a ta)(hb:WDE X b tb):WDT X (.Compare a [.Lt] [b] pos) (dTst (dOp rdLt ta tb)):=⟨have ha:=ha.out;have hb:=hb.out;cI mq nu ha hb (nomark _)⟩
theorem sZ[Jx](ha:WDE X a ta)(hb:WDE X b tb):WDT X (.Compare a [.LtE] [b] pos) (dTst (dOp rdLe ta tb)):=⟨have ha:=ha.out;have hb:=hb.out;cI qM sQ ha hb (nomark _)⟩
theorem tf[Jx](ha:WDE X a ta)(hb:WDE X b tb):WDT X (.Compare a [.Gt] [b] pos) (dTst (dOp rdGt ta tb)):=⟨have ha:=ha.out;have hb:=hb.out;cI qN sR ha hb (nomark _)⟩
theorem tm[Jx](ha:WDE X a ta)(hb:WDE X b tb):WDT X (.Compare a [.GtE] [b] pos) (dTst (dOp rdGe ta tb)):=⟨have ha:=ha.out;have hb:=hb.out;cI qO sS ha hb (nomark _)⟩
theorem bp[Jx](ha:WDE X a ta)(hb:WDE X b tb):WDT X (.Compare a [.Eq] [b] pos) (dTst (dOp rdEq ta tb)):=⟨have ha:=ha.out;have hb:=hb.out;cI gU ig ha hb (nomark _)⟩
theorem cJ[Jx](ha:WDE X a ta)(hb:WDE X b tb):WDT X (.Compare a [.NotEq] [b] pos) (dTst (dOp rdNe ta tb)):=⟨have ha:=ha.out;have hb:=hb.out;cI qL sT ha hb (nomark _)⟩
theorem ij[Jx](ha:WDE X a ta)(hb:WDE X b tb):WDT X (.Compare a [.Is] [b] pos) (dTst (dOp (rdIs id) ta tb)):=⟨have ha:=ha.out;have hb:=hb.out;cI gW ii ha hb (nomark _)⟩
def dTru(t:TD):TDT:=λz R=>t z λx=>match x with
 | .non=>R false
 | .bl k=>R k
 | .int i=>R (i !=0)
 | .str y=>y.length<=1000/\R ((y.length:Int) !=0)
 | .tup xs=>R (!xs.isEmpty)
 | .lst xs=>R (!xs.isEmpty)
 | .rol xs=>R (!xs.isEmpty)
 |_=>False
theorem Reps.isEmpty{K:Ax}{H:Hp}{ds:List D}{vs:List V}(r:Reps K H ds vs):vs.isEmpty=ds.isEmpty:=by
 cases ds with
 |nil=>rw[reps_nil.mp r];rfl
 |cons d ds=>obtain⟨v,r',rfl,_⟩:=reps_cons.mp r;rfl
theorem cv[Jx](ha:WDE X a ta)(he:∀ e_,isTrue a X.env e_=(do let v <- e_;standAt a.pos;holding [v] (truthy v)):=by exact λ_=>rfl):WDT X a (dTru ta):=⟨have ha:=ha.out;(qT ha he).anti λs H Q q=>by
 obtain⟨B,F,z,kf,rs,R,h1,h2⟩:=q
 have fh:=kf.fh
 refine⟨B,F,z,kf,rs,_,h1,λx u F1 H1 g1 hx rx=>?_⟩
 split at hx
 ·rw[rep_non.mp rx];exact⟨false,rfl,h2 _ F1 H1 g1 hx⟩
 ·rw[rep_bl.mp rx];exact⟨_,rfl,h2 _ F1 H1 g1 hx⟩
 ·rw[rep_int.mp rx];exact⟨_,rfl,h2 _ F1 H1 g1 hx⟩
 ·rw[rep_str.mp rx];exact⟨_,⟨sz hx.1,rfl⟩,h2 _ F1 H1 g1 hx.2⟩
 ·obtain⟨p,vs,rfl,hq,rr⟩:=rep_tup_mp rx
  exact⟨_,.inr (.inl ⟨vs,g1.fh.tup hq,by rw[rr.isEmpty]⟩),h2 _ F1 H1 g1 hx⟩
 ·obtain⟨p,vs,rfl,hq,rr⟩:=rep_lst.mp rx
  exact⟨_,.inl ⟨vs,g1.fh.seq (SqL.of hq),by rw[rr.isEmpty]⟩,h2 _ F1 H1 g1 hx⟩
 ·obtain⟨p,vs,rfl,hq,rr⟩:=rep_rol.mp rx
  exact⟨_,.inl ⟨vs,g1.fh.seq hq,by rw[rr.isEmpty]⟩,h2 _ F1 H1 g1 hx⟩
 ·exact hx.elim⟩
variable {tA A':TDT}{rest:List Expr}
def dOr(t u:TDT):TDT:=λz R=>t z λc=>if c=true then R true else u z R
def dNot(t:TDT):TDT:=λz R=>t z λc=>R (!c)
theorem fw[Jx](ha:WDT X a tA):WDW X (.BoolOp .Or [a] pos) tA:=⟨have ha:=ha.out;lL ha⟩
theorem eE[Jx](ha:WDT X a tA)(hb:WDW X (.BoolOp .Or (b::rest) pos) A'):WDW X (.BoolOp .Or (a::b::rest) pos) (dOr tA A'):=⟨have ha:=ha.out;have hb:=hb.out;(lM ha hb).anti λs H Q q=>by
 obtain⟨B,F,z,kf,rs,R,h1,h2⟩:=q
 have fh:=kf.fh
 refine⟨B,F,z,kf,rs,_,h1,λk F1 H1 g1 hx=>?_⟩
 cases k with
 |false=>exact⟨B,F1,z,kf.grow g1,rs.grow g1,R,hx,λb F' H' g=>h2 b F' H' (g1.trans g)⟩
 |true=>exact h2 _ F1 H1 g1 hx⟩
theorem fz[Jx](h:WDW X a tA):WDT X a tA:=⟨have h:=h.out;PW.pt h⟩
theorem dm[Jx](ha:WDT X a tA):WDT X (.UnaryOp .Not a pos) (dNot tA):=⟨have ha:=ha.out;(qh ha).anti λs H Q q=>by
 obtain⟨B,F,z,kf,rs,R,h1,h2⟩:=q
 have fh:=kf.fh
 exact⟨B,F,z,kf,rs,_,h1,λk F1 H1 g1 hx=>h2 _ F1 H1 g1 hx⟩⟩
def tw(ta tb:TD):TD:=λz R=>ta z λx=>match x with| .bl k=>if k=true then tb z R else R (.bl false)|_=>False
def tz(ta:TD):TD:=λz R=>ta z λx=>match x with| .bl k=>R (.bl (!k))|_=>False
theorem fA[Jx]{op}(h:WDE X a ta):WDE X (.BoolOp op [a] pos) ta:=⟨have h:=h.out;qk h⟩
theorem fB[Jx](ha:WDE X a ta)(hb:WDE X (.BoolOp .And (b::rest) pos) tb):WDE X (.BoolOp .And (a::b::rest) pos) (tw ta tb):=⟨have ha:=ha.out;have hb:=hb.out;(ql ha hb).anti λs H Q q=>by
 obtain⟨B,F,z,kf,rs,R,h1,h2⟩:=q
 have fh:=kf.fh
 refine⟨B,F,z,kf,rs,_,h1,λx u F1 H1 g1 hx rx=>?_⟩
 split at hx
 ·rename_i k
  refine⟨k,rep_bl.mp rx,?_⟩
  cases k with
  |true=>exact⟨B,F1,z,kf.grow g1,rs.grow g1,R,hx,λd v F' H' g=>h2 d v F' H' (g1.trans g)⟩
  |false=>exact h2 _ _ F1 H1 g1 hx (rep_bl.mpr rfl)
 ·exact hx.elim⟩
theorem tD[Jx](ha:WDE X a ta):WDE X (.UnaryOp .Not a pos) (tz ta):=⟨have ha:=ha.out;(qm ha).anti λs H Q q=>by
 obtain⟨B,F,z,kf,rs,R,h1,h2⟩:=q
 have fh:=kf.fh
 refine⟨B,F,z,kf,rs,_,h1,λx u F1 H1 g1 hx rx=>?_⟩
 split at hx
 ·exact⟨_,rep_bl.mp rx,h2 _ _ F1 H1 g1 hx (rep_bl.mpr rfl)⟩
 ·exact hx.elim⟩
def tyD:D->String
 | .non=>"NoneType"| .bl _=>"bool"| .int _=>"int"| .str _=>"str"| .tup _=>"tuple"| .lst _=>"list"| .rol _=>"list"| .obj _ _=>"object"| .exc _ _=>"object"| .own _=>"list"| .ptr _=>"object"| .dti _=>"dict"
def cK(t:String)(x:D):Bool:=tyD x==t||(tyD x=="bool" && t=="int")
def TyQ(K:Ax)(H:Hp)(x:V)(t:String):Prop:=TyOf K H x (.type t)\/(t="tuple"/\∃ a xs,x= .ref a/\SqT K H a xs)\/(t="list"/\∃ a xs,x= .ref a/\SqL K H a xs)
theorem tE:bx X (.builtin "isinstance") (λxs H Q=>∃ x t c k,xs=[x,.ty c]/\TyQ X.K H x t/\kitOne X.K (.type t) (.type c)=some k/\Q (.bl k) H):=by
 intro pins s σ H xs us Q I r h
 obtain⟨x,t,c,k,rfl,ty,e,q⟩:=h
 obtain⟨u,u',rfl,rx,rc⟩:=gX r
 cases(show u'=Value.type c from rc)
 rcases ty with ty|⟨rfl,a,ys,rfl,hq⟩|⟨rfl,a,ys,rfl,hq⟩
 ·exact mD I rx ty e λtk=>⟨.bl k,H,I.tok _,rfl,q⟩
 ·cases(show u=Value.ref a from rx)
  obtain⟨its,_,⟨o,h1,h2,_⟩,_⟩:=I.tuple hq
  exact kia_one kitx_tuple I.kIn ⟨o,h1,h2⟩ e (λz=>nomatch z) λtk=>⟨.bl k,H,I.tok _,rfl,q⟩
 ·cases(show u=Value.ref a from rx)
  obtain⟨its,_,pl,_⟩:=I.list hq
  obtain⟨o,n,h1,h2,_⟩:=pl
  exact kia_one kitx_list I.kIn ⟨o,h1,h2⟩ e (λz=>nomatch z) λtk=>⟨.bl k,H,I.tok _,rfl,q⟩
def cL:D->Bool| .obj _ _=>false| .exc _ _=>false| .ptr _=>false| .dti _=>false|_=>true
theorem tF{K:Ax}{F H:Hp}{x:D}{u:V}(fh:Same F H)(r:Rep K F x u)(no:cL x=true):TyQ K H u (tyD x):=by
 cases x with
 |non=>rw[rep_non.mp r];exact .inl .non
 |bl b=>rw[rep_bl.mp r];exact .inl (.bl b)
 |int b=>rw[rep_int.mp r];exact .inl (.int b)
 |str b=>rw[rep_str.mp r];exact .inl (.str b)
 |tup b=>obtain⟨a,vs,rfl,hq,_⟩:=rep_tup_mp r;exact .inr (.inl ⟨rfl,a,vs,rfl,fh.tup hq⟩)
 |lst b=>obtain⟨a,vs,rfl,hq,_⟩:=rep_lst.mp r;exact .inr (.inr ⟨rfl,a,vs,rfl,fh.seq (SqL.of hq)⟩)
 |rol b=>obtain⟨a,vs,rfl,hq,_⟩:=rep_rol.mp r;exact .inr (.inr ⟨rfl,a,vs,rfl,fh.seq hq⟩)
 |obj C b=>cases no
 |exc C b=>cases no
 |ptr b=>cases no
 |dti b=>cases no
 |own b=>exact absurd r rep_own
def tG(t:String):D->(D->Prop)->Prop:=λx R=>match x with| .obj _ _=>False| .exc _ _=>False| .ptr _=>False| .dti _=>False|x=>R (.bl (cK t x))
theorem fC[Jx]{p p2:Pos}{y:Str}{t:String}(hm:X.mg "isinstance"=none)(Ji:X.mg y=none)(ha:WDE X a ta)(hv:bootBuiltins y=some (.type t))
  (hk:∀ x:D,cL x=true->kitOne X.K (.type (tyD x)) (.type t)=some (cK t x)) (hg:Gl X "isinstance":=by rfl) (FQ:Gl X y:=by rfl) (hn:y≠"__name__":=by decide) (c_:zND y:=by decide)
  (j9:starEach [a,.Name y p2] X.env=(false,eval a X.env)::starEach [.Name y p2] X.env:=by rfl) (k8:starEach [.Name y p2] X.env=(false,eval (.Name y p2) X.env)::starEach [] X.env:=by rfl) (b9:(backTo pos (starEach [.Name y p2] X.env)).any (·.1)=false:=by rfl):WDE X (.Call (.Name "isinstance" p) [a,.Name y p2] [] pos) (dUn (tG t) ta):=⟨have ha:=ha.out;(dW tE hg hm PyProof.Rows.boot_isinstance (bn ha (bn (qe (v:= .ty t) FQ Ji hv rfl hn c_) pa_nil k8) j9) (by decide) (by decide) j9 b9).anti λs H Q q=>by
 obtain⟨B,F,z,kf,rs,R,h1,h2⟩:=q
 have fh:=kf.fh
 refine⟨B,F,z,kf,rs,_,h1,λx u F1 H1 g1 hx rx=>?_⟩
 have no:cL x=true:=by
  cases x with
  |obj C b=>exact False.elim hx
  |exc C b=>exact False.elim hx
  |ptr b=>exact False.elim hx
  |dti b=>exact False.elim hx
  |_=>rfl
 have e8:R (.bl (cK t x)):=by
  cases x with
  |obj C b=>exact False.elim hx
  |exc C b=>exact False.elim hx
  |ptr b=>exact False.elim hx
  |dti b=>exact False.elim hx
  |_=>exact hx
 exact⟨u,tyD x,t,_,rfl,tF g1.fh rx no,hk x no,h2 _ _ F1 H1 g1 e8 (rep_bl.mpr rfl)⟩⟩
theorem tH{K:Ax}:∀ x:D,cL x=true->kitOne K (.type (tyD x)) (.type "int")=some (cK "int" x):=by intro x no;cases x<;>first|rfl|cases no
theorem kit_bool{K:Ax}:∀ x:D,cL x=true->kitOne K (.type (tyD x)) (.type "bool")=some (cK "bool" x):=by intro x no;cases x<;>first|rfl|cases no
theorem kit_tuple{K:Ax}:∀ x:D,cL x=true->kitOne K (.type (tyD x)) (.type "tuple")=some (cK "tuple" x):=by intro x no;cases x<;>first|rfl|cases no
theorem kit_str{K:Ax}:∀ x:D,cL x=true->kitOne K (.type (tyD x)) (.type "str")=some (cK "str" x):=by intro x no;cases x<;>first|rfl|cases no
def toV:D->Option V
 | .non=>some .non| .bl b=>some (.bl b)| .int i=>some (.int i)| .str x=>some (.str x)|_=>none
def aX(d:D):Bool:=(toV d).isSome
def eqF:D->D->Bool
 | .non,.non=>true
 | .bl a,.bl b=>a==b
 | .bl a,.int b=>(if a then 1 else 0)==b
 | .int a,.bl b=>a==(if b then 1 else 0)
 | .int a,.int b=>a==b
 | .str a,.str b=>a==b
 |_,_=>false
def eqFs:List D->List D->Bool
 |[],[]=>true
 |x::xs,y::ys=>eqF x y && eqFs xs ys
 |_,_=>false
end
section
variable {X:Cx}{a b:Expr}{ta tb:TD}{pos:Pos}
def eqVs:List V->List V->Bool
 |[],[]=>true
 |x::xs,y::ys=>eqV x y && eqVs xs ys
 |_,_=>false
theorem Vals.getD{xs:List V}{us:List Value}{j:Nat}(r:Vals xs us)(h:j<us.length):RelV (xs.getD j .non) us[j]:=by
 have hl:=L2.Vals.length r
 obtain⟨u,q1,q2⟩:=L2.Vals.get (i:=j) (x:=xs.getD j .non) r (by rw[AX (by lia)];simp[BH,AX (show j<xs.length by lia)])
 rw[AX h] at q1
 cases q1
 exact q2
theorem eqV_of{K:Ax}{H:Hp}{x y:D}{u v:V}(rx:Rep K H x u)(ry:Rep K H y v)(fx:aX x=true)(fy:aX y=true):eqV u v=eqF x y:=by
 cases x with
 |tup _=>cases fx
 |lst _=>cases fx
 |rol _=>cases fx
 |obj _ _=>cases fx
 |exc _ _=>cases fx
 |ptr _=>cases fx
 |dti _=>cases fx
 |own _=>cases fx
 |non=>rw[rep_non.mp rx];cases y with
  |tup _=>cases fy
  |lst _=>cases fy
  |rol _=>cases fy
  |obj _ _=>cases fy
  |exc _ _=>cases fy
  |ptr _=>cases fy
  |dti _=>cases fy
  |own _=>cases fy
  |non=>rw[rep_non.mp ry];rfl
  |bl _=>rw[rep_bl.mp ry];rfl
  |int _=>rw[rep_int.mp ry];rfl
  |str _=>rw[rep_str.mp ry];rfl
 |bl _=>rw[rep_bl.mp rx];cases y with
  |tup _=>cases fy
  |lst _=>cases fy
  |rol _=>cases fy
  |obj _ _=>cases fy
  |exc _ _=>cases fy
  |ptr _=>cases fy
  |dti _=>cases fy
  |own _=>cases fy
  |non=>rw[rep_non.mp ry];rfl
  |bl _=>rw[rep_bl.mp ry];rfl
  |int _=>rw[rep_int.mp ry];rfl
  |str _=>rw[rep_str.mp ry];rfl
 |int _=>rw[rep_int.mp rx];cases y with
  |tup _=>cases fy
  |lst _=>cases fy
  |rol _=>cases fy
  |obj _ _=>cases fy
  |exc _ _=>cases fy
  |ptr _=>cases fy
  |dti _=>cases fy
  |own _=>cases fy
  |non=>rw[rep_non.mp ry];rfl
  |bl _=>rw[rep_bl.mp ry];rfl
  |int _=>rw[rep_int.mp ry];rfl
  |str _=>rw[rep_str.mp ry];rfl
 |str _=>rw[rep_str.mp rx];cases y with
  |tup _=>cases fy
  |lst _=>cases fy
  |rol _=>cases fy
  |obj _ _=>cases fy
  |exc _ _=>cases fy
  |ptr _=>cases fy
  |dti _=>cases fy
  |own _=>cases fy
  |non=>rw[rep_non.mp ry];rfl
  |bl _=>rw[rep_bl.mp ry];rfl
  |int _=>rw[rep_int.mp ry];rfl
  |str _=>rw[rep_str.mp ry];rfl
theorem du{K:Ax}{H:Hp}{x:D}{u:V}(rx:Rep K H x u)(fx:aX x=true):bz u=true:=by
 cases x with
 |tup _=>cases fx
 |lst _=>cases fx
 |rol _=>cases fx
 |obj _ _=>cases fx
 |exc _ _=>cases fx
 |ptr _=>cases fx
 |dti _=>cases fx
 |own _=>cases fx
 |non=>rw[rep_non.mp rx];rfl
 |bl _=>rw[rep_bl.mp rx];rfl
 |int _=>rw[rep_int.mp rx];rfl
 |str _=>rw[rep_str.mp rx];rfl
theorem cw{K:Ax}{H:Hp}:∀ {xs:List D} {us:List V},Reps K H xs us->xs.all aX=true->us.all bz=true
 |[],us,r,_=>by rw[reps_nil.mp r];rfl
 |x::xs,us,r,f=>by
  obtain⟨v,vr,rfl,r1,r2⟩:=reps_cons.mp r
  rw[BC,AZ] at f ⊢
  exact⟨du r1 f.1,cw r2 f.2⟩
theorem ik{K:Ax}{H:Hp}:∀ {xs ys:List D} {us vs:List V},Reps K H xs us->Reps K H ys vs->xs.all aX=true->ys.all aX=true->eqVs us vs=eqFs xs ys
 |[],[],us,vs,r1,r2,_,_=>by rw[reps_nil.mp r1,reps_nil.mp r2];rfl
 |[],y::ys,us,vs,r1,r2,_,_=>by
  obtain⟨v,vr,rfl,_,_⟩:=reps_cons.mp r2
  rw[reps_nil.mp r1];rfl
 |x::xs,[],us,vs,r1,r2,_,_=>by
  obtain⟨v,vr,rfl,_,_⟩:=reps_cons.mp r1
  rw[reps_nil.mp r2];rfl
 |x::xs,y::ys,us,vs,r1,r2,f1,f2=>by
  obtain⟨u,ur,rfl,a1,a2⟩:=reps_cons.mp r1
  obtain⟨v,vr,rfl,b1,b2⟩:=reps_cons.mp r2
  rw[BC,AZ] at f1 f2
  rw[eqVs,eqFs,eqV_of a1 b1 f1.1 f2.1,ik a2 b2 f1.2 f2.2]
end
section
variable {X:Cx}{a b c e:Expr}{ta tb tc te:TD}{pos:Pos}{st:Stmt}{rest:List Stmt}{t u:TSD}
def tI:TSD:=λE z=>E.nx z
def dSeq(t u:TSD):TSD:=λE z=>t {E with nx:=u E} z
theorem bb[Jx]:WDSs X [] tI:=⟨pss_nil.anti λE s H q=>by
 obtain⟨B,F0,F,z,k,rs,ED,h,e⟩:=q
 exact e.nx z s F H k h rs⟩
theorem ah[Jx](h1:WDS X st t)(h2:WDSs X rest u):WDSs X (st::rest) (dSeq t u):=⟨have h1:=h1.out;have h2:=h2.out;(dR h1 h2).anti λE s H q=>by
 obtain⟨B,F0,F,z,k,rs,ED,h,e⟩:=q
 exact⟨B,F0,F,z,k,rs,{ED with nx:=u ED},h,⟨λz' s' F' H' k' hz r'=>⟨B,F0,F',z',k',r',ED,hz,e⟩,e.rt,e.bk,e.ct⟩⟩⟩
theorem ar[Jx](h1:WDS X st t):WDSs X [st] t:=⟨have h1:=h1.out;lN h1⟩
def dFrz(i:Nat)(t:TSD):TSD:=λE z=>match z[i]? with|some (some (.own ds))=>t E (z.set i (some (.lst ds)))|_=>False
theorem fD[Jx](i:Nat){Ea:List Stmt}(h:WDSs X Ea t):WDSs X Ea (dFrz i t):=⟨have h:=h.out;PSs.anti h λE s H q=>by
 obtain⟨B,F0,F,z,k,rs,ED,h,e⟩:=q
 unfold dFrz at h
 split at h
 ·rename_i ds ez
  obtain⟨F',k',r'⟩:=rs.freeze k ez
  exact⟨B,F0,F',_,k',r',ED,h,e⟩
 ·exact h.elim⟩
def dRet(te:TD):TSD:=λE z=>te z E.rt
theorem aE[Jx](he:WDE X e te):WDS X (.Return (some e) pos) (dRet te):=⟨have he:=he.out;(lQ he).anti λE s H q=>by
 obtain⟨B,F0,F,z,k,rs,ED,h,e⟩:=q
 exact⟨B,F,z,k.kf,rs,_,h,λd v F' H' g hd rd=>e.rt d v F' H' (k.grow g) hd rd⟩⟩
def dIfS(c:TDT)(t u:TSD):TSD:=λE z=>c z λb=>if b=true then t E z else u E z
theorem nB[Jx]{c:Expr}{l r:List Stmt}{tc:TDT}(hc:DT X c tc)(ha:DSs X l t)(hb:DSs X r u):DS X (.If c l r pos) (dIfS tc t u):=(lR hc ha hb).anti λE s H q=>by
 obtain⟨B,F0,F,z,k,rs,ED,h,e⟩:=q
 refine⟨B,F,z,k.kf,rs,_,h,λb F1 H1 g hk=>?_⟩
 cases b with
 |true=>exact⟨B,F0,F1,z,k.grow g,rs.grow g,ED,hk,e⟩
 |false=>exact⟨B,F0,F1,z,k.grow g,rs.grow g,ED,hk,e⟩
def dIfJ(c:TDT)(t u:TSD):TSD:=λE z=>∃ J:SD->Prop,(c z λb=>if b=true then t {E with nx:=J} z else u {E with nx:=J} z)/\∀ z',J z'->E.nx z'
theorem dv[Jx]{c:Expr}{l r:List Stmt}{tc:TDT}(hc:WDT X c tc)(ha:WDSs X l t)(hb:WDSs X r u):WDS X (.If c l r pos) (dIfJ tc t u):=⟨have hc:=hc.out;have ha:=ha.out;have hb:=hb.out;(nB hc ha hb).anti λE s H q=>by
 obtain⟨B,F0,F,z,k,rs,ED,⟨J,h,j⟩,e⟩:=q
 exact⟨B,F0,F,z,k,rs,{ED with nx:=J},h,⟨λz' s' F' H' k' hz r'=>e.nx z' s' F' H' k' (j z' hz) r',e.rt,e.bk,e.ct⟩⟩⟩
def dSet(i:Nat)(te:TD):TSD:=λE z=>∃ P:D->Prop,te z P/\∀ d,P d->E.nx (z.set i (some d))
theorem aj[Jx](i:Nat){x:Str}{c5:Pos}(hN:X.N.Nodup)(he:WDE X e te)(hi:X.N[i]?=some x:=by rfl)(hx:Loc X.env.scope x:=by first|exact Or.inl rfl|exact Or.inr rfl)(hs:swapsWith e (some (.Name x c5)) pos.line X.env=pure false:=by rfl)
  (hf:zFN X x:=by first|exact .inl rfl|exact .inr rfl|assumption):WDS X (.Assign [.Name x c5] e pos) (dSet i te):=⟨have he:=he.out;(gT hN hi hx he hs hf).anti λE s H q=>by
 obtain⟨B,F0,F,z,k,rs,ED,⟨P,h,j⟩,e⟩:=q
 exact⟨B,F,z,k.kf,rs,P,h,λd v F' H' g hd rd=>e.nx _ _ F' H' (k.grow g) (j d hd) ((rs.grow g).set rd)⟩⟩
def dNew(i:Nat)(ta:TDA):TSD:=λE z=>ta z λds=>ds.length<=1000/\E.nx (z.set i (some (.own ds)))
theorem il[Jx](i:Nat){x:Str}{c5 p2:Pos}{es:List Expr}{ta:TDA}(hN:X.N.Nodup)(he:WDA X es ta)(hi:X.N[i]?=some x:=by rfl)(hx:Loc X.env.scope x:=by first|exact Or.inl rfl|exact Or.inr rfl)(hs:swapsWith (.List es p2) (some (.Name x c5)) pos.line X.env=pure false:=by rfl)
  (hf:zFN X x:=by first|exact .inl rfl|exact .inr rfl|assumption):WDS X (.Assign [.Name x c5] (.List es p2) pos) (dNew i ta):=⟨have he:=he.out;(gT hN hi hx (hU he) hs hf).anti λE s H q=>by
 obtain⟨B,F0,F,z,k,rs,ED,h,e⟩:=q
 refine⟨B,F,z,k.kf,rs,_,h,λds vs F1 H1 g hd rd=>?_⟩
 have hl:=rd.length
 refine⟨sz (by rw[hl];exact hd.1),λp hp=>?_⟩
 have k1:=k.grow g
 have r1:=rs.grow g
 have hB:B p=none:=k1.bh.free hp
 have hF:F1 p=none:=k1.fh.free hp
 refine e.nx _ _ F1 _ ⟨k1.bh.trans (aO hp _),k1.fh.trans (aO hp _),k1.f0,k1.out,k1.eb,k1.jf,k1.jo⟩ hd.2 (r1.setOwn hB hF rd λj dj hj e1 e2=>?_)
 obtain⟨a,us,q1,q2,_⟩:=r1.own j dj e1
 rw[e2] at q1
 cases q1
 rw[hp] at q2
 cases q2⟩
def dApp(i:Nat)(te:TD):TSD:=λE z=>match z[i]? with|some (some (.own ds))=>(te z λd=>ds.length<=100000/\E.nx (z.set i (some (.own (ds++[d])))))|_=>False
theorem eF{K:Ax}{F:Hp}{d:D}{v:V}(r:Rep K F d v):Reps K F [d] [v]:=reps_cons.mpr ⟨v,[],rfl,r,reps_nil.mpr rfl⟩
theorem fE[Jx](i:Nat){x:Str}{p1 apos cpos:Pos}(he:WDE X e te)(hN:X.N[i]?=some x:=by rfl)(hv:Vis X.env.scope x:=by first|exact Or.inl rfl|exact Or.inr (Or.inl rfl)|exact Or.inr (Or.inr rfl))(hd:zND x:=by decide)
  (f7:zNC x:=by decide) (j9:zSE X e []:=by rfl)
  (b7:attributeBase (.Name x p1) "append" X.env (eval (.Name x p1) X.env)=eval (.Name x p1) X.env:=by rfl)
  (d7:zHF X cpos [e]:=by rfl)
  (c8:(apos.endLine==cpos.line)=true:=by rfl) (Di:swapsWith (.Call (.Attribute (.Name x p1) "append" apos) [e] [] cpos) none pos.line X.env=pure false:=by rfl):WDS X (.Expr (.Call (.Attribute (.Name x p1) "append" apos) [e] [] cpos) pos) (dApp i te):=⟨have he:=he.out;(lP (dZ PySem.F.plainAttrs_list PySem.F.slot_list_append PySem.F.type_list_append fj (dQ hN hv hd f7) (bn he pa_nil j9) b7 d7 c8 j9) Di).anti λE s H q=>by
 obtain⟨B,F0,F,z,k,rs,ED,h,e⟩:=q
 unfold dApp at h
 split at h
 ·rename_i ds ez
  obtain⟨a,vs,q1,q2,q3,q4,q5⟩:=rs.own i ds ez
  refine⟨.ref a,q1,.inl ⟨rfl,vs,SqL.of q2⟩,?_⟩
  refine⟨B,F,z,k.kf,rs,_,h,λd v F1 H1 g hd rd=>?_⟩
  have k1:=k.grow g
  have r1:=rs.grow g
  have a1:H1 a=some (.lst vs):=g.hh a _ q2
  have f1:F1 a=none:=g.out a q4 (by rw[q2];exact λz=>nomatch z)
  have hl:vs.length=ds.length:=q5.length
  have hz:vs.length<sizeLine:=by
   have h1:ds.length<=100000:=hd.1
   have h2:(100000:Nat)<sizeLine:=by decide
   lia
  refine⟨a,vs,v,rfl,rfl,a1,hz,?_⟩
  have same:∀ {G:Hp},G a=none->Same G H1->Same G (upd H1 a (.lst (vs++[v]))):=λ{G} ga gs b o eb=>by
   have ne:b≠a:=λz=>by rw[z,ga] at eb;cases eb
   rw[ak ne];exact gs b o eb
  have r2:=r1.setOwn (i:=i) (a:=a) (vs:=vs++[v]) (ds:=ds++[d]) q3 f1 ((q5.mono g.ff).append (eF rd)) (λj dj hj e1 e2=>hj (rs.apart j i dj ds a e1 ez e2 q1))
  have es:s.set i (some (.ref a))=s:=by
   apply Ce
   intro n
   by_cases hn:i=n
   ·subst hn
    rw[Bb (AN.mp q1).1,q1]
   ·rw[AQ hn]
  rw[es] at r2
  exact e.nx _ s F1 _ ⟨same q3 k1.bh,same f1 k1.fh,k1.f0,k1.out,k1.eb,k1.jf,k1.jo⟩ hd.2 r2
 ·exact h.elim⟩
def aQ:List Nat->List D->SD->SD
 |i::is,d::ds,z=>aQ is ds (z.set i (some d))
 |_,_,z=>z
def DGs(X:Cx)(ts:List Expr)(is:List Nat):Prop:=∃ u:TGs,PGs X ts u/\∀ (ds:List D) (vs:List V) (z:SD) (s:L2.St) (B F H:Hp) (Q:L2.St->Hp->Prop),ds.length=is.length->Reps X.K F ds vs->RepS X.K B F H z s->(∀ s',RepS X.K B F H (aQ is ds z) s'->Q s' H)->u vs s H Q
theorem eI[Jx]:DGs X [] []:=⟨_,qt,λds vs z s B F H Q hl r rs q=>by
 cases ds with
 |nil=>exact⟨reps_nil.mp r,q s rs⟩
 |cons _ _=>cases hl⟩
theorem dg_cons[Jx](i:Nat){x:Str}{p:Pos}{es:List Expr}{is:List Nat}(hN:X.N.Nodup)(h2:DGs X es is)(hi:X.N[i]?=some x:=by rfl)(hx:Loc X.env.scope x:=by first|exact Or.inl rfl|exact Or.inr rfl)(hf:zFN X x:=by first|exact .inl rfl|exact .inr rfl|assumption)
  (hs:(assignEach (.Name x p::es) X.env).map (·.2)=assign (.Name x p) X.env::(assignEach es X.env).map (·.2):=by rfl):DGs X (.Name x p::es) (i::is):=by
 obtain⟨u,hu,k⟩:=h2
 refine⟨_,qu (eZ hN hi hx hf) hu hs,λds vs z s B F H Q hl r rs q=>?_⟩
 cases ds with
 |nil=>cases hl
 |cons d ds=>
  obtain⟨v,vr,rfl,r1,r2⟩:=reps_cons.mp r
  exact⟨v,vr,rfl,k ds vr _ _ B F H Q (Nat.succ.inj hl) r2 (rs.set r1) q⟩
def tJ(is:List Nat)(te:TD):TSD:=λE z=>te z λx=>match x with| .tup ds=>ds.length=is.length/\E.nx (aQ is ds z)|_=>False
theorem nC[Jx]{es:List Expr}{k:Nat}{is:List Nat}{p:Pos}(hc:X.calm=true)(he:WDE X e te)(hg:DGs X es is)(hn:(assignEach es X.env).length=is.length:=by rfl)(m9:(assignEach es X.env).findIdx? (·.1)=none:=by rfl)
  (hs:swapsWithSole [.Tuple es k p] e pos.line X.env=pure false:=by rfl) (hw:swappedStores [.Tuple es k p] e X.env=pure none:=by rfl) (h1:(assignEach [.Tuple es k p] X.env).map (·.2)=[assign (.Tuple es k p) X.env]:=by rfl):WDS X (.Assign [.Tuple es k p] e pos) (tJ is te):=⟨by
 have he:=he.out
 obtain⟨u,hu,kk⟩:=hg
 refine(lU he (gS hc hu hn m9) hs hw h1).anti λE s H q=>?_
 obtain⟨B,F0,F,z,k,rs,ED,h,e⟩:=q
 refine⟨B,F,z,k.kf,rs,_,h,λd v F' H' g hd rd=>?_⟩
 split at hd
 ·obtain⟨p,vs,rfl,hq,rr⟩:=rep_tup_mp rd
  exact⟨p,vs,rfl,g.fh.tup hq,by rw[rr.length];exact hd.1,kk _ vs z s B F' H' _ hd.1 rr (rs.grow g) λs' r'=>e.nx _ _ F' H' (k.grow g) hd.2 r'⟩
 ·exact hd.elim⟩
def dPar(i j:Nat)(ta:TDA):TSD:=λE z=>ta z λds=>match ds with|[x,y]=>E.nx ((z.set i (some x)).set j (some y))|_=>False
theorem tK[Jx](i j:Nat){x y:Str}{t:TDA}{px py pt:Pos}{kt k2 A_}(hc:X.calm=true)(hN:X.N.Nodup)(ha:WDA X [a,b] t)(hi:X.N[i]?=some x:=by rfl)(hj:X.N[j]?=some y:=by rfl)(Fz:i≠j:=by decide)
  (hx:X.env.scope.names.lookup x=some .local:=by rfl) (hy:X.env.scope.names.lookup y=some .local:=by rfl)
  (hw:swappedStores [.Tuple [.Name x px,.Name y py] kt pt] (.Tuple [a,b] k2 A_) X.env=pure (some [x,y]):=by rfl)
  (hs:swapsWithSole [.Tuple [.Name x px,.Name y py] kt pt] (.Tuple [a,b] k2 A_) pos.line X.env=pure false:=by rfl):WDS X (.Assign [.Tuple [.Name x px,.Name y py] kt pt] (.Tuple [a,b] k2 A_) pos) (dPar i j t):=⟨have ha:=ha.out;(qv hc hN hi hj Fz hx hy ha hw hs).anti λE s H q=>by
 obtain⟨B,F0,F,z,k,rs,ED,h,e⟩:=q
 refine⟨B,F,z,k.kf,rs,_,h,λds vs F' H' g hd rd=>?_⟩
 split at hd
 ·obtain⟨v,r,rfl,r1,r2⟩:=reps_cons.mp rd
  obtain⟨w,r,rfl,r3,r4⟩:=reps_cons.mp r2
  rw[reps_nil.mp r4]
  exact⟨v,w,rfl,e.nx _ _ F' H' (k.grow g) hd (((rs.grow g).set r1).set r3)⟩
 ·exact hd.elim⟩
def tL(c:TDT)(tb:TSD):TSD:=λE z=>∃ W:Nat->SD->Prop,(∃ m,W m z)/\∀ m z,W m z->
 c z λb=>if b=true then tb {E with nx:=λz'=>∃ m',m'<m/\W m' z',ct:=λz'=>∃ m',m'<m/\W m' z',bk:=E.nx} z else E.nx z
theorem eJ[Jx]{c:Expr}{body:List Stmt}{tc:TDT}{tb:TSD}(hp:PassesOwn (model X.prog X.w) X.A X.env X.xe)(hc:WDT X c tc)(hb:WDSs X body tb):WDS X (.While c body [] pos) (tL tc tb):=⟨have hc:=hc.out;have hb:=hb.out;(lV hp hc hb).anti λE s H q=>by
 obtain⟨B,F0,F,z,k,rs,ED,⟨W,⟨m0,w0⟩,b_⟩,e⟩:=q
 refine⟨λm s' H'=>∃ F' z',Kept B F0 F' H'/\RepS X.K B F' H' z' s'/\W m z',⟨m0,F,z,k,rs,w0⟩,?_⟩
 rintro m s1 H1 ⟨F1,z1,k1,r1,w1⟩
 refine⟨B,F1,z1,k1.kf,r1,_,b_ m z1 w1,λb F2 H2 g2 hk=>?_⟩
 cases b with
 |true=>
  refine⟨λs3 H3=>∃ F3 z3,Kept B F0 F3 H3/\RepS X.K B F3 H3 z3 s3/\∃ m',m'<m/\W m' z3,λs3 H3 ⟨F3,z3,k3,r3,m',l,w3⟩=>⟨m',l,F3,z3,k3,r3,w3⟩,?_⟩
  exact⟨B,F0,F2,z1,k1.grow g2,r1.grow g2,_,hk,⟨λz3 s3 F3 H3 k3 h3 r3=>⟨F3,z3,k3,r3,h3⟩,e.rt,e.nx,λz3 s3 F3 H3 k3 h3 r3=>⟨F3,z3,k3,r3,h3⟩⟩⟩
 |false=>exact e.nx z1 s1 F2 H2 (k1.grow g2) hk (r1.grow g2)⟩
abbrev TDI:=SD->(List D->Prop)->Prop
def dItL(t:TD):TDI:=λz R=>t z λx=>match x with| .lst ds=>R ds| .rol ds=>R ds|_=>False
def dItR(t:TD):TDI:=λz R=>t z λx=>match x with| .int n=>(0<=n/\n<2 ^ 62)/\R ((Ba n.toNat).map λk=>D.int ((k:Nat):Int))|_=>False
def dFor(i:Nat)(ti:TDI)(tb:TSD):TSD:=λE z=>ti z λds=>∃ W:Nat->SD->Prop,W 0 z/\(∀ k x z,ds[k]?=some x->W k z->tb {E with nx:=W (k+1),ct:=W (k+1),bk:=E.nx} (z.set i (some x)))/\∀ z,W ds.length z->E.nx z
theorem Reps.get'{K:Ax}{H:Hp}{ds:List D}{vs:List V}{k:Nat}{v:V}(r:Reps K H ds vs)(e:vs[k]?=some v):∃ d,ds[k]?=some d/\Rep K H d v:=by
 have hk:k<ds.length:=by rw[<- r.length];exact(AN.mp e).1
 obtain⟨u,q1,q2⟩:=r.get (AX hk)
 rw[e] at q1;cases q1
 exact⟨_,AX hk,q2⟩
theorem nD[Jx](i:Nat){x:Str}{p:Pos}{body:List Stmt}{tb:TSD}(hp:PassesOwn (model X.prog X.w) X.A X.env X.xe)(hc:X.calm=true)(hN:X.N.Nodup)(he:WDE X e te)(hb:WDSs X body tb)(hi:X.N[i]?=some x:=by rfl)(hx:Loc X.env.scope x:=by first|exact Or.inl rfl|exact Or.inr rfl)
  (hf:zFN X x:=by first|exact .inl rfl|exact .inr rfl|assumption) (hs:∀ y,zFS X e y:=by exact λ_=>rfl):WDS X (.For (.Name x p) e body [] pos) (dFor i (dItL te) tb):=⟨have he:=he.out;have hb:=hb.out;(dS hp hc (lZ he) (eZ hN hi hx hf) hb hs).anti λE s H q=>by
 obtain⟨B,F0,F,z,kp,rs,ED,h,e⟩:=q
 refine⟨B,F,z,kp.kf,rs,_,h,λd v F1 H1 g1 hd rd=>?_⟩
 split at hd
 ·obtain⟨p,vs,rfl,hq,rr⟩:=rep_lst.mp rd
  obtain⟨W,w0,b_,out⟩:=hd
  refine⟨p,rfl,⟨vs,g1.fh.seq (SqL.of hq)⟩,me (K:=X.K) (a:=p) (xs:=vs) (λk s' H'=>∃ F' z',Kept B F0 F' H'/\Same F1 F'/\RepS X.K B F' H' z' s'/\W k z') ⟨F1,z,kp.grow g1,Same.refl F1,rs.grow g1,w0⟩ (λk s' H' _ ⟨F',z',k',g',r',w'⟩=>k'.fh.seq (g'.seq (SqL.of hq))) ?_ ?_⟩
  ·rintro k y s' H' hk ⟨F',z',k',g',r',w'⟩
   obtain⟨d,hd,ry⟩:=rr.get' hk
   -- j_ Dj part at a Dk start is DZ j_ Eb FR on
   refine⟨B,F',F',_,⟨k'.bh,k'.fh,Same.refl F',λb h1 _=>h1,k'.eb,k'.jf.trans k'.f0,λb h1 h2=>k'.out b (k'.jo b h1 h2) h2⟩,r'.set (ry.mono g'),_,b_ k d z' hd w',?_⟩
   have up:∀ {F2 H2:Hp},Kept B F' F2 H2->Kept B F0 F2 H2:=λk2=>⟨k2.bh,k2.fh,k'.f0.trans k2.f0,λb h1 h2=>k2.out b (k'.out b h1 h2) h2,k'.eb,k'.jf,k'.jo⟩
   exact⟨λz3 s3 F3 H3 k3 h3 r3=>⟨F3,z3,up k3,g'.trans k3.f0,r3,h3⟩,λd v F3 H3 k3=>e.rt d v F3 H3 (up k3),λz3 s3 F3 H3 k3=>e.nx z3 s3 F3 H3 (up k3),λz3 s3 F3 H3 k3 h3 r3=>⟨F3,z3,up k3,g'.trans k3.f0,r3,h3⟩⟩
  ·rintro s' H' ⟨F',z',k',g',r',w'⟩
   exact e.nx z' s' F' H' k' (out z' (by rw[<- rr.length];exact w')) r'
 ·obtain⟨p,vs,rfl,hq,rr⟩:=rep_rol.mp rd
  obtain⟨W,w0,b_,out⟩:=hd
  refine⟨p,rfl,⟨vs,g1.fh.seq hq⟩,me (K:=X.K) (a:=p) (xs:=vs) (λk s' H'=>∃ F' z',Kept B F0 F' H'/\Same F1 F'/\RepS X.K B F' H' z' s'/\W k z') ⟨F1,z,kp.grow g1,Same.refl F1,rs.grow g1,w0⟩ (λk s' H' _ ⟨F',z',k',g',r',w'⟩=>k'.fh.seq (g'.seq hq)) ?_ ?_⟩
  ·rintro k y s' H' hk ⟨F',z',k',g',r',w'⟩
   obtain⟨d,hd,ry⟩:=rr.get' hk
   -- j_ Dj part at a Dk start is DZ j_ Eb FR on
   refine⟨B,F',F',_,⟨k'.bh,k'.fh,Same.refl F',λb h1 _=>h1,k'.eb,k'.jf.trans k'.f0,λb h1 h2=>k'.out b (k'.jo b h1 h2) h2⟩,r'.set (ry.mono g'),_,b_ k d z' hd w',?_⟩
   have up:∀ {F2 H2:Hp},Kept B F' F2 H2->Kept B F0 F2 H2:=λk2=>⟨k2.bh,k2.fh,k'.f0.trans k2.f0,λb h1 h2=>k2.out b (k'.out b h1 h2) h2,k'.eb,k'.jf,k'.jo⟩
   exact⟨λz3 s3 F3 H3 k3 h3 r3=>⟨F3,z3,up k3,g'.trans k3.f0,r3,h3⟩,λd v F3 H3 k3=>e.rt d v F3 H3 (up k3),λz3 s3 F3 H3 k3=>e.nx z3 s3 F3 H3 (up k3),λz3 s3 F3 H3 k3 h3 r3=>⟨F3,z3,up k3,g'.trans k3.f0,r3,h3⟩⟩
  ·rintro s' H' ⟨F',z',k',g',r',w'⟩
   exact e.nx z' s' F' H' k' (out z' (by rw[<- rr.length];exact w')) r'
 ·exact hd.elim⟩
theorem cM[Jx](i:Nat){x:Str}{p p1 p2:Pos}{body:List Stmt}{tb:TSD}(hp:PassesOwn (model X.prog X.w) X.A X.env X.xe)(hc:X.calm=true)(hN:X.N.Nodup)(hm:X.mg "range"=none)(he:WDE X e te)(hb:WDSs X body tb)(hg:Gl X "range":=by rfl)(hi:X.N[i]?=some x:=by rfl)(hx:Loc X.env.scope x:=by first|exact Or.inl rfl|exact Or.inr rfl)
  (hf:zFN X x:=by first|exact .inl rfl|exact .inr rfl|assumption) (hs:∀ y,zFS X (.Call (.Name "range" p1) [e] [] p2) y:=by exact λ_=>rfl) (Dl:zSE X e []:=by rfl) (l8:starEach [e] X.env=[(false,eval e X.env)]:=by rfl):WDS X (.For (.Name x p) (.Call (.Name "range" p1) [e] [] p2) body [] pos) (dFor i (dItR te) tb):=⟨have he:=he.out;have hb:=hb.out;(dS hp hc (ma hg hm (bn he pa_nil Dl) l8) (eZ hN hi hx hf) hb hs).anti λE s H q=>by
 obtain⟨B,F0,F,z,kp,rs,ED,h,e⟩:=q
 refine⟨B,F,z,kp.kf,rs,_,h,λd v F1 H1 g1 hd rd=>?_⟩
 split at hd
 ·rename_i n
  obtain⟨⟨b1,b2⟩,W,w0,b_,out⟩:=hd
  have hl:((Ba n.toNat).map λk=>D.int ((k:Nat):Int)).length=n.toNat:=by simp
  refine⟨n,by rw[rep_int.mp rd],by lia,b2,mf (lo:=0) (n:=n.toNat) (λk s' H'=>∃ F' z',Kept B F0 F' H'/\RepS X.K B F' H' z' s'/\W k z') ⟨F1,z,kp.grow g1,rs.grow g1,w0⟩ ?_ ?_⟩
  ·rintro k s' H' hk ⟨F',z',k',r',w'⟩
   have e1:(0:Int)+(k:Int)=(k:Int):=by lia
   exact⟨B,F0,F',_,k',r'.set (d:= .int (k:Int)) (rep_int.mpr (by rw[e1])),_,b_ k (.int (k:Int)) z' (by simp[hk]) w',⟨λz3 s3 F3 H3 k3 h3 r3=>⟨F3,z3,k3,r3,h3⟩,e.rt,e.nx,λz3 s3 F3 H3 k3 h3 r3=>⟨F3,z3,k3,r3,h3⟩⟩⟩
  ·rintro s' H' ⟨F',z',k',r',w'⟩
   exact e.nx z' s' F' H' k' (out z' (by rw[hl];exact w')) r'
 ·exact hd.elim⟩
end
section
variable {P:Program}{w:World}{K:Ax}{mg:Str->Option Value}{base:Heap}
theorem _root_.L2.Fun.okD{x:Str}{st:Stmt}{f:Addr}{fd:FuncData}{N ps:List Str}{k:Nat}{S:SpD}(T:Fun K x x st f fd)(F:FnScope N ps (ag st))(len:∀ ds R,S ds R->ds.length=ps.length)
  (a9:∀ (cdv:Value) (A:Around) (outer:List Env) (s:Shared) (H:Hp) (E:XK) (J:Jx),Room k (A.deeper (envOfC x (ag st) s.heap.objs.size f cdv))->
   ∃ t,DSs (cxOf (Exc.CX1 P w) P w K mg base N x (ag st) f cdv A outer s H E).nox (aJ st) t/\∀ ds R,S ds R->t {nx:=λ_=>R .non,rt:=R} (startD N ds)):FnOk P w K mg base (Exc.CX1 P w) (k+1) f fd ps (lSp K S):=by
 refine Fun.okC T F (λvs H Q E h=>?_) (λcdv A outer s H vs Q E hr h=>?_)
 ·obtain⟨F,ds,fh,rs,R,h,_⟩:=h
  rw[rs.length];exact len ds R h
 ·obtain⟨F,ds,fh,rs,R,h,q⟩:=h
  letI:Jx:=⟨H,F,λ_ _ _=>False⟩
  obtain⟨t,ht,hq⟩:=a9 cdv A outer s H E inferInstance hr
  refine⟨_,ht.nox,H,F,F,startD N ds,⟨Same.refl H,fh,Same.refl F,λ_ h _=>h,rfl,Same.refl F,λ_ h _=>h⟩,eo rs,_,hq ds R h,⟨λz' s' F' H' k hn _=>q _ _ F' H' ⟨k.f0,k.fh,k.bh,k.out⟩ hn (rep_non.mpr rfl),λd v F' H' k hd rd=>q d v F' H' ⟨k.f0,k.fh,k.bh,k.out⟩ hd rd,λ_ _ _ _ _ h _=>h.elim,λ_ _ _ _ _ h _=>h.elim⟩⟩
theorem Tx.okD{x:Str}{st:Stmt}{N ps:List Str}{k:Nat}{S:SpD}(T:Tx K mg x st ps)(F:FnScope N ps (ag st))(len:∀ ds R,S ds R->ds.length=ps.length)
  (a9:∀ (f:Addr) (cdv:Value) (A:Around) (outer:List Env) (s:Shared) (H:Hp) (E:XK) (J:Jx),Room k (A.deeper (envOfC x (ag st) s.heap.objs.size f cdv))->
   ∃ t,DSs (cxOf (Exc.CX1 P w) P w K mg base N x (ag st) f cdv A outer s H E).nox (aJ st) t/\∀ ds R,S ds R->t {nx:=λ_=>R .non,rt:=R} (startD N ds)):CalD P w K mg base (k+1) x ps S:=by
 obtain⟨f,fd,T,hb,hm⟩:=T
 exact⟨f,fd,T.okD F len λcdv A outer s H E J hr=>a9 f cdv A outer s H E J hr,hb,T.kp,hm⟩
end
def dz:SpD:=λds R=>∃ ns:List Int,ds=[.rol (ns.map D.int)]/\ns.length<=63/\R (.bl true)
theorem tM{K:Ax}{H:Hp}{a:Addr}{ns:List Int}(hl:ns.length<=63)(hS:SqL K H a (ns.map V.int)){E:XK}:lSp K dz [.ref a] H (λv _=>v= .bl true) E:=
 ⟨H,[.rol (ns.map D.int)],Same.refl H,reps_cons.mpr ⟨_,_,rfl,rep_rol.mpr ⟨a,_,rfl,hS,Reps.ints.mpr rfl⟩,reps_nil.mpr rfl⟩,λd=>d= .bl true,⟨ns,rfl,hl,rfl⟩,λd v F' H' _ hd rd=>by subst hd;exact rep_bl.mp rd⟩
section
variable {X:Cx}{a b c e:Expr}{ta tb tc te:TD}{pos:Pos}
theorem im[Jx]{x:Str}{p:Pos}{es:List Expr}{t:TDA}{T:String}{r:List V->Hp->VK->Prop}{rd:RDn}(hc:bx X (.type T) r)(L:bZ X.K r rd)(hm:X.mg x=none)(hv:bootBuiltins x=some (.type T))(ha:DA X (e::es) t)(hg:Gl X x:=by rfl)(hn:x≠"__name__":=by decide)(c_:zND x:=by decide)
  (he:zSE X e es:=by rfl) (b9:zPL X pos es:=by rfl):DE X (.Call (.Name x p) (e::es) [] pos) (dCB rd t):=(mK hc hg hm hv ha hn c_ he b9).anti λs H Q h=>by
 obtain⟨B,F,z,kf,rs,R,h1,h2⟩:=h
 have fh:=kf.fh
 refine⟨B,F,z,kf,rs,_,h1,λds vs F1 H1 g1 hx rx=>?_⟩
 exact L ds vs F1 H1 R Q g1.fh hx rx λd w F' H' g=>h2 d w F' H' (g1.trans g)
def rdStr:RDn:=λds R=>match ds with|[.int i]=>i.natAbs<18446744073709551616/\R (.str (toString i))|_=>False
theorem tN{K:Ax}:bZ K (λxs H Q=>∃ i,xs=[.int i]/\i.natAbs.log2<1920/\Q (.str (toString i)) H) rdStr:=by
 intro ds vs F H R Q fh h rx q
 unfold rdStr at h
 split at h
 ·obtain⟨v,r,rfl,h1,h2⟩:=reps_cons.mp rx
  rw[reps_nil.mp h2,rep_int.mp h1]
  refine⟨_,rfl,?_,q _ _ F H (Grow.refl fh) h.2 (rep_str.mpr rfl)⟩
  rename_i i
  by_cases h0:i.natAbs=0
  ·rw[h0];decide
  ·have:=(CG h0).mpr (show i.natAbs<2 ^ 64 from h.1)
   lia
 ·exact h.elim
theorem ca[Jx]{p:Pos}{t:TDA}(hm:X.mg "str"=none)(ha:WDA X [e] t)(hg:Gl X "str":=by rfl)(he:zSE X e []:=by rfl):WDE X (.Call (.Name "str" p) [e] [] pos) (dCB rdStr t):=⟨have ha:=ha.out;im qX tN hm PyProof.Rows.boot_str ha hg (by decide) (by decide) he⟩
def rdInt:RDn:=λds R=>match ds with
 |[.int i]=>R (.int i)
 |[.bl k]=>R (.int (if k then 1 else 0))
 |[.str x]=>∃ n,(PySem.intText? x=some n/\x.length<=640)/\R (.int n)
 |_=>False
theorem nE:bx X (.type "int") (λxs H Q=>((∃ i,xs=[.int i]/\Q (.int i) H)\/∃ k,xs=[.bl k]/\Q (.int (if k then 1 else 0)) H)\/∃ x n,xs=[.str x]/\PySem.intText? x=some n/\x.length<=640/\Q (.int n) H):=by
 intro pins s σ H xs us Q I r h
 rcases h with h|⟨x,n,rfl,h1,h2,q⟩
 ·exact qW pins s σ H xs us Q I r h
 ·obtain⟨u,rfl,t,rfl⟩:=bH r
  exact PySem.W.KIN.call_text h1 h2 ⟨.int n,H,I.tok _,⟨_,rfl⟩,q⟩
theorem nF{K:Ax}:bZ K (λxs H Q=>((∃ i,xs=[.int i]/\Q (.int i) H)\/∃ k,xs=[.bl k]/\Q (.int (if k then 1 else 0)) H)\/∃ x n,xs=[.str x]/\PySem.intText? x=some n/\x.length<=640/\Q (.int n) H) rdInt:=by
 intro ds vs F H R Q fh h rx q
 unfold rdInt at h
 split at h
 ·obtain⟨v,r,rfl,h1,h2⟩:=reps_cons.mp rx
  rw[reps_nil.mp h2,rep_int.mp h1]
  exact .inl (.inl ⟨_,rfl,q _ _ F H (Grow.refl fh) h (rep_int.mpr rfl)⟩)
 ·obtain⟨v,r,rfl,h1,h2⟩:=reps_cons.mp rx
  rw[reps_nil.mp h2,rep_bl.mp h1]
  exact .inl (.inr ⟨_,rfl,q _ _ F H (Grow.refl fh) h (rep_int.mpr rfl)⟩)
 ·obtain⟨v,r,rfl,h1,h2⟩:=reps_cons.mp rx
  rw[reps_nil.mp h2,rep_str.mp h1]
  obtain⟨n,⟨e1,e2⟩,h⟩:=h
  exact .inr ⟨_,n,rfl,e1,e2,q _ _ F H (Grow.refl fh) h (rep_int.mpr rfl)⟩
 ·exact h.elim
theorem io[Jx]{p:Pos}{t:TDA}(hm:X.mg "int"=none)(ha:WDA X [e] t)(hg:Gl X "int":=by rfl)(he:zSE X e []:=by rfl):WDE X (.Call (.Name "int" p) [e] [] pos) (dCB rdInt t):=⟨have ha:=ha.out;im nE nF hm PyProof.Rows.boot_int ha hg (by decide) (by decide) he⟩
def rdList:RDn:=λds R=>match ds with|[.lst xs]=>R (.lst xs)|[.tup xs]=>R (.lst xs)|[.rol xs]=>R (.lst xs)|_=>False
theorem tO{K:Ax}:bZ K (λxs H Q=>∃ p ys,xs=[.ref p]/\(SqL K H p ys\/SqT K H p ys)/\∀ l,H l=none->Q (.ref l) (upd H l (.lst ys))) rdList:=by
 intro ds vs F H R Q fh h rx q
 unfold rdList at h
 split at h
 ·obtain⟨v,r,rfl,h1,h2⟩:=reps_cons.mp rx
  rw[reps_nil.mp h2]
  obtain⟨a,us,rfl,hq,rs⟩:=rep_lst.mp h1
  exact⟨a,us,rfl,.inl (fh.seq (SqL.of hq)),λl hl=>q _ _ _ _ (Grow.new fh hl _) h (rep_lst.mpr ⟨l,us,rfl,az,rs.mono (aO (fh.free hl) _)⟩)⟩
 ·obtain⟨v,r,rfl,h1,h2⟩:=reps_cons.mp rx
  rw[reps_nil.mp h2]
  obtain⟨a,us,rfl,hq,rs⟩:=rep_tup_mp h1
  exact⟨a,us,rfl,.inr (fh.tup hq),λl hl=>q _ _ _ _ (Grow.new fh hl _) h (rep_lst.mpr ⟨l,us,rfl,az,rs.mono (aO (fh.free hl) _)⟩)⟩
 ·obtain⟨v,r,rfl,h1,h2⟩:=reps_cons.mp rx
  rw[reps_nil.mp h2]
  obtain⟨a,us,rfl,hq,rs⟩:=rep_rol.mp h1
  exact⟨a,us,rfl,.inl (fh.seq hq),λl hl=>q _ _ _ _ (Grow.new fh hl _) h (rep_lst.mpr ⟨l,us,rfl,az,rs.mono (aO (fh.free hl) _)⟩)⟩
 ·exact h.elim
theorem tP[Jx]{p:Pos}{t:TDA}(hm:X.mg "list"=none)(ha:WDA X [e] t)(hg:Gl X "list":=by rfl)(he:zSE X e []:=by rfl):WDE X (.Call (.Name "list" p) [e] [] pos) (dCB rdList t):=⟨have ha:=ha.out;im rS tO hm PyProof.Rows.boot_list ha hg (by decide) (by decide) he⟩
def cx:List D->Option (List Str)
 |[]=>some []
 | .str x::r=>(cx r).map (x::·)
 |_=>none
theorem nG{K:Ax}{F:Hp}:∀ {ds:List D} {xs:List Str} {vs:List V} {us:List Value},cx ds=some xs->Reps K F ds vs->Vals vs us->StrsAre us xs
 |[],xs,vs,us,e,r,q=>by
  cases e
  rw[reps_nil.mp r] at q
  cases q
  exact .nil
 | .str x::ds,xs,vs,us,e,r,q=>by
  obtain⟨v,r',rfl,h1,h2⟩:=reps_cons.mp r
  rw[rep_str.mp h1] at q
  cases q with
  |cons q1 q2=>
   obtain⟨t,rfl⟩:=q1
   cases e2:cx ds with
   |none=>simp[cx,e2] at e
   |some ys=>
    simp[cx,e2] at e
    subst e
    exact .cons x t (nG e2 h2 q2)
def tQ:V->List V->Hp->VK->Prop:=λx vs H Q=>∃ m7 l xs ys,x= .str m7/\vs=[.ref l]/\H l=some (.lst xs)/\(∀ us,Vals xs us->StrsAre us ys)/\(ys.map (·.length)).sum+ys.length*m7.length<=16777216/\Q (.str (Txt.join m7 ys)) H
theorem tR:MtR X "str.join" tQ:=by
 intro pins s σ H x vs v us Q I rx rv h
 obtain⟨m7,l,xs,ys,rfl,rfl,hl,hs,hz,q⟩:=h
 obtain⟨t,rfl⟩:=rx
 obtain⟨u,rfl,ru⟩:=bH rv
 cases ru
 obtain⟨its,r,pl,_⟩:=I.list (SqL.of hl)
 exact PyProof.Rows.join_list pl.isList (by simpa using hs its r) hz λt' k=>⟨.str _,H,I.tok _,⟨_,rfl⟩,q⟩
def tS(m7:Str)(te:TD):TD:=λz R=>te z λx=>match x with
 | .lst ds=>∃ ys,cx ds=some ys/\(ys.map (·.length)).sum+ys.length*m7.length<=1000000/\R (.str (Txt.join m7 ys))
 |_=>False
theorem tT[Jx]{m7:Str}{k:Nat}{p1 apos cpos:Pos}(he:WDE X e te)(j9:zSE X e []:=by rfl)
  (b7:attributeBase (.Constant (.str m7) k p1) "join" X.env (eval (.Constant (.str m7) k p1) X.env)=eval (.Constant (.str m7) k p1) X.env:=by rfl)
  (d7:zHF X cpos [e]:=by rfl)
  (c8:(apos.endLine==cpos.line)=true:=by rfl):WDE X (.Call (.Attribute (.Constant (.str m7) k p1) "join" apos) [e] [] cpos) (tS m7 te):=⟨have he:=he.out;(dZ PySem.F.plainAttrs_str PySem.F.slot_str_join PySem.F.type_str_join tR lJ (bn he pa_nil j9) b7 d7 c8 j9).anti λs H Q q=>by
 obtain⟨B,F,z,kf,rs,R,h1,h2⟩:=q
 have fh:=kf.fh
 refine⟨rfl,?_⟩
 refine⟨B,F,z,kf,rs,_,h1,λx u F1 H1 g1 hx rx=>?_⟩
 split at hx
 ·obtain⟨ys,e1,e2,hx⟩:=hx
  obtain⟨l,vs,rfl,hq,rr⟩:=rep_lst.mp rx
  exact⟨m7,l,vs,ys,rfl,rfl,g1.fh _ _ hq,λus q=>nG e1 rr q,AK e2 (by decide),h2 _ _ F1 H1 g1 hx (rep_str.mpr rfl)⟩
 ·exact hx.elim⟩
def cutD(xs:List D)(lo hi:Option Int):List D:=(xs.drop (HT.sIx xs.length 0 lo)).take (HT.sIx xs.length xs.length hi - HT.sIx xs.length 0 lo)
theorem Reps.drop{K:Ax}{F:Hp}:∀ (n:Nat) {xs:List D} {us:List V},Reps K F xs us->Reps K F (xs.drop n) (us.drop n)
 |0,_,_,r=>r
 |n+1,[],us,r=>by rw[reps_nil.mp r];exact reps_nil.mpr rfl
 |n+1,x::xs,us,r=>by
  obtain⟨u,ur,rfl,_,a2⟩:=reps_cons.mp r
  exact Reps.drop n a2
theorem Reps.take{K:Ax}{F:Hp}:∀ (n:Nat) {xs:List D} {us:List V},Reps K F xs us->Reps K F (xs.take n) (us.take n)
 |0,_,_,_=>reps_nil.mpr rfl
 |n+1,[],us,r=>by rw[reps_nil.mp r];exact reps_nil.mpr rfl
 |n+1,x::xs,us,r=>by
  obtain⟨u,ur,rfl,a1,a2⟩:=reps_cons.mp r
  exact reps_cons.mpr ⟨u,_,rfl,a1,Reps.take n a2⟩
theorem Reps.cut{K:Ax}{F:Hp}{xs:List D}{us:List V}(r:Reps K F xs us)(lo hi:Option Int):Reps K F (cutD xs lo hi) (cutV us lo hi):=by
 unfold cutD cutV
 rw[r.length]
 exact(r.drop _).take _
def tU(ta tb:TD):TD:=λz R=>ta z λx=>tb z λy=>match x,y with| .lst xs,.int i=>R (.lst (cutD xs (some i) none))|_,_=>False
theorem tV[Jx]{p2:Pos}(ha:WDE X a ta)(hb:WDE X b tb):WDE X (.Subscript a (.Slice (some b) none none p2) pos) (tU ta tb):=⟨have ha:=ha.out;have hb:=hb.out;(rH rP ha (rG hb) rF).anti λs H Q q=>by
 obtain⟨B,F,z,kf,rs,R,h1,h2⟩:=q
 have fh:=kf.fh
 refine⟨B,F,z,kf,rs,_,h1,λx u F1 H1 g1 hx rx=>?_⟩
 refine⟨B,F1,z,kf.grow g1,rs.grow g1,_,hx,λy v F2 H2 g2 hy ry=>?_⟩
 split at hy
 ·refine⟨_,rep_int.mp ry,?_⟩
  obtain⟨l,vs,rfl,hq,rr⟩:=rep_lst.mp (rx.mono g2.ff)
  refine⟨l,vs,rfl,SqL.of (g2.fh _ _ hq),λp hp=>?_⟩
  exact h2 _ _ _ _ (g1.trans (g2.trans (Grow.new g2.fh hp _))) hy (rep_lst.mpr ⟨p,_,rfl,az,(rr.cut _ _).mono (aO (g2.fh.free hp) _)⟩)
 ·exact hy.elim⟩
theorem tW{es:List Expr}{k:Nat}{t:TGs}{n:Nat}(hc:X.calm=true)(h:PGs X es t)(hn:(assignEach es X.env).length=n:=by rfl)(m9:(assignEach es X.env).findIdx? (·.1)=none:=by rfl):
  PG X (.Tuple es k pos) (λv σ H Q=>∃ a xs,v= .ref a/\SqL X.K H a xs/\xs.length=n/\t xs σ H Q):=by
 intro pins s σ H v u Q I r hw
 obtain⟨a,xs,e1,hq,hl,hw⟩:=hw
 subst e1
 cases r
 obtain⟨its,rv,pl,hz⟩:=I.list hq
 have e2:(assignEach es X.env).length=its.toArray.size:=by simp[hn,<- hl,rv.length]
 rw[PyProof.Rows.assign_Tuple]
 refine wpAny_bind (wpAny_standAt ?_)
 unfold unpack
 rw[e2,m9]
 refine wpAny_bind (wpAny_holding (kun_itemsOf (I.ok.hd hc) pl.isList λh' hx=>?_))
 have I1:Inv X pins σ H {s with heap:=h'}:=I.kept (t':=s.toks) λb o e=>hx b o (AF (Heap.lt_size e)) e
 exact h pins _ σ H xs _ Q I1 (by simpa using rv) hw
def tX(is:List Nat)(te:TD):TSD:=λE z=>te z λx=>match x with| .lst ds=>ds.length=is.length/\E.nx (aQ is ds z)|_=>False
theorem tY[Jx]{es:List Expr}{k:Nat}{is:List Nat}{p:Pos}(hc:X.calm=true)(he:WDE X e te)(hg:DGs X es is)(hn:(assignEach es X.env).length=is.length:=by rfl)(m9:(assignEach es X.env).findIdx? (·.1)=none:=by rfl)
  (hs:swapsWithSole [.Tuple es k p] e pos.line X.env=pure false:=by rfl) (hw:swappedStores [.Tuple es k p] e X.env=pure none:=by rfl) (h1:(assignEach [.Tuple es k p] X.env).map (·.2)=[assign (.Tuple es k p) X.env]:=by rfl):WDS X (.Assign [.Tuple es k p] e pos) (tX is te):=⟨by
 have he:=he.out
 obtain⟨u,hu,kk⟩:=hg
 refine(lU he (tW hc hu hn m9) hs hw h1).anti λE s H q=>?_
 obtain⟨B,F0,F,z,k,rs,ED,h,e⟩:=q
 refine⟨B,F,z,k.kf,rs,_,h,λd v F' H' g hd rd=>?_⟩
 split at hd
 ·obtain⟨p,vs,rfl,hq,rr⟩:=rep_lst.mp rd
  exact⟨p,vs,rfl,SqL.of (g.fh _ _ hq),by rw[rr.length];exact hd.1,kk _ vs z s B F' H' _ hd.1 rr (rs.grow g) λs' r'=>e.nx _ _ F' H' (k.grow g) hd.2 r'⟩
 ·exact hd.elim⟩
end
end My
namespace L2
theorem ip{env:Env}:∀ (names:List (Str × NameKind)) (p7:List (Str × Addr)),(∀ n,(n,NameKind.free)∈names->∃ c,env.cells.lookup n=some c)->
  ∃ cl,(forIn (m:=Sem) names p7 λx r=>match x with
     |(name,kind)=>if(kind==NameKind.free)=true then(do let a <- cellOf env name;pure (ForInStep.yield ((name,a)::r))) else pure (ForInStep.yield r))=(pure cl:Sem (List (Str × Addr)))/\
   (∀ n c,cl.lookup n=some c->env.cells.lookup n=some c\/p7.lookup n=some c)/\(∀ n,(n,NameKind.free)∈names->∃ c,cl.lookup n=some c)/\∀ n c,p7.lookup n=some c->∃ c',cl.lookup n=some c'
 |[],p7,_=>⟨p7,rfl,(λ_ _ h=> .inr h),(λ_ h=>by cases h),(λ_ c h=>⟨c,h⟩)⟩
 |(name,kind)::r,p7,h=>by
  by_cases hk:(kind==NameKind.free)=true
  ·have ek:kind= .free:=by simpa using hk
   subst ek
   obtain⟨c,hc⟩:=h name AE
   obtain⟨cl,e,p1,p2,p3⟩:=ip r ((name,c)::p7) λn q=>h n (AC _ q)
   refine⟨cl,?_,λn c' q=>?_,λn q=>?_,λn c' q=>?_⟩
   ·rw[CI]
    have ec:cellOf env name=pure c:=by unfold cellOf;rw[hc]
    simp only[hk,if_true,ec]
    exact e
   ·rcases p1 n c' q with z|z
    ·exact .inl z
    ·rw[AR] at z
     split at z
     ·rename_i q2
      have en:n=name:=by simpa using q2
      cases z
      exact .inl (en ▸ hc)
     ·exact .inr z
   ·rcases AA.mp q with z|z
    ·cases z
     exact p3 _ c (by rw[AR];simp)
    ·exact p2 n z
   ·by_cases hn:n=name
    ·subst hn;exact p3 n c (by rw[AR];simp)
    ·exact p3 n c' (by rw[AR,beq_eq_false_iff_ne.mpr hn];exact q)
  ·obtain⟨cl,e,p1,p2,p3⟩:=ip r p7 λn q=>h n (AC _ q)
   refine⟨cl,?_,p1,λn q=>?_,p3⟩
   ·rw[CI]
    simp only[hk]
    exact e
   ·rcases AA.mp q with z|z
    ·cases z;exact absurd rfl hk
    ·exact p2 n z
theorem closure_is{env:Env}{scope:Scope}(h:∀ n,(n,NameKind.free)∈scope.names->∃ c,env.cells.lookup n=some c):
  ∃ cl,closureFor scope env=pure cl/\(∀ n c,cl.lookup n=some c->env.cells.lookup n=some c)/\∀ n,(n,NameKind.free)∈scope.names->∃ c,cl.lookup n=some c:=by
 obtain⟨cl,e,p1,p2,_⟩:=ip scope.names [] h
 refine⟨cl,?_,λn c q=>(p1 n c q).elim id (λz=>nomatch z),p2⟩
 unfold closureFor
 show(forIn (m:=Sem) scope.names [] _>>=λs=>pure s)=pure cl
 rw[e]
 rfl
theorem fF{env:Env}:∀ {names:List (Str × NameKind)} {n:Str} {k:NameKind},(∀ y∈names,y.2≠.cell)->k= .cell\/k= .free->
  (names.map λ(n,k)=>if(k==NameKind.free && env.scope.kind== .function && env.kindOf n==some .cell) then(n,NameKind.cell) else(n,k)).lookup n=some k->(n,NameKind.free)∈names
 |[],_,_,_,_,h=>by simp at h
 |(a,b)::r,n,k,hc,hk,h=>by
  rw[AO] at h
  by_cases hb:(b==NameKind.free && env.scope.kind== .function && env.kindOf a==some .cell)=true
  ·have eb:b= .free:=by
    have:=(AZ _ _ ▸ ((AZ _ _ ▸ hb).1)).1
    simpa using this
   simp only[hb,if_true] at h
   rw[AR] at h
   split at h
   ·rename_i q
    have en:n=a:=by simpa using q
    subst en eb
    exact AE
   ·exact AC _ (fF (λy q=>hc y (AC _ q)) hk h)
  ·simp only[hb] at h
   rw[if_neg (by simp),AR] at h
   split at h
   ·rename_i q
    have en:n=a:=by simpa using q
    cases h
    subst en
    rcases hk with z|z
    ·exact absurd z (hc _ AE)
    ·rw[z];exact AE
   ·exact AC _ (fF (λy q=>hc y (AC _ q)) hk h)
section
variable {prog:Program}{w:World}{A:Around}{R:Result->Shared->Prop}{s:Shared}
abbrev nH(f8:List Expr)(env:Env):Sem Bool:=forIn f8 true λc r=>if r=true then do let ok <- isTrue c env (eval c env);pure (ForInStep.yield ok) else pure (ForInStep.yield r)
theorem nI{gV d9 iter:Expr}{f8:List Expr}{scope:Scope}{pos:Pos}{it p7:Value}{env:Env}(I:Nat->Shared->Prop)
  (b_:∀ n s,I n s->wpAny (model prog w) A (pyNext it) (λr s₁=>match r with
   |none=>R (.ok .next) s₁
   |some v=>wpAny (model prog w) A (letOwnedTupleGo d9 it v) (λ_ s₁'=>wpAny (model prog w) A (assign d9 env v) (λ_ s₂=>wpAny (model prog w) A (nH f8 env) (λok s₂'=>if ok=true then wpAny (model prog w) A (eval gV env) (λx s₃=>
     wpAny (model prog w) A (call (.builtin "list.append") [p7,x]) (λ_ s₄=>∃ m,m<n/\I m s₄) (λ_ _=>False) s₃)
     (λ_ _=>False) s₂' else ∃ m,m<n/\I m s₂') (λ_ _=>False) s₂) (λ_ _=>False) s₁') (λ_ _=>False) s₁) (λ_ _=>False) s)
  (n:Nat) (h:I n s):
  codeAny (model prog w) A (.compLoop (.ListComp gV [⟨d9,iter,f8,0⟩] scope pos) 0 it p7 env) R s:=by
 refine codeAny_loop rfl I (λn s hI=>?_) n h
 show wpAny _ _ ((compTurn (.ListComp gV [⟨d9,iter,f8,0⟩] scope pos) 0 it p7 env).onRaise (λx=>do noteFrame x env;theTreesLotGoes x)) _ _ s
 refine wpAny_noted ?_
 rw[compTurn_list]
 refine wpAny_bind (wpAny_standAt (wpAny_bind (wpAny_mono (b_ n s hI) (λr s₁ h₁=>?_) λ_ _ h'=>h'.elim)))
 cases r with
 |none=>exact wpAny_pure h₁
 |some v=>
  refine wpAny_bind (wpAny_mono h₁ (λ_ s₁' h₁'=>wpAny_bind (wpAny_mono h₁' (λ_ s₂ h₂=>wpAny_bind (wpAny_mono h₂ (λok s₃ h₃=>?_) λ_ _ h'=>h'.elim)) λ_ _ h'=>h'.elim)) λ_ _ h'=>h'.elim)
  cases ok with
  |false=>exact wpAny_pure ⟨rfl,h₃⟩
  |true=>
   exact wpAny_bind (wpAny_bind (wpAny_mono h₃ (λx s₄ h₄=>wpAny_bind (wpAny_mono h₄ (λ_ s₅ h₅=>wpAny_pure (wpAny_pure ⟨rfl,h₅⟩)) λ_ _ h'=>h'.elim)) λ_ _ h'=>h'.elim))
end
def cb(X:Cx)(scope:Scope)(cl:List (Str × Addr))(x:Str)(s₀:Shared)(H₀:Hp)(fp:List Addr):Cx where
 prog:=X.prog
 w:=X.w
 K:=X.K
 mg:=X.mg
 base:=X.base
 A:=X.A
 N:=X.N.map (λn=>if n=x then("":Str) else n)++[x]
 s₀:=s₀
 H₀:=H₀
 env:=compEnvC scope cl s₀.heap.objs.size X.env
 outer:=X.stack
 stack:=X.stack
 ex:=fp
 fn:=λ_=>false
 calm:=X.calm
 pn:=[]
 xe:=λ_ _=>False
structure CompScope(X:Cx)(scope:Scope)(x:Str):Prop where
 kind:scope.kind= .function
 nocell:∀ y∈scope.names,y.2≠.cell
 names:∀ y∈scope.names,y.2= .local->scope.names.lookup y.1=some .local
 own:scope.names.lookup x=some .local
 free:∀ n,(n,NameKind.free)∈scope.names->X.env.kindOf n=some .cell
 vis:∀ n∈X.N,n≠x->Vis (relabel scope X.env) n->(n,NameKind.free)∈scope.names
 empty:¬ Vis (relabel scope X.env) ("":Str)
 cells:∀ n,(n,NameKind.free)∈scope.names->(relabel scope X.env).names.lookup n=some .cell
 nd:(X.N.map (λn=>if n=x then("":Str) else n)++[x]).Nodup
section
variable {X:Cx}{pins:List (Addr × Obj)}{σ:St}{H:Hp}{s:Shared}{scope:Scope}{cl:List (Str × Addr)}{x:Str}{fp:List Addr}
theorem iq(I:Inv X pins σ H s)(S:CompScope X scope x)(c1:∀ n c,cl.lookup n=some c->X.env.cells.lookup n=some c)(c2:∀ n,(n,NameKind.free)∈scope.names->∃ c,cl.lookup n=some c)
  (hf:∀ b∈fp,FpOk X pins H b) (hl:∀ b∈fp,b<s.heap.objs.size):(cb X scope cl x s H fp).Ok where
 mod:=I.ok.mod
 kind:=S.kind
 glob:=I.ok.glob
 blt:=I.ok.blt
 above:=Az _
 inj:=λy z c h1 h2=>I.ok.inj y z c (c1 y c h1) (c1 z c h2)
 has:=λn hn=>by
  rcases hn with hn|hn
  ·exact c2 n (fF S.nocell (.inl rfl) hn)
  ·exact c2 n (fF S.nocell (.inr rfl) hn)
 cab:=λ_ _ h=>nomatch h
 hd:=I.ok.hd
 frames:=I.ok.frames
 stk:= .inl rfl
 exf:=λb hb=>⟨AF (hl b hb),λy c h=>(hf b hb).2.2.2.2.1 y c (c1 y c h)⟩
 bs:=I.bs
 bsz:=AK I.ok.bsz I.sz
 noex:=λb o e hb=>by
  have h1:=I.ok.noex b o e
  rcases(hf b hb).2.2.2.1 with z|z
  ·exact h1 z
  ·exact absurd (AV (Heap.lt_size e) (AK I.ok.bsz z)) (Bs _)
 exfs:=λb hb hs=>by
  rcases AA.mp (I.stkSub b hs) with z|z
  ·exact(hf b hb).2.1 z
  ·exact(hf b hb).2.2.1 z
 funs:=I.stack
 frf:=I.stkFree
theorem nJ{h':Heap}{t':Nat}(I:Inv X pins σ H s)(S:CompScope X scope x)(c1:∀ n c,cl.lookup n=some c->X.env.cells.lookup n=some c)(c2:∀ n,(n,NameKind.free)∈scope.names->∃ c,cl.lookup n=some c)
  (hf:∀ b∈fp,FpOk X pins H b) (hl:∀ b∈fp,b<s.heap.objs.size) {m:Str->Option Value} (hn:h'.Ns s.heap.objs.size m) (k:∀ b o,s.heap.get? b=some o->h'.get? b=some o):
  Inv (cb X scope cl x s H fp) [] (σ++[none]) H {s with heap:=h',toks:=t'}:=by
 refine⟨iq I S c1 c2 hf hl,rfl,I.bare,Un.kept k,⟨m,hn,λi n v e1 e2 e3=>?_⟩,λn c e=>?_,I.hok.fresh (Az _),λn c e=>I.freeC n c (c1 n c e),λp hp=>absurd (show p∈([]:List (Addr × Obj)) from hp) (by simp),I.hok.kept k,?_⟩
 ·have hi:i<σ.length:=by
   rcases BI i σ.length with q|q
   ·exact q
   ·rw[Bu q] at e2
    cases hz:i - σ.length with
    |zero=>rw[hz] at e2;simp at e2
    |succ z=>rw[hz] at e2;simp at e2
  rw[Bh hi] at e2
  have E8:i<X.N.length:=by rw[<- I.len];exact hi
  have Dx:(X.N.map (λn=>if n=x then("":Str) else n)++[x])[i]?=some n:=e1
  rw[Bh (by simpa using E8),A2,AX E8] at Dx
  simp only[Option.map_some,Option.some.injEq] at Dx
  by_cases hx:X.N[i]=x
  ·rw[if_pos hx] at Dx
   subst Dx
   exact absurd e3 S.empty
  ·rw[if_neg hx] at Dx
   subst Dx
   have g8:=S.vis _ (By E8) hx e3
   have j5:=S.free _ g8
   obtain⟨c,hc⟩:=c2 _ g8
   obtain⟨mX,Kg,Jj⟩:=I.loc
   obtain⟨u,ru,lk⟩:=Jj i X.N[i] v (AX E8) e2 (.inr (.inl j5))
   refine⟨u,ru,.inr ⟨?_,c,hc,?_⟩⟩
   ·exact .inl (S.cells _ g8)
   ·rcases lk with⟨kl,_⟩|⟨_,c',Dw,i6⟩
    ·rw[j5] at kl;cases kl
    ·have:c=c':=by
      have:=c1 _ c hc
      rw[Dw] at this
      exact(Option.some.inj this).symm
     subst this
     obtain⟨o,ho,hd⟩:=i6
     exact⟨o,k _ _ ho,hd⟩
 ·obtain⟨v,o,ho,hd⟩:=I.cell n c (c1 n c e)
  exact⟨v,o,k _ _ ho,hd⟩
 ·show(σ++[none]).length=(X.N.map _++[x]).length
  rw[AI,AI,AH,I.len]
  rfl
end
def fG(wi:TI)(tt:TT)(g5:TE):TE:=λσ H Q=>wi σ H λJ H1=>∀ D,H1 D=none->∃ W:Nat->Nat->Hp->Prop,(∃ m,W 0 m (upd H1 D (.lst [])))/\∀ i m H,W i m H->
 (J.stop i H/\Q (.ref D) H)\/(J.go i H/\∀ x H',J.yld i H x H'->tt (σ++[some x]) H' λb H1=>if b=true then g5 (σ++[some x]) H1 λy H''=>∃ vs,H'' D=some (.lst vs)/\vs.length<sizeLine/\∃ m',m'<m/\W (i+1) m' (upd H'' D (.lst (vs++[y]))) else ∃ m',m'<m/\W (i+1) m' H1)
def PIf(X:Cx)(f8:List Expr)(t:TT):Prop:=
 ∀ (pins:List (Addr × Obj)) (s:Shared) (σ:St) (H:Hp) (Q:Bool->Hp->Prop),Inv X pins σ H s->t σ H Q->wpAny (model X.prog X.w) X.A (nH f8 X.env) (TP X pins σ Q) X.xe s
theorem pif_nil{X:Cx}:PIf X [] (λ_ H Q=>Q true H):=λpins s σ H Q I q=>wpAny_tests_nil ⟨H,I,q⟩
theorem PIf.anti{X:Cx}{e:List Expr}{t t':TT}(h:PIf X e t)(a:∀ s H Q,t' s H Q->t s H Q):PIf X e t':=λpins s σ H Q I q=>h pins s σ H Q I (a _ _ _ q)
section
variable {X:Cx}
theorem tZ{P:Program}{w:World}{H:Hp}{h h':Heap}{a:Addr}(x:HOk P w H h)(hn:H a=none)(hs:Heap.SameBut a h h'):HOk P w H h':=λb ob e=>by
 refine(x b ob e).stay (λc w' hc q=>(hs.2 c ?_).trans q) (λ_ q=>q) λ_ _ q=>q
 rintro rfl
 rcases hc with rfl|hc
 ·rw[hn] at e;cases e
 ·rw[hn] at hc;cases hc
theorem pe_comp{gV iter:Expr}{f8:List Expr}{x:Str}{px:Pos}{scope:Scope}{pos:Pos}{wi:TI}{tt:TT}{g5:TE}(hc:X.calm=true)(S:CompScope X scope x)(hi:PI X (.Name x px) iter wi)
  (hq:∀ cl s₀ H₀ fp,PIf (cb X scope cl x s₀ H₀ fp) f8 tt) (he:∀ cl s₀ H₀ fp,PE (cb X scope cl x s₀ H₀ fp) gV g5) (hs:∀ y,zFS X iter y:=by exact λ_=>rfl):
  PE X (.ListComp gV [⟨.Name x px,iter,f8,0⟩] scope pos) (fG wi tt g5):=by
 intro pins s σ H Q I h
 obtain⟨cl,i6,c1,c2⟩:=closure_is (env:=X.env) (scope:=scope) (λn q=>I.ok.has n (.inl (S.free n q)))
 rw[eval_ListComp]
 refine wpAny_comprehension_free (use:=none) rfl hs i6 S.kind S.names (thn (hi pins s σ H _ I h) λv s1 h1=>thn h1 λE1 s2 h2=>?_)
 obtain⟨it,fp,tn,J,H1,e,I1,T,st,f1,hr⟩:=h2
 subst e
 have g9:∀ b∈fp,b<s2.heap.objs.size:=λb hb=>by
  obtain⟨o,ho,_⟩:=T.obj _ _ st b hb
  exact Heap.lt_size ho
 have hD:H1 s2.heap.objs.size=none:=I1.hok.fresh (Az _)
 obtain⟨W,⟨m0,w0⟩,step⟩:=hr _ hD
 refine wpAny_newObj_type (wpAny_newFunctionEnv S.nocell (by intro y hy;simp at hy) (λh₁ hns₁ hsb₁=>?_) S.kind)
 have I3:Inv X pins σ (upd H1 s2.heap.objs.size (.lst [])) {s2 with heap:=s2.heap.push {cls:= .type "list",data:= .seq ([]:List Value).toArray},toks:=s2.toks}:=I1.lnew (its:=[]) (ys:=[]) .nil (AY _)
 have gt:∀ b∈fp,b<(s2.heap.push {cls:= .type "list",data:= .seq ([]:List Value).toArray}).objs.size:=λb hb=>by
  rw[Heap.size_push];exact CJ (g9 b hb)
 have l9:∀ b∈fp,FpOk X pins (upd H1 s2.heap.objs.size (.lst [])) b:=λb hb=>⟨by rw[ak (AF (g9 b hb))];exact(f1 b hb).1,(f1 b hb).2⟩
 have kp:∀ b o,(s2.heap.push {cls:= .type "list",data:= .seq ([]:List Value).toArray}).get? b=some o->h₁.get? b=some o:=λb o e=>
  (hsb₁.2 b (AF (Heap.lt_size e))).trans (Heap.get?_push_of_some _ e)
 have I4:=nJ (x:=x) (fp:=fp) (t':=s2.toks+([]:List (Str × Value)).length) I3 S c1 c2 l9 gt hns₁ kp
 have v8:=iq (x:=x) (fp:=fp) I3 S c1 c2 l9 gt
 generalize hY:cb X scope cl x {s2 with heap:=s2.heap.push {cls:= .type "list",data:= .seq ([]:List Value).toArray},toks:=s2.toks} (upd H1 s2.heap.objs.size (.lst [])) fp=Y at I4 v8
 have yP:Y.prog=X.prog:=by rw[<- hY];rfl
 have yW:Y.w=X.w:=by rw[<- hY];rfl
 have yK:Y.K=X.K:=by rw[<- hY];rfl
 have yA:Y.A=X.A:=by rw[<- hY];rfl
 have yN:Y.N=X.N.map (λn=>if n=x then("":Str) else n)++[x]:=by rw[<- hY];rfl
 have yE:Y.env=compEnvC scope cl (s2.heap.push {cls:= .type "list",data:= .seq ([]:List Value).toArray}).objs.size X.env:=by rw[<- hY];rfl
 have yX:Y.xe=λ_ _=>False:=by rw[<- hY];rfl
 have yC:Y.calm=true:=by rw[<- hY];exact hc
 have Ec:Y.ex=fp:=by rw[<- hY];rfl
 have FS:Y.pn=[]:=by rw[<- hY];rfl
 have FT:Y.fs=frs X.stack:=by rw[<- hY];rfl
 have FU:Y.H₀=upd H1 s2.heap.objs.size (.lst []):=by rw[<- hY];rfl
 have Ed:Y.s₀={s2 with heap:=s2.heap.push {cls:= .type "list",data:= .seq ([]:List Value).toArray},toks:=s2.toks}:=by rw[<- hY];rfl
 have FV:PE Y gV g5:=by rw[<- hY];exact he _ _ _ _
 have FW:PIf Y f8 tt:=by rw[<- hY];exact hq _ _ _ _
 have f6:∀ {H':Hp},(∀ b∈fp,H' b=none)->∀ b∈fp,FpOk Y [] H' b:=λ{H'} hn b hb=>by
  have f9:b∈Y.ex:=by rw[Ec];exact hb
  exact⟨hn b hb,(v8.exf b f9).1,v8.exfs b f9,.inl f9,λn c e=>(v8.exf b f9).2 n c e,by rw[FS];simp⟩
 have q8:Y.env.scope.names.lookup x=some .local:=by rw[yE];exact lookup_relabel_local S.own
 have Ee:Y.N[X.N.length]?=some x:=by rw[yN];simp
 have FX:Y.N.Nodup:=by rw[yN];exact S.nd
 -- j_ end of j_ Ef
 have d6:∀ (o:Option V) (H':Hp) (s':Shared),Inv Y [] (σ++[o]) H' s'->Q (.ref s2.heap.objs.size) H'->∀ h',Heap.SameBut Y.env.locals s'.heap h'->EP X pins σ Q (.ref s2.heap.objs.size) {s' with heap:=h'}:=λo H' s' I' q h' hsb=>by
  have n9:Y.env.locals=(s2.heap.push {cls:= .type "list",data:= .seq ([]:List Value).toArray}).objs.size:=by rw[yE];rfl
  have ne:∀ b ob,(s2.heap.push {cls:= .type "list",data:= .seq ([]:List Value).toArray}).get? b=some ob->b≠Y.env.locals:=λb ob e=>by rw[n9];exact AF (Heap.lt_size e)
  have bs:=I'.base
  rw[FT,Ec,FU,Ed] at bs
  refine⟨.ref s2.heap.objs.size,H',I3.call' (ch:=fp) ?_ ⟨λb ob e n h1 h2=>?_,λb ob e n h1 h2=>?_,bs.free,λb ob e h2=>?_,bs.tups,bs.frzs,bs.tbls⟩ ?_ I'.bare ?_,rfl,q⟩
  ·have:=I'.os
   rw[Ed] at this
   exact this
  ·exact(hsb.2 b (ne b ob e)).trans (bs.keep b ob e n h1 h2)
  ·obtain⟨sl,q⟩:=bs.slot b ob e n h1 h2
   exact⟨sl,(hsb.2 b (ne b ob e)).trans q⟩
  ·obtain⟨o',q⟩:=bs.there b ob e h2
   exact⟨o',(hsb.2 b (ne b ob e)).trans q⟩
  ·have:=tZ I'.hok I'.free hsb
   rw[yP,yW] at this
   exact this
  ·exact λb hb=>⟨(l9 b hb).2.2.2.1,(l9 b hb).2.1,(l9 b hb).2.2.2.2.1,(l9 b hb).2.2.2.2.2⟩
 have n5:codeAny (model X.prog X.w) X.A (.compLoop (.ListComp gV [⟨.Name x px,iter,f8,0⟩] scope pos) 0 (.ref it) (.ref s2.heap.objs.size) (compEnvC scope cl (s2.heap.push {cls:= .type "list",data:= .seq ([]:List Value).toArray}).objs.size X.env))
   (compPost (model X.prog X.w) X.A X.xe none (EP X pins σ Q) (.ref s2.heap.objs.size) (s2.heap.push {cls:= .type "list",data:= .seq ([]:List Value).toArray}).objs.size)
   {s2 with heap:=h₁,toks:=s2.toks+([]:List (Str × Value)).length}:=by
  refine nI (λn s'=>∃ i o H',Inv Y [] (σ++[o]) H' s'/\tn i s'.heap/\(∀ b∈fp,H' b=none)/\W i n H') ?_ m0 ⟨0,none,_,I4,T.keep _ _ _ st (λb hb ob e=>kp b ob (Heap.get?_push_of_some _ e)),λb hb=>(l9 b hb).1,w0⟩
  rintro n s3 ⟨i,o,H3,I5,t3,f3,w3⟩
  rcases step i n H3 w3 with⟨stop,q⟩|⟨go,q⟩
  ·have dn:=T.done Y yP yW yK yC i [] s3 _ H3 (λ_ _=>False) I5 (f6 f3) t3 stop
   rw[yA] at dn
   refine thn dn λr s4 ⟨hr,I6⟩=>?_
   subst hr
   obtain⟨m,hn,_⟩:=I6.loc
   have n9:Y.env.locals=(s2.heap.push {cls:= .type "list",data:= .seq ([]:List Value).toArray}).objs.size:=by rw[yE];rfl
   rw[n9] at hn
   exact⟨m,hn,λh' hsb=>d6 o H3 s4 I6 q h' (by rw[n9];exact hsb)⟩
  ·have Eg:=T.item Y yP yW yK yC i [] s3 _ H3 (λ_ _=>False) I5 (f6 f3) t3 go
   rw[yA] at Eg
   refine thn Eg λr s4 ⟨u,hr,h4⟩=>?_
   subst hr
   refine thn h4 λ_ s5 ⟨xv,H5,I6,r5,y5,k6,D0⟩=>?_
   have FY:=I6.pinned (f6 D0) (T.obj _ _ k6)
   rw[<- yE]
   refine wpAny_assign_Name (df FY FX Ee (.inl q8) r5 (λs6 I7=>?_) (.inr q8))
   have Dm:(σ++[o]).set X.N.length (some xv)=σ++[some xv]:=by
    rw[<- I.len]
    simp
   rw[Dm] at I7
   have tv:=FW _ s6 _ H5 _ I7 (q xv H5 y5)
   rw[yP,yW,yA,yX] at tv
   refine thn tv λb FZ ⟨F4,v9,qb⟩=>?_
   cases b with
   |false=>
    obtain⟨m',hm,w7⟩:=qb
    refine⟨m',hm,i+1,some xv,_,v9.unpinned,T.keep _ _ _ k6 λb hb ob e=>(v9.pin (b,ob) (AJ _ (AJ _ (bR hb e)))).1,λb hb=>?_,w7⟩
    obtain⟨ob,e,d⟩:=T.obj _ _ k6 b hb
    exact(v9.pin (b,ob) (AJ _ (AJ _ (bR hb e)))).2.1
   |true=>
   have ev:=FV _ FZ _ F4 _ v9 qb
   rw[yP,yW,yA,yX] at ev
   refine thn ev λyv s7 ⟨y,H6,I8,ry,vs,F5,a_,m',hm,w7⟩=>?_
   have ap:=fj (X:=Y) _ s7 _ H6 (.ref s2.heap.objs.size) [y] (.ref s2.heap.objs.size) [yv] (λ_ H7=>H7=upd H6 s2.heap.objs.size (.lst (vs++[y]))) I8 rfl (.cons ry .nil) ⟨_,vs,y,rfl,rfl,F5,a_,rfl⟩
   rw[yP,yW,yA,yX] at ap
   refine thn ap λ_ s8 ⟨_,H7,I9,_,e7⟩=>?_
   subst e7
   refine⟨m',hm,i+1,some xv,_,I9.unpinned,T.keep _ _ _ k6 λb hb ob e=>(I9.pin (b,ob) (AJ _ (AJ _ (bR hb e)))).1,λb hb=>?_,w7⟩
   obtain⟨ob,e,d⟩:=T.obj _ _ k6 b hb
   exact(I9.pin (b,ob) (AJ _ (AJ _ (bR hb e)))).2.1
 exact codeAny_compStart_list n5 (T.self _ _ _ _ _ (T.keep _ _ _ st (λb hb ob e=>kp b ob (Heap.get?_push_of_some _ e))) n5)
theorem ub{gV iter:Expr}{f8:List Expr}{x y:Str}{px py q9:Pos}{scope:Scope}{pos:Pos}{wi:TI}{tt:TT}{g5:TE}{ix:Nat}(hc:X.calm=true)(S:CompScope X scope x)(hi:PI X (.Name x px) iter wi)
  (hq:∀ cl s₀ H₀ fp,PIf (cb X scope cl x s₀ H₀ fp) f8 tt) (he:∀ cl s₀ H₀ fp,PE (cb X scope cl x s₀ H₀ fp) gV g5) (hN:X.N.Nodup) (F6:X.N[ix]?=some y) (hy:Loc X.env.scope y) (hf:zFN X y)
  (Di:swapsWith (.ListComp gV [⟨.Name x px,iter,f8,0⟩] scope pos) (some (.Name y py)) q9.line X.env=pure true) (hs:∀ y,zFS X iter y:=by exact λ_=>rfl):
  PS X (.Assign [.Name y py] (.ListComp gV [⟨.Name x px,iter,f8,0⟩] scope pos) q9) (tAsg (fG wi tt g5) (eY ix)):=by
 intro pins s σ H DE I h
 have h:wi σ H λJ H1=>∀ D,H1 D=none->∃ W:Nat->Nat->Hp->Prop,(∃ m,W 0 m (upd H1 D (.lst [])))/\∀ i m H,W i m H->
  (J.stop i H/\DE.nx (σ.set ix (some (.ref D))) H)\/(J.go i H/\∀ x H',J.yld i H x H'->tt (σ++[some x]) H' λb H1=>if b=true then g5 (σ++[some x]) H1 λy H''=>∃ vs,H'' D=some (.lst vs)/\vs.length<sizeLine/\∃ m',m'<m/\W (i+1) m' (upd H'' D (.lst (vs++[y]))) else ∃ m',m'<m/\W (i+1) m' H1):=h
 obtain⟨cl,i6,c1,c2⟩:=closure_is (env:=X.env) (scope:=scope) (λn q=>I.ok.has n (.inl (S.free n q)))
 rw[exec_Assign_Name_used _ _ _ _ Di]
 refine wpAny_bind (wpAny_standAt (wpAny_bind ?_))
 show wpAny _ X.A (do let _ <- comprehension (.ListComp gV [⟨.Name x px,iter,f8,0⟩] scope pos) scope X.env _ (newList []) false (eval iter X.env) (some (assign (.Name y py) X.env))) _ _ s
 refine wpAny_bind (wpAny_mono (wpAny_comprehension_free (use:=some (assign (.Name y py) X.env)) (Q:=λ_ s'=>SP X pins DE .next s') rfl hs i6 S.kind S.names
  (thn (hi pins s σ H _ I h) λv s1 h1=>thn h1 λE1 s2 h2=>?_)) (λ_ s' hq=>wpAny_pure (wpAny_pure hq)) λ_ _ e=>e)
 obtain⟨it,fp,tn,J,H1,e,I1,T,st,f1,hr⟩:=h2
 subst e
 have g9:∀ b∈fp,b<s2.heap.objs.size:=λb hb=>by
  obtain⟨o,ho,_⟩:=T.obj _ _ st b hb
  exact Heap.lt_size ho
 have hD:H1 s2.heap.objs.size=none:=I1.hok.fresh (Az _)
 obtain⟨W,⟨m0,w0⟩,step⟩:=hr _ hD
 refine wpAny_newObj_type (wpAny_newFunctionEnv S.nocell (by intro y hy;simp at hy) (λh₁ hns₁ hsb₁=>?_) S.kind)
 have I3:Inv X pins σ (upd H1 s2.heap.objs.size (.lst [])) {s2 with heap:=s2.heap.push {cls:= .type "list",data:= .seq ([]:List Value).toArray},toks:=s2.toks}:=I1.lnew (its:=[]) (ys:=[]) .nil (AY _)
 have gt:∀ b∈fp,b<(s2.heap.push {cls:= .type "list",data:= .seq ([]:List Value).toArray}).objs.size:=λb hb=>by
  rw[Heap.size_push];exact CJ (g9 b hb)
 have l9:∀ b∈fp,FpOk X pins (upd H1 s2.heap.objs.size (.lst [])) b:=λb hb=>⟨by rw[ak (AF (g9 b hb))];exact(f1 b hb).1,(f1 b hb).2⟩
 have kp:∀ b o,(s2.heap.push {cls:= .type "list",data:= .seq ([]:List Value).toArray}).get? b=some o->h₁.get? b=some o:=λb o e=>
  (hsb₁.2 b (AF (Heap.lt_size e))).trans (Heap.get?_push_of_some _ e)
 have I4:=nJ (x:=x) (fp:=fp) (t':=s2.toks+([]:List (Str × Value)).length) I3 S c1 c2 l9 gt hns₁ kp
 have v8:=iq (x:=x) (fp:=fp) I3 S c1 c2 l9 gt
 generalize hY:cb X scope cl x {s2 with heap:=s2.heap.push {cls:= .type "list",data:= .seq ([]:List Value).toArray},toks:=s2.toks} (upd H1 s2.heap.objs.size (.lst [])) fp=Y at I4 v8
 have yP:Y.prog=X.prog:=by rw[<- hY];rfl
 have yW:Y.w=X.w:=by rw[<- hY];rfl
 have yK:Y.K=X.K:=by rw[<- hY];rfl
 have yA:Y.A=X.A:=by rw[<- hY];rfl
 have yN:Y.N=X.N.map (λn=>if n=x then("":Str) else n)++[x]:=by rw[<- hY];rfl
 have yE:Y.env=compEnvC scope cl (s2.heap.push {cls:= .type "list",data:= .seq ([]:List Value).toArray}).objs.size X.env:=by rw[<- hY];rfl
 have yX:Y.xe=λ_ _=>False:=by rw[<- hY];rfl
 have yC:Y.calm=true:=by rw[<- hY];exact hc
 have Ec:Y.ex=fp:=by rw[<- hY];rfl
 have FS:Y.pn=[]:=by rw[<- hY];rfl
 have FT:Y.fs=frs X.stack:=by rw[<- hY];rfl
 have FU:Y.H₀=upd H1 s2.heap.objs.size (.lst []):=by rw[<- hY];rfl
 have Ed:Y.s₀={s2 with heap:=s2.heap.push {cls:= .type "list",data:= .seq ([]:List Value).toArray},toks:=s2.toks}:=by rw[<- hY];rfl
 have FV:PE Y gV g5:=by rw[<- hY];exact he _ _ _ _
 have FW:PIf Y f8 tt:=by rw[<- hY];exact hq _ _ _ _
 have f6:∀ {H':Hp},(∀ b∈fp,H' b=none)->∀ b∈fp,FpOk Y [] H' b:=λ{H'} hn b hb=>by
  have f9:b∈Y.ex:=by rw[Ec];exact hb
  exact⟨hn b hb,(v8.exf b f9).1,v8.exfs b f9,.inl f9,λn c e=>(v8.exf b f9).2 n c e,by rw[FS];simp⟩
 have q8:Y.env.scope.names.lookup x=some .local:=by rw[yE];exact lookup_relabel_local S.own
 have Ee:Y.N[X.N.length]?=some x:=by rw[yN];simp
 have FX:Y.N.Nodup:=by rw[yN];exact S.nd
 -- j_ end of j_ Ef
 have n9:Y.env.locals=(s2.heap.push {cls:= .type "list",data:= .seq ([]:List Value).toArray}).objs.size:=by rw[yE];rfl
 have d6:∀ (o:Option V) (H':Hp) (s':Shared),Inv Y [] (σ++[o]) H' s'->Inv X pins σ H' s':=λo H' s' I'=>by
  have bs:=I'.base
  rw[FT,Ec,FU,Ed] at bs
  refine I3.call' (ch:=fp) ?_ bs ?_ I'.bare ?_
  ·have:=I'.os
   rw[Ed] at this
   exact this
  ·have:=I'.hok
   rw[yP,yW] at this
   exact this
  ·exact λb hb=>⟨(l9 b hb).2.2.2.1,(l9 b hb).2.1,(l9 b hb).2.2.2.2.1,(l9 b hb).2.2.2.2.2⟩
 have n5:codeAny (model X.prog X.w) X.A (.compLoop (.ListComp gV [⟨.Name x px,iter,f8,0⟩] scope pos) 0 (.ref it) (.ref s2.heap.objs.size) (compEnvC scope cl (s2.heap.push {cls:= .type "list",data:= .seq ([]:List Value).toArray}).objs.size X.env))
   (compPost (model X.prog X.w) X.A X.xe (some (assign (.Name y py) X.env)) (λ_ s'=>SP X pins DE .next s') (.ref s2.heap.objs.size) (s2.heap.push {cls:= .type "list",data:= .seq ([]:List Value).toArray}).objs.size)
   {s2 with heap:=h₁,toks:=s2.toks+([]:List (Str × Value)).length}:=by
  refine nI (λn s'=>∃ i o H',Inv Y [] (σ++[o]) H' s'/\tn i s'.heap/\(∀ b∈fp,H' b=none)/\W i n H') ?_ m0 ⟨0,none,_,I4,T.keep _ _ _ st (λb hb ob e=>kp b ob (Heap.get?_push_of_some _ e)),λb hb=>(l9 b hb).1,w0⟩
  rintro n s3 ⟨i,o,H3,I5,t3,f3,w3⟩
  rcases step i n H3 w3 with⟨stop,q⟩|⟨go,q⟩
  ·have dn:=T.done Y yP yW yK yC i [] s3 _ H3 (λ_ _=>False) I5 (f6 f3) t3 stop
   rw[yA] at dn
   refine thn dn λr s4 ⟨hr,I6⟩=>?_
   subst hr
   obtain⟨m,hn,_⟩:=I6.loc
   have hfr:=I6.free
   rw[n9] at hn hfr
   have IX:=d6 o H3 s4 I6
   show wpAny _ X.A (assign (.Name y py) X.env (.ref s2.heap.objs.size)) _ _ s4
   refine wpAny_assign_Name (lH IX hN F6 hy (v:= .ref s2.heap.objs.size) rfl (λs5 I7 ⟨a,hsb,ha⟩=>?_) hf)
   have Eh:(s2.heap.push {cls:= .type "list",data:= .seq ([]:List Value).toArray}).objs.size≠X.env.locals:=Bl I3.lt
   have Ei:∀ z c,X.env.cells.lookup z=some c->c≠(s2.heap.push {cls:= .type "list",data:= .seq ([]:List Value).toArray}).objs.size:=λz c e=>by
    obtain⟨vv,oo,ho,_⟩:=I3.cell z c e
    exact AF (Heap.lt_size ho)
   have F7:(s2.heap.push {cls:= .type "list",data:= .seq ([]:List Value).toArray}).objs.size≠a:=by
    rcases ha with e|e
    ·rw[e];exact Eh
    ·exact λz=>Ei y a e z.symm
   refine⟨m,hn.sameBut hsb F7,λh' Dy=>⟨_,H3,I7.turned (t':=s5.toks) (it:=(s2.heap.push {cls:= .type "list",data:= .seq ([]:List Value).toArray}).objs.size) (λb ob hb e=>(Dy.2 b hb).trans e) hfr Eh (.inr I3.sz) Ei (λp hp=>?_),q⟩⟩
   exact AF (Heap.lt_size (I3.pin p hp).1)
  ·have Eg:=T.item Y yP yW yK yC i [] s3 _ H3 (λ_ _=>False) I5 (f6 f3) t3 go
   rw[yA] at Eg
   refine thn Eg λr s4 ⟨u,hr,h4⟩=>?_
   subst hr
   refine thn h4 λ_ s5 ⟨xv,H5,I6,r5,y5,k6,D0⟩=>?_
   have FY:=I6.pinned (f6 D0) (T.obj _ _ k6)
   rw[<- yE]
   refine wpAny_assign_Name (df FY FX Ee (.inl q8) r5 (λs6 I7=>?_) (.inr q8))
   have Dm:(σ++[o]).set X.N.length (some xv)=σ++[some xv]:=by
    rw[<- I.len]
    simp
   rw[Dm] at I7
   have tv:=FW _ s6 _ H5 _ I7 (q xv H5 y5)
   rw[yP,yW,yA,yX] at tv
   refine thn tv λb FZ ⟨F4,v9,qb⟩=>?_
   cases b with
   |false=>
    obtain⟨m',hm,w7⟩:=qb
    refine⟨m',hm,i+1,some xv,_,v9.unpinned,T.keep _ _ _ k6 λb hb ob e=>(v9.pin (b,ob) (AJ _ (AJ _ (bR hb e)))).1,λb hb=>?_,w7⟩
    obtain⟨ob,e,d⟩:=T.obj _ _ k6 b hb
    exact(v9.pin (b,ob) (AJ _ (AJ _ (bR hb e)))).2.1
   |true=>
   have ev:=FV _ FZ _ F4 _ v9 qb
   rw[yP,yW,yA,yX] at ev
   refine thn ev λyv s7 ⟨y,H6,I8,ry,vs,F5,a_,m',hm,w7⟩=>?_
   have ap:=fj (X:=Y) _ s7 _ H6 (.ref s2.heap.objs.size) [y] (.ref s2.heap.objs.size) [yv] (λ_ H7=>H7=upd H6 s2.heap.objs.size (.lst (vs++[y]))) I8 rfl (.cons ry .nil) ⟨_,vs,y,rfl,rfl,F5,a_,rfl⟩
   rw[yP,yW,yA,yX] at ap
   refine thn ap λ_ s8 ⟨_,H7,I9,_,e7⟩=>?_
   subst e7
   refine⟨m',hm,i+1,some xv,_,I9.unpinned,T.keep _ _ _ k6 λb hb ob e=>(I9.pin (b,ob) (AJ _ (AJ _ (bR hb e)))).1,λb hb=>?_,w7⟩
   obtain⟨ob,e,d⟩:=T.obj _ _ k6 b hb
   exact(I9.pin (b,ob) (AJ _ (AJ _ (bR hb e)))).2.1
 exact codeAny_compStart_list n5 (T.self _ _ _ _ _ (T.keep _ _ _ st (λb hb ob e=>kp b ob (Heap.get?_push_of_some _ e))) n5)
end
end L2
namespace My
theorem RepS.snoc{K:Ax}{B F H:Hp}{z:SD}{s:L2.St}{d:D}{v:V}(h:RepS K B F H z s)(r:Rep K F d v):RepS K B F H (z++[some d]) (s++[some v]):=by
 have no:=r.noown
 have get:∀ {j:Nat} {x:D},(z++[some d])[j]?=some (some x)->(j<z.length/\z[j]?=some (some x))\/(j=z.length/\x=d):=λ{j x} e=>by
  rcases BI j z.length with q|q
  ·rw[Bh q] at e;exact .inl ⟨q,e⟩
  ·rw[Bu q] at e
   cases hz:j - z.length with
   |zero=>rw[hz] at e;simp at e;exact .inr ⟨by lia,e.symm⟩
   |succ n=>rw[hz] at e;simp at e
 have lt:∀ {j:Nat},j<z.length->(s++[some v])[j]?=s[j]?:=λ{j} q=>Bh (by rw[h.len];exact q)
 refine⟨by rw[AI,AI,h.len];rfl,λj x e nx=>?_,λj ds e=>?_,λj k dj dk a e1 e2 e3 e4=>?_⟩
 ·rcases get e with⟨q,e⟩|⟨q,rfl⟩
  ·rw[lt q];exact h.val j x e nx
  ·exact⟨v,by rw[q,Bu (by rw[h.len];exact Az _),h.len];simp,r⟩
 ·rcases get e with⟨q,e⟩|⟨q,e⟩
  ·rw[lt q];exact h.own j ds e
  ·rw[<- e] at no;cases no
 ·rcases get e1 with⟨q,e1⟩|⟨q,e1⟩
  ·rcases get e2 with⟨q2,e2⟩|⟨q2,e2⟩
   ·rw[lt q] at e3;rw[lt q2] at e4;exact h.apart j k dj dk a e1 e2 e3 e4
   ·rw[<- e2] at no;cases no
  ·rw[<- e1] at no;cases no
def okB:Bool->Bool->Prop->Prop->Prop
 |_,true,A,_=>A
 |false,false,_,B=>B
 |true,false,_,_=>False
def cmpG(nf:Bool)(tt:TDT)(te:TD)(z:SD)(R:D->Prop)(items:List D):Prop:=items.length<=100000/\∃ W:Nat->List D->Prop,W 0 []/\(∀ k x ys,items[k]?=some x->(nf=true->ys.length=k)->W k ys->tt (z++[some x]) λb=>okB nf b (te (z++[some x]) λy=>W (k+1) (ys++[y])) (W (k+1) ys))/\∀ ys,(nf=true->ys.length=items.length)->W items.length ys->R (.lst ys)
def cmpF(tt:TDT)(te:TD)(z:SD)(R:D->Prop)(items:List D):Prop:=items.length<=100000/\∃ W:Nat->List D->Prop,W 0 []/\(∀ k x ys,items[k]?=some x->W k ys->tt (z++[some x]) λb=>okB false b (te (z++[some x]) λy=>W (k+1) (ys++[y])) (W (k+1) ys))/\∀ ys,W items.length ys->R (.lst ys)
def cmpP(te:TD)(z:SD)(R:D->Prop)(items:List D):Prop:=items.length<=100000/\∃ W:Nat->List D->Prop,W 0 []/\(∀ k x ys,items[k]?=some x->ys.length=k->W k ys->te (z++[some x]) λy=>W (k+1) (ys++[y]))/\∀ ys,ys.length=items.length->W items.length ys->R (.lst ys)
def nK(ti:TDI)(te:TD):TD:=λz R=>ti z (cmpP te z R)
def dT1:TDT:=λ_ R=>R true
abbrev DIf(X:Cx)[Jx](f8:List Expr)(t:TDT):Prop:=PIf X f8 (lT X.K t)
theorem uc{X:Cx}[Jx]:DIf X [] dT1:=pif_nil.anti λs H Q q=>by
 obtain⟨B,F,z,kf,rs,R,h1,h2⟩:=q
 exact h2 true F H (Grow.refl kf.fh) h1
structure ItIs(K:Ax)(J:It)(F1 H1:Hp)(items:List D):Prop where
 go:∀ k F' H',Grow F1 H1 F' H'->k<items.length->J.go k H'
 yld:∀ k F' H' x H'',Grow F1 H1 F' H'->k<items.length->J.yld k H' x H''->H''=H'/\∃ d,items[k]?=some d/\Rep K F' d x
 stop:∀ F' H',Grow F1 H1 F' H'->J.stop items.length H'
def ItOk[Jx](K:Ax)(wi:TI)(ti:TDI):Prop:=∀ {s:L2.St} {H B F:Hp} {z:SD} {P:List D->Prop} {Q:It->Hp->Prop},Kept B Jx.F0 F H->RepS K B F H z s->ti z P->(∀ items J F1 H1,Grow F H F1 H1->P items->ItIs K J F1 H1 items->Q J H1)->wi s H Q
section
variable {X:Cx}
theorem ud[Jx]{K:Ax}{B F H F1 H1:Hp}{z:SD}{s:L2.St}{Q:VK}{R:D->Prop}{nf:Bool}{tt:TDT}{te:TD}{J:It}{items:List D}(kf:Kept B Jx.F0 F H)(g1:Grow F H F1 H1)(rs:RepS K B F H z s)(h2:∀ D ys us F' H',H D=none->F' D=none->Grow F H F' H'->H' D=some (.lst us)->Reps K F' ys us->R (.lst ys)->Q (.ref D) H')
    (it:ItIs K J F1 H1 items) (hd:cmpG nf tt te z R items):
    ∀ D,H1 D=none->∃ W:Nat->Nat->Hp->Prop,(∃ m,W 0 m (upd H1 D (.lst [])))/\∀ i m H,W i m H->
      (J.stop i H/\Q (.ref D) H)\/(J.go i H/\∀ x H',J.yld i H x H'->lT K tt (s++[some x]) H' λb H1=>if b=true then lE K te (s++[some x]) H1 λy H''=>∃ vs,H'' D=some (.lst vs)/\vs.length<sizeLine/\∃ m',m'<m/\W (i+1) m' (upd H'' D (.lst (vs++[y]))) else ∃ m',m'<m/\W (i+1) m' H1):=by
  intro D hD
  obtain⟨hz,W,w0,b_,out⟩:=hd
  have Jk:F1 D=none:=g1.fh.free hD
  have hH:H D=none:=g1.hh.free hD
  refine⟨λk m H'=>m=items.length - k/\k<=items.length/\∃ F' ys us,Grow F1 H1 F' H'/\H' D=some (.lst us)/\F' D=none/\Reps K F' ys us/\(ys.length<=k/\(nf=true->ys.length=k))/\W k ys,
    ⟨items.length,by simp,AY _,F1,[],[],⟨Same.refl F1,g1.fh.trans (aO hD _),aO hD _,λb h _=>h⟩,az,Jk,reps_nil.mpr rfl,⟨Az _,λ_=>rfl⟩,w0⟩,?_⟩
  rintro k m H' ⟨rfl,hk,F',ys,us,G,hu,hF,ry,hl,w⟩
  by_cases g9:k<items.length
  · refine .inr ⟨it.go k F' H' G g9,λx H'' hy=>?_⟩
    obtain⟨e,d,hd,rd⟩:=it.yld k F' H' x H'' G g9 hy
    subst e
    refine⟨B,F',z++[some d],kf.grow (g1.trans G),(rs.grow (g1.trans G)).snoc rd,_,b_ k d ys hd hl.2 w,λb F3 H3 g3 hb=>?_⟩
    have F8:H3 D=some (.lst us):=g3.hh D _ hu
    have HJ:F3 D=none:=g3.out D hF (by rw[hu];exact λq=>nomatch q)
    cases b with
    |false=>
      cases nf with
      |true=>exact hb.elim
      |false=>exact⟨items.length - (k+1),by lia,rfl,by lia,F3,ys,us,G.trans g3,F8,HJ,ry.mono g3.ff,⟨by lia,λz=>nomatch z⟩,hb⟩
    |true=>
    refine⟨B,F3,z++[some d],(kf.grow (g1.trans G)).grow g3,((rs.grow (g1.trans G)).snoc rd).grow g3,_,(show te _ _ from by cases nf<;>exact hb),λy yv F2 H2 g2 hw rv=>?_⟩
    have Jl:H2 D=some (.lst us):=g2.hh D _ F8
    have Ej:F2 D=none:=g2.out D HJ (by rw[F8];exact λq=>nomatch q)
    have Kh:us.length<=k:=by rw[ry.length];exact hl.1
    refine⟨us, Jl, by   have:(100000:Nat)<sizeLine:=by decide
                        lia,items.length - (k+1),by lia,rfl,by lia,F2,ys++[y],us++[yv],?_,az,Ej,((ry.mono g3.ff).mono g2.ff).append (eF rv),⟨by simp;lia,λz=>by simp[hl.2 z]⟩,hw⟩
    have GG:=(G.trans g3).trans g2
    refine⟨GG.ff,λb o e=>?_,λb o e=>?_,GG.out⟩
    · have ne:b≠D:=λq=>by rw[q,Ej] at e;cases e
      rw[ak ne];exact GG.fh b o e
    · have ne:b≠D:=λq=>by rw[q,hD] at e;cases e
      rw[ak ne];exact GG.hh b o e
  · have ek:k=items.length:=by lia
    subst ek
    exact .inl ⟨it.stop F' H' G,h2 D ys us F' H' hH hF (g1.trans G) hu ry (out ys hl.2 w)⟩
theorem ue{F H F' H':Hp}{D:Addr}{us:List V}(GG:Grow F H F' H')(hu:H' D=some (.lst us))(hF:F' D=none)(hH:H D=none):Grow F H (upd F' D (.lst us)) H':=by
 refine⟨GG.ff.trans (aO hF _),λb o e=>?_,GG.hh,λb h1 h3=>?_⟩
 ·by_cases hb:b=D
  ·subst hb;rw[az] at e;cases e;exact hu
  ·rw[ak hb] at e;exact GG.fh b o e
 ·have ne:b≠D:=λq=>h3 (q ▸ hH)
  rw[ak ne];exact GG.out b h1 h3
variable {gV iter:Expr}{f8:List Expr}{x:Str}{px pos:Pos}{scope:Scope}{ti te:TD}{tt:TDT}{wi:TI}{E9:TDI}
theorem uf[Jx]{K:Ax}{nf:Bool}{G:SD->(D->Prop)->List D->Prop}(hG:∀ z R items,G z R items->cmpG nf tt te z R items)(hI:ItOk K wi E9){s:L2.St}{H:Hp}{Q:VK}(q:lE K (λz R=>E9 z (G z R)) s H Q):fG wi (lT K tt) (lE K te) s H Q:=by
 obtain⟨B,F,z,kf,rs,R,h1,h2⟩:=q
 exact hI kf rs h1 λitems J F1 H1 g1 hg it=>ud kf g1 rs (λD ys us F' H' hH hF GG hu ry hR=>h2 (.lst ys) (.ref D) _ H' (ue GG hu hF hH) hR (rep_lst.mpr ⟨D,us,rfl,az,ry.mono (aO hF _)⟩)) it (hG _ _ _ hg)
theorem cmpP.g{z:SD}{R:D->Prop}{items:List D}(h:cmpP te z R items):cmpG true dT1 te z R items:=
 let ⟨hz,W,w0,b_,out⟩:=h
 ⟨hz,W,w0,λk x ys e l w=>b_ k x ys e (l rfl) w,λys l w=>out ys (l rfl) w⟩
theorem cmpF.g{z:SD}{R:D->Prop}{items:List D}(h:cmpF tt te z R items):cmpG false tt te z R items:=
 let ⟨hz,W,w0,b_,out⟩:=h
 ⟨hz,W,w0,λk x ys e _ w=>b_ k x ys e w,λys _ w=>out ys w⟩
theorem itL[Jx]{K:Ax}:ItOk K (lY K (lE K ti)) (dItL ti):=λ{s H B F z P Q} kf rs h1 h2=>by
 refine⟨B,F,z,kf,rs,_,h1,λd v F1 H1 g1 hd rd=>?_⟩
 have key:∀ (items:List D) (p:Addr) (vs:List V),SqL K F1 p vs->Reps K F1 items vs->P items->∃ a,V.ref p= .ref a/\(∃ xs,SqL K H1 a xs)/\Q (Itl K a) H1:=λitems p vs hq rr hd=>by
  refine⟨p,rfl,⟨vs,g1.fh.seq hq⟩,h2 items _ F1 H1 g1 hd ⟨λk F' H' G hk=>?_,λk F' H' x H'' G hk hy=>?_,λF' H' G=>?_⟩⟩
  ·have n_:k<vs.length:=by rw[rr.length];exact hk
   exact⟨vs,vs[k],G.hh.seq (g1.fh.seq hq),by simp[n_]⟩
  ·obtain⟨e,hy⟩:=hy
   obtain⟨d,e2,r2⟩:=rr.get' (hy vs (G.hh.seq (g1.fh.seq hq)))
   exact⟨e,d,e2,r2.mono G.ff⟩
  ·exact⟨vs,G.hh.seq (g1.fh.seq hq),by rw[rr.length];exact Az _⟩
 split at hd
 ·obtain⟨p,vs,rfl,hq,rr⟩:=rep_lst.mp rd
  exact key _ p vs (SqL.of hq) rr hd
 ·obtain⟨p,vs,rfl,hq,rr⟩:=rep_rol.mp rd
  exact key _ p vs hq rr hd
 ·exact hd.elim
theorem uh[Jx]{K:Ax}{E:Ends}{s:L2.St}{H:Hp}{ix:Nat}(hI:ItOk K wi E9)(q:lS K (dSet ix (nK E9 te)) E s H):tAsg (fG wi (lT K dT1) (lE K te)) (eY ix) E s H:=by
 obtain⟨B,F0,F,z,k,rs,ED,⟨P,h,j⟩,e⟩:=q
 exact uf (λ_ _ _=>cmpP.g) hI ⟨B,F,z,k.kf,rs,P,h,λd v F' H' g hd rd=>e.nx _ _ F' H' (k.grow g) (j d hd) ((rs.grow g).set rd)⟩
theorem ir[Jx](ix:Nat){y:Str}{py q9:Pos}(hc:X.calm=true)(S:CompScope X scope x)(hN:X.N.Nodup)(hi:WDE X iter ti)(he:∀ cl s₀ H₀ fp,WDE (cb X scope cl x s₀ H₀ fp) gV te)(F6:X.N[ix]?=some y:=by rfl)(hy:Loc X.env.scope y:=by first|exact Or.inl rfl|exact Or.inr rfl)
  (hf:zFN X y:=by first|exact .inl rfl|exact .inr rfl|assumption) (Di:swapsWith (.ListComp gV [⟨.Name x px,iter,[],0⟩] scope pos) (some (.Name y py)) q9.line X.env=pure true:=by rfl) (hs:∀ y,zFS X iter y:=by exact λ_=>rfl):WDS X (.Assign [.Name y py] (.ListComp gV [⟨.Name x px,iter,[],0⟩] scope pos) q9) (dSet ix (nK (dItL ti) te)):=⟨have hi:=hi.out;have he:=λcl s₀ H₀ fp=>(he cl s₀ H₀ fp).out;(ub hc S (lZ hi) (λ_ _ _ _=>uc) he hN F6 hy hf Di hs).anti λE s H q=>uh itL q⟩
end
def dA(scope fsc:Scope):List (Str × NameKind):=scope.names.map λ(n,k)=>if(k==NameKind.free && fsc.kind== .function && fsc.names.lookup n==some .cell) then(n,NameKind.cell) else(n,k)
def visB(l:List (Str × NameKind))(n:Str):Bool:=l.lookup n==some .local||l.lookup n==some .cell||l.lookup n==some .free
def eK(scope fsc:Scope)(N:List Str)(x:Str):Bool:=
 scope.kind== .function && scope.names.all (λy=>!(y.2== .cell)) && scope.names.all (λy=>!(y.2== .local)||scope.names.lookup y.1==some .local) && scope.names.lookup x==some .local &&
 scope.names.all (λy=>!(y.2== .free)||fsc.names.lookup y.1==some .cell) && N.all (λn=>decide (n=x)||!visB (dA scope fsc) n||scope.names.any (λy=>decide (y=(n,NameKind.free)))) && !visB (dA scope fsc) "" &&
 scope.names.all (λy=>!(y.2== .free)||(dA scope fsc).lookup y.1==some .cell) && decide (N.map (λn=>if n=x then("":Str) else n)++[x]).Nodup
theorem nM{l:List (Str × NameKind)}{n:Str}(h:l.lookup n=some .local\/l.lookup n=some .cell\/l.lookup n=some .free):visB l n=true:=by
 unfold visB
 rcases h with h|h|h<;>rw[h]<;>rfl
theorem compScope{X:Cx}{scope:Scope}{x:Str}(h:eK scope X.env.scope X.N x=true):CompScope X scope x:=by
 unfold eK at h
 simp only[AZ] at h
 obtain⟨⟨⟨⟨⟨⟨⟨⟨h1,h2⟩,h3⟩,h4⟩,h5⟩,h6⟩,h7⟩,h8⟩,h9⟩:=h
 have er:(relabel scope X.env).names=dA scope X.env.scope:=rfl
 refine⟨by simpa using h1,λy hy=>?_,λy hy e=>?_,by simpa using h4,λn hn=>?_,λn hn ne v=>?_,λv=>?_,λn hn=>?_,of_decide_eq_true h9⟩
 ·have:=Bz.mp h2 y hy
  simpa using this
 ·have:=Bz.mp h3 y hy
  rw[e] at this
  simpa using this
 ·have:=Bz.mp h5 _ hn
  show X.env.scope.names.lookup n=some .cell
  simpa using this
 ·have:=Bz.mp h6 n hn
  have v':visB (dA scope X.env.scope) n=true:=nM v
  rw[v'] at this
  simp[ne] at this
  exact this
 ·have v':visB (dA scope X.env.scope) ""=true:=nM v
  rw[v'] at h7
  cases h7
 ·have:=Bz.mp h8 _ hn
  rw[er]
  simpa using this
def putD(f:Str)(v:D):List (Str × D)->List (Str × D)
 |[]=>[(f,v)]
 |(g,x)::r=>if g=f then(g,v)::r else(g,x)::putD f v r
theorem RepF.put{K:Ax}{F:Hp}{f:Str}{d:D}{v:V}(r:Rep K F d v):∀ {fs:List (Str × D)} {ws:List (Str × V)},RepF K F fs ws->RepF K F (putD f d fs) (putF f v ws)
 |[],ws,h=>by
  rw[repf_nil.mp h]
  exact repf_cons.mpr ⟨v,[],rfl,r,repf_nil.mpr rfl⟩
 |(g,x)::fs,ws,h=>by
  obtain⟨w,Dn,rfl,h1,h2⟩:=repf_cons.mp h
  unfold putD putF
  by_cases e:g=f
  ·rw[if_pos e,if_pos e]
   exact repf_cons.mpr ⟨v,Dn,rfl,r,h2⟩
  ·rw[if_neg e,if_neg e]
   exact repf_cons.mpr ⟨w,_,rfl,h1,RepF.put r h2⟩
theorem RepF.length{K:Ax}{F:Hp}:∀ {fs:List (Str × D)} {ws:List (Str × V)},RepF K F fs ws->ws.length=fs.length
 |[],ws,h=>by rw[repf_nil.mp h];rfl
 |(g,x)::fs,ws,h=>by
  obtain⟨w,Dn,rfl,h1,h2⟩:=repf_cons.mp h
  rw[AB,AB,RepF.length h2]
def ClsA(K:Ax)(x f:Str):Prop:=∃ C,nsIn K mainGlobals x=some (some (.ref C))/\Cls K C/\NoAttr K C f
section
variable {X:Cx}{a b c e:Expr}{ta tb tc te:TD}{pos:Pos}
def dFld(x f:Str)(te:TD):TD:=λz R=>te z λd=>match d with| .obj y fs=>y=x/\∃ d,fs.lookup f=some d/\R d|_=>False
theorem iu[Jx]{x f:Str}(h:ClsA X.K x f)(he:WDE X e te)(hb:attributeBase e f X.env (eval e X.env)=eval e X.env:=by rfl):WDE X (.Attribute e f pos) (dFld x f te):=⟨have he:=he.out;(mB he hb).anti λs H Q q=>by
 obtain⟨C,hn,hc,hf⟩:=h
 obtain⟨B,F,z,kf,rs,R,h1,h2⟩:=q
 have fh:=kf.fh
 refine⟨B,F,z,kf,rs,_,h1,λd u F1 H1 g1 hx rx=>?_⟩
 split at hx
 ·obtain⟨rfl,d,hl,hR⟩:=hx
  obtain⟨a,C',dx,vs,rfl,ge,q,r⟩:=rep_obj.mp rx
  rw[hn] at ge
  cases ge
  obtain⟨v,l,rv⟩:=r.look hl
  exact⟨a,C,dx,vs,v,rfl,g1.fh _ _ q,hc,hf,l,h2 d v F1 H1 g1 hR rv⟩
 ·exact hx.elim⟩
theorem nN[Jx]{x:Str}{d:D}{v:V}{u:Value}(hm:X.mg x=some u)(r:RelV v u)(rd:∀ H,Rep X.K H d v)(hg:Gl X x:=by rfl)(hd:zND x:=by decide):DE X (.Name x pos) (dC d):=de_c (lK hg hm r hd) rd
theorem dB[Jx]{x:Str}{i:Int}(h:∃ t,X.mg x=some (.int i t))(hg:Gl X x:=by rfl)(hd:zND x:=by decide):WDE X (.Name x pos) (dC (.int i)):=⟨by
 obtain⟨t,h⟩:=h
 exact nN (v:= .int i) h ⟨t,rfl⟩ (λ_=>rep_int.mpr rfl) hg hd⟩
theorem iv[Jx]{x y:Str}(h:∃ t,X.mg x=some (.str y t))(hg:Gl X x:=by rfl)(hd:zND x:=by decide):WDE X (.Name x pos) (dC (.str y)):=⟨by
 obtain⟨t,h⟩:=h
 exact nN (v:= .str y) h ⟨t,rfl⟩ (λ_=>rep_str.mpr rfl) hg hd⟩
structure ClsI(K:Ax)(mg:Str->Option Value)(x:Str)(C:Addr):Prop where
 ns:nsIn K mainGlobals x=some (some (.ref C))
 mg:mg x=some (.ref C)
 cl:Cls K C
 ha:AD K (.ref C) "__class__"=some (some (.builtin "object.__class__"))
 hn:specialIn K (.builtin "object.__class__") "__get__"=some (some (.builtin "getset_descriptor.__get__"))
 htk:takesIn K (.builtin "object.__class__")=some true
 hm:Bc K C (.type "object")=some true
 self:kitOne K (.ref C) (.ref C)=some true
theorem ui{C:Addr}{x:Str}(k:ClsI X.K X.mg x C):bx X (.builtin "isinstance") (λxs H Q=>∃ a dx ws,xs=[.ref a,.ref C]/\H a=some (.ins C dx ws)/\Q (.bl true) H):=by
 intro pins s σ H xs us Q I r h
 obtain⟨a,dx,ws,rfl,e,q⟩:=h
 obtain⟨u,u',rfl,rx,rc⟩:=gX r
 cases(show u'=Value.ref C from rc)
 exact mD I rx (.ins e k.cl k.ha k.hn k.htk k.hm) k.self λtk=>⟨.bl true,H,I.tok _,rfl,q⟩
def nO(x:Str):D->(D->Prop)->Prop:=λd R=>match d with| .obj y _=>y=x/\R (.bl true)|_=>False
theorem uj[Jx]{p p2:Pos}{x:Str}(h:∃ C,ClsI X.K X.mg x C)(hm:X.mg "isinstance"=none)(ha:WDE X a ta)(hg:Gl X "isinstance":=by rfl)(FQ:Gl X x:=by rfl)(c_:zND x:=by decide)
  (j9:starEach [a,.Name x p2] X.env=(false,eval a X.env)::starEach [.Name x p2] X.env:=by rfl) (k8:starEach [.Name x p2] X.env=(false,eval (.Name x p2) X.env)::starEach [] X.env:=by rfl) (b9:(backTo pos (starEach [.Name x p2] X.env)).any (·.1)=false:=by rfl):WDE X (.Call (.Name "isinstance" p) [a,.Name x p2] [] pos) (dUn (nO x) ta):=⟨by
 have ha:=ha.out
 obtain⟨C,k⟩:=h
 refine(dW (ui k) hg hm PyProof.Rows.boot_isinstance (bn ha (bn (lK (v:= .ref C) FQ k.mg rfl c_) pa_nil k8) j9) (by decide) (by decide) j9 b9).anti λs H Q q=>?_
 obtain⟨B,F,z,kf,rs,R,h1,h2⟩:=q
 have fh:=kf.fh
 refine⟨B,F,z,kf,rs,_,h1,λd u F1 H1 g1 hx rx=>?_⟩
 unfold nO at hx
 split at hx
 ·obtain⟨rfl,hR⟩:=hx
  obtain⟨a,C',dx,vs,rfl,ge,q,r⟩:=rep_obj.mp rx
  rw[k.ns] at ge
  cases ge
  exact⟨a,dx,vs,rfl,g1.fh _ _ q,h2 _ _ F1 H1 g1 hR (rep_bl.mpr rfl)⟩
 ·exact hx.elim⟩
end
abbrev SiD:=List D->(List (Str × D)->Prop)->Prop
def lSi(K:Ax)(C:Addr)(S:SiD):Sp:=λvs H Q _=>∃ a dx us H1 F ds,vs= .ref a::us/\H=upd (upd H1 dx (.own a)) a (.ins C dx [])/\H1 a=none/\H1 dx=none/\dx≠a/\Same F H1/\Reps K F ds us/\
 ∃ R:List (Str × D)->Prop,S ds R/\∀ fs ws v_ F' H',Grow F H1 F' H'->R fs->H' a=some (.ins C v_ ws)->F' a=none->RepF K F' fs ws->Q .non H'
def CalM(P:Program)(w:World)(K:Ax)(mg:Str->Option Value)(base:Heap)(n:Nat)(x:Str)(ps:List Str)(S:SiD):Prop:=
 ∃ C f fd,nsIn K mainGlobals x=some (some (.ref C))/\mg x=some (.ref C)/\Mk K C f/\FnOk P w K mg base (Exc.CX1 P w) n f fd ps (lSi K C S)/\Binds K fd ps []
def uk(x:Str)(S:SiD)(t:TDA):TD:=λz R=>t z λds=>S ds λfs=>R (.obj x fs)
theorem iw[Jx]{X:Cx}{pos:Pos}{n m:Nat}{ps:List Str}{S:SiD}{x:Str}{p:Pos}{e:Expr}{es:List Expr}{t:TDA}(M:CalM X.prog X.w X.K X.mg X.base n x ps S)(hr:Room m X.A)(ha:WDA X (e::es) t)(hg:Gl X x:=by rfl)(hn:n+1<=m:=by decide)(c_:zND x:=by decide)
  (he:zSE X e es:=by rfl) (b9:zPL X pos es:=by rfl):WDE X (.Call (.Name x p) (e::es) [] pos) (uk x S t):=⟨by
 have ha:=ha.out
 obtain⟨C,f,fd,hns,j7,mk,F,hb⟩:=M
 refine(hV mk F (hr.mono hn) hg j7 hb .nil el ha c_ he b9).anti λs H Q q=>?_
 obtain⟨B,F,z,kf,rs,R,h1,h2⟩:=q
 have fh:=kf.fh
 refine⟨B,F,z,kf,rs,_,h1,λds vs F1 H1 g1 hx rx=>?_⟩
 intro a dx ha q_ g6
 refine⟨a,dx,vs,H1,F1,ds,by rw[A8],rfl,ha,q_,g6,g1.fh,rx,_,hx,λfs ws v_ F' H' g hR d8 f_ rf=>⟨rfl,?_⟩⟩
 have s1:Same F' (upd F' a (.ins C v_ ws)):=aO f_ _
 refine h2 (.obj x fs) (.ref a) (upd F' a (.ins C v_ ws)) H' ⟨(g1.ff.trans g.ff).trans s1,λb o q=>?_,g1.hh.trans g.hh,λb q1 q2=>?_⟩ hR (rep_obj.mpr ⟨a,C,v_,ws,rfl,hns,az,RepF.mono s1 fs ws rf⟩)
 ·by_cases hb:b=a
  ·subst hb;rw[az] at q;cases q;exact d8
  ·rw[ak hb] at q;exact g.fh b o q
 ·by_cases hb:b=a
  ·subst hb
   exact absurd (g1.hh.free ha) q2
  ·rw[ak hb]
   exact(g1.trans g).out b q1 q2⟩
abbrev TID:=SD->List (Str × D)->(List (Str × D)->Prop)->Prop
def lI(K:Ax)[J:Jx](x:Str)(t:TID):TS:=λE σ H=>∃ C a dx ws F z fs,nsIn K mainGlobals x=some (some (.ref C))/\σ[0]?=some (some (.ref a))/\H a=some (.ins C dx ws)/\J.B a=none/\F a=none/\Kept J.B J.F0 F H/\RepS K J.B F H z σ/\RepF K F fs ws/\
 ∃ R:List (Str × D)->Prop,t z fs R/\∀ i9 Dn F' H',Kept J.B J.F0 F' H'->R i9->H' a=some (.ins C dx Dn)->F' a=none->RepF K F' i9 Dn->E.nx σ H'
abbrev DI(X:Cx)[Jx](x:Str)(st:List Stmt)(t:TID):Prop:=PSs X st (lI X.K x t)
structure WDI(X:Cx)[Jx](x:Str)(st:List Stmt)(t:TID):Prop where
 out:DI X x st t
section
variable {X:Cx}{x f:Str}{e:Expr}{te:TD}{pos c5 p:Pos}{rest:List Stmt}{tr:TID}
def nP:TID:=λ_ fs R=>R fs
def ul(f:Str)(te:TD)(tr:TID):TID:=λz fs R=>te z λd=>fs.length<1000/\tr z (putD f d fs) R
theorem cN[Jx]:WDI X x [] nP:=⟨pss_nil.anti λE s H q=>by
 obtain⟨C,a,dx,ws,F,z,fs,hn,h0,d8,w6,f_,g,rs,rf,R,hR,k⟩:=q
 exact k fs ws F H g hR d8 f_ rf⟩
theorem RepS.other{K:Ax}{B F H:Hp}{z:SD}{σ:L2.St}{a:Addr}{o o':HO}(rs:RepS K B F H z σ)(h:H a=some o)(hl:∀ vs,o≠.lst vs):RepS K B F (upd H a o') z σ:=
 ⟨rs.len,rs.val,λi ds e=>by
  obtain⟨b,vs,q1,q2,q⟩:=rs.own i ds e
  have ne:b≠a:=by
   rintro rfl
   rw[h] at q2
   cases q2
   exact hl vs rfl
  exact⟨b,vs,q1,by rw[ak ne];exact q2,q⟩,rs.apart⟩
theorem bq[J:Jx]{ps:Pos}{sx:Str}(hA:ClsA X.K x f)(he:WDE X e te)(hr:WDI X x rest tr)(hN:X.N[0]?=some sx:=by rfl)(hv:Vis X.env.scope sx:=by first|exact Or.inl rfl|exact Or.inr (Or.inl rfl)|exact Or.inr (Or.inr rfl))(hd:zND sx:=by decide)
  (f7:zNC sx:=by decide) (hs:swapsWith e (some (.Attribute (.Name sx ps) f c5)) pos.line X.env=pure false:=by rfl):WDI X x (.Assign [.Attribute (.Name sx ps) f c5] e pos::rest) (ul f te tr):=⟨have he:=he.out;have hr:=hr.out;(dR (mC (dQ (i:=0) hN hv hd f7) he hs) hr).anti λE s H q=>by
 obtain⟨C,a,dx,ws,F,z,fs,hn,h0,d8,w6,f_,g,rs,rf,R,hR,k⟩:=q
 obtain⟨C',ge,hc,hf⟩:=hA
 rw[hn] at ge
 cases ge
 refine⟨_,F,z,g,rs,_,hR,λd v F2 H2 g2 hx rv=>?_⟩
 have k2:=g.grow g2
 have HK:=g2.hh a _ d8
 have Ej:F2 a=none:=g2.out a f_ (by rw[d8];exact λz=>nomatch z)
 refine⟨.ref a,h0,a,C,dx,ws,rfl,HK,hc,hf,by rw[rf.length];exact hx.1,?_⟩
 have Jn:Same F2 (upd H2 a (.ins C dx (putF f v ws))):=λb o q=>by
  have ne:b≠a:=by rintro rfl;rw[Ej] at q;cases q
  rw[ak ne];exact g2.fh b o q
 have u_:Same J.B (upd H2 a (.ins C dx (putF f v ws))):=λb o q=>by
  have ne:b≠a:=by rintro rfl;rw[w6] at q;cases q
  rw[ak ne];exact k2.bh b o q
 exact⟨C,a,dx,putF f v ws,F2,z,putD f d fs,hn,h0,az,w6,Ej,⟨u_,Jn,k2.f0,k2.out,k2.eb,k2.jf,k2.jo⟩,(rs.grow g2).other HK (λ_ z=>nomatch z),RepF.put rv (RepF.mono g2.ff fs ws rf),R,hx.2,k⟩⟩
end
section
variable {P:Program}{w:World}{K:Ax}{mg:Str->Option Value}{base:Heap}
theorem nQ{K:Ax}{B F H:Hp}{z:SD}{σ:L2.St}{v:V}(rs:RepS K B F H z σ):RepS K B F H (none::z) (some v::σ):=
  ⟨by rw[AB,AB,rs.len],λi d e no=>by
    cases i with
    |zero=>cases e
    |succ i=>exact rs.val i d e no,λi ds e=>by
    cases i with
    |zero=>cases e
    |succ i=>exact rs.own i ds e,λi j di dj a e1 e2 e3 e4=>by
    cases i with
    |zero=>cases e1
    |succ i=>
      cases j with
      |zero=>cases e2
      |succ j=>rw[rs.apart i j di dj a e1 e2 e3 e4]⟩
theorem Cls.okI{x qual:Str}{st:Stmt}{f C:Addr}{fd:FuncData}{N:List Str}{p0:Str}{ps:List Str}{k:Nat}{S:SiD}(T:Fun K "__init__" qual st f fd)(hb:Binds K fd (p0::ps) [])(F:FnScope (p0::N) (p0::ps) (ag st))(len:∀ ds R,S ds R->ds.length=ps.length)
  (hns:nsIn K mainGlobals x=some (some (.ref C))) (j7:mg x=some (.ref C)) (mk:Mk K C f)
  (a9:∀ (cdv:Value) (A:Around) (outer:List Env) (s:Shared) (H:Hp) (E:XK) (J:Jx),Room k (A.deeper (envOfC qual (ag st) s.heap.objs.size f cdv))->
   ∃ t,DI (cxOf (Exc.CX1 P w) P w K mg base (p0::N) qual (ag st) f cdv A outer s H E).nox x (aJ st) t/\∀ ds R,S ds R->t (none::startD N ds) [] R):CalM P w K mg base (k+1) x (p0::ps) S:=by
 refine⟨C,f,fd,hns,j7,mk,Fun.okC T F (λvs H Q E h=>?_) (λcdv A outer s H vs Q E hr h=>?_),hb⟩
 ·obtain⟨a,dx,us,H1,F,ds,rfl,_,_,_,_,_,rs,R,h,_⟩:=h
  rw[AB,AB,rs.length,len ds R h]
 ·obtain⟨a,dx,us,H1,F1,ds,rfl,rfl,ha,q_,g6,fh,rs,R,h,q⟩:=h
  letI:Jx:=⟨H1,F1,λ_ _ _=>False⟩
  obtain⟨t,ht,hq⟩:=a9 cdv A outer s _ E inferInstance hr
  have Fa:F1 a=none:=fh.free ha
  have hl:L2.start (p0::N) (.ref a::us)=some (.ref a)::L2.start N us:=by
   unfold L2.start
   rw[AO,AB,AB,CK];rfl
  have s1:Same H1 (upd (upd H1 dx (.own a)) a (.ins C dx [])):=(aO q_ _).trans (aO (by rw[ak (Ne.symm g6)];exact ha) _)
  refine⟨_,ht.nox,C,a,dx,[],F1,none::startD N ds,[],hns,by rw[hl];rfl,az,ha,Fa,⟨s1,fh.trans s1,Same.refl F1,λ_ h _=>h,rfl,Same.refl F1,λ_ h _=>h⟩,?_,repf_nil.mpr rfl,R,hq ds R h,λi9 Dn F' H' g hR d8 f_ rf=>q i9 Dn dx F' H' ⟨g.f0,g.fh,g.bh,g.out⟩ hR d8 f_ rf⟩
  rw[hl]
  exact nQ (eo rs)
end
section
variable {X:Cx}{a b c e:Expr}{ta tb tc te:TD}{pos:Pos}
theorem RepS.change[Jx]{K:Ax}{B F0 F H:Hp}{z:SD}{s:L2.St}{i:Nat}{ds F9:List D}{a:Addr}{r_:List V}(rs:RepS K B F H z s)(k:Kept B F0 F H)(ez:z[i]?=some (some (.own ds)))(q1:s[i]?=some (some (.ref a)))(hB:B a=none)(hF:F a=none)(r:Reps K F F9 r_):
  Kept B F0 F (upd H a (.lst r_))/\RepS K B F (upd H a (.lst r_)) (z.set i (some (.own F9))) s:=by
 have same:∀ {G:Hp},G a=none->Same G H->Same G (upd H a (.lst r_)):=λ{G} ga gs b o eb=>by
  have ne:b≠a:=λz=>by rw[z,ga] at eb;cases eb
  rw[ak ne];exact gs b o eb
 have r2:=rs.setOwn (i:=i) (a:=a) (vs:=r_) (ds:=F9) hB hF r (λj dj hj e1 e2=>hj (rs.apart j i dj ds a e1 ez e2 q1))
 have es:s.set i (some (.ref a))=s:=by
  apply Ce
  intro n
  by_cases hn:i=n
  ·subst hn
   rw[Bb (AN.mp q1).1,q1]
  ·rw[AQ hn]
 rw[es] at r2
 exact⟨⟨same hB k.bh,same hF k.fh,k.f0,k.out,k.eb,k.jf,k.jo⟩,r2⟩
end
end My
namespace My
open Exc
abbrev XD:=Str->List (Str × D)->Prop
def ErrD(K:Ax)(F:Hp)(x:Str)(fs:List (Str × D))(C:Addr)(od:Option Addr):Prop:=
 nsIn K mainGlobals x=some (some (.ref C))/\∃ vs,RepF K F fs vs/\((od=none/\vs=[])\/∃ b,od=some b/\F b=some (.xd vs))
abbrev SpX:=List D->(D->Prop)->XD->Prop
def lSpX(K:Ax)(S:SpX):Sp:=λvs H Q E=>∃ F ds,Same F H/\Reps K F ds vs/\∃ (R:D->Prop) (RX:XD),S ds R RX/\(∀ d v F' H',Grow F H F' H'->R d->Rep K F' d v->Q v H')/\
 ∀ x fs C od F' H',Grow F H F' H'->RX x fs->ErrD K F' x fs C od->E (.ref C) od H'
def Exd(X:Cx)(H:Hp)(s:Shared)(e C:Addr)(od:Option Addr):Prop:=
  H e=none/\X.s₀.heap.get? e=none/\(∀ p∈X.pn,p.1≠e)/\
  ((∃ sl vs,s.heap.get? e=some ⟨.ref C,od,.fields vs,sl⟩/\vs[1]?=some .none)\/
    ∃ T,ExAt s.heap e C od T .none/\X.s₀.heap.get? T=none/\H T=none/\∀ p∈X.pn,p.1≠T)
def XOk(X:Cx)[J:Jx]:Prop:=∀ (σ:L2.St) (z:SD) (F H:Hp) (s:Shared) (e C:Addr) (od:Option Addr) (x:Str) (fs:List (Str × D)),Inv X [] σ H s->Kept J.B J.F0 F H->RepS X.K J.B F H z σ->J.RX z x fs->ErrD X.K F x fs C od->Exd X H s e C od->X.xe (.ref e) s
theorem Inv.nopins{X:Cx}{pins:List (Addr × Obj)}{σ:L2.St}{H:Hp}{s:Shared}(I:Inv X pins σ H s):Inv X [] σ H s:=I.pins_of λp hp=>by cases hp
section
variable {X:Cx}{k:Nat}{f:Addr}{fd:FuncData}{ps:List Str}{sp:Sp}{E:XK}
theorem fH{pins:List (Addr × Obj)}{σ:L2.St}{H:Hp}{s:Shared}{Q:VK}{us:List Value}{vs:List V}(F:FnOk X.prog X.w X.K X.mg X.base (CX1 X.prog X.w) k f fd ps sp)(hr:Room k X.A)(hb:Binds X.K fd ps [])
  (hx:∀ e s',CX1 X.prog X.w X.stack H s E e s'->X.xe e s') (I:Inv X pins σ H s) (r:Vals vs us) (h:sp vs H Q E):wpAny (model X.prog X.w) X.A (call (.ref f) us) (EP X pins σ Q) X.xe s:=by
 have hl:us.length=ps.length:=by rw[<- L2.Vals.length r];exact F.len _ _ _ _ h
 have f9:=hb s us I.kIn (by rw[A8];exact hl)
 rw[A8] at f9
 refine wpAny_call (codeAny_mono (F.run X.A X.stack s H ⟨us,[]⟩ us vs Q E hr I.env0 f9 r h) λr s' hq=>?_)
 cases r with
 |error e=>exact hx e s' hq
 |ok fl=>
  cases fl with
  |ret u=>exact I.after hq
  |next=>exact False.elim hq
  |brk=>exact False.elim hq
  |cont=>exact False.elim hq
end
theorem ce{X:Cx}{pins:List (Addr × Obj)}{σ:L2.St}{H:Hp}{s:Shared}{b:Addr}(I:Inv X pins σ H s)(hex:X.ex=[])(q:s.heap.get? b=none):X.s₀.heap.get? b=none:=by
 cases z:X.s₀.heap.get? b with
 |none=>rfl
 |some o=>
  obtain⟨o',z'⟩:=I.base.there b o z (by rw[hex];simp)
  rw[q] at z';cases z'
theorem pn_free{X:Cx}{pins:List (Addr × Obj)}{σ:L2.St}{H:Hp}{s:Shared}{b:Addr}(I:Inv X pins σ H s)(q:s.heap.get? b=none):∀ p∈X.pn,p.1≠b:=λp hp z=>by
 have:=(I.pin p (Bf _ hp)).1
 rw[z,q] at this;cases this
theorem XOk.out{X:Cx}[J:Jx](hx:XOk X)(hex:X.ex=[]){pins:List (Addr × Obj)}{σ:L2.St}{z:SD}{H:Hp}{s s':Shared}{ev:Value}(I:Inv X pins σ H s)
  (h:CX1 X.prog X.w X.stack H s (λCv od H'=>∃ x fs C F',Cv= .ref C/\Kept J.B J.F0 F' H'/\RepS X.K J.B F' H' z σ/\J.RX z x fs/\ErrD X.K F' x fs C od) ev s'):X.xe ev s':=by
 obtain⟨e,C,od,T,H',rfl,F_,hb,un,hok,Ga,ne,nT,He,HT,x,fs,C',F',hC,kk,rr,hR,er⟩:=h
 cases hC
 have I':Inv X pins σ H' s':=I.call' F_ un hok hb (λb z=>absurd z (by simp))
 exact hx σ z F' H' s' e C od x fs (Inv.nopins I') kk rr hR er ⟨He,ce I hex ne,pn_free I ne,.inr ⟨T,Ga,ce I hex nT,HT,pn_free I nT⟩⟩
abbrev CalX(P:Program)(w:World)(K:Ax)(mg:Str->Option Value)(base:Heap)(n:Nat)(x:Str)(ps:List Str)(S:SpX):Prop:=Cal P w K mg base n x ps (lSpX K S)
def um[J:Jx](S:SpX)(t:TDA):TD:=λz R=>t z λds=>S ds R (J.RX z)
theorem uo{X:Cx}[J:Jx]{pos:Pos}{n m:Nat}{ps:List Str}{S:SpX}{x:Str}{p:Pos}{e:Expr}{es:List Expr}{t:TDA}(C:CalX X.prog X.w X.K X.mg X.base n x ps S)(hx:XOk X)(hr:Room m X.A)(ha:WDA X (e::es) t)(hex:X.ex=[]:=by rfl)(hg:Gl X x:=by rfl)(hn:n<=m:=by decide)(c_:zND x:=by decide)
  (he:zSE X e es:=by rfl) (b9:zPL X pos es:=by rfl):WDE X (.Call (.Name x p) (e::es) [] pos) (um S t):=⟨by
 have ha:=ha.out
 obtain⟨f,fd,F,hb,hk,hm⟩:=C
 intro pins s σ H Q I h
 obtain⟨B,Fr,z,kf,rs,R,h1,h2⟩:=h
 obtain rfl:B=J.B:=kf.eb
 refine wpAny_Call_Name_kw (bY I hg hm ?_ c_)
 refine callWith_K (h₀:=X.base) I.ok.mod.kin hk (thn (ha pos pins s σ H (λvs H1=>lSpX X.K S vs H1 Q (λCv od H'=>∃ x fs C F',Cv= .ref C/\Kept J.B J.F0 F' H'/\RepS X.K J.B F' H' z σ/\J.RX z x fs/\ErrD X.K F' x fs C od)) I ⟨_,Fr,z,kf,rs,_,h1,λds vs F1 H1 g1 hx rx=>?_⟩) λus s1 ⟨vs,H1,I1,r,q⟩=>⟨I1.kIn,?_⟩) he b9
 ·exact⟨F1,ds,g1.fh,rx,R,J.RX z,hx,λd v F' H' g=>h2 d v F' H' (g1.trans g),λx fs C od F' H' g hR er=>⟨x,fs,C,F',rfl,(kf.grow g1).grow g,(rs.grow g1).grow g,hR,er⟩⟩
 ·exact fH F (hr.mono hn) hb (λe s' hq=>hx.out hex I1 hq) I1 r q⟩
section
variable {P:Program}{w:World}{K:Ax}{mg:Str->Option Value}{base:Heap}
theorem uq{N:List Str}{qual:Str}{scope:Scope}{f:Addr}{cd:Value}{A:Around}{outer:List Env}{s:Shared}{H:Hp}{E':XK}{pins:List (Addr × Obj)}{σ:L2.St}{H':Hp}{s':Shared}{e C T:Addr}{od:Option Addr}
  (I':Inv (cxOf (CX1 P w) P w K mg base N qual scope f cd A outer s H E') pins σ H' s') (hx:ExAt s'.heap e C od T .none) (ne:s.heap.get? e=none) (nT:s.heap.get? T=none) (He:H' e=none) (HT:H' T=none) (hE:E' (.ref C) od H'):
  (cxOf (CX1 P w) P w K mg base N qual scope f cd A outer s H E').xe (.ref e) s':=by
 show wpAny _ _ (leaving _ _) _ _ _
 unfold leaving
 refine wpAny_bind (mW I'.ok.frames I'.stack rfl hx λh2 T2 u9 p_ n4=>flight_none (s:={s' with heap:=h2}) u9 λh3 D_ u7=>?_)
 have v7:s'.heap.get? T2=none:=Heap.get?_none_of_le p_
 have f1:∀ b,s'.heap.get? b=none->s.heap.get? b=none:=λb q=>ce I' rfl q
 have hok:HOk P w H' s'.heap:=I'.hok
 have y9:H' T2=none:=hok.fresh p_
 have Jo:∀ b∈[T,e],s.heap.get? b=none:=λb hb=>by
  rcases AA.mp hb with z|z
  ·rw[z];exact nT
  ·rw[Ay.mp z];exact ne
 have u2:Un (frs outer) [] H H' s.heap h2:=fq (show Un (frs outer) [] H H' s.heap s'.heap from I'.base) n4 Jo λb hb=>mY hb
 have u3:Un (frs outer) [] H H' s.heap h3:=fq u2 u7 (λb hb=>by rw[Ay.mp hb];exact f1 T2 v7) λb hb=>by cases hb
 have k2:=eg hok n4 (λb hb=>I'.stkFree b hb) (λb hb=>by
  rcases AA.mp hb with z|z
  ·rw[z];exact HT
  ·rw[Ay.mp z];exact He)
 have k3:=eg k2 u7 (λb hb=>by cases hb) (λb hb=>by rw[Ay.mp hb];exact y9)
 exact⟨e,C,od,T2,H',rfl,I'.os,I'.bare,u3,k3,D_,ne,f1 T2 v7,He,y9,hE⟩
end
theorem ObjOk.there{P:Program}{w:World}{H:Hp}{h:Heap}{a:Addr}{o:HO}(x:ObjOk P w H h a o):∃ u,h.get? a=some u:=by
 cases o with
 |lst xs=>obtain⟨_,_,_,_,e⟩:=x;exact⟨_,e⟩
 |tup xs=>obtain⟨_,_,_,o,e,_⟩:=x;exact⟨_,e⟩
 |dK a8=>obtain⟨_,_,_,_,o,_,_,e,_⟩:=x;exact⟨_,e⟩
 |dT a8=>obtain⟨_,_,_,_,o,_,_,e,_⟩:=x;exact⟨_,e⟩
 |set S n=>obtain⟨o,_,_,_,e,_⟩:=x;exact⟨_,e⟩
 |ins C dx fs=>obtain⟨_,_,_,e,_⟩:=x;exact⟨_,e⟩
 |own y=>exact x
 |xd fs=>obtain⟨_,⟨_,_,_,e,_⟩,_⟩:=x;exact⟨_,e⟩
 |rng lo hi=>obtain⟨_,_,_,e⟩:=x;exact⟨_,e⟩
 |frz ob u=>obtain⟨e,_⟩:=x;exact⟨_,e⟩
 |tbl ps=>exact⟨_,(show h.get? a=some _ from x)⟩
 |met f y=>exact⟨_,(show h.get? a=some _ from x)⟩
 |ext φ=>obtain⟨_,e,_⟩:=x;exact e
theorem fJ{P:Program}{w:World}{H:Hp}{h:Heap}{a:Addr}(x:HOk P w H h)(e:h.get? a=none):H a=none:=by
 cases q:H a with
 |none=>rfl
 |some o=>
  obtain⟨u,hu⟩:=ObjOk.there (x a o q)
  rw[e] at hu;cases hu
def del(H:Hp)(a:Addr):Hp:=λb=>if b=a then none else H b
theorem eL{H:Hp}{a:Addr}:del H a a=none:=by unfold del;rw[if_pos rfl]
theorem bJ{H:Hp}{a b:Addr}(h:b≠a):del H a b=H b:=by unfold del;rw[if_neg h]
section
variable {X:Cx}{pins:List (Addr × Obj)}{σ:L2.St}{H:Hp}{s:Shared}{e:Addr}
theorem Inv.drop{φ:Heap->Prop}(I:Inv X pins σ H s)(h:H e=some (.ext φ))(ne:X.s₀.heap.get? e=none):Inv X pins σ (del H e) s:=by
 have nx:∀ b o,H b=some o->(∀ φ,o≠.ext φ)->b≠e:=λb o q n z=>by rw[z,h] at q;cases q;exact n φ rfl
 refine⟨I.ok,I.os,I.bare,⟨I.base.keep,I.base.slot,λb o q n hx=>?_,I.base.there,λb xs q=>?_,λb o u q=>?_,λb ps q=>?_⟩,I.loc,I.cell,?_,λx c q=>?_,λp hp=>?_,λa o q=>?_,I.len⟩
 ·have:b≠e:=λz=>by rw[z,ne] at q;cases q
  rw[bJ this];exact I.base.free b o q n hx
 ·have:=I.base.tups b xs q
  rw[bJ (nx b _ this λφ z=>nomatch z)];exact this
 ·have:=I.base.frzs b o u q
  rw[bJ (nx b _ this λφ z=>nomatch z)];exact this
 ·obtain⟨m,this⟩:=I.base.tbls b ps q
  exact⟨m,by rw[bJ (nx b _ this λφ z=>nomatch z)];exact this⟩
 ·by_cases z:X.env.locals=e
  ·rw[z];exact eL
  ·rw[bJ z];exact I.free
 ·by_cases z:c=e
  ·rw[z];exact eL
  ·rw[bJ z];exact I.freeC x c q
 ·obtain⟨h1,h2,h3⟩:=I.pin p hp
  refine⟨h1,?_,h3⟩
  by_cases z:p.1=e
  ·rw[z];exact eL
  ·rw[bJ z];exact h2
 ·by_cases z:a=e
  ·rw[z,eL] at q;cases q
  ·rw[bJ z] at q
   exact(I.hok a o q).stay (λb u _ r=>r) (λb r=>by rw[bJ (nx b _ r λφ z=>nomatch z)];exact r) λb xs r=>by rw[bJ (nx b _ r λφ z=>nomatch z)];exact r
theorem Inv.adopt{φ:Heap->Prop}(I:Inv X pins σ H s)(He:H e=none)(ok:ObjOk X.prog X.w H s.heap e (.ext φ))(ne:X.s₀.heap.get? e=none)(hl:e≠X.env.locals)(hc:∀ x c,X.env.cells.lookup x=some c->c≠e)(hp:∀ p∈X.pn++pins,p.1≠e):Inv X pins σ (upd H e (.ext φ)) s:=by
 refine⟨I.ok,I.os,I.bare,⟨I.base.keep,I.base.slot,λb o q n hx=>?_,I.base.there,λb xs q=>?_,λb o u q=>?_,λb ps q=>?_⟩,I.loc,I.cell,?_,λx c q=>?_,λp Dz=>?_,λa o q=>?_,I.len⟩
 ·have:b≠e:=λz=>by rw[z,ne] at q;cases q
  rw[ak this];exact I.base.free b o q n hx
 ·have:=I.base.tups b xs q
  rw[ak (bw this He)];exact this
 ·have:=I.base.frzs b o u q
  rw[ak (bw this He)];exact this
 ·obtain⟨m,this⟩:=I.base.tbls b ps q
  exact⟨m,by rw[ak (bw this He)];exact this⟩
 ·rw[ak (Ne.symm hl)];exact I.free
 ·rw[ak (hc x c q)];exact I.freeC x c q
 ·obtain⟨h1,h2,h3⟩:=I.pin p Dz
  refine⟨h1,?_,h3⟩
  rw[ak (hp p Dz)];exact h2
 ·by_cases z:a=e
  ·rw[z,az] at q;cases q
   rw[z];exact ok
  ·rw[ak z] at q
   exact(I.hok a o q).stay (λb u _ r=>r) (λb r=>by rw[ak (bw r He)];exact r) λb xs r=>by rw[ak (bw r He)];exact r
end
structure ErrK(K:Ax)(mg:Str->Option Value)(x:Str)(C N:Addr)(bm:List Value):Prop where
 ns:nsIn K mainGlobals x=some (some (.ref C))
 mg:mg x=some (.ref C)
 kp:keepIn K (.ref C)=true
 obj:∃ nm q bs sn sub ab col dd k0 k1 k2 k3 k5,K.lookup C=some (excClassObj nm q C N bs bm true sn sub ab col dd k0 k1 k2 k3 k5 "ValueError.__new__")
 tail:tailIn K veLine bm=true
structure ErrN(K:Ax)(N:Addr):Prop where
 ok:nsOkIn K N=true
 no:nsIn K N "__init__"=some none
theorem iy{K:Ax}:∀ {l:List Value},tailIn K veLine l=true->aL l=true
 |[],e=>by simp[tailIn,veLine] at e
 |v::r,e=>by
  unfold tailIn at e
  rcases Bool.or_eq_true_iff.mp e with q|q
  ·rw[beq_iff_eq.mp q];decide+kernel
  ·split at q
   ·split at q
    ·simp only[AZ,beq_iff_eq] at q
     unfold aL
     exact iy q.2
    ·cases q
   ·cases q
theorem ErrK.base{K:Ax}{mg:Str->Option Value}{x:Str}{C N:Addr}{bm:List Value}(k:ErrK K mg x C N bm):bm.contains (.type "BaseException")=true:=fo (by decide+kernel) (iy k.tail)
def XN(e C:Addr)(od:Option Addr):HO:= .ext λh=>∃ t sl,h.get? e=some ⟨.ref C,od,.fields #[.ref t,.none,.none,.none,.bool false,.none],sl⟩
theorem XN.ok{P:Program}{w:World}{H:Hp}{h:Heap}{e C t:Addr}{od:Option Addr}{sl:Array (Option Value)}(q:h.get? e=some ⟨.ref C,od,.fields #[.ref t,.none,.none,.none,.bool false,.none],sl⟩):ObjOk P w H h e (XN e C od):=
 ⟨⟨t,sl,q⟩,⟨_,q⟩,λh1 h2 ⟨t,sl,q⟩ k=>⟨t,sl,k _ q⟩⟩
theorem XN.get{P:Program}{w:World}{H:Hp}{h:Heap}{e C:Addr}{od:Option Addr}(x:HOk P w H h)(q:H e=some (XN e C od)):∃ t sl,h.get? e=some ⟨.ref C,od,.fields #[.ref t,.none,.none,.none,.bool false,.none],sl⟩:=(x e _ q).1
def ErrF(K:Ax)(F:Hp)(fs:List (Str × D))(od:Option Addr):Prop:=∃ vs,RepF K F fs vs/\((od=none/\vs=[])\/∃ b,od=some b/\F b=some (.xd vs))
def lEi(K:Ax)(C:Addr)(S:SiD):Sp:=λvs H Q _=>∃ e us H1 F ds,vs= .ref e::us/\H=upd H1 e (XN e C none)/\H1 e=none/\Same F H1/\Reps K F ds us/\
 ∃ R:List (Str × D)->Prop,S ds R/\∀ fs od F' H',Grow F H1 F' H'->R fs->H' e=some (XN e C od)->F' e=none->ErrF K F' fs od->Q .non H'
def CalE(P:Program)(w:World)(K:Ax)(mg:Str->Option Value)(base:Heap)(n:Nat)(x:Str)(ps:List Str)(S:SiD):Prop:=
 ∃ C N bm f fd,ErrK K mg x C N bm/\AD K (.ref C) "__init__"=some (some (.ref f))/\isFn K (.ref f)=true/\FnOk P w K mg base (CX1 P w) n f fd ps (lEi K C S)/\Binds K fd ps []
section
variable {X:Cx}{pins:List (Addr × Obj)}{σ:L2.St}{H:Hp}{s:Shared}{e:Addr}
theorem Inv.newx{C:Addr}{h':Heap}{us:List Value}(I:Inv X pins σ H s)(hex:X.ex=[])(hm:Heap.MadeExcOf s.heap h' e (.ref C) us):Inv X pins σ (upd H e (XN e C none)) {s with heap:=h'}:=by
 obtain⟨ta,h1,h2,h3⟩:=hm.there
 have I2:Inv X pins σ H {s with heap:=h'}:=I.kept (t':=s.toks) hm.keeps
 refine Inv.adopt I2 (fJ I.hok hm.new) (XN.ok h1) (ce I hex hm.new) (λz=>?_) (λx c q z=>?_) λp hp z=>?_
 ·obtain⟨m,⟨o,_,_,ho,_⟩,_⟩:=I.loc
  rw[<- z,hm.new] at ho;cases ho
 ·obtain⟨v,o,ho,_⟩:=I.cell x c q
  rw[z,hm.new] at ho;cases ho
 ·have:=(I.pin p hp).1
  rw[z,hm.new] at this;cases this
end
structure BaseK(K:Ax)(mg:Str->Option Value)(y:Str)(M:Addr):Prop where
 mg:mg y=some (.ref M)
 rd:readsIn K M (.type "type")=true
 fc:findCls K (.ref M) (.type "type") "__init__"=some (.val (.builtin "ValueError.__init__"))
 sp:specialIn K (.ref M) "__getattribute__"=some (some (.builtin "type.__getattribute__"))
structure ErrA(K:Ax)(x:Str)(C:Addr)(cd:ClassData):Prop where
 ns:nsIn K mainGlobals x=some (some (.ref C))
 cl:Cf K C=some cd
 mro:aL cd.mro=true
 hd:cd.hasDict=true
 sa:AD K (.ref C) "__setattr__"=some (some (.builtin "object.__setattr__"))
theorem ErrK.a{x:Str}{K:Ax}{mg:Str->Option Value}{C N:Addr}{bm:List Value}(k:ErrK K mg x C N bm)(sa:AD K (.ref C) "__setattr__"=some (some (.builtin "object.__setattr__"))):∃ cd,ErrA K x C cd:=by
 obtain⟨nm,q,bs,sn,sub,ab,col,dd,k0,k1,k2,k3,k5,lk⟩:=k.obj
 exact⟨_,k.ns,by unfold Cf;rw[lk],by
  show aL (.ref C::bm)=true
  unfold aL;exact iy k.tail,rfl,sa⟩
def lX(K:Ax)[J:Jx](x:Str)(t:TID):TS:=λE σ H=>∃ C e od ws F z fs,nsIn K mainGlobals x=some (some (.ref C))/\σ[0]?=some (some (.ref e))/\H e=some (XN e C od)/\J.B e=none/\F e=none/\Kept J.B J.F0 F H/\RepS K J.B F H z σ/\RepF K F fs ws/\
 ((od=none/\ws=[])\/∃ b,od=some b/\H b=some (.xd ws)/\J.B b=none/\F b=none/\b≠e/\ws≠[])/\
 ∃ R:List (Str × D)->Prop,t z fs R/\∀ i9 E_ F' H',Kept J.B J.F0 F' H'->R i9->H' e=some (XN e C E_)->F' e=none->ErrF K F' i9 E_->E.nx σ H'
abbrev DX(X:Cx)[Jx](x:Str)(st:List Stmt)(t:TID):Prop:=PSs X st (lX X.K x t)
structure WDX(X:Cx)[Jx](x:Str)(st:List Stmt)(t:TID):Prop where
 out:DX X x st t
theorem ut{H:Hp}{a:Addr}{o:HO}(h:H a=some o):upd H a o=H:=by
 funext b
 unfold upd
 by_cases q:b=a
 ·rw[if_pos q,q,h]
 ·rw[if_neg q]
section
variable {X:Cx}[J:Jx]{x f:Str}{e:Expr}{te:TD}{ta:TDA}{pos c5 p:Pos}{rest:List Stmt}{tr:TID}
theorem nR:WDX X x [] nP:=⟨pss_nil.anti λE s H q=>by
 obtain⟨C,a,od,ws,F,z,fs,hn,h0,d8,hB,f_,k,rs,rf,hd,R,hR,kk⟩:=q
 rcases hd with⟨rfl,rfl⟩|⟨b,rfl,hb,Fb,Fc,ne,_⟩
 ·exact kk fs none F H k hR d8 f_ ⟨[],rf,.inl ⟨rfl,rfl⟩⟩
 ·have s1:Same F (upd F b (.xd ws)):=aO Fc _
  refine kk fs (some b) (upd F b (.xd ws)) H ⟨k.bh,λc o q=>?_,k.f0.trans s1,λc h1 h2=>?_,k.eb,k.jf,k.jo⟩ hR d8 (by rw[ak (Ne.symm ne)];exact f_) ⟨ws,RepF.mono s1 fs ws rf,.inr ⟨b,rfl,az⟩⟩
  ·by_cases hc:c=b
   ·subst hc;rw[az] at q;cases q;exact hb
   ·rw[ak hc] at q;exact k.fh c o q
  ·have:c≠b:=λz=>h2 (z ▸ Fb)
   rw[ak this];exact k.out c h1 h2⟩
def uu(ta:TDA)(tr:TID):TID:=λz fs R=>ta z λds=>ds.length<=1000/\tr z fs R
theorem nS{y sx:Str}{ps py apos cpos:Pos}{es:List Expr}{pl:Sem Bool}(hb:∃ M,BaseK X.K X.mg y M)(hA:∃ C cd,ErrA X.K x C cd)(ha:WDA X es ta)(hr:WDX X x rest tr)(hg:Gl X y:=by rfl)(hN:X.N[0]?=some sx:=by rfl)(hv:Vis X.env.scope sx:=by first|exact Or.inl rfl|exact Or.inr (Or.inl rfl)|exact Or.inr (Or.inr rfl))(hd:zND sx:=by decide)
  (f7:zNC sx:=by decide) (Jp:zND y:=by decide)
  (he:starEach (.Name sx ps::es) X.env=(false,eval (.Name sx ps) X.env)::starEach es X.env:=by rfl) (b9:zPL X cpos es:=by rfl)
  (ht:eval (.Call (.Attribute (.Name y py) "__init__" apos) (.Name sx ps::es) [] cpos) X.env=(do
   let ov <- eval (.Name y py) X.env
   standAt apos.atName
   let (f,first) <- holding [ov] (getMethod ov "__init__" pl)
   callWith cpos f first (backTo cpos (starEach (.Name sx ps::es) X.env)) (backToKw cpos (keywordEach [] X.env))):=by rfl)
  (hs:swapsWith (.Call (.Attribute (.Name y py) "__init__" apos) (.Name sx ps::es) [] cpos) none pos.line X.env=pure false:=by rfl):WDX X x (.Expr (.Call (.Attribute (.Name y py) "__init__" apos) (.Name sx ps::es) [] cpos) pos::rest) (uu ta tr):=⟨by
 have ha:=ha.out
 have hr:=hr.out
 obtain⟨M,bk⟩:=hb
 obtain⟨C,cd,er⟩:=hA
 have step:PS X (.Expr (.Call (.Attribute (.Name y py) "__init__" apos) (.Name sx ps::es) [] cpos) pos) (λE σ H=>∃ C' e od,nsIn X.K mainGlobals x=some (some (.ref C'))/\σ[0]?=some (some (.ref e))/\
   lA X.K ta σ H (λvs H1=>H1 e=some (XN e C' od)/\vs.length<=1000/\E.nx σ H1)):=by
  intro pins s σ H D I h
  obtain⟨C',ea,od,hn,h0,h⟩:=h
  rw[er.ns] at hn
  cases hn
  refine wpAny_Expr_any (methodCall_KW (pl:=pl) (bY I hg bk.mg ?_ Jp) ht) I.quiet hs
  refine method_cls I.kIn bk.sp (cls_value I.kIn bk.rd bk.fc (by decide+kernel) ?_)
  have I0:Inv X pins σ H {s with toks:=s.toks+1}:=I.tok _
  obtain⟨B,F,z,kf,rs,R,h1,h2⟩:=h
  refine PyProof.Rows.callWith_builtin1 (thn (bn (dQ (i:=0) hN hv hd f7) ha he cpos pins _ σ H (λvs H1=>∃ us,vs= .ref ea::us/\H1 ea=some (XN ea C od)/\us.length<=1000/\D.nx σ H1) I0 ⟨.ref ea,h0,⟨B,F,z,kf,rs,R,h1,λds vs F' H' g hx rx=>⟨vs,rfl,h2 ds vs F' H' g hx rx⟩⟩⟩) λus s1 ⟨vs,H1,I1,r,Ki,ev,s9,hl,El⟩=>?_) he b9
  subst ev
  cases r with
  |cons r1 r2=>
   rename_i u0 Kj _
   obtain rfl:u0=Value.ref ea:=r1
   obtain⟨t0,sl,l_⟩:=XN.get I1.hok s9
   refine sB (K:=X.K) (C:=C) (cd:=cd) I1.kIn l_ rfl rfl er.cl er.mro (by rw[<- L2.Vals.length r2];exact sz hl) λh' g1 g2=>?_
   refine⟨σ,H1,?_,El⟩
   have w:=I1.write (x:=ea) (e:=ea) (o:=XN ea C od) (h':=h') (t':=s1.toks) (by rw[s9];exact True.intro) (.inl rfl) (λb u hb q=>g2 b u hb q) ⟨_,g1⟩ (XN.ok g1)
   rw[ut s9] at w
   exact w
 refine(dR step hr).anti λE s H q=>?_
 obtain⟨C',a,od,ws,F,z,fs,hn,h0,d8,hB,f_,k,rs,rf,d_,R,hR,kk⟩:=q
 refine⟨C',a,od,hn,h0,_,F,z,k,rs,_,hR,λds vs F1 H1 g hx rx=>⟨g.hh a _ d8,by rw[rx.length];exact hx.1,?_⟩⟩
 refine⟨C',a,od,ws,F1,z,fs,hn,h0,g.hh a _ d8,hB,g.out a f_ (by rw[d8];exact λz=>nomatch z),k.grow g,rs.grow g,RepF.mono g.ff fs ws rf,?_,R,hx.2,kk⟩
 rcases d_ with d_|⟨b,h1,h2,h3,h4,h5⟩
 ·exact .inl d_
 ·exact .inr ⟨b,h1,g.hh b _ h2,h3,g.out b h4 (by rw[h2];exact λz=>nomatch z),h5⟩⟩
def uv(f:Str)(te:TD)(tr:TID):TID:=λz fs R=>fs=[]/\te z λd=>tr z [(f,d)] R
theorem nU{sx:Str}{ps:Pos}(hA:∃ C cd,ErrA X.K x C cd)(hf:∀ C,nsIn X.K mainGlobals x=some (some (.ref C))->AD X.K (.ref C) f=some none)(he:WDE X e te)(hr:WDX X x rest tr)(hN:X.N[0]?=some sx:=by rfl)(hv:Vis X.env.scope sx:=by first|exact Or.inl rfl|exact Or.inr (Or.inl rfl)|exact Or.inr (Or.inr rfl))(hd:zND sx:=by decide)
  (f7:zNC sx:=by decide) (hs:swapsWith e (some (.Attribute (.Name sx ps) f c5)) pos.line X.env=pure false:=by rfl):WDX X x (.Assign [.Attribute (.Name sx ps) f c5] e pos::rest) (uv f te tr):=⟨by
 have he:=he.out
 have hr:=hr.out
 obtain⟨C,cd,er⟩:=hA
 have Em:=hf C er.ns
 have step:PS X (.Assign [.Attribute (.Name sx ps) f c5] e pos) (λE σ H=>∃ e,σ[0]?=some (some (.ref e))/\
   lE X.K te σ H (λv H1=>H1 e=some (XN e C none)/\∀ b,H1 b=none->b≠e->E.nx σ (upd (upd H1 b (.xd [(f,v)])) e (XN e C (some b))))):=by
  intro pins s σ H D I h
  obtain⟨ea,h0,h⟩:=h
  refine plainObj_wpAny_Assign_Attribute (thn (he pins s σ H _ I h) λu s1 ⟨y,H1,I1,ry,s9,El⟩=>thn (dQ (i:=0) hN hv hd f7 pins s1 σ H1 (λv H'=>v= .ref ea/\H'=H1) I1 ⟨.ref ea,h0,rfl,rfl⟩) λov s2 ⟨v0,H2,I2,r0,e1,e2⟩=>?_) hs
  subst e1 e2
  obtain rfl:ov=Value.ref ea:=r0
  obtain⟨t0,sl,l_⟩:=XN.get I2.hok s9
  refine sA (K:=X.K) (C:=C) (cd:=cd) I2.kIn l_ rfl rfl rfl er.cl er.mro er.hd er.sa Em λh' g1 g2 g3 tk=>?_
  have hfr:H2 s2.heap.objs.size=none:=I2.hok.fresh (Az _)
  have g6:s2.heap.objs.size≠ea:=Bl (Heap.lt_size l_)
  have Gb:∀ b o,s2.heap.get? b=some o->b≠s2.heap.objs.size:=λb o q=>AF (Heap.lt_size q)
  have Gc:∀ b,H2 b=none->b≠ea:=λb q z=>by rw[z,s9] at q;cases q
  refine⟨σ,_,?_,El _ hfr g6⟩
  have En:∀ b o,H2 b=some o->(∀ φ,o≠.ext φ)->upd (upd H2 s2.heap.objs.size (.xd [(f,y)])) ea (XN ea C (some s2.heap.objs.size)) b=some o:=λb o q n=>by
   have n1:b≠ea:=λz=>by rw[z,s9] at q;cases q;exact n _ rfl
   rw[ak n1,ak (bw q hfr)];exact q
  refine I2.un (h':=h') (t':=tk) ⟨λb o q n _ _=>g3 b o (Gc b n) q,λb o q n _ _=>⟨o.slots,g3 b o (Gc b n) q⟩,λb o q n _=>?_,λb o q _=>?_,λb xs q=>En b _ q (λφ z=>nomatch z),λb o u q=>En b _ q (λφ z=>nomatch z),λb ps q=>⟨#[],by rw[En b _ q (λφ z=>nomatch z)];simp⟩⟩ λa o q=>?_
  ·rw[ak (Gc b n),ak (Gb b o q)];exact n
  ·by_cases hb:b=ea
   ·rw[hb];exact⟨_,g1⟩
   ·exact⟨o,g3 b o hb q⟩
  ·by_cases ha:a=ea
   ·subst ha
    rw[az] at q;cases q
    exact XN.ok g1
   ·rw[ak ha] at q
    by_cases hb:a=s2.heap.objs.size
    ·subst hb
     rw[az] at q;cases q
     refine⟨_,g2,λg=>?_⟩
     rw[AR]
     by_cases hg:g=f
     ·subst hg;simp;exact ry
     ·have:(g==f)=false:=by simpa using hg
      rw[this,if_neg hg];exact True.intro
    ·rw[ak hb] at q
     refine(I2.hok a o q).stay (λb u f9 r=>?_) (λb r=>En b _ r (λφ z=>nomatch z)) λb xs r=>En b _ r (λφ z=>nomatch z)
     refine g3 b u (λz=>?_) r
     rcases f9 with e1|e1
     ·exact ha (e1 ▸ z)
     ·rw[z,s9] at e1;cases e1
 refine(dR step hr).anti λE s H q=>?_
 obtain⟨C',a,od,ws,F,z,fs,hn,h0,d8,hB,f_,k,rs,rf,d_,R,⟨rfl,hR⟩,kk⟩:=q
 rw[er.ns] at hn
 cases hn
 have Jq:ws=[]:=repf_nil.mp rf
 subst Jq
 refine⟨a,h0,_,F,z,k,rs,_,hR,λd v F1 H1 g hx rv=>?_⟩
 have Eo:F1 a=none:=g.out a f_ (by rw[d8];exact λz=>nomatch z)
 have k1:=k.grow g
 rcases d_ with⟨rfl,_⟩|⟨b,rfl,h1,h2,h3,h4⟩
 ·refine⟨g.hh a _ d8,λb hb g6=>?_⟩
  have Fb:J.B b=none:=k1.bh.free hb
  have Fc:F1 b=none:=k1.fh.free hb
  have same:∀ {G:Hp},G a=none->G b=none->Same G H1->Same G (upd (upd H1 b (.xd [(f,v)])) a (XN a C (some b))):=λ{G} ga gb gs c o q=>by
   have n1:c≠a:=λz=>by rw[z,ga] at q;cases q
   have n2:c≠b:=λz=>by rw[z,gb] at q;cases q
   rw[ak n1,ak n2];exact gs c o q
  have v3:=rs.grow g
  refine⟨C,a,some b,[(f,v)],F1,z,[(f,d)],er.ns,h0,az,hB,Eo,⟨same hB Fb k1.bh,same Eo Fc k1.fh,k1.f0,k1.out,k1.eb,k1.jf,k1.jo⟩,?_,repf_cons.mpr ⟨v,[],rfl,rv,repf_nil.mpr rfl⟩,.inr ⟨b,rfl,by rw[ak g6];exact az,Fb,Fc,g6,λz=>nomatch z⟩,R,hx,kk⟩
  refine⟨v3.len,v3.val,λi ds e'=>?_,v3.apart⟩
  obtain⟨c,vs,q1,q2,q⟩:=v3.own i ds e'
  have n1:c≠a:=λz=>by rw[z,g.hh a _ d8] at q2;cases q2
  have n2:c≠b:=λz=>by rw[z,hb] at q2;cases q2
  exact⟨c,vs,q1,by rw[ak n1,ak n2];exact q2,q⟩
 ·exact absurd rfl h4.2⟩
end
section
variable {P:Program}{w:World}{K:Ax}{mg:Str->Option Value}{base:Heap}
theorem Cls.okE{x qual:Str}{st:Stmt}{f C N0:Addr}{bm:List Value}{fd:FuncData}{N:List Str}{p0:Str}{ps:List Str}{k:Nat}{S:SiD}(T:Fun K "__init__" qual st f fd)(hb:Binds K fd (p0::ps) [])(F:FnScope (p0::N) (p0::ps) (ag st))(len:∀ ds R,S ds R->ds.length=ps.length)
  (ek:ErrK K mg x C N0 bm) (hi:AD K (.ref C) "__init__"=some (some (.ref f))) (hf:isFn K (.ref f)=true)
  (a9:∀ (cdv:Value) (A:Around) (outer:List Env) (s:Shared) (H:Hp) (E:XK) (J:Jx),Room k (A.deeper (envOfC qual (ag st) s.heap.objs.size f cdv))->
   ∃ t,DX (cxOf (CX1 P w) P w K mg base (p0::N) qual (ag st) f cdv A outer s H E).nox x (aJ st) t/\∀ ds R,S ds R->t (none::startD N ds) [] R):CalE P w K mg base (k+1) x (p0::ps) S:=by
 refine⟨C,N0,bm,f,fd,ek,hi,hf,Fun.okC T F (λvs H Q E h=>?_) (λcdv A outer s H vs Q E hr h=>?_),hb⟩
 ·obtain⟨a,us,H1,F,ds,rfl,_,_,_,rs,R,h,_⟩:=h
  rw[AB,AB,rs.length,len ds R h]
 ·obtain⟨a,us,H1,F1,ds,rfl,rfl,ha,fh,rs,R,h,q⟩:=h
  letI:Jx:=⟨H1,F1,λ_ _ _=>False⟩
  obtain⟨t,ht,hq⟩:=a9 cdv A outer s _ E inferInstance hr
  have Fa:F1 a=none:=fh.free ha
  have hl:L2.start (p0::N) (.ref a::us)=some (.ref a)::L2.start N us:=by
   unfold L2.start
   rw[AO,AB,AB,CK];rfl
  have s1:Same H1 (upd H1 a (XN a C none)):=aO ha _
  refine⟨_,ht.nox,C,a,none,[],F1,none::startD N ds,[],ek.ns,by rw[hl];rfl,az,ha,Fa,⟨s1,fh.trans s1,Same.refl F1,λ_ h _=>h,rfl,Same.refl F1,λ_ h _=>h⟩,?_,repf_nil.mpr rfl,.inl ⟨rfl,rfl⟩,R,hq ds R h,λi9 E_ F' H' g hR d8 f_ er=>q i9 E_ F' H' ⟨g.f0,g.fh,g.bh,g.out⟩ hR d8 f_ er⟩
  rw[hl]
  exact nQ (eo rs)
end
section
variable {M:Model}{A:Around}{E:Value->Shared->Prop}{h:Heap}{g:Array GenState}{d:Drawn}{t:Nat}{os:OsState}
variable {nm q:Str}{C N:Addr}{bs bm:List Value}{hdct:Bool}{sn:List Str}{sub:List Value}{ab:Bool}{col:Option Bool}{dd:Option Addr}{k0 k1 k2 k3 k5:Option Value}{newId:String}
variable {HL q':Str}{C' N':Addr}{HM Ep:List Value}{Er:Bool}{HN:List Str}{Es:List Value}{HP:Bool}{Et:Option Bool}{Fd:Option Addr}{HQ HR HS HU HV:Option Value}{Do:String}
theorem uw{e:Addr}{oe:Obj}{b:Bool}{Q:Bool->Shared->Prop}(hC:h.get? C=some (excClassObj nm q C N bs bm hdct sn sub ab col dd k0 k1 k2 k3 k5 newId))(hD:h.get? C'=some (excClassObj HL q' C' N' HM Ep Er HN Es HP Et Fd HQ HR HS HU HV Do))
  (he:h.get? e=some oe) (z_:oe.cls= .ref C) (b7:Ep.contains (.type "BaseException")=true) (hb:(Value.ref C::bm).contains (.ref C')=b) (hq:Q b ⟨h,g,d,t,os⟩):wpAny M A (excMatches (.ref e) (.ref C')) Q E ⟨h,g,d,t,os⟩:=by
 have FO:(Value.ref C'::Ep).contains (.type "BaseException")=true:=by rw[Ca,b7,BR]
 have f:=tc_notTuple
 unfold excMatches
 repeat(first|(with_reducible refine wpAny_loadPart_at he ?_;rw[z_])|with_reducible refine wpAny_loadPart_at hD ?_|(with_reducible refine wpAny_isSubtype_exc hD ?_;rw[FO])|(with_reducible refine wpAny_isSubtype_exc hC ?_;rw[hb])|wp_step)
 cases b with
 |true=>wp_walk;exact hq
 |false=>wp_walk;exact hq
end
abbrev _root_.L2.Cx.held(X:Cx)(e:Addr):Cx:={X with A:=X.A.mark (some (.ref e)),calm:=false,xe:=λ_ _=>False}
section
variable {X:Cx}{pins:List (Addr × Obj)}{σ:L2.St}{H:Hp}{s:Shared}{e:Addr}
theorem Cx.Ok.held(ok:X.Ok):(X.held e).Ok:=
 ⟨ok.mod,ok.kind,ok.glob,ok.blt,ok.above,ok.inj,ok.has,ok.cab,(λz=>nomatch z),ok.frames,ok.stk,ok.exf,ok.bs,ok.bsz,ok.noex,ok.exfs,ok.funs,ok.frf⟩
theorem Inv.held(I:Inv X pins σ H s):Inv (X.held e) pins σ H s:=⟨Cx.Ok.held I.ok,I.os,I.bare,I.base,I.loc,I.cell,I.free,I.freeC,I.pin,I.hok,I.len⟩
theorem Inv.unheld(ok:X.Ok)(I:Inv (X.held e) pins σ H s):Inv X pins σ H s:=⟨ok,I.os,I.bare,I.base,I.loc,I.cell,I.free,I.freeC,I.pin,I.hok,I.len⟩
theorem SP.unheld{D:Ends}{f:Flow}{s':Shared}(ok:X.Ok)(h:SP (X.held e) pins D f s'):SP X pins D f s':=by
 cases f with
 |next=>obtain⟨σ',H',I,q⟩:=h;exact⟨σ',H',Inv.unheld ok I,q⟩
 |brk=>obtain⟨σ',H',I,q⟩:=h;exact⟨σ',H',Inv.unheld ok I,q⟩
 |cont=>obtain⟨σ',H',I,q⟩:=h;exact⟨σ',H',Inv.unheld ok I,q⟩
 |ret u=>obtain⟨v,σ',H',I,r,q⟩:=h;exact⟨v,σ',H',Inv.unheld ok I,r,q⟩
theorem Inv.stay{h':Heap}{i9 ex:List Addr}(I:Inv X pins σ H s)(st:Stay i9 ex s.heap h')(E7:∀ b∈i9,b∈frs X.stack)(hH:∀ b∈ex,H b=none)(h0:∀ b∈ex,X.s₀.heap.get? b=none)(hL:∀ b∈ex,b≠X.env.locals)(hc:∀ b∈ex,∀ x c,X.env.cells.lookup x=some c->c≠b)
  (hp:∀ b∈ex,∀ p∈X.pn++pins,p.1≠b):Inv X pins σ H {s with heap:=h'}:=by
 have hok:HOk X.prog X.w H h':=eg I.hok st (λb hb=>I.stkFree b (E7 b hb)) hH
 have sub:∀ b∈i9,b=X.env.locals\/b∈X.fs:=λb hb=>AA.mp (I.stkSub b (E7 b hb))
 have nL:∀ b o,X.s₀.heap.get? b=some o->b≠X.env.locals:=λb o q=>AF (AV (Heap.lt_size q) I.ok.above)
 have HW:∀ b o,X.s₀.heap.get? b=some o->b ∉ ex:=λb o q z=>by rw[h0 b z] at q;cases q
 have j3:∀ x c v,X.env.cells.lookup x=some c->s.heap.IsCell c v->h'.IsCell c v:=λx c v e ⟨o,ho,hd⟩=>by
  obtain⟨sl,z⟩:=st.slot c o ho (λz=>hc c z x c e rfl)
  exact⟨_,z,hd⟩
 refine⟨I.ok,I.os,I.bare,⟨λb o e n hb hx=>?_,λb o e n hb hx=>?_,I.base.free,λb o e hx=>?_,I.base.tups,I.base.frzs,I.base.tbls⟩,?_,λy c e=>?_,I.free,I.freeC,λp Dz=>?_,hok,I.len⟩
 ·exact st.keep b o (I.base.keep b o e n hb hx) (HW b o e) (λz=>(sub b z).elim (nL b o e) hb)
 ·obtain⟨sl,e1⟩:=I.base.slot b o e n hb hx
  obtain⟨m8,e2⟩:=st.slot b _ e1 (HW b o e)
  exact⟨m8,e2⟩
 ·obtain⟨o',e1⟩:=I.base.there b o e hx
  exact st.there b o' e1
 ·obtain⟨m,⟨o,es,ep,ho,r⟩,hl⟩:=I.loc
  obtain⟨sl,z⟩:=st.slot _ o ho (λz=>hL _ z rfl)
  refine⟨m,⟨_,es,ep,z,r⟩,λj y v' e1 e2 e3=>?_⟩
  obtain⟨u',r',q⟩:=hl j y v' e1 e2 e3
  refine⟨u',r',?_⟩
  rcases q with q|⟨k,c,e,z⟩
  ·exact .inl q
  ·exact .inr ⟨k,c,e,j3 y c _ e z⟩
 ·obtain⟨w',z⟩:=I.cell y c e
  exact⟨w',j3 y c _ e z⟩
 ·obtain⟨e,n,ne,nf,d⟩:=I.pin p Dz
  exact⟨st.keep _ _ e (λz=>hp _ z p Dz rfl) (λz=>(sub _ z).elim ne nf),n,ne,nf,d⟩
end
def subE(x c:Str):Bool:=x==c||c=="MotifError"
structure ErrsK(K:Ax)(mg:Str->Option Value)(es:List Str):Prop where
 cls:∀ x∈es,∃ C N bm,ErrK K mg x C N bm
 sub:∀ x∈es,∀ y∈es,∀ C C',nsIn K mainGlobals x=some (some (.ref C))->nsIn K mainGlobals y=some (some (.ref C'))->Bc K C (.ref C')=some (subE x y)
theorem ErrsK.has{K:Ax}{mg:Str->Option Value}{es:List Str}(k:ErrsK K mg es){x y:Str}{C C' N N':Addr}{bm Ep:List Value}(hx:x∈es)(hy:y∈es)(a:ErrK K mg x C N bm)(b:ErrK K mg y C' N' Ep):(Value.ref C::bm).contains (.ref C')=subE x y:=by
 have h:=k.sub x hx y hy C C' a.ns b.ns
 obtain⟨nm,q,bs,sn,sub,ab,col,dd,k0,k1,k2,k3,k5,lk⟩:=a.obj
 unfold Bc Cf at h
 rw[lk] at h
 simp only[Cb,List.isEmpty_cons,Bool.false_eq_true,if_false,Option.some.injEq] at h
 exact h
structure Held(X:Cx)(pins:List (Addr × Obj))(H:Hp)(s:Shared)(e C:Addr)(od:Option Addr)(T:Addr):Prop where
 ex:ExAt s.heap e C od T .none
 He:H e=none
 HT:H T=none
 e0:X.s₀.heap.get? e=none
 T0:X.s₀.heap.get? T=none
 eP:∀ p∈X.pn++pins,p.1≠e
 TP:∀ p∈X.pn++pins,p.1≠T
section
variable {X:Cx}{pins:List (Addr × Obj)}{σ:L2.St}{H:Hp}{s:Shared}
theorem iz{b:Addr}{o:Obj}{vs:Array Value}(I:Inv X pins σ H s)(h:s.heap.get? b=some o)(hd:o.data= .fields vs):b≠X.env.locals:=λz=>by
 obtain⟨m,⟨o',es,ep,ho,d_,_⟩,_⟩:=I.loc
 rw[<- z,h] at ho;cases ho
 rw[hd] at d_;cases d_
theorem fld_cell{b:Addr}{o:Obj}{vs:Array Value}(I:Inv X pins σ H s)(h:s.heap.get? b=some o)(hd:o.data= .fields vs):∀ x c,X.env.cells.lookup x=some c->c≠b:=λx c q z=>by
 obtain⟨v,o',ho,d_⟩:=I.cell x c q
 rw[z,h] at ho;cases ho
 rw[hd] at d_;cases d_
theorem Held.flight{e C T:Addr}{od:Option Addr}{h':Heap}(I:Inv X pins σ H s)(k:Held X pins H s e C od T)(hx:ExAt h' e C od T .none)(st:Stay [] [T] s.heap h'):Inv X pins σ H {s with heap:=h'}/\Held X pins H {s with heap:=h'} e C od T:=by
 obtain⟨sl,vs,oT,ts,he,h1,p9,hT,i_,h3⟩:=k.ex
 refine⟨Inv.stay I st (λb hb=>by cases hb) (λb hb=>?_) (λb hb=>?_) (λb hb=>?_) (λb hb=>?_) (λb hb=>?_),⟨hx,k.He,k.HT,k.e0,k.T0,k.eP,k.TP⟩⟩<;>rw[Ay.mp hb]
 ·exact k.HT
 ·exact k.T0
 ·exact iz I hT i_
 ·exact fld_cell I hT i_
 ·exact k.TP
theorem XO.ok{P:Program}{w:World}{h:Heap}{e C:Addr}{od:Option Addr}{vs:Array Value}{sl:Array (Option Value)}(q:h.get? e=some ⟨.ref C,od,.fields vs,sl⟩):ObjOk P w H h e (XO e C od):=
 ⟨⟨vs,sl,q⟩,⟨_,q⟩,λh1 h2 ⟨vs,sl,q⟩ k=>⟨vs,sl,k _ q⟩⟩
end
abbrev TH:=Str->List (Str × D)->TSD
def DH(X:Cx)[J:Jx](hs:List ExceptHandler)(th:TH):Prop:=
 ∀ (pins:List (Addr × Obj)) (s:Shared) (σ:L2.St) (H:Hp) (D:Ends) (e C:Addr) (od:Option Addr) (T:Addr) (x:Str) (fs:List (Str × My.D)) (B F0 F:Hp) (z:SD) (ED:EndsD),Inv X pins σ H s->Held X pins H s e C od T->Kept B F0 F H->RepS X.K B F H z σ->ErrD X.K F x fs C od->
  th x fs ED z->EndsOk X.K B F0 ED D->wpAny (model X.prog X.w) X.A (handleBy (.ref e) X.env hs) (SP X pins D) X.xe s
structure WDH(X:Cx)[Jx](hs:List ExceptHandler)(th:TH):Prop where
 out:DH X hs th
section
variable {X:Cx}[J:Jx]{es:List Str}{c:Str}{b₀:Stmt}{y':List Stmt}{pos pc:Pos}{rest:List ExceptHandler}{t:TSD}{r:TH}
def ux:TH:=λ_ _ _ _=>False
def uy(es:List Str)(c:Str)(t:TSD)(r:TH):TH:=λx fs E z=>(x∈es/\c∈es)/\if subE x c=true then t E z else r x fs E z
theorem uz:WDH X [] ux:=⟨λ_ _ _ _ _ _ _ _ _ _ _ _ _ _ _ _ _ _ _ _ _ h _=>h.elim⟩
theorem va(hE:ErrsK X.K X.mg es)(hs:∀ e,WDSs (X.held e) (b₀::y') t)(hr:WDH X rest r)(hg:Gl X c:=by rfl)(c_:zND c:=by decide):WDH X (.ExceptHandler (some (.Name c pc)) none (b₀::y') pos::rest) (uy es c t r):=⟨by
 have hs:=λe=>(hs e).out
 have hr:=hr.out
 intro pins s σ H D e C od T x fs B F0 F z ED I hd k rs er ht ee
 obtain⟨⟨HX,HY⟩,ht⟩:=ht
 obtain⟨Cc,Nc,Kk,kc⟩:=hE.cls c HY
 obtain⟨HZ,Nx,Kl,kx⟩:=hE.cls x HX
 obtain rfl:HZ=C:=by have h1:=kx.ns;rw[er.1] at h1;cases h1;rfl
 have hb:=hE.has HX HY kx kc
 obtain⟨nm,q,bs,sn,sub,ab,col,dd,k0,k1,k2,k3,k5,lk⟩:=kx.obj
 obtain⟨HL,q',HM,HN,Es,HP,Et,Fd,HQ,HR,HS,HU,HV,Jr⟩:=kc.obj
 refine wpAny_handleBy_cons (codeAny_handlers_test (bY (X:=X.held e) (Inv.held I) hg kc.mg ?_ c_)) (by intro q;cases q)
 obtain⟨sl,vs,oT,ts,he,h1,p9,hT,i_,h3⟩:=id hd.ex
 refine uw (g:=s.gens) (d:=s.drawn) (t:=s.toks) (os:=s.os) (I.kIn _ _ lk) (I.kIn _ _ Jr) he rfl kc.base hb ?_
 cases Eu:subE x c with
 |true=>
  rw[Eu,if_pos rfl] at ht
  refine codeAny_handlers_suite (flight_none hd.ex λh' e8 st'=>?_)
  obtain⟨I',_⟩:=Held.flight I hd e8 st'
  exact wpAny_mono (hs e pins _ σ H D (Inv.held I') ⟨B,F0,F,z,k,rs,ED,ht,ee⟩) (λf s1 q=>SP.unheld I.ok q) λ_ _ z=>False.elim z
 |false=>
  rw[Eu,if_neg AG] at ht
  exact hr pins s σ H D e HZ od T x fs B F0 F z ED I hd k rs er ht ee⟩
end
abbrev _root_.L2.Cx.tried(X:Cx)(pn:List (Addr × Obj))(xe:Value->Shared->Prop):Cx:={X with pn:=pn,xe:=xe}
section
variable {X:Cx}{pn pins:List (Addr × Obj)}{xe:Value->Shared->Prop}{σ:L2.St}{H:Hp}{s:Shared}
theorem Cx.Ok.tried(ok:X.Ok):(X.tried pn xe).Ok:=⟨ok.mod,ok.kind,ok.glob,ok.blt,ok.above,ok.inj,ok.has,ok.cab,ok.hd,ok.frames,ok.stk,ok.exf,ok.bs,ok.bsz,ok.noex,ok.exfs,ok.funs,ok.frf⟩
theorem Inv.tried(I:Inv X pins σ H s):Inv (X.tried (X.pn++pins) xe) [] σ H s:=⟨Cx.Ok.tried I.ok,I.os,I.bare,I.base,I.loc,I.cell,I.free,I.freeC,λp hp=>I.pin p (by simpa using hp),I.hok,I.len⟩
theorem Inv.untried(ok:X.Ok)(I:Inv (X.tried (X.pn++pins) xe) [] σ H s):Inv X pins σ H s:=⟨ok,I.os,I.bare,I.base,I.loc,I.cell,I.free,I.freeC,λp hp=>I.pin p (by simpa using hp),I.hok,I.len⟩
theorem SP.untried{D:Ends}{f:Flow}{s':Shared}(ok:X.Ok)(h:SP (X.tried (X.pn++pins) xe) [] D f s'):SP X pins D f s':=by
 cases f with
 |next=>obtain⟨σ',H',I,q⟩:=h;exact⟨σ',H',Inv.untried ok I,q⟩
 |brk=>obtain⟨σ',H',I,q⟩:=h;exact⟨σ',H',Inv.untried ok I,q⟩
 |cont=>obtain⟨σ',H',I,q⟩:=h;exact⟨σ',H',Inv.untried ok I,q⟩
 |ret u=>obtain⟨v,σ',H',I,r,q⟩:=h;exact⟨v,σ',H',Inv.untried ok I,r,q⟩
end
theorem Kept.re{J:Jx}{B F0 F H:Hp}{RX:SD->XD}(k:@Kept J B F0 F H):@Kept ⟨B,F0,RX⟩ B F0 F H:=@Kept.mk ⟨B,F0,RX⟩ B F0 F H k.bh k.fh k.f0 k.out rfl (Same.refl F0) (λ_ h _=>h)
theorem Kept.un{J:Jx}{B F0 F H F' H':Hp}{RX:SD->XD}(k:@Kept J B F0 F H)(k':@Kept ⟨B,F0,RX⟩ B F0 F' H'):@Kept J B F0 F' H':=by
 obtain⟨a,b,c,d,_,_,_⟩:=k'
 exact @Kept.mk J B F0 F' H' a b c d k.eb k.jf k.jo
def dTry(tb:Jx->TSD)(th:TH):TSD:=λE z=>∃ RX:SD->XD,(∀ J:Jx,J.RX=RX->tb J E z)/\∀ z' x fs,RX z' x fs->th x fs E z'
theorem vb{X:Cx}[J:Jx]{body:List Stmt}{h₀:ExceptHandler}{hs:List ExceptHandler}{pos:Pos}{tb:Jx->TSD}{th:TH}
  (hb:∀ (pn:List (Addr × Obj)) (xe:Value->Shared->Prop) (J':Jx),PassesOwn (model X.prog X.w) X.A X.env xe->@XOk (X.tried pn xe) J'->@DSs (X.tried pn xe) J' body (tb J'))
  (hh:DH X (h₀::hs) th) (hex:X.ex=[]:=by rfl) (hstk:X.stack=X.env::X.outer:=by rfl) (hfr:X.env.frame=some X.env.locals:=by rfl):DS X (.Try body (h₀::hs) [] [] pos) (dTry tb th):=by
 intro pins s σ H D I h
 obtain⟨B,F0,F,z,k,rs,ED,⟨RX,h1,h2⟩,ee⟩:=h
 have ok:=I.ok
 have hx:@XOk (X.tried (X.pn++pins) (λe s₁=>wpAny (model X.prog X.w) X.A (noteFrame e X.env) (λ_ s₂=>wpAny (model X.prog X.w) X.A (setFlight e none) (λ_ s₃=>wpAny (model X.prog X.w) X.A (handleBy e X.env (h₀::hs)) (SP X pins D) X.xe s₃) X.xe s₂) X.xe s₁)) ⟨B,F0,RX⟩:=by
  intro σ' z' F' H' s' e C od x fs I1 kk rr hR er hd
  obtain⟨He,e0,eP,hd⟩:=hd
  have I2:Inv X pins σ' H' s':=Inv.untried ok I1
  have stk:s'.heap.FunFrames X.base (X.env::X.outer):=by rw[<- hstk];exact I2.stack
  have H4:X.A.frames=some (X.env::X.outer):=by rw[<- hstk];exact I2.ok.frames
  have k2:Kept B F0 F' H':=Kept.un k kk
  -- j_ error is H8 here,then handled
  have d6:∀ (s_:Heap) (T2:Addr) (ex:List Addr),(∀ b∈ex,H' b=none/\X.s₀.heap.get? b=none/\(∃ o vs,s'.heap.get? b=some o/\o.data= .fields vs)/\∀ p∈X.pn++pins,p.1≠b)->ExAt s_ e C od T2 (rawInt X.env.locals)->s'.heap.objs.size<=T2->Stay (frs (X.env::X.outer)) ex s'.heap s_->
    wpAny (model X.prog X.w) X.A (setFlight (.ref e) none) (λ_ s₃=>wpAny (model X.prog X.w) X.A (handleBy (.ref e) X.env (h₀::hs)) (SP X pins D) X.xe s₃) X.xe {s' with heap:=s_}:=by
   intro s_ T2 ex td u9 p_ n4
   have v7:s'.heap.get? T2=none:=Heap.get?_none_of_le p_
   have I3:Inv X pins σ' H' {s' with heap:=s_}:=Inv.stay I2 n4 (λb hb=>by rw[hstk];exact hb) (λb hb=>(td b hb).1) (λb hb=>(td b hb).2.1) (λb hb=>let ⟨_,_,q1,q2⟩:=(td b hb).2.2.1;iz I2 q1 q2) (λb hb=>let ⟨_,_,q1,q2⟩:=(td b hb).2.2.1;fld_cell I2 q1 q2) (λb hb=>(td b hb).2.2.2)
   obtain⟨sl,vs,oT,ts,he,g1,p9,hT,i_,g3⟩:=id u9
   have y9:H' T2=none:=fJ I2.hok v7
   have T0:X.s₀.heap.get? T2=none:=ce I2 hex v7
   have TP:∀ p∈X.pn++pins,p.1≠T2:=λp hp z=>by
    have:=(I2.pin p hp).1
    rw[z,v7] at this;cases this
   refine flight_none (s:={s' with heap:=s_}) u9 λh3 D_ u7=>?_
   have I4:Inv X pins σ' H' {s' with heap:=h3}:=Inv.stay (s:={s' with heap:=s_}) I3 u7 (λb hb=>by cases hb) (λb hb=>by rw[Ay.mp hb];exact y9) (λb hb=>by rw[Ay.mp hb];exact T0) (λb hb=>by rw[Ay.mp hb];exact iz I3 hT i_) (λb hb=>by rw[Ay.mp hb];exact fld_cell I3 hT i_) (λb hb=>by rw[Ay.mp hb];exact TP)
   exact hh pins _ σ' H' D e C od T2 x fs B F0 F' z' ED I4 ⟨D_,He,y9,e0,T0,eP,TP⟩ k2 rr er (h2 z' x fs hR) ee
  rcases hd with⟨sl,vs,he,hv⟩|⟨T,H9,T0,HT,TP⟩
  ·refine mV H4 stk hfr he hv λs_ T2 u9 p_ n4=>d6 s_ T2 [e] (λb hb=>?_) u9 p_ n4
   rw[Ay.mp hb]
   exact⟨He,e0,⟨_,_,he,rfl⟩,eP⟩
  ·obtain⟨sl,vs,oT,ts,he,g1,p9,hT,i_,g3⟩:=id H9
   refine mW H4 stk hfr H9 λs_ T2 u9 p_ n4=>d6 s_ T2 [T,e] (λb hb=>?_) u9 p_ n4
   rcases AA.mp hb with z|z
   ·rw[z];exact⟨HT,T0,⟨_,_,hT,i_⟩,TP⟩
   ·rw[Ay.mp z];exact⟨He,e0,⟨_,_,he,rfl⟩,eP⟩
 refine wpAny_Try_except (wpAny_mono (hb (X.pn++pins) _ ⟨B,F0,RX⟩ PassesOwn.looking hx [] s σ H D (Inv.tried I) ?_) (λf s1 q=>?_) λe s1 q=>q)
 ·refine⟨B,F0,F,z,Kept.re k,rs,ED,h1 ⟨B,F0,RX⟩ rfl,@EndsOk.mk ⟨B,F0,RX⟩ _ _ _ _ _ (λz' s' F' H' k'=>ee.nx z' s' F' H' (Kept.un k k')) (λd v F' H' k'=>ee.rt d v F' H' (Kept.un k k')) (λz' s' F' H' k'=>ee.bk z' s' F' H' (Kept.un k k')) (λz' s' F' H' k'=>ee.ct z' s' F' H' (Kept.un k k'))⟩
 ·have q:=SP.untried ok q
  cases f with
  |next=>exact wpAny_execs_nil q
  |ret v=>exact q
  |brk=>exact q
  |cont=>exact q
def ErrG(K:Ax)(f y:Str):Prop:=∃ C cd,ErrA K y C cd/\AD K (.ref C) "__getattribute__"=some (some (.builtin "BaseException.__getattribute__"))/\AD K (.ref C) "__getattr__"=some none/\AD K (.ref C) f=some none
theorem nV{K:Ax}:tailIn K veLine veLine=true:=by
 unfold tailIn
 rfl
theorem nW{K:Ax}{N:Addr}{c:Value}{d:Option Addr}{es:Array DictEntry}{ep:Nat}{sl:Array (Option Value)}(l:K.lookup N=some ⟨c,d,.dict es ep,sl⟩)(h:es.toList.all (λe=>match e.key with| .str _ _=>true|_=>false)=true):nsOkIn K N=true:=by
 unfold nsOkIn
 rw[l]
 dsimp only
 rw[<- CL]
 exact h
theorem vc{K:Ax}{M N:Addr}{c0:Value}{dd:Option Addr}{cd:ClassData}{sl:Array (Option Value)}(l:K.lookup M=some ⟨c0,dd,.cls cd,sl⟩)(hn:cd.ns=N)(h1:nsOkIn K N=true)(h2:nsIn K N "__init__"=some none):tailIn K veLine (.ref M::veLine)=true:=by
 unfold tailIn
 subst hn
 dsimp only
 rw[l]
 dsimp only
 rw[h1,h2,nV]
 simp
theorem vd{K:Ax}{C:Addr}:kitOne K (.ref C) (.ref C)=some true:=by
 unfold kitOne
 rw[if_pos (beq_self_eq_true _)]
def ve(S:SpX):SpD:=λds R=>S ds R λ_ _=>False
theorem CalX.no{P:Program}{w:World}{K:Ax}{mg:Str->Option Value}{base:Heap}{n:Nat}{x:Str}{ps:List Str}{S:SpX}(C:CalX P w K mg base n x ps S):CalD P w K mg base n x ps (ve S):=by
 obtain⟨f,fd,F,hb,hk,hm⟩:=C
 refine⟨f,fd,F.imp λvs H Q E h=>?_,hb,hk,hm⟩
 obtain⟨F,ds,fh,rs,R,h,q⟩:=h
 exact⟨F,ds,fh,rs,R,_,h,q,λ_ _ _ _ _ _ _ z=>z.elim⟩
end My
namespace My
section
variable {X:Cx}[J:Jx]{a b c e:Expr}{ta tb tc te:TD}{pos:Pos}
abbrev TDO:=SD->(Option Int->Prop)->Prop
def lO(K:Ax)[J:Jx](t:TDO):TO:=λs H Q=>∃ B F z,Kept B J.F0 F H/\RepS K B F H z s/\∃ R:Option Int->Prop,t z R/\∀ o F' H',Grow F H F' H'->R o->Q o H'
abbrev DPO(X:Cx)[Jx](e:Option Expr)(t:TDO):Prop:=PO X e (lO X.K t)
structure WDPO(X:Cx)[Jx](e:Option Expr)(t:TDO):Prop where
 out:DPO X e t
def rdSl:D->Option Int->Option Int->(D->Prop)->Prop:=λx lo hi R=>match x with
 | .str y=>y.length<=1000000/\R (.str (Txt.slice y lo hi))
 | .lst xs=>R (.lst (cutD xs lo hi))
 | .rol xs=>R (.lst (cutD xs lo hi))
 | .tup xs=>¬ (HT.sIx xs.length 0 lo=0/\HT.sIx xs.length xs.length hi=xs.length)/\R (.tup (cutD xs lo hi))
 |_=>False
def rdIn(neg:Bool):RD2:=λx y R=>match x,y with
 | .str i,.str j=>R (.bl (if neg then !(!(Builtin.Str.occurrences j i 0 j.length 1).isEmpty) else !(Builtin.Str.occurrences j i 0 j.length 1).isEmpty))
 |x,.lst ys=>(aX x=true/\ys.all aX=true)/\R (.bl (if neg then !(ys.any λy=>eqF y x) else ys.any λy=>eqF y x))
 |x,.rol ys=>(aX x=true/\ys.all aX=true)/\R (.bl (if neg then !(ys.any λy=>eqF y x) else ys.any λy=>eqF y x))
 |x,.tup ys=>(aX x=true/\ys.all aX=true)/\R (.bl (if neg then !(ys.any λy=>eqF y x) else ys.any λy=>eqF y x))
 |_,_=>False
theorem fK{K:Ax}{H:Hp}{x:D}{u:V}(rx:Rep K H x u)(fx:aX x=true):∀ {ys:List D} {vs:List V},Reps K H ys vs->ys.all aX=true->inV u vs=ys.any λy=>eqF y x
 |[],vs,r,_=>by rw[reps_nil.mp r];rfl
 |y::ys,vs,r,f=>by
  obtain⟨v,vr,rfl,r1,r2⟩:=reps_cons.mp r
  rw[BC,AZ] at f
  have ih:=fK rx fx r2 f.2
  unfold inV at ih ⊢
  rw[Bv,Bv,ih,eqV_of r1 rx f.1 fx]
def rInV(K:Ax)(neg:Bool):R2:=λx y H Q=>(∃ i j,x= .str i/\y= .str j/\Q (.bl (if neg then !(!(Builtin.Str.occurrences j i 0 j.length 1).isEmpty) else !(Builtin.Str.occurrences j i 0 j.length 1).isEmpty)) H)\/rIn K neg x y H Q
theorem vf{K:Ax}{neg:Bool}:aR K (rInV K neg) (rdIn neg):=by
 intro x y u v F H R Q fh h rx ry q
 unfold rdIn at h
 split at h
 ·exact .inl ⟨_,_,rep_str.mp rx,rep_str.mp ry,q _ _ F H (Grow.refl fh) h (rep_bl.mpr rfl)⟩
 ·obtain⟨⟨f1,f2⟩,h⟩:=h
  obtain⟨l,vs,rfl,hq,rr⟩:=rep_lst.mp ry
  exact .inr ⟨l,vs,rfl,.inl (fh.seq (SqL.of hq)),du rx f1,cw rr f2,q _ _ F H (Grow.refl fh) h (rep_bl.mpr (by rw[fK rx f1 rr f2]))⟩
 ·obtain⟨⟨f1,f2⟩,h⟩:=h
  obtain⟨l,vs,rfl,hq,rr⟩:=rep_rol.mp ry
  exact .inr ⟨l,vs,rfl,.inl (fh.seq hq),du rx f1,cw rr f2,q _ _ F H (Grow.refl fh) h (rep_bl.mpr (by rw[fK rx f1 rr f2]))⟩
 ·obtain⟨⟨f1,f2⟩,h⟩:=h
  obtain⟨l,vs,rfl,hq,rr⟩:=rep_tup_mp ry
  exact .inr ⟨l,vs,rfl,.inr (fh.tup hq),du rx f1,cw rr f2,q _ _ F H (Grow.refl fh) h (rep_bl.mpr (by rw[fK rx f1 rr f2]))⟩
 ·exact h.elim
theorem vg:OpR X (compareOp .NotIn) (rInV X.K true):=OpR.or rR rQ
end
section
variable {X:Cx}[J:Jx]{a b c e:Expr}{ta tb tc te:TD}{pos:Pos}
def cO(x:Str):List D:=x.cps.toList.map λc=>D.str ⟨#[c]⟩
theorem vh{x:Str}{k c:Nat}(h:x.cps[k]?=some c):(cO x)[k]?=some (.str ⟨#[c]⟩):=by
 unfold cO
 rw[A2,Array.getElem?_toList,h]
 rfl
theorem nX(x:Str):(cO x).length=x.length:=by unfold cO;rw[AH];simp[Str.length]
variable {gV iter:Expr}{x:Str}{px:Pos}{scope:Scope}{ti:TD}
end
section
variable {X:Cx}[J:Jx]{a b c e o:Expr}{es:List Expr}{ta tb tc te to:TD}{t:TDA}{pos:Pos}
abbrev RTx:=Str->List D->(D->Prop)->Prop
def dTx(r:RTx)(to:TD)(t:TDA):TD:=λz R=>to z λx=>match x with| .str y=>t z λds=>r y ds R|_=>False
def MtS(X:Cx)(id:String)(r:RTx):Prop:=∃ rv:V->List V->Hp->VK->Prop,MtR X id rv/\∀ (y:Str) (ds:List D) (vs:List V) (F H:Hp) (R:D->Prop) (Q:VK),Reps X.K F ds vs->r y ds R->(∀ d v,(∀ G,Rep X.K G d v)->R d->Q v H)->rv (.str y) vs H Q
theorem nY{name:Str}{id:String}{r:RTx}{apos cpos:Pos}(slot:Slot "str" name id)(FG:typeOf (.builtin id)=pure (.type "method_descriptor"))(hm:MtS X id r)(ho:DE X o to)(ha:DA X (e::es) t)
  (b7:attributeBase o name X.env (eval o X.env)=eval o X.env:=by rfl)
  (d7:zHF X cpos (e::es):=by rfl)
  (c8:(apos.endLine==cpos.line)=true:=by rfl) (hs:zSE X e es:=by rfl) (k_:zPL X cpos es:=by rfl):
  DE X (.Call (.Attribute o name apos) (e::es) [] cpos) (dTx r to t):=by
 obtain⟨rv,hm,L⟩:=hm
 refine(dZ PySem.F.plainAttrs_str slot FG hm ho ha b7 d7 c8 hs k_).anti λs H Q q=>?_
 obtain⟨B,F,z,kf,rs,R,h1,h2⟩:=q
 refine⟨B,F,z,kf,rs,_,h1,λx u F1 H1 g1 hx rx=>?_⟩
 split at hx
 ·rename_i y
  rw[rep_str.mp rx]
  refine⟨rfl,B,F1,z,kf.grow g1,rs.grow g1,_,hx,λds vs F2 H2 g2 hy ry=>?_⟩
  exact L y ds vs F2 H2 R Q ry hy λd v rd hR=>h2 d v F2 H2 (g1.trans g2) hR (rd F2)
 ·exact hx.elim
def Au:RTx:=λy ds R=>match ds with|[.str p]=>R (.bl (Txt.startswith y p))|_=>False
def rEnds:RTx:=λy ds R=>match ds with|[.str p]=>R (.bl (Txt.endswith y p))|_=>False
theorem ms_ends:MtS X "str.endswith" rEnds:=by
 refine⟨λx vs H Q=>∃ y p,x= .str y/\vs=[.str p]/\Q (.bl (Txt.endswith y p)) H,?_,?_⟩
 ·intro pins s σ H x vs v us Q I rx rv h
  obtain⟨y,p,rfl,rfl,q⟩:=h
  obtain⟨t,rfl⟩:=rx
  obtain⟨u,rfl,t',rfl⟩:=bH rv
  exact SC.endswith ⟨.bl _,H,I,rfl,q⟩
 ·intro y ds vs F H R Q r h q
  unfold rEnds at h
  split at h
  ·obtain⟨v,vr,rfl,h1,h2⟩:=reps_cons.mp r
   rw[reps_nil.mp h2,rep_str.mp h1]
   exact⟨_,_,rfl,rfl,q _ _ (λ_=>rep_bl.mpr rfl) h⟩
  ·exact h.elim
theorem vi{apos cpos:Pos}(ho:WDE X o to)(ha:WDA X [e] t)(b7:attributeBase o "endswith" X.env (eval o X.env)=eval o X.env:=by rfl)
  (d7:zHF X cpos [e]:=by rfl)
  (c8:(apos.endLine==cpos.line)=true:=by rfl) (hs:zSE X e []:=by rfl):WDE X (.Call (.Attribute o "endswith" apos) [e] [] cpos) (dTx rEnds to t):=⟨have ho:=ho.out;have ha:=ha.out;nY PySem.F.slot_str_endswith PySem.F.type_str_endswith ms_ends ho ha b7 d7 c8 hs⟩
def rSIndex:RTx:=λy ds R=>match ds with|[.str p]=>∃ i rest,Builtin.Str.occurrences y p 0 y.length 1=i::rest/\R (.int (i:Nat))|_=>False
theorem vj:MtS X "str.index" rSIndex:=by
 refine⟨λx vs H Q=>∃ y p i rest,x= .str y/\vs=[.str p]/\Builtin.Str.occurrences y p 0 y.length 1=i::rest/\Q (.int (i:Nat)) H,?_,?_⟩
 ·intro pins s σ H x vs v us Q I rx rv h
  obtain⟨y,p,i,rest,rfl,rfl,ho,q⟩:=h
  obtain⟨t,rfl⟩:=rx
  obtain⟨u,rfl,t',rfl⟩:=bH rv
  exact SC.index ho ⟨.int _,H,I.tok _,⟨_,rfl⟩,q⟩
 ·intro y ds vs F H R Q r h q
  unfold rSIndex at h
  split at h
  ·obtain⟨i,rest,ho,h⟩:=h
   obtain⟨v,vr,rfl,h1,h2⟩:=reps_cons.mp r
   rw[reps_nil.mp h2,rep_str.mp h1]
   exact⟨_,_,i,rest,rfl,rfl,ho,q _ _ (λ_=>rep_int.mpr rfl) h⟩
  ·exact h.elim
theorem vk{apos cpos:Pos}(ho:WDE X o to)(ha:WDA X [e] t)(b7:attributeBase o "index" X.env (eval o X.env)=eval o X.env:=by rfl)
  (d7:zHF X cpos [e]:=by rfl)
  (c8:(apos.endLine==cpos.line)=true:=by rfl) (hs:zSE X e []:=by rfl):WDE X (.Call (.Attribute o "index" apos) [e] [] cpos) (dTx rSIndex to t):=⟨have ho:=ho.out;have ha:=ha.out;nY PySem.F.slot_str_index PySem.F.type_str_index vj ho ha b7 d7 c8 hs⟩
theorem Reps.init{K:Ax}{F:Hp}:∀ {ds:List D} {vs:List V},Reps K F ds vs->Reps K F ds.dropLast vs.dropLast
 |[],vs,r=>by rw[reps_nil.mp r];exact reps_nil.mpr rfl
 |[d],vs,r=>by
  obtain⟨v,vr,rfl,_,h2⟩:=reps_cons.mp r
  rw[reps_nil.mp h2]
  exact reps_nil.mpr rfl
 |d::d2::ds,vs,r=>by
  obtain⟨v,vr,rfl,h1,h2⟩:=reps_cons.mp r
  obtain⟨v2,Km,rfl,h3,h4⟩:=reps_cons.mp h2
  rw[CM,CM]
  exact reps_cons.mpr ⟨v,_,rfl,h1,Reps.init h2⟩
end
end My
namespace My
open Exc
section
variable {X:Cx}{a b c e:Expr}{ta tb tc te:TD}{pos:Pos}{st:Stmt}{rest:List Stmt}{t u:TSD}
theorem bA[Jx]{c:Expr}{l r:List Stmt}{tc:TDT}(hc:WDT X c tc)(ha:WDSs X l t)(hb:WDSs X r u):WDS X (.If c l r pos) (dIfS tc t u):=⟨nB (c:=c) (l:=l) (r:=r) (tc:=tc) (hc:=hc.out) (ha:=ha.out) (hb:=hb.out)⟩
end
theorem vm{X:Cx}[J:Jx]{body:List Stmt}{h₀:ExceptHandler}{hs:List ExceptHandler}{pos:Pos}{tb:Jx->TSD}{th:TH}(hb:∀ (pn:List (Addr × Obj)) (xe:Value->Shared->Prop) (J':Jx),PassesOwn (model X.prog X.w) X.A X.env xe->@XOk (X.tried pn xe) J'->@WDSs (X.tried pn xe) J' body (tb J'))(hh:WDH X (h₀::hs) th)(hex:X.ex=[]:=by rfl)(hstk:X.stack=X.env::X.outer:=by rfl)(hfr:X.env.frame=some X.env.locals:=by rfl):WDS X (.Try body (h₀::hs) [] [] pos) (dTry tb th):=⟨vb (X:=X) (body:=body) (h₀:=h₀) (hs:=hs) (pos:=pos) (tb:=tb) (th:=th) (hb:=λa b c d e=>(hb a b c d e).out) (hh:=hh.out) (hex:=hex) (hstk:=hstk) (hfr:=hfr)⟩
section
variable {P:Program}{w:World}{K:Ax}{mg:Str->Option Value}{base:Heap}
theorem _root_.L2.Fun.okDW{x:Str}{st:Stmt}{f:Addr}{fd:FuncData}{N ps:List Str}{k:Nat}{S:SpD}(T:Fun K x x st f fd)(F:FnScope N ps (ag st))(len:∀ ds R,S ds R->ds.length=ps.length)
  (a9:∀ (cdv:Value) (A:Around) (outer:List Env) (s:Shared) (H:Hp) (E:XK) (J:Jx),Room k (A.deeper (envOfC x (ag st) s.heap.objs.size f cdv))->
   ∃ t,WDSs (cxOf (Exc.CX1 P w) P w K mg base N x (ag st) f cdv A outer s H E).nox (aJ st) t/\∀ ds R,S ds R->t {nx:=λ_=>R .non,rt:=R} (startD N ds)):FnOk P w K mg base (Exc.CX1 P w) (k+1) f fd ps (lSp K S):=
 T.okD F len λcdv A outer s H E J hr=>let ⟨t,h,q⟩:=a9 cdv A outer s H E J hr;⟨t,h.out,q⟩
theorem Tx.okDW{x:Str}{st:Stmt}{N ps:List Str}{k:Nat}{S:SpD}(T:Tx K mg x st ps)(F:FnScope N ps (ag st))(len:∀ ds R,S ds R->ds.length=ps.length)
  (a9:∀ (f:Addr) (cdv:Value) (A:Around) (outer:List Env) (s:Shared) (H:Hp) (E:XK) (J:Jx),Room k (A.deeper (envOfC x (ag st) s.heap.objs.size f cdv))->
   ∃ t,WDSs (cxOf (Exc.CX1 P w) P w K mg base N x (ag st) f cdv A outer s H E).nox (aJ st) t/\∀ ds R,S ds R->t {nx:=λ_=>R .non,rt:=R} (startD N ds)):CalD P w K mg base (k+1) x ps S:=
 Tx.okD T F len λf cdv A outer s H E J hr=>let ⟨t,h,q⟩:=a9 f cdv A outer s H E J hr;⟨t,h.out,q⟩
theorem Cls.okIW{x qual:Str}{st:Stmt}{f C:Addr}{fd:FuncData}{N:List Str}{p0:Str}{ps:List Str}{k:Nat}{S:SiD}(T:Fun K "__init__" qual st f fd)(hb:Binds K fd (p0::ps) [])(F:FnScope (p0::N) (p0::ps) (ag st))(len:∀ ds R,S ds R->ds.length=ps.length)
  (hns:nsIn K mainGlobals x=some (some (.ref C))) (j7:mg x=some (.ref C)) (mk:Mk K C f)
  (a9:∀ (cdv:Value) (A:Around) (outer:List Env) (s:Shared) (H:Hp) (E:XK) (J:Jx),Room k (A.deeper (envOfC qual (ag st) s.heap.objs.size f cdv))->
   ∃ t,WDI (cxOf (Exc.CX1 P w) P w K mg base (p0::N) qual (ag st) f cdv A outer s H E).nox x (aJ st) t/\∀ ds R,S ds R->t (none::startD N ds) [] R):CalM P w K mg base (k+1) x (p0::ps) S:=
 Cls.okI T hb F len hns j7 mk λcdv A outer s H E J hr=>let ⟨t,h,q⟩:=a9 cdv A outer s H E J hr;⟨t,h.out,q⟩
theorem Cls.okEW{x qual:Str}{st:Stmt}{f C N0:Addr}{bm:List Value}{fd:FuncData}{N:List Str}{p0:Str}{ps:List Str}{k:Nat}{S:SiD}(T:Fun K "__init__" qual st f fd)(hb:Binds K fd (p0::ps) [])(F:FnScope (p0::N) (p0::ps) (ag st))(len:∀ ds R,S ds R->ds.length=ps.length)
  (ek:ErrK K mg x C N0 bm) (hi:AD K (.ref C) "__init__"=some (some (.ref f))) (hf:isFn K (.ref f)=true)
  (a9:∀ (cdv:Value) (A:Around) (outer:List Env) (s:Shared) (H:Hp) (E:XK) (J:Jx),Room k (A.deeper (envOfC qual (ag st) s.heap.objs.size f cdv))->
   ∃ t,WDX (cxOf (CX1 P w) P w K mg base (p0::N) qual (ag st) f cdv A outer s H E).nox x (aJ st) t/\∀ ds R,S ds R->t (none::startD N ds) [] R):CalE P w K mg base (k+1) x (p0::ps) S:=
 Cls.okE T hb F len ek hi hf λcdv A outer s H E J hr=>let ⟨t,h,q⟩:=a9 cdv A outer s H E J hr;⟨t,h.out,q⟩
end
inductive MO where
 |ins (x:Str) (fs:List (Str × D))|lst (ds:List D)|dti (a8:List ((Int × Int) × Int))
abbrev MS:=List (Addr × MO)
def MRep(K:Ax)(F H:Hp)(a:Addr):MO->Prop
 | .ins x fs=>∃ C dx ws,nsIn K mainGlobals x=some (some (.ref C))/\H a=some (.ins C dx ws)/\RepF K F fs ws
 | .lst ds=>∃ vs,H a=some (.lst vs)/\Reps K F ds vs
 | .dti a8=>H a=some (.dT (dtiV a8))
def au(M:MS):List Addr:=M.map (·.1)
def mget:MS->Addr->Option MO
 |[],_=>none
 |(b,o)::r,a=>if b=a then some o else mget r a
def mput:MS->Addr->MO->MS
 |[],_,_=>[]
 |(b,p)::r,a,o=>if b=a then(b,o)::r else(b,p)::mput r a o
def mdel:MS->Addr->MS
 |[],_=>[]
 |(b,p)::r,a=>if b=a then r else(b,p)::mdel r a
theorem bB:∀ {M:MS} {a:Addr} {o:MO},mget M a=some o->(a,o)∈M
 |[],_,_,h=>by cases h
 |(b,p)::r,a,o,h=>by
  unfold mget at h
  split at h
  ·rename_i e;subst e;cases h;exact AE
  ·exact AC _ (bB h)
theorem bO{M:MS}{a:Addr}{o:MO}(h:(a,o)∈M):a∈au M:=A1.mpr ⟨_,h,rfl⟩
theorem fL:∀ (M:MS) (a:Addr) (o:MO),au (mput M a o)=au M
 |[],_,_=>rfl
 |(b,p)::r,a,o=>by
  unfold mput
  split
  ·rfl
  ·show b::au (mput r a o)=b::au r
   rw[fL r a o]
theorem mem_put:∀ {M:MS} {a b:Addr} {o q:MO},(au M).Nodup->(b,q)∈mput M a o->(b=a/\q=o/\a∈au M)\/(b≠a/\(b,q)∈M)
 |[],_,_,_,_,_,h=>by cases h
 |(c,p)::r,a,b,o,q,nd,h=>by
  have Ev:c ∉ au r/\(au r).Nodup:=Bg.mp nd
  unfold mput at h
  split at h
  ·rename_i e
   subst e
   rcases AA.mp h with z|z
   ·cases z;exact .inl ⟨rfl,rfl,AE⟩
   ·have:b∈au r:=bO z
    exact .inr ⟨λe=>Ev.1 (e ▸ this),AC _ z⟩
  ·rename_i ne
   rcases AA.mp h with z|z
   ·cases z;exact .inr ⟨ne,AE⟩
   ·rcases mem_put Ev.2 z with⟨e1,e2,e3⟩|⟨e1,e2⟩
    ·exact .inl ⟨e1,e2,AC _ e3⟩
    ·exact .inr ⟨e1,AC _ e2⟩
theorem iA:∀ {M:MS} {a b:Addr} {q:MO},(au M).Nodup->(b,q)∈mdel M a->b≠a/\(b,q)∈M
 |[],_,_,_,_,h=>by cases h
 |(c,p)::r,a,b,q,nd,h=>by
  have Ev:c ∉ au r/\(au r).Nodup:=Bg.mp nd
  unfold mdel at h
  split at h
  ·rename_i e
   subst e
   exact⟨λe=>Ev.1 (e ▸ bO h),AC _ h⟩
  ·rename_i ne
   rcases AA.mp h with z|z
   ·cases z;exact⟨ne,AE⟩
   ·obtain⟨e1,e2⟩:=iA Ev.2 z
    exact⟨e1,AC _ e2⟩
theorem del_sub:∀ {M:MS} {a:Addr},(au (mdel M a)).Sublist (au M)
 |[],_=> .slnil
 |(c,p)::r,a=>by
  unfold mdel
  split
  ·exact List.sublist_cons_self _ _
  ·exact List.Sublist.cons_cons _ del_sub
theorem MRep.mono{K:Ax}{F H F' H':Hp}{a:Addr}(ff:Same F F')(hh:∀ o,H a=some o->H' a=some o):∀ {o:MO},MRep K F H a o->MRep K F' H' a o
 | .ins x fs,⟨C,dx,ws,n,h,r⟩=>⟨C,dx,ws,n,hh _ h,RepF.mono ff fs ws r⟩
 | .lst ds,⟨vs,h,r⟩=>⟨vs,hh _ h,Reps.mono ff ds vs r⟩
 | .dti a8,h=>hh _ h
theorem MRep.there{K:Ax}{F H:Hp}{a:Addr}:∀ {o:MO},MRep K F H a o->H a≠none
 | .ins x fs,⟨C,dx,ws,n,h,r⟩=>by rw[h];exact λz=>nomatch z
 | .lst ds,⟨vs,h,r⟩=>by rw[h];exact λz=>nomatch z
 | .dti a8,h=>by rw[show H a=_ from h];exact λz=>nomatch z
structure RepM(K:Ax)(F H:Hp)(M:MS):Prop where
 nd:(au M).Nodup
 ok:∀ a o,(a,o)∈M->MRep K F H a o
 fr:∀ a,a∈au M->F a=none
theorem RepM.nil{K:Ax}{F H:Hp}:RepM K F H []:=⟨CF,(λ_ _ h=>nomatch h),(λ_ h=>nomatch h)⟩
theorem RepM.here{K:Ax}{F H:Hp}{M:MS}(r:RepM K F H M){a:Addr}(h:a∈au M):H a≠none:=by
 obtain⟨⟨b,o⟩,h1,rfl⟩:=A1.mp h
 exact(r.ok _ _ h1).there
structure GrowM(M M':MS)(F H F' H':Hp):Prop where
 ff:Same F F'
 fh:Same F' H'
 hh:∀ b o,b ∉ au M->H b=some o->H' b=some o
 out:∀ b,b ∉ au M->F b=none->H b≠none->F' b=none
 ks:∀ b,b∈au M'->b∈au M\/H b=none
theorem Grow.toM{M:MS}{F H F' H':Hp}(g:Grow F H F' H'):GrowM M M F H F' H':=⟨g.ff,g.fh,λb o _ h=>g.hh b o h,λb _ h1 h2=>g.out b h1 h2,λb h=> .inl h⟩
theorem GrowM.refl{M:MS}{F H:Hp}(h:Same F H):GrowM M M F H F H:=(Grow.refl h).toM
theorem GrowM.trans{M M1 M2:MS}{F H F1 H1 F2 H2:Hp}(g:GrowM M M1 F H F1 H1)(k:GrowM M1 M2 F1 H1 F2 H2):GrowM M M2 F H F2 H2 where
  ff:=g.ff.trans k.ff
  fh:=k.fh
  hh:=λb o nb h=>k.hh b o (λz=>by rcases g.ks b z with q|q;exact nb q;rw[q] at h;cases h) (g.hh b o nb h)
  out:=λb nb h1 h2=>k.out b (λz=>by rcases g.ks b z with q|q;exact nb q;exact h2 q) (g.out b nb h1 h2) (by
    cases e:H b with
    |none=>exact absurd e h2
    |some o=>rw[g.hh b o nb e];exact λz=>nomatch z)
  ks := λb h=>by
    rcases k.ks b h with q|q
    · exact g.ks b q
    · by_cases nb:b∈au M
      · exact .inl nb
      · right
        cases e:H b with
        |none=>rfl
        |some o=>rw[g.hh b o nb e] at q;cases q
theorem RepM.grow{K:Ax}{F H F' H':Hp}{M:MS}(r:RepM K F H M)(g:Grow F H F' H'):RepM K F' H' M:=
 ⟨r.nd,λa o h=>(r.ok a o h).mono g.ff λo e=>g.hh a o e,λa h=>g.out a (r.fr a h) (r.here h)⟩
theorem RepM.put{K:Ax}{F H:Hp}{M:MS}{a:Addr}{o o':MO}{ho:HO}(r:RepM K F H M)(e:mget M a=some o)(h:MRep K F (upd H a ho) a o'):RepM K F (upd H a ho) (mput M a o'):=
 ⟨by rw[fL];exact r.nd,λb q hb=>by
  rcases mem_put r.nd hb with⟨rfl,rfl,_⟩|⟨ne,hb⟩
  ·exact h
  ·exact(r.ok b q hb).mono (Same.refl F) λu z=>by rw[ak ne];exact z,λb hb=>r.fr b (by rw[fL] at hb;exact hb)⟩
theorem GrowM.put{F H:Hp}{M:MS}{a:Addr}{o o':MO}{ho:HO}(fh:Same F H)(fa:F a=none)(e:mget M a=some o):GrowM M (mput M a o') F H F (upd H a ho) where
 ff:=Same.refl F
 fh:=λb u z=>by
  have ne:b≠a:=by rintro rfl;rw[fa] at z;cases z
  rw[ak ne];exact fh b u z
 hh:=λb u nb z=>by
  have ne:b≠a:=by rintro rfl;exact nb (bO (bB e))
  rw[ak ne];exact z
 out:=λb _ h _=>h
 ks:=λb h=> .inl (by rw[fL] at h;exact h)
theorem RepM.new{K:Ax}{F H:Hp}{M:MS}{p:Addr}{o:MO}{ho:HO}(r:RepM K F H M)(fh:Same F H)(hp:H p=none)(h:MRep K F (upd H p ho) p o):RepM K F (upd H p ho) ((p,o)::M):=by
 have np:p ∉ au M:=λz=>r.here z hp
 refine⟨Bg.mpr ⟨np,r.nd⟩,λb q hb=>?_,λb hb=>?_⟩
 ·rcases AA.mp hb with z|z
  ·cases z;exact h
  ·exact(r.ok b q z).mono (Same.refl F) λu z'=>by rw[ak (λe:b=p=>np (e ▸ bO z))];exact z'
 ·rcases AA.mp hb with z|z
  ·rw[z];exact fh.free hp
  ·exact r.fr b z
theorem GrowM.new{F H:Hp}{M:MS}{p:Addr}{o:MO}{ho:HO}(fh:Same F H)(hp:H p=none):GrowM M ((p,o)::M) F H F (upd H p ho) where
 ff:=Same.refl F
 fh:=fh.trans (aO hp _)
 hh:=λb u _ z=>aO hp _ b u z
 out:=λb _ h _=>h
 ks:=λb h=>by
  rcases AA.mp h with z|z
  ·exact .inr (by rw[z];exact hp)
  ·exact .inl z
structure RepZ(K:Ax)(B F H:Hp)(z:SD)(s:L2.St)(M:MS):Prop where
 rs:RepS K B F H z s
 no:∀ (i:Nat) ds,z[i]?≠some (some (.own ds))
 rm:RepM K F H M
 mb:∀ a,a∈au M->B a=none
theorem Kept.growM[Jx]{B F0 F H F' H':Hp}{M M':MS}(k:Kept B F0 F H)(mb:∀ a,a∈au M->B a=none)(g:GrowM M M' F H F' H'):Kept B F0 F' H' where
 bh:=λb o e=>g.hh b o (λz=>by rw[mb b z] at e;cases e) (k.bh b o e)
 fh:=g.fh
 f0:=k.f0.trans g.ff
 out:=λb h1 h2=>g.out b (λz=>h2 (mb b z)) (k.out b h1 h2) (by
  cases e:B b with
  |none=>exact absurd e h2
  |some o=>rw[k.bh b o e];exact λz=>nomatch z)
 eb:=k.eb
 jf:=k.jf
 jo:=k.jo
theorem RepS.growM{K:Ax}{B F H F' H':Hp}{z:SD}{s:L2.St}{M M':MS}(r:RepS K B F H z s)(no:∀ (i:Nat) ds,z[i]?≠some (some (.own ds)))(g:GrowM M M' F H F' H'):RepS K B F' H' z s where
 len:=r.len
 val:=λi d e n=>let ⟨v,q1,q2⟩:=r.val i d e n;⟨v,q1,q2.mono g.ff⟩
 own:=λi ds e=>absurd e (no i ds)
 apart:=r.apart
theorem RepZ.growM{K:Ax}{B F H F' H':Hp}{z:SD}{s:L2.St}{M M':MS}(r:RepZ K B F H z s M)(bh:Same B H)(g:GrowM M M' F H F' H')(rm:RepM K F' H' M'):RepZ K B F' H' z s M':=
 ⟨r.rs.growM r.no g,r.no,rm,λa h=>by
  rcases g.ks a h with q|q
  ·exact r.mb a q
  ·exact bh.free q⟩
theorem RepZ.set{K:Ax}{B F H:Hp}{z:SD}{s:L2.St}{M:MS}{i:Nat}{d:D}{v:V}(r:RepZ K B F H z s M)(rd:Rep K F d v):RepZ K B F H (z.set i (some d)) (s.set i (some v)) M:=
 ⟨r.rs.set rd,λj ds e=>by
  by_cases hj:i=j
  ·subst hj
   rw[BF] at e
   simp at e
   have:=rd.noown
   rw[e.2] at this
   cases this
  ·rw[AQ hj] at e
   exact r.no j ds e,r.rm,r.mb⟩
class Jm extends Jx where
 RM:SD->MS->XD
abbrev TME:=SD->MS->(D->MS->Prop)->Prop
abbrev TMT:=SD->MS->(Bool->MS->Prop)->Prop
abbrev TMA:=SD->MS->(List D->MS->Prop)->Prop
structure EndsM where
 nx:SD->MS->Prop
 rt:D->MS->Prop
 bk:SD->MS->Prop:=λ_ _=>False
 ct:SD->MS->Prop:=λ_ _=>False
abbrev TMS:=EndsM->SD->MS->Prop
def mE(K:Ax)[J:Jm](t:TME):TE:=λs H Q=>∃ F z M,Kept J.B J.F0 F H/\RepZ K J.B F H z s M/\∃ R:D->MS->Prop,t z M R/\∀ d v M' F' H',GrowM M M' F H F' H'->R d M'->Rep K F' d v->RepM K F' H' M'->Q v H'
def mT(K:Ax)[J:Jm](t:TMT):TT:=λs H Q=>∃ F z M,Kept J.B J.F0 F H/\RepZ K J.B F H z s M/\∃ R:Bool->MS->Prop,t z M R/\∀ b M' F' H',GrowM M M' F H F' H'->R b M'->RepM K F' H' M'->Q b H'
def mA(K:Ax)[J:Jm](t:TMA):TA:=λs H Q=>∃ F z M,Kept J.B J.F0 F H/\RepZ K J.B F H z s M/\∃ R:List D->MS->Prop,t z M R/\∀ ds vs M' F' H',GrowM M M' F H F' H'->R ds M'->Reps K F' ds vs->RepM K F' H' M'->Q vs H'
structure EndsOkM[J:Jm](K:Ax)(F0:Hp)(ED:EndsM)(E:Ends):Prop where
 nx:∀ z' s' M' F' H',Kept J.B F0 F' H'->ED.nx z' M'->RepZ K J.B F' H' z' s' M'->E.nx s' H'
 rt:∀ d v M' F' H',Kept J.B F0 F' H'->ED.rt d M'->Rep K F' d v->RepM K F' H' M'->(∀ a,a∈au M'->J.B a=none)->E.rt v H'
 bk:∀ z' s' M' F' H',Kept J.B F0 F' H'->ED.bk z' M'->RepZ K J.B F' H' z' s' M'->E.bk s' H'
 ct:∀ z' s' M' F' H',Kept J.B F0 F' H'->ED.ct z' M'->RepZ K J.B F' H' z' s' M'->E.ct s' H'
def mS(K:Ax)[J:Jm](t:TMS):TS:=λE s H=>∃ F0 F z M,Kept J.B F0 F H/\RepZ K J.B F H z s M/\∃ ED:EndsM,t ED z M/\EndsOkM K F0 ED E
structure ME(X:Cx)[Jm](e:Expr)(t:TME):Prop where
 out:PE X e (mE X.K t)
structure MT(X:Cx)[Jm](e:Expr)(t:TMT):Prop where
 out:PT X e (mT X.K t)
structure MW(X:Cx)[Jm](e:Expr)(t:TMT):Prop where
 out:PW X e (mT X.K t)
structure MA(X:Cx)[Jm](es:List Expr)(t:TMA):Prop where
 out:PA X es (mA X.K t)
structure MSt(X:Cx)[Jm](st:Stmt)(t:TMS):Prop where
 out:PS X st (mS X.K t)
structure MSs(X:Cx)[Jm](st:List Stmt)(t:TMS):Prop where
 out:PSs X st (mS X.K t)
section
variable {X:Cx}{a b c e:Expr}{ta tb:TME}{pos:Pos}
def mP(t:TD):TME:=λz M R=>t z λd=>R d M
def mPT(t:TDT):TMT:=λz M R=>t z λd=>R d M
def mPA(t:TDA):TMA:=λz M R=>t z λd=>R d M
theorem ai[J:Jm]{t:TD}(h:WDE X e t):ME X e (mP t):=⟨PE.anti h.out λs H Q q=>by
 obtain⟨F,z,M,k,r,R,h1,h2⟩:=q
 exact⟨J.B,F,z,k,r.rs,_,h1,λd v F' H' g hd rd=>h2 d v M F' H' g.toM hd rd (r.rm.grow g)⟩⟩
theorem bP[J:Jm]{t:TDT}(h:WDT X e t):MT X e (mPT t):=⟨PT.anti h.out λs H Q q=>by
 obtain⟨F,z,M,k,r,R,h1,h2⟩:=q
 exact⟨J.B,F,z,k,r.rs,_,h1,λd F' H' g hd=>h2 d M F' H' g.toM hd (r.rm.grow g)⟩⟩
theorem aB[J:Jm]{es:List Expr}{t:TDA}(h:WDA X es t):MA X es (mPA t):=⟨PA.anti h.out λs H Q q=>by
 obtain⟨F,z,M,k,r,R,h1,h2⟩:=q
 exact⟨J.B,F,z,k,r.rs,_,h1,λd v F' H' g hd rd=>h2 d v M F' H' g.toM hd rd (r.rm.grow g)⟩⟩
def mOp(r:RD2)(ta tb:TME):TME:=λz M R=>ta z M λx M1=>tb z M1 λy M2=>r x y λd=>R d M2
theorem nZ[J:Jm]{e:Expr}{r:R2}{rd:RD2}{ta tb:TME}(L:aR X.K r rd)(h:PE X e (tOp r (mE X.K ta) (mE X.K tb))):ME X e (mOp rd ta tb):=⟨h.anti λs H Q q=>by
 obtain⟨F,z,M,k,rs,R,h1,h2⟩:=q
 refine⟨F,z,M,k,rs,_,h1,λx u M1 F1 H1 g1 hx rx m1=>?_⟩
 refine⟨F1,z,M1,k.growM rs.mb g1,rs.growM k.bh g1 m1,_,hx,λy v M2 F2 H2 g2 hy ry m2=>?_⟩
 exact L x y u v F2 H2 _ Q g2.fh hy (rx.mono g2.ff) ry λd w F3 H3 g3 hd rd=>h2 d w M2 F3 H3 ((g1.trans g2).trans g3.toM) hd rd (m2.grow g3)⟩
theorem oa[J:Jm]{op:Operator}{r:R2}{rd:RD2}(ho:OpR X (binaryOp op) r)(L:aR X.K r rd)(ha:ME X a ta)(hb:ME X b tb):ME X (.BinOp a op b pos) (mOp rd ta tb):=nZ L (mi ho ha.out hb.out)
theorem og[J:Jm](ha:ME X a ta)(hb:ME X b tb)(hs:dY b:=by exact λ_ _=>rfl):ME X (.Subscript a b pos) (mOp rdIx ta tb):=nZ nw (pe_ix mM ha.out hb.out hs)
theorem fM[Jm](ha:ME X a ta)(hb:ME X b tb):ME X (.BinOp a .Add b pos) (mOp rdAdd ta tb):=oa nh nj ha hb
theorem vn[Jm](ha:ME X a ta)(hb:ME X b tb):ME X (.BinOp a .Sub b pos) (mOp rdSub ta tb):=oa mj nn ha hb
def mTst(t:TME):TMT:=λz M R=>t z M λx M1=>match x with| .bl k=>R k M1|_=>False
theorem fN[J:Jm]{op:CmpOp}{r:R2}{rd:RD2}(ho:OpR X (compareOp op) r)(L:aR X.K r rd)(ha:ME X a ta)(hb:ME X b tb)(hm:behindInMarks op b=false):MT X (.Compare a [op] [b] pos) (mTst (mOp rd ta tb)):=⟨(mv ho ha.out hb.out hm).anti λs H Q q=>by
 obtain⟨F,z,M,k,rs,R,h1,h2⟩:=q
 refine⟨F,z,M,k,rs,_,h1,λx u M1 F1 H1 g1 hx rx m1=>?_⟩
 refine⟨F1,z,M1,k.growM rs.mb g1,rs.growM k.bh g1 m1,_,hx,λy v M2 F2 H2 g2 hy ry m2=>?_⟩
 refine L x y u v F2 H2 _ _ g2.fh hy (rx.mono g2.ff) ry λd w F3 H3 g3 hd rd=>?_
 dsimp only at hd
 split at hd
 ·exact⟨_,rep_bl.mp rd,h2 _ M2 F3 H3 ((g1.trans g2).trans g3.toM) hd (m2.grow g3)⟩
 ·exact hd.elim⟩
theorem oh[Jm](ha:ME X a ta)(hb:ME X b tb):MT X (.Compare a [.Lt] [b] pos) (mTst (mOp rdLt ta tb)):=fN mq nu ha hb (nomark _)
theorem iB[Jm](ha:ME X a ta)(hb:ME X b tb):MT X (.Compare a [.Eq] [b] pos) (mTst (mOp rdEq ta tb)):=fN gU ig ha hb (nomark _)
theorem oi[Jm](ha:ME X a ta)(hb:ME X b tb):MT X (.Compare a [.Is] [b] pos) (mTst (mOp (rdIs id) ta tb)):=fN gW ii ha hb (nomark _)
theorem vo[Jm](ha:ME X a ta)(hb:ME X b tb)(hm:behindInMarks .NotIn b=false:=by rfl):MT X (.Compare a [.NotIn] [b] pos) (mTst (mOp (rdIn true) ta tb)):=fN vg vf ha hb hm
variable {tA tB:TMT}{rest:List Expr}
theorem mt_w[Jm](h:MW X a tA):MT X a tA:=⟨PW.pt h.out⟩
theorem vp[Jm](ha:MT X a tA):MW X (.BoolOp .And [a] pos) tA:=⟨qf ha.out⟩
theorem vq[Jm](ha:MT X a tA):MW X (.BoolOp .Or [a] pos) tA:=⟨lL ha.out⟩
def mAnd(tA tB:TMT):TMT:=λz M R=>tA z M λk M1=>if k=true then tB z M1 R else R false M1
def mOr(tA tB:TMT):TMT:=λz M R=>tA z M λk M1=>if k=true then R true M1 else tB z M1 R
theorem vt[J:Jm](ha:MT X a tA)(hb:MW X (.BoolOp .And (b::rest) pos) tB):MW X (.BoolOp .And (a::b::rest) pos) (mAnd tA tB):=⟨(qg ha.out hb.out).anti λs H Q q=>by
 obtain⟨F,z,M,k,rs,R,h1,h2⟩:=q
 refine⟨F,z,M,k,rs,_,h1,λx M1 F1 H1 g1 hx m1=>?_⟩
 cases x with
 |true=>exact⟨F1,z,M1,k.growM rs.mb g1,rs.growM k.bh g1 m1,R,hx,λy M2 F2 H2 g2 hy m2=>h2 y M2 F2 H2 (g1.trans g2) hy m2⟩
 |false=>exact h2 _ M1 F1 H1 g1 hx m1⟩
theorem vw[J:Jm](ha:MT X a tA)(hb:MW X (.BoolOp .Or (b::rest) pos) tB):MW X (.BoolOp .Or (a::b::rest) pos) (mOr tA tB):=⟨(lM ha.out hb.out).anti λs H Q q=>by
 obtain⟨F,z,M,k,rs,R,h1,h2⟩:=q
 refine⟨F,z,M,k,rs,_,h1,λx M1 F1 H1 g1 hx m1=>?_⟩
 cases x with
 |false=>exact⟨F1,z,M1,k.growM rs.mb g1,rs.growM k.bh g1 m1,R,hx,λy M2 F2 H2 g2 hy m2=>h2 y M2 F2 H2 (g1.trans g2) hy m2⟩
 |true=>exact h2 _ M1 F1 H1 g1 hx m1⟩
def mIf(tc:TMT)(ta tb:TME):TME:=λz M R=>tc z M λk M1=>if k=true then ta z M1 R else tb z M1 R
theorem iC[J:Jm]{tc:TMT}(hc:MT X c tc)(ha:ME X a ta)(hb:ME X b tb):ME X (.IfExp c a b pos) (mIf tc ta tb):=⟨(qo hc.out ha.out hb.out).anti λs H Q q=>by
 obtain⟨F,z,M,k,rs,R,h1,h2⟩:=q
 refine⟨F,z,M,k,rs,_,h1,λx M1 F1 H1 g1 hx m1=>?_⟩
 cases x with
 |true=>exact⟨F1,z,M1,k.growM rs.mb g1,rs.growM k.bh g1 m1,R,hx,λd v M2 F2 H2 g2 hy rd m2=>h2 d v M2 F2 H2 (g1.trans g2) hy rd m2⟩
 |false=>exact⟨F1,z,M1,k.growM rs.mb g1,rs.growM k.bh g1 m1,R,hx,λd v M2 F2 H2 g2 hy rd m2=>h2 d v M2 F2 H2 (g1.trans g2) hy rd m2⟩⟩
def mNil:TMA:=λ_ M R=>R [] M
def vx(ta:TME)(tr:TMA):TMA:=λz M R=>ta z M λx M1=>tr z M1 λxs M2=>R (x::xs) M2
theorem bf[J:Jm]:MA X [] mNil:=⟨pa_nil.anti λs H Q q=>by
 obtain⟨F,z,M,k,rs,R,h1,h2⟩:=q
 exact h2 [] [] M F H (GrowM.refl k.fh) h1 (reps_nil.mpr rfl) rs.rm⟩
theorem aS[J:Jm]{e:Expr}{es:List Expr}{te:TME}{t:TMA}(ha:ME X e te)(hr:MA X es t)(hs:zSE X e es:=by rfl):MA X (e::es) (vx te t):=⟨(bn ha.out hr.out hs).anti λs H Q q=>by
 obtain⟨F,z,M,k,rs,R,h1,h2⟩:=q
 refine⟨F,z,M,k,rs,_,h1,λx u M1 F1 H1 g1 hx rx m1=>?_⟩
 refine⟨F1,z,M1,k.growM rs.mb g1,rs.growM k.bh g1 m1,_,hx,λxs us M2 F2 H2 g2 hy ry m2=>?_⟩
 exact h2 _ _ M2 F2 H2 (g1.trans g2) hy (reps_cons.mpr ⟨_,_,rfl,rx.mono g2.ff,ry⟩) m2⟩
def mTup(t:TMA):TME:=λz M R=>t z M λxs M1=>xs.length<=1000/\R (.tup xs) M1
theorem vy[J:Jm]{es:List Expr}{t:TMA}{x1}(h:MA X es t):ME X (.Tuple es x1 pos) (mTup t):=⟨(mF h.out).anti λs H Q q=>by
 obtain⟨F,z,M,k,rs,R,h1,h2⟩:=q
 refine⟨F,z,M,k,rs,_,h1,λds vs M1 F1 H1 g1 hx rx m1=>?_⟩
 have hl:=rx.length
 refine⟨sz (by rw[hl];exact hx.1),λp hp=>?_⟩
 have gn:=Grow.new g1.fh hp (.tup vs)
 exact h2 _ _ M1 _ _ (g1.trans gn.toM) hx.2 (rep_tupS.mpr ⟨p,vs,rfl,az,rx.mono (aO (g1.fh.free hp) _)⟩) (m1.grow gn)⟩
def mLst(t:TMA):TME:=λz M R=>t z M λxs M1=>xs.length<=1000/\∀ p,p ∉ au M1->R (.ptr p) ((p,.lst xs)::M1)
theorem vz[J:Jm]{es:List Expr}{t:TMA}(h:MA X es t):ME X (.List es pos) (mLst t):=⟨(hU h.out).anti λs H Q q=>by
 obtain⟨F,z,M,k,rs,R,h1,h2⟩:=q
 refine⟨F,z,M,k,rs,_,h1,λds vs M1 F1 H1 g1 hx rx m1=>?_⟩
 have hl:=rx.length
 refine⟨sz (by rw[hl];exact hx.1),λp hp=>?_⟩
 exact h2 _ _ _ F1 _ (g1.trans (GrowM.new g1.fh hp)) (hx.2 p λz=>m1.here z hp) (rep_ptr.mpr rfl) (m1.new g1.fh hp ⟨vs,az,rx⟩)⟩
def mCB(r:RDn)(t:TMA):TME:=λz M R=>t z M λds M1=>r ds λd=>R d M1
theorem vA[J:Jm]{x:Str}{p:Pos}{e:Expr}{es:List Expr}{t:TMA}{id:String}{r:List V->Hp->VK->Prop}{rd:RDn}(hc:bx X (.builtin id) r)(L:bZ X.K r rd)(hm:X.mg x=none)(hv:bootBuiltins x=some (.builtin id))(ha:MA X (e::es) t)(hg:Gl X x:=by rfl)(hn:x≠"__name__":=by decide)(c_:zND x:=by decide)
  (he:zSE X e es:=by rfl) (b9:zPL X pos es:=by rfl):ME X (.Call (.Name x p) (e::es) [] pos) (mCB rd t):=⟨(dW hc hg hm hv ha.out hn c_ he b9).anti λs H Q h=>by
 obtain⟨F,z,M,k,rs,R,h1,h2⟩:=h
 refine⟨F,z,M,k,rs,_,h1,λds vs M1 F1 H1 g1 hx rx m1=>?_⟩
 exact L ds vs F1 H1 _ Q g1.fh hx rx λd w F' H' g hd rd=>h2 d w M1 F' H' (g1.trans g.toM) hd rd (m1.grow g)⟩
theorem oj[Jm]{p:Pos}{e:Expr}{t:TMA}(hm:X.mg "len"=none)(ha:MA X [e] t)(hg:Gl X "len":=by rfl)(he:zSE X e []:=by rfl):ME X (.Call (.Name "len" p) [e] [] pos) (mCB rdLen t):=vA gY nA hm PySem.boot_len ha hg (by decide) (by decide) he
theorem vB[J:Jm]{x:Str}{p:Pos}{e:Expr}{es:List Expr}{t:TMA}{T:String}{r:List V->Hp->VK->Prop}{rd:RDn}(hc:bx X (.type T) r)(L:bZ X.K r rd)(hm:X.mg x=none)(hv:bootBuiltins x=some (.type T))(ha:MA X (e::es) t)(hg:Gl X x:=by rfl)(hn:x≠"__name__":=by decide)(c_:zND x:=by decide)
  (he:zSE X e es:=by rfl) (b9:zPL X pos es:=by rfl):ME X (.Call (.Name x p) (e::es) [] pos) (mCB rd t):=⟨(mK hc hg hm hv ha.out hn c_ he b9).anti λs H Q h=>by
 obtain⟨F,z,M,k,rs,R,h1,h2⟩:=h
 refine⟨F,z,M,k,rs,_,h1,λds vs M1 F1 H1 g1 hx rx m1=>?_⟩
 exact L ds vs F1 H1 _ Q g1.fh hx rx λd w F' H' g hd rd=>h2 d w M1 F' H' (g1.trans g.toM) hd rd (m1.grow g)⟩
theorem ol[Jm]{p:Pos}{t:TMA}(hm:X.mg "int"=none)(ha:MA X [e] t)(hg:Gl X "int":=by rfl)(he:zSE X e []:=by rfl):ME X (.Call (.Name "int" p) [e] [] pos) (mCB rdInt t):=vB nE nF hm PyProof.Rows.boot_int ha hg (by decide) (by decide) he
def dD(M:MS)(d:D)(x:Str)(fs:List (Str × D)):Prop:=match d with| .ptr a=>mget M a=some (.ins x fs)| .obj y gs=>y=x/\gs=fs|_=>False
def mFld(x f:Str)(te:TME):TME:=λz M R=>te z M λd M1=>∃ fs,dD M1 d x fs/\∃ d',fs.lookup f=some d'/\R d' M1
theorem iD{K:Ax}{F H:Hp}{M:MS}{d:D}{v:V}{x:Str}{fs:List (Str × D)}(fh:Same F H)(rm:RepM K F H M)(rd:Rep K F d v)(h:dD M d x fs):∃ a C dx ws,v= .ref a/\nsIn K mainGlobals x=some (some (.ref C))/\H a=some (.ins C dx ws)/\RepF K F fs ws:=by
 unfold dD at h
 split at h
 ·rename_i a
  obtain⟨C,dx,ws,n,h1,h2⟩:=rm.ok _ _ (bB h)
  exact⟨a,C,dx,ws,rep_ptr.mp rd,n,h1,h2⟩
 ·obtain⟨rfl,rfl⟩:=h
  obtain⟨a,C,dx,ws,e,n,h1,h2⟩:=rep_obj.mp rd
  exact⟨a,C,dx,ws,e,n,fh _ _ h1,h2⟩
 ·exact h.elim
theorem aV[J:Jm]{x f:Str}(hA:ClsA X.K x f)(he:ME X e ta)(hb:attributeBase e f X.env (eval e X.env)=eval e X.env:=by rfl):ME X (.Attribute e f pos) (mFld x f ta):=⟨(mB he.out hb).anti λs H Q q=>by
 obtain⟨C,hn,hc,hf⟩:=hA
 obtain⟨F,z,M,k,rs,R,h1,h2⟩:=q
 refine⟨F,z,M,k,rs,_,h1,λd u M1 F1 H1 g1 hx rx m1=>?_⟩
 obtain⟨fs,hi,d',hl,hR⟩:=hx
 obtain⟨a,C',dx,ws,rfl,ge,hH,rf⟩:=iD g1.fh m1 rx hi
 rw[hn] at ge
 cases ge
 obtain⟨v,l,rv⟩:=rf.look hl
 exact⟨a,C,dx,ws,v,rfl,hH,hc,hf,l,h2 d' v M1 F1 H1 g1 hR rv m1⟩⟩
end
abbrev XDM:=Str->List (Str × D)->MS->Prop
abbrev SpM:=List D->MS->(D->MS->Prop)->XDM->Prop
def lSpM(K:Ax)(S:SpM):Sp:=λvs H Q E=>∃ F ds M,Same F H/\Reps K F ds vs/\RepM K F H M/\∃ (R:D->MS->Prop) (RX:XDM),S ds M R RX/\(∀ d v M' F' H',GrowM M M' F H F' H'->R d M'->Rep K F' d v->RepM K F' H' M'->Q v H')/\
 ∀ x fs C od M' F' H',GrowM M M' F H F' H'->RX x fs M'->ErrD K F' x fs C od->RepM K F' H' M'->E (.ref C) od H'
abbrev CalMM(P:Program)(w:World)(K:Ax)(mg:Str->Option Value)(base:Heap)(n:Nat)(x:Str)(ps:List Str)(S:SpM):Prop:=Cal P w K mg base n x ps (lSpM K S)
def ofX(S:SpX):SpM:=λds M R RX=>S ds (λd=>R d M) λx fs=>RX x fs M
def ofD(S:SpD):SpM:=λds M R _=>S ds λd=>R d M
theorem vC{K:Ax}{S:SpD}{vs:List V}{H:Hp}{Q:VK}{E:XK}(h:lSpM K (ofD S) vs H Q E):lSp K S vs H Q E:=by
 obtain⟨F,ds,M,fh,rs,rm,R,RX,hS,q,qx⟩:=h
 exact⟨F,ds,fh,rs,_,hS,λd v F' H' g hd rd=>q d v M F' H' g.toM hd rd (rm.grow g)⟩
section
variable {P:Program}{w:World}{K:Ax}{mg:Str->Option Value}{base:Heap}{n:Nat}{x:Str}{ps:List Str}
theorem CalD.toM{S:SpD}(C:CalD P w K mg base n x ps S):CalMM P w K mg base n x ps (ofD S):=by
 obtain⟨f,fd,F,hb,hk,hm⟩:=C
 exact⟨f,fd,F.imp λvs H Q E h=>vC h,hb,hk,hm⟩
def CalMth(P:Program)(w:World)(K:Ax)(mg:Str->Option Value)(base:Heap)(n:Nat)(x m:Str)(ps:List Str)(sp:Sp):Prop:=
 ∃ C f fd,nsIn K mainGlobals x=some (some (.ref C))/\Cls K C/\Meth K C m f/\FnOk P w K mg base (CX1 P w) n f fd ps sp/\Binds K fd ps []
theorem Cal.mono{sp:Sp}{n':Nat}(h:Cal P w K mg base n x ps sp)(hn:n<=n'):Cal P w K mg base n' x ps sp:=by
 obtain⟨f,fd,F,h⟩:=h
 exact⟨f,fd,F.mono hn,h⟩
theorem Cal.imp{sp y7:Sp}(h:Cal P w K mg base n x ps sp)(i:∀ vs H Q E,y7 vs H Q E->sp vs H Q E):Cal P w K mg base n x ps y7:=by
 obtain⟨f,fd,F,h⟩:=h
 exact⟨f,fd,F.imp i,h⟩
theorem CalMth.imp{m:Str}{sp y7:Sp}(h:CalMth P w K mg base n x m ps sp)(i:∀ vs H Q E,y7 vs H Q E->sp vs H Q E):CalMth P w K mg base n x m ps y7:=by
 obtain⟨C,f,fd,h1,h2,h3,h4,h5⟩:=h
 exact⟨C,f,fd,h1,h2,h3,h4.imp i,h5⟩
end
def XOkM(X:Cx)[J:Jm]:Prop:=∀ (σ:L2.St) (z:SD) (M:MS) (F H:Hp) (s:Shared) (e C:Addr) (od:Option Addr) (x:Str) (fs:List (Str × D)),Inv X [] σ H s->Kept J.B J.F0 F H->RepZ X.K J.B F H z σ M->J.RM z M x fs->ErrD X.K F x fs C od->Exd X H s e C od->X.xe (.ref e) s
def EX(X:Cx)[J:Jm](z:SD)(σ:L2.St):XK:=λCv od H'=>∃ x fs C M' F',Cv= .ref C/\Kept J.B J.F0 F' H'/\RepZ X.K J.B F' H' z σ M'/\J.RM z M' x fs/\ErrD X.K F' x fs C od
theorem XOkM.out{X:Cx}[J:Jm](hx:XOkM X)(hex:X.ex=[]){pins:List (Addr × Obj)}{σ:L2.St}{z:SD}{H:Hp}{s s':Shared}{ev:Value}(I:Inv X pins σ H s)
  (h:CX1 X.prog X.w X.stack H s (EX X z σ) ev s'):X.xe ev s':=by
 obtain⟨e,C,od,T,H',rfl,F_,hb,un,hok,Ga,ne,nT,He,HT,x,fs,C',M',F',hC,kk,rr,hR,er⟩:=h
 cases hC
 have I':Inv X pins σ H' s':=I.call' F_ un hok hb (λb z=>absurd z (by simp))
 exact hx σ z M' F' H' s' e C od x fs (Inv.nopins I') kk rr hR er ⟨He,ce I hex ne,pn_free I ne,.inr ⟨T,Ga,ce I hex nT,HT,pn_free I nT⟩⟩
section
variable {X:Cx}[J:Jm]{a b c e o:Expr}{ta tb te:TME}{pos p apos cpos:Pos}{n m:Nat}{ps:List Str}{S:SpM}{x:Str}{es:List Expr}{t:TMA}
def vD(S:SpM)(t:TMA):TME:=λz M R=>t z M λds M1=>S ds M1 R λx fs M'=>J.RM z M' x fs
theorem iE{σ:L2.St}{z:SD}{M M1:MS}{F H F1 H1:Hp}{ds:List D}{vs:List V}{Q:VK}{R:D->MS->Prop}(k:Kept J.B J.F0 F H)(rs:RepZ X.K J.B F H z σ M)(g1:GrowM M M1 F H F1 H1)(m1:RepM X.K F1 H1 M1)(rx:Reps X.K F1 ds vs)
  (hS:S ds M1 R λx fs M'=>J.RM z M' x fs) (h2:∀ d v M' F' H',GrowM M M' F H F' H'->R d M'->Rep X.K F' d v->RepM X.K F' H' M'->Q v H'):lSpM X.K S vs H1 Q (EX X z σ):=
 ⟨F1,ds,M1,g1.fh,rx,m1,R,_,hS,λd v M' F' H' g hd rd m'=>h2 d v M' F' H' (g1.trans g) hd rd m',λy fs C od M' F' H' g hR er m'=>⟨y,fs,C,M',F',rfl,(k.growM rs.mb g1).growM (rs.growM k.bh g1 m1).mb g,(rs.growM k.bh g1 m1).growM (k.growM rs.mb g1).bh g m',hR,er⟩⟩
theorem aT(C:CalMM X.prog X.w X.K X.mg X.base n x ps S)(hx:XOkM X)(hr:Room m X.A)(ha:MA X (e::es) t)(hex:X.ex=[]:=by rfl)(hg:Gl X x:=by rfl)(hn:n<=m:=by decide)(c_:zND x:=by decide)
  (he:zSE X e es:=by rfl) (b9:zPL X pos es:=by rfl):
  ME X (.Call (.Name x p) (e::es) [] pos) (vD S t):=by
 obtain⟨f,fd,F,hb,hk,hm⟩:=C
 refine⟨λpins s σ H Q I h=>?_⟩
 obtain⟨Fr,z,M,k,rs,R,h1,h2⟩:=h
 refine wpAny_Call_Name_kw (bY I hg hm ?_ c_)
 refine callWith_K (h₀:=X.base) I.ok.mod.kin hk (thn (ha.out pos pins s σ H (λvs H1=>lSpM X.K S vs H1 Q (EX X z σ)) I ⟨Fr,z,M,k,rs,_,h1,λds vs M1 F1 H1 g1 hx rx m1=>iE k rs g1 m1 rx hx h2⟩) λus s1 ⟨vs,H1,I1,r,q⟩=>⟨I1.kIn,?_⟩) he b9
 exact fH F (hr.mono hn) hb (λe s' hq=>hx.out hex I1 hq) I1 r q
def om(cs:List Str)(m:Str)(S:Str->SpM)(to:TME)(t:TMA):TME:=λz M R=>to z M λd M1=>∃ x,x∈cs/\∃ fs,dD M1 d x fs/\fs.lookup m=none/\t z M1 λds M2=>S x (d::ds) M2 R λx fs M'=>J.RM z M' x fs
theorem aY{cs:List Str}{nm:Str}{S:Str->SpM}{pl:Sem Bool}(C:∀ x,x∈cs->CalMth X.prog X.w X.K X.mg X.base n x nm ps (lSpM X.K (S x)))(hx:XOkM X)(hr:Room m X.A)(ho:ME X o te)(ha:MA X (e::es) t)(hex:X.ex=[]:=by rfl)(hn:n<=m:=by decide)
  (m9:zSE X e es:=by rfl) (b9:zPL X pos es:=by rfl)
  (ht:eval (.Call (.Attribute o nm apos) (e::es) [] pos) X.env=(do
   let ov <- eval o X.env
   standAt apos.atName
   let (f,first) <- holding [ov] (getMethod ov nm pl)
   callWith pos f first (backTo pos (starEach (e::es) X.env)) (backToKw pos (keywordEach [] X.env))):=by rfl):
  ME X (.Call (.Attribute o nm apos) (e::es) [] pos) (om cs nm S te t):=by
 refine⟨λpins s σ H Q I h=>?_⟩
 obtain⟨Fr,z,M,k,rs,R,h1,h2⟩:=h
 refine methodCall_KW (pl:=pl) (thn (ho.out pins s σ H (λv H1=>∃ d M1 F1,GrowM M M1 Fr H F1 H1/\Rep X.K F1 d v/\RepM X.K F1 H1 M1/\∃ x,x∈cs/\∃ fs,dD M1 d x fs/\fs.lookup nm=none/\t z M1 λds M2=>S x (d::ds) M2 R λx fs M'=>J.RM z M' x fs) I ⟨Fr,z,M,k,rs,_,h1,λd v M1 F1 H1 g1 hd rd m1=>⟨d,M1,F1,g1,rd,m1,hd⟩⟩) λu s1 ⟨v,H1,I1,rv,d,M1,F1,g1,rd,m1,x,Gd,fs,hi,hl,hq⟩=>?_) ht
 obtain⟨C',f,fd,hns,i6,Ew,F,hb⟩:=C x Gd
 obtain⟨a,C2,dx,ws,rfl,t5,hH,rf⟩:=iD g1.fh m1 rd hi
 rw[hns] at t5
 cases t5
 obtain rfl:u=Value.ref a:=rv
 refine mz I1 hH i6 Ew (rf.none hl) ?_
 refine callWith_K (first:=[.ref a]) (h₀:=X.base) I.ok.mod.kin Ew.kp (thn (ha.out pos pins s1 σ H1 (λvs H2=>lSpM X.K (S x) (.ref a::vs) H2 Q (EX X z σ)) I1 ⟨F1,z,M1,k.growM rs.mb g1,rs.growM k.bh g1 m1,_,hq,λds vs M2 F2 H2 g2 hx rx m2=>iE k rs (g1.trans g2) m2 (reps_cons.mpr ⟨_,_,rfl,rd.mono g2.ff,rx⟩) hx h2⟩) λus s2 ⟨vs,H2,I2,r,q2⟩=>⟨I2.kIn,?_⟩) m9 b9
 exact fH (us:= .ref a::us) (vs:= .ref a::vs) F (hr.mono hn) hb (λe s' hq=>hx.out hex I2 hq) I2 (.cons rfl r) q2
theorem cP{cs:List Str}{nm:Str}{S:Str->SpM}{pl:Sem Bool}(C:∀ x,x∈cs->CalMth X.prog X.w X.K X.mg X.base n x nm ps (lSpM X.K (S x)))(hx:XOkM X)(hr:Room m X.A)(ho:ME X o te)(hex:X.ex=[]:=by rfl)(hn:n<=m:=by decide)
  (ht:eval (.Call (.Attribute o nm apos) [] [] pos) X.env=(do
   let ov <- eval o X.env
   standAt apos.atName
   let (f,first) <- holding [ov] (getMethod ov nm pl)
   callWith pos f first (backTo pos (starEach [] X.env)) (backToKw pos (keywordEach [] X.env))):=by rfl):
  ME X (.Call (.Attribute o nm apos) [] [] pos) (om cs nm S te mNil):=by
 refine⟨λpins s σ H Q I h=>?_⟩
 obtain⟨Fr,z,M,k,rs,R,h1,h2⟩:=h
 refine methodCall_KW (pl:=pl) (thn (ho.out pins s σ H (λv H1=>∃ d M1 F1,GrowM M M1 Fr H F1 H1/\Rep X.K F1 d v/\RepM X.K F1 H1 M1/\∃ x,x∈cs/\∃ fs,dD M1 d x fs/\fs.lookup nm=none/\S x [d] M1 R λx fs M'=>J.RM z M' x fs) I ⟨Fr,z,M,k,rs,_,h1,λd v M1 F1 H1 g1 hd rd m1=>⟨d,M1,F1,g1,rd,m1,hd⟩⟩) λu s1 ⟨v,H1,I1,rv,d,M1,F1,g1,rd,m1,x,Gd,fs,hi,hl,hq⟩=>?_) ht
 obtain⟨C',f,fd,hns,i6,Ew,F,hb⟩:=C x Gd
 obtain⟨a,C2,dx,ws,rfl,t5,hH,rf⟩:=iD g1.fh m1 rd hi
 rw[hns] at t5
 cases t5
 obtain rfl:u=Value.ref a:=rv
 refine mz I1 hH i6 Ew (rf.none hl) ?_
 refine callWith_K0 (first:=[.ref a]) I1.kIn Ew.kp (fH (E:=EX X z σ) (us:=[.ref a]) (vs:=[.ref a]) F (hr.mono hn) hb (λe s' hq=>hx.out hex I1 hq) I1 (.cons rfl .nil) ?_)
 exact iE k rs g1 m1 (eF rd) hq h2
theorem make_of{C:Addr}{S:SiD}{x:Str}{σ:L2.St}{z:SD}{M M1:MS}{F H F1 H1:Hp}{ds:List D}{vs:List V}{a dx:Addr}{Q:VK}{E:XK}{T:List (Str × D)->Prop}(g1:GrowM M M1 F H F1 H1)(m1:RepM X.K F1 H1 M1)(rx:Reps X.K F1 ds vs)(hS:S ds T)
  (ha:H1 a=none) (q_:H1 dx=none) (g6:dx≠a) (q:∀ fs ws dx F' H',Grow F1 H1 F' H'->T fs->H' a=some (.ins C dx ws)->F' a=none->RepF X.K F' fs ws->Q (.ref a) H'):
  lSi X.K C S (.ref a::(vs++[])) (upd (upd H1 dx (.own a)) a (.ins C dx [])) (λv H2=>v= .non/\Q (.ref a) H2) E:=
 ⟨a,dx,vs,H1,F1,ds,by rw[A8],rfl,ha,q_,g6,g1.fh,rx,_,hS,λfs ws v_ F' H' g hR d8 f_ rf=>⟨rfl,q fs ws v_ F' H' g hR d8 f_ rf⟩⟩
def vE(x:Str)(S:SiD)(t:TMA):TME:=λz M R=>t z M λds M1=>S ds λfs=>R (.obj x fs) M1
theorem fO{S:SiD}(M:CalM X.prog X.w X.K X.mg X.base n x ps S)(hr:Room m X.A)(ha:MA X (e::es) t)(hg:Gl X x:=by rfl)(hn:n+1<=m:=by decide)(c_:zND x:=by decide)
  (he:zSE X e es:=by rfl) (b9:zPL X pos es:=by rfl):
  ME X (.Call (.Name x p) (e::es) [] pos) (vE x S t):=by
 obtain⟨C,f,fd,hns,j7,mk,F,hb⟩:=M
 refine⟨(hV mk F (hr.mono hn) hg j7 hb .nil el ha.out c_ he b9).anti λs H Q q=>?_⟩
 obtain⟨F,z,M,k,rs,R,h1,h2⟩:=q
 refine⟨F,z,M,k,rs,_,h1,λds vs M1 F1 H1 g1 hx rx m1=>?_⟩
 intro a dx ha q_ g6
 refine make_of (σ:=s) (z:=z) (x:=x) g1 m1 rx hx ha q_ g6 λfs ws dx F' H' g hR d8 f_ rf=>?_
 have s1:Same F' (upd F' a (.ins C dx ws)):=aO f_ _
 have g2:Grow F1 H1 (upd F' a (.ins C dx ws)) H':=⟨g.ff.trans s1,λb o q=>by
  by_cases hb:b=a
  ·subst hb;rw[az] at q;cases q;exact d8
  ·rw[ak hb] at q;exact g.fh b o q,g.hh,λb q1 q2=>by
  by_cases hb:b=a
  ·subst hb;exact absurd ha q2
  ·rw[ak hb];exact g.out b q1 q2⟩
 exact h2 (.obj x fs) (.ref a) M1 (upd F' a (.ins C dx ws)) H' (g1.trans g2.toM) hR (rep_obj.mpr ⟨a,C,dx,ws,rfl,hns,az,RepF.mono s1 fs ws rf⟩) (m1.grow g2)
def vF(x:Str)(S:SiD)(t:TMA):TME:=λz M R=>t z M λds M1=>S ds λfs=>∀ a,a ∉ au M1->R (.ptr a) ((a,.ins x fs)::M1)
theorem vG{S:SiD}(M:CalM X.prog X.w X.K X.mg X.base n x ps S)(hr:Room m X.A)(ha:MA X (e::es) t)(hg:Gl X x:=by rfl)(hn:n+1<=m:=by decide)(c_:zND x:=by decide)
  (he:zSE X e es:=by rfl) (b9:zPL X pos es:=by rfl):
  ME X (.Call (.Name x p) (e::es) [] pos) (vF x S t):=by
 obtain⟨C,f,fd,hns,j7,mk,F,hb⟩:=M
 refine⟨(hV mk F (hr.mono hn) hg j7 hb .nil el ha.out c_ he b9).anti λs H Q q=>?_⟩
 obtain⟨F,z,M,k,rs,R,h1,h2⟩:=q
 refine⟨F,z,M,k,rs,_,h1,λds vs M1 F1 H1 g1 hx rx m1=>?_⟩
 intro a dx ha q_ g6
 refine make_of (σ:=s) (z:=z) (x:=x) g1 m1 rx hx ha q_ g6 λfs ws dx F' H' g hR d8 f_ rf=>?_
 have na:a ∉ au M1:=λz=>m1.here z ha
 have m2:=m1.grow g
 refine h2 (.ptr a) (.ref a) _ F' H' (g1.trans ⟨g.ff,g.fh,λb o _ q=>g.hh b o q,λb _ q1 q2=>g.out b q1 q2,λb q=>?_⟩) (hR a na) (rep_ptr.mpr rfl) ⟨Bg.mpr ⟨na,m2.nd⟩,λb o q=>?_,λb q=>?_⟩
 ·rcases AA.mp q with q|q
  ·exact .inr (by rw[q];exact ha)
  ·exact .inl q
 ·rcases AA.mp q with q|q
  ·cases q;exact⟨C,dx,ws,hns,d8,rf⟩
  ·exact m2.ok b o q
 ·rcases AA.mp q with q|q
  ·rw[q];exact f_
  ·exact m2.fr b q
end
section
variable {X:Cx}{x:Str}{e:Expr}{es:List Expr}{t:TA}{p cpos pos:Pos}{n m:Nat}{ps:List Str}{S:SiD}
def fP(X:Cx)(σ:L2.St)(F1 H1:Hp)(x:Str)(fs:List (Str × D)):Prop:=∀ F' H' s' e C od,Inv X [] σ H' s'->Grow F1 H1 F' H'->ErrD X.K F' x fs C od->Exd X H' s' e C od->X.xe (.ref e) s'
theorem vH(M:CalE X.prog X.w X.K X.mg X.base n x ps S)(hr:Room m X.A)(hc:X.calm=true)(ha:PA X (e::es) t)(hex:X.ex=[]:=by rfl)(hg:Gl X x:=by rfl)(hn:n+1<=m:=by decide)(c_:zND x:=by decide)
  (he:zSE X e es:=by rfl) (b9:zPL X cpos es:=by rfl):
  PS X (.Raise (some (.Call (.Name x p) (e::es) [] cpos)) none pos) (λ_ σ H=>t σ H λvs H1=>vs.length<=1000/\∃ F1 ds,Same F1 H1/\Reps X.K F1 ds vs/\∃ T:List (Str × D)->Prop,S ds T/\∀ fs,T fs->fP X σ F1 H1 x fs):=by
 obtain⟨C,N,bm,f,fd,k,hi,DY,Fn,hb⟩:=M
 intro pins s σ H D I h
 obtain⟨nm,q,bs,sn,sub,ab,col,dd,k0,k1,k2,k3,k5,lk⟩:=k.obj
 refine mU (nm:=nm) (q:=q) (C:=C) (N:=N) (bs:=bs) (bm:=bm) (hdct:=true) (sn:=sn) (sub:=sub) (ab:=ab) (col:=col) (dd:=dd) (k0:=k0) (k1:=k1) (k2:=k2) (k3:=k3) (k5:=k5) (newId:="ValueError.__new__") k.base (I.ok.hd hc) ?_
 refine wpAny_Call_Name_kw (bY I hg k.mg ?_ c_)
 refine callWith_K (h₀:=X.base) I.ok.mod.kin k.kp (thn (ha cpos pins s σ H _ I h) λus s1 ⟨vs,H1,I1,r,hl,F1,ds,Ge,rx,T,hS,hT⟩=>⟨I1.kIn,?_⟩) he b9
 have hC:=I1.kIn _ _ lk
 have Js:us.length<=sizeLine:=by rw[<- L2.Vals.length r];exact sz hl
 refine sE (g:=s1.gens) (d:=s1.drawn) (t:=s1.toks) (os:=s1.os) (rest:=us) I1.kIn (tail_of_in I1.kIn k.tail) hC hi (beq_iff_eq.mp DY) (λh' ea hm=>?_) Js
 have I2:=Inv.newx I1 hex hm
 have r2:Vals (V.ref ea::vs) (Value.ref ea::us):= .cons rfl r
 have He:H1 ea=none:=fJ I1.hok hm.new
 have n8:lEi X.K C S (V.ref ea::vs) (upd H1 ea (XN ea C none)) (λv H'=>v= .non/\∃ fs od F',Grow F1 H1 F' H'/\fP X σ F1 H1 x fs/\H' ea=some (XN ea C od)/\F' ea=none/\ErrF X.K F' fs od) (λ_ _ _=>False):=
  ⟨ea,vs,H1,F1,ds,rfl,rfl,He,Ge,rx,_,hS,λfs od F' H' g hR h1 h2 h3=>⟨rfl,fs,od,F',g,hT fs hR,h1,h2,h3⟩⟩
 have a_:(Value.ref ea::us).length=ps.length:=by rw[<- L2.Vals.length r2];exact Fn.len _ _ _ _ n8
 have f9:=hb {s1 with heap:=h'} (Value.ref ea::us) I2.kIn (by rw[A8];exact a_)
 rw[A8] at f9
 refine wpAny_call (codeAny_mono (Fn.run _ X.stack _ _ ⟨Value.ref ea::us,[]⟩ (Value.ref ea::us) _ _ _ ((hr.mono hn).make C us []) (I2.env0.make C us []) f9 r2 n8) λrr s' hq=>?_)
 cases rr with
 |error e'=>exact(el (X:=X) pins σ _ _ e' s' I2 hq:X.xe e' s')
 |ok fl=>
  cases fl with
  |next=>exact False.elim hq
  |brk=>exact False.elim hq
  |cont=>exact False.elim hq
  |ret u=>
   obtain⟨v,H',I3,rv,rfl,fs,od,F',g,hR,s9,Jt,er⟩:=I2.after hq
   obtain rfl:u=Value.none:=rv
   refine⟨rfl,?_⟩
   have e0:X.s₀.heap.get? ea=none:=ce I1 hex hm.new
   have I4:=Inv.drop I3 s9 e0
   obtain⟨ta,sl,l_⟩:=XN.get I3.hok s9
   have g4:Grow F1 H1 F' (del H' ea):=⟨g.ff,λb o q=>by
    have:b≠ea:=λz=>by rw[z,Jt] at q;cases q
    rw[bJ this];exact g.fh b o q,λb o q=>by
    have:b≠ea:=λz=>by rw[z,He] at q;cases q
    rw[bJ this];exact g.hh b o q,g.out⟩
   refine⟨ea,ta,od,sl,rfl,I3.kIn _ _ lk,l_,?_⟩
   exact hR F' (del H' ea) s' ea C od (Inv.nopins I4) g4 ⟨k.ns,er⟩ ⟨eL,e0,pn_free I1 hm.new,.inl ⟨sl,_,l_,rfl⟩⟩
theorem vI(h:∃ C N bm,ErrK X.K X.mg x C N bm/\ErrN X.K N)(hc:X.calm=true)(ha:PA X (e::es) t)(hex:X.ex=[]:=by rfl)(hg:Gl X x:=by rfl)(c_:zND x:=by decide)
  (he:zSE X e es:=by rfl) (b9:zPL X cpos es:=by rfl):
  PS X (.Raise (some (.Call (.Name x p) (e::es) [] cpos)) none pos) (λ_ σ H=>t σ H λvs H1=>vs.length<=1000/\∃ F1,Same F1 H1/\fP X σ F1 H1 x []):=by
 obtain⟨C,N,bm,k,kn⟩:=h
 intro pins s σ H D I h
 obtain⟨nm,q,bs,sn,sub,ab,col,dd,k0,k1,k2,k3,k5,lk⟩:=k.obj
 refine mU (nm:=nm) (q:=q) (C:=C) (N:=N) (bs:=bs) (bm:=bm) (hdct:=true) (sn:=sn) (sub:=sub) (ab:=ab) (col:=col) (dd:=dd) (k0:=k0) (k1:=k1) (k2:=k2) (k3:=k3) (k5:=k5) (newId:="ValueError.__new__") k.base (I.ok.hd hc) ?_
 refine wpAny_Call_Name_kw (bY I hg k.mg ?_ c_)
 refine callWith_K (h₀:=X.base) I.ok.mod.kin k.kp (thn (ha cpos pins s σ H _ I h) λus s1 ⟨vs,H1,I1,r,hl,F1,Ge,hR⟩=>⟨I1.kIn,?_⟩) he b9
 have hC:=I1.kIn _ _ lk
 obtain⟨hp,gg,dr,tk,os⟩:=s1
 refine wpAny_call_exc_subT PySem.F.excBase_ValueError (tail_of_in I1.kIn k.tail) hC (.of_isNs (isNs_of_in I1.kIn kn.ok)) (nsMap_none_of_in I1.kIn kn.ok kn.no) (λh' ea hm=>?_) (by show us.length<=_;rw[<- L2.Vals.length r];exact sz hl)
 obtain⟨ta,h1,h2,h3⟩:=hm.there
 have I2:Inv X pins σ H1 ⟨h',gg,dr,tk,os⟩:=I1.kept (t':=tk) hm.keeps
 refine⟨ea,ta,none,#[],rfl,hm.keeps _ _ hC,h1,?_⟩
 exact hR F1 H1 _ ea C none (Inv.nopins I2) (Grow.refl Ge) ⟨k.ns,[],repf_nil.mpr rfl,.inl ⟨rfl,rfl⟩⟩ ⟨fJ I1.hok hm.new,ce I1 hex hm.new,pn_free I1 hm.new,.inl ⟨#[],_,h1,rfl⟩⟩
end
section
variable {X:Cx}[J:Jm]{x:Str}{e:Expr}{es:List Expr}{t:TMA}{p cpos pos:Pos}{n m:Nat}{ps:List Str}{S:SiD}
def vJ(x:Str)(S:SiD)(t:TMA):TMS:=λ_ z M=>t z M λds M1=>ds.length<=1000/\S ds λfs=>J.RM z M1 x fs
theorem oq{σ:L2.St}{z:SD}{M M1:MS}{F H F1 H1:Hp}{fs:List (Str × D)}(hx:XOkM X)(k:Kept J.B J.F0 F H)(rs:RepZ X.K J.B F H z σ M)(g1:GrowM M M1 F H F1 H1)(m1:RepM X.K F1 H1 M1)(hR:J.RM z M1 x fs):fP X σ F1 H1 x fs:=λF' H' s' e C od I g er ex=>
 hx σ z M1 F' H' s' e C od x fs I ((k.growM rs.mb g1).grow g) ((rs.growM k.bh g1 m1).growM (k.growM rs.mb g1).bh g.toM (m1.grow g)) hR er ex
theorem iF(M:CalE X.prog X.w X.K X.mg X.base n x ps S)(hr:Room m X.A)(hx:XOkM X)(hc:X.calm=true)(ha:MA X (e::es) t)(hex:X.ex=[]:=by rfl)(hg:Gl X x:=by rfl)(hn:n+1<=m:=by decide)(c_:zND x:=by decide)
  (he:zSE X e es:=by rfl) (b9:zPL X cpos es:=by rfl):
  MSt X (.Raise (some (.Call (.Name x p) (e::es) [] cpos)) none pos) (vJ x S t):=⟨(vH M hr hc ha.out hex hg hn c_ he b9).anti λE s H q=>by
 obtain⟨F0,F,z,M,k,rs,ED,h,ee⟩:=q
 exact⟨F,z,M,k.kf,rs,_,h,λds vs M1 F1 H1 g1 e8 rx m1=>⟨by rw[rx.length];exact e8.1,F1,ds,g1.fh,rx,_,e8.2,λfs hR=>oq hx k.kf rs g1 m1 hR⟩⟩⟩
def vK(x:Str)(t:TMA):TMS:=λ_ z M=>t z M λds M1=>ds.length<=1000/\J.RM z M1 x []
theorem vL(h:∃ C N bm,ErrK X.K X.mg x C N bm/\ErrN X.K N)(hx:XOkM X)(hc:X.calm=true)(ha:MA X (e::es) t)(hex:X.ex=[]:=by rfl)(hg:Gl X x:=by rfl)(c_:zND x:=by decide)
  (he:zSE X e es:=by rfl) (b9:zPL X cpos es:=by rfl):
  MSt X (.Raise (some (.Call (.Name x p) (e::es) [] cpos)) none pos) (vK x t):=⟨(vI h hc ha.out hex hg c_ he b9).anti λE s H q=>by
 obtain⟨F0,F,z,M,k,rs,ED,h,ee⟩:=q
 exact⟨F,z,M,k.kf,rs,_,h,λds vs M1 F1 H1 g1 e8 rx m1=>⟨by rw[rx.length];exact e8.1,F1,g1.fh,oq hx k.kf rs g1 m1 e8.2⟩⟩⟩
end
section
variable {X:Cx}[J:Jm]{a b c e:Expr}{ta tb tc te:TME}{pos:Pos}{st:Stmt}{rest:List Stmt}{t u:TMS}
def vM:TMS:=λE z M=>E.nx z M
def mSeq(t u:TMS):TMS:=λE z M=>t {E with nx:=u E} z M
theorem bE:MSs X [] vM:=⟨pss_nil.anti λE s H q=>by
 obtain⟨F0,F,z,M,k,rs,ED,h,e⟩:=q
 exact e.nx z s M F H k h rs⟩
theorem ay(h1:MSt X st t)(h2:MSs X rest u):MSs X (st::rest) (mSeq t u):=⟨(dR h1.out h2.out).anti λE s H q=>by
 obtain⟨F0,F,z,M,k,rs,ED,h,e⟩:=q
 exact⟨F0,F,z,M,k,rs,{ED with nx:=u ED},h,⟨λz' s' M' F' H' k' hz r'=>⟨F0,F',z',M',k',r',ED,hz,e⟩,e.rt,e.bk,e.ct⟩⟩⟩
theorem aG(h1:MSt X st t):MSs X [st] t:=⟨lN h1.out⟩
def mRet(te:TME):TMS:=λE z M=>te z M E.rt
theorem aP(he:ME X e te):MSt X (.Return (some e) pos) (mRet te):=⟨(lQ he.out).anti λE s H q=>by
 obtain⟨F0,F,z,M,k,rs,ED,h,e⟩:=q
 exact⟨F,z,M,k.kf,rs,_,h,λd v M' F' H' g hd rd m'=>e.rt d v M' F' H' (k.growM rs.mb g) hd rd m' (rs.growM k.bh g m').mb⟩⟩
def vN(te:TME):TMS:=λE z M=>te z M λ_ M1=>E.nx z M1
theorem bS(he:ME X e te)(hs:swapsWith e none pos.line X.env=pure false:=by rfl):MSt X (.Expr e pos) (vN te):=⟨(lP he.out hs).anti λE s H q=>by
 obtain⟨F0,F,z,M,k,rs,ED,h,e⟩:=q
 exact⟨F,z,M,k.kf,rs,_,h,λd v M' F' H' g hd rd m'=>e.nx z s M' F' H' (k.growM rs.mb g) hd (rs.growM k.bh g m')⟩⟩
def mIfS(c:TMT)(t u:TMS):TMS:=λE z M=>c z M λb M1=>if b=true then t E z M1 else u E z M1
theorem bK{c:Expr}{l r:List Stmt}{tc:TMT}(hc:MT X c tc)(ha:MSs X l t)(hb:MSs X r u):MSt X (.If c l r pos) (mIfS tc t u):=⟨(lR hc.out ha.out hb.out).anti λE s H q=>by
 obtain⟨F0,F,z,M,k,rs,ED,h,e⟩:=q
 refine⟨F,z,M,k.kf,rs,_,h,λb M1 F1 H1 g hk m1=>?_⟩
 cases b with
 |true=>exact⟨F0,F1,z,M1,k.growM rs.mb g,rs.growM k.bh g m1,ED,hk,e⟩
 |false=>exact⟨F0,F1,z,M1,k.growM rs.mb g,rs.growM k.bh g m1,ED,hk,e⟩⟩
def mIfJ(c:TMT)(t u:TMS):TMS:=λE z M=>∃ J:SD->MS->Prop,(c z M λb M1=>if b=true then t {E with nx:=J} z M1 else u {E with nx:=J} z M1)/\∀ z' M',J z' M'->E.nx z' M'
theorem ot{c:Expr}{l r:List Stmt}{tc:TMT}(hc:MT X c tc)(ha:MSs X l t)(hb:MSs X r u):MSt X (.If c l r pos) (mIfJ tc t u):=⟨(bK hc ha hb).out.anti λE s H q=>by
 obtain⟨F0,F,z,M,k,rs,ED,⟨J,h,j⟩,e⟩:=q
 exact⟨F0,F,z,M,k,rs,{ED with nx:=J},h,⟨λz' s' M' F' H' k' hz r'=>e.nx z' s' M' F' H' k' (j z' M' hz) r',e.rt,e.bk,e.ct⟩⟩⟩
def mSet(i:Nat)(te:TME):TMS:=λE z M=>∃ P:D->MS->Prop,te z M P/\∀ d M',P d M'->E.nx (z.set i (some d)) M'
theorem aU(i:Nat){x:Str}{c5:Pos}(hN:X.N.Nodup)(he:ME X e te)(hi:X.N[i]?=some x:=by rfl)(hx:Loc X.env.scope x:=by first|exact Or.inl rfl|exact Or.inr rfl)(hs:swapsWith e (some (.Name x c5)) pos.line X.env=pure false:=by rfl)
  (hf:zFN X x:=by first|exact .inl rfl|exact .inr rfl|assumption):MSt X (.Assign [.Name x c5] e pos) (mSet i te):=⟨(gT hN hi hx he.out hs hf).anti λE s H q=>by
 obtain⟨F0,F,z,M,k,rs,ED,⟨P,h,j⟩,e⟩:=q
 exact⟨F,z,M,k.kf,rs,P,h,λd v M' F' H' g hd rd m'=>e.nx _ _ M' F' H' (k.growM rs.mb g) (j d M' hd) ((rs.growM k.bh g m').set rd)⟩⟩
def vO(x f:Str)(to te:TME):TMS:=λE z M=>te z M λd M1=>to z M1 λo M2=>match o with| .ptr a=>∃ fs,mget M2 a=some (.ins x fs)/\fs.length<1000/\E.nx z (mput M2 a (.ins x (putD f d fs)))|_=>False
theorem fQ{x f:Str}{o:Expr}{to:TME}{c5:Pos}(hA:ClsA X.K x f)(ho:ME X o to)(he:ME X e te)(hs:swapsWith e (some (.Attribute o f c5)) pos.line X.env=pure false:=by rfl):
  MSt X (.Assign [.Attribute o f c5] e pos) (vO x f to te):=⟨(mC ho.out he.out hs).anti λE s H q=>by
 obtain⟨C,hn,hc,hf⟩:=hA
 obtain⟨F0,F,z,M,k,rs,ED,h,ee⟩:=q
 refine⟨F,z,M,k.kf,rs,_,h,λd v M1 F1 H1 g1 hx rd m1=>?_⟩
 have k1:=k.growM rs.mb g1
 have v3:=rs.growM k.bh g1 m1
 refine⟨F1,z,M1,k1.kf,v3,_,hx,λo' v' M2 F2 H2 g2 hy ro m2=>?_⟩
 have k2:=k1.growM v3.mb g2
 have Fe:=v3.growM k1.bh g2 m2
 split at hy
 ·rename_i a
  obtain⟨fs,hm,hl,El⟩:=hy
  obtain⟨C',dx,ws,ge,hH,rf⟩:=m2.ok _ _ (bB hm)
  rw[hn] at ge
  cases ge
  have fa:=m2.fr a (bO (bB hm))
  refine⟨a,C,dx,ws,rep_ptr.mp ro,hH,hc,hf,by rw[rf.length];exact hl,?_⟩
  have m3:RepM X.K F2 (upd H2 a (.ins C dx (putF f v ws))) (mput M2 a (.ins x (putD f d fs))):=m2.put hm ⟨C,dx,_,hn,az,RepF.put (rd.mono g2.ff) rf⟩
  have g3:GrowM M2 (mput M2 a (.ins x (putD f d fs))) F2 H2 F2 (upd H2 a (.ins C dx (putF f v ws))):=GrowM.put k2.fh fa hm
  exact ee.nx z s _ F2 _ (k2.growM Fe.mb g3) El (Fe.growM k2.bh g3 m3)
 ·exact hy.elim⟩
def vP(c:TMT)(tb:TMS):TMS:=λE z M=>∃ W:Nat->SD->MS->Prop,(∃ m,W m z M)/\∀ m z M,W m z M->
 c z M λb M1=>if b=true then tb {E with nx:=λz' M'=>∃ m',m'<m/\W m' z' M',ct:=λz' M'=>∃ m',m'<m/\W m' z' M',bk:=E.nx} z M1 else E.nx z M1
theorem vQ{c:Expr}{body:List Stmt}{tc:TMT}{tb:TMS}(hp:PassesOwn (model X.prog X.w) X.A X.env X.xe)(hc:MT X c tc)(hb:MSs X body tb):MSt X (.While c body [] pos) (vP tc tb):=⟨(lV hp hc.out hb.out).anti λE s H q=>by
 obtain⟨F0,F,z,M,k,rs,ED,⟨W,⟨m0,w0⟩,b_⟩,e⟩:=q
 refine⟨λm s' H'=>∃ F' z' M',Kept J.B F0 F' H'/\RepZ X.K J.B F' H' z' s' M'/\W m z' M',⟨m0,F,z,M,k,rs,w0⟩,?_⟩
 rintro m s1 H1 ⟨F1,z1,M1,k1,r1,w1⟩
 refine⟨F1,z1,M1,k1.kf,r1,_,b_ m z1 M1 w1,λb M2 F2 H2 g2 hk m2=>?_⟩
 cases b with
 |true=>
  refine⟨λs3 H3=>∃ F3 z3 M3,Kept J.B F0 F3 H3/\RepZ X.K J.B F3 H3 z3 s3 M3/\∃ m',m'<m/\W m' z3 M3,λs3 H3 ⟨F3,z3,M3,k3,r3,m',l,w3⟩=>⟨m',l,F3,z3,M3,k3,r3,w3⟩,?_⟩
  exact⟨F0,F2,z1,M2,k1.growM r1.mb g2,r1.growM k1.bh g2 m2,_,hk,⟨λz3 s3 M3 F3 H3 k3 h3 r3=>⟨F3,z3,M3,k3,r3,h3⟩,e.rt,e.nx,λz3 s3 M3 F3 H3 k3 h3 r3=>⟨F3,z3,M3,k3,r3,h3⟩⟩⟩
 |false=>exact e.nx z1 s1 M2 F2 H2 (k1.growM r1.mb g2) hk (r1.growM k1.bh g2 m2)⟩
end
section
variable {X:Cx}[J:Jm]{a b c e o:Expr}{ta tb tc te to:TME}{pos:Pos}{st:Stmt}{rest:List Stmt}{t u:TMS}
abbrev TMI:=SD->MS->(List D->MS->Prop)->Prop
def mItR(t:TME):TMI:=λz M R=>t z M λx M1=>match x with| .int n=>(0<=n/\n<2 ^ 62)/\R ((Ba n.toNat).map λk=>D.int ((k:Nat):Int)) M1|_=>False
def mFor(i:Nat)(ti:TMI)(tb:TMS):TMS:=λE z M=>ti z M λds M1=>∃ W:Nat->SD->MS->Prop,W 0 z M1/\(∀ k x z M,ds[k]?=some x->W k z M->tb {E with nx:=W (k+1),ct:=W (k+1),bk:=E.nx} (z.set i (some x)) M)/\∀ z M,W ds.length z M->E.nx z M
theorem vR(i:Nat){x:Str}{p p1 p2:Pos}{body:List Stmt}{tb:TMS}(hp:PassesOwn (model X.prog X.w) X.A X.env X.xe)(hc:X.calm=true)(hN:X.N.Nodup)(hm:X.mg "range"=none)(he:ME X e te)(hb:MSs X body tb)(hg:Gl X "range":=by rfl)(hi:X.N[i]?=some x:=by rfl)(hx:Loc X.env.scope x:=by first|exact Or.inl rfl|exact Or.inr rfl)
  (hf:zFN X x:=by first|exact .inl rfl|exact .inr rfl|assumption) (hs:∀ y,zFS X (.Call (.Name "range" p1) [e] [] p2) y:=by exact λ_=>rfl) (Dl:zSE X e []:=by rfl) (l8:starEach [e] X.env=[(false,eval e X.env)]:=by rfl):
  MSt X (.For (.Name x p) (.Call (.Name "range" p1) [e] [] p2) body [] pos) (mFor i (mItR te) tb):=⟨(dS hp hc (ma hg hm (bn he.out pa_nil Dl) l8) (eZ hN hi hx hf) hb.out hs).anti λE s H q=>by
 obtain⟨F0,F,z,M,kp,rs,ED,h,e⟩:=q
 refine⟨F,z,M,kp.kf,rs,_,h,λd v M1 F1 H1 g1 hd rd m1=>?_⟩
 split at hd
 ·rename_i n
  obtain⟨⟨b1,b2⟩,W,w0,b_,out⟩:=hd
  have hl:((Ba n.toNat).map λk=>D.int ((k:Nat):Int)).length=n.toNat:=by simp
  refine⟨n,by rw[rep_int.mp rd],by lia,b2,mf (lo:=0) (n:=n.toNat) (λk s' H'=>∃ F' z' M',Kept J.B F0 F' H'/\RepZ X.K J.B F' H' z' s' M'/\W k z' M') ⟨F1,z,M1,kp.growM rs.mb g1,rs.growM kp.bh g1 m1,w0⟩ ?_ ?_⟩
  ·rintro k s' H' hk ⟨F',z',M',k',r',w'⟩
   have e1:(0:Int)+(k:Int)=(k:Int):=by lia
   exact⟨F0,F',_,M',k',r'.set (d:= .int (k:Int)) (rep_int.mpr (by rw[e1])),_,b_ k (.int (k:Int)) z' M' (by simp[hk]) w',⟨λz3 s3 M3 F3 H3 k3 h3 r3=>⟨F3,z3,M3,k3,r3,h3⟩,e.rt,e.nx,λz3 s3 M3 F3 H3 k3 h3 r3=>⟨F3,z3,M3,k3,r3,h3⟩⟩⟩
  ·rintro s' H' ⟨F',z',M',k',r',w'⟩
   exact e.nx z' s' M' F' H' k' (out z' M' (by rw[hl];exact w')) r'
 ·exact hd.elim⟩
def vS(te:TME):TME:=λz M R=>te z M λd M1=>match d with| .ptr a=>∃ ds,mget M1 a=some (.lst ds)/\R (.int ds.length) M1|_=>False
theorem vT{p:Pos}(hm:X.mg "len"=none)(ha:ME X e te)(hg:Gl X "len":=by rfl)(he:zSE X e []:=by rfl):ME X (.Call (.Name "len" p) [e] [] pos) (vS te):=⟨(dW gY hg hm PySem.boot_len (bn ha.out pa_nil he) (by decide) (by decide) he).anti λs H Q h=>by
 obtain⟨F,z,M,k,rs,R,h1,h2⟩:=h
 refine⟨F,z,M,k,rs,_,h1,λd v M1 F1 H1 g1 hx rx m1=>?_⟩
 split at hx
 ·rename_i a
  obtain⟨ds,hm,hR⟩:=hx
  obtain⟨vs,hH,rr⟩:=m1.ok _ _ (bB hm)
  exact⟨.ref a,vs.length,by rw[rep_ptr.mp rx],.inl ⟨vs,SqL.of hH,rfl⟩,h2 _ _ M1 F1 H1 g1 hR (rep_int.mpr (by rw[rr.length])) m1⟩
 ·exact hx.elim⟩
def mIxP(ta tb:TME):TME:=λz M R=>ta z M λx M1=>tb z M1 λy M2=>match x,y with| .ptr a,.int i=>∃ ds,mget M2 a=some (.lst ds)/\∃ d,atI ds i=some d/\R d M2|_,_=>False
theorem vU(ha:ME X a ta)(hb:ME X b tb)(hs:dY b:=by exact λ_ _=>rfl):ME X (.Subscript a b pos) (mIxP ta tb):=⟨(pe_ix ix_list ha.out hb.out hs).anti λs H Q h=>by
 obtain⟨F,z,M,k,rs,R,h1,h2⟩:=h
 refine⟨F,z,M,k,rs,_,h1,λx u M1 F1 H1 g1 hx rx m1=>?_⟩
 refine⟨F1,z,M1,k.growM rs.mb g1,rs.growM k.bh g1 m1,_,hx,λy v M2 F2 H2 g2 hy ry m2=>?_⟩
 split at hy
 ·rename_i p i
  obtain⟨ds,hm,d,hd,hR⟩:=hy
  obtain⟨vs,hH,rr⟩:=m2.ok _ _ (bB hm)
  obtain⟨w,e2,m_⟩:=rr.at hd
  exact⟨p,vs,_,w,rep_ptr.mp rx,rep_int.mp ry,SqL.of hH,e2,h2 d w M2 F2 H2 (g1.trans g2) hR m_ m2⟩
 ·exact hy.elim⟩
def vV(to te:TME):TME:=λz M R=>to z M λo M1=>match o with| .ptr a=>(∃ ds,mget M1 a=some (.lst ds))/\te z M1 λd M2=>∃ ds,mget M2 a=some (.lst ds)/\ds.length<=100000/\R .non (mput M2 a (.lst (ds++[d])))|_=>False
theorem vW{apos cpos:Pos}(ho:ME X o to)(he:ME X e te)(j9:zSE X e []:=by rfl)
  (b7:attributeBase o "append" X.env (eval o X.env)=eval o X.env:=by rfl)
  (d7:zHF X cpos [e]:=by rfl)
  (c8:(apos.endLine==cpos.line)=true:=by rfl):
  ME X (.Call (.Attribute o "append" apos) [e] [] cpos) (vV to te):=⟨(dZ PySem.F.plainAttrs_list PySem.F.slot_list_append PySem.F.type_list_append fj ho.out (bn he.out pa_nil j9) b7 d7 c8 j9).anti λs H Q h=>by
 obtain⟨F,z,M,k,rs,R,h1,h2⟩:=h
 refine⟨F,z,M,k,rs,_,h1,λx u M1 F1 H1 g1 hx rx m1=>?_⟩
 split at hx
 ·rename_i a
  obtain⟨⟨Kn,Gf⟩,hx⟩:=hx
  obtain⟨Ju,Jv,Ko⟩:=m1.ok _ _ (bB Gf)
  rw[rep_ptr.mp rx]
  refine⟨.inl ⟨rfl,Ju,SqL.of Jv⟩,?_⟩
  refine⟨F1,z,M1,k.growM rs.mb g1,rs.growM k.bh g1 m1,_,hx,λd v M2 F2 H2 g2 hd rd m2=>?_⟩
  obtain⟨ds,hm,hl,hR⟩:=hd
  obtain⟨vs,hH,rr⟩:=m2.ok _ _ (bB hm)
  have hz:vs.length<sizeLine:=by
   rw[rr.length]
   have h2:(100000:Nat)<sizeLine:=by decide
   lia
  refine⟨a,vs,v,rfl,rfl,hH,hz,?_⟩
  exact h2 _ _ _ F2 _ (g1.trans (g2.trans (GrowM.put g2.fh (m2.fr a (bO (bB hm))) hm))) hR (rep_non.mpr rfl) (m2.put hm ⟨_,az,rr.append (eF rd)⟩)
 ·exact hx.elim⟩
def frzD:MO->D| .ins x fs=> .obj x fs| .lst ds=> .lst ds| .dti a8=> .dti a8
def mFrz(i:Nat)(t:TMS):TMS:=λE z M=>match z[i]? with|some (some (.ptr a))=>∃ o,mget M a=some o/\t E (z.set i (some (frzD o))) (mdel M a)|_=>False
theorem ou(i:Nat){Ea:List Stmt}(h:MSs X Ea t):MSs X Ea (mFrz i t):=⟨PSs.anti h.out λE s H q=>by
 obtain⟨F0,F,z,M,k,rs,ED,h,e⟩:=q
 unfold mFrz at h
 split at h
 ·rename_i a ez
  obtain⟨o,hm,h⟩:=h
  have mem:=bB hm
  have fa:=rs.rm.fr a (bO mem)
  have ba:=rs.mb a (bO mem)
  obtain⟨v,hv,rv⟩:=rs.rs.val i _ ez rfl
  have Jw:=rep_ptr.mp rv
  subst Jw
  have hok:=rs.rm.ok a o mem
  obtain⟨ho,d8,Gg⟩:∃ ho,H a=some ho/\∀ F',Same F F'->F' a=some ho->Rep X.K F' (frzD o) (.ref a):=by
   cases o with
   |ins x fs=>obtain⟨C,dx,ws,n,h1,h2⟩:=hok;exact⟨_,h1,λF' s' hF=>rep_obj.mpr ⟨a,C,dx,ws,rfl,n,hF,RepF.mono s' fs ws h2⟩⟩
   |lst ds=>obtain⟨vs,h1,h2⟩:=hok;exact⟨_,h1,λF' s' hF=>rep_lst.mpr ⟨a,vs,rfl,hF,h2.mono s'⟩⟩
   |dti a8=>exact⟨_,hok,λF' s' hF=>rep_dti.mpr ⟨a,rfl,hF⟩⟩
  have s1:Same F (upd F a ho):=aO fa _
  have hs:s.set i (some (.ref a))=s:=by
   apply Ce
   intro n
   by_cases hn:i=n
   ·subst hn
    rw[Bb (AN.mp hv).1,hv]
   ·rw[AQ hn]
  have k1:Kept J.B F0 (upd F a ho) H:=⟨k.bh,λb u q=>by
   by_cases hb:b=a
   ·subst hb;rw[az] at q;cases q;exact d8
   ·rw[ak hb] at q;exact k.fh b u q,k.f0.trans s1,λb h1 h2=>by
   by_cases hb:b=a
   ·subst hb;exact absurd ba h2
   ·rw[ak hb];exact k.out b h1 h2,k.eb,k.jf,k.jo⟩
  have r0:RepS X.K J.B (upd F a ho) H z s:=⟨rs.rs.len,λi d e n=>let ⟨v,q1,q2⟩:=rs.rs.val i d e n;⟨v,q1,q2.mono s1⟩,λi ds e=>absurd e (rs.no i ds),rs.rs.apart⟩
  have Jy:RepM X.K (upd F a ho) H (mdel M a):=⟨rs.rm.nd.sublist del_sub,λb q hb=>by
   obtain⟨ne,hb⟩:=iA rs.rm.nd hb
   exact(rs.rm.ok b q hb).mono s1 λ_ z=>z,λb hb=>by
   obtain⟨⟨b',q⟩,f9,rfl⟩:=A1.mp hb
   obtain⟨ne,Ex⟩:=iA rs.rm.nd f9
   rw[ak ne];exact rs.rm.fr _ (bO Ex)⟩
  have z0:RepZ X.K J.B (upd F a ho) H z s (mdel M a):=⟨r0,rs.no,Jy,λb hb=>rs.mb b (del_sub.subset hb)⟩
  have z1:=z0.set (i:=i) (Gg _ s1 az)
  rw[hs] at z1
  exact⟨F0,_,_,_,k1,z1,ED,h,e⟩
 ·exact h.elim⟩
end
theorem ow{K:Ax}{F:Hp}{N:List Str}{ds:List D}{vs:List V}(rs:Reps K F ds vs):∀ (i:Nat) d,(startD N ds)[i]?≠some (some (.own d)):=by
 intro i d e
 unfold startD at e
 by_cases hi:i<ds.length
 ·rw[Bh (by simpa using hi),A2] at e
  cases q:ds[i]? with
  |none=>rw[q] at e;cases e
  |some x=>
   rw[q] at e;cases e
   obtain⟨v,_,q2⟩:=rs.get q
   exact rep_own q2
 ·rw[Bu (by simpa using hi),B6] at e
  split at e
  ·cases e
  ·cases e
theorem growM_nil{M':MS}{F H F' H':Hp}(g:GrowM [] M' F H F' H'):Grow F H F' H':=⟨g.ff,g.fh,λb o h=>g.hh b o (λz=>nomatch z) h,λb h1 h2=>g.out b (λz=>nomatch z) h1 h2⟩
section
variable {P:Program}{w:World}{K:Ax}{mg:Str->Option Value}{base:Heap}
theorem CalMM.toX{n:Nat}{x:Str}{ps:List Str}{S:SpM}{S0:SpX}(C:CalMM P w K mg base n x ps S)(h:∀ ds R RX,S0 ds R RX->S ds [] (λd _=>R d) λx fs _=>RX x fs):CalX P w K mg base n x ps S0:=by
 obtain⟨f,fd,F,hb,hk,hm⟩:=C
 refine⟨f,fd,F.imp λvs H Q E q=>?_,hb,hk,hm⟩
 obtain⟨F,ds,fh,rs,R,RX,hS,q1,q2⟩:=q
 exact⟨F,ds,[],fh,rs,RepM.nil,_,_,h ds R RX hS,λd v M' F' H' g hd rd _=>q1 d v F' H' (growM_nil g) hd rd,λy fs C od M' F' H' g hR er _=>q2 y fs C od F' H' (growM_nil g) hR er⟩
open Classical in
theorem Fun.okM{x qual:Str}{st:Stmt}{f:Addr}{fd:FuncData}{N ps:List Str}{k:Nat}{S:SpM}(T:Fun K x qual st f fd)(F:FnScope N ps (ag st))(len:∀ ds M R RX,S ds M R RX->ds.length=ps.length)
  (a9:∀ (cdv:Value) (A:Around) (outer:List Env) (s:Shared) (H:Hp) (E:XK) (J:Jm),Room k (A.deeper (envOfC qual (ag st) s.heap.objs.size f cdv))->XOkM (cxOf (CX1 P w) P w K mg base N qual (ag st) f cdv A outer s H E)->
   ∃ t,MSs (cxOf (CX1 P w) P w K mg base N qual (ag st) f cdv A outer s H E) (aJ st) t/\∀ ds M R RX,(∀ z,J.RM z=λM' x fs=>RX x fs M')->S ds M R RX->t {nx:=λ_ M'=>R .non M',rt:=R} (startD N ds) M):FnOk P w K mg base (CX1 P w) (k+1) f fd ps (lSpM K S):=by
 refine Fun.okC T F (λvs H Q E h=>?_) (λcdv A outer s H vs Q E hr h=>?_)
 ·obtain⟨F,ds,M,fh,rs,rm,R,RX,h,_⟩:=h
  rw[rs.length];exact len ds M R RX h
 ·obtain⟨F,ds,M,fh,rs,rm,R,RX,h,q,qx⟩:=h
  let B:Hp:=λb=>if b∈au M then none else H b
  have H_:∀ {b:Addr},b∈au M->B b=none:=λ{b} h=>if_pos h
  have Ff:∀ {b:Addr},b ∉ au M->B b=H b:=λ{b} h=>if_neg h
  letI:Jm:={B:=B,F0:=F,RX:=λ_ _ _=>False,RM:=λ_ M' x fs=>RX x fs M'}
  have gr:∀ {M':MS} {F' H':Hp},Kept B F F' H'->(∀ a,a∈au M'->B a=none)->GrowM M M' F H F' H':=λ{M' F' H'} k mb=>⟨k.f0,k.fh,λb o nb e=>k.bh b o (by rw[Ff nb];exact e),λb nb h1 h2=>k.out b h1 (by rw[Ff nb];exact h2),λb hb=>by
   by_cases nb:b∈au M
   ·exact .inl nb
   ·right;rw[<- Ff nb];exact mb b hb⟩
  have hx:XOkM (cxOf (CX1 P w) P w K mg base N qual (ag st) f cdv A outer s H E):=by
   intro σ z M' F' H' s' e C od y fs I kk rr hR er ⟨He,ne,_,hx⟩
   have hE:E (.ref C) od H':=qx y fs C od M' F' H' (gr kk rr.mb) hR er rr.rm
   rcases hx with⟨sl,vs,h1,h2⟩|⟨T,h1,h2,h3,_⟩
   ·exact sG I h1 h2 He ne hE
   ·exact uq I h1 ne h2 He h3 hE
  obtain⟨t,ht,hq⟩:=a9 cdv A outer s H E inferInstance hr hx
  have k0:Kept B F F H:=⟨λb o e=>by
   by_cases nb:b∈au M
   ·rw[H_ nb] at e;cases e
   ·rw[Ff nb] at e;exact e,fh,Same.refl F,λ_ h _=>h,rfl,Same.refl F,λ_ h _=>h⟩
  have r0:RepZ K B F H (startD N ds) (L2.start N vs) M:=⟨eo rs,ow rs,rm,λa h=>H_ h⟩
  exact⟨_,ht.out,F,F,startD N ds,M,k0,r0,_,hq ds M R RX (λ_=>rfl) h,⟨λz' s' M' F' H' k hn r=>q _ _ M' F' H' (gr k r.mb) hn (rep_non.mpr rfl) r.rm,λd v M' F' H' k hd rd Ia mb=>q d v M' F' H' (gr k mb) hd rd Ia,λ_ _ _ _ _ _ h _=>h.elim,λ_ _ _ _ _ _ h _=>h.elim⟩⟩
theorem Tx.okM{x:Str}{st:Stmt}{N ps:List Str}{k:Nat}{S:SpM}(T:Tx K mg x st ps)(F:FnScope N ps (ag st))(len:∀ ds M R RX,S ds M R RX->ds.length=ps.length)
  (a9:∀ (f:Addr) (cdv:Value) (A:Around) (outer:List Env) (s:Shared) (H:Hp) (E:XK) (J:Jm),Room k (A.deeper (envOfC x (ag st) s.heap.objs.size f cdv))->XOkM (cxOf (CX1 P w) P w K mg base N x (ag st) f cdv A outer s H E)->
   ∃ t,MSs (cxOf (CX1 P w) P w K mg base N x (ag st) f cdv A outer s H E) (aJ st) t/\∀ ds M R RX,(∀ z,J.RM z=λM' x fs=>RX x fs M')->S ds M R RX->t {nx:=λ_ M'=>R .non M',rt:=R} (startD N ds) M):CalMM P w K mg base (k+1) x ps S:=by
 obtain⟨f,fd,T,hb,hm⟩:=T
 exact⟨f,fd,Fun.okM T F len λcdv A outer s H E J hr hx=>a9 f cdv A outer s H E J hr hx,hb,T.kp,hm⟩
def Txm(K:Ax)(x m:Str)(qual:Str)(st:Stmt)(ps:List Str):Prop:=
 ∃ C f fd,nsIn K mainGlobals x=some (some (.ref C))/\Cls K C/\Meth K C m f/\Fun K m qual st f fd/\Binds K fd ps []
theorem Txm.okM{x m qual:Str}{st:Stmt}{N ps:List Str}{k:Nat}{S:SpM}(T:Txm K x m qual st ps)(F:FnScope N ps (ag st))(len:∀ ds M R RX,S ds M R RX->ds.length=ps.length)
  (a9:∀ (f:Addr) (cdv:Value) (A:Around) (outer:List Env) (s:Shared) (H:Hp) (E:XK) (J:Jm),Room k (A.deeper (envOfC qual (ag st) s.heap.objs.size f cdv))->XOkM (cxOf (CX1 P w) P w K mg base N qual (ag st) f cdv A outer s H E)->
   ∃ t,MSs (cxOf (CX1 P w) P w K mg base N qual (ag st) f cdv A outer s H E) (aJ st) t/\∀ ds M R RX,(∀ z,J.RM z=λM' x fs=>RX x fs M')->S ds M R RX->t {nx:=λ_ M'=>R .non M',rt:=R} (startD N ds) M):CalMth P w K mg base (k+1) x m ps (lSpM K S):=by
 obtain⟨C,f,fd,h1,h2,h3,T,hb⟩:=T
 exact⟨C,f,fd,h1,h2,h3,Fun.okM T F len λcdv A outer s H E J hr hx=>a9 f cdv A outer s H E J hr hx,hb⟩
end
end My
namespace L2
section
variable {X:Cx}{pins:List (Addr × Obj)}{σ:St}{H:Hp}{s:Shared}{h':Heap}
theorem Inv.turned2{t':Nat}{e it:Addr}(I:Inv X pins σ H s)(k:∀ b o,b≠e->b≠it->s.heap.get? b=some o->h'.get? b=some o)(he:FpOk X pins H e)(hi:FpOk X pins H it):Inv X pins σ H {s with heap:=h',toks:=t'}:=by
 obtain⟨e0,e1,e2,e3,e4,e5⟩:=he
 obtain⟨i0,i1,i2,i3,i4,i5⟩:=hi
 have z9:∀ b u,H b=some u->b≠e/\b≠it:=λb u q=>⟨(λz=>by rw[z,e0] at q;cases q),(λz=>by rw[z,i0] at q;cases q)⟩
 have nc:∀ {b:Addr},b ∉ [e,it]->b≠e/\b≠it:=λ{b} h=>⟨λz=>h (by simp[z]),λz=>h (by simp[z])⟩
 refine I.step (g':=s.gens) (d':=s.drawn) (ch:=[e,it]) (λb hb=>?_) (λb o _ _ hc q _=>k b o (nc hc).1 (nc hc).2 q) (λb o _ _ hc q _=>⟨o.slots,k b o (nc hc).1 (nc hc).2 q⟩) (λ_ _ _ _ n=>n)
  (λb o hc q=>⟨o,k b o (nc hc).1 (nc hc).2 q⟩) (λ_ _ q=>q) (λ_ _ _ q=>q) (λb ps q=>⟨#[],by rw[q];simp⟩) (λm hm=>?_) (λb u q=>?_) I.bare
 ·rcases AA.mp hb with z|z
  ·rw[z];exact⟨e3,e1,e4,e5⟩
  ·rw[Ay.mp z];exact⟨i3,i1,i4,i5⟩
 ·obtain⟨o,es,ep,ho,r⟩:=hm
  exact⟨o,es,ep,k _ o (Ne.symm e1) (Ne.symm i1) ho,r⟩
 ·refine(I.hok b u q).stay (λc v hc q'=>k c v ?_ ?_ q') (λ_ q=>q) λ_ _ q=>q
  ·rcases hc with z|z
   ·rw[z];exact(z9 b u q).1
   ·exact(z9 c _ z).1
  ·rcases hc with z|z
   ·rw[z];exact(z9 b u q).2
   ·exact(z9 c _ z).2
end
def Itel(K:Ax)(a:Addr):It:=
 ⟨λi H=>∃ xs x,SqL K H a xs/\xs[i]?=some x,λi H x H'=>∃ T v,H T=none/\x= .ref T/\H'=upd H T (.tup [.int i,v])/\∀ xs,SqL K H a xs->xs[i]?=some v,λi H=>∃ xs,SqL K H a xs/\xs.length<=i⟩
def Ites(x:Str):It:=⟨λi _=>i<x.length,λi H v H'=>∃ T c,H T=none/\v= .ref T/\H'=upd H T (.tup [.int i,.str ⟨#[c]⟩])/\x.cps[i]?=some c,λi _=>i=x.length⟩
theorem vX{P:Program}{w:World}{H:Hp}{h:Heap}{T:Addr}{i:Int}{t:Tok}{v:V}{u:Value}(r:RelV v u)(q:h.get? T=some {cls:= .type "tuple",data:= .seq #[.int i t,u]}):ObjOk P w H h T (.tup [.int i,v]):=
 ⟨by show 2<=sizeLine;decide,[.int i t,u],.cons ⟨t,rfl⟩ (.cons r .nil),⟨_,q,rfl,_,rfl⟩⟩
theorem oy{X:Cx}{pins:List (Addr × Obj)}{σ:St}{H:Hp}{s:Shared}{h':Heap}{t':Nat}{e it:Addr}{i:Int}{t:Tok}{v:V}{u:Value}(I:Inv X pins σ H s)(he:FpOk X pins H e)(hi:FpOk X pins H it)(le:e<s.heap.objs.size)(li:it<s.heap.objs.size)(r:RelV v u)
  (hT:h'.get? s.heap.objs.size=some {cls:= .type "tuple",data:= .seq #[.int i t,u]}) (hk:∀ b o,b≠e->b≠it->s.heap.get? b=some o->h'.get? b=some o):Inv X pins σ (upd H s.heap.objs.size (.tup [.int i,v])) {s with heap:=h',toks:=t'}:=by
 have I1:Inv X pins σ (upd H s.heap.objs.size (.tup [.int i,v])) {s with heap:=s.heap.push {cls:= .type "tuple",data:= .seq #[.int i t,u]},toks:=t'}:=
  I.laid (λb o q=>Heap.get?_push_of_some _ q) (Az _) (vX r (Heap.get?_push_size _ rfl))
 have fp:∀ {b:Addr},FpOk X pins H b->b<s.heap.objs.size->FpOk X pins (upd H s.heap.objs.size (.tup [.int i,v])) b:=λ{b} h l=>⟨by rw[ak (AF l)];exact h.1,h.2⟩
 refine I1.turned2 (h':=h') (t':=t') (λb o h1 h2 q=>?_) (fp he le) (fp hi li)
 rcases Heap.get?_push_cases (show(s.heap.push {cls:= .type "tuple",data:= .seq #[.int i t,u]}).get? b=some o from q) with⟨rfl,rfl⟩|q2
 ·exact hT
 ·exact hk b o h1 h2 q2
theorem vY{P:Program}{w:World}{K:Ax}{o6:List Expr}{x1:Nat}{tp:Pos}(a e it:Addr)(DB:e≠it):Turn P w K (.Tuple o6 x1 tp) (Itel K a) [e,it] e (λi h=>(∃ d4,IsEnum h e it i d4)/\h.IsListIter it a i) where
 mem:=by simp
 obj:=λi h st b hb=>by
  obtain⟨⟨d4,he⟩,hit⟩:=st
  rcases AA.mp hb with z|z
  ·rw[z];exact⟨_,he,λv z=>by cases z⟩
  ·rw[Ay.mp z]
   obtain⟨o,ho,c,d⟩:=hit
   exact⟨o,ho,λv z=>by rw[d] at z;cases z⟩
 keep:=λi h h' st k=>⟨let ⟨d4,he⟩:=st.1;⟨d4,k e (by simp) _ he⟩,st.2.at λo q=>k it (by simp) o q⟩
 item:=by
  intro X hP hw hK hc i pins s σ H E I hf st hg
  subst hP hw hK
  obtain⟨xs,x,hq,hx⟩:=hg
  obtain⟨its,rv,p,hz⟩:=I.list hq
  obtain⟨u,hu,ru⟩:=rv.get hx
  obtain⟨⟨d4,he⟩,hit⟩:=st
  have fe:=hf e (by simp)
  have fi:=hf it (by simp)
  have le:e<s.heap.objs.size:=Heap.lt_size he
  have li:it<s.heap.objs.size:=by obtain⟨o,ho,_⟩:=hit;exact Heap.lt_size ho
  refine wpAny_pyNext_enum_item he hit p.isList (x:=u) (by simpa using hu) DB λh' u5 Dp hT gt hk=>?_
  refine⟨_,rfl,wpAny_letOwnedTupleGo_enum u5 λh2 Gh k8=>?_⟩
  have m4:Heap.SameBut e h' h2:=k8
  have nT:s.heap.objs.size≠e:=Bl le
  have I1:Inv X pins σ (upd H s.heap.objs.size (.tup [.int i,x])) {s with heap:=h2,toks:=s.toks+1}:=oy I fe fi le li ru ((m4.2 _ nT).trans hT) λb o h1 h3 q=>(m4.2 b h1).trans (hk b o h1 h3 q)
  refine⟨.ref s.heap.objs.size,_,I1,rfl,⟨_,x,I.hok.fresh (Az _),rfl,rfl,λys hy=>by rw[I.list_inj hy hq];exact hx⟩,⟨⟨u,by simpa using Gh⟩,Dp.at λo q=>(m4.2 it (Ne.symm DB)).trans q⟩,λb hb=>?_⟩
  rcases AA.mp hb with z|z
  ·rw[z,ak (AF le)];exact fe.1
  ·rw[Ay.mp z,ak (AF li)];exact fi.1
 done:=by
  intro X hP hw hK hc i pins s σ H E I hf st hg
  subst hP hw hK
  obtain⟨xs,hq,hx⟩:=hg
  obtain⟨its,rv,p,hz⟩:=I.list hq
  obtain⟨⟨d4,he⟩,hit⟩:=st
  have hl:=rv.length
  obtain⟨f0,f1,f2,f3,f4,f5⟩:=hf it (by simp)
  exact wpAny_pyNext_enum_end (I.ok.hd hc) he hit p.isList (by simp;lia) λh' eb=>⟨rfl,I.turned (t':=s.toks) (λb o hb q=>eb b o hb q) f0 f1 f3 f4 f5⟩
 self:=λ_ _ _ _ _ st h=>let ⟨⟨d4,he⟩,_⟩:=st;wpAny_pyIter_enum he h
theorem vZ{P:Program}{w:World}{K:Ax}{o6:List Expr}{x1:Nat}{tp:Pos}(x:Str)(t:Tok)(e it:Addr)(DB:e≠it):Turn P w K (.Tuple o6 x1 tp) (Ites x) [e,it] e (λi h=>(∃ d4,IsEnum h e it i d4)/\h.IsStrIter it "str_ascii_iterator" x t i) where
 mem:=by simp
 obj:=λi h st b hb=>by
  obtain⟨⟨d4,he⟩,hit⟩:=st
  rcases AA.mp hb with z|z
  ·rw[z];exact⟨_,he,λv z=>by cases z⟩
  ·rw[Ay.mp z]
   obtain⟨o,ho,c,d⟩:=hit
   exact⟨o,ho,λv z=>by rw[d] at z;cases z⟩
 keep:=λi h h' st k=>⟨let ⟨d4,he⟩:=st.1;⟨d4,k e (by simp) _ he⟩,let ⟨o,ho,r⟩:=st.2;⟨o,k it (by simp) o ho,r⟩⟩
 item:=by
  intro X hP hw hK hc i pins s σ H E I hf st hg
  subst hP hw hK
  have hi:i<x.cps.size:=hg
  obtain⟨⟨d4,he⟩,hit⟩:=st
  have fe:=hf e (by simp)
  have fi:=hf it (by simp)
  have le:e<s.heap.objs.size:=Heap.lt_size he
  have li:it<s.heap.objs.size:=by obtain⟨o,ho,_⟩:=hit;exact Heap.lt_size ho
  refine wpAny_pyNext_enum_itemD (Draws.strAscii (A:=X.A.in1) (by exact I.ok.hd hc) it x t) he hit hi DB (by simp[DB]) λu h' tk hP u5 Dp hT gt hk=>?_
  obtain⟨c,tu,Dw,rfl⟩:=hP
  refine⟨_,rfl,wpAny_letOwnedTupleGo_enum u5 λh2 Gh k8=>?_⟩
  have m4:Heap.SameBut e h' h2:=k8
  have nT:s.heap.objs.size≠e:=Bl le
  have I1:Inv X pins σ (upd H s.heap.objs.size (.tup [.int i,.str ⟨#[c]⟩])) {s with heap:=h2,toks:=tk+1}:=oy I fe fi le li ⟨tu,rfl⟩ ((m4.2 _ nT).trans hT) λb o h1 h3 q=>(m4.2 b h1).trans (hk b o h1 h3 q)
  refine⟨.ref s.heap.objs.size,_,I1,rfl,⟨_,c,I.hok.fresh (Az _),rfl,rfl,Dw⟩,⟨⟨_,by simpa using Gh⟩,let ⟨o,ho,r⟩:=Dp;⟨o,(m4.2 it (Ne.symm DB)).trans ho,r⟩⟩,λb hb=>?_⟩
  rcases AA.mp hb with z|z
  ·rw[z,ak (AF le)];exact fe.1
  ·rw[Ay.mp z,ak (AF li)];exact fi.1
 done:=by
  intro X hP hw hK hc i pins s σ H E I hf st hg
  subst hP hw hK
  have hi:i=x.cps.size:=hg
  subst hi
  obtain⟨⟨d4,he⟩,hit⟩:=st
  obtain⟨f0,f1,f2,f3,f4,f5⟩:=hf it (by simp)
  exact wpAny_pyNext_enum_endD (Draws.strAscii (A:=X.A.in1) (by exact I.ok.hd hc) it x t) he hit λh' eb=>⟨rfl,I.turned (t':=s.toks) (λb o hb q=>eb b o hb q) f0 f1 f3 f4 f5⟩
 self:=λ_ _ _ _ _ st h=>let ⟨⟨d4,he⟩,_⟩:=st;wpAny_pyIter_enum he h
def iEnL(K:Ax)(ta:TA):TI:=λσ H R=>ta σ H λvs H1=>∃ a,vs=[.ref a]/\(∃ xs,SqL K H1 a xs)/\R (Itel K a) H1
def iEnS(ta:TA):TI:=λσ H R=>ta σ H λvs H1=>∃ x,vs=[.str x]/\x.cps.all (·<128)=true/\R (Ites x) H1
section
variable {X:Cx}{o6:List Expr}{x1:Nat}{tp p pos:Pos}{l:Expr}{ta:TA}
theorem wa(hg:Gl X "enumerate")(hm:X.mg "enumerate"=none)(ha:PA X [l] ta)(hs:starEach [l] X.env=[(false,eval l X.env)]:=by rfl):PI X (.Tuple o6 x1 tp) (.Call (.Name "enumerate" p) [l] [] pos) (iEnL X.K ta):=by
 intro pins s σ H R I h
 refine Call_ (dg I hg hm PyProof.Rows.boot_enumerate (PyProof.Rows.callWith_type1 (thn (ha pos pins s σ H _ I h) λus s1 ⟨vs,H1,I1,r1,q1⟩=>?_) hs rfl))
 obtain⟨a,rfl,⟨xs,hq⟩,q⟩:=q1
 obtain⟨u,rfl,ru⟩:=bH r1
 cases ru
 obtain⟨its,rv,pl,hz⟩:=I1.list hq
 refine call_enumerate_list pl.isList λh' he hit gt hk=>?_
 have I2:Inv X pins σ H1 {s1 with heap:=h'}:=I1.kept (t':=s1.toks) hk
 refine wpAny_pyIter_enum he ?_
 have ne:s1.heap.objs.size+1≠s1.heap.objs.size:=CN _
 refine⟨s1.heap.objs.size+1,[s1.heap.objs.size+1,s1.heap.objs.size],_,_,H1,rfl,I2,vY a _ _ ne,⟨⟨_,he⟩,hit⟩,λb hb=>?_,q⟩
 rcases AA.mp hb with z|z
 ·rw[z];exact I1.fpOk (Bn _) (I1.hok.fresh (Bn _))
 ·rw[Ay.mp z];exact I1.fpOk (Az _) (I1.hok.fresh (Az _))
theorem wc(hg:Gl X "enumerate")(hm:X.mg "enumerate"=none)(ha:PA X [l] ta)(hs:starEach [l] X.env=[(false,eval l X.env)]:=by rfl):PI X (.Tuple o6 x1 tp) (.Call (.Name "enumerate" p) [l] [] pos) (iEnS ta):=by
 intro pins s σ H R I h
 refine Call_ (dg I hg hm PyProof.Rows.boot_enumerate (PyProof.Rows.callWith_type1 (thn (ha pos pins s σ H _ I h) λus s1 ⟨vs,H1,I1,r1,q1⟩=>?_) hs rfl))
 obtain⟨x,rfl,Gi,q⟩:=q1
 obtain⟨u,rfl,t,rfl⟩:=bH r1
 refine call_enumerate_str λh' he hit gt hk=>?_
 have I2:Inv X pins σ H1 {s1 with heap:=h'}:=I1.kept (t':=s1.toks) hk
 refine wpAny_pyIter_enum he ?_
 have ne:s1.heap.objs.size+1≠s1.heap.objs.size:=CN _
 have Jz:strIterType x="str_ascii_iterator":=by unfold strIterType;rw[Gi];rfl
 rw[Jz] at hit
 refine⟨s1.heap.objs.size+1,[s1.heap.objs.size+1,s1.heap.objs.size],_,_,H1,rfl,I2,vZ x t _ _ ne,⟨⟨_,he⟩,hit⟩,λb hb=>?_,q⟩
 rcases AA.mp hb with z|z
 ·rw[z];exact I1.fpOk (Bn _) (I1.hok.fresh (Bn _))
 ·rw[Ay.mp z];exact I1.fpOk (Az _) (I1.hok.fresh (Az _))
end
end L2
namespace My
open Exc
section
variable {X:Cx}[J:Jm]{a b c e o:Expr}{ta tb tc te to:TME}{pos:Pos}{st:Stmt}{rest:List Stmt}{t u:TMS}
theorem oz{K:Ax}{F:Hp}:∀ (is:List Nat) (ds:List D) (vs:List V) (z:SD),Reps K F ds vs->(∀ (i:Nat) d,z[i]?≠some (some (.own d)))->∀ (i:Nat) d,(aQ is ds z)[i]?≠some (some (.own d))
 |[],_,_,z,_,h=>h
 |_::_,[],_,z,_,h=>h
 |i::is,d::ds,vs,z,r,h=>by
  obtain⟨v,vr,rfl,r1,r2⟩:=reps_cons.mp r
  refine oz is ds vr _ r2 λj q e=>?_
  by_cases hj:i=j
  ·subst hj
   rw[BF] at e
   simp at e
   have:=r1.noown
   rw[e.2] at this
   cases this
  ·rw[AQ hj] at e
   exact h j q e
def mItE(t:TME):TMI:=λz M R=>t z M λx M1=>match x with| .lst ds=>R ds M1|_=>False
def we(t:TME):TMI:=λz M R=>t z M λx M1=>match x with| .str x=>x.cps.all (·<128)=true/\R (cO x) M1|_=>False
def oA(is:List Nat)(ti:TMI)(tb:TMS):TMS:=λE z M=>ti z M λds M1=>∃ W:Nat->SD->MS->Prop,W 0 z M1/\(∀ (k:Nat) x z M,ds[k]?=some x->W k z M->tb {E with nx:=W (k+1),ct:=W (k+1),bk:=E.nx} (aQ is [.int k,x] z) M)/\∀ z M,W ds.length z M->E.nx z M
theorem oB{K:Ax}{F0 F1 H1:Hp}{z:SD}{s:L2.St}{M1:MS}{E:Ends}{ED:EndsM}{It':It}{g:TG}{tb:TMS}{Ib:TS}{ds:List D}{is:List Nat}(hK:K=X.K)(k1:Kept J.B F0 F1 H1)(v3:RepZ K J.B F1 H1 z s M1)(e:EndsOkM K F0 ED E)(a_:is.length=2)
  (go:∀ k F' H',Same F1 F'->Same F' H'->k<ds.length->It'.go k H') (stop:∀ F' H',Same F1 F'->Same F' H'->It'.stop ds.length H')
  (yld:∀ k F' H' x H'',Same F1 F'->Same F' H'->k<ds.length->It'.yld k H' x H''->∃ T d v,H' T=none/\x= .ref T/\H''=upd H' T (.tup [.int k,v])/\ds[k]?=some d/\Rep K F' d v)
  (hg:∀ (dd:List D) (vs:List V) (T:Addr) (z:SD) (s:L2.St) (F H:Hp) (Q:L2.St->Hp->Prop),dd.length=2->H T=some (.tup vs)->Reps K F dd vs->RepS K J.B F H z s->(∀ s',RepS K J.B F H (aQ is dd z) s'->Q s' H)->g (.ref T) s H Q)
  (JA:∀ E s H,mS K tb E s H->Ib E s H)
  (hd:∃ W:Nat->SD->MS->Prop,W 0 z M1/\(∀ (k:Nat) x z M,ds[k]?=some x->W k z M->tb {ED with nx:=W (k+1),ct:=W (k+1),bk:=ED.nx} (aQ is [.int k,x] z) M)/\∀ z M,W ds.length z M->ED.nx z M):
  ∃ W:Nat->Nat->L2.St->Hp->Prop,(∃ m,W 0 m s H1)/\∀ i m σ H,W i m σ H->
   (It'.stop i H/\E.nx σ H)\/(It'.go i H/\∃ N:L2.St->Hp->Prop,(∀ σ' H',N σ' H'->∃ m',m'<m/\W (i+1) m' σ' H')/\∀ x H',It'.yld i H x H'->g x σ H' λσ2 H2=>Ib {E with nx:=N,ct:=N,bk:=E.nx} σ2 H2):=by
 obtain⟨W,w0,b_,out⟩:=hd
 refine⟨λk m s' H'=>m=ds.length - k/\k<=ds.length/\∃ F' z' M',Kept J.B F0 F' H'/\Same F1 F'/\RepZ K J.B F' H' z' s' M'/\W k z' M',⟨ds.length,by simp,AY _,F1,z,M1,k1,Same.refl F1,v3,w0⟩,?_⟩
 rintro k m s' H' ⟨rfl,hk,F',z',M',k',g',r',w'⟩
 by_cases g9:k<ds.length
 ·refine .inr ⟨go k F' H' g' k'.fh g9,λs3 H3=>∃ F3 z3 M3,Kept J.B F0 F3 H3/\Same F1 F3/\RepZ K J.B F3 H3 z3 s3 M3/\W (k+1) z3 M3,λs3 H3 h3=>⟨ds.length - (k+1),by lia,rfl,g9,h3⟩,λx H'' hy=>?_⟩
  obtain⟨T,d,v,hT,rfl,rfl,hd,rd⟩:=yld k F' H' x H'' g' k'.fh g9 hy
  have gn:=Grow.new k'.fh hT (.tup [.int k,v])
  have k2:=k'.grow gn
  have r2:=r'.growM k'.bh gn.toM (r'.rm.grow gn)
  have rp:Reps K (upd F' T (.tup [.int k,v])) [.int k,d] [.int k,v]:=reps_cons.mpr ⟨_,_,rfl,rep_int.mpr rfl,eF (rd.mono gn.ff)⟩
  refine hg [.int k,d] _ T z' s' _ _ _ rfl az rp r2.rs λs2 Fe=>JA _ _ _ ?_
  have gF:Same F1 (upd F' T (.tup [.int k,v])):=g'.trans gn.ff
  refine⟨upd F' T (.tup [.int k,v]),upd F' T (.tup [.int k,v]),_,M',⟨k2.bh,k2.fh,Same.refl _,λb h1 _=>h1,k2.eb,k2.jf.trans k2.f0,λb h1 h2=>k2.out b (k2.jo b h1 h2) h2⟩,⟨Fe,oz is _ _ z' rp r2.no,r2.rm,r2.mb⟩,_,b_ k d z' M' hd w',?_⟩
  have up:∀ {F3 H3:Hp},Kept J.B (upd F' T (.tup [.int k,v])) F3 H3->Kept J.B F0 F3 H3:=λk3=>⟨k3.bh,k3.fh,k2.f0.trans k3.f0,λb h1 h2=>k3.out b (k2.out b h1 h2) h2,k2.eb,k2.jf,k2.jo⟩
  exact⟨λz3 s3 M3 F3 H3 k3 h3 r3=>⟨F3,z3,M3,up k3,gF.trans k3.f0,r3,h3⟩,λd v M3 F3 H3 k3=>e.rt d v M3 F3 H3 (up k3),λz3 s3 M3 F3 H3 k3=>e.nx z3 s3 M3 F3 H3 (up k3),λz3 s3 M3 F3 H3 k3 h3 r3=>⟨F3,z3,M3,up k3,gF.trans k3.f0,r3,h3⟩⟩
 ·have ek:k=ds.length:=by lia
  subst ek
  exact .inl ⟨stop F' H' g' k'.fh,e.nx z' s' M' F' H' k' (out z' M' w') r'⟩
theorem wg{es:List Expr}{x1:Nat}{tp p1 p2:Pos}{is:List Nat}{body:List Stmt}{tb:TMS}(hp:PassesOwn (model X.prog X.w) X.A X.env X.xe)(hc:X.calm=true)(hm:X.mg "enumerate"=none)(he:ME X e te)(hG:DGs X es is)(hb:MSs X body tb)(a_:is.length=2:=by rfl)(hg:Gl X "enumerate":=by rfl)
  (hn:(assignEach es X.env).length=2:=by rfl) (m9:(assignEach es X.env).findIdx? (·.1)=none:=by rfl)
  (hs:∀ y,zFS X (.Call (.Name "enumerate" p1) [e] [] p2) y:=by exact λ_=>rfl) (Dl:zSE X e []:=by rfl) (l8:starEach [e] X.env=[(false,eval e X.env)]:=by rfl):
  MSt X (.For (.Tuple es x1 tp) (.Call (.Name "enumerate" p1) [e] [] p2) body [] pos) (oA is (mItE te) tb):=by
 obtain⟨ug,Gj,kk⟩:=hG
 refine⟨(dS hp hc (wa hg hm (bn he.out pa_nil Dl) l8) (gS hc Gj hn m9) hb.out hs).anti λE s H q=>?_⟩
 obtain⟨F0,F,z,M,kp,rs,ED,h,e⟩:=q
 refine⟨F,z,M,kp.kf,rs,_,h,λd v M1 F1 H1 g1 hd rd m1=>?_⟩
 split at hd
 ·rename_i ds
  obtain⟨p,vs,rfl,hq,rr⟩:=rep_lst.mp rd
  refine⟨p,rfl,⟨vs,SqL.of (g1.fh _ _ hq)⟩,oB (It':=Itel X.K p) rfl (kp.growM rs.mb g1) (rs.growM kp.bh g1 m1) e a_ (λk F' H' s1 s2 hk=>?_) (λF' H' s1 s2=>?_) (λk F' H' x H'' s1 s2 hk hy=>?_) (λdd r_ T z s F H Q hl hT rp DC hQ=>?_) (λ_ _ _ h=>h) hd⟩
  ·have n_:k<vs.length:=by rw[rr.length];exact hk
   exact⟨vs,vs[k],SqL.of (s2 _ _ (s1 _ _ hq)),by simp[n_]⟩
  ·exact⟨vs,SqL.of (s2 _ _ (s1 _ _ hq)),by rw[rr.length];exact Az _⟩
  ·obtain⟨T,v,hT,e1,e2,hv⟩:=hy
   obtain⟨d,hd,rd⟩:=rr.get' (hv vs (SqL.of (s2 _ _ (s1 _ _ hq))))
   exact⟨T,d,v,hT,e1,e2,hd,rd.mono s1⟩
  ·exact⟨T,r_,rfl,SqT.of hT,by rw[rp.length];exact hl,kk dd r_ z s J.B F H Q (by rw[hl,a_]) rp DC hQ⟩
 ·exact hd.elim
theorem wj{es:List Expr}{x1:Nat}{tp p1 p2:Pos}{is:List Nat}{body:List Stmt}{tb:TMS}(hp:PassesOwn (model X.prog X.w) X.A X.env X.xe)(hc:X.calm=true)(hm:X.mg "enumerate"=none)(he:ME X e te)(hG:DGs X es is)(hb:MSs X body tb)(a_:is.length=2:=by rfl)(hg:Gl X "enumerate":=by rfl)
  (hn:(assignEach es X.env).length=2:=by rfl) (m9:(assignEach es X.env).findIdx? (·.1)=none:=by rfl)
  (hs:∀ y,zFS X (.Call (.Name "enumerate" p1) [e] [] p2) y:=by exact λ_=>rfl) (Dl:zSE X e []:=by rfl) (l8:starEach [e] X.env=[(false,eval e X.env)]:=by rfl):
  MSt X (.For (.Tuple es x1 tp) (.Call (.Name "enumerate" p1) [e] [] p2) body [] pos) (oA is (we te) tb):=by
 obtain⟨ug,Gj,kk⟩:=hG
 refine⟨(dS hp hc (wc hg hm (bn he.out pa_nil Dl) l8) (gS hc Gj hn m9) hb.out hs).anti λE s H q=>?_⟩
 obtain⟨F0,F,z,M,kp,rs,ED,h,e⟩:=q
 refine⟨F,z,M,kp.kf,rs,_,h,λd v M1 F1 H1 g1 hd rd m1=>?_⟩
 split at hd
 ·rename_i x
  obtain⟨ha,hd⟩:=hd
  have hl:=nX x
  refine⟨x,by rw[rep_str.mp rd],ha,oB (It':=Ites x) rfl (kp.growM rs.mb g1) (rs.growM kp.bh g1 m1) e a_ (λk F' H' s1 s2 hk=>?_) (λF' H' s1 s2=>?_) (λk F' H' x H'' s1 s2 hk hy=>?_) (λdd r_ T z s F H Q hl hT rp DC hQ=>?_) (λ_ _ _ h=>h) hd⟩
  ·rw[hl] at hk;exact hk
  ·exact hl
  ·obtain⟨T,c,hT,e1,e2,hc⟩:=hy
   exact⟨T,.str ⟨#[c]⟩,.str ⟨#[c]⟩,hT,e1,e2,vh hc,rep_str.mpr rfl⟩
  ·exact⟨T,r_,rfl,SqT.of hT,by rw[rp.length];exact hl,kk dd r_ z s J.B F H Q (by rw[hl,a_]) rp DC hQ⟩
 ·exact hd.elim
end
end My
namespace L2
section
variable {prog:Program}{w:World}{K:Type}[DecidableEq K]{i7:HeapKind prog w K}{A:Around}{E:Value->Shared->Prop}{s:Shared}{d a:Addr}{k:K}{xs:List (K × Addr × Value)}
theorem wk{v:Value}{Q:Value->Shared->Prop}(hu:i7.room A)(k7:i7.is s.heap k a)(hm:s.heap.DictOfH i7 d xs)
  (h1:∀ p,atKey xs k=some p->Q p.2 {s with toks:=s.toks+i7.draws k})
  (h2:atKey xs k=none->∀ h',h'.DictOfH i7 d (xs++[(k,a,v)])->Heap.SameBut d s.heap h'->Q v {s with heap:=h',toks:=s.toks+i7.draws k})
  (gt:xs.length<=sizeLine):wpAny (model prog w) A (dictSetDefault d (.ref a) v) Q E s:=by
 obtain⟨o,es,ep,ho,hc,hd,he,Ic,hn⟩:=hm
 unfold dictSetDefault
 try with_reducible refine wpAny_holding ?_
 refine wpAny_bind (i7.pyHash hu k7 ?_)
 refine wpAny_bind (wpAny_dictFind_heap (s:={s with toks:=s.toks+i7.draws k}) hu k7 ho hd he Ic hn ?_ ?_)
 ·intro c9
  have Gk:k ∉ xs.map (·.1):=not_mem_keys_of_get c9
  refine wpAny_bind (wpAny_rule (wpAny_bind (wpAny_updateDictKeys (hz:=by have e:=size_of_entries he;lia) (s:={s with toks:=s.toks+i7.draws k}) ho hd (wpAny_pure (h2 (atKey_none_of_get c9) _ ⟨_,_,ep+1,Heap.get?_update_self _ ho (Obj.isFreed_of_dict (Obj.data_mapDictKeys hd _)),
   hc.mapDictKeys _,Obj.data_mapDictKeys hd _,?_,?_,?_⟩ (Heap.SameBut.update ..))))))
  ·simp[he,entryOfKey]
  ·intro x hx
   rcases AW.mp hx with hx|hx
   ·exact i7.keeps (Ic x hx) ho hd (Heap.SameBut.update ..)
   ·simp only[Ay] at hx
    subst hx
    exact i7.keeps k7 ho hd (Heap.SameBut.update ..)
  ·rw[Bo,BJ]
   refine⟨hn,by simp,?_⟩
   intro x hx y hy
   simp only[AO,BD,Ay] at hy
   subst hy
   exact λe=>Gk (e ▸ hx)
 ·intro j p hj
  refine wpAny_bind (wpAny_dictEntries (s:={s with toks:=s.toks+i7.draws k}) ho hd ?_)
  rw[entry_at he j,hj]
  exact wpAny_bind (wpAny_rule (wpAny_pure (h1 p (atKey_of_get hn hj))))
theorem wl(i7:HeapKind prog w K)(d a:Addr)(hd:(d==sysModules)=false)(v:Value):
  MeetsIn prog w (Builtin.«dict.setdefault» ⟨[.ref d,.ref a,v],[]⟩) (λA R s=>i7.room A.in1/\∃ k xs,i7.is s.heap k a/\s.heap.DictOfH i7 d xs/\xs.length<=sizeLine/\
   (∀ p,atKey xs k=some p->R (.ok (.ret p.2)) {s with toks:=s.toks+i7.draws k})/\
   (atKey xs k=none->∀ h',h'.DictOfH i7 d (xs++[(k,a,v)])->Heap.SameBut d s.heap h'->R (.ok (.ret v)) {s with heap:=h',toks:=s.toks+i7.draws k})):=
 .of_wp λA R s ⟨hu,k,xs,k7,hm,hz,h1,h2⟩=>by
  unfold Builtin.«dict.setdefault»
  refine wpAny_bind ?_
  unfold Builtin.Dict.keyAndDefault
  refine wpAny_bind (wpAny_notOrdered_dict hm.typeIs ?_)
  show wpAny _ _ (pure (d,Value.ref a,some v)) _ _ s
  refine wpAny_pure ?_
  show wpAny _ _ (if(d==sysModules)=true then _ else(dictSetDefault d (.ref a) v>>=_)) _ _ s
  rw[if_neg (by rw[hd];exact AG)]
  exact wpAny_bind (wk hu k7 hm (λp hp=>wpAny_pure ⟨p.2,rfl,h1 p hp⟩) (λhn h' FM Dy=>wpAny_pure ⟨v,rfl,h2 hn h' FM Dy⟩) hz)
end
end L2
namespace My
open Exc
def cQ:List ((Int × Int) × Int)->Int->Int->Option Int
 |[],_,_=>none
 |((a,b),h)::r,x,y=>if a=x/\b=y then some h else cQ r x y
theorem oC(x y:Int):∀ a8:List ((Int × Int) × Int),valV (dtiV a8) [.inl x,.inl y]=(cQ a8 x y).map V.int
 |[]=>rfl
 |((a,b),h)::r=>by
  show valV (([.inl a,.inl b],V.int h)::dtiV r) _=_
  unfold cQ
  by_cases e:a=x/\b=y
  ·rw[if_pos e,ib (by rw[e.1,e.2])];rfl
  ·rw[if_neg e,ic (λz=>e (by
    have z':([Sum.inl a,Sum.inl b]:List Key)=[.inl x,.inl y]:=z
    injection z' with z1 z2
    injection z2 with z2 _
    exact⟨Sum.inl.inj z1,Sum.inl.inj z2⟩)),oC x y r]
def sdD(a8:List ((Int × Int) × Int))(x y v:Int):List ((Int × Int) × Int):=if(cQ a8 x y).isSome then a8 else a8++[((x,y),v)]
def rSdT:V->List V->Hp->VK->Prop:=λx vs H Q=>∃ a b i j d a8,x= .ref a/\vs=[.ref b,.int d]/\H a=some (.dT (dtiV a8))/\H b=some (.tup [.int i,.int j])/\a8.length<100000/\∀ w,Q (.int w) (upd H a (.dT (dtiV (sdD a8 i j d))))
theorem wm{H:Hp}{a:Addr}{o:HO}(h:H a=some o):upd H a o=H:=by
 funext b
 by_cases e:b=a
 ·subst e;rw[az,h]
 ·rw[ak e]
theorem wn{X:Cx}(hu:X.A.units+1<cLine):MtR X "dict.setdefault" rSdT:=by
 intro pins s σ H x vs v us Q I rx rv h
 obtain⟨a,b,i,j,d,a8,rfl,rfl,ha,hb,hl,q⟩:=h
 obtain⟨u,u',rfl,ru,t,rfl⟩:=gX rv
 cases(show v=Value.ref a from rx)
 cases(show u=Value.ref b from ru)
 obtain⟨z,hd,xs,rel,dd⟩:=ss I.hok ha
 have a_:xs.length=a8.length:=by rw[<- Paired.length rel];simp[dtiV]
 have big:(100000:Nat)<sizeLine:=by decide
 have f9:H b=some (.tup (([.inl i,.inl j]:List Key).map kV)):=hb
 have i8:=rel.val [.inl i,.inl j]
 rw[oC] at i8
 refine call_meetsIn PySem.F.slot_dict_setdefault dd.typeIs PySem.F.entry_dict_setdefault (PySem.F.args_dict_setdefault_3 _ _ _) (wl (tupleKind (bG X.prog X.w)) a b hd (.int d t)) ⟨tupleKind_room_in1 hu,[.inl i,.inl j],xs,key_of I.hok f9,dd,by lia,λp hp=>?_,λhn h' Fd hs=>?_⟩
 ·rw[hp] at i8
  cases e:cQ a8 i j with
  |none=>rw[e] at i8;exact i8.elim
  |some w=>
   rw[e] at i8
   have:=q w
   unfold sdD at this
   rw[e] at this
   have e2:(if(some w:Option Int).isSome then a8 else a8++[((i,j),d)])=a8:=rfl
   rw[e2,wm ha] at this
   exact⟨.int w,H,I.tok _,i8,this⟩
 ·rw[hn] at i8
  cases e:cQ a8 i j with
  |some w=>rw[e] at i8;exact i8.elim
  |none=>
   have e2:sdD a8 i j d=a8++[((i,j),d)]:=by unfold sdD;rw[e];rfl
   have e3:dtiV (sdD a8 i j d)=dtiV a8++[([.inl i,.inl j],.int d)]:=by rw[e2];simp[dtiV]
   obtain⟨o,es,ep,ho,hx,h3,h4,_,h5⟩:=Fd
   have new:ObjOk X.prog X.w (upd H a (.dT (dtiV (sdD a8 i j d)))) h' a (.dT (dtiV (sdD a8 i j d))):=by
    refine⟨by rw[e3,AI];simp[dtiV];lia,hd,_,?_,o,es,ep,ho,hx,h3,h4,h5⟩
    rw[e3]
    refine KT.keeps (H:=H) (Paired.snoc (a:=(([.inl i,.inl j]:List Key),V.int d)) (b:=(([.inl i,.inl j]:List Key),b,Value.int d t)) rel ⟨rfl,f9,⟨t,rfl⟩⟩) λc ys ec=>?_
    rw[ak (pW ec ha (λz=>nomatch z))]
    exact ec
   exact⟨.int d,_,su I (by rw[ha];exact True.intro) hs ⟨o,ho⟩ new,⟨t,rfl⟩,q d⟩
section
variable {X:Cx}[J:Jm]{a b c e o f:Expr}{ta tb tc te to:TME}{pos apos cpos:Pos}{t:TMA}
def mD0:TME:=λ_ M R=>R (.dti []) M
theorem wo:ME X (.Dict [] [] pos) mD0:=⟨pe_dnewT.anti λs H Q q=>by
 obtain⟨F,z,M,k,rs,R,h1,h2⟩:=q
 intro p hp
 have gn:=Grow.new k.fh hp (.dT [])
 exact h2 _ _ M _ _ gn.toM h1 (rep_dti.mpr ⟨p,rfl,az⟩) (rs.rm.grow gn)⟩
def mDN:TME:=λ_ M R=>∀ p,p ∉ au M->R (.ptr p) ((p,.dti [])::M)
theorem wr:ME X (.Dict [] [] pos) mDN:=⟨pe_dnewT.anti λs H Q q=>by
 obtain⟨F,z,M,k,rs,R,h1,h2⟩:=q
 intro p hp
 exact h2 _ _ _ F _ (GrowM.new k.fh hp) (h1 p λz=>rs.rm.here z hp) (rep_ptr.mpr rfl) (rs.rm.new k.fh hp az)⟩
def Av(to:TME)(t:TMA):TME:=λz M R=>to z M λd M1=>match d with| .dti a8=>(t z M1 λds M2=>match ds with|[.tup [.int i,.int j],.int x]=>R (.int ((cQ a8 i j).getD x)) M2|_=>False)|_=>False
def mDsd(to:TME)(t:TMA):TME:=λz M R=>to z M λd M1=>match d with| .ptr a=>(∃ a8,mget M1 a=some (.dti a8))/\(t z M1 λds M2=>match ds with|[.tup [.int i,.int j],.int x]=>∃ a8,mget M2 a=some (.dti a8)/\a8.length<100000/\∀ w,R (.int w) (mput M2 a (.dti (sdD a8 i j x)))|_=>False)|_=>False
theorem wt(hu:X.A.units+1<cLine)(ho:ME X o to)(ha:MA X [e,f] t)(b7:attributeBase o "setdefault" X.env (eval o X.env)=eval o X.env:=by rfl)
  (d7:zHF X cpos [e,f]:=by rfl)
  (c8:(apos.endLine==cpos.line)=true:=by rfl) (j9:zSE X e [f]:=by rfl) (b9:zPL X cpos [f]:=by rfl):
  ME X (.Call (.Attribute o "setdefault" apos) [e,f] [] cpos) (mDsd to t):=⟨(dZ PySem.F.plainAttrs_dict PySem.F.slot_dict_setdefault PySem.F.type_dict_setdefault (wn hu) ho.out ha.out b7 d7 c8 j9 b9).anti λs H Q h=>by
 obtain⟨F,z,M,k,rs,R,h1,h2⟩:=h
 refine⟨F,z,M,k,rs,_,h1,λx u M1 F1 H1 g1 hx rx m1=>?_⟩
 split at hx
 ·rename_i a
  obtain⟨⟨Kp,Gf⟩,hx⟩:=hx
  rw[rep_ptr.mp rx]
  refine⟨.inr (.inr (.inl ⟨rfl,.inr ⟨_,m1.ok _ _ (bB Gf)⟩⟩)),?_⟩
  refine⟨F1,z,M1,k.growM rs.mb g1,rs.growM k.bh g1 m1,_,hx,λds vs M2 F2 H2 g2 hd rd m2=>?_⟩
  split at hd
  ·rename_i i j x
   obtain⟨a8,hm,hl,hR⟩:=hd
   obtain⟨v1,r1,rfl,q1,q2⟩:=reps_cons.mp rd
   obtain⟨v2,r2,rfl,q3,q4⟩:=reps_cons.mp q2
   rw[reps_nil.mp q4,rep_int.mp q3]
   obtain⟨b,us,rfl,hb,ru⟩:=rep_tupS.mp q1
   have JB:us=[.int i,.int j]:=(Reps.ints (ns:=[i,j])).mp ru
   subst JB
   refine⟨a,b,i,j,x,a8,rfl,rfl,m2.ok _ _ (bB hm),g2.fh _ _ hb,hl,λw=>?_⟩
   exact h2 _ _ _ F2 _ (g1.trans (g2.trans (GrowM.put g2.fh (m2.fr a (bO (bB hm))) hm))) (hR w) (rep_int.mpr rfl) (m2.put hm az)
  ·exact hd.elim
 ·exact hx.elim⟩
end
section
variable {P:Program}{w:World}{K:Ax}{mg:Str->Option Value}{base:Heap}
open Classical in
theorem Cls.okIM{x qual:Str}{st:Stmt}{f C:Addr}{fd:FuncData}{N:List Str}{p0:Str}{ps:List Str}{k:Nat}{S:SiD}(T:Fun K "__init__" qual st f fd)(hb:Binds K fd (p0::ps) [])(F:FnScope N (p0::ps) (ag st))(len:∀ ds R,S ds R->ds.length=ps.length)
  (hns:nsIn K mainGlobals x=some (some (.ref C))) (j7:mg x=some (.ref C)) (mk:Mk K C f)
  (a9:∀ (cdv:Value) (A:Around) (outer:List Env) (s:Shared) (H:Hp) (E:XK) (J:Jm),Room k (A.deeper (envOfC qual (ag st) s.heap.objs.size f cdv))->XOkM (cxOf (CX1 P w) P w K mg base N qual (ag st) f cdv A outer s H E).nox->
   ∃ t,MSs (cxOf (CX1 P w) P w K mg base N qual (ag st) f cdv A outer s H E).nox (aJ st) t/\∀ a ds R,(∀ z M x fs,¬ J.RM z M x fs)->S ds R->t {nx:=λ_ M'=>∃ fs,M'=[(a,.ins x fs)]/\R fs,rt:=λ_ _=>False} (startD N (.ptr a::ds)) [(a,.ins x [])]):CalM P w K mg base (k+1) x (p0::ps) S:=by
 refine⟨C,f,fd,hns,j7,mk,Fun.okC T F (λvs H Q E h=>?_) (λcdv A outer s H vs Q E hr h=>?_),hb⟩
 ·obtain⟨a,dx,us,H1,F,ds,rfl,_,_,_,_,_,rs,R,h,_⟩:=h
  rw[AB,AB,rs.length,len ds R h]
 ·obtain⟨a,dx,us,H1,F1,ds,rfl,rfl,ha,q_,g6,fh,rs,R,h,q⟩:=h
  let H:Hp:=upd (upd H1 dx (.own a)) a (.ins C dx [])
  let B:Hp:=λb=>if b=a then none else H b
  have Ie:B a=none:=if_pos rfl
  have hB:∀ {b:Addr},b≠a->B b=H b:=λ{b} h=>if_neg h
  have w6:∀ {b:Addr} {o:HO},H1 b=some o->b≠a/\H b=some o:=λ{b o} e=>by
   have n1:b≠a:=bw e ha
   exact⟨n1,by show upd _ _ _ b=_;rw[ak n1,ak (bw e q_)];exact e⟩
  letI:Jm:={B:=B,F0:=F1,RX:=λ_ _ _=>False,RM:=λ_ _ _ _=>False}
  have hx:XOkM (cxOf (CX1 P w) P w K mg base N qual (ag st) f cdv A outer s H E).nox:=λσ z M' F' H' s' e C od y fs I kk rr hR er _=>hR.elim
  obtain⟨t,ht,hq⟩:=a9 cdv A outer s H E inferInstance hr hx
  have Fa:F1 a=none:=fh.free ha
  have k0:Kept B F1 F1 H:=⟨λb o e=>by
   by_cases n:b=a
   ·rw[n,Ie] at e;cases e
   ·rw[hB n] at e;exact e,λb o e=>(w6 (fh b o e)).2,Same.refl F1,λ_ h _=>h,rfl,Same.refl F1,λ_ h _=>h⟩
  have DC:Reps K F1 (.ptr a::ds) (.ref a::us):=reps_cons.mpr ⟨_,_,rfl,rep_ptr.mpr rfl,rs⟩
  have JC:RepM K F1 H [(a,.ins x [])]:=⟨by simp[au],λb o hb=>by
   have e:=Ay.mp hb
   cases e
   exact⟨C,dx,[],hns,az,repf_nil.mpr rfl⟩,λb hb=>by
   have e:b=a:=by simpa[au] using hb
   rw[e];exact Fa⟩
  have r0:RepZ K B F1 H (startD N (.ptr a::ds)) (L2.start N (.ref a::us)) [(a,.ins x [])]:=⟨eo DC,ow DC,JC,λb hb=>by
   have e:b=a:=by simpa[au] using hb
   rw[e];exact Ie⟩
  refine⟨_,ht.out.nox,F1,F1,_,_,k0,r0,_,hq a ds R (λ_ _ _ _ z=>z) h,⟨λz' s' M' F' H' kk hn r=>?_,λd v M' F' H' kk hd rd Ia mb=>hd.elim,λ_ _ _ _ _ _ h _=>h.elim,λ_ _ _ _ _ _ h _=>h.elim⟩⟩
  obtain⟨fs,rfl,hR⟩:=hn
  obtain⟨C',v_,ws,ge,d8,rf⟩:=r.rm.ok a _ (Ay.mpr rfl)
  have u8:nsIn K mainGlobals x=some (some (.ref C')):=ge
  rw[hns] at u8
  cases u8
  exact q fs ws v_ F' H' ⟨kk.f0,kk.fh,λb o e=>kk.bh b o (by show B b=some o;rw[hB (w6 e).1];exact(w6 e).2),λb h1 h2=>kk.out b h1 (by
   show B b≠none
   cases e:H1 b with
   |none=>exact absurd e h2
   |some o=>rw[hB (w6 e).1,(w6 e).2];exact λz=>nomatch z)⟩ hR d8 (r.rm.fr a (by simp[au])) rf
end
section
variable {P:Program}{w:World}{K:Ax}{mg:Str->Option Value}{base:Heap}{n:Nat}{x m:Str}{ps:List Str}
theorem CalMth.one{S:SpM}(h:CalMth P w K mg base n x m ps (lSpM K S)):∀ y,y∈[x]->CalMth P w K mg base n y m ps (lSpM K ((λ_=>S) y)):=λy hy=>by
 rw[Ay.mp hy];exact h
theorem oE{f:Addr}{fd:FuncData}{sp:Sp}(h:∀ vs H Q E,¬ sp vs H Q E):FnOk P w K mg base (CX1 P w) n f fd ps sp:=⟨λvs H Q E q=>(h _ _ _ _ q).elim,λA outer s H args us vs Q E _ _ _ _ q=>(h _ _ _ _ q).elim⟩
theorem oF{S:SpM}(h:∀ ds M R RX,¬ S ds M R RX):∀ vs H Q E,¬ lSpM K S vs H Q E:=by
 rintro vs H Q E ⟨F,ds,M,_,_,_,R,RX,q,_⟩
 exact h ds M R RX q
theorem CalMth.never{qual:Str}{st:Stmt}{S:SpM}(T:Txm K x m qual st ps)(h:∀ ds M R RX,¬ S ds M R RX):CalMth P w K mg base n x m ps (lSpM K S):=by
 obtain⟨C,f,fd,h1,h2,h3,T,hb⟩:=T
 exact⟨C,f,fd,h1,h2,h3,oE (oF h),hb⟩
theorem CalMM.never{st:Stmt}{S:SpM}(T:Tx K mg x st ps)(h:∀ ds M R RX,¬ S ds M R RX):CalMM P w K mg base n x ps S:=by
 obtain⟨f,fd,T,hb,hm⟩:=T
 exact⟨f,fd,oE (oF h),hb,T.kp,hm⟩
end
def iG(S:SpM):SpM:=λds M R RX=>∃ M1 M2,M=M1++M2/\S ds M2 (λd M'=>R d (M1++M')) λx fs M'=>RX x fs (M1++M')
theorem keys_app{M1 M2:MS}{a:Addr}:a∈au (M1++M2)↔a∈au M1\/a∈au M2:=by unfold au;rw[Bo,AW]
theorem oG{K:Ax}{S:SpM}{vs:List V}{H:Hp}{Q:VK}{E:XK}(h:lSpM K (iG S) vs H Q E):lSpM K S vs H Q E:=by
 obtain⟨F,ds,M,fh,rs,rm,R,RX,⟨M1,M2,rfl,hS⟩,q,qx⟩:=h
 have nd:(au M1++au M2).Nodup:=by have:=rm.nd;unfold au at this ⊢;rw[Bo] at this;exact this
 have Gm:∀ {a:Addr},a∈au M1->a ∉ au M2:=λ{a} h1 h2=>(BJ.mp nd).2.2 a h1 a h2 rfl
 have JD:RepM K F H M2:=⟨(BJ.mp nd).2.1,λa o h=>rm.ok a o (AJ _ h),λa h=>rm.fr a (keys_app.mpr (.inr h))⟩
 have up:∀ {M':MS} {F' H':Hp},GrowM M2 M' F H F' H'->RepM K F' H' M'->GrowM (M1++M2) (M1++M') F H F' H'/\RepM K F' H' (M1++M'):=λ{M' F' H'} g r=>by
  have t6:∀ {a:Addr},a∈au M1->H a≠none:=λ{a} h=>rm.here (keys_app.mpr (.inl h))
  have Gn:∀ {a:Addr},a∈au M1->a ∉ au M':=λ{a} h1 h2=>by
   rcases g.ks a h2 with z|z
   ·exact Gm h1 z
   ·exact t6 h1 z
  refine⟨⟨g.ff,g.fh,λb o nb e=>g.hh b o (λz=>nb (keys_app.mpr (.inr z))) e,λb nb h1 h2=>g.out b (λz=>nb (keys_app.mpr (.inr z))) h1 h2,λb hb=>?_⟩,⟨?_,λa o h=>?_,λa h=>?_⟩⟩
  ·rcases keys_app.mp hb with z|z
   ·exact .inl (keys_app.mpr (.inl z))
   ·exact(g.ks b z).imp (λz=>keys_app.mpr (.inr z)) id
  ·unfold au
   rw[Bo]
   exact BJ.mpr ⟨(BJ.mp nd).1,r.nd,λa h1 b h2 e=>Gn h1 (e ▸ h2)⟩
  ·rcases AW.mp h with z|z
   ·have ka:a∈au M1:=bO z
    exact(rm.ok a o (Bf _ z)).mono g.ff λo e=>g.hh a o (Gm ka) e
   ·exact r.ok a o z
  ·rcases keys_app.mp h with z|z
   ·exact g.out a (Gm z) (rm.fr a (keys_app.mpr (.inl z))) (t6 z)
   ·exact r.fr a z
 exact⟨F,ds,M2,fh,rs,JD,_,_,hS,λd v M' F' H' g hd rd m'=>q d v _ F' H' (up g m').1 hd rd (up g m').2,λx fs C od M' F' H' g hR er m'=>qx x fs C od _ F' H' (up g m').1 hR er (up g m').2⟩
section
variable {P:Program}{w:World}{K:Ax}{mg:Str->Option Value}{base:Heap}{n:Nat}{x m:Str}{ps:List Str}{S:SpM}
theorem CalMM.frame(C:CalMM P w K mg base n x ps S):CalMM P w K mg base n x ps (iG S):=C.imp λ_ _ _ _ h=>oG h
theorem CalMth.frame(C:CalMth P w K mg base n x m ps (lSpM K S)):CalMth P w K mg base n x m ps (lSpM K (iG S)):=C.imp λ_ _ _ _ h=>oG h
end
def nilX(S:SpX):SpM:=λds M R RX=>M=[]/\∃ (R0:D->Prop) (Dq:XD),S ds R0 Dq/\(∀ d M',R0 d->R d M')/\∀ x fs M',Dq x fs->RX x fs M'
theorem CalMM.nilX{P:Program}{w:World}{K:Ax}{mg:Str->Option Value}{base:Heap}{n:Nat}{x:Str}{ps:List Str}{S:SpX}(C:CalMM P w K mg base n x ps (nilX S)):CalX P w K mg base n x ps S:=C.toX λ_ R RX h=>⟨rfl,R,RX,h,λ_ _ h=>h,λ_ _ _ h=>h⟩
end My
namespace My
section
variable {K:Ax}{h:Heap}{mg:Str->Option Value}{x y m q f:Str}{st:Stmt}{ps:List Str}
abbrev NsC(K:Ax)(x:Str)(C:Addr):Prop:=nsIn K mainGlobals x=some (some (.ref C))
theorem NsC.uniq{C D:Addr}(a:NsC K x C)(b:NsC K x D):C=D:=by
 have e:=a.symm.trans b
 cases e;rfl
abbrev BindA(x q:Str)(st:Stmt)(ps:List Str):Prop:=∀ (kV doc pm:Value) (an:Option Addr) (cdv ct:Value) (us:List Value),us.length=ps.length->bindArgs (fnOf x q (bo st) (aJ st) (ag st) .none kV doc pm an cdv ct) ⟨us,[]⟩=pure (ps.zip us)
def FnIn(K:Ax)(x:Str)(st:Stmt):Prop:=∃ f fd,NsC K x f/\Fun K x x st f fd
theorem fnIn_mk{f:Addr}{oc:Value}{od an:Option Addr}{sl:Array (Option Value)}{kV dc pm cd ct:Value}(a:nsIn K mainGlobals x=some (some (.ref f)))(l:K.lookup f=some ⟨oc,od,.func (fnOf x x (bo st) (aJ st) (ag st) .none kV dc pm an cd ct),sl⟩)(c:codeIn K cd x=true)(k:keepIn K (.ref f)=true):FnIn K x st:=⟨f,_,a,fk l c k⟩
theorem FnIn.tx(T:FnIn K x st)(X:K.In h)(G:h.Ns mainGlobals mg)(b:BindA x x st ps):Tx K mg x st ps:=by
 obtain⟨f,fd,a,F⟩:=T
 exact⟨f,fd,F,F.binds b,mg_of X G a⟩
theorem FnIn.law{p:Str}(T:FnIn K x st)(X:K.In h)(G:h.Ns mainGlobals mg){fa:Addr}(Em:mg x=some (.ref fa))(b:∀ (kV doc pm:Value) (an:Option Addr) (cdv ct v:Value),bindArgs (fnOf x x (bo st) (aJ st) (ag st) .none kV doc pm an cdv ct) ⟨[v],[]⟩=pure [(p,v)]):∃ fd,(∀ (s:Shared) (v:Value),BindsTo s fd ⟨[v],[]⟩ [(p,v)])/\Fun K x x st fa fd:=by
 obtain⟨f,fd,a,F⟩:=T
 have e:=Em.symm.trans (mg_of X G a)
 cases e
 refine⟨fd,λs v=>?_,F⟩
 obtain⟨oc,od,kV,doc,pm,an,cdv,ct,osl,rfl,lk,f7⟩:=F.ex
 exact .of_eq (b _ _ _ _ _ _ v)
theorem br{us:List Value}{x:Str}{xs:List Str}(h:us.length=(x::xs).length):∃ u t,us=u::t/\t.length=xs.length:=by
 cases us with
 |nil=>cases h
 |cons u t=>exact⟨u,t,rfl,Nat.succ.inj h⟩
theorem len_0{us:List Value}(h:us.length=([]:List Str).length):us=[]:=Cg h
theorem wu{x0:Str}(b:∀ (kV doc pm:Value) (an:Option Addr) (cdv ct u0:Value),bindArgs (fnOf x q (bo st) (aJ st) (ag st) .none kV doc pm an cdv ct) ⟨[u0],[]⟩=pure [(x0,u0)]):BindA x q st [x0]:=λkV doc pm an cdv ct us hl=>by
 obtain⟨u0,t0,rfl,h0⟩:=br hl
 cases len_0 h0
 exact b kV doc pm an cdv ct u0
theorem bind2{x0 x1:Str}(b:∀ (kV doc pm:Value) (an:Option Addr) (cdv ct u0 u1:Value),bindArgs (fnOf x q (bo st) (aJ st) (ag st) .none kV doc pm an cdv ct) ⟨[u0,u1],[]⟩=pure [(x0,u0),(x1,u1)]):BindA x q st [x0,x1]:=λkV doc pm an cdv ct us hl=>by
 obtain⟨u0,t0,rfl,h0⟩:=br hl
 obtain⟨u1,t1,rfl,h1⟩:=br h0
 cases len_0 h1
 exact b kV doc pm an cdv ct u0 u1
theorem bind3{x0 x1 x2:Str}(b:∀ (kV doc pm:Value) (an:Option Addr) (cdv ct u0 u1 u2:Value),bindArgs (fnOf x q (bo st) (aJ st) (ag st) .none kV doc pm an cdv ct) ⟨[u0,u1,u2],[]⟩=pure [(x0,u0),(x1,u1),(x2,u2)]):BindA x q st [x0,x1,x2]:=λkV doc pm an cdv ct us hl=>by
 obtain⟨u0,t0,rfl,h0⟩:=br hl
 obtain⟨u1,t1,rfl,h1⟩:=br h0
 obtain⟨u2,t2,rfl,h2⟩:=br h1
 cases len_0 h2
 exact b kV doc pm an cdv ct u0 u1 u2
theorem bind4{x0 x1 x2 x3:Str}(b:∀ (kV doc pm:Value) (an:Option Addr) (cdv ct u0 u1 u2 u3:Value),bindArgs (fnOf x q (bo st) (aJ st) (ag st) .none kV doc pm an cdv ct) ⟨[u0,u1,u2,u3],[]⟩=pure [(x0,u0),(x1,u1),(x2,u2),(x3,u3)]):BindA x q st [x0,x1,x2,x3]:=λkV doc pm an cdv ct us hl=>by
 obtain⟨u0,t0,rfl,h0⟩:=br hl
 obtain⟨u1,t1,rfl,h1⟩:=br h0
 obtain⟨u2,t2,rfl,h2⟩:=br h1
 obtain⟨u3,t3,rfl,h3⟩:=br h2
 cases len_0 h3
 exact b kV doc pm an cdv ct u0 u1 u2 u3
theorem bind5{x0 x1 x2 x3 x4:Str}(b:∀ (kV doc pm:Value) (an:Option Addr) (cdv ct u0 u1 u2 u3 u4:Value),bindArgs (fnOf x q (bo st) (aJ st) (ag st) .none kV doc pm an cdv ct) ⟨[u0,u1,u2,u3,u4],[]⟩=pure [(x0,u0),(x1,u1),(x2,u2),(x3,u3),(x4,u4)]):BindA x q st [x0,x1,x2,x3,x4]:=λkV doc pm an cdv ct us hl=>by
 obtain⟨u0,t0,rfl,h0⟩:=br hl
 obtain⟨u1,t1,rfl,h1⟩:=br h0
 obtain⟨u2,t2,rfl,h2⟩:=br h1
 obtain⟨u3,t3,rfl,h3⟩:=br h2
 obtain⟨u4,t4,rfl,h4⟩:=br h3
 cases len_0 h4
 exact b kV doc pm an cdv ct u0 u1 u2 u3 u4
structure ClF(K:Ax)(x:Str)(C:Addr):Prop where
 ns:NsC K x C
 cl:Cls K C
 ha:AD K (.ref C) "__class__"=some (some (.builtin "object.__class__"))
 hn:specialIn K (.builtin "object.__class__") "__get__"=some (some (.builtin "getset_descriptor.__get__"))
 ht:takesIn K (.builtin "object.__class__")=some true
 hm:Bc K C (.type "object")=some true
def ClIn(K:Ax)(x:Str):Prop:=∃ C,ClF K x C
theorem clIn_mk{C:Addr}(a:nsIn K mainGlobals x=some (some (.ref C)))(pg:plainGet K C Str.empty=true)(hd:hasDictIn K C=true)(po:plainOver K C=true)(sa:AD K (.ref C) "__setattr__"=some (some (.builtin "object.__setattr__")))
  (ha:AD K (.ref C) "__class__"=some (some (.builtin "object.__class__"))) (hn:specialIn K (.builtin "object.__class__") "__get__"=some (some (.builtin "getset_descriptor.__get__"))) (ht:takesIn K (.builtin "object.__class__")=some true) (hm:Bc K C (.type "object")=some true):ClIn K x:=⟨C,a,⟨pg,hd,po,sa⟩,ha,hn,ht,hm⟩
theorem ClIn.i(c:ClIn K x)(X:K.In h)(G:h.Ns mainGlobals mg):∃ C,ClsI K mg x C:=by
 obtain⟨C,k⟩:=c
 exact⟨C,k.ns,mg_of X G k.ns,k.cl,k.ha,k.hn,k.ht,k.hm,vd⟩
def NoIn(K:Ax)(x f:Str):Prop:=∃ C,NsC K x C/\AD K (.ref C) f=some none
theorem noIn_mk{C:Addr}(a:nsIn K mainGlobals x=some (some (.ref C)))(b:AD K (.ref C) f=some none):NoIn K x f:=⟨C,a,b⟩
theorem ClIn.a(c:ClIn K x)(n:NoIn K x f):ClsA K x f:=by
 obtain⟨C,k⟩:=c
 obtain⟨D,a,b⟩:=n
 cases NsC.uniq k.ns a
 exact⟨C,a,k.cl,b⟩
theorem NoIn.all(n:NoIn K x f):∀ C,nsIn K mainGlobals x=some (some (.ref C))->AD K (.ref C) f=some none:=λC hC=>by
 obtain⟨D,a,b⟩:=n
 cases NsC.uniq hC a
 exact b
def MtIn(K:Ax)(x m q:Str)(st:Stmt):Prop:=∃ C f fd,NsC K x C/\Meth K C m f/\Fun K m q st f fd
theorem mtIn_mk{C f:Addr}{oc:Value}{od an:Option Addr}{sl:Array (Option Value)}{kV dc pm cd ct:Value}(a:nsIn K mainGlobals x=some (some (.ref C)))(b:AD K (.ref C) m=some (some (.ref f)))(i:isFn K (.ref f)=true)(l:K.lookup f=some ⟨oc,od,.func (fnOf m q (bo st) (aJ st) (ag st) .none kV dc pm an cd ct),sl⟩)(c:codeIn K cd q=true)(k:keepIn K (.ref f)=true):MtIn K x m q st:=⟨C,f,_,a,⟨b,i,k⟩,fk l c k⟩
theorem MtIn.txm(T:MtIn K x m q st)(c:ClIn K x)(b:BindA m q st ps):Txm K x m q st ps:=by
 obtain⟨C,k⟩:=c
 obtain⟨D,f,fd,a,mt,F⟩:=T
 cases NsC.uniq k.ns a
 exact⟨C,f,fd,a,k.cl,mt,F,F.binds b⟩
def InIn(K:Ax)(x q:Str)(st:Stmt):Prop:=∃ C f fd,NsC K x C/\Mk K C f/\Fun K "__init__" q st f fd
theorem inIn_mk{C f:Addr}{oc:Value}{od an:Option Addr}{sl:Array (Option Value)}{kV dc pm cd ct:Value}(a:nsIn K mainGlobals x=some (some (.ref C)))(mk:makesIn K C=true)(b:AD K (.ref C) "__init__"=some (some (.ref f)))(i:isFn K (.ref f)=true)(kp:keepIn K (.ref C)=true)(l:K.lookup f=some ⟨oc,od,.func (fnOf "__init__" q (bo st) (aJ st) (ag st) .none kV dc pm an cd ct),sl⟩)(c:codeIn K cd q=true)(k:keepIn K (.ref f)=true):InIn K x q st:=⟨C,f,_,a,⟨mk,b,i,kp⟩,fk l c k⟩
def Txi(K:Ax)(mg:Str->Option Value)(x q:Str)(st:Stmt)(ps:List Str):Prop:=∃ C f fd,NsC K x C/\mg x=some (.ref C)/\Mk K C f/\Fun K "__init__" q st f fd/\Binds K fd ps []
theorem InIn.txi(T:InIn K x q st)(X:K.In h)(G:h.Ns mainGlobals mg)(b:BindA "__init__" q st ps):Txi K mg x q st ps:=by
 obtain⟨C,f,fd,a,mk,F⟩:=T
 exact⟨C,f,fd,a,mg_of X G a,mk,F,F.binds b⟩
def CiIn(K:Ax)(x:Str)(i:Int):Prop:=∃ t,nsIn K mainGlobals x=some (some (.int i t))
def CsIn(K:Ax)(x y:Str):Prop:=∃ t,nsIn K mainGlobals x=some (some (.str y t))
theorem ciIn_mk{i:Int}{t:Tok}(a:nsIn K mainGlobals x=some (some (.int i t))):CiIn K x i:=⟨t,a⟩
theorem csIn_mk{t:Tok}(a:nsIn K mainGlobals x=some (some (.str y t))):CsIn K x y:=⟨t,a⟩
theorem CiIn.g{i:Int}(c:CiIn K x i)(X:K.In h)(G:h.Ns mainGlobals mg):∃ t,mg x=some (.int i t):=let ⟨t,a⟩:=c;⟨t,mg_of X G a⟩
theorem CsIn.g(c:CsIn K x y)(X:K.In h)(G:h.Ns mainGlobals mg):∃ t,mg x=some (.str y t):=let ⟨t,a⟩:=c;⟨t,mg_of X G a⟩
def NnIn(K:Ax)(x:Str):Prop:=nsIn K mainGlobals x=some none
theorem nnIn_mk(a:nsIn K mainGlobals x=some none):NnIn K x:=a
structure ErF(K:Ax)(x:Str)(bm:List Value)(C N:Addr):Prop where
 ns:NsC K x C
 kp:keepIn K (.ref C)=true
 ob:∃ nm q bs sn sub ab col dd k0 k1 k2 k3 k5,K.lookup C=some (excClassObj nm q C N bs bm true sn sub ab col dd k0 k1 k2 k3 k5 "ValueError.__new__")
structure ErN(K:Ax)(N:Addr):Prop where
 ok:nsOkIn K N=true
 no:nsIn K N "__init__"=some none
def EbIn(K:Ax):Prop:=∃ C N,ErF K "MotifError" Exc.veLine C N/\ErN K N
def EdIn(K:Ax)(x:Str)(C N:Addr):Prop:=∃ B,NsC K "MotifError" B/\ErF K x (.ref B::Exc.veLine) C N
def E0In(K:Ax)(x:Str):Prop:=∃ C N,EdIn K x C N/\ErN K N
def E1In(K:Ax)(x q:Str)(st:Stmt):Prop:=∃ C N f fd,EdIn K x C N/\AD K (.ref C) "__init__"=some (some (.ref f))/\isFn K (.ref f)=true/\Fun K "__init__" q st f fd
def EaIn(K:Ax)(x:Str):Prop:=∃ C,NsC K x C/\AD K (.ref C) "__setattr__"=some (some (.builtin "object.__setattr__"))
def EgIn(K:Ax)(x:Str):Prop:=∃ C,NsC K x C/\AD K (.ref C) "__getattribute__"=some (some (.builtin "BaseException.__getattribute__"))/\AD K (.ref C) "__getattr__"=some none
def EiIn(K:Ax)(x:Str):Prop:=∃ M,NsC K x M/\readsIn K M (.type "type")=true/\findCls K (.ref M) (.type "type") "__init__"=some (.val (.builtin "ValueError.__init__"))/\specialIn K (.ref M) "__getattribute__"=some (some (.builtin "type.__getattribute__"))
def EmIn(K:Ax)(x y:Str):Prop:=∃ C D,NsC K x C/\NsC K y D/\Bc K C (.ref D)=some (subE x y)
section
variable {B C D N:Addr}{nm qn:Str}{bs:List Value}{sn:List Str}{sub:List Value}{ab:Bool}{col:Option Bool}{dd:Option Addr}{k0 k1 k2 k3 k5:Option Value}{nc:Value}{nd:Option Addr}{ne:Array DictEntry}{np:Nat}{nl:Array (Option Value)}
theorem ebIn_mk(a:nsIn K mainGlobals "MotifError"=some (some (.ref C)))(kp:keepIn K (.ref C)=true)(o:K.lookup C=some (excClassObj nm qn C N bs Exc.veLine true sn sub ab col dd k0 k1 k2 k3 k5 "ValueError.__new__"))(nk:K.lookup N=some ⟨nc,nd,.dict ne np,nl⟩)(al:ne.toList.all (λe=>match e.key with| .str _ _=>true|_=>false)=true)(ni:nsIn K N "__init__"=some none):EbIn K:=⟨C,N,⟨a,kp,_,_,_,_,_,_,_,_,_,_,_,_,_,o⟩,nW nk al,ni⟩
theorem e0In_mk(b:nsIn K mainGlobals "MotifError"=some (some (.ref B)))(a:nsIn K mainGlobals x=some (some (.ref C)))(kp:keepIn K (.ref C)=true)(o:K.lookup C=some (excClassObj nm qn C N bs (.ref B::Exc.veLine) true sn sub ab col dd k0 k1 k2 k3 k5 "ValueError.__new__"))(nk:K.lookup N=some ⟨nc,nd,.dict ne np,nl⟩)(al:ne.toList.all (λe=>match e.key with| .str _ _=>true|_=>false)=true)(ni:nsIn K N "__init__"=some none):E0In K x:=⟨C,N,⟨B,b,a,kp,_,_,_,_,_,_,_,_,_,_,_,_,_,o⟩,nW nk al,ni⟩
theorem e1In_mk{f:Addr}{oc:Value}{od an:Option Addr}{sl:Array (Option Value)}{kV dc pm cd ct:Value}(b:nsIn K mainGlobals "MotifError"=some (some (.ref B)))(a:nsIn K mainGlobals x=some (some (.ref C)))(kp:keepIn K (.ref C)=true)(o:K.lookup C=some (excClassObj nm qn C N bs (.ref B::Exc.veLine) true sn sub ab col dd k0 k1 k2 k3 k5 "ValueError.__new__"))
  (j:AD K (.ref C) "__init__"=some (some (.ref f))) (i:isFn K (.ref f)=true) (l:K.lookup f=some ⟨oc,od,.func (fnOf "__init__" q (bo st) (aJ st) (ag st) .none kV dc pm an cd ct),sl⟩) (c:codeIn K cd q=true) (k:keepIn K (.ref f)=true):E1In K x q st:=⟨C,N,f,_,⟨B,b,a,kp,_,_,_,_,_,_,_,_,_,_,_,_,_,o⟩,j,i,fk l c k⟩
theorem eaIn_mk(a:nsIn K mainGlobals x=some (some (.ref C)))(b:AD K (.ref C) "__setattr__"=some (some (.builtin "object.__setattr__"))):EaIn K x:=⟨C,a,b⟩
theorem eiIn_mk(a:nsIn K mainGlobals x=some (some (.ref C)))(b:readsIn K C (.type "type")=true)(c:findCls K (.ref C) (.type "type") "__init__"=some (.val (.builtin "ValueError.__init__")))(d:specialIn K (.ref C) "__getattribute__"=some (some (.builtin "type.__getattribute__"))):EiIn K x:=⟨C,a,b,c,d⟩
theorem emIn_mkT(e:subE x y=true)(a:nsIn K mainGlobals x=some (some (.ref C)))(c:nsIn K mainGlobals y=some (some (.ref D)))(d:Bc K C (.ref D)=some true):EmIn K x y:=⟨C,D,a,c,e ▸ d⟩
theorem emIn_mkF(e:subE x y=false)(a:nsIn K mainGlobals x=some (some (.ref C)))(c:nsIn K mainGlobals y=some (some (.ref D)))(d:Bc K C (.ref D)=some false):EmIn K x y:=⟨C,D,a,c,e ▸ d⟩
end
theorem EbIn.k(e:EbIn K)(X:K.In h)(G:h.Ns mainGlobals mg):∃ C N bm,ErrK K mg "MotifError" C N bm/\ErrN K N:=by
 obtain⟨C,N,k,n⟩:=e
 exact⟨C,N,_,⟨k.ns,mg_of X G k.ns,k.kp,k.ob,nV⟩,n.ok,n.no⟩
theorem EdIn.k{C N:Addr}(e:EdIn K x C N)(b:EbIn K)(X:K.In h)(G:h.Ns mainGlobals mg):∃ bm,ErrK K mg x C N bm:=by
 obtain⟨B,hB,k⟩:=e
 obtain⟨B',N',kb,n⟩:=b
 cases NsC.uniq kb.ns hB
 obtain⟨_,_,_,_,_,_,_,_,_,_,_,_,_,o⟩:=kb.ob
 exact⟨_,k.ns,mg_of X G k.ns,k.kp,k.ob,vc o rfl n.ok n.no⟩
theorem E0In.k(e:E0In K x)(b:EbIn K)(X:K.In h)(G:h.Ns mainGlobals mg):∃ C N bm,ErrK K mg x C N bm/\ErrN K N:=by
 obtain⟨C,N,k,n⟩:=e
 obtain⟨bm,z⟩:=k.k b X G
 exact⟨C,N,bm,z,n.ok,n.no⟩
def Txe(K:Ax)(mg:Str->Option Value)(x q:Str)(st:Stmt)(ps:List Str):Prop:=∃ C N bm f fd,ErrK K mg x C N bm/\AD K (.ref C) "__init__"=some (some (.ref f))/\isFn K (.ref f)=true/\Fun K "__init__" q st f fd/\Binds K fd ps []
theorem E1In.txe(e:E1In K x q st)(b:EbIn K)(X:K.In h)(G:h.Ns mainGlobals mg)(bi:BindA "__init__" q st ps):Txe K mg x q st ps:=by
 obtain⟨C,N,f,fd,k,i,j,F⟩:=e
 obtain⟨bm,z⟩:=k.k b X G
 exact⟨C,N,bm,f,fd,z,i,j,F,F.binds bi⟩
theorem ErrK.a'{C N:Addr}{bm:List Value}(k:ErrK K mg x C N bm)(a:EaIn K x):∃ C cd,ErrA K x C cd:=by
 obtain⟨D,hD,sa⟩:=a
 cases NsC.uniq k.ns hD
 exact⟨C,k.a sa⟩
theorem E1In.a(e:E1In K x q st)(b:EbIn K)(a:EaIn K x)(X:K.In h)(G:h.Ns mainGlobals mg):∃ C cd,ErrA K x C cd:=by
 obtain⟨C,N,f,fd,k,_⟩:=e
 obtain⟨bm,z⟩:=k.k b X G
 exact z.a' a
theorem E1In.c(e:E1In K x q st)(b:EbIn K)(X:K.In h)(G:h.Ns mainGlobals mg):∃ C N bm,ErrK K mg x C N bm:=by
 obtain⟨C,N,f,fd,k,_⟩:=e
 obtain⟨bm,z⟩:=k.k b X G
 exact⟨C,N,bm,z⟩
theorem EiIn.b(e:EiIn K x)(X:K.In h)(G:h.Ns mainGlobals mg):∃ M,BaseK K mg x M:=by
 obtain⟨M,a,b,c,d⟩:=e
 exact⟨M,mg_of X G a,b,c,d⟩
theorem EgIn.g(e:EgIn K x)(a:∃ C cd,ErrA K x C cd)(n:NoIn K x f):ErrG K f x:=by
 obtain⟨C,h1,h2,h3⟩:=e
 obtain⟨D,cd,ea⟩:=a
 cases NsC.uniq ea.ns h1
 exact⟨C,cd,ea,h2,h3,n.all C h1⟩
def AllP(p:Str->Prop):List Str->Prop
 |[]=>True
 |a::l=>p a/\AllP p l
theorem AllP.mem{p:Str->Prop}:∀ {l:List Str},AllP p l->∀ x∈l,p x
 |_::_,h,_,.head _=>h.1
 |_::_,h,_,.tail _ m=>AllP.mem h.2 _ m
theorem wv{es:List Str}(c:AllP (λx=>∃ C N bm,ErrK K mg x C N bm) es)(s:AllP (λx=>AllP (λy=>EmIn K x y) es) es):ErrsK K mg es:=by
 refine⟨c.mem,λx hx y hy C C' h1 h2=>?_⟩
 obtain⟨A,B,a,b,m⟩:=(s.mem x hx).mem y hy
 cases NsC.uniq a h1
 cases NsC.uniq b h2
 exact m
end
structure Bx where
 P:Program
 w:World
 K:Ax
 mg:Str->Option Value
 base:Heap
abbrev Bx.T(V:Bx)(x:Str)(st:Stmt)(ps:List Str):Prop:=Tx V.K V.mg x st ps
abbrev Bx.Tm(V:Bx)(x m q:Str)(st:Stmt)(ps:List Str):Prop:=Txm V.K x m q st ps
abbrev Bx.Ti(V:Bx)(x q:Str)(st:Stmt)(ps:List Str):Prop:=Txi V.K V.mg x q st ps
abbrev Bx.Te(V:Bx)(x q:Str)(st:Stmt)(ps:List Str):Prop:=Txe V.K V.mg x q st ps
abbrev Bx.Ek(V:Bx)(es:List Str):Prop:=ErrsK V.K V.mg es
abbrev Bx.m(V:Bx)(x:Str):Prop:=V.mg x=none
abbrev Bx.gi(V:Bx)(x:Str)(i:Int):Prop:=∃ t,V.mg x=some (.int i t)
abbrev Bx.gs(V:Bx)(x y:Str):Prop:=∃ t,V.mg x=some (.str y t)
abbrev Bx.a(V:Bx)(x f:Str):Prop:=ClsA V.K x f
abbrev Bx.i(V:Bx)(x:Str):Prop:=∃ C,ClsI V.K V.mg x C
abbrev Bx.D(V:Bx)(n:Nat)(x:Str)(ps:List Str)(S:SpD):Prop:=CalD V.P V.w V.K V.mg V.base n x ps S
abbrev Bx.X(V:Bx)(n:Nat)(x:Str)(ps:List Str)(S:SpX):Prop:=CalX V.P V.w V.K V.mg V.base n x ps S
abbrev Bx.MM(V:Bx)(n:Nat)(x:Str)(ps:List Str)(S:SpM):Prop:=CalMM V.P V.w V.K V.mg V.base n x ps S
abbrev Bx.M(V:Bx)(n:Nat)(x:Str)(ps:List Str)(S:SiD):Prop:=CalM V.P V.w V.K V.mg V.base n x ps S
abbrev Bx.E(V:Bx)(n:Nat)(x:Str)(ps:List Str)(S:SiD):Prop:=CalE V.P V.w V.K V.mg V.base n x ps S
abbrev Bx.Q(V:Bx)(n:Nat)(x m:Str)(ps:List Str)(S:SpM):Prop:=CalMth V.P V.w V.K V.mg V.base n x m ps (lSpM V.K S)
abbrev Bx.n(V:Bx)(x:Str):Prop:=∃ C N bm,ErrK V.K V.mg x C N bm/\ErrN V.K N
abbrev Bx.b(V:Bx)(x:Str):Prop:=∃ M,BaseK V.K V.mg x M
abbrev Bx.ea(V:Bx)(x:Str):Prop:=∃ C cd,ErrA V.K x C cd
abbrev Bx.xf(V:Bx)(x f:Str):Prop:=∀ C,nsIn V.K mainGlobals x=some (some (.ref C))->AD V.K (.ref C) f=some none
abbrev Bx.x(V:Bx)(f:Str)(ys:List Str):Prop:=∀ y∈ys,ErrG V.K f y
section
variable {P:Program}{w:World}{K:Ax}{mg:Str->Option Value}{base:Heap}
theorem Txi.okI{x qual:Str}{st:Stmt}{N:List Str}{p0:Str}{ps:List Str}{k:Nat}{S:SiD}(T:Txi K mg x qual st (p0::ps))(F:FnScope (p0::N) (p0::ps) (ag st))(len:∀ ds R,S ds R->ds.length=ps.length)
  (a9:∀ (f:Addr) (cdv:Value) (A:Around) (outer:List Env) (s:Shared) (H:Hp) (E:XK) (J:Jx),Room k (A.deeper (envOfC qual (ag st) s.heap.objs.size f cdv))->
   ∃ t,WDI (cxOf (Exc.CX1 P w) P w K mg base (p0::N) qual (ag st) f cdv A outer s H E).nox x (aJ st) t/\∀ ds R,S ds R->t (none::startD N ds) [] R):CalM P w K mg base (k+1) x (p0::ps) S:=by
 obtain⟨C,f,fd,a,b,c,d,e⟩:=T
 exact Cls.okIW d e F len a b c (a9 f)
theorem Txi.okIM{x qual:Str}{st:Stmt}{N:List Str}{p0:Str}{ps:List Str}{k:Nat}{S:SiD}(T:Txi K mg x qual st (p0::ps))(F:FnScope N (p0::ps) (ag st))(len:∀ ds R,S ds R->ds.length=ps.length)
  (a9:∀ (f:Addr) (cdv:Value) (A:Around) (outer:List Env) (s:Shared) (H:Hp) (E:XK) (J:Jm),Room k (A.deeper (envOfC qual (ag st) s.heap.objs.size f cdv))->XOkM (cxOf (Exc.CX1 P w) P w K mg base N qual (ag st) f cdv A outer s H E).nox->
   ∃ t,MSs (cxOf (Exc.CX1 P w) P w K mg base N qual (ag st) f cdv A outer s H E).nox (aJ st) t/\∀ a ds R,(∀ z M x fs,¬ J.RM z M x fs)->S ds R->t {nx:=λ_ M'=>∃ fs,M'=[(a,.ins x fs)]/\R fs,rt:=λ_ _=>False} (startD N (.ptr a::ds)) [(a,.ins x [])]):CalM P w K mg base (k+1) x (p0::ps) S:=by
 obtain⟨C,f,fd,a,b,c,d,e⟩:=T
 exact Cls.okIM d e F len a b c (a9 f)
theorem Txe.okE{x qual:Str}{st:Stmt}{N:List Str}{p0:Str}{ps:List Str}{k:Nat}{S:SiD}(T:Txe K mg x qual st (p0::ps))(F:FnScope (p0::N) (p0::ps) (ag st))(len:∀ ds R,S ds R->ds.length=ps.length)
  (a9:∀ (f:Addr) (cdv:Value) (A:Around) (outer:List Env) (s:Shared) (H:Hp) (E:XK) (J:Jx),Room k (A.deeper (envOfC qual (ag st) s.heap.objs.size f cdv))->
   ∃ t,WDX (cxOf (Exc.CX1 P w) P w K mg base (p0::N) qual (ag st) f cdv A outer s H E).nox x (aJ st) t/\∀ ds R,S ds R->t (none::startD N ds) [] R):CalE P w K mg base (k+1) x (p0::ps) S:=by
 obtain⟨C,N',bm,f,fd,a,b,c,d,e⟩:=T
 exact Cls.okEW d e F len a b c (a9 f)
end
section
variable {X:Cx}[J:Jx]{a b c e o gV iter:Expr}{es:List Expr}{ta tb tc te to ti tj:TD}{tt:TDT}{t:TDA}{pos px:Pos}{x:Str}{scope:Scope}
def EqE(K:Ax)(H:Hp)(x y:V)(b:Bool):Prop:=(bz x=true/\bz y=true/\b=eqV x y)\/∃ a a' xs ys,x= .ref a/\y= .ref a'/\((SqT K H a xs/\SqT K H a' ys)\/(SqL K H a xs/\SqL K H a' ys))/\xs.all bz=true/\ys.all bz=true/\b=eqVs xs ys
def sh2(x y:D):Bool:=(aX x && aX y)||match x,y with| .tup a,.tup b=>a.all aX && b.all aX| .lst a,.lst b=>a.all aX && b.all aX|_,_=>false
def eq2(x y:D):Bool:=match x,y with| .tup a,.tup b=>eqFs a b| .lst a,.lst b=>eqFs a b|x,y=>eqF x y
theorem EqE.of{K:Ax}{F H:Hp}(fh:Same F H){x y:D}{u v:V}(rx:Rep K F x u)(ry:Rep K F y v)(h:sh2 x y=true):EqE K H u v (eq2 x y):=by
 unfold sh2 at h
 rw[Bool.or_eq_true,AZ] at h
 rcases h with⟨f1,f2⟩|h
 ·refine .inl ⟨du rx f1,du ry f2,?_⟩
  rw[eqV_of rx ry f1 f2]
  unfold eq2
  split
  ·cases f1
  ·cases f1
  ·rfl
 ·split at h
  ·rw[AZ] at h
   obtain⟨a,us,rfl,hq,rr⟩:=rep_tup_mp rx
   obtain⟨b,vs,rfl,n6,p6⟩:=rep_tup_mp ry
   exact .inr ⟨a,b,us,vs,rfl,rfl,.inl ⟨fh.tup hq,fh.tup n6⟩,cw rr h.1,cw p6 h.2,(ik rr p6 h.1 h.2).symm⟩
  ·rw[AZ] at h
   obtain⟨a,us,rfl,hq,rr⟩:=rep_lst.mp rx
   obtain⟨b,vs,rfl,n6,p6⟩:=rep_lst.mp ry
   exact .inr ⟨a,b,us,vs,rfl,rfl,.inr ⟨SqL.of (fh _ _ hq),SqL.of (fh _ _ n6)⟩,cw rr h.1,cw p6 h.2,(ik rr p6 h.1 h.2).symm⟩
  ·cases h
def sh2s:List D->List D->Bool
 |[],[]=>true
 |x::xs,y::ys=>sh2 x y && sh2s xs ys
 |_,_=>false
def eq2s(xs ys:List D):List Bool:=List.zipWith eq2 xs ys
theorem EqE.all{K:Ax}{F H:Hp}(fh:Same F H):∀ {xs ys:List D} {us vs:List V},Reps K F xs us->Reps K F ys vs->sh2s xs ys=true->us.length=vs.length/\(eq2s xs ys).length=us.length/\∀ j,j<us.length->EqE K H (us.getD j .non) (vs.getD j .non) ((eq2s xs ys).getD j true)
 |[],[],us,vs,r1,r2,_=>by
  rw[reps_nil.mp r1,reps_nil.mp r2]
  exact⟨rfl,rfl,λj h=>absurd h (CO j)⟩
 |x::xs,y::ys,us,vs,r1,r2,h=>by
  obtain⟨u,ur,rfl,a1,a2⟩:=reps_cons.mp r1
  obtain⟨v,vr,rfl,b1,b2⟩:=reps_cons.mp r2
  rw[sh2s,AZ] at h
  obtain⟨q1,q2,q3⟩:=EqE.all fh a2 b2 h.2
  refine⟨by rw[AB,AB,q1],by show(eq2s xs ys).length+1=_;rw[q2,AB],λj hj=>?_⟩
  cases j with
  |zero=>exact EqE.of fh a1 b1 h.1
  |succ j=>exact q3 j (Nat.lt_of_succ_lt_succ hj)
end
end My
end
section
namespace My
open PySem PySem.Spec PyProof.Rows L2
theorem b64B{w:Int}(h:0<w)(h':w<=33554432): -(2 ^ 64)<w/\w<2 ^ 64:=by lia
theorem s64B{s w:Int}(h:0<=s)(h':s<w)(Kq:w<=33554432): -(2 ^ 64)<s/\s<2 ^ 64:=by lia
theorem d30B{w:Int}(h:0<w)(h':w<=33554432):0<w/\w<1073741824:=by lia
theorem ab24{x y:Int}(h:x.natAbs<=12)(h':y.natAbs<=12):(x+y).natAbs<=24:=by lia
theorem sq0(a:Int):0<=a*a:=(CP 0 a).elim (λq=>Ch q q) (λq=>Int.mul_nonneg_of_nonpos_of_nonpos q q)
theorem u64{w:Int}(h:w=1\/w=-1\/w=0): -(2 ^ 64)<w/\w<2 ^ 64:=by lia
theorem n64{w:Int}{k:Nat}(h:w.natAbs<=k)(hk:k<=1073741823:=by decide): -(2 ^ 64)<w/\w<2 ^ 64:=by lia
theorem i64{w:Int}{a b:Int}(h:a<=w)(h':w<=b)(ha: -1000000000001<=a:=by decide)(hb:b<=1000000000001:=by decide): -(2 ^ 64)<w/\w<2 ^ 64:=by lia
theorem fdm(a b:Int)(hb:b≠0):(a - a.fdiv b*b).natAbs<b.natAbs/\(a.fdiv b).natAbs<=a.natAbs+1:=by
 have e:=Int.fmod_def a b
 have e2:a - a.fdiv b*b=a.fmod b:=by rw[e,A9]
 rw[e2]
 have r:(a.fmod b).natAbs<b.natAbs:=by
  rcases(by lia:0<b\/b<0) with h|h
  ·have h1:=CQ a h
   have h2:=CS a h
   lia
  ·have h1:=CQ (-a) (show 0< -b by lia)
   have h2:=CS (-a) (show 0< -b by lia)
   rw[Int.neg_fmod_neg] at h1 h2
   lia
 refine⟨r,?_⟩
 have e3:(b*a.fdiv b).natAbs=b.natAbs*(a.fdiv b).natAbs:=Bp _ _
 have e4:=Int.mul_fdiv_self a b
 rcases BI (a.natAbs+1) (a.fdiv b).natAbs with c|c
 ·have h1:b.natAbs*(a.natAbs+2)<=b.natAbs*(a.fdiv b).natAbs:=Nat.mul_le_mul_left _ c
  have h2:b.natAbs*(a.natAbs+2)=b.natAbs*a.natAbs+2*b.natAbs:=by rw[Nat.mul_add,Nat.mul_comm _ 2]
  have h3:1*a.natAbs<=b.natAbs*a.natAbs:=Nat.mul_le_mul_right _ (by lia)
  lia
 ·exact c
def Uni(a b c d p0 p1 q0 q1:Int):Prop:=∃ m n k l:Int,(m*l - n*k=1\/m*l - n*k=-1)/\p0=m*a+n*c/\p1=m*b+n*d/\q0=k*a+l*c/\q1=k*b+l*d
theorem Uni.refl(a b c d:Int):Uni a b c d a b c d:=⟨1,0,0,1,.inl (by decide),by lia,by lia,by lia,by lia⟩
theorem Uni.step{a b c d p0 p1 q0 q1:Int}(t:Int)(h:Uni a b c d p0 p1 q0 q1):Uni a b c d q0 q1 (p0 - t*q0) (p1 - t*q1):=by
 obtain⟨m,n,k,l,hd,rfl,rfl,rfl,rfl⟩:=h
 refine⟨k,l,m - t*k,n - t*l,?_,rfl,rfl,by grind,by grind⟩
 rcases hd with h|h
 ·right;grind
 ·left;grind
theorem Uni.neg{a b c d p0 p1 q0 q1:Int}(h:Uni a b c d p0 p1 q0 q1):Uni a b c d (-p0) (-p1) q0 q1:=by
 obtain⟨m,n,k,l,hd,rfl,rfl,rfl,rfl⟩:=h
 refine⟨-m,-n,k,l,?_,by grind,by grind,rfl,rfl⟩
 rcases hd with h|h
 ·right;grind
 ·left;grind
theorem Uni.inv{a b c d p0 p1 q0 q1:Int}(h:Uni a b c d p0 p1 q0 q1):Uni p0 p1 q0 q1 a b c d:=by
 obtain⟨m,n,k,l,hd,rfl,rfl,rfl,rfl⟩:=h
 rcases hd with h|h
 ·exact⟨l,-n,-k,m,.inl (by grind),by grind,by grind,by grind,by grind⟩
 ·exact⟨-l,n,k,-m,.inr (by grind),by grind,by grind,by grind,by grind⟩
theorem Uni.det{a b c d p0 p1 q0 q1:Int}(h:Uni a b c d p0 p1 q0 q1):p0*q1 - p1*q0=a*d - b*c\/p0*q1 - p1*q0=-(a*d - b*c):=by
 obtain⟨m,n,k,l,hd,rfl,rfl,rfl,rfl⟩:=h
 rcases hd with h|h
 ·left;grind
 ·right;grind
def Lev(a b c d p0 p1 q0:Int):Prop:=0<=p1/\Uni a b c d p0 p1 q0 0
def FamOf(a b c d w h s:Int):Prop:=0<w/\0<h/\0<=s/\s<w/\Uni a b c d w 0 s h
theorem ww(x:Int):(if x<0 then -x else x)=x\/(if x<0 then -x else x)=-x:=by
 split<;>simp
theorem wx{x:Int}(h:x≠0):0<(if x<0 then -x else x):=by split<;>lia
theorem eM{a b c d p0 p1 q0:Int}(hn:¬ a*d=b*c)(h:Lev a b c d p0 p1 q0):FamOf a b c d (if q0<0 then -q0 else q0) p1 (p0 % (if q0<0 then -q0 else q0)):=by
 obtain⟨hp,hu⟩:=h
 have dt:=hu.det
 have JE:q0≠0:=by
  rintro rfl
  simp at dt
  lia
 have Kr:p1≠0:=by
  rintro rfl
  simp at dt
  lia
 have hw:=wx JE
 have hs:=ww q0
 generalize (if q0<0 then -q0 else q0)=w at hw hs
 refine⟨hw,by lia,Ci _ (by lia),Cj _ hw,?_⟩
 have em:=Bq p0 w
 generalize p0 % w=s at em
 generalize p0 / w=t at em
 obtain⟨m,n,k,l,hd,e1,e2,e3,e4⟩:=hu
 rcases hs with e|e
 ·refine⟨k,l,m - t*k,n - t*l,?_,by grind,by grind,by grind,by grind⟩
  rcases hd with h|h
  ·right;grind
  ·left;grind
 ·refine⟨-k,-l,m+t*k,n+t*l,?_,by grind,by grind,by grind,by grind⟩
  rcases hd with h|h
  ·left;grind
  ·right;grind
theorem in_fam{w h s x y i j:Int}(hh:0<h)(ex:x=i*w+j*s)(ey:y=j*h):y % h=0/\(x - y / h*s) % w=0:=by
 subst ex ey
 rw[A3 _ (by lia)]
 refine⟨Ck _ _,?_⟩
 have e:i*w+j*s - j*s=i*w:=by lia
 rw[e]
 exact Ck _ _
theorem FamOf.first{a b c d w h s:Int}(f:FamOf a b c d w h s):b % h=0/\(a - b / h*s) % w=0:=by
 obtain⟨hw,hh,_,_,hu⟩:=f
 obtain⟨m,n,k,l,_,e1,e2,e3,e4⟩:=hu.inv
 exact in_fam (i:=m) (j:=n) hh e1 (by lia)
theorem FamOf.second{a b c d w h s:Int}(f:FamOf a b c d w h s):d % h=0/\(c - d / h*s) % w=0:=by
 obtain⟨hw,hh,_,_,hu⟩:=f
 obtain⟨m,n,k,l,_,e1,e2,e3,e4⟩:=hu.inv
 exact in_fam (i:=k) (j:=l) hh e3 (by lia)
theorem wy{a b c d u v i j:Int}(eu:u=i*a+j*c)(ev:v=i*b+j*d):(u*d - v*c).fmod (a*d - b*c)=0/\(a*v - b*u).fmod (a*d - b*c)=0:=by
 subst eu ev
 refine⟨Cl ⟨i,by grind⟩,Cl ⟨j,by grind⟩⟩
theorem FamOf.cells{a b c d w h s:Int}(f:FamOf a b c d w h s):w*h=a*d - b*c\/w*h=-(a*d - b*c):=by
 have:=f.2.2.2.2.det
 simpa using this
theorem bj{a d:Int}{A B:Nat}(h1:a.natAbs<=A)(h2:d.natAbs<=B):(a*d).natAbs<=A*B:=by
 rw[Bp];exact BT h1 h2
theorem wz{c gap g:Int}{N:Nat}(hg:0<g)(c0:0<=c)(cg:c<=g)(h:gap.natAbs<=N):(c*gap / g).natAbs<=N:=by
 have h1:(c*gap).natAbs<=g.natAbs*N:=by rw[Bp];exact BT (by omega) h
 have e:((g.natAbs*N:Nat):Int)=N*g:=by rw[Int.natCast_mul,Int.natAbs_of_nonneg (by omega),A9]
 have l1:=Int.le_ediv_of_mul_le (a:=-(N:Int)) (b:=c*gap) hg (by rw[Br];omega)
 have l2:=Int.ediv_le_of_le_mul (a:=c*gap) (b:=(N:Int)) hg (by omega)
 omega
theorem cf{w h:Int}(hw:0<w)(hh:0<h):w<=w*h/\h<=w*h:=by
 have h1:=BU (show 1<=h by lia) (show 0<=w by lia)
 have h2:=AU (show 1<=w by lia) (show 0<=h by lia)
 lia
theorem FamOf.bd{a b c d w h s:Int}(f:FamOf a b c d w h s){N:Nat}(hN:(a*d - b*c).natAbs<=N):w<=N/\h<=N/\s<N:=by
 obtain⟨h1,h2⟩:=cf f.1 f.2.1
 have h3:=f.cells
 have h4:=f.2.2.2.1
 lia
def Meas(x y g u:Int):Prop:=0<=g/\(∃ i,x=i*g)/\(∃ j,y=j*g)/\∃ n,g=u*x+n*y
theorem oH{x y u g q:Int}(h:0<=g/\∃ m n k l:Int,(m*l - n*k=1\/m*l - n*k=-1)/\u=m*1+n*0/\g=m*x+n*y/\q=k*1+l*0/\0=k*x+l*y):Meas x y g u:=by
 obtain⟨h0,m,n,k,l,hd,e1,e2,e3,e4⟩:=h
 refine⟨h0,?_,?_,n,by grind⟩
 ·rcases hd with h|h
  ·exact⟨l,by grind⟩
  ·exact⟨-l,by grind⟩
 ·rcases hd with h|h
  ·exact⟨-k,by grind⟩
  ·exact⟨k,by grind⟩
theorem Meas.pos{x y g u:Int}(h:Meas x y g u)(hx:0<x):0<g:=by
 obtain⟨h0,⟨i,hi⟩,_⟩:=h
 rcases(by lia:g=0\/0<g) with e|e
 ·subst e;simp at hi;lia
 ·exact e
theorem Meas.le{x y g u:Int}(h:Meas x y g u)(hx:0<x):g<=x:=by
 have hg:=h.pos hx
 obtain⟨h0,⟨i,hi⟩,_⟩:=h
 have Ks:0<i:=by
  rcases(by lia:i<=0\/0<i) with e|e
  ·have:=Bi e h0
   lia
  ·exact e
 have:=AU (show 1<=i by lia) h0
 lia
structure MetR(w1 h1 s1 w2 h2 s2 w h s A:Int):Prop where
 w0:0<w
 h0:0<h
 s0:0<=s
 sw:s<w
 in1:∃ i,w=i*w1
 in2:∃ i,w=i*w2
 up1:∃ i j,s=i*w1+j*s1/\h=j*h1
 up2:∃ i j,s=i*w2+j*s2/\h=j*h2
 A0:0<A
 cells:w*h*A=w1*h1*w2*h2
 d11:A∣w1*h1
 d12:A∣w1*h2
 d21:A∣w2*h1
 d22:A∣w2*h2
 ds:A∣s1*h2 - h1*s2
 all:∀ x y:Int,(∃ i j,x=i*w1+j*s1/\y=j*h1)->(∃ i j,x=i*w2+j*s2/\y=j*h2)->∃ i j,x=i*w+j*s/\y=j*h
 comb:∀ G:Int,G∣w1*h1->G∣w1*h2->G∣w2*h1->G∣w2*h2->G∣s1*h2 - h1*s2->G∣A
theorem cR{x y:Int}(h:0<x*y)(hy:0<y):0<x:=by
 rcases(by lia:x<=0\/0<x) with e|e
 ·have:=Bi e (show 0<=y by lia)
  lia
 ·exact e
theorem iH{a b c:Int}(ha:0<a)(h:a*b=a*c):b=c:=Cm (by lia) h
theorem r1(k j c:Int):k*(j*c)=j*(c*k):=by grind
theorem r2(j u c n d:Int):j*(u*c+n*d)=u*(j*c)+n*d*j:=by grind
theorem r3(u j d n j1:Int):u*(j*d)+n*d*j1=d*(u*j+n*j1):=by grind
theorem r4(j u c n d:Int):j*(u*c+n*d)=u*c*j+n*(j*d):=by grind
theorem r5(u c j n j1:Int):u*c*j+n*(j1*c)=c*(u*j+n*j1):=by grind
theorem r6(g e i1 a i2 b d T s1 c s2:Int)(q:i1*(a*(e*g))+d*T*s1=i2*(b*(e*g))+c*T*s2):g*(e*(i1*a - i2*b))=T*(c*s2 - d*s1):=by grind
theorem r7(g T f:Int):g*(T*f)=T*(f*g):=by grind
theorem r8(T v e q f:Int):T*(v*e+q*f)=v*T*e+q*(T*f):=by grind
theorem r9(v T e q m:Int):v*T*e+q*(e*m)=e*(v*T+q*m):=by grind
theorem r10(e r f:Int):e*r*f=e*(r*f):=by grind
theorem r11(i u a n b:Int):i*(u*a+n*b)=u*(i*a)+n*b*i:=by grind
theorem r12(u r f i2 b n i1:Int):u*(r*f+i2*b)+n*b*i1=u*(r*f)+b*(u*i2+n*i1):=by grind
theorem r13(u r f b M a e g d s1 t:Int):(u*(r*f)+b*M)*(a*(e*g))+d*(e*r)*s1=(M+r*t)*(a*b*(e*g))+r*(e*(d*s1)+f*u*(a*(e*g)) - a*b*(e*g)*t):=by grind
theorem r14(d e r c k:Int):d*(e*r)*(c*k)=r*(c*d*k*e):=by grind
theorem wA{a b c d e f k gg u n u' n' v q s1 s2 t s x y i1 j1 i2 j2:Int}(hk:0<k)(w9:0<gg)(he:0<e)
  (o7:u*a+n*b=1) (m5:u'*c+n'*d=1) (gap:c*s2 - d*s1=f*gg) (o8:v*e+q*f=1)
  (hs:s=e*(d*s1)+f*u*(a*(e*gg)) - a*b*(e*gg)*t) (x1:x=i1*(a*(e*gg))+j1*s1) (y1:y=j1*(c*k)) (x2:x=i2*(b*(e*gg))+j2*s2) (y2:y=j2*(d*k)):
  ∃ i j,x=i*(a*b*(e*gg))+j*s/\y=j*(c*d*k*e):=by
 have h1:j1*c=j2*d:=iH hk (by rw[r1 k j1 c,r1 k j2 d,<- y1,<- y2])
 have Fg:j1=d*(u'*j2+n'*j1):=by
  have p:=r2 j1 u' c n' d
  rw[m5,h1,r3] at p
  lia
 have Ig:j2=c*(u'*j2+n'*j1):=by
  have p:=r4 j2 u' c n' d
  rw[m5,<- h1,r5] at p
  lia
 generalize u'*j2+n'*j1=T at Fg Ig
 have q1:i1*(a*(e*gg))+d*T*s1=i2*(b*(e*gg))+c*T*s2:=by rw[<- Fg,<- Ig,<- x1,<- x2]
 have h2:e*(i1*a - i2*b)=T*f:=iH w9 (by rw[r6 gg e i1 a i2 b d T s1 c s2 q1,r7,gap])
 have eT:T=e*(v*T+q*(i1*a - i2*b)):=by
  have p:=r8 T v e q f
  rw[o8,<- h2,r9] at p
  lia
 generalize hr:v*T+q*(i1*a - i2*b)=r at eT
 have h3:i1*a - i2*b=r*f:=iH he (by rw[h2,eT,r10])
 have h4:i1=u*(r*f)+b*(u*i2+n*i1):=by
  have p:=r11 i1 u a n b
  have q3:i1*a=r*f+i2*b:=by lia
  rw[o7,q3,r12] at p
  lia
 generalize u*i2+n*i1=M at h4
 refine⟨M+r*t,r,?_,?_⟩
 ·rw[hs,x1,Fg,eT,<- r13,<- h4]
 ·rw[y1,Fg,eT,r14]
theorem wB{a b c d e f k gg u n u' n' v q s1 s2 t s:Int}(ha:0<a)(hb:0<b)(hc:0<c)(hd:0<d)(he:0<e)(hk:0<k)(w9:0<gg)
  (o7:u*a+n*b=1) (m5:u'*c+n'*d=1) (gap:c*s2 - d*s1=f*gg) (o8:v*e+q*f=1)
  (hs:s=e*(d*s1)+f*u*(a*(e*gg)) - a*b*(e*gg)*t) (m1:0<=s) (m2:s<a*b*(e*gg)):
  MetR (a*(e*gg)) (c*k) s1 (b*(e*gg)) (d*k) s2 (a*b*(e*gg)) (c*d*k*e) s (k*gg):=by
 have hg:0<e*gg:=AL he w9
 have hW:0<a*b*(e*gg):=AL (AL ha hb) hg
 have Go:d*s1=c*s2 - f*gg:=by lia
 have ua:u*a=1 - n*b:=by lia
 refine⟨hW,AL (AL (AL hc hd) hk) he,m1,m2,⟨b,?_⟩,⟨a,?_⟩,⟨f*u - t*b,d*e,?_,?_⟩,⟨-(f*n) - t*a,c*e,?_,?_⟩,AL hk w9,?_,⟨a*e*c,?_⟩,⟨a*e*d,?_⟩,⟨b*e*c,?_⟩,⟨b*e*d,?_⟩,⟨-f,?_⟩,?_,?_⟩
 ·grind
 ·grind
 ·grind
 ·grind
 ·rw[hs,Go]
  have x2:f*u*(a*(e*gg))=f*(u*a)*(e*gg):=by grind
  rw[x2,ua];grind
 ·grind
 ·grind
 ·grind
 ·grind
 ·grind
 ·grind
 ·have:s1*(d*k) - c*k*s2=-(k*(c*s2 - d*s1)):=by grind
  rw[this,gap];grind
 ·rintro x y ⟨i1,j1,x1,z1⟩ ⟨i2,j2,x2,z2⟩
  exact wA hk w9 he o7 m5 gap o8 hs x1 z1 x2 z2
 ·rintro G ⟨y1,z1⟩ ⟨y2,z2⟩ ⟨y3,z3⟩ ⟨y4,z4⟩ ⟨y5,z5⟩
  refine⟨v*(u'*u*y1+n'*u*y2+u'*n*y3+n'*n*y4) - q*y5,?_⟩
  have k1:k*(e*gg)=G*(u'*u*y1+n'*u*y2+u'*n*y3+n'*n*y4):=by
   have p1:k*(e*gg)=(u'*c+n'*d)*(u*a+n*b)*(k*(e*gg)):=by rw[o7,m5];grind
   have p2:(u'*c+n'*d)*(u*a+n*b)*(k*(e*gg))=u'*u*(a*(e*gg)*(c*k))+n'*u*(a*(e*gg)*(d*k))+u'*n*(b*(e*gg)*(c*k))+n'*n*(b*(e*gg)*(d*k)):=by grind
   rw[p1,p2,z1,z2,z3,z4];grind
  have k2:k*(f*gg)=-(G*y5):=by
   rw[<- z5,<- gap];grind
  have k3:k*gg=(v*e+q*f)*(k*gg):=by rw[o8];grind
  have k4:(v*e+q*f)*(k*gg)=v*(k*(e*gg))+q*(k*(f*gg)):=by grind
  rw[k3,k4,k1,k2];grind
theorem fR{w1 h1 s1 w2 h2 s2 g u k u' gg o9:Int}(o_:0<w1)(y_:0<w2)(Ih:0<h1)(u_:0<h2)
  (M1:Meas w1 w2 g u) (M2:Meas h1 h2 k u')
  (M3:Meas g (h1*h2 / k / h2*s2 - h1*h2 / k / h1*s1) gg o9):
  MetR w1 h1 s1 w2 h2 s2 (w1*w2 / g) (h1*h2 / k*(g / gg)) ((g / gg*(h1*h2 / k / h1*s1)+g / gg*(h1*h2 / k / h2*s2 - h1*h2 / k / h1*s1) / g*u*w1) % (w1*w2 / g)) (k*gg):=by
 have hg:=M1.pos o_
 have hk:=M2.pos Ih
 have w9:=M3.pos hg
 obtain⟨_,⟨a,ea⟩,⟨b,eb⟩,n,en⟩:=M1
 obtain⟨_,⟨c,ec⟩,⟨d,ed⟩,n',Kt⟩:=M2
 have ha:0<a:=cR (ea ▸ o_) hg
 have hb:0<b:=cR (eb ▸ y_) hg
 have hc:0<c:=cR (ec ▸ Ih) hk
 have hd:0<d:=cR (ed ▸ u_) hk
 have o7:u*a+n*b=1:=by
  have p:(u*a+n*b)*g=1*g:=by
   have:(u*a+n*b)*g=u*(a*g)+n*(b*g):=by grind
   rw[this,<- ea,<- eb];lia
  exact BA (by lia) p
 have m5:u'*c+n'*d=1:=by
  have p:(u'*c+n'*d)*k=1*k:=by
   have:(u'*c+n'*d)*k=u'*(c*k)+n'*(d*k):=by grind
   rw[this,<- ec,<- ed];lia
  exact BA (by lia) p
 have eW:w1*w2 / g=a*b*g:=by
  have:w1*w2=(a*b*g)*g:=by rw[ea,eb];grind
  rw[this];exact A3 _ (by lia)
 have eR:h1*h2 / k=c*d*k:=by
  have:h1*h2=(c*d*k)*k:=by rw[ec,ed];grind
  rw[this];exact A3 _ (by lia)
 have JF:h1*h2 / k / h1=d:=by
  rw[eR]
  have:c*d*k=d*h1:=by rw[ec];grind
  rw[this];exact A3 _ (by lia)
 have JG:h1*h2 / k / h2=c:=by
  rw[eR]
  have:c*d*k=c*h2:=by rw[ed];grind
  rw[this];exact A3 _ (by lia)
 rw[JF,JG] at M3 ⊢
 obtain⟨_,⟨e,ee⟩,⟨f,ef⟩,q,eq⟩:=M3
 have he:0<e:=cR (ee ▸ hg) w9
 have o8:o9*e+q*f=1:=by
  have p:(o9*e+q*f)*gg=1*gg:=by
   have:(o9*e+q*f)*gg=o9*(e*gg)+q*(f*gg):=by grind
   rw[this,<- ee,<- ef];lia
  exact BA (by lia) p
 have eC:g / gg=e:=by rw[ee];exact A3 _ (by lia)
 have eS:e*(c*s2 - d*s1) / g=f:=by
  have:e*(c*s2 - d*s1)=f*g:=by rw[ef,ee];grind
  rw[this];exact A3 _ (by lia)
 rw[eC,eS,eW,eR]
 have hW:0<a*b*g:=AL (AL ha hb) hg
 have em:=Bq (e*(d*s1)+f*u*w1) (a*b*g)
 have m1:=Ci (e*(d*s1)+f*u*w1) (show a*b*g≠0 by lia)
 have m2:=Cj (e*(d*s1)+f*u*w1) hW
 generalize (e*(d*s1)+f*u*w1) % (a*b*g)=s at em m1 m2 ⊢
 generalize (e*(d*s1)+f*u*w1) / (a*b*g)=t at em
 subst ea eb ec ed
 subst ee
 exact wB ha hb hc hd he hk w9 o7 m5 ef o8 em m1 m2
theorem iI{x y g u:Int}(hx:0<x)(hy:0<y)(M:Meas x y g u):0<x*y / g/\x*y / g<=x*y/\x*y / g / x*1<=y/\0<=x*y / g / x/\x*y / g / y<=x/\0<=x*y / g / y:=by
 have hg:=M.pos hx
 obtain⟨_,⟨a,ea⟩,⟨b,eb⟩,_⟩:=M
 have ha:0<a:=cR (ea ▸ hx) hg
 have hb:0<b:=cR (eb ▸ hy) hg
 have e1:x*y / g=a*b*g:=by
  have:x*y=(a*b*g)*g:=by rw[ea,eb];grind
  rw[this];exact A3 _ (by lia)
 have e2:a*b*g / x=b:=by
  have:a*b*g=b*x:=by rw[ea];grind
  rw[this];exact A3 _ (by lia)
 have e3:a*b*g / y=a:=by
  have:a*b*g=a*y:=by rw[eb];grind
  rw[this];exact A3 _ (by lia)
 have p1:0<a*b*g:=AL (AL ha hb) hg
 have q1:=(cf (w:=b) (h:=g) hb hg).1
 have q2:=(cf (w:=a) (h:=g) ha hg).1
 have q3:x*y=a*b*g*g:=by rw[ea,eb];grind
 have q4:=(cf (w:=a*b*g) (h:=g) p1 hg).1
 rw[e1,e2,e3]
 lia
def cell(ns:List Int)(k:Int):Int:=ns.getD k.toNat 0
theorem oI{ns:List Int}{k:Int}(h0:0<=k)(h1:k<(ns.length:Int)):atI (ns.map D.int) k=some (.int (cell ns k)):=by
 obtain⟨j,rfl⟩:∃ j:Nat,k=(j:Int):=⟨k.toNat,by lia⟩
 have hk:j<ns.length:=by lia
 refine dX ?_
 rw[A2,AX hk]
 simp[cell,BH,AX hk]
theorem wC{ns:List Int}{k:Int}(h1:(ns.length:Int)<=k):cell ns k=0:=by
 have hk:ns.length<=k.toNat:=by lia
 simp[cell,BH,BV hk]
theorem Aw(k:Int):∃ m,atI [D.int 12,D.int 720] (k % 2)=some (.int m)/\(m=12\/m=720):=by
 rcases(by lia:k % 2=0\/k % 2=1) with e|e
 ·rw[e];exact⟨12,rfl,.inl rfl⟩
 ·rw[e];exact⟨720,rfl,.inr rfl⟩
theorem ci{a b:Int}(h:0<b):0<=a % b:=Ci a (by lia)
theorem cj{a b:Int}(h:0<b):a % b<b:=Cj a h
def wE:SpD:=λds R=>∃ (ns:List Int) (k:Int),ds=[.rol (ns.map D.int),.int k]/\0<=k/\R (.int (cell ns k))
def wF:SpD:=λds R=>∃ i:Int,ds=[.int i]/\R (.bl true)
def wG:SpD:=λds R=>∃ w h s x y:Int,ds=[.tup [.int w,.int h,.int s],.int x,.int y]/\0<w/\0<h/\h<1073741824/\0<=s/\s<1073741824/\
 R (.bl (decide (y % h=0/\(x - y / h*s) % w=0)))
def wH:SpD:=λds R=>∃ a b c d u v:Int,ds=[.tup [.int a,.int b],.tup [.int c,.int d],.int u,.int v]/\a.natAbs<1073741824/\b.natAbs<1073741824/\c.natAbs<1073741824/\d.natAbs<1073741824/\
 ¬ a*d=b*c/\R (.bl (decide ((u*d - v*c).fmod (a*d - b*c)=0/\(a*v - b*u).fmod (a*d - b*c)=0)))
def wI:SpD:=λds R=>∃ x y:Int,ds=[.int x,.int y]/\∀ g:Int,0<=g->g∣x->g∣y->(∀ e,e∣x->e∣y->e∣g)->R (.int g)
theorem oJ{e x:Int}:e∣(if x<0 then -x else x)↔e∣x:=by
 split
 ·exact Int.dvd_neg
 ·exact Iff.rfl
theorem oK{e a b:Int}(hb:e∣b):e∣a % b↔e∣a:=by
 have e1:=Bq a b
 rw[e1]
 constructor
 ·intro h
  have:=Cn h (CT (c:=a / b) hb)
  simpa using this
 ·intro h
  exact Int.dvd_sub h (CT hb)
def wJ:SpD:=λds R=>∃ w h s x y:Int,ds=[.tup [.int w,.int h,.int s],.int x,.int y]/\0<w/\0<h/\h<1073741824/\0<=s/\s<1073741824/\
 R (.tup [.int ((x - y / h*s) % w),.int (y % h)])
def wK:SpD:=λds R=>∃ a b c d:Int,ds=[.tup [.int a,.int b],.tup [.int c,.int d]]/\b.natAbs<4611686018427387904/\d.natAbs<4611686018427387904/\
 ∀ p0 p1 q0,Lev a b c d p0 p1 q0->R (.tup [.tup [.int p0,.int p1],.tup [.int q0,.int 0]])
def wL:SpD:=λds R=>∃ a b c d:Int,ds=[.tup [.int a,.int b],.tup [.int c,.int d]]/\a.natAbs<4611686018427387904/\b.natAbs<4611686018427387904/\c.natAbs<4611686018427387904/\d.natAbs<4611686018427387904/\
 (a*d=b*c->R .non)/\(¬ a*d=b*c->∀ w h s,FamOf a b c d w h s->R (.tup [.int w,.int h,.int s]))
def wM:SpD:=λds R=>∃ w h s:Int,ds=[.tup [.int w,.int h,.int s]]/\0<w/\R (.tup [.int w,.int h,.int (-s % w)])
def wN:SpD:=λds R=>∃ w h s:Int,ds=[.tup [.int w,.int h,.int s]]/\0<w/\0<h/\w<4611686018427387904/\h<4611686018427387904/\0<=s/\s<4611686018427387904/\
 ∀ w' h' s',FamOf 0 w (-h) s w' h' s'->R (.tup [.int w',.int h',.int s'])
def wO:SpD:=λds R=>∃ x y:Int,ds=[.int x,.int y]/\x.natAbs<4611686018427387904/\y.natAbs<4611686018427387904/\∀ g u,Meas x y g u->R (.tup [.int g,.int u])
def wP:SpD:=λds R=>∃ w1 h1 s1 w2 h2 s2:Int,ds=[.tup [.int w1,.int h1,.int s1],.tup [.int w2,.int h2,.int s2]]/\0<w1/\w1<=33554432/\0<h1/\h1<=33554432/\0<=s1/\s1<w1/\0<w2/\w2<=33554432/\0<h2/\h2<=33554432/\0<=s2/\s2<w2/\
 ∀ w h s A,MetR w1 h1 s1 w2 h2 s2 w h s A->R (.tup [.int w,.int h,.int s])
def Drawn(xs:List Int):Prop:=∀ x∈xs,0<=x/\x<5040
theorem Drawn.at{xs:List Int}(h:Drawn xs)(k:Int):0<=cell xs k/\cell xs k<5040:=by
 by_cases hk:k.toNat<xs.length
 ·have:cell xs k=xs[k.toNat]:=by simp[cell,BH,AX hk]
  rw[this];exact h _ (By hk)
 ·have:cell xs k=0:=by simp[cell,BH,BV (CA hk)]
  lia
theorem dE{xs:List Int}{k:Int}(h0:0<=k)(h:k.toNat<xs.length):atI (xs.map D.int) k=some (.int (cell xs k)):=oI h0 (by lia)
theorem oM{xs:List Int}{v:Int}:xs.map D.int++[D.int v]=(xs++[v]).map D.int:=by simp
theorem oN{xs:List Int}{v:Int}(h:Drawn xs)(h1:0<=v)(h2:v<5040):Drawn (xs++[v]):=by
 intro x hx
 rcases AW.mp hx with q|q
 ·exact h x q
 ·rw[Ay.mp q];exact⟨h1,h2⟩
def wQ:SpD:=λds R=>∃ (ns:List Int) (k:Int) (n:Nat),ds=[.rol (ns.map D.int),.int k,.int n]/\0<=k/\n<=100/\∀ xs:List Int,xs.length=n->Drawn xs->R (.lst (xs.map D.int))
def wR:SpD:=λds R=>∃ xs:List Int,ds=[.lst (xs.map D.int)]/\8<=xs.length/\Drawn xs/\
 ∀ a b c d:Int,(-12<=a/\a<=12)->(-12<=b/\b<=12)->(-12<=c/\c<=12)->(-12<=d/\d<=12)->¬ a*d=b*c->R (.lst [.tup [.int a,.int b],.tup [.int c,.int d]])
abbrev cs(x:Str):List Nat:=x.cps.toList
theorem bT(x:Str):(cs x).length=x.length:=by simp[Str.length]
theorem wS:cs ""=[]:=rfl
theorem bL(x y:Str):cs (x++y)=cs x++cs y:=by
 show((x++y:Str)).cps.toList=_
 rw[show(x++y:Str).cps=x.cps++y.cps from rfl,Array.toList_append]
theorem aq(x y:Str):(x++y).length=x.length+y.length:=by rw[<- bT,bL,AI,bT,bT]
def aF(c:Nat):Prop:=c=46\/(49<=c/\c<=54)
theorem oO:∀ (L:List Str),cx (L.map D.str)=some L
 |[]=>rfl
 |x::L=>by simp[cx,oO L]
def dF(x:Str):Prop:=0<x.length/\x.length<=7/\∀ c∈cs x,aF c
theorem wT{x:Str}(h:dF x)(v:Int):∃ c,(x.length<=1000000/\atI (cs x) (v % (x.length:Int))=some c)/\aF c:=by
 have h1:=ci (a:=v) (show 0<(x.length:Int) by have:=h.1;lia)
 have h2:=cj (a:=v) (show 0<(x.length:Int) by have:=h.1;lia)
 obtain⟨j,ej⟩:∃ j:Nat,v % (x.length:Int)=(j:Int):=⟨(v % (x.length:Int)).toNat,by lia⟩
 have hj:j<(cs x).length:=by rw[bT];lia
 refine⟨(cs x)[j],⟨by have:=h.2.1;lia,?_⟩,h.2.2 _ (By hj)⟩
 rw[ej]
 exact dX (AX hj)
theorem wU:dF "1.23456":=⟨by decide+kernel,by decide+kernel,by unfold aF;decide+kernel⟩
theorem wV:dF "12":=⟨by decide+kernel,by decide+kernel,by unfold aF;decide+kernel⟩
theorem wW:dF "1.":=⟨by decide+kernel,by decide+kernel,by unfold aF;decide+kernel⟩
theorem wX:dF "...2":=⟨by decide+kernel,by decide+kernel,by unfold aF;decide+kernel⟩
theorem wY(k:Int):∃ x,atI [D.str "1.23456",D.str "12",D.str "1.",D.str "...2"] (k % 4)=some (.str x)/\dF x:=by
 rcases(by lia:k % 4=0\/k % 4=1\/k % 4=2\/k % 4=3) with e|e|e|e<;>rw[e]
 ·exact⟨_,rfl,wU⟩
 ·exact⟨_,rfl,wV⟩
 ·exact⟨_,rfl,wW⟩
 ·exact⟨_,rfl,wX⟩
theorem wZ(k:Int):∃ m,atI [D.int 1,D.int 70] (k % 2)=some (.int m)/\(m=1\/m=70):=by
 rcases(by lia:k % 2=0\/k % 2=1) with e|e<;>rw[e]
 ·exact⟨1,rfl,.inl rfl⟩
 ·exact⟨70,rfl,.inr rfl⟩
structure Rows(L:List Str):Prop where
 many:1<=L.length/\L.length<=8
 wide:∃ w,(1<=w/\w<=8)/\∀ l∈L,l.length=w/\∀ c∈cs l,aF c
theorem Rows.of{L:List Str}{w t:Nat}(h1:1<=t)(h2:t<=8)(hl:L.length=t)(w1:1<=w)(w2:w<=8)(h:∀ l∈L,l.length=w/\∀ c∈cs l,aF c):Rows L:=⟨by lia,w,⟨w1,w2⟩,h⟩
theorem xa{x:Str}{c:Nat}{i:Nat}(h1:x.length=i)(h2:∀ c∈cs x,aF c)(hc:aF c):(x++⟨#[c]⟩:Str).length=i+1/\∀ c'∈cs (x++⟨#[c]⟩),aF c':=by
 refine⟨by rw[aq,h1];rfl,λc' q=>?_⟩
 rw[bL] at q
 rcases AW.mp q with q|q
 ·exact h2 _ q
 ·have:c'=c:=by simpa[cs] using q
  rw[this];exact hc
theorem xb{L:List Str}{x:Str}:L.map D.str++[D.str x]=(L++[x]).map D.str:=by simp
def ck(L:List Str)(a b c d:Int):Str:=("["++Txt.join "/" L)++((((((((";":Str)++(toString a:String))++",")++(toString b:String))++";")++(toString c:String))++",")++(toString d:String))++"]"
theorem bc{a:Int}(h: -12<=a/\a<=12):((toString a:String):Str).length<=3:=by
 have key:∀ k:Fin 25,((toString (((k.val:Nat):Int) - 12):String):Str).length<=3:=by decide+kernel
 have:=key ⟨(a+12).toNat,by lia⟩
 have e:(((a+12).toNat:Nat):Int) - 12=a:=by lia
 rw[e] at this
 exact this
def B12(a:Int):Prop:=-12<=a/\a<=12
theorem B12.lt{a:Int}(h:B12 a):a.natAbs<1073741824:=by unfold B12 at h;lia
theorem xc{L:List Str}{w:Nat}(h:∀ l∈L,l.length=w):(L.map (·.length)).sum=L.length*w:=by
 induction L with
 |nil=>simp
 |cons x L ih=>
  rw[AO,List.sum_cons,ih (λl hl=>h l (AC _ hl)),h x AE,AB,Nat.succ_mul,Nat.add_comm]
theorem oP{L:List Str}(h:Rows L):(L.map (·.length)).sum+L.length*("/":Str).length<=72:=by
 obtain⟨h1,w,hw,h2⟩:=h
 rw[xc (λl hl=>(h2 l hl).1)]
 have e:("/":Str).length=1:=rfl
 rw[e]
 have:=BT h1.2 hw.2
 lia
def xg:SpD:=λds R=>∃ xs:List Int,ds=[.lst (xs.map D.int)]/\40<=xs.length/\Drawn xs/\∀ L:List Str,Rows L->R (.lst (L.map D.str))
def xh:SpD:=λds R=>∃ (L:List Str) (a b c d:Int),ds=[.lst (L.map D.str),.tup [.int a,.int b],.tup [.int c,.int d]]/\Rows L/\B12 a/\B12 b/\B12 c/\B12 d/\R (.str (ck L a b c d))
structure Leaf where
 rows:List Str
 a:Int
 b:Int
 c:Int
 d:Int
 w0:Int
 w1:Int
 w2:Int
 w3:Int
 w4:Int
 w5:Int
 hues:List Int
def Leaf.D(l:Leaf):My.D:= .tup [.lst (l.rows.map D.str),.tup [.int l.a,.int l.b],.tup [.int l.c,.int l.d],.tup [.int l.w0,.int l.w1,.int l.w2,.int l.w3,.int l.w4,.int l.w5],.lst (l.hues.map D.int)]
structure Leaf.Ok(l:Leaf):Prop where
 rows:Rows l.rows
 a:B12 l.a
 b:B12 l.b
 c:B12 l.c
 d:B12 l.d
 ne:¬ l.a*l.d=l.b*l.c
 w0:l.w0.natAbs<=1
 w1:l.w1.natAbs<=1
 w2:l.w2.natAbs<=1
 w3:l.w3.natAbs<=1
 w4:l.w4.natAbs<=1000
 w5:l.w5.natAbs<=1000
 many:l.hues.length=7
 hue:∀ h∈l.hues,0<=h/\h<=6
def onB(a b c d u v:Int):Bool:=decide ((u*d - v*c).fmod (a*d - b*c)=0/\(a*v - b*u).fmod (a*d - b*c)=0)
def oQ(f:Int->Bool):Nat->List Nat->Option Nat
 |_,[]=>none
 |i,c::r=>if c≠46/\f i=true then some c else oQ f (i+1) r
def oR(f:Int->Int->Bool):Nat->List Str->Option Nat
 |_,[]=>none
 |j,l::r=>match oQ (λi=>f i j) 0 (cs l) with|some c=>some c|none=>oR f (j+1) r
def Leaf.hit(l:Leaf)(x y:Int):Option Nat:=oR (λi j=>onB l.a l.b l.c l.d (l.w0*x+l.w1*y+l.w4 - i) (l.w2*x+l.w3*y+l.w5 - j)) 0 l.rows
def Leaf.shows(l:Leaf)(x y:Int):Int:=match l.hit x y with|some c=>cell l.hues ((c:Int) - 48)|none=>0
theorem xi{c:Nat}:(⟨#[c]⟩:Str)="."↔c=46:=by
 constructor
 ·intro h
  have:(#[c]:Array Nat)=(".":Str).cps:=congrArg Str.cps h
  have e:(#[c]:Array Nat).toList=(".":Str).cps.toList:=by rw[this]
  have e2:(".":Str).cps.toList=[46]:=rfl
  rw[e2] at e
  simpa using e
 ·rintro rfl;rfl
theorem digit_of{c:Nat}(h:49<=c/\c<=54):PySem.intText? (⟨#[c]⟩:Str)=some ((c:Int) - 48):=by
 rcases(by lia:c=49\/c=50\/c=51\/c=52\/c=53\/c=54) with e|e|e|e|e|e<;>subst e<;>decide+kernel
theorem range_int{n:Int}{k:Nat}{x:D}(h:((Ba n.toNat).map λk=>D.int ((k:Nat):Int))[k]?=some x):k<n.toNat/\x= .int (k:Int):=by
 have hk:k<n.toNat:=by simpa using(AN.mp h).1
 refine⟨hk,?_⟩
 simp[hk] at h
 exact h.symm
theorem xj{n:Int}:((Ba n.toNat).map λk=>D.int ((k:Nat):Int)).length=n.toNat:=by simp
def aN(L:List Str)(a b c d:Int):Leaf:=⟨L,a,b,c,d,1,0,0,1,0,0,[0,1,2,3,4,5,6]⟩
def xk:SpD:=λds R=>∃ (ns:List Int) (k:Int),ds=[.rol (ns.map D.int),.int k]/\0<=k/\
 ∀ (L:List Str) (a b c d:Int),Rows L->B12 a->B12 b->B12 c->B12 d->¬ a*d=b*c->R (.lst [.str (ck L a b c d),.int 0,.lst [(aN L a b c d).D]])
inductive Pat where
 |mot (L:List Str) (a b c d:Int)
 |over (p q:Pat)
 |sh (a b:Int) (p:Pat)
 |mir (p:Pat)
 |tur (p:Pat)
 |hue (f g:Int) (p:Pat)
def Pat.text:Pat->Str
 | .mot L a b c d=>ck L a b c d
 | .over p q=>(((("(":Str)++p.text)++"|")++q.text)++")"
 | .sh a b p=>((((("s":Str)++(toString a:String))++",")++(toString b:String))++":")++p.text
 | .mir p=>("m":Str)++p.text
 | .tur p=>("t":Str)++p.text
 | .hue f g p=>((("h":Str)++(toString f:String))++(toString g:String))++p.text
def Pat.depth:Pat->Nat
 | .mot ..=>0
 | .over p q=>1+max p.depth q.depth
 | .sh _ _ p=>p.depth+1
 | .mir p=>p.depth+1
 | .tur p=>p.depth+1
 | .hue _ _ p=>p.depth+1
def Leaf.by(l:Leaf)(b0 b1 b2 b3 b4 b5:Int):Leaf:=
 {l with w0:=l.w0*b0+l.w1*b2,w1:=l.w0*b1+l.w1*b3,w2:=l.w2*b0+l.w3*b2,w3:=l.w2*b1+l.w3*b3,w4:=l.w4+l.w0*b4+l.w1*b5,w5:=l.w5+l.w2*b4+l.w3*b5}
def cS(f g h:Int):Int:=if h=f then g else h
def Leaf.dye(l:Leaf)(f g:Int):Leaf:={l with hues:=l.hues.map (cS f g)}
def Pat.leaves:Pat->List Leaf
 | .mot L a b c d=>[aN L a b c d]
 | .over p q=>p.leaves++q.leaves
 | .sh a b p=>p.leaves.map (λl=>l.by 1 0 0 1 (-a) (-b))
 | .mir p=>p.leaves.map (λl=>l.by (-1) 0 0 1 0 0)
 | .tur p=>p.leaves.map (λl=>l.by 0 1 (-1) 0 0 0)
 | .hue f g p=>p.leaves.map (λl=>(l.by 1 0 0 1 0 0).dye f g)
def Pat.show:Pat->Int->Int->Int
 | .mot L a b c d,x,y=>(aN L a b c d).shows x y
 | .over p q,x,y=>if p.show x y≠0 then p.show x y else q.show x y
 | .sh a b p,x,y=>p.show (x - a) (y - b)
 | .mir p,x,y=>p.show (-x) y
 | .tur p,x,y=>p.show y (-x)
 | .hue f g p,x,y=>cS f g (p.show x y)
def Pat.Wf:Pat->Prop
 | .mot L a b c d=>Rows L/\B12 a/\B12 b/\B12 c/\B12 d/\¬ a*d=b*c
 | .over p q=>p.Wf/\q.Wf
 | .sh a b p=>B12 a/\B12 b/\p.Wf
 | .mir p=>p.Wf
 | .tur p=>p.Wf
 | .hue f g p=>(1<=f/\f<=6)/\(1<=g/\g<=6)/\p.Wf
structure Leaf.Near(l:Leaf)(n:Nat):Prop where
 u0:(l.w0.natAbs=1/\l.w1=0/\l.w2=0/\l.w3.natAbs=1)\/(l.w0=0/\l.w1.natAbs=1/\l.w2.natAbs=1/\l.w3=0)
 w4:l.w4.natAbs<=24*n
 w5:l.w5.natAbs<=24*n
theorem Leaf.Near.mono{l:Leaf}{n m:Nat}(h:l.Near n)(k:n<=m):l.Near m:=⟨h.u0,by have:=h.w4;lia,by have:=h.w5;lia⟩
theorem Leaf.Near.unit{l:Leaf}{n:Nat}(h:l.Near n):(l.w0=1\/l.w0=-1\/l.w0=0)/\(l.w1=1\/l.w1=-1\/l.w1=0)/\(l.w2=1\/l.w2=-1\/l.w2=0)/\(l.w3=1\/l.w3=-1\/l.w3=0):=by
 have:=h.u0
 lia
theorem oS{e w v a b:Int}{n:Nat}(h:e.natAbs<=24*n)(hw:w=1\/w=-1\/w=0)(hv:v=1\/v=-1\/v=0)(ha:B12 a)(hb:B12 b):(e+w* -a+v* -b).natAbs<=24*(n+1):=by
 have m:∀ {w a:Int},(w=1\/w=-1\/w=0)->B12 a->(w* -a).natAbs<=12:=λhw ha=>by
  unfold B12 at ha
  rcases hw with rfl|rfl|rfl<;>lia
 have:=m hw ha
 have:=m hv hb
 generalize w* -a=x at*
 generalize v* -b=y at*
 clear m hw hv ha hb
 lia
theorem xm{l:Leaf}{n:Nat}{a b:Int}(h:l.Near n)(ha:B12 a)(hb:B12 b):(l.by 1 0 0 1 (-a) (-b)).Near (n+1):=by
 obtain⟨h0,h1,h2,h3⟩:=h.unit
 exact⟨by simpa[Leaf.by] using h.u0,oS h.w4 h0 h1 ha hb,oS h.w5 h2 h3 ha hb⟩
theorem xn{l:Leaf}{n:Nat}(h:l.Near n):(l.by (-1) 0 0 1 0 0).Near (n+1):=by
 have p:=h.w4
 have q:=h.w5
 exact⟨by simpa[Leaf.by] using h.u0,by simp[Leaf.by];lia,by simp[Leaf.by];lia⟩
theorem xo{l:Leaf}{n:Nat}(h:l.Near n):(l.by 0 1 (-1) 0 0 0).Near (n+1):=by
 have p:=h.w4
 have q:=h.w5
 refine⟨?_,by simp[Leaf.by];lia,by simp[Leaf.by];lia⟩
 rcases h.u0 with⟨a,b,c,d⟩|⟨a,b,c,d⟩
 ·exact .inr (by simp[Leaf.by,a,b,c,d])
 ·exact .inl (by simp[Leaf.by,a,b,c,d])
theorem xp{l:Leaf}{n:Nat}{f g:Int}(h:l.Near n):((l.by 1 0 0 1 0 0).dye f g).Near (n+1):=by
 have p:=h.w4
 have q:=h.w5
 exact⟨by simpa[Leaf.by,Leaf.dye] using h.u0,by simp[Leaf.by,Leaf.dye];lia,by simp[Leaf.by,Leaf.dye];lia⟩
structure Leaf.Good(l:Leaf):Prop where
 rows:Rows l.rows
 a:B12 l.a
 b:B12 l.b
 c:B12 l.c
 d:B12 l.d
 ne:¬ l.a*l.d=l.b*l.c
 many:l.hues.length=7
 hue:∀ h∈l.hues,0<=h/\h<=6
theorem Pat.leaf_good:∀ {p:Pat},p.Wf->∀ l∈p.leaves,l.Good/\l.Near p.depth
 | .mot L a b c d,h,l,q=>by
  have:l=aN L a b c d:=by simpa[Pat.leaves] using q
  subst this
  obtain⟨h1,h2,h3,h4,h5,h6⟩:=h
  exact⟨⟨h1,h2,h3,h4,h5,h6,rfl,by intro h q;simp[aN] at q;lia⟩,⟨by simp[aN],by simp[aN],by simp[aN]⟩⟩
 | .over p r,h,l,q=>by
  rcases AW.mp q with q|q
  ·obtain⟨g,n⟩:=Pat.leaf_good h.1 l q
   exact⟨g,n.mono (by simp only[Pat.depth];lia)⟩
  ·obtain⟨g,n⟩:=Pat.leaf_good h.2 l q
   exact⟨g,n.mono (by simp only[Pat.depth];lia)⟩
 | .sh a b p,h,l,q=>by
  obtain⟨l',q',rfl⟩:=A1.mp q
  obtain⟨g,n⟩:=Pat.leaf_good h.2.2 l' q'
  exact⟨⟨g.rows,g.a,g.b,g.c,g.d,g.ne,g.many,g.hue⟩,xm n h.1 h.2.1⟩
 | .mir p,h,l,q=>by
  obtain⟨l',q',rfl⟩:=A1.mp q
  obtain⟨g,n⟩:=Pat.leaf_good (p:=p) h l' q'
  exact⟨⟨g.rows,g.a,g.b,g.c,g.d,g.ne,g.many,g.hue⟩,xn n⟩
 | .tur p,h,l,q=>by
  obtain⟨l',q',rfl⟩:=A1.mp q
  obtain⟨g,n⟩:=Pat.leaf_good (p:=p) h l' q'
  exact⟨⟨g.rows,g.a,g.b,g.c,g.d,g.ne,g.many,g.hue⟩,xo n⟩
 | .hue f k p,h,l,q=>by
  obtain⟨l',q',rfl⟩:=A1.mp q
  obtain⟨g,n⟩:=Pat.leaf_good (p:=p) h.2.2 l' q'
  refine⟨⟨g.rows,g.a,g.b,g.c,g.d,g.ne,?_,λv hv=>?_⟩,xp n⟩
  ·show(l'.hues.map _).length=7
   rw[AH];exact g.many
  ·obtain⟨u,hu,rfl⟩:=A1.mp hv
   have:=g.hue u hu
   have:=h.2.1
   unfold cS
   split<;>lia
def Pat.D(p:Pat):My.D:= .lst [.str p.text,.int p.depth,.lst (p.leaves.map Leaf.D)]
def Leaf.T(dy:Bool)(d4 new b0 b1 b2 b3 b4 b5:Int)(l:Leaf):Leaf:=if dy then(l.by b0 b1 b2 b3 b4 b5).dye d4 new else l.by b0 b1 b2 b3 b4 b5
theorem cy{a:Int}(h:1<=a/\a<=6):((toString a:String):Str).length<=3:=bc (by lia)
def Wraps(p:Pat)(H:Prop)(R:My.D->Prop):Prop:=(5<=p.depth->R p.D)/\(p.depth<5->R (Pat.mir p).D/\R (Pat.tur p).D/\(∀ a b,B12 a->B12 b->R (Pat.sh a b p).D)/\(H->∀ f g:Int,(1<=f/\f<=6)->(1<=g/\g<=6)->R (Pat.hue f g p).D))
theorem xq{p:Pat}{R:My.D->Prop}{j:Int}(h:Wraps p (j=3) R)(hd:p.depth<5){k A B d4 new:Int}(hA:B12 A)(hB:B12 B)(ho:1<=d4/\d4<=6)(hn:1<=new/\new<=6)(hj:0<=j/\j<4):
  ∃ (hs:Str) (b0 b1 b2 b3 b4 b5:Int),atI [D.str "m",D.str "t",D.str ((((("s":Str)++(toString A:String))++",")++(toString B:String))++":"),D.str ((("h":Str)++(toString d4:String))++(toString new:String))] j=some (.str hs)/\
   atI ([D.tup [.int (-1),.int 0,.int 0,.int 1,.int 0,.int 0],D.tup [.int 0,.int 1,.int (-1),.int 0,.int 0,.int 0]]++[D.tup [.int 1,.int 0,.int 0,.int 1,.int (-A),.int (-B)],D.tup [.int 1,.int 0,.int 0,.int 1,.int 0,.int 0]]) j=some (.tup [.int b0,.int b1,.int b2,.int b3,.int b4,.int b5])/\
   (b0.natAbs<=1/\b1.natAbs<=1/\b2.natAbs<=1/\b3.natAbs<=1/\b4.natAbs<=12/\b5.natAbs<=12)/\hs.length<=20/\
   R (.lst [.str (hs++p.text),.int (p.depth+1),.lst ((p.leaves.map (Leaf.T (decide (j=3)) d4 new b0 b1 b2 b3 b4 b5)).map Leaf.D)]):=by
 obtain⟨h1,h2,h3,h4⟩:=h.2 hd
 have l1:("s":Str).length=1:=rfl
 have l2:(",":Str).length=1:=rfl
 have l3:(":":Str).length=1:=rfl
 have l4:("h":Str).length=1:=rfl
 have lA:=bc hA
 have lB:=bc hB
 have lo:=cy ho
 have ln:=cy hn
 have eD:∀ n:Nat,D.int ((n+1:Nat):Int)=D.int ((n:Int)+1):=λn=>by congr 1
 unfold B12 at hA hB
 rcases(by lia:j=0\/j=1\/j=2\/j=3) with rfl|rfl|rfl|rfl
 ·exact⟨_,_,_,_,_,_,_,rfl,rfl,by lia,by decide,h1⟩
 ·exact⟨_,_,_,_,_,_,_,rfl,rfl,by lia,by decide,h2⟩
 ·refine⟨_,_,_,_,_,_,_,rfl,rfl,by lia,?_,h3 A B hA hB⟩
  repeat rw[aq]
  lia
 ·refine⟨_,_,_,_,_,_,_,rfl,rfl,by lia,?_,h4 rfl d4 new ho hn⟩
  repeat rw[aq]
  lia
theorem xr(h d4 new:Int):atI [D.int h,D.int new] (if decide (h=d4)=true then(1:Int) else 0)=some (.int (cS d4 new h)):=by
 unfold cS
 by_cases e:h=d4
 ·rw[if_pos e,if_pos (by simpa using e)];rfl
 ·rw[if_neg e,if_neg (by simpa using e)];rfl
theorem iJ{α:Type}{xs:List α}{k:Nat}{x:α}(h:xs[k]?=some x):xs.take (k+1)=xs.take k++[x]:=by
 have hk:k<xs.length:=(AN.mp h).1
 rw[List.take_succ,h];rfl
theorem Pat.leaves_len:∀ (p:Pat),p.leaves.length<=2 ^ p.depth
 | .mot ..=>Az _
 | .over p q=>by
  have h1:=p.leaves_len
  have h2:=q.leaves_len
  have m1:2 ^ p.depth<=2 ^ (max p.depth q.depth):=Bd (by decide) (Co _ _)
  have m2:2 ^ q.depth<=2 ^ (max p.depth q.depth):=Bd (by decide) (Cp _ _)
  rw[Pat.leaves,AI,Pat.depth,Cq]
  lia
 | .sh a b p=>by rw[Pat.leaves,AH,Pat.depth,A5];have:=p.leaves_len;lia
 | .mir p=>by rw[Pat.leaves,AH,Pat.depth,A5];have:=p.leaves_len;lia
 | .tur p=>by rw[Pat.leaves,AH,Pat.depth,A5];have:=p.leaves_len;lia
 | .hue f g p=>by rw[Pat.leaves,AH,Pat.depth,A5];have:=p.leaves_len;lia
theorem Pat.leaves_32{p:Pat}(h:p.depth<=5):p.leaves.length<=32:=AK p.leaves_len (Bd (by decide) h)
def xt:SpD:=λds R=>∃ (p:Pat) (draw:Int),ds=[p.D,.int draw]/\p.Wf/\p.depth<=5/\p.text.length<=100000/\Wraps p (draw % 4=3) R
theorem xu{a b c d u v:Int}(hn:¬ a*d=b*c)(h:(u*d - v*c).fmod (a*d - b*c)=0/\(a*v - b*u).fmod (a*d - b*c)=0):∃ i j,u=i*a+j*c/\v=i*b+j*d:=by
 have hz:a*d - b*c≠0:=by omega
 obtain⟨i,ei⟩:(a*d - b*c)∣(u*d - v*c):=⟨_,(CU h.1).symm⟩
 obtain⟨j,ej⟩:(a*d - b*c)∣(a*v - b*u):=⟨_,(CU h.2).symm⟩
 refine⟨i,j,?_,?_⟩
 ·have:(a*d - b*c)*u=(a*d - b*c)*(i*a+j*c):=by
   have q1:(a*d - b*c)*u=a*(u*d - v*c)+c*(a*v - b*u):=by grind
   rw[q1,ei,ej];grind
  exact Cm hz this
 ·have:(a*d - b*c)*v=(a*d - b*c)*(i*b+j*d):=by
   have q1:(a*d - b*c)*v=b*(u*d - v*c)+d*(a*v - b*u):=by grind
   rw[q1,ei,ej];grind
  exact Cm hz this
theorem Uni.trans{a b c d p0 p1 q0 q1 x0 x1 y0 y1:Int}(h:Uni a b c d p0 p1 q0 q1)(k:Uni p0 p1 q0 q1 x0 x1 y0 y1):Uni a b c d x0 x1 y0 y1:=by
 obtain⟨m,n,k1,l,hd,rfl,rfl,rfl,rfl⟩:=h
 obtain⟨m',n',k',l',d_,rfl,rfl,rfl,rfl⟩:=k
 have dt:(m'*m+n'*k1)*(k'*n+l'*l) - (m'*n+n'*l)*(k'*m+l'*k1)=(m'*l' - n'*k')*(m*l - n*k1):=by grind
 refine⟨m'*m+n'*k1,m'*n+n'*l,k'*m+l'*k1,k'*n+l'*l,?_,by grind,by grind,by grind,by grind⟩
 rw[dt]
 rcases hd with e|e<;>rcases d_ with e'|e'<;>rw[e,e']<;>decide
theorem dG:∀ (n:Nat) (a b c d:Int),d.natAbs<=n->∃ p0 p1 q0,Lev a b c d p0 p1 q0
 |n,a,b,c,d,hn=>by
  by_cases hd:d=0
  ·subst hd
   by_cases hb:0<=b
   ·exact⟨a,b,c,hb,Uni.refl a b c 0⟩
   ·exact⟨-a,-b,c,by lia,(Uni.refl a b c 0).neg⟩
  ·match n,hn with
   |0,hn=>exact absurd (by lia:d=0) hd
   |n+1,hn=>
    have lt:=(fdm b d hd).1
    obtain⟨p0,p1,q0,h0,hu⟩:=dG n c d (a - b.fdiv d*c) (b - b.fdiv d*d) (by lia)
    exact⟨p0,p1,q0,h0,((Uni.refl a b c d).step (b.fdiv d)).trans hu⟩
theorem xx{a b c d g:Int}(hn:¬ a*d=b*c)(g0:0<=g)(g1:g∣b)(g2:g∣d)(g3:∀ e,e∣b->e∣d->e∣g):
  ∃ w s,FamOf a b c d w g s:=by
 obtain⟨p0,p1,q0,hL⟩:=dG d.natAbs a b c d (Az _)
 have hF:=eM hn hL
 have hp:=hF.2.1
 obtain⟨m,n,k,l,_,e1,e2,e3,e4⟩:=hL.2
 obtain⟨m',n',k',l',_,f1,f2,f3,f4⟩:=hL.2.inv
 have d1:p1∣g:=g3 p1 ⟨m',by rw[f2];grind⟩ ⟨k',by rw[f4];grind⟩
 have d2:g∣p1:=by
  rw[e2]
  exact Cn (BW g1) (BW g2)
 have:p1=g:=CV (by lia) g0 d1 d2
 subst this
 exact⟨_,_,hF⟩
theorem FamOf.uniq_lean{a b c d w h s x i j:Int}(f:FamOf a b c d w h s)(e1:x=i*a+j*c)(e2:h=i*b+j*d)(h0:0<=x)(h1:x<=s):x=s:=by
 obtain⟨hw,hh,hs,Di,hu⟩:=f
 obtain⟨m,n,k,l,_,f1,f2,f3,f4⟩:=hu.inv
 -- (x,h)=(i m+j k) (w,0)+(i n+j l) (s,h)
 have ex:x=(i*m+j*k)*w+(i*n+j*l)*s:=by rw[e1,f1,f3];grind
 have eh:h=(i*n+j*l)*h:=by
  have:i*b+j*d=(i*n+j*l)*h:=by rw[f2,f4];grind
  rw[<- this];exact e2
 have one:i*n+j*l=1:=by
  have:(i*n+j*l)*h=1*h:=by lia
  exact BA (by lia) this
 rw[one] at ex
 generalize i*m+j*k=t at ex
 have:t*w=x - s:=by lia
 rcases(by lia:t<=-1\/t=0\/1<=t) with z|z|z
 ·have:=AU z (show 0<=w by lia)
  lia
 ·subst z;lia
 ·have:=AU z (show 0<=w by lia)
  lia
theorem notT{c:Prop}[Decidable c](h:(!decide c)=true):¬ c:=by
 intro q
 rw[decide_eq_true q] at h
 cases h
theorem notF{c:Prop}[Decidable c](h:¬ (!decide c)=true):c:=by
 rcases Classical.em c with q|q
 ·exact q
 ·rw[decide_eq_false q] at h
  exact absurd rfl h
def Leaf.o0(l:Leaf):Int:=l.w0*l.a+l.w2*l.b
def Leaf.o1(l:Leaf):Int:=l.w1*l.a+l.w3*l.b
def Leaf.t0(l:Leaf):Int:=l.w0*l.c+l.w2*l.d
def Leaf.t1(l:Leaf):Int:=l.w1*l.c+l.w3*l.d
theorem cz{w a:Int}(h:w=1\/w=-1\/w=0)(ha:B12 a):(w*a).natAbs<=12:=by
 unfold B12 at ha
 rcases h with e|e|e<;>rw[e]<;>lia
theorem mul12{a b:Int}(ha:B12 a)(hb:B12 b):(a*b).natAbs<=144:=by
 unfold B12 at ha hb
 rw[Bp]
 exact AK (BT (show a.natAbs<=12 by lia) (show b.natAbs<=12 by lia)) (by decide)
theorem Leaf.sizes{l:Leaf}{n:Nat}(g:l.Good)(h:l.Near n):l.o0.natAbs<=24/\l.o1.natAbs<=24/\l.t0.natAbs<=24/\l.t1.natAbs<=24/\¬ l.o0*l.t1=l.o1*l.t0/\(l.o0*l.t1 - l.o1*l.t0).natAbs<=288:=by
 obtain⟨h0,h1,h2,h3⟩:=h.unit
 have a0:=cz h0 g.a
 have a1:=cz h1 g.a
 have b2:=cz h2 g.b
 have b3:=cz h3 g.b
 have c0:=cz h0 g.c
 have c1:=cz h1 g.c
 have d2:=cz h2 g.d
 have d3:=cz h3 g.d
 have dt:l.o0*l.t1 - l.o1*l.t0=(l.w0*l.w3 - l.w1*l.w2)*(l.a*l.d - l.b*l.c):=by unfold Leaf.o0 Leaf.o1 Leaf.t0 Leaf.t1;grind
 have dw:(l.w0*l.w3 - l.w1*l.w2).natAbs=1:=by
  rcases h.u0 with⟨p,q,r,t⟩|⟨p,q,r,t⟩
  ·rw[q,BX,CW,Bp,p,t]
  ·rw[p,BX,Int.zero_sub,Int.natAbs_neg,Bp,q,r]
 have da:(l.o0*l.t1 - l.o1*l.t0).natAbs=(l.a*l.d - l.b*l.c).natAbs:=by rw[dt,Bp,dw,Nat.one_mul]
 refine⟨ab24 a0 b2,ab24 a1 b3,ab24 c0 d2,ab24 c1 d3,λz=>g.ne ?_,?_⟩
 ·rw[z,Int.sub_self] at da
  exact Int.sub_eq_zero.mp (CH.mp da.symm)
 ·rw[da]
  have m1:=mul12 g.a g.d
  have m2:=mul12 g.b g.c
  generalize l.a*l.d=x at*
  generalize l.b*l.c=y at*
  clear da dw dt d3 d2 c1 c0 b3 b2 a1 a0 h3 h2 h1 h0 h g
  lia
def xy:SpD:=λds R=>∃ (l:Leaf) (n:Nat),ds=[l.D]/\l.Good/\l.Near n/\∀ w h s:Int,FamOf l.o0 l.o1 l.t0 l.t1 w h s->w*h<=288->R (.tup [.int w,.int h,.int s])
theorem xz{w h s x y:Int}(h1:y % h=0/\(x - y / h*s) % w=0):∃ i j,x=i*w+j*s/\y=j*h:=by
 refine⟨(x - y / h*s) / w,y / h,?_,?_⟩
 ·have:=CY (x - y / h*s) w
  rw[h1.2] at this
  rw[A9 w] at this
  lia
 ·have:=CY y h
  rw[h1.1,A9 h] at this
  lia
theorem cm(x y:Int):∃ g u,Meas x y g u:=by
 obtain⟨p0,p1,q0,hL⟩:=dG y.natAbs 1 x 0 y (Az _)
 exact⟨p1,p0,oH ⟨hL.1,hL.2⟩⟩
theorem Meas.gcd{x y g u G:Int}(h:Meas x y g u)(g0:0<=G)(g1:G∣x)(g2:G∣y)(g3:∀ e,e∣x->e∣y->e∣G):G=g:=by
 obtain⟨h0,⟨i,ei⟩,⟨j,ej⟩,n,en⟩:=h
 refine CV g0 h0 ?_ (g3 g ⟨i,by rw[ei,A9]⟩ ⟨j,by rw[ej,A9]⟩)
 rw[en]
 exact Cn (BW g1) (BW g2)
structure Fm(w h s:Int):Prop where
 w0:0<w
 w1:w<=720
 h0:0<h
 h1:h<=720
 s0:0<=s
 sw:s<w
theorem xA{w1 h1 s1 w2 h2 s2:Int}(f:Fm w1 h1 s1)(k:Fm w2 h2 s2):∃ g u w h s A,Meas w1 w2 g u/\w=w1*w2 / g/\MetR w1 h1 s1 w2 h2 s2 w h s A:=by
 obtain⟨g,u,M1⟩:=cm w1 w2
 obtain⟨k',u',M2⟩:=cm h1 h2
 obtain⟨gg,o9,M3⟩:=cm g (h1*h2 / k' / h2*s2 - h1*h2 / k' / h1*s1)
 exact⟨g,u,_,_,_,_,M1,rfl,fR f.w0 k.w0 f.h0 k.h0 M1 M2 M3⟩
theorem MetR.high{w1 h1 s1 w2 h2 s2 w h s A x j:Int}(M:MetR w1 h1 s1 w2 h2 s2 w h s A)(hh:0<h1)(hj:1<=j)(e1:∃ i,x=i*w1+j*s1)(e2:∃ i k,x=i*w2+k*s2/\j*h1=k*h2):h<=j*h1/\(j*h1=h->0<=x->x<w->x=s):=by
 obtain⟨i,e1⟩:=e1
 obtain⟨i',k,e3,e4⟩:=e2
 obtain⟨a,b,e5,e6⟩:=M.all x (j*h1) ⟨i,j,e1,rfl⟩ ⟨i',k,e3,e4⟩
 have hp:0<j*h1:=AL (by lia) hh
 have hb:1<=b:=by
  rcases(by lia:b<=0\/1<=b) with z|z
  ·have:=Bi z (show 0<=h by have:=M.h0;lia)
   lia
  ·exact z
 refine⟨?_,λe x0 x1=>?_⟩
 ·have:=AU hb (show 0<=h by have:=M.h0;lia)
  lia
 ·have ob:b=1:=by
   have:b*h=1*h:=by lia
   exact BA (by have:=M.h0;lia) this
  rw[ob] at e5
  have s0:=M.s0
  have sw:=M.sw
  have:a*w=x - s:=by lia
  rcases(by lia:a<=-1\/a=0\/1<=a) with z|z|z
  ·have:=AU z (show 0<=w by lia)
   lia
  ·subst z;lia
  ·have:=AU z (show 0<=w by lia)
   lia
def xB:SpD:=λds R=>∃ w1 h1 s1 w2 h2 s2:Int,ds=[.tup [.int w1,.int h1,.int s1],.tup [.int w2,.int h2,.int s2]]/\Fm w1 h1 s1/\Fm w2 h2 s2/\
 ∀ w h s A,MetR w1 h1 s1 w2 h2 s2 w h s A->(w*h<=720->R (.tup [.int w,.int h,.int s]))/\(720<w*h->R .non)
theorem xC{x w1 s S i:Int}(hw:0<w1)(hx:x<w1)(x0:0<=x)(hS:0<=S)(e:S=i*w1+s)(e2:∃ i',x=i'*w1+s):∃ k,S=x+k*w1/\0<=k:=by
 obtain⟨i',e2⟩:=e2
 refine⟨i - i',by grind,?_⟩
 rcases(by lia:i - i'<=-1\/0<=i - i') with z|z
 ·have:=AU z (show 0<=w1 by lia)
  have:(i - i')*w1=S - x:=by grind
  lia
 ·exact z
def InF(w h s x y:Int):Prop:=∃ i j,x=i*w+j*s/\y=j*h
def Leaf.Lat(l:Leaf)(x y:Int):Prop:=∃ i j,x=i*l.o0+j*l.t0/\y=i*l.o1+j*l.t1
theorem FamOf.lat{a b c d w h s:Int}(f:FamOf a b c d w h s)(x y:Int):InF w h s x y↔∃ i j,x=i*a+j*c/\y=i*b+j*d:=by
 obtain⟨_,_,_,_,hu⟩:=f
 obtain⟨m,n,k,l,_,e1,e2,e3,e4⟩:=id hu
 obtain⟨m',n',k',l',_,f1,f2,f3,f4⟩:=hu.inv
 constructor
 ·rintro⟨i,j,rfl,rfl⟩
  refine⟨i*m+j*k,i*n+j*l,by rw[e1,e3];grind,?_⟩
  have z:i*0+j*h=(i*m+j*k)*b+(i*n+j*l)*d:=by rw[e2,e4];grind
  lia
 ·rintro⟨i,j,rfl,rfl⟩
  refine⟨i*m'+j*k',i*n'+j*l',by rw[f1,f3];grind,by rw[f2,f4];grind⟩
theorem MetR.lat{w1 h1 s1 w2 h2 s2 w h s A:Int}(M:MetR w1 h1 s1 w2 h2 s2 w h s A)(x y:Int):InF w h s x y↔InF w1 h1 s1 x y/\InF w2 h2 s2 x y:=by
 constructor
 ·rintro⟨i,j,rfl,rfl⟩
  obtain⟨a1,e1⟩:=M.in1
  obtain⟨a2,e2⟩:=M.in2
  obtain⟨b1,c1,e3,e4⟩:=M.up1
  obtain⟨b2,c2,e5,e6⟩:=M.up2
  refine⟨⟨i*a1+j*b1,j*c1,?_,?_⟩,⟨i*a2+j*b2,j*c2,?_,?_⟩⟩
  ·rw[e1,e3];grind
  ·rw[e4];grind
  ·rw[e2,e5];grind
  ·rw[e6];grind
 ·rintro⟨h1,h2⟩
  exact M.all x y h1 h2
theorem InF.le{w h s w' h' s':Int}(hw:0<w)(hh:0<h)(Gp:0<w')(Gq:0<h')(sub:∀ x y,InF w' h' s' x y->InF w h s x y):w*h<=w'*h'/\w<=w'/\h<=h':=by
 obtain⟨i,j,e1,e2⟩:=sub w' 0 ⟨1,0,by lia,by lia⟩
 have j0:j=0:=by
  rcases BK.mp e2.symm with z|z
  ·exact z
  ·lia
 subst j0
 have i1:1<=i:=by
  rcases(by lia:i<=0\/1<=i) with z|z
  ·have:=Bi z (show 0<=w by lia)
   lia
  ·exact z
 obtain⟨i',j',e3,e4⟩:=sub s' h' ⟨0,1,by lia,by lia⟩
 have j1:1<=j':=by
  rcases(by lia:j'<=0\/1<=j') with z|z
  ·have:=Bi z (show 0<=h by lia)
   lia
  ·exact z
 have a1:=AU i1 (show 0<=w by lia)
 have a2:=AU j1 (show 0<=h by lia)
 have b1:w<=w':=by lia
 have b2:h<=h':=by lia
 exact⟨CZ b1 b2 (by lia) (by lia),b1,b2⟩
theorem InF.uniq{w h s w' h' s':Int}(hw:0<w)(hh:0<h)(hs:0<=s)(Di:s<w)(Gp:0<w')(Gq:0<h')(Dy:0<=s')(JH:s'<w')(e:∀ x y,InF w h s x y↔InF w' h' s' x y):w=w'/\h=h'/\s=s':=by
 obtain⟨_,a1,a2⟩:=InF.le hw hh Gp Gq (λx y q=>(e x y).mpr q)
 obtain⟨_,b1,b2⟩:=InF.le Gp Gq hw hh (λx y q=>(e x y).mp q)
 have ew:w=w':=by lia
 have eh:h=h':=by lia
 subst ew eh
 refine⟨rfl,rfl,?_⟩
 obtain⟨i,j,e1,e2⟩:=(e s h).mp ⟨0,1,by lia,by lia⟩
 have j1:j=1:=by
  have:j*h=1*h:=by lia
  exact BA (by lia) this
 subst j1
 have:i*w=s - s':=by lia
 rcases(by lia:i<=-1\/i=0\/1<=i) with z|z|z
 ·have:=AU z (show 0<=w by lia)
  lia
 ·subst z;lia
 ·have:=AU z (show 0<=w by lia)
  lia
structure Fam0(w h s:Int):Prop where
 w0:0<w
 h0:0<h
 s0:0<=s
 sw:s<w
theorem oU{w1 h1 s1 w2 h2 s2:Int}(f:Fam0 w1 h1 s1)(k:Fam0 w2 h2 s2):∃ w h s,Fam0 w h s/\∀ x y,InF w h s x y↔InF w1 h1 s1 x y/\InF w2 h2 s2 x y:=by
 obtain⟨g,u,M1⟩:=cm w1 w2
 obtain⟨k',u',M2⟩:=cm h1 h2
 obtain⟨gg,o9,M3⟩:=cm g (h1*h2 / k' / h2*s2 - h1*h2 / k' / h1*s1)
 have M:=fR f.w0 k.w0 f.h0 k.h0 M1 M2 M3
 exact⟨_,_,_,⟨M.w0,M.h0,M.s0,M.sw⟩,M.lat⟩
theorem Leaf.fam_ex{l:Leaf}{n:Nat}(g:l.Good)(h:l.Near n):∃ w k s,Fam0 w k s/\∀ x y,InF w k s x y↔l.Lat x y:=by
 obtain⟨_,_,_,_,ne,_⟩:=Leaf.sizes g h
 obtain⟨p0,p1,q0,hL⟩:=dG l.t1.natAbs l.o0 l.o1 l.t0 l.t1 (Az _)
 have f:=eM ne hL
 exact⟨_,_,_,⟨f.1,f.2.1,f.2.2.1,f.2.2.2.1⟩,f.lat⟩
def bt(ls:List Leaf)(x y:Int):Prop:=∀ l∈ls,l.Lat x y
theorem oV{n:Nat}:∀ (ls:List Leaf) (w h s:Int),Fam0 w h s->(∀ l∈ls,l.Good/\l.Near n)->∃ w' h' s',Fam0 w' h' s'/\∀ x y,InF w' h' s' x y↔InF w h s x y/\bt ls x y
 |[],w,h,s,f,_=>⟨w,h,s,f,λx y=>⟨λq=>⟨q,λl z=>by cases z⟩,λq=>q.1⟩⟩
 |l::r,w,h,s,f,g=>by
  obtain⟨w1,h1,s1,f1,e1⟩:=Leaf.fam_ex (g l AE).1 (g l AE).2
  obtain⟨w2,h2,s2,f2,e2⟩:=oU f f1
  obtain⟨w3,h3,s3,f3,e3⟩:=oV r w2 h2 s2 f2 λl' q=>g l' (AC _ q)
  refine⟨w3,h3,s3,f3,λx y=>?_⟩
  rw[e3,e2,e1]
  constructor
  ·rintro⟨⟨a,b⟩,c⟩
   exact⟨a,λl' q=>(AA.mp q).elim (λz=>z ▸ b) (c l')⟩
  ·rintro⟨a,b⟩
   exact⟨⟨a,b l AE⟩,λl' q=>b l' (AC _ q)⟩
theorem cut1(d:D)(ds:List D):cutD (d::ds) (some 1) none=ds:=by
 unfold cutD
 have e1:HT.sIx (d::ds).length 0 (some 1)=1:=by simp[HT.sIx]
 have e2:HT.sIx (d::ds).length (d::ds).length none=(d::ds).length:=by simp[HT.sIx]
 rw[e1,e2,List.drop_one,List.tail_cons,AB,C0,BY]
def xD:SpD:=λds R=>∃ (ls:List Leaf) (n:Nat),ds=[.lst (ls.map Leaf.D)]/\ls≠[]/\(∀ l∈ls,l.Good/\l.Near n)/\
 ∀ w h s:Int,Fam0 w h s->(∀ x y,InF w h s x y↔bt ls x y)->(w*h<=720->R (.tup [.int w,.int h,.int s]))/\(720<w*h->R .non)
def Pat.Lat:Pat->Int->Int->Prop
 | .mot _ a b c d,x,y=>∃ i j,x=i*a+j*c/\y=i*b+j*d
 | .over p q,x,y=>p.Lat x y/\q.Lat x y
 | .sh _ _ p,x,y=>p.Lat x y
 | .mir p,x,y=>p.Lat (-x) y
 | .tur p,x,y=>p.Lat y (-x)
 | .hue _ _ p,x,y=>p.Lat x y
theorem Leaf.by_lat(l:Leaf)(b0 b1 b2 b3 b4 b5 x y:Int):(l.by b0 b1 b2 b3 b4 b5).Lat x y↔∃ u v,l.Lat u v/\x=b0*u+b2*v/\y=b1*u+b3*v:=by
 have e0:(l.by b0 b1 b2 b3 b4 b5).o0=b0*l.o0+b2*l.o1:=by simp only[Leaf.o0,Leaf.o1,Leaf.by];grind
 have e1:(l.by b0 b1 b2 b3 b4 b5).o1=b1*l.o0+b3*l.o1:=by simp only[Leaf.o0,Leaf.o1,Leaf.by];grind
 have e2:(l.by b0 b1 b2 b3 b4 b5).t0=b0*l.t0+b2*l.t1:=by simp only[Leaf.t0,Leaf.t1,Leaf.by];grind
 have e3:(l.by b0 b1 b2 b3 b4 b5).t1=b1*l.t0+b3*l.t1:=by simp only[Leaf.t0,Leaf.t1,Leaf.by];grind
 unfold Leaf.Lat
 rw[e0,e1,e2,e3]
 generalize l.o0=o0
 generalize l.o1=o1
 generalize l.t0=t0
 generalize l.t1=t1
 constructor
 ·rintro⟨i,j,rfl,rfl⟩
  exact⟨_,_,⟨i,j,rfl,rfl⟩,by grind,by grind⟩
 ·rintro⟨_,_,⟨i,j,rfl,rfl⟩,rfl,rfl⟩
  exact⟨i,j,by grind,by grind⟩
theorem Leaf.dye_lat(l:Leaf)(f g x y:Int):(l.dye f g).Lat x y↔l.Lat x y:=Iff.rfl
theorem xE(a b:List Leaf)(x y:Int):bt (a++b) x y↔bt a x y/\bt b x y:=by
 constructor
 ·intro h
  exact⟨λl q=>h l (Bf _ q),λl q=>h l (AJ _ q)⟩
 ·rintro⟨h1,h2⟩ l q
  rcases AW.mp q with q|q
  ·exact h1 l q
  ·exact h2 l q
theorem latAll_map{f:Leaf->Leaf}{x y u v:Int}(hf:∀ l:Leaf,(f l).Lat x y↔l.Lat u v)(ls:List Leaf):bt (ls.map f) x y↔bt ls u v:=by
 constructor
 ·intro h l q
  exact(hf l).mp (h _ (A1.mpr ⟨l,q,rfl⟩))
 ·intro h l q
  obtain⟨l',q',rfl⟩:=A1.mp q
  exact(hf l').mpr (h l' q')
theorem oW(l:Leaf)(e f x y:Int):(l.by 1 0 0 1 e f).Lat x y↔l.Lat x y:=by
 rw[Leaf.by_lat]
 constructor
 ·rintro⟨u,v,h,e1,e2⟩
  have e1:x=u:=by lia
  have e2:y=v:=by lia
  rw[e1,e2];exact h
 ·intro h
  exact⟨x,y,h,by lia,by lia⟩
theorem Pat.lat_leaves:∀ (p:Pat) (x y:Int),bt p.leaves x y↔p.Lat x y
 | .mot L a b c d,x,y=>by
  have e0:(aN L a b c d).o0=a:=by simp[Leaf.o0,aN]
  have e1:(aN L a b c d).o1=b:=by simp[Leaf.o1,aN]
  have e2:(aN L a b c d).t0=c:=by simp[Leaf.t0,aN]
  have e3:(aN L a b c d).t1=d:=by simp[Leaf.t1,aN]
  have e:(aN L a b c d).Lat x y↔(Pat.mot L a b c d).Lat x y:=by
   unfold Leaf.Lat
   rw[e0,e1,e2,e3]
   exact Iff.rfl
  rw[<- e]
  constructor
  ·intro h;exact h _ AE
  ·intro h l q
   rw[Ay.mp q];exact h
 | .over p q,x,y=>by rw[Pat.leaves,xE,Pat.lat_leaves p,Pat.lat_leaves q,Pat.Lat]
 | .sh a b p,x,y=>by rw[Pat.leaves,latAll_map (λl=>oW l _ _ x y),Pat.lat_leaves p,Pat.Lat]
 | .mir p,x,y=>by
  have e:∀ l:Leaf,(l.by (-1) 0 0 1 0 0).Lat x y↔l.Lat (-x) y:=λl=>by
   rw[Leaf.by_lat]
   constructor
   ·rintro⟨u,v,h,e1,e2⟩
    have e1: -x=u:=by lia
    have e2:y=v:=by lia
    rw[e1,e2];exact h
   ·intro h
    exact⟨-x,y,h,by lia,by lia⟩
  rw[Pat.leaves,latAll_map e,Pat.lat_leaves p,Pat.Lat]
 | .tur p,x,y=>by
  have e:∀ l:Leaf,(l.by 0 1 (-1) 0 0 0).Lat x y↔l.Lat y (-x):=λl=>by
   rw[Leaf.by_lat]
   constructor
   ·rintro⟨u,v,h,e1,e2⟩
    have e1: -x=v:=by lia
    have e2:y=u:=by lia
    rw[e1,e2];exact h
   ·intro h
    exact⟨y,-x,h,by lia,by lia⟩
  rw[Pat.leaves,latAll_map e,Pat.lat_leaves p,Pat.Lat]
 | .hue f g p,x,y=>by
  rw[Pat.leaves,latAll_map (λl=>(Leaf.dye_lat _ f g x y).trans (oW l _ _ x y)),Pat.lat_leaves p,Pat.Lat]
structure Pat.Fam(p:Pat)(w h s:Int):Prop where
 f:Fam0 w h s
 lat:∀ x y,InF w h s x y↔p.Lat x y
theorem Pat.Fam.uniq{p:Pat}{w h s w' h' s':Int}(a:p.Fam w h s)(b:p.Fam w' h' s'):w=w'/\h=h'/\s=s':=
 InF.uniq a.f.w0 a.f.h0 a.f.s0 a.f.sw b.f.w0 b.f.h0 b.f.s0 b.f.sw λx y=>(a.lat x y).trans (b.lat x y).symm
theorem Pat.Fam.mot{L:List Str}{a b c d w h s:Int}(k:FamOf a b c d w h s):(Pat.mot L a b c d).Fam w h s:=⟨⟨k.1,k.2.1,k.2.2.1,k.2.2.2.1⟩,k.lat⟩
theorem Pat.Fam.sh{p:Pat}{w h s:Int}(a b:Int)(k:p.Fam w h s):(Pat.sh a b p).Fam w h s:=⟨k.f,k.lat⟩
theorem Pat.Fam.hue{p:Pat}{w h s:Int}(a b:Int)(k:p.Fam w h s):(Pat.hue a b p).Fam w h s:=⟨k.f,k.lat⟩
theorem Pat.Fam.mir{p:Pat}{w h s:Int}(k:p.Fam w h s):(Pat.mir p).Fam w h (-s % w):=by
 refine⟨⟨k.f.w0,k.f.h0,ci k.f.w0,cj k.f.w0⟩,λx y=>?_⟩
 show _↔p.Lat (-x) y
 rw[<- k.lat]
 have e:=Bq (-s) w
 generalize -s % w=r at e
 generalize -s / w=t at e
 constructor
 ·rintro⟨i,j,rfl,rfl⟩
  exact⟨j*t - i,j,by rw[e];grind,rfl⟩
 ·rintro⟨i,j,ex,rfl⟩
  exact⟨j*t - i,j,by rw[e];grind,rfl⟩
theorem Pat.Fam.tur{p:Pat}{w h s w' h' s':Int}(k:p.Fam w h s)(f:FamOf 0 w (-h) s w' h' s'):(Pat.tur p).Fam w' h' s':=by
 refine⟨⟨f.1,f.2.1,f.2.2.1,f.2.2.2.1⟩,λx y=>?_⟩
 show _↔p.Lat y (-x)
 rw[<- k.lat,f.lat]
 constructor
 ·rintro⟨i,j,rfl,rfl⟩
  exact⟨i,j,by grind,by grind⟩
 ·rintro⟨i,j,ex,ey⟩
  exact⟨i,j,by grind,by grind⟩
theorem Pat.Fam.over{p q:Pat}{w1 h1 s1 w2 h2 s2 w h s A:Int}(k1:p.Fam w1 h1 s1)(k2:q.Fam w2 h2 s2)(M:MetR w1 h1 s1 w2 h2 s2 w h s A):(Pat.over p q).Fam w h s:=by
 refine⟨⟨M.w0,M.h0,M.s0,M.sw⟩,λx y=>?_⟩
 rw[M.lat,k1.lat,k2.lat]
 exact Iff.rfl
theorem fS{w h s:Int}(hw:0<w)(hh:0<h):∃ w' h' s',FamOf 0 w (-h) s w' h' s'/\w'*h'=w*h:=by
 have hp:0<w*h:=AL hw hh
 have hn:¬ 0*s=w* -h:=by rw[Bj];lia
 obtain⟨p0,p1,q0,hL⟩:=dG s.natAbs 0 w (-h) s (Az _)
 have f:=eM hn hL
 refine⟨_,_,_,f,?_⟩
 have Dz:=AL f.1 f.2.1
 have c:=f.cells
 rw[Bj] at c
 lia
theorem iK{L:List Str}{a b c d:Int}(hn:¬ a*d=b*c):∃ w h s,FamOf a b c d w h s/\(Pat.mot L a b c d).Fam w h s:=by
 obtain⟨p0,p1,q0,hL⟩:=dG d.natAbs a b c d (Az _)
 have f:=eM hn hL
 exact⟨_,_,_,f,.mot f⟩
theorem Pat.fam_ex:∀ {p:Pat},p.Wf->∃ w h s,p.Fam w h s
 | .mot L a b c d,h=>by
  obtain⟨w,k,s,_,f⟩:=iK (L:=L) h.2.2.2.2.2
  exact⟨w,k,s,f⟩
 | .over p q,h=>by
  obtain⟨w1,h1,s1,f1⟩:=Pat.fam_ex h.1
  obtain⟨w2,h2,s2,f2⟩:=Pat.fam_ex h.2
  obtain⟨w,k,s,f,e⟩:=oU f1.f f2.f
  refine⟨w,k,s,f,λx y=>?_⟩
  rw[e,f1.lat,f2.lat]
  exact Iff.rfl
 | .sh a b p,h=>by
  obtain⟨w,k,s,f⟩:=Pat.fam_ex h.2.2
  exact⟨w,k,s,f.sh a b⟩
 | .mir p,h=>by
  obtain⟨w,k,s,f⟩:=Pat.fam_ex (p:=p) h
  exact⟨w,k,_,f.mir⟩
 | .tur p,h=>by
  obtain⟨w,k,s,f⟩:=Pat.fam_ex (p:=p) h
  obtain⟨w',k',s',f',_⟩:=fS (s:=s) f.f.w0 f.f.h0
  exact⟨w',k',s',f.tur f'⟩
 | .hue a b p,h=>by
  obtain⟨w,k,s,f⟩:=Pat.fam_ex h.2.2
  exact⟨w,k,s,f.hue a b⟩
def Pat.Fits(p:Pat):Prop:=∃ w h s,p.Fam w h s/\w*h<=720
theorem Pat.fits_mot{L:List Str}{a b c d:Int}(ha:B12 a)(hb:B12 b)(hc:B12 c)(hd:B12 d)(hn:¬ a*d=b*c):(Pat.mot L a b c d).Fits:=by
 obtain⟨w,h,s,k,f⟩:=iK (L:=L) hn
 refine⟨w,h,s,f,?_⟩
 have kc:=k.cells
 unfold B12 at*
 have m1:=bj (a:=a) (d:=d) (A:=12) (B:=12) (by lia) (by lia)
 have m2:=bj (a:=b) (d:=c) (A:=12) (B:=12) (by lia) (by lia)
 lia
theorem Pat.Fits.sh{p:Pat}(a b:Int)(k:p.Fits):(Pat.sh a b p).Fits:=by
 obtain⟨w,h,s,f,q⟩:=k
 exact⟨w,h,s,f.sh a b,q⟩
theorem Pat.Fits.hue{p:Pat}(a b:Int)(k:p.Fits):(Pat.hue a b p).Fits:=by
 obtain⟨w,h,s,f,q⟩:=k
 exact⟨w,h,s,f.hue a b,q⟩
theorem Pat.Fits.mir{p:Pat}(k:p.Fits):(Pat.mir p).Fits:=by
 obtain⟨w,h,s,f,q⟩:=k
 exact⟨w,h,_,f.mir,q⟩
theorem Pat.Fits.tur{p:Pat}(k:p.Fits):(Pat.tur p).Fits:=by
 obtain⟨w,h,s,f,q⟩:=k
 obtain⟨w',k',s',f',e⟩:=fS (s:=s) f.f.w0 f.f.h0
 exact⟨w',k',s',f.tur f',by lia⟩
theorem oX{L:List Str}{a b c d:Int}(hL:Rows L)(ha:B12 a)(hb:B12 b)(hc:B12 c)(hd:B12 d):(ck L a b c d).length<=100:=by
 have la:=bc ha
 have lb:=bc hb
 have lc:=bc hc
 have ld:=bc hd
 have l1:(";":Str).length=1:=rfl
 have l2:(",":Str).length=1:=rfl
 have l3:("[":Str).length=1:=rfl
 have l4:("]":Str).length=1:=rfl
 have ls:=oP hL
 have lj:=StrLaws.join_length_le "/" L
 have lg:(Txt.join "/" L).length<=72:=by
  have e:Txt.join "/" L=Str.join "/" L:=StrLaws.glued_eq_join _ _
  rw[e];exact AK lj ls
 unfold ck
 repeat rw[aq]
 lia
theorem Pat.text_len:∀ {p:Pat},p.Wf->p.text.length+10<=110*2 ^ p.depth
 | .mot L a b c d,h=>by
  have:=oX h.1 h.2.1 h.2.2.1 h.2.2.2.1 h.2.2.2.2.1
  show(ck L a b c d).length+10<=110*2 ^ 0
  lia
 | .over p q,h=>by
  have h1:=Pat.text_len h.1
  have h2:=Pat.text_len h.2
  have m1:2 ^ p.depth<=2 ^ (max p.depth q.depth):=Bd (by decide) (Co _ _)
  have m2:2 ^ q.depth<=2 ^ (max p.depth q.depth):=Bd (by decide) (Cp _ _)
  have l1:("(":Str).length=1:=rfl
  have l2:("|":Str).length=1:=rfl
  have l3:(")":Str).length=1:=rfl
  rw[Pat.text,Pat.depth,Cq]
  repeat rw[aq]
  lia
 | .sh a b p,h=>by
  have h1:=Pat.text_len h.2.2
  have la:=bc h.1
  have lb:=bc h.2.1
  have l1:("s":Str).length=1:=rfl
  have l2:(",":Str).length=1:=rfl
  have l3:(":":Str).length=1:=rfl
  have:0<2 ^ p.depth:=Bk (by decide)
  rw[Pat.text,Pat.depth,A5]
  repeat rw[aq]
  lia
 | .mir p,h=>by
  have h1:=Pat.text_len (p:=p) h
  have l1:("m":Str).length=1:=rfl
  have:0<2 ^ p.depth:=Bk (by decide)
  rw[Pat.text,Pat.depth,A5,aq]
  lia
 | .tur p,h=>by
  have h1:=Pat.text_len (p:=p) h
  have l1:("t":Str).length=1:=rfl
  have:0<2 ^ p.depth:=Bk (by decide)
  rw[Pat.text,Pat.depth,A5,aq]
  lia
 | .hue f g p,h=>by
  have h1:=Pat.text_len h.2.2
  have la:=cy h.1
  have lb:=cy h.2.1
  have l1:("h":Str).length=1:=rfl
  have:0<2 ^ p.depth:=Bk (by decide)
  rw[Pat.text,Pat.depth,A5]
  repeat rw[aq]
  lia
theorem Pat.leaves_pos:∀ p:Pat,0<p.leaves.length
 | .mot ..=>Nat.zero_lt_one
 | .over p q=>by rw[Pat.leaves,AI];have:=p.leaves_pos;lia
 | .sh _ _ p=>by rw[Pat.leaves,AH];exact p.leaves_pos
 | .mir p=>by rw[Pat.leaves,AH];exact p.leaves_pos
 | .tur p=>by rw[Pat.leaves,AH];exact p.leaves_pos
 | .hue _ _ p=>by rw[Pat.leaves,AH];exact p.leaves_pos
theorem Pat.text_short{p:Pat}(h:p.Wf)(hd:p.depth<=5):p.text.length<=3510:=by
 have h1:=Pat.text_len h
 have h2:2 ^ p.depth<=2 ^ 5:=Bd (by decide) hd
 lia
structure Pat.Ok(p:Pat):Prop where
 wf:p.Wf
 deep:p.depth<=5
 fits:p.Fits
theorem Wraps.of{p:Pat}{H:Prop}{R:My.D->Prop}(h:p.Ok)(hR:∀ q:Pat,q.Ok->R q.D):Wraps p H R:=by
 refine⟨λ_=>hR p h,λhd=>⟨hR _ ⟨h.wf,?_,h.fits.mir⟩,hR _ ⟨h.wf,?_,h.fits.tur⟩,λa b ha hb=>hR _ ⟨⟨ha,hb,h.wf⟩,?_,h.fits.sh a b⟩,λ_ f g hf hg=>hR _ ⟨⟨hf,hg,h.wf⟩,?_,h.fits.hue f g⟩⟩⟩<;>(simp only[Pat.depth];lia)
inductive Wt where
 |sign (c:Nat)|pat (d:Nat)|lin (w h k:Nat)|hue|num|fig|more
 deriving DecidableEq
abbrev isSg(c:Nat):Bool:=c==46||(49<=c && c<=54)
def motW(r:List Wt):List Wt:= .lin 0 0 0:: .num:: .sign 44:: .num:: .sign 59:: .num:: .sign 44:: .num:: .sign 93::r
def bu(d c:Nat)(r:List Wt):Option (List Wt):=
 if c=91 then some (motW r)
 else if d=5 then none
 else if c=40 then some (.pat (d+1):: .sign 124:: .pat (d+1):: .sign 41::r)
 else if c=115 then some (.num:: .sign 44:: .num:: .sign 58:: .pat (d+1)::r)
 else if c=104 then some (.hue:: .hue:: .pat (d+1)::r)
 else if c=109\/c=116 then some (.pat (d+1)::r)
 else none
def cn(w h k c:Nat)(r:List Wt):Option (List Wt):=
 if isSg c then(if h<(if 0<k then w else 8) then some (.lin w (h+1) k::r) else none)
 else if h=0\/(0<k/\h<w) then none
 else if c=47 then(if k<7 then some (.lin h 0 (k+1)::r) else none)
 else if c=59 then some r
 else none
def aI:List Wt->Nat->Option (List Wt)
 |[],_=>none
 | .sign s::r,c=>if c=s then some r else none
 | .pat d::r,c=>bu d c r
 | .lin w h k::r,c=>cn w h k c r
 | .hue::r,c=>if 49<=c/\c<=54 then some r else none
 | .more::r,_=>some r
 | .num::r,c=>if c=49 then some (.more::r) else if c=45 then some (.fig::r) else if 48<=c/\c<=57 then some r else none
 | .fig::r,c=>if c=49 then some (.more::r) else if 50<=c/\c<=57 then some r else none
def aH(st:List Wt)(c:Nat):List Wt:=match st with
 | .more::r=>if 48<=c/\c<=50 then st else r
 |_=>st
def step(st:List Wt)(c:Nat):Option (List Wt):=aI (aH st c) c
def walk:List Wt->List Nat->Nat->Option Nat
 |st,[],k=>if st=[] then none else some k
 |st,c::l,k=>match step st c with
  |none=>some k
  |some st'=>walk st' l (k+1)
def cA(t:Str):Option Nat:=walk [.pat 0] (cs t) 0
def Pat.Syn:Pat->Prop
 | .mot L a b c d=>Rows L/\B12 a/\B12 b/\B12 c/\B12 d
 | .over p q=>p.Syn/\q.Syn
 | .sh a b p=>B12 a/\B12 b/\p.Syn
 | .mir p=>p.Syn
 | .tur p=>p.Syn
 | .hue f g p=>(1<=f/\f<=6)/\(1<=g/\g<=6)/\p.Syn
theorem Pat.Wf.syn:∀ {p:Pat},p.Wf->p.Syn
 | .mot ..,h=>⟨h.1,h.2.1,h.2.2.1,h.2.2.2.1,h.2.2.2.2.1⟩
 | .over p q,h=>⟨Pat.Wf.syn h.1,Pat.Wf.syn h.2⟩
 | .sh a b p,h=>⟨h.1,h.2.1,Pat.Wf.syn h.2.2⟩
 | .mir p,h=>Pat.Wf.syn (p:=p) h
 | .tur p,h=>Pat.Wf.syn (p:=p) h
 | .hue f g p,h=>⟨h.1,h.2.1,Pat.Wf.syn h.2.2⟩
theorem aC{st st':List Wt}{c:Nat}{l:List Nat}{k:Nat}(h:step st c=some st'):walk st (c::l) k=walk st' l (k+1):=by
 rw[walk,h]
def numL(a:Int):List Nat:=cs (toString a:String)
theorem oY{a:Int}(h:B12 a){P:Int->Prop}(hP:∀ k:Fin 25,P (((k.val:Nat):Int) - 12)):P a:=by
 unfold B12 at h
 have:=hP ⟨(a+12).toNat,by lia⟩
 have e:(((a+12).toNat:Nat):Int) - 12=a:=by lia
 rw[e] at this
 exact this
def isNumL(l:List Nat):Prop:=(∃ c,(48<=c/\c<=57)/\l=[c])\/(∃ c,(48<=c/\c<=50)/\l=[49,c])\/(∃ c,(49<=c/\c<=57)/\l=[45,c])\/∃ c,(48<=c/\c<=50)/\l=[45,49,c]
theorem numL_is{a:Int}(h:B12 a):isNumL (numL a):=by
 have key:∀ k:Fin 25,(numL (((k.val:Nat):Int) - 12))∈([[45,49,50],[45,49,49],[45,49,48],[45,57],[45,56],[45,55],[45,54],[45,53],[45,52],[45,51],[45,50],[45,49],[48],[49],[50],[51],[52],[53],[54],[55],[56],[57],[49,48],[49,49],[49,50]]:List (List Nat)):=by decide+kernel
 have h1:=oY (P:=λa=>numL a∈([[45,49,50],[45,49,49],[45,49,48],[45,57],[45,56],[45,55],[45,54],[45,53],[45,52],[45,51],[45,50],[45,49],[48],[49],[50],[51],[52],[53],[54],[55],[56],[57],[49,48],[49,49],[49,50]]:List (List Nat))) h key
 revert h1
 generalize numL a=l
 intro h1
 unfold isNumL
 simp only[AA,BL,or_false] at h1
 rcases h1 with e|e|e|e|e|e|e|e|e|e|e|e|e|e|e|e|e|e|e|e|e|e|e|e|e<;>subst e
 all_goals first
  |exact .inl ⟨_,by decide,rfl⟩
  |exact .inr (.inl ⟨_,by decide,rfl⟩)
  |exact .inr (.inr (.inl ⟨_,by decide,rfl⟩))
  |exact .inr (.inr (.inr ⟨_,by decide,rfl⟩))
theorem xF{l:List Nat}(h:isNumL l):∃ a,B12 a/\numL a=l:=by
 have key:∀ c:Fin 58,(48<=c.val->∃ k:Fin 25,numL (((k.val:Nat):Int) - 12)=[c.val])/\(48<=c.val->c.val<=50->∃ k:Fin 25,numL (((k.val:Nat):Int) - 12)=[49,c.val])/\(49<=c.val->∃ k:Fin 25,numL (((k.val:Nat):Int) - 12)=[45,c.val])/\(48<=c.val->c.val<=50->∃ k:Fin 25,numL (((k.val:Nat):Int) - 12)=[45,49,c.val]):=by decide+kernel
 have d6:∀ k:Fin 25,B12 (((k.val:Nat):Int) - 12):=λk=>by unfold B12;have:=k.isLt;lia
 rcases h with⟨c,hc,rfl⟩|⟨c,hc,rfl⟩|⟨c,hc,rfl⟩|⟨c,hc,rfl⟩
 ·obtain⟨k,e⟩:=(key ⟨c,by lia⟩).1 (by show 48<=c;lia)
  exact⟨_,d6 k,e⟩
 ·obtain⟨k,e⟩:=(key ⟨c,by lia⟩).2.1 (by show 48<=c;lia) (by show c<=50;lia)
  exact⟨_,d6 k,e⟩
 ·obtain⟨k,e⟩:=(key ⟨c,by lia⟩).2.2.1 (by show 49<=c;lia)
  exact⟨_,d6 k,e⟩
 ·obtain⟨k,e⟩:=(key ⟨c,by lia⟩).2.2.2 (by show 48<=c;lia) (by show c<=50;lia)
  exact⟨_,d6 k,e⟩
def endS(c:Nat):Prop:=c=44\/c=59\/c=58\/c=93
theorem dH{l:List Nat}(h:isNumL l){c:Nat}(hc:endS c)(r:List Wt)(t:List Nat)(k:Nat):walk (.num:: .sign c::r) (l++c::t) k=walk r t (k+l.length+1):=by
 unfold endS at hc
 have JI:¬ (48<=c/\c<=50):=by lia
 have d6:∀ k,walk (.sign c::r) (c::t) k=walk r t (k+1):=λk=>aC (by simp[step,aH,aI])
 have Ey:∀ k,walk (.more:: .sign c::r) (c::t) k=walk r t (k+1):=λk=>aC (by simp[step,aH,aI,JI])
 rcases h with⟨x,hx,rfl⟩|⟨x,hx,rfl⟩|⟨x,hx,rfl⟩|⟨x,hx,rfl⟩
 ·by_cases e:x=49
  ·subst e
   show walk _ (49::c::t) k=_
   rw[aC (st':= .more:: .sign c::r) (by simp[step,aH,aI]),Ey];simp
  ·show walk _ (x::c::t) k=_
   rw[aC (st':= .sign c::r) (by simp[step,aH,aI,e,hx,show¬ x=45 by lia]),d6];simp
 ·show walk _ (49::x::c::t) k=_
  rw[aC (st':= .more:: .sign c::r) (by simp[step,aH,aI]),aC (st':= .sign c::r) (by simp[step,aH,aI,hx]),d6];simp
 ·show walk _ (45::x::c::t) k=_
  rw[aC (st':= .fig:: .sign c::r) (by simp[step,aH,aI])]
  by_cases e:x=49
  ·subst e
   rw[aC (st':= .more:: .sign c::r) (by simp[step,aH,aI]),Ey];simp
  ·rw[aC (st':= .sign c::r) (by simp[step,aH,aI,e,show 50<=x/\x<=57 by lia]),d6];simp
 ·show walk _ (45::49::x::c::t) k=_
  rw[aC (st':= .fig:: .sign c::r) (by simp[step,aH,aI]),aC (st':= .more:: .sign c::r) (by simp[step,aH,aI]),aC (st':= .sign c::r) (by simp[step,aH,aI,hx]),d6];simp
def rowsL:List (List Nat)->List Nat
 |[]=>[]
 |[x]=>x
 |x::y::r=>x++47::rowsL (y::r)
theorem xG{c:Nat}(h:aF c):isSg c=true:=by
 unfold aF at h
 unfold isSg
 rcases h with h|h
 ·subst h;rfl
 ·have:(decide (49<=c) && decide (c<=54))=true:=by simp[h]
  rw[this,BR]
theorem isSign_of{c:Nat}(h:isSg c=true):aF c:=by
 unfold isSg at h
 unfold aF
 simp at h
 lia
theorem cT{w h k c:Nat}{r:List Wt}:step (.lin w h k::r) c=cn w h k c r:=by simp[step,aH,aI]
theorem dI{w k:Nat}{r:List Wt}:∀ (x:List Nat) (h:Nat) (t:List Nat) (j:Nat),(∀ c∈x,aF c)->h+x.length<=(if 0<k then w else 8)->walk (.lin w h k::r) (x++t) j=walk (.lin w (h+x.length) k::r) t (j+x.length)
 |[],h,t,j,_,_=>rfl
 |c::x,h,t,j,hs,hl=>by
  rw[AB] at hl ⊢
  have h1:step (.lin w h k::r) c=some (.lin w (h+1) k::r):=by
   rw[cT]
   unfold cn
   rw[if_pos (xG (hs c AE)),if_pos (by lia)]
  rw[Be,aC h1,dI x (h+1) t (j+1) (λc q=>hs c (AC _ q)) (by lia)]
  rw[show h+1+x.length=h+(x.length+1) by lia,show j+1+x.length=j+(x.length+1) by lia]
theorem oZ{wd:Nat}(hw:1<=wd/\wd<=8){r:List Wt}:∀ (L:List (List Nat)) (w0 k:Nat) (t:List Nat) (j:Nat),L≠[]->(∀ x∈L,x.length=wd/\∀ c∈x,aF c)->k+L.length<=8->(0<k->w0=wd)->walk (.lin w0 0 k::r) (rowsL L++59::t) j=walk r t (j+(rowsL L).length+1)
 |[],_,_,_,_,ne,_,_,_=>absurd rfl ne
 |[x],w0,k,t,j,_,hs,hl,hk=>by
  obtain⟨h1,h2⟩:=hs x AE
  have hb:0+x.length<=(if 0<k then w0 else 8):=by split<;>lia
  have ns:isSg 59=false:=rfl
  have h3:step (.lin w0 (0+x.length) k::r) 59=some r:=by
   rw[cT]
   unfold cn
   rw[ns,if_neg AG,if_neg (by lia),if_neg (by decide),if_pos rfl]
  show walk (.lin w0 0 k::r) (x++59::t) j=walk r t (j+x.length+1)
  rw[dI x 0 _ j h2 hb,aC h3]
 |x::y::L,w0,k,t,j,_,hs,hl,hk=>by
  obtain⟨h1,h2⟩:=hs x AE
  rw[AB,AB] at hl
  have hb:0+x.length<=(if 0<k then w0 else 8):=by split<;>lia
  have ns:isSg 47=false:=rfl
  have h3:step (.lin w0 (0+x.length) k::r) 47=some (.lin (0+x.length) 0 (k+1)::r):=by
   rw[cT]
   unfold cn
   rw[ns,if_neg AG,if_neg (by lia),if_pos rfl,if_pos (by lia)]
  show walk (.lin w0 0 k::r) ((x++47::rowsL (y::L))++59::t) j=walk r t (j+(x++47::rowsL (y::L)).length+1)
  rw[A7,Be,dI x 0 _ j h2 hb,aC h3,oZ hw (y::L) (0+x.length) (k+1) t _ (λz=>nomatch z) (λz q=>hs z (AC _ q)) (by rw[AB];lia) (λ_=>by lia)]
  rw[AI,AB]
  congr 1
  lia
def motL(L:List (List Nat))(a b c d:Int):List Nat:=91::(rowsL L++59::(numL a++44::(numL b++59::(numL c++44::(numL d++[93])))))
def Pat.tl:Pat->List Nat
 | .mot L a b c d=>motL (L.map cs) a b c d
 | .over p q=>40::(p.tl++124::(q.tl++[41]))
 | .sh a b p=>115::(numL a++44::(numL b++58::p.tl))
 | .mir p=>109::p.tl
 | .tur p=>116::p.tl
 | .hue f g p=>104::(numL f++(numL g++p.tl))
theorem pd:∀ L:List Str,cs (Str.join "/" L)=rowsL (L.map cs)
 |[]=>rfl
 |[x]=>rfl
 |x::y::L=>by
  show cs (x++"/"++Str.join "/" (y::L))=cs x++47::rowsL ((y::L).map cs)
  rw[bL,bL,pd (y::L),A7]
  rfl
theorem bM:∀ p:Pat,cs p.text=p.tl
 | .mot L a b c d=>by
  show cs (ck L a b c d)=motL (L.map cs) a b c d
  unfold ck motL
  have e:Txt.join "/" L=Str.join "/" L:=StrLaws.glued_eq_join _ _
  rw[e]
  repeat rw[bL]
  rw[pd]
  simp only[A7]
  rfl
 | .over p q=>by
  rw[Pat.text,Pat.tl]
  repeat rw[bL]
  rw[bM p,bM q]
  simp only[A7]
  rfl
 | .sh a b p=>by
  rw[Pat.text,Pat.tl]
  repeat rw[bL]
  rw[bM p]
  simp only[A7]
  rfl
 | .mir p=>by
  rw[Pat.text,Pat.tl,bL,bM p]
  rfl
 | .tur p=>by
  rw[Pat.text,Pat.tl,bL,bM p]
  rfl
 | .hue f g p=>by
  rw[Pat.text,Pat.tl]
  repeat rw[bL]
  rw[bM p]
  simp only[A7]
  rfl
theorem hueL{f:Int}(h:1<=f/\f<=6):numL f=[(48+f).toNat]:=by
 have key:∀ k:Fin 6,numL (((k.val:Nat):Int)+1)=[49+k.val]:=by decide+kernel
 have:=key ⟨(f - 1).toNat,by lia⟩
 have e:(((f - 1).toNat:Nat):Int)+1=f:=by lia
 rw[e] at this
 rw[this]
 congr 1
 show 49+(f - 1).toNat=(48+f).toNat
 lia
theorem bv{d c:Nat}{r:List Wt}:step (.pat d::r) c=bu d c r:=by simp[step,aH,aI]
theorem pe{f:Int}(h:1<=f/\f<=6)(r:List Wt)(t:List Nat)(k:Nat):walk (.hue::r) (numL f++t) k=walk r t (k+1):=by
 rw[hueL h]
 show walk (.hue::r) ((48+f).toNat::t) k=_
 exact aC (by simp[step,aH,aI];lia)
theorem xH{L:List Str}{a b c d:Int}(hL:Rows L)(ha:B12 a)(hb:B12 b)(hc:B12 c)(hd:B12 d)(n:Nat)(r:List Wt)(t:List Nat)(k:Nat):walk (.pat n::r) (motL (L.map cs) a b c d++t) k=walk r t (k+(motL (L.map cs) a b c d).length):=by
 obtain⟨h1,w,hw,hs⟩:=hL
 have Dy:∀ x∈L.map cs,x.length=w/\∀ c∈x,aF c:=λx hx=>by
  obtain⟨l,q1,q2⟩:=A1.mp hx
  subst q2
  exact⟨by rw[bT];exact(hs l q1).1,(hs l q1).2⟩
 have g6:L.map cs≠[]:=λz=>by have:=congrArg BB z;simp at this;subst this;simp at h1
 unfold motL
 simp only[Be,A7,C1]
 have d6:∀ k,walk (.sign 93::r) (93::t) k=walk r t (k+1):=λk=>aC (by simp[step,aH,aI])
 rw[aC (st':=motW r) (by rw[bv];simp[bu])]
 unfold motW
 rw[oZ hw (L.map cs) 0 0 _ _ g6 Dy (by rw[AH];lia) (λz=>absurd z (by lia))]
 rw[dH (numL_is ha) (.inl rfl),dH (numL_is hb) (.inr (.inl rfl)),dH (numL_is hc) (.inl rfl),dH (numL_is hd) (.inr (.inr (.inr rfl)))]
 congr 1
 simp only[AB,AI,BE]
 lia
theorem bU:∀ {p:Pat},p.Syn->∀ (d:Nat) (r:List Wt) (t:List Nat) (k:Nat),p.depth+d<=5->walk (.pat d::r) (p.tl++t) k=walk r t (k+p.tl.length)
 | .mot L a b c e,h,d,r,t,k,_=>xH h.1 h.2.1 h.2.2.1 h.2.2.2.1 h.2.2.2.2 d r t k
 | .over p q,h,d,r,t,k,hd=>by
  rw[Pat.depth] at hd
  have h1:step (.pat d::r) 40=some (.pat (d+1):: .sign 124:: .pat (d+1):: .sign 41::r):=by rw[bv];simp[bu,show¬ d=5 by lia]
  rw[Pat.tl]
  simp only[Be,A7,C1]
  rw[aC h1,bU h.1 (d+1) _ _ _ (by lia),aC (st':= .pat (d+1):: .sign 41::r) (by simp[step,aH,aI]),bU h.2 (d+1) _ _ _ (by lia),aC (st':=r) (by simp[step,aH,aI])]
  congr 1
  simp only[AB,AI,BE]
  lia
 | .sh a b p,h,d,r,t,k,hd=>by
  rw[Pat.depth] at hd
  have h1:step (.pat d::r) 115=some (.num:: .sign 44:: .num:: .sign 58:: .pat (d+1)::r):=by rw[bv];simp[bu,show¬ d=5 by lia]
  rw[Pat.tl]
  simp only[Be,A7]
  rw[aC h1,dH (numL_is h.1) (.inl rfl),dH (numL_is h.2.1) (.inr (.inr (.inl rfl))),bU h.2.2 (d+1) _ _ _ (by lia)]
  congr 1
  simp only[AB,AI]
  lia
 | .mir p,h,d,r,t,k,hd=>by
  rw[Pat.depth] at hd
  have h1:step (.pat d::r) 109=some (.pat (d+1)::r):=by rw[bv];simp[bu,show¬ d=5 by lia]
  rw[Pat.tl,Be,aC h1,bU (p:=p) h (d+1) _ _ _ (by lia),AB]
  congr 1
  lia
 | .tur p,h,d,r,t,k,hd=>by
  rw[Pat.depth] at hd
  have h1:step (.pat d::r) 116=some (.pat (d+1)::r):=by rw[bv];simp[bu,show¬ d=5 by lia]
  rw[Pat.tl,Be,aC h1,bU (p:=p) h (d+1) _ _ _ (by lia),AB]
  congr 1
  lia
 | .hue f g p,h,d,r,t,k,hd=>by
  rw[Pat.depth] at hd
  have h1:step (.pat d::r) 104=some (.hue:: .hue:: .pat (d+1)::r):=by rw[bv];simp[bu,show¬ d=5 by lia]
  rw[Pat.tl]
  simp only[Be,A7]
  rw[aC h1,pe h.1,pe h.2.1,bU h.2.2 (d+1) _ _ _ (by lia)]
  rw[hueL h.1,hueL h.2.1]
  congr 1
  simp only[AB,AI,BE]
  lia
theorem pf{p:Pat}(h:p.Syn)(hd:p.depth<=5):cA p.text=none:=by
 unfold cA
 rw[bM]
 have:=bU h 0 [] [] 0 (by lia)
 rw[A8] at this
 rw[this]
 rfl
theorem iL{x y:Str}(h:cs x=cs y):x=y:=by
 obtain⟨a⟩:=x
 obtain⟨b⟩:=y
 have:a=b:=C3.mp h
 rw[this]
def Pat.lineAt:Pat->Nat->Option Nat
 | .mot _ a b c d,k=>if a*d=b*c then some k else none
 | .over p q,k=>match p.lineAt (k+1) with
  |some j=>some j
  |none=>q.lineAt (k+1+p.tl.length+1)
 | .sh a b p,k=>p.lineAt (k+1+(numL a).length+1+(numL b).length+1)
 | .mir p,k=>p.lineAt (k+1)
 | .tur p,k=>p.lineAt (k+1)
 | .hue _ _ p,k=>p.lineAt (k+3)
theorem Pat.line_wf:∀ {p:Pat} (k:Nat),p.Syn->p.lineAt k=none->p.Wf
 | .mot L a b c d,k,h,e=>by
  refine⟨h.1,h.2.1,h.2.2.1,h.2.2.2.1,h.2.2.2.2,λz=>?_⟩
  rw[Pat.lineAt,if_pos z] at e;cases e
 | .over p q,k,h,e=>by
  rw[Pat.lineAt] at e
  cases hp:p.lineAt (k+1) with
  |some j=>rw[hp] at e;cases e
  |none=>rw[hp] at e;exact⟨Pat.line_wf _ h.1 hp,Pat.line_wf _ h.2 e⟩
 | .sh a b p,k,h,e=>⟨h.1,h.2.1,Pat.line_wf _ h.2.2 (by rw[Pat.lineAt] at e;exact e)⟩
 | .mir p,k,h,e=>Pat.line_wf (p:=p) (k+1) h (by rw[Pat.lineAt] at e;exact e)
 | .tur p,k,h,e=>Pat.line_wf (p:=p) (k+1) h (by rw[Pat.lineAt] at e;exact e)
 | .hue f g p,k,h,e=>⟨h.1,h.2.1,Pat.line_wf _ h.2.2 (by rw[Pat.lineAt] at e;exact e)⟩
theorem Pat.wf_line:∀ {p:Pat} (k:Nat),p.Wf->p.lineAt k=none
 | .mot L a b c d,k,h=>by rw[Pat.lineAt,if_neg h.2.2.2.2.2]
 | .over p q,k,h=>by
  rw[Pat.lineAt,Pat.wf_line (p:=p) _ h.1]
  exact Pat.wf_line (p:=q) _ h.2
 | .sh a b p,k,h=>by rw[Pat.lineAt];exact Pat.wf_line (p:=p) _ h.2.2
 | .mir p,k,h=>by rw[Pat.lineAt];exact Pat.wf_line (p:=p) _ h
 | .tur p,k,h=>by rw[Pat.lineAt];exact Pat.wf_line (p:=p) _ h
 | .hue f g p,k,h=>by rw[Pat.lineAt];exact Pat.wf_line (p:=p) _ h.2.2
theorem Pat.syn_len:∀ {p:Pat},p.Syn->p.text.length+10<=110*2 ^ p.depth
 | .mot L a b c d,h=>by
  have:=oX h.1 h.2.1 h.2.2.1 h.2.2.2.1 h.2.2.2.2
  show(ck L a b c d).length+10<=110*2 ^ 0
  lia
 | .over p q,h=>by
  have h1:=Pat.syn_len h.1
  have h2:=Pat.syn_len h.2
  have m1:2 ^ p.depth<=2 ^ (max p.depth q.depth):=Bd (by decide) (Co _ _)
  have m2:2 ^ q.depth<=2 ^ (max p.depth q.depth):=Bd (by decide) (Cp _ _)
  have l1:("(":Str).length=1:=rfl
  have l2:("|":Str).length=1:=rfl
  have l3:(")":Str).length=1:=rfl
  rw[Pat.text,Pat.depth,Cq]
  repeat rw[aq]
  lia
 | .sh a b p,h=>by
  have h1:=Pat.syn_len h.2.2
  have la:=bc h.1
  have lb:=bc h.2.1
  have l1:("s":Str).length=1:=rfl
  have l2:(",":Str).length=1:=rfl
  have l3:(":":Str).length=1:=rfl
  have:0<2 ^ p.depth:=Bk (by decide)
  rw[Pat.text,Pat.depth,A5]
  repeat rw[aq]
  lia
 | .mir p,h=>by
  have h1:=Pat.syn_len (p:=p) h
  have l1:("m":Str).length=1:=rfl
  have:0<2 ^ p.depth:=Bk (by decide)
  rw[Pat.text,Pat.depth,A5,aq]
  lia
 | .tur p,h=>by
  have h1:=Pat.syn_len (p:=p) h
  have l1:("t":Str).length=1:=rfl
  have:0<2 ^ p.depth:=Bk (by decide)
  rw[Pat.text,Pat.depth,A5,aq]
  lia
 | .hue f g p,h=>by
  have h1:=Pat.syn_len h.2.2
  have la:=cy h.1
  have lb:=cy h.2.1
  have l1:("h":Str).length=1:=rfl
  have:0<2 ^ p.depth:=Bk (by decide)
  rw[Pat.text,Pat.depth,A5]
  repeat rw[aq]
  lia
theorem Pat.syn_short{p:Pat}(h:p.Syn)(hd:p.depth<=5):p.text.length<=3510:=by
 have h1:=Pat.syn_len h
 have h2:2 ^ p.depth<=2 ^ 5:=Bd (by decide) hd
 lia
theorem ifT{c A B:Prop}[Decidable c](h:c)(a:A):if c then A else B:=by rw[if_pos h];exact a
theorem ifdT{p A B:Prop}[Decidable p](h:p)(a:A):if decide p=true then A else B:=by rw[if_pos (decide_eq_true h)];exact a
theorem ifdF{p A B:Prop}[Decidable p](h:¬ p)(b:B):if decide p=true then A else B:=by rw[if_neg (by simpa using h)];exact b
def rdF(t:Str)(k:Nat):List (Str × D):=[("text",.str t),("place",.int k)]
def RdM(a:Addr)(t:Str)(k:Nat):MS:=[(a,.ins "Reading" (rdF t k))]
theorem bV{a:Addr}{o:MO}:mget [(a,o)] a=some o:=by unfold mget;rw[if_pos rfl]
theorem dJ{a:Addr}{o o':MO}:mput [(a,o)] a o'=[(a,o')]:=by unfold mput;rw[if_pos rfl]
theorem aK{a:Addr}{t:Str}{k:Nat}:mget (RdM a t k) a=some (.ins "Reading" (rdF t k)):=bV
theorem iM{t:Str}{k:Nat}:(rdF t k).lookup ("text":Str)=some (.str t):=rfl
theorem cB{t:Str}{k:Nat}:(rdF t k).lookup ("place":Str)=some (.int k):=by
 unfold rdF
 rw[AR,show(("place":Str)==("text":Str))=false by decide+kernel]
 rfl
theorem xI{t:Str}{k:Nat}:putD ("place":Str) (.int ((k:Int)+1)) (rdF t k)=rdF t (k+1):=by
 unfold rdF putD
 rw[if_neg (by decide+kernel)]
 unfold putD
 rw[if_pos rfl]
 rfl
theorem cq{t:Str}{k:Nat}:(rdF t k).lookup ("may_take":Str)=none:=by
 unfold rdF
 rw[AR,show(("may_take":Str)==("text":Str))=false by decide+kernel,AR,show(("may_take":Str)==("place":Str))=false by decide+kernel]
 rfl
theorem bF{t:Str}{k:Nat}:(rdF t k).lookup ("take":Str)=none:=by
 unfold rdF
 rw[AR,show(("take":Str)==("text":Str))=false by decide+kernel,AR,show(("take":Str)==("place":Str))=false by decide+kernel]
 rfl
structure At(t:Str)(k:Nat)(l:List Nat):Prop where
 eq:(cs t).drop k=l
 le:k<=t.length
 sz:t.length<=100000
theorem At.nil{t:Str}{k:Nat}(h:At t k []):k=t.length:=by
 have h1:=congrArg BB h.eq
 rw[B8,bT] at h1
 have:=h.le
 simp at h1
 lia
theorem At.lt{t:Str}{k c:Nat}{l:List Nat}(h:At t k (c::l)):k<t.length:=by
 have h1:=congrArg BB h.eq
 rw[B8,bT] at h1
 simp at h1
 lia
theorem At.get{t:Str}{k c:Nat}{l:List Nat}(h:At t k (c::l)):(cs t)[k]?=some c:=by
 have h1:=congrArg (·[0]?) h.eq
 simpa using h1
theorem At.next{t:Str}{k c:Nat}{l:List Nat}(h:At t k (c::l)):At t (k+1) l:=by
 refine⟨?_,h.lt,h.sz⟩
 have h1:=congrArg (List.drop 1) h.eq
 rw[List.drop_drop] at h1
 simpa using h1
theorem At.app{t:Str}:∀ {x l:List Nat} {k:Nat},At t k (x++l)->At t (k+x.length) l
 |[],_,_,h=>h
 |c::x,l,k,h=>by
  have h1:At t (k+1+x.length) l:=At.app (At.next h)
  have e:k+1+x.length=k+(c::x).length:=by rw[AB];lia
  rw[e] at h1;exact h1
theorem ph{c:Nat}{al:Str}:(!(!(Builtin.Str.occurrences al ⟨#[c]⟩ 0 al.length 1).isEmpty))=!decide (c∈cs al):=by
 rw[StrLaws.found_one]
def mayS(al:Str):List Nat->Str|c::_=>if c∈cs al then⟨#[c]⟩ else ""|[]=>""
def mayN(al:Str):List Nat->Nat|c::_=>if c∈cs al then 1 else 0|[]=>0
theorem cU{al:Str}{c:Nat}{l:List Nat}(h:c∈cs al):mayS al (c::l)=⟨#[c]⟩:=if_pos h
theorem cV{al:Str}{c:Nat}{l:List Nat}(h:c∈cs al):mayN al (c::l)=1:=if_pos h
theorem cC{al:Str}{c:Nat}{l:List Nat}(h:c ∉ cs al):mayS al (c::l)="":=if_neg h
theorem cD{al:Str}{c:Nat}{l:List Nat}(h:c ∉ cs al):mayN al (c::l)=0:=if_neg h
def xJ:SiD:=λds R=>∃ t:Str,ds=[.str t]/\R (rdF t 0)
def xK:SpM:=λds M R RX=>∃ (a:Addr) (t:Str) (k:Nat) (l:List Nat) (al:Str),ds=[.ptr a,.str al]/\M=RdM a t k/\At t k l/\R (.str (mayS al l)) (RdM a t (k+mayN al l))
def xL:SpM:=λds M R RX=>∃ (a:Addr) (t:Str) (k:Nat) (l:List Nat) (al:Str),ds=[.ptr a,.str al]/\M=RdM a t k/\At t k l/\
 (∀ c l',l=c::l'->c∈cs al->R (.str ⟨#[c]⟩) (RdM a t (k+1)))/\((∀ c l',l=c::l'->c ∉ cs al)->∀ M',RX "WrongSign" [("place",.int k)] M')
theorem walk_bad{st:List Wt}{l:List Nat}{k:Nat}(h1:st≠[])(h:∀ c l',l=c::l'->step st c=none):walk st l k=some k:=by
 cases l with
 |nil=>rw[walk,if_neg h1]
 |cons c l=>rw[walk,h c l rfl]
theorem cX{e:Nat}{r:List Wt}{l:List Nat}{k:Nat}(h:∀ l',l≠e::l'):walk (.sign e::r) l k=some k:=
 walk_bad (λz=>nomatch z) λc l' q=>by
  have:c≠e:=λz=>h l' (z ▸ q)
  simp[step,aH,aI,this]
theorem cY{e:Nat}{r:List Wt}{l:List Nat}{k:Nat}:walk (.sign e::r) (e::l) k=walk r l (k+1):=aC (by simp[step,aH,aI])
theorem xM{e:Nat}{r:List Wt}{l:List Nat}{k:Nat}(h:∀ d l',l=d::l'->¬ (48<=d/\d<=50)):walk (.more:: .sign e::r) l k=walk (.sign e::r) l k:=by
 cases l with
 |nil=>simp[walk]
 |cons d l=>
  have:step (.more:: .sign e::r) d=step (.sign e::r) d:=by simp[step,aH,h d l rfl]
  rw[walk,walk,this]
theorem xN{pre:List Nat}(hp:pre=[]\/pre=[45]){c:Nat}(hc:49<=c/\c<=57){x l3 l:List Nat}(hx:(c=49/\∃ d,(48<=d/\d<=50)/\x=[d])\/(x=[]/\(c=49->∀ d l',l3=d::l'->¬ (48<=d/\d<=50))))(k e:Nat)(r:List Wt)(hl:l=pre++c::(x++l3)):
  walk (.num:: .sign e::r) l k=walk (.sign e::r) l3 (k+(pre++c::x).length):=by
 subst hl
 have fig:∀ k,walk (.fig:: .sign e::r) (c::(x++l3)) k=walk (.sign e::r) l3 (k+(c::x).length):=λk=>by
  rcases hx with⟨rfl,d,hd,rfl⟩|⟨rfl,h⟩
  ·rw[aC (st':= .more:: .sign e::r) (by simp[step,aH,aI])]
   show walk _ (d::l3) _=_
   rw[aC (st':= .sign e::r) (by simp[step,aH,aI,hd])]
   rfl
  ·by_cases e1:c=49
   ·subst e1
    rw[aC (st':= .more:: .sign e::r) (by simp[step,aH,aI])]
    show walk _ l3 _=_
    rw[xM (h rfl)];rfl
   ·rw[aC (st':= .sign e::r) (by simp[step,aH,aI,e1,show 50<=c/\c<=57 by lia])];rfl
 rcases hp with rfl|rfl
 ·have same:step (.num:: .sign e::r) c=step (.fig:: .sign e::r) c:=by
   by_cases e1:c=49
   ·subst e1;simp[step,aH,aI]
   ·simp[step,aH,aI,e1,show¬ c=45 by lia,show 48<=c/\c<=57 by lia,show 50<=c/\c<=57 by lia]
  have:=fig k
  rw[walk] at this
  show walk _ (c::(x++l3)) k=_
  rw[walk,same,this]
  simp
 ·show walk _ (45::c::(x++l3)) k=_
  rw[aC (st':= .fig:: .sign e::r) (by simp[step,aH,aI]),fig]
  congr 1
  simp only[AI,AB,BE]
  lia
theorem xO{pre:List Nat}(hp:pre=[]\/pre=[45]){l l1:List Nat}(hl:l=pre++l1)(h:∀ c l',l1=c::l'->¬ (49<=c/\c<=57))(h0:pre=[]->∀ c l',l1=c::l'->c≠48/\c≠45)(k:Nat)(r:List Wt):walk (.num::r) l k=some (k+pre.length):=by
 subst hl
 rcases hp with rfl|rfl
 ·refine walk_bad (λz=>nomatch z) λc l' q=>?_
  have h1:=h c l' q
  have h2:=h0 rfl c l' q
  simp[step,aH,aI,h2.2,show¬ c=49 by lia,show¬ (48<=c/\c<=57) by lia]
 ·show walk _ (45::l1) k=_
  rw[aC (st':= .fig::r) (by simp[step,aH,aI])]
  refine walk_bad (λz=>nomatch z) λc l' q=>?_
  have h1:=h c l' q
  simp[step,aH,aI,show¬ c=49 by lia,show¬ (50<=c/\c<=57) by lia]
theorem iN{x:Int}(h:B12 x):PySem.intText? ⟨(numL x).toArray⟩=some x:=
 oY (P:=λx=>PySem.intText? ⟨(numL x).toArray⟩=some x) h (by decide+kernel)
theorem dL(x y:List Nat):((⟨x.toArray⟩:Str)++⟨y.toArray⟩:Str)=⟨(x++y).toArray⟩:=by
 apply iL
 rw[bL]
theorem digits19{c:Nat}:c∈cs "123456789"↔49<=c/\c<=57:=by
 have e:cs "123456789"=[49,50,51,52,53,54,55,56,57]:=rfl
 rw[e];simp;lia
theorem digits02{c:Nat}:c∈cs "012"↔48<=c/\c<=50:=by
 have e:cs "012"=[48,49,50]:=rfl
 rw[e];simp;lia
theorem xP(w:List Nat)(c:Nat):Txt.endswith ⟨(w++[c]).toArray⟩ "1"=decide (c=49):=by
 unfold Txt.endswith
 have e1:("1":Str).length=1:=rfl
 have e2:(⟨(w++[c]).toArray⟩:Str).length=w.length+1:=by simp[Str.length]
 rw[e1,e2]
 have e3:decide (0+1<=w.length+1)=true:=by simp
 rw[e3,Bool.true_and,C0]
 unfold Builtin.Str.subAt
 have e4:(⟨(w++[c]).toArray⟩:Str).cps.extract w.length (w.length+("1":Str).length)=#[c]:=by
  apply C3.mp
  simp[Array.toList_extract,e1]
 rw[e4]
 have e5:("1":Str).cps=#[49]:=rfl
 rw[e5]
 by_cases h:c=49
 ·subst h;rfl
 ·simp[h]
def xQ:SpM:=λds M R RX=>∃ (a:Addr) (t:Str) (k:Nat) (l:List Nat),ds=[.ptr a]/\M=RdM a t k/\At t k l/\
 (∀ x l',B12 x->l=numL x++l'->(∀ e r,walk (.num:: .sign e::r) l k=walk (.sign e::r) l' (k+(numL x).length))->R (.int x) (RdM a t (k+(numL x).length)))/\
 (∀ j:Nat,(∀ r,walk (.num::r) l k=some j)->∀ M',RX "WrongSign" [("place",.int j)] M')
def xR:SpM:=λds M R RX=>∃ (a:Addr) (t:Str) (k:Nat) (l:List Nat),ds=[.ptr a]/\M=RdM a t k/\At t k l/\
 (∀ x y l',B12 x->B12 y->l=numL x++44::(numL y++l')->(∀ e r,walk (.num:: .sign 44:: .num:: .sign e::r) l k=walk (.sign e::r) l' (k+(numL x).length+1+(numL y).length))->R (.tup [.int x,.int y]) (RdM a t (k+(numL x).length+1+(numL y).length)))/\
 (∀ j:Nat,(∀ r,walk (.num:: .sign 44:: .num::r) l k=some j)->∀ M',RX "WrongSign" [("place",.int j)] M')
def sgPre:Nat->List Nat->List Nat
 |0,_=>[]
 |_+1,[]=>[]
 |n+1,c::l=>if isSg c=true then c::sgPre n l else[]
theorem dM(n c:Nat)(l:List Nat):sgPre (n+1) (c::l)=if isSg c=true then c::sgPre n l else[]:=rfl
theorem sgPre_succ:∀ (n:Nat) (l:List Nat),(∃ c l',l=sgPre n l++c::l'/\(sgPre n l).length=n/\isSg c=true/\sgPre (n+1) l=sgPre n l++[c])\/(∃ l',l=sgPre n l++l'/\(∀ c Gr,l'=c::Gr->isSg c=false)/\∀ m,n<=m->sgPre m l=sgPre n l)
 |0,[]=> .inr ⟨[],rfl,(λ_ _ q=>nomatch q),λm _=>by cases m<;>rfl⟩
 |0,c::l=>by
  by_cases h:isSg c=true
  ·exact .inl ⟨c,l,rfl,rfl,h,by rw[dM,if_pos h];rfl⟩
  ·refine .inr ⟨c::l,rfl,λ_ _ q=>?_,λm _=>?_⟩
   ·cases q;simpa using h
   ·cases m with
    |zero=>rfl
    |succ m=>rw[dM,if_neg h];rfl
 |n+1,[]=> .inr ⟨[],rfl,(λ_ _ q=>nomatch q),λm _=>by cases m<;>rfl⟩
 |n+1,c::l=>by
  by_cases h:isSg c=true
  ·have e:∀ m,sgPre (m+1) (c::l)=c::sgPre m l:=λm=>by rw[dM,if_pos h]
   rcases sgPre_succ n l with⟨d,l',h1,h2,h3,h4⟩|⟨l',h1,h2,h3⟩
   ·refine .inl ⟨d,l',?_,by rw[e,AB,h2],h3,by rw[e,e,h4];rfl⟩
    rw[e];exact congrArg (c::·) h1
   ·refine .inr ⟨l',?_,h2,λm hm=>?_⟩
    ·rw[e];exact congrArg (c::·) h1
    ·cases m with
     |zero=>lia
     |succ m=>rw[e,e,h3 m (by lia)]
  ·refine .inr ⟨c::l,?_,λ_ _ q=>?_,λm hm=>?_⟩
   ·rw[dM,if_neg h];rfl
   ·cases q;simpa using h
   ·cases m with
    |zero=>lia
    |succ m=>rw[dM,if_neg h,dM,if_neg h]
theorem fT:∀ (n:Nat) (l:List Nat),(sgPre n l).length<=n
 |0,_=>Az _
 |n+1,[]=>AY _
 |n+1,c::l=>by
  rw[sgPre]
  split
  ·rw[AB];exact Nat.succ_le_succ (fT n l)
  ·exact AY _
theorem sgPre_sign:∀ (n:Nat) (l:List Nat),∀ c∈sgPre n l,aF c
 |0,_,_,h=>by cases h
 |n+1,[],_,h=>by cases h
 |n+1,c::l,d,h=>by
  rw[sgPre] at h
  split at h
  ·rename_i q
   rcases AA.mp h with e|e
   ·rw[e];exact isSign_of q
   ·exact sgPre_sign n l d e
  ·cases h
theorem sgPre_split(n:Nat)(l:List Nat):∃ l',l=sgPre n l++l'/\((sgPre n l).length=n\/∀ c Gr,l'=c::Gr->isSg c=false):=by
 rcases sgPre_succ n l with⟨d,l',h1,h2,h3,h4⟩|⟨l',h1,h2,h3⟩
 ·exact⟨d::l',h1,.inl h2⟩
 ·exact⟨l',h1,.inr h2⟩
theorem signs_is{c:Nat}:c∈cs ".123456"↔isSg c=true:=by
 have e:cs ".123456"=[46,49,50,51,52,53,54]:=rfl
 rw[e]
 simp
 lia
theorem cZ(x:List Nat):(⟨x.toArray⟩:Str).length=x.length:=by simp[Str.length]
def xS:SpM:=λds M R RX=>∃ (a:Addr) (t:Str) (k:Nat) (l:List Nat) (n m:Nat),ds=[.ptr a,.int n,.int m]/\M=RdM a t k/\At t k l/\n<=m/\m<=8/\
 (n<=(sgPre m l).length->R (.str ⟨(sgPre m l).toArray⟩) (RdM a t (k+(sgPre m l).length)))/\((sgPre m l).length<n->∀ M',RX "WrongSign" [("place",.int ((k+(sgPre m l).length:Nat):Int))] M')
theorem xT{p a:Addr}{o:MO}{t:Str}{k:Nat}(h:p≠a):mget ((p,o)::RdM a t k) a=some (.ins "Reading" (rdF t k)):=by
 unfold mget
 rw[if_neg h]
 exact bV
theorem cr{p:Addr}{o:MO}{M:MS}:mget ((p,o)::M) p=some o:=by unfold mget;rw[if_pos rfl]
theorem pi{p:Addr}{o o':MO}{M:MS}:mput ((p,o)::M) p o'=(p,o')::M:=by unfold mput;rw[if_pos rfl]
theorem iO{p:Addr}{o:MO}{M:MS}:mdel ((p,o)::M) p=M:=by unfold mdel;rw[if_pos rfl]
structure RowsL(L:List (List Nat))(w:Nat):Prop where
 many:1<=L.length/\L.length<=8
 w1:1<=w
 w8:w<=8
 each:∀ x∈L,x.length=w/\∀ c∈x,aF c
theorem fU:∀ (L:List (List Nat)) (x:List Nat),L≠[]->rowsL (L++[x])=rowsL L++47::x
 |[],_,h=>absurd rfl h
 |[y],x,_=>rfl
 |y::z::L,x,_=>by
  show y++47::rowsL ((z::L)++[x])=(y++47::rowsL (z::L))++47::x
  rw[fU (z::L) x (λq=>nomatch q)]
  simp
structure LinAt(w h n:Nat)(l:List Nat):Prop where
 h1:1<=h
 n1:1<=n
 one:n=1->h=8\/∀ c l',l=c::l'->isSg c=false
 more:2<=n->w=h
theorem xU{w h n:Nat}{l:List Nat}(H:LinAt w h n l)(hn:n<=8)(stop:n=8\/∀ l',l≠47::l')(r:List Wt)(p:Nat):walk (.lin w h (n - 1)::r) l p=walk (.sign 59::r) l p:=by
 cases l with
 |nil=>simp[walk]
 |cons c l=>
  have key:step (.lin w h (n - 1)::r) c=step (.sign 59::r) c:=by
   rw[cT]
   unfold cn
   have JJ:step (.sign 59::r) c=if c=59 then some r else none:=by simp[step,aH,aI]
   rw[JJ]
   have h1:=H.h1
   by_cases hs:isSg c=true
   ·rw[if_pos hs]
    have nc:¬ c=59:=by rintro rfl;cases hs
    rw[if_neg nc]
    refine if_neg ?_
    by_cases n1:n=1
    ·rcases H.one n1 with e|e
     ·subst n1;simp;lia
     ·rw[e c l rfl] at hs;cases hs
    ·have Ii:=H.n1
     have:=H.more (by lia)
     rw[if_pos (by lia)];lia
   ·rw[if_neg hs]
    have g:¬ (h=0\/(0<n - 1/\h<w)):=by
     have Ii:=H.n1
     rintro(z|⟨z1,z2⟩)
     ·lia
     ·have:=H.more (by lia);lia
    rw[if_neg g]
    by_cases Ij:c=47
    ·subst Ij
     rw[if_pos rfl,if_neg (c:=47=59) (by decide)]
     refine if_neg ?_
     rcases stop with e|e
     ·lia
     ·exact absurd rfl (e l)
    ·rw[if_neg Ij]
  rw[walk,walk,key]
theorem pj{w h n:Nat}{l:List Nat}(H:LinAt w h n (47::l))(hn:n<8)(r:List Wt)(p:Nat):walk (.lin w h (n - 1)::r) (47::l) p=walk (.lin h 0 n::r) l (p+1):=by
 refine aC ?_
 rw[cT]
 unfold cn
 have h1:=H.h1
 have Ii:=H.n1
 have ns:isSg 47=false:=rfl
 rw[ns,if_neg AG,if_neg (by
  rintro(z|⟨z1,z2⟩)
  ·lia
  ·have:=H.more (by lia);lia),if_pos rfl,if_pos (by lia)]
 congr 3
 lia
theorem pk{w n:Nat}{x l:List Nat}(hs:∀ c∈x,aF c)(hx:x.length<w)(hw:w<=8)(hn:n=0->x=[])(hl:∀ c l',l=c::l'->isSg c=false)(r:List Wt)(p:Nat):walk (.lin w 0 n::r) (x++l) p=some (p+x.length):=by
 rw[dI x 0 l p hs (by split<;>lia)]
 refine walk_bad (λz=>nomatch z) λc l' q=>?_
 rw[cT]
 unfold cn
 rw[hl c l' q,if_neg AG]
 refine if_pos ?_
 by_cases n0:n=0
 ·left;rw[hn n0];rfl
 ·right;exact⟨by lia,by lia⟩
def lstD(L:List (List Nat)):List D:=L.map λx=>D.str ⟨x.toArray⟩
def xV:SpM:=λds M R RX=>∃ (a:Addr) (t:Str) (k:Nat) (l:List Nat),ds=[.ptr a]/\M=RdM a t k/\At t k l/\
 (∀ (L:List (List Nat)) (w:Nat) l',RowsL L w->l=rowsL L++l'->(∀ r,walk (.lin 0 0 0::r) l k=walk (.sign 59::r) l' (k+(rowsL L).length))->R (.lst (lstD L)) (RdM a t (k+(rowsL L).length)))/\
 (∀ j:Nat,(∀ r,walk (.lin 0 0 0::r) l k=some j)->∀ M',RX "WrongSign" [("place",.int j)] M')
def hmX(w h s:Int)(i j:Int):Int:=(i - j / h*s) % w
def hRow(w h s:Int)(j:Nat):Nat->List Nat->List ((Int × Int) × Int)->List ((Int × Int) × Int)
 |_,[],kv=>kv
 |i,c::r,kv=>hRow w h s j (i+1) r (if c=46 then kv else sdD kv (hmX w h s i j) ((j:Int) % h) ((c:Int) - 48))
def hAll(w h s:Int):Nat->List (List Nat)->List ((Int × Int) × Int)->List ((Int × Int) × Int)
 |_,[],kv=>kv
 |j,x::r,kv=>hAll w h s (j+1) r (hRow w h s j 0 x kv)
theorem pp(kv:List ((Int × Int) × Int))(x y v:Int):(sdD kv x y v).length<=kv.length+1:=by
 unfold sdD
 split
 ·lia
 ·rw[AI];simp
theorem xW{c:Nat}(h:49<=c/\c<=54):∃ i rest,Builtin.Str.occurrences ".123456" ⟨#[c]⟩ 0 (".123456":Str).length 1=i::rest/\((i:Nat):Int)=(c:Int) - 48:=by
 rcases(by lia:c=49\/c=50\/c=51\/c=52\/c=53\/c=54) with e|e|e|e|e|e<;>subst e
 ·exact⟨1,[],by decide+kernel,by decide⟩
 ·exact⟨2,[],by decide+kernel,by decide⟩
 ·exact⟨3,[],by decide+kernel,by decide⟩
 ·exact⟨4,[],by decide+kernel,by decide⟩
 ·exact⟨5,[],by decide+kernel,by decide⟩
 ·exact⟨6,[],by decide+kernel,by decide⟩
theorem xX{x:List Nat}(h:∀ c∈x,aF c):(⟨x.toArray⟩:Str).cps.all (·<128)=true:=by
 rw[<- CL,Bz]
 intro c hc
 have:=h c hc
 unfold aF at this
 simp
 lia
theorem xY{L:List (List Nat)}{j:Nat}{d:D}(h:(lstD L)[j]?=some d):∃ x,L[j]?=some x/\d= .str ⟨x.toArray⟩:=by
 unfold lstD at h
 rw[A2] at h
 cases e:L[j]? with
 |none=>rw[e] at h;cases h
 |some x=>rw[e] at h;cases h;exact⟨x,rfl,rfl⟩
theorem xZ{x:List Nat}{i:Nat}{d:D}(h:(cO ⟨x.toArray⟩)[i]?=some d):∃ c,x[i]?=some c/\d= .str ⟨#[c]⟩:=by
 unfold cO at h
 rw[A2] at h
 cases e:x[i]? with
 |none=>simp[e] at h
 |some c=>simp[e] at h;exact⟨c,rfl,h.symm⟩
theorem pq{α:Type}{l:List α}{i:Nat}{x:α}(h:l[i]?=some x):l.drop i=x::l.drop (i+1):=by
 have hi:i<l.length:=(AN.mp h).1
 rw[C4 hi]
 congr 1
 rw[AX hi] at h
 exact Option.some.inj h
def ya:SpM:=λds M R RX=>∃ (L:List (List Nat)) (wd:Nat) (w h s:Int),ds=[.lst (lstD L),.tup [.int w,.int h,.int s]]/\RowsL L wd/\0<w/\0<h/\h<1073741824/\0<=s/\s<1073741824/\R (.dti (hAll w h s 0 L [])) M
def moF(k:Nat)(sh:D)(hu:List ((Int × Int) × Int)):List (Str × D):=[("place",.int k),("shifts",sh),("hues",.dti hu)]
def yb:SiD:=λds R=>∃ (k:Nat) (L:List (List Nat)) (wd:Nat) (a b c d:Int),ds=[.int k,.lst (lstD L),.tup [.int a,.int b],.tup [.int c,.int d]]/\RowsL L wd/\B12 a/\B12 b/\B12 c/\B12 d/\
 (a*d=b*c->R (moF k .non []))/\(¬ a*d=b*c->∀ w h s,FamOf a b c d w h s->R (moF k (.tup [.int w,.int h,.int s]) (hAll w h s 0 L [])))
theorem yc{v:D}:putD ("place":Str) v []=([("place",v)]:List (Str × D)):=rfl
theorem pr{u v:D}:putD ("shifts":Str) v [("place",u)]=([("place",u),("shifts",v)]:List (Str × D)):=by
 unfold putD
 rw[if_neg (by decide+kernel)]
 rfl
theorem pv{t u v:D}:putD ("hues":Str) v [("place",t),("shifts",u)]=([("place",t),("shifts",u),("hues",v)]:List (Str × D)):=by
 unfold putD
 rw[if_neg (by decide+kernel)]
 unfold putD
 rw[if_neg (by decide+kernel)]
 rfl
theorem iP{u v:D}:([("place",u),("shifts",v)]:List (Str × D)).lookup ("shifts":Str)=some v:=by
 rw[AR,show(("shifts":Str)==("place":Str))=false by decide+kernel]
 rfl
def yd:SiD:=λds R=>∃ (x y:Str) (fs gs:List (Str × D)),ds=[.obj x fs,.obj y gs]/\R [("above",.obj x fs),("below",.obj y gs)]
def ye:SiD:=λds R=>∃ (x:Str) (fs:List (Str × D)) (a b:Int),ds=[.obj x fs,.int a,.int b]/\R [("form",.obj x fs),("x",.int a),("y",.int b)]
def yf:SiD:=λds R=>∃ (x:Str) (fs:List (Str × D)),ds=[.obj x fs]/\R [("form",.obj x fs)]
def yg:SiD:=λds R=>∃ (x:Str) (fs:List (Str × D)),ds=[.obj x fs]/\R [("form",.obj x fs)]
def yi:SiD:=λds R=>∃ (x:Str) (fs:List (Str × D)) (a b:Int),ds=[.obj x fs,.int a,.int b]/\R [("form",.obj x fs),("old",.int a),("new",.int b)]
def FormOf:Pat->Nat->D->Prop
 | .mot L a b c d,k,v=>∃ sh hu,v= .obj "Motif" (moF k sh hu)/\(a*d=b*c->sh= .non)/\(¬ a*d=b*c->∃ w h s,FamOf a b c d w h s/\sh= .tup [.int w,.int h,.int s]/\hu=hAll w h s 0 (L.map cs) [])
 | .over p q,k,v=>∃ u u',v= .obj "Over" [("above",u),("below",u')]/\FormOf p (k+1) u/\FormOf q (k+1+p.tl.length+1) u'
 | .sh a b p,k,v=>∃ u,v= .obj "Shifted" [("form",u),("x",.int a),("y",.int b)]/\FormOf p (k+1+(numL a).length+1+(numL b).length+1) u
 | .mir p,k,v=>∃ u,v= .obj "Mirror" [("form",u)]/\FormOf p (k+1) u
 | .tur p,k,v=>∃ u,v= .obj "Turn" [("form",u)]/\FormOf p (k+1) u
 | .hue f g p,k,v=>∃ u,v= .obj "Rehue" [("form",u),("old",.int f),("new",.int g)]/\FormOf p (k+3) u
def Pat.cls:Pat->Str
 | .mot ..=>"Motif"| .over ..=>"Over"| .sh ..=>"Shifted"| .mir ..=>"Mirror"| .tur ..=>"Turn"| .hue ..=>"Rehue"
theorem FormOf.obj{p:Pat}{k:Nat}{v:D}(h:FormOf p k v):∃ fs,v= .obj p.cls fs:=by
 cases p with
 |mot L a b c d=>obtain⟨sh,hu,rfl,_⟩:=h;exact⟨_,rfl⟩
 |over p q=>obtain⟨_,_,rfl,_⟩:=h;exact⟨_,rfl⟩
 |sh a b p=>obtain⟨_,rfl,_⟩:=h;exact⟨_,rfl⟩
 |mir p=>obtain⟨_,rfl,_⟩:=h;exact⟨_,rfl⟩
 |tur p=>obtain⟨_,rfl,_⟩:=h;exact⟨_,rfl⟩
 |hue f g p=>obtain⟨_,rfl,_⟩:=h;exact⟨_,rfl⟩
theorem yj{L:List (List Nat)}{w:Nat}(h:RowsL L w):Rows (L.map λx=>(⟨x.toArray⟩:Str))/\(L.map λx=>(⟨x.toArray⟩:Str)).map cs=L:=by
 refine⟨⟨by rw[AH];exact h.many,w,⟨h.w1,h.w8⟩,λl hl=>?_⟩,?_⟩
 ·obtain⟨x,hx,rfl⟩:=A1.mp hl
  obtain⟨h1,h2⟩:=h.each x hx
  exact⟨by rw[cZ];exact h1,h2⟩
 ·rw[List.map_map]
  simp[Function.comp_def,cs]
def yk:SpM:=λds M R RX=>∃ (a:Addr) (t:Str) (k:Nat) (l:List Nat),ds=[.ptr a]/\M=RdM a t k/\At t k l/\
 (∀ p l',p.Syn->p.depth=0->l=p.tl++l'->∀ v,FormOf p k v->R v (RdM a t (k+p.tl.length)))/\
 (∀ j:Nat,(∀ r,walk (.pat 5::r) l k=some j)->∀ M',RX "WrongSign" [("place",.int j)] M')
theorem yl{d:Nat}{l:List Nat}{k:Nat}{r:List Wt}(h:d=5\/∀ c l',l=c::l'->c ∉ cs "(smth"):walk (.pat d::r) l k=walk (.pat 5::r) l k:=by
 rcases h with rfl|h
 ·rfl
 ·cases l with
  |nil=>simp[walk]
  |cons c l=>
   have hc:=h c l rfl
   have e:cs "(smth"=[40,115,109,116,104]:=rfl
   rw[e] at hc
   simp only[AA,BL,or_false,not_or] at hc
   have:step (.pat d::r) c=step (.pat 5::r) c:=by
    rw[bv,bv]
    unfold bu
    by_cases Fh:c=91
    ·rw[if_pos Fh,if_pos Fh]
    ·rw[if_neg Fh,if_neg Fh,if_pos rfl]
     split
     ·rfl
     ·rw[if_neg hc.1,if_neg hc.2.1,if_neg hc.2.2.2.2,if_neg (by rintro(z|z);exact hc.2.2.1 z;exact hc.2.2.2.1 z)]
   rw[walk,walk,this]
theorem hue_dig{c:Nat}:c∈cs "123456"↔49<=c/\c<=54:=by
 have e:cs "123456"=[49,50,51,52,53,54]:=rfl
 rw[e];simp;lia
theorem fV{c:Nat}(h:49<=c/\c<=54):numL ((c:Int) - 48)=[c]:=by
 rw[hueL (by lia)]
 congr 1
 lia
theorem iQ{c:Nat}(h:49<=c/\c<=54){r:List Wt}{l:List Nat}{k:Nat}:walk (.hue::r) (c::l) k=walk r l (k+1):=aC (by simp[step,aH,aI,h])
theorem pw{r:List Wt}{l:List Nat}{k:Nat}(h:∀ c l',l=c::l'->c ∉ cs "123456"):walk (.hue::r) l k=some k:=
 walk_bad (λz=>nomatch z) λc l' q=>by
  have:=λz=>h c l' q (hue_dig.mpr z)
  simp only[step,aH,aI]
  exact if_neg this
def cE(j:Nat):SpM:=λds M R RX=>∃ (a:Addr) (t:Str) (k:Nat) (l:List Nat) (d:Nat),ds=[.ptr a,.int d]/\M=RdM a t k/\At t k l/\d+j=6/\1<=j/\
 (∀ p l',p.Syn->p.depth+d<=5->l=p.tl++l'->∀ v,FormOf p k v->R v (RdM a t (k+p.tl.length)))/\(∀ i:Nat,(∀ r,walk (.pat d::r) l k=some i)->∀ M',RX "WrongSign" [("place",.int i)] M')
theorem ym{ds:List D}{M:MS}{R:D->MS->Prop}{RX:XDM}:¬ cE 0 ds M R RX:=by
 rintro⟨_,_,_,_,_,_,_,_,_,h,_⟩
 exact absurd h (by decide)
def pz(j:Nat):SpM:=λds M R RX=>∃ (a:Addr) (t:Str) (k:Nat) (l:List Nat) (d:Nat),ds=[.ptr a,.int d]/\M=RdM a t k/\At t k l/\d+j=6/\1<=j/\
 (∀ p q l',p.Syn->q.Syn->p.depth+d<=5->q.depth+d<=5->l=p.tl++124::(q.tl++41::l')->∀ u u',FormOf p k u->FormOf q (k+p.tl.length+1) u'->R (.obj "Over" [("above",u),("below",u')]) (RdM a t (k+p.tl.length+1+q.tl.length+1)))/\
 (∀ i:Nat,(∀ r,walk (.pat d:: .sign 124:: .pat d:: .sign 41::r) l k=some i)->∀ M',RX "WrongSign" [("place",.int i)] M')
def pA(j:Nat):SpM:=λds M R RX=>∃ (a:Addr) (t:Str) (k:Nat) (l:List Nat) (d:Nat),ds=[.ptr a,.int d]/\M=RdM a t k/\At t k l/\d+j=6/\1<=j/\
 (∀ x y p l',B12 x->B12 y->p.Syn->p.depth+d<=5->l=numL x++44::(numL y++58::(p.tl++l'))->∀ u,FormOf p (k+(numL x).length+1+(numL y).length+1) u->R (.obj "Shifted" [("form",u),("x",.int x),("y",.int y)]) (RdM a t (k+(numL x).length+1+(numL y).length+1+p.tl.length)))/\
 (∀ i:Nat,(∀ r,walk (.num:: .sign 44:: .num:: .sign 58:: .pat d::r) l k=some i)->∀ M',RX "WrongSign" [("place",.int i)] M')
def pB(j:Nat):SpM:=λds M R RX=>∃ (a:Addr) (t:Str) (k:Nat) (l:List Nat) (d:Nat),ds=[.ptr a,.int d]/\M=RdM a t k/\At t k l/\d+j=6/\1<=j/\
 (∀ c e p l',(49<=c/\c<=54)->(49<=e/\e<=54)->p.Syn->p.depth+d<=5->l=c::e::(p.tl++l')->∀ u,FormOf p (k+2) u->R (.obj "Rehue" [("form",u),("old",.int ((c:Int) - 48)),("new",.int ((e:Int) - 48))]) (RdM a t (k+2+p.tl.length)))/\
 (∀ i:Nat,(∀ r,walk (.hue:: .hue:: .pat d::r) l k=some i)->∀ M',RX "WrongSign" [("place",.int i)] M')
def Pat.Area(p:Pat)(N:Int):Prop:=∃ w h s,p.Fam w h s/\w*h<=N
theorem Pat.Fits.wide{p:Pat}(h:p.Fits):p.Area 33554432:=by
 obtain⟨w,k,s,f,b⟩:=h
 exact⟨w,k,s,f,by lia⟩
theorem Pat.Area.small{p:Pat}{N:Int}(h:p.Area N){w k s:Int}(f:p.Fam w k s):0<w/\w<=N/\0<k/\k<=N/\0<=s/\s<w:=by
 obtain⟨w',k',s',f',hb⟩:=h
 obtain⟨rfl,rfl,rfl⟩:=f.uniq f'
 obtain⟨h1,h2⟩:=cf f.f.w0 f.f.h0
 exact⟨f.f.w0,by lia,f.f.h0,by lia,f.f.s0,f.f.sw⟩
theorem Pat.Area.tur{p:Pat}{N:Int}(h:p.Area N):(Pat.tur p).Area N:=by
 obtain⟨w,k,s,f,b⟩:=h
 obtain⟨w2,h2,s2,g,e⟩:=fS (s:=s) f.f.w0 f.f.h0
 exact⟨_,_,_,f.tur g,by lia⟩
def Pat.Cal:Pat->Prop
 | .mot ..=>True
 | .over p q=>p.Cal/\q.Cal/\(p.Wf->q.Wf->p.Area 33554432/\q.Area 33554432)
 | .sh _ _ p=>p.Cal
 | .mir p=>p.Cal
 | .tur p=>p.Cal/\(p.Wf->p.Area 33554432)
 | .hue _ _ p=>p.Cal
theorem Pat.cls_mem(p:Pat):p.cls∈(["Motif","Over","Shifted","Mirror","Turn","Rehue"]:List Str):=by
 cases p<;>simp[Pat.cls]
theorem no_look{f g:Str}{v:D}{r:List (Str × D)}(h:(f==g)=false)(hr:r.lookup f=none):(((g,v)::r:List (Str × D))).lookup f=none:=by
 rw[AR,h];exact hr
theorem FormOf.objm{p:Pat}{k:Nat}{v:D}(h:FormOf p k v):∃ fs,v= .obj p.cls fs/\fs.lookup ("family":Str)=none/\fs.lookup ("shows":Str)=none:=by
 cases p with
 |mot L a b c d=>obtain⟨sh,hu,rfl,_⟩:=h;exact⟨_,rfl,no_look (by decide+kernel) (no_look (by decide+kernel) (no_look (by decide+kernel) rfl)),no_look (by decide+kernel) (no_look (by decide+kernel) (no_look (by decide+kernel) rfl))⟩
 |over p q=>obtain⟨_,_,rfl,_⟩:=h;exact⟨_,rfl,no_look (by decide+kernel) (no_look (by decide+kernel) rfl),no_look (by decide+kernel) (no_look (by decide+kernel) rfl)⟩
 |sh a b p=>obtain⟨_,rfl,_⟩:=h;exact⟨_,rfl,no_look (by decide+kernel) (no_look (by decide+kernel) (no_look (by decide+kernel) rfl)),no_look (by decide+kernel) (no_look (by decide+kernel) (no_look (by decide+kernel) rfl))⟩
 |mir p=>obtain⟨_,rfl,_⟩:=h;exact⟨_,rfl,no_look (by decide+kernel) rfl,no_look (by decide+kernel) rfl⟩
 |tur p=>obtain⟨_,rfl,_⟩:=h;exact⟨_,rfl,no_look (by decide+kernel) rfl,no_look (by decide+kernel) rfl⟩
 |hue f g p=>obtain⟨_,rfl,_⟩:=h;exact⟨_,rfl,no_look (by decide+kernel) (no_look (by decide+kernel) (no_look (by decide+kernel) rfl)),no_look (by decide+kernel) (no_look (by decide+kernel) (no_look (by decide+kernel) rfl))⟩
theorem pC{k:Nat}{sh:D}{hu:List ((Int × Int) × Int)}:(moF k sh hu).lookup ("shifts":Str)=some sh:=by
 unfold moF
 rw[AR,show(("shifts":Str)==("place":Str))=false by decide+kernel]
 rfl
theorem yn{k:Nat}{sh:D}{hu:List ((Int × Int) × Int)}:(moF k sh hu).lookup ("place":Str)=some (.int k):=rfl
theorem iR{f g:Str}{u v:D}{r:List (Str × D)}(h:(g==f)=false):(((f,u)::(g,v)::r:List (Str × D))).lookup g=some v:=by
 rw[AR,h,AR,beq_self_eq_true]
theorem yo{e f g:Str}{t u v:D}{r:List (Str × D)}(h1:(g==e)=false)(h2:(g==f)=false):(((e,t)::(f,u)::(g,v)::r:List (Str × D))).lookup g=some v:=by
 rw[AR,h1];exact iR h2
theorem Pat.Fits.small{p:Pat}(h:p.Fits){w k s:Int}(f:p.Fam w k s):0<w/\w<=720/\0<k/\k<=720/\0<=s/\s<w:=by
 obtain⟨w',k',s',f',hb⟩:=h
 obtain⟨rfl,rfl,rfl⟩:=f.uniq f'
 obtain⟨h1,h2⟩:=cf f.f.w0 f.f.h0
 exact⟨f.f.w0,by lia,f.f.h0,by lia,f.f.s0,f.f.sw⟩
def bC(j:Nat)(x:Str):SpX:=λds R RX=>∃ (p:Pat) (k:Nat) (v:D),ds=[v]/\FormOf p k v/\p.Syn/\p.depth<j/\p.cls=x/\p.Cal/\(∀ i:Nat,p.lineAt k=some i->RX "OneLine" [("place",.int i)])/\(p.lineAt k=none->∀ w h s,p.Fam w h s->R (.tup [.int w,.int h,.int s]))
theorem dN{x:Str}{ds:List D}{M:MS}{R:D->MS->Prop}{RX:XDM}:¬ ofX (bC 0 x) ds M R RX:=by
 rintro⟨_,_,_,_,_,_,h,_⟩
 exact absurd h (CO _)
structure PatOf(p:Pat)(w h s:Int)(fs:List (Str × D)):Prop extends Pat.Fam p w h s where
 form:∃ k v,fs.lookup ("form":Str)=some v/\FormOf p k v
def iS(p:Pat)(d:D):Prop:=∃ w h s fs,d= .obj "Pattern" fs/\fs.lookup ("text":Str)=some (.str p.text)/\fs.lookup ("shifts":Str)=some (.tup [.int w,.int h,.int s])/\PatOf p w h s fs
def fW(x:Int):Prop:=-1000000000000<=x/\x<=1000000000000
theorem Pat.cal_w:∀ {p:Pat} {w h s:Int},p.Wf->p.Cal->p.Fam w h s->w<=1125899906842624
 | .mot L a b c d,w,h,s,g7,_,f=>by
  have:=(Pat.fits_mot (L:=L) g7.2.1 g7.2.2.1 g7.2.2.2.1 g7.2.2.2.2.1 g7.2.2.2.2.2).small f
  lia
 | .over p q,w,h,s,g7,hc,f=>by
  obtain⟨f1,f2⟩:=hc.2.2 g7.1 g7.2
  obtain⟨w1,k1,s1,g1⟩:=Pat.fam_ex g7.1
  obtain⟨w2,k2,s2,g2⟩:=Pat.fam_ex g7.2
  have a1:=f1.small g1
  have a2:=f2.small g2
  have DD:InF w h s (w1*w2) 0:=(f.lat _ _).mpr ⟨(g1.lat _ _).mp ⟨w2,0,by rw[A9];lia,by lia⟩,(g2.lat _ _).mp ⟨w1,0,by lia,by lia⟩⟩
  obtain⟨i,j,e1,e2⟩:=DD
  have hj:j=0:=by
   rcases BK.mp e2.symm with z|z
   ·exact z
   ·have:=f.f.h0;lia
  subst hj
  have hp:0<w1*w2:=AL a1.1 a2.1
  have e3:w1*w2=i*w:=by lia
  have hi:0<i:=by
   have:=f.f.w0
   rcases(by lia:i<=0\/0<i) with z|z
   ·have:=Bi z (show 0<=w by lia)
    lia
   ·exact z
  have h1:=AU (show 1<=i by lia) (show 0<=w by have:=f.f.w0;lia)
  have h2:=bj (a:=w1) (d:=w2) (A:=33554432) (B:=33554432) (by lia) (by lia)
  lia
 | .sh a b p,w,h,s,g7,hc,f=>Pat.cal_w (p:=p) g7.2.2 hc ⟨f.f,f.lat⟩
 | .mir p,w,h,s,g7,hc,f=>by
  obtain⟨w1,k1,s1,f1⟩:=Pat.fam_ex (p:=p) g7
  obtain⟨rfl,_,_⟩:=f.uniq f1.mir
  exact Pat.cal_w (p:=p) g7 hc f1
 | .tur p,w,h,s,g7,hc,f=>by
  have:=(hc.2 g7).tur.small f
  lia
 | .hue a b p,w,h,s,g7,hc,f=>Pat.cal_w (p:=p) g7.2.2 hc ⟨f.f,f.lat⟩
theorem cu{e:Nat}:∀ {a b x y:List Nat},e ∉ a->e ∉ b->a++e::x=b++e::y->a=b/\x=y
 |[],[],x,y,_,_,h=>by cases h;exact⟨rfl,rfl⟩
 |[],c::b,x,y,_,hb,h=>by
  cases h
  exact absurd AE hb
 |c::a,[],x,y,ha,_,h=>by
  cases h
  exact absurd AE ha
 |c::a,d::b,x,y,ha,hb,h=>by
  have h':c::(a++e::x)=d::(b++e::y):=h
  injection h' with h1 h2
  obtain⟨e1,e2⟩:=cu (λz=>ha (AC _ z)) (λz=>hb (AC _ z)) h2
  exact⟨by rw[h1,e1],e2⟩
theorem dO{a b:Int}(ha:B12 a)(hb:B12 b)(h:numL a=numL b):a=b:=by
 have h1:=iN ha
 rw[h,iN hb] at h1
 exact(Option.some.inj h1).symm
theorem yp{a:Int}(ha:B12 a):∀ c∈numL a,c=45\/(48<=c/\c<=57):=by
 rcases numL_is ha with⟨c,hc,e⟩|⟨c,hc,e⟩|⟨c,hc,e⟩|⟨c,hc,e⟩<;>rw[e]<;>simp<;>lia
theorem bN{a:Int}(ha:B12 a){e:Nat}(he:endS e):e ∉ numL a:=λz=>by
 have:=yp ha e z
 unfold endS at he
 lia
theorem rowsL_chars:∀ {L:List (List Nat)},(∀ x∈L,∀ c∈x,aF c)->∀ c∈rowsL L,aF c\/c=47
 |[],_,c,h=>by cases h
 |[x],hx,c,h=> .inl (hx x AE c h)
 |x::y::L,hx,c,h=>by
  have h':c∈x++47::rowsL (y::L):=h
  rcases AW.mp h' with z|z
  ·exact .inl (hx x AE c z)
  ·rcases AA.mp z with z|z
   ·exact .inr z
   ·exact rowsL_chars (λx q=>hx x (AC _ q)) c z
theorem eN{c:Nat}(h:aF c):c≠47/\c≠59:=by unfold aF at h;lia
theorem pD:∀ {L M:List (List Nat)},L≠[]->M≠[]->(∀ x∈L,∀ c∈x,aF c)->(∀ x∈M,∀ c∈x,aF c)->rowsL L=rowsL M->L=M
 |[],_,h,_,_,_,_=>absurd rfl h
 |_,[],_,h,_,_,_=>absurd rfl h
 |[x],[y],_,_,_,_,h=>by rw[show x=y from h]
 |[x],y::z::M,_,_,hx,_,h=>by
  have h':x=y++47::rowsL (z::M):=h
  have:(47:Nat)∈x:=by rw[h'];simp
  exact absurd rfl (eN (hx x AE 47 this)).1
 |x::z::L,[y],_,_,_,hy,h=>by
  have h':x++47::rowsL (z::L)=y:=h
  have:(47:Nat)∈y:=by rw[<- h'];simp
  exact absurd rfl (eN (hy y AE 47 this)).1
 |x::z::L,y::z'::M,_,_,hx,hy,h=>by
  have h':x++47::rowsL (z::L)=y++47::rowsL (z'::M):=h
  obtain⟨e1,e2⟩:=cu (λq=>(eN (hx x AE 47 q)).1 rfl) (λq=>(eN (hy y AE 47 q)).1 rfl) h'
  rw[e1,pD (L:=z::L) (M:=z'::M) (λq=>nomatch q) (λq=>nomatch q) (λx q=>hx x (AC _ q)) (λx q=>hy x (AC _ q)) e2]
theorem pE:∀ {L M:List Str},L.map cs=M.map cs->L=M
 |[],[],_=>rfl
 |[],_::_,h=>by cases h
 |_::_,[],h=>by cases h
 |x::L,y::M,h=>by
  rw[AO,AO] at h
  injection h with h1 h2
  rw[iL h1,pE h2]
theorem yq{L L':List Str}{a b c d a' b' c' d':Int}{x y:List Nat}(h:(Pat.mot L a b c d).Syn)(h':(Pat.mot L' a' b' c' d').Syn)(e:(Pat.mot L a b c d).tl++x=(Pat.mot L' a' b' c' d').tl++y):Pat.mot L a b c d=Pat.mot L' a' b' c' d'/\x=y:=by
 have e0:91::(rowsL (L.map cs)++59::(numL a++44::(numL b++59::(numL c++44::(numL d++93::x)))))=91::(rowsL (L'.map cs)++59::(numL a'++44::(numL b'++59::(numL c'++44::(numL d'++93::y))))):=by
  simpa[Pat.tl,motL] using e
 injection e0 with _ e1
 have sg:∀ {L:List Str},Rows L->∀ x∈L.map cs,∀ c∈x,aF c:=λ{L} hL x hx=>by
  obtain⟨l,hl,rfl⟩:=A1.mp hx
  obtain⟨_,w,_,q⟩:=hL
  exact(q l hl).2
 have Ik:∀ {L:List Str},Rows L->(59:Nat) ∉ rowsL (L.map cs):=λ{L} hL z=>by
  rcases rowsL_chars (sg hL) 59 z with q|q
  ·exact(eN q).2 rfl
  ·cases q
 have ne:∀ {L:List Str},Rows L->L.map cs≠[]:=λ{L} hL z=>by
  have h1:=hL.many.1
  have h2:=congrArg BB z
  rw[AH] at h2
  simp at h2
  rw[h2] at h1
  simp at h1
 obtain⟨q1,e2⟩:=cu (Ik h.1) (Ik h'.1) e1
 obtain⟨q2,e3⟩:=cu (bN h.2.1 (.inl rfl)) (bN h'.2.1 (.inl rfl)) e2
 obtain⟨q3,e4⟩:=cu (bN h.2.2.1 (.inr (.inl rfl))) (bN h'.2.2.1 (.inr (.inl rfl))) e3
 obtain⟨q4,e5⟩:=cu (bN h.2.2.2.1 (.inl rfl)) (bN h'.2.2.2.1 (.inl rfl)) e4
 obtain⟨q5,e6⟩:=cu (bN h.2.2.2.2 (.inr (.inr (.inr rfl)))) (bN h'.2.2.2.2 (.inr (.inr (.inr rfl)))) e5
 rw[pE (pD (ne h.1) (ne h'.1) (sg h.1) (sg h'.1) q1),dO h.2.1 h'.2.1 q2,dO h.2.2.1 h'.2.2.1 q3,dO h.2.2.2.1 h'.2.2.2.1 q4,dO h.2.2.2.2 h'.2.2.2.2 q5]
 exact⟨rfl,e6⟩
def Pat.head:Pat->Nat
 | .mot ..=>91| .over ..=>40| .sh ..=>115| .mir ..=>109| .tur ..=>116| .hue ..=>104
theorem Pat.tl_head(p:Pat):∃ l,p.tl=p.head::l:=by cases p<;>exact⟨_,rfl⟩
theorem db{p q:Pat}{x y:List Nat}(e:p.tl++x=q.tl++y):p.head=q.head:=by
 obtain⟨l1,e1⟩:=p.tl_head
 obtain⟨l2,e2⟩:=q.tl_head
 rw[e1,e2] at e
 have e':p.head::(l1++x)=q.head::(l2++y):=e
 injection e'
theorem pF{f g:Int}(h:1<=f/\f<=6)(h':1<=g/\g<=6)(e:(48+f).toNat=(48+g).toNat):f=g:=by lia
theorem yr{p q:Pat}{x y:List Nat}(hp:p.Syn)(hq:q.Syn)(e:p.tl++x=q.tl++y):p=q/\x=y:=by
 have hh:=db e
 induction p generalizing q x y with
 |mot=>
  cases q with
  |mot=>exact yq hp hq e
  |_=>simp[Pat.head] at hh
 |over p q i1 i2=>
  cases q with
  |over p' q'=>
   have e0:40::(p.tl++124::(q.tl++41::x))=40::(p'.tl++124::(q'.tl++41::y)):=by simpa[Pat.tl] using e
   injection e0 with _ e1
   obtain⟨rfl,e2⟩:=i1 hp.1 hq.1 e1 (db e1)
   injection e2 with _ e3
   obtain⟨rfl,e4⟩:=i2 hp.2 hq.2 e3 (db e3)
   injection e4 with _ e5
   exact⟨rfl,e5⟩
  |_=>simp[Pat.head] at hh
 |sh a b p i=>
  cases q with
  |sh a' b' p'=>
   have e0:115::(numL a++44::(numL b++58::(p.tl++x)))=115::(numL a'++44::(numL b'++58::(p'.tl++y))):=by simpa[Pat.tl] using e
   injection e0 with _ e1
   obtain⟨q2,e3⟩:=cu (bN hp.1 (.inl rfl)) (bN hq.1 (.inl rfl)) e1
   obtain⟨q3,e4⟩:=cu (bN hp.2.1 (.inr (.inr (.inl rfl)))) (bN hq.2.1 (.inr (.inr (.inl rfl)))) e3
   obtain⟨rfl,e5⟩:=i hp.2.2 hq.2.2 e4 (db e4)
   rw[dO hp.1 hq.1 q2,dO hp.2.1 hq.2.1 q3]
   exact⟨rfl,e5⟩
  |_=>simp[Pat.head] at hh
 |mir p i=>
  cases q with
  |mir p'=>
   have e0:109::(p.tl++x)=109::(p'.tl++y):=e
   injection e0 with _ e1
   obtain⟨rfl,e5⟩:=i (q:=p') hp hq e1 (db e1)
   exact⟨rfl,e5⟩
  |_=>simp[Pat.head] at hh
 |tur p i=>
  cases q with
  |tur p'=>
   have e0:116::(p.tl++x)=116::(p'.tl++y):=e
   injection e0 with _ e1
   obtain⟨rfl,e5⟩:=i (q:=p') hp hq e1 (db e1)
   exact⟨rfl,e5⟩
  |_=>simp[Pat.head] at hh
 |hue f g p i=>
  cases q with
  |hue f' g' p'=>
   have e0:104::(numL f++(numL g++(p.tl++x)))=104::(numL f'++(numL g'++(p'.tl++y))):=by simpa[Pat.tl] using e
   rw[hueL hp.1,hueL hp.2.1,hueL hq.1,hueL hq.2.1] at e0
   have e1:104::(48+f).toNat::(48+g).toNat::(p.tl++x)=104::(48+f').toNat::(48+g').toNat::(p'.tl++y):=e0
   injection e1 with _ e2
   injection e2 with e3 e4
   injection e4 with e5 e6
   obtain⟨rfl,e7⟩:=i hp.2.2 hq.2.2 e6 (db e6)
   rw[pF hp.1 hq.1 e3,pF hp.2.1 hq.2.1 e5]
   exact⟨rfl,e7⟩
  |_=>simp[Pat.head] at hh
def yt:SiD:=λds R=>∃ (t:Str) (w h s:Int) (x:Str) (fs:List (Str × D)),ds=[.str t,.tup [.int w,.int h,.int s],.obj x fs]/\R [("text",.str t),("shifts",.tup [.int w,.int h,.int s]),("form",.obj x fs)]
def yu:SiD:=λds R=>∃ i:Int,ds=[.int i]/\R [("place",.int i)]
def yw:SiD:=λds R=>∃ i:Int,ds=[.int i]/\R [("place",.int i)]
def pG:SpX:=λds R RX=>(∃ (t:Str) (k:Nat),ds=[.str t]/\t.length<=100000/\cA t=some k/\RX "WrongSign" [("place",.int k)])\/
 ∃ p:Pat,ds=[.str p.text]/\p.Syn/\p.depth<=5/\p.Cal/\(∀ k:Nat,p.lineAt 0=some k->RX "OneLine" [("place",.int k)])/\(p.lineAt 0=none->¬ p.Fits->RX "TooGreat" [])/\(p.lineAt 0=none->p.Fits->∀ d,iS p d->R d)
theorem yx{x n:Int}:x.fmod n=0↔n∣x:=⟨Int.dvd_of_fmod_eq_zero,Cl⟩
theorem yy(a b c d u v i j:Int):onB a b c d (u+(i*a+j*c)) (v+(i*b+j*d))=onB a b c d u v:=by
 unfold onB
 have e1:(u+(i*a+j*c))*d - (v+(i*b+j*d))*c=(u*d - v*c)+(a*d - b*c)*i:=by grind
 have e2:a*(v+(i*b+j*d)) - b*(u+(i*a+j*c))=(a*v - b*u)+(a*d - b*c)*j:=by grind
 rw[e1,e2]
 simp only[yx]
 have h1:(a*d - b*c∣u*d - v*c+(a*d - b*c)*i)↔a*d - b*c∣u*d - v*c:=C5 (C6 _ _)
 have h2:(a*d - b*c∣a*v - b*u+(a*d - b*c)*j)↔a*d - b*c∣a*v - b*u:=C5 (C6 _ _)
 simp only[h1,h2]
def Pat.Keeps(p:Pat)(X Y:Int):Prop:=∀ x y,p.show (x+X) (y+Y)=p.show x y
theorem Pat.lat_keeps:∀ {p:Pat} {X Y:Int},p.Lat X Y->p.Keeps X Y
 | .mot L a b c d,_,_,⟨i,j,rfl,rfl⟩,x,y=>by
  have e:∀ u v:Int,onB a b c d (1*(x+(i*a+j*c))+0*(y+(i*b+j*d))+0 - u) (0*(x+(i*a+j*c))+1*(y+(i*b+j*d))+0 - v)=onB a b c d (1*x+0*y+0 - u) (0*x+1*y+0 - v):=λu v=>by
   rw[<- yy a b c d (1*x+0*y+0 - u) (0*x+1*y+0 - v) i j]
   congr 1<;>lia
  show Leaf.shows _ _ _=Leaf.shows _ _ _
  unfold Leaf.shows Leaf.hit
  simp only[aN,e]
 | .over p q,X,Y,h,x,y=>by
  simp only[Pat.show]
  rw[Pat.lat_keeps h.1 x y,Pat.lat_keeps h.2 x y]
 | .sh a b p,X,Y,h,x,y=>by
  have:=Pat.lat_keeps (p:=p) h (x - a) (y - b)
  simp only[Pat.show]
  rw[<- this];congr 1<;>lia
 | .mir p,X,Y,h,x,y=>by
  have:=Pat.lat_keeps (p:=p) h (-x) y
  simp only[Pat.show]
  rw[<- this];congr 1;lia
 | .tur p,X,Y,h,x,y=>by
  have:=Pat.lat_keeps (p:=p) h y (-x)
  simp only[Pat.show]
  rw[<- this];congr 1;lia
 | .hue f g p,X,Y,h,x,y=>by
  simp only[Pat.show]
  rw[Pat.lat_keeps (p:=p) h x y]
namespace Pat.Keeps
variable {p:Pat}{X Y U V:Int}
theorem zero:p.Keeps 0 0:=λx y=>by rw[BZ,BZ]
theorem add(h:p.Keeps X Y)(k:p.Keeps U V):p.Keeps (X+U) (Y+V):=λx y=>by
 rw[<- C7,<- C7,k,h]
theorem neg(h:p.Keeps X Y):p.Keeps (-X) (-Y):=λx y=>by
 have:=h (x+-X) (y+-Y)
 rw[<- this];congr 1<;>lia
theorem sub(h:p.Keeps X Y)(k:p.Keeps U V):p.Keeps (X - U) (Y - V):=by
 have:=h.add k.neg
 rwa [<- C8,<- C8] at this
theorem nat(h:p.Keeps X Y):∀ n:Nat,p.Keeps ((n:Int)*X) ((n:Int)*Y)
 |0=>by simpa using zero
 |n+1=>by
  have:=(nat h n).add h
  have e:∀ z:Int,((n+1:Nat):Int)*z=(n:Int)*z+z:=λz=>by rw[Int.natCast_add,Int.add_mul];simp
  rw[e,e];exact this
theorem mul(h:p.Keeps X Y)(n:Int):p.Keeps (n*X) (n*Y):=by
 rcases CP 0 n with q|q
 ·have:=h.nat n.toNat
  rwa [BM q] at this
 ·have:=(h.nat (-n).toNat).neg
  rw[BM (by lia)] at this
  simpa[Br] using this
end Pat.Keeps
theorem InF.keeps{p:Pat}{w h s x y:Int}(a:p.Keeps w 0)(b:p.Keeps s h)(q:InF w h s x y):p.Keeps x y:=by
 obtain⟨i,j,rfl,rfl⟩:=q
 have:=(a.mul i).add (b.mul j)
 rwa [C9,Int.zero_add] at this
theorem InF.one(w h s:Int):InF w h s w 0:=⟨1,0,by lia,by lia⟩
theorem InF.two(w h s:Int):InF w h s s h:=⟨0,1,by lia,by lia⟩
theorem Pat.Fam.keeps{p:Pat}{w h s x y:Int}(f:p.Fam w h s)(q:InF w h s x y):p.Keeps x y:=Pat.lat_keeps ((f.lat x y).mp q)
structure Pat.Least(p:Pat)(w h s:Int):Prop where
 f:Fam0 w h s
 lat:∀ x y,InF w h s x y↔p.Keeps x y
theorem Pat.Least.uniq{p:Pat}{w h s w' h' s':Int}(a:p.Least w h s)(b:p.Least w' h' s'):w=w'/\h=h'/\s=s':=
 InF.uniq a.f.w0 a.f.h0 a.f.s0 a.f.sw b.f.w0 b.f.h0 b.f.s0 b.f.sw λx y=>(a.lat x y).trans (b.lat x y).symm
structure Pat.LeastW(p:Pat)(w m:Int):Prop where
 lo:1<=m
 hi:m<=w
 md:w % m=0
 k:p.Keeps m 0
 l:∀ d,1<=d->d<=w->w % d=0->p.Keeps d 0->m<=d
theorem Pat.LeastW.eq{p:Pat}{w h s w' h' s' m:Int}(F:p.Fam w h s)(L:p.Least w' h' s')(a:p.LeastW w m):m=w':=by
 have w0:=L.f.w0
 have k:p.Keeps w' 0:=(L.lat _ _).mp (InF.one _ _ _)
 obtain⟨i,j,e1,e2⟩:=(L.lat m 0).mpr a.k
 have h0:=L.f.h0
 have j0:j=0:=by
  rcases B0 j 0 with q|q|q
  ·have:=Cr q h0;lia
  ·exact q
  ·have:=AL q h0;lia
 subst j0
 rw[BX,BZ] at e1
 have lo:=a.lo
 have i0:0<i:=by
  rcases B0 i 0 with q|q|q
  ·have:=Cr q w0;lia
  ·subst q;lia
  ·exact q
 have h1:w'<=m:=by
  rw[e1]
  have:=AU (show 1<=i by lia) (show 0<=w' by lia)
  lia
 obtain⟨i2,j2,f1,f2⟩:=(L.lat w 0).mpr (F.keeps (InF.one w h s))
 have JK:j2=0:=by
  rcases B0 j2 0 with q|q|q
  ·have:=Cr q h0;lia
  ·exact q
  ·have:=AL q h0;lia
 subst JK
 have h2:=a.l w' (by lia) (by have:=a.hi;lia) (by rw[f1,BX,BZ];exact Ck _ _) k
 lia
theorem yz{j h:Int}(h0:0<h)(e:h=j*h):j=1:=by
 have:(j - 1)*h=0:=by rw[Int.sub_mul,<- e];lia
 rcases BK.mp this with q|q<;>lia
theorem small_mul{i w:Int}(w0:0<w)(a: -w<i*w)(b:i*w<w):i=0:=by
 rcases B0 i 0 with q|q|q
 ·have:=AU (show i<=-1 by lia) (show 0<=w by lia);lia
 ·exact q
 ·have:=AU (show 1<=i by lia) (show 0<=w by lia);lia
theorem Pat.Least.slant{p:Pat}{w h s t:Int}(L:p.Least w h s)(a:0<=t)(b:t<w)(k:p.Keeps t h):t=s:=by
 obtain⟨i,j,e1,e2⟩:=(L.lat t h).mpr k
 have j1:=yz L.f.h0 e2
 subst j1
 have s0:=L.f.s0
 have sw:=L.f.sw
 have:=small_mul (i:=i) L.f.w0 (by lia) (by lia)
 subst this
 lia
theorem Pat.Least.row{p:Pat}{w h s x y:Int}(L:p.Least w h s)(k:p.Keeps x y):p.Keeps (x % w) y:=by
 have e:=Bq x w
 have:=k.sub (((L.lat _ _).mp (InF.one w h s)).mul (x / w))
 rw[C9,CW] at this
 rw[e,A9];exact this
def yB:SpD:=λds R=>∃ p q r:Int,ds=[.tup [.int p,.int q,.int r],.tup [.int p,.int q,.int r]]/\R (.bl true)
theorem Pat.Least.le{p:Pat}{w h s w' h' s':Int}(F:p.Fam w h s)(L:p.Least w' h' s'):w'*h'<=w*h:=(InF.le L.f.w0 L.f.h0 F.f.w0 F.f.h0 (λx y q=>(L.lat x y).mpr (F.keeps q))).1
theorem Pat.Least.first{p:Pat}{w h s x y:Int}(L:p.Least w h s)(k:p.Keeps x y)(y0:0<=y)(yh:y<h)(x0:0<=x)(xw:x<w):x=0/\y=0:=by
 obtain⟨i,j,e1,e2⟩:=(L.lat x y).mpr k
 have h0:=L.f.h0
 have j0:=small_mul (i:=j) h0 (by lia) (by lia)
 subst j0
 have i0:=small_mul (i:=i) L.f.w0 (by lia) (by lia)
 subst i0
 lia
theorem pH{p:Pat}(X Y:Int):(Pat.mir p).Keeps X Y↔p.Keeps (-X) Y:=by
 constructor<;>intro h x y
 ·have:=h (-x) y
  simp only[Pat.show,B1,Da] at this
  exact this
 ·have:=h (-x) y
  simp only[Pat.show,B1]
  exact this
theorem pI{p:Pat}(X Y:Int):(Pat.tur p).Keeps X Y↔p.Keeps Y (-X):=by
 constructor<;>intro h x y
 ·have:=h (-y) x
  simp only[Pat.show,B1,Da] at this
  exact this
 ·have:=h y (-x)
  simp only[Pat.show,B1]
  exact this
theorem pJ{p:Pat}(a b X Y:Int):(Pat.sh a b p).Keeps X Y↔p.Keeps X Y:=by
 constructor<;>intro h x y
 ·have:=h (x+a) (y+b)
  simp only[Pat.show] at this
  rw[show x+a+X - a=x+X by lia,show y+b+Y - b=y+Y by lia,show x+a - a=x by lia,show y+b - b=y by lia] at this
  exact this
 ·have:=h (x - a) (y - b)
  simp only[Pat.show]
  rw[show x+X - a=x - a+X by lia,show y+Y - b=y - b+Y by lia]
  exact this
theorem Pat.Least.mir{p:Pat}{w h s:Int}(k:p.Least w h s):(Pat.mir p).Least w h (-s % w):=by
 refine⟨⟨k.f.w0,k.f.h0,ci k.f.w0,cj k.f.w0⟩,λx y=>?_⟩
 rw[pH,<- k.lat]
 have e:=Bq (-s) w
 generalize -s % w=r at e
 generalize -s / w=t at e
 constructor
 ·rintro⟨i,j,rfl,rfl⟩
  exact⟨j*t - i,j,by rw[e];grind,rfl⟩
 ·rintro⟨i,j,ex,rfl⟩
  exact⟨j*t - i,j,by rw[e];grind,rfl⟩
theorem Pat.Least.tur{p:Pat}{w h s w' h' s':Int}(k:p.Least w h s)(f:FamOf 0 w (-h) s w' h' s'):(Pat.tur p).Least w' h' s':=by
 refine⟨⟨f.1,f.2.1,f.2.2.1,f.2.2.2.1⟩,λx y=>?_⟩
 rw[pI,<- k.lat,f.lat]
 constructor
 ·rintro⟨i,j,rfl,rfl⟩
  exact⟨i,j,by grind,by grind⟩
 ·rintro⟨i,j,ex,ey⟩
  exact⟨i,j,by grind,by grind⟩
theorem Pat.Least.sh{p:Pat}{w h s:Int}(a b:Int)(k:p.Least w h s):(Pat.sh a b p).Least w h s:=⟨k.f,λx y=>by rw[pJ,k.lat]⟩
structure Mv(p q:Pat)(b0 b1 b2 b3:Int):Prop where
 keeps:∀ X Y,q.Keeps X Y↔p.Keeps (b0*X+b1*Y) (b2*X+b3*Y)
 leaf:∀ l ls,p.leaves=l::ls->∃ l' ls',q.leaves=l'::ls'/\l'.w0=l.w0*b0+l.w1*b2/\l'.w1=l.w0*b1+l.w1*b3/\l'.w2=l.w2*b0+l.w3*b2/\l'.w3=l.w2*b1+l.w3*b3
 area:∀ w h s,p.Least w h s->∃ w' h' s',q.Least w' h' s'/\w'*h'=w*h
theorem Mv.mir{p q:Pat}{b0 b1 b2 b3:Int}(m:Mv p q b0 b1 b2 b3):Mv p (.mir q) (-b0) b1 (-b2) b3:=by
 refine⟨λX Y=>?_,λl ls e=>?_,λw h s L=>?_⟩
 ·rw[pH,m.keeps,Bj,Bj,Br,Br]
 ·obtain⟨l',ls',e',h0,h1,h2,h3⟩:=m.leaf l ls e
  refine⟨_,_,by rw[Pat.leaves,e',AO],?_,?_,?_,?_⟩<;>simp only[Leaf.by,h0,h1,h2,h3]<;>grind
 ·obtain⟨w',h',s',L',e⟩:=m.area w h s L
  exact⟨_,_,_,L'.mir,e⟩
theorem Mv.tur{p q:Pat}{b0 b1 b2 b3:Int}(m:Mv p q b0 b1 b2 b3):Mv p (.tur q) (-b1) b0 (-b3) b2:=by
 refine⟨λX Y=>?_,λl ls e=>?_,λw h s L=>?_⟩
 ·rw[pI,m.keeps,Bj,Bj,Br,Br,Db (b0*Y),Db (b2*Y)]
 ·obtain⟨l',ls',e',h0,h1,h2,h3⟩:=m.leaf l ls e
  refine⟨_,_,by rw[Pat.leaves,e',AO],?_,?_,?_,?_⟩<;>simp only[Leaf.by,h0,h1,h2,h3]<;>grind
 ·obtain⟨w',h',s',L',e⟩:=m.area w h s L
  obtain⟨w2,h2,s2,f,e2⟩:=fS (s:=s') L'.f.w0 L'.f.h0
  exact⟨_,_,_,L'.tur f,by lia⟩
theorem Mv.sh{p q:Pat}{b0 b1 b2 b3:Int}(a b:Int)(m:Mv p q b0 b1 b2 b3):Mv p (.sh a b q) b0 b1 b2 b3:=by
 refine⟨λX Y=>?_,λl ls e=>?_,λw h s L=>?_⟩
 ·rw[pJ,m.keeps]
 ·obtain⟨l',ls',e',h0,h1,h2,h3⟩:=m.leaf l ls e
  refine⟨_,_,by rw[Pat.leaves,e',AO],?_,?_,?_,?_⟩<;>simp only[Leaf.by,h0,h1,h2,h3]<;>grind
 ·obtain⟨w',h',s',L',e⟩:=m.area w h s L
  exact⟨_,_,_,L'.sh a b,e⟩
structure Side(a w:Int)(A t:Nat):Prop where
 n:fW a
 A4:A<=4000000000000
 t1:t<=1000
 e:fW (a+A*w+t - 1)
theorem Side.of{a w:Int}{A t:Nat}(n:fW a)(w0:0<w)(hA:(A:Int)<=(1000000000000 - a+1) / w)(h:(t<=720/\(t:Int)<=1000000000000 - a+1 - A*w/\¬ (a=-1000000000000/\A=0))\/(a=-1000000000000/\A=0/\1<=t/\t<=720)):Side a w A t:=by
 have h1:=AU hA (show 0<=w by omega)
 have h2:=Int.ediv_mul_le (1000000000000 - a+1) (show w≠0 by omega)
 have h3:(A:Int)<=A*w:=by
  have:=BU (show 1<=w by omega) (show 0<=(A:Int) by omega)
  omega
 unfold fW at n
 rcases h with⟨t7,ht,ne⟩|⟨e1,rfl,t0,t7⟩
 ·refine⟨n,by omega,by omega,?_,by omega⟩
  by_cases z:A=0
  ·subst z;simp at ne ⊢;omega
  ·omega
 ·refine⟨n,by omega,by omega,?_,?_⟩<;>simp<;>omega
end My
end
section
namespace My
local macro_rules | `(tactic| k_memK) => `(tactic| exact⟨rfl, rfl, rfl, by decide +kernel, rfl, by decide +kernel, by decide +kernel⟩)
local macro_rules | `(tactic| k_places) => `(tactic| try simp only[AS, AT, My.aQ])
open PySem PySem.Spec PyProof.Rows L2
def top(i:Nat):Stmt:=PySem.Challenge.pw_motiffield_k11_too_great.main.body.getD i (.Pass ⟨0,0,0,0⟩)
abbrev iT:Stmt:=top 39
abbrev iU:List Str:=["_law_script","_law_k"]
theorem yD:FnScope ["_law_script","_law_k"] iU (ag iT):=by k_memK
abbrev iV:Stmt:=top 54
abbrev iW:List Str:=["_law_sign","_law_one","_law_two"]
theorem yF:FnScope ["_law_sign","_law_one","_law_two"] iW (ag iV):=by k_memK
abbrev iX:Stmt:=top 44
abbrev iY:List Str:=["_law_lines_here","_law_one","_law_two"]
theorem sc__law_motif_text:FnScope ["_law_lines_here","_law_one","_law_two","_law_tail"] iY (ag iX):=by k_memK
abbrev fX:Stmt:=top 47
abbrev iZ:List Str:=["_law_part","_law_draw"]
theorem sc__law_wrapped:FnScope ["_law_part","_law_draw","_law_across","_law_down","_law_old","_law_new","_law_shift","_law_head","_law_ways","_law_by","_law_leaves","_law_leaf_here","_law_a","_law_b","_law_c","_law_d","_law_e","_law_f","_law_way","_law_hues"] iZ (ag fX):=by k_memK
abbrev eO:Stmt:=top 55
abbrev ja:List Str:=["_law_script"]
theorem sc__law_at_the_bound:FnScope ["_law_script","_law_pairs","_law_sign","_law_leaves","_law_texts","_law_part","_law_k"] ja (ag eO):=by k_memK
abbrev jb:Stmt:=top 42
abbrev jc:List Str:=["_law_script","_law_k","_law_many"]
theorem sc__law_draws:FnScope ["_law_script","_law_k","_law_many","_law_left","_law_drawn","_law_turn","_law_seed"] jc (ag jb):=by k_memK
abbrev jd:Stmt:=top 45
abbrev je:List Str:=["_law_draws_here"]
theorem sc__law_lines:FnScope ["_law_draws_here","_law_wide","_law_tall","_law_signs","_law_lines_here","_law_j","_law_line","_law_i","_law_place","_law_value"] je (ag jd):=by k_memK
abbrev jg:Stmt:=top 43
abbrev jh:List Str:=["_law_draws_here"]
theorem sc__law_shift_pair:FnScope ["_law_draws_here","_law_a","_law_b","_law_c","_law_d"] jh (ag jg):=by k_memK
abbrev ji:Stmt:=top 46
abbrev jj:List Str:=["_law_script","_law_k"]
theorem sc__law_motif:FnScope ["_law_script","_law_k","_law_draws_here","_law_lines_here","_law_one","_law_two","_law_leaf_here"] jj (ag ji):=by k_memK
abbrev jk:Stmt:=top 56
abbrev jl:List Str:=["_law_script"]
theorem sc__law_piled:FnScope ["_law_script","_law_part","_law_k","_law_other"] jl (ag jk):=by k_memK
abbrev jm:Stmt:=top 49
abbrev jn:List Str:=["_law_a","_law_b"]
theorem sc__law_gcd:FnScope ["_law_a","_law_b"] jn (ag jm):=by k_memK
abbrev jp:Stmt:=top 48
abbrev jq:List Str:=["_law_one","_law_two","_law_u","_law_v"]
theorem sc__law_on:FnScope ["_law_one","_law_two","_law_u","_law_v","_law_size"] jq (ag jp):=by k_memK
abbrev jr:Stmt:=top 51
abbrev js:List Str:=["_law_leaf_here"]
theorem sc__law_leaf_family:FnScope ["_law_leaf_here","_law_a","_law_b","_law_c","_law_d","_law_e","_law_f","_law_one","_law_two","_law_high","_law_wide","_law_lean"] js (ag jr):=by k_memK
abbrev jt:Stmt:=top 50
abbrev ju:List Str:=["_law_three","_law_x","_law_y"]
theorem yG:FnScope ["_law_three","_law_x","_law_y"] ju (ag jt):=by k_memK
abbrev jv:Stmt:=top 52
abbrev jw:List Str:=["_law_one","_law_two"]
theorem sc__law_both:FnScope ["_law_one","_law_two","_law_wide","_law_high","_law_x"] jw (ag jv):=by k_memK
abbrev jx:Stmt:=top 53
abbrev jy:List Str:=["_law_leaves"]
theorem sc__law_family:FnScope ["_law_leaves","_law_both_here","_law_leaf_here"] jy (ag jx):=by k_memK
abbrev jz:Stmt:=aZ (top 2) 0
abbrev jA:List Str:=["self","place"]
theorem yH:FnScope ["self","place"] jA (ag jz):=by k_memK
abbrev jB:Stmt:=aZ (top 27) 1
abbrev jC:List Str:=["self","allowed"]
theorem yI:FnScope ["self","allowed"] jC (ag jB):=by k_memK
abbrev jD:Stmt:=aZ (top 27) 2
abbrev jE:List Str:=["self","allowed"]
theorem sc_Reading_take:FnScope ["self","allowed","sign"] jE (ag jD):=by k_memK
abbrev jF:Stmt:=top 30
abbrev jG:List Str:=["reading","least","most"]
theorem sc_line_from:FnScope ["reading","least","most","line","column"] jG (ag jF):=by k_memK
abbrev jH:Stmt:=top 31
abbrev jI:List Str:=["reading"]
theorem sc_lines_from:FnScope ["reading","lines","width"] jI (ag jH):=by k_memK
abbrev jJ:Stmt:=top 28
abbrev jK:List Str:=["reading"]
theorem sc_number_from:FnScope ["reading","written"] jK (ag jJ):=by k_memK
abbrev jL:Stmt:=top 29
abbrev jM:List Str:=["reading"]
theorem sc_shift_from:FnScope ["reading","x"] jM (ag jL):=by k_memK
abbrev jN:Stmt:=top 6
abbrev jO:List Str:=["first","second"]
theorem sc_levelled:FnScope ["first","second","times","rest"] jO (ag jN):=by k_memK
abbrev jP:Stmt:=top 8
abbrev jQ:List Str:=["first","second"]
theorem sc_spread:FnScope ["first","second","pair","width"] jQ (ag jP):=by k_memK
abbrev jR:Stmt:=top 9
abbrev jS:List Str:=["family","x","y"]
theorem sc_home:FnScope ["family","x","y","width","height","slant"] jS (ag jR):=by k_memK
abbrev jT:Stmt:=top 15
abbrev jU:List Str:=["lines","family"]
theorem sc_hues_by_home:FnScope ["lines","family","hues","row","line","column","sign"] jU (ag jT):=by k_memK
abbrev jV:Stmt:=aZ (top 16) 0
abbrev jW:List Str:=["self","place","lines","first","second"]
theorem yJ:FnScope ["self","place","lines","first","second"] jW (ag jV):=by k_memK
abbrev jX:Stmt:=top 32
abbrev jY:List Str:=["reading"]
theorem sc_motif_from:FnScope ["reading","place","lines","first","second"] jY (ag jX):=by k_memK
abbrev jZ:Stmt:=aZ (top 19) 0
abbrev kd:List Str:=["self","form"]
theorem yL:FnScope ["self","form"] kd (ag jZ):=by k_memK
abbrev ke:Stmt:=aZ (top 20) 0
abbrev kg:List Str:=["self","form"]
theorem yM:FnScope ["self","form"] kg (ag ke):=by k_memK
abbrev kh:Stmt:=aZ (top 17) 0
abbrev ki:List Str:=["self","above","below"]
theorem yO:FnScope ["self","above","below"] ki (ag kh):=by k_memK
abbrev kj:Stmt:=aZ (top 18) 0
abbrev km:List Str:=["self","form","x","y"]
theorem yQ:FnScope ["self","form","x","y"] km (ag kj):=by k_memK
abbrev ko:Stmt:=aZ (top 21) 0
abbrev kq:List Str:=["self","form","old","new"]
theorem yR:FnScope ["self","form","old","new"] kq (ag ko):=by k_memK
abbrev fY:Stmt:=top 33
abbrev eQ:List Str:=["reading","around"]
theorem sc_over_from:FnScope ["reading","around","above","below"] eQ (ag fY):=by k_memK
abbrev fZ:Stmt:=top 34
abbrev eU:List Str:=["reading","around"]
theorem sc_shifted_from:FnScope ["reading","around","shift"] eU (ag fZ):=by k_memK
abbrev gc:Stmt:=top 35
abbrev eV:List Str:=["reading","around"]
theorem sc_rehue_from:FnScope ["reading","around","old","new"] eV (ag gc):=by k_memK
abbrev gf:Stmt:=top 36
abbrev bW:List Str:=["reading","around"]
theorem sc_form_from:FnScope ["reading","around","sign"] bW (ag gf):=by k_memK
abbrev kr:Stmt:=aZ (top 27) 0
abbrev ku:List Str:=["self","text"]
theorem yT:FnScope ["self","text"] ku (ag kr):=by k_memK
abbrev ky:Stmt:=aZ (top 26) 0
abbrev kz:List Str:=["self","text","shifts","form"]
theorem yU:FnScope ["self","text","shifts","form"] kz (ag ky):=by k_memK
abbrev kA:Stmt:=aZ (top 3) 0
abbrev kB:List Str:=["self","place"]
theorem yV:FnScope ["self","place"] kB (ag kA):=by k_memK
abbrev kC:Stmt:=top 7
abbrev kD:List Str:=["one","two"]
theorem sc_measure:FnScope ["one","two","last"] kD (ag kC):=by k_memK
abbrev kE:Stmt:=top 10
abbrev kF:List Str:=["one","two"]
theorem sc_met:FnScope ["one","two","common","width","rise","start","gap","climbs","steps"] kF (ag kE):=by k_memK
abbrev kG:Stmt:=top 11
abbrev kH:List Str:=["family"]
theorem yY:FnScope ["family"] kH (ag kG):=by k_memK
abbrev kI:Stmt:=top 12
abbrev kJ:List Str:=["family"]
theorem yZ:FnScope ["family"] kJ (ag kI):=by k_memK
abbrev gh:Stmt:=aZ (top 16) 1
abbrev bQ:List Str:=["self"]
theorem za:FnScope ["self"] bQ (ag gh):=by k_memK
abbrev gj:Stmt:=aZ (top 17) 1
abbrev gk:List Str:=["self"]
theorem sc_Over_family:FnScope ["self","first"] gk (ag gj):=by k_memK
abbrev gl:Stmt:=aZ (top 18) 1
abbrev gm:List Str:=["self"]
theorem zb:FnScope ["self"] gm (ag gl):=by k_memK
abbrev gp:Stmt:=aZ (top 19) 1
abbrev gq:List Str:=["self"]
theorem zc:FnScope ["self"] gq (ag gp):=by k_memK
abbrev gu:Stmt:=aZ (top 20) 1
abbrev gv:List Str:=["self"]
theorem zd:FnScope ["self"] gv (ag gu):=by k_memK
abbrev gw:Stmt:=aZ (top 21) 1
abbrev gx:List Str:=["self"]
theorem ze:FnScope ["self"] gx (ag gw):=by k_memK
abbrev kK:Stmt:=top 37
abbrev kL:List Str:=["text"]
theorem sc_read:FnScope ["text","reading","form","family"] kL (ag kK):=by k_memK
abbrev kM:Stmt:=top 40
abbrev kN:List Str:=["_law_found"]
theorem zf:FnScope ["_law_found"] kN (ag kM):=by k_memK
abbrev kO:Stmt:=top 41
abbrev kP:List Str:=["_law_found","_law_due"]
theorem sc__law_numbers:FnScope ["_law_found","_law_due","_law_k"] kP (ag kO):=by k_memK
abbrev gy:Stmt:=top 57
abbrev kQ:List Str:=["_law_script"]
theorem sc_law:FnScope ["_law_script","_law_part","_law_due","_law_made"] kQ (ag gy):=by k_memK
structure Pat.Wide(p:Pat)(N:Int):Prop where
 wf:p.Wf
 area:p.Area N
 cal:p.Cal
theorem Pat.Area.le{p:Pat}{M N:Int}(h:p.Area M)(e:M<=N):p.Area N:=by
 obtain⟨w,k,s,f,b⟩:=h
 exact⟨w,k,s,f,by omega⟩
theorem gz{L:List Str}{a b c d:Int}(h:(Pat.mot L a b c d).Wf):(Pat.mot L a b c d).Wide 288:=by
 obtain⟨hL,ha,hb,hc,hd,hn⟩:=h
 obtain⟨w,k,s,q,f⟩:=iK (L:=L) hn
 refine⟨⟨hL,ha,hb,hc,hd,hn⟩,⟨w,k,s,f,?_⟩,trivial⟩
 have kc:=q.cells
 unfold B12 at*
 have m1:=bj (a:=a) (d:=d) (A:=12) (B:=12) (by omega) (by omega)
 have m2:=bj (a:=b) (d:=c) (A:=12) (B:=12) (by omega) (by omega)
 omega
namespace Pat.Wide
variable {p q:Pat}{M N:Int}
theorem over(h:p.Wide M)(k:q.Wide N)(hM:M<=33554432)(hN:N<=33554432):(Pat.over p q).Wide (M*N):=by
 refine⟨⟨h.wf,k.wf⟩,?_,h.cal,k.cal,λ_ _=>⟨h.area.le hM,k.area.le hN⟩⟩
 obtain⟨w1,h1,s1,f1,b1⟩:=h.area
 obtain⟨w2,h2,s2,f2,b2⟩:=k.area
 obtain⟨g,u,M1⟩:=cm w1 w2
 obtain⟨k',u',M2⟩:=cm h1 h2
 obtain⟨gg,o9,M3⟩:=cm g (h1*h2 / k' / h2*s2 - h1*h2 / k' / h1*s1)
 have MR:=fR f1.f.w0 f2.f.w0 f1.f.h0 f2.f.h0 M1 M2 M3
 refine⟨_,_,_,Pat.Fam.over f1 f2 MR,?_⟩
 have c:=MR.cells
 have A0:=MR.A0
 have wp:=AL MR.w0 MR.h0
 generalize (w1*w2 / g)*(h1*h2 / k'*(g / gg))=x at*
 generalize k'*gg=A at*
 have e1:=BU (show 1<=A by omega) (show 0<=x by omega)
 have p1:=AL f1.f.w0 f1.f.h0
 have p2:=AL f2.f.w0 f2.f.h0
 have e2:=CZ b1 b2 (Int.le_of_lt p2) (by omega)
 rw[<- Int.mul_assoc] at e2
 omega
theorem sh(a b:Int)(ha:B12 a)(hb:B12 b)(h:p.Wide N):(Pat.sh a b p).Wide N:=by
 obtain⟨w,k,s,f,q⟩:=h.area
 exact⟨⟨ha,hb,h.wf⟩,⟨w,k,s,f.sh a b,q⟩,h.cal⟩
theorem hue(f g:Int)(hf:1<=f/\f<=6)(hg:1<=g/\g<=6)(h:p.Wide N):(Pat.hue f g p).Wide N:=by
 obtain⟨w,k,s,F,q⟩:=h.area
 exact⟨⟨hf,hg,h.wf⟩,⟨w,k,s,F.hue f g,q⟩,h.cal⟩
theorem mir(h:p.Wide N):(Pat.mir p).Wide N:=by
 obtain⟨w,k,s,f,q⟩:=h.area
 exact⟨h.wf,⟨w,k,_,f.mir,q⟩,h.cal⟩
theorem tur(h:p.Wide N)(hN:N<=33554432):(Pat.tur p).Wide N:=⟨h.wf,h.area.tur,h.cal,λ_=>h.area.le hN⟩
end Pat.Wide
theorem Wraps.wide{p:Pat}{N:Int}{H:Prop}{R:My.D->Prop}(h:p.Wide N)(hN:N<=33554432)(hR:∀ q:Pat,q.Wide N->q.depth<=max 5 p.depth->q.depth<=p.depth+1->R q.D):Wraps p H R:=by
 refine⟨λ_=>hR p h (by omega) (by omega),λhd=>⟨hR _ h.mir ?_ ?_,hR _ (h.tur hN) ?_ ?_,λa b ha hb=>hR _ (h.sh a b ha hb) ?_ ?_,λ_ f g hf hg=>hR _ (h.hue f g hf hg) ?_ ?_⟩⟩<;>(simp only[Pat.depth];omega)
def PD(p:Pat)(n:Int):My.D:= .lst [.str p.text,.int n,.lst (p.leaves.map Leaf.D)]
def qD(a b c d:Int):My.D:= .lst [.tup [.int a,.int b],.tup [.int c,.int d]]
def Qd(a b c d:Int):Prop:=B12 a/\B12 b/\B12 c/\B12 d/\¬ a*d=b*c
theorem zg(k:Int):∃ a1 b1 c1 d1 a2 b2 c2 d2 a3 b3 c3 d3:Int,atI [D.lst [qD 9 0 0 10,qD 8 0 0 1,qD 1 0 0 1],D.lst [qD 10 3 (-1) 10,qD 7 0 0 1,qD 1 0 0 1],D.lst [qD 5 0 0 1,qD 9 0 2 4,qD 4 0 0 (-2)],D.lst [qD 5 1 1 4,qD 5 (-1) (-1) 4,qD 1 0 12 2],D.lst [qD 12 0 0 10,qD 0 9 8 0,qD 1 1 2 0]] (k % 5)=some (.lst [qD a1 b1 c1 d1,qD a2 b2 c2 d2,qD a3 b3 c3 d3])/\Qd a1 b1 c1 d1/\Qd a2 b2 c2 d2/\Qd a3 b3 c3 d3:=by
 unfold Qd B12
 rcases(by lia:k % 5=0\/k % 5=1\/k % 5=2\/k % 5=3\/k % 5=4) with e|e|e|e|e<;>rw[e]
 ·exact⟨_,_,_,_,_,_,_,_,_,_,_,_,rfl,by decide,by decide,by decide⟩
 ·exact⟨_,_,_,_,_,_,_,_,_,_,_,_,rfl,by decide,by decide,by decide⟩
 ·exact⟨_,_,_,_,_,_,_,_,_,_,_,_,rfl,by decide,by decide,by decide⟩
 ·exact⟨_,_,_,_,_,_,_,_,_,_,_,_,rfl,by decide,by decide,by decide⟩
 ·exact⟨_,_,_,_,_,_,_,_,_,_,_,_,rfl,by decide,by decide,by decide⟩
theorem pK{s:Str}(h1:s.length=1)(h2:∀ c∈cs s,aF c):Rows [s]:=⟨by simp,1,by lia,λl hl=>by
 have:l=s:=by simpa using hl
 subst this
 exact⟨h1,h2⟩⟩
theorem kR{s:Str}{a b c d:Int}(h1:s.length=1)(h2:∀ c∈cs s,aF c)(q:Qd a b c d):(Pat.mot [s] a b c d).Wf:=⟨pK h1 h2,q.1,q.2.1,q.2.2.1,q.2.2.2.1,q.2.2.2.2⟩
theorem zh{v:Int}(h:1<=v/\v<=6):((toString v:String):Str).length=1/\∀ c∈cs (toString v:String),aF c:=by
 have e:=hueL h
 unfold numL at e
 refine⟨by rw[<- bT,e];rfl,λc hc=>?_⟩
 rw[e] at hc
 have:c=(48+v).toNat:=by simpa using hc
 unfold aF
 lia
theorem zi(p q r:Pat):(((((("(":Str)++p.text)++"|(")++q.text)++"|")++r.text)++"))"=(Pat.over p (.over q r)).text:=by
 apply iL
 rw[bM]
 repeat rw[bL]
 rw[bM p,bM q,bM r]
 have e0:cs "("=[40]:=rfl
 have e1:cs "|("=[124,40]:=rfl
 have e2:cs "))"=[41,41]:=rfl
 have e3:cs "|"=[124]:=rfl
 rw[e0,e1,e2,e3]
 simp[Pat.tl]
section
variable {V:Bx}
abbrev dP(V:Bx):Prop:=V.D 1 "_law_at" iU wE
theorem zj(T:V.T "_law_at" iT iU)(uB:V.m "len"):dP V:=by
 refine Tx.okDW T yD (λds R h=>?_) (λf cdv A outer s H E J hr=>⟨_,((ah (bA (eB (aa 1) (dh uB (ac (aa 0) ae))) (ar (aE (af (aa 0) (aa 1)))) bb)
   (ar (aE ad)))),λds R h=>?_⟩)
 ·obtain⟨ns,k,rfl,_⟩:=h;rfl
 ·obtain⟨ns,k,rfl,hk,hR⟩:=h
  refine ite2 (λc=>?_) (λc=>?_)
  ·have c':=of_decide_eq_true c
   rw[AH] at c'
   exact⟨_,oI hk c',hR⟩
  ·have c':=of_decide_eq_false (A6.mpr c)
   rw[AH] at c'
   rw[wC (by lia)] at hR
   exact hR
def zk:SpD:=λds R=>∃ (s:Str) (a b c d:Int),ds=[.str s,.tup [.int a,.int b],.tup [.int c,.int d]]/\R (aN [s] a b c d).D
abbrev kS(V:Bx):Prop:=V.D 1 "_law_leaf" iW zk
theorem zl(T:V.T "_law_leaf" iV iW):kS V:=by
 refine Tx.okDW T yF (λds R h=>?_) (λf cdv A outer s H E J hr=>⟨_,((ar (aE (ao (ac (aD (ac (aa 0) ae)) (ac (aa 1) (ac (aa 2) (ac (ao (ac ad (ac ad (ac ad (ac ad (ac ad (ac ad ae))))))) (ac (aD (ac ad (ac ad (ac ad (ac ad (ac ad (ac ad (ac ad ae)))))))) ae))))))))),λds R h=>?_⟩)
 ·obtain⟨_,_,_,_,_,rfl,_⟩:=h;rfl
 ·obtain⟨s,a,b,c,d,rfl,hR⟩:=h
  exact⟨by show(1:Nat)<=1000;decide,by show(6:Nat)<=1000;decide,by show(7:Nat)<=1000;decide,by show(5:Nat)<=1000;decide,hR⟩
abbrev gA(V:Bx):Prop:=V.D 1 "_law_motif_text" iY xh
theorem zm(T:V.T "_law_motif_text" iX iY)(uJ:V.m "str"):gA V:=by
 refine Tx.okDW T sc__law_motif_text (λds R h=>?_) (λf cdv A outer s H E J hr=>⟨_,((ah (aj 3 sc__law_motif_text.nd (am (am (am (am (am (am (am aw (ca uJ (ac (af (aa 1) ad) ae))) aw) (ca uJ (ac (af (aa 1) ad) ae))) aw) (ca uJ (ac (af (aa 2) ad) ae))) aw) (ca uJ (ac (af (aa 2) ad) ae))))
   (ar (aE (am (am (am aw (tT (aa 0))) (aa 3)) aw))))),λds R h=>?_⟩)
 ·obtain⟨_,_,_,_,_,rfl,_⟩:=h;rfl
 ·obtain⟨L,a,b,c,d,rfl,hL,ha,hb,hc,hd,hR⟩:=h
  have la:=bc ha
  have lb:=bc hb
  have lc:=bc hc
  have ld:=bc hd
  have l1:(";":Str).length=1:=rfl
  have l2:(",":Str).length=1:=rfl
  have l3:("[":Str).length=1:=rfl
  have l4:("]":Str).length=1:=rfl
  have ls:=oP hL
  have lj:=StrLaws.join_length_le "/" L
  unfold B12 at ha hb hc hd
  refine⟨λx=>x= .str ((((((((";":Str)++(toString a:String))++",")++(toString b:String))++";")++(toString c:String))++",")++(toString d:String)),⟨_,rfl,by lia,?_,?_,_,rfl,by lia,?_,?_,_,rfl,by lia,?_,?_,_,rfl,by lia,?_,rfl⟩,?_⟩
  ·lia
  ·rw[aq];lia
  ·rw[aq,aq];lia
  ·rw[aq,aq,aq];lia
  ·rw[aq,aq,aq,aq];lia
  ·rw[aq,aq,aq,aq,aq];lia
  ·rw[aq,aq,aq,aq,aq,aq];lia
  rintro _ rfl;k_places
  have lg:(Txt.join "/" L).length<=72:=by
   have e:Txt.join "/" L=Str.join "/" L:=StrLaws.glued_eq_join _ _
   rw[e];exact AK lj ls
  refine⟨L,oO L,by lia,?_,?_,?_,hR⟩
  ·lia
  ·repeat rw[aq]
   lia
  ·repeat rw[aq]
   lia
abbrev gB(V:Bx):Prop:=V.D 1 "_law_wrapped" iZ xt
theorem zn(T:V.T "_law_wrapped" fX iZ)(uJ:V.m "str")(Gs:V.m "list")(uI:V.m "int"):gB V:=by
 refine Tx.okDW T sc__law_wrapped (λds R h=>?_) (λf cdv A outer s H E J hr=>⟨_,((ah (bA (tm (af (aa 0) ad) ad) (ar (aE (aa 0))) bb)
   (ah (aj 2 sc__law_wrapped.nd (bg (ax (aW (aa 1) ad) ad) ad))
   (ah (aj 3 sc__law_wrapped.nd (bg (ax (aW (aa 1) ad) ad) ad))
   (ah (aj 4 sc__law_wrapped.nd (am ad (ax (aW (aa 1) ad) ad)))
   (ah (aj 5 sc__law_wrapped.nd (am ad (ax (aW (aa 1) ad) ad)))
   (ah (aj 6 sc__law_wrapped.nd (am (am (am (am aw (ca uJ (ac (aa 2) ae))) aw) (ca uJ (ac (aa 3) ae))) aw))
   (ah (aj 7 sc__law_wrapped.nd (af (aD (ac aw (ac aw (ac (aa 6) (ac (am (am aw (ca uJ (ac (aa 4) ae))) (ca uJ (ac (aa 5) ae))) ae))))) (ax (aa 1) ad)))
   (ah (aj 8 sc__law_wrapped.nd (aD (ac (ao (ac (bD ad) (ac ad (ac ad (ac ad (ac ad (ac ad ae))))))) (ac (ao (ac ad (ac ad (ac (bD ad) (ac ad (ac ad (ac ad ae))))))) ae))))
   (ah (aj 8 sc__law_wrapped.nd (am (aa 8) (aD (ac (ao (ac ad (ac ad (ac ad (ac ad (ac (bD (aa 2)) (ac (bD (aa 3)) ae))))))) (ac (ao (ac ad (ac ad (ac ad (ac ad (ac ad (ac ad ae))))))) ae)))))
   (ah (aj 9 sc__law_wrapped.nd (af (aa 8) (ax (aa 1) ad)))
   (ah (il 10 sc__law_wrapped.nd ae)
   (ah (nD 11 PassesOwn.never rfl sc__law_wrapped.nd (af (aa 0) ad) (ah (nC rfl (af (aa 11) ad) (dg_cons 12 sc__law_wrapped.nd (dg_cons 13 sc__law_wrapped.nd (dg_cons 14 sc__law_wrapped.nd (dg_cons 15 sc__law_wrapped.nd (dg_cons 16 sc__law_wrapped.nd (dg_cons 17 sc__law_wrapped.nd eI)))))))
    (ah (aj 18 sc__law_wrapped.nd (ao (ac (am (av (aa 12) (af (aa 9) ad)) (av (aa 13) (af (aa 9) ad))) (ac (am (av (aa 12) (af (aa 9) ad)) (av (aa 13) (af (aa 9) ad))) ae))))
    (ah (aj 18 sc__law_wrapped.nd (am (aa 18) (ao (ac (am (av (aa 14) (af (aa 9) ad)) (av (aa 15) (af (aa 9) ad))) (ac (am (av (aa 14) (af (aa 9) ad)) (av (aa 15) (af (aa 9) ad))) ae)))))
    (ah (aj 16 sc__law_wrapped.nd (am (am (aa 16) (av (aa 12) (af (aa 9) ad))) (av (aa 13) (af (aa 9) ad))))
    (ah (aj 17 sc__law_wrapped.nd (am (am (aa 17) (av (aa 14) (af (aa 9) ad))) (av (aa 15) (af (aa 9) ad))))
    (ah (aj 19 sc__law_wrapped.nd (tP Gs (ac (af (aa 11) ad) ae)))
    (ah (dv (bp (ax (aa 1) ad) ad) (ar (ir 19 rfl (compScope (by change eK _ (ag fX) ["_law_part","_law_draw","_law_across","_law_down","_law_old","_law_new","_law_shift","_law_head","_law_ways","_law_by","_law_leaves","_law_leaf_here","_law_a","_law_b","_law_c","_law_d","_law_e","_law_f","_law_way","_law_hues"] _=true;decide+kernel)) sc__law_wrapped.nd (af (aa 11) ad) (λcl s0 H0 fp=>(af (aD (ac (aa 20) (ac (aa 5) ae))) (io uI (ac (cH (aa 20) (aa 4)) ae)))))) bb)
    (ar (fE 10 (ao (ac (af (aa 11) ad) (ac (af (aa 11) ad) (ac (af (aa 11) ad) (ac (am (aa 18) (ao (ac (aa 16) (ac (aa 17) ae)))) (ac (aa 19) ae))))))))))))))))
   (fD 10 (ar (aE (aD (ac (am (aa 7) (af (aa 0) ad)) (ac (am (af (aa 0) ad) ad) (ac (aa 10) ae)))))))))))))))))))),λds R h=>?_⟩)
 ·obtain⟨_,_,rfl,_⟩:=h;rfl
 ·obtain⟨p,draw,rfl,wf,hd,ht,hW⟩:=h
  refine⟨_,rfl,ite2 (λc=>?_) (λc=>?_)⟩
  ·have c':=of_decide_eq_true c
   exact hW.1 (by lia)
  have c':=of_decide_eq_false (A6.mpr c)
  have d_:p.depth<5:=by lia
  refine⟨λd=>∃ v:Int,d= .int v/\B12 v,⟨⟨by decide,by decide⟩,by decide,_,rfl,by unfold B12;lia⟩,?_⟩
  rintro _ ⟨A,rfl,hA⟩;simp only[AS,AT,aQ]
  refine⟨λd=>∃ v:Int,d= .int v/\B12 v,⟨⟨by decide,by decide⟩,by decide,_,rfl,by unfold B12;lia⟩,?_⟩
  rintro _ ⟨B,rfl,hB⟩;simp only[AS,AT,aQ]
  refine⟨λd=>∃ v:Int,d= .int v/\1<=v/\v<=6,⟨⟨by decide,by decide⟩,by decide,_,rfl,by lia⟩,?_⟩
  rintro _ ⟨d4,rfl,ho⟩;simp only[AS,AT,aQ]
  refine⟨λd=>∃ v:Int,d= .int v/\1<=v/\v<=6,⟨⟨by decide,by decide⟩,by decide,_,rfl,by lia⟩,?_⟩
  rintro _ ⟨new,rfl,hn⟩;simp only[AS,AT,aQ]
  have l1:("s":Str).length=1:=rfl
  have l2:(",":Str).length=1:=rfl
  have l3:(":":Str).length=1:=rfl
  have l4:("h":Str).length=1:=rfl
  have lA:=bc hA
  have lB:=bc hB
  have lo:=cy ho
  have ln:=cy hn
  obtain⟨hs,b0,b1,b2,b3,b4,b5,e1,e2,hb,hl,hR⟩:=xq hW d_ (k:=0) hA hB ho hn (by lia)
  unfold B12 at hA hB
  refine⟨λx=>x= .str ((((("s":Str)++(toString A:String))++",")++(toString B:String))++":"),⟨by lia,?_,?_,by lia,?_,?_,rfl⟩,?_⟩
  ·lia
  ·rw[aq];lia
  ·rw[aq,aq];lia
  ·rw[aq,aq,aq];lia
  rintro _ rfl;simp only[AS,AT,aQ]
  refine⟨λx=>x= .str hs,⟨by lia,?_,by lia,?_,by simp,by decide,_,e1,rfl⟩,?_⟩
  ·lia
  ·rw[aq];lia
  rintro _ rfl;simp only[AS,AT,aQ]
  refine⟨λx=>x= .lst [D.tup [.int (-1),.int 0,.int 0,.int 1,.int 0,.int 0],D.tup [.int 0,.int 1,.int (-1),.int 0,.int 0,.int 0]],⟨by simp,by simp,by simp,rfl⟩,?_⟩;rintro _ rfl;simp only[AS,AT,aQ]
  refine⟨λx=>x= .lst ([D.tup [.int (-1),.int 0,.int 0,.int 1,.int 0,.int 0],D.tup [.int 0,.int 1,.int (-1),.int 0,.int 0,.int 0]]++[D.tup [.int 1,.int 0,.int 0,.int 1,.int (-A),.int (-B)],D.tup [.int 1,.int 0,.int 0,.int 1,.int 0,.int 0]]),⟨by simp,by simp,by simp,by simp,rfl⟩,?_⟩;rintro _ rfl;simp only[AS,AT,aQ]
  refine⟨λx=>x= .tup [.int b0,.int b1,.int b2,.int b3,.int b4,.int b5],⟨by decide,_,e2,rfl⟩,?_⟩;rintro _ rfl;simp only[AS,AT,aQ]
  refine⟨by simp,?_⟩
  generalize D.str ((((("s":Str)++(toString A:String))++",")++(toString B:String))++":")=sD
  generalize D.lst ([D.tup [.int (-1),.int 0,.int 0,.int 1,.int 0,.int 0],D.tup [.int 0,.int 1,.int (-1),.int 0,.int 0,.int 0]]++[D.tup [.int 1,.int 0,.int 0,.int 1,.int (-A),.int (-B)],D.tup [.int 1,.int 0,.int 0,.int 1,.int 0,.int 0]])=wD
  clear e1 e2 hW lA lB lo ln l1 l2 l3 l4 hA hB c'
  refine⟨_,rfl,λk z=>∃ Gu Gv Gw Gx Gy Gz GA GB DF:Option D,z=[some p.D,some (.int draw),some (.int A),some (.int B),some (.int d4),some (.int new),some sD,some (.str hs),some wD,some (.tup [.int b0,.int b1,.int b2,.int b3,.int b4,.int b5]),some (.own (((p.leaves.take k).map (Leaf.T (decide (draw % 4=3)) d4 new b0 b1 b2 b3 b4 b5)).map Leaf.D)),Gu,Gv,Gw,Gx,Gy,Gz,GA,GB,DF],⟨_,_,_,_,_,_,_,_,_,rfl⟩,?_,?_⟩
  ·rintro k v z hk ⟨Gu,Gv,Gw,Gx,Gy,Gz,GA,GB,DF,rfl⟩;k_places
   rw[A2] at hk
   have n_:k<p.leaves.length:=by
    rcases BI k p.leaves.length with q|q
    ·exact q
    ·rw[BV q] at hk;cases hk
   have DG:p.leaves[k]?=some p.leaves[k]:=AX n_
   rw[DG] at hk
   cases hk
   obtain⟨gd,nr⟩:=Pat.leaf_good wf p.leaves[k] (By n_)
   have a_:(p.leaves.take k).length<=1000:=by rw[B5];have:=Pat.leaves_32 hd;lia
   generalize p.leaves[k]=l at DG gd nr
   obtain⟨r0,r1,r2,r3⟩:=nr.unit
   obtain⟨q0,q1,q2,q3,q4,q5⟩:=hb
   refine⟨_,rfl,rfl,?_⟩
   simp only[AS,AT,aQ]
   refine⟨λx=>x= .tup [.int (l.w0*b0+l.w1*b2),.int (l.w0*b1+l.w1*b3)],⟨_,rfl,.inr (n64 q0),_,rfl,.inr (n64 q2),_,rfl,.inr (n64 q1),_,rfl,.inr (n64 q3),by simp,rfl⟩,?_⟩;rintro _ rfl;simp only[AS,AT,aQ]
   refine⟨λx=>x= .tup [.int (l.w0*b0+l.w1*b2),.int (l.w0*b1+l.w1*b3),.int (l.w2*b0+l.w3*b2),.int (l.w2*b1+l.w3*b3)],⟨_,rfl,.inr (n64 q0),_,rfl,.inr (n64 q2),_,rfl,.inr (n64 q1),_,rfl,.inr (n64 q3),by simp,by simp,rfl⟩,?_⟩;rintro _ rfl;simp only[AS,AT,aQ]
   refine⟨λx=>x= .int (l.w4+l.w0*b4+l.w1*b5),⟨_,rfl,.inr (n64 q4),_,rfl,.inr (n64 q5),rfl⟩,?_⟩;rintro _ rfl;simp only[AS,AT,aQ]
   refine⟨λx=>x= .int (l.w5+l.w2*b4+l.w3*b5),⟨_,rfl,.inr (n64 q4),_,rfl,.inr (n64 q5),rfl⟩,?_⟩;rintro _ rfl;simp only[AS,AT,aQ]
   refine⟨λx=>x= .lst (l.hues.map D.int),⟨_,rfl,rfl⟩,?_⟩;rintro _ rfl;simp only[AS,AT,aQ]
   refine⟨λz=>∃ DF:List Int,DF=(Leaf.T (decide (draw % 4=3)) d4 new b0 b1 b2 b3 b4 b5 l).hues/\z=[some p.D,some (.int draw),some (.int A),some (.int B),some (.int d4),some (.int new),some sD,some (.str hs),some wD,some (.tup [.int b0,.int b1,.int b2,.int b3,.int b4,.int b5]),some (.own (((p.leaves.take k).map (Leaf.T (decide (draw % 4=3)) d4 new b0 b1 b2 b3 b4 b5)).map Leaf.D)),some l.D,some (.int l.w0),some (.int l.w1),some (.int l.w2),some (.int l.w3),some (.int (l.w4+l.w0*b4+l.w1*b5)),some (.int (l.w5+l.w2*b4+l.w3*b5)),some (.tup [.int (l.w0*b0+l.w1*b2),.int (l.w0*b1+l.w1*b3),.int (l.w2*b0+l.w3*b2),.int (l.w2*b1+l.w3*b3)]),some (.lst (DF.map D.int))],⟨by decide,ite2 (λc=>?_) (λc=>?_)⟩,?_⟩
   ·have c3:=of_decide_eq_true c
    refine⟨λx=>x= .lst ((l.hues.map (cS d4 new)).map D.int),⟨_,rfl,by rw[AH,gd.many];decide,λk ys=>ys=((l.hues.take k).map (cS d4 new)).map D.int,rfl,?_,?_⟩,?_⟩
    ·rintro k' x ys hx hl rfl
     rw[A2] at hx
     cases e:l.hues[k']? with
     |none=>rw[e] at hx;cases hx
     |some hu=>
      rw[e] at hx
      cases hx
      refine⟨by simp,_,xr hu d4 new,?_⟩
      dsimp only
      rw[iJ e]
      simp
    ·rintro ys hl rfl
     rw[AH,BY]
    ·rintro _ rfl;k_places
     exact⟨_,by simp[Leaf.T,c3,Leaf.dye,Leaf.by],rfl⟩
   ·have c3:=of_decide_eq_false (A6.mpr c)
    exact⟨_,by simp[Leaf.T,c3,Leaf.by],rfl⟩
   rintro _ ⟨hu,JL,rfl⟩;k_places
   refine⟨_,rfl,_,rfl,_,rfl,by simp,by simp,by simp,by rw[AH,AH];lia,?_⟩
   have eT:(D.tup [.lst (l.rows.map D.str),.tup [.int l.a,.int l.b],.tup [.int l.c,.int l.d],.tup ([.int (l.w0*b0+l.w1*b2),.int (l.w0*b1+l.w1*b3),.int (l.w2*b0+l.w3*b2),.int (l.w2*b1+l.w3*b3)]++[.int (l.w4+l.w0*b4+l.w1*b5),.int (l.w5+l.w2*b4+l.w3*b5)]),.lst (hu.map D.int)])=(Leaf.T (decide (draw % 4=3)) d4 new b0 b1 b2 b3 b4 b5 l).D:=by
    rw[JL]
    by_cases c3:draw % 4=3
    ·simp[Leaf.T,c3,Leaf.D,Leaf.dye,Leaf.by]
    ·simp[Leaf.T,c3,Leaf.D,Leaf.by]
   have e9:((p.leaves.take (k+1)).map (Leaf.T (decide (draw % 4=3)) d4 new b0 b1 b2 b3 b4 b5)).map Leaf.D=((p.leaves.take k).map (Leaf.T (decide (draw % 4=3)) d4 new b0 b1 b2 b3 b4 b5)).map Leaf.D++[(Leaf.T (decide (draw % 4=3)) d4 new b0 b1 b2 b3 b4 b5 l).D]:=by
    rw[iJ DG,Bo,Bo,AO,AO,BD,BD]
   rw[e9,<- eT]
   exact⟨_,_,_,_,_,_,_,_,_,rfl⟩
  ·rintro z ⟨Gu,Gv,Gw,Gx,Gy,Gz,GA,GB,DF,rfl⟩;k_places
   rw[AH,BY]
   refine⟨_,rfl,by lia,_,rfl,by simp,hR⟩
def zo:SpD:=λds R=>∃ ns:List Int,ds=[.rol (ns.map D.int)]/\∀ p:Pat,p.Wide 33554432->p.depth<=5->R p.D
abbrev kT(V:Bx):Prop:=V.D 2 "_law_at_the_bound" ja zo
theorem zp(T:V.T "_law_at_the_bound" eO ja)(uJ:V.m "str")(uC:V.m "range")(uG:dP V)(GC:kS V)(DJ:gA V)(DK:gB V):kT V:=by
 refine Tx.okDW T sc__law_at_the_bound (λds R h=>?_) (λf cdv A outer s H E J hr=>⟨_,((ah (aj 1 sc__law_at_the_bound.nd (af (aD (ac (aD (ac (aD (ac (ao (ac ad (ac ad ae))) (ac (ao (ac ad (ac ad ae))) ae))) (ac (aD (ac (ao (ac ad (ac ad ae))) (ac (ao (ac ad (ac ad ae))) ae))) (ac (aD (ac (ao (ac ad (ac ad ae))) (ac (ao (ac ad (ac ad ae))) ae))) ae)))) (ac (aD (ac (aD (ac (ao (ac ad (ac ad ae))) (ac (ao (ac (bD ad) (ac ad ae))) ae))) (ac (aD (ac (ao (ac ad (ac ad ae))) (ac (ao (ac ad (ac ad ae))) ae))) (ac (aD (ac (ao (ac ad (ac ad ae))) (ac (ao (ac ad (ac ad ae))) ae))) ae)))) (ac (aD (ac (aD (ac (ao (ac ad (ac ad ae))) (ac (ao (ac ad (ac ad ae))) ae))) (ac (aD (ac (ao (ac ad (ac ad ae))) (ac (ao (ac ad (ac ad ae))) ae))) (ac (aD (ac (ao (ac ad (ac ad ae))) (ac (ao (ac ad (ac (bD ad) ae))) ae))) ae)))) (ac (aD (ac (aD (ac (ao (ac ad (ac ad ae))) (ac (ao (ac ad (ac ad ae))) ae))) (ac (aD (ac (ao (ac ad (ac (bD ad) ae))) (ac (ao (ac (bD ad) (ac ad ae))) ae))) (ac (aD (ac (ao (ac ad (ac ad ae))) (ac (ao (ac ad (ac ad ae))) ae))) ae)))) (ac (aD (ac (aD (ac (ao (ac ad (ac ad ae))) (ac (ao (ac ad (ac ad ae))) ae))) (ac (aD (ac (ao (ac ad (ac ad ae))) (ac (ao (ac ad (ac ad ae))) ae))) (ac (aD (ac (ao (ac ad (ac ad ae))) (ac (ao (ac ad (ac ad ae))) ae))) ae)))) ae)))))) (ax (aA uG hr (ac (aa 0) (ac ad ae))) ad)))
   (ah (aj 2 sc__law_at_the_bound.nd (ca uJ (ac (am ad (ax (aA uG hr (ac (aa 0) (ac ad ae))) ad)) ae)))
   (ah (ir 3 rfl (compScope (by change eK _ (ag eO) ["_law_script","_law_pairs","_law_sign","_law_leaves","_law_texts","_law_part","_law_k"] _=true;decide+kernel)) sc__law_at_the_bound.nd (aa 1) (λcl s0 H0 fp=>(aA GC hr (ac (aa 2) (ac (af (aa 7) ad) (ac (af (aa 7) ad) ae))))))
   (ah (ir 4 rfl (compScope (by change eK _ (ag eO) ["_law_script","_law_pairs","_law_sign","_law_leaves","_law_texts","_law_part","_law_k"] _=true;decide+kernel)) sc__law_at_the_bound.nd (aa 1) (λcl s0 H0 fp=>(aA DJ hr (ac (aD (ac (aa 2) ae)) (ac (af (aa 7) ad) (ac (af (aa 7) ad) ae))))))
   (ah (aj 5 sc__law_at_the_bound.nd (aD (ac (am (am (am (am (am (am aw (af (aa 4) ad)) aw) (af (aa 4) ad)) aw) (af (aa 4) ad)) aw) (ac ad (ac (aa 3) ae)))))
   (ah (cM 6 PassesOwn.never rfl sc__law_at_the_bound.nd uC (ax (aA uG hr (ac (aa 0) (ac ad ae))) ad) (ar (aj 5 sc__law_at_the_bound.nd (aA DK hr (ac (aa 5) (ac (ax (aA uG hr (ac (aa 0) (ac (am ad (aa 6)) ae))) ad) ae))))))
   (ar (aE (aa 5)))))))))),λds R h=>?_⟩)
 ·obtain⟨_,rfl,_⟩:=h;rfl
 ·obtain⟨ns,rfl,hR⟩:=h
  obtain⟨a1,b1,c1,d1,a2,b2,c2,d2,a3,b3,c3,d3,hp,q1,q2,q3⟩:=zg (cell ns 1)
  refine⟨λx=>x= .lst [qD a1 b1 c1 d1,qD a2 b2 c2 d2,qD a3 b3 c3 d3],?_,?_⟩
  ·iterate 51 (refine⟨by decide,?_⟩)
   exact⟨ns,1,rfl,by decide,by decide,_,hp,rfl⟩
  rintro _ rfl;k_places
  have hv:1<=1+cell ns 2 % 6/\1+cell ns 2 % 6<=6:=by lia
  obtain⟨g1,g2⟩:=zh hv
  refine⟨λx=>∃ s:Str,x= .str s/\s.length=1/\∀ c∈cs s,aF c,⟨ns,2,rfl,by decide,by decide,by lia,_,rfl,g1,g2⟩,?_⟩
  rintro _ ⟨s,rfl,s1,s2⟩;k_places
  refine⟨λx=>x= .lst [(aN [s] a1 b1 c1 d1).D,(aN [s] a2 b2 c2 d2).D,(aN [s] a3 b3 c3 d3).D],⟨by simp,λk ys=>ys=[(aN [s] a1 b1 c1 d1).D,(aN [s] a2 b2 c2 d2).D,(aN [s] a3 b3 c3 d3).D].take k,rfl,?_,λys _ h=>by rw[h];rfl⟩,?_⟩
  ·intro k x ys hk _ hy
   have Il:k<3:=(AN.mp hk).1
   subst hy
   rcases(by lia:k=0\/k=1\/k=2) with rfl|rfl|rfl<;>cases hk<;>exact⟨_,rfl,_,rfl,s,_,_,_,_,rfl,rfl⟩
  rintro _ rfl;k_places
  refine⟨λx=>x= .lst [.str (Pat.mot [s] a1 b1 c1 d1).text,.str (Pat.mot [s] a2 b2 c2 d2).text,.str (Pat.mot [s] a3 b3 c3 d3).text],⟨by simp,λk ys=>ys=[.str (Pat.mot [s] a1 b1 c1 d1).text,.str (Pat.mot [s] a2 b2 c2 d2).text,.str (Pat.mot [s] a3 b3 c3 d3).text].take k,rfl,?_,λys _ h=>by rw[h];rfl⟩,?_⟩
  ·intro k x ys hk _ hy
   have Il:k<3:=(AN.mp hk).1
   have row:=pK s1 s2
   subst hy
   rcases(by lia:k=0\/k=1\/k=2) with rfl|rfl|rfl<;>cases hk
   ·exact⟨by show(1:Nat)<=1000;decide,_,rfl,_,rfl,[s],_,_,_,_,rfl,row,q1.1,q1.2.1,q1.2.2.1,q1.2.2.2.1,rfl⟩
   ·exact⟨by show(1:Nat)<=1000;decide,_,rfl,_,rfl,[s],_,_,_,_,rfl,row,q2.1,q2.2.1,q2.2.2.1,q2.2.2.2.1,rfl⟩
   ·exact⟨by show(1:Nat)<=1000;decide,_,rfl,_,rfl,[s],_,_,_,_,rfl,row,q3.1,q3.2.1,q3.2.2.1,q3.2.2.2.1,rfl⟩
  rintro _ rfl;k_places
  have w1:=kR s1 s2 q1
  have w2:=kR s1 s2 q2
  have w3:=kR s1 s2 q3
  have t1:=Pat.text_short w1 (by simp[Pat.depth])
  have t2:=Pat.text_short w2 (by simp[Pat.depth])
  have t3:=Pat.text_short w3 (by simp[Pat.depth])
  have l1:("(":Str).length=1:=rfl
  have l2:("|(":Str).length=2:=rfl
  have l3:("|":Str).length=1:=rfl
  have l4:("))":Str).length=2:=rfl
  refine⟨λx=>x=(Pat.over (.mot [s] a1 b1 c1 d1) (.over (.mot [s] a2 b2 c2 d2) (.mot [s] a3 b3 c3 d3))).D,⟨_,rfl,?_,?_,_,rfl,?_,?_,_,rfl,?_,?_,by show(3:Nat)<=1000;decide,?_⟩,?_⟩
  ·lia
  ·rw[aq];lia
  ·rw[aq,aq];lia
  ·rw[aq,aq,aq];lia
  ·rw[aq,aq,aq,aq];lia
  ·rw[aq,aq,aq,aq,aq];lia
  ·unfold Pat.D
   rw[<- zi]
   rfl
  rintro _ rfl;k_places
  refine⟨ns,3,rfl,by decide,by decide,⟨by lia,by lia⟩,λk z=>∃ (p:Pat) (o:Option D),z=[some (.rol (ns.map D.int)),some (.lst [qD a1 b1 c1 d1,qD a2 b2 c2 d2,qD a3 b3 c3 d3]),some (.str s),some (.lst [(aN [s] a1 b1 c1 d1).D,(aN [s] a2 b2 c2 d2).D,(aN [s] a3 b3 c3 d3).D]),some (.lst [.str (Pat.mot [s] a1 b1 c1 d1).text,.str (Pat.mot [s] a2 b2 c2 d2).text,.str (Pat.mot [s] a3 b3 c3 d3).text]),some p.D,o]/\p.Wide 23887872/\p.depth<=5,⟨_,_,rfl,(gz w1).over ((gz w2).over (gz w3) (by decide) (by decide)) (by decide) (by decide),by simp[Pat.depth]⟩,?_,?_⟩
  ·rintro k v z hk ⟨p,o,rfl,wp,dp⟩;k_places
   obtain⟨n_,rfl⟩:=range_int hk
   have tp:=Pat.text_short wp.wf dp
   refine⟨λx=>∃ p:Pat,x=p.D/\p.Wide 23887872/\p.depth<=5,⟨ns,_,rfl,by lia,by decide,p,_,rfl,wp.wf,dp,by lia,Wraps.wide wp (by decide) λq h1 h2 _=>⟨q,rfl,h1,by omega⟩⟩,?_⟩
   rintro _ ⟨q,rfl,wq,dq⟩;k_places
   exact⟨q,_,rfl,wq,dq⟩
  rintro z ⟨p,o,rfl,wp,dp⟩;k_places
  exact hR p ⟨wp.wf,wp.area.le (by decide),wp.cal⟩ dp
abbrev kU(V:Bx):Prop:=V.D 2 "_law_draws" jc wQ
theorem zq(T:V.T "_law_draws" jb jc)(uC:V.m "range")(uG:dP V):kU V:=by
 refine Tx.okDW T sc__law_draws (λds R h=>?_) (λf cdv A outer s H E J hr=>⟨_,((ah (aj 3 sc__law_draws.nd (aA uG hr (ac (aa 0) (ac (aa 1) ae))))
   (ah (il 4 sc__law_draws.nd ae)
   (ah (bA (bp (ax (aA uG hr (ac (aa 0) (ac (am (aa 1) ad) ae))) ad) ad) (ah (cM 5 PassesOwn.never rfl sc__law_draws.nd uC (aa 2) (ah (fE 4 (ax (aa 3) ad))
     (ar (aj 3 sc__law_draws.nd (aW (aa 3) ad)))))
    (fD 4 (ar (aE (aa 4))))) bb)
   (ah (aj 6 sc__law_draws.nd (ax (am (aa 3) ad) ad))
   (ah (cM 5 PassesOwn.never rfl sc__law_draws.nd uC (aa 2) (ah (aj 6 sc__law_draws.nd (ax (am (am (av (aa 6) ad) (aA uG hr (ac (aa 0) (ac (am (am (aa 1) ad) (ax (aa 5) ad)) ae)))) (aa 5)) ad))
    (ar (fE 4 (ax (ax (av (aa 6) ad) ad) ad)))))
   (fD 4 (ar (aE (aa 4)))))))))),λds R h=>?_⟩)
 ·obtain⟨_,_,_,rfl,_⟩:=h;rfl
 ·obtain⟨ns,k,n,rfl,hk,hn,hR⟩:=h
  refine⟨λd=>∃ v:Int,d= .int v,⟨ns,k,rfl,hk,_,rfl⟩,?_⟩
  rintro _ ⟨left,rfl⟩;k_places
  refine⟨by simp,?_⟩
  refine⟨ns,k+1,rfl,by lia,by decide,ite2 (λ_=>?_) (λ_=>?_)⟩
  ·refine⟨⟨by lia,by lia⟩,λi z=>∃ (xs:List Int) (l:Int) (o p:Option D),z=[some (.rol (ns.map D.int)),some (.int k),some (.int n),some (.int l),some (.own (xs.map D.int)),o,p]/\xs.length=i/\Drawn xs,⟨[],left,_,_,rfl,rfl,(λx hx=>by cases hx)⟩,?_,?_⟩
   ·rintro i x z hi ⟨xs,l,o,p,rfl,hl,hd⟩;k_places
    have Fi:i<n:=by simpa using(AN.mp hi).1
    refine⟨by decide,by simp;lia,?_⟩
    refine⟨λd=>∃ v:Int,d= .int v,⟨⟨by decide,by decide⟩,_,rfl⟩,?_⟩
    rintro _ ⟨l',rfl⟩;k_places
    rw[oM]
    exact⟨_,l',_,_,rfl,by simp[hl],oN hd (ci (by decide)) (cj (by decide))⟩
   ·rintro z ⟨xs,l,o,p,rfl,hl,hd⟩;k_places
    exact hR xs (by simpa using hl) hd
  ·refine⟨λd=>∃ v:Int,d= .int v/\0<=v/\v<2147483647,⟨by decide,_,rfl,ci (by decide),cj (by decide)⟩,?_⟩
   rintro _ ⟨GD,rfl,s1,s2⟩;k_places
   refine⟨⟨by lia,by lia⟩,λi z=>∃ (xs:List Int) (sd:Int) (o:Option D),z=[some (.rol (ns.map D.int)),some (.int k),some (.int n),some (.int left),some (.own (xs.map D.int)),o,some (.int sd)]/\xs.length=i/\Drawn xs/\0<=sd/\sd<2147483647,⟨[],GD,_,rfl,rfl,(λx hx=>by cases hx),s1,s2⟩,?_,?_⟩
   ·rintro i x z hi ⟨xs,sd,o,rfl,hl,hd,s1,s2⟩;k_places
    have Fi:i<n:=by simpa using(AN.mp hi).1
    have ex:x= .int (i:Int):=by simp[Fi] at hi;exact hi.symm
    subst ex
    refine⟨λd=>∃ v:Int,d= .int v/\0<=v/\v<2147483647,⟨.inr ⟨by decide,by decide⟩,by decide,ns,_,rfl,by lia,by decide,_,rfl,ci (by decide),cj (by decide)⟩,?_⟩
    rintro _ ⟨JM,rfl,t1,t2⟩;k_places
    refine⟨.inr ⟨by decide,by decide⟩,by decide,by decide,by simp;lia,?_⟩
    rw[oM]
    exact⟨_,JM,_,rfl,by simp[hl],oN hd (ci (by decide)) (cj (by decide)),t1,t2⟩
   ·rintro z ⟨xs,sd,o,rfl,hl,hd,_⟩;k_places
    exact hR xs (by simpa using hl) hd
abbrev kW(V:Bx):Prop:=V.D 1 "_law_lines" je xg
theorem zr(T:V.T "_law_lines" jd je)(uC:V.m "range")(uB:V.m "len"):kW V:=by
 refine Tx.okDW T sc__law_lines (λds R h=>?_) (λf cdv A outer s H E J hr=>⟨_,((ah (aj 1 sc__law_lines.nd (am ad (ax (af (aa 0) ad) ad)))
   (ah (aj 2 sc__law_lines.nd (am ad (ax (af (aa 0) ad) ad)))
   (ah (dv (bp (ax (af (aa 0) ad) ad) ad) (ah (aj 1 sc__law_lines.nd (am ad (ax (af (aa 0) ad) ad)))
    (ar (aj 2 sc__law_lines.nd (am ad (ax (af (aa 0) ad) ad))))) bb)
   (ah (aj 3 sc__law_lines.nd (af (aD (ac aw (ac aw (ac aw (ac aw ae))))) (ax (af (aa 0) ad) ad)))
   (ah (il 4 sc__law_lines.nd ae)
   (ah (cM 5 PassesOwn.never rfl sc__law_lines.nd uC (aa 2) (ah (aj 6 sc__law_lines.nd aw)
    (ah (cM 7 PassesOwn.never rfl sc__law_lines.nd uC (aa 1) (ah (aj 8 sc__law_lines.nd (am (av (aa 5) (aa 1)) (aa 7)))
     (ah (aj 9 sc__law_lines.nd (ax (aW (af (aa 0) (am ad (aW (aa 8) ad))) (af (aD (ac ad (ac ad ae))) (ax (aa 8) ad))) ad))
     (ar (aj 6 sc__law_lines.nd (am (aa 6) (af (aa 3) (ax (aa 9) (dh uB (ac (aa 3) ae))))))))))
    (ar (fE 4 (aa 6))))))
   (fD 4 (ar (aE (aa 4))))))))))),λds R h=>?_⟩)
 ·obtain⟨_,rfl,_⟩:=h;rfl
 ·obtain⟨xs,rfl,hl,hd,hR⟩:=h
  have t8:∀ k:Nat,k<40->atI (xs.map D.int) (k:Int)=some (.int (cell xs k)):=λk hk=>dE (by lia) (by simpa using(by lia:k<xs.length))
  have a0:atI (xs.map D.int) 0=some (.int (cell xs 0)):=t8 0 (by decide)
  have a1:atI (xs.map D.int) 1=some (.int (cell xs 1)):=t8 1 (by decide)
  have a2:atI (xs.map D.int) 2=some (.int (cell xs 2)):=t8 2 (by decide)
  have a3:atI (xs.map D.int) 3=some (.int (cell xs 3)):=t8 3 (by decide)
  clear hl
  refine⟨λd=>∃ v:Int,d= .int v/\1<=v/\v<=8,⟨_,a0,by decide,_,rfl,by lia⟩,?_⟩
  rintro _ ⟨w0,rfl,JN⟩;k_places
  refine⟨λd=>∃ v:Int,d= .int v/\1<=v/\v<=8,⟨_,a1,by decide,_,rfl,by lia⟩,?_⟩
  rintro _ ⟨t0,rfl,Ku⟩;k_places
  refine⟨λz=>∃ w t:Nat,z=[some (.lst (xs.map D.int)),some (.int w),some (.int t),none,none,none,none,none,none,none]/\(1<=w/\w<=8)/\(1<=t/\t<=8),⟨_,a2,by decide,ite2 (λ_=>?_) (λ_=>?_)⟩,?_⟩
  ·refine⟨λd=>∃ v:Nat,d= .int v/\1<=v/\v<=8,⟨_,a0,by decide,(1+cell xs 0 % 8).toNat,by rw[BM (by lia)],by lia⟩,?_⟩
   rintro _ ⟨w,rfl,hw⟩;k_places
   refine⟨λd=>∃ v:Nat,d= .int v/\1<=v/\v<=8,⟨_,a1,by decide,(1+cell xs 1 % 8).toNat,by rw[BM (by lia)],by lia⟩,?_⟩
   rintro _ ⟨t,rfl,ht⟩;k_places
   exact⟨w,t,rfl,hw,ht⟩
  ·obtain⟨w,rfl⟩:∃ w:Nat,w0=(w:Int):=⟨w0.toNat,by lia⟩
   obtain⟨t,rfl⟩:∃ t:Nat,t0=(t:Int):=⟨t0.toNat,by lia⟩
   exact⟨w,t,rfl,by lia,by lia⟩
  rintro _ ⟨w,t,rfl,hw,ht⟩;k_places
  obtain⟨sg,es,hs⟩:=wY (cell xs 3)
  refine⟨λd=>d= .str sg,⟨by simp,_,a3,by decide,_,es,rfl⟩,?_⟩;rintro _ rfl;k_places
  refine⟨by simp,?_⟩
  refine⟨⟨by lia,by lia⟩,λk z=>∃ (L:List Str) (o1 o2 o3 o4 o5:Option D),z=[some (.lst (xs.map D.int)),some (.int w),some (.int t),some (.str sg),some (.own (L.map D.str)),o1,o2,o3,o4,o5]/\L.length=k/\∀ l∈L,l.length=w/\∀ c∈cs l,aF c,⟨[],_,_,_,_,_,rfl,rfl,(λx hx=>by cases hx)⟩,?_,?_⟩
  ·rintro j x z hj ⟨L,o1,o2,o3,o4,o5,rfl,hL,DD⟩;k_places
   have JO:j<t:=by simpa using(AN.mp hj).1
   have ex:x= .int (j:Int):=by simp[JO] at hj;exact hj.symm
   subst ex
   refine⟨λd=>d= .str "",rfl,?_⟩;rintro _ rfl;k_places
   refine⟨⟨by lia,by lia⟩,λi z=>∃ (ln:Str) (o3 o4 o5:Option D),z=[some (.lst (xs.map D.int)),some (.int w),some (.int t),some (.str sg),some (.own (L.map D.str)),some (.int j),some (.str ln),o3,o4,o5]/\ln.length=i/\∀ c∈cs ln,aF c,⟨_,_,_,_,rfl,rfl,(λc hc=>by rw[wS] at hc;cases hc)⟩,?_,?_⟩
   ·rintro i y z hi ⟨ln,o3,o4,o5,rfl,Fj,GF⟩;k_places
    have Fi:i<w:=by simpa using(AN.mp hi).1
    have ey:y= .int (i:Int):=by simp[Fi] at hi;exact hi.symm
    subst ey
    have pb:=bj (a:=(j:Int)) (d:=(w:Int)) (A:=7) (B:=8) (by lia) (by lia)
    have pn:0<=(j:Int)*(w:Int):=Ch (by lia) (by lia)
    refine⟨λd=>∃ p:Nat,d= .int p/\p<=63,⟨.inl ⟨by lia,by lia⟩,((j:Int)*w+i).toNat,by rw[BM (by lia)],by lia⟩,?_⟩
    rintro _ ⟨p,rfl,hp⟩;k_places
    obtain⟨m,em,hm⟩:=wZ (p:Int)
    have ap:=t8 (8+p / 2) (by lia)
    have ec:((8+p / 2:Nat):Int)=8+(p:Int) / 2:=by lia
    rw[ec] at ap
    refine⟨λd=>∃ v:Int,d= .int v,⟨⟨by decide,by decide⟩,_,ap,by simp,by decide,_,em,⟨by lia,by lia⟩,by decide,_,rfl⟩,?_⟩
    rintro _ ⟨v,rfl⟩;k_places
    obtain⟨c,⟨h1,h2⟩,h3⟩:=wT hs v
    refine⟨λd=>∃ x:Str,d= .str x/\x.length=i+1/\∀ c∈cs x,aF c,⟨h1,by have:=hs.1;lia,c,⟨h1,h2⟩,?_,_,rfl,xa Fj GF h3⟩,?_⟩
    ·rw[Fj];show i+1<=1000000;lia
    rintro _ ⟨x,rfl,g1,g2⟩;k_places
    exact⟨x,_,_,_,rfl,g1,g2⟩
   ·rintro z ⟨ln,o3,o4,o5,rfl,Fj,GF⟩;k_places
    have GH:ln.length=w:=by simpa using Fj
    refine⟨by simp[hL];lia,?_⟩
    rw[xb]
    refine⟨_,_,_,_,_,_,rfl,by simp[hL],λl hl=>?_⟩
    rcases AW.mp hl with q|q
    ·exact DD l q
    ·rw[Ay.mp q];exact⟨GH,GF⟩
  ·rintro z ⟨L,o1,o2,o3,o4,o5,rfl,hL,DD⟩;k_places
   exact hR L (Rows.of ht.1 ht.2 (by simpa using hL) hw.1 hw.2 DD)
abbrev kX(V:Bx):Prop:=V.D 1 "_law_shift_pair" jh wR
theorem zt(T:V.T "_law_shift_pair" jg jh)(uI:V.m "int"):kX V:=by
 refine Tx.okDW T sc__law_shift_pair (λds R h=>?_) (λf cdv A outer s H E J hr=>⟨_,((ah (bA (bp (ax (aW (af (aa 0) ad) ad) ad) ad) (ar (aE (aD (ac (ao (ac (am ad (ax (af (aa 0) ad) ad)) (ac ad ae))) (ac (ao (ac ad (ac (am ad (ax (af (aa 0) ad) ad)) ae))) ae))))) bb)
   (ah (bA (bp (ax (aW (af (aa 0) ad) ad) ad) ad) (ar (aE (aD (ac (ao (ac (am ad (ax (af (aa 0) ad) ad)) (ac ad ae))) (ac (ao (ac (bg (ax (af (aa 0) ad) ad) ad) (ac (am ad (ax (af (aa 0) ad) ad)) ae))) ae))))) bb)
   (ah (aj 1 sc__law_shift_pair.nd (bg (ax (af (aa 0) ad) ad) ad))
   (ah (aj 2 sc__law_shift_pair.nd (bg (ax (af (aa 0) ad) ad) ad))
   (ah (aj 3 sc__law_shift_pair.nd (bg (ax (af (aa 0) ad) ad) ad))
   (ah (aj 4 sc__law_shift_pair.nd (bg (ax (af (aa 0) ad) ad) ad))
   (ah (aj 1 sc__law_shift_pair.nd (am (aa 1) (io uI (ac (fB (cH (aa 1) ad) (fA (cH (aa 2) ad))) ae))))
   (ah (bA (bp (av (aa 1) (aa 4)) (av (aa 2) (aa 3))) (ar (aE (aD (ac (ao (ac (aa 1) (ac (aa 2) ae))) (ac (ao (ac (bD (aa 2)) (ac (aa 1) ae))) ae))))) bb)
   (ar (aE (aD (ac (ao (ac (aa 1) (ac (aa 2) ae))) (ac (ao (ac (aa 3) (ac (aa 4) ae))) ae)))))))))))))),λds R h=>?_⟩)
 ·obtain⟨_,rfl,_⟩:=h;rfl
 ·obtain⟨xs,rfl,hl,hd,hR⟩:=h
  have a3:=dE (xs:=xs) (k:=3) (by decide) (show 3<xs.length by lia)
  have a4:=dE (xs:=xs) (k:=4) (by decide) (show 4<xs.length by lia)
  have a5:=dE (xs:=xs) (k:=5) (by decide) (show 5<xs.length by lia)
  have a6:=dE (xs:=xs) (k:=6) (by decide) (show 6<xs.length by lia)
  have a7:=dE (xs:=xs) (k:=7) (by decide) (show 7<xs.length by lia)
  generalize cell xs 3=x3 at*
  generalize cell xs 4=x4 at*
  generalize cell xs 5=x5 at*
  generalize cell xs 6=x6 at*
  generalize cell xs 7=x7 at*
  clear hl hd
  refine⟨_,a3,⟨by decide,by decide⟩,by decide,ite2 (λ_=>?_) (λ_=>?_)⟩
  ·refine⟨_,a4,by decide,by simp,_,a5,by decide,by simp,by simp,hR _ _ _ _ (by lia) (by lia) (by lia) (by lia) ?_⟩
   have p:0<(1+x4 % 6)*(1+x5 % 6):=AL (by lia) (by lia)
   lia
  refine⟨_,a3,⟨by decide,by decide⟩,by decide,ite2 (λ_=>?_) (λ_=>?_)⟩
  ·refine⟨_,a4,by decide,by simp,_,a6,by decide,_,a5,by decide,by simp,by simp,hR _ _ _ _ (by lia) (by lia) (by lia) (by lia) ?_⟩
   have p:0<(1+x4 % 6)*(1+x5 % 4):=AL (by lia) (by lia)
   lia
  refine⟨λd=>∃ v:Int,d= .int v/\-12<=v/\v<=12,⟨_,a4,by decide,_,rfl,by lia⟩,?_⟩
  rintro _ ⟨a,rfl,ha⟩;k_places
  refine⟨λd=>∃ v:Int,d= .int v/\-12<=v/\v<=12,⟨_,a5,by decide,_,rfl,by lia⟩,?_⟩
  rintro _ ⟨b,rfl,hb⟩;k_places
  refine⟨λd=>∃ v:Int,d= .int v/\-12<=v/\v<=12,⟨_,a6,by decide,_,rfl,by lia⟩,?_⟩
  rintro _ ⟨c,rfl,hc⟩;k_places
  refine⟨λd=>∃ v:Int,d= .int v/\-12<=v/\v<=12,⟨_,a7,by decide,_,rfl,by lia⟩,?_⟩
  rintro _ ⟨d,rfl,d_⟩;k_places
  refine⟨λx=>∃ v:Int,x= .int v/\(-12<=v/\v<=12)/\¬ (v=0/\b=0),ite2 (λe=>?_) (λe=>?_),?_⟩
  ·have e':=of_decide_eq_true e
   by_cases Im:b=0
   ·refine⟨_,rfl,?_⟩
    subst e' Im
    simp
   ·refine⟨_,rfl,?_⟩
    subst e'
    simp[Im]
  ·have e':=of_decide_eq_false (A6.mpr e)
   refine⟨_,rfl,?_⟩
   simp
   lia
  rintro _ ⟨a,rfl,ha,Ez⟩;k_places
  refine⟨.inl (i64 ha.1 ha.2),.inl (i64 hb.1 hb.2),ite2 (λe=>?_) (λe=>?_)⟩
  ·refine⟨by simp,by simp,by simp,hR a b (-b) a ha hb (by lia) ha ?_⟩
   rw[Bj]
   intro z
   have s1:0<=a*a:=sq0 a
   have s2:0<=b*b:=sq0 b
   have z1:a*a=0:=by omega
   have z2:b*b=0:=by omega
   exact Ez ⟨(BK.mp z1).elim id id,(BK.mp z2).elim id id⟩
  ·have e':=of_decide_eq_false (A6.mpr e)
   exact⟨by simp,by simp,by simp,hR a b c d ha hb hc d_ e'⟩
abbrev kY(V:Bx):Prop:=V.D 3 "_law_motif" jj xk
theorem zu(T:V.T "_law_motif" ji jj)(GI:kU V)(GJ:kW V)(GK:kX V)(DJ:gA V):kY V:=by
 refine Tx.okDW T sc__law_motif (λds R h=>?_) (λf cdv A outer s H E J hr=>⟨_,((ah (aj 2 sc__law_motif.nd (aA GI hr (ac (aa 0) (ac (aa 1) (ac ad ae)))))
   (ah (aj 3 sc__law_motif.nd (aA GJ hr (ac (aa 2) ae)))
   (ah (tY rfl (aA GK hr (ac (aa 2) ae)) (dg_cons 4 sc__law_motif.nd (dg_cons 5 sc__law_motif.nd eI)))
   (ah (aj 6 sc__law_motif.nd (ao (ac (aa 3) (ac (aa 4) (ac (aa 5) (ac (ao (ac ad (ac ad (ac ad (ac ad (ac ad (ac ad ae))))))) (ac (aD (ac ad (ac ad (ac ad (ac ad (ac ad (ac ad (ac ad ae)))))))) ae)))))))
   (ar (aE (aD (ac (aA DJ hr (ac (aa 3) (ac (aa 4) (ac (aa 5) ae)))) (ac ad (ac (aD (ac (aa 6) ae)) ae))))))))))),λds R h=>?_⟩)
 ·obtain⟨_,_,rfl,_⟩:=h;rfl
 ·obtain⟨ns,k,rfl,hk,hR⟩:=h
  refine⟨λx=>∃ xs:List Int,x= .lst (xs.map D.int)/\xs.length=40/\Drawn xs,⟨ns,k,40,rfl,hk,by decide,λxs h1 h2=>⟨xs,rfl,h1,h2⟩⟩,?_⟩
  rintro _ ⟨xs,rfl,hl,hd⟩;k_places
  refine⟨λx=>∃ L:List Str,x= .lst (L.map D.str)/\Rows L,⟨xs,rfl,by lia,hd,λL h=>⟨L,rfl,h⟩⟩,?_⟩
  rintro _ ⟨L,rfl,hL⟩;k_places
  refine⟨xs,rfl,by lia,hd,λa b c d ha hb hc d_ hn=>⟨rfl,?_⟩⟩
  refine⟨λx=>x=(aN L a b c d).D,⟨by simp,by simp,by simp,rfl⟩,?_⟩;rintro _ rfl;k_places
  exact⟨L,a,b,c,d,rfl,hL,ha,hb,hc,d_,by simp,by simp,hR L a b c d hL ha hb hc d_ hn⟩
def zv:SpD:=λds R=>∃ ns:List Int,ds=[.rol (ns.map D.int)]/\∀ (p:Pat) (n:Int),p.Wf->p.Cal->p.depth<=5->R (PD p n)
def pL(k:Nat)(dp:D):Prop:=(k=0/\dp= .non)\/(1<=k/\∃ (p:Pat) (n:Int),dp=PD p n/\p.Wide (288 ^ k)/\p.depth<=k)
abbrev kZ(V:Bx):Prop:=V.D 4 "_law_piled" jl zv
theorem zw(T:V.T "_law_piled" jk jl)(uC:V.m "range")(uG:dP V)(GL:kY V)(DK:gB V):kZ V:=by
 refine Tx.okDW T sc__law_piled (λds R h=>?_) (λf cdv A outer s H E J hr=>⟨_,((ah (aj 1 sc__law_piled.nd bI)
   (ah (cM 2 PassesOwn.never rfl sc__law_piled.nd uC (am ad (ax (aA uG hr (ac (aa 0) (ac ad ae))) ad)) (ah (aj 3 sc__law_piled.nd (aA GL hr (ac (aa 0) (ac (am ad (av ad (aa 2))) ae))))
    (ah (dv (bp (ax (aA uG hr (ac (aa 0) (ac (am ad (av ad (aa 2))) ae))) ad) ad) (ar (aj 3 sc__law_piled.nd (aA DK hr (ac (aa 3) (ac (ax (aW (aA uG hr (ac (aa 0) (ac (am ad (av ad (aa 2))) ae))) ad) ad) ae))))) bb)
    (ar (dv (ij (aa 1) bI) (ar (aj 1 sc__law_piled.nd (aa 3))) (ar (aj 1 sc__law_piled.nd (aD (ac (am (am (am (am aw (af (aa 1) ad)) aw) (af (aa 3) ad)) aw) (ac ad (ac (am (af (aa 1) ad) (af (aa 3) ad)) ae)))))))))))
   (ar (aE (aa 1)))))),λds R h=>?_⟩)
 ·obtain⟨_,rfl,_⟩:=h;rfl
 ·obtain⟨ns,rfl,hR⟩:=h
  refine⟨λx=>x= .non,rfl,?_⟩;rintro _ rfl;k_places
  have h4:0<=cell ns 1 % 4/\cell ns 1 % 4<=3:=by lia
  refine⟨ns,1,rfl,by decide,by decide,⟨by lia,by lia⟩,λk z=>∃ (dp:D) (o2 o3:Option D),z=[some (.rol (ns.map D.int)),some dp,o2,o3]/\pL k dp,⟨.non,_,_,rfl,.inl ⟨rfl,rfl⟩⟩,?_,?_⟩
  ·rintro k v z hk ⟨dp,o2,o3,rfl,hp⟩;k_places
   obtain⟨n_,rfl⟩:=range_int hk
   have Kv:k<4:=by lia
   refine⟨λx=>∃ q:Pat,x=q.D/\q.Wide 288/\q.depth=0,⟨.inl ⟨by lia,by lia⟩,ns,_,rfl,by lia,λL a b c d h1 h2 h3 h4 h5 h6=>⟨.mot L a b c d,rfl,gz ⟨h1,h2,h3,h4,h5,h6⟩,by simp[Pat.depth]⟩⟩,?_⟩
   rintro _ ⟨q,rfl,wq,dq⟩;k_places
   refine⟨λz=>∃ q:Pat,z=[some (.rol (ns.map D.int)),some dp,some (.int (k:Int)),some q.D]/\q.Wide 288/\q.depth<=1,⟨.inl ⟨by lia,by lia⟩,ns,_,rfl,by lia,by decide,ite2 (λc=>?_) (λc=>⟨q,rfl,wq,by lia⟩)⟩,?_⟩
   ·have tq:=Pat.text_short wq.wf (by lia)
    refine⟨λx=>∃ q:Pat,x=q.D/\q.Wide 288/\q.depth<=1,⟨.inl ⟨by lia,by lia⟩,ns,_,rfl,by lia,⟨by decide,by decide⟩,by decide,q,_,rfl,wq.wf,by lia,by lia,Wraps.wide wq (by decide) λq h1 _ h3=>⟨q,rfl,h1,by omega⟩⟩,?_⟩
    rintro _ ⟨q,rfl,wq,dq⟩;k_places
    exact⟨q,rfl,wq,dq⟩
   rintro _ ⟨q,rfl,wq,dq⟩;k_places
   refine⟨λz=>∃ (dp:D) (o2 o3:Option D),z=[some (.rol (ns.map D.int)),some dp,o2,o3]/\pL (k+1) dp,?_,λ_ h=>h⟩
   rcases hp with⟨rfl,rfl⟩|⟨Kw,p,n,rfl,wp,dp⟩
   ·refine⟨λx=>x=q.D,rfl,?_⟩;rintro _ rfl;k_places
    exact⟨_,_,_,rfl,.inr ⟨by lia,q,_,rfl,wq,by lia⟩⟩
   ·have tp:=Pat.text_short wp.wf (by lia)
    have tq:=Pat.text_short wq.wf (by lia)
    have n1:=Pat.leaves_32 (p:=p) (by lia)
    have n2:=Pat.leaves_32 (p:=q) (by lia)
    have l1:("(":Str).length=1:=rfl
    have l2:("|":Str).length=1:=rfl
    have l3:(")":Str).length=1:=rfl
    refine⟨λx=>x=PD (.over p q) 0,⟨_,rfl,?_,?_,_,rfl,?_,?_,_,rfl,_,rfl,?_,by show(3:Nat)<=1000;decide,?_⟩,?_⟩
    ·lia
    ·rw[aq];lia
    ·rw[aq,aq];lia
    ·rw[aq,aq,aq];lia
    ·rw[AH,AH];lia
    ·unfold PD
     rw[Pat.leaves,Bo]
     rfl
    rintro _ rfl;k_places
    have kb:(288:Int) ^ k<=33554432:=by
     rcases(by omega:k=1\/k=2\/k=3) with rfl|rfl|rfl<;>decide
    refine⟨_,_,_,rfl,.inr ⟨by lia,.over p q,_,rfl,?_,by rw[Pat.depth];lia⟩⟩
    rw[Int.pow_succ]
    exact wp.over wq kb (by decide)
  rintro z ⟨dp,o2,o3,rfl,hp⟩;k_places
  have hl:(Cd (λk=>D.int ((k:Nat):Int)) (Ba (1+cell ns 1 % 4).toNat)).length=(1+cell ns 1 % 4).toNat:=by rw[AH,List.length_range]
  rw[hl] at hp
  rcases hp with⟨h0,_⟩|⟨_,p,n,rfl,wp,dp⟩
  ·lia
  ·exact hR p n wp.wf wp.cal (by lia)
abbrev gC(V:Bx):Prop:=V.D 1 "_law_gcd" jn wI
theorem zx(T:V.T "_law_gcd" jm jn)(uM:V.m "abs"):gC V:=by
 refine Tx.okDW T sc__law_gcd (λds R h=>?_) (λf cdv A outer s H E J hr=>⟨_,((ah (aj 0 sc__law_gcd.nd (fv uM (ac (aa 0) ae)))
   (ah (aj 1 sc__law_gcd.nd (fv uM (ac (aa 1) ae)))
   (ah (eJ PassesOwn.never (cJ (aa 1) ad) (ar (tK 0 1 rfl sc__law_gcd.nd (ac (aa 1) (ac (ax (aa 0) (aa 1)) ae)))))
   (ar (aE (aa 0))))))),λds R h=>?_⟩)
 ·obtain⟨x,y,rfl,_⟩:=h;rfl
 ·obtain⟨x,y,rfl,hR⟩:=h
  refine⟨λd=>d= .int (if x<0 then -x else x),rfl,?_⟩;rintro _ rfl;k_places
  refine⟨λd=>d= .int (if y<0 then -y else y),rfl,?_⟩;rintro _ rfl;k_places
  have hx:0<=(if x<0 then -x else x):=by split<;>lia
  have hy:0<=(if y<0 then -y else y):=by split<;>lia
  have GN:∀ e,(e∣(if x<0 then -x else x)/\e∣(if y<0 then -y else y))↔(e∣x/\e∣y):=λe=>by rw[oJ,oJ]
  generalize (if x<0 then -x else x)=a at hx GN ⊢
  generalize (if y<0 then -y else y)=b at hy GN ⊢
  refine⟨λm z=>∃ a b:Int,z=[some (.int a),some (.int b)]/\0<=a/\0<=b/\(∀ e,(e∣a/\e∣b)↔(e∣x/\e∣y))/\m=b.toNat,⟨_,a,b,rfl,hx,hy,GN,rfl⟩,?_⟩
  rintro m z ⟨a,b,rfl,ha,hb,Ez,rfl⟩;k_places
  refine ite2 (λc=>?_) (λc=>?_)
  ·have c':¬ b=0:=by simpa using c
   have q1:=ci (a:=a) (show 0<b by lia)
   have q2:=cj (a:=a) (show 0<b by lia)
   refine⟨by lia,_,?_,b,a % b,rfl,hb,q1,λe=>?_,rfl⟩
   ·lia
   ·rw[<- Ez e]
    constructor
    ·rintro⟨h1,h2⟩;exact⟨(oK h1).mp h2,h1⟩
    ·rintro⟨h1,h2⟩;exact⟨h2,(oK h2).mpr h1⟩
  ·have c':b=0:=by simpa using c
   subst c'
   have g:=(Ez a).mp ⟨Int.dvd_refl a,Int.dvd_zero a⟩
   exact hR a ha g.1 g.2 λe h1 h2=>((Ez e).mpr ⟨h1,h2⟩).1
abbrev lf(V:Bx):Prop:=V.D 1 "_law_on" jq wH
theorem zy(T:V.T "_law_on" jp jq):lf V:=by
 refine Tx.okDW T sc__law_on (λds R h=>?_) (λf cdv A outer s H E J hr=>⟨_,((ah (aj 4 sc__law_on.nd (bg (av (af (aa 0) ad) (af (aa 1) ad)) (av (af (aa 0) ad) (af (aa 1) ad))))
   (ar (aE (fB (cH (nt (bg (av (aa 2) (af (aa 1) ad)) (av (aa 3) (af (aa 1) ad))) (aa 4)) ad) (fA (cH (nt (bg (av (af (aa 0) ad) (aa 3)) (av (af (aa 0) ad) (aa 2))) (aa 4)) ad))))))),λds R h=>?_⟩)
 ·obtain⟨a,b,c,d,u,v,rfl,_⟩:=h;rfl
 ·obtain⟨a,b,c,d,u,v,rfl,ha,hb,hc,hd,hn,hR⟩:=h
  have DL:∀ {x:Int},x.natAbs<1073741824->-(2 ^ 64)<x/\x<2 ^ 64:=λh=>n64 (Nat.le_of_lt_succ h)
  refine⟨λx=>x= .int (a*d - b*c),⟨_,rfl,_,rfl,.inl (DL ha),_,rfl,_,rfl,.inl (DL hb),rfl⟩,?_⟩;rintro _ rfl;k_places
  refine⟨_,rfl,.inr (DL hd),_,rfl,.inr (DL hc),by omega,ite2 (λe=>?_) (λe=>?_)⟩
  ·have e':=of_decide_eq_true e
   refine⟨_,rfl,.inl (DL ha),_,rfl,.inl (DL hb),by omega,?_⟩
   have q:decide ((a*v - b*u).fmod (a*d - b*c)=0)=decide ((u*d - v*c).fmod (a*d - b*c)=0/\(a*v - b*u).fmod (a*d - b*c)=0):=by simp[e']
   have g:R (.bl (decide ((a*v - b*u).fmod (a*d - b*c)=0))):=by rw[q];exact hR
   exact g
  ·have e':=of_decide_eq_false (A6.mpr e)
   have q:decide ((u*d - v*c).fmod (a*d - b*c)=0/\(a*v - b*u).fmod (a*d - b*c)=0)=false:=by simp[e']
   rw[q] at hR
   exact hR
abbrev lh(V:Bx):Prop:=V.D 2 "_law_leaf_family" js xy
theorem zz(T:V.T "_law_leaf_family" jr js)(uM:V.m "abs")(DM:gC V)(GO:lf V):lh V:=by
 refine Tx.okDW T sc__law_leaf_family (λds R h=>?_) (λf cdv A outer s H E J hr=>⟨_,((ah (nC rfl (af (aa 0) ad) (dg_cons 1 sc__law_leaf_family.nd (dg_cons 2 sc__law_leaf_family.nd (dg_cons 3 sc__law_leaf_family.nd (dg_cons 4 sc__law_leaf_family.nd (dg_cons 5 sc__law_leaf_family.nd (dg_cons 6 sc__law_leaf_family.nd eI)))))))
   (ah (aj 7 sc__law_leaf_family.nd (ao (ac (am (av (aa 1) (af (af (aa 0) ad) ad)) (av (aa 3) (af (af (aa 0) ad) ad))) (ac (am (av (aa 2) (af (af (aa 0) ad) ad)) (av (aa 4) (af (af (aa 0) ad) ad))) ae))))
   (ah (aj 8 sc__law_leaf_family.nd (ao (ac (am (av (aa 1) (af (af (aa 0) ad) ad)) (av (aa 3) (af (af (aa 0) ad) ad))) (ac (am (av (aa 2) (af (af (aa 0) ad) ad)) (av (aa 4) (af (af (aa 0) ad) ad))) ae))))
   (ah (aj 9 sc__law_leaf_family.nd (aA DM hr (ac (af (aa 7) ad) (ac (af (aa 8) ad) ae))))
   (ah (aj 10 sc__law_leaf_family.nd (aW (fv uM (ac (bg (av (af (aa 7) ad) (af (aa 8) ad)) (av (af (aa 7) ad) (af (aa 8) ad))) ae)) (aa 9)))
   (ah (aj 11 sc__law_leaf_family.nd ad)
   (ah (eJ PassesOwn.never (dm (cv (aA GO hr (ac (aa 7) (ac (aa 8) (ac (aa 11) (ac (aa 9) ae))))))) (ar (aj 11 sc__law_leaf_family.nd (am (aa 11) ad))))
   (ar (aE (ao (ac (aa 10) (ac (aa 9) (ac (aa 11) ae)))))))))))))),λds R h=>?_⟩)
 ·obtain⟨_,_,rfl,_⟩:=h;rfl
 ·obtain⟨l,n,rfl,gd,nr,hR⟩:=h
  obtain⟨h0,h1,h2,h3⟩:=nr.unit
  obtain⟨z0,z1,z2,z3,ne,z5⟩:=Leaf.sizes gd nr
  have ha:=gd.a
  have hb:=gd.b
  have hc:=gd.c
  have hd:=gd.d
  unfold B12 at ha hb hc hd
  refine⟨_,rfl,rfl,?_⟩
  simp only[AS,AT,aQ]
  refine⟨λx=>x= .tup [.int l.o0,.int l.o1],⟨_,rfl,_,rfl,.inl (u64 h0),_,rfl,_,rfl,.inl (u64 h2),_,rfl,_,rfl,.inl (u64 h1),_,rfl,_,rfl,.inl (u64 h3),by simp,rfl⟩,?_⟩;rintro _ rfl;k_places
  refine⟨λx=>x= .tup [.int l.t0,.int l.t1],⟨_,rfl,_,rfl,.inl (u64 h0),_,rfl,_,rfl,.inl (u64 h2),_,rfl,_,rfl,.inl (u64 h1),_,rfl,_,rfl,.inl (u64 h3),by simp,rfl⟩,?_⟩;rintro _ rfl;k_places
  generalize l.o0=o0 at*
  generalize l.o1=o1 at*
  generalize l.t0=t0 at*
  generalize l.t1=t1 at*
  refine⟨λx=>∃ g:Int,x= .int g/\0<=g/\g∣o1/\g∣t1/\∀ e,e∣o1->e∣t1->e∣g,⟨_,rfl,_,rfl,o1,t1,rfl,λg q0 q1 q2 q3=>⟨g,rfl,q0,q1,q2,q3⟩⟩,?_⟩
  rintro _ ⟨g,rfl,q0,q1,q2,q3⟩;k_places
  obtain⟨w,s,f⟩:=xx ne q0 q1 q2 q3
  have hg:=f.2.1
  have k1:=bj (a:=o0) (d:=t1) (A:=24) (B:=24) z0 z3
  have k2:=bj (a:=o1) (d:=t0) (A:=24) (B:=24) z1 z2
  have Kx:=f.bd (N:=288) z5
  have i6:=f.cells
  have ew:(if o0*t1 - o1*t0<0 then -(o0*t1 - o1*t0) else o0*t1 - o1*t0) / g=w:=by
   have hp:=AL f.1 hg
   have:(if o0*t1 - o1*t0<0 then -(o0*t1 - o1*t0) else o0*t1 - o1*t0)=w*g:=by split<;>lia
   rw[this]
   exact A3 _ (by lia)
  refine⟨λx=>x= .int w,⟨_,rfl,_,rfl,.inl (n64 z0),_,rfl,_,rfl,.inl (n64 z1),⟨by lia,by lia⟩,?_⟩,?_⟩
  ·exact congrArg D.int ew
  rintro _ rfl;k_places
  refine⟨λx=>x= .int 0,rfl,?_⟩;rintro _ rfl;k_places
  have hp:=AL f.1 hg
  refine⟨λm z=>∃ x:Int,z=[some l.D,some (.int l.w0),some (.int l.w1),some (.int l.w2),some (.int l.w3),some (.int l.w4),some (.int l.w5),some (.tup [.int o0,.int o1]),some (.tup [.int t0,.int t1]),some (.int g),some (.int w),some (.int x)]/\0<=x/\x<=s/\m=(s - x).toNat,⟨_,0,rfl,by lia,f.2.2.1,rfl⟩,?_⟩
  rintro m z ⟨x,rfl,x0,x1,rfl⟩;k_places
  refine⟨o0,o1,t0,t1,x,g,rfl,by lia,by lia,by lia,by lia,ne,?_⟩
  refine ite2 (λc=>?_) (λc=>?_)
  ·have c':¬ ((x*t1 - g*t0).fmod (o0*t1 - o1*t0)=0/\(o0*g - o1*x).fmod (o0*t1 - o1*t0)=0):=notT c
   have xs:x≠s:=by
    rintro rfl
    obtain⟨_,_,_,_,m',n',k',l',_,e1,e2,e3,e4⟩:=id f
    exact c' (wy e3 e4)
   refine⟨λd=>d= .int (x+1),rfl,?_⟩;rintro _ rfl;k_places
   exact⟨_,by lia,x+1,rfl,by lia,by lia,rfl⟩
  ·have c':(x*t1 - g*t0).fmod (o0*t1 - o1*t0)=0/\(o0*g - o1*x).fmod (o0*t1 - o1*t0)=0:=by
    exact notF c
   obtain⟨i,j,e1,e2⟩:=xu ne c'
   have:x=s:=f.uniq_lean e1 e2 x0 x1
   subst this
   exact⟨by simp,hR w g x f (by lia)⟩
abbrev ll(V:Bx):Prop:=V.D 1 "_law_in_family" ju wG
theorem zA(T:V.T "_law_in_family" jt ju):ll V:=by
 refine Tx.okDW T yG (λds R h=>?_) (λf cdv A outer s H E J hr=>⟨_,((ar (aE (fB (cH (ax (aa 2) (af (aa 0) ad)) ad) (fA (cH (ax (bg (aa 1) (av (aW (aa 2) (af (aa 0) ad)) (af (aa 0) ad))) (af (aa 0) ad)) ad)))))),λds R h=>?_⟩)
 ·obtain⟨w,h,s,x,y,rfl,_⟩:=h;rfl
 ·obtain⟨w,h,s,x,y,rfl,hw,hh,u_,hs,k8,hR⟩:=h
  refine⟨_,rfl,hh,ite2 (λc=>?_) (λc=>?_)⟩
  ·have c':=of_decide_eq_true c
   refine⟨_,rfl,⟨hh,u_⟩,_,rfl,.inr ⟨by lia,by lia⟩,_,rfl,hw,?_⟩
   have e:decide ((x - y / h*s) % w=0)=decide (y % h=0/\(x - y / h*s) % w=0):=by simp[c']
   have g:R (.bl (decide ((x - y / h*s) % w=0))):=by rw[e];exact hR
   exact g
  ·have c':=of_decide_eq_false (A6.mpr c)
   have e:decide (y % h=0/\(x - y / h*s) % w=0)=false:=by simp[c']
   rw[e] at hR
   exact hR
abbrev lm(V:Bx):Prop:=V.D 2 "_law_both" jw xB
theorem zB(T:V.T "_law_both" jv jw)(DM:gC V)(GP:ll V):lm V:=by
  refine Tx.okDW T sc__law_both (λds R h=>?_) (λf cdv A outer s H E J hr=>⟨_,((ah (aj 2 sc__law_both.nd (aW (av (af (aa 0) ad) (af (aa 1) ad)) (aA DM hr (ac (af (aa 0) ad) (ac (af (aa 1) ad) ae)))))
      (ah (aj 3 sc__law_both.nd (af (aa 0) ad))
      (ah (eJ PassesOwn.never (sZ (av (aa 2) (aa 3)) ad) (ah (aj 4 sc__law_both.nd (ax (av (af (aa 0) ad) (aW (aa 3) (af (aa 0) ad))) (af (aa 0) ad)))
        (ah (eJ PassesOwn.never (eB (aa 4) (aa 2)) (ah (bA (cv (aA GP hr (ac (aa 1) (ac (aa 4) (ac (aa 3) ae))))) (ar (aE (ao (ac (aa 2) (ac (aa 3) (ac (aa 4) ae)))))) bb)
          (ar (aj 4 sc__law_both.nd (am (aa 4) (af (aa 0) ad))))))
        (ar (aj 3 sc__law_both.nd (am (aa 3) (af (aa 0) ad)))))))
      (ar (aE bI)))))),λds R h=>?_⟩)
  · obtain⟨_,_,_,_,_,_,rfl,_⟩:=h;rfl
  · obtain⟨w1,h1,s1,w2,h2,s2,rfl,f1,f2,hR⟩:=h
    obtain⟨a1,a2,a3,a4,a5,a6⟩:=f1
    obtain⟨b1,b2,b3,b4,b5,b6⟩:=f2
    obtain⟨g,u,W,Hh,S,A,M1,eW,M⟩:=xA ⟨a1,a2,a3,a4,a5,a6⟩ ⟨b1,b2,b3,b4,b5,b6⟩
    have Io:=hR W Hh S A M
    have wb:W<=518400:=by
      have:=(iI a1 b1 M1).2.1
      have:=bj (a:=w1) (d:=w2) (A:=720) (B:=720) (by lia) (by lia)
      lia
    have mw:=M.w0
    have mh:=M.h0
    have ms:=M.s0
    have Ky:=M.sw
    refine⟨λx=>x= .int W,⟨_,rfl,_,rfl,.inl ⟨by lia,by lia⟩,_,rfl,_,rfl,w1,w2,rfl,λG q0 q1 q2 q3=>?_⟩,?_⟩
    · have eG:=M1.gcd q0 q1 q2 q3
      subst eG
      have hg:=M1.pos a1
      have GQ:=M1.le a1
      exact⟨⟨hg,by lia⟩,by rw[<- eW]⟩
    rintro _ rfl;k_places
    refine⟨λx=>x= .int h1,⟨_,rfl,rfl⟩,?_⟩;rintro _ rfl;k_places
    obtain⟨i0,j0,eS,eH⟩:=M.up1
    have JP:1<=j0:=by
      rcases(by lia:j0<=0\/1<=j0) with z|z
      · have:=Bi z (show 0<=h1 by lia)
        lia
      · exact z
    refine⟨λm z=>∃ (j:Int) (o:Option D),z=[some (.tup [.int w1,.int h1,.int s1]),some (.tup [.int w2,.int h2,.int s2]),some (.int W),some (.int (j*h1)),o]/\1<=j/\j<=j0/\m=(j0 - j).toNat,⟨_,1,_,by rw[Int.one_mul];rfl,by lia,JP,rfl⟩,?_⟩
    rintro m z ⟨j,o,rfl,w_,JQ,rfl⟩;k_places
    have JR:0<j*h1:=AL (by lia) a3
    have JS:j*h1<=Hh:=by
      rw[eH]
      exact AU JQ (by lia)
    have Kz:=BU JS (show 0<=W by lia)
    refine⟨.inl ⟨by lia,by lia⟩,ite2 (λc=>?_) (λc=>?_)⟩
    · have c':=of_decide_eq_true c
      have KA:j*h1<=720:=by
        have:=(cf (w:=W) (h:=j*h1) mw JR).2
        lia
      have JT:j*h1 / h1=j:=A3 _ (by lia)
      refine⟨λx=>∃ v:Int,x= .int v/\0<=v/\v<w1/\∃ i,v=i*w1+j*s1,⟨_,rfl,_,rfl,⟨by lia,by lia⟩,.inl ⟨by lia,by lia⟩,_,rfl,a1,_,rfl,ci a1,cj a1,?_⟩,?_⟩
      · rw[JT]
        refine⟨-(s1*j / w1),?_⟩
        have:=Bq (s1*j) w1
        rw[this]
        have e1:s1*j=j*s1:=A9 _ _
        have e2:w1*(s1*j / w1)=s1*j / w1*w1:=A9 _ _
        rw[e2,Br]
        lia
      rintro _ ⟨x0,rfl,x1,x2,i1,Ip⟩;k_places
      refine⟨λm z=>∃ (x:Int),z=[some (.tup [.int w1,.int h1,.int s1]),some (.tup [.int w2,.int h2,.int s2]),some (.int W),some (.int (j*h1)),some (.int x)]/\0<=x/\(∃ i,x=i*w1+j*s1)/\(j=j0->x<=S)/\m=(W - x).toNat,⟨_,x0,rfl,x1,⟨i1,Ip⟩,λej=>?_,rfl⟩,?_⟩
      · subst ej
        obtain⟨k,ek,k0⟩:=xC a1 x2 x1 ms eS ⟨i1,Ip⟩
        have:=Ch k0 (show 0<=w1 by lia)
        lia
      rintro m z ⟨x,rfl,y0,⟨i2,ex⟩,yS,rfl⟩;k_places
      refine ite2 (λc=>?_) (λc=>?_)
      · have cW:=of_decide_eq_true c
        refine⟨w2,h2,s2,x,j*h1,rfl,b1,b3,by lia,b5,by lia,?_⟩
        refine ite2 (λq=>?_) (λq=>?_)
        · have q':=of_decide_eq_true q
          obtain⟨i3,k3,e3,e4⟩:=xz q'
          obtain⟨z1,z2⟩:=M.high a3 w_ ⟨i2,ex⟩ ⟨i3,k3,e3,e4⟩
          have GR:j*h1=Hh:=by lia
          have:=z2 GR y0 cW
          subst this
          have:=Io.1 (by rw[<- GR];lia)
          rw[<- GR] at this
          exact⟨by simp,this⟩
        · have q':=of_decide_eq_false (A6.mpr q)
          refine⟨λd=>d= .int (x+w1),⟨_,rfl,rfl⟩,?_⟩;rintro _ rfl;k_places
          refine⟨_,by lia,x+w1,rfl,by lia,⟨i2+1,by grind⟩,λej=>?_,rfl⟩
          subst ej
          have hx:=yS rfl
          have ne:x≠S:=by
            rintro rfl
            obtain⟨i4,j4,e5,e6⟩:=M.up2
            exact q' (in_fam (i:=i4) (j:=j4) b3 e5 (by rw[<- eH];exact e6))
          -- j_ next one of j_ row is not GS S
          have:∃ t:Int,S=x+t*w1:=⟨i0 - i2,by rw[ex];grind⟩
          obtain⟨t,et⟩:=this
          have t1:1<=t:=by
            rcases(by lia:t<=0\/1<=t) with z|z
            · have:=Bi z (show 0<=w1 by lia)
              lia
            · exact z
          have:=AU t1 (show 0<=w1 by lia)
          lia
      · have cW:=of_decide_eq_false (A6.mpr c)
        have KC:j<j0:=by
          rcases(by lia:j<j0\/j=j0) with z|z
          · exact z
          · have:=yS z;lia
        refine⟨λd=>d= .int ((j+1)*h1),⟨_,rfl,by congr 1;grind⟩,?_⟩;rintro _ rfl;k_places
        exact⟨_,by lia,j+1,_,rfl,by lia,by lia,rfl⟩
    · have c':=of_decide_eq_false (A6.mpr c)
      exact Io.2 (by lia)
abbrev lp(V:Bx):Prop:=V.D 3 "_law_family" jy xD
theorem zC(T:V.T "_law_family" jx jy)(Fk:lh V)(GU:lm V):lp V:=by
  refine Tx.okDW T sc__law_family (λds R h=>?_) (λf cdv A outer s H E J hr=>⟨_,((ah (aj 1 sc__law_family.nd (aA Fk hr (ac (af (aa 0) ad) ae)))
      (ah (nD 2 PassesOwn.never rfl sc__law_family.nd (tV (aa 0) ad) (ah (aj 1 sc__law_family.nd (aA GU hr (ac (aa 1) (ac (aA Fk hr (ac (aa 2) ae)) ae))))
        (ar (bA (ij (aa 1) bI) (ar (aE bI)) bb))))
      (ar (aE (aa 1)))))),λds R h=>?_⟩)
  · obtain⟨_,_,rfl,_⟩:=h;rfl
  · obtain⟨ls,n,rfl,g6,hg,hR⟩:=h
    cases ls with
    |nil=>exact absurd rfl g6
    |cons l0 ls=>
    refine⟨λx=>∃ w h s:Int,x= .tup [.int w,.int h,.int s]/\FamOf l0.o0 l0.o1 l0.t0 l0.t1 w h s/\w*h<=288,⟨_,dX (j:=0) rfl,l0,n,rfl,(hg l0 AE).1,(hg l0 AE).2,λw h s f q=>⟨w,h,s,rfl,f,q⟩⟩,?_⟩
    rintro _ ⟨w0,h0,s0,rfl,f0,q0⟩;k_places
    try simp only[AS,AT]
    have ec:cutD (Cd Leaf.D (l0::ls)) (some 1) none=ls.map Leaf.D:=by rw[AO,cut1]
    refine⟨λk z=>∃ (w h s:Int) (o:Option D),z=[some (.lst ((l0::ls).map Leaf.D)),some (.tup [.int w,.int h,.int s]),o]/\Fam0 w h s/\w*h<=720/\∀ x y,InF w h s x y↔bt (l0::ls.take k) x y,⟨w0,h0,s0,_,rfl,⟨f0.1,f0.2.1,f0.2.2.1,f0.2.2.2.1⟩,by lia,λx y=>?_⟩,?_,?_⟩
    · rw[f0.lat]
      constructor
      · intro q l z
        rcases AA.mp z with e|e
        · rw[e];exact q
        · cases e
      · intro q
        exact q l0 AE
    · rintro k v z hk ⟨w,h,s,o,rfl,fm,Iq,lat⟩;k_places
      rw[ec,A2] at hk
      have n_:k<ls.length:=by
        rcases BI k ls.length with q|q
        · exact q
        · rw[BV q] at hk;cases hk
      have DG:ls[k]?=some ls[k]:=AX n_
      rw[DG] at hk
      cases hk
      obtain⟨gd,nr⟩:=hg ls[k] (AC _ (By n_))
      have EA:∀ l∈ls.drop (k+1),l.Good/\l.Near n:=λl q=>hg l (AC _ (Dc q))
      have v6:∀ x y,bt (l0::ls) x y↔(bt (l0::ls.take k) x y/\ls[k].Lat x y)/\bt (ls.drop (k+1)) x y:=λx y=>by
        have ed:ls=ls.take k++ls[k]::ls.drop (k+1):=by rw[<- C4 n_,List.take_append_drop]
        constructor
        · intro q
          refine⟨⟨λl z=>?_,q _ (AC _ (By n_))⟩,λl z=>q l (AC _ (Dc z))⟩
          rcases AA.mp z with e|e
          · exact q l (e ▸ AE)
          · exact q l (AC _ (List.mem_of_mem_take e))
        · rintro⟨⟨q1,q2⟩,q3⟩ l z
          rcases AA.mp z with e|e
          · exact q1 l (e ▸ AE)
          · rw[ed] at e
            rcases AW.mp e with e|e
            · exact q1 l (AC _ e)
            · rcases AA.mp e with e|e
              · rw[e];exact q2
              · exact q3 l e
      have z6:∀ x y,bt (l0::ls.take (k+1)) x y↔bt (l0::ls.take k) x y/\ls[k].Lat x y:=λx y=>by
        rw[iJ DG]
        constructor
        · intro q
          refine⟨λl z=>q l ?_,q _ (AC _ (AJ _ AE))⟩
          rcases AA.mp z with e|e
          · rw[e];exact AE
          · exact AC _ (Bf _ e)
        · rintro⟨q1,q2⟩ l z
          rcases AA.mp z with e|e
          · exact q1 l (e ▸ AE)
          · rcases AW.mp e with e|e
            · exact q1 l (AC _ e)
            · rw[Ay.mp e];exact q2
      generalize ls[k]=l at gd nr v6 z6
      obtain⟨p1,p2⟩:=cf fm.w0 fm.h0
      refine⟨λx=>(∃ w h s:Int,x= .tup [.int w,.int h,.int s]/\Fam0 w h s/\w*h<=720/\∀ x y,InF w h s x y↔bt (l0::ls.take (k+1)) x y)\/(x= .non/\R .non),⟨l,n,rfl,gd,nr,λw2 h2 s2 f2 b2=>?_⟩,?_⟩
      · obtain⟨r1,r2⟩:=cf f2.1 f2.2.1
        refine⟨w,h,s,w2,h2,s2,rfl,⟨fm.w0,by lia,fm.h0,by lia,fm.s0,fm.sw⟩,⟨f2.1,by lia,f2.2.1,by lia,f2.2.2.1,f2.2.2.2.1⟩,λW Hh S A M=>⟨λq=>?_,λq=>?_⟩⟩
        · refine .inl ⟨W,Hh,S,rfl,⟨M.w0,M.h0,M.s0,M.sw⟩,q,λx y=>?_⟩
          rw[M.lat,lat,f2.lat,z6]
          exact Iff.rfl
        · refine .inr ⟨rfl,?_⟩
          obtain⟨w3,h3,s3,f3,e3⟩:=oV (ls.drop (k+1)) W Hh S ⟨M.w0,M.h0,M.s0,M.sw⟩ EA
          refine(hR w3 h3 s3 f3 λx y=>?_).2 ?_
          · rw[e3,M.lat,lat,f2.lat,v6]
            exact Iff.rfl
          · have:=(InF.le M.w0 M.h0 f3.w0 f3.h0 (λx y z=>((e3 x y).mp z).1)).1
            lia
      · rintro _ (⟨W,Hh,S,rfl,JU,q,e'⟩|⟨rfl,hn⟩);k_places
        · try simp only[AS,AT]
          exact⟨W,Hh,S,_,rfl,JU,q,e'⟩
        · try simp only[AS,AT]
          exact hn
    · rintro z ⟨w,h,s,o,rfl,fm,Iq,lat⟩;k_places
      rw[ec,AH,BY] at lat
      exact(hR w h s fm lat).1 Iq
abbrev gD(V:Bx):Prop:=V.E 1 "WrongSign" jA yu
theorem zD(T:V.Te "WrongSign" "WrongSign.__init__" jz jA)(DN:V.b "MotifError")(uAD:V.ea "WrongSign")(GV:V.xf "WrongSign" "place"):gD V:=by
 refine Txe.okE T yH (λds R h=>?_) (λf cdv A outer s H E J hr=>⟨_,((nS DN uAD (ac (aa 1) ae) (nU uAD GV (aa 1) nR))),λds R h=>?_⟩)
 ·obtain⟨i,rfl,_⟩:=h;rfl
 ·obtain⟨i,rfl,hR⟩:=h
  exact⟨by show(1:Nat)<=1000;decide,rfl,hR⟩
abbrev cF(V:Bx):Prop:=V.Q 1 "Reading" "may_take" jC xK
theorem zE(T:V.Tm "Reading" "may_take" "Reading.may_take" jB jC)(uB:V.m "len")(uS:V.a "Reading" "text")(uD:V.a "Reading" "place"):cF V:=by
 refine Txm.okM T yI (λds M R RX h=>?_) (λf cdv A outer s H E J hr hx=>⟨_,((ay (bK (mt_w (vw (iB (aV uD (ai (aa 0))) (oj uB (aS (aV uS (ai (aa 0))) bf))) (vq (vo (og (aV uS (ai (aa 0))) (aV uD (ai (aa 0)))) (ai (aa 1)))))) (aG (aP (ai aw))) bE)
   (ay (fQ uD (ai (aa 0)) (fM (aV uD (ai (aa 0))) (ai ad)))
   (aG (aP (og (aV uS (ai (aa 0))) (vn (aV uD (ai (aa 0))) (ai ad)))))))),λds M R RX b8 h=>?_⟩)
 ·obtain⟨_,_,_,_,_,rfl,_⟩:=h;rfl
 ·obtain⟨a,t,k,l,al,rfl,rfl,d0,hR⟩:=h
  refine⟨_,aK,_,cB,_,aK,_,iM,AK d0.sz (by decide),?_⟩
  cases l with
  |nil=>
   refine ifdT (by rw[d0.nil]) (ifT rfl ?_)
   exact hR
  |cons c l=>
   have lt:=d0.lt
   refine ifdF (by lia) ?_
   refine⟨_,aK,_,iM,_,aK,_,cB,c,⟨AK d0.sz (by decide),dX d0.get⟩,?_⟩
   refine ite2 (λe=>?_) (λe=>?_)
   ·have e2:(!(!(Builtin.Str.occurrences al ⟨#[c]⟩ 0 al.length 1).isEmpty))=true:=e
    rw[ph] at e2
    have nc:c ∉ cs al:=by simpa using e2
    rw[cC nc,cD nc] at hR
    exact hR
   ·have e2:¬ (!(!(Builtin.Str.occurrences al ⟨#[c]⟩ 0 al.length 1).isEmpty))=true:=e
    rw[ph] at e2
    have nc:c∈cs al:=by simpa using e2
    rw[cU nc,cV nc] at hR
    refine⟨_,aK,_,cB,_,aK,by show(2:Nat)<1000;decide,?_⟩
    rw[show mput (RdM a t k) a (.ins "Reading" (putD ("place":Str) (.int ((k:Int)+1)) (rdF t k)))=RdM a t (k+1) by rw[xI];exact dJ]
    refine⟨_,aK,_,iM,_,aK,_,cB,c,⟨AK d0.sz (by decide),?_⟩,hR⟩
    rw[show((k+1:Nat):Int) - 1=(k:Int) by lia]
    exact dX d0.get
abbrev bX(V:Bx):Prop:=V.Q 3 "Reading" "take" jE xL
theorem zF(T:V.Tm "Reading" "take" "Reading.take" jD jE)(uD:V.a "Reading" "place")(uF:cF V)(uN:gD V):bX V:=by
 refine Txm.okM T sc_Reading_take (λds M R RX h=>?_) (λf cdv A outer s H E J hr hx=>⟨_,((ay (aU 2 sc_Reading_take.nd (aY (CalMth.one uF) hx hr (ai (aa 0)) (aB (ac (aa 1) ae))))
   (ay (bK (bP (bp (aa 2) aw)) (aG (iF uN hr hx rfl (aS (aV uD (ai (aa 0))) bf))) bE)
   (aG (aP (ai (aa 2))))))),λds M R RX b8 h=>?_⟩)
 ·obtain⟨_,_,_,_,_,rfl,_⟩:=h;rfl
 ·obtain⟨a,t,k,l,al,rfl,rfl,d0,hR,hX⟩:=h
  refine⟨λd M'=>d= .str (mayS al l)/\M'=RdM a t (k+mayN al l),⟨_,Ay.mpr rfl,_,aK,cq,a,t,k,l,al,rfl,rfl,d0,rfl,rfl⟩,?_⟩
  rintro _ _ ⟨rfl,rfl⟩;k_places
  have no:(∀ c l',l=c::l'->c ∉ cs al)->mayS al l=""/\mayN al l=0:=λh=>by
   cases l with
   |nil=>exact⟨rfl,rfl⟩
   |cons c l=>exact⟨cC (h c l rfl),cD (h c l rfl)⟩
  by_cases h:∃ c l',l=c::l'/\c∈cs al
  ·obtain⟨c,l',rfl,hc⟩:=h
   rw[cU hc,cV hc]
   exact hR c l' rfl hc
  ·have h':∀ c l',l=c::l'->c ∉ cs al:=λc l' e hc=>h ⟨c,l',e,hc⟩
   obtain⟨e1,e2⟩:=no h'
   rw[e1,e2]
   refine⟨_,aK,_,cB,by show(1:Nat)<=1000;decide,(k:Int),rfl,?_⟩
   rw[b8]
   exact hX h' _
abbrev lq(V:Bx):Prop:=V.MM 4 "line_from" jG xS
theorem zG(T:V.T "line_from" jF jG)(uC:V.m "range")(uY:V.gs "SIGNS" ".123456")(uA:bX V)(uF:cF V):lq V:=by
 refine Tx.okM T sc_line_from (λds M R RX h=>?_) (λf cdv A outer s H E J hr hx=>⟨_,((ay (aU 3 sc_line_from.nd (ai aw))
   (ay (vR 4 PassesOwn.leaving rfl sc_line_from.nd uC (ai (aa 2)) (aG (aU 3 sc_line_from.nd (fM (ai (aa 3)) (iC (bP (eB (aa 4) (aa 1))) (aY (CalMth.one uA) hx hr (ai (aa 0)) (aB (ac (iv uY) ae))) (aY (CalMth.one uF) hx hr (ai (aa 0)) (aB (ac (iv uY) ae))))))))
   (aG (aP (ai (aa 3))))))),λds M R RX b8 h=>?_⟩)
 ·obtain⟨_,_,_,_,_,_,rfl,_⟩:=h;rfl
 ·obtain⟨a,t,k,l,n,m,rfl,rfl,d0,KD,KE,hR,hX⟩:=h
  refine⟨λd M'=>d= .str ""/\M'=RdM a t k,⟨rfl,rfl⟩,?_⟩
  rintro _ _ ⟨rfl,rfl⟩;k_places
  refine⟨⟨by lia,by lia⟩,λi z M'=>i<=m/\∃ col,z=[some (.ptr a),some (.int n),some (.int m),some (.str ⟨(sgPre i l).toArray⟩),col]/\M'=RdM a t (k+(sgPre i l).length)/\min i n<=(sgPre i l).length,⟨AY _,none,rfl,rfl,by simp⟩,?_,?_⟩
  ·rintro i x z M' hi ⟨KG,col,rfl,rfl,GW⟩;k_places
   obtain⟨EB,rfl⟩:=range_int hi
   have EB:i<m:=by lia
   have KH:=fT i l
   rcases sgPre_succ i l with⟨c,l',h1,h2,h3,h4⟩|⟨l',h1,h2,h3⟩
   ·have c7:At t (k+(sgPre i l).length) (c::l'):=by have:=d0;rw[h1] at this;exact this.app
    refine⟨λd M'=>d= .str ⟨(sgPre (i+1) l).toArray⟩/\M'=RdM a t (k+(sgPre i l).length+1),?_,?_⟩
    ·refine ite2 (λ_=>?_) (λ_=>?_)
     ·refine⟨_,Ay.mpr rfl,_,aK,bF,a,t,_,_,".123456",rfl,rfl,c7,λc' l2 e hc=>?_,λc9=>absurd (signs_is.mpr h3) (c9 c l' rfl)⟩
      cases e
      refine⟨by rw[cZ,show(⟨#[c]⟩:Str).length=1 from rfl];lia,?_,rfl⟩
      rw[show(⟨#[c]⟩:Str)=⟨[c].toArray⟩ from rfl,dL,h4]
     ·refine⟨_,Ay.mpr rfl,_,aK,cq,a,t,_,_,".123456",rfl,rfl,c7,?_⟩
      rw[cU (signs_is.mpr h3),cV (signs_is.mpr h3)]
      refine⟨by rw[cZ,show(⟨#[c]⟩:Str).length=1 from rfl];lia,?_,rfl⟩
      rw[show(⟨#[c]⟩:Str)=⟨[c].toArray⟩ from rfl,dL,h4]
    ·rintro _ _ ⟨rfl,rfl⟩;k_places
     refine⟨EB,_,rfl,?_,?_⟩
     ·rw[h4,AI];rfl
     ·rw[h4,AI,h2];show _<=i+1;lia
   ·have c7:At t (k+(sgPre i l).length) l':=by have:=d0;rw[h1] at this;exact this.app
    have c9:∀ c l2,l'=c::l2->c ∉ cs ".123456":=λc l2 q z=>by
     have:=h2 c l2 q
     rw[signs_is.mp z] at this
     cases this
    have t9:mayS ".123456" l'=""/\mayN ".123456" l'=0:=by
     cases l' with
     |nil=>exact⟨rfl,rfl⟩
     |cons c l2=>exact⟨cC (c9 c l2 rfl),cD (c9 c l2 rfl)⟩
    refine⟨λd M'=>d= .str ⟨(sgPre (i+1) l).toArray⟩/\M'=RdM a t (k+(sgPre i l).length)/\¬ i<n,?_,?_⟩
    ·refine ite2 (λc=>?_) (λc=>?_)
     ·have c':=of_decide_eq_true c
      refine⟨_,Ay.mpr rfl,_,aK,bF,a,t,_,_,".123456",rfl,rfl,c7,λc' l2 e hc=>absurd hc (c9 c' l2 e),λ_ M'=>?_⟩
      rw[b8]
      have:=hX (by rw[h3 m (by lia)];lia) M'
      rw[h3 m (by lia)] at this
      exact this
     ·have c':¬ i<n:=λz=>c (decide_eq_true (by lia))
      refine⟨_,Ay.mpr rfl,_,aK,cq,a,t,_,_,".123456",rfl,rfl,c7,?_⟩
      rw[t9.1,t9.2]
      refine⟨by rw[cZ,show("":Str).length=0 from rfl];lia,?_,rfl,c'⟩
      rw[show("":Str)=⟨([]:List Nat).toArray⟩ from rfl,dL,A8,h3 (i+1) (by lia)]
    ·rintro _ _ ⟨rfl,rfl,DD⟩;k_places
     refine⟨EB,_,rfl,by rw[h3 (i+1) (by lia)],?_⟩
     rw[h3 (i+1) (by lia)]
     lia
  ·intro z M' hz
   rw[xj,Int.toNat_natCast] at hz
   obtain⟨_,col,rfl,rfl,GW⟩:=hz
   exact hR (by lia)
abbrev lr(V:Bx):Prop:=V.MM 5 "lines_from" jI xV
theorem zH(T:V.T "lines_from" jH jI)(uB:V.m "len")(Fl:lq V)(Fo:V.gi "LONGEST" 8)(uF:cF V):lr V:=by
  refine Tx.okM T sc_lines_from (λds M R RX h=>?_) (λf cdv A outer s H E J hr hx=>⟨_,((ay (aU 1 sc_lines_from.nd (vz (aS (aT (CalMM.frame Fl) hx hr (aB (ac (aa 0) (ac ad (ac (dB Fo) ae))))) bf)))
      (ay (aU 2 sc_lines_from.nd (oj uB (aS (vU (ai (aa 1)) (ai ad)) bf)))
      (ay (vQ PassesOwn.leaving (mt_w (vt (oh (vT uB (ai (aa 1))) (ai (dB Fo))) (vp (iB (aY (CalMth.one (CalMth.frame uF)) hx hr (ai (aa 0)) (aB (ac aw ae))) (ai aw))))) (aG (bS (vW (ai (aa 1)) (aT (CalMM.frame Fl) hx hr (aB (ac (aa 0) (ac (aa 2) (ac (aa 2) ae)))))))))
      (ou 1 (aG (aP (ai (aa 1))))))))),λds M R RX b8 h=>?_⟩)
  · obtain⟨_,_,_,_,rfl,_⟩:=h;rfl
  · obtain⟨a,t,k,l,rfl,rfl,d0,hR,hX⟩:=h
    obtain⟨l1,Fp,hg⟩:=sgPre_split 8 l
    have Ir:=sgPre_sign 8 l
    have x8:=fT 8 l
    refine⟨λd M'=>∃ p,p≠a/\1<=(sgPre 8 l).length/\d= .ptr p/\M'=(p,.lst [.str ⟨(sgPre 8 l).toArray⟩])::RdM a t (k+(sgPre 8 l).length),⟨[],RdM a t k,rfl,a,t,k,l,1,8,rfl,rfl,d0,by decide,by decide,λh1=>⟨by show 1<=1000;decide,λp hp=>?_⟩,λh1 M'=>?_⟩,?_⟩
    · exact⟨p,λe=>hp (by rw[e];exact Ay.mpr rfl),h1,rfl,rfl⟩
    · rw[b8]
      refine hX _ (λr=>?_) _
      have e0:sgPre 8 l=[]:=Cg (by lia)
      rw[e0] at Fp hg ⊢
      rw[Fp]
      have:=pk (w:=1) (n:=0) (x:=[]) (l:=l1) (λc z=>nomatch z) (by decide) (by decide) (λ_=>rfl) (hg.resolve_left (by decide)) r k
      refine walk_bad (λz=>nomatch z) λc l' q=>?_
      rw[cT]
      unfold cn
      rw[hg.resolve_left (by decide) c l' q,if_neg AG]
      exact if_pos (.inl rfl)
    rintro _ _ ⟨p,JV,h1,rfl,rfl⟩;k_places
    refine⟨λd M'=>d= .int (sgPre 8 l).length/\M'=(p,.lst [.str ⟨(sgPre 8 l).toArray⟩])::RdM a t (k+(sgPre 8 l).length),⟨_,cr,_,rfl,by rw[cZ];lia,by rw[cZ],rfl⟩,?_⟩
    rintro _ _ ⟨rfl,rfl⟩;k_places
    refine⟨λm z M'=>∃ (L:List (List Nat)) (w0:Nat) (l2:List Nat),RowsL L (sgPre 8 l).length/\l=rowsL L++l2/\LinAt w0 (sgPre 8 l).length L.length l2/\(∀ r,walk (.lin 0 0 0::r) l k=walk (.lin w0 (sgPre 8 l).length (L.length - 1)::r) l2 (k+(rowsL L).length))/\m=8 - L.length/\z=[some (.ptr a),some (.ptr p),some (.int (sgPre 8 l).length)]/\M'=(p,.lst (lstD L))::RdM a t (k+(rowsL L).length),⟨7,[sgPre 8 l],0,l1,⟨by simp,h1,x8,λx hx=>?_⟩,Fp,⟨h1,by simp,λ_=>hg,λz=>absurd z (by simp)⟩,λr=>?_,rfl,rfl,rfl⟩,?_⟩
    · rw[Ay.mp hx];exact⟨rfl,Ir⟩
    · have:=dI (w:=0) (k:=0) (r:=r) (sgPre 8 l) 0 l1 k Ir (by simp;lia)
      rw[<- Fp,B2] at this
      exact this
    rintro m z M' ⟨L,w0,l2,hL,y8,Dr,hw,rfl,rfl,rfl⟩;k_places
    have t6:=hL.many
    have j8:At t (k+(rowsL L).length) l2:=by have:=d0;rw[y8] at this;exact this.app
    have EC:(lstD L).length=L.length:=by simp[lstD]
    have done:(L.length=8\/∀ l',l2≠47::l')->R (.lst (lstD L)) (RdM a t (k+(rowsL L).length)):=λst=>hR L _ l2 hL y8 λr=>by rw[hw r,xU Dr (by lia) st]
    refine⟨_,cr,?_⟩
    rw[EC]
    refine ite2 (λc=>?_) (λc=>?_)
    · have c':L.length<8:=by have:=of_decide_eq_true c;lia
      refine⟨_,Ay.mpr rfl,_,xT JV,cq,[(p,_)],RdM a t _,rfl,a,t,_,l2,"/",rfl,rfl,j8,?_⟩
      by_cases Iu:∃ l',l2=47::l'
      · obtain⟨l3,rfl⟩:=Iu
        have Iv:(47:Nat)∈cs "/":=by decide
        rw[cU Iv,cV Iv]
        obtain⟨l4,GX,JW⟩:=sgPre_split (sgPre 8 l).length l3
        have GY:=sgPre_sign (sgPre 8 l).length l3
        have JX:=fT (sgPre 8 l).length l3
        refine⟨⟨_,cr⟩,[(p,_)],RdM a t _,rfl,a,t,_,l3,(sgPre 8 l).length,(sgPre 8 l).length,rfl,rfl,j8.next,Az _,x8,λh2=>?_,λh2 M'=>?_⟩
        · have a_:(sgPre (sgPre 8 l).length l3).length=(sgPre 8 l).length:=by lia
          refine⟨_,cr,by rw[EC];lia,?_⟩
          refine⟨8 - (L.length+1),by lia,L++[sgPre (sgPre 8 l).length l3],(sgPre 8 l).length,l4,⟨by rw[AI];simp;lia,h1,x8,λx hx=>?_⟩,?_,⟨h1,by rw[AI];simp,λz=>?_,λ_=>rfl⟩,λr=>?_,by rw[AI];rfl,rfl,?_⟩
          · rcases AW.mp hx with q|q
            · exact hL.each x q
            · rw[Ay.mp q];exact⟨a_,GY⟩
          · rw[fU L _ (λq=>by rw[q] at t6;simp at t6),A7,Be,<- GX];exact y8
          · rw[AI] at z;simp at z;rw[z] at t6;simp at t6
          · rw[hw r,pj Dr c' r]
            have:=dI (w:=(sgPre 8 l).length) (k:=L.length) (r:=r) (sgPre (sgPre 8 l).length l3) 0 l4 (k+(rowsL L).length+1) GY (by rw[if_pos (by lia)];lia)
            rw[<- GX,B2,a_] at this
            rw[this,fU L _ (λq=>by rw[q] at t6;simp at t6),AI,AI]
            show walk (.lin _ _ L.length::r) l4 _=walk (.lin _ _ (L.length+1 - 1)::r) l4 _
            congr 1
            rw[AB,a_]
            lia
          · show mput ((p,MO.lst (lstD L))::RdM a t _) p _=_
            rw[pi,fU L _ (λq=>by rw[q] at t6;simp at t6)]
            show _::RdM a t _=_
            congr 1
            · simp[lstD]
            · congr 1
              simp
              lia
        · rw[b8]
          refine hX _ (λr=>?_) _
          rw[hw r,pj Dr c' r]
          have:=pk (w:=(sgPre 8 l).length) (n:=L.length) GY h2 x8 (λq=>by lia) (JW.resolve_left (by lia)) r (k+(rowsL L).length+1)
          rw[<- GX] at this
          exact this
      · have c9:∀ l',l2≠47::l':=λl' q=>Iu ⟨l',q⟩
        have t9:mayS "/" l2=""/\mayN "/" l2=0:=by
          cases l2 with
          |nil=>exact⟨rfl,rfl⟩
          |cons c l3=>
            have:c ∉ cs "/":=λq=>c9 l3 (by rw[show c=47 from Ay.mp q])
            exact⟨cC this,cD this⟩
        rw[t9.1,t9.2]
        refine⟨_,cr,?_⟩
        rw[show mdel ([(p,MO.lst (lstD L))]++RdM a t (k+(rowsL L).length+0)) p=RdM a t (k+(rowsL L).length) from iO]
        exact done (.inr c9)
    · have c':L.length=8:=by
        have:¬ ((L.length:Int)<8):=λz=>c (decide_eq_true z)
        lia
      refine⟨_,cr,?_⟩
      rw[iO]
      exact done (.inl c')
abbrev lu(V:Bx):Prop:=V.MM 4 "number_from" jK xQ
theorem zI(T:V.T "number_from" jJ jK)(uI:V.m "int")(uF:cF V)(uA:bX V):lu V:=by
  refine Tx.okM T sc_number_from (λds M R RX h=>?_) (λf cdv A outer s H E J hr hx=>⟨_,((ay (bK (iB (aY (CalMth.one uF) hx hr (ai (aa 0)) (aB (ac aw ae))) (ai aw)) (aG (aP (ai ad))) bE)
      (ay (aU 1 sc_number_from.nd (fM (aY (CalMth.one uF) hx hr (ai (aa 0)) (aB (ac aw ae))) (aY (CalMth.one uA) hx hr (ai (aa 0)) (aB (ac aw ae)))))
      (ay (ot (bP (cv (vi (aa 1) (ac aw ae)))) (aG (aU 1 sc_number_from.nd (fM (ai (aa 1)) (aY (CalMth.one uF) hx hr (ai (aa 0)) (aB (ac aw ae)))))) bE)
      (aG (aP (ai (io uI (ac (aa 1) ae))))))))),λds M R RX b8 h=>?_⟩)
  · obtain⟨_,_,_,_,rfl,_⟩:=h;rfl
  · obtain⟨a,t,k,l,rfl,rfl,d0,hR,hX⟩:=h
    refine⟨_,Ay.mpr rfl,_,aK,cq,a,t,k,l,"0",rfl,rfl,d0,?_⟩
    by_cases z0:∃ l',l=48::l'
    · obtain⟨l',rfl⟩:=z0
      have e0:(48:Nat)∈cs "0":=by decide
      rw[cU e0,cV e0]
      refine hR 0 l' (by unfold B12;lia) ?_ λe r=>?_
      · rw[show numL 0=[48] by decide+kernel];rfl
      · rw[show numL 0=[48] by decide+kernel,aC (st':= .sign e::r) (by simp[step,aH,aI])];rfl
    have n0:mayS "0" l=""/\mayN "0" l=0:=by
      cases l with
      |nil=>exact⟨rfl,rfl⟩
      |cons c l=>
        have:c ∉ cs "0":=λq=>z0 ⟨l,by rw[show c=48 from Ay.mp q]⟩
        exact⟨cC this,cD this⟩
    rw[n0.1,n0.2]
    obtain⟨pre,l1,hp,rfl,hS,hN,h0⟩:∃ pre l1,(pre=[]\/pre=[45])/\l=pre++l1/\mayS "-" l=⟨pre.toArray⟩/\mayN "-" l=pre.length/\(pre=[]->∀ c l',l1=c::l'->c≠48/\c≠45):=by
      by_cases z1:∃ l',l=45::l'
      · obtain⟨l',rfl⟩:=z1
        exact⟨[45],l',.inr rfl,rfl,rfl,rfl,λq=>nomatch q⟩
      · refine⟨[],l,.inl rfl,rfl,?_⟩
        cases l with
        |nil=>exact⟨rfl,rfl,λ_ c l' q=>nomatch q⟩
        |cons c l=>
          have:c ∉ cs "-":=λq=>z1 ⟨l,by rw[show c=45 from Ay.mp q]⟩
          refine⟨cC this,cD this,λ_ c' l' q=>?_⟩
          cases q
          exact⟨λe=>z0 ⟨l,by rw[e]⟩,λe=>z1 ⟨l,by rw[e]⟩⟩
    have c7:=d0.app
    refine⟨λd M'=>∃ c l2,l1=c::l2/\(49<=c/\c<=57)/\d= .str ⟨(pre++[c]).toArray⟩/\M'=RdM a t (k+pre.length+1),?_,?_⟩
    · refine⟨_,Ay.mpr rfl,_,aK,cq,a,t,k,_,"-",rfl,rfl,d0,?_⟩
      rw[hS,hN]
      refine⟨_,Ay.mpr rfl,_,aK,bF,a,t,k+pre.length,l1,"123456789",rfl,rfl,c7,λc l2 e hc=>?_,λc9 M'=>?_⟩
      · refine⟨?_,c,l2,e,digits19.mp hc,?_,rfl⟩
        · rcases hp with rfl|rfl<;>simp[Str.length]
        · rw[show(⟨#[c]⟩:Str)=⟨[c].toArray⟩ from rfl,dL]
      · rw[b8]
        exact hX _ (xO hp rfl (λc l' q=>λz=>c9 c l' q (digits19.mpr z)) h0 k) M'
    · rintro _ _ ⟨c,l2,rfl,hc,rfl,rfl⟩;k_places
      have j8:=c7.next
      refine⟨λz M'=>∃ x l3,((c=49/\∃ d,(48<=d/\d<=50)/\x=[d])\/(x=[]/\(c=49->∀ d l',l3=d::l'->¬ (48<=d/\d<=50))))/\l2=x++l3/\z=[some (.ptr a),some (.str ⟨(pre++c::x).toArray⟩)]/\M'=RdM a t (k+pre.length+1+x.length),?_,?_⟩
      · show if Txt.endswith ⟨(pre++[c]).toArray⟩ "1"=true then _ else _
        rw[xP]
        refine ite2 (λe=>?_) (λe=>?_)
        · have e':=of_decide_eq_true e
          by_cases z2:∃ d l3,l2=d::l3/\(48<=d/\d<=50)
          · obtain⟨d,l3,rfl,hd⟩:=z2
            refine⟨λv M'=>v= .str ⟨(pre++[c,d]).toArray⟩/\M'=RdM a t (k+pre.length+1+1),⟨_,Ay.mpr rfl,_,aK,cq,a,t,_,_,"012",rfl,rfl,j8,?_⟩,?_⟩
            · rw[cU (digits02.mpr hd),cV (digits02.mpr hd)]
              refine⟨?_,?_,rfl⟩
              · rcases hp with rfl|rfl<;>simp[Str.length]
              · rw[show(⟨#[d]⟩:Str)=⟨[d].toArray⟩ from rfl,dL];simp
            · rintro _ _ ⟨rfl,rfl⟩;k_places
              exact⟨[d],l3,.inl ⟨e',d,hd,rfl⟩,rfl,rfl,rfl⟩
          · have c9:∀ d l',l2=d::l'->¬ (48<=d/\d<=50):=λd l' q z=>z2 ⟨d,l',q,z⟩
            have hm:mayS "012" l2=""/\mayN "012" l2=0:=by
              cases l2 with
              |nil=>exact⟨rfl,rfl⟩
              |cons d l2=>exact⟨cC (λq=>c9 d l2 rfl (digits02.mp q)),cD (λq=>c9 d l2 rfl (digits02.mp q))⟩
            refine⟨λv M'=>v= .str ⟨(pre++[c]).toArray⟩/\M'=RdM a t (k+pre.length+1),⟨_,Ay.mpr rfl,_,aK,cq,a,t,_,_,"012",rfl,rfl,j8,?_⟩,?_⟩
            · rw[hm.1,hm.2]
              refine⟨?_,?_,rfl⟩
              · rcases hp with rfl|rfl<;>simp[Str.length,show(Str.ofString "").cps.size=0 from rfl]
              · rw[show("":Str)=⟨([]:List Nat).toArray⟩ from rfl,dL];simp
            · rintro _ _ ⟨rfl,rfl⟩;k_places
              exact⟨[],l2,.inr ⟨rfl,λ_=>c9⟩,rfl,rfl,rfl⟩
        · have e':¬ c=49:=λz=>e (decide_eq_true z)
          exact⟨[],l2,.inr ⟨rfl,λz=>absurd z e'⟩,rfl,rfl,rfl⟩
      · rintro _ _ ⟨x,l3,hx,rfl,rfl,rfl⟩;k_places
        have hn:isNumL (pre++c::x):=by
          rcases hx with⟨rfl,d,hd,rfl⟩|⟨rfl,_⟩
          · rcases hp with rfl|rfl
            · exact .inr (.inl ⟨d,hd,rfl⟩)
            · exact .inr (.inr (.inr ⟨d,hd,rfl⟩))
          · rcases hp with rfl|rfl
            · exact .inl ⟨c,by lia,rfl⟩
            · exact .inr (.inr (.inl ⟨c,hc,rfl⟩))
        obtain⟨v,hv,ev⟩:=xF hn
        refine⟨v,⟨?_,?_⟩,?_⟩
        · rw[<- ev];exact iN hv
        · rw[<- ev]
          have:=bc hv
          rw[<- bT] at this ⊢
          show(numL v).length<=640
          exact AK this (by decide)
        · have:=hR v l3 hv (by rw[ev];simp) λe r=>by rw[ev];exact xN hp hc hx k e r rfl
          rw[ev] at this
          have e2:k+(pre++c::x).length=k+pre.length+1+x.length:=by simp;lia
          rw[e2] at this
          exact this
abbrev eX(V:Bx):Prop:=V.MM 5 "shift_from" jM xR
theorem zJ(T:V.T "shift_from" jL jM)(Fq:lu V)(uA:bX V):eX V:=by
 refine Tx.okM T sc_shift_from (λds M R RX h=>?_) (λf cdv A outer s H E J hr hx=>⟨_,((ay (aU 1 sc_shift_from.nd (aT Fq hx hr (aB (ac (aa 0) ae))))
   (ay (bS (aY (CalMth.one uA) hx hr (ai (aa 0)) (aB (ac aw ae))))
   (aG (aP (vy (aS (ai (aa 1)) (aS (aT Fq hx hr (aB (ac (aa 0) ae))) bf)))))))),λds M R RX b8 h=>?_⟩)
 ·obtain⟨_,_,_,_,rfl,_⟩:=h;rfl
 ·obtain⟨a,t,k,l,rfl,rfl,d0,hR,hX⟩:=h
  refine⟨λd M'=>∃ x l1,B12 x/\l=numL x++l1/\(∀ e r,walk (.num:: .sign e::r) l k=walk (.sign e::r) l1 (k+(numL x).length))/\d= .int x/\M'=RdM a t (k+(numL x).length),⟨a,t,k,l,rfl,rfl,d0,λx l' hx e hw=>⟨x,l',hx,e,hw,rfl,rfl⟩,λj hj M'=>?_⟩,?_⟩
  ·rw[b8];exact hX j (λr=>hj _) M'
  rintro _ _ ⟨x,l1,e8,rfl,o_,rfl,rfl⟩;k_places
  have c7:=d0.app
  refine⟨_,Ay.mpr rfl,_,aK,bF,a,t,_,l1,",",rfl,rfl,c7,λc l2 e hc=>?_,λc9 M'=>?_⟩
  ·have ec:c=44:=Ay.mp hc
   subst ec
   subst e
   refine⟨a,t,_,l2,rfl,rfl,c7.next,λy l' hy e hw=>?_,λj hj M'=>?_⟩
   ·subst e
    refine⟨by simp,hR x y l' e8 hy rfl λe r=>?_⟩
    rw[o_ 44 _,cY,hw e r]
   ·rw[b8]
    refine hX j (λr=>?_) M'
    rw[o_ 44 _,cY,hj]
  ·rw[b8]
   refine hX _ (λr=>?_) M'
   rw[o_ 44 _,cX λl' q=>c9 44 l' q (by decide)]
abbrev gE(V:Bx):Prop:=V.D 1 "levelled" jO wK
theorem zK(T:V.T "levelled" jN jO):gE V:=by
 refine Tx.okDW T sc_levelled (λds R h=>?_) (λf cdv A outer s H E J hr=>⟨_,((ah (eJ PassesOwn.never (cJ (af (aa 1) ad) ad) (ah (aj 2 sc_levelled.nd (sN (af (aa 0) ad) (af (aa 1) ad)))
    (ah (aj 3 sc_levelled.nd (ao (ac (bg (af (aa 0) ad) (av (aa 2) (af (aa 1) ad))) (ac (bg (af (aa 0) ad) (av (aa 2) (af (aa 1) ad))) ae))))
    (ah (aj 0 sc_levelled.nd (aa 1))
    (ar (aj 1 sc_levelled.nd (aa 3)))))))
   (ah (dv (eB (af (aa 0) ad) ad) (ar (aj 0 sc_levelled.nd (ao (ac (bD (af (aa 0) ad)) (ac (bD (af (aa 0) ad)) ae))))) bb)
   (ar (aE (ao (ac (aa 0) (ac (aa 1) ae)))))))),λds R h=>?_⟩)
 ·obtain⟨a,b,c,d,rfl,_⟩:=h;rfl
 ·obtain⟨a,b,c,d,rfl,hb,hd,hR⟩:=h
  refine⟨λm z=>∃ (f0 f1 s0 s1:Int) (t r:Option D),z=[some (.tup [.int f0,.int f1]),some (.tup [.int s0,.int s1]),t,r]/\Uni a b c d f0 f1 s0 s1/\f1.natAbs<4611686018427387904/\s1.natAbs<4611686018427387904/\m=s1.natAbs,⟨_,a,b,c,d,none,none,rfl,Uni.refl a b c d,hb,hd,rfl⟩,?_⟩
  rintro m z ⟨f0,f1,s0,s1,t,r,rfl,hu,hf,hs,rfl⟩;k_places
  refine⟨_,rfl,ite2 (λcc=>?_) (λcc=>?_)⟩
  ·have c':¬ s1=0:=by simpa using cc
   obtain⟨g1,g2⟩:=fdm f1 s1 c'
   refine⟨λd=>d= .int (f1.fdiv s1),⟨_,rfl,_,rfl,⟨c',hs⟩,rfl⟩,?_⟩;rintro _ rfl;k_places
   refine⟨λd=>d= .tup [.int (f0 - f1.fdiv s1*s0),.int (f1 - f1.fdiv s1*s1)],⟨_,rfl,_,rfl,.inl ⟨by lia,by lia⟩,_,rfl,_,rfl,.inl ⟨by lia,by lia⟩,by simp,rfl⟩,?_⟩;rintro _ rfl;k_places
   refine⟨λd=>d= .tup [.int s0,.int s1],rfl,?_⟩;rintro _ rfl;k_places
   refine⟨λd=>d= .tup [.int (f0 - f1.fdiv s1*s0),.int (f1 - f1.fdiv s1*s1)],rfl,?_⟩;rintro _ rfl;k_places
   exact⟨_,g1,s0,s1,_,_,_,_,rfl,hu.step _,hs,by lia,rfl⟩
  ·have c':s1=0:=by simpa using cc
   subst c'
   refine⟨λz=>∃ p0 p1:Int,z=[some (.tup [.int p0,.int p1]),some (.tup [.int s0,.int 0]),t,r]/\Lev a b c d p0 p1 s0,⟨_,rfl,ite2 (λe=>?_) (λe=>?_)⟩,?_⟩
   ·have e':=of_decide_eq_true e
    refine⟨λd=>d= .tup [.int (-f0),.int (-f1)],⟨_,rfl,_,rfl,by simp,rfl⟩,?_⟩;rintro _ rfl;k_places
    exact⟨_,_,rfl,by lia,hu.neg⟩
   ·have e':=of_decide_eq_false (A6.mpr e)
    exact⟨_,_,rfl,by lia,hu⟩
   ·rintro _ ⟨p0,p1,rfl,hL⟩;k_places
    exact⟨by simp,hR p0 p1 s0 hL⟩
abbrev gG(V:Bx):Prop:=V.D 2 "spread" jQ wL
theorem zL(T:V.T "spread" jP jQ)(uM:V.m "abs")(DO:gE V):gG V:=by
 refine Tx.okDW T sc_spread (λds R h=>?_) (λf cdv A outer s H E J hr=>⟨_,((ah (bA (bp (av (af (aa 0) ad) (af (aa 1) ad)) (av (af (aa 0) ad) (af (aa 1) ad))) (ar (aE bI)) bb)
   (ah (aj 2 sc_spread.nd (aA DO hr (ac (aa 0) (ac (aa 1) ae))))
   (ah (aj 3 sc_spread.nd (fv uM (ac (af (af (aa 2) ad) ad) ae)))
   (ar (aE (ao (ac (aa 3) (ac (af (af (aa 2) ad) ad) (ac (ax (af (af (aa 2) ad) ad) (aa 3)) ae)))))))))),λds R h=>?_⟩)
 ·obtain⟨a,b,c,d,rfl,_⟩:=h;rfl
 ·obtain⟨a,b,c,d,rfl,ha,hb,hc,hd,hN,hR⟩:=h
  refine⟨_,rfl,_,rfl,.inl ⟨by lia,by lia⟩,_,rfl,_,rfl,.inl ⟨by lia,by lia⟩,ite2 (λe=>?_) (λe=>?_)⟩
  ·exact hN (of_decide_eq_true e)
  ·have e':=of_decide_eq_false (A6.mpr e)
   refine⟨λx=>∃ p0 p1 q0:Int,x= .tup [.tup [.int p0,.int p1],.tup [.int q0,.int 0]]/\Lev a b c d p0 p1 q0,⟨a,b,c,d,rfl,hb,hd,λp0 p1 q0 hL=>⟨p0,p1,q0,rfl,hL⟩⟩,?_⟩
   rintro _ ⟨p0,p1,q0,rfl,hL⟩;k_places
   have hF:=eM e' hL
   refine⟨λx=>x= .int (if q0<0 then -q0 else q0),⟨_,rfl,_,rfl,rfl⟩,?_⟩;rintro _ rfl;k_places
   exact⟨_,rfl,_,rfl,_,rfl,_,rfl,hF.1,by simp,hR e' _ _ _ hF⟩
abbrev lv(V:Bx):Prop:=V.D 1 "home" jS wJ
theorem zM(T:V.T "home" jR jS):lv V:=by
 refine Tx.okDW T sc_home (λds R h=>?_) (λf cdv A outer s H E J hr=>⟨_,((ah (aj 3 sc_home.nd (af (aa 0) ad))
   (ah (aj 4 sc_home.nd (af (aa 0) ad))
   (ah (aj 5 sc_home.nd (af (aa 0) ad))
   (ar (aE (ao (ac (ax (bg (aa 1) (av (aW (aa 2) (aa 4)) (aa 5))) (aa 3)) (ac (ax (aa 2) (aa 4)) ae))))))))),λds R h=>?_⟩)
 ·obtain⟨w,h,s,x,y,rfl,_⟩:=h;rfl
 ·obtain⟨w,h,s,x,y,rfl,hw,hh,u_,hs,k8,hR⟩:=h
  refine⟨λd=>d= .int w,⟨_,rfl,rfl⟩,?_⟩;rintro _ rfl;k_places
  refine⟨λd=>d= .int h,⟨_,rfl,rfl⟩,?_⟩;rintro _ rfl;k_places
  refine⟨λd=>d= .int s,⟨_,rfl,rfl⟩,?_⟩;rintro _ rfl;k_places
  exact⟨⟨hh,u_⟩,.inr ⟨by lia,by lia⟩,hw,hh,by simp,hR⟩
abbrev lw(V:Bx):Prop:=V.MM 2 "hues_by_home" jU ya
theorem zN(T:V.T "hues_by_home" jT jU)(Fs:V.m "enumerate")(GZ:lv V)(uY:V.gs "SIGNS" ".123456"):lw V:=by
 refine Tx.okM T sc_hues_by_home (λds M R RX h=>?_) (λf cdv A outer s H E J hr hx=>⟨_,((ay (aU 2 sc_hues_by_home.nd wr)
   (ay (wg PassesOwn.leaving rfl Fs (ai (aa 0)) (dg_cons 3 sc_hues_by_home.nd (dg_cons 4 sc_hues_by_home.nd eI)) (aG (wj PassesOwn.leaving rfl Fs (ai (aa 4)) (dg_cons 5 sc_hues_by_home.nd (dg_cons 6 sc_hues_by_home.nd eI)) (aG (ot (bP (cJ (aa 6) aw)) (aG (bS (wt (sj hr) (ai (aa 2)) (aB (ac (aA GZ hr (ac (aa 1) (ac (aa 5) (ac (aa 3) ae)))) (ac (vk (iv uY) (ac (aa 6) ae)) ae)))))) bE)))))
   (ou 2 (aG (aP (ai (aa 2)))))))),λds M R RX b8 h=>?_⟩)
 ·obtain⟨_,_,_,_,_,rfl,_⟩:=h;rfl
 ·obtain⟨L,wd,w,h,s,rfl,hL,hw,hh,u_,hs,k8,hR⟩:=h
  have KI:=hL.w8
  refine⟨λd M'=>∃ p,p ∉ au M/\d= .ptr p/\M'=(p,.dti [])::M,λp hp=>⟨p,hp,rfl,rfl⟩,?_⟩
  rintro _ _ ⟨p,hp,rfl,rfl⟩;k_places
  refine⟨λj z M'=>∃ (kv:List ((Int × Int) × Int)) (x3 x4 x5 x6:Option D),hAll w h s j (L.drop j) kv=hAll w h s 0 L []/\kv.length<=8*j/\z=[some (.lst (lstD L)),some (.tup [.int w,.int h,.int s]),some (.ptr p),x3,x4,x5,x6]/\M'=(p,.dti kv)::M,⟨[],none,none,none,none,rfl,by simp,rfl,rfl⟩,?_,?_⟩
  ·rintro j d z M' hd ⟨kv,x3,x4,x5,x6,e1,JY,rfl,rfl⟩;k_places
   obtain⟨x,e8,rfl⟩:=xY hd
   have hj:j<L.length:=(AN.mp e8).1
   have KJ:=hL.many
   obtain⟨xl,xs⟩:=hL.each x (B7 e8)
   rw[pq e8] at e1
   refine⟨xX xs,λi z M'=>∃ (x9:List ((Int × Int) × Int)) (x5 x6:Option D),hRow w h s j i (x.drop i) x9=hRow w h s j 0 x kv/\x9.length<=8*j+i/\i<=x.length/\z=[some (.lst (lstD L)),some (.tup [.int w,.int h,.int s]),some (.ptr p),some (.int j),some (.str ⟨x.toArray⟩),x5,x6]/\M'=(p,.dti x9)::M,⟨kv,x5,x6,rfl,by lia,AY _,rfl,rfl⟩,?_,?_⟩
   ·rintro i d z M' E3 ⟨x9,y5,y6,e2,G0,hi,rfl,rfl⟩;k_places
    obtain⟨c,hc,rfl⟩:=xZ E3
    have EB:i<x.length:=(AN.mp hc).1
    have sc:=xs c (B7 hc)
    rw[pq hc,hRow] at e2
    refine⟨λz M'=>∃ EE:List ((Int × Int) × Int),hRow w h s j (i+1) (x.drop (i+1)) EE=hRow w h s j 0 x kv/\EE.length<=8*j+(i+1)/\z=[some (.lst (lstD L)),some (.tup [.int w,.int h,.int s]),some (.ptr p),some (.int j),some (.str ⟨x.toArray⟩),some (.int i),some (.str ⟨#[c]⟩)]/\M'=(p,.dti EE)::M,?_,?_⟩
    ·show if(!decide ((⟨#[c]⟩:Str)="."))=true then _ else _
     by_cases G1:c=46
     ·subst G1
      rw[if_pos rfl] at e2
      exact⟨x9,e2,by lia,rfl,rfl⟩
     ·rw[if_neg G1] at e2
      refine ifT (by simp[xi,G1]) ?_
      have c6:49<=c/\c<=54:=by unfold aF at sc;lia
      obtain⟨ix,rest,ho,Ee⟩:=xW c6
      refine⟨⟨_,cr⟩,w,h,s,i,j,rfl,hw,hh,u_,hs,k8,ix,rest,ho,_,cr,by have:=pp x9 (hmX w h s i j) ((j:Int) % h) ((c:Int) - 48);lia,λv=>?_⟩
      rw[pi,Ee]
      exact⟨_,e2,by have:=pp x9 (hmX w h s i j) ((j:Int) % h) ((c:Int) - 48);lia,rfl,rfl⟩
    ·rintro z M' ⟨EE,e3,h3,rfl,rfl⟩;k_places
     exact⟨EE,_,_,e3,h3,EB,rfl,rfl⟩
   ·rintro z M' hz
    rw[nX,cZ] at hz
    obtain⟨x9,y5,y6,e2,G0,hi,rfl,rfl⟩:=hz
    rw[Dd] at e2
    refine⟨x9,_,_,_,_,?_,by lia,rfl,rfl⟩
    rw[<- e1,hAll,<- e2]
    rfl
  ·rintro z M' hz
   rw[show(lstD L).length=L.length by simp[lstD]] at hz
   obtain⟨kv,x3,x4,x5,x6,e1,JY,rfl,rfl⟩:=hz
   rw[Dd] at e1
   refine⟨_,cr,?_⟩
   rw[iO]
   have e2:kv=hAll w h s 0 L []:=e1
   rw[<- e2] at hR
   exact hR
abbrev lx(V:Bx):Prop:=V.M 3 "Motif" jW yb
theorem zO(T:V.Ti "Motif" "Motif.__init__" jV jW)(DP:gG V)(G2:lw V)(uR:V.a "Motif" "place")(uK:V.a "Motif" "shifts")(G3:V.a "Motif" "hues"):lx V:=by
 refine Txi.okIM T yJ (λds R h=>?_) (λf cdv A outer s H E J hr hx=>⟨_,((ay (fQ uR (ai (aa 0)) (ai (aa 1)))
   (ay (fQ uK (ai (aa 0)) (ai (aA DP hr (ac (aa 3) (ac (aa 4) ae)))))
   (aG (fQ G3 (ai (aa 0)) (iC (oi (aV uK (ai (aa 0))) (ai bI)) wo (aT G2 hx hr (aS (ai (aa 2)) (aS (aV uK (ai (aa 0))) bf))))))))),λa ds R c9 h=>?_⟩)
 ·obtain⟨_,_,_,_,_,_,_,rfl,_⟩:=h;rfl
 ·obtain⟨k,L,wd,x,y,u,v,rfl,hL,e8,hy,hu,hv,h0,h1⟩:=h
  unfold B12 at e8 hy hu hv
  refine⟨_,bV,by show(0:Nat)<1000;decide,?_⟩
  rw[dJ,yc]
  refine⟨x,y,u,v,rfl,by lia,by lia,by lia,by lia,λe=>?_,λe w h s F=>?_⟩
  ·refine⟨_,bV,by show(1:Nat)<1000;decide,?_⟩
   rw[dJ,pr]
   refine⟨_,bV,_,iP,?_⟩
   refine⟨_,bV,by show(2:Nat)<1000;decide,?_⟩
   rw[dJ,pv]
   exact⟨_,rfl,h0 e⟩
  ·refine⟨_,bV,by show(1:Nat)<1000;decide,?_⟩
   rw[dJ,pr]
   refine⟨_,bV,_,iP,?_⟩
   obtain⟨b1,b2,b3⟩:=F.bd (N:=288) (by
    have m1:=bj (a:=x) (d:=v) (A:=12) (B:=12) (by lia) (by lia)
    have m2:=bj (a:=y) (d:=u) (A:=12) (B:=12) (by lia) (by lia)
    lia)
   refine⟨_,bV,_,iP,L,wd,w,h,s,rfl,hL,F.1,F.2.1,by lia,F.2.2.1,by lia,?_⟩
   refine⟨_,bV,by show(2:Nat)<1000;decide,?_⟩
   rw[dJ,pv]
   exact⟨_,rfl,h1 e w h s F⟩
abbrev gH(V:Bx):Prop:=V.MM 6 "motif_from" jY yk
theorem zP(T:V.T "motif_from" jX jY)(G4:lr V)(uO:eX V)(uD:V.a "Reading" "place")(G5:lx V)(uA:bX V):gH V:=by
  refine Tx.okM T sc_motif_from (λds M R RX h=>?_) (λf cdv A outer s H E J hr hx=>⟨_,((ay (aU 1 sc_motif_from.nd (aV uD (ai (aa 0))))
      (ay (bS (aY (CalMth.one uA) hx hr (ai (aa 0)) (aB (ac aw ae))))
      (ay (aU 2 sc_motif_from.nd (aT G4 hx hr (aB (ac (aa 0) ae))))
      (ay (bS (aY (CalMth.one uA) hx hr (ai (aa 0)) (aB (ac aw ae))))
      (ay (aU 3 sc_motif_from.nd (aT uO hx hr (aB (ac (aa 0) ae))))
      (ay (bS (aY (CalMth.one uA) hx hr (ai (aa 0)) (aB (ac aw ae))))
      (ay (aU 4 sc_motif_from.nd (aT uO hx hr (aB (ac (aa 0) ae))))
      (ay (bS (aY (CalMth.one uA) hx hr (ai (aa 0)) (aB (ac aw ae))))
      (aG (aP (ai (iw G5 hr (ac (aa 1) (ac (aa 2) (ac (aa 3) (ac (aa 4) ae))))))))))))))))),λds M R RX b8 h=>?_⟩)
  · obtain⟨_,_,_,_,rfl,_⟩:=h;rfl
  · obtain⟨a,t,k,l,rfl,rfl,d0,hR,hX⟩:=h
    refine⟨λd M'=>d= .int k/\M'=RdM a t k,⟨_,aK,_,cB,rfl,rfl⟩,?_⟩
    rintro _ _ ⟨rfl,rfl⟩;k_places
    refine⟨_,Ay.mpr rfl,_,aK,bF,a,t,_,l,"[",rfl,rfl,d0,λc l1 e hc=>?_,λc9 M'=>?_⟩
    · have ec:c=91:=Ay.mp hc
      subst ec
      subst e
      have hb:∀ r,walk (.pat 5::r) (91::l1) k=walk (motW r) l1 (k+1):=λr=>aC (by rw[bv];rfl)
      refine⟨λd M'=>∃ (L:List (List Nat)) (w:Nat) (l2:List Nat),RowsL L w/\l1=rowsL L++l2/\(∀ r,walk (.lin 0 0 0::r) l1 (k+1)=walk (.sign 59::r) l2 (k+1+(rowsL L).length))/\d= .lst (lstD L)/\M'=RdM a t (k+1+(rowsL L).length),⟨a,t,_,l1,rfl,rfl,d0.next,λL w l' h1 h2 h3=>⟨L,w,l',h1,h2,h3,rfl,rfl⟩,λj hj M'=>?_⟩,?_⟩
      · rw[b8]
        exact hX j (λr=>by rw[hb];exact hj _) M'
      rintro _ _ ⟨L,w,l2,hL,rfl,y_,rfl,rfl⟩;k_places
      have j8:=d0.next.app
      have Ex:∀ r,walk (.pat 5::r) (91::(rowsL L++l2)) k=walk (.sign 59:: .num:: .sign 44:: .num:: .sign 59:: .num:: .sign 44:: .num:: .sign 93::r) l2 (k+1+(rowsL L).length):=λr=>by rw[hb];exact y_ _
      refine⟨_,Ay.mpr rfl,_,aK,bF,a,t,_,l2,";",rfl,rfl,j8,λc l3 e hc=>?_,λc9 M'=>?_⟩
      · have ec:c=59:=Ay.mp hc
        subst ec
        subst e
        have x':=j8.next
        have G6:∀ r,walk (.pat 5::r) (91::(rowsL L++59::l3)) k=walk (.num:: .sign 44:: .num:: .sign 59:: .num:: .sign 44:: .num:: .sign 93::r) l3 (k+1+(rowsL L).length+1):=λr=>by rw[Ex,cY]
        refine⟨λd M'=>∃ x y l4,B12 x/\B12 y/\l3=numL x++44::(numL y++l4)/\(∀ e r,walk (.num:: .sign 44:: .num:: .sign e::r) l3 (k+1+(rowsL L).length+1)=walk (.sign e::r) l4 (k+1+(rowsL L).length+1+(numL x).length+1+(numL y).length))/\d= .tup [.int x,.int y]/\M'=RdM a t (k+1+(rowsL L).length+1+(numL x).length+1+(numL y).length),⟨a,t,_,l3,rfl,rfl,x',λx y l' h1 h2 h3 h4=>⟨x,y,l',h1,h2,h3,h4,rfl,rfl⟩,λj hj M'=>?_⟩,?_⟩
        · rw[b8]
          exact hX j (λr=>by rw[G6];exact hj _) M'
        rintro _ _ ⟨x,y,l4,e8,hy,rfl,Iw,rfl,rfl⟩;k_places
        have EF:At t (k+1+(rowsL L).length+1+(numL x).length+1+(numL y).length) l4:=x'.app.next.app
        refine⟨_,Ay.mpr rfl,_,aK,bF,a,t,_,l4,";",rfl,rfl,EF,λc l5 e hc=>?_,λc9 M'=>?_⟩
        · have ec:c=59:=Ay.mp hc
          subst ec
          subst e
          have EG:=EF.next
          have Ix:∀ r,walk (.pat 5::r) (91::(rowsL L++59::(numL x++44::(numL y++59::l5)))) k=walk (.num:: .sign 44:: .num:: .sign 93::r) l5 (k+1+(rowsL L).length+1+(numL x).length+1+(numL y).length+1):=λr=>by rw[G6,Iw,cY]
          refine⟨λd M'=>∃ u v l6,B12 u/\B12 v/\l5=numL u++44::(numL v++l6)/\(∀ e r,walk (.num:: .sign 44:: .num:: .sign e::r) l5 (k+1+(rowsL L).length+1+(numL x).length+1+(numL y).length+1)=walk (.sign e::r) l6 (k+1+(rowsL L).length+1+(numL x).length+1+(numL y).length+1+(numL u).length+1+(numL v).length))/\d= .tup [.int u,.int v]/\M'=RdM a t (k+1+(rowsL L).length+1+(numL x).length+1+(numL y).length+1+(numL u).length+1+(numL v).length),⟨a,t,_,l5,rfl,rfl,EG,λx y l' h1 h2 h3 h4=>⟨x,y,l',h1,h2,h3,h4,rfl,rfl⟩,λj hj M'=>?_⟩,?_⟩
          · rw[b8]
            exact hX j (λr=>by rw[Ix];exact hj _) M'
          rintro _ _ ⟨u,v,l6,hu,hv,rfl,Iy,rfl,rfl⟩;k_places
          have G7:At t (k+1+(rowsL L).length+1+(numL x).length+1+(numL y).length+1+(numL u).length+1+(numL v).length) l6:=EG.app.next.app
          refine⟨_,Ay.mpr rfl,_,aK,bF,a,t,_,l6,"]",rfl,rfl,G7,λc l7 e hc=>?_,λc9 M'=>?_⟩
          · have ec:c=93:=Ay.mp hc
            subst ec
            subst e
            obtain⟨JZ,Iz⟩:=yj hL
            have IA:(Pat.mot (L.map λx=>(⟨x.toArray⟩:Str)) x y u v).tl=motL L x y u v:=by rw[Pat.tl,Iz]
            have EH:∀ w,FormOf (Pat.mot (L.map λx=>(⟨x.toArray⟩:Str)) x y u v) k w->R w (RdM a t (k+1+(rowsL L).length+1+(numL x).length+1+(numL y).length+1+(numL u).length+1+(numL v).length+1)):=λw hw=>by
              have:=hR (Pat.mot (L.map λx=>(⟨x.toArray⟩:Str)) x y u v) l7 ⟨JZ,e8,hy,hu,hv⟩ rfl (by rw[IA];simp[motL]) w hw
              rw[IA] at this
              have e:k+(motL L x y u v).length=k+1+(rowsL L).length+1+(numL x).length+1+(numL y).length+1+(numL u).length+1+(numL v).length+1:=by
                simp[motL];lia
              rw[e] at this
              exact this
            refine⟨k,L,w,x,y,u,v,rfl,hL,e8,hy,hu,hv,λe=>?_,λe w h s F=>?_⟩
            · exact EH _ ⟨.non,[],rfl,λ_=>rfl,λz=>absurd e z⟩
            · exact EH _ ⟨_,_,rfl,λz=>absurd z e,λ_=>⟨w,h,s,F,rfl,by rw[Iz]⟩⟩
          · rw[b8]
            refine hX _ (λr=>?_) M'
            rw[Ix,Iy,cX λl' q=>c9 93 l' q (by decide)]
        · rw[b8]
          refine hX _ (λr=>?_) M'
          rw[G6,Iw,cX λl' q=>c9 59 l' q (by decide)]
      · rw[b8]
        refine hX _ (λr=>?_) M'
        rw[Ex,cX λl' q=>c9 59 l' q (by decide)]
    · rw[b8]
      refine hX _ (λr=>?_) M'
      refine walk_bad (λz=>nomatch z) λc l' q=>?_
      rw[bv]
      unfold bu
      have:¬ c=91:=λz=>c9 c l' q (by rw[z];decide)
      rw[if_neg this,if_pos rfl]
abbrev gI(V:Bx):Prop:=V.M 1 "Mirror" kd yf
theorem zQ(T:V.Ti "Mirror" "Mirror.__init__" jZ kd)(uW:V.a "Mirror" "form"):gI V:=by
 refine Txi.okI T yL (λds R h=>?_) (λf cdv A outer s H E J hr=>⟨_,((bq uW (aa 1) cN)),λds R h=>?_⟩)
 ·obtain⟨_,_,rfl,_⟩:=h;rfl
 ·obtain⟨x,fs,rfl,hR⟩:=h
  exact⟨by decide,hR⟩
abbrev gJ(V:Bx):Prop:=V.M 1 "Turn" kg yg
theorem zR(T:V.Ti "Turn" "Turn.__init__" ke kg)(uV:V.a "Turn" "form"):gJ V:=by
 refine Txi.okI T yM (λds R h=>?_) (λf cdv A outer s H E J hr=>⟨_,((bq uV (aa 1) cN)),λds R h=>?_⟩)
 ·obtain⟨_,_,rfl,_⟩:=h;rfl
 ·obtain⟨x,fs,rfl,hR⟩:=h
  exact⟨by decide,hR⟩
abbrev gK(V:Bx):Prop:=V.M 1 "Over" ki yd
theorem zS(T:V.Ti "Over" "Over.__init__" kh ki)(uU:V.a "Over" "above")(uX:V.a "Over" "below"):gK V:=by
 refine Txi.okI T yO (λds R h=>?_) (λf cdv A outer s H E J hr=>⟨_,((bq uU (aa 1) (bq uX (aa 2) cN))),λds R h=>?_⟩)
 ·obtain⟨_,_,_,_,rfl,_⟩:=h;rfl
 ·obtain⟨x,y,fs,gs,rfl,hR⟩:=h
  refine⟨by decide,by show(1:Nat)<1000;decide,?_⟩
  show R (putD _ _ (putD _ _ []))
  rw[putD,putD,if_neg (by decide+kernel)]
  exact hR
abbrev gL(V:Bx):Prop:=V.M 1 "Shifted" km ye
theorem zT(T:V.Ti "Shifted" "Shifted.__init__" kj km)(uT:V.a "Shifted" "form")(G8:V.a "Shifted" "x")(G9:V.a "Shifted" "y"):gL V:=by
 refine Txi.okI T yQ (λds R h=>?_) (λf cdv A outer s H E J hr=>⟨_,((bq uT (aa 1) (bq G8 (aa 2) (bq G9 (aa 3) cN)))),λds R h=>?_⟩)
 ·obtain⟨_,_,_,_,rfl,_⟩:=h;rfl
 ·obtain⟨x,fs,a,b,rfl,hR⟩:=h
  refine⟨by decide,by show(1:Nat)<1000;decide,by show(2:Nat)<1000;decide,?_⟩
  show R (putD _ _ (putD _ _ (putD _ _ [])))
  rw[show putD ("x":Str) (.int a) (putD ("form":Str) (.obj x fs) [])=([("form",.obj x fs),("x",.int a)]:List (Str × D)) by rw[putD,putD,if_neg (by decide+kernel)];rfl,putD,if_neg (by decide+kernel),putD,if_neg (by decide+kernel)]
  exact hR
abbrev gM(V:Bx):Prop:=V.M 1 "Rehue" kq yi
theorem zU(T:V.Ti "Rehue" "Rehue.__init__" ko kq)(uQ:V.a "Rehue" "form")(G':V.a "Rehue" "old")(G_:V.a "Rehue" "new"):gM V:=by
 refine Txi.okI T yR (λds R h=>?_) (λf cdv A outer s H E J hr=>⟨_,((bq uQ (aa 1) (bq G' (aa 2) (bq G_ (aa 3) cN)))),λds R h=>?_⟩)
 ·obtain⟨_,_,_,_,rfl,_⟩:=h;rfl
 ·obtain⟨x,fs,a,b,rfl,hR⟩:=h
  refine⟨by decide,by show(1:Nat)<1000;decide,by show(2:Nat)<1000;decide,?_⟩
  show R (putD _ _ (putD _ _ (putD _ _ [])))
  rw[show putD ("old":Str) (.int a) (putD ("form":Str) (.obj x fs) [])=([("form",.obj x fs),("old",.int a)]:List (Str × D)) by rw[putD,putD,if_neg (by decide+kernel)];rfl,putD,if_neg (by decide+kernel),putD,if_neg (by decide+kernel)]
  exact hR
theorem zV{n j:Nat}(hL:6<=n)(T:V.T "over_from" fY eQ)(uH:V.MM n "form_from" bW (cE j))(EI:gK V)(uA:bX V):V.MM (n+1) "over_from" eQ (pz j):=by
 refine Tx.okM T sc_over_from (λds M R RX h=>?_) (λf cdv A outer s H E J hr hx=>⟨_,((ay (aU 2 sc_over_from.nd (aT (hn:=by omega) uH hx hr (aB (ac (aa 0) (ac (aa 1) ae)))))
   (ay (bS (aY (hn:=by omega) (CalMth.one uA) hx hr (ai (aa 0)) (aB (ac aw ae))))
   (ay (aU 3 sc_over_from.nd (aT (hn:=by omega) uH hx hr (aB (ac (aa 0) (ac (aa 1) ae)))))
   (ay (bS (aY (hn:=by omega) (CalMth.one uA) hx hr (ai (aa 0)) (aB (ac aw ae))))
   (aG (aP (ai (iw (hn:=by omega) EI hr (ac (aa 2) (ac (aa 3) ae))))))))))),λds M R RX b8 h=>?_⟩)
 ·obtain⟨_,_,_,_,_,rfl,_⟩:=h;rfl
 ·obtain⟨a,t,k,l,d,rfl,rfl,d0,Ds,w_,hR,hX⟩:=h
  refine⟨λv M'=>∃ p l1,p.Syn/\p.depth+d<=5/\l=p.tl++l1/\FormOf p k v/\M'=RdM a t (k+p.tl.length),⟨a,t,k,l,d,rfl,rfl,d0,Ds,w_,λp l' h1 h2 h3 v h4=>⟨p,l',h1,h2,h3,h4,rfl⟩,λi hi M'=>?_⟩,?_⟩
  ·rw[b8];exact hX i (λr=>hi _) M'
  rintro v _ ⟨p,l1,hp,Ha,rfl,hv,rfl⟩;k_places
  obtain⟨fs,rfl⟩:=hv.obj
  have c7:=d0.app
  have o_:∀ r,walk (.pat d:: .sign 124:: .pat d:: .sign 41::r) (p.tl++l1) k=walk (.sign 124:: .pat d:: .sign 41::r) l1 (k+p.tl.length):=λr=>bU hp d _ l1 k Ha
  refine⟨_,Ay.mpr rfl,_,aK,bF,a,t,_,l1,"|",rfl,rfl,c7,λc l2 e hc=>?_,λc9 M'=>?_⟩
  ·have ec:c=124:=Ay.mp hc
   subst ec
   subst e
   refine⟨λv M'=>∃ q l3,q.Syn/\q.depth+d<=5/\l2=q.tl++l3/\FormOf q (k+p.tl.length+1) v/\M'=RdM a t (k+p.tl.length+1+q.tl.length),⟨a,t,_,l2,d,rfl,rfl,c7.next,Ds,w_,λp l' h1 h2 h3 v h4=>⟨p,l',h1,h2,h3,h4,rfl⟩,λi hi M'=>?_⟩,?_⟩
   ·rw[b8];exact hX i (λr=>by rw[o_,cY];exact hi _) M'
   rintro v _ ⟨q,l3,hq,IB,rfl,IC,rfl⟩;k_places
   obtain⟨gs,rfl⟩:=IC.obj
   have x':=c7.next.app
   have J0:∀ r,walk (.pat d:: .sign 124:: .pat d:: .sign 41::r) (p.tl++124::(q.tl++l3)) k=walk (.sign 41::r) l3 (k+p.tl.length+1+q.tl.length):=λr=>by rw[o_,cY,bU hq d _ l3 _ IB]
   refine⟨_,Ay.mpr rfl,_,aK,bF,a,t,_,l3,")",rfl,rfl,x',λc l4 e hc=>?_,λc9 M'=>?_⟩
   ·have ec:c=41:=Ay.mp hc
    subst ec
    subst e
    exact⟨_,_,_,_,rfl,hR p q l4 hp hq Ha IB rfl _ _ hv IC⟩
   ·rw[b8]
    refine hX _ (λr=>?_) M'
    rw[J0,cX λl' q=>c9 41 l' q (by decide)]
  ·rw[b8]
   refine hX _ (λr=>?_) M'
   rw[o_,cX λl' q=>c9 124 l' q (by decide)]
theorem zW{n j:Nat}(hL:6<=n)(T:V.T "shifted_from" fZ eU)(uO:eX V)(uH:V.MM n "form_from" bW (cE j))(EJ:gL V)(uA:bX V):V.MM (n+1) "shifted_from" eU (pA j):=by
 refine Tx.okM T sc_shifted_from (λds M R RX h=>?_) (λf cdv A outer s H E J hr hx=>⟨_,((ay (aU 2 sc_shifted_from.nd (aT (hn:=by omega) uO hx hr (aB (ac (aa 0) ae))))
   (ay (bS (aY (hn:=by omega) (CalMth.one uA) hx hr (ai (aa 0)) (aB (ac aw ae))))
   (aG (aP (fO (hn:=by omega) EJ hr (aS (aT (hn:=by omega) uH hx hr (aB (ac (aa 0) (ac (aa 1) ae)))) (aS (ai (af (aa 2) ad)) (aS (ai (af (aa 2) ad)) bf))))))))),λds M R RX b8 h=>?_⟩)
 ·obtain⟨_,_,_,_,_,rfl,_⟩:=h;rfl
 ·obtain⟨a,t,k,l,d,rfl,rfl,d0,Ds,w_,hR,hX⟩:=h
  refine⟨λv M'=>∃ x y l1,B12 x/\B12 y/\l=numL x++44::(numL y++l1)/\(∀ e r,walk (.num:: .sign 44:: .num:: .sign e::r) l k=walk (.sign e::r) l1 (k+(numL x).length+1+(numL y).length))/\v= .tup [.int x,.int y]/\M'=RdM a t (k+(numL x).length+1+(numL y).length),⟨a,t,_,l,rfl,rfl,d0,λx y l' h1 h2 h3 h4=>⟨x,y,l',h1,h2,h3,h4,rfl,rfl⟩,λi hi M'=>?_⟩,?_⟩
  ·rw[b8];exact hX i (λr=>hi _) M'
  rintro _ _ ⟨x,y,l1,e8,hy,rfl,o_,rfl,rfl⟩;k_places
  have c7:At t (k+(numL x).length+1+(numL y).length) l1:=d0.app.next.app
  refine⟨_,Ay.mpr rfl,_,aK,bF,a,t,_,l1,":",rfl,rfl,c7,λc l2 e hc=>?_,λc9 M'=>?_⟩
  ·have ec:c=58:=Ay.mp hc
   subst ec
   subst e
   refine⟨a,t,_,l2,d,rfl,rfl,c7.next,Ds,w_,λp l' h1 h2 h3 v h4=>?_,λi hi M'=>?_⟩
   ·obtain⟨fs,rfl⟩:=h4.obj
    subst h3
    exact⟨_,rfl,_,rfl,_,_,_,_,rfl,hR x y p l' e8 hy h1 h2 rfl _ h4⟩
   ·rw[b8]
    refine hX i (λr=>?_) M'
    rw[o_,cY];exact hi _
  ·rw[b8]
   refine hX _ (λr=>?_) M'
   rw[o_,cX λl' q=>c9 58 l' q (by decide)]
theorem zX{n j:Nat}(hL:6<=n)(T:V.T "rehue_from" gc eV)(uI:V.m "int")(uH:V.MM n "form_from" bW (cE j))(EK:gM V)(uA:bX V):V.MM (n+1) "rehue_from" eV (pB j):=by
 refine Tx.okM T sc_rehue_from (λds M R RX h=>?_) (λf cdv A outer s H E J hr hx=>⟨_,((ay (aU 2 sc_rehue_from.nd (ol uI (aS (aY (hn:=by omega) (CalMth.one uA) hx hr (ai (aa 0)) (aB (ac aw ae))) bf)))
   (ay (aU 3 sc_rehue_from.nd (ol uI (aS (aY (hn:=by omega) (CalMth.one uA) hx hr (ai (aa 0)) (aB (ac aw ae))) bf)))
   (aG (aP (fO (hn:=by omega) EK hr (aS (aT (hn:=by omega) uH hx hr (aB (ac (aa 0) (ac (aa 1) ae)))) (aS (ai (aa 2)) (aS (ai (aa 3)) bf))))))))),λds M R RX b8 h=>?_⟩)
 ·obtain⟨_,_,_,_,_,rfl,_⟩:=h;rfl
 ·obtain⟨a,t,k,l,d,rfl,rfl,d0,Ds,w_,hR,hX⟩:=h
  refine⟨λv M'=>∃ c l1,(49<=c/\c<=54)/\l=c::l1/\v= .int ((c:Int) - 48)/\M'=RdM a t (k+1),⟨_,Ay.mpr rfl,_,aK,bF,a,t,_,l,"123456",rfl,rfl,d0,λc l1 e hc=>?_,λc9 M'=>?_⟩,?_⟩
  ·exact⟨_,⟨digit_of (hue_dig.mp hc),by show(1:Nat)<=640;decide⟩,c,l1,hue_dig.mp hc,e,rfl,rfl⟩
  ·rw[b8]
   exact hX _ (λr=>pw c9) M'
  rintro _ _ ⟨c,l1,hc,rfl,rfl,rfl⟩;k_places
  refine⟨λv M'=>∃ e l2,(49<=e/\e<=54)/\l1=e::l2/\v= .int ((e:Int) - 48)/\M'=RdM a t (k+2),⟨_,Ay.mpr rfl,_,aK,bF,a,t,_,l1,"123456",rfl,rfl,d0.next,λc l1 e hc=>?_,λc9 M'=>?_⟩,?_⟩
  ·exact⟨_,⟨digit_of (hue_dig.mp hc),by show(1:Nat)<=640;decide⟩,c,l1,hue_dig.mp hc,e,rfl,rfl⟩
  ·rw[b8]
   exact hX _ (λr=>by rw[iQ hc,pw c9]) M'
  rintro _ _ ⟨e,l2,he,rfl,rfl,rfl⟩;k_places
  refine⟨a,t,_,l2,d,rfl,rfl,d0.next.next,Ds,w_,λp l' h1 h2 h3 v h4=>?_,λi hi M'=>?_⟩
  ·obtain⟨fs,rfl⟩:=h4.obj
   subst h3
   exact⟨_,_,_,_,rfl,hR c e p l' hc he h1 h2 rfl _ h4⟩
  ·rw[b8]
   refine hX i (λr=>?_) M'
   rw[iQ hc,iQ he];exact hi _
theorem zY{n j:Nat}(hL:6<=n)(T:V.T "form_from" gf bW)(J1:V.MM n "over_from" eQ (pz j))(J2:V.MM n "shifted_from" eU (pA j))(uH:V.MM n "form_from" bW (cE j))(J3:V.MM n "rehue_from" eV (pB j))(EL:gH V)(EM:V.gi "DEEP" 5)(EN:gI V)(EO:gJ V)(uF:cF V):V.MM (n+1) "form_from" bW (cE (j+1)):=by
 refine Tx.okM T sc_form_from (λds M R RX h=>?_) (λf cdv A outer s H E J hr hx=>⟨_,((ay (aU 2 sc_form_from.nd (iC (bP (eB (aa 1) (dB EM))) (aY (hn:=by omega) (CalMth.one uF) hx hr (ai (aa 0)) (aB (ac aw ae))) (ai aw)))
   (ay (bK (bP (bp (aa 2) aw)) (aG (aP (aT (hn:=by omega) J1 hx hr (aB (ac (aa 0) (ac (am (aa 1) ad) ae)))))) bE)
   (ay (bK (bP (bp (aa 2) aw)) (aG (aP (aT (hn:=by omega) J2 hx hr (aB (ac (aa 0) (ac (am (aa 1) ad) ae)))))) bE)
   (ay (bK (bP (bp (aa 2) aw)) (aG (aP (fO (hn:=by omega) EN hr (aS (aT (hn:=by omega) uH hx hr (aB (ac (aa 0) (ac (am (aa 1) ad) ae)))) bf)))) bE)
   (ay (bK (bP (bp (aa 2) aw)) (aG (aP (fO (hn:=by omega) EO hr (aS (aT (hn:=by omega) uH hx hr (aB (ac (aa 0) (ac (am (aa 1) ad) ae)))) bf)))) bE)
   (ay (bK (bP (bp (aa 2) aw)) (aG (aP (aT (hn:=by omega) J3 hx hr (aB (ac (aa 0) (ac (am (aa 1) ad) ae)))))) bE)
   (aG (aP (aT (hn:=by omega) EL hx hr (aB (ac (aa 0) ae)))))))))))),λds M R RX b8 h=>?_⟩)
 ·obtain⟨_,_,_,_,_,rfl,_⟩:=h;rfl
 ·obtain⟨a,t,k,l,d,rfl,rfl,d0,Ds,w_,hR,hX⟩:=h
  have KL:d<=5:=by lia
  refine⟨λv M'=>(v= .str ""/\M'=RdM a t k/\(d=5\/∀ c l',l=c::l'->c ∉ cs "(smth"))\/(∃ c l',l=c::l'/\c∈cs "(smth"/\d<5/\v= .str ⟨#[c]⟩/\M'=RdM a t (k+1)),?_,?_⟩
  ·show if decide ((d:Int)<5)=true then _ else _
   refine ite2 (λc=>?_) (λc=>?_)
   ·have c':d<5:=by have:=of_decide_eq_true c;lia
    refine⟨_,Ay.mpr rfl,_,aK,cq,a,t,_,l,"(smth",rfl,rfl,d0,?_⟩
    by_cases h:∃ c l',l=c::l'/\c∈cs "(smth"
    ·obtain⟨c,l',rfl,hc⟩:=h
     rw[cU hc,cV hc]
     exact .inr ⟨c,l',rfl,hc,c',rfl,rfl⟩
    ·have c9:∀ c l',l=c::l'->c ∉ cs "(smth":=λc l' e hc=>h ⟨c,l',e,hc⟩
     have hm:mayS "(smth" l=""/\mayN "(smth" l=0:=by
      cases l with
      |nil=>exact⟨rfl,rfl⟩
      |cons c l=>exact⟨cC (c9 c l rfl),cD (c9 c l rfl)⟩
     rw[hm.1,hm.2]
     exact .inl ⟨rfl,rfl,.inr c9⟩
   ·have c':d=5:=by
     have:¬ ((d:Int)<5):=λz=>c (decide_eq_true z)
     lia
    exact .inl ⟨rfl,rfl,.inl c'⟩
  rintro _ _ (⟨rfl,rfl,c9⟩|⟨c,l1,rfl,hc,g9,rfl,rfl⟩);k_places
  ·refine⟨a,t,k,l,rfl,rfl,d0,λp l' h1 h2 h3 v h4=>hR p l' h1 (by lia) h3 v h4,λi hi M'=>?_⟩
   rw[b8]
   exact hX i (λr=>by rw[yl c9];exact hi r) M'
  have c7:=d0.next
  have hj:1<=j:=by lia
  have J4:cs "(smth"=[40,115,109,116,104]:=rfl
  rw[J4] at hc
  simp only[AA,BL,or_false] at hc
  have nd:¬ d=5:=by lia
  rcases hc with rfl|rfl|rfl|rfl|rfl
  ·have hw:∀ r,walk (.pat d::r) (40::l1) k=walk (.pat (d+1):: .sign 124:: .pat (d+1):: .sign 41::r) l1 (k+1):=λr=>aC (by rw[bv];unfold bu;rw[if_neg (by decide),if_neg nd,if_pos rfl])
   refine⟨a,t,k+1,l1,d+1,rfl,rfl,c7,by lia,hj,λp q l' h1 h2 h3 h4 h5 u u' h6 h7=>?_,λi hi M'=>?_⟩
   ·have:=hR (.over p q) l' ⟨h1,h2⟩ (by rw[Pat.depth];lia) (by rw[h5,Pat.tl];simp) _ ⟨u,u',rfl,h6,h7⟩
    have e:k+(Pat.over p q).tl.length=k+1+p.tl.length+1+q.tl.length+1:=by rw[Pat.tl];simp;lia
    rw[e] at this
    exact this
   ·rw[b8];exact hX i (λr=>by rw[hw];exact hi r) M'
  ·have hw:∀ r,walk (.pat d::r) (115::l1) k=walk (.num:: .sign 44:: .num:: .sign 58:: .pat (d+1)::r) l1 (k+1):=λr=>aC (by rw[bv];unfold bu;rw[if_neg (by decide),if_neg nd,if_neg (by decide),if_pos rfl])
   refine⟨a,t,k+1,l1,d+1,rfl,rfl,c7,by lia,hj,λx y p l' h1 h2 h3 h4 h5 u h6=>?_,λi hi M'=>?_⟩
   ·have:=hR (.sh x y p) l' ⟨h1,h2,h3⟩ (by rw[Pat.depth];lia) (by rw[h5,Pat.tl];simp) _ ⟨u,rfl,h6⟩
    have e:k+(Pat.sh x y p).tl.length=k+1+(numL x).length+1+(numL y).length+1+p.tl.length:=by rw[Pat.tl];simp;lia
    rw[e] at this
    exact this
   ·rw[b8];exact hX i (λr=>by rw[hw];exact hi r) M'
  ·have hw:∀ r,walk (.pat d::r) (109::l1) k=walk (.pat (d+1)::r) l1 (k+1):=λr=>aC (by rw[bv];unfold bu;rw[if_neg (by decide),if_neg nd,if_neg (by decide),if_neg (by decide),if_neg (by decide),if_pos (.inl rfl)])
   refine⟨a,t,k+1,l1,d+1,rfl,rfl,c7,by lia,hj,λp l' h1 h2 h3 v h4=>?_,λi hi M'=>?_⟩
   ·obtain⟨fs,rfl⟩:=h4.obj
    have:=hR (.mir p) l' h1 (by rw[Pat.depth];lia) (by rw[h3,Pat.tl];simp) _ ⟨_,rfl,h4⟩
    have e:k+(Pat.mir p).tl.length=k+1+p.tl.length:=by rw[Pat.tl];simp;lia
    rw[e] at this
    exact⟨_,_,rfl,this⟩
   ·rw[b8];exact hX i (λr=>by rw[hw];exact hi r) M'
  ·have hw:∀ r,walk (.pat d::r) (116::l1) k=walk (.pat (d+1)::r) l1 (k+1):=λr=>aC (by rw[bv];unfold bu;rw[if_neg (by decide),if_neg nd,if_neg (by decide),if_neg (by decide),if_neg (by decide),if_pos (.inr rfl)])
   refine⟨a,t,k+1,l1,d+1,rfl,rfl,c7,by lia,hj,λp l' h1 h2 h3 v h4=>?_,λi hi M'=>?_⟩
   ·obtain⟨fs,rfl⟩:=h4.obj
    have:=hR (.tur p) l' h1 (by rw[Pat.depth];lia) (by rw[h3,Pat.tl];simp) _ ⟨_,rfl,h4⟩
    have e:k+(Pat.tur p).tl.length=k+1+p.tl.length:=by rw[Pat.tl];simp;lia
    rw[e] at this
    exact⟨_,_,rfl,this⟩
   ·rw[b8];exact hX i (λr=>by rw[hw];exact hi r) M'
  ·have hw:∀ r,walk (.pat d::r) (104::l1) k=walk (.hue:: .hue:: .pat (d+1)::r) l1 (k+1):=λr=>aC (by rw[bv];unfold bu;rw[if_neg (by decide),if_neg nd,if_neg (by decide),if_neg (by decide),if_pos rfl])
   refine⟨a,t,k+1,l1,d+1,rfl,rfl,c7,by lia,hj,λc e p l' h1 h2 h3 h4 h5 u h6=>?_,λi hi M'=>?_⟩
   ·have:=hR (.hue ((c:Int) - 48) ((e:Int) - 48) p) l' ⟨by lia,by lia,h3⟩ (by rw[Pat.depth];lia) (by rw[h5,Pat.tl,fV h1,fV h2];simp) _ ⟨u,rfl,h6⟩
    have e:k+(Pat.hue ((c:Int) - 48) ((e:Int) - 48) p).tl.length=k+1+2+p.tl.length:=by rw[Pat.tl,fV h1,fV h2];simp;lia
    rw[e] at this
    exact this
   ·rw[b8];exact hX i (λr=>by rw[hw];exact hi r) M'
theorem zZ(J5:V.T "over_from" fY eQ)(J6:V.T "shifted_from" fZ eU)(J7:V.T "rehue_from" gc eV)(ID:V.T "form_from" gf bW)(EI:gK V)(uA:bX V)(uO:eX V)(EJ:gL V)(uI:V.m "int")(EK:gM V)(EL:gH V)(EM:V.gi "DEEP" 5)(EN:gI V)(EO:gJ V)(uF:cF V):∀ j,V.MM (6+2*j) "form_from" bW (cE j):=by
 intro j
 induction j with
 |zero=>exact CalMM.never ID (λds M R RX=>ym)
 |succ j ih=>
  have EQ:=ih
  have Hb:=zV (n:=6+2*j) (j:=j) (by omega) J5 EQ EI uA
  have Hc:=zW (n:=6+2*j) (j:=j) (by omega) J6 uO EQ EJ uA
  have Hd:=zX (n:=6+2*j) (j:=j) (by omega) J7 uI EQ EK uA
  have EQ:=Cal.mono ih (Bn _)
  exact zY (n:=6+2*j+1) (j:=j) (by omega) ID Hb Hc EQ Hd EL EM EN EO uF
abbrev ly(V:Bx):Prop:=V.M 1 "Reading" ku xJ
theorem Aa(T:V.Ti "Reading" "Reading.__init__" kr ku)(uS:V.a "Reading" "text")(uD:V.a "Reading" "place"):ly V:=by
 refine Txi.okI T yT (λds R h=>?_) (λf cdv A outer s H E J hr=>⟨_,((bq uS (aa 1) (bq uD ad cN))),λds R h=>?_⟩)
 ·obtain⟨_,rfl,_⟩:=h;rfl
 ·obtain⟨t,rfl,hR⟩:=h
  refine⟨by decide,by show(1:Nat)<1000;decide,?_⟩
  show R (putD _ _ (putD _ _ []))
  rw[putD,putD,if_neg (by decide+kernel)]
  exact hR
abbrev lz(V:Bx):Prop:=V.M 1 "Pattern" kz yt
theorem Ab(T:V.Ti "Pattern" "Pattern.__init__" ky kz)(uZ:V.a "Pattern" "text")(DQ:V.a "Pattern" "shifts")(Hf:V.a "Pattern" "form"):lz V:=by
 refine Txi.okI T yU (λds R h=>?_) (λf cdv A outer s H E J hr=>⟨_,((bq uZ (aa 1) (bq DQ (aa 2) (bq Hf (aa 3) cN)))),λds R h=>?_⟩)
 ·obtain⟨_,_,_,_,_,_,rfl,_⟩:=h;rfl
 ·obtain⟨t,w,h,s,x,fs,rfl,hR⟩:=h
  refine⟨by decide,by show(1:Nat)<1000;decide,by show(2:Nat)<1000;decide,?_⟩
  show R (putD _ _ (putD _ _ (putD _ _ [])))
  rw[show putD ("shifts":Str) (.tup [.int w,.int h,.int s]) (putD ("text":Str) (.str t) [])=([("text",.str t),("shifts",.tup [.int w,.int h,.int s])]:List (Str × D)) by rw[putD,putD,if_neg (by decide+kernel)];rfl,putD,if_neg (by decide+kernel),putD,if_neg (by decide+kernel)]
  exact hR
abbrev gN(V:Bx):Prop:=V.E 1 "OneLine" kB yw
theorem Ac(T:V.Te "OneLine" "OneLine.__init__" kA kB)(DN:V.b "MotifError")(uAE:V.ea "OneLine")(Hg:V.xf "OneLine" "place"):gN V:=by
 refine Txe.okE T yV (λds R h=>?_) (λf cdv A outer s H E J hr=>⟨_,((nS DN uAE (ac (aa 1) ae) (nU uAE Hg (aa 1) nR))),λds R h=>?_⟩)
 ·obtain⟨i,rfl,_⟩:=h;rfl
 ·obtain⟨i,rfl,hR⟩:=h
  exact⟨by show(1:Nat)<=1000;decide,rfl,hR⟩
abbrev lC(V:Bx):Prop:=V.D 2 "measure" kD wO
theorem Ad(T:V.T "measure" kC kD)(DO:gE V):lC V:=by
 refine Tx.okDW T sc_measure (λds R h=>?_) (λf cdv A outer s H E J hr=>⟨_,((ah (aj 2 sc_measure.nd (af (aA DO hr (ac (ao (ac ad (ac (aa 0) ae))) (ac (ao (ac ad (ac (aa 1) ae))) ae))) ad))
   (ar (aE (ao (ac (af (aa 2) ad) (ac (af (aa 2) ad) ae))))))),λds R h=>?_⟩)
 ·obtain⟨x,y,rfl,_⟩:=h;rfl
 ·obtain⟨x,y,rfl,hx,hy,hR⟩:=h
  refine⟨λd=>∃ p0 p1:Int,d= .tup [.int p0,.int p1]/\Meas x y p1 p0,⟨by simp,by simp,1,x,0,y,rfl,hx,hy,λp0 p1 q0 hL=>⟨_,rfl,p0,p1,rfl,oH ⟨hL.1,hL.2⟩⟩⟩,?_⟩
  rintro _ ⟨p0,p1,rfl,hM⟩;k_places
  exact⟨_,rfl,_,rfl,by simp,hR p1 p0 hM⟩
abbrev gO(V:Bx):Prop:=V.D 3 "met" kF wP
theorem Ae(T:V.T "met" kE kF)(ER:lC V):gO V:=by
 refine Tx.okDW T sc_met (λds R h=>?_) (λf cdv A outer s H E J hr=>⟨_,((ah (aj 2 sc_met.nd (aA ER hr (ac (af (aa 0) ad) (ac (af (aa 1) ad) ae))))
   (ah (aj 3 sc_met.nd (aW (av (af (aa 0) ad) (af (aa 1) ad)) (af (aa 2) ad)))
   (ah (aj 4 sc_met.nd (aW (av (af (aa 0) ad) (af (aa 1) ad)) (af (aA ER hr (ac (af (aa 0) ad) (ac (af (aa 1) ad) ae))) ad)))
   (ah (aj 5 sc_met.nd (av (aW (aa 4) (af (aa 0) ad)) (af (aa 0) ad)))
   (ah (aj 6 sc_met.nd (bg (av (aW (aa 4) (af (aa 1) ad)) (af (aa 1) ad)) (aa 5)))
   (ah (aj 7 sc_met.nd (aW (af (aa 2) ad) (af (aA ER hr (ac (af (aa 2) ad) (ac (aa 6) ae))) ad)))
   (ah (aj 8 sc_met.nd (av (aW (av (aa 7) (aa 6)) (af (aa 2) ad)) (af (aa 2) ad)))
   (ar (aE (ao (ac (aa 3) (ac (av (aa 4) (aa 7)) (ac (ax (am (av (aa 7) (aa 5)) (av (aa 8) (af (aa 0) ad))) (aa 3)) ae)))))))))))))),λds R h=>?_⟩)
 ·obtain⟨_,_,_,_,_,_,rfl,_⟩:=h;rfl
 ·obtain⟨w1,h1,s1,w2,h2,s2,rfl,a1,a2,a3,a4,a5,a6,b1,b2,b3,b4,b5,b6,hR⟩:=h
  refine⟨λd=>∃ g u:Int,d= .tup [.int g,.int u]/\Meas w1 w2 g u,⟨_,rfl,_,rfl,w1,w2,rfl,by omega,by omega,λg u M=>⟨g,u,rfl,M⟩⟩,?_⟩
  rintro _ ⟨g,u,rfl,M1⟩;k_places
  have hg:=M1.pos a1
  have GQ:=M1.le a1
  refine⟨λd=>d= .int (w1*w2 / g),⟨_,rfl,_,rfl,.inl (b64B a1 a2),_,rfl,d30B hg (B3 GQ a2),rfl⟩,?_⟩;rintro _ rfl;k_places
  refine⟨λd=>∃ k u':Int,d= .int (h1*h2 / k)/\Meas h1 h2 k u',⟨_,rfl,_,rfl,.inl (b64B a3 a4),_,rfl,_,rfl,h1,h2,rfl,by omega,by omega,λk u' M=>⟨_,rfl,d30B (M.pos a3) (B3 (M.le a3) a4),k,u',rfl,M⟩⟩,?_⟩
  rintro _ ⟨k,u',rfl,M2⟩;k_places
  obtain⟨r0,r1,r2,r3,r4,r5⟩:=iI a3 b3 M2
  have J8:h1*h2<=1125899906842624:=by
   have:=bj (a:=h1) (d:=h2) (A:=33554432) (B:=33554432) (by omega) (by omega)
   omega
  refine⟨λd=>d= .int (h1*h2 / k / h1*s1),⟨_,rfl,d30B a3 a4,_,rfl,.inr (s64B a5 a6 a2),rfl⟩,?_⟩;rintro _ rfl;k_places
  refine⟨λd=>d= .int (h1*h2 / k / h2*s2 - h1*h2 / k / h1*s1),⟨_,rfl,d30B b3 b4,_,rfl,.inr (s64B b5 b6 b2),rfl⟩,?_⟩;rintro _ rfl;k_places
  have t1:=bj (a:=h1*h2 / k / h1) (d:=s1) (A:=33554432) (B:=33554432) (by omega) (by omega)
  have t2:=bj (a:=h1*h2 / k / h2) (d:=s2) (A:=33554432) (B:=33554432) (by omega) (by omega)
  refine⟨λd=>∃ gg o9:Int,d= .int (g / gg)/\Meas g (h1*h2 / k / h2*s2 - h1*h2 / k / h1*s1) gg o9,⟨_,rfl,_,rfl,g,_,rfl,by omega,by omega,λgg o9 M=>⟨_,rfl,d30B (M.pos hg) (B3 (M.le hg) (B3 GQ a2)),gg,o9,rfl,M⟩⟩,?_⟩
  rintro _ ⟨gg,o9,rfl,M3⟩;k_places
  have w9:=M3.pos hg
  have c1:0<=g / gg:=Int.ediv_nonneg (by omega) (by omega)
  have c2:g / gg<=g:=Int.ediv_le_self _ (by omega)
  have c4:=wz (c:=g / gg) (gap:=h1*h2 / k / h2*s2 - h1*h2 / k / h1*s1) (N:=2251799813685248) hg c1 c2 (by omega)
  have mr:=fR a1 b1 a3 b3 M1 M2 M3
  refine⟨λd=>d= .int (g / gg*(h1*h2 / k / h2*s2 - h1*h2 / k / h1*s1) / g*u),⟨.inl ⟨by omega,by omega⟩,_,rfl,⟨by omega,by omega⟩,_,rfl,.inl ⟨by omega,by omega⟩,rfl⟩,?_⟩;rintro _ rfl;k_places
  obtain⟨w0,w3,_⟩:=iI a1 b1 M1
  have J9:w1*w2<=1125899906842624:=by
   have:=bj (a:=w1) (d:=w2) (A:=33554432) (B:=33554432) (by omega) (by omega)
   omega
  have Ex:=bj (a:=h1*h2 / k) (d:=g / gg) (A:=1125899906842624) (B:=33554432) (by omega) (by omega)
  exact⟨.inl ⟨by omega,by omega⟩,.inl ⟨by omega,by omega⟩,_,rfl,.inr ⟨by omega,by omega⟩,w0,by simp,hR _ _ _ _ mr⟩
abbrev gP(V:Bx):Prop:=V.D 1 "mirrored" kH wM
theorem Af(T:V.T "mirrored" kG kH):gP V:=by
 refine Tx.okDW T yY (λds R h=>?_) (λf cdv A outer s H E J hr=>⟨_,((ar (aE (ao (ac (af (aa 0) ad) (ac (af (aa 0) ad) (ac (ax (bD (af (aa 0) ad)) (af (aa 0) ad)) ae))))))),λds R h=>?_⟩)
 ·obtain⟨w,h,s,rfl,_⟩:=h;rfl
 ·obtain⟨w,h,s,rfl,hw,hR⟩:=h
  exact⟨_,rfl,_,rfl,_,rfl,_,rfl,hw,by simp,hR⟩
abbrev gQ(V:Bx):Prop:=V.D 3 "turned" kJ wN
theorem Ag(T:V.T "turned" kI kJ)(DP:gG V):gQ V:=by
 refine Tx.okDW T yZ (λds R h=>?_) (λf cdv A outer s H E J hr=>⟨_,((ar (aE (aA DP hr (ac (ao (ac ad (ac (af (aa 0) ad) ae))) (ac (ao (ac (bD (af (aa 0) ad)) (ac (af (aa 0) ad) ae))) ae)))))),λds R h=>?_⟩)
 ·obtain⟨w,h,s,rfl,_⟩:=h;rfl
 ·obtain⟨w,h,s,rfl,hw,hh,y_,u_,hs,k8,hR⟩:=h
  have hp:0<w*h:=AL hw hh
  have hn:¬ 0*s=w* -h:=by rw[Bj];lia
  exact⟨_,rfl,by simp,_,rfl,_,rfl,by simp,0,w,-h,s,rfl,by lia,by lia,by lia,by lia,λe=>absurd e hn,λ_ w' h' s' f=>hR w' h' s' f⟩
theorem ok_Motif_family{n j:Nat}(hL:3<=n)(T:V.Tm "Motif" "family" "Motif.family" gh bQ)(uK:V.a "Motif" "shifts")(uR:V.a "Motif" "place")(uP:gN V):V.Q (n+1) "Motif" "family" bQ (ofX (bC (j+1) "Motif")):=by
 refine Txm.okM T za (λds M R RX h=>?_) (λf cdv A outer s H E J hr hx=>⟨_,((ay (bK (oi (aV uK (ai (aa 0))) (ai bI)) (aG (iF (hn:=by omega) uP hr hx rfl (aS (aV uR (ai (aa 0))) bf))) bE)
   (aG (aP (aV uK (ai (aa 0))))))),λds M R RX b8 h=>?_⟩)
 ·obtain⟨_,_,_,rfl,_⟩:=h;rfl
 ·obtain⟨p,k,v,rfl,hv,hs,hd,hc,d5,hX,hR⟩:=h
  cases p with
  |over p q=>exact absurd (show("Over":Str)="Motif" from hc) (by decide+kernel)
  |sh a b p=>exact absurd (show("Shifted":Str)="Motif" from hc) (by decide+kernel)
  |mir p=>exact absurd (show("Mirror":Str)="Motif" from hc) (by decide+kernel)
  |tur p=>exact absurd (show("Turn":Str)="Motif" from hc) (by decide+kernel)
  |hue f g p=>exact absurd (show("Rehue":Str)="Motif" from hc) (by decide+kernel)
  |mot L a b c d=>
   obtain⟨sh,hu,rfl,h0,h1⟩:=hv
   refine⟨_,⟨rfl,rfl⟩,_,pC,?_⟩
   by_cases e:a*d=b*c
   ·rw[h0 e]
    refine⟨_,⟨rfl,rfl⟩,_,yn,by show(1:Nat)<=1000;decide,(k:Int),rfl,?_⟩
    rw[b8]
    exact hX k (by rw[Pat.lineAt,if_pos e])
   ·obtain⟨w,h,s,F,rfl,rfl⟩:=h1 e
    exact⟨_,⟨rfl,rfl⟩,_,pC,hR (by rw[Pat.lineAt,if_neg e]) w h s (Pat.Fam.mot F)⟩
theorem Ah{n j:Nat}(hL:3<=n)(T:V.Tm "Over" "family" "Over.family" gj gk)(ES:gO V)(uU:V.a "Over" "above")(uX:V.a "Over" "below")(uE:∀ x,x∈(["Motif","Over","Shifted","Mirror","Turn","Rehue"]:List Str)->V.Q n x "family" bQ (ofX (bC j x))):V.Q (n+1) "Over" "family" gk (ofX (bC (j+1) "Over")):=by
 refine Txm.okM T sc_Over_family (λds M R RX h=>?_) (λf cdv A outer s H E J hr hx=>⟨_,((ay (aU 1 sc_Over_family.nd (cP (hn:=by omega) uE hx hr (aV uU (ai (aa 0)))))
   (aG (aP (aT (hn:=by omega) (CalD.toM ES) hx hr (aS (ai (aa 1)) (aS (cP (hn:=by omega) uE hx hr (aV uX (ai (aa 0)))) bf))))))),λds M R RX b8 h=>?_⟩)
 ·obtain⟨_,_,_,rfl,_⟩:=h;rfl
 ·obtain⟨p,k,v,rfl,hv,hs,hd,hc,d5,hX,hR⟩:=h
  cases p with
  |mot L a b c d=>exact absurd (show("Motif":Str)="Over" from hc) (by decide+kernel)
  |sh a b p=>exact absurd (show("Shifted":Str)="Over" from hc) (by decide+kernel)
  |mir p=>exact absurd (show("Mirror":Str)="Over" from hc) (by decide+kernel)
  |tur p=>exact absurd (show("Turn":Str)="Over" from hc) (by decide+kernel)
  |hue f g p=>exact absurd (show("Rehue":Str)="Over" from hc) (by decide+kernel)
  |over p q=>
   obtain⟨u,u',rfl,hu,IE⟩:=hv
   obtain⟨fs,rfl,hf,_⟩:=hu.objm
   obtain⟨gs,rfl,hg,_⟩:=IE.objm
   rw[Pat.depth] at hd
   refine⟨λd M'=>(∃ w h s,p.lineAt (k+1)=none/\p.Fam w h s/\d= .tup [.int w,.int h,.int s])/\M'=M,⟨_,⟨rfl,rfl⟩,_,rfl,p.cls,p.cls_mem,fs,⟨rfl,rfl⟩,hf,p,k+1,_,rfl,hu,hs.1,by lia,rfl,d5.1,λi hi=>?_,λhn w h s F=>⟨⟨w,h,s,hn,F,rfl⟩,rfl⟩⟩,?_⟩
   ·rw[b8]
    exact hX i (by rw[Pat.lineAt,hi])
   rintro _ _ ⟨⟨w1,h1,s1,Hi,F1,rfl⟩,rfl⟩;k_places
   refine⟨_,⟨rfl,rfl⟩,_,iR (by decide+kernel),q.cls,q.cls_mem,gs,⟨rfl,rfl⟩,hg,q,k+1+p.tl.length+1,_,rfl,IE,hs.2,by lia,rfl,d5.2.1,λi hi=>?_,λu8 w2 h2 s2 F2=>?_⟩
   ·rw[b8]
    exact hX i (by rw[Pat.lineAt,Hi];exact hi)
   ·obtain⟨f1,f2⟩:=d5.2.2 (Pat.line_wf _ hs.1 Hi) (Pat.line_wf _ hs.2 u8)
    obtain⟨a1,a2,a3,a4,a5,a6⟩:=f1.small F1
    obtain⟨b1,b2,b3,b4,b5,b6⟩:=f2.small F2
    exact⟨w1,h1,s1,w2,h2,s2,rfl,a1,a2,a3,a4,a5,a6,b1,b2,b3,b4,b5,b6,λw h s A MR=>hR (by rw[Pat.lineAt,Hi];exact u8) w h s (Pat.Fam.over F1 F2 MR)⟩
theorem Ai{n j:Nat}(hL:3<=n)(T:V.Tm "Shifted" "family" "Shifted.family" gl gm)(uT:V.a "Shifted" "form")(uE:∀ x,x∈(["Motif","Over","Shifted","Mirror","Turn","Rehue"]:List Str)->V.Q n x "family" bQ (ofX (bC j x))):V.Q (n+1) "Shifted" "family" gm (ofX (bC (j+1) "Shifted")):=by
 refine Txm.okM T zb (λds M R RX h=>?_) (λf cdv A outer s H E J hr hx=>⟨_,((aG (aP (cP (hn:=by omega) uE hx hr (aV uT (ai (aa 0))))))),λds M R RX b8 h=>?_⟩)
 ·obtain⟨_,_,_,rfl,_⟩:=h;rfl
 ·obtain⟨p,k,v,rfl,hv,hs,hd,hc,d5,hX,hR⟩:=h
  cases p with
  |mot L a b c d=>exact absurd (show("Motif":Str)="Shifted" from hc) (by decide+kernel)
  |over p q=>exact absurd (show("Over":Str)="Shifted" from hc) (by decide+kernel)
  |mir p=>exact absurd (show("Mirror":Str)="Shifted" from hc) (by decide+kernel)
  |tur p=>exact absurd (show("Turn":Str)="Shifted" from hc) (by decide+kernel)
  |hue f g p=>exact absurd (show("Rehue":Str)="Shifted" from hc) (by decide+kernel)
  |sh a b p=>
   obtain⟨u,rfl,hu⟩:=hv
   obtain⟨fs,rfl,hf,_⟩:=hu.objm
   rw[Pat.depth] at hd
   refine⟨_,⟨rfl,rfl⟩,_,rfl,p.cls,p.cls_mem,fs,⟨rfl,rfl⟩,hf,p,_,_,rfl,hu,hs.2.2,by lia,rfl,d5,λi hi=>?_,λhn w h s F=>?_⟩
   ·rw[b8]
    exact hX i (by rw[Pat.lineAt];exact hi)
   ·exact hR (by rw[Pat.lineAt];exact hn) w h s (F.sh a b)
theorem Aj{n j:Nat}(hL:3<=n)(T:V.Tm "Mirror" "family" "Mirror.family" gp gq)(ET:gP V)(uW:V.a "Mirror" "form")(uE:∀ x,x∈(["Motif","Over","Shifted","Mirror","Turn","Rehue"]:List Str)->V.Q n x "family" bQ (ofX (bC j x))):V.Q (n+1) "Mirror" "family" gq (ofX (bC (j+1) "Mirror")):=by
 refine Txm.okM T zc (λds M R RX h=>?_) (λf cdv A outer s H E J hr hx=>⟨_,((aG (aP (aT (hn:=by omega) (CalD.toM ET) hx hr (aS (cP (hn:=by omega) uE hx hr (aV uW (ai (aa 0)))) bf))))),λds M R RX b8 h=>?_⟩)
 ·obtain⟨_,_,_,rfl,_⟩:=h;rfl
 ·obtain⟨p,k,v,rfl,hv,hs,hd,hc,d5,hX,hR⟩:=h
  cases p with
  |mot L a b c d=>exact absurd (show("Motif":Str)="Mirror" from hc) (by decide+kernel)
  |over p q=>exact absurd (show("Over":Str)="Mirror" from hc) (by decide+kernel)
  |sh a b p=>exact absurd (show("Shifted":Str)="Mirror" from hc) (by decide+kernel)
  |tur p=>exact absurd (show("Turn":Str)="Mirror" from hc) (by decide+kernel)
  |hue f g p=>exact absurd (show("Rehue":Str)="Mirror" from hc) (by decide+kernel)
  |mir p=>
   obtain⟨u,rfl,hu⟩:=hv
   obtain⟨fs,rfl,hf,_⟩:=hu.objm
   rw[Pat.depth] at hd
   refine⟨_,⟨rfl,rfl⟩,_,rfl,p.cls,p.cls_mem,fs,⟨rfl,rfl⟩,hf,p,_,_,rfl,hu,hs,by lia,rfl,d5,λi hi=>?_,λhn w h s F=>?_⟩
   ·rw[b8]
    exact hX i (by rw[Pat.lineAt];exact hi)
   ·exact⟨w,h,s,rfl,F.f.w0,hR (by rw[Pat.lineAt];exact hn) w h _ F.mir⟩
theorem Ak{n j:Nat}(hL:3<=n)(T:V.Tm "Turn" "family" "Turn.family" gu gv)(EU:gQ V)(uV:V.a "Turn" "form")(uE:∀ x,x∈(["Motif","Over","Shifted","Mirror","Turn","Rehue"]:List Str)->V.Q n x "family" bQ (ofX (bC j x))):V.Q (n+1) "Turn" "family" gv (ofX (bC (j+1) "Turn")):=by
 refine Txm.okM T zd (λds M R RX h=>?_) (λf cdv A outer s H E J hr hx=>⟨_,((aG (aP (aT (hn:=by omega) (CalD.toM EU) hx hr (aS (cP (hn:=by omega) uE hx hr (aV uV (ai (aa 0)))) bf))))),λds M R RX b8 h=>?_⟩)
 ·obtain⟨_,_,_,rfl,_⟩:=h;rfl
 ·obtain⟨p,k,v,rfl,hv,hs,hd,hc,d5,hX,hR⟩:=h
  cases p with
  |mot L a b c d=>exact absurd (show("Motif":Str)="Turn" from hc) (by decide+kernel)
  |over p q=>exact absurd (show("Over":Str)="Turn" from hc) (by decide+kernel)
  |sh a b p=>exact absurd (show("Shifted":Str)="Turn" from hc) (by decide+kernel)
  |mir p=>exact absurd (show("Mirror":Str)="Turn" from hc) (by decide+kernel)
  |hue f g p=>exact absurd (show("Rehue":Str)="Turn" from hc) (by decide+kernel)
  |tur p=>
   obtain⟨u,rfl,hu⟩:=hv
   obtain⟨fs,rfl,hf,_⟩:=hu.objm
   rw[Pat.depth] at hd
   refine⟨_,⟨rfl,rfl⟩,_,rfl,p.cls,p.cls_mem,fs,⟨rfl,rfl⟩,hf,p,_,_,rfl,hu,hs,by lia,rfl,d5.1,λi hi=>?_,λhn w h s F=>?_⟩
   ·rw[b8]
    exact hX i (by rw[Pat.lineAt];exact hi)
   ·obtain⟨a1,a2,a3,a4,a5,a6⟩:=(d5.2 (Pat.line_wf _ hs hn)).small F
    exact⟨w,h,s,rfl,a1,a3,by lia,by lia,a5,by lia,λw' h' s' F'=>hR (by rw[Pat.lineAt];exact hn) w' h' s' (F.tur F')⟩
theorem Al{n j:Nat}(hL:3<=n)(T:V.Tm "Rehue" "family" "Rehue.family" gw gx)(uQ:V.a "Rehue" "form")(uE:∀ x,x∈(["Motif","Over","Shifted","Mirror","Turn","Rehue"]:List Str)->V.Q n x "family" bQ (ofX (bC j x))):V.Q (n+1) "Rehue" "family" gx (ofX (bC (j+1) "Rehue")):=by
 refine Txm.okM T ze (λds M R RX h=>?_) (λf cdv A outer s H E J hr hx=>⟨_,((aG (aP (cP (hn:=by omega) uE hx hr (aV uQ (ai (aa 0))))))),λds M R RX b8 h=>?_⟩)
 ·obtain⟨_,_,_,rfl,_⟩:=h;rfl
 ·obtain⟨p,k,v,rfl,hv,hs,hd,hc,d5,hX,hR⟩:=h
  cases p with
  |mot L a b c d=>exact absurd (show("Motif":Str)="Rehue" from hc) (by decide+kernel)
  |over p q=>exact absurd (show("Over":Str)="Rehue" from hc) (by decide+kernel)
  |sh a b p=>exact absurd (show("Shifted":Str)="Rehue" from hc) (by decide+kernel)
  |mir p=>exact absurd (show("Mirror":Str)="Rehue" from hc) (by decide+kernel)
  |tur p=>exact absurd (show("Turn":Str)="Rehue" from hc) (by decide+kernel)
  |hue f g p=>
   obtain⟨u,rfl,hu⟩:=hv
   obtain⟨fs,rfl,hf,_⟩:=hu.objm
   rw[Pat.depth] at hd
   refine⟨_,⟨rfl,rfl⟩,_,rfl,p.cls,p.cls_mem,fs,⟨rfl,rfl⟩,hf,p,_,_,rfl,hu,hs.2.2,by lia,rfl,d5,λi hi=>?_,λhn w h s F=>?_⟩
   ·rw[b8]
    exact hX i (by rw[Pat.lineAt];exact hi)
   ·exact hR (by rw[Pat.lineAt];exact hn) w h s (F.hue f g)
theorem Am(IF:V.Tm "Motif" "family" "Motif.family" gh bQ)(IG:V.Tm "Over" "family" "Over.family" gj gk)(IH:V.Tm "Shifted" "family" "Shifted.family" gl gm)(II:V.Tm "Mirror" "family" "Mirror.family" gp gq)(IJ:V.Tm "Turn" "family" "Turn.family" gu gv)(IK:V.Tm "Rehue" "family" "Rehue.family" gw gx)(uK:V.a "Motif" "shifts")(uR:V.a "Motif" "place")(uP:gN V)(ES:gO V)(uU:V.a "Over" "above")(uX:V.a "Over" "below")(uT:V.a "Shifted" "form")(ET:gP V)(uW:V.a "Mirror" "form")(EU:gQ V)(uV:V.a "Turn" "form")(uQ:V.a "Rehue" "form"):∀ j x,x∈(["Motif","Over","Shifted","Mirror","Turn","Rehue"]:List Str)->V.Q (3+j) x "family" bQ (ofX (bC j x)):=by
 intro j
 induction j with
 |zero=>
  intro x hx
  simp only[AA,BL,or_false] at hx
  rcases hx with rfl|rfl|rfl|rfl|rfl|rfl
  ·exact CalMth.never IF (λds M R RX=>dN)
  ·exact CalMth.never IG (λds M R RX=>dN)
  ·exact CalMth.never IH (λds M R RX=>dN)
  ·exact CalMth.never II (λds M R RX=>dN)
  ·exact CalMth.never IJ (λds M R RX=>dN)
  ·exact CalMth.never IK (λds M R RX=>dN)
 |succ j EV=>
  intro x hx
  simp only[AA,BL,or_false] at hx
  rcases hx with rfl|rfl|rfl|rfl|rfl|rfl
  ·exact ok_Motif_family (n:=3+j) (j:=j) (by omega) IF uK uR uP
  ·exact Ah (n:=3+j) (j:=j) (by omega) IG ES uU uX EV
  ·exact Ai (n:=3+j) (j:=j) (by omega) IH uT EV
  ·exact Aj (n:=3+j) (j:=j) (by omega) II ET uW EV
  ·exact Ak (n:=3+j) (j:=j) (by omega) IJ EU uV EV
  ·exact Al (n:=3+j) (j:=j) (by omega) IK uQ EV
abbrev pM(V:Bx):Prop:=V.MM 18 "form_from" bW (cE 6)
abbrev pN(V:Bx):Prop:=∀ x,x∈(["Motif","Over","Shifted","Mirror","Turn","Rehue"]:List Str)->V.Q 9 x "family" bQ (ofX (bC 6 x))
abbrev lD(V:Bx):Prop:=V.X 19 "read" kL pG
theorem An(T:V.T "read" kK kL)(uB:V.m "len")(uH:pM V)(Dt:V.gi "MOST" 720)(uD:V.a "Reading" "place")(Hj:ly V)(Hk:lz V)(uE:pN V)(uN:gD V)(Hl:V.n "TooGreat"):lD V:=by
 refine CalMM.nilX (Tx.okM T sc_read (λds M R RX h=>?_) (λf cdv A outer s H E J hr hx=>⟨_,((ay (aU 1 sc_read.nd (vG Hj hr (aB (ac (aa 0) ae))))
   (ay (aU 2 sc_read.nd (aT uH hx hr (aB (ac (aa 1) (ac ad ae)))))
   (ay (bK (oh (aV uD (ai (aa 1))) (ai (dh uB (ac (aa 0) ae)))) (aG (iF uN hr hx rfl (aS (aV uD (ai (aa 1))) bf))) bE)
   (ay (aU 3 sc_read.nd (cP uE hx hr (ai (aa 2))))
   (ay (bK (bP (tf (av (af (aa 3) ad) (af (aa 3) ad)) (dB Dt))) (aG (vL Hl hx rfl (aB (ac aw ae)))) bE)
   (aG (aP (ai (iw Hk hr (ac (aa 0) (ac (aa 3) (ac (aa 2) ae))))))))))))),λds M R RX b8 h=>?_⟩))
 ·obtain⟨_,R0,Dq,h,_⟩:=h
  rcases h with⟨_,_,rfl,_⟩|⟨_,rfl,_⟩<;>rfl
 ·obtain⟨rfl,R0,Dq,h,hR,hX⟩:=h
  obtain⟨t,ht,J_,t_⟩:∃ t:Str,ds=[.str t]/\t.length<=100000/\((∃ k:Nat,cA t=some k/\Dq "WrongSign" [("place",.int k)])\/∃ p:Pat,t=p.text/\p.Syn/\p.depth<=5/\p.Cal/\(∀ k:Nat,p.lineAt 0=some k->Dq "OneLine" [("place",.int k)])/\(p.lineAt 0=none->¬ p.Fits->Dq "TooGreat" [])/\(p.lineAt 0=none->p.Fits->∀ d,iS p d->R0 d)):=by
   rcases h with⟨t,k,e,h1,h2,h3⟩|⟨p,e,h1,h2,h3⟩
   ·exact⟨t,e,h1,.inl ⟨k,h2,h3⟩⟩
   ·exact⟨p.text,e,by have:=Pat.syn_short h1 h2;lia,.inr ⟨p,rfl,h1,h2,h3⟩⟩
  subst ht
  have d0:At t 0 (cs t):=⟨rfl,AY _,J_⟩
  refine⟨λd M'=>∃ a,d= .ptr a/\M'=RdM a t 0,⟨t,rfl,λa _=>⟨a,rfl,rfl⟩⟩,?_⟩
  rintro _ _ ⟨a,rfl,rfl⟩;k_places
  refine⟨λv M'=>∃ p l',p.Syn/\p.depth<=5/\cs t=p.tl++l'/\FormOf p 0 v/\M'=RdM a t p.tl.length,⟨a,t,0,cs t,0,rfl,rfl,d0,rfl,by decide,λp l' h1 h2 h3 v h4=>⟨p,l',h1,by lia,h3,h4,by rw[B2]⟩,λi hi M'=>?_⟩,?_⟩
  ·rw[b8]
   have hw:cA t=some i:=hi []
   rcases t_ with⟨k,h1,h2⟩|⟨p,rfl,h1,h2,_⟩
   ·rw[hw] at h1
    cases h1
    exact hX _ _ _ h2
   ·rw[pf h1 h2] at hw
    cases hw
  rintro v _ ⟨p,l',hp,Ha,hl,hv,rfl⟩;k_places
  have hw:cA t=walk [] l' p.tl.length:=by
   unfold cA
   rw[hl,bU hp 0 [] l' 0 (by lia),B2]
  have a_:t.length=p.tl.length+l'.length:=by rw[<- bT,hl,AI]
  refine⟨_,aK,_,cB,by lia,ite2 (λc=>?_) (λc=>?_)⟩
  ·have c':=of_decide_eq_true c
   refine⟨_,aK,_,cB,by show(1:Nat)<=1000;decide,(p.tl.length:Int),rfl,?_⟩
   rw[b8]
   have y_:cA t=some p.tl.length:=by
    rw[hw]
    cases l' with
    |nil=>simp at a_;lia
    |cons c l=>simp[walk,step,aH,aI]
   rcases t_ with⟨k,h1,h2⟩|⟨q,rfl,h1,h2,_⟩
   ·rw[y_] at h1
    cases h1
    exact hX _ _ _ h2
   ·rw[pf h1 h2] at y_
    cases y_
  have c':¬ ((p.tl.length:Int)<(t.length:Int)):=λz=>c (decide_eq_true z)
  have Ka:l'=[]:=Cg (by lia)
  subst Ka
  rcases t_ with⟨k,h1,h2⟩|⟨q,rfl,h1,h2,d5,Hm,Du,EW⟩
  ·rw[hw] at h1
   cases h1
  obtain⟨rfl,_⟩:=yr (p:=q) (q:=p) (x:=[]) (y:=[]) h1 hp (by rw[<- bM,hl];simp)
  obtain⟨fs,rfl,hf,_⟩:=hv.objm
  refine⟨λd M'=>∃ w h s,q.lineAt 0=none/\q.Fam w h s/\d= .tup [.int w,.int h,.int s],⟨q.cls,q.cls_mem,fs,⟨rfl,rfl⟩,hf,q,0,_,rfl,hv,hp,by lia,rfl,d5,λi hi=>?_,λhn w h s F=>⟨w,h,s,hn,F,rfl⟩⟩,?_⟩
  ·rw[b8]
   exact hX _ _ _ (Hm i hi)
  rintro _ M' ⟨w,h,s,hn,F,rfl⟩;k_places
  have g7:=Pat.line_wf 0 hp hn
  have Iy:=Pat.cal_w g7 d5 F
  have JN:=F.f.w0
  refine⟨_,rfl,_,rfl,.inl ⟨by lia,by lia⟩,ite2 (λc=>?_) (λc=>?_)⟩
  ·have c2:=of_decide_eq_true c
   refine⟨by show(1:Nat)<=1000;decide,?_⟩
   rw[b8]
   refine hX _ _ _ (Du hn λ⟨w',h',s',F',hb⟩=>?_)
   obtain⟨rfl,rfl,_⟩:=F.uniq F'
   lia
  ·have c2:¬ (720<w*h):=λz=>c (decide_eq_true z)
   refine⟨_,_,_,_,_,_,rfl,hR _ _ (EW hn ⟨w,h,s,F,by lia⟩ _ ⟨w,h,s,_,rfl,rfl,iR (by decide+kernel),⟨F,0,_,yo (by decide+kernel) (by decide+kernel),hv⟩⟩)⟩
abbrev gR(V:Bx):Prop:=V.D 1 "_law_whole" kN wF
theorem Ao(T:V.T "_law_whole" kM kN)(uL:V.m "isinstance")(Hn:V.m "bool")(uI:V.m "int"):gR V:=by
 refine Tx.okDW T zf (λds R h=>?_) (λf cdv A outer s H E J hr=>⟨_,((ar (aE (fB (fC uL uI (aa 0) PyProof.Rows.boot_int tH) (fA (tD (fC uL Hn (aa 0) PyProof.Rows.boot_bool kit_bool))))))),λds R h=>?_⟩)
 ·obtain⟨i,rfl,_⟩:=h;rfl
 ·obtain⟨i,rfl,hR⟩:=h
  exact hR
abbrev lF(V:Bx):Prop:=V.D 2 "_law_numbers" kP yB
theorem Ap(T:V.T "_law_numbers" kO kP)(uB:V.m "len")(uL:V.m "isinstance")(Ho:V.m "tuple")(uC:V.m "range")(DR:gR V):lF V:=by
 refine Tx.okDW T sc__law_numbers (λds R h=>?_) (λf cdv A outer s H E J hr=>⟨_,((ah (bA (fz (eE (dm (cv (fC uL Ho (aa 0) PyProof.Rows.boot_tuple kit_tuple))) (fw (cJ (dh uB (ac (aa 0) ae)) (dh uB (ac (aa 1) ae)))))) (ar (aE eA)) bb)
   (ah (cM 2 PassesOwn.never rfl sc__law_numbers.nd uC (dh uB (ac (aa 1) ae)) (ar (bA (fz (eE (dm (cv (aA DR hr (ac (af (aa 0) (aa 2)) ae)))) (fw (cJ (af (aa 0) (aa 2)) (af (aa 1) (aa 2)))))) (ar (aE eA)) bb)))
   (ar (aE eA))))),λds R h=>?_⟩)
 ·obtain⟨p,q,r,rfl,_⟩:=h;rfl
 ·obtain⟨p,q,r,rfl,hR⟩:=h
  refine⟨⟨by simp,by simp⟩,λk z=>∃ o,z=[some (.tup [.int p,.int q,.int r]),some (.tup [.int p,.int q,.int r]),o],⟨_,rfl⟩,?_,?_⟩
  ·rintro k x z hk ⟨o,rfl⟩;k_places
   have Il:k<3:=by
    have:=(AN.mp hk).1
    simpa using this
   rcases(by lia:k=0\/k=1\/k=2) with rfl|rfl|rfl
   ·cases hk
    exact⟨_,rfl,_,rfl,_,rfl,_,rfl,ia rfl ⟨_,rfl⟩⟩
   ·cases hk
    exact⟨_,rfl,_,rfl,_,rfl,_,rfl,ia rfl ⟨_,rfl⟩⟩
   ·cases hk
    exact⟨_,rfl,_,rfl,_,rfl,_,rfl,ia rfl ⟨_,rfl⟩⟩
  ·rintro z ⟨o,rfl⟩;k_places
   exact hR
abbrev pO(V:Bx):Prop:=V.Ek ["MotifError","WrongSign","OneLine","TooGreat"]
theorem Aq{fa:Addr}{fd:FuncData}(F:Fun V.K "law" "law" gy fa fd)(uL:V.m "isinstance")(uJ:V.m "str")(uG:dP V)(Hq:kT V)(Hr:kZ V)(Hs:lp V)(Ht:lD V)(DR:gR V)(Hu:lF V)(Dt:V.gi "MOST" 720)(uZ:V.a "Pattern" "text")(DQ:V.a "Pattern" "shifts")(Hv:V.i "Pattern")(ek:pO V):FnOk V.P V.w V.K V.mg V.base (Exc.CX1 V.P V.w) 20 fa fd kQ (lSp V.K dz):=by
 refine Fun.okDW F sc_law (λds R h=>?_) (λcdv A outer s H E J hr=>⟨_,((ah (dv (bp (ax (aA uG hr (ac (aa 0) (ac ad ae))) ad) ad) (ar (aj 1 sc_law.nd (aA Hq hr (ac (aa 0) ae)))) (ar (aj 1 sc_law.nd (aA Hr hr (ac (aa 0) ae)))))
   (ah (aj 2 sc_law.nd (aA Hs hr (ac (af (aa 1) ad) ae)))
   (ah (aj 3 sc_law.nd bI)
   (ah (vm (λpn xe J hp hx=>(ar (aj 3 sc_law.nd (uo Ht hx hr (ac (af (aa 1) ad) ae))))) (va ek (λe=>(ar (aj 3 sc_law.nd bI))) uz))
   (ah (bA (fz (eE (dm (cv (aA DR hr (ac (dB Dt) ae)))) (fw (cJ (dB Dt) ad)))) (ar (aE eA)) bb)
   (ah (bA (ij (aa 2) bI) (ar (aE (sV (aa 3) bI))) bb)
   (ah (bA (fz (eE (dm (cv (uj Hv uL (aa 3)))) (eE (dm (cv (fC uL uJ (iu uZ (aa 3)) PyProof.Rows.boot_str kit_str))) (fw (cJ (iu uZ (aa 3)) (af (aa 1) ad)))))) (ar (aE eA)) bb)
   (ar (aE (aA Hu hr (ac (iu DQ (aa 3)) (ac (aa 2) ae))))))))))))),λds R h=>?_⟩)
 ·obtain⟨ns,rfl,_⟩:=h;rfl
 ·obtain⟨ns,rfl,hl,hR⟩:=h
  refine⟨λz=>∃ (p:Pat) (n:Int),z=[some (.rol (ns.map D.int)),some (PD p n),none,none]/\p.Wf/\p.Cal/\p.depth<=5,⟨ns,0,rfl,by decide,by decide,ite2 (λ_=>?_) (λ_=>?_)⟩,?_⟩
  ·refine⟨λx=>∃ p:Pat,x=p.D/\p.Wf/\p.Cal/\p.depth<=5,⟨ns,rfl,λp w dp=>⟨p,rfl,w.wf,w.cal,dp⟩⟩,?_⟩
   rintro _ ⟨p,rfl,wf,cal,dp⟩;k_places
   exact⟨p,_,rfl,wf,cal,dp⟩
  ·refine⟨λx=>∃ (p:Pat) (n:Int),x=PD p n/\p.Wf/\p.Cal/\p.depth<=5,⟨ns,rfl,λp n wf cal dp=>⟨p,n,rfl,wf,cal,dp⟩⟩,?_⟩
   rintro _ ⟨p,n,rfl,wf,cal,dp⟩;k_places
   exact⟨p,n,rfl,wf,cal,dp⟩
  rintro _ ⟨p,n,rfl,wf,cal,dp⟩;k_places
  have tp:=Pat.text_short wf dp
  have g6:p.leaves≠[]:=λz=>by have:=Pat.leaves_pos p;rw[z] at this;simp at this
  refine⟨λx=>(∃ w h s:Int,x= .tup [.int w,.int h,.int s]/\p.Fam w h s/\w*h<=720)\/(x= .non/\¬ p.Fits),⟨_,rfl,p.leaves,p.depth,rfl,g6,λl hl=>Pat.leaf_good wf l hl,λw h s f lat=>?_⟩,?_⟩
  ·have Ft:p.Fam w h s:=⟨f,λx y=>(lat x y).trans (Pat.lat_leaves p x y)⟩
   refine⟨λsm=> .inl ⟨w,h,s,rfl,Ft,sm⟩,λbig=> .inr ⟨rfl,λ⟨w',h',s',f',sm⟩=>?_⟩⟩
   obtain⟨e1,e2,_⟩:=Ft.uniq f'
   rw[e1,e2] at big
   lia
  intro Kb EY
  refine⟨λx=>x= .non,rfl,?_⟩;rintro _ rfl;k_places
  refine⟨λz x fs=>z=[some (.rol (ns.map D.int)),some (PD p n),some Kb,some .non]/\x="TooGreat"/\¬ p.Fits,λJ' hJ=>?_,?_⟩
  ·refine⟨λx=>p.Fits/\iS p x,⟨_,rfl,?_⟩,?_⟩
   ·show pG [.str p.text] _ (J'.RX _)
    rw[hJ]
    exact .inr ⟨p,rfl,wf.syn,dp,cal,(λk z=>by rw[Pat.wf_line 0 wf] at z;cases z),λ_ z=>⟨rfl,rfl,z⟩,λ_ ft x hx=>⟨ft,hx⟩⟩
   ·rintro x ⟨ft,w,h,s,fs,rfl,e1,e2,Ft⟩;k_places
    rcases EY with⟨w',h',s',rfl,Dv,sm⟩|⟨_,nf⟩
    ·obtain⟨rfl,rfl,rfl⟩:=Dv.uniq Ft.1
     refine⟨_,rfl,iteF ?_⟩
     refine⟨rfl,rfl,_,e1,rfl,_,e1,_,rfl,ite2 (λc=>?_) (λ_=>?_)⟩
     ·simp at c
     exact⟨rfl,_,e2,_,_,_,rfl,hR⟩
    ·exact absurd ft nf
  ·rintro z x fs ⟨rfl,rfl,nf⟩;k_places
   refine⟨⟨by decide,by decide⟩,?_⟩
   rw[if_pos (by decide+kernel)]
   refine⟨λx=>x= .non,rfl,?_⟩;rintro _ rfl;k_places
   rcases EY with⟨w',h',s',rfl,Dv,sm⟩|⟨rfl,_⟩
   ·exact absurd ⟨w',h',s',Dv,sm⟩ nf
   refine⟨_,rfl,iteF ?_⟩
   exact hR
end
local macro_rules | `(tactic| walk_at "b1") => `(tactic| exact wu λ_ _ _ _ _ _ _ => rfl)
local macro_rules | `(tactic| walk_at "b2") => `(tactic| exact bind2 λ_ _ _ _ _ _ _ _ => rfl)
local macro_rules | `(tactic| walk_at "b3") => `(tactic| exact bind3 λ_ _ _ _ _ _ _ _ _ => rfl)
local macro_rules | `(tactic| walk_at "b4") => `(tactic| exact bind4 λ_ _ _ _ _ _ _ _ _ _ => rfl)
local macro_rules | `(tactic| walk_at "b5") => `(tactic| exact bind5 λ_ _ _ _ _ _ _ _ _ _ _ => rfl)
structure TopIn(K:Ax):Prop where
 uEC:FnIn K "_law_at" iT
 uFN:FnIn K "_law_leaf" iV
 uDL:FnIn K "_law_motif_text" iX
 uDG:FnIn K "_law_wrapped" fX
 uGU:FnIn K "_law_at_the_bound" eO
 uFC:FnIn K "_law_draws" jb
 uFL:FnIn K "_law_lines" jd
 uEX:FnIn K "_law_shift_pair" jg
 uFA:FnIn K "_law_motif" ji
 uEW:FnIn K "_law_piled" jk
 uFH:FnIn K "_law_gcd" jm
 uDW:FnIn K "_law_on" jp
 uFI:FnIn K "_law_leaf_family" jr
 uEH:FnIn K "_law_in_family" jt
 uFD:FnIn K "_law_both" jv
 uFJ:FnIn K "_law_family" jx
 uER:FnIn K "line_from" jF
 uDI:FnIn K "lines_from" jH
 uFQ:FnIn K "number_from" jJ
 uGM:FnIn K "shift_from" jL
 uDN:FnIn K "levelled" jN
 uEL:FnIn K "spread" jP
 uDA:FnIn K "home" jR
 uGA:FnIn K "hues_by_home" jT
 uET:FnIn K "motif_from" jX
 uHB:FnIn K "over_from" fY
 uHA:FnIn K "shifted_from" fZ
 uEQ:FnIn K "rehue_from" gc
 uEE:FnIn K "form_from" gf
 uEB:FnIn K "measure" kC
 uDQ:FnIn K "met" kE
 uGD:FnIn K "mirrored" kG
 uGN:FnIn K "turned" kI
 uGG:FnIn K "read" kK
 uDD:FnIn K "_law_whole" kM
 uDB:FnIn K "_law_numbers" kO
 uEP:FnIn K "law" gy
 uFP:NnIn K "len"
 uFX:NnIn K "str"
 uGJ:NnIn K "list"
 uDH:NnIn K "int"
 uEJ:NnIn K "range"
 uGY:NnIn K "abs"
 uGX:NnIn K "enumerate"
 uEK:NnIn K "isinstance"
 uDZ:NnIn K "bool"
 uFO:NnIn K "tuple"
 uBF:ClIn K "Reading"
 uAY:ClIn K "Motif"
 uCR:ClIn K "Mirror"
 uCV:ClIn K "Turn"
 uBZ:ClIn K "Over"
 uAW:ClIn K "Shifted"
 uBA:ClIn K "Rehue"
 uAZ:ClIn K "Pattern"
 uEF:InIn K "Motif" "Motif.__init__" jV
 uED:InIn K "Mirror" "Mirror.__init__" jZ
 uEM:InIn K "Turn" "Turn.__init__" ke
 uGK:InIn K "Over" "Over.__init__" kh
 uGL:InIn K "Shifted" "Shifted.__init__" kj
 uHC:InIn K "Rehue" "Rehue.__init__" ko
 uDF:InIn K "Reading" "Reading.__init__" kr
 uDK:InIn K "Pattern" "Pattern.__init__" ky
 uEZ:MtIn K "Reading" "may_take" "Reading.may_take" jB
 uFW:MtIn K "Reading" "take" "Reading.take" jD
 uDR:MtIn K "Motif" "family" "Motif.family" gh
 uDJ:MtIn K "Over" "family" "Over.family" gj
 uGW:MtIn K "Shifted" "family" "Shifted.family" gl
 uGH:MtIn K "Mirror" "family" "Mirror.family" gp
 uEN:MtIn K "Turn" "family" "Turn.family" gu
 uGF:MtIn K "Rehue" "family" "Rehue.family" gw
 uDM:NoIn K "Reading" "text"
 uFB:NoIn K "Reading" "place"
 uEY:NoIn K "Motif" "place"
 uFS:NoIn K "Motif" "shifts"
 uFR:NoIn K "Motif" "hues"
 uFT:NoIn K "Mirror" "form"
 uFM:NoIn K "Turn" "form"
 uEV:NoIn K "Over" "above"
 uGE:NoIn K "Over" "below"
 uDP:NoIn K "Shifted" "form"
 uFF:NoIn K "Shifted" "x"
 uGB:NoIn K "Shifted" "y"
 uFK:NoIn K "Rehue" "form"
 uFZ:NoIn K "Rehue" "old"
 uGP:NoIn K "Rehue" "new"
 uGZ:NoIn K "Pattern" "text"
 uGT:NoIn K "Pattern" "shifts"
 uEI:NoIn K "Pattern" "form"
 uFE:CsIn K "SIGNS" ".123456"
 uGS:CiIn K "LONGEST" 8
 uGI:CiIn K "DEEP" 5
 uGV:CiIn K "MOST" 720
 eb:EbIn K
 uN:E1In K "WrongSign" "WrongSign.__init__" jz
 uAD:EaIn K "WrongSign"
 uFG:NoIn K "WrongSign" "place"
 uP:E1In K "OneLine" "OneLine.__init__" kA
 uAE:EaIn K "OneLine"
 uGR:NoIn K "OneLine" "place"
 uCX:E0In K "TooGreat"
 uDX:EiIn K "MotifError"
 uDY:EmIn K "MotifError" "MotifError"
 uES:EmIn K "MotifError" "WrongSign"
 uEG:EmIn K "MotifError" "OneLine"
 uFV:EmIn K "MotifError" "TooGreat"
 uDC:EmIn K "WrongSign" "MotifError"
 uFY:EmIn K "WrongSign" "WrongSign"
 uDU:EmIn K "WrongSign" "OneLine"
 uDO:EmIn K "WrongSign" "TooGreat"
 uGC:EmIn K "OneLine" "MotifError"
 uEU:EmIn K "OneLine" "WrongSign"
 uGO:EmIn K "OneLine" "OneLine"
 uFU:EmIn K "OneLine" "TooGreat"
 uEO:EmIn K "TooGreat" "MotifError"
 uDS:EmIn K "TooGreat" "WrongSign"
 uGQ:EmIn K "TooGreat" "OneLine"
 uEA:EmIn K "TooGreat" "TooGreat"
theorem Ar{V:Bx}{h:Heap}(t:TopIn V.K)(X:V.K.In h)(G:h.Ns mainGlobals V.mg){fa:Addr}{fd:FuncData}(F:Fun V.K "law" "law" gy fa fd):FnOk V.P V.w V.K V.mg V.base (Exc.CX1 V.P V.w) 20 fa fd kQ (lSp V.K dz):=by
 have uB:=mg_none_of X G t.uFP
 have uJ:=mg_none_of X G t.uFX
 have Gs:=mg_none_of X G t.uGJ
 have uI:=mg_none_of X G t.uDH
 have uC:=mg_none_of X G t.uEJ
 have uM:=mg_none_of X G t.uGY
 have Fs:=mg_none_of X G t.uGX
 have uL:=mg_none_of X G t.uEK
 have Hn:=mg_none_of X G t.uDZ
 have Ho:=mg_none_of X G t.uFO
 have Hv:=t.uAZ.i X G
 have uS:=t.uBF.a t.uDM
 have uD:=t.uBF.a t.uFB
 have uR:=t.uAY.a t.uEY
 have uK:=t.uAY.a t.uFS
 have G3:=t.uAY.a t.uFR
 have uW:=t.uCR.a t.uFT
 have uV:=t.uCV.a t.uFM
 have uU:=t.uBZ.a t.uEV
 have uX:=t.uBZ.a t.uGE
 have uT:=t.uAW.a t.uDP
 have G8:=t.uAW.a t.uFF
 have G9:=t.uAW.a t.uGB
 have uQ:=t.uBA.a t.uFK
 have G':=t.uBA.a t.uFZ
 have G_:=t.uBA.a t.uGP
 have uZ:=t.uAZ.a t.uGZ
 have DQ:=t.uAZ.a t.uGT
 have Hf:=t.uAZ.a t.uEI
 have uY:=t.uFE.g X G
 have Fo:=t.uGS.g X G
 have EM:=t.uGI.g X G
 have Dt:=t.uGV.g X G
 have uAD:=t.uN.a t.eb t.uAD X G
 have GV:=t.uFG.all
 have uAE:=t.uP.a t.eb t.uAE X G
 have Hg:=t.uGR.all
 have Hl:=t.uCX.k t.eb X G
 have DN:=t.uDX.b X G
 have ek:pO V:=wv ⟨(let ⟨C,N,bm,k,_⟩:=t.eb.k X G;⟨C,N,bm,k⟩),(t.uN.c t.eb X G),(t.uP.c t.eb X G),(let ⟨C,N,bm,k,_⟩:=t.uCX.k t.eb X G;⟨C,N,bm,k⟩),trivial⟩ ⟨⟨t.uDY,t.uES,t.uEG,t.uFV,trivial⟩,⟨t.uDC,t.uFY,t.uDU,t.uDO,trivial⟩,⟨t.uGC,t.uEU,t.uGO,t.uFU,trivial⟩,⟨t.uEO,t.uDS,t.uGQ,t.uEA,trivial⟩,trivial⟩
 have uG:dP V:=zj (t.uEC.tx X G (by walk_at "b2")) uB
 have GC:kS V:=zl (t.uFN.tx X G (by walk_at "b3"))
 have DJ:gA V:=zm (t.uDL.tx X G (by walk_at "b3")) uJ
 have DK:gB V:=zn (t.uDG.tx X G (by walk_at "b2")) uJ Gs uI
 have Hq:kT V:=zp (t.uGU.tx X G (by walk_at "b1")) uJ uC uG GC DJ DK
 have GI:kU V:=zq (t.uFC.tx X G (by walk_at "b3")) uC uG
 have GJ:kW V:=zr (t.uFL.tx X G (by walk_at "b1")) uC uB
 have GK:kX V:=zt (t.uEX.tx X G (by walk_at "b1")) uI
 have GL:kY V:=zu (t.uFA.tx X G (by walk_at "b2")) GI GJ GK DJ
 have Hr:kZ V:=zw (t.uEW.tx X G (by walk_at "b1")) uC uG GL DK
 have DM:gC V:=zx (t.uFH.tx X G (by walk_at "b2")) uM
 have GO:lf V:=zy (t.uDW.tx X G (by walk_at "b4"))
 have Fk:lh V:=zz (t.uFI.tx X G (by walk_at "b1")) uM DM GO
 have GP:ll V:=zA (t.uEH.tx X G (by walk_at "b3"))
 have GU:lm V:=zB (t.uFD.tx X G (by walk_at "b2")) DM GP
 have Hs:lp V:=zC (t.uFJ.tx X G (by walk_at "b1")) Fk GU
 have uN:gD V:=zD (t.uN.txe t.eb X G (by walk_at "b2")) DN uAD GV
 have uF:cF V:=zE (t.uEZ.txm t.uBF (by walk_at "b2")) uB uS uD
 have uA:bX V:=zF (t.uFW.txm t.uBF (by walk_at "b2")) uD uF uN
 have Fl:lq V:=zG (t.uER.tx X G (by walk_at "b3")) uC uY uA uF
 have G4:lr V:=zH (t.uDI.tx X G (by walk_at "b1")) uB Fl Fo uF
 have Fq:lu V:=zI (t.uFQ.tx X G (by walk_at "b1")) uI uF uA
 have uO:eX V:=zJ (t.uGM.tx X G (by walk_at "b1")) Fq uA
 have DO:gE V:=zK (t.uDN.tx X G (by walk_at "b2"))
 have DP:gG V:=zL (t.uEL.tx X G (by walk_at "b2")) uM DO
 have GZ:lv V:=zM (t.uDA.tx X G (by walk_at "b3"))
 have G2:lw V:=zN (t.uGA.tx X G (by walk_at "b2")) Fs GZ uY
 have G5:lx V:=zO (t.uEF.txi X G (by walk_at "b5")) DP G2 uR uK G3
 have EL:gH V:=zP (t.uET.tx X G (by walk_at "b1")) G4 uO uD G5 uA
 have EN:gI V:=zQ (t.uED.txi X G (by walk_at "b2")) uW
 have EO:gJ V:=zR (t.uEM.txi X G (by walk_at "b2")) uV
 have EI:gK V:=zS (t.uGK.txi X G (by walk_at "b3")) uU uX
 have EJ:gL V:=zT (t.uGL.txi X G (by walk_at "b4")) uT G8 G9
 have EK:gM V:=zU (t.uHC.txi X G (by walk_at "b4")) uQ G' G_
 have uH:pM V:=zZ (t.uHB.tx X G (by walk_at "b2")) (t.uHA.tx X G (by walk_at "b2")) (t.uEQ.tx X G (by walk_at "b2")) (t.uEE.tx X G (by walk_at "b2")) EI uA uO EJ uI EK EL EM EN EO uF 6
 have Hj:ly V:=Aa (t.uDF.txi X G (by walk_at "b2")) uS uD
 have Hk:lz V:=Ab (t.uDK.txi X G (by walk_at "b4")) uZ DQ Hf
 have uP:gN V:=Ac (t.uP.txe t.eb X G (by walk_at "b2")) DN uAE Hg
 have ER:lC V:=Ad (t.uEB.tx X G (by walk_at "b2")) DO
 have ES:gO V:=Ae (t.uDQ.tx X G (by walk_at "b2")) ER
 have ET:gP V:=Af (t.uGD.tx X G (by walk_at "b1"))
 have EU:gQ V:=Ag (t.uGN.tx X G (by walk_at "b1")) DP
 have uE:pN V:=Am (t.uDR.txm t.uAY (by walk_at "b1")) (t.uDJ.txm t.uBZ (by walk_at "b1")) (t.uGW.txm t.uAW (by walk_at "b1")) (t.uGH.txm t.uCR (by walk_at "b1")) (t.uEN.txm t.uCV (by walk_at "b1")) (t.uGF.txm t.uBA (by walk_at "b1")) uK uR uP ES uU uX uT ET uW EU uV uQ 6
 have Ht:lD V:=An (t.uGG.tx X G (by walk_at "b1")) uB uH Dt uD Hj Hk uE uN Hl
 have DR:gR V:=Ao (t.uDD.tx X G (by walk_at "b1")) uL Hn uI
 have Hu:lF V:=Ap (t.uDB.tx X G (by walk_at "b2")) uB uL Ho uC DR
 exact Aq F uL uJ uG Hq Hr Hs Ht DR Hu Dt uZ DQ Hv ek
theorem all_mk{l:B9}{w:World}{K:Ax}{h:Heap}{mg:Str->Option Value}{fa:Addr}(X:K.In h)(G:h.Ns mainGlobals mg)(Em:mg "law"=some (.ref fa))(t:TopIn K):
  ∃ fd:FuncData,(∀ (s:Shared) (v:Value),BindsTo s fd ⟨[v],[]⟩ [("_law_script",v)])/\∀ base:Heap,K.In base->base.Ns mainGlobals mg->FnOk l.prog w K mg base (Exc.CX1 l.prog w) 20 fa fd ["_law_script"] (lSp K dz):=by
 obtain⟨fd,b,F⟩:=t.uEP.law X G Em (λ_ _ _ _ _ _ _=>rfl)
 exact⟨fd,b,λbase _ _=>Ar (V:=⟨l.prog,w,K,mg,base⟩) t X G F⟩
theorem law_walk{l:B9}{q:Program}{g_:List Str}{XP:(Str->Option Value)->Heap->Prop}{YP:World->Heap->Prop}{d:DefRec}{K:Params->Ax}(hn:l.most=some 63)(D4:d.params.defaults=[])
  (hY:∀ (w:World) (h:Heap),YP w h->(K w.params).In h)
  (F:∀ (w:World) (mg:Str->Option Value) (fa:Addr) (h:Heap),(K w.params).In h->h.Ns mainGlobals mg->mg d.name=some (.ref fa)->
   ∃ fd:FuncData,(∀ (s:Shared) (u:Value),BindsTo s fd ⟨[u],[]⟩ [("_law_script",u)])/\∀ base:Heap,(K w.params).In base->base.Ns mainGlobals mg->FnOk l.prog w (K w.params) mg base (Exc.CX1 l.prog w) 20 fa fd ["_law_script"] (lSp (K w.params) dz)):
  CB q g_ XP YP l.row.toRowW d [] (λf vs=>PySem.call f vs):=
 L2.walk_of (n:=63) (k:=20) (x:="_law_script") (CX:=λw=>Exc.CX1 l.prog w) (sp:=λw=>lSp (K w.params) dz) hn (by decide) D4 ⟨rfl,by decide,by decide⟩ hY F (λ_ _ a ns hl _ hS=>tM hl hS) λ_ _ _ _ _ ⟨_,_,_,_,_,_,_,_,_,_,_,_,_,_,_,z⟩=>z
end My
open PySem PySem.W PyProof.Rows
local macro_rules | `(tactic| walk_at "top") => `(tactic| first | ((with_reducible refine' My.fnIn_mk ?a ?l ?c ?k); (case a => k_is); (case l => k_is); (case c => k_is); (case k => k_is)) | ((with_reducible refine' My.nnIn_mk ?a); (case a => k_is)) | ((with_reducible refine' My.noIn_mk ?a ?b); (case a => k_is); (case b => k_is)) | ((with_reducible refine' My.mtIn_mk ?a ?b ?i ?l ?c ?k); (case a => k_is); (case b => k_is); (case i => k_is); (case l => k_is); (case c => k_is); (case k => k_is)) | ((with_reducible refine' My.inIn_mk ?a ?mk ?b ?i ?kp ?l ?c ?k); (case a => k_is); (case mk => k_is); (case b => k_is); (case i => k_is); (case kp => k_is); (case l => k_is); (case c => k_is); (case k => k_is)) | ((with_reducible refine' My.clIn_mk ?a ?pg ?hd ?po ?sa ?ha ?hn ?ht ?hm); (case a => k_is); (case pg => k_is); (case hd => k_is); (case po => k_is); (case sa => k_is); (case ha => k_is); (case hn => k_is); (case ht => k_is); (case hm => k_is)) | ((with_reducible refine' My.ciIn_mk ?a); (case a => k_is)) | ((with_reducible refine' My.csIn_mk ?a); (case a => k_is)) | ((with_reducible refine' My.ebIn_mk ?a ?kp ?o ?nk ?al ?ni); (case a => k_is); (case kp => k_is); (case o => k_is); (case nk => k_is); (case al => rfl); (case ni => k_is)) | ((with_reducible refine' My.e0In_mk ?b ?a ?kp ?o ?nk ?al ?ni); (case b => k_is); (case a => k_is); (case kp => k_is); (case o => k_is); (case nk => k_is); (case al => rfl); (case ni => k_is)) | ((with_reducible refine' My.e1In_mk ?b ?a ?kp ?o ?j ?i ?l ?c ?k); (case b => k_is); (case a => k_is); (case kp => k_is); (case o => k_is); (case j => k_is); (case i => k_is); (case l => k_is); (case c => k_is); (case k => k_is)) | ((with_reducible refine' My.eaIn_mk ?a ?b); (case a => k_is); (case b => k_is)) | ((with_reducible refine' My.eiIn_mk ?a ?b ?c ?d); (case a => k_is); (case b => k_is); (case c => k_is); (case d => k_is)) | ((with_reducible refine' My.emIn_mkT ?e ?a ?c ?d); (case e => decide); (case a => k_is); (case c => k_is); (case d => k_is)) | ((with_reducible refine' My.emIn_mkF ?e ?a ?c ?d); (case e => decide); (case a => k_is); (case c => k_is); (case d => k_is)))
set_option maxRecDepth 100000 in
set_option maxHeartbeats 0 in
theorem PySem.Challenge.cw_motiffield_k11_too_great_holds : PySem.Challenge.rw_motiffield_k11_too_great.Holds := by
  w_on; o_law; k_head; (case hw => w_witness2)
  k_fill
  refine My.law_walk (l := PySem.Challenge.rw_motiffield_k11_too_great) rfl rfl (λw h Y => kIn_of Y) ?F
  case F =>
    intro w mg fa h KX G j7
    refine My.all_mk KX G j7 ?_
    constructor
    all_goals walk_at "top"
end
