import PyProof.Rows.All
import Wide.All
import OpenK.AllK
import Wide.FinOn
import Lean
import PyProof.EqAt
import PyProof.EqKinds
import PyProof.TupleCall
import PySem.Challenge.RW_motiffield_k09_numbers
set_option Elab.async false
set_option linter.all false
set_option maxRecDepth 100000
set_option maxHeartbeats 4000000
open PySem.W renaming Frag->xK,findIn->xO,mroIn->yr,OpenLaw->zG,clsIn->zL,handedIn->Aa,WalkO->Af
open List renaming mem_singleton->xL,length_cons->xN,mem_cons->xP,range->xR,length_append->xT,mem_cons_of_mem->xV,mem_append_right->xW,size_toArray->xX,getElem?_set_ne->xY,mem_cons_self->xZ,lookup_cons->ya,map_cons->yc,append_assoc->ye,append_nil->yf,length_map->yg,getElem?_eq_some_iff->yi,getElem?_eq_getElem->yk,replicate->yl,getElem?_map->yn,getElem?_set_self->yq,cons_append->yt,mem_append->yu,nodup_cons->yw,getElem?_append_left->yx,length_set->yy,all_eq_true->yz,lookup->yD,length->yG,mem_map->yH,mem_append_left->yL,getElem?_append_right->yM,any_cons->yO,find?_cons->yQ,map->yR,getElem?_set->yS,length_take->yT,length_nil->yV,getD->yY,map_append->yZ,nodup_append->za,not_mem_nil->zd,filterMap_cons->zg,length_drop->zj,all_cons->zk,replicate_succ->zl,flatten_cons->zm,of_mem_zip->zB,getElem?_replicate->zC,mem_of_getElem?->zD,map_nil->zF,contains_cons->zH,getElem_mem->zJ,ext_getElem?->zK,drop->zM,eq_nil_of_length_eq_zero->zN,take_append_of_le_length->zW,mem_filter->zY,mem_filterMap->zZ,filterMap_map->Ab,nodup_nil->Ah,forIn_cons->Ai,range_succ->Am,take_succ->An,take_of_length_le->Ao,dropLast_cons₂->Ap,getElem?_eq_none->Aw,nil_append->Ax,drop_eq_getElem_cons->AA,length_range->AI,drop_zero->AL,prefix_iff_eq_take->AM,append_eq_append_iff->AO,drop_length->AQ
open Nat renaming le_refl->xM,ne_of_lt->xQ,le_trans->xU,lt_of_lt_of_le->yb,zero_le->yj,ne_of_gt->yB,le_succ->yF,lt_irrefl->yJ,le_of_lt->zf,le_of_eq->zi,pow_pos->zq,pow_succ->zr,zero_add->zx,lt_succ_self->zA,lt_or_ge->zI,pow_le_pow_right->zT,not_lt_zero->zU,le_of_not_lt->Ae,lt_of_le_of_lt->Ag,lt_succ_of_lt->Aj,add_sub_add_right->Ak,succ_ne_self->Aq,mul_le_mul->Av,succ_le_succ->Az,min_eq_left->AN
open Bool renaming false_ne_true->xS,and_eq_true->ym,or_true->yU,eq_iff_iff->zh,eq_false_iff->zw,or_false->Ac
open Int renaming mul_pos->yd,mul_ediv_cancel->yo,mul_le_mul_of_nonneg_right->yp,mul_neg->yI,emod_def->zb,mul_nonpos_of_nonpos_of_nonneg->zc,neg_mul->ze,eq_of_mul_eq_mul_right->zp,add_zero->zt,lt_trichotomy->zu,neg_add->zv,le_trans->zy,toNat_natCast->zE,mul_comm->zO,emod_nonneg->zP,emod_lt_of_pos->zQ,mul_emod_left->zR,mul_eq_zero->zS,mul_neg_of_neg_of_pos->zV,fmod_nonneg_of_pos->Ar,fmod_lt_of_pos->As,natAbs_mul->Au,dvd_add_left->AB,dvd_mul_right->AC,add_assoc->AD,sub_eq_add_neg->AE,toNat_of_nonneg->AF,mul_zero->AG,zero_mul->AH,neg_neg->AJ,add_comm->AK
open Option renaming bind_some->zn,getD_none->Ad
open Array renaming getElem?_eq_some_iff->zo,length_toList->zz,append_assoc->zX,all_toList->Al,toList_inj->Ay
open PySem.W (InitBack any_some callWith_K callWith_K0 cellsFrom_some cls_value codeIn codeRec_of emptyDict eq_bytes findCls findObj_own fnOf get_value hasDictIn hideAll hideAll_get hideAll_none hideAll_size instObj isFn isNs_of_in kIn_of keepIn ki_setAt ki_setBack kia_one kitOne kitx_bool kitx_dict kitx_float kitx_int kitx_list kitx_none kitx_own kitx_str kitx_tuple len_bytes lookIn make_core makesIn makes_of methodCall_KW methodObj method_cls method_fn mg_none_of mg_of ne_bytes nsIn nsMap_none_of_in nsOkIn of_hideAll osa_open plainGet plainGet_of plainOver readsIn specialIn tailIn tail_of_in takerIn takesIn truthy_bytes)
namespace PySem.W.Fast
def tw6670226820471326516:=()
def tw9243772414217508147:=()
def tw1056705205803469644:=()
def tw7337517528960167720:=()
def tw15687921647377309330:=()
def tw16550480616099474040:=()
def tw7420497905196454195:=()
def tw2027265504984258729:=()
def tw5733128545810416377:=()
def tw17224443495161985527:=()
def tw6481138731983967244:=()
def tw3460571802531446055:=()
def tw15260721404539969109:=()
def tw8664807148921806225:=()
def tw16504787918326280298:=()
def tw2476508936359509473:=()
def tw11962563329840158147:=()
def tw10986195433733884942:=()
def tw10434445516710664253:=()
def tw7625759694502166988:=()
def tw3011522097468203431:=()
def tw10036089389160877840:=()
def tw347682217820513111:=()
def tw17625915572699682866:=()
def tw7370227548487759032:=()
def tw17201123089816668937:=()
def tw8767538565366624545:=()
def tw4390538965452979216:=()
def tw11330369588370665688:=()
def tw14021517736423756729:=()
def tw1507254261385644647:=()
def tw7903327640527765464:=()
def tw16893568311250400237:=()
def tw16769636320402160826:=()
def tw18091133079260694384:=()
def tw8804417122895158814:=()
def tw2710371307597180391:=()
def tw2935028707305057793:=()
def tw16584556584874145043:=()
def tw15475895159436068672:=()
def tw3133925129691284728:=()
def tw14471264328311402355:=()
def tw2568178164382565082:=()
def tw6307937153396071385:=()
def tw9940201914657572368:=()
def tw14200279721442131828:=()
def tw15426558311777525369:=()
def tw17389553765634282158:=()
def tw16365243304627077602:=()
def tw12887671880021270780:=()
def tw15380054065133952953:=()
def tw12248687521183068572:=()
def tw1659213343004720065:=()
def tw6001449756706462638:=()
def tw16940594078047416763:=()
def tw2354278278229132708:=()
def tw15315674499954080539:=()
def tw4065553015257564996:=()
def tw5154795577513048832:=()
def tw242569437168566804:=()
def tw9676245112264508609:=()
def tw17567134268559962873:=()
def tw1225992396674443170:=()
def tw7127927142562917257:=()
def tw14839733263958574821:=()
def tw3471796841448665170:=()
def tw1930853797954060873:=()
def tw12849020280208126373:=()
def tw1471308138579224518:=()
def tw6473750127375513585:=()
def tw10344640151194362423:=()
def tw6869432046699228282:=()
def tw4205293160885776831:=()
def tw4333807045229664637:=()
def tw5032979268956600543:=()
def tw11535339389065597485:=()
def tw15096705442001308382:=()
def tw5059009146022499770:=()
def tw6911032921636316606:=()
def tw13997374004181534112:=()
def tw14613344936443908813:=()
def tw4918787376251357936:=()
def tw1612445424557180119:=()
def tw15704004560430847970:=()
def tw1763085488060062956:=()
def tw5012031537950140635:=()
def tw3889862177252844631:=()
def tw11054216963109983465:=()
def tw18385318220606073069:=()
def tw17902627576027582699:=()
def tw8074037662066634298:=()
def tw3512201403638070895:=()
def tw11156232935255032360:=()
def tw12805194798235555353:=()
def tw11062619352625064940:=()
def tw13892298774191892757:=()
def tw13222851207843956995:=()
def tw17523893254208622999:=()
def tw11766934220036776446:=()
def tw16540328130977959665:=()
def tw7397798190112910135:=()
def tw12916691326048457113:=()
def tw9033269978517506904:=()
def tw693537597201748374:=()
def tw15082322107556388557:=()
def tw14867101611226814268:=()
def tw689942546008329474:=()
def tw5941716213092259112:=()
def tw13701245959716769659:=()
def tw1677723248838583649:=()
def tw394063196582414017:=()
def tw10095935064730628126:=()
def tw1582999366195200739:=()
def tw8856016441585242944:=()
def tw18163672630277073840:=()
def tw13781865268143699166:=()
def tw11772053027609766278:=()
def tw4166843500263725514:=()
def tw8247206733319111200:=()
def tw9491116232835959850:=()
def tw2748175120740410241:=()
def tw2744511596009081543:=()
def tw15408387484989615406:=()
def tw373977723730009089:=()
def tw15010425372367373578:=()
def tw965770162641850518:=()
def tw12068850429866689978:=()
def tw602953167915379622:=()
def tw15634647283568823232:=()
def tw1973543421947672088:=()
def tw8525309881683738224:=()
def tw2849853030993697859:=()
def tw6106477774631880321:=()
def tw17969607394727712208:=()
def tw12337189234794924365:=()
def tw17973059946455842663:=()
def tw15124888225800118760:=()
def tw12892373355367156807:=()
def tw14701440805438114915:=()
def tw2449171395107075981:=()
def tw3811003291860030200:=()
def tw502900718609560492:=()
def tw10469237805998237759:=()
def tw7666183974244571216:=()
def tw11289031747456447967:=()
def tw786919388091814838:=()
def tw682346760208172232:=()
def tw9386984123783344262:=()
def tw17885347734184264594:=()
def tw6341015457416155604:=()
def tw17130950506577879072:=()
def tw3640355560989478143:=()
def tw15215379772351142463:=()
def tw16367949771482775745:=()
def tw5747163724077559052:=()
def tw1678104434909897376:=()
def tw9123916571199878424:=()
def tw4972027727189461368:=()
def tw10597308399381801672:=()
def tw434662558923083495:=()
def tw17020951747306844203:=()
def tw15519248494430568072:=()
def tw12465042870693196202:=()
def tw9148839511598306364:=()
def tw2354015110643759704:=()
def tw2154073653119107277:=()
def tw1768443919502557635:=()
def tw12459835375385413685:=()
def tw8526883888040168819:=()
def tw2033242466445501202:=()
def tw16334702302080974183:=()
def tw16123103300415370600:=()
def tw17858541752808361512:=()
def tw5417487568774324263:=()
def tw5475022488643746915:=()
def tw9936564539931967281:=()
def tw11822742774788050576:=()
def tw844469060800881153:=()
def tw14188086542815547048:=()
def tw16779362048686106045:=()
def tw12575312121581902591:=()
def tw16219789936033981528:=()
def tw1933340721822289847:=()
def tw17365235393862547281:=()
def tw9662615593690404575:=()
def tw13151063551650420512:=()
def tw7388761194090160409:=()
def tw18149087826292931960:=()
def tw14937132370844879219:=()
def tw11778979091312349568:=()
def tw2711713353580790453:=()
def tw4866228020777067339:=()
def tw7585232033422149021:=()
def tw13229356786990898357:=()
def tw281454284196636343:=()
def tw1641383788905068404:=()
def tw16077476329576153478:=()
def tw9849482485527591256:=()
def tw4193645248098600269:=()
def tw14212155024806791471:=()
def tw14979270092603754855:=()
def tw3779295021274026213:=()
def tw17387505131671380488:=()
def tw7630161839732956300:=()
def tw1076032413377821363:=()
def tw3040018708499020649:=()
def tw11940154041103192364:=()
def tw2586114013952007585:=()
def tw12069464793539551398:=()
def tw12144263221935577250:=()
def tw5812682839376605673:=()
def tw11745632377808163233:=()
def tw3946031957043169385:=()
def tw8183681232791809324:=()
def tw14386138249617114224:=()
def tw3977958985826789988:=()
def tw10346783678940922721:=()
def tw11332019688722686697:=()
def tw17415142630823682265:=()
def tw7589704400344590474:=()
def tw3181641415110226337:=()
def tw18093392002058112204:=()
def tw10101673564772016430:=()
def tw4954171656204013582:=()
def tw17669793625347142414:=()
def tw9634532516314888545:=()
def tw5275175091634781381:=()
def tw15175709472164849587:=()
def tw5631521345932396618:=()
def tw7811370172640782856:=()
def tw12915866018760884136:=()
def tw5989605722719631022:=()
def tw902143326495879086:=()
def tw385793522820515398:=()
def tw13560582776471795842:=()
def tw4044812610497798349:=()
def tw11813793502324576748:=()
def tw13085486298727301934:=()
def tw11277037497821429841:=()
def tw5646721889386214896:=()
def tw11305562371404235013:=()
def tw16234546257119821335:=()
def tw14502008261768717871:=()
def tw14016312288038067147:=()
def tw13163693112649165180:=()
def tw6325376256686622996:=()
def tw14697059843013930545:=()
def tw10260227301464530080:=()
def tw10200052922129869067:=()
def tw9536646777935942898:=()
def tw18377867081969049391:=()
def tw3211211302967046438:=()
def tw8344040881624524956:=()
def tw3972592681018608646:=()
def tw1609931156388241025:=()
def tw11578135569059821248:=()
def tw17408216978021912547:=()
def tw558855770151605932:=()
def tw3210828921029879816:=()
def tw13219317911676299166:=()
def tw14009287598960277392:=()
def tw2989915112177441566:=()
def tw1047214734409734972:=()
def tw6520829064530927920:=()
def tw18070249200955819762:=()
def tw5833840558433010993:=()
def tw13578211767522647884:=()
def tw5048596555186264408:=()
def tw1097854869077850386:=()
def tw9266968233886861589:=()
def tw4321079226509406156:=()
def tw17734397525392631607:=()
def tw6630531795552777513:=()
def tw9927675440885391172:=()
def tw12670013740005370105:=()
def tw8305389923664846814:=()
def tw9138287752503741800:=()
def tw16092231183355625062:=()
def tw13191199646524293749:=()
def tw919277294843075895:=()
def tw11268722182455166663:=()
def tw5057875277854313753:=()
def tw1603976493939353844:=()
def tw2579248006343463379:=()
def tw12162139492038189079:=()
def tw1458777498221288302:=()
def tw13587885502862549559:=()
def tw14044280131145979443:=()
def tw5770456141577218877:=()
def tw3551542415415669529:=()
def tw4326949514007926808:=()
def tw1715044657209192490:=()
def tw10865942369726995788:=()
def tw5984753854940254122:=()
def tw5536895558952892032:=()
def tw11769488951228987304:=()
def tw9482940600411831462:=()
def tw6906026702326220403:=()
def tw16230205815802822176:=()
def tw13699353019377941253:=()
def tw10667199885000521131:=()
def tw16360821233484402390:=()
def tw140298804800448971:=()
def tw10861857751672983245:=()
def tw12860843423356627507:=()
def tw1303848314553228058:=()
def tw13327433219272011706:=()
def tw639020566322668251:=()
def tw3578357068703260958:=()
def tw13908351975834691396:=()
def tw5816482529919506115:=()
def tw17439782245224933475:=()
def tw4034651451204989139:=()
def tw6747715467785869314:=()
def tw12180755338961634734:=()
def tw10127693381871524792:=()
def tw4472094093072776524:=()
def tw9296017117753158292:=()
def tw1000750109265397505:=()
def tw10507366290740916109:=()
def tw11448290242064373084:=()
def tw8530236241794630408:=()
def tw12243483445307401401:=()
def tw10599629834049582510:=()
def tw18207843889551692252:=()
def tw12834076980171851915:=()
def tw15419178570175157912:=()
def tw11381184293745844931:=()
def tw2017878957242572049:=()
def tw360097370752365138:=()
def tw5303827551828326650:=()
def tw2716211329962137183:=()
def tw2268040189647899997:=()
def tw8077412289183483162:=()
def tw976143063153598769:=()
end PySem.W.Fast
section
namespace L2
open PySem PySem.Spec PyProof.Rows
abbrev Key:=Sum Int Str
def cJ:Key->Value->Bool
 | .inl k,v=>Value.isInt k v
 | .inr x,v=>Value.isStrOf x v
def keyH(w:World):Key->Int
 | .inl k=>hashInt k
 | .inr x=>hashStr w x
theorem keyIs_shape:∀ {k:Key} {v:Value},cJ k v=true->(∃ i t,k=Sum.inl i/\v=Value.int i t)\/(∃ x t,k=Sum.inr x/\v=Value.str x t)
 | .inl i,v,h=>by
  obtain⟨t,e⟩:=Value.isInt_shape (k:=i) (v:=v) h
  exact .inl ⟨i,t,rfl,e⟩
 | .inr x,v,h=>by
  obtain⟨t,e⟩:=Value.isStrOf_shape (x:=x) (v:=v) h
  exact .inr ⟨x,t,rfl,e⟩
theorem nD(i:Int)(t:Tok):cJ (.inl i) (.int i t)=true:=by simp[cJ,Value.isInt]
theorem nE(x:Str)(t:Tok):cJ (.inr x) (.str x t)=true:=by simp[cJ,Value.isStrOf]
theorem nF(a b:Int):decide ((Sum.inl a:Key)=Sum.inl b)=(a==b):=by
 by_cases e:a=b
 ·subst e;simp
 ·have h:¬ (Sum.inl a:Key)=Sum.inl b:=λq=>e (Sum.inl.inj q)
  rw[decide_eq_false h]
  exact(beq_eq_false_iff_ne.mpr e).symm
theorem nG(a b:Str):decide ((Sum.inr a:Key)=Sum.inr b)=decide (a=b):=by
 by_cases e:a=b
 ·subst e;simp
 ·have h:¬ (Sum.inr a:Key)=Sum.inr b:=λq=>e (Sum.inr.inj q)
  rw[decide_eq_false h,decide_eq_false e]
theorem nH(a:Int)(b:Str):decide ((Sum.inl a:Key)=Sum.inr b)=false:=decide_eq_false (λq=>nomatch q)
theorem nI(a:Str)(b:Int):decide ((Sum.inr a:Key)=Sum.inl b)=false:=decide_eq_false (λq=>nomatch q)
def bu(prog:Program)(w:World):PySem.KeyKind prog w Key where
 is:=cJ
 hash:=keyH w
 inj:=λv a b ha hb=>by
  rcases keyIs_shape ha with⟨i,t,rfl,rfl⟩|⟨x,t,rfl,rfl⟩
  ·rcases keyIs_shape hb with⟨j,u,rfl,e⟩|⟨y,u,rfl,e⟩
   ·injection e with e1 _;rw[e1]
   ·exact nomatch e
  ·rcases keyIs_shape hb with⟨j,u,rfl,e⟩|⟨y,u,rfl,e⟩
   ·exact nomatch e
   ·injection e with e1 _;rw[e1]
 byValue:=λk v h=>by
  rcases keyIs_shape h with⟨i,t,rfl,rfl⟩|⟨x,t,rfl,rfl⟩<;>rfl
 pyHash:=λhv h=>by
  rcases keyIs_shape hv with⟨i,t,rfl,rfl⟩|⟨x,t,rfl,rfl⟩
  ·exact wpAny_pyHash_int h
  ·exact wpAny_pyHash_str h
 eqBool:=λhu hv h=>by
  rcases keyIs_shape hu with⟨i,t,rfl,rfl⟩|⟨x,t,rfl,rfl⟩
  ·rcases keyIs_shape hv with⟨j,u,rfl,rfl⟩|⟨y,u,rfl,rfl⟩
   ·rw[nF] at h;exact wpAny_eqBool_int h
   ·rw[nH] at h;exact SeqAt.EqAt.int_str i t y u _ _ _ _ h
  ·rcases keyIs_shape hv with⟨j,u,rfl,rfl⟩|⟨y,u,rfl,rfl⟩
   ·rw[nI] at h;exact SeqAt.EqAt.str_int x t j u _ _ _ _ h
   ·rw[nG] at h;exact wpAny_eqBool_str h
 «strs»:=λk x t v h=>by
  rcases keyIs_shape h with⟨i,u,rfl,e⟩|⟨y,u,rfl,e⟩
  ·exact nomatch e
  ·injection e with e1 _
   subst e1
   cases v<;>rfl
theorem mixKind_int(prog:Program)(w:World)(i:Int)(t:Tok):(bu prog w).is (.inl i) (.int i t)=true:=nD i t
theorem nJ(prog:Program)(w:World)(x:Str)(t:Tok):(bu prog w).is (.inr x) (.str x t)=true:=nE x t
end L2
namespace L2
open PySem PySem.Spec PyProof.Rows
inductive V where
 |non|bl (b:Bool)|int (i:Int)|str (x:Str)|byt (b:Array UInt8)|flt (b:UInt64)|ref (a:Addr)|ty (n:String)
 deriving DecidableEq
def RelV:V->Value->Prop
 | .non,u=>u=Value.none
 | .bl b,u=>u=Value.bool b
 | .int i,u=>∃ t,u=Value.int i t
 | .str x,u=>∃ t,u=Value.str x t
 | .byt b,u=>∃ t,u=Value.bytes b t
 | .flt b,u=>∃ t,u=Value.float b t
 | .ref a,u=>u=Value.ref a
 | .ty n,u=>u=Value.type n
abbrev Vals:List V->List Value->Prop:=Paired RelV
theorem Vals.length{xs:List V}{us:List Value}(r:Vals xs us):xs.length=us.length:=Paired.length r
theorem Vals.get:∀ {xs:List V} {us:List Value} {i:Nat} {x:V},Vals xs us->xs[i]?=some x->∃ u,us[i]?=some u/\RelV x u
 |_,_,_,_,.nil,e=>by simp at e
 |_,_,0,_,.cons r _,e=>by simp at e;subst e;exact⟨_,rfl,r⟩
 |_,_,i+1,x,.cons _ t,e=>by
  obtain⟨u,h1,h2⟩:=Vals.get (i:=i) (x:=x) t (by simpa using e)
  exact⟨u,by simpa using h1,h2⟩
theorem Vals.set{x:V}{u:Value}(r:RelV x u):∀ {xs:List V} {us:List Value} (i:Nat),Vals xs us->Vals (xs.set i x) (us.set i u)
 |_,_,_,.nil=> .nil
 |_,_,0,.cons _ t=> .cons r t
 |_,_,i+1,.cons q t=> .cons q (Vals.set r i t)
theorem Vals.append:∀ {xs ys:List V} {us ws:List Value},Vals xs us->Vals ys ws->Vals (xs++ys) (us++ws)
 |_,_,_,_,.nil,s=>s
 |_,_,_,_,.cons r t,s=> .cons r (Vals.append t s)
theorem Vals.take:∀ {xs:List V} {us:List Value} (n:Nat),Vals xs us->Vals (xs.take n) (us.take n)
 |_,_,0,_=> .nil
 |_,_,_+1,.nil=> .nil
 |_,_,n+1,.cons r t=> .cons r (Vals.take n t)
theorem Vals.drop:∀ {xs:List V} {us:List Value} (n:Nat),Vals xs us->Vals (xs.drop n) (us.drop n)
 |_,_,0,r=>r
 |_,_,_+1,.nil=> .nil
 |_,_,n+1,.cons _ t=>Vals.drop n t
def RelO:Option V->Option Value->Prop
 |some v,some u=>RelV v u
 |none,none=>True
 |_,_=>False
def KV{κ:Type}:List (κ × V)->List (κ × Value)->Prop:=Paired λ(p:κ × V) (q:κ × Value)=>p.1=q.1/\RelV p.2 q.2
def kV:Key->V
 | .inl i=> .int i
 | .inr x=> .str x
inductive HO where
  |lst (xs:List V)
  |tup (xs:List V)
  |dK (kvs:List (Key × V))|dT (kvs:List (List Key × V))
  |set (S:Int->Bool) (n:Nat)
  |ins (C dx:Addr) (fs:List (Str × V))
  |own (x:Addr)
  |xd (fs:List (Str × V))
  |met (f x:Addr)
  |rng (lo hi:Int)
  |frz (o:Obj) (u:HO)
  |tbl (ps:Array Value)
  |ext (φ:Heap->Prop)
abbrev Hp:=Addr->Option HO
def upd(H:Hp)(a:Addr)(o:HO):Hp:=λb=>if b=a then some o else H b
theorem av{H:Hp}{a:Addr}{o:HO}:upd H a o a=some o:=by unfold upd;rw[if_pos rfl]
theorem ah{H:Hp}{a b:Addr}{o:HO}(h:b≠a):upd H a o b=H b:=by unfold upd;rw[if_neg h]
theorem nK{H:Hp}{a b:Addr}{o u:HO}(h:H a=some o)(h':H b=some u)(d:o≠u):a≠b:=by
 intro e;subst e;rw[h] at h';exact d (Option.some.inj h')
theorem bf{H:Hp}{a b:Addr}{o:HO}(h:H a=some o)(h':H b=none):a≠b:=by
 intro e;subst e;rw[h] at h';cases h'
section
variable (P:Program)(w:World)
def ObjOk(H:Hp)(h:Heap)(a:Addr):HO->Prop
 | .lst xs=>xs.length<=sizeLine/\∃ (its:List Value) (n:Nat),Vals xs its/\h.get? a=some {cls:= .type "list",data:= .seq its.toArray n}
 | .tup xs=>xs.length<=sizeLine/\∃ its:List Value,Vals xs its/\IsTup h a its.toArray
 | .dK kvs=>kvs.length<=sizeLine/\(a==sysModules)=false/\∃ vs,KV kvs vs/\h.DictOf (bu P w) a vs
 | .dT kvs=>kvs.length<=sizeLine/\(a==sysModules)=false/\∃ xs:List (List Key × Addr × Value),
   Paired (λ(p:List Key × V) (q:List Key × Addr × Value)=>p.1=q.1/\H q.2.1=some (.tup (p.1.map kV))/\RelV p.2 q.2.2) kvs xs/\
   ∃ o es ep,h.get? a=some o/\o.ExactDict/\o.data= .dict es ep/\es.toList=xs.map (entryOfKey (tupleKind (bu P w)))/\(xs.map (·.1)).Nodup
 | .set S n=>h.SetOf (intKind P w) a S n
 | .ins C dx fs=>H dx=some (.own a)/\fs.length<=1000/\dx≠a/\h.get? a=some (instObj C dx)/\
   ∃ mA,h.Ns1 dx mA/\(∀ f,RelO (fs.lookup f) (mA f))/\PySem.Within mA (fs.map (·.1))
 | .own _=>∃ o,h.get? a=some o
 | .xd fs=>∃ mA,h.Ns1 a mA/\∀ f,RelO (fs.lookup f) (mA f)
 | .rng lo hi=>∃ t u v,h.get? a=some {cls:= .type "range",data:= .fields #[.int lo t,.int hi u,.int 1 v]}
 | .frz o u=>h.get? a=some o/\ObjOk H h a u
 | .tbl ps=>h.get? a=some {cls:= .none,data:= .fields ps}
 | .met f x=>h.get? a=some (methodObj (.ref f) (.ref x))
 | .ext φ=>φ h/\(∃ o,h.get? a=some o)/\∀ h1 h2:Heap,φ h1->(∀ o,h1.get? a=some o->h2.get? a=some o)->φ h2
def HOk(H:Hp)(h:Heap):Prop:=∀ a o,H a=some o->ObjOk P w H h a o
end
section
variable {P:Program}{w:World}{H H':Hp}{h h':Heap}{a:Addr}{o:HO}
theorem ObjOk.lt(x:ObjOk P w H h a o):a<h.objs.size:=by
 cases o with
 |lst xs=>obtain⟨_,_,_,_,e⟩:=x;exact Heap.lt_size e
 |tup xs=>obtain⟨_,_,_,p⟩:=x;exact p.lt
 |dK kvs=>obtain⟨_,_,_,_,o,_,_,e,_⟩:=x;exact Heap.lt_size e
 |dT kvs=>obtain⟨_,_,_,_,o,_,_,e,_⟩:=x;exact Heap.lt_size e
 |set S n=>obtain⟨o,_,_,_,e,_⟩:=x;exact Heap.lt_size e
 |ins C dx fs=>obtain⟨_,_,_,e,_⟩:=x;exact Heap.lt_size e
 |own y=>obtain⟨_,e⟩:=x;exact Heap.lt_size e
 |xd fs=>obtain⟨_,⟨_,_,_,e,_⟩,_⟩:=x;exact Heap.lt_size e
 |rng lo hi=>obtain⟨_,_,_,e⟩:=x;exact Heap.lt_size e
 |frz ob u=>obtain⟨e,_⟩:=x;exact Heap.lt_size e
 |tbl ps=>exact Heap.lt_size (show h.get? a=some _ from x)
 |met f y=>exact Heap.lt_size (show h.get? a=some _ from x)
 |ext φ=>obtain⟨_,⟨_,e⟩,_⟩:=x;exact Heap.lt_size e
theorem Paired.mapP{α β:Type}{F G:α->β->Prop}:∀ {l₁:List α} {l₂:List β},Paired F l₁ l₂->(∀ a b,F a b->G a b)->Paired G l₁ l₂
 |_,_,.nil,_=> .nil
 |_,_,.cons r t,f=> .cons (f _ _ r) (Paired.mapP t f)
theorem ObjOk.stay(x:ObjOk P w H h a o)(k:∀ b u,(b=a\/H b=some (.own a))->h.get? b=some u->h'.get? b=some u)
  (ho:∀ b,H b=some (.own a)->H' b=some (.own a)) (ht:∀ b xs,H b=some (.tup xs)->H' b=some (.tup xs)):ObjOk P w H' h' a o:=by
 induction o with
 |lst xs=>obtain⟨z,its,n,r,e⟩:=x;exact⟨z,its,n,r,k _ _ (.inl rfl) e⟩
 |tup xs=>obtain⟨z,its,r,ob,e,c⟩:=x;exact⟨z,its,r,ob,k _ _ (.inl rfl) e,c⟩
 |dK kvs=>obtain⟨z,y,vs,r,ob,es,ep,e,c⟩:=x;exact⟨z,y,vs,r,ob,es,ep,k _ _ (.inl rfl) e,c⟩
 |dT kvs=>
  obtain⟨z,y,xs,r,ob,es,ep,e,c⟩:=x
  exact⟨z,y,xs,Paired.mapP r λp q z=>⟨z.1,ht _ _ z.2.1,z.2.2⟩,ob,es,ep,k _ _ (.inl rfl) e,c⟩
 |set S n=>obtain⟨ob,es,ep,t,e,c⟩:=x;exact⟨ob,es,ep,t,k _ _ (.inl rfl) e,c⟩
 |ins C dx fs=>
  obtain⟨d,z,ne,e,mA,⟨od,es,ep,e2,c⟩,r⟩:=x
  exact⟨ho _ d,z,ne,k _ _ (.inl rfl) e,mA,⟨od,es,ep,k _ _ (.inr d) e2,c⟩,r⟩
 |own y=>obtain⟨ob,e⟩:=x;exact⟨ob,k _ _ (.inl rfl) e⟩
 |xd fs=>obtain⟨mA,⟨od,es,ep,e,c⟩,r⟩:=x;exact⟨mA,⟨od,es,ep,k _ _ (.inl rfl) e,c⟩,r⟩
 |rng lo hi=>obtain⟨t,u,v,e⟩:=x;exact⟨t,u,v,k _ _ (.inl rfl) e⟩
 |frz ob u ih=>obtain⟨e,q⟩:=x;exact⟨k _ _ (.inl rfl) e,ih q⟩
 |tbl ps=>
  have e:h.get? a=some {cls:= .none,data:= .fields ps}:=x
  show h'.get? a=some {cls:= .none,data:= .fields ps}
  exact k a _ (.inl rfl) e
 |met f y=>
  have e:h.get? a=some (methodObj (.ref f) (.ref y)):=x
  show h'.get? a=some (methodObj (.ref f) (.ref y))
  exact k a _ (.inl rfl) e
 |ext φ=>obtain⟨p,⟨o,e⟩,st⟩:=x;exact⟨st _ _ p λo q=>k _ _ (.inl rfl) q,⟨o,k _ _ (.inl rfl) e⟩,st⟩
theorem HOk.lt(x:HOk P w H h)(e:H a=some o):a<h.objs.size:=(x a o e).lt
theorem HOk.fresh(x:HOk P w H h)(e:h.objs.size<=a):H a=none:=by
 cases q:H a with
 |none=>rfl
 |some u=>exact absurd (yb (x.lt q) e) (yJ _)
theorem HOk.kept(x:HOk P w H h)(k:∀ b u,h.get? b=some u->h'.get? b=some u):HOk P w H h':=λa o e=>
 (x a o e).stay (λb u _ q=>k b u q) (λ_ q=>q) λ_ _ q=>q
theorem HOk.laid(x:HOk P w H h)(k:∀ b u,h.get? b=some u->h'.get? b=some u)(hp:h.objs.size<=a)(new:ObjOk P w (upd H a o) h' a o):HOk P w (upd H a o) h':=λb u e=>by
 have hn:=x.fresh hp
 by_cases hb:b=a
 ·subst hb;rw[av] at e;cases e;exact new
 ·rw[ah hb] at e
  exact(x b u e).stay (λc v _ q=>k c v q) (λc q=>by rw[ah (bf q hn)];exact q) λc xs q=>by rw[ah (bf q hn)];exact q
end
def Rd(H:Hp)(a:Addr)(u:HO):Prop:=H a=some u\/∃ o,H a=some (.frz o u)
theorem Rd.of{H:Hp}{a:Addr}{u:HO}(h:H a=some u):Rd H a u:= .inl h
theorem Rd.ok{P:Program}{w:World}{H:Hp}{h:Heap}{a:Addr}{u:HO}(r:Rd H a u)(x:HOk P w H h):ObjOk P w H h a u:=by
 rcases r with r|⟨o,r⟩
 ·exact x a u r
 ·obtain⟨_,q⟩:=x a _ r
  exact q
def Mut:Option HO->Prop
 |some (.lst _)=>True
 |some (.dK _)=>True
 |some (.dT _)=>True
 |some (.set _ _)=>True
 |some (.ins _ _ _)=>True
 |some (.ext _)=>True
 |_=>False
section
variable {P:Program}{w:World}{H:Hp}{h h':Heap}{x e:Addr}{o':HO}
theorem HOk.write(ok:HOk P w H h)(mu:Mut (H x))(he:e=x\/H e=some (.own x))(k:∀ b u,b≠e->h.get? b=some u->h'.get? b=some u)(heo:∃ u,h'.get? e=some u)
  (new:ObjOk P w (upd H x o') h' x o'):HOk P w (upd H x o') h':=λb u q=>by
 have nown:∀ c y,H c=some (.own y)->c≠x:=λc y r z=>by subst z;rw[r] at mu;exact mu
 have ntup:∀ c xs,H c=some (.tup xs)->c≠x:=λc xs r z=>by subst z;rw[r] at mu;exact mu
 by_cases hb:b=x
 ·subst hb;rw[av] at q;cases q;exact new
 ·rw[ah hb] at q
  by_cases hbe:b=e
  ·have q':H b=some (.own x):=by
    rcases he with z|z
    ·exact absurd (hbe.trans z) hb
    ·rw[hbe];exact z
   rw[q] at q';cases q'
   obtain⟨v,hv⟩:=heo
   exact⟨v,by rw[hbe];exact hv⟩
  ·refine(ok b u q).stay (λc v hc r=>k c v ?_ r) (λc r=>by rw[ah (nown c b r)];exact r) λc xs r=>by rw[ah (ntup c xs r)];exact r
   rcases hc with rfl|hc
   ·exact hbe
   ·rintro rfl
    rcases he with z|z
    ·exact nown c b hc z
    ·rw[hc] at z;cases z;exact hb rfl
end
structure Un(fs ex:List Addr)(H H':Hp)(h h':Heap):Prop where
 keep:∀ b o,h.get? b=some o->H b=none->b ∉ fs->b ∉ ex->h'.get? b=some o
 slot:∀ b o,h.get? b=some o->H b=none->b∈fs->b ∉ ex->∃ sl,h'.get? b=some {o with slots:=sl}
 free:∀ b o,h.get? b=some o->H b=none->b ∉ ex->H' b=none
 there:∀ b o,h.get? b=some o->b ∉ ex->∃ o',h'.get? b=some o'
 tups:∀ b xs,H b=some (.tup xs)->H' b=some (.tup xs)
 frzs:∀ b o u,H b=some (.frz o u)->H' b=some (.frz o u)
 tbls:∀ b ps,H b=some (.tbl ps)->∃ more,H' b=some (.tbl (ps++more))
section
variable {fs fs' ex ex':List Addr}{H H1 H2:Hp}{h h1 h2 h':Heap}{a x e:Addr}{o:HO}
theorem Un.any(u:Un fs ex H H1 h h1){b:Addr}{ob:Obj}(q:h.get? b=some ob)(n:H b=none)(hx:b ∉ ex):∃ sl,h1.get? b=some {ob with slots:=sl}:=by
 by_cases hb:b∈fs
 ·exact u.slot b ob q n hb hx
 ·exact⟨ob.slots,u.keep b ob q n hb hx⟩
theorem Un.trans(a:Un fs ex H H1 h h1)(b:Un fs ex H1 H2 h1 h2):Un fs ex H H2 h h2 where
 keep:=λc ob q n hc hx=>b.keep c ob (a.keep c ob q n hc hx) (a.free c ob q n hx) hc hx
 slot:=λc ob q n hc hx=>by
  obtain⟨sl,e1⟩:=a.slot c ob q n hc hx
  obtain⟨sl',e2⟩:=b.slot c _ e1 (a.free c ob q n hx) hc hx
  exact⟨sl',e2⟩
 free:=λc ob q n hx=>by
  obtain⟨o',e1⟩:=a.there c ob q hx
  exact b.free c o' e1 (a.free c ob q n hx) hx
 there:=λc ob q hx=>by
  obtain⟨o',e1⟩:=a.there c ob q hx
  exact b.there c o' e1 hx
 tups:=λc xs q=>b.tups c xs (a.tups c xs q)
 frzs:=λc ob xs q=>b.frzs c ob xs (a.frzs c ob xs q)
 tbls:=λc ps q=>by
  obtain⟨m1,e1⟩:=a.tbls c ps q
  obtain⟨m2,e2⟩:=b.tbls c _ e1
  exact⟨m1++m2,by rw[e2,zX]⟩
theorem Un.kept(k:∀ b u,h.get? b=some u->h'.get? b=some u):Un fs ex H H h h':=
 ⟨λb ob q _ _ _=>k b ob q,λb ob q _ _ _=>⟨ob.slots,k b ob q⟩,λ_ _ _ n _=>n,λb ob q _=>⟨ob,k b ob q⟩,λ_ _ q=>q,λ_ _ _ q=>q,λ_ ps q=>⟨#[],by rw[q];simp⟩⟩
theorem Un.refl:Un fs ex H H h h:=Un.kept λ_ _ q=>q
theorem Un.laid(k:∀ b u,h.get? b=some u->h'.get? b=some u)(hp:h.objs.size<=a)(hn:H a=none):Un fs ex H (upd H a o) h h' where
 keep:=λb u q _ _ _=>k b u q
 slot:=λb u q _ _ _=>⟨u.slots,k b u q⟩
 free:=λb u q n _=>by rw[ah (xQ (yb (Heap.lt_size q) hp))];exact n
 there:=λb u q _=>⟨u,k b u q⟩
 tups:=λb xs q=>by rw[ah (bf q hn)];exact q
 frzs:=λb u xs q=>by rw[ah (bf q hn)];exact q
 tbls:=λb ps q=>⟨#[],by rw[ah (bf q hn),q];simp⟩
theorem Un.write(mu:Mut (H x))(he:e=x\/H e=some (.own x))(k:∀ b u,b≠e->h.get? b=some u->h'.get? b=some u)(heo:∃ u,h'.get? e=some u):Un fs ex H (upd H x o) h h':=by
 have hx:∀ b,H b=none->b≠x:=λb n z=>by subst z;rw[n] at mu;exact mu
 have hb:∀ b,H b=none->b≠e:=λb n z=>by
  subst z
  rcases he with r|r
  ·exact hx b n r
  ·rw[n] at r;cases r
 have hm:∀ b u,H b=some u->¬ Mut (some u)->b≠x:=λb u q nm z=>by subst z;rw[q] at mu;exact nm mu
 refine⟨λb u q n _ _=>k b u (hb b n) q,λb u q n _ _=>⟨u.slots,k b u (hb b n) q⟩,λb u q n _=>by rw[ah (hx b n)];exact n,λb u q _=>?_,
  λb xs q=>by rw[ah (hm b _ q λz=>z)];exact q,λb u xs q=>by rw[ah (hm b _ q λz=>z)];exact q,λb ps q=>⟨#[],by rw[ah (hm b _ q λz=>z),q];simp⟩⟩
 by_cases hbe:b=e
 ·subst hbe;exact heo
 ·exact⟨u,k b u hbe q⟩
end
def trk(h:Heap)(H:Hp):List Addr:=(xR h.objs.size).filter λa=>(H a).isSome
def hidT(h:Heap)(H:Hp):Heap:=hideAll h (trk h H)
theorem nM(h:Heap)(H:Hp):(hidT h H).objs.size=h.objs.size:=hideAll_size _ _
theorem nN{h:Heap}{H:Hp}{b:Addr}{o:Obj}(e:h.get? b=some o)(n:H b=none):(hidT h H).get? b=some o:=
 hideAll_get _ e λhm=>by
  have q:(H b).isSome=true:=(zY.mp hm).2
  rw[n] at q;simp at q
theorem nO{h:Heap}{H:Hp}{b:Addr}{o:Obj}(e:(hidT h H).get? b=some o):h.get? b=some o/\H b=none:=by
 have e':h.get? b=some o:=of_hideAll (trk h H) e
 refine⟨e',?_⟩
 cases q:H b with
 |none=>rfl
 |some x=>
  have hm:b∈trk h H:=zY.mpr ⟨List.mem_range.mpr (Heap.lt_size e'),by simp[q]⟩
  have z:(hidT h H).get? b=none:=hideAll_none (trk h H) hm
  rw[z] at e;cases e
def allNews(g h:Heap)(L:Addr):List (Addr × Obj):=(xR h.objs.size).filterMap λa=>if a=L\/(g.get? a).isSome=true then none else(h.get? a).map λo=>(a,o)
def rest(g h:Heap)(L d:Addr):List (Addr × Obj):=(allNews g h L).filter λp=>decide (p.1≠d)
end L2
namespace L2
open PySem PySem.Spec PyProof.Rows
structure Mod(K:xK)(mg:Str->Option Value)(base:Heap):Prop where
 kin:K.In base
 glob:base.Ns mainGlobals mg
 blt:∃ mb,base.Ns builtinsNs mb/\∀ x:Str,x≠"__name__"->mb x=bootBuiltins x
 nolimit:base.NoLimit
structure Cx where
 prog:Program
 w:World
 K:xK
 mg:Str->Option Value
 base:Heap
 A:Around
 N:List Str
 s₀:Shared
 H₀:Hp
 env:Env
 outer:List Env
 stack:List Env
 ex:List Addr
 fn:Str->Bool
 calm:Bool
 pn:List (Addr × Obj)
 xe:Value->Shared->Prop
abbrev zSE(X:Cx)(e:Expr)(es:List Expr):Prop:=starEach (e::es) X.env=(false,eval e X.env)::starEach es X.env
abbrev zPL(X:Cx)(p:Pos)(es:List Expr):Prop:=(backTo p (starEach es X.env)).any (·.1)=false
abbrev zHF(X:Cx)(p:Pos)(es:List Expr):Prop:=((backTo p (starEach es X.env)).all (λx=>!x.1) && (backToKw p (keywordEach [] X.env)).all (λx=>x.1.isSome) && decide (es.length+([]:List Keyword).length+(if([]:List Keyword).isEmpty then 0 else 1)<30))=true
abbrev zFN(X:Cx)(x:Str):Prop:=X.fn x=true\/X.env.scope.names.lookup x=some .local
abbrev zND(x:Str):Prop:=(x==("__debug__":Str))=false
abbrev zNC(x:Str):Prop:=(x==("__classdict__":Str))=false
abbrev zFS(X:Cx)(e:Expr)(y:Value):Prop:=foldedSetIterable e X.env y=pure y
def frs(l:List Env):List Addr:=l.filterMap (·.frame)
abbrev Cx.fs(X:Cx):List Addr:=frs X.outer
def Vis(sc:Scope)(x:Str):Prop:=sc.names.lookup x=some .local\/sc.names.lookup x=some .cell\/sc.names.lookup x=some .free
def Loc(sc:Scope)(x:Str):Prop:=sc.names.lookup x=some .local\/sc.names.lookup x=some .cell
def Look(env:Env)(h:Heap)(m:Str->Option Value)(x:Str)(u:Value):Prop:=
 (env.kindOf x=some .local/\m x=some u)\/((env.kindOf x=some .cell\/env.kindOf x=some .free)/\∃ c,env.cells.lookup x=some c/\h.IsCell c (some u))
structure Cx.Ok(X:Cx):Prop where
 mod:Mod X.K X.mg X.base
 kind:X.env.scope.kind= .function
 glob:X.env.globals=mainGlobals
 blt:X.env.builtins=builtinsNs
 above:X.s₀.heap.objs.size<=X.env.locals
 inj:∀ x y c,X.env.cells.lookup x=some c->X.env.cells.lookup y=some c->x=y
 has:∀ x,(X.env.kindOf x=some .cell\/X.env.kindOf x=some .free)->∃ c,X.env.cells.lookup x=some c
 cab:∀ x c,X.fn x=true->X.env.cells.lookup x=some c->X.s₀.heap.objs.size<=c
 hd:X.calm=true->X.A.handled=none
 frames:X.A.frames=some X.stack
 stk:X.stack=X.outer\/(X.stack=X.env::X.outer/\X.env.frame=some X.env.locals)
 exf:∀ b∈X.ex,b≠X.env.locals/\∀ x c,X.env.cells.lookup x=some c->c≠b
 bs:∀ b o,X.base.get? b=some o->X.s₀.heap.get? b=some o/\X.H₀ b=none
 bsz:X.base.objs.size<=X.s₀.heap.objs.size
 noex:∀ b o,X.base.get? b=some o->b ∉ X.ex
 exfs:∀ b∈X.ex,b ∉ X.fs
 funs:X.s₀.heap.FunFrames X.base X.outer
 frf:∀ b∈X.fs,X.H₀ b=none
structure Inv(X:Cx)(pins:List (Addr × Obj))(σ:List (Option V))(H:Hp)(s:Shared):Prop where
 ok:X.Ok
 os:s.os=X.s₀.os
 bare:AllBare s.gens
 base:Un X.fs X.ex X.H₀ H X.s₀.heap s.heap
 loc:∃ m,s.heap.Ns X.env.locals m/\∀ (i:Nat) (x:Str) (v:V),X.N[i]?=some x->σ[i]?=some (some v)->Vis X.env.scope x->∃ u,RelV v u/\Look X.env s.heap m x u
 cell:∀ x c,X.env.cells.lookup x=some c->∃ v,s.heap.IsCell c v
 free:H X.env.locals=none
 freeC:∀ x c,X.env.cells.lookup x=some c->H c=none
 pin:∀ p∈X.pn++pins,s.heap.get? p.1=some p.2/\H p.1=none/\p.1≠X.env.locals/\p.1 ∉ X.fs/\∀ v,p.2.data≠.cell v
 hok:HOk X.prog X.w H s.heap
 len:σ.length=X.N.length
section
variable {X:Cx}{pins:List (Addr × Obj)}{σ:List (Option V)}{H H':Hp}{s:Shared}{h':Heap}
theorem Cx.Ok.nofr(ok:X.Ok){b:Addr}{o:Obj}(e:X.base.get? b=some o):b ∉ X.fs:=λhb=>by
 have:=(ok.funs.mem hb).1
 rw[e] at this;cases this
theorem Inv.bs(I:Inv X pins σ H s):∀ b o,X.base.get? b=some o->s.heap.get? b=some o/\H b=none:=λb o e=>
 ⟨I.base.keep b o (I.ok.bs b o e).1 (I.ok.bs b o e).2 (I.ok.nofr e) (I.ok.noex b o e),I.base.free b o (I.ok.bs b o e).1 (I.ok.bs b o e).2 (I.ok.noex b o e)⟩
theorem Inv.bk(I:Inv X pins σ H s):∀ b o,X.base.get? b=some o->s.heap.get? b=some o:=λb o e=>(I.bs b o e).1
theorem Inv.mod(I:Inv X pins σ H s):Mod X.K X.mg X.base:=I.ok.mod
theorem Inv.kIn(I:Inv X pins σ H s):X.K.In s.heap:=I.ok.mod.kin.keeps I.bk
theorem Inv.nolimit(I:Inv X pins σ H s):s.heap.NoLimit:=I.ok.mod.nolimit.keeps I.bk
theorem Inv.fr(I:Inv X pins σ H s):∃ m,Fr X.base X.env.locals s.heap m:=
 let ⟨m,hn,_⟩:=I.loc
 ⟨m,hn,I.bk,xU I.ok.bsz I.ok.above⟩
theorem Inv.lt(I:Inv X pins σ H s):X.env.locals<s.heap.objs.size:=let ⟨_,hn,_⟩:=I.loc;hn.lt
theorem Inv.sz(I:Inv X pins σ H s):X.s₀.heap.objs.size<=s.heap.objs.size:=xU I.ok.above (zf I.lt)
theorem Inv.nofs(I:Inv X pins σ H s){a:Addr}(h:s.heap.objs.size<=a):a ∉ X.fs:=λhb=>by
 obtain⟨_,o,ho,_⟩:=I.ok.funs.mem hb
 exact absurd (yb (Heap.lt_size ho) (xU I.sz h)) (yJ _)
theorem Inv.cne(I:Inv X pins σ H s):∀ x c,X.env.cells.lookup x=some c->c≠X.env.locals:=λx c e z=>by
 obtain⟨v,o,ho,hd⟩:=I.cell x c e
 obtain⟨m,⟨o',es,ep,ho',hd',_⟩,_⟩:=I.loc
 rw[z,ho'] at ho;cases ho;rw[hd'] at hd;cases hd
theorem Inv.funs(I:Inv X pins σ H s):s.heap.FunFrames X.base X.outer:=by
 have all:∀ (l:List Env),(∀ b∈frs l,b∈X.fs)->X.s₀.heap.FunFrames X.base l->s.heap.FunFrames X.base l:=by
  intro l
  induction l with
  |nil=>intro _ _;trivial
  |cons env r ih=>
   intro hs hl
   obtain⟨hk,⟨L,o,hf,hn,ho,hd⟩,hr⟩:=hl
   have hL:L∈X.fs:=hs L (by unfold frs;rw[zg,hf];exact xZ)
   obtain⟨sl,e⟩:=I.base.slot L o ho (I.ok.frf L hL) hL λz=>I.ok.exfs L z hL
   exact⟨hk,⟨L,_,hf,hn,e,hd⟩,ih (λb hb=>hs b (by unfold frs;rw[zg,hf];exact xV _ hb)) hr⟩
 exact all X.outer (λ_ hb=>hb) I.ok.funs
theorem Inv.stack(I:Inv X pins σ H s):s.heap.FunFrames X.base X.stack:=by
 rcases I.ok.stk with e|⟨e,hf⟩
 ·rw[e];exact I.funs
 ·rw[e]
  obtain⟨m,hn,_⟩:=I.loc
  refine .cons (by rw[I.ok.kind];decide) hf hn ?_ I.funs
  exact Heap.get?_none_of_le (xU I.ok.bsz I.ok.above)
theorem Inv.stkSub(I:Inv X pins σ H s):∀ b∈frs X.stack,b∈X.env.locals::X.fs:=λb hb=>by
 rcases I.ok.stk with e|⟨e,hf⟩
 ·rw[e] at hb;exact xV _ hb
 ·rw[e] at hb
  unfold frs at hb
  rw[zg,hf] at hb
  exact hb
theorem Inv.stkFree(I:Inv X pins σ H s):∀ b∈frs X.stack,H b=none:=λb hb=>by
 rcases xP.mp (I.stkSub b hb) with e|hb
 ·rw[e];exact I.free
 ·obtain⟨_,o,ho,_⟩:=I.ok.funs.mem hb
  exact I.base.free b o ho (I.ok.frf b hb) λz=>I.ok.exfs b z hb
theorem Inv.step{g':Array GenState}{t':Nat}{d':Drawn}{ch:List Addr}(I:Inv X pins σ H s)
  (hch:∀ b∈ch,(b∈X.ex\/X.s₀.heap.objs.size<=b)/\b≠X.env.locals/\(∀ x c,X.env.cells.lookup x=some c->c≠b)/\∀ p∈X.pn++pins,p.1≠b)
  (keep:∀ b o,b≠X.env.locals->b ∉ X.fs->b ∉ ch->s.heap.get? b=some o->H b=none->h'.get? b=some o)
  (slot:∀ b o,b≠X.env.locals->b∈X.fs->b ∉ ch->s.heap.get? b=some o->H b=none->∃ sl,h'.get? b=some {o with slots:=sl}) (free:∀ b o,b ∉ ch->s.heap.get? b=some o->H b=none->H' b=none)
  (there:∀ b o,b ∉ ch->s.heap.get? b=some o->∃ o',h'.get? b=some o')
  (tups:∀ b xs,H b=some (.tup xs)->H' b=some (.tup xs)) (frzs:∀ b o u,H b=some (.frz o u)->H' b=some (.frz o u)) (tbls:∀ b ps,H b=some (.tbl ps)->∃ more,H' b=some (.tbl (ps++more)))
  (ns:∀ m,s.heap.Ns X.env.locals m->h'.Ns X.env.locals m) (hok:HOk X.prog X.w H' h') (hg:AllBare g'):
  Inv X pins σ H' {s with heap:=h',gens:=g',drawn:=d',toks:=t'}:=by
 have neL:∀ b o,X.s₀.heap.get? b=some o->b≠X.env.locals:=λb o e=>xQ (yb (Heap.lt_size e) I.ok.above)
 have neC:∀ b o,X.s₀.heap.get? b=some o->b ∉ X.ex->b ∉ ch:=λb o e hx hb=>by
  rcases(hch b hb).1 with z|z
  ·exact hx z
  ·exact absurd (yb (Heap.lt_size e) z) (yJ _)
 have cellK:∀ x c,X.env.cells.lookup x=some c->∀ v,s.heap.IsCell c v->h'.IsCell c v:=λx c e v ⟨o,ho,hd⟩=>by
  have nch:c ∉ ch:=λz=>(hch c z).2.2.1 x c e rfl
  by_cases hc:c∈X.fs
  ·obtain⟨sl,q⟩:=slot c o (I.cne x c e) hc nch ho (I.freeC x c e)
   exact⟨_,q,hd⟩
  ·exact⟨o,keep c o (I.cne x c e) hc nch ho (I.freeC x c e),hd⟩
 refine⟨I.ok,I.os,hg,⟨λb o e n hb hx=>?_,λb o e n hb hx=>?_,λb o e n hx=>?_,λb o e hx=>?_,λb xs e=>tups b xs (I.base.tups b xs e),λb o xs e=>frzs b o xs (I.base.frzs b o xs e),λb ps e=>?_⟩,?_,λx c e=>?_,?_,λx c e=>?_,λp hp=>?_,hok,I.len⟩
 ·exact keep b o (neL b o e) hb (neC b o e hx) (I.base.keep b o e n hb hx) (I.base.free b o e n hx)
 ·obtain⟨sl,e1⟩:=I.base.slot b o e n hb hx
  obtain⟨sl',e2⟩:=slot b _ (neL b o e) hb (neC b o e hx) e1 (I.base.free b o e n hx)
  exact⟨sl',e2⟩
 ·obtain⟨o',e1⟩:=I.base.there b o e hx
  exact free b o' (neC b o e hx) e1 (I.base.free b o e n hx)
 ·obtain⟨o',e1⟩:=I.base.there b o e hx
  exact there b o' (neC b o e hx) e1
 ·obtain⟨m1,e1⟩:=I.base.tbls b ps e
  obtain⟨m2,e2⟩:=tbls b _ e1
  exact⟨m1++m2,by rw[e2,zX]⟩
 ·obtain⟨m,hn,hl⟩:=I.loc
  refine⟨m,ns m hn,λi x v e1 e2 e3=>?_⟩
  obtain⟨u,r,l⟩:=hl i x v e1 e2 e3
  refine⟨u,r,?_⟩
  rcases l with l|⟨k,c,e,z⟩
  ·exact .inl l
  ·exact .inr ⟨k,c,e,cellK x c e _ z⟩
 ·obtain⟨v,z⟩:=I.cell x c e
  exact⟨v,cellK x c e v z⟩
 ·obtain⟨m,⟨o,_,_,ho,_⟩,_⟩:=I.loc
  exact free _ o (λz=>(hch _ z).2.1 rfl) ho I.free
 ·obtain⟨v,o,ho,hd⟩:=I.cell x c e
  exact free c o (λz=>(hch c z).2.2.1 x c e rfl) ho (I.freeC x c e)
 ·obtain⟨e,n,ne,nf,d⟩:=I.pin p hp
  have nch:p.1 ∉ ch:=λz=>(hch p.1 z).2.2.2 p hp rfl
  exact⟨keep p.1 p.2 ne nf nch e n,free p.1 p.2 nch e n,ne,nf,d⟩
theorem Inv.un{t':Nat}(I:Inv X pins σ H s)(u:Un X.fs [] H H' s.heap h')(hok:HOk X.prog X.w H' h'):Inv X pins σ H' {s with heap:=h',toks:=t'}:=by
 obtain⟨m,⟨o,es,ep,ho,r⟩,_⟩:=id I.loc
 obtain⟨sl,hL⟩:=u.any ho I.free (by simp)
 exact I.step (g':=s.gens) (d':=s.drawn) (ch:=[]) (λ_ z=>nomatch z) (λb o _ hb _ e n=>u.keep b o e n hb (by simp)) (λb o _ hb _ e n=>u.slot b o e n hb (by simp)) (λb o _ e n=>u.free b o e n (by simp)) (λb o _ e=>u.there b o e (by simp)) u.tups u.frzs u.tbls (λm' hm=>by
  obtain⟨o',es',ep',ho',r'⟩:=hm
  rw[ho] at ho';cases ho'
  exact⟨_,es',ep',hL,r'⟩) hok I.bare
theorem Inv.call{g':Array GenState}{t':Nat}{d':Drawn}{ch:List Addr}(I:Inv X pins σ H s)(u:Un (frs X.stack) ch H H' s.heap h')(hok:HOk X.prog X.w H' h')(hg:AllBare g')
  (hch:∀ b∈ch,(b∈X.ex\/X.s₀.heap.objs.size<=b)/\b≠X.env.locals/\(∀ x c,X.env.cells.lookup x=some c->c≠b)/\∀ p∈X.pn++pins,p.1≠b):
  Inv X pins σ H' {s with heap:=h',gens:=g',drawn:=d',toks:=t'}:=by
 obtain⟨m,⟨o,es,ep,ho,r⟩,_⟩:=id I.loc
 obtain⟨sl,hL⟩:=u.any ho I.free λz=>(hch _ z).2.1 rfl
 exact I.step (ch:=ch) hch (λb o hL hb hc e n=>u.keep b o e n (λz=>(xP.mp (I.stkSub b z)).elim hL hb) hc) (λb o _ _ hc e n=>u.any e n hc) (λb o hc e n=>u.free b o e n hc) (λb o hc e=>u.there b o e hc) u.tups u.frzs u.tbls (λm' hm=>by
  obtain⟨o',es',ep',ho',r'⟩:=hm
  rw[ho] at ho';cases ho'
  exact⟨_,es',ep',hL,r'⟩) hok hg
theorem Inv.turned{t':Nat}{it:Addr}(I:Inv X pins σ H s)(k:∀ b o,b≠it->s.heap.get? b=some o->h'.get? b=some o)(hn:H it=none)(hL:it≠X.env.locals)
  (h1:it∈X.ex\/X.s₀.heap.objs.size<=it) (h2:∀ x c,X.env.cells.lookup x=some c->c≠it) (h3:∀ p∈X.pn++pins,p.1≠it):Inv X pins σ H {s with heap:=h',toks:=t'}:=by
 have nit:∀ b u,H b=some u->b≠it:=λb u e z=>by rw[z,hn] at e;cases e
 refine I.step (g':=s.gens) (d':=s.drawn) (ch:=[it]) (λb hb=>?_) (λb o _ _ hc e _=>k b o (λz=>hc (by simp[z])) e) (λb o _ _ hc e _=>⟨o.slots,k b o (λz=>hc (by simp[z])) e⟩) (λ_ _ _ _ n=>n)
  (λb o hc e=>⟨o,k b o (λz=>hc (by simp[z])) e⟩) (λ_ _ e=>e) (λ_ _ _ e=>e) (λb ps e=>⟨#[],by rw[e];simp⟩) (λm hm=>?_) (λb u e=>?_) I.bare
 ·have e:b=it:=by simpa using hb
  subst e
  exact⟨h1,hL,h2,h3⟩
 ·obtain⟨o,es,ep,ho,r⟩:=hm
  exact⟨o,es,ep,k _ o (Ne.symm hL) ho,r⟩
 ·refine(I.hok b u e).stay (λc v hc q=>k c v ?_ q) (λ_ q=>q) λ_ _ q=>q
  rcases hc with z|z
  ·rw[z];exact nit b u e
  ·exact nit c _ z
theorem Inv.tok(I:Inv X pins σ H s)(t:Nat):Inv X pins σ H {s with toks:=t}:=I.un (h':=s.heap) (t':=t) Un.refl I.hok
theorem Inv.kept{t':Nat}(I:Inv X pins σ H s)(k:∀ b u,s.heap.get? b=some u->h'.get? b=some u):Inv X pins σ H {s with heap:=h',toks:=t'}:=I.un (Un.kept k) (I.hok.kept k)
theorem Inv.laid{a:Addr}{o:HO}{t':Nat}(I:Inv X pins σ H s)(k:∀ b u,s.heap.get? b=some u->h'.get? b=some u)(hp:s.heap.objs.size<=a)(new:ObjOk X.prog X.w (upd H a o) h' a o):
  Inv X pins σ (upd H a o) {s with heap:=h',toks:=t'}:=I.un (Un.laid k hp (I.hok.fresh hp)) (I.hok.laid k hp new)
theorem Inv.write{x e:Addr}{o:HO}{t':Nat}(I:Inv X pins σ H s)(mu:Mut (H x))(he:e=x\/H e=some (.own x))(k:∀ b u,b≠e->s.heap.get? b=some u->h'.get? b=some u)(heo:∃ u,h'.get? e=some u)
  (new:ObjOk X.prog X.w (upd H x o) h' x o):Inv X pins σ (upd H x o) {s with heap:=h',toks:=t'}:=I.un (Un.write mu he k heo) (I.hok.write mu he k heo new)
theorem Inv.pins_of{pins':List (Addr × Obj)}(I:Inv X pins σ H s)(h:∀ p∈pins',s.heap.get? p.1=some p.2/\H p.1=none/\p.1≠X.env.locals/\p.1 ∉ X.fs/\∀ v,p.2.data≠.cell v):Inv X pins' σ H s:=
 ⟨I.ok,I.os,I.bare,I.base,I.loc,I.cell,I.free,I.freeC,λp hp=>(yu.mp hp).elim (λz=>I.pin p (yL _ z)) (h p),I.hok,I.len⟩
theorem fN{N:List Str}(hN:N.Nodup){i j:Nat}{x:Str}(a:N[i]?=some x)(b:N[j]?=some x):i=j:=by
 obtain⟨h1,e1⟩:=yi.mp a
 obtain⟨h2,e2⟩:=yi.mp b
 exact(List.getElem_inj hN).mp (e1.trans e2.symm)
theorem jy{M:Model}{A:Around}{E:Value->Shared->Prop}{i:Nat}{x:Str}{v:V}{u:Value}{Q:Unit->Shared->Prop}(I:Inv X pins σ H s)(hN:X.N.Nodup)(hi:X.N[i]?=some x)(hx:Loc X.env.scope x)(r:RelV v u)
  (h:∀ s',Inv X pins (σ.set i (some v)) H s'->(∃ a,Heap.SameBut a s.heap s'.heap/\(a=X.env.locals\/X.env.cells.lookup x=some a))->Q () s') (hf:zFN X x:=by first|exact .inl rfl|exact .inr rfl|assumption):wpAny M A (storeName X.env x u) Q E s:=by
 obtain⟨m,hn,hl⟩:=id I.loc
 have hcls:(X.env.scope.kind== .class||(X.env.scope.kind== .module && X.env.locals !=X.env.globals))=false:=by rw[I.ok.kind];rfl
 have hiσ:i<σ.length:=by rw[I.len];exact(yi.mp hi).1
 have cne:=I.cne
 have tracked:∀ {a:Addr} {h':Heap},(∃ o,s.heap.get? a=some o/\H a=none)->Heap.SameBut a s.heap h'->HOk X.prog X.w H h':=λ{a h'} ha hs b ob e=>by
  obtain⟨_,_,hfree⟩:=ha
  refine(I.hok b ob e).stay (λc w' hc q=>(hs.2 c ?_).trans q) (λ_ q=>q) λ_ _ q=>q
  rintro rfl
  rcases hc with rfl|hc
  ·rw[hfree] at e;cases e
  ·rw[hfree] at hc;cases hc
 rcases hx with hk|hk
 ·refine wpAny_storeName_local hk hn (λh' hn' hs=>?_) hcls
  obtain⟨oL,_,_,hoL,_⟩:=id hn
  refine h _ ⟨I.ok,I.os,I.bare,⟨λb o e n hb hx=>?_,λb o e n hb hx=>?_,I.base.free,λb o e hx=>?_,I.base.tups,I.base.frzs,I.base.tbls⟩,⟨_,hn',λj y v' e1 e2 e3=>?_⟩,λy c e=>?_,I.free,I.freeC,λp hp=>?_,tracked ⟨oL,hoL,I.free⟩ hs,by simpa using I.len⟩ ⟨_,hs,.inl rfl⟩
  ·exact(hs.2 b (xQ (yb (Heap.lt_size e) I.ok.above))).trans (I.base.keep b o e n hb hx)
  ·obtain⟨sl,e1⟩:=I.base.slot b o e n hb hx
   exact⟨sl,(hs.2 b (xQ (yb (Heap.lt_size e) I.ok.above))).trans e1⟩
  ·obtain⟨o',e1⟩:=I.base.there b o e hx
   exact⟨o',(hs.2 b (xQ (yb (Heap.lt_size e) I.ok.above))).trans e1⟩
  ·by_cases hj:j=i
   ·subst hj
    rw[hi] at e1;cases e1
    rw[yq hiσ] at e2
    cases e2
    exact⟨u,r,.inl ⟨hk,by simp⟩⟩
   ·rw[xY (Ne.symm hj)] at e2
    obtain⟨u',r',q⟩:=hl j y v' e1 e2 e3
    refine⟨u',r',?_⟩
    rcases q with⟨k,e⟩|⟨k,c,e,z⟩
    ·refine .inl ⟨k,?_⟩
     have:y≠x:=λe=>hj (fN hN e1 (e ▸ hi))
     simp[this,e]
    ·exact .inr ⟨k,c,e,z.sameBut hs (cne y c e)⟩
  ·obtain⟨w',z⟩:=I.cell y c e
   exact⟨w',z.sameBut hs (cne y c e)⟩
  ·obtain⟨e,n,ne,nf,d⟩:=I.pin p hp
   exact⟨(hs.2 p.1 ne).trans e,n,ne,nf,d⟩
 ·have hfn:X.fn x=true:=by
   rcases hf with z|z
   ·exact z
   ·rw[z] at hk;cases hk
  obtain⟨c,hc⟩:=I.ok.has x (.inl hk)
  obtain⟨w',z⟩:=I.cell x c hc
  refine wpAny_storeName_cell I.ok.kind hk hc z (λh' hc' hs=>?_)
  obtain⟨oc,hoc,hocd⟩:=id z
  refine h {s with heap:=h'} ⟨I.ok,I.os,I.bare,⟨λb o e n hb hx=>?_,λb o e n hb hx=>?_,I.base.free,λb o e hx=>?_,I.base.tups,I.base.frzs,I.base.tbls⟩,⟨m,hn.sameBut hs (Ne.symm (cne x c hc)),λj y v' e1 e2 e3=>?_⟩,λy c' e=>?_,I.free,I.freeC,λp hp=>?_,tracked ⟨oc,hoc,I.freeC x c hc⟩ hs,by simpa using I.len⟩ ⟨c,hs,.inr hc⟩
  ·exact(hs.2 b (xQ (yb (Heap.lt_size e) (I.ok.cab x c hfn hc)))).trans (I.base.keep b o e n hb hx)
  ·obtain⟨sl,e1⟩:=I.base.slot b o e n hb hx
   exact⟨sl,(hs.2 b (xQ (yb (Heap.lt_size e) (I.ok.cab x c hfn hc)))).trans e1⟩
  ·obtain⟨o',e1⟩:=I.base.there b o e hx
   exact⟨o',(hs.2 b (xQ (yb (Heap.lt_size e) (I.ok.cab x c hfn hc)))).trans e1⟩
  ·by_cases hj:j=i
   ·subst hj
    rw[hi] at e1;cases e1
    rw[yq hiσ] at e2
    cases e2
    exact⟨u,r,.inr ⟨.inl hk,c,hc,hc'⟩⟩
   ·rw[xY (Ne.symm hj)] at e2
    obtain⟨u',r',q⟩:=hl j y v' e1 e2 e3
    refine⟨u',r',?_⟩
    rcases q with q|⟨k,c',e,z'⟩
    ·exact .inl q
    ·refine .inr ⟨k,c',e,z'.sameBut hs ?_⟩
     rintro rfl
     exact hj (fN hN e1 (I.ok.inj _ _ _ e hc ▸ hi))
  ·by_cases hcc:c'=c
   ·subst hcc;exact⟨_,hc'⟩
   ·obtain⟨w2,z2⟩:=I.cell y c' e
    exact⟨w2,z2.sameBut hs hcc⟩
  ·obtain⟨e,n,ne,nf,d⟩:=I.pin p hp
   refine⟨(hs.2 p.1 ?_).trans e,n,ne,nf,d⟩
   intro q
   rw[q,hoc] at e
   have q':oc=p.2:=Option.some.inj e
   exact d w' (by rw[<- q'];exact hocd)
theorem cY{M:Model}{A:Around}{E:Value->Shared->Prop}{i:Nat}{x:Str}{v:V}{u:Value}{Q:Unit->Shared->Prop}(I:Inv X pins σ H s)(hN:X.N.Nodup)(hi:X.N[i]?=some x)(hx:Loc X.env.scope x)(r:RelV v u)
  (h:∀ s',Inv X pins (σ.set i (some v)) H s'->Q () s') (hf:zFN X x:=by first|exact .inl rfl|exact .inr rfl|assumption):wpAny M A (storeName X.env x u) Q E s:=
 jy I hN hi hx r (λs' I' _=>h s' I') hf
theorem Inv.call'{s':Shared}{ch:List Addr}(I:Inv X pins σ H s)(ho:s'.os=s.os)(u:Un (frs X.stack) ch H H' s.heap s'.heap)(hok:HOk X.prog X.w H' s'.heap)(hg:AllBare s'.gens)
  (hch:∀ b∈ch,(b∈X.ex\/X.s₀.heap.objs.size<=b)/\b≠X.env.locals/\(∀ x c,X.env.cells.lookup x=some c->c≠b)/\∀ p∈X.pn++pins,p.1≠b):Inv X pins σ H' s':=by
 obtain⟨h',g',d',t',o'⟩:=s'
 have e:o'=s.os:=ho
 subst e
 exact I.call (g':=g') (t':=t') (d':=d') u hok hg hch
end
abbrev XK:=Value->Option Addr->Hp->Prop
abbrev St:=List (Option V)
abbrev VK:=V->Hp->Prop
abbrev TE:=St->Hp->VK->Prop
abbrev TT:=St->Hp->(Bool->Hp->Prop)->Prop
abbrev TA:=St->Hp->(List V->Hp->Prop)->Prop
structure Ends where
 nx:St->Hp->Prop
 rt:VK
 bk:St->Hp->Prop:=λ_ _=>False
 ct:St->Hp->Prop:=λ_ _=>False
abbrev TS:=Ends->St->Hp->Prop
def EP(X:Cx)(pins:List (Addr × Obj))(σ:St)(Q:VK)(u:Value)(s':Shared):Prop:=∃ v H',Inv X pins σ H' s'/\RelV v u/\Q v H'
def TP(X:Cx)(pins:List (Addr × Obj))(σ:St)(Q:Bool->Hp->Prop)(b:Bool)(s':Shared):Prop:=∃ H',Inv X pins σ H' s'/\Q b H'
def AP(X:Cx)(pins:List (Addr × Obj))(σ:St)(Q:List V->Hp->Prop)(us:List Value)(s':Shared):Prop:=∃ vs H',Inv X pins σ H' s'/\Vals vs us/\Q vs H'
def SP(X:Cx)(pins:List (Addr × Obj))(D:Ends)(f:Flow)(s':Shared):Prop:=
 match f with
 | .next=>∃ σ' H',Inv X pins σ' H' s'/\D.nx σ' H'
 | .brk=>∃ σ' H',Inv X pins σ' H' s'/\D.bk σ' H'
 | .cont=>∃ σ' H',Inv X pins σ' H' s'/\D.ct σ' H'
 | .ret u=>∃ v σ' H',Inv X pins σ' H' s'/\RelV v u/\D.rt v H'
def PE(X:Cx)(e:Expr)(t:TE):Prop:=
 ∀ (pins:List (Addr × Obj)) (s:Shared) (σ:St) (H:Hp) (Q:VK),Inv X pins σ H s->t σ H Q->wpAny (model X.prog X.w) X.A (eval e X.env) (EP X pins σ Q) X.xe s
def PT(X:Cx)(e:Expr)(t:TT):Prop:=
 ∀ (pins:List (Addr × Obj)) (s:Shared) (σ:St) (H:Hp) (Q:Bool->Hp->Prop),Inv X pins σ H s->t σ H Q->wpAny (model X.prog X.w) X.A (isTrue e X.env (eval e X.env)) (TP X pins σ Q) X.xe s
def PW(X:Cx)(e:Expr)(t:TT):Prop:=
 ∀ (whole:Sem Value) (pins:List (Addr × Obj)) (s:Shared) (σ:St) (H:Hp) (Q:Bool->Hp->Prop),Inv X pins σ H s->t σ H Q->wpAny (model X.prog X.w) X.A (isTrue e X.env whole) (TP X pins σ Q) X.xe s
theorem PW.pt{X:Cx}{e:Expr}{t:TT}(h:PW X e t):PT X e t:=h _
def PA(X:Cx)(es:List Expr)(t:TA):Prop:=
 ∀ (pos:Pos) (pins:List (Addr × Obj)) (s:Shared) (σ:St) (H:Hp) (Q:List V->Hp->Prop),Inv X pins σ H s->t σ H Q->wpAny (model X.prog X.w) X.A (spliced (backTo pos (starEach es X.env))) (AP X pins σ Q) X.xe s
def PS(X:Cx)(st:Stmt)(t:TS):Prop:=
 ∀ (pins:List (Addr × Obj)) (s:Shared) (σ:St) (H:Hp) (D:Ends),Inv X pins σ H s->t D σ H->wpAny (model X.prog X.w) X.A (exec st X.env) (SP X pins D) X.xe s
def PSs(X:Cx)(st:List Stmt)(t:TS):Prop:=
 ∀ (pins:List (Addr × Obj)) (s:Shared) (σ:St) (H:Hp) (D:Ends),Inv X pins σ H s->t D σ H->wpAny (model X.prog X.w) X.A (execs st X.env) (SP X pins D) X.xe s
theorem thn{α:Type}{t:Sem α}{Q Q':α->Shared->Prop}{M:Model}{A:Around}{E:Value->Shared->Prop}{s:Shared}(h:wpAny M A t Q E s)(hQ:∀ a s,Q a s->Q' a s):wpAny M A t Q' E s:=wpAny_mono h hQ λ_ _ x=>x
end L2
namespace L2
open PySem PySem.Spec PyProof.Rows
section
variable {X:Cx}
theorem bin{a b:Expr}{ta tb:TE}(ha:PE X a ta)(hb:PE X b tb){pins:List (Addr × Obj)}{s:Shared}{σ:St}{H:Hp}{R:V->V->Hp->Prop}(I:Inv X pins σ H s)(h:ta σ H λx H1=>tb σ H1 λy H2=>R x y H2)
  {α:Type} {Q:α->Shared->Prop} {f:Value->Value->Sem α}
  (hf:∀ v u s2 x y H2,Inv X pins σ H2 s2->RelV x v->RelV y u->R x y H2->wpAny (model X.prog X.w) X.A (f v u) Q X.xe s2):
  wpAny (model X.prog X.w) X.A (eval a X.env) (λv s₁=>wpAny (model X.prog X.w) X.A (eval b X.env) (λu s₂=>wpAny (model X.prog X.w) X.A (f v u) Q X.xe s₂) X.xe s₁) X.xe s:=by
 refine thn (ha pins s σ H _ I h) λv s1 ⟨x,H1,I1,r1,q1⟩=>?_
 refine thn (hb pins s1 σ H1 _ I1 q1) λu s2 ⟨y,H2,I2,r2,q2⟩=>?_
 exact hf v u s2 x y H2 I2 r1 r2 q2
def tVar(i:Nat):TE:=λσ H Q=>∃ v,σ[i]?=some (some v)/\Q v H
def tC(v:V):TE:=λ_ H Q=>Q v H
theorem cu{i:Nat}{x:Str}{pos:Pos}(hN:X.N[i]?=some x)(hv:Vis X.env.scope x)(hd:zND x:=by decide)(hcd:zNC x:=by decide):PE X (.Name x pos) (tVar i):=by
 intro pins s σ H Q I h
 obtain⟨v,e,h⟩:=h
 obtain⟨m,hn,hl⟩:=I.loc
 obtain⟨u,r,l⟩:=hl i x v hN e hv
 have fin:EP X pins σ Q u s:=⟨v,H,I,r,h⟩
 rcases l with⟨hk,hm⟩|⟨hk,c,hc,hcell⟩
 ·exact wpAny_Name (wpAny_loadName_local I.ok.kind hk hn hm fin) hd
 ·rcases hk with hk|hk
  ·exact wpAny_Name (wpAny_loadName_cell I.ok.kind hk hc hcell fin) hd
  ·exact wpAny_Name (wpAny_loadName_free I.ok.kind hk hc hcell fin hcd) hd
theorem nP{i j pos}:PE X (.Constant (.int i) j pos) (tC (.int i)):=λ_ _ _ H _ I h=>wpAny_Constant_int ⟨.int i,H,I.tok _,⟨_,rfl⟩,h⟩
theorem nQ{b j pos}:PE X (.Constant (.bool b) j pos) (tC (.bl b)):=λ_ _ _ H _ I h=>Constant_bool ⟨.bl b,H,I,rfl,h⟩
theorem nR{j pos}:PE X (.Constant .none j pos) (tC .non):=λ_ _ _ H _ I h=>Constant_none ⟨.non,H,I,rfl,h⟩
theorem nS{x j pos}:PE X (.Constant (.str x) j pos) (tC (.str x)):=λ_ _ _ H _ I h=>Calls.Constant_str ⟨.str x,H,I.tok _,⟨_,rfl⟩,h⟩
def Gl(X:Cx)(x:Str):Prop:=X.env.kindOf x=some .globalImplicit
theorem bJ{E:Value->Shared->Prop}{pins:List (Addr × Obj)}{s:Shared}{σ:St}{H:Hp}{x:Str}{u:Value}{pos:Pos}{Q:Value->Shared->Prop}(I:Inv X pins σ H s)(hg:Gl X x)(hm:X.mg x=some u)(h:Q u s)
  (hd:zND x:=by decide):wpAny (model X.prog X.w) X.A (eval (.Name x pos) X.env) Q E s:=
 Calls.Name_function_global I.ok.kind hg (Calls.loadGlobal_global (by rw[I.ok.glob];exact I.mod.glob.keeps I.bk) hm h) hd
theorem cv{E:Value->Shared->Prop}{pins:List (Addr × Obj)}{s:Shared}{σ:St}{H:Hp}{x:Str}{u:Value}{pos:Pos}{Q:Value->Shared->Prop}(I:Inv X pins σ H s)(hg:Gl X x)(hm:X.mg x=none)(hv:bootBuiltins x=some u)(h:Q u s)
  (hn:x≠"__name__":=by decide) (hd:zND x:=by decide):wpAny (model X.prog X.w) X.A (eval (.Name x pos) X.env) Q E s:=by
 obtain⟨mb,h1,h2⟩:=I.mod.blt
 exact Calls.Name_function_global I.ok.kind hg (Calls.loadGlobal_builtin (by rw[I.ok.glob];exact I.mod.glob.keeps I.bk) hm (by rw[I.ok.blt];exact h1.keeps I.bk) ((h2 x hn).trans hv) h) hd
theorem nU{x:Str}{v:V}{u:Value}{pos:Pos}(hg:Gl X x)(hm:X.mg x=some u)(r:RelV v u)(hd:zND x:=by decide):PE X (.Name x pos) (tC v):=
 λ_ _ _ H _ I h=>bJ I hg hm ⟨v,H,I,r,h⟩ hd
theorem nV{x:Str}{v:V}{u:Value}{pos:Pos}(hg:Gl X x)(hm:X.mg x=none)(hv:bootBuiltins x=some u)(r:RelV v u)(hn:x≠"__name__":=by decide)(hd:zND x:=by decide):PE X (.Name x pos) (tC v):=
 λ_ _ _ H _ I h=>cv I hg hm hv ⟨v,H,I,r,h⟩ hn hd
variable {a b:Expr}{ta tb:TE}{pos:Pos}
def tB(t:TE):TT:=λσ H Q=>t σ H λx H1=>∃ c,x= .bl c/\Q c H1
variable {tA tB':TT}{rest:List Expr}
def tAnd(t u:TT):TT:=λσ H Q=>t σ H λc H1=>if c=true then u σ H1 Q else Q false H1
def tOr(t u:TT):TT:=λσ H Q=>t σ H λc H1=>if c=true then Q true H1 else u σ H1 Q
def tNot(t:TT):TT:=λσ H Q=>t σ H λc H1=>Q (!c) H1
theorem nW(ha:PT X a tA):PW X (.BoolOp .And [a] pos) tA:=by
 intro wh pins s σ H Q I h
 refine isTrue_and (thn (ha pins s σ H Q I h) λc s1 e=>?_)
 cases c with
 |true=>exact isTrue_and_nil e
 |false=>exact e
theorem nX(ha:PT X a tA):PW X (.BoolOp .Or [a] pos) tA:=by
 intro wh pins s σ H Q I h
 refine isTrue_or (thn (ha pins s σ H Q I h) λc s1 e=>?_)
 cases c with
 |false=>exact isTrue_or_nil e
 |true=>exact e
theorem nY(ha:PT X a tA)(hb:PW X (.BoolOp .And (b::rest) pos) tB'):PW X (.BoolOp .And (a::b::rest) pos) (tAnd tA tB'):=by
 intro wh pins s σ H Q I h
 refine isTrue_and (thn (ha pins s σ H _ I h) λc s1 ⟨H1,I1,q1⟩=>?_)
 cases c with
 |true=>exact hb wh pins s1 σ H1 Q I1 q1
 |false=>exact⟨H1,I1,q1⟩
theorem nZ(ha:PT X a tA)(hb:PW X (.BoolOp .Or (b::rest) pos) tB'):PW X (.BoolOp .Or (a::b::rest) pos) (tOr tA tB'):=by
 intro wh pins s σ H Q I h
 refine isTrue_or (thn (ha pins s σ H _ I h) λc s1 ⟨H1,I1,q1⟩=>?_)
 cases c with
 |true=>exact⟨H1,I1,q1⟩
 |false=>exact hb wh pins s1 σ H1 Q I1 q1
theorem oa(ha:PT X a tA):PT X (.UnaryOp .Not a pos) (tNot tA):=by
 intro pins s σ H Q I h
 exact isTrue_not (ha pins s σ H (λc H1=>Q (!c) H1) I h)
def og(ta tb:TE):TE:=λσ H Q=>ta σ H λx H1=>∃ c,x= .bl c/\if c=true then tb σ H1 Q else Q (.bl false) H1
def oh(ta:TE):TE:=λσ H Q=>ta σ H λx H1=>∃ c,x= .bl c/\Q (.bl (!c)) H1
theorem oi{op}{t:TE}(h:PE X a t):PE X (.BoolOp op [a] pos) t:=λpins s σ H Q I hw=>BoolOp_one (h pins s σ H Q I hw)
theorem oj(ha:PE X a ta)(hb:PE X (.BoolOp .And (b::rest) pos) tb):PE X (.BoolOp .And (a::b::rest) pos) (og ta tb):=by
 intro pins s σ H Q I h
 refine BoolOp_and (thn (ha pins s σ H _ I h) λv s1 ⟨x,H1,I1,r1,q1⟩=>?_)
 obtain⟨c,rfl,q1⟩:=q1
 cases r1
 refine wpAny_truthy_bool ?_
 cases c with
 |true=>exact hb pins s1 σ H1 Q I1 q1
 |false=>exact⟨.bl false,H1,I1,rfl,q1⟩
theorem ol(ha:PE X a ta):PE X (.UnaryOp .Not a pos) (oh ta):=by
 intro pins s σ H Q I h
 refine UnaryOp_ (thn (ha pins s σ H _ I h) λv s1 ⟨x,H1,I1,r1,q1⟩=>?_)
 obtain⟨c,rfl,q1⟩:=q1
 cases r1
 exact not_of (wpAny_truthy_bool ⟨.bl (!c),H1,I1,rfl,q1⟩)
def tIf(t:TT)(ta tb:TE):TE:=λσ H Q=>t σ H λc H1=>if c=true then ta σ H1 Q else tb σ H1 Q
theorem om{c:Expr}(hc:PT X c tA)(ha:PE X a ta)(hb:PE X b tb):PE X (.IfExp c a b pos) (tIf tA ta tb):=by
 intro pins s σ H Q I h
 refine wpAny_IfExp (thn (hc pins s σ H _ I h) λd s1 ⟨H1,I1,q1⟩=>?_)
 cases d with
 |true=>exact ha pins s1 σ H1 Q I1 q1
 |false=>exact hb pins s1 σ H1 Q I1 q1
end
end L2
namespace L2
open PySem PySem.Spec PyProof.Rows
def SqL(K:xK)(H:Hp)(a:Addr)(xs:List V):Prop:=
 Rd H a (.lst xs)\/
  ∃ (o:Obj) (its:Array Value) (n:Nat),K.lookup a=some o/\o.cls= .type "list"/\o.dict=none/\o.data= .seq its n/\its.size<=sizeLine/\Vals xs its.toList
def SqT(K:xK)(H:Hp)(a:Addr)(xs:List V):Prop:=
 Rd H a (.tup xs)\/
  ∃ (o:Obj) (its:Array Value) (n:Nat),K.lookup a=some o/\o.cls= .type "tuple"/\o.data= .seq its n/\its.size<=sizeLine/\Vals xs its.toList
def absV:Value->Option V
 | .none=>some .non
 | .bool b=>some (.bl b)
 | .int i _=>some (.int i)
 | .str x _=>some (.str x)
 | .bytes b _=>some (.byt b)
 | .float b _=>some (.flt b)
 | .ref a=>some (.ref a)
 | .type n=>some (.ty n)
 |_=>none
theorem RelV.abs{x:V}{u:Value}(r:RelV x u):absV u=some x:=by
 cases x with
 |non=>cases r;rfl
 |bl _=>cases r;rfl
 |int _=>obtain⟨t,rfl⟩:=r;rfl
 |str _=>obtain⟨t,rfl⟩:=r;rfl
 |byt _=>obtain⟨t,rfl⟩:=r;rfl
 |flt _=>obtain⟨t,rfl⟩:=r;rfl
 |ref _=>cases r;rfl
 |ty _=>cases r;rfl
theorem RelV.inj{x y:V}{u:Value}(r:RelV x u)(q:RelV y u):x=y:=Option.some.inj (r.abs.symm.trans q.abs)
theorem Vals.inj:∀ {xs ys:List V} {us:List Value},Vals xs us->Vals ys us->xs=ys
 |_,_,_,.nil,.nil=>rfl
 |_,_,_,.cons r t,.cons r' t'=>by rw[r.inj r',Vals.inj t t']
section
variable {X:Cx}{pins:List (Addr × Obj)}{σ:St}{H:Hp}{s:Shared}{a:Addr}{xs ys:List V}
theorem SqL.of{K:xK}(h:H a=some (.lst xs)):SqL K H a xs:= .inl (.inl h)
theorem SqT.of{K:xK}(h:H a=some (.tup xs)):SqT K H a xs:= .inl (.inl h)
theorem Inv.list(I:Inv X pins σ H s)(h:SqL X.K H a xs):∃ its:List Value,Vals xs its/\PlainL s.heap a its.toArray/\xs.length<=sizeLine:=by
 rcases h with h|⟨o,its,n,hk,hc,hd,hs,hz,r⟩
 ·obtain⟨z,its,n,r,e⟩:=h.ok I.hok
  exact⟨its,r,⟨_,n,e,rfl,rfl,rfl⟩,z⟩
 ·refine⟨its.toList,r,⟨o,n,I.kIn a o hk,hc,hd,by simpa using hs⟩,?_⟩
  have e:=r.length
  simp only[zz] at e
  omega
theorem Inv.tuple(I:Inv X pins σ H s)(h:SqT X.K H a xs):∃ its:List Value,Vals xs its/\IsTup s.heap a its.toArray/\xs.length<=sizeLine:=by
 rcases h with h|⟨o,its,n,hk,hc,hs,hz,r⟩
 ·obtain⟨z,its,r,p⟩:=h.ok I.hok
  exact⟨its,r,p,z⟩
 ·refine⟨its.toList,r,⟨o,I.kIn a o hk,hc,n,by simpa using hs⟩,?_⟩
  have e:=r.length
  simp only[zz] at e
  omega
theorem Inv.list_inj(I:Inv X pins σ H s)(h:SqL X.K H a xs)(h':SqL X.K H a ys):xs=ys:=by
 obtain⟨its,r,⟨o,n,e,_,_,d⟩,_⟩:=I.list h
 obtain⟨its',r',⟨o',n',e',_,_,d'⟩,_⟩:=I.list h'
 rw[e] at e';cases e'
 rw[d] at d'
 injection d' with d1 _
 have:its=its':=by simpa using congrArg Array.toList d1
 subst this
 exact r.inj r'
end
abbrev Cx.wish(X:Cx)(E:Value->Shared->Prop):Cx:={X with xe:=E}
abbrev Cx.nox(X:Cx):Cx:=X.wish λ_ _=>False
theorem Cx.Ok.wish{X:Cx}(ok:X.Ok)(E:Value->Shared->Prop):(X.wish E).Ok:=
 ⟨ok.mod,ok.kind,ok.glob,ok.blt,ok.above,ok.inj,ok.has,ok.cab,ok.hd,ok.frames,ok.stk,ok.exf,ok.bs,ok.bsz,ok.noex,ok.exfs,ok.funs,ok.frf⟩
theorem Cx.Ok.unwish{X:Cx}{E:Value->Shared->Prop}(ok:(X.wish E).Ok):X.Ok:=
 ⟨ok.mod,ok.kind,ok.glob,ok.blt,ok.above,ok.inj,ok.has,ok.cab,ok.hd,ok.frames,ok.stk,ok.exf,ok.bs,ok.bsz,ok.noex,ok.exfs,ok.funs,ok.frf⟩
section
variable {X:Cx}{pins:List (Addr × Obj)}{σ:St}{H:Hp}{s:Shared}{E:Value->Shared->Prop}
theorem Inv.wish(I:Inv X pins σ H s)(E:Value->Shared->Prop):Inv (X.wish E) pins σ H s:=⟨I.ok.wish E,I.os,I.bare,I.base,I.loc,I.cell,I.free,I.freeC,I.pin,I.hok,I.len⟩
theorem Inv.unwish(I:Inv (X.wish E) pins σ H s):Inv X pins σ H s:=⟨I.ok.unwish,I.os,I.bare,I.base,I.loc,I.cell,I.free,I.freeC,I.pin,I.hok,I.len⟩
theorem SP.unwish{D:Ends}{f:Flow}{s':Shared}(h:SP (X.wish E) pins D f s'):SP X pins D f s':=by
 cases f with
 |next=>obtain⟨σ',H',I,q⟩:=h;exact⟨σ',H',I.unwish,q⟩
 |brk=>obtain⟨σ',H',I,q⟩:=h;exact⟨σ',H',I.unwish,q⟩
 |cont=>obtain⟨σ',H',I,q⟩:=h;exact⟨σ',H',I.unwish,q⟩
 |ret u=>obtain⟨v,σ',H',I,r,q⟩:=h;exact⟨v,σ',H',I.unwish,r,q⟩
theorem PE.nox{e:Expr}{t:TE}(h:PE X.nox e t):PE X e t:=λpins s σ H Q I hw=>
 wpAny_mono (h pins s σ H Q (I.wish _) hw) (λ_ _ ⟨v,H',I',r,q⟩=>⟨v,H',I'.unwish,r,q⟩) λ_ _ z=>False.elim z
theorem PT.nox{e:Expr}{t:TT}(h:PT X.nox e t):PT X e t:=λpins s σ H Q I hw=>
 wpAny_mono (h pins s σ H Q (I.wish _) hw) (λ_ _ ⟨H',I',q⟩=>⟨H',I'.unwish,q⟩) λ_ _ z=>False.elim z
theorem PSs.nox{st:List Stmt}{t:TS}(h:PSs X.nox st t):PSs X st t:=λpins s σ H D I hw=>
 wpAny_mono (h pins s σ H D (I.wish _) hw) (λ_ _ q=>q.unwish) λ_ _ z=>False.elim z
end
section
variable {X:Cx}{st:Stmt}{rest:List Stmt}{t u:TS}{e:Expr}{te:TE}{pos:Pos}
def on:TS:=λD σ H=>D.nx σ H
def tSeq(t u:TS):TS:=λD σ H=>t {D with nx:=u D} σ H
theorem pss_nil:PSs X [] on:=λ_ _ σ H _ I h=>wpAny_execs_nil ⟨σ,H,I,h⟩
theorem cZ(h1:PS X st t)(h2:PSs X rest u):PSs X (st::rest) (tSeq t u):=by
 intro pins s σ H D I h
 refine wpAny_execs_cons (thn (h1 pins s σ H {D with nx:=u D} I h) λf s1 q=>?_)
 cases f with
 |next=>
  obtain⟨σ',H',I',q⟩:=q
  exact h2 pins s1 σ' H' D I' q
 |ret v=>exact q
 |brk=>exact q
 |cont=>exact q
theorem jz(h1:PS X st t):PSs X [st] t:=by
 intro pins s σ H D I h
 refine wpAny_execs_cons (thn (h1 pins s σ H D I h) λf s1 q=>?_)
 cases f with
 |next=>exact wpAny_execs_nil q
 |ret v=>exact q
 |brk=>exact q
 |cont=>exact q
theorem Inv.quiet{pins:List (Addr × Obj)}{σ:St}{H:Hp}{s:Shared}(I:Inv X pins σ H s):interactive X.env=false:=by simp[interactive,I.ok.kind]
def oq(te:TE):TS:=λD σ H=>te σ H λ_ H1=>D.nx σ H1
theorem jA(he:PE X e te)(hs:swapsWith e none pos.line X.env=pure false:=by rfl):PS X (.Expr e pos) (oq te):=by
 intro pins s σ H D I h
 exact wpAny_Expr_any (thn (he pins s σ H _ I h) λv s1 ⟨x,H1,I1,r1,q1⟩=>⟨σ,H1,I1,q1⟩) I.quiet hs
def tRet(te:TE):TS:=λD σ H=>te σ H D.rt
theorem jB(he:PE X e te):PS X (.Return (some e) pos) (tRet te):=by
 intro pins s σ H D I h
 exact wpAny_Return_some (thn (he pins s σ H _ I h) λv s1 ⟨x,H1,I1,r1,q1⟩=>⟨x,σ,H1,I1,r1,q1⟩)
def tIfS(c:TT)(t u:TS):TS:=λD σ H=>c σ H λb H1=>if b=true then t D σ H1 else u D σ H1
theorem jC{c:Expr}{a b:List Stmt}{tc:TT}(hc:PT X c tc)(ha:PSs X a t)(hb:PSs X b u):PS X (.If c a b pos) (tIfS tc t u):=by
 intro pins s σ H D I h
 refine wpAny_If (thn (hc pins s σ H _ I h) λd s1 ⟨H1,I1,q1⟩=>?_)
 cases d with
 |true=>exact ha pins s1 σ H1 D I1 q1
 |false=>exact hb pins s1 σ H1 D I1 q1
end
abbrev TG:=V->St->Hp->(St->Hp->Prop)->Prop
abbrev TGs:=List V->St->Hp->(St->Hp->Prop)->Prop
def PG(X:Cx)(target:Expr)(t:TG):Prop:=
 ∀ (pins:List (Addr × Obj)) (s:Shared) (σ:St) (H:Hp) (v:V) (u:Value) (Q:St->Hp->Prop),Inv X pins σ H s->RelV v u->t v σ H Q->
  wpAny (model X.prog X.w) X.A (assign target X.env u) (λ_ s'=>∃ σ' H',Inv X pins σ' H' s'/\Q σ' H') X.xe s
def PGs(X:Cx)(ts:List Expr)(t:TGs):Prop:=
 ∀ (pins:List (Addr × Obj)) (s:Shared) (σ:St) (H:Hp) (vs:List V) (us:List Value) (Q:St->Hp->Prop),Inv X pins σ H s->Vals vs us->t vs σ H Q->
  wpAny (model X.prog X.w) X.A (assignInOrder ((assignEach ts X.env).map (·.2)) us) (λ_ s'=>∃ σ' H',Inv X pins σ' H' s'/\Q σ' H') X.xe s
abbrev TSet:=V->V->V->Hp->(Hp->Prop)->Prop
def PSet(X:Cx)(t:TSet):Prop:=
 ∀ (pins:List (Addr × Obj)) (s:Shared) (σ:St) (H:Hp) (o i v:V) (ov iv u:Value) (Q:Hp->Prop),Inv X pins σ H s->RelV o ov->RelV i iv->RelV v u->t o i v H Q->
  wpAny (model X.prog X.w) X.A (setItem ov iv u) (λ_ s'=>∃ H',Inv X pins σ H' s'/\Q H') X.xe s
section
variable {X:Cx}{pos:Pos}
def dI(i:Nat):TG:=λv σ H Q=>Q (σ.set i (some v)) H
theorem dJ{i:Nat}{x:Str}(hN:X.N.Nodup)(hi:X.N[i]?=some x)(hx:Loc X.env.scope x)(hf:zFN X x:=by first|exact .inl rfl|exact .inr rfl|assumption):PG X (.Name x pos) (dI i):=by
 intro pins s σ H v u Q I r h
 exact wpAny_assign_Name (cY I hN hi hx r (λs' I'=>⟨_,H,I',h⟩) hf)
def gNil:TGs:=λvs σ H Q=>vs=[]/\Q σ H
def ot(t:TG)(u:TGs):TGs:=λvs σ H Q=>∃ v r,vs=v::r/\t v σ H λσ' H'=>u r σ' H' Q
theorem ou:PGs X [] gNil:=by
 intro pins s σ H vs us Q I r h
 obtain⟨e,h⟩:=h
 subst e
 cases r
 exact assignInOrder_nil ⟨σ,H,I,h⟩
theorem ow{e:Expr}{es:List Expr}{t:TG}{u:TGs}(h1:PG X e t)(h2:PGs X es u)
  (hs:(assignEach (e::es) X.env).map (·.2)=assign e X.env::(assignEach es X.env).map (·.2):=by rfl):PGs X (e::es) (ot t u):=by
 intro pins s σ H vs us Q I r h
 obtain⟨v,vr,e1,h⟩:=h
 subst e1
 cases r with
 |cons r rr=>
  rw[hs]
  refine assignInOrder_cons (thn (h1 pins s σ H _ _ _ I r h) λ_ s1 ⟨σ1,H1,I1,q1⟩=>?_)
  exact h2 pins s1 σ1 H1 _ _ Q I1 rr q1
def gTup(K:xK)(n:Nat)(t:TGs):TG:=λv σ H Q=>∃ a xs,v= .ref a/\SqT K H a xs/\xs.length=n/\t xs σ H Q
theorem jD{es:List Expr}{k:Nat}{t:TGs}{n:Nat}(hc:X.calm=true)(h:PGs X es t)
  (hn:(assignEach es X.env).length=n:=by rfl) (hst:(assignEach es X.env).findIdx? (·.1)=none:=by rfl):PG X (.Tuple es k pos) (gTup X.K n t):=by
 intro pins s σ H v u Q I r hw
 obtain⟨a,xs,e1,hq,hl,hw⟩:=hw
 subst e1
 cases r
 obtain⟨its,rv,ht,hz⟩:=I.tuple hq
 refine assign_Tuple_tuple (I.ok.hd hc) ht (by simp[hn,<- hl,rv.length]) hst λh' hx=>?_
 have I1:Inv X pins σ H {s with heap:=h'}:=I.kept (t':=s.toks) λb o e=>hx b o (xQ (Heap.lt_size e)) e
 exact h pins _ σ H xs _ Q I1 (by simpa using rv) hw
def gSub(to ti:TE)(t:TSet):TG:=λv σ H Q=>to σ H λo H1=>ti σ H1 λi H2=>t o i v H2 λH3=>Q σ H3
theorem oy{o i:Expr}{to ti:TE}{t:TSet}(ho:PE X o to)(hi:PE X i ti)(hs:PSet X t)
  (ha:∀ v,assign (.Subscript o i pos) X.env v=(do
   let ov <- holding [v] (eval o X.env)
   let iv <- holding [v,ov] (eval i X.env)
   standAt pos
   holding [v,ov,iv] (setItem ov iv v)
   release [v,ov,iv] []):=by intro _;rfl):PG X (.Subscript o i pos) (gSub to ti t):=by
 intro pins s σ H v u Q I r h
 rw[ha]
 refine wpAny_bind (wpAny_holding (thn (ho pins s σ H _ I h) λov s1 ⟨x,H1,I1,r1,q1⟩=>?_))
 refine wpAny_bind (wpAny_holding (thn (hi pins s1 σ H1 _ I1 q1) λiv s2 ⟨y,H2,I2,r2,q2⟩=>?_))
 refine wpAny_bind (wpAny_standAt (wpAny_bind (wpAny_holding (thn (hs pins s2 σ H2 x y v ov iv u _ I2 r1 r2 r q2) λ_ s3 ⟨H3,I3,q3⟩=>?_))))
 exact wpAny_release ⟨σ,H3,I3,q3⟩
def tAsg(te:TE)(g:TG):TS:=λD σ H=>te σ H λx H1=>g x σ H1 D.nx
theorem oz{tg e:Expr}{te:TE}{g:TG}(he:PE X e te)(hg:PG X tg g)(hs:swapsWithSole [tg] e pos.line X.env=pure false:=by rfl)(hw:swappedStores [tg] e X.env=pure none:=by rfl)
  (h1:(assignEach [tg] X.env).map (·.2)=[assign tg X.env]:=by rfl):PS X (.Assign [tg] e pos) (tAsg te g):=by
 intro pins s σ H D I h
 refine wpAny_Assign_stores (thn (he pins s σ H _ I h) λv s1 ⟨x,H1,I1,r1,q1⟩=>?_) hs hw
 rw[h1]
 exact thn (hg pins s1 σ H1 x v _ I1 r1 q1) λ_ s2 q=>q
theorem jE{i:Nat}{x:Str}{e:Expr}{te:TE}{pos':Pos}(hN:X.N.Nodup)(hi:X.N[i]?=some x)(hx:Loc X.env.scope x)(he:PE X e te)(hs:swapsWith e (some (.Name x pos')) pos.line X.env=pure false:=by rfl)(hf:zFN X x:=by first|exact .inl rfl|exact .inr rfl|assumption):
  PS X (.Assign [.Name x pos'] e pos) (tAsg te (dI i)):=by
 intro pins s σ H D I h
 refine wpAny_Assign_Name (thn (he pins s σ H _ I h) λv s1 ⟨y,H1,I1,r1,q1⟩=>?_) hs
 exact cY I1 hN hi hx r1 (λs2 I2=>⟨_,H1,I2,q1⟩) hf
end
section
variable {X:Cx}{pos:Pos}
def oA(c:TT)(tb:TS):TS:=λD σ H=>∃ W:Nat->St->Hp->Prop,(∃ m,W m σ H)/\∀ m σ H,W m σ H->
 c σ H λb H1=>if b=true then ∃ N:St->Hp->Prop,(∀ σ' H',N σ' H'->∃ m',m'<m/\W m' σ' H')/\tb {D with nx:=N,ct:=N,bk:=D.nx} σ H1 else D.nx σ H1
theorem jF{c:Expr}{body:List Stmt}{tc:TT}{tb:TS}(hp:PassesOwn (model X.prog X.w) X.A X.env X.xe)(hc:PT X c tc)(hb:PSs X body tb):PS X (.While c body [] pos) (oA tc tb):=by
 intro pins s σ H D I h
 obtain⟨W,⟨m0,w0⟩,turn⟩:=h
 refine wpAny_While (codeAny_whileLoop (λn s'=>∃ σ' H',Inv X pins σ' H' s'/\W n σ' H') ?_ m0 ⟨σ,H,I,w0⟩)
 rintro n s1 ⟨σ1,H1,I1,w1⟩
 refine wpAny_passesOwn hp (thn (hc pins s1 σ1 H1 _ I1 (turn n σ1 H1 w1)) λb s2 ⟨H2,I2,q2⟩=>?_)
 cases b with
 |true=>
  obtain⟨N,hN,q2⟩:=q2
  rw[if_pos rfl]
  refine wpAny_passesOwn hp (thn (hb pins s2 σ1 H2 _ I2 q2) λf s3 q3=>?_)
  cases f with
  |next=>
   obtain⟨σ3,H3,I3,n3⟩:=q3
   obtain⟨m',hm,w3⟩:=hN σ3 H3 n3
   exact⟨m',hm,σ3,H3,I3,w3⟩
  |cont=>
   obtain⟨σ3,H3,I3,n3⟩:=q3
   obtain⟨m',hm,w3⟩:=hN σ3 H3 n3
   exact⟨m',hm,σ3,H3,I3,w3⟩
  |brk=>exact q3
  |ret v=>exact q3
 |false=>
  rw[if_neg xS]
  exact wpAny_execs_nil ⟨σ1,H2,I2,q2⟩
end
structure It where
 go:Nat->Hp->Prop
 yld:Nat->Hp->V->Hp->Prop
 stop:Nat->Hp->Prop
def FpOk(X:Cx)(pins:List (Addr × Obj))(H:Hp)(b:Addr):Prop:=
 H b=none/\b≠X.env.locals/\b ∉ X.fs/\(b∈X.ex\/X.s₀.heap.objs.size<=b)/\(∀ x c,X.env.cells.lookup x=some c->c≠b)/\∀ p∈X.pn++pins,p.1≠b
theorem Inv.fpOk{X:Cx}{pins:List (Addr × Obj)}{σ:St}{H H':Hp}{s:Shared}{b:Addr}(I:Inv X pins σ H s)(hb:s.heap.objs.size<=b)(hn:H' b=none):FpOk X pins H' b:=by
 refine⟨hn,yB (yb I.lt hb),I.nofs hb,.inr (xU I.sz hb),λx c e z=>?_,λp hp z=>?_⟩
 ·obtain⟨v,q⟩:=I.cell x c e
  exact absurd (yb q.lt (by rw[z];exact hb)) (yJ _)
 ·exact absurd (yb (Heap.lt_size (I.pin p hp).1) (by rw[z];exact hb)) (yJ _)
structure Turn(P:Program)(w:World)(K:xK)(tg:Expr)(J:It)(fp:List Addr)(it:Addr)(tn:Nat->Heap->Prop):Prop where
 mem:it∈fp
 obj:∀ i h,tn i h->∀ b∈fp,∃ o,h.get? b=some o/\∀ v,o.data≠.cell v
 keep:∀ i h h',tn i h->(∀ b∈fp,∀ o,h.get? b=some o->h'.get? b=some o)->tn i h'
 item:∀ (X:Cx),X.prog=P->X.w=w->X.K=K->X.calm=true->∀ (i:Nat) (pins:List (Addr × Obj)) (s:Shared) (σ:St) (H:Hp) (E:Value->Shared->Prop),Inv X pins σ H s->(∀ b∈fp,FpOk X pins H b)->tn i s.heap->J.go i H->
  wpAny (model P w) X.A (pyNext (.ref it)) (λr s1=>∃ u,r=some u/\
   wpAny (model P w) X.A (letOwnedTupleGo tg (.ref it) u) (λ_ s2=>∃ x H',Inv X pins σ H' s2/\RelV x u/\J.yld i H x H'/\tn (i+1) s2.heap/\∀ b∈fp,H' b=none) E s1) E s
 done:∀ (X:Cx),X.prog=P->X.w=w->X.K=K->X.calm=true->∀ (i:Nat) (pins:List (Addr × Obj)) (s:Shared) (σ:St) (H:Hp) (E:Value->Shared->Prop),Inv X pins σ H s->(∀ b∈fp,FpOk X pins H b)->tn i s.heap->J.stop i H->
  wpAny (model P w) X.A (pyNext (.ref it)) (λr s1=>r=none/\Inv X pins σ H s1) E s
 self:∀ (A:Around) (i:Nat) (s:Shared) (Q:Value->Shared->Prop) (E:Value->Shared->Prop),tn i s.heap->Q (.ref it) s->wpAny (model P w) A (pyIter (.ref it)) Q E s
abbrev TI:=St->Hp->(It->Hp->Prop)->Prop
def PIE(X:Cx)(pins:List (Addr × Obj))(σ:St)(tg:Expr)(R:It->Hp->Prop)(itv:Value)(s2:Shared):Prop:=
 ∃ (it:Addr) (fp:List Addr) (tn:Nat->Heap->Prop) (J:It) (H':Hp),itv= .ref it/\Inv X pins σ H' s2/\Turn X.prog X.w X.K tg J fp it tn/\tn 0 s2.heap/\(∀ b∈fp,FpOk X pins H' b)/\R J H'
def PI(X:Cx)(tg iter:Expr)(wi:TI):Prop:=
 ∀ (pins:List (Addr × Obj)) (s:Shared) (σ:St) (H:Hp) (R:It->Hp->Prop),Inv X pins σ H s->wi σ H R->
  wpAny (model X.prog X.w) X.A (eval iter X.env) (λv s1=>wpAny (model X.prog X.w) X.A (pyIter v) (PIE X pins σ tg R) X.xe s1) X.xe s
theorem oB{M:Model}{A:Around}{E:Value->Shared->Prop}{s:Shared}{tg:Expr}{it:Addr}{u:Value}{o:Obj}{n:String}{vs:Array Value}{Q:Unit->Shared->Prop}(ho:s.heap.get? it=some o)(hc:o.cls= .type n)(hd:o.data= .fields vs)
    (hn:["enumerate","zip","dict_itemiterator","dict_reverseitemiterator","odict_iterator","itertools.zip_longest","itertools.pairwise"].contains n=false) (hQ:Q () s):wpAny M A (letOwnedTupleGo tg (.ref it) u) Q E s:=by
  unfold letOwnedTupleGo
  cases tg<;>first
    |exact wpAny_pure hQ
    |(cases u<;>first
        |exact wpAny_pure hQ
        | (refine wpAny_bind (wpAny_load ho ?_)
           rw[hc,hd]
           show wpAny M A (if(["enumerate","zip","dict_itemiterator","dict_reverseitemiterator","odict_iterator","itertools.zip_longest","itertools.pairwise"].contains n && vs[0]?==some (rawInt _))=true then _ else _) Q E s
           rw[if_neg (by intro h;rw[hn,Bool.false_and] at h;cases h)]
           exact wpAny_pure hQ))
def Itr(lo:Int)(n:Nat):It:=⟨λi _=>i<n,λi H x H'=>H'=H/\x= .int (lo+i),λi _=>n<=i⟩
theorem oC{P:Program}{w:World}{K:xK}{tg:Expr}(it:Addr)(lo:Int)(n:Nat):Turn P w K tg (Itr lo n) [it] it (λi h=>IsRangeIter h it (lo+(i:Nat)*1) ((n:Int) - (i:Nat)) 1) where
 mem:=by simp
 obj:=λi h st b hb=>by
  have e:b=it:=by simpa using hb
  subst e
  exact⟨_,st,λv z=>by
   have z':Data.fields _=Data.cell v:=z
   cases z'⟩
 keep:=λi h h' st k=>k it (by simp) _ st
 item:=by
  intro X hP hw hK hc i pins s σ H E I hf st hg
  subst hP hw hK
  obtain⟨f0,f1,f2,f3,f4,f5⟩:=hf it (by simp)
  have W:=Walks.range (prog:=X.prog) (w:=X.w) (I.ok.hd hc) it lo 1 n
  refine W.item i s _ _ hg st λv h' tk hv st' kk=>?_
  obtain⟨t,rfl⟩:=hv
  have I1:Inv X pins σ H {s with heap:=h',toks:=tk}:=I.turned (λb o hb e=>kk b o (by simpa using hb) e) f0 f1 f3 f4 f5
  refine⟨_,rfl,oB (s:={s with heap:=h',toks:=tk}) (n:="range_iterator") st' rfl rfl (by decide) ⟨.int (lo+i),H,I1,⟨t,?_⟩,⟨rfl,rfl⟩,st',λb hb=>(hf b hb).1⟩⟩
  rw[Int.mul_one]
 done:=by
  intro X hP hw hK hc i pins s σ H E I hf st hg
  subst hP hw hK
  obtain⟨f0,f1,f2,f3,f4,f5⟩:=hf it (by simp)
  exact wpAny_pyNext_range_end (I.ok.hd hc) st (by have:n<=i:=hg;omega) λh' eb=>⟨rfl,I.turned (t':=s.toks) (λb o hb e=>eb b o hb e) f0 f1 f3 f4 f5⟩
 self:=λ_ _ _ _ _ st h=>wpAny_pyIter_rangeiter st h
end L2
namespace L2
open PySem PySem.Spec PyProof.Rows
section
variable {X:Cx}{tg:Expr}
theorem jG{pins:List (Addr × Obj)}{σ:St}{H:Hp}{s:Shared}{R:It->Hp->Prop}{E:Value->Shared->Prop}{lo hi:Int}{t u v:Tok}{tk:Nat}(I:Inv X pins σ H s)(h1: -(2 ^ 62)<=lo)(h2:lo<2 ^ 62)(h3: -(2 ^ 62)<=hi)(h4:hi<2 ^ 62)
  (q:R (Itr lo (hi - lo).toNat) H):wpAny (model X.prog X.w) X.A (pyIter (.ref s.heap.objs.size)) (PIE X pins σ tg R) E {s with heap:=s.heap.push {cls:= .type "range",data:= .fields #[.int lo t,.int hi u,.int 1 v]},toks:=tk}:=by
 refine wpAny_pyIter_range (IsRange.new ..) (small_one h1 h2 h3 h4) ?_
 have I1:Inv X pins σ H {s with heap:=s.heap.push {cls:= .type "range",data:= .fields #[.int lo t,.int hi u,.int 1 v]},toks:=tk}:=I.kept λb o e=>Heap.get?_push_of_some _ e
 refine⟨(s.heap.push {cls:= .type "range",data:= .fields #[.int lo t,.int hi u,.int 1 v]}).objs.size,[(s.heap.push {cls:= .type "range",data:= .fields #[.int lo t,.int hi u,.int 1 v]}).objs.size],_,_,H,rfl,
  I1.kept (t':=tk) λb o e=>Heap.get?_push_of_some _ e,oC _ lo (hi - lo).toNat,?_,λb hb=>?_,q⟩
 ·have e1:lo+((0:Nat):Int)*1=lo:=by simp
  have e2:(((hi - lo).toNat:Nat):Int) - ((0:Nat):Int)=Builtin.Range.rangeSize lo hi 1:=by rw[rangeSize_one];split<;>omega
  show IsRangeIter _ _ (lo+((0:Nat):Int)*1) ((((hi - lo).toNat:Nat):Int) - ((0:Nat):Int)) 1
  rw[e1,e2]
  exact Heap.get?_push_size _ rfl
 ·have e:b=(s.heap.push {cls:= .type "range",data:= .fields #[.int lo t,.int hi u,.int 1 v]}).objs.size:=by simpa using hb
  subst e
  exact I1.fpOk (xM _) (I1.hok.fresh (xM _))
def jH(ta:TA):TI:=λσ H R=>ta σ H λvs H1=>∃ j:Int,vs=[.int j]/\-(2 ^ 62)<=j/\j<2 ^ 62/\R (Itr 0 j.toNat) H1
def oE(ta:TA):TI:=λσ H R=>ta σ H λvs H1=>∃ i j:Int,vs=[.int i,.int j]/\(-(2 ^ 62)<=i/\i<2 ^ 62/\-(2 ^ 62)<=j/\j<2 ^ 62)/\R (Itr i (j - i).toNat) H1
theorem fO{a:Expr}{ta:TA}{p pos:Pos}(hg:Gl X "range")(hm:X.mg "range"=none)(ha:PA X [a] ta)(hs:starEach [a] X.env=[(false,eval a X.env)]:=by rfl):PI X tg (.Call (.Name "range" p) [a] [] pos) (jH ta):=by
 intro pins s σ H R I h
 refine Call_ (cv I hg hm boot_range (PyProof.Rows.callWith_type1 (thn (ha pos pins s σ H _ I h) λus s1 ⟨vs,H1,I1,r1,q1⟩=>?_) hs rfl))
 obtain⟨j,e,q1,q2,q⟩:=q1
 subst e
 cases r1 with
 |cons r rr=>
  cases rr
  obtain⟨t,rfl⟩:=r
  exact call_range_1 (jG I1 (by omega) (by omega) q1 q2 (by simpa using q))
theorem oF{a b:Expr}{ta:TA}{p pos:Pos}(hg:Gl X "range")(hm:X.mg "range"=none)(ha:PA X [a,b] ta)(hs:starEach [a,b] X.env=[(false,eval a X.env),(false,eval b X.env)]:=by rfl)(hs2:starEach [b] X.env=[(false,eval b X.env)]:=by rfl):
  PI X tg (.Call (.Name "range" p) [a,b] [] pos) (oE ta):=by
 intro pins s σ H R I h
 refine Call_ (cv I hg hm boot_range (PyProof.Rows.callWith_type1 (thn (ha pos pins s σ H _ I h) λus s1 ⟨vs,H1,I1,r1,q1⟩=>?_) (by rw[hs,hs2]) (by rw[hs2];rfl)))
 obtain⟨i,j,e,⟨q1,q2,q3,q4⟩,q⟩:=q1
 subst e
 cases r1 with
 |cons r rr=>
  cases rr with
  |cons r' rr=>
   cases rr
   obtain⟨t,rfl⟩:=r
   obtain⟨t',rfl⟩:=r'
   exact call_range_2 (jG I1 q1 q2 q3 q4 q)
def tFor(wi:TI)(g:TG)(tb:TS):TS:=λD σ H=>wi σ H λJ H1=>∃ W:Nat->Nat->St->Hp->Prop,(∃ m,W 0 m σ H1)/\∀ i m σ H,W i m σ H->
 (J.stop i H/\D.nx σ H)\/(J.go i H/\∃ N:St->Hp->Prop,(∀ σ' H',N σ' H'->∃ m',m'<m/\W (i+1) m' σ' H')/\∀ x H',J.yld i H x H'->g x σ H' λσ2 H2=>tb {D with nx:=N,ct:=N,bk:=D.nx} σ2 H2)
def dL(fp:List Addr)(h:Heap):List (Addr × Obj):=fp.filterMap λb=>(h.get? b).map λo=>(b,o)
theorem bK{fp:List Addr}{h:Heap}{b:Addr}{o:Obj}(hb:b∈fp)(e:h.get? b=some o):(b,o)∈dL fp h:=zZ.mpr ⟨b,hb,by rw[e];rfl⟩
theorem oG{fp:List Addr}{h:Heap}{p:Addr × Obj}(hp:p∈dL fp h):p.1∈fp/\h.get? p.1=some p.2:=by
 obtain⟨b,hb,e⟩:=zZ.mp hp
 cases q:h.get? b with
 |none=>rw[q] at e;cases e
 |some o=>
  rw[q] at e
  have e':(b,o)=p:=Option.some.inj e
  subst e'
  exact⟨hb,q⟩
theorem Inv.pinned{pins:List (Addr × Obj)}{σ:St}{H:Hp}{s:Shared}{fp:List Addr}(I:Inv X pins σ H s)(hf:∀ b∈fp,FpOk X pins H b)(ho:∀ b∈fp,∃ o,s.heap.get? b=some o/\∀ v,o.data≠.cell v):Inv X (pins++dL fp s.heap) σ H s:=
 I.pins_of λp hp=>(yu.mp hp).elim (λz=>I.pin p (xW _ z)) λz=>by
  obtain⟨hb,e⟩:=oG z
  obtain⟨f0,f1,f2,_⟩:=hf p.1 hb
  obtain⟨o,e',d⟩:=ho p.1 hb
  rw[e] at e';cases e'
  exact⟨e,f0,f1,f2,d⟩
theorem Inv.unpinned{pins pl:List (Addr × Obj)}{σ:St}{H:Hp}{s:Shared}(I:Inv X (pins++pl) σ H s):Inv X pins σ H s:=I.pins_of λp hp=>I.pin p (xW _ (yL _ hp))
theorem da{iter:Expr}{body:List Stmt}{wi:TI}{g:TG}{tb:TS}{pos:Pos}(hp:PassesOwn (model X.prog X.w) X.A X.env X.xe)(hc:X.calm=true)(hi:PI X tg iter wi)(hg:PG X tg g)(hb:PSs X body tb)
  (hs:∀ x,foldedSetIterable iter X.env x=pure x:=by intro _;rfl):PS X (.For tg iter body [] pos) (tFor wi g tb):=by
 intro pins s σ H D I h
 refine wpAny_For (thn (hi pins s σ H _ I h) λv s1 h1=>thn h1 λitv s2 h2=>?_) hs
 obtain⟨it,fp,tn,J,H2,e,I2,T,st2,f2,W,⟨m0,w0⟩,turn⟩:=h2
 subst e
 -- what stays true of the iterator's objects through the loop
 have stat:∀ {H':Hp},(∀ b∈fp,H' b=none)->∀ b∈fp,FpOk X pins H' b:=λhn b hb=>⟨hn b hb,(f2 b hb).2⟩
 refine codeAny_forLoop_any (λn s'=>∃ i σ' H',Inv X pins σ' H' s'/\tn i s'.heap/\(∀ b∈fp,H' b=none)/\W i n σ' H') ?_ m0 ⟨0,σ,H2,I2,st2,λb hb=>(f2 b hb).1,w0⟩
 rintro n s3 ⟨i,σ3,H3,I3,st3,fr3,w3⟩
 rcases turn i n σ3 H3 w3 with⟨stop,qn⟩|⟨go,N,hN,step⟩
 ·refine wpAny_passesOwn hp (thn (T.done X rfl rfl rfl hc i pins s3 σ3 H3 X.xe I3 (stat fr3) st3 stop) λr s4 ⟨hr,I4⟩=>?_)
  subst hr
  exact wpAny_execs_nil ⟨σ3,H3,I4,qn⟩
 ·refine wpAny_passesOwn hp (thn (T.item X rfl rfl rfl hc i pins s3 σ3 H3 X.xe I3 (stat fr3) st3 go) λr s4 ⟨u,hr,h4⟩=>?_)
  subst hr
  refine wpAny_passesOwn hp (thn h4 λ_ s5 ⟨x,H5,I5,r5,y5,st5,fr5⟩=>?_)
  have I5':=I5.pinned (stat fr5) (T.obj _ _ st5)
  refine wpAny_passesOwn hp (thn (hg _ s5 σ3 H5 x u _ I5' r5 (step x H5 y5)) λ_ s6 ⟨σ6,H6,I6,q6⟩=>?_)
  refine wpAny_passesOwn hp (thn (hb _ s6 σ6 H6 _ I6 q6) λf s7 q7=>?_)
  have again:∀ {σ7:St} {H7:Hp},Inv X (pins++dL fp s5.heap) σ7 H7 s7->N σ7 H7->∃ m,m<n/\∃ i σ' H',Inv X pins σ' H' s7/\tn i s7.heap/\(∀ b∈fp,H' b=none)/\W i m σ' H':=λ{σ7 H7} I7 n7=>by
   obtain⟨m',hm,w7⟩:=hN σ7 H7 n7
   refine⟨m',hm,i+1,σ7,H7,I7.unpinned,T.keep _ _ _ st5 λb hb o e=>(I7.pin (b,o) (xW _ (xW _ (bK hb e)))).1,λb hb=>?_,w7⟩
   obtain⟨o,e,d⟩:=T.obj _ _ st5 b hb
   exact(I7.pin (b,o) (xW _ (xW _ (bK hb e)))).2.1
  cases f with
  |next=>obtain⟨σ7,H7,I7,n7⟩:=q7;exact again I7 n7
  |cont=>obtain⟨σ7,H7,I7,n7⟩:=q7;exact again I7 n7
  |brk=>obtain⟨σ7,H7,I7,q7⟩:=q7;exact⟨σ7,H7,I7.unpinned,q7⟩
  |ret v=>obtain⟨x7,σ7,H7,I7,r7,q7⟩:=q7;exact⟨x7,σ7,H7,I7.unpinned,r7,q7⟩
end
theorem fP{lo:Int}{n:Nat}{g:TG}{tb:TS}{D:Ends}{σ:St}{H:Hp}(Pv:Nat->St->Hp->Prop)(h0:Pv 0 σ H)
  (hs:∀ i σ H,i<n->Pv i σ H->g (.int (lo+i)) σ H λσ2 H2=>tb {D with nx:=Pv (i+1),ct:=Pv (i+1),bk:=D.nx} σ2 H2) (hd:∀ σ H,Pv n σ H->D.nx σ H):
  ∃ W:Nat->Nat->St->Hp->Prop,(∃ m,W 0 m σ H)/\∀ i m σ H,W i m σ H->
   ((Itr lo n).stop i H/\D.nx σ H)\/((Itr lo n).go i H/\∃ N:St->Hp->Prop,(∀ σ' H',N σ' H'->∃ m',m'<m/\W (i+1) m' σ' H')/\∀ x H',(Itr lo n).yld i H x H'->g x σ H' λσ2 H2=>tb {D with nx:=N,ct:=N,bk:=D.nx} σ2 H2):=by
 refine⟨λi m σ H=>m=n - i/\i<=n/\Pv i σ H,⟨n,by simp,yj _,h0⟩,?_⟩
 rintro i m σ H ⟨rfl,hi,p⟩
 by_cases hlt:i<n
 ·refine .inr ⟨hlt,Pv (i+1),λσ' H' p'=>⟨n - (i+1),by omega,rfl,hlt,p'⟩,λx H' y=>?_⟩
  obtain⟨e,y⟩:=y
  subst e y
  exact hs i σ _ hlt p
 ·have e:i=n:=by omega
  subst e
  exact .inl ⟨xM _,hd σ H p⟩
end L2
namespace L2
open PySem PySem.Spec PyProof.Rows
abbrev R2:=V->V->Hp->VK->Prop
def OpR(X:Cx)(f:Value->Value->Sem Value)(r:R2):Prop:=
 ∀ (pins:List (Addr × Obj)) (s:Shared) (σ:St) (H:Hp) (x y:V) (v u:Value) (Q:VK),Inv X pins σ H s->RelV x v->RelV y u->r x y H Q->
  wpAny (model X.prog X.w) X.A (f v u) (EP X pins σ Q) X.xe s
def UnR(X:Cx)(f:Value->Sem Value)(r:V->Hp->VK->Prop):Prop:=
 ∀ (pins:List (Addr × Obj)) (s:Shared) (σ:St) (H:Hp) (x:V) (v:Value) (Q:VK),Inv X pins σ H s->RelV x v->r x H Q->
  wpAny (model X.prog X.w) X.A (f v) (EP X pins σ Q) X.xe s
def bv(X:Cx)(f:Value)(r:List V->Hp->VK->Prop):Prop:=
 ∀ (pins:List (Addr × Obj)) (s:Shared) (σ:St) (H:Hp) (xs:List V) (us:List Value) (Q:VK),Inv X pins σ H s->Vals xs us->r xs H Q->
  wpAny (model X.prog X.w) X.A (call f us) (EP X pins σ Q) X.xe s
def TruR(X:Cx)(r:V->Hp->(Bool->Hp->Prop)->Prop):Prop:=
 ∀ (pins:List (Addr × Obj)) (s:Shared) (σ:St) (H:Hp) (x:V) (v:Value) (Q:Bool->Hp->Prop),Inv X pins σ H s->RelV x v->r x H Q->
  wpAny (model X.prog X.w) X.A (truthy v) (TP X pins σ Q) X.xe s
def tOp(r:R2)(ta tb:TE):TE:=λσ H Q=>ta σ H λx H1=>tb σ H1 λy H2=>r x y H2 Q
def tUn(r:V->Hp->VK->Prop)(ta:TE):TE:=λσ H Q=>ta σ H λx H1=>r x H1 Q
def rI(C:Int->Int->Prop)(g:Int->Int->V):R2:=λx y H Q=>∃ i j,x= .int i/\y= .int j/\C i j/\Q (g i j) H
def rI0(g:Int->Int->V):R2:=λx y H Q=>∃ i j,x= .int i/\y= .int j/\Q (g i j) H
def rU(g:Int->V):V->Hp->VK->Prop:=λx H Q=>∃ i,x= .int i/\Q (g i) H
section
variable {X:Cx}{a b c:Expr}{ta tb tc:TE}{pos:Pos}
theorem binT(ha:PE X a ta)(hb:PE X b tb){pins:List (Addr × Obj)}{s:Shared}{σ:St}{H:Hp}{R:V->V->Hp->Prop}(I:Inv X pins σ H s)
  (h:ta σ H λx H1=>tb σ H1 λy H2=>R x y H2) {Q:Value->Shared->Prop} {f:Value->Value->Sem Value}
  (hf:∀ v u s2 x y H2,Inv X pins σ H2 s2->RelV x v->RelV y u->R x y H2->wpAny (model X.prog X.w) X.A (f v u) Q X.xe s2):
  wpAny (model X.prog X.w) X.A (eval a X.env) (λv s₁=>wpAny (model X.prog X.w) X.A (eval b X.env) (λu s₂=>wpAny (model X.prog X.w) X.A (f v u) Q X.xe s₂) X.xe s₁) X.xe s:=by
 refine thn (ha pins s σ H _ I h) λv s1 ⟨x,H1,I1,r1,q1⟩=>?_
 refine thn (hb pins s1 σ H1 _ I1 q1) λu s2 ⟨y,H2,I2,r2,q2⟩=>?_
 exact hf v u s2 x y H2 I2 r1 r2 q2
theorem jI{op:Operator}{r:R2}(ho:OpR X (binaryOp op) r)(ha:PE X a ta)(hb:PE X b tb):PE X (.BinOp a op b pos) (tOp r ta tb):=by
 intro pins s σ H Q I h
 exact wpAny_BinOp (binT ha hb I h λv u s2 x y H2 I2 rx ry q=>ho pins s2 σ H2 x y v u Q I2 rx ry q)
theorem oH{op:UnaryOp}{r:V->Hp->VK->Prop}(ho:UnR X (unaryOp op) r)(ha:PE X a ta):PE X (.UnaryOp op a pos) (tUn r ta):=by
 intro pins s σ H Q I h
 exact UnaryOp_ (thn (ha pins s σ H _ I h) λv s1 ⟨x,H1,I1,r1,q1⟩=>ho pins s1 σ H1 x v Q I1 r1 q1)
theorem opI{f:Value->Value->Sem Value}{C:Int->Int->Prop}{g:Int->Int->Int}
  (rule:∀ (i j:Int) (t u:Tok) (s:Shared) (Q:Value->Shared->Prop) (E:Value->Shared->Prop),C i j->Q (.int (g i j) s.toks) {s with toks:=s.toks+1}->wpAny (model X.prog X.w) X.A (f (.int i t) (.int j u)) Q E s):
  OpR X f (rI C λi j=> .int (g i j)):=by
 intro pins s σ H x y v u Q I rx ry h
 obtain⟨i,j,rfl,rfl,hc,q⟩:=h
 obtain⟨t,rfl⟩:=rx
 obtain⟨t',rfl⟩:=ry
 exact rule i j t t' s _ _ hc ⟨.int (g i j),H,I.tok _,⟨_,rfl⟩,q⟩
theorem opI0{f:Value->Value->Sem Value}{g:Int->Int->Int}
  (rule:∀ (i j:Int) (t u:Tok) (s:Shared) (Q:Value->Shared->Prop) (E:Value->Shared->Prop),Q (.int (g i j) s.toks) {s with toks:=s.toks+1}->wpAny (model X.prog X.w) X.A (f (.int i t) (.int j u)) Q E s):
  OpR X f (rI0 λi j=> .int (g i j)):=by
 intro pins s σ H x y v u Q I rx ry h
 obtain⟨i,j,rfl,rfl,q⟩:=h
 obtain⟨t,rfl⟩:=rx
 obtain⟨t',rfl⟩:=ry
 exact rule i j t t' s _ _ ⟨.int (g i j),H,I.tok _,⟨_,rfl⟩,q⟩
theorem opB0{f:Value->Value->Sem Value}{g:Int->Int->Bool}
  (rule:∀ (i j:Int) (t u:Tok) (s:Shared) (Q:Value->Shared->Prop) (E:Value->Shared->Prop),Q (.bool (g i j)) s->wpAny (model X.prog X.w) X.A (f (.int i t) (.int j u)) Q E s):
  OpR X f (rI0 λi j=> .bl (g i j)):=by
 intro pins s σ H x y v u Q I rx ry h
 obtain⟨i,j,rfl,rfl,q⟩:=h
 obtain⟨t,rfl⟩:=rx
 obtain⟨t',rfl⟩:=ry
 exact rule i j t t' s _ _ ⟨.bl (g i j),H,I,rfl,q⟩
def CDiv(i j:Int):Prop:=0<j/\j<1073741824
def jJ(i j:Int):Prop:=j≠0/\j.natAbs<1073741824
def CMul(i j:Int):Prop:=(-(2 ^ 64)<i/\i<2 ^ 64)\/(-(2 ^ 64)<j/\j<2 ^ 64)
theorem CMul.ok{i j:Int}(h:CMul i j):IntMulOk i j:=by
 rcases h with⟨h1,h2⟩|⟨h1,h2⟩
 ·exact .of_left (intBits_le_64 h1 h2)
 ·exact .of_right (intBits_le_64 h1 h2)
theorem oI:OpR X (binaryOp .Add) (rI0 λi j=> .int (i+j)):=opI0 λ_ _ _ _ _ _ _ q=>add_int q
theorem jK:OpR X (binaryOp .Sub) (rI0 λi j=> .int (i - j)):=opI0 λ_ _ _ _ _ _ _ q=>sub_int q
theorem oJ:OpR X (binaryOp .Mult) (rI CMul λi j=> .int (i*j)):=opI λ_ _ _ _ _ _ _ hc q=>mul_int q hc.ok
theorem oK:OpR X (binaryOp .FloorDiv) (rI CDiv λi j=> .int (i / j)):=opI λi j _ _ _ _ _ hc q=>by
 have h1:(0:Int)<j:=hc.1
 have h2:j<1073741824:=hc.2
 exact floordiv_int (by omega) (by rw[Int.fdiv_eq_ediv_of_nonneg i (by omega)];exact q) (.inl (PyProof.noPylong_small (by omega)))
theorem oM:OpR X (binaryOp .FloorDiv) (rI jJ λi j=> .int (i.fdiv j)):=opI λ_ _ _ _ _ _ _ hc q=>floordiv_int hc.1 q (.inl (PyProof.noPylong_small hc.2))
theorem oN:OpR X (binaryOp .Mod) (rI (λ_ j=>0<j) λi j=> .int (i % j)):=opI λi j _ _ _ _ _ hc q=>by
 have h1:(0:Int)<j:=hc
 exact mod_int' (by omega) (by rw[Int.fmod_eq_emod_of_nonneg i (by omega)];exact q)
theorem unI{f:Value->Sem Value}{g:Int->Int}
  (rule:∀ (i:Int) (t:Tok) (s:Shared) (Q:Value->Shared->Prop) (E:Value->Shared->Prop),Q (.int (g i) s.toks) {s with toks:=s.toks+1}->wpAny (model X.prog X.w) X.A (f (.int i t)) Q E s):
  UnR X f (rU λi=> .int (g i)):=by
 intro pins s σ H x v Q I rx h
 obtain⟨i,rfl,q⟩:=h
 obtain⟨t,rfl⟩:=rx
 exact rule i t s _ _ ⟨.int (g i),H,I.tok _,⟨_,rfl⟩,q⟩
theorem oO:UnR X (unaryOp .USub) (rU λi=> .int (-i)):=unI λ_ _ _ _ _ q=>neg_int q
end
def scal:V->V->Bool
 | .non,.non=>true| .non,.int _=>true| .int _,.non=>true| .non,.bl _=>true| .bl _,.non=>true| .non,.str _=>true| .str _,.non=>true
 | .int _,.int _=>true| .bl _,.bl _=>true| .str _,.str _=>true| .byt _,.byt _=>true
 | .int _,.str _=>true| .str _,.int _=>true| .bl _,.str _=>true| .str _,.bl _=>true
 |_,_=>false
def rEq:R2:=λx y H Q=>scal x y=true/\Q (.bl (decide (x=y))) H
def rNe:R2:=λx y H Q=>scal x y=true/\Q (.bl (!decide (x=y))) H
theorem jL{i j:Int}:decide (V.int i=V.int j)=(i==j):=by
 rw[zh]
 simp
theorem jM{i j:Bool}:decide (V.bl i=V.bl j)=(i==j):=by
 rw[zh]
 simp
theorem jN{i j:Str}:decide (V.str i=V.str j)=(i==j):=by
 rw[zh]
 simp
theorem jO{i j:Array UInt8}:decide (V.byt i=V.byt j)=(i.toList==j.toList):=by
 rw[zh]
 cases i
 cases j
 simp
section
variable {X:Cx}{a b c:Expr}{ta tb tc:TE}{pos:Pos}
theorem aC{pins:List (Addr × Obj)}{σ:St}{H:Hp}{s:Shared}{Q:VK}{k k':Bool}(I:Inv X pins σ H s)(q:Q (.bl k) H)(e:k=k'):EP X pins σ Q (.bool k') s:=by
 subst e
 exact⟨.bl k,H,I,rfl,q⟩
theorem fQ:OpR X (compareOp .Eq) rEq:=by
 intro pins s σ H x y v u Q I rx ry h
 obtain⟨hs,q⟩:=h
 cases x with
 |non=>
  cases rx
  cases y with
  |non=>cases ry;exact PySem.EqNone.eq_none_none (aC I q (by simp))
  |bl j=>cases ry;exact PySem.EqNone.eq_none_bool (aC I q (by simp))
  |int j=>obtain⟨t',rfl⟩:=ry;exact PySem.EqNone.eq_none_int (aC I q (by simp))
  |str j=>obtain⟨t',rfl⟩:=ry;exact PySem.EqNone.eq_none_str (aC I q (by simp))
  |_=>exact absurd (show false=true from hs) xS
 |bl i=>
  cases rx
  cases y with
  |non=>cases ry;exact PySem.EqNone.eq_bool_none (aC I q (by simp))
  |bl j=>cases ry;exact eq_bool (aC I q jM)
  |str j=>obtain⟨t',rfl⟩:=ry;exact PySem.EqMixed.eq_bool_str (aC I q (by simp))
  |_=>exact absurd (show false=true from hs) xS
 |int i=>
  obtain⟨t,rfl⟩:=rx
  cases y with
  |non=>cases ry;exact PySem.EqNone.eq_int_none (aC I q (by simp))
  |int j=>obtain⟨t',rfl⟩:=ry;exact eq_int (aC I q jL)
  |str j=>obtain⟨t',rfl⟩:=ry;exact PySem.EqMixed.eq_int_str (aC I q (by simp))
  |_=>exact absurd (show false=true from hs) xS
 |str i=>
  obtain⟨t,rfl⟩:=rx
  cases y with
  |non=>cases ry;exact PySem.EqNone.eq_str_none (aC I q (by simp))
  |bl j=>cases ry;exact PySem.EqMixed.eq_str_bool (aC I q (by simp))
  |int j=>obtain⟨t',rfl⟩:=ry;exact PySem.EqMixed.eq_str_int (aC I q (by simp))
  |str j=>obtain⟨t',rfl⟩:=ry;exact eq_str (aC I q jN)
  |_=>exact absurd (show false=true from hs) xS
 |byt i=>
  obtain⟨t,rfl⟩:=rx
  cases y with
  |byt j=>obtain⟨t',rfl⟩:=ry;exact eq_bytes (aC I q jO)
  |_=>exact absurd (show false=true from hs) xS
 |_=>cases y<;>exact absurd (show false=true from hs) xS
theorem oP:OpR X (compareOp .NotEq) rNe:=by
 intro pins s σ H x y v u Q I rx ry h
 obtain⟨hs,q⟩:=h
 cases x with
 |non=>
  cases rx
  cases y with
  |non=>cases ry;exact PySem.EqNone.ne_none_none (aC I q (by simp))
  |bl j=>cases ry;exact PySem.EqNone.ne_none_bool (aC I q (by simp))
  |int j=>obtain⟨t',rfl⟩:=ry;exact PySem.EqNone.ne_none_int (aC I q (by simp))
  |str j=>obtain⟨t',rfl⟩:=ry;exact PySem.EqNone.ne_none_str (aC I q (by simp))
  |_=>exact absurd (show false=true from hs) xS
 |bl i=>
  cases rx
  cases y with
  |non=>cases ry;exact PySem.EqNone.ne_bool_none (aC I q (by simp))
  |bl j=>cases ry;exact ne_bool (aC I q (congrArg not jM))
  |str j=>obtain⟨t',rfl⟩:=ry;exact PySem.EqMixed.ne_bool_str (aC I q (by simp))
  |_=>exact absurd (show false=true from hs) xS
 |int i=>
  obtain⟨t,rfl⟩:=rx
  cases y with
  |non=>cases ry;exact PySem.EqNone.ne_int_none (aC I q (by simp))
  |int j=>obtain⟨t',rfl⟩:=ry;exact ne_int (aC I q (congrArg not jL))
  |str j=>obtain⟨t',rfl⟩:=ry;exact PySem.EqMixed.ne_int_str (aC I q (by simp))
  |_=>exact absurd (show false=true from hs) xS
 |str i=>
  obtain⟨t,rfl⟩:=rx
  cases y with
  |non=>cases ry;exact PySem.EqNone.ne_str_none (aC I q (by simp))
  |bl j=>cases ry;exact PySem.EqMixed.ne_str_bool (aC I q (by simp))
  |int j=>obtain⟨t',rfl⟩:=ry;exact PySem.EqMixed.ne_str_int (aC I q (by simp))
  |str j=>obtain⟨t',rfl⟩:=ry;exact ne_str (aC I q (congrArg not jN))
  |_=>exact absurd (show false=true from hs) xS
 |byt i=>
  obtain⟨t,rfl⟩:=rx
  cases y with
  |byt j=>obtain⟨t',rfl⟩:=ry;exact ne_bytes (aC I q (congrArg not jO))
  |_=>exact absurd (show false=true from hs) xS
 |_=>cases y<;>exact absurd (show false=true from hs) xS
theorem jP:OpR X (compareOp .Lt) (rI0 λi j=> .bl (decide (i<j))):=opB0 λ_ _ _ _ _ _ _ q=>lt_int q
theorem oQ:OpR X (compareOp .Gt) (rI0 λi j=> .bl (decide (j<i))):=opB0 λ_ _ _ _ _ _ _ q=>gt_int q
theorem oR:OpR X (compareOp .Is) (λx y H Q=>y= .non/\Q (.bl (decide (x= .non))) H):=by
 intro pins s σ H x y v u Q I rx ry h
 obtain⟨rfl,q⟩:=h
 cases ry
 refine is_none_gen (aC I q ?_)
 cases x<;>first
  |(cases rx;rfl)
  |(obtain⟨t,rfl⟩:=rx;rfl)
theorem OpR.or{f:Value->Value->Sem Value}{r r':R2}(h:OpR X f r)(h':OpR X f r'):OpR X f (λx y H Q=>r x y H Q\/r' x y H Q):=by
 intro pins s σ H x y v u Q I rx ry q
 rcases q with q|q
 ·exact h pins s σ H x y v u Q I rx ry q
 ·exact h' pins s σ H x y v u Q I rx ry q
theorem nomark(b:Expr){op:CmpOp}(h:op≠.In:=by decide)(h2:op≠.NotIn:=by decide):behindInMarks op b=false:=by
 have e1:(op==CmpOp.In)=false:=by cases op<;>first|rfl|exact absurd rfl h
 have e2:(op==CmpOp.NotIn)=false:=by cases op<;>first|rfl|exact absurd rfl h2
 cases b<;>simp[behindInMarks,e1,e2]
theorem oS{op:CmpOp}{r:R2}(ho:OpR X (compareOp op) r)(ha:PE X a ta)(hb:PE X b tb)(hm:behindInMarks op b=false):PE X (.Compare a [op] [b] pos) (tOp r ta tb):=by
 intro pins s σ H Q I h
 exact wpAny_Compare1 (binT ha hb I h λv u s2 x y H2 I2 rx ry q=>ho pins s2 σ H2 x y v u Q I2 rx ry q) hm
def oU(t:TE):TT:=λσ H Q=>t σ H λx H'=>∃ k,x= .bl k/\Q k H'
theorem jQ{op:CmpOp}{r:R2}(ho:OpR X (compareOp op) r)(ha:PE X a ta)(hb:PE X b tb)(hm:behindInMarks op b=false):PT X (.Compare a [op] [b] pos) (oU (tOp r ta tb)):=by
 intro pins s σ H Q I h
 refine wpAny_isTrue_Compare1 (thn (ha pins s σ H _ I h) λv s1 ⟨x,H1,I1,r1,q1⟩=>thn (hb pins s1 σ H1 _ I1 q1) λu s2 ⟨y,H2,I2,r2,q2⟩=>
  thn (ho pins s2 σ H2 x y v u _ I2 r1 r2 q2) λc s3 ⟨z,H3,I3,r3,k,e,q3⟩=>?_) hm
 subst e
 cases r3
 exact wpAny_truthy_bool ⟨H3,I3,q3⟩
def TruV(K:xK)(x:V)(H:Hp)(k:Bool):Prop:=
 match x with
 | .non=>k=false
 | .bl b=>k=b
 | .int i=>k=(i !=0)
 | .str y=>y.length<=sizeLine/\k=((y.length:Int) !=0)
 | .byt y=>y.size<=sizeLine/\k=((y.size:Int) !=0)
 | .ref p=>(∃ xs,SqL K H p xs/\k=!xs.isEmpty)\/(∃ xs,SqT K H p xs/\k=!xs.isEmpty)\/∃ kvs,H p=some (.dK kvs)/\k=!kvs.isEmpty
 |_=>False
theorem oV{κ:Type}{kvs:List (κ × V)}{vs:List (κ × Value)}(r:KV kvs vs):(!vs.isEmpty)=!kvs.isEmpty:=by
 cases r<;>rfl
theorem isEmpty_of{xs:List V}{its:List Value}(r:Vals xs its):(!its.toArray.isEmpty)=!xs.isEmpty:=by
 cases r<;>simp
theorem line63:(sizeLine:Nat)<2 ^ 63:=by rw[sizeLine_eq];decide
theorem oW:TruR X (λx H Q=>∃ k,TruV X.K x H k/\Q k H):=by
 intro pins s σ H x v Q I rx h
 obtain⟨k,e,q⟩:=h
 have hl:=line63
 have hs:sizeLine=16777216:=sizeLine_eq
 cases x with
 |non=>
  cases rx
  have e':k=false:=e
  subst e'
  exact truthy_none ⟨H,I,q⟩
 |bl b=>
  cases rx
  have e':k=b:=e
  subst e'
  exact wpAny_truthy_bool ⟨H,I,q⟩
 |int i=>
  obtain⟨t,rfl⟩:=rx
  have e':k=(i !=0):=e
  subst e'
  exact PySem.P.truthy_int ⟨H,I,q⟩
 |str y=>
  obtain⟨t,rfl⟩:=rx
  obtain⟨hy,e'⟩:y.length<=sizeLine/\k=((y.length:Int) !=0):=e
  subst e'
  exact PySem.P.truthy_str (by omega) ⟨H,I.tok _,q⟩
 |byt y=>
  obtain⟨t,rfl⟩:=rx
  obtain⟨hy,e'⟩:y.size<=sizeLine/\k=((y.size:Int) !=0):=e
  subst e'
  exact truthy_bytes (by omega) ⟨H,I.tok _,q⟩
 |ref p=>
  cases rx
  have e':(∃ xs,SqL X.K H p xs/\k=!xs.isEmpty)\/(∃ xs,SqT X.K H p xs/\k=!xs.isEmpty)\/∃ kvs,H p=some (.dK kvs)/\k=!kvs.isEmpty:=e
  rcases e' with⟨xs,hx,e'⟩|⟨xs,hx,e'⟩|⟨kvs,hx,e'⟩
  ·subst e'
   obtain⟨its,r,pl,hz⟩:=I.list hx
   have hlen:=r.length
   exact wpAny_truthy_list pl.isList (by simp only[xX];omega) ⟨H,I.tok _,by rw[isEmpty_of r];exact q⟩
  ·subst e'
   obtain⟨its,r,pl,hz⟩:=I.tuple hx
   have hlen:=r.length
   exact truthy_tuple pl (by simp only[xX];omega) ⟨H,I.tok _,by rw[isEmpty_of r];exact q⟩
  ·subst e'
   obtain⟨hz,hS,vs,r,m⟩:kvs.length<=sizeLine/\(p==sysModules)=false/\∃ vs,KV kvs vs/\s.heap.DictOf (bu X.prog X.w) p vs:=I.hok p _ hx
   have hlen:kvs.length=vs.length:=Paired.length r
   exact wpAny_truthy_dict hS m (by omega) ⟨H,I.tok _,by rw[oV r];exact q⟩
 |_=>exact(show False from e).elim
theorem oX(ha:PE X a ta)(he:∀ whole,isTrue a X.env whole=(do let v <- whole;standAt a.pos;holding [v] (truthy v))):
  PT X a (λσ H Q=>ta σ H λx H'=>∃ k,TruV X.K x H' k/\Q k H'):=by
 intro pins s σ H Q I h
 exact isTrue_plain (thn (ha pins s σ H _ I h) λv s1 ⟨x,H1,I1,r1,q1⟩=>oW pins s1 σ H1 x v Q I1 r1 q1) (he _)
theorem oY:OpR X (binaryOp .Add) (λx y H Q=>∃ i j,x= .str i/\y= .str j/\i.length+j.length<=sizeLine/\Q (.str (i++j)) H):=by
 intro pins s σ H x y v u Q I rx ry h
 obtain⟨i,j,rfl,rfl,hz,q⟩:=h
 obtain⟨t,rfl⟩:=rx
 obtain⟨t',rfl⟩:=ry
 exact add_str (λt' tk=>⟨.str (i++j),H,I.tok _,⟨_,rfl⟩,q⟩) hz
theorem bE{x:V}{us:List Value}(r:Vals [x] us):∃ u,us=[u]/\RelV x u:=by
 cases r with
 |cons r1 r2=>cases r2;exact⟨_,rfl,r1⟩
theorem jR{x y:V}{us:List Value}(r:Vals [x,y] us):∃ u w',us=[u,w']/\RelV x u/\RelV y w':=by
 cases r with
 |cons r1 r2=>
  cases r2 with
  |cons r3 r4=>cases r4;exact⟨_,_,rfl,r1,r3⟩
theorem oZ:bv X (.builtin "abs") (λxs H Q=>∃ i,xs=[.int i]/\Q (.int (if i<0 then -i else i)) H):=by
 intro pins s σ H xs us Q I r h
 obtain⟨i,rfl,q⟩:=h
 obtain⟨u,rfl,t,rfl⟩:=bE r
 exact call_abs_int λu tk=>⟨.int (if i<0 then -i else i),H,I.tok _,⟨_,rfl⟩,q⟩
theorem pb:bv X (.type "int") (λxs H Q=>(∃ i,xs=[.int i]/\Q (.int i) H)\/∃ k,xs=[.bl k]/\Q (.int (if k then 1 else 0)) H):=by
 intro pins s σ H xs us Q I r h
 rcases h with⟨i,rfl,q⟩|⟨k,rfl,q⟩
 ·obtain⟨u,rfl,t,rfl⟩:=bE r
  exact call_int_int ⟨.int i,H,I,⟨_,rfl⟩,q⟩
 ·obtain⟨u,rfl,r1⟩:=bE r
  cases r1
  exact call_int_bool ⟨.int (if k then 1 else 0),H,I.tok _,⟨_,rfl⟩,q⟩
theorem pd:bv X (.type "str") (λxs H Q=>∃ i,xs=[.int i]/\i.natAbs.log2<1920/\Q (.str (toString i)) H):=by
 intro pins s σ H xs us Q I r h
 obtain⟨i,rfl,hz,q⟩:=h
 obtain⟨u,rfl,t,rfl⟩:=bE r
 exact PySem.P.str_of_int hz ⟨.str _,H,I.tok _,⟨_,rfl⟩,q⟩
def LenV(K:xK)(x:V)(H:Hp)(n:Nat):Prop:=
 match x with
 | .str y=>y.length<=sizeLine/\n=y.length
 | .byt y=>y.size<=sizeLine/\n=y.size
 | .ref p=>(∃ xs,SqL K H p xs/\n=xs.length)\/∃ xs,SqT K H p xs/\n=xs.length
 |_=>False
theorem fR:bv X (.builtin "len") (λxs H Q=>∃ x n,xs=[x]/\LenV X.K x H n/\Q (.int n) H):=by
 intro pins s σ H xs us Q I r h
 obtain⟨x,n,rfl,e,q⟩:=h
 obtain⟨u,rfl,rx⟩:=bE r
 have hl:=line63
 have hs:sizeLine=16777216:=sizeLine_eq
 cases x with
 |str y=>
  obtain⟨t,rfl⟩:=rx
  obtain⟨hy,e'⟩:y.length<=sizeLine/\n=y.length:=e
  subst e'
  exact len_str (by omega) ⟨.int _,H,I.tok _,⟨_,rfl⟩,q⟩
 |byt y=>
  obtain⟨t,rfl⟩:=rx
  obtain⟨hy,e'⟩:y.size<=sizeLine/\n=y.size:=e
  subst e'
  exact len_bytes (by omega) ⟨.int _,H,I.tok _,⟨_,rfl⟩,q⟩
 |ref p=>
  cases rx
  have e':(∃ xs,SqL X.K H p xs/\n=xs.length)\/∃ xs,SqT X.K H p xs/\n=xs.length:=e
  rcases e' with⟨xs,hx,e'⟩|⟨xs,hx,e'⟩
  ·subst e'
   obtain⟨its,r',pl,hz⟩:=I.list hx
   have hlen:=r'.length
   exact Calls.call_len_list pl.isList (by simp only[xX];omega) ⟨.int xs.length,H,I.tok _,⟨_,by simp only[xX];rw[hlen]⟩,q⟩
  ·subst e'
   obtain⟨its,r',pl,hz⟩:=I.tuple hx
   have hlen:=r'.length
   exact len_tuple pl (by simp only[xX];omega) ⟨.int xs.length,H,I.tok _,⟨_,by simp only[xX];rw[hlen]⟩,q⟩
 |_=>exact(show False from e).elim
end
end L2
namespace L2
open PySem PySem.Spec PyProof.Rows
structure ObjM(h:Heap)(x dx C:Addr)(mA:Str->Option Value):Prop where
 obj:h.get? x=some (instObj C dx)
 ns:h.Ns1 dx mA
 ne:dx≠x
theorem jS{h:Heap}{dx:Addr}{mA:Str->Option Value}(n:h.Ns1 dx mA):∃ od,h.get? dx=some od/\∀ name,lookIn name od=some (mA name):=by
 obtain⟨o,es,ep,ho,hd,hk,_,hm⟩:=n
 refine⟨o,ho,λname=>?_⟩
 have e:=hm name
 unfold nsFind findBy at e
 rw[<- Array.find?_toList] at e
 unfold lookIn
 rw[hd]
 dsimp only
 split
 ·rename_i y q
  rw[q] at e
  exact congrArg some e
 ·rename_i q
  rw[q] at e
  have a:es.toList.any (·.refKey)=false:=by
   rw[List.any_eq_false]
   intro y hy
   obtain⟨z,t,hkey⟩:=hk y (Array.mem_toList_iff.mp hy)
   simp[DictEntry.refKey,hkey]
  have a':¬ es.toList.any (·.refKey)=true:=by rw[a];exact xS
  rw[if_neg a']
  exact congrArg some e
theorem ObjM.look{h:Heap}{x dx C:Addr}{mA:Str->Option Value}(I:ObjM h x dx C mA):∃ od,PySem.W.InstAt h x (instObj C dx) C (some od)/\∀ name,lookIn name od=some (mA name):=
 let ⟨od,ho,hl⟩:=jS I.ns
 ⟨od,⟨I.obj,rfl,rfl,ho⟩,hl⟩
section
variable {prog:Program}{w:World}{A:Around}{E:Value->Shared->Prop}{s:Shared}{K:xK}{x dx C f:Addr}{mA:Str->Option Value}{name:Str}{v:Value}
theorem pe{expr:Bool}{Q:Value->Shared->Prop}(X:K.In s.heap)(I:ObjM s.heap x dx C mA)(hg:plainGet K C name=true)(hh:hasDictIn K C=true)
  (ha:xO K (.ref C) name=some none) (hv:mA name=some v) (hv':Aa v=true) (h:Q v {s with toks:=s.toks+1}):
  wpAny (model prog w) A (getAttr (.ref x) name expr) Q E s:=by
 obtain⟨od,J,hl⟩:=I.look
 exact get_value X J (plainGet_of hg).1 (findObj_own hh ha rfl (by rw[hl,hv])) hv' h
theorem pf{pl:Sem Bool}{Q:Value × List Value->Shared->Prop}(X:K.In s.heap)(I:ObjM s.heap x dx C mA)(hg:plainGet K C name=true)
  (hf:xO K (.ref C) name=some (some (.ref f))) (ht:isFn K (.ref f)=true) (hv:mA name=none) (h:Q (.ref f,[.ref x]) s):
  wpAny (model prog w) A (getMethod (.ref x) name pl) Q E s:=by
 obtain⟨od,J,hl⟩:=I.look
 exact method_fn X J (plainGet_of hg).1 (plainGet_of hg).2 hf (beq_iff_eq.mp ht) (by show(lookIn name od).map (·.isSome)=some false;rw[hl,hv];rfl) h
theorem ph{ns:List Str}{Q:Unit->Shared->Prop}(X:K.In s.heap)(I:ObjM s.heap x dx C mA)
  (hs:xO K (.ref C) "__setattr__"=some (some (.builtin "object.__setattr__"))) (hp:plainOver K C=true) (ht:takerIn K C name=some none) (hh:hasDictIn K C=true)
  (hw:PySem.Within mA ns) (hsz:ns.length<=sizeLine)
  (h:∀ h',ObjM h' x dx C (λy=>if y=name then some v else mA y)->Heap.SameBut dx s.heap h'->Q () {s with heap:=h',toks:=s.toks+2}):
  wpAny (model prog w) A (setAttr (.ref x) name v) Q E s:=by
 obtain⟨od,J,hl⟩:=I.look
 refine PySem.W.set_plain X J hs (osa_open (s:={s with toks:=s.toks+1}) (r:=none) X J hp ht λb=>?_)
 obtain⟨cd,hc,hd'⟩:=any_some hh
 have hx:s.heap.get? x=some ⟨.ref C,some dx,.plain,#[]⟩:=I.obj
 refine wpAny_bind (wpAny_pure (wpAny_bind (wpAny_bind (wpAny_loadPart hx (wpAny_bind (PySem.W.Looks.here (s:={s with toks:=s.toks+1}) (PySem.W.looks_clsIn X hc) ?_))))))
 rw[hd']
 refine wpAny_pure (a:=some dx) (wpAny_bind (wpAny_pure (wpAny_bind ?_)))
 refine wpAny_nsSet1 (s:={s with toks:=s.toks+1}) I.ns λh' hn2 hs2=>?_
 obtain⟨oD,esD,epD,hoD,hdD,hcD⟩:=hn2.count (PySem.Within.cons name v hw)
 refine wpAny_bind (wpAny_lookBehind hoD (by rw[hdD];exact pastItsLine_dict (xU hcD (by rw[xN];omega))) ?_)
 exact wpAny_pure (h _ ⟨(hs2.2 _ (Ne.symm I.ne)).trans I.obj,hn2,I.ne⟩ hs2)
theorem pi{R:Result->Shared->Prop}{vs:List Value}{kw:List (Str × Value)}(X:K.In s.heap)(hm:makesIn K C=true)
  (hi:xO K (.ref C) "__init__"=some (some (.ref f))) (hf:PySem.W.typeIn K (.ref f)=some (.type "function"))
  (h:codeAny (model prog w) (A.under (.builtin "type.__call__" ⟨.ref C::vs,kw⟩)) (.call (.ref f) ⟨.ref (s.heap.objs.size+1)::vs,kw⟩) (InitBack (s.heap.objs.size+1) R)
   {s with heap:=(s.heap.push emptyDict).push (instObj C s.heap.objs.size)}):
  codeAny (model prog w) A (.call (.ref C) ⟨vs,kw⟩) R s:=by
 obtain⟨hh,g,d,t,os⟩:=s
 exact make_core (makes_of X hm) (PySem.W.looks_findIn X hi) (λself=>PySem.W.bind_fn X self hf) (.inl rfl) h
end
def putF(f:Str)(v:V):List (Str × V)->List (Str × V)
 |[]=>[(f,v)]
 |(g,x)::r=>if g=f then(g,v)::r else(g,x)::putF f v r
theorem jT(f g:Str)(v:V):∀ fs:List (Str × V),(putF f v fs).lookup g=if g=f then some v else fs.lookup g
 |[]=>by
  show yD g [(f,v)]=_
  by_cases h:g=f
  ·have hb:(g==f)=true:=beq_iff_eq.mpr h
   simp only[yD,hb,if_pos h]
  ·have hb:(g==f)=false:=beq_eq_false_iff_ne.mpr h
   simp only[yD,hb,if_neg h]
 |(k,x)::r=>by
  have ih:=jT f g v r
  rw[show putF f v ((k,x)::r)=(if k=f then(k,v)::r else(k,x)::putF f v r) from rfl]
  by_cases hk:k=f
  ·rw[if_pos hk]
   by_cases h:g=k
   ·have hb:(g==k)=true:=beq_iff_eq.mpr h
    simp only[yD,hb,if_pos (h.trans hk)]
   ·have hb:(g==k)=false:=beq_eq_false_iff_ne.mpr h
    simp only[yD,hb,if_neg (λe:g=f=>h (e.trans hk.symm))]
  ·rw[if_neg hk]
   by_cases h:g=k
   ·have hb:(g==k)=true:=beq_iff_eq.mpr h
    simp only[yD,hb,if_neg (λe:g=f=>hk (h.symm.trans e))]
   ·have hb:(g==k)=false:=beq_eq_false_iff_ne.mpr h
    simp only[yD,hb]
    exact ih
theorem fS(f:Str)(v:V):∀ fs:List (Str × V),f∈(putF f v fs).map (·.1)/\∀ g,g∈fs.map (·.1)->g∈(putF f v fs).map (·.1)
 |[]=>⟨by simp[putF],λg h=>by simp at h⟩
 |(k,x)::r=>by
  obtain⟨i1,i2⟩:=fS f v r
  rw[show putF f v ((k,x)::r)=(if k=f then(k,v)::r else(k,x)::putF f v r) from rfl]
  by_cases hk:k=f
  ·rw[if_pos hk]
   subst hk
   exact⟨by simp,λg h=>by simpa using h⟩
  ·rw[if_neg hk]
   refine⟨?_,λg h=>?_⟩
   ·rw[yc]
    exact xV _ i1
   ·rw[yc] at h ⊢
    rcases xP.mp h with e|e
    ·exact xP.mpr (.inl e)
    ·exact xV _ (i2 g e)
theorem jU(f:Str)(v:V):∀ fs:List (Str × V),(putF f v fs).length<=fs.length+1
 |[]=>by simp[putF]
 |(k,x)::r=>by
  have ih:=jU f v r
  rw[show putF f v ((k,x)::r)=(if k=f then(k,v)::r else(k,x)::putF f v r) from rfl]
  by_cases hk:k=f
  ·rw[if_pos hk,xN,xN];omega
  ·rw[if_neg hk,xN,xN];omega
theorem RelO.some_of{v:V}{o:Option Value}(r:RelO (some v) o):∃ u,o=some u/\RelV v u:=by
 cases o with
 |none=>exact(show False from r).elim
 |some u=>exact⟨u,rfl,r⟩
theorem RelO.none_of{o:Option Value}(r:RelO none o):o=none:=by
 cases o with
 |none=>rfl
 |some u=>exact(show False from r).elim
theorem jV{v:V}{u:Value}(r:RelV v u):Aa u=true:=by
 cases v with
 |non=>cases(show u=Value.none from r);rfl
 |bl b=>cases(show u=Value.bool b from r);rfl
 |int i=>obtain⟨t,e⟩:=(show ∃ t,u=Value.int i t from r);cases e;rfl
 |str x=>obtain⟨t,e⟩:=(show ∃ t,u=Value.str x t from r);cases e;rfl
 |byt b=>obtain⟨t,e⟩:=(show ∃ t,u=Value.bytes b t from r);cases e;rfl
 |flt b=>obtain⟨t,e⟩:=(show ∃ t,u=Value.float b t from r);cases e;rfl
 |ref a=>cases(show u=Value.ref a from r);rfl
 |ty n=>cases(show u=Value.type n from r);rfl
section
variable {P:Program}{w:World}{H H':Hp}{h h':Heap}{a C dx:Addr}{fs fs':List (Str × V)}
theorem dM(hok:HOk P w H h)(e:H a=some (.ins C dx fs)):∃ mA,ObjM h a dx C mA/\(∀ f,RelO (fs.lookup f) (mA f))/\PySem.Within mA (fs.map (·.1))/\fs.length<=1000/\H dx=some (.own a):=by
 obtain⟨d,z,ne,ob,mA,n,r,q⟩:=(show ObjOk P w H h a (.ins C dx fs) from hok a _ e)
 exact⟨mA,⟨ob,n,ne⟩,r,q,z,d⟩
end
structure Cls(K:xK)(C:Addr):Prop where
 pg:plainGet K C Str.empty=true
 hd:hasDictIn K C=true
 po:plainOver K C=true
 sa:xO K (.ref C) "__setattr__"=some (some (.builtin "object.__setattr__"))
theorem Cls.get{K:xK}{C:Addr}(c:Cls K C)(f:Str):plainGet K C f=true:=c.pg
def NoAttr(K:xK)(C:Addr)(f:Str):Prop:=xO K (.ref C) f=some none
theorem NoAttr.taker{K:xK}{C:Addr}{f:Str}(n:NoAttr K C f):takerIn K C f=some none:=by
 unfold takerIn
 rw[show xO K (.ref C) f=some none from n]
 rfl
structure Con(K:xK)(C:Addr)(f:Str)(v:V)(u:Value):Prop where
 at_:xO K (.ref C) f=some (some u)
 rel:RelV v u
 get:specialIn K u "__get__"=some none
 cp:PySem.W.copiedNames.contains f=false
structure Meth(K:xK)(C:Addr)(m:Str)(f:Addr):Prop where
 at_:xO K (.ref C) m=some (some (.ref f))
 fn:isFn K (.ref f)=true
 kp:keepIn K (.ref f)=true
section
variable {X:Cx}{pins:List (Addr × Obj)}{σ:St}{H:Hp}{s:Shared}{a C dx:Addr}{fs:List (Str × V)}{f:Str}{v:V}{A:Around}{E:Value->Shared->Prop}
theorem pj{b:Bool}{Q:Value->Shared->Prop}(I:Inv X pins σ H s)(e:H a=some (.ins C dx fs))(c:Cls X.K C)(n:NoAttr X.K C f)(l:fs.lookup f=some v)
  (h:∀ u s',Inv X pins σ H s'->RelV v u->Q u s'):wpAny (model X.prog X.w) A (getAttr (.ref a) f b) Q E s:=by
 obtain⟨mA,O,r,_,_,_⟩:=dM I.hok e
 obtain⟨u,hu,ru⟩:=RelO.some_of (v:=v) (o:=mA f) (by rw[<- l];exact r f)
 exact pe I.kIn O (c.get f) c.hd n hu (jV ru) (h u _ (I.tok _) ru)
theorem jW{m:Str}{g:Addr}{pl:Sem Bool}{Q:Value × List Value->Shared->Prop}(I:Inv X pins σ H s)(e:H a=some (.ins C dx fs))(c:Cls X.K C)(k:Meth X.K C m g)(l:fs.lookup m=none)
  (h:Q (.ref g,[.ref a]) s):wpAny (model X.prog X.w) A (getMethod (.ref a) m pl) Q E s:=by
 obtain⟨mA,O,r,_,_,_⟩:=dM I.hok e
 have hn:mA m=none:=RelO.none_of (by rw[<- l];exact r m)
 exact pf I.kIn O (c.get m) k.at_ k.fn hn h
theorem pk{y:V}{u:Value}{Q:Unit->Shared->Prop}(I:Inv X pins σ H s)(e:H a=some (.ins C dx fs))(c:Cls X.K C)(n:NoAttr X.K C f)(hl:fs.length<1000)(ry:RelV y u)
  (h:∀ s',Inv X pins σ (upd H a (.ins C dx (putF f y fs))) s'->Q () s'):wpAny (model X.prog X.w) A (setAttr (.ref a) f u) Q E s:=by
 obtain⟨mA,O,r,wi,_,ho⟩:=dM I.hok e
 have hz:(fs.map (·.1)).length<=sizeLine:=by rw[yg,sizeLine_eq];omega
 refine ph I.kIn O c.sa c.po n.taker c.hd wi hz λh' O' sb=>h _ ?_
 have hd:∃ o,h'.get? dx=some o:=let ⟨o,_,_,e',_⟩:=O'.ns;⟨o,e'⟩
 refine I.write (x:=a) (e:=dx) (by rw[e];exact True.intro) (.inr ho) (λb q hb z=>(sb.2 b hb).trans z) hd ?_
 refine⟨by rw[ah O.ne];exact ho,?_,O.ne,O'.obj,_,O'.ns,λg=>?_,λg hg=>?_⟩
 ·have:=jU f y fs;omega
 ·show RelO ((putF f y fs).lookup g) (if g=f then some u else mA g)
  rw[jT]
  by_cases q:g=f
  ·rw[if_pos q,if_pos q];exact ry
  ·rw[if_neg q,if_neg q];exact r g
 ·by_cases q:g=f
  ·rw[q];exact(fS f y fs).1
  ·refine(fS f y fs).2 g (wi g λz=>hg ?_)
   show(if g=f then some u else mA g)=none
   rw[if_neg q];exact z
theorem Inv.made(I:Inv X pins σ H s):Inv X pins σ (upd (upd H s.heap.objs.size (.own (s.heap.objs.size+1))) (s.heap.objs.size+1) (.ins C s.heap.objs.size []))
  {s with heap:=(s.heap.push emptyDict).push (instObj C s.heap.objs.size)}:=by
 have e1:(s.heap.push emptyDict).get? s.heap.objs.size=some emptyDict:=Heap.get?_push_size s.heap rfl
 have e2:((s.heap.push emptyDict).push (instObj C s.heap.objs.size)).get? (s.heap.objs.size+1)=some (instObj C s.heap.objs.size):=by
  have:=Heap.get?_push_size (s.heap.push emptyDict) (o:=instObj C s.heap.objs.size) rfl
  rwa [Heap.size_push] at this
 have e3:(s.heap.push emptyDict).Ns s.heap.objs.size (λ_=>none):=⟨emptyDict,#[],_,e1,rfl,(λe he=>absurd he (by simp)),λ_=>rfl⟩
 have I1:=I.laid (a:=s.heap.objs.size) (o:= .own (s.heap.objs.size+1)) (h':=s.heap.push emptyDict) (t':=s.toks) (λb u q=>Heap.get?_push_of_some _ q) (xM _) ⟨_,e1⟩
 refine I1.laid (a:=s.heap.objs.size+1) (o:= .ins C s.heap.objs.size []) (t':=s.toks) (λb u q=>Heap.get?_push_of_some _ q) (zi (Heap.size_push _ _)) ?_
 have ne:s.heap.objs.size≠s.heap.objs.size+1:=xQ (zA _)
 refine⟨by rw[ah ne,av],yj _,ne,e2,λ_=>none,(Heap.Ns1.of_empty e3).at λo q=>Heap.get?_push_of_some _ q,λ_=>True.intro,λy hy=>absurd rfl hy⟩
theorem attr_of{prog:Program}{w:World}{env:Env}{e:Expr}{f:Str}{pos:Pos}{s:Shared}{Q:Value->Shared->Prop}(hb:attributeBase e f env (eval e env)=eval e env)
  (h:wpAny (model prog w) A (eval e env) (λo s₁=>wpAny (model prog w) A (getAttr o f true) Q E s₁) E s):wpAny (model prog w) A (eval (.Attribute e f pos) env) Q E s:=
 Attribute_any_ h (by rw[arm_eval_Attribute,hb])
end
def tFld(K:xK)(ta:TE)(f:Str):TE:=λσ H Q=>ta σ H λx H1=>∃ a C dx fs v,x= .ref a/\H1 a=some (.ins C dx fs)/\Cls K C/\NoAttr K C f/\fs.lookup f=some v/\Q v H1
def sFld(K:xK)(ta tv:TE)(f:Str):TS:=λD σ H=>tv σ H λy H1=>ta σ H1 λx H2=>∃ a C dx fs,x= .ref a/\H2 a=some (.ins C dx fs)/\Cls K C/\NoAttr K C f/\fs.length<1000/\
 D.nx σ (upd H2 a (.ins C dx (putF f y fs)))
section
variable {X:Cx}{o e value:Expr}{f:Str}{pos pos' tpos:Pos}{ta tv:TE}
theorem pp(he:PE X e ta)(hb:attributeBase e f X.env (eval e X.env)=eval e X.env):PE X (.Attribute e f pos) (tFld X.K ta f):=by
 intro pins s σ H Q I h
 refine attr_of hb (thn (he pins s σ H _ I h) λu s1 ⟨x,H1,I1,rx,a,C,dx,fs,v,ex,ea,c,n,l,q⟩=>?_)
 subst ex
 obtain rfl:u=Value.ref a:=rx
 exact pj I1 ea c n l λu' s2 I2 ru=>⟨v,H1,I2,ru,q⟩
theorem jX(ha:PE X o ta)(hv:PE X value tv)(hs:swapsWith value (some (.Attribute o f pos')) pos.line X.env=pure false):PS X (.Assign [.Attribute o f pos'] value pos) (sFld X.K ta tv f):=by
 intro pins s σ H D I h
 refine plainObj_wpAny_Assign_Attribute (thn (hv pins s σ H _ I h) λu s1 ⟨y,H1,I1,ry,q⟩=>thn (ha pins s1 σ H1 _ I1 q) λov s2 ⟨x,H2,I2,rx,a,C,dx,fs,ex,ea,c,n,l,q2⟩=>?_) hs
 subst ex
 obtain rfl:ov=Value.ref a:=rx
 exact pk I2 ea c n l ry λs3 I3=>⟨σ,_,I3,q2⟩
end
section
variable {X:Cx}{pins:List (Addr × Obj)}{σ:St}{H:Hp}{s:Shared}{A:Around}{E:Value->Shared->Prop}{Q:Value->Shared->Prop}{c:Value}{b:Bool}
inductive TyOf(K:xK)(H:Hp):V->Value->Prop where
 |non:TyOf K H .non (.type "NoneType")
 |bl (x:Bool):TyOf K H (.bl x) (.type "bool")
 |int (i:Int):TyOf K H (.int i) (.type "int")
 |str (x:Str):TyOf K H (.str x) (.type "str")
 |flt (x:UInt64):TyOf K H (.flt x) (.type "float")
 |lst {a:Addr} {xs:List V} (e:H a=some (.lst xs)):TyOf K H (.ref a) (.type "list")
 |frz {a:Addr} {o:Obj} {xs:List V} (e:H a=some (.frz o (.lst xs))):TyOf K H (.ref a) (.type "list")
 |tup {a:Addr} {xs:List V} (e:H a=some (.tup xs)):TyOf K H (.ref a) (.type "tuple")
 |dK {a:Addr} {kvs:List (Key × V)} (e:H a=some (.dK kvs)):TyOf K H (.ref a) (.type "dict")
 |dT {a:Addr} {kvs:List (List Key × V)} (e:H a=some (.dT kvs)):TyOf K H (.ref a) (.type "dict")
 |ins {a C dx:Addr} {fs:List (Str × V)} (e:H a=some (.ins C dx fs)) (cl:Cls K C) (ha:xO K (.ref C) "__class__"=some (some (.builtin "object.__class__")))
   (hn:specialIn K (.builtin "object.__class__") "__get__"=some (some (.builtin "getset_descriptor.__get__"))) (htk:takesIn K (.builtin "object.__class__")=some true)
   (hm:yr K C (.type "object")=some true):TyOf K H (.ref a) (.ref C)
theorem pq{x:V}{u t:Value}(I:Inv X pins σ H s)(rx:RelV x u)(ty:TyOf X.K H x t)(e:kitOne X.K t c=some b)(h:∀ tk,Q (.bool b) {s with toks:=tk}):
  wpAny (model X.prog X.w) A (call (.builtin "isinstance") [u,c]) Q E s:=by
 cases ty with
 |non=>cases(show u=Value.none from rx);exact kia_one kitx_none I.kIn True.intro e (λz=>nomatch z) h
 |bl y=>cases(show u=Value.bool y from rx);exact kia_one kitx_bool I.kIn True.intro e (λz=>nomatch z) h
 |int i=>obtain⟨t,q⟩:=(show ∃ t,u=Value.int i t from rx);cases q;exact kia_one kitx_int I.kIn True.intro e (λz=>nomatch z) h
 |str y=>obtain⟨t,q⟩:=(show ∃ t,u=Value.str y t from rx);cases q;exact kia_one kitx_str I.kIn True.intro e (λz=>nomatch z) h
 |flt y=>obtain⟨t,q⟩:=(show ∃ t,u=Value.float y t from rx);cases q;exact kia_one kitx_float I.kIn True.intro e (λz=>nomatch z) h
 |@lst a xs ea=>
  cases(show u=Value.ref a from rx)
  obtain⟨_,_,n,_,h1⟩:=(show ObjOk X.prog X.w H s.heap a (.lst xs) from I.hok a _ ea)
  exact kia_one kitx_list I.kIn ⟨_,h1,rfl⟩ e (λz=>nomatch z) h
 |@frz a ob xs ea=>
  cases(show u=Value.ref a from rx)
  obtain⟨_,_,_,n,_,h1⟩:=(show ObjOk X.prog X.w H s.heap a (.frz ob (.lst xs)) from I.hok a _ ea)
  exact kia_one kitx_list I.kIn ⟨_,h1,rfl⟩ e (λz=>nomatch z) h
 |@tup a xs ea=>
  cases(show u=Value.ref a from rx)
  obtain⟨_,_,_,p⟩:=(show ObjOk X.prog X.w H s.heap a (.tup xs) from I.hok a _ ea)
  obtain⟨o,h1,h2,_⟩:=p
  exact kia_one kitx_tuple I.kIn ⟨o,h1,h2⟩ e (λz=>nomatch z) h
 |@dK a kvs ea=>
  cases(show u=Value.ref a from rx)
  obtain⟨_,_,vs,_,p⟩:=(show ObjOk X.prog X.w H s.heap a (.dK kvs) from I.hok a _ ea)
  obtain⟨o,es,ep,h1,h2,_⟩:=p
  exact kia_one kitx_dict I.kIn ⟨o,h1,h2.1⟩ e (λz=>nomatch z) h
 |@dT a kvs ea=>
  cases(show u=Value.ref a from rx)
  obtain⟨_,_,xs,_,o,es,ep,h1,h2,_⟩:=(show ObjOk X.prog X.w H s.heap a (.dT kvs) from I.hok a _ ea)
  exact kia_one kitx_dict I.kIn ⟨o,h1,h2.1⟩ e (λz=>nomatch z) h
 |@ins a C dx fs ea cl ha hn htk hm=>
  cases(show u=Value.ref a from rx)
  obtain⟨mA,O,_⟩:=dM I.hok ea
  obtain⟨od,J,_⟩:=O.look
  exact kia_one (kitx_own (cl.get _) cl.hd ha hn htk hm) I.kIn J e (λz=>nomatch z) h
end
end L2
namespace L2
open PySem PySem.Spec PyProof.Rows
structure Room(k:Nat)(A:Around):Prop where
 hd:A.handled=none
 dp:A.depth+3*k+5<recursionLimit
 un:A.units+16*k+200<cLine
theorem Room.mono{j k:Nat}{A:Around}(r:Room k A)(h:j<=k):Room j A:=⟨r.hd,by have:=r.dp;omega,by have:=r.un;omega⟩
theorem Room.deeper{k:Nat}{A:Around}(r:Room (k+1) A)(env:Env):Room k (A.deeper env):=
 ⟨r.hd,by have:=r.dp;show A.depth+1+3*k+5<_;omega,by have:=r.un;show A.units+3+16*k+200<_;omega⟩
theorem Room.in1{k:Nat}{A:Around}(r:Room (k+1) A):Room k A.in1:=
 ⟨r.hd,by have:=r.dp;show A.depth+3*k+5<_;omega,by have:=r.un;show A.units+1+16*k+200<_;omega⟩
theorem pr{A:Around}{C:Addr}{us:List Value}{kw:List (Str × Value)}:(A.under (.builtin "type.__call__" ⟨.ref C::us,kw⟩)).depth=A.depth+1:=by
 first|rfl|simp[Around.under,Code.weight,Code.isCreation,Code.isGuard,Code.isCaller,Code.frames,Code.isFrame,guardIds]
theorem pw{A:Around}{C:Addr}{us:List Value}{kw:List (Str × Value)}:(A.under (.builtin "type.__call__" ⟨.ref C::us,kw⟩)).units=A.units+1:=by
 first|rfl|simp[Around.under,Code.cUnits,Code.frames,Code.isFrame]
theorem Room.make{k:Nat}{A:Around}(r:Room (k+1) A)(C:Addr)(us:List Value)(kw:List (Str × Value)):Room k (A.under (.builtin "type.__call__" ⟨.ref C::us,kw⟩)):=
 ⟨r.hd,by have:=r.dp;rw[pr];omega,by have:=r.un;rw[pw];omega⟩
theorem Room.depth{k:Nat}{A:Around}(r:Room k A):A.depth<recursionLimit:=by have:=r.dp;omega
theorem Room.units{k:Nat}{A:Around}(r:Room k A):A.units+64<cLine:=by have:=r.un;omega
def tNil:TA:=λ_ H Q=>Q [] H
def jY(ta:TE)(tr:TA):TA:=λσ H Q=>ta σ H λx H1=>tr σ H1 λxs H2=>Q (x::xs) H2
section
variable {X:Cx}{e:Expr}{es:List Expr}{te:TE}{t:TA}{pos:Pos}
theorem pa_nil:PA X [] tNil:=λ_ _ _ _ H Q I h=>Calls.spliced_nil ⟨[],H,I,.nil,h⟩
theorem bg(ha:PE X e te)(hr:PA X es t)(hs:zSE X e es:=by rfl):PA X (e::es) (jY te t):=by
 intro pos pins s σ H Q I h
 rw[hs]
 show wpAny _ _ (spliced ((false,eval e X.env)::backTo pos (starEach es X.env))) _ _ s
 refine Calls.spliced_cons (thn (ha pins s σ H _ I h) λu s1 ⟨x,H1,I1,r1,q1⟩=>?_)
 exact thn (hr pos pins s1 σ H1 _ I1 q1) λus s2 ⟨xs,H2,I2,r2,q2⟩=>⟨x::xs,H2,I2,.cons r1 r2,q2⟩
def tTup(t:TA):TE:=λσ H Q=>t σ H λxs H1=>xs.length<=sizeLine/\∀ p,H1 p=none->Q (.ref p) (upd H1 p (.tup xs))
def tLst(t:TA):TE:=λσ H Q=>t σ H λxs H1=>xs.length<=sizeLine/\∀ p,H1 p=none->Q (.ref p) (upd H1 p (.lst xs))
theorem jZ{x1}(h:PA X es t):PE X (.Tuple es x1 pos) (tTup t):=by
 intro pins s σ H Q I hq
 refine wpAny_Tuple_spliced (thn (h pos pins s σ H _ I hq) λus s1 ⟨xs,H1,I1,r,z,q⟩=>⟨by rw[<- r.length];exact z,?_⟩)
 have hf:H1 s1.heap.objs.size=none:=I1.hok.fresh (xM _)
 refine⟨.ref s1.heap.objs.size,upd H1 s1.heap.objs.size (.tup xs),I1.laid (t':=s1.toks) (λb u e=>Heap.get?_push_of_some _ e) (xM _) ?_,rfl,q _ hf⟩
 exact⟨z,us,r,⟨_,Heap.get?_push_size _ rfl,rfl,_,rfl⟩⟩
theorem kd(h:PA X es t):PE X (.List es pos) (tLst t):=by
 intro pins s σ H Q I hq
 refine wpAny_List_spliced (thn (h pos pins s σ H _ I hq) λus s1 ⟨xs,H1,I1,r,z,q⟩=>⟨by rw[<- r.length];exact z,?_⟩)
 have hf:H1 s1.heap.objs.size=none:=I1.hok.fresh (xM _)
 refine⟨.ref s1.heap.objs.size,upd H1 s1.heap.objs.size (.lst xs),I1.laid (t':=s1.toks) (λb u e=>Heap.get?_push_of_some _ e) (xM _) ?_,rfl,q _ hf⟩
 exact⟨z,us,0,r,Heap.get?_push_size _ rfl⟩
end
abbrev Sp:=List V->Hp->VK->XK->Prop
abbrev CXT:=List Env->Hp->Shared->XK->Value->Shared->Prop
structure Env0(P:Program)(w:World)(K:xK)(mg:Str->Option Value)(base:Heap)(A:Around)(outer:List Env)(s:Shared)(H:Hp):Prop where
 frames:A.frames=some outer
 mod:Mod K mg base
 bs:∀ b o,base.get? b=some o->s.heap.get? b=some o/\H b=none
 bsz:base.objs.size<=s.heap.objs.size
 funs:s.heap.FunFrames base outer
 frf:∀ b∈frs outer,H b=none
 hok:HOk P w H s.heap
 bare:AllBare s.gens
def CE(outer:List Env)(P:Program)(w:World)(H:Hp)(s:Shared)(Q:VK)(u:Value)(s':Shared):Prop:=
 ∃ v H',s'.os=s.os/\AllBare s'.gens/\Un (frs outer) [] H H' s.heap s'.heap/\HOk P w H' s'.heap/\RelV v u/\Q v H'
def CR(CX:CXT)(outer:List Env)(P:Program)(w:World)(H:Hp)(s:Shared)(Q:VK)(E:XK)(r:Result)(s':Shared):Prop:=
 match r with
 | .ok (.ret u)=>CE outer P w H s Q u s'
 | .ok _=>False
 | .error e=>CX outer H s E e s'
structure FnOk(P:Program)(w:World)(K:xK)(mg:Str->Option Value)(base:Heap)(CX:CXT)(k:Nat)(f:Addr)(fd:FuncData)(ps:List Str)(sp:Sp):Prop where
 len:∀ vs H Q E,sp vs H Q E->vs.length=ps.length
 run:∀ (A:Around) (outer:List Env) (s:Shared) (H:Hp) (args:Args) (us:List Value) (vs:List V) (Q:VK) (E:XK),Room k A->Env0 P w K mg base A outer s H->BindsTo s fd args (ps.zip us)->Vals vs us->sp vs H Q E->
  codeAny (model P w) A (.call (.ref f) args) (CR CX outer P w H s Q E) s
theorem FnOk.mono{P:Program}{w:World}{K:xK}{mg:Str->Option Value}{base:Heap}{CX:CXT}{j k:Nat}{f:Addr}{fd:FuncData}{ps:List Str}{sp:Sp}(F:FnOk P w K mg base CX j f fd ps sp)(h:j<=k):
  FnOk P w K mg base CX k f fd ps sp:=⟨F.len,λA outer s H args us vs Q E hr=>F.run A outer s H args us vs Q E (hr.mono h)⟩
theorem FnOk.imp{P:Program}{w:World}{K:xK}{mg:Str->Option Value}{base:Heap}{CX:CXT}{k:Nat}{f:Addr}{fd:FuncData}{ps:List Str}{sp sp':Sp}(F:FnOk P w K mg base CX k f fd ps sp)
  (h:∀ vs H Q E,sp' vs H Q E->sp vs H Q E):FnOk P w K mg base CX k f fd ps sp':=
 ⟨λvs H Q E q=>F.len vs H Q E (h _ _ _ _ q),λA outer s H args us vs Q E hr he hb hv hs=>F.run A outer s H args us vs Q E hr he hb hv (h _ _ _ _ hs)⟩
theorem Env0.make{P:Program}{w:World}{K:xK}{mg:Str->Option Value}{base:Heap}{A:Around}{outer:List Env}{s:Shared}{H:Hp}(e:Env0 P w K mg base A outer s H)(C:Addr)(us:List Value)(kw:List (Str × Value)):
  Env0 P w K mg base (A.under (.builtin "type.__call__" ⟨.ref C::us,kw⟩)) outer s H:=⟨by first|exact e.frames|(simpa[Around.under,Code.envs,Code.isFrame,pushEnvs] using e.frames),e.mod,e.bs,e.bsz,e.funs,e.frf,e.hok,e.bare⟩
theorem Env0.in1{P:Program}{w:World}{K:xK}{mg:Str->Option Value}{base:Heap}{A:Around}{outer:List Env}{s:Shared}{H:Hp}(e:Env0 P w K mg base A outer s H):
  Env0 P w K mg base A.in1 outer s H:=⟨e.frames,e.mod,e.bs,e.bsz,e.funs,e.frf,e.hok,e.bare⟩
section
variable {X:Cx}{pins:List (Addr × Obj)}{σ:St}{H:Hp}{s s':Shared}
theorem Inv.env0(I:Inv X pins σ H s):Env0 X.prog X.w X.K X.mg X.base X.A X.stack s H:=
 ⟨I.ok.frames,I.ok.mod,I.bs,xU I.ok.bsz I.sz,I.stack,I.stkFree,I.hok,I.bare⟩
theorem Inv.after{Q:VK}{u:Value}(I:Inv X pins σ H s)(h:CE X.stack X.prog X.w H s Q u s'):EP X pins σ Q u s':=by
 obtain⟨v,H',os,bare,un,hok,r,q⟩:=h
 obtain⟨hh,g,d,t,os'⟩:=s'
 obtain rfl:os'=s.os:=os
 exact⟨v,H',I.call (h':=hh) (g':=g) (d':=d) (t':=t) (ch:=[]) un hok bare (λb z=>absurd z (by simp)),r,q⟩
end
def ke(sp:Sp)(dvs:List V)(E:XK)(t:TA):TE:=λσ H Q=>t σ H λvs H1=>sp (vs++dvs) H1 Q E
def pz(C:Addr)(sp:Sp)(dvs:List V)(E:XK)(t:TA):TE:=λσ H Q=>t σ H λvs H1=>∀ x dx,H1 x=none->H1 dx=none->dx≠x->
 sp (.ref x::(vs++dvs)) (upd (upd H1 dx (.own x)) x (.ins C dx [])) (λv H2=>v= .non/\Q (.ref x) H2) E
def Binds(K:xK)(fd:FuncData)(ps:List Str)(ds:List Value):Prop:=
 ∀ (s:Shared) (us:List Value),K.In s.heap->(us++ds).length=ps.length->BindsTo s fd ⟨us,[]⟩ (ps.zip (us++ds))
theorem Binds.all{K:xK}{fd:FuncData}{ps:List Str}(h:∀ us:List Value,us.length=ps.length->bindArgs fd ⟨us,[]⟩=pure (ps.zip us)):Binds K fd ps []:=λs us _ hl=>by
 rw[yf] at hl ⊢
 exact .of_eq (h us hl)
def db(CX:CXT)(X:Cx)(E:XK):Prop:=∀ (pins:List (Addr × Obj)) (σ:St) (H:Hp) (s:Shared) (e:Value) (s':Shared),Inv X pins σ H s->CX X.stack H s E e s'->X.xe e s'
section
variable {X:Cx}{CX:CXT}{k:Nat}{f C:Addr}{fd:FuncData}{ps:List Str}{sp:Sp}{dvs:List V}{ds:List Value}{E:XK}{x m:Str}{p pos apos:Pos}{e o:Expr}{es:List Expr}{ta:TE}{t:TA}
theorem pA{pins:List (Addr × Obj)}{σ:St}{H:Hp}{s:Shared}{Q:VK}{us:List Value}{vs:List V}(F:FnOk X.prog X.w X.K X.mg X.base CX k f fd ps sp)(hr:Room k X.A)(hb:Binds X.K fd ps ds)(hd:Vals dvs ds)(hx:db CX X E)
  (I:Inv X pins σ H s) (r:Vals vs us) (h:sp (vs++dvs) H Q E):wpAny (model X.prog X.w) X.A (call (.ref f) us) (EP X pins σ Q) X.xe s:=by
 have r2:Vals (vs++dvs) (us++ds):=r.append hd
 have hl:(us++ds).length=ps.length:=by rw[<- r2.length];exact F.len _ _ _ _ h
 refine wpAny_call (codeAny_mono (F.run X.A X.stack s H ⟨us,[]⟩ (us++ds) (vs++dvs) Q E hr I.env0 (hb s us I.kIn hl) r2 h) λr s' hq=>?_)
 cases r with
 |error e=>exact hx pins σ H s e s' I hq
 |ok fl=>
  cases fl with
  |ret u=>exact I.after hq
  |next=>exact False.elim hq
  |brk=>exact False.elim hq
  |cont=>exact False.elim hq
theorem pB(F:FnOk X.prog X.w X.K X.mg X.base CX k f fd ps sp)(hr:Room k X.A)(hg:Gl X x)(hm:X.mg x=some (.ref f))(hk:keepIn X.K (.ref f)=true)(hb:Binds X.K fd ps ds)(hd:Vals dvs ds)(hx:db CX X E)
  (ha:PA X (e::es) t) (hdb:zND x:=by decide) (he:zSE X e es:=by rfl) (hpl:zPL X pos es:=by rfl):
  PE X (.Call (.Name x p) (e::es) [] pos) (ke sp dvs E t):=by
 intro pins s σ H Q I h
 refine wpAny_Call_Name_kw (bJ I hg hm ?_ hdb)
 refine callWith_K (h₀:=X.base) I.ok.mod.kin hk (thn (ha pos pins s σ H _ I h) λus s1 ⟨vs,H1,I1,r,q⟩=>⟨I1.kIn,?_⟩) he hpl
 exact pA F hr hb hd hx I1 r q
structure Mk(K:xK)(C f:Addr):Prop where
 makes:makesIn K C=true
 init:xO K (.ref C) "__init__"=some (some (.ref f))
 fn:isFn K (.ref f)=true
 kp:keepIn K (.ref C)=true
theorem pC{pins:List (Addr × Obj)}{σ:St}{H:Hp}{s:Shared}{Q:VK}{us:List Value}{vs:List V}(M:Mk X.K C f)(F:FnOk X.prog X.w X.K X.mg X.base CX k f fd ps sp)(hr:Room (k+1) X.A)(hb:Binds X.K fd ps ds)(hd:Vals dvs ds)
  (hx:db CX X E) (I:Inv X pins σ H s) (r:Vals vs us)
  (h:∀ x dx,H x=none->H dx=none->dx≠x->sp (.ref x::(vs++dvs)) (upd (upd H dx (.own x)) x (.ins C dx [])) (λv H2=>v= .non/\Q (.ref x) H2) E):
  wpAny (model X.prog X.w) X.A (call (.ref C) us) (EP X pins σ Q) X.xe s:=by
 have hq:=h (s.heap.objs.size+1) s.heap.objs.size (I.hok.fresh (yF _)) (I.hok.fresh (xM _)) (xQ (zA _))
 have I2:=Inv.made (C:=C) I
 have r2:Vals (V.ref (s.heap.objs.size+1)::(vs++dvs)) (Value.ref (s.heap.objs.size+1)::(us++ds)):= .cons rfl (r.append hd)
 have hl:(Value.ref (s.heap.objs.size+1)::us++ds).length=ps.length:=by
  have e:=r2.length
  rw[F.len _ _ _ _ hq] at e
  exact e.symm
 refine wpAny_call (pi (f:=f) I.kIn M.makes M.init (beq_iff_eq.mp M.fn) (codeAny_mono (F.run _ X.stack _ _ ⟨Value.ref (s.heap.objs.size+1)::us,[]⟩ (Value.ref (s.heap.objs.size+1)::(us++ds)) _ _ E (hr.make C us [])
  (I2.env0.make C us []) (hb _ (Value.ref (s.heap.objs.size+1)::us) I2.kIn hl) r2 hq) λr s' hq'=>?_))
 cases r with
 |error e=>exact hx pins σ _ _ e s' I2 hq'
 |ok fl=>
  cases fl with
  |ret u=>
   obtain⟨v,H',I3,rv,ev,q3⟩:=I2.after hq'
   subst ev
   exact⟨rv,⟨V.ref (s.heap.objs.size+1),H',I3,rfl,q3⟩⟩
  |next=>exact False.elim hq'
  |brk=>exact False.elim hq'
  |cont=>exact False.elim hq'
theorem fT(M:Mk X.K C f)(F:FnOk X.prog X.w X.K X.mg X.base CX k f fd ps sp)(hr:Room (k+1) X.A)(hg:Gl X x)(hm:X.mg x=some (.ref C))(hb:Binds X.K fd ps ds)(hd:Vals dvs ds)(hx:db CX X E)
  (ha:PA X (e::es) t) (hdb:zND x:=by decide) (he:zSE X e es:=by rfl) (hpl:zPL X pos es:=by rfl):
  PE X (.Call (.Name x p) (e::es) [] pos) (pz C sp dvs E t):=by
 intro pins s σ H Q I h
 refine wpAny_Call_Name_kw (bJ I hg hm ?_ hdb)
 refine callWith_K (h₀:=X.base) I.ok.mod.kin M.kp (thn (ha pos pins s σ H _ I h) λus s1 ⟨vs,H1,I1,r,q⟩=>⟨I1.kIn,?_⟩) he hpl
 exact pC M F hr hb hd hx I1 r q
end
section
variable {X:Cx}{CX:CXT}{k:Nat}{f C:Addr}{fd:FuncData}{ps ks:List Str}{sp:Sp}{E:XK}{x m:Str}{p pos apos kpos:Pos}{e o:Expr}{es:List Expr}{kws:List Keyword}{te ta:TE}{t tk:TA}{nm:Option Str}
variable {g:List Value->List Value->List Value}{gV:List V->List V->List V}
end
structure FnScope(N P:List Str)(sc:Scope):Prop where
 kind:sc.kind= .function
 co:sc.isCoroutine=false
 gen:sc.isGenerator=false
 nd:N.Nodup
 pre:N.take P.length=P
 par:∀ x∈P,sc.names.lookup x=some .local\/sc.names.lookup x=some .cell
 nofree:∀ y∈sc.names,y.2≠.free
theorem kg{kindOf:Str->Option NameKind}{x:Str}:∀ {binds:List (Str × Value)} {m:Str->Option Value},(∀ v,(x,v) ∉ binds)->bindL kindOf binds m x=m x
 |[],_,_=>rfl
 |(n,v)::r,m,h=>by
  unfold bindL
  rw[kg λw hw=>h w (xV _ hw)]
  split
  ·have:x≠n:=by rintro rfl;exact h v xZ
   simp[this]
  ·rfl
theorem bindC_out{kindOf:Str->Option NameKind}{x:Str}:∀ {binds:List (Str × Value)} {m:Str->Option Value},(∀ v,(x,v) ∉ binds)->bindC kindOf binds m x=m x
 |[],_,_=>rfl
 |(n,v)::r,m,h=>by
  unfold bindC
  rw[bindC_out λw hw=>h w (xV _ hw)]
  split
  ·rfl
  ·have:x≠n:=by rintro rfl;exact h v xZ
   simp[this]
theorem bindL_get{kindOf:Str->Option NameKind}{x:Str}{v:Value}:∀ {P:List Str} {vs:List Value} {i:Nat} {m:Str->Option Value},P.Nodup->P[i]?=some x->vs[i]?=some v->kindOf x=some .local->
  bindL kindOf (P.zip vs) m x=some v
 |[],_,_,_,_,h,_,_=>by simp at h
 |_::_,[],_,_,_,_,h,_=>by simp at h
 |p::P,w::vs,0,m,nd,h1,h2,hk=>by
  simp at h1 h2;subst h1;subst h2
  show bindL kindOf ((p,w)::P.zip vs) m p=_
  unfold bindL
  rw[kg λv hv=>(yw.mp nd).1 (zB hv).1,if_pos hk]
  simp
 |p::P,w::vs,i+1,m,nd,h1,h2,hk=>by
  show bindL kindOf ((p,w)::P.zip vs) m x=_
  unfold bindL
  exact bindL_get (i:=i) (yw.mp nd).2 (by simpa using h1) (by simpa using h2) hk
theorem kh{kindOf:Str->Option NameKind}{x:Str}{v:Value}:∀ {P:List Str} {vs:List Value} {i:Nat} {m:Str->Option Value},P.Nodup->P[i]?=some x->vs[i]?=some v->kindOf x≠some .local->
  bindC kindOf (P.zip vs) m x=some v
 |[],_,_,_,_,h,_,_=>by simp at h
 |_::_,[],_,_,_,_,h,_=>by simp at h
 |p::P,w::vs,0,m,nd,h1,h2,hk=>by
  simp at h1 h2;subst h1;subst h2
  show bindC kindOf ((p,w)::P.zip vs) m p=_
  unfold bindC
  rw[bindC_out λv hv=>(yw.mp nd).1 (zB hv).1,if_neg hk]
  simp
 |p::P,w::vs,i+1,m,nd,h1,h2,hk=>by
  show bindC kindOf ((p,w)::P.zip vs) m x=_
  unfold bindC
  exact kh (i:=i) (yw.mp nd).2 (by simpa using h1) (by simpa using h2) hk
def start(N:List Str)(vs:List V):St:=vs.map some++yl (N.length - vs.length) none
def cxOf(CX:CXT)(P:Program)(w:World)(K:xK)(mg:Str->Option Value)(base:Heap)(N:List Str)(qual:Str)(scope:Scope)(f:Addr)(cd:Value)(A:Around)(outer:List Env)(s:Shared)(H:Hp)(E:XK):Cx where
 prog:=P
 w:=w
 K:=K
 mg:=mg
 base:=base
 A:=A.deeper (envOfC qual scope s.heap.objs.size f cd)
 N:=N
 s₀:=s
 H₀:=H
 env:=envOfC qual scope s.heap.objs.size f cd
 outer:=outer
 stack:=envOfC qual scope s.heap.objs.size f cd::outer
 ex:=[]
 calm:=true
 fn:=λ_=>true
 pn:=[]
 xe:=λe s'=>wpAny (model P w) (A.deeper (envOfC qual scope s.heap.objs.size f cd)) (leaving (envOfC qual scope s.heap.objs.size f cd) e) (λ_ s''=>CX outer H s E e s'') (λe' s''=>CX outer H s E e' s'') s'
theorem cell_has{sc:Scope}{n:Nat}{x:Str}(h:sc.names.lookup x=some .cell):∃ c,(cellsFrom n sc.names []).lookup x=some c:=by
 have q:=cellsFrom_some sc.names n [] (.inl h)
 exact Option.isSome_iff_exists.mp q
theorem pD{CX:CXT}{P:Program}{w:World}{K:xK}{mg:Str->Option Value}{base:Heap}{N ps:List Str}{qual:Str}{scope:Scope}{f:Addr}{cd:Value}{A:Around}{outer:List Env}{s s1:Shared}{H:Hp}{E:XK}{us:List Value}{vs:List V}
  (S:FnScope N ps scope) (hd:A.handled=none) (e0:Env0 P w K mg base A outer s H) (hl:vs.length=ps.length) (r:Vals vs us)
  (x:InCallC s s.heap.objs.size (bindL (envOfC qual scope s.heap.objs.size f cd).kindOf (ps.zip us) λ_=>none) (cellsFrom (s.heap.objs.size+1) scope.names []) (bindC (envOfC qual scope s.heap.objs.size f cd).kindOf (ps.zip us) λ_=>none) s1):
  Inv (cxOf CX P w K mg base N qual scope f cd A outer s H E) [] (start N vs) H s1:=by
 have hpl:ps.length<=N.length:=by have:=congrArg yG S.pre;rw[yT] at this;omega
 obtain⟨h1,tk,rfl,hk⟩:=x.done
 have noA:∀ b:Addr,b ∉ (cxOf CX P w K mg base N qual scope f cd A outer s H E).ex:=λb z=>absurd (show b∈([]:List Addr) from z) (by simp)
 refine⟨⟨e0.mod,S.kind,rfl,rfl,xM _,λy z c h1 h2=>?_,λy hy=>?_,λy c _ h=>?_,λ_=>hd,Around.frames_deeper e0.frames,.inr ⟨rfl,rfl⟩,λb z=>absurd z (noA b),e0.bs,e0.bsz,λb _ _=>noA b,λb z=>absurd z (noA b),e0.funs,e0.frf⟩,
  rfl,e0.bare,Un.kept hk,⟨_,x.toInCall.ns,λi y v h1 h2 h3=>?_⟩,λy c h=>⟨_,x.cell y c h⟩,e0.hok.fresh (xM _),λy c h=>?_,λp hp=>absurd (show p∈([]:List (Addr × Obj)) from hp) (by simp),e0.hok.kept hk,?_⟩
 ·exact name_of_addr x.apart (PySem.mem_of_lookup h1) (PySem.mem_of_lookup h2)
 ·have hy:scope.names.lookup y=some .cell\/scope.names.lookup y=some .free:=hy
  rcases hy with hy|hy
  ·exact cell_has hy
  ·exact absurd rfl (S.nofree _ (PySem.mem_of_lookup hy))
 ·exact zf (x.above y c (PySem.mem_of_lookup h))
 ·have hi:i<vs.length:=by
   unfold start at h2
   by_cases hi:i<vs.length
   ·exact hi
   ·rw[yM (by simpa using hi)] at h2
    rw[zC] at h2
    split at h2<;>cases h2
  have ha:vs[i]?=some v:=by
   unfold start at h2
   rw[yx (by simpa using hi),yn] at h2
   cases e:vs[i]? with
   |none=>rw[e] at h2;cases h2
   |some a=>rw[e] at h2;cases h2;rfl
  obtain⟨u,hu,rv⟩:=r.get ha
  have hp:ps[i]?=some y:=by
   rw[<- S.pre,List.getElem?_take_of_lt (by omega)];exact h1
  have ndP:ps.Nodup:=by rw[<- S.pre];exact S.nd.sublist (List.take_sublist _ _)
  refine⟨u,rv,?_⟩
  rcases S.par y (zD hp) with k|k
  ·exact .inl ⟨k,bindL_get ndP hp hu k⟩
  ·obtain⟨c,e⟩:=cell_has (n:=s.heap.objs.size+1) k
   refine .inr ⟨.inl k,c,e,?_⟩
   have q:=x.cell y c e
   rw[kh ndP hp hu (by show scope.names.lookup y≠_;rw[k];decide)] at q
   exact q
 ·exact e0.hok.fresh (zf (x.above y c (PySem.mem_of_lookup h)))
 ·unfold start
  show _=N.length
  rw[xT,yg,List.length_replicate]
  omega
theorem ki{CX:CXT}{P:Program}{w:World}{K:xK}{mg:Str->Option Value}{base:Heap}{k:Nat}{f:Addr}{name qual:Str}{params:Arguments}{body:List Stmt}{scope:Scope}{dV kV doc pm cdv ct oc:Value}{an od:Option Addr}
  {osl:Array (Option Value)} {N ps:List Str} {sp:Sp} (lk:K.lookup f=some ⟨oc,od,.func (fnOf name qual params body scope dV kV doc pm an cdv ct),osl⟩) (hcd:codeIn K cdv qual=true) (S:FnScope N ps scope)
  (len:∀ vs H Q E,sp vs H Q E->vs.length=ps.length)
  (hbody:∀ (A:Around) (outer:List Env) (s:Shared) (H:Hp) (vs:List V) (Q:VK) (E:XK),Room k (A.deeper (envOfC qual scope s.heap.objs.size f cdv))->sp vs H Q E->
   ∃ t,PSs (cxOf CX P w K mg base N qual scope f cdv A outer s H E) body t/\t {nx:=λ_ H'=>Q .non H',rt:=Q} (start N vs) H):
  FnOk P w K mg base CX (k+1) f (fnOf name qual params body scope dV kV doc pm an cdv ct) ps sp:=by
 refine⟨len,λA outer s H args us vs Q E hr e0 hb r hsp=>?_⟩
 have hl:=len _ _ _ _ hsp
 have KX:K.In s.heap:=e0.mod.kin.keeps λb o e=>(e0.bs b o e).1
 have lim:s.heap.NoLimit:=e0.mod.nolimit.keeps λb o e=>(e0.bs b o e).1
 have hkind:∀ y∈ps.zip us,scope.names.lookup y.1=some .local\/(scope.names.lookup y.1=some .cell/\((cellsFrom (s.heap.objs.size+1) scope.names []).lookup y.1).isSome=true):=λ⟨n,v⟩ hy=>by
  rcases S.par n (zB hy).1 with q|q
  ·exact .inl q
  ·exact .inr ⟨q,cellsFrom_some _ _ _ (.inl q)⟩
 refine codeAny_call_function hr.depth (KX _ _ lk) rfl S.co S.gen rfl (codeRec_of KX hcd) (hb _ _ _ _ ?_)
 refine wpAny_newFunctionEnv_cells S.kind hkind λenv he s1 x=>?_
 subst he
 refine⟨lim.keeps x.toInCall.keep,codeAny_func ?_⟩
 obtain⟨t,ht,hq⟩:=hbody A outer s H vs Q E (hr.deeper _) hsp
 have I:Inv (cxOf CX P w K mg base N qual scope f cdv A outer s H E) [] (start N vs) H s1:=pD S hr.hd e0 hl r x
 refine wpAny_mono (ht [] s1 (start N vs) H _ I hq) (λfl s' hs=>?_) λe s' hs=>hs
 have fin:∀ {σ':St} {H':Hp} {v:V} {u:Value},Inv (cxOf CX P w K mg base N qual scope f cdv A outer s H E) [] σ' H' s'->RelV v u->Q v H'->CE outer P w H s Q u s':=
  λ{σ' H' v u} J rv q=>⟨v,H',J.os,J.bare,J.base,J.hok,rv,q⟩
 cases fl with
 |ret u=>
  obtain⟨v,σ',H',J,rv,q⟩:=hs
  exact fin J rv q
 |next=>
  obtain⟨σ',H',J,q⟩:=hs
  exact fin (v:=V.non) (u:=Value.none) J rfl q
 |brk=>
  obtain⟨_,_,_,q⟩:=hs
  exact False.elim q
 |cont=>
  obtain⟨_,_,_,q⟩:=hs
  exact False.elim q
end L2
namespace L2
open PySem PySem.Spec PyProof.Rows
section
variable {X:Cx}{x:Str}{p pos:Pos}{e:Expr}{es:List Expr}{t:TA}{id T:String}{r:List V->Hp->VK->Prop}
def tCB(r:List V->Hp->VK->Prop)(t:TA):TE:=λσ H Q=>t σ H λvs H1=>r vs H1 Q
theorem dN(hc:bv X (.builtin id) r)(hg:Gl X x)(hm:X.mg x=none)(hv:bootBuiltins x=some (.builtin id))(ha:PA X (e::es) t)(hn:x≠"__name__":=by decide)(hdb:zND x:=by decide)
  (he:zSE X e es:=by rfl) (hpl:zPL X pos es:=by rfl):PE X (.Call (.Name x p) (e::es) [] pos) (tCB r t):=by
 intro pins s σ H Q I h
 refine wpAny_Call_Name_kw (cv I hg hm hv ?_ hn hdb)
 exact PyProof.Rows.callWith_builtin1 (thn (ha pos pins s σ H _ I h) λus s1 ⟨vs,H1,I1,r1,q1⟩=>hc pins s1 σ H1 vs us Q I1 r1 q1) he hpl
theorem kj(hc:bv X (.type T) r)(hg:Gl X x)(hm:X.mg x=none)(hv:bootBuiltins x=some (.type T))(ha:PA X (e::es) t)(hn:x≠"__name__":=by decide)(hdb:zND x:=by decide)
  (he:zSE X e es:=by rfl) (hpl:zPL X pos es:=by rfl):PE X (.Call (.Name x p) (e::es) [] pos) (tCB r t):=by
 intro pins s σ H Q I h
 refine wpAny_Call_Name_kw (cv I hg hm hv ?_ hn hdb)
 exact PyProof.Rows.callWith_type1 (thn (ha pos pins s σ H _ I h) λus s1 ⟨vs,H1,I1,r1,q1⟩=>hc pins s1 σ H1 vs us Q I1 r1 q1) he hpl
end
end L2
namespace HT
open PySem PyProof.Rows
section
open PySem.SeqAt
open PySem.AutoSeq1 (wpAny_loadPart')
open PySem.MeetsSeq PySem.MeetsSeq2 PySem.MeetsSeq3
end
section
variable {prog:Program}{w:World}{A:Around}{E:Value->Shared->Prop}{s:Shared}
theorem cat_tup{t b:Addr}{vs ws:List Value}{Q:Value->Shared->Prop}(ht:IsTup s.heap t vs.toArray)(hb:IsTup s.heap b ws.toArray)(hv:vs≠[])
  (h1:ws=[]->Q (.ref t) s) (h2:ws≠[]->Q (.ref s.heap.objs.size) {s with heap:=s.heap.push {cls:= .type "tuple",data:= .seq (vs++ws).toArray} })
  (hsz:vs.length+ws.length<=sizeLine):wpAny (model prog w) A (binaryOp .Add (.ref t) (.ref b)) Q E s:=by
 obtain⟨⟨cls,dd,data,sl⟩,ho,hc,n,hd⟩:=id ht
 obtain⟨⟨cls2,dd2,data2,sl2⟩,ho2,hc2,n2,hd2⟩:=id hb
 simp only at hc hd hc2 hd2
 subst hc hd hc2 hd2
 have e:vs.toArray++ws.toArray=(vs++ws).toArray:=by simp
 by_cases hw:ws=[]
 ·exact concat_meets ⟨_,ho,rfl⟩ ⟨_,ho2,rfl⟩ noFill_tuple_add seq_tuple_add PySem.F.slot_tuple_add PySem.F.entry_tuple_add (PySem.F.args_tuple_add_2 _ _)
   (tuple_addW1 t b vs.toArray ws.toArray n n2 dd dd2 sl sl2 (by simpa using hv) (by simp[hw])) ⟨ho,ho2,h1 hw⟩
 ·refine concat_meets ⟨_,ho,rfl⟩ ⟨_,ho2,rfl⟩ noFill_tuple_add seq_tuple_add PySem.F.slot_tuple_add PySem.F.entry_tuple_add (PySem.F.args_tuple_add_2 _ _)
   (tuple_addW2 t b vs.toArray ws.toArray n n2 dd dd2 sl sl2 (by simpa using hv) (by simpa using hw) (by rw[xX,xX];exact hsz)) ⟨ho,ho2,?_⟩
  rw[e]
  exact h2 hw
def sIx(n d:Nat):Option Int->Nat
 |none=>d
 |some v=>if v<0 then(v+(n:Int)).toNat else min v.toNat n
theorem sIx_none(n d:Nat):sIx n d none=d:=rfl
theorem sIx_nat(n d k:Nat):sIx n d (some (k:Int))=min k n:=by
 show(if(k:Int)<0 then((k:Int)+(n:Int)).toNat else min (k:Int).toNat n)=min k n
 rw[if_neg (by omega),zE]
theorem sIx_le(n d:Nat)(hd:d<=n)(o:Option Int):sIx n d o<=n:=by
 cases o with
 |none=>exact hd
 |some v=>
  show(if v<0 then(v+(n:Int)).toNat else min v.toNat n)<=n
  by_cases hv:v<0
  ·rw[if_pos hv];omega
  ·rw[if_neg hv];exact Nat.min_le_right _ _
theorem km(v:Int)(n d:Nat):(if v<0 then max (v+(n:Int)) 0 else min v (n:Int))=((sIx n d (some v):Nat):Int):=by
 show(if v<0 then max (v+(n:Int)) 0 else min v (n:Int))=(((if v<0 then(v+(n:Int)).toNat else min v.toNat n):Nat):Int)
 by_cases hv:v<0
 ·simp only[if_pos hv];omega
 ·simp only[if_neg hv];omega
theorem pE(lo hi:Option Int)(n:Nat):Builtin.Slice.sliceAdjust lo hi 1 (n:Int)=(((sIx n 0 lo:Nat):Int),((sIx n n hi:Nat):Int)):=by
 have h1:¬ ((1:Int)<0):=by omega
 unfold Builtin.Slice.sliceAdjust
 simp only[h1,if_false]
 refine Prod.ext ?_ ?_
 ·cases lo with
  |none=>rfl
  |some v=>exact km v n 0
 ·cases hi with
  |none=>rfl
  |some v=>exact km v n n
theorem pF(i j:Nat):Builtin.Slice.slicePlaces (i:Int) (j:Int) 1=j - i:=by
 unfold Builtin.Slice.slicePlaces
 have h1:(1:Int)>0:=by omega
 simp only[h1,if_true,Int.ediv_one]
 split<;>omega
theorem ko{v:Value}{o:Option Int}{Q:Option Int->Shared->Prop}(p:IsPart v o)(h:Q o s):wpAny (model prog w) A (Builtin.Slice.slicePartIndex v) Q E s:=by
 cases p with
 |none=>exact slicePart_none h
 |int i t=>exact slicePart_int h
theorem pG{sl:Addr}{vl vu:Value}{lo hi:Option Int}{n:Nat}{Q:Int × Int × Nat->Shared->Prop}(hs:s.heap.IsSliceOf sl vl vu .none)(pl:IsPart vl lo)(pu:IsPart vu hi)
  (h:Q (((sIx n 0 lo:Nat):Int),1,sIx n n hi - sIx n 0 lo) s):wpAny (model prog w) A (Builtin.Slice.sliceApplied (.ref sl) (pure (n:Int))) Q E s:=by
 obtain⟨os,hos,hcs,hds⟩:=id hs
 unfold Builtin.Slice.sliceApplied Builtin.Slice.sliceFields
 refine wpAny_bind (wpAny_bind (wpAny_field hos hds (x:=vl) rfl (wpAny_bind (wpAny_field hos hds (x:=vu) rfl (wpAny_bind (wpAny_field hos hds (x:= .none) rfl (wpAny_pure ?_)))))))
 refine wpAny_bind (slicePart_none ?_)
 show wpAny _ _ (if((1:Int)==0)=true then _ else _) _ _ s
 rw[if_neg (by decide)]
 refine wpAny_bind (ko pl (wpAny_bind (ko pu (wpAny_bind (wpAny_pure ?_)))))
 show wpAny _ _ (match Builtin.Slice.sliceAdjust lo hi 1 (n:Int) with|(lo,hi)=>pure (lo,(1:Int),Builtin.Slice.slicePlaces lo hi 1)) _ _ s
 rw[pE lo hi n]
 show wpAny _ _ (pure (((sIx n 0 lo:Nat):Int),(1:Int),Builtin.Slice.slicePlaces ((sIx n 0 lo:Nat):Int) ((sIx n n hi:Nat):Int) 1)) _ _ s
 rw[pF]
 exact wpAny_pure h
theorem pH(xs:Array Value)(i k:Nat):((xR k).filterMap λ(m:Nat)=>xs[((i:Int)+(m:Int)*1).toNat]?).toArray=((xs.toList.drop i).take k).toArray:=by
 have e:(λ(m:Nat)=>xs[((i:Int)+(m:Int)*1).toNat]?)=λm=>xs[i+m]?:=by
  funext m
  have:((i:Int)+(m:Int)*1).toNat=i+m:=by omega
  rw[this]
 rw[e]
 have:=pick_run xs i k
 rw[Ab] at this
 have e2:((λx=>xs[x]?) ∘ λx=>i+x)=λm=>xs[i+m]?:=rfl
 rw[e2] at this
 rw[this]
theorem getItem_tuple_cut{t sl:Addr}{items:Array Value}{vl vu:Value}{lo hi:Option Int}{Q:Value->Shared->Prop}(ht:IsTup s.heap t items)(hs:s.heap.IsSliceOf sl vl vu .none)(pl:IsPart vl lo)(pu:IsPart vu hi)
  (hw:¬ (sIx items.size 0 lo=0/\sIx items.size items.size hi=items.size))
  (h:Q (.ref s.heap.objs.size) {s with heap:=s.heap.push {cls:= .type "tuple",data:= .seq ((items.toList.drop (sIx items.size 0 lo)).take (sIx items.size items.size hi - sIx items.size 0 lo)).toArray} })
  (hsz:items.size<=sizeLine):wpAny (model prog w) A (getItem (.ref t) (.ref sl)) Q E s:=by
 have htake:sizeOk (.seq ((items.toList.drop (sIx items.size 0 lo)).take (sIx items.size items.size hi - sIx items.size 0 lo)).toArray):=by
  show((items.toList.drop (sIx items.size 0 lo)).take (sIx items.size items.size hi - sIx items.size 0 lo)).toArray.size<=sizeLine
  rw[xX,yT,zj,zz]
  omega
 have hj:sIx items.size items.size hi<=items.size:=sIx_le _ _ (xM _) hi
 obtain⟨os,hos,hcs,hds⟩:=id hs
 have hTs:s.TypeIs (.ref sl) "slice":=⟨os,hos,hcs⟩
 unfold getItem
 try with_reducible refine wpAny_holding ?_
 first|refine wpAny_bind (wpAny_pure ?_)|skip
 refine wpAny_bind (wpAny_sequenceKey ht.typeIs (by decide) ?_)
 refine wpAny_bind (wpAny_callSpecial?_slot (name:=Str.ofString "__getitem__") ht.typeIs PyProof.Rows.slot_tuple_getitem
  (wpAny_call_entry PyProof.Rows.slot_tuple_getitem ht.typeIs entry_tuple_getitem ?_ (args_tuple_getitem _ _)))
 show wpAny _ _ (Builtin.Tuple.tupleItemsOf (.ref t)>>=_) _ _ s
 refine wpAny_bind (tupleItemsOf_ ht ?_)
 refine wpAny_bind (wpAny_typeOf hTs ?_)
 rw[if_pos (by decide)]
 refine wpAny_bind (pG hs pl pu ?_)
 have hno:¬ ((((sIx items.size 0 lo:Nat):Int)==0 && (1:Int)==1 && (sIx items.size items.size hi - sIx items.size 0 lo)==items.size)=true):=by
  intro q
  rw[ym,ym] at q
  have q1:((sIx items.size 0 lo:Nat):Int)=0:=eq_of_beq q.1.1
  have q2:sIx items.size items.size hi - sIx items.size 0 lo=items.size:=eq_of_beq q.2
  exact hw ⟨by omega,by omega⟩
 show wpAny _ _ (if(((sIx items.size 0 lo:Nat):Int)==0 && (1:Int)==1 && (sIx items.size items.size hi - sIx items.size 0 lo)==items.size)=true then _ else _) _ _ s
 rw[if_neg hno,pH]
 first
  |exact wpAny_bind (m:=Builtin.Tuple.tupleExact _) (wpAny_newObj_type (wpAny_pure ⟨_,rfl,wpAny_pure h⟩) htake)
  |exact wpAny_bind (m:=Builtin.Tuple.tupleExact _) (wpAny_newObj_type (wpAny_bind (wpAny_pure (wpAny_pure ⟨_,rfl,wpAny_pure h⟩))) htake)
  |exact wpAny_bind (wpAny_bind (m:=Builtin.Tuple.tupleExact _) (wpAny_newObj_type (wpAny_pure (wpAny_pure ⟨_,rfl,wpAny_pure h⟩)) htake))
  |exact wpAny_bind (wpAny_bind (m:=Builtin.Tuple.tupleExact _) (wpAny_newObj_type (wpAny_pure ⟨_,rfl,wpAny_pure h⟩) htake))
end
end HT
namespace L2
open PySem PySem.Spec PyProof.Rows
abbrev TO:=St->Hp->(Option Int->Hp->Prop)->Prop
def PO(X:Cx)(e:Option Expr)(t:TO):Prop:=
 ∀ (pins:List (Addr × Obj)) (s:Shared) (σ:St) (H:Hp) (Q:Option Int->Hp->Prop),Inv X pins σ H s->t σ H Q->
  wpAny (model X.prog X.w) X.A (evalPart e X.env) (λu s'=>∃ o H',Inv X pins σ H' s'/\IsPart u o/\Q o H') X.xe s
def pI:TO:=λ_ H Q=>Q none H
def pJ(t:TE):TO:=λσ H Q=>t σ H λx H1=>∃ i,x= .int i/\Q (some i) H1
section
variable {X:Cx}{e:Expr}{te:TE}{lo hi:Option Expr}{tl th:TO}{pos p2:Pos}
theorem pK:PO X none pI:=by
 intro pins s σ H Q I h
 rw[evalPart_none]
 exact wpAny_pure ⟨none,H,I,.none,h⟩
theorem pL(h:PE X e te):PO X (some e) (pJ te):=by
 intro pins s σ H Q I hw
 rw[evalPart_some]
 refine thn (h pins s σ H _ I hw) λu s1 ⟨x,H1,I1,r1,q1⟩=>?_
 obtain⟨i,rfl,q⟩:=q1
 obtain⟨t,rfl⟩:=r1
 exact⟨some i,H1,I1,.int i t,q⟩
def SlR(X:Cx)(r:V->Option Int->Option Int->Hp->VK->Prop):Prop:=
 ∀ (pins:List (Addr × Obj)) (s:Shared) (σ:St) (H:Hp) (x:V) (v vl vu:Value) (lo hi:Option Int) (sl:Addr) (Q:VK),Inv X pins σ H s->RelV x v->s.heap.IsSliceOf sl vl vu .none->IsPart vl lo->IsPart vu hi->r x lo hi H Q->
  ∃ T id,typeLookup (.type T) "__getitem__"=pure (some (.builtin id))/\s.TypeIs v T/\wpAny (model X.prog X.w) X.A (getItem v (.ref sl)) (EP X pins σ Q) X.xe s
theorem SlR.or{r r':V->Option Int->Option Int->Hp->VK->Prop}(h:SlR X r)(h':SlR X r'):SlR X (λx lo hi H Q=>r x lo hi H Q\/r' x lo hi H Q):=by
 intro pins s σ H x v vl vu lo hi sl Q I rx hs pl pu q
 rcases q with q|q
 ·exact h pins s σ H x v vl vu lo hi sl Q I rx hs pl pu q
 ·exact h' pins s σ H x v vl vu lo hi sl Q I rx hs pl pu q
def tSl(r:V->Option Int->Option Int->Hp->VK->Prop)(te:TE)(tl th:TO):TE:=λσ H Q=>te σ H λx H1=>tl σ H1 λl H2=>th σ H2 λu H3=>r x l u H3 Q
theorem pM{r:V->Option Int->Option Int->Hp->VK->Prop}(hr:SlR X r)(he:PE X e te)(hl:PO X lo tl)(hu:PO X hi th):PE X (.Subscript e (.Slice lo hi none p2) pos) (tSl r te tl th):=by
 intro pins s σ H Q I h
 refine Subscript_ (thn (he pins s σ H _ I h) λv s1 ⟨x,H1,I1,r1,q1⟩=>?_)
 refine wpAny_Slice (thn (hl pins s1 σ H1 _ I1 q1) λvl s2 ⟨l,H2,I2,pl,q2⟩=>thn (hu pins s2 σ H2 _ I2 q2) λvu s3 ⟨u,H3,I3,pu,q3⟩=>?_)
 rw[evalPart_none]
 refine wpAny_pure ?_
 have I4:Inv X pins σ H3 {s3 with heap:=s3.heap.push {cls:= .type "slice",data:= .fields #[vl,vu,.none]} }:=I3.kept (t':=s3.toks) λb ob q=>Heap.get?_push_of_some _ q
 obtain⟨T,id,hT,ht,hg⟩:=hr pins {s3 with heap:=s3.heap.push {cls:= .type "slice",data:= .fields #[vl,vu,.none]} } σ H3 x v vl vu l u s3.heap.objs.size Q I4 r1 (Heap.IsSliceOf.new ..) pl pu q3
 show wpAny (model X.prog X.w) X.A (subscriptTail e (.Slice lo hi none p2) v (.ref s3.heap.objs.size)) (EP X pins σ Q) X.xe {s3 with heap:=s3.heap.push {cls:= .type "slice",data:= .fields #[vl,vu,.none]} }
 exact tail_any (ops:=[.ref s3.heap.objs.size,v]) ht hT hg (by with_unfolding_all rfl)
def cutV(xs:List V)(lo hi:Option Int):List V:=(xs.drop (HT.sIx xs.length 0 lo)).take (HT.sIx xs.length xs.length hi - HT.sIx xs.length 0 lo)
theorem kq(xs:List V)(lo hi:Option Int):(cutV xs lo hi).length<=xs.length:=by
 unfold cutV
 rw[yT,zj]
 omega
def rSlT(K:xK):V->Option Int->Option Int->Hp->VK->Prop:=λx lo hi H Q=>∃ a xs,x= .ref a/\SqT K H a xs/\
 ¬ (HT.sIx xs.length 0 lo=0/\HT.sIx xs.length xs.length hi=xs.length)/\∀ p,H p=none->Q (.ref p) (upd H p (.tup (cutV xs lo hi)))
theorem pN:SlR X (rSlT X.K):=by
 intro pins s σ H x v vl vu lo hi sl Q I rx hs pl pu h
 obtain⟨a,xs,rfl,hx,hw,q⟩:=h
 cases rx
 obtain⟨its,r,ht,hz⟩:=I.tuple hx
 have hlen:its.toArray.size=xs.length:=by rw[xX];exact r.length.symm
 refine⟨"tuple",_,PyProof.Rows.slot_tuple_getitem.lookup,ht.typeIs,?_⟩
 refine HT.getItem_tuple_cut ht hs pl pu (by rw[hlen];exact hw) ?_ (by rw[hlen];exact hz)
 rw[hlen]
 refine⟨.ref s.heap.objs.size,_,I.laid (t':=s.toks) (o:= .tup (cutV xs lo hi)) (λb ob q=>Heap.get?_push_of_some _ q) (xM _) ?_,rfl,q _ (I.hok.fresh (xM _))⟩
 exact⟨xU (kq xs lo hi) hz,_,(r.drop (HT.sIx xs.length 0 lo)).take (HT.sIx xs.length xs.length hi - HT.sIx xs.length 0 lo),IsTup.new _ _⟩
def kr(K:xK):R2:=λx y H Q=>∃ a b xs ys,x= .ref a/\y= .ref b/\SqT K H a xs/\SqT K H b ys/\xs≠[]/\xs.length+ys.length<=sizeLine/\
 (ys=[]->Q (.ref a) H)/\(ys≠[]->∀ p,H p=none->Q (.ref p) (upd H p (.tup (xs++ys))))
theorem Vals.nil_iff{xs:List V}{us:List Value}(r:Vals xs us):us=[]↔xs=[]:=by
 cases r with
 |nil=>simp
 |cons _ _=>simp
theorem pO:OpR X (binaryOp .Add) (kr X.K):=by
 intro pins s σ H x y v u Q I rx ry h
 obtain⟨a,b,xs,ys,rfl,rfl,ha,hb,hx,hz,q1,q2⟩:=h
 cases rx
 cases ry
 obtain⟨its,r1,p1,_⟩:=I.tuple ha
 obtain⟨its2,r2,p2,_⟩:=I.tuple hb
 refine HT.cat_tup p1 p2 (λz=>hx (r1.nil_iff.mp z)) (λz=>⟨.ref a,H,I,rfl,q1 (r2.nil_iff.mp z)⟩) (λz=>?_) (by rw[<- r1.length,<- r2.length];exact hz)
 refine⟨.ref s.heap.objs.size,_,I.laid (t':=s.toks) (o:= .tup (xs++ys)) (λb ob q=>Heap.get?_push_of_some _ q) (xM _) ?_,rfl,q2 (λw=>z (r2.nil_iff.mpr w)) _ (I.hok.fresh (xM _))⟩
 exact⟨by rw[xT];exact hz,_,r1.append r2,IsTup.new _ _⟩
end
end L2
namespace L2
open PySem PySem.Spec PyProof.Rows
def ixN(n:Nat)(i:Int):Option Nat:=if 0<=i then(if i<n then some i.toNat else none) else if -(n:Int)<=i then some (i+n).toNat else none
def atI{α:Type}(xs:List α)(i:Int):Option α:=(ixN xs.length i).bind λj=>xs[j]?
theorem kt{n:Nat}{i:Int}{j:Nat}(h:ixN n i=some j):seqIndex? i n=some j/\j<n/\-(n:Int)<=i/\i<n:=by
 unfold ixN at h
 by_cases h0:0<=i
 ·rw[if_pos h0] at h
  by_cases h1:i<n
  ·rw[if_pos h1] at h
   have e:i.toNat=j:=Option.some.inj h
   exact⟨by rw[seqIndex_of h0 h1,e],by omega,by omega,h1⟩
  ·rw[if_neg h1] at h;cases h
 ·rw[if_neg h0] at h
  by_cases h1: -(n:Int)<=i
  ·rw[if_pos h1] at h
   have e:(i+n).toNat=j:=Option.some.inj h
   exact⟨by rw[seqIndex_neg (by omega) h1,e],by omega,h1,by omega⟩
  ·rw[if_neg h1] at h;cases h
theorem atI_get{α:Type}{xs:List α}{i:Int}{v:α}(h:atI xs i=some v):∃ j,seqIndex? i xs.length=some j/\xs[j]?=some v/\j<xs.length/\-(xs.length:Int)<=i/\i<xs.length:=by
 unfold atI at h
 cases e:ixN xs.length i with
 |none=>rw[e] at h;cases h
 |some j=>
  rw[e] at h
  obtain⟨h1,h2,h3,h4⟩:=kt e
  exact⟨j,h1,h,h2,h3,h4⟩
theorem de{α:Type}{xs:List α}{j:Nat}{v:α}(h:xs[j]?=some v):atI xs (j:Int)=some v:=by
 have hj:j<xs.length:=(yi.mp h).1
 have e:ixN xs.length (j:Int)=some j:=by
  unfold ixN
  rw[if_pos (by omega),if_pos (by omega)];simp
 unfold atI;rw[e];exact h
def cK(b:Expr):Prop:=∀ o i,subscripted b false o i=operate [o,i] (getItem o i)
def IxR(X:Cx)(r:R2):Prop:=
 ∀ (value slice:Expr) (pins:List (Addr × Obj)) (s:Shared) (σ:St) (H:Hp) (x y:V) (v u:Value) (Q:VK),Inv X pins σ H s->RelV x v->RelV y u->r x y H Q->
  subscripted slice false v u=operate [v,u] (getItem v u)->wpAny (model X.prog X.w) X.A (subscriptTail value slice v u) (EP X pins σ Q) X.xe s
def MtR(X:Cx)(id:String)(r:V->List V->Hp->VK->Prop):Prop:=
 ∀ (pins:List (Addr × Obj)) (s:Shared) (σ:St) (H:Hp) (x:V) (xs:List V) (v:Value) (us:List Value) (Q:VK),Inv X pins σ H s->RelV x v->Vals xs us->r x xs H Q->
  wpAny (model X.prog X.w) X.A (call (.builtin id) (v::us)) (EP X pins σ Q) X.xe s
section
variable {X:Cx}{a b:Expr}{ta tb:TE}{pos:Pos}
theorem IxR.or{r r':R2}(h:IxR X r)(h':IxR X r'):IxR X (λx y H Q=>r x y H Q\/r' x y H Q):=by
 intro value slice pins s σ H x y v u Q I rx ry q hs
 rcases q with q|q
 ·exact h value slice pins s σ H x y v u Q I rx ry q hs
 ·exact h' value slice pins s σ H x y v u Q I rx ry q hs
theorem pe_ix{r:R2}(hr:IxR X r)(ha:PE X a ta)(hb:PE X b tb)(hs:cK b):PE X (.Subscript a b pos) (tOp r ta tb):=by
 intro pins s σ H Q I h
 exact Subscript_ (binT ha hb I h λv u s2 x y H2 I2 rx ry q=>hr a b pins s2 σ H2 x y v u Q I2 rx ry q (hs _ _))
def rIxL(K:xK):R2:=λx y H Q=>∃ p xs i v,x= .ref p/\y= .int i/\SqL K H p xs/\atI xs i=some v/\Q v H
def rIxT(K:xK):R2:=λx y H Q=>∃ p xs i v,x= .ref p/\y= .int i/\SqT K H p xs/\atI xs i=some v/\Q v H
def rIxS:R2:=λx y H Q=>∃ z i c,x= .str z/\y= .int i/\z.length<=sizeLine/\atI z.cps.toList i=some c/\Q (.str ⟨#[c]⟩) H
theorem ix_list:IxR X (rIxL X.K):=by
 intro value slice pins s σ H x y v u Q I rx ry h hs
 obtain⟨p,xs,i,z,rfl,rfl,hq,he,q⟩:=h
 cases rx
 obtain⟨t,rfl⟩:=ry
 obtain⟨its,r,pl,hz⟩:=I.list hq
 obtain⟨j,h1,h2,h3,h4,h5⟩:=atI_get he
 obtain⟨w,ew,rw'⟩:=r.get h2
 have hl:=r.length
 have hn:=line63
 have fin:EP X pins σ Q w s:=⟨z,H,I,rw',q⟩
 by_cases h0:0<=i
 ·have hj:i.toNat=j:=by
   rw[seqIndex_of h0 h5] at h1
   exact Option.some.inj h1
  exact item_listR pl.isList h0 (by omega) (by rw[hj];simpa using ew) fin hs
 ·have hj:(i+(its.toArray.size:Int)).toNat=j:=by
   rw[seqIndex_neg (by omega) h4] at h1
   rw[xX,<- hl]
   exact Option.some.inj h1
  exact subscriptTail_builtinR (x:=w) pl.isList.typeIs slot_list_getitem.lookup
   (wpAny_getItem_list_neg (Q:=λr s'=>r=w/\EP X pins σ Q r s') pl.isList (by omega) (by rw[xX]<;>omega) (by omega) (by rw[hj];simpa using ew) ⟨rfl,fin⟩) hs
theorem ix_tup:IxR X (rIxT X.K):=by
 intro value slice pins s σ H x y v u Q I rx ry h hs
 obtain⟨p,xs,i,z,rfl,rfl,hq,he,q⟩:=h
 cases rx
 obtain⟨t,rfl⟩:=ry
 obtain⟨its,r,pl,hz⟩:=I.tuple hq
 obtain⟨j,h1,h2,h3,h4,h5⟩:=atI_get he
 obtain⟨w,ew,rw'⟩:=r.get h2
 have hl:=r.length
 have hn:=line63
 have fin:EP X pins σ Q w s:=⟨z,H,I,rw',q⟩
 exact subscriptTail_builtinR (x:=w) pl.typeIs slot_tuple_getitem.lookup
  (getItem_tuple (j:=j) (Q:=λr s'=>r=w/\EP X pins σ Q r s') pl (by omega) (by omega) (by rw[xX,<- hl];exact h1) (by simpa using ew) ⟨rfl,fin⟩) hs
theorem pP:IxR X rIxS:=by
 intro value slice pins s σ H x y v u Q I rx ry h hs
 obtain⟨z,i,c,rfl,rfl,hz,he,q⟩:=h
 obtain⟨t,rfl⟩:=rx
 obtain⟨t',rfl⟩:=ry
 obtain⟨j,h1,h2,h3,h4,h5⟩:=atI_get he
 have hl:z.cps.toList.length=z.length:=by simp[Str.length]
 rw[hl] at h1 h4 h5
 have hn:=line63
 exact tail_any (typeIs_str s z t) slot_str_getitem.lookup (getItem_str (c:=c) (by
  have e1:decide (i< -(2 ^ 63:Int))=false:=decide_eq_false (by omega)
  have e2:decide (i >= 2 ^ 63)=false:=decide_eq_false (by omega)
  rw[e1,e2,Ac]) (by rw[h1];simpa using h2) ⟨.str ⟨#[c]⟩,H,I.tok _,⟨_,rfl⟩,q⟩) hs
def rIx(K:xK):R2:=λx y H Q=>rIxL K x y H Q\/rIxT K x y H Q\/rIxS x y H Q
theorem ku:IxR X (rIx X.K):=ix_list.or (ix_tup.or pP)
theorem pQ(its:List Value)(n j:Nat)(u:Value):Obj.mapSeq (·.setIfInBounds j u) {cls:= .type "list",data:= .seq its.toArray n}={cls:= .type "list",data:= .seq (its.set j u).toArray n}:=by
 simp[Obj.mapSeq]
theorem Inv.lst{pins:List (Addr × Obj)}{σ:St}{H:Hp}{s:Shared}{p:Addr}{xs:List V}(I:Inv X pins σ H s)(h:H p=some (.lst xs)):
  ∃ (its:List Value) (n:Nat),Vals xs its/\s.heap.get? p=some {cls:= .type "list",data:= .seq its.toArray n}/\xs.length<=sizeLine:=by
 obtain⟨z,its,n,r,e⟩:=I.hok p _ h
 exact⟨its,n,r,e,z⟩
theorem Inv.lstUpd{pins:List (Addr × Obj)}{σ:St}{H:Hp}{s:Shared}{p:Addr}{xs ys:List V}{its its':List Value}{n n':Nat}{f:Obj->Obj}(I:Inv X pins σ H s)(h:H p=some (.lst xs))
  (ho:s.heap.get? p=some {cls:= .type "list",data:= .seq its.toArray n}) (hf:f {cls:= .type "list",data:= .seq its.toArray n}={cls:= .type "list",data:= .seq its'.toArray n'}) (r:Vals ys its') (hz:ys.length<=sizeLine) (t:Nat):
  Inv X pins σ (upd H p (.lst ys)) {s with heap:=s.heap.update p f,toks:=t}:=by
 have e:(s.heap.update p f).get? p=some {cls:= .type "list",data:= .seq its'.toArray n'}:=by
  rw[Heap.get?_update_self f ho (by rw[hf]<;>rfl),hf]
 refine I.write (x:=p) (e:=p) (by rw[h];trivial) (.inl rfl) (λb u hb q=>(Heap.get?_update_other _ _ (Ne.symm hb)).trans q) ⟨_,e⟩ ?_
 exact⟨hz,its',n',r,e⟩
def pR:V->V->V->Hp->(Hp->Prop)->Prop:=λo i v H Q=>∃ p xs k j,o= .ref p/\i= .int k/\H p=some (.lst xs)/\ixN xs.length k=some j/\Q (upd H p (.lst (xs.set j v)))
theorem pS:PSet X pR:=by
 intro pins s σ H o i v ov iv u Q I ro ri rv h
 obtain⟨p,xs,k,j,rfl,rfl,hp,hj,q⟩:=h
 cases ro
 obtain⟨t,rfl⟩:=ri
 obtain⟨its,n,r,ho,hz⟩:=I.lst hp
 obtain⟨h1,h2,h3,h4⟩:=kt hj
 have hl:=r.length
 have hn:=line63
 have I':Inv X pins σ (upd H p (.lst (xs.set j v))) {s with heap:=s.heap.update p (Obj.mapSeq (·.setIfInBounds j u))}:=
  I.lstUpd hp ho (pQ its n j u) (r.set rv j) (by rw[yy];exact hz) s.toks
 by_cases h0:0<=k
 ·have hk:k.toNat=j:=by
   rw[seqIndex_of h0 h4] at h1
   exact Option.some.inj h1
  exact ki_setAt ho h0 (by omega) (by rw[xX,<- hl];exact h4) (by rw[hk];exact⟨_,I',q⟩)
 ·have hk:(k+(its.toArray.size:Int)).toNat=j:=by
   rw[seqIndex_neg (by omega) h3] at h1
   rw[xX,<- hl]
   exact Option.some.inj h1
  exact ki_setBack ho (by omega) (by rw[xX,<- hl];exact h3) (by omega) (by rw[hk];exact⟨_,I',q⟩)
theorem pT(lo hi:Option Int)(n:Nat):(sliceBounds lo hi none n).1=((HT.sIx n 0 lo:Nat):Int)/\(sliceBounds lo hi none n).2.1=((HT.sIx n n hi:Nat):Int)/\(sliceBounds lo hi none n).2.2=1:=by
 refine⟨?_,?_,rfl⟩
 ·cases lo with
  |none=>simp[sliceBounds,HT.sIx]
  |some i=>
   simp only[sliceBounds,HT.sIx,Ad,show(1:Int)>0 by decide,if_true]
   by_cases h:i<0
   ·simp only[h,if_true]<;>omega
   ·simp only[h,if_false]<;>omega
 ·cases hi with
  |none=>simp[sliceBounds,HT.sIx]
  |some i=>
   simp only[sliceBounds,HT.sIx,Ad,show(1:Int)>0 by decide,if_true]
   by_cases h:i<0
   ·simp only[h,if_true]<;>omega
   ·simp only[h,if_false]<;>omega
theorem pU(its:List Value)(lo hi:Option Int):slicePick its.toArray lo hi none=((its.drop (HT.sIx its.length 0 lo)).take (HT.sIx its.length its.length hi - HT.sIx its.length 0 lo)).toArray:=by
 obtain⟨h1,h2,h3⟩:=pT lo hi its.toArray.size
 unfold slicePick
 rw[h1,h2,h3]
 simp only[sliceRange_one,pick_run,xX]<;>rfl
def rSlL(K:xK):V->Option Int->Option Int->Hp->VK->Prop:=λx lo hi H Q=>∃ a xs,x= .ref a/\SqL K H a xs/\∀ p,H p=none->Q (.ref p) (upd H p (.lst (cutV xs lo hi)))
theorem pV:SlR X (rSlL X.K):=by
 intro pins s σ H x v vl vu lo hi sl Q I rx hs pl pu h
 obtain⟨a,xs,rfl,hx,q⟩:=h
 cases rx
 obtain⟨its,r,ht,hz⟩:=I.list hx
 have hlen:=r.length
 refine⟨"list",_,slot_list_getitem.lookup,ht.isList.typeIs,?_⟩
 refine wpAny_getItem_list_slice ht.isList hs pl pu .none (by simp) ?_ (by rw[xX]<;>omega)
 rw[pU,<- hlen]
 refine⟨.ref s.heap.objs.size,_,I.laid (t':=s.toks) (o:= .lst (cutV xs lo hi)) (λb ob q=>Heap.get?_push_of_some _ q) (xM _) ?_,rfl,q _ (I.hok.fresh (xM _))⟩
 exact⟨xU (kq xs lo hi) hz,_,0,(r.drop (HT.sIx xs.length 0 lo)).take (HT.sIx xs.length xs.length hi - HT.sIx xs.length 0 lo),Heap.get?_push_size _ rfl⟩
def bL:V->Bool
 | .non=>true
 | .bl _=>true
 | .int _=>true
 | .str _=>true
 |_=>false
def eqV:V->V->Bool
 | .non,.non=>true
 | .bl a,.bl b=>a==b
 | .bl a,.int b=>(if a then 1 else 0)==b
 | .int a,.bl b=>a==(if b then 1 else 0)
 | .int a,.int b=>a==b
 | .str a,.str b=>a==b
 |_,_=>false
theorem eqAt_V{A:Around}{s:Shared}{y x:V}{u v:Value}(ry:RelV y u)(rx:RelV x v)(fy:bL y=true)(fx:bL x=true):SeqAt.EqAt A s u v (eqV y x):=by
 cases y with
 |non=>
  cases ry
  cases x with
  |non=>cases rx;exact SeqAt.EqAt.same _
  |bl b=>cases rx;exact SeqAt.EqAt.none_bool b
  |int b=>obtain⟨t,rfl⟩:=rx;exact SeqAt.EqAt.none_int b t
  |str b=>obtain⟨t,rfl⟩:=rx;exact SeqAt.EqAt.none_str b t
  |_=>exact absurd (show false=true from fx) xS
 |bl a=>
  cases ry
  cases x with
  |non=>cases rx;exact SeqAt.EqAt.bool_none a
  |bl b=>cases rx;exact SeqAt.EqAt.bool_bool a b
  |int b=>obtain⟨t,rfl⟩:=rx;exact SeqAt.EqAt.bool_int a b t
  |str b=>obtain⟨t,rfl⟩:=rx;exact SeqAt.EqAt.bool_str a b t
  |_=>exact absurd (show false=true from fx) xS
 |int a=>
  obtain⟨t',rfl⟩:=ry
  cases x with
  |non=>cases rx;exact SeqAt.EqAt.int_none a t'
  |bl b=>cases rx;exact SeqAt.EqAt.int_bool a t' b
  |int b=>obtain⟨t,rfl⟩:=rx;exact SeqAt.EqAt.int_int a t' b t
  |str b=>obtain⟨t,rfl⟩:=rx;exact SeqAt.EqAt.int_str a t' b t
  |_=>exact absurd (show false=true from fx) xS
 |str a=>
  obtain⟨t',rfl⟩:=ry
  cases x with
  |non=>cases rx;exact SeqAt.EqAt.str_none a t'
  |bl b=>cases rx;exact SeqAt.EqAt.str_bool a t' b
  |int b=>obtain⟨t,rfl⟩:=rx;exact SeqAt.EqAt.str_int a t' b t
  |str b=>obtain⟨t,rfl⟩:=rx;exact SeqAt.EqAt.str_str a t' b t
  |_=>exact absurd (show false=true from fx) xS
 |_=>exact absurd (show false=true from fy) xS
def eqU(x:V)(u:Value):Bool:=match u with
 | .none=>eqV .non x
 | .bool b=>eqV (.bl b) x
 | .int i _=>eqV (.int i) x
 | .str z _=>eqV (.str z) x
 |_=>false
theorem ky{x y:V}{u:Value}(r:RelV y u)(f:bL y=true):eqU x u=eqV y x:=by
 cases y with
 |non=>cases r;rfl
 |bl b=>cases r;rfl
 |int i=>obtain⟨t,rfl⟩:=r;rfl
 |str z=>obtain⟨t,rfl⟩:=r;rfl
 |_=>exact absurd (show false=true from f) xS
theorem fU{x:V}:∀ {xs:List V} {us:List Value},Vals xs us->xs.all bL=true->us.any (eqU x)=xs.any λy=>eqV y x
 |_,_,.nil,_=>rfl
 |y::xs,u::us,.cons r t,f=>by
  rw[zk,ym] at f
  rw[yO,yO,ky r f.1,fU t f.2]
theorem mem_eqAt{A:Around}{s:Shared}{x:V}{v:Value}(rx:RelV x v)(fx:bL x=true):∀ {xs:List V} {us:List Value},Vals xs us->xs.all bL=true->∀ u∈us,SeqAt.EqAt A s u v (eqU x u)
 |_,_,.nil,_=>λu hu=>by cases hu
 |y::xs,u::us,.cons r t,f=>λu' hu=>by
  rw[zk,ym] at f
  rcases xP.mp hu with rfl|hu
  ·rw[ky r f.1];exact eqAt_V r rx f.1 fx
  ·exact mem_eqAt rx fx t f.2 u' hu
def inV(x:V)(xs:List V):Bool:=xs.any λy=>eqV y x
def rIn(K:xK)(neg:Bool):R2:=λx y H Q=>∃ p xs,y= .ref p/\(SqL K H p xs\/SqT K H p xs)/\bL x=true/\xs.all bL=true/\Q (.bl (if neg then !inV x xs else inV x xs)) H
theorem pW:OpR X (compareOp .NotIn) (rIn X.K true):=by
 intro pins s σ H x y v u Q I rx ry h
 obtain⟨p,xs,rfl,hq,fx,fs,q⟩:=h
 cases ry
 rcases hq with hq|hq
 ·obtain⟨its,r,pl,hz⟩:=I.list hq
  refine SeqAt.notIn_listAt (eqU x) pl.isList (λw hw=>mem_eqAt rx fx r fs w (by simpa using hw)) ⟨.bl _,H,I,rfl,?_⟩
  rw[show its.toArray.any (eqU x)=its.any (eqU x) by simp,fU r fs]
  exact q
 ·obtain⟨its,r,pl,hz⟩:=I.tuple hq
  refine SeqAt.notIn_tupleAt (eqU x) pl (λw hw=>mem_eqAt rx fx r fs w (by simpa using hw)) ⟨.bl _,H,I,rfl,?_⟩
  rw[show its.toArray.any (eqU x)=its.any (eqU x) by simp,fU r fs]
  exact q
theorem pX:OpR X (compareOp .NotIn) (λx y H Q=>∃ i j,x= .str i/\y= .str j/\Q (.bl (!(!(Builtin.Str.occurrences j i 0 j.length 1).isEmpty))) H):=by
 intro pins s σ H x y v u Q I rx ry h
 obtain⟨i,j,rfl,rfl,q⟩:=h
 obtain⟨t,rfl⟩:=rx
 obtain⟨t',rfl⟩:=ry
 exact notIn_str ⟨.bl _,H,I,rfl,q⟩
def tyV(K:xK)(T:String)(x:V)(H:Hp):Prop:=match x with
 | .str _=>T="str"
 | .int _=>T="int"
 | .ref p=>(T="list"/\∃ xs,SqL K H p xs)\/(T="tuple"/\∃ o,K.lookup p=some o/\o.cls= .type "tuple"/\o.dict=none)\/
   (T="dict"/\((∃ kvs,H p=some (.dK kvs))\/∃ kvs,H p=some (.dT kvs)))\/(T="set"/\∃ S n,H p=some (.set S n))
 |_=>False
theorem pY{pins:List (Addr × Obj)}{σ:St}{H:Hp}{s:Shared}{T:String}{x:V}{v:Value}(I:Inv X pins σ H s)(r:RelV x v)(ty:tyV X.K T x H):
  s.TypeIs v T/\∀ a,v= .ref a->∃ ob,s.heap.get? a=some ob/\ob.dict=none:=by
 cases x with
 |str z=>
  obtain⟨t,rfl⟩:=r
  cases(show T="str" from ty)
  exact⟨typeIs_str s z t,λ_ e=>nomatch e⟩
 |int i=>
  obtain⟨t,rfl⟩:=r
  cases(show T="int" from ty)
  exact⟨typeIs_int s i t,λ_ e=>nomatch e⟩
 |ref p=>
  cases r
  rcases ty with⟨rfl,xs,hq⟩|⟨rfl,o,hk,hc,hd⟩|⟨rfl,hk⟩|⟨rfl,S,n,hk⟩
  ·obtain⟨its,_,pl,_⟩:=I.list hq
   refine⟨pl.isList.typeIs,λa e=>?_⟩
   cases e
   obtain⟨o,n,e,c,hd,_⟩:=pl
   exact⟨o,e,hd⟩
  ·refine⟨⟨o,I.kIn p o hk,hc⟩,λa e=>?_⟩
   cases e
   exact⟨o,I.kIn _ o hk,hd⟩
  ·have z:∃ o,s.heap.get? p=some o/\o.ExactDict:=by
    rcases hk with⟨kvs,hk⟩|⟨kvs,hk⟩
    ·obtain⟨_,_,_,_,o,_,_,e,ex,_⟩:=I.hok p _ hk
     exact⟨o,e,ex⟩
    ·obtain⟨_,_,_,_,o,_,_,e,ex,_⟩:=I.hok p _ hk
     exact⟨o,e,ex⟩
   obtain⟨o,e,ex⟩:=z
   refine⟨⟨o,e,ex.1⟩,λa e2=>?_⟩
   cases e2
   exact⟨o,e,ex.2.1⟩
  ·obtain⟨o,_,_,_,e,ex,_⟩:=I.hok p _ hk
   refine⟨⟨o,e,ex.1⟩,λa e2=>?_⟩
   cases e2
   exact⟨o,e,ex.2.1⟩
 |_=>exact False.elim ty
def tBM(K:xK)(T:String)(r:V->List V->Hp->VK->Prop)(to:TE)(t:TA):TE:=λσ H Q=>to σ H λx H1=>tyV K T x H1/\t σ H1 λxs H2=>r x xs H2 Q
variable {o e:Expr}{es:List Expr}{to:TE}{t:TA}{name:Str}{apos cpos:Pos}{T id:String}{r:V->List V->Hp->VK->Prop}
theorem fV(pa:PlainAttrs T)(slot:Slot T name id)(hty:typeOf (.builtin id)=pure (.type "method_descriptor"))(hm:MtR X id r)(ho:PE X o to)(ha:PA X (e::es) t)
  (hbase:attributeBase o name X.env (eval o X.env)=eval o X.env:=by rfl)
  (hfew:((backTo cpos (starEach (e::es) X.env)).all (λx=>!x.1) && (backToKw cpos (keywordEach [] X.env)).all (λx=>x.1.isSome)
   && decide ((e::es).length+([]:List Keyword).length+(if([]:List Keyword).isEmpty then 0 else 1)<30))=true:=by rfl)
  (hline:(apos.endLine==cpos.line)=true:=by rfl) (hs:zSE X e es:=by rfl) (hplain:zPL X cpos es:=by rfl):
  PE X (.Call (.Attribute o name apos) (e::es) [] cpos) (tBM X.K T r to t):=by
 intro pins s σ H Q I h
 refine wpAny_Call_method_late hbase hfew hline rfl (thn (ho pins s σ H _ I h) λv s1 ⟨x,H1,I1,r1,ty,q1⟩=>?_)
 obtain⟨h1,h2⟩:=pY I1 r1 ty
 refine⟨T,id,pa,slot,hty,h1,h2,?_⟩
 have hA:=ha cpos pins s1 σ H1 _ I1 q1
 rw[hs] at hA ⊢
 refine Calls.callWith_builtin (by show(false||(backTo cpos (starEach es X.env)).any (·.1))=false;rw[hplain]<;>rfl) (Calls.evalArgs_plain ?_)
 exact thn hA λus s2 ⟨vs,H2,I2,r2,q2⟩=>hm pins s2 σ H2 x vs v us Q I2 r1 r2 q2
end
end L2
namespace L2
open PySem PySem.Spec PyProof.Rows
def MtM(X:Cx)(id:String)(r:V->List V->Hp->VK->Prop):Prop:=
 ∀ (pins:List (Addr × Obj)) (s:Shared) (σ:St) (H:Hp) (x:V) (xs:List V) (v:Value) (us:List Value) (Q:VK),Inv X pins σ H s->RelV x v->Vals xs us->r x xs H Q->
  wpAny (model X.prog X.w) X.A (call (.builtin id) (v::us)) (EP X pins σ Q) X.xe s
theorem Vals.one:∀ {x:V} {us:List Value},Vals [x] us->∃ u,us=[u]/\RelV x u
 |_,_,.cons r .nil=>⟨_,rfl,r⟩
theorem Vals.two:∀ {x y:V} {us:List Value},Vals [x,y] us->∃ u v,us=[u,v]/\RelV x u/\RelV y v
 |_,_,_,.cons r (.cons q .nil)=>⟨_,_,rfl,r,q⟩
theorem Vals.zero:∀ {us:List Value},Vals [] us->us=[]
 |_,.nil=>rfl
theorem Vals.dropLast{xs:List V}{us:List Value}(h:Vals xs us):Vals xs.dropLast us.dropLast:=by
 induction h with
 |nil=>exact .nil
 |cons r t ih=>
  cases t with
  |nil=>exact .nil
  |cons q t'=>exact .cons r ih
theorem Vals.rep{xs:List V}{us:List Value}(h:Vals xs us):∀ k:Nat,Vals (yl k xs).flatten (yl k us).flatten
 |0=> .nil
 |k+1=>by
  rw[zl,zl,zm,zm]
  exact Vals.append h (Vals.rep h k)
section
variable {X:Cx}{pins:List (Addr × Obj)}{σ:St}{H:Hp}{s:Shared}{l b:Addr}{xs ys zs:List V}
theorem Inv.lset{its its':List Value}{n:Nat}{f:Array Value->Array Value}{t':Nat}(I:Inv X pins σ H s)(hH:H l=some (.lst xs))
  (e:s.heap.get? l=some {cls:= .type "list",data:= .seq its.toArray n}) (hf:f its.toArray=its'.toArray) (hv:Vals ys its') (hz:ys.length<=sizeLine):
  Inv X pins σ (upd H l (.lst ys)) {s with heap:=s.heap.update l (Obj.mapSeq f),toks:=t'}:=by
 have q:=PySem.IsL.update e f
 rw[hf] at q
 refine I.write (x:=l) (e:=l) (by rw[hH];exact trivial) (.inl rfl) (λb' u hb hu=>(Heap.get?_update_other s.heap (Obj.mapSeq f) (Ne.symm hb)).trans hu) ⟨_,q⟩ ?_
 exact⟨hz,its',_,hv,q⟩
theorem Inv.lnew{its:List Value}{t':Nat}(I:Inv X pins σ H s)(hv:Vals ys its)(hz:ys.length<=sizeLine):
  Inv X pins σ (upd H s.heap.objs.size (.lst ys)) {s with heap:=s.heap.push {cls:= .type "list",data:= .seq its.toArray},toks:=t'}:=
 I.laid (λ_ _ q=>Heap.get?_push_of_some _ q) (xM _) ⟨hz,its,0,hv,Heap.get?_push_size _ rfl⟩
theorem Inv.fresh(I:Inv X pins σ H s):H s.heap.objs.size=none:=I.hok.fresh (xM _)
theorem Inv.lstM(I:Inv X pins σ H s)(hH:H l=some (.lst xs)):xs.length<=sizeLine/\∃ (its:List Value) (n:Nat),Vals xs its/\xs.length=its.length/\s.heap.get? l=some {cls:= .type "list",data:= .seq its.toArray n}:=by
 obtain⟨z,its,n,r,e⟩:=I.hok l _ hH
 exact⟨z,its,n,r,r.length,e⟩
theorem pZ{n:Nat}(h:n<=sizeLine):Builtin.List.listTooLong n=false:=by
 unfold Builtin.List.listTooLong
 exact decide_eq_false (by omega)
end
section
variable {X:Cx}
def qa:V->List V->Hp->VK->Prop:=λx vs H Q=>∃ l xs y,x= .ref l/\vs=[y]/\H l=some (.lst xs)/\xs.length<sizeLine/\Q .non (upd H l (.lst (xs++[y])))
theorem fW:MtM X "list.append" qa:=by
 intro pins s σ H x vs v us Q I rx rv h
 obtain⟨l,xs,y,rfl,rfl,hH,hz,q⟩:=h
 cases rx
 obtain⟨u,rfl,ru⟩:=rv.one
 obtain⟨z,its,n,r,hl,e⟩:=I.lstM hH
 refine call_meets F.slot_list_append ⟨_,e,rfl⟩ F.entry_list_append (F.args_list_append_2 _ _) (PySem.list_append l its.toArray n u (by rw[xX];omega)) ⟨e,?_⟩
 refine⟨.non,_,I.lset (its':=its++[u]) hH e (by simp) (r.append (.cons ru .nil)) ?_,rfl,q⟩
 rw[xT,List.length_singleton]
 omega
def qc:V->List V->Hp->VK->Prop:=λx vs H Q=>∃ l b xs zs,x= .ref l/\vs=[.ref b]/\H l=some (.lst xs)/\H b=some (.lst zs)/\xs.length+zs.length<=sizeLine/\Q .non (upd H l (.lst (xs++zs)))
theorem xH:MtM X "list.extend" qc:=by
 intro pins s σ H x vs v us Q I rx rv h
 obtain⟨l,b,xs,zs,rfl,rfl,hH,hB,hz,q⟩:=h
 cases rx
 obtain⟨u,rfl,ru⟩:=rv.one
 cases ru
 obtain⟨z,its,n,r,hl,e⟩:=I.lstM hH
 obtain⟨z2,its2,n2,r2,hl2,e2⟩:=I.lstM hB
 have hsz:its.toArray.size+its2.toArray.size<=sizeLine:=by rw[xX,xX];omega
 have hlong:¬ (!its.toArray.isEmpty && Builtin.List.listTooLong (its.toArray.size+its2.toArray.size))=true:=by
  rw[pZ hsz,Bool.and_false]
  exact xS
 refine call_meets F.slot_list_extend ⟨_,e,rfl⟩ F.entry_list_extend (F.args_list_extend_2 _ _)
  (AutoSeq1.list_extend_list_list_0 l its.toArray n b its2.toArray n2 hlong (by rw[xX];omega) (by omega)) ⟨e,e2,?_⟩
 refine⟨.non,_,I.lset (its':=its++its2) hH e (by simp) (r.append r2) ?_,rfl,q⟩
 rw[xT]
 omega
def rCat:R2:=λx y H Q=>∃ l b xs zs,x= .ref l/\y= .ref b/\H l=some (.lst xs)/\H b=some (.lst zs)/\xs.length+zs.length<=sizeLine/\∀ p,H p=none->Q (.ref p) (upd H p (.lst (xs++zs)))
theorem qd:OpR X (binaryOp .Add) rCat:=by
 intro pins s σ H x y v u Q I rx ry h
 obtain⟨l,b,xs,zs,rfl,rfl,hH,hB,hz,q⟩:=h
 cases rx
 cases ry
 obtain⟨z,its,n,r,hl,e⟩:=I.lstM hH
 obtain⟨z2,its2,n2,r2,hl2,e2⟩:=I.lstM hB
 refine PySem.P.add_list e e2 ?_ (by rw[xX,xX];omega)
 have ea:its.toArray++its2.toArray=(its++its2).toArray:=by simp
 rw[ea]
 exact⟨.ref _,_,I.lnew (t':=s.toks) (r.append r2) (by rw[xT];omega),rfl,q _ I.fresh⟩
end
section
variable {prog:Program}{w:World}{A:Around}{E:Value->Shared->Prop}{s:Shared}
end
section
variable {X:Cx}
end
end L2
namespace Att
open PySem PySem.W PySem.Calls PyProof.Rows
theorem qe{P:Params}{h:Heap}:∀ (ns:List Int) (vs:List Value),WellAll P h vs (ns.map WData.int)->IntsAre vs ns:=by
 intro ns
 induction ns with
 |nil=>
  intro vs w
  rw[zF] at w
  cases w
  exact .nil
 |cons n ns ih=>
  intro vs w
  rw[yc] at w
  cases w with
  |cons a b=>
   cases a
   exact .cons _ _ (ih _ b)
theorem qf{l:OpenLaw}{n:Nat}(hn:l.most=some n){P:Params}{h:Heap}{args:List WData}{vals:List Value}
  (hpre:l.row.toRowW.claim.pre args=true) (hwl:WellAll P h vals args):
  ∃ a vs ns,vals=[Value.ref a]/\args=[WData.list (ns.map WData.int)]/\h.get? a=some {cls:= .type "list",data:= .seq vs.toArray}/\IntsAre vs ns/\ns.length<=n:=by
 have hsh:WShape.hasAll [] args [.list .int]=true:=(pre_splitW hpre).1
 have hc:l.pre.holds [] {args:=args}=true:=(pre_splitW hpre).2
 obtain⟨d,r,rfl,h1,h2⟩:=hasAllW_cons hsh
 obtain rfl:=hasAllW_nil h2
 obtain⟨xs,rfl,h3⟩:=hasW_list h1
 obtain⟨ns,rfl⟩:=items_int h3
 have hlen:ns.length<=n:=by
  unfold OpenLaw.pre at hc
  have h4:(WTm.not (.lt (.lit (.int (n:Int))) (.len (.arg 0)))).holds [] {args:=[.list (ns.map .int)]}=true:=by
   have h4:=(holds_andW hc).1
   rw[hn] at h4
   exact h4
  have h5:=condW_of h4 (w_not (w_lt w_lit (w_len_list (w_arg rfl))))
  rw[yg] at h5
  refine Ae λq=>?_
  have q':(n:Int)<((ns.length:Nat):Int):=by omega
  first
   |(rw[decide_eq_true q'] at h5;exact absurd h5 (by decide))
   |(simp at h5;omega)
 cases hwl with
 |cons w1 w2=>
  cases w2
  cases w1 with
  |list ho hall=>exact⟨_,_,ns,rfl,rfl,ho,qe ns _ hall,hlen⟩
theorem qg(l:OpenLaw)(args:List WData):l.row.toRowW.claim.post args (.bool true) args=true:=
 postW_of (r:=l.row.toRowW) (X:=(true==true))
  (show WShape.has [] (.bool true) .bool=true by first|rfl|decide|simp[WShape.has,WShape.arms,WShape.armsAll])
  (show(WTm.eq .res (.lit (.bool true))).value [] {args:=args,res:=some (.bool true),after:=args}=some (.bool (true==true)) from w_eq_bool (w_res rfl) w_lit) rfl
theorem attach_call{l:OpenLaw}{n:Nat}{q:Program}{loose:List Str}{XP:(Str->Option Value)->Heap->Prop}{YP:World->Heap->Prop}{d:DefRec}
  (hn:l.most=some n) (hdf:d.params.defaults=[])
  (call:∀ (w:World) (s₀ s₁:Shared) (mg mb:Str->Option Value) (fa:Addr) (o:Obj) (pm cd doc:Value) (a:Addr) (vs:List Value) (ns:List Int),
   Ground q loose [] XP w s₀ mg mb s₁.heap->YP w s₁.heap->
   s₁.heap.get? fa=some o->o.data= .func (docDef d.name d.params d.body d.scope pm cd doc)->s₁.heap.CodeRec cd d.name->mg d.name=some (.ref fa)->
   s₁.heap.get? a=some {cls:= .type "list",data:= .seq vs.toArray}->IntsAre vs ns->ns.length<=n->s₁.gens=#[]->
   codeAny (model l.prog w) callerA (.call (.ref fa) ⟨[.ref a],[]⟩) (λr s'=>r= .ok (.ret (.bool true))/\OldK s₁.heap s'.heap/\s'.os=s₁.os/\AllBare s'.gens) s₁):
  WalkO q loose XP YP l.row.toRowW d [] (λf vs=>PySem.call f vs):=by
 intro w s₀ s₁ mg mb G Y fa o pm cd doc dV kV ho hd hcd hD hmg hg args vals as hpre hlay hrd hwl hlo
 obtain rfl:dV= .none:=Dflts.none hD hdf
 obtain rfl:kV= .none:=Dflts.noKw hD
 obtain⟨a,vs,ns,rfl,rfl,hobj,hints,hlen⟩:=qf hn hpre hwl
 refine enter_call (codeAny_mono (call w s₀ s₁ mg mb fa o pm cd doc a vs ns G Y ho (fd_plain hd) hcd hmg hobj hints hlen hg) λr s' hq=>?_)
 obtain⟨rfl,h2,h3,h4⟩:=hq
 exact⟨.inl ⟨.bool true,.bool true,[],rfl,λ_=>rfl,.bool true,qg l _,λ_=>⟨List.Pairwise.nil,λ_ hm=>(nomatch hm)⟩⟩,h2,h3,h4⟩
section
variable {prog:Program}{w:World}{A:Around}{E:Value->Shared->Prop}{s:Shared}{K:Frag}
end
end Att
namespace L2
open PySem PySem.Spec PyProof.Rows
theorem kz:∀ {vs:List Value} {ns:List Int},IntsAre vs ns->Vals (ns.map V.int) vs
 |_,_,.nil=> .nil
 |_,_,.cons n t h=> .cons ⟨t,rfl⟩ (kz h)
def Only(H:Hp):Prop:=∀ b,H b=none\/∃ o xs,H b=some (.frz o (.lst xs))
theorem qh{P:Program}{w:World}{K:xK}{mg mb:Str->Option Value}{CX:CXT}{k:Nat}{fa a:Addr}{fd:FuncData}{x:Str}{sp:Sp}{s₁:Shared}{vs:List Value}{ns:List Int}
  (KX:K.In s₁.heap) (hns:s₁.heap.Ns mainGlobals mg) (hb:s₁.heap.Ns builtinsNs mb) (hbb:∀ x:Str,x≠"__name__"->mb x=bootBuiltins x) (hlim:s₁.heap.NoLimit) (hg:s₁.gens=#[])
  (ha:s₁.heap.get? a=some {cls:= .type "list",data:= .seq vs.toArray}) (hi:IntsAre vs ns) (hl:ns.length<=sizeLine) (hr:Room k callerA)
  (F:∀ base:Heap,K.In base->base.Ns mainGlobals mg->FnOk P w K mg base CX k fa fd [x] sp) (hbind:∀ (s:Shared) (u:Value),BindsTo s fd ⟨[u],[]⟩ [(x,u)])
  (hsp:∀ H:Hp,Only H->SqL K H a (ns.map V.int)->sp [.ref a] H (λv _=>v= .bl true) λ_ _ _=>False)
  (hCX:∀ H e s',CX [] H s₁ (λ_ _ _=>False) e s'->False):
  codeAny (model P w) callerA (.call (.ref fa) ⟨[.ref a],[]⟩) (λr s'=>r= .ok (.ret (.bool true))/\OldK s₁.heap s'.heap/\s'.os=s₁.os/\AllBare s'.gens) s₁:=by
 have rv:=kz hi
 have lenV:=hi.length
 -- from an abstract heap in which nothing but the script may be tracked
 have core:∀ H:Hp,Only H->SqL K H a (ns.map V.int)->HOk P w H s₁.heap->(∀ b,H b≠none->b=a)->(H a≠none->K.lookup a=none)->
   codeAny (model P w) callerA (.call (.ref fa) ⟨[.ref a],[]⟩) (λr s'=>r= .ok (.ret (.bool true))/\OldK s₁.heap s'.heap/\s'.os=s₁.os/\AllBare s'.gens) s₁:=by
  intro H hO hS hok hA hK
  have base_of:∀ {b:Addr} {o:Obj},s₁.heap.get? b=some o->H b=none->(hidT s₁.heap H).get? b=some o:=λe n=>nN e n
  have noA:∀ {b:Addr} {o:Obj} {es:Array DictEntry} {ep:Nat},s₁.heap.get? b=some o->o.data= .dict es ep->H b=none:=λ{b o es ep} e d=>by
   cases q:H b with
   |none=>rfl
   |some u=>
    have e':b=a:=hA b (by rw[q];simp)
    subst e'
    rw[ha] at e;cases e
    have d':Data.seq vs.toArray _=Data.dict es ep:=d
    cases d'
  have nsK:∀ {b:Addr} {m:Str->Option Value},s₁.heap.Ns b m->(hidT s₁.heap H).Ns b m:=λ{b m} ⟨o,es,ep,e,d,r⟩=>⟨o,es,ep,base_of e (noA e d),d,r⟩
  have hKb:K.In (hidT s₁.heap H):=λb o e=>base_of (KX b o e) (by
   cases q:H b with
   |none=>rfl
   |some u=>
    have e':b=a:=hA b (by rw[q];simp)
    subst e'
    rw[hK (by rw[q];simp)] at e;cases e)
  have hM:Mod K mg (hidT s₁.heap H):=⟨hKb,nsK hns,⟨mb,nsK hb,hbb⟩,let ⟨mc,h1,h2⟩:=hlim;⟨mc,nsK h1,h2⟩⟩
  have e0:Env0 P w K mg (hidT s₁.heap H) callerA [] s₁ H:=⟨rfl,hM,λb o e=>nO e,zi (nM _ _),trivial,λb hb=>absurd (show b∈([]:List Addr) from hb) (by simp),hok,.of_eq hg⟩
  refine codeAny_mono ((F _ hKb (nsK hns)).run callerA [] s₁ H ⟨[.ref a],[]⟩ [.ref a] [.ref a] _ _ hr e0 (hbind s₁ (.ref a)) (.cons rfl .nil) (hsp H hO hS)) λr s' h=>?_
  cases r with
  |error e=>exact(hCX H e s' h).elim
  |ok fl=>
   cases fl with
   |next=>exact False.elim h
   |brk=>exact False.elim h
   |cont=>exact False.elim h
   |ret u=>
    obtain⟨v,H',os,bare,un,hok',r',q⟩:=h
    have q':v= .bl true:=q
    subst q'
    obtain rfl:u=Value.bool true:=r'
    refine⟨rfl,OldK.of_keep λb o e=>?_,os,bare⟩
    cases q:H b with
    |none=>exact un.keep b o e q (by intro z;exact absurd (show b∈([]:List Addr) from z) (by simp)) (by simp)
    |some u=>
     rcases hO b with z|⟨ob,xs,z⟩
     ·rw[q] at z;cases z
     ·have z2:=un.frzs b ob _ z
      obtain⟨e1,_⟩:=hok b _ z
      obtain⟨e2,_⟩:=hok' b _ z2
      rw[e] at e1;cases e1
      exact e2
 cases hk:K.lookup a with
 |some o=>
  -- the script is one of the module's own objects
  have e:=KX a o hk
  rw[ha] at e
  cases e
  refine core (λ_=>none) (λ_=> .inl rfl) (.inr ⟨_,vs.toArray,_,hk,rfl,rfl,rfl,by rw[xX,lenV];exact hl,by simpa using rv⟩) (λb u z=>by have z':(none:Option HO)=some u:=z;cases z') (λb z=>absurd rfl z) λz=>absurd rfl z
 |none=>
  refine core (λb=>if b=a then some (.frz {cls:= .type "list",data:= .seq vs.toArray} (.lst (ns.map V.int))) else none) (λb=>?_) (.inl (.inr ⟨{cls:= .type "list",data:= .seq vs.toArray},if_pos rfl⟩)) (λb u z=>?_) (λb z=>?_) λ_=>hk
  ·by_cases hb:b=a
   ·exact .inr ⟨_,_,if_pos hb⟩
   ·exact .inl (if_neg hb)
  ·by_cases hb:b=a
   ·have z':=(if_pos hb).symm.trans z
    cases z'
    subst hb
    exact⟨ha,by rw[yg];exact hl,vs,_,rv,ha⟩
   ·have z':=(if_neg hb).symm.trans z
    cases z'
  ·by_cases hb:b=a
   ·exact hb
   ·exact absurd (if_neg hb) z
end L2
namespace L2
open PySem PySem.Spec PyProof.Rows
theorem walk_of{l:zG}{n k:Nat}{q:Program}{loose:List Str}{XP:(Str->Option Value)->Heap->Prop}{YP:World->Heap->Prop}{d:DefRec}{K:Params->xK}{CX:World->CXT}{sp:World->Sp}{x:Str}
  (hn:l.most=some n) (hn2:n<=sizeLine) (hdf:d.params.defaults=[]) (hr:Room k callerA)
  (hY:∀ (w:World) (h:Heap),YP w h->(K w.params).In h)
  (F:∀ (w:World) (mg:Str->Option Value) (fa:Addr) (h:Heap),(K w.params).In h->h.Ns mainGlobals mg->mg d.name=some (.ref fa)->
   ∃ fd:FuncData,(∀ (s:Shared) (u:Value),BindsTo s fd ⟨[u],[]⟩ [(x,u)])/\
    ∀ base:Heap,(K w.params).In base->base.Ns mainGlobals mg->FnOk l.prog w (K w.params) mg base (CX w) k fa fd [x] (sp w))
  (hsp:∀ (w:World) (H:Hp) (a:Addr) (ns:List Int),ns.length<=n->Only H->SqL (K w.params) H a (ns.map V.int)->sp w [.ref a] H (λv _=>v= .bl true) λ_ _ _=>False)
  (hCX:∀ (w:World) (H:Hp) (s:Shared) (e:Value) (s':Shared),CX w [] H s (λ_ _ _=>False) e s'->False):
  Af q loose XP YP l.row.toRowW d [] (λf vs=>PySem.call f vs):=by
 refine Att.attach_call hn hdf λw s₀ s₁ mg mb fa o pm cd doc a vs ns G Y ho hd hcd hmg hobj hints hlen hg=>?_
 have KX:=hY w _ Y
 obtain⟨fd,hb,hF⟩:=F w mg fa _ KX G.T.g hmg
 exact qh KX G.T.g G.T.b G.T.builtins G.T.nolimit hg hobj hints (xU hlen hn2) hr hF hb (λH hO hS=>hsp w H a ns hlen hO hS) λH e s'=>hCX w H s₁ e s'
end L2
namespace L2
open PySem PySem.Spec PyProof.Rows
def aP(s:Stmt)(j:Nat):Stmt:=match s with
 | .ClassDef _ _ _ body _ _ _ _ _ _ _=>body.getD j (.Pass ⟨0,0,0,0⟩)
 |_=> .Pass ⟨0,0,0,0⟩
def aX(s:Stmt):Arguments:=match s with
 | .FunctionDef _ a _ _ _ _ _ _ _ _=>a
 |_=>{posonlyargs:=[],args:=[],vararg:=none,kwonlyargs:=[],kw_defaults:=[],kwarg:=none,defaults:=[]}
def aA(s:Stmt):List Stmt:=match s with
 | .FunctionDef _ _ b _ _ _ _ _ _ _=>b
 |_=>[]
def ad(s:Stmt):Scope:=match s with
 | .FunctionDef _ _ _ _ _ _ sc _ _ _=>sc
 |_=>{kind:= .function,names:=[],isGenerator:=false,isCoroutine:=false}
abbrev CX0:CXT:=λ_ _ _ _ _ _=>False
abbrev E0:XK:=λ_ _ _=>False
structure Fun(K:xK)(x qual:Str)(st:Stmt)(f:Addr)(fd:FuncData):Prop where
 ex:∃ (oc:Value) (od:Option Addr) (kV doc pm:Value) (an:Option Addr) (cdv ct:Value) (osl:Array (Option Value)),
  fd=fnOf x qual (aX st) (aA st) (ad st) .none kV doc pm an cdv ct/\K.lookup f=some ⟨oc,od,.func fd,osl⟩/\codeIn K cdv qual=true
 kp:keepIn K (.ref f)=true
section
variable {P:Program}{w:World}{K:xK}{mg:Str->Option Value}{base:Heap}
theorem Fun.ok{x qual:Str}{st:Stmt}{f:Addr}{fd:FuncData}{N ps:List Str}{k:Nat}{sp:Sp}(F:Fun K x qual st f fd)(S:FnScope N ps (ad st))(len:∀ vs H Q E,sp vs H Q E->vs.length=ps.length)
  (hbody:∀ (cdv:Value) (A:Around) (outer:List Env) (s:Shared) (H:Hp) (vs:List V) (Q:VK) (E:XK),Room k (A.deeper (envOfC qual (ad st) s.heap.objs.size f cdv))->sp vs H Q E->
   ∃ t,PSs (cxOf CX0 P w K mg base N qual (ad st) f cdv A outer s H E).nox (aA st) t/\t {nx:=λ_ H'=>Q .non H',rt:=Q} (start N vs) H):FnOk P w K mg base CX0 (k+1) f fd ps sp:=by
 obtain⟨oc,od,kV,doc,pm,an,cdv,ct,osl,rfl,lk,hcd⟩:=F.ex
 refine ki lk hcd S len λA outer s H vs Q E hr hsp=>?_
 obtain⟨t,h,q⟩:=hbody cdv A outer s H vs Q E hr hsp
 exact⟨t,h.nox,q⟩
theorem Fun.binds{x qual:Str}{st:Stmt}{f:Addr}{fd:FuncData}{ps:List Str}(F:Fun K x qual st f fd)
  (h:∀ (kV doc pm:Value) (an:Option Addr) (cdv ct:Value) (us:List Value),us.length=ps.length->bindArgs (fnOf x qual (aX st) (aA st) (ad st) .none kV doc pm an cdv ct) ⟨us,[]⟩=pure (ps.zip us)):Binds K fd ps []:=by
 obtain⟨oc,od,kV,doc,pm,an,cdv,ct,osl,rfl,lk,hcd⟩:=F.ex
 exact .all (h kV doc pm an cdv ct)
theorem dO{x qual:Str}{st:Stmt}{f:Addr}{oc:Value}{od an:Option Addr}{osl:Array (Option Value)}{kV doc pm cdv ct:Value}(l:K.lookup f=some ⟨oc,od,.func (fnOf x qual (aX st) (aA st) (ad st) .none kV doc pm an cdv ct),osl⟩)
  (c:codeIn K cdv qual=true) (k:keepIn K (.ref f)=true):Fun K x qual st f (fnOf x qual (aX st) (aA st) (ad st) .none kV doc pm an cdv ct):=⟨⟨oc,od,kV,doc,pm,an,cdv,ct,osl,rfl,l,c⟩,k⟩
end
theorem qi{A:Around}{k:Nat}(hr:Room k A):A.units+1<cLine:=Ag (Nat.add_le_add_left (by decide:1<=64) _) hr.units
theorem qj{n:Nat}(h:n<=1000):n<sizeLine:=Ag h (by decide)
section
variable {X:Cx}
theorem pv(i:Nat){x:Str}{pos:Pos}(hN:X.N[i]?=some x:=by rfl)(hv:Vis X.env.scope x:=by first|exact Or.inl rfl|exact Or.inr (Or.inl rfl)|exact Or.inr (Or.inr rfl))(hd:zND x:=by decide)
  (hcd:zNC x:=by decide):PE X (.Name x pos) (tVar i):=cu hN hv hd hcd
end
theorem ite2{c A B:Prop}[Decidable c](h1:c->A)(h2:¬ c->B):if c then A else B:=by
 by_cases h:c
 ·rw[if_pos h]
  exact h1 h
 ·rw[if_neg h]
  exact h2 h
def Same(H H':Hp):Prop:=∀ b o,H b=some o->H' b=some o
theorem Same.refl(H:Hp):Same H H:=λ_ _ h=>h
theorem Same.trans{H H1 H2:Hp}(a:Same H H1)(b:Same H1 H2):Same H H2:=λc o h=>b c o (a c o h)
theorem Same.free{H H':Hp}(e:Same H H'){l:Addr}(h:H' l=Option.none):H l=Option.none:=by
 cases q:H l with
 |none=>rfl
 |some o=>
  rw[e l o q] at h
  cases h
theorem Same.seq{K:xK}{H H':Hp}{a:Addr}{xs:List V}(e:Same H H')(h:SqL K H a xs):SqL K H' a xs:=by
 rcases h with(h|⟨o,h⟩)|h
 ·exact .inl (.inl (e _ _ h))
 ·exact .inl (.inr ⟨o,e _ _ h⟩)
 ·exact .inr h
end L2
end
section
namespace L2
open PySem PySem.Spec PyProof.Rows
section
variable {κ:Type}[DecidableEq κ]
def valV(kvs:List (κ × V))(k:κ):Option V:=(kvs.find? λkv=>decide (kv.1=k)).map (·.2)
def putK(kvs:List (κ × V))(k:κ)(v:V):List (κ × V):=
 if(kvs.any λkv=>decide (kv.1=k))=true then kvs.map (λkv=>if kv.1=k then(kv.1,v) else kv) else kvs++[(k,v)]
theorem fX{p:κ × V}{r:List (κ × V)}{k:κ}(e:p.1=k):valV (p::r) k=some p.2:=by simp[valV,yQ,e]
theorem fY{p:κ × V}{r:List (κ × V)}{k:κ}(e:¬ p.1=k):valV (p::r) k=valV r k:=by simp[valV,yQ,e]
theorem RelO.getD{o:Option V}{u:Option Value}{d:V}{d':Value}(r:RelO o u)(rd:RelV d d'):RelV (o.getD d) (u.getD d'):=by
 cases o with
 |none=>cases u with
  |none=>exact rd
  |some _=>exact(show False from r).elim
 |some _=>cases u with
  |none=>exact(show False from r).elim
  |some _=>exact r
theorem KV.val{kvs:List (κ × V)}{vs:List (κ × Value)}(r:KV kvs vs)(k:κ):RelO (valV kvs k) (valueAt vs k):=by
 unfold KV at r
 induction r with
 |nil=>exact True.intro
 |@cons p q ps qs h t ih=>
  obtain⟨h1,h2⟩:=h
  by_cases e:p.1=k
  ·have e':q.1=k:=h1.symm.trans e
   have b:valueAt (q::qs) k=some q.2:=by simp[valueAt,yQ,e']
   rw[fX e,b];exact h2
  ·have e':¬ q.1=k:=λz=>e (h1.trans z)
   have b:valueAt (q::qs) k=valueAt qs k:=by simp[valueAt,yQ,e']
   rw[fY e,b];exact ih
theorem KV.any{kvs:List (κ × V)}{vs:List (κ × Value)}(r:KV kvs vs)(k:κ):(kvs.any λkv=>decide (kv.1=k))=vs.any λkv=>decide (kv.1=k):=by
 unfold KV at r
 induction r with
 |nil=>rfl
 |cons h t ih=>rw[yO,yO,ih,h.1]
theorem KV.keys{kvs:List (κ × V)}{vs:List (κ × Value)}(r:KV kvs vs):kvs.map (·.1)=vs.map (·.1):=by
 unfold KV at r
 induction r with
 |nil=>rfl
 |cons h t ih=>rw[yc,yc,ih,h.1]
theorem KV.length{kvs:List (κ × V)}{vs:List (κ × Value)}(r:KV kvs vs):kvs.length=vs.length:=Paired.length r
end
theorem qk{P:Program}{w:World}{k:Key}{u:Value}(r:RelV (kV k) u):(bu P w).is k u=true:=by
 cases k with
 |inl i=>obtain⟨t,e⟩:=(show ∃ t,u=Value.int i t from r);subst e;exact mixKind_int P w i t
 |inr x=>obtain⟨t,e⟩:=(show ∃ t,u=Value.str x t from r);subst e;exact nJ P w x t
theorem kA{P:Program}{w:World}:∀ {ks:List Key} {us:List Value},Vals (ks.map kV) us->ItemsAre (bu P w) ks us
 |[],_,r=>by rw[zF] at r;cases r;exact .nil
 |k::ks,_,r=>by
  rw[yc] at r
  cases r with
  |cons h t=>exact .cons (qk h) (kA t)
abbrev KT(H:Hp):List (List Key × V)->List (List Key × Addr × Value)->Prop:=Paired λp q=>p.1=q.1/\H q.2.1=some (.tup (p.1.map kV))/\RelV p.2 q.2.2
theorem KT.val{H:Hp}{kvs:List (List Key × V)}{xs:List (List Key × Addr × Value)}(r:KT H kvs xs)(k:List Key):RelO (valV kvs k) ((atKey xs k).map (·.2)):=by
 induction r with
 |nil=>exact True.intro
 |@cons p q ps qs h t ih=>
  obtain⟨h1,_,h2⟩:=h
  by_cases e:p.1=k
  ·have e':q.1=k:=h1.symm.trans e
   have b:atKey (q::qs) k=some q.2:=by simp[atKey,yQ,e']
   rw[fX e,b];exact h2
  ·have e':¬ q.1=k:=λz=>e (h1.trans z)
   have b:atKey (q::qs) k=atKey qs k:=by simp[atKey,yQ,e']
   rw[fY e,b];exact ih
theorem KT.keeps{H H':Hp}{kvs:List (List Key × V)}{xs:List (List Key × Addr × Value)}(r:KT H kvs xs)(ht:∀ b ys,H b=some (.tup ys)->H' b=some (.tup ys)):KT H' kvs xs:=
 Paired.mapP r λ_ _ z=>⟨z.1,ht _ _ z.2.1,z.2.2⟩
section
variable {P:Program}{w:World}{H:Hp}{h:Heap}{a:Addr}
theorem ql{u:HO}(ok:HOk P w H h)(e:Rd H a u):ObjOk P w H h a u:=e.ok ok
theorem key_of{ks:List Key}(ok:HOk P w H h)(e:H a=some (.tup (ks.map kV))):(tupleKind (bu P w)).is h ks a:=by
 obtain⟨_,its,r,o,h1,h2,n,h3⟩:=(show ObjOk P w H h a (.tup (ks.map kV)) from ok a _ e)
 exact⟨o,its.toArray,n,h1,h2,h3,by simpa using kA r⟩
theorem qm{kvs:List (List Key × V)}(ok:HOk P w H h)(e:Rd H a (.dT kvs)):kvs.length<=sizeLine/\(a==sysModules)=false/\
  ∃ xs,KT H kvs xs/\h.DictOfH (tupleKind (bu P w)) a xs:=by
 obtain⟨z,y,xs,r,o,es,ep,h1,h2,h3,h4,h5⟩:=(show ObjOk P w H h a (.dT kvs) from ql ok e)
 refine⟨z,y,xs,r,o,es,ep,h1,h2,h3,h4,λx hx=>?_,h5⟩
 have all:∀ {l:List (List Key × V)} {m:List (List Key × Addr × Value)},KT H l m->∀ x∈m,(tupleKind (bu P w)).is h x.1 x.2.1:=by
  intro l m q
  induction q with
  |nil=>intro x hx;exact nomatch hx
  |@cons p q ps qs hq t ih=>
   intro x hx
   rcases xP.mp hx with e|hx
   ·subst e
    exact key_of ok (by rw[<- hq.1];exact hq.2.1)
   ·exact ih x hx
 exact all r x hx
theorem qo{kvs:List (List Key × V)}(ok:HOk P w H h)(e:H a=some (.dT kvs)):kvs.length<=sizeLine/\(a==sysModules)=false/\
  ∃ xs,KT H kvs xs/\h.DictOfH (tupleKind (bu P w)) a xs:=qm ok (.inl e)
end
def DGet(H:Hp)(a:Addr)(y:V)(r:Option V):Prop:=
 (∃ kvs k,Rd H a (.dK kvs)/\y=kV k/\r=valV kvs k)\/∃ kvs k b,Rd H a (.dT kvs)/\y= .ref b/\H b=some (.tup (k.map kV))/\r=valV kvs k
def DPut(H:Hp)(a:Addr)(y v:V)(H':Hp):Prop:=
 (∃ kvs k,H a=some (.dK kvs)/\y=kV k/\kvs.length<sizeLine/\H'=upd H a (.dK (putK kvs k v)))\/
 ∃ kvs k b,H a=some (.dT kvs)/\y= .ref b/\H b=some (.tup (k.map kV))/\kvs.length<sizeLine/\H'=upd H a (.dT (putK kvs k v))
theorem DGet.k{H:Hp}{a:Addr}{kvs:List (Key × V)}{k:Key}(e:H a=some (.dK kvs)):DGet H a (kV k) (valV kvs k):= .inl ⟨kvs,k,.inl e,rfl,rfl⟩
theorem DGet.t{H:Hp}{a b:Addr}{kvs:List (List Key × V)}{k:List Key}(e:H a=some (.dT kvs))(eb:H b=some (.tup (k.map kV))):DGet H a (.ref b) (valV kvs k):= .inr ⟨kvs,k,b,.inl e,rfl,eb,rfl⟩
theorem DPut.k{H:Hp}{a:Addr}{kvs:List (Key × V)}{k:Key}{v:V}(e:H a=some (.dK kvs))(hl:kvs.length<sizeLine):DPut H a (kV k) v (upd H a (.dK (putK kvs k v))):= .inl ⟨kvs,k,e,rfl,hl,rfl⟩
theorem DPut.t{H:Hp}{a b:Addr}{kvs:List (List Key × V)}{k:List Key}{v:V}(e:H a=some (.dT kvs))(eb:H b=some (.tup (k.map kV)))(hl:kvs.length<sizeLine):
  DPut H a (.ref b) v (upd H a (.dT (putK kvs k v))):= .inr ⟨kvs,k,b,e,rfl,eb,hl,rfl⟩
section
variable {X:Cx}{pins:List (Addr × Obj)}{σ:St}{H:Hp}{s:Shared}{a:Addr}{y v:V}{u r:Value}{o:Option V}{A:Around}{E:Value->Shared->Prop}
theorem Inv.big(I:Inv X pins σ H s):sysModules<s.heap.objs.size:=by
 have h:mainGlobals<s.heap.objs.size:=(I.mod.glob.keeps I.bk).lt
 exact Nat.lt_trans (by decide) h
theorem qp{h':Heap}{t':Nat}{ob:HO}(I:Inv X pins σ H s)(mu:Mut (H a))(hs:Heap.SameBut a s.heap h')(he:∃ q,h'.get? a=some q)(new:ObjOk X.prog X.w (upd H a ob) h' a ob):
  Inv X pins σ (upd H a ob) {s with heap:=h',toks:=t'}:=
 I.write (x:=a) (e:=a) mu (.inl rfl) (λb q hb z=>(hs.2 b hb).trans z) he new
end
section
variable {X:Cx}{pins:List (Addr × Obj)}{σ:St}{H:Hp}{s:Shared}{a:Addr}{kvs:List (Key × V)}{k:Key}{u:Value}{A:Around}{E:Value->Shared->Prop}
end
section
variable {X:Cx}{o i e value:Expr}{pos pos' tpos:Pos}{td ty tv:TE}
end
theorem qq{P:Program}{w:World}{H:Hp}(h:Heap)(hb:sysModules<h.objs.size):ObjOk P w H (h.push {cls:= .type "dict",data:= .dict #[]}) h.objs.size (.dT []):=
 ⟨yj _,beq_eq_false_iff_ne.mpr (Ne.symm (xQ hb)),[],.nil,_,#[],0,Heap.get?_push_size _ rfl,⟨rfl,rfl,rfl⟩,rfl,rfl,Ah⟩
def qr:TE:=λ_ H Q=>∀ p,H p=none->Q (.ref p) (upd H p (.dT []))
section
variable {X:Cx}{pos:Pos}
theorem pe_dnewT:PE X (.Dict [] [] pos) qr:=λpins s σ H Q I h=>
 wpAny_Dict_empty ⟨.ref s.heap.objs.size,_,I.laid (a:=s.heap.objs.size) (o:= .dT []) (t':=s.toks) (λ_ _ q=>Heap.get?_push_of_some _ q) (xM _) (qq s.heap I.big),rfl,h _ (I.hok.fresh (xM _))⟩
end
structure M1(X:Cx)(o:Expr)(m:Str)(apos:Pos)(e:Expr)(cpos:Pos):Prop where
 base:attributeBase o m X.env (eval o X.env)=eval o X.env
 few:((backTo cpos (starEach [e] X.env)).all (λx=>!x.1) && (backToKw cpos (keywordEach [] X.env)).all (λx=>x.1.isSome)
  && decide (([e]:List Expr).length+([]:List Keyword).length+(if([]:List Keyword).isEmpty then 0 else 1)<30))=true
 line:(apos.endLine==cpos.line)=true
 trees:backTo cpos (starEach [e] X.env)=[(false,eval e X.env)]
structure M2(X:Cx)(o:Expr)(m:Str)(apos:Pos)(e f:Expr)(cpos:Pos):Prop where
 base:attributeBase o m X.env (eval o X.env)=eval o X.env
 few:((backTo cpos (starEach [e,f] X.env)).all (λx=>!x.1) && (backToKw cpos (keywordEach [] X.env)).all (λx=>x.1.isSome)
  && decide (([e,f]:List Expr).length+([]:List Keyword).length+(if([]:List Keyword).isEmpty then 0 else 1)<30))=true
 line:(apos.endLine==cpos.line)=true
 trees:backTo cpos (starEach [e,f] X.env)=[(false,eval e X.env),(false,eval f X.env)]
section
variable {X:Cx}{pins:List (Addr × Obj)}{σ:St}{H:Hp}{s:Shared}{a:Addr}{y d:V}{u r:Value}{o:Option V}{A:Around}{E:Value->Shared->Prop}
end
section
variable {X:Cx}{o e f:Expr}{apos cpos:Pos}{td ty tx:TE}
end
section
variable {X:Cx}{pins:List (Addr × Obj)}{σ:St}{H:Hp}{s:Shared}{a:Addr}{kvs:List (Key × V)}{A:Around}{E:Value->Shared->Prop}
end
section
variable {X:Cx}{pins:List (Addr × Obj)}{σ:St}{H:Hp}{s:Shared}{a:Addr}{y:V}{u:Value}{A:Around}{E:Value->Shared->Prop}
end
end L2
end
section
open PySem PySem.Spec PyProof.Rows L2
namespace Exc
open PySem PySem.Spec PyProof.Rows PySem.W L2
def az:List Value->Bool
 | .ref _::r=>az r
 |l=>l==[.type "ValueError",.type "Exception",.type "BaseException",.type "object"]
theorem kB(self:Value):∀ {l:List Value},az l=true->refuseLoop self "__setattr__" l=pure ()
 | .ref c::r,e=>by rw[refuseLoop_ref];exact kB self (by unfold az at e;exact e)
 |[],e=>by simp[az] at e
 | .type n::r,e=>by
  have e':(Value.type n::r)=[.type "ValueError",.type "Exception",.type "BaseException",.type "object"]:=by simpa[az] using e
  rw[e']
  exact PySem.F.store_ValueError.passes self
 | .none::r,e=>by simp[az] at e
 | .bool _::r,e=>by simp[az] at e
 | .int _ _::r,e=>by simp[az] at e
 | .float _ _::r,e=>by simp[az] at e
 | .str _ _::r,e=>by simp[az] at e
 | .bytes _ _::r,e=>by simp[az] at e
 | .builtin _::r,e=>by simp[az] at e
theorem df{T:String}(hT:[Value.type "ValueError",.type "Exception",.type "BaseException",.type "object"].contains (.type T)=true):∀ {l:List Value},az l=true->l.contains (.type T)=true
 | .ref c::r,e=>by rw[zH,df hT (l:=r) (by unfold az at e;exact e),yU]
 |[],e=>by simp[az] at e
 | .type n::r,e=>by
  have e':(Value.type n::r)=[.type "ValueError",.type "Exception",.type "BaseException",.type "object"]:=by simpa[az] using e
  rw[e'];exact hT
 | .none::r,e=>by simp[az] at e
 | .bool _::r,e=>by simp[az] at e
 | .int _ _::r,e=>by simp[az] at e
 | .float _ _::r,e=>by simp[az] at e
 | .str _ _::r,e=>by simp[az] at e
 | .bytes _ _::r,e=>by simp[az] at e
 | .builtin _::r,e=>by simp[az] at e
section
variable {prog:Program}{w:World}{A:Around}{E:Value->Shared->Prop}{s:Shared}{K:xK}{x C:Addr}{ox:Obj}{cd:ClassData}{name:Str}{v:Value}{vs:Array Value}
theorem qt{Q:Unit->Shared->Prop}(X:K.In s.heap)(hx:s.heap.get? x=some ox)(hcl:ox.cls= .ref C)(hdt:ox.data= .fields vs)(hd:ox.dict=none)(hc:clsIn K C=some cd)(hm:az cd.mro=true)(hh:cd.hasDict=true)
  (hs:findIn K (.ref C) "__setattr__"=some (some (.builtin "object.__setattr__"))) (hf:findIn K (.ref C) name=some none)
  (h:∀ h',h'.get? x=some {ox with dict:=some s.heap.objs.size}->h'.Ns1 s.heap.objs.size (λy=>if y=name then some v else none)->(∀ b o,b≠x->s.heap.get? b=some o->h'.get? b=some o)->∀ tk,Q () {s with heap:=h',toks:=tk}):
  wpAny (model prog w) A (setAttr (.ref x) name v) Q E s:=by
 have hn:notCls ox=true:=by unfold notCls;rw[hdt]
 have I:InstAt s.heap x ox C none:=⟨hx,hcl,hn,by rw[hd];trivial⟩
 refine set_plain X I hs ?_
 have SF:=PySem.F.store_object
 have ne:cd.mro.isEmpty=false:=by cases q:cd.mro with|nil=>rw[q] at hm;simp[az] at hm|cons _ _=>rfl
 have sub:Looks (model prog w) s.heap (isInstance (.ref x) (.type "object")) true:=I.type.andThen (looks_mroIn X (by unfold mroIn;rw[hc,zn,if_neg (by rw[ne];decide),df (by decide+kernel) hm]))
 refine codeAny_call_builtin SF.slot.plain SF.entry (@check_slot (model prog w) _ _ _ "object.__setattr__" "object" "__setattr__" (.ref x) [.str name s.toks,v] [] _ SF.kind SF.split sub (SF.args (.ref x) (.str name s.toks) v) ?_)
 have hm':Looks (model prog w) s.heap (mroOf (.ref C)) cd.mro:=(looks_clsIn X hc).andThen .now
 rw[osa_eq,refuse_eq]
 refine wpAny_bind (wpAny_bind (I.type.here (s:={s with toks:=s.toks+1}) (wpAny_bind (hm'.here (s:={s with toks:=s.toks+1}) ?_))))
 rw[kB _ hm]
 refine wpAny_pure (wpAny_bind (I.type.here (s:={s with toks:=s.toks+1}) (wpAny_bind ((looks_findIn X hf).here (s:={s with toks:=s.toks+1}) (wpAny_bind (Looks.now.here (s:={s with toks:=s.toks+1}) ?_))))))
 obtain⟨oc,odi,oda,osl⟩:=ox
 dsimp only at hcl hd hdt
 subst hcl hd hdt
 refine wpAny_bind (wpAny_pure (wpAny_bind (wpAny_bind (wpAny_loadPart hx (wpAny_bind ((looks_clsIn X hc).here (s:={s with toks:=s.toks+1}) ?_))))))
 rw[hh]
 rw[if_neg (by decide)]
 have hx₁:(s.heap.push {cls:= .type "dict",data:= .dict #[]}).get? x=some ⟨.ref C,none,.fields vs,osl⟩:=Heap.get?_push_of_some _ hx
 have hxs:x≠s.heap.objs.size:=xQ (Heap.lt_size hx)
 show wpAny _ _ (do
  let d <- alloc {cls:=Value.type "dict",data:=Data.dict #[]}
  update x λo=>{cls:=o.cls,dict:=some d,data:=o.data,slots:=o.slots}
  dictMade (.ref C) x d) _ _ _
 refine wpAny_bind (wpAny_alloc' ?_)
 refine wpAny_bind (wpAny_update' hx₁ ?_)
 refine wpAny_pure ?_
 have hgd:((s.heap.push {cls:= .type "dict",data:= .dict #[]}).update x λo=>{cls:=o.cls,dict:=some s.heap.objs.size,data:=o.data,slots:=o.slots}).get? s.heap.objs.size
   =some {cls:= .type "dict",data:= .dict #[]}:=
  (Heap.get?_update_ne _ _ _ _ hxs.symm).trans (Heap.get?_push_at rfl rfl)
 have hnd:((s.heap.push {cls:= .type "dict",data:= .dict #[]}).update x λo=>{cls:=o.cls,dict:=some s.heap.objs.size,data:=o.data,slots:=o.slots}).Ns s.heap.objs.size (λ_=>none):=
  ⟨_,#[],_,hgd,rfl,λe he=>absurd he (by simp),λ_=>rfl⟩
 show wpAny _ _ (Builtin.ObjectAttr.storeInDict s.heap.objs.size (.str name s.toks) name v) _ _ _
 unfold Builtin.ObjectAttr.storeInDict Builtin.ObjectAttr.newKeyGuard
 refine wpAny_bind (wpAny_pure (wpAny_bind (wpAny_nsSet1 (Heap.Ns1.of_empty hnd) λh' hn' hs=>?_)))
 obtain⟨oD,esD,epD,hoD,hdD,hcD⟩:=hn'.count (Within.cons name v Within.nil)
 refine wpAny_bind (wpAny_lookBehind hoD (by rw[hdD];exact pastItsLine_dict (xU hcD (by rw[xN,yV,sizeLine_eq];omega))) ?_)
 refine wpAny_pure (h h' ?_ hn' (λb o hb q=>?_) _)
 ·exact(hs.2 x hxs).trans (Heap.get?_update_self _ hx₁ rfl)
 ·exact(hs.2 b (xQ (Heap.lt_size q))).trans ((Heap.get?_update_ne _ _ _ _ hb).trans (Heap.get?_push_of_some _ q))
theorem qu{Q:Value->Shared->Prop}{od:Obj}{expr:Bool}(X:K.In s.heap)(I:InstAt s.heap x ox C (some od))(hc:clsIn K C=some cd)(hm:az cd.mro=true)
  (hga:findIn K (.ref C) "__getattribute__"=some (some (.builtin "BaseException.__getattribute__"))) (hgb:findIn K (.ref C) "__getattr__"=some none)
  (hf:findObj K C (some od) name=some (.value v)) (hh:handedIn v=true) (h:∀ tk,Q v {s with toks:=tk}):wpAny (model prog w) A (getAttr (.ref x) name expr) Q E s:=by
 have FB:=PySem.F.attr_ValueError
 obtain⟨hp,g,d,t,os⟩:=s
 have L0:=I.type (M:=model prog w)
 have L1:=looks_findIn (M:=model prog w) X hga
 have L2:=looks_findIn (M:=model prog w) X hgb
 have L3:=looks_find (M:=model prog w) X I hf
 have f3:=FB.ga.bind (.ref x)
 have ne:cd.mro.isEmpty=false:=by cases q:cd.mro with|nil=>rw[q] at hm;simp[az] at hm|cons _ _=>rfl
 have sub:Looks (model prog w) hp (isInstance (.ref x) (.type "BaseException")) true:=I.type.andThen (looks_mroIn X (by unfold mroIn;rw[hc,zn,if_neg (by rw[ne];decide),df (by decide+kernel) hm]))
 unfold getAttr getAttrBy
 refine wpAny_bind (wpAny_mkText (wpAny_holding (wpAny_bind (L0.at (wpAny_bind (L1.at ?_))))))
 dsimp only
 have hx1:(onTheHeap (Value.ref C) && Value.builtin "BaseException.__getattribute__"==Value.builtin "object.__getattribute__")=false:=by
  have hx2:(Value.builtin "BaseException.__getattribute__"==Value.builtin "object.__getattribute__")=false:=by decide+kernel
  rw[hx2];rfl
 have hx0:(expr && onTheHeap (Value.builtin "BaseException.__getattribute__"))=false:=by cases expr<;>rfl
 rw[hx1,if_neg xS]
 unfold getAttrByItsOwn hookBefore
 rw[show onTheHeap (Value.ref C)=true from rfl,if_pos rfl]
 refine wpAny_bind (L2.at ?_)
 unfold callGetattribute
 rw[hx0,if_neg xS]
 unfold boundAndCalled
 refine wpAny_bind (wpAny_attempt (wpAny_holding (wpAny_bind (wpAny_of_eq f3 ?_))))
 refine wpAny_call (codeAny_call_builtin FB.ga.plain PySem.F.entry_bexc_ga (@check_slot (model prog w) _ _ _ "BaseException.__getattribute__" "BaseException" "__getattribute__" (.ref x) [.str name t] [] _ (by decide+kernel) (by decide+kernel) sub (PySem.F.args_bexc_ga _ _) ?_))
 unfold Builtin.«object.__getattribute__»
 refine wpAny_bind (wpAny_of_eq (a:=(Value.ref x,[Value.str name t])) rfl ?_)
 refine wpAny_bind (wpAny_of_eq (a:=name) rfl ?_)
 refine wpAny_bind (L0.at (wpAny_bind (L3.at ?_)))
 refine wpAny_pure ?_
 show wpAny _ _ (handedOut v) _ _ _
 rw[handedOut_of hh];exact wpAny_pure (h _)
theorem qv{Q:Value->Shared->Prop}{rest:List Value}{t0:Addr}{a1 a2 a3 a4 a5:Value}(X:K.In s.heap)(hx:s.heap.get? x=some ox)(hcl:ox.cls= .ref C)(hdt:ox.data= .fields #[.ref t0,a1,a2,a3,a4,a5])(hc:clsIn K C=some cd)(hm:az cd.mro=true)(hl:rest.length<=sizeLine)
  (h:∀ h',h'.get? x=some {ox with data:= .fields #[.ref s.heap.objs.size,a1,a2,a3,a4,a5]}->(∀ b o,b≠x->s.heap.get? b=some o->h'.get? b=some o)->Q .none {s with heap:=h'}):
  wpAny (model prog w) A (call (.builtin "ValueError.__init__") (.ref x::rest)) Q E s:=by
 have F:=PySem.F.excBase_ValueError
 have hn:notCls ox=true:=by unfold notCls;rw[hdt]
 have ht:Looks (model prog w) s.heap (typeOf (.ref x)) (.ref C):=hcl ▸ (Looks.ld hx).andThen .now
 have ne:cd.mro.isEmpty=false:=by cases q:cd.mro with|nil=>rw[q] at hm;simp[az] at hm|cons _ _=>rfl
 have sub:Looks (model prog w) s.heap (isInstance (.ref x) (.type "ValueError")) true:=ht.andThen (looks_mroIn X (by unfold mroIn;rw[hc,zn,if_neg (by rw[ne];decide),df (by decide+kernel) hm]))
 have chk:∀ {Q:Unit->Shared->Prop} {E:Value->Shared->Prop} {A:Around},Q () s->wpAny (model prog w) A (checkBuiltinCall "ValueError.__init__" ⟨.ref x::rest,[]⟩) Q E s:=λ{Q E A} hq=>by
  have hshort:=F.noStar
  simp only[checkBuiltinCall,F.initKind,F.initSplit,F.initRow]
  refine wpAny_bind (sub.here ?_)
  obtain⟨hp,g,d,t,os⟩:=s
  have Lc:=looks_clsIn (M:=model prog w) X hc
  repeat(first|(with_reducible refine wpAny_loadPart_at hx ?_;rw[hcl])|(with_reducible refine Lc.here ?_)|wp_step)
  refine wpAny_onRaise ?_
  rw[show ∀ (a b:String) (n:Nat),Bind.check ⟨.positional,"*","ValueError",.self,[⟨"args",.varPos,false⟩]⟩ a b n (yR (λx=>x.fst) ({pos:=Value.ref x::rest}:Args).kw)=pure () from
   λa b n=>check_star_args _ _ _ _ _ _]
  exact wpAny_pure hq
 refine wpAny_call (codeAny_call_builtin F.init.plain F.initEntry (chk ?_))
 obtain⟨hp,g,d,t,os⟩:=s
 obtain⟨oc,odi,oda,osl⟩:=ox
 dsimp only at hcl hdt hx h
 subst hcl hdt
 wp_walk
 have hx₁:=Heap.get?_push_of_some {cls:=Value.type "tuple",data:=Data.seq rest.toArray} hx
 refine h _ ?_ (λb o hb q=>?_)
 ·rw[Heap.get?_update_self _ hx₁ rfl];rfl
 ·rw[Heap.get?_update_other _ _ (Ne.symm hb)]
  exact Heap.get?_push_of_some _ q
end
end Exc
end
section
open PySem PySem.Spec PyProof.Rows L2
namespace Exc
open PySem PySem.Spec PyProof.Rows PySem.W L2
abbrev veLine:List Value:=[.type "ValueError",.type "Exception",.type "BaseException",.type "object"]
section
variable {prog:Program}{w:World}{A:Around}{E:Value->Shared->Prop}{h:Heap}{g:Array GenState}{d:Drawn}{t:Nat}{os:OsState}{K:xK}
variable {nm q:Str}{C N fI:Addr}{bs bm:List Value}{hdct:Bool}{sn:List Str}{sub:List Value}{ab:Bool}{col:Option Bool}{dd:Option Addr}{k0 k1 k2 k3 k5:Option Value}{rest:List Value}
theorem qw{Q:Fin->Shared->Prop}(X:K.In h)(T:OwnTail h veLine bm)(hC:h.get? C=some (excClassObj nm q C N bs bm hdct sn sub ab col dd k0 k1 k2 k3 k5 "ValueError.__new__"))
  (hi:findIn K (.ref C) "__init__"=some (some (.ref fI))) (hf:typeIn K (.ref fI)=some (.type "function"))
  (hq:∀ h' e,Heap.MadeExcOf h h' e (.ref C) rest->wpAny (model prog w) A (call (.ref fI) (.ref e::rest)) (λr s'=>r= .none/\Q (.done (.ret (.ref e))) s') E ⟨h',g,d,t,os⟩) (hl:rest.length<=sizeLine):
  wpAny (model prog w) A (Builtin.«type.__call__» ⟨.ref C::rest,[]⟩) Q E ⟨h,g,d,t,os⟩:=by
 have F:=PySem.F.excBase_ValueError
 repeat(first|(with_reducible refine wpAny_loadPart_at hC ?_)|(with_reducible refine wpAny_madeBy_exc hC ?_)|wp_step)
 refine codeAny_call_builtin_code (Code.quiet_builtin _ F.quiet) (wpAny_check_new_subT F T hC (codeAny_exc_new_subT F T hC ?_ hl))
 have kp:∀ b o,h.get? b=some o->((h.push {cls:= .type "tuple",data:= .seq rest.toArray}).push {cls:= .ref C,data:= .fields #[.ref h.objs.size,.none,.none,.none,.bool false,.none]}).get? b=some o:=λb o e=>Heap.get?_push_of_some _ (Heap.get?_push_of_some _ e)
 have hC1:=kp _ _ hC
 have X1:K.In _:=X.keeps kp
 have he:((h.push {cls:= .type "tuple",data:= .seq rest.toArray}).push {cls:= .ref C,data:= .fields #[.ref h.objs.size,.none,.none,.none,.bool false,.none]}).get? (h.objs.size+1)=some {cls:= .ref C,data:= .fields #[.ref h.objs.size,.none,.none,.none,.bool false,.none]}:=by heap_get
 have hcC:(Value.ref C::bm).contains (.ref C)=true:=by simp
 have L1:=looks_findIn (M:=model prog w) X1 hi
 have L2:=bind_fn (M:=model prog w) X1 (.ref (h.objs.size+1)) hf
 show wpAny _ _ _ _ _ _
 unfold isInstance
 repeat(first|(with_reducible refine wpAny_loadPart_at he ?_)|(with_reducible refine wpAny_isSubtype_exc hC1 ?_;rw[hcC])|wp_step)
 refine L1.at ?_
 refine wpAny_holding (wpAny_bind (L2.at ?_))
 refine wpAny_bind (wpAny_mono (hq _ (h.objs.size+1) ⟨kp,Heap.get?_none_of_le (yF _),h.objs.size,he,Heap.get?_none_of_le (xM _),Heap.get?_push_of_some _ (Heap.get?_push_at rfl rfl)⟩) (λr s' hr=>?_) λ_ _ x=>x)
 obtain⟨rfl,hQ⟩:=hr
 refine wpAny_pure ?_
 exact wpAny_pure hQ
theorem qy{Q:Value->Shared->Prop}(X:K.In h)(T:OwnTail h veLine bm)(hC:h.get? C=some (excClassObj nm q C N bs bm hdct sn sub ab col dd k0 k1 k2 k3 k5 "ValueError.__new__"))
  (hi:findIn K (.ref C) "__init__"=some (some (.ref fI))) (hf:typeIn K (.ref fI)=some (.type "function"))
  (hq:∀ h' e,Heap.MadeExcOf h h' e (.ref C) rest->wpAny (model prog w) (A.under (.builtin "type.__call__" ⟨.ref C::rest,[]⟩)) (call (.ref fI) (.ref e::rest)) (λr s'=>r= .none/\Q (.ref e) s') E ⟨h',g,d,t,os⟩) (hl:rest.length<=sizeLine):
  wpAny (model prog w) A (call (.ref C) rest) Q E ⟨h,g,d,t,os⟩:=by
 have f1:=tc_lookup
 have f2:=tc_bind (.ref C)
 have hT:(⟨h,g,d,t,os⟩:Shared).TypeIs (.ref C) "type":=⟨_,hC,rfl⟩
 refine wpAny_call (codeAny_of_tree ?_)
 show wpAny _ _ (callAny (.ref C) _) _ _ _
 repeat(any_goals (first|(with_reducible refine wpAny_loadPart_at hC ?_)|assumption|wp_step))
 exact⟨rfl,codeAny_call_builtin_at (Code.quiet_builtin _ (by decide+kernel)) entry_typeCall (wpAny_check_type_call_sub hC (qw X T hC hi hf (λh' e hm=>hq h' e hm) hl))⟩
end
section
variable {prog:Program}{w:World}{A:Around}{E:Value->Shared->Prop}{s:Shared}{env:Env}
variable {nm q:Str}{C N:Addr}{bs bm:List Value}{hdct:Bool}{sn:List Str}{sub:List Value}{ab:Bool}{col:Option Bool}{dd:Option Addr}{k0 k1 k2 k3 k5:Option Value}{newId:String}
theorem qz{x:Sem Value}{Q:Flow->Shared->Prop}(hbase:bm.contains (.type "BaseException")=true)(hh:A.handled=none)
  (h:wpAny (model prog w) A x (λv s₁=>∃ e t od sl,v= .ref e/\s₁.heap.get? C=some (excClassObj nm q C N bs bm hdct sn sub ab col dd k0 k1 k2 k3 k5 newId)/\
   s₁.heap.get? e=some ⟨.ref C,od,.fields #[.ref t,.none,.none,.none,.bool false,.none],sl⟩/\E (.ref e) s₁) E s):
  wpAny (model prog w) A (raiseStmt env (some x) none) Q E s:=by
 have hcB:(Value.ref C::bm).contains (.type "BaseException")=true:=by rw[zH,hbase,yU]
 unfold raiseStmt
 refine wpAny_bind (wpAny_mono h (λv s₁ h₁=>?_) λ_ _ x=>x)
 obtain⟨e,t,od,sl,rfl,hC,he,hE⟩:=h₁
 obtain⟨hp,g,d,tk,os⟩:=s₁
 repeat(first|(with_reducible refine wpAny_loadPart_at he ?_)|(with_reducible refine wpAny_loadPart_at hC ?_)|(with_reducible refine wpAny_isSubtype_exc hC ?_;rw[hcB])|wp_step)
 exact wpAny_raiseNew_none hh hE
theorem kC{x:Expr}{pos:Pos}{Q:Flow->Shared->Prop}(hbase:bm.contains (.type "BaseException")=true)(hh:A.handled=none)
  (h:wpAny (model prog w) A (eval x env) (λv s₁=>∃ e t od sl,v= .ref e/\s₁.heap.get? C=some (excClassObj nm q C N bs bm hdct sn sub ab col dd k0 k1 k2 k3 k5 newId)/\
   s₁.heap.get? e=some ⟨.ref C,od,.fields #[.ref t,.none,.none,.none,.bool false,.none],sl⟩/\E (.ref e) s₁) E s):
  wpAny (model prog w) A (exec (.Raise (some x) none pos) env) Q E s:=by
 rw[arm_exec_Raise]
 show wpAny (model prog w) A (do standAt pos;raiseStmt env (some (do let v <- eval x env;standAt pos;pure v)) none) Q E s
 exact wpAny_bind (wpAny_standAt (qz hbase hh (wpAny_bind (wpAny_mono h (λv s₁ h₁=>wpAny_bind (wpAny_standAt (wpAny_pure h₁))) λ_ _ x=>x))))
end
end Exc
end
section
open PySem PySem.Spec PyProof.Rows L2
namespace Exc
open PySem PySem.Spec PyProof.Rows PySem.W L2
def ExAt(h:Heap)(e C:Addr)(od:Option Addr)(T:Addr)(fl:Value):Prop:=
 ∃ sl vs oT ts,h.get? e=some ⟨.ref C,od,.fields vs,sl⟩/\vs[1]?=some (.ref T)/\T≠e/\h.get? T=some oT/\oT.data= .fields ts/\ts[3]?=some fl
structure Stay(fs ex:List Addr)(h h':Heap):Prop where
 keep:∀ b o,h.get? b=some o->b ∉ ex->b ∉ fs->h'.get? b=some o
 slot:∀ b o,h.get? b=some o->b ∉ ex->∃ sl,h'.get? b=some {o with slots:=sl}
 there:∀ b o,h.get? b=some o->∃ o',h'.get? b=some o'
theorem Stay.trans{fs ex ex':List Addr}{h h1 h2:Heap}(a:Stay fs ex h h1)(b:Stay fs ex' h1 h2):Stay fs (ex++ex') h h2:=
  ⟨λc o e n m=>b.keep c o (a.keep c o e (λz=>n (yL _ z)) m) (λz=>n (xW _ z)) m,
   λc o e n=>by
    obtain⟨s1,e1⟩:=a.slot c o e (λz=>n (yL _ z))
    obtain⟨s2,e2⟩:=b.slot c _ e1 (λz=>n (xW _ z))
    exact⟨s2,e2⟩,
   λc o e=>by
    obtain⟨o1,e1⟩:=a.there c o e
    exact b.there c o1 e1⟩
section
variable {M:Model}{A:Around}{E:Value->Shared->Prop}{s:Shared}{env:Env}{outer:List Env}{base:Heap}{L e C T:Addr}{od:Option Addr}
theorem kD{sl:Array (Option Value)}{vs:Array Value}{Q:Unit->Shared->Prop}(hfr:A.frames=some (env::outer))(hl:s.heap.FunFrames base (env::outer))(hf:env.frame=some L)
  (he:s.heap.get? e=some ⟨.ref C,od,.fields vs,sl⟩) (h1:vs[1]?=some .none)
  (h:∀ h' T,ExAt h' e C od T (rawInt L)->s.heap.objs.size<=T->Stay (frs (env::outer)) [e] s.heap h'->Q () {s with heap:=h'}):wpAny M A (noteFrame (.ref e) env) Q E s:=by
 have hsz:1<vs.size:=(zo.mp h1).1
 have hene:e ∉ (env::outer).filterMap (·.frame):=λhm=>by
  obtain⟨_,o,ho,hnf⟩:=hl.mem hm
  rw[he] at ho;injection ho with ho;subst ho;exact hnf vs rfl
 unfold noteFrame
 simp only[hf]
 refine wpAny_bind (wpAny_field he rfl h1 ?_)
 rw[if_neg (by decide)]
 refine wpAny_bind (wpAny_frameOf_fun hfr hl hf λh₁ hs₁=>wpAny_bind (wpAny_entryPlaceOf λpl hpl=>?_))
 unfold EntryCells.newEntry newFields
 refine wpAny_bind (wpAny_newObj_type ?_ (hpl.sizeOk5 _ _ _ _ _))
 have he₁:h₁.get? e=some ⟨.ref C,od,.fields vs,sl⟩:=(hs₁.2.1 e hene).trans he
 have fresh:h₁.get? h₁.objs.size=none:=Heap.get?_none_of_le (xM _)
 generalize hoT:({cls:= .type "traceback",dict:=none,data:= .fields ([Value.none,.ref L,.none,rawInt L,.none]++(if pl.isEmpty then yl 6 Value.none else pl)).toArray}:Obj)=oT
 have he₂:=Heap.get?_push_of_some (h:=h₁) oT he₁
 have hTe:h₁.objs.size≠e:=yB (Heap.lt_size he₁)
 refine wpAny_setField he₂ rfl hsz (h _ h₁.objs.size ?_ ?_ ?_)
 ·refine⟨sl,vs.setIfInBounds 1 (.ref h₁.objs.size),oT,([Value.none,.ref L,.none,rawInt L,.none]++(if pl.isEmpty then yl 6 Value.none else pl)).toArray,?_,by simp[hsz],hTe,?_,by rw[<- hoT],by simp⟩
  ·rw[Heap.get?_update_self _ he₂ rfl];rfl
  ·rw[Heap.get?_update_other _ _ (Ne.symm hTe)]
   exact Heap.get?_push_size h₁ (by rw[<- hoT];rfl)
 ·exact zi hs₁.1.symm
 ·have kp:∀ b o,b≠e->h₁.get? b=some o->((h₁.push oT).update e (Obj.mapFields (·.setIfInBounds 1 (Value.ref h₁.objs.size)))).get? b=some o:=λb o hb z=>by
   rw[Heap.get?_update_other _ _ (Ne.symm hb)]
   exact Heap.get?_push_of_some _ z
  refine⟨λb o q n m=>kp b o (λz=>n (by simp[z])) ((hs₁.2.1 b m).trans q),λb o q n=>?_,λb o q=>?_⟩
  ·obtain⟨sl',z⟩:=hs₁.2.2 b o q
   exact⟨sl',kp b _ (λz=>n (by simp[z])) z⟩
  ·by_cases hb:b=e
   ·subst hb;exact⟨_,Heap.get?_update_self _ he₂ rfl⟩
   ·obtain⟨sl',z⟩:=hs₁.2.2 b o q
    exact⟨_,kp b _ hb z⟩
theorem kE{Q:Unit->Shared->Prop}(hfr:A.frames=some (env::outer))(hl:s.heap.FunFrames base (env::outer))(hf:env.frame=some L)(hx:ExAt s.heap e C od T .none)
  (h:∀ h' T',ExAt h' e C od T' (rawInt L)->s.heap.objs.size<=T'->Stay (frs (env::outer)) [T,e] s.heap h'->Q () {s with heap:=h'}):wpAny M A (noteFrame (.ref e) env) Q E s:=by
 obtain⟨sl,vs,oT,ts,he,h1,hTe,hT,hdT,h3⟩:=hx
 have hsz:1<vs.size:=(zo.mp h1).1
 have hs3:3<ts.size:=(zo.mp h3).1
 have hene:e ∉ (env::outer).filterMap (·.frame):=λhm=>by
  obtain⟨_,o,ho,hnf⟩:=hl.mem hm
  rw[he] at ho;injection ho with ho;subst ho;exact hnf vs rfl
 unfold noteFrame
 simp only[hf]
 refine wpAny_bind (wpAny_field he rfl h1 ?_)
 rw[if_pos (show(Value.ref T !=Value.none)=true from by simp)]
 refine wpAny_bind (wpAny_field hT hdT h3 ?_)
 rw[if_neg (show¬ ((Value.none==rawInt L)=true) from by simp[rawInt])]
 refine wpAny_bind (wpAny_setField hT hdT hs3 ?_)
 have other:∀ b,b≠T->(s.heap.update T (Obj.mapFields (·.setIfInBounds 3 Value.none))).get? b=s.heap.get? b:=λb hb=>Heap.get?_update_other _ _ (Ne.symm hb)
 have nT:∀ b o,s.heap.get? b=some o->(∀ vs,o.data≠.fields vs)->b≠T:=λb o hb hnf q=>by
  rw[q,hT] at hb;injection hb with hb;subst hb;exact hnf ts hdT
 have hl':(s.heap.update T (Obj.mapFields (·.setIfInBounds 3 Value.none))).FunFrames base (env::outer):=hl.of_keeps λb o hb hnf=>⟨o,(other b (nT b o hb hnf)).trans hb,rfl⟩
 have hT':∃ o',(s.heap.update T (Obj.mapFields (·.setIfInBounds 3 Value.none))).get? T=some o':=⟨_,Heap.get?_update_self _ hT (Obj.isFreed_of_fields (Obj.data_mapFields hdT _))⟩
 refine wpAny_bind (wpAny_frameOf_fun hfr hl' hf λh₁ hs₁=>wpAny_bind (wpAny_entryPlaceOf λpl hpl=>?_))
 unfold EntryCells.newEntry newFields
 refine wpAny_bind (wpAny_newObj_type ?_ (hpl.sizeOk5 _ _ _ _ _))
 have he₁:h₁.get? e=some ⟨.ref C,od,.fields vs,sl⟩:=(hs₁.2.1 e hene).trans ((other e (Ne.symm hTe)).trans he)
 have fresh:h₁.get? h₁.objs.size=none:=Heap.get?_none_of_le (xM _)
 generalize hoT:({cls:= .type "traceback",dict:=none,data:= .fields ([Value.ref T,.ref L,.none,rawInt L,.none]++(if pl.isEmpty then yl 6 Value.none else pl)).toArray}:Obj)=oT'
 have he₂:=Heap.get?_push_of_some (h:=h₁) oT' he₁
 have hTe':h₁.objs.size≠e:=yB (Heap.lt_size he₁)
 refine wpAny_setField he₂ rfl hsz (h _ h₁.objs.size ?_ ?_ ?_)
 ·refine⟨sl,vs.setIfInBounds 1 (.ref h₁.objs.size),oT',([Value.ref T,.ref L,.none,rawInt L,.none]++(if pl.isEmpty then yl 6 Value.none else pl)).toArray,?_,by simp[hsz],hTe',?_,by rw[<- hoT],by simp⟩
  ·rw[Heap.get?_update_self _ he₂ rfl];rfl
  ·rw[Heap.get?_update_other _ _ (Ne.symm hTe')]
   exact Heap.get?_push_size h₁ (by rw[<- hoT];rfl)
 ·exact zi (hs₁.1.trans (Heap.size_after_update _ _ _)).symm
 ·have kp:∀ b o,b≠e->h₁.get? b=some o->((h₁.push oT').update e (Obj.mapFields (·.setIfInBounds 1 (Value.ref h₁.objs.size)))).get? b=some o:=λb o hb z=>by
   rw[Heap.get?_update_other _ _ (Ne.symm hb)]
   exact Heap.get?_push_of_some _ z
  refine⟨λb o q n m=>kp b o (λz=>n (by simp[z])) ((hs₁.2.1 b m).trans ((other b (λz=>n (by simp[z]))).trans q)),λb o q n=>?_,λb o q=>?_⟩
  ·obtain⟨sl',z⟩:=hs₁.2.2 b o ((other b (λz=>n (by simp[z]))).trans q)
   exact⟨sl',kp b _ (λz=>n (by simp[z])) z⟩
  ·by_cases hb:b=e
   ·subst hb;exact⟨_,Heap.get?_update_self _ he₂ rfl⟩
   ·have:∃ o',(s.heap.update T (Obj.mapFields (·.setIfInBounds 3 Value.none))).get? b=some o':=by
     by_cases hb:b=T
     ·rw[hb];exact hT'
     ·exact⟨o,(other _ hb).trans q⟩
    obtain⟨o',q'⟩:=this
    obtain⟨sl',z⟩:=hs₁.2.2 b o' q'
    exact⟨_,kp b _ hb z⟩
theorem flight_none{fl:Value}{Q:Unit->Shared->Prop}(hx:ExAt s.heap e C od T fl)(h:∀ h',ExAt h' e C od T .none->Stay [] [T] s.heap h'->Q () {s with heap:=h'}):wpAny M A (setFlight (.ref e) none) Q E s:=by
 obtain⟨sl,vs,oT,ts,he,h1,hTe,hT,hdT,h3⟩:=hx
 have hs3:3<ts.size:=(zo.mp h3).1
 unfold setFlight
 refine wpAny_bind (wpAny_field he rfl h1 ?_)
 rw[if_pos (show(Value.ref T !=Value.none)=true from by simp)]
 refine wpAny_setField hT hdT hs3 (h _ ?_ ?_)
 ·exact⟨sl,vs,_,_,(Heap.get?_update_other _ _ hTe).trans he,h1,hTe,Heap.get?_update_self _ hT (Obj.isFreed_of_fields (Obj.data_mapFields hdT _)),Obj.data_mapFields hdT _,by simp[hs3]⟩
 ·have other:∀ b o,b ∉ [T]->s.heap.get? b=some o->(s.heap.update T (Obj.mapFields (·.setIfInBounds 3 ((none:Option Addr).elim Value.none λf=>rawInt f)))).get? b=some o:=λb o hb q=>(Heap.get?_update_other _ _ (λz=>hb (by simp[z]))).trans q
  refine⟨λb o q n _=>other b o n q,λb o q n=>⟨o.slots,other b o n q⟩,λb o q=>?_⟩
  by_cases hb:b=T
  ·subst hb;exact⟨_,Heap.get?_update_self _ hT (Obj.isFreed_of_fields (Obj.data_mapFields hdT _))⟩
  ·exact⟨o,other b o (by simp[hb]) q⟩
end
end Exc
end
section
open PySem PySem.Spec PyProof.Rows L2
namespace Exc
open PySem PySem.Spec PyProof.Rows PySem.W L2
def CX1(P:Program)(w:World):CXT:=λouter H s E ev s'=>∃ e C od T H',ev= .ref e/\s'.os=s.os/\AllBare s'.gens/\Un (frs outer) [] H H' s.heap s'.heap/\HOk P w H' s'.heap/\ExAt s'.heap e C od T .none/\s.heap.get? e=none/\s.heap.get? T=none/\H' e=none/\H' T=none/\E (.ref C) od H'
theorem dg{P:Program}{w:World}{H:Hp}{h h':Heap}{fs ex:List Addr}(x:HOk P w H h)(st:Stay fs ex h h')(hf:∀ b∈fs,H b=none)(he:∀ b∈ex,H b=none):HOk P w H h':=λa o q=>
 (x a o q).stay (λb u hb r=>by
  have hn:H b≠none:=by
   rcases hb with rfl|hb
   ·rw[q];exact λz=>nomatch z
   ·rw[hb];exact λz=>nomatch z
  exact st.keep b u r (λz=>hn (he b z)) (λz=>hn (hf b z))) (λ_ q=>q) λ_ _ q=>q
theorem dP{fs fs' ex:List Addr}{H H':Hp}{h h1 h2:Heap}(u:Un fs [] H H' h h1)(st:Stay fs' ex h1 h2)(hex:∀ b∈ex,h.get? b=none)(hfs:∀ b∈fs',b∈fs\/h.get? b=none):Un fs [] H H' h h2 where
 keep:=λb o q n hb hx=>st.keep b o (u.keep b o q n hb hx) (λz=>by rw[hex b z] at q;cases q) (λz=>(hfs b z).elim hb λy=>by rw[y] at q;cases q)
 slot:=λb o q n hb hx=>by
  obtain⟨sl,e1⟩:=u.slot b o q n hb hx
  obtain⟨sl',e2⟩:=st.slot b _ e1 (λz=>by rw[hex b z] at q;cases q)
  exact⟨sl',e2⟩
 free:=u.free
 there:=λb o q hx=>by
  obtain⟨o1,e1⟩:=u.there b o q hx
  exact st.there b o1 e1
 tups:=u.tups
 frzs:=u.frzs
 tbls:=u.tbls
section
variable {P:Program}{w:World}{K:xK}{mg:Str->Option Value}{base:Heap}{N:List Str}{qual:Str}{scope:Scope}{f:Addr}{cd:Value}{A:Around}{outer:List Env}{s:Shared}{H:Hp}{E E':XK}
theorem kF{b:Addr}(hb:b∈frs (envOfC qual scope s.heap.objs.size f cd::outer)):b∈frs outer\/s.heap.get? b=none:=by
 unfold frs at hb
 rw[zg] at hb
 rcases xP.mp (show b∈s.heap.objs.size::outer.filterMap (·.frame) from hb) with e|e
 ·rw[e];exact .inr (Heap.get?_none_of_le (xM _))
 ·exact .inl e
theorem qA{pins:List (Addr × Obj)}{σ:L2.St}{H1:Hp}{s1:Shared}{e C:Addr}{od:Option Addr}{sl:Array (Option Value)}{vs:Array Value}(I:Inv (cxOf (CX1 P w) P w K mg base N qual scope f cd A outer s H E') pins σ H1 s1)
  (he:s1.heap.get? e=some ⟨.ref C,od,.fields vs,sl⟩) (h1:vs[1]?=some .none) (He:H1 e=none) (ne:s.heap.get? e=none) (hE:E' (.ref C) od H1):(cxOf (CX1 P w) P w K mg base N qual scope f cd A outer s H E').xe (.ref e) s1:=by
 show wpAny _ _ (leaving _ _) _ _ _
 unfold leaving
 refine wpAny_bind (kD I.ok.frames I.stack rfl he h1 λh2 T2 hx2 fr2 st2=>flight_none (s:={s1 with heap:=h2}) hx2 λh3 hx3 st3=>?_)
 have nT2:s1.heap.get? T2=none:=Heap.get?_none_of_le fr2
 have f1:∀ b,s1.heap.get? b=none->s.heap.get? b=none:=λb q=>by
  cases z:s.heap.get? b with
  |none=>rfl
  |some o=>
   obtain⟨o',z'⟩:=I.base.there b o z (by exact λy=>absurd (show b∈([]:List Addr) from y) (by simp))
   rw[q] at z';cases z'
 have hok:HOk P w H1 s1.heap:=I.hok
 have HT2:H1 T2=none:=hok.fresh fr2
 have u2:Un (frs outer) [] H H1 s.heap h2:=dP (show Un (frs outer) [] H H1 s.heap s1.heap from I.base) st2 (λb hb=>by rw[xL.mp hb];exact ne) λb hb=>kF hb
 have u3:Un (frs outer) [] H H1 s.heap h3:=dP u2 st3 (λb hb=>by rw[xL.mp hb];exact f1 T2 nT2) λb hb=>by cases hb
 have k2:=dg hok st2 (λb hb=>I.stkFree b hb) (λb hb=>by rw[xL.mp hb];exact He)
 have k3:=dg k2 st3 (λb hb=>by cases hb) (λb hb=>by rw[xL.mp hb];exact HT2)
 exact⟨e,C,od,T2,H1,rfl,I.os,I.bare,u3,k3,hx3,ne,f1 T2 nT2,He,HT2,hE⟩
end
end Exc
end
section
open PySem PySem.Spec PyProof.Rows L2
namespace L2
theorem Same.tup{K:xK}{H H':Hp}{a:Addr}{xs:List V}(e:Same H H')(h:SqT K H a xs):SqT K H' a xs:=by
 rcases h with(h|⟨o,h⟩)|h
 ·exact .inl (.inl (e _ _ h))
 ·exact .inl (.inr ⟨o,e _ _ h⟩)
 ·exact .inr h
end L2
namespace My
theorem dh{X:Cx}:db (Exc.CX1 X.prog X.w) X E0:=λ_ _ _ _ _ _ _ h=>by
 obtain⟨e,C,od,T,H',_,_,_,_,_,_,_,_,_,_,h⟩:=h
 exact h.elim
theorem Fun.okC{P:Program}{w:World}{K:xK}{mg:Str->Option Value}{base:Heap}{CX:CXT}{x qual:Str}{st:Stmt}{f:Addr}{fd:FuncData}{N ps:List Str}{k:Nat}{sp:Sp}(F:Fun K x qual st f fd)(S:FnScope N ps (ad st))(len:∀ vs H Q E,sp vs H Q E->vs.length=ps.length)
  (hbody:∀ (cdv:Value) (A:Around) (outer:List Env) (s:Shared) (H:Hp) (vs:List V) (Q:VK) (E:XK),Room k (A.deeper (envOfC qual (ad st) s.heap.objs.size f cdv))->sp vs H Q E->
   ∃ t,PSs (cxOf CX P w K mg base N qual (ad st) f cdv A outer s H E) (aA st) t/\t {nx:=λ_ H'=>Q .non H',rt:=Q} (start N vs) H):FnOk P w K mg base CX (k+1) f fd ps sp:=by
 obtain⟨oc,od,kV,doc,pm,an,cdv,ct,osl,rfl,lk,hcd⟩:=F.ex
 refine ki lk hcd S len λA outer s H vs Q E hr hsp=>?_
 exact hbody cdv A outer s H vs Q E hr hsp
def Cal(P:Program)(w:World)(K:xK)(mg:Str->Option Value)(base:Heap)(n:Nat)(x:Str)(ps:List Str)(sp:Sp):Prop:=
 ∃ f fd,FnOk P w K mg base (Exc.CX1 P w) n f fd ps sp/\Binds K fd ps []/\keepIn K (.ref f)=true/\mg x=some (.ref f)
def Tx(K:xK)(mg:Str->Option Value)(x:Str)(st:Stmt)(ps:List Str):Prop:=
 ∃ f fd,Fun K x x st f fd/\Binds K fd ps []/\mg x=some (.ref f)
section
variable {X:Cx}{n m:Nat}{ps:List Str}{sp:Sp}{x:Str}{p pos:Pos}{e:Expr}{es:List Expr}{t:TA}
theorem qB(C:Cal X.prog X.w X.K X.mg X.base n x ps sp)(hr:Room m X.A)(ha:PA X (e::es) t)(hg:Gl X x:=by rfl)(hn:n<=m:=by decide)(hdb:zND x:=by decide)
  (he:zSE X e es:=by rfl) (hpl:zPL X pos es:=by rfl):
  PE X (.Call (.Name x p) (e::es) [] pos) (ke sp [] E0 t):=by
 obtain⟨f,fd,F,hb,hk,hm⟩:=C
 exact pB F (hr.mono hn) hg hm hk hb .nil dh ha hdb he hpl
end
section
variable {P:Program}{w:World}{K:xK}{mg:Str->Option Value}{base:Heap}
theorem Tx.ok{x:Str}{st:Stmt}{N ps:List Str}{k:Nat}{sp:Sp}(T:Tx K mg x st ps)(S:FnScope N ps (ad st))(len:∀ vs H Q E,sp vs H Q E->vs.length=ps.length)
  (hbody:∀ (f:Addr) (cdv:Value) (A:Around) (outer:List Env) (s:Shared) (H:Hp) (vs:List V) (Q:VK) (E:XK),Room k (A.deeper (envOfC x (ad st) s.heap.objs.size f cdv))->sp vs H Q E->
   ∃ t,PSs (cxOf (Exc.CX1 P w) P w K mg base N x (ad st) f cdv A outer s H E).nox (aA st) t/\t {nx:=λ_ H'=>Q .non H',rt:=Q} (start N vs) H):Cal P w K mg base (k+1) x ps sp:=by
 obtain⟨f,fd,F,hb,hm⟩:=T
 refine⟨f,fd,Fun.okC F S len (λcdv A outer s H vs Q E hr h=>?_),hb,F.kp,hm⟩
 obtain⟨t,h1,h2⟩:=hbody f cdv A outer s H vs Q E hr h
 exact⟨t,h1.nox,h2⟩
end
theorem aK{H:Hp}{p:Addr}(h:H p=none)(o:HO):Same H (upd H p o):=λb u q=>by rw[ah (bf q h)];exact q
theorem sz{n:Nat}(h:n<=1000):n<=sizeLine:=zf (qj h)
end My
end
section
open PySem PySem.Spec PyProof.Rows L2
namespace L2
section
variable {X:Cx}
theorem PE.anti{e:Expr}{t t':TE}(h:PE X e t)(a:∀ s H Q,t' s H Q->t s H Q):PE X e t':=λpins s σ H Q I q=>h pins s σ H Q I (a _ _ _ q)
theorem PT.anti{e:Expr}{t t':TT}(h:PT X e t)(a:∀ s H Q,t' s H Q->t s H Q):PT X e t':=λpins s σ H Q I q=>h pins s σ H Q I (a _ _ _ q)
theorem PW.anti{e:Expr}{t t':TT}(h:PW X e t)(a:∀ s H Q,t' s H Q->t s H Q):PW X e t':=λwh pins s σ H Q I q=>h wh pins s σ H Q I (a _ _ _ q)
theorem PA.anti{e:List Expr}{t t':TA}(h:PA X e t)(a:∀ s H Q,t' s H Q->t s H Q):PA X e t':=λp pins s σ H Q I q=>h p pins s σ H Q I (a _ _ _ q)
theorem PS.anti{e:Stmt}{t t':TS}(h:PS X e t)(a:∀ E s H,t' E s H->t E s H):PS X e t':=λpins s σ H Q I q=>h pins s σ H Q I (a _ _ _ q)
theorem PSs.anti{e:List Stmt}{t t':TS}(h:PSs X e t)(a:∀ E s H,t' E s H->t E s H):PSs X e t':=λpins s σ H Q I q=>h pins s σ H Q I (a _ _ _ q)
end
end L2
namespace My
inductive D where
 |non|bl (b:Bool)|int (i:Int)|str (x:Str)|tup (xs:List D)|lst (xs:List D)
  |rol (xs:List D)
  |obj (x:Str) (fs:List (Str × D))
  |exc (x:Str) (fs:List (Str × D))
  |own (xs:List D)
  |ptr (a:Addr)
  |dti (kvs:List ((Int × Int) × Int))
def dtiV(kvs:List ((Int × Int) × Int)):List (List Key × V):=kvs.map λe=>([.inl e.1.1,.inl e.1.2],.int e.2)
def XO(e C:Addr)(od:Option Addr):HO:= .ext λh=>∃ vs sl,h.get? e=some ⟨.ref C,od,.fields vs,sl⟩
mutual
def Rep(K:xK)(H:Hp):D->V->Prop
 | .non,v=>v= .non
 | .bl b,v=>v= .bl b
 | .int i,v=>v= .int i
 | .str x,v=>v= .str x
 | .tup ds,v=>∃ a vs,v= .ref a/\H a=some (.tup vs)/\Reps K H ds vs
 | .lst ds,v=>∃ a vs,v= .ref a/\H a=some (.lst vs)/\Reps K H ds vs
 | .rol ds,v=>∃ a vs,v= .ref a/\SqL K H a vs/\Reps K H ds vs
 | .obj x fs,v=>∃ a C dx vs,v= .ref a/\nsIn K mainGlobals x=some (some (.ref C))/\H a=some (.ins C dx vs)/\RepF K H fs vs
 | .exc x fs,v=>∃ a C od vs,v= .ref a/\nsIn K mainGlobals x=some (some (.ref C))/\H a=some (XO a C od)/\RepF K H fs vs/\((od=none/\vs=[])\/∃ b,od=some b/\H b=some (.xd vs))
 | .own _,_=>False
 | .ptr a,v=>v= .ref a
 | .dti kvs,v=>∃ a,v= .ref a/\H a=some (.dT (dtiV kvs))
def RepF(K:xK)(H:Hp):List (Str × D)->List (Str × V)->Prop
 |[],vs=>vs=[]
 |(f,d)::ds,vs=>∃ v r,vs=(f,v)::r/\Rep K H d v/\RepF K H ds r
def Reps(K:xK)(H:Hp):List D->List V->Prop
 |[],vs=>vs=[]
 |d::ds,vs=>∃ v r,vs=v::r/\Rep K H d v/\Reps K H ds r
end
mutual
theorem Rep.mono{K:xK}{H H':Hp}(g:Same H H'):∀ (d:D) (v:V),Rep K H d v->Rep K H' d v
 | .non,v,h=>by unfold Rep at h ⊢;exact h
 | .bl b,v,h=>by unfold Rep at h ⊢;exact h
 | .int b,v,h=>by unfold Rep at h ⊢;exact h
 | .str b,v,h=>by unfold Rep at h ⊢;exact h
 | .tup ds,v,h=>by
  unfold Rep at h ⊢
  obtain⟨a,vs,e,q,r⟩:=h
  exact⟨a,vs,e,g _ _ q,Reps.mono g ds vs r⟩
 | .lst ds,v,h=>by
  unfold Rep at h ⊢
  obtain⟨a,vs,e,q,r⟩:=h
  exact⟨a,vs,e,g _ _ q,Reps.mono g ds vs r⟩
 | .rol ds,v,h=>by
  unfold Rep at h ⊢
  obtain⟨a,vs,e,q,r⟩:=h
  exact⟨a,vs,e,g.seq q,Reps.mono g ds vs r⟩
 | .obj C fs,v,h=>by
  unfold Rep at h ⊢
  obtain⟨a,C,dx,vs,e,n,q,r⟩:=h
  exact⟨a,C,dx,vs,e,n,g _ _ q,RepF.mono g fs vs r⟩
 | .exc C fs,v,h=>by
  unfold Rep at h ⊢
  obtain⟨a,C,od,vs,e,n,q,r,d⟩:=h
  exact⟨a,C,od,vs,e,n,g _ _ q,RepF.mono g fs vs r,d.imp id λ⟨b,h1,h2⟩=>⟨b,h1,g _ _ h2⟩⟩
 | .own ds,v,h=>by
  unfold Rep at h ⊢
  exact h
 | .ptr a,v,h=>by unfold Rep at h ⊢;exact h
 | .dti kvs,v,h=>by
  unfold Rep at h ⊢
  obtain⟨a,e,q⟩:=h
  exact⟨a,e,g _ _ q⟩
theorem RepF.mono{K:xK}{H H':Hp}(g:Same H H'):∀ (ds:List (Str × D)) (vs:List (Str × V)),RepF K H ds vs->RepF K H' ds vs
 |[],vs,h=>by unfold RepF at h ⊢;exact h
 |(f,d)::ds,vs,h=>by
  unfold RepF at h ⊢
  obtain⟨v,r,e,q1,q2⟩:=h
  exact⟨v,r,e,Rep.mono g d v q1,RepF.mono g ds r q2⟩
theorem Reps.mono{K:xK}{H H':Hp}(g:Same H H'):∀ (ds:List D) (vs:List V),Reps K H ds vs->Reps K H' ds vs
 |[],vs,h=>by unfold Reps at h ⊢;exact h
 |d::ds,vs,h=>by
  unfold Reps at h ⊢
  obtain⟨v,r,e,q1,q2⟩:=h
  exact⟨v,r,e,Rep.mono g d v q1,Reps.mono g ds r q2⟩
end
section
variable {K:xK}{H:Hp}
theorem rep_non{v:V}:Rep K H .non v↔v= .non:=by unfold Rep;exact Iff.rfl
theorem rep_bl{b:Bool}{v:V}:Rep K H (.bl b) v↔v= .bl b:=by unfold Rep;exact Iff.rfl
theorem rep_int{i:Int}{v:V}:Rep K H (.int i) v↔v= .int i:=by unfold Rep;exact Iff.rfl
theorem rep_str{x:Str}{v:V}:Rep K H (.str x) v↔v= .str x:=by unfold Rep;exact Iff.rfl
theorem rep_tupS{ds:List D}{v:V}:Rep K H (.tup ds) v↔∃ a vs,v= .ref a/\H a=some (.tup vs)/\Reps K H ds vs:=by
 constructor
 ·intro h;unfold Rep at h;exact h
 ·intro h;unfold Rep;exact h
theorem rep_tup_mp{ds:List D}{v:V}(h:Rep K H (.tup ds) v):∃ a vs,v= .ref a/\SqT K H a vs/\Reps K H ds vs:=by
 obtain⟨a,vs,e,q,r⟩:=rep_tupS.mp h
 exact⟨a,vs,e,SqT.of q,r⟩
theorem rep_ptr{a:Addr}{v:V}:Rep K H (.ptr a) v↔v= .ref a:=by unfold Rep;exact Iff.rfl
theorem rep_dti{kvs:List ((Int × Int) × Int)}{v:V}:Rep K H (.dti kvs) v↔∃ a,v= .ref a/\H a=some (.dT (dtiV kvs)):=by
 constructor
 ·intro h;unfold Rep at h;exact h
 ·intro h;unfold Rep;exact h
theorem rep_lst{ds:List D}{v:V}:Rep K H (.lst ds) v↔∃ a vs,v= .ref a/\H a=some (.lst vs)/\Reps K H ds vs:=by
 constructor
 ·intro h;unfold Rep at h;exact h
 ·intro h;unfold Rep;exact h
theorem rep_rol{ds:List D}{v:V}:Rep K H (.rol ds) v↔∃ a vs,v= .ref a/\SqL K H a vs/\Reps K H ds vs:=by
 constructor
 ·intro h;unfold Rep at h;exact h
 ·intro h;unfold Rep;exact h
theorem rep_obj{x:Str}{fs:List (Str × D)}{v:V}:Rep K H (.obj x fs) v↔∃ a C dx vs,v= .ref a/\nsIn K mainGlobals x=some (some (.ref C))/\H a=some (.ins C dx vs)/\RepF K H fs vs:=by
 constructor
 ·intro h;unfold Rep at h;exact h
 ·intro h;unfold Rep;exact h
theorem rep_exc{x:Str}{fs:List (Str × D)}{v:V}:Rep K H (.exc x fs) v↔∃ a C od vs,v= .ref a/\nsIn K mainGlobals x=some (some (.ref C))/\H a=some (XO a C od)/\RepF K H fs vs/\((od=none/\vs=[])\/∃ b,od=some b/\H b=some (.xd vs)):=by
 constructor
 ·intro h;unfold Rep at h;exact h
 ·intro h;unfold Rep;exact h
theorem rep_own{ds:List D}{v:V}:¬ Rep K H (.own ds) v:=by intro h;unfold Rep at h;exact h
theorem repf_nil{vs:List (Str × V)}:RepF K H [] vs↔vs=[]:=by unfold RepF;exact Iff.rfl
theorem repf_cons{f:Str}{d:D}{ds:List (Str × D)}{vs:List (Str × V)}:RepF K H ((f,d)::ds) vs↔∃ v r,vs=(f,v)::r/\Rep K H d v/\RepF K H ds r:=by
 constructor
 ·intro h;unfold RepF at h;exact h
 ·intro h;unfold RepF;exact h
theorem RepF.look{f:Str}{d:D}:∀ {fs:List (Str × D)} {vs:List (Str × V)},RepF K H fs vs->fs.lookup f=some d->∃ v,vs.lookup f=some v/\Rep K H d v
 |[],_,_,e=>by cases e
 |(g,x)::fs,vs,h,e=>by
  obtain⟨v,r,rfl,h1,h2⟩:=repf_cons.mp h
  rw[ya] at e ⊢
  split at e
  ·cases e
   exact⟨v,rfl,h1⟩
  ·exact RepF.look h2 e
theorem RepF.none{f:Str}:∀ {fs:List (Str × D)} {vs:List (Str × V)},RepF K H fs vs->fs.lookup f=Option.none->vs.lookup f=Option.none
 |[],vs,h,_=>by rw[repf_nil.mp h];rfl
 |(g,x)::fs,vs,h,e=>by
  obtain⟨v,r,rfl,h1,h2⟩:=repf_cons.mp h
  rw[ya] at e ⊢
  split at e
  ·cases e
  ·exact RepF.none h2 e
theorem reps_nil{vs:List V}:Reps K H [] vs↔vs=[]:=by unfold Reps;exact Iff.rfl
theorem reps_cons{d:D}{ds:List D}{vs:List V}:Reps K H (d::ds) vs↔∃ v r,vs=v::r/\Rep K H d v/\Reps K H ds r:=by
 constructor
 ·intro h;unfold Reps at h;exact h
 ·intro h;unfold Reps;exact h
theorem Reps.length:∀ {ds:List D} {vs:List V},Reps K H ds vs->vs.length=ds.length
 |[],vs,h=>by rw[reps_nil.mp h];rfl
 |d::ds,vs,h=>by
  obtain⟨v,r,rfl,_,h2⟩:=reps_cons.mp h
  rw[xN,xN,Reps.length h2]
theorem Reps.get:∀ {ds:List D} {vs:List V} {i:Nat} {d:D},Reps K H ds vs->ds[i]?=some d->∃ v,vs[i]?=some v/\Rep K H d v
 |[],_,_,_,_,e=>by simp at e
 |x::ds,vs,0,d,h,e=>by
  obtain⟨v,r,rfl,h1,_⟩:=reps_cons.mp h
  simp at e;subst e
  exact⟨v,rfl,h1⟩
 |x::ds,vs,i+1,d,h,e=>by
  obtain⟨v,r,rfl,_,h2⟩:=reps_cons.mp h
  obtain⟨u,q1,q2⟩:=Reps.get (i:=i) h2 (by simpa using e)
  exact⟨u,by simpa using q1,q2⟩
theorem Reps.ints:∀ {ns:List Int} {vs:List V},Reps K H (ns.map D.int) vs↔vs=ns.map V.int
 |[],vs=>reps_nil
 |n::ns,vs=>by
  rw[yc,reps_cons,yc]
  constructor
  ·rintro⟨v,r,rfl,h1,h2⟩
   rw[rep_int.mp h1,Reps.ints.mp h2]
  ·rintro rfl
   exact⟨_,_,rfl,rep_int.mpr rfl,Reps.ints.mpr rfl⟩
end
abbrev SD:=List (Option D)
def dQ:D->Bool| .own _=>true|_=>false
structure RepS(K:xK)(B F H:Hp)(t:SD)(s:L2.St):Prop where
 len:s.length=t.length
 val:∀ (i:Nat) d,t[i]?=some (some d)->dQ d=false->∃ v,s[i]?=some (some v)/\Rep K F d v
 own:∀ (i:Nat) ds,t[i]?=some (some (.own ds))->∃ a vs,s[i]?=some (some (.ref a))/\H a=some (.lst vs)/\B a=none/\F a=none/\Reps K F ds vs
 apart:∀ (i j:Nat) di dj a,t[i]?=some (some (.own di))->t[j]?=some (some (.own dj))->s[i]?=some (some (.ref a))->s[j]?=some (some (.ref a))->i=j
structure Grow(F H F' H':Hp):Prop where
 ff:Same F F'
 fh:Same F' H'
 hh:Same H H'
 out:∀ b,F b=none->H b≠none->F' b=none
theorem Grow.refl{F H:Hp}(h:Same F H):Grow F H F H:=⟨Same.refl F,h,Same.refl H,λ_ h _=>h⟩
theorem Grow.trans{F H F1 H1 F2 H2:Hp}(g:Grow F H F1 H1)(k:Grow F1 H1 F2 H2):Grow F H F2 H2:=
 ⟨g.ff.trans k.ff,k.fh,g.hh.trans k.hh,λb h1 h2=>k.out b (g.out b h1 h2) (by
  cases e:H b with
  |none=>exact absurd e h2
  |some o=>rw[g.hh b o e];exact λz=>nomatch z)⟩
theorem Grow.new{F H:Hp}{p:Addr}(h:Same F H)(hp:H p=none)(o:HO):Grow F H (upd F p o) (upd H p o):=by
 have fp:F p=none:=h.free hp
 refine⟨aK fp o,λb u e=>?_,aK hp o,λb h1 h2=>?_⟩
 ·by_cases hb:b=p
  ·subst hb;rw[av] at e ⊢;exact e
  ·rw[ah hb] at e ⊢;exact h b u e
 ·by_cases hb:b=p
  ·subst hb;exact absurd hp h2
  ·rw[ah hb];exact h1
class Jx where
 B:Hp
 F0:Hp
 RX:SD->Str->List (Str × D)->Prop
structure Kept[J:Jx](B F0 F H:Hp):Prop where
 bh:Same B H
 fh:Same F H
 f0:Same F0 F
 out:∀ b,F0 b=none->B b≠none->F b=none
 eb:B=J.B
 jf:Same J.F0 F0
 jo:∀ b,J.F0 b=none->B b≠none->F0 b=none
theorem Kept.kf[J:Jx]{B F0 F H:Hp}(k:Kept B F0 F H):Kept B J.F0 F H:=⟨k.bh,k.fh,k.jf.trans k.f0,λb h1 h2=>k.out b (k.jo b h1 h2) h2,k.eb,Same.refl _,λ_ h _=>h⟩
theorem Kept.grow[Jx]{B F0 F H F' H':Hp}(k:Kept B F0 F H)(g:Grow F H F' H'):Kept B F0 F' H':=
 ⟨k.bh.trans g.hh,g.fh,k.f0.trans g.ff,λb h1 h2=>g.out b (k.out b h1 h2) (by
  cases e:B b with
  |none=>exact absurd e h2
  |some o=>rw[k.bh b o e];exact λz=>nomatch z),k.eb,k.jf,k.jo⟩
section
variable {K:xK}{B F H F' H':Hp}{t:SD}{s:L2.St}
theorem RepS.grow(g:Grow F H F' H')(h:RepS K B F H t s):RepS K B F' H' t s where
 len:=h.len
 val:=λi d e no=>let ⟨v,q1,q2⟩:=h.val i d e no;⟨v,q1,q2.mono g.ff⟩
 own:=λi ds e=>by
  obtain⟨a,vs,q1,q2,q3,q4,q5⟩:=h.own i ds e
  exact⟨a,vs,q1,g.hh a _ q2,q3,g.out a q4 (by rw[q2];exact λz=>nomatch z),q5.mono g.ff⟩
 apart:=h.apart
theorem RepS.set{i:Nat}{d:D}{v:V}(h:RepS K B F H t s)(r:Rep K F d v):RepS K B F H (t.set i (some d)) (s.set i (some v)):=by
 have no:dQ d=false:=by
  cases d with
  |own ds=>exact absurd r rep_own
  |_=>rfl
 have get:∀ {j:Nat} {x:D},(t.set i (some d))[j]?=some (some x)->(j=i/\x=d/\i<t.length)\/(j≠i/\t[j]?=some (some x)):=λ{j x} e=>by
  by_cases hj:i=j
  ·subst hj
   rw[yS] at e
   simp at e
   exact .inl ⟨rfl,e.2.symm,e.1⟩
  ·rw[xY hj] at e
   exact .inr ⟨λz=>hj z.symm,e⟩
 refine⟨by rw[yy,yy];exact h.len,λj x e nx=>?_,λj ds e=>?_,λj k dj dk a e1 e2 e3 e4=>?_⟩
 ·rcases get e with⟨rfl,rfl,hl⟩|⟨hj,e⟩
  ·exact⟨v,by rw[yq (by rw[h.len];exact hl)],r⟩
  ·obtain⟨u,q1,q2⟩:=h.val j x e nx
   exact⟨u,by rw[xY (λz=>hj z.symm)];exact q1,q2⟩
 ·rcases get e with⟨rfl,rfl,hl⟩|⟨hj,e⟩
  ·cases no
  ·obtain⟨a,vs,q1,q⟩:=h.own j ds e
   exact⟨a,vs,by rw[xY (λz=>hj z.symm)];exact q1,q⟩
 ·rcases get e1 with⟨rfl,rfl,hl⟩|⟨hj,e1⟩
  ·cases no
  ·rcases get e2 with⟨rfl,rfl,hl⟩|⟨hk,e2⟩
   ·cases no
   ·rw[xY (λz=>hj z.symm)] at e3
    rw[xY (λz=>hk z.symm)] at e4
    exact h.apart j k dj dk a e1 e2 e3 e4
theorem RepS.setOwn{i:Nat}{a:Addr}{vs:List V}{ds:List D}(h:RepS K B F H t s)(hB:B a=none)(hF:F a=none)(r:Reps K F ds vs)
  (free:∀ (j:Nat) dj,j≠i->t[j]?=some (some (.own dj))->s[j]?≠some (some (.ref a))):RepS K B F (upd H a (.lst vs)) (t.set i (some (.own ds))) (s.set i (some (.ref a))):=by
 have get:∀ {j:Nat} {x:D},(t.set i (some (.own ds)))[j]?=some (some x)->(j=i/\x= .own ds/\i<t.length)\/(j≠i/\t[j]?=some (some x)):=λ{j x} e=>by
  by_cases hj:i=j
  ·subst hj
   rw[yS] at e
   simp at e
   exact .inl ⟨rfl,e.2.symm,e.1⟩
  ·rw[xY hj] at e
   exact .inr ⟨λz=>hj z.symm,e⟩
 refine⟨by rw[yy,yy];exact h.len,λj x e nx=>?_,λj dj e=>?_,λj k dj dk b e1 e2 e3 e4=>?_⟩
 ·rcases get e with⟨rfl,rfl,hl⟩|⟨hj,e⟩
  ·cases nx
  ·obtain⟨u,q1,q2⟩:=h.val j x e nx
   exact⟨u,by rw[xY (λz=>hj z.symm)];exact q1,q2⟩
 ·rcases get e with⟨rfl,e,hl⟩|⟨hj,e⟩
  ·cases e
   exact⟨a,vs,by rw[yq (by rw[h.len];exact hl)],av,hB,hF,r⟩
  ·obtain⟨b,us,q1,q2,q⟩:=h.own j dj e
   have ne:b≠a:=λz=>free j dj hj e (z ▸ q1)
   exact⟨b,us,by rw[xY (λz=>hj z.symm)];exact q1,by rw[ah ne];exact q2,q⟩
 ·rcases get e1 with⟨hj,c1,hl⟩|⟨hj,f1⟩
  ·rcases get e2 with⟨hk,c2,hl2⟩|⟨hk,f2⟩
   ·rw[hj,hk]
   ·rw[hj,yq (by rw[h.len];exact hl)] at e3
    rw[xY (λz=>hk z.symm)] at e4
    cases e3
    exact absurd e4 (free k dk hk f2)
  ·rcases get e2 with⟨hk,c2,hl2⟩|⟨hk,f2⟩
   ·rw[hk,yq (by rw[h.len];exact hl2)] at e4
    rw[xY (λz=>hj z.symm)] at e3
    cases e4
    exact absurd e3 (free j dj hj f1)
   ·rw[xY (λz=>hj z.symm)] at e3
    rw[xY (λz=>hk z.symm)] at e4
    exact h.apart j k dj dk b f1 f2 e3 e4
end
def startD(N:List Str)(ds:List D):SD:=ds.map some++yl (N.length - ds.length) none
theorem Rep.noown{K:xK}{F:Hp}{d:D}{v:V}(r:Rep K F d v):dQ d=false:=by
 cases d with
 |own ds=>exact absurd r rep_own
 |_=>rfl
theorem dl{K:xK}{B F H:Hp}{N:List Str}{ds:List D}{vs:List V}(h:Reps K F ds vs):RepS K B F H (startD N ds) (L2.start N vs):=by
 have hl:=h.length
 have get:∀ (i:Nat) d,(startD N ds)[i]?=some (some d)->∃ v,(L2.start N vs)[i]?=some (some v)/\Rep K F d v:=λi d e=>by
  unfold startD at e
  unfold L2.start
  by_cases hi:i<ds.length
  ·rw[yx (by simpa using hi),yn] at e
   cases q:ds[i]? with
   |none=>rw[q] at e;cases e
   |some x=>
    rw[q] at e;cases e
    obtain⟨v,q1,q2⟩:=h.get q
    exact⟨v,by rw[yx (by simpa[hl] using hi),yn,q1];rfl,q2⟩
  ·rw[yM (by simpa using hi),zC] at e
   split at e<;>cases e
 refine⟨by unfold startD L2.start;simp[hl],λi d e _=>get i d e,λi d e=>?_,λi j di dj a e=>?_⟩
 ·obtain⟨v,_,r⟩:=get i _ e;exact absurd r rep_own
 ·obtain⟨v,_,r⟩:=get i _ e;exact absurd r rep_own
abbrev TD:=SD->(D->Prop)->Prop
abbrev TDT:=SD->(Bool->Prop)->Prop
abbrev TDA:=SD->(List D->Prop)->Prop
structure EndsD where
 nx:SD->Prop
 rt:D->Prop
 bk:SD->Prop:=λ_=>False
 ct:SD->Prop:=λ_=>False
abbrev TSD:=EndsD->SD->Prop
def lE(K:xK)[J:Jx](t:TD):TE:=λs H Q=>∃ B F z,Kept B J.F0 F H/\RepS K B F H z s/\∃ R:D->Prop,t z R/\∀ d v F' H',Grow F H F' H'->R d->Rep K F' d v->Q v H'
def lT(K:xK)[J:Jx](t:TDT):TT:=λs H Q=>∃ B F z,Kept B J.F0 F H/\RepS K B F H z s/\∃ R:Bool->Prop,t z R/\∀ b F' H',Grow F H F' H'->R b->Q b H'
def lA(K:xK)[J:Jx](t:TDA):TA:=λs H Q=>∃ B F z,Kept B J.F0 F H/\RepS K B F H z s/\∃ R:List D->Prop,t z R/\∀ ds vs F' H',Grow F H F' H'->R ds->Reps K F' ds vs->Q vs H'
structure EndsOk[Jx](K:xK)(B F0:Hp)(ED:EndsD)(E:Ends):Prop where
 nx:∀ z' s' F' H',Kept B F0 F' H'->ED.nx z'->RepS K B F' H' z' s'->E.nx s' H'
 rt:∀ d v F' H',Kept B F0 F' H'->ED.rt d->Rep K F' d v->E.rt v H'
 bk:∀ z' s' F' H',Kept B F0 F' H'->ED.bk z'->RepS K B F' H' z' s'->E.bk s' H'
 ct:∀ z' s' F' H',Kept B F0 F' H'->ED.ct z'->RepS K B F' H' z' s'->E.ct s' H'
def lS(K:xK)[Jx](t:TSD):TS:=λE s H=>∃ B F0 F z,Kept B F0 F H/\RepS K B F H z s/\∃ ED:EndsD,t ED z/\EndsOk K B F0 ED E
abbrev DE(X:Cx)[Jx](e:Expr)(t:TD):Prop:=PE X e (lE X.K t)
abbrev DT(X:Cx)[Jx](e:Expr)(t:TDT):Prop:=PT X e (lT X.K t)
abbrev DA(X:Cx)[Jx](es:List Expr)(t:TDA):Prop:=PA X es (lA X.K t)
abbrev DS(X:Cx)[Jx](st:Stmt)(t:TSD):Prop:=PS X st (lS X.K t)
abbrev DSs(X:Cx)[Jx](st:List Stmt)(t:TSD):Prop:=PSs X st (lS X.K t)
structure WDE(X:Cx)[Jx](e:Expr)(t:TD):Prop where
 out:DE X e t
structure WDT(X:Cx)[Jx](e:Expr)(t:TDT):Prop where
 out:DT X e t
structure WDA(X:Cx)[Jx](es:List Expr)(t:TDA):Prop where
 out:DA X es t
structure WDS(X:Cx)[Jx](st:Stmt)(t:TSD):Prop where
 out:DS X st t
structure WDSs(X:Cx)[Jx](st:List Stmt)(t:TSD):Prop where
 out:DSs X st t
section
variable {X:Cx}
def okR(R:D->Prop):D->Prop| .own _=>False|d=>R d
def dVar(i:Nat):TD:=λz R=>match z[i]? with|some (some d)=>okR R d|_=>False
def dC(d:D):TD:=λ_ R=>R d
theorem aa[Jx](i:Nat){x:Str}{pos:Pos}(hN:X.N[i]?=some x:=by rfl)(hv:Vis X.env.scope x:=by first|exact Or.inl rfl|exact Or.inr (Or.inl rfl)|exact Or.inr (Or.inr rfl))(hd:zND x:=by decide)
  (hcd:zNC x:=by decide):WDE X (.Name x pos) (dVar i):=⟨(cu hN hv hd hcd).anti λs H Q h=>by
 obtain⟨B,F,z,kf,r,R,h1,h2⟩:=h
 have fh:=kf.fh
 unfold dVar at h1
 split at h1
 ·rename_i d e
  have no:dQ d=false:=by
   cases d with
   |own ds=>exact False.elim h1
   |_=>rfl
  have h1':R d:=by
   cases d with
   |own ds=>exact False.elim h1
   |_=>exact h1
  obtain⟨v,q1,q2⟩:=r.val i d e no
  exact⟨v,q1,h2 d v F H (Grow.refl fh) h1' q2⟩
 ·exact h1.elim⟩
theorem de_c[Jx]{e:Expr}{d:D}{v:V}(h:PE X e (tC v))(r:∀ H,Rep X.K H d v):DE X e (dC d):=h.anti λs H Q q=>by
 obtain⟨B,F,z,kf,_,R,h1,h2⟩:=q
 have fh:=kf.fh
 exact h2 d v F H (Grow.refl fh) h1 (r F)
theorem ae[Jx]{i j pos}:WDE X (.Constant (.int i) j pos) (dC (.int i)):=⟨de_c nP λ_=>rep_int.mpr rfl⟩
theorem dm[Jx]{b j pos}:WDE X (.Constant (.bool b) j pos) (dC (.bl b)):=⟨de_c nQ λ_=>rep_bl.mpr rfl⟩
theorem fZ[Jx]{j pos}:WDE X (.Constant .none j pos) (dC .non):=⟨de_c nR λ_=>rep_non.mpr rfl⟩
theorem aj[Jx]{x j pos}:WDE X (.Constant (.str x) j pos) (dC (.str x)):=⟨de_c nS λ_=>rep_str.mpr rfl⟩
abbrev RD2:=D->D->(D->Prop)->Prop
def dOp(r:RD2)(ta tb:TD):TD:=λz R=>ta z λx=>tb z λy=>r x y R
def aL(K:xK)(r:R2)(rd:RD2):Prop:=∀ x y u v F H R Q,Same F H->rd x y R->Rep K F x u->Rep K F y v->(∀ d w F' H',Grow F H F' H'->R d->Rep K F' d w->Q w H')->r u v H Q
theorem gc[Jx]{e:Expr}{r:R2}{rd:RD2}{ta tb:TD}(L:aL X.K r rd)(h:PE X e (tOp r (lE X.K ta) (lE X.K tb))):DE X e (dOp rd ta tb):=h.anti λs H Q q=>by
 obtain⟨B,F,z,kf,rs,R,h1,h2⟩:=q
 have fh:=kf.fh
 refine⟨B,F,z,kf,rs,_,h1,λx u F1 H1 g1 hx rx=>?_⟩
 refine⟨B,F1,z,kf.grow g1,rs.grow g1,_,hx,λy v F2 H2 g2 hy ry=>?_⟩
 exact L x y u v F2 H2 R Q g2.fh hy (rx.mono g2.ff) ry λd w F' H' g3=>h2 d w F' H' (g1.trans (g2.trans g3))
variable {a b c:Expr}{ta tb tc:TD}{pos:Pos}
theorem cL[Jx]{op:Operator}{r:R2}{rd:RD2}(ho:OpR X (binaryOp op) r)(L:aL X.K r rd)(ha:DE X a ta)(hb:DE X b tb):DE X (.BinOp a op b pos) (dOp rd ta tb):=gc L (jI ho ha hb)
theorem qC[Jx]{op:CmpOp}{r:R2}{rd:RD2}(ho:OpR X (compareOp op) r)(L:aL X.K r rd)(ha:DE X a ta)(hb:DE X b tb)(hm:behindInMarks op b=false):DE X (.Compare a [op] [b] pos) (dOp rd ta tb):=gc L (oS ho ha hb hm)
theorem qD[Jx]{r:R2}{rd:RD2}(hr:IxR X r)(L:aL X.K r rd)(ha:DE X a ta)(hb:DE X b tb)(hs:cK b:=by exact λ_ _=>rfl):DE X (.Subscript a b pos) (dOp rd ta tb):=gc L (pe_ix hr ha hb hs)
def rdAdd:RD2:=λx y R=>match x,y with
 | .int i,.int j=>R (.int (i+j))
 | .str i,.str j=>i.length+j.length<=1000000/\R (.str (i++j))
 | .lst xs,.lst ys=>xs.length+ys.length<=1000000/\R (.lst (xs++ys))
 | .tup xs,.tup ys=>(xs≠[]/\ys≠[]/\xs.length+ys.length<=1000000)/\R (.tup (xs++ys))
 |_,_=>False
def kG(K:xK):R2:=λx y H Q=>rI0 (λi j=> .int (i+j)) x y H Q\/((λx y H Q=>∃ i j,x= .str i/\y= .str j/\i.length+j.length<=sizeLine/\Q (.str (i++j)) H) x y H Q\/(rCat x y H Q\/kr K x y H Q))
theorem kH:OpR X (binaryOp .Add) (kG X.K):=OpR.or oI (OpR.or oY (OpR.or qd pO))
theorem Reps.append{K:xK}{F:Hp}:∀ {xs ys:List D} {us vs:List V},Reps K F xs us->Reps K F ys vs->Reps K F (xs++ys) (us++vs)
 |[],ys,us,vs,r1,r2=>by rw[reps_nil.mp r1];exact r2
 |x::xs,ys,us,vs,r1,r2=>by
  obtain⟨u,ur,rfl,a1,a2⟩:=reps_cons.mp r1
  exact reps_cons.mpr ⟨u,ur++vs,rfl,a1,Reps.append a2 r2⟩
theorem Reps.ne_nil{K:xK}{F:Hp}{xs:List D}{us:List V}(r:Reps K F xs us)(h:xs≠[]):us≠[]:=by
 cases xs with
 |nil=>exact absurd rfl h
 |cons x xs=>obtain⟨u,ur,rfl,_⟩:=reps_cons.mp r;exact λz=>nomatch z
theorem kI{K:xK}:aL K (kG K) rdAdd:=by
 intro x y u v F H R Q fh h rx ry q
 unfold rdAdd at h
 split at h
 ·exact .inl ⟨_,_,rep_int.mp rx,rep_int.mp ry,q _ _ F H (Grow.refl fh) h (rep_int.mpr rfl)⟩
 ·exact .inr (.inl ⟨_,_,rep_str.mp rx,rep_str.mp ry,xU h.1 (by decide),q _ _ F H (Grow.refl fh) h.2 (rep_str.mpr rfl)⟩)
 ·obtain⟨a,us,rfl,hq,rr⟩:=rep_lst.mp rx
  obtain⟨b,vs,rfl,hq',rr'⟩:=rep_lst.mp ry
  refine .inr (.inr (.inl ⟨a,b,us,vs,rfl,rfl,fh _ _ hq,fh _ _ hq',by rw[rr.length,rr'.length];exact xU h.1 (by decide),λp hp=>?_⟩))
  exact q _ _ _ _ (Grow.new fh hp _) h.2 (rep_lst.mpr ⟨p,_,rfl,av,(rr.append rr').mono (aK (fh.free hp) _)⟩)
 ·obtain⟨a,us,rfl,hq,rr⟩:=rep_tup_mp rx
  obtain⟨b,vs,rfl,hq',rr'⟩:=rep_tup_mp ry
  obtain⟨⟨n1,n2,hz⟩,h⟩:=h
  refine .inr (.inr (.inr ⟨a,b,us,vs,rfl,rfl,fh.tup hq,fh.tup hq',rr.ne_nil n1,by rw[rr.length,rr'.length];exact xU hz (by decide),λz=>absurd z (rr'.ne_nil n2),λ_ p hp=>?_⟩))
  exact q _ _ _ _ (Grow.new fh hp _) h (rep_tupS.mpr ⟨p,_,rfl,av,(rr.append rr').mono (aK (fh.free hp) _)⟩)
 ·exact h.elim
theorem aN[Jx](ha:WDE X a ta)(hb:WDE X b tb):WDE X (.BinOp a .Add b pos) (dOp rdAdd ta tb):=⟨have ha:=ha.out;have hb:=hb.out;cL kH kI ha hb⟩
def rdSub:RD2:=λx y R=>match x,y with| .int i,.int j=>R (.int (i - j))|_,_=>False
theorem kJ{K:xK}:aL K (rI0 λi j=> .int (i - j)) rdSub:=by
 intro x y u v F H R Q fh h rx ry q
 unfold rdSub at h
 split at h
 ·exact⟨_,_,rep_int.mp rx,rep_int.mp ry,q _ _ F H (Grow.refl fh) h (rep_int.mpr rfl)⟩
 ·exact h.elim
theorem cM[Jx](ha:WDE X a ta)(hb:WDE X b tb):WDE X (.BinOp a .Sub b pos) (dOp rdSub ta tb):=⟨have ha:=ha.out;have hb:=hb.out;cL jK kJ ha hb⟩
def rdMul:RD2:=λx y R=>match x,y with| .int i,.int j=>CMul i j/\R (.int (i*j))|_,_=>False
theorem qE{K:xK}:aL K (rI CMul λi j=> .int (i*j)) rdMul:=by
 intro x y u v F H R Q fh h rx ry q
 unfold rdMul at h
 split at h
 ·exact⟨_,_,rep_int.mp rx,rep_int.mp ry,h.1,q _ _ F H (Grow.refl fh) h.2 (rep_int.mpr rfl)⟩
 ·exact h.elim
theorem aY[Jx](ha:WDE X a ta)(hb:WDE X b tb):WDE X (.BinOp a .Mult b pos) (dOp rdMul ta tb):=⟨have ha:=ha.out;have hb:=hb.out;cL oJ qE ha hb⟩
def rdFdiv:RD2:=λx y R=>match x,y with| .int i,.int j=>(0<j/\j<1073741824)/\R (.int (i / j))|_,_=>False
theorem qF{K:xK}:aL K (rI CDiv λi j=> .int (i / j)) rdFdiv:=by
 intro x y u v F H R Q fh h rx ry q
 unfold rdFdiv at h
 split at h
 ·exact⟨_,_,rep_int.mp rx,rep_int.mp ry,h.1,q _ _ F H (Grow.refl fh) h.2 (rep_int.mpr rfl)⟩
 ·exact h.elim
theorem bM[Jx](ha:WDE X a ta)(hb:WDE X b tb):WDE X (.BinOp a .FloorDiv b pos) (dOp rdFdiv ta tb):=⟨have ha:=ha.out;have hb:=hb.out;cL oK qF ha hb⟩
def rdFdivN:RD2:=λx y R=>match x,y with| .int i,.int j=>(j≠0/\j.natAbs<1073741824)/\R (.int (i.fdiv j))|_,_=>False
theorem qG{K:xK}:aL K (rI jJ λi j=> .int (i.fdiv j)) rdFdivN:=by
 intro x y u v F H R Q fh h rx ry q
 unfold rdFdivN at h
 split at h
 ·exact⟨_,_,rep_int.mp rx,rep_int.mp ry,h.1,q _ _ F H (Grow.refl fh) h.2 (rep_int.mpr rfl)⟩
 ·exact h.elim
theorem qH[Jx](ha:WDE X a ta)(hb:WDE X b tb):WDE X (.BinOp a .FloorDiv b pos) (dOp rdFdivN ta tb):=⟨have ha:=ha.out;have hb:=hb.out;cL oM qG ha hb⟩
def rdMod:RD2:=λx y R=>match x,y with| .int i,.int j=>0<j/\R (.int (i % j))|_,_=>False
theorem qI{K:xK}:aL K (rI (λ_ j=>0<j) λi j=> .int (i % j)) rdMod:=by
 intro x y u v F H R Q fh h rx ry q
 unfold rdMod at h
 split at h
 ·exact⟨_,_,rep_int.mp rx,rep_int.mp ry,h.1,q _ _ F H (Grow.refl fh) h.2 (rep_int.mpr rfl)⟩
 ·exact h.elim
theorem bj[Jx](ha:WDE X a ta)(hb:WDE X b tb):WDE X (.BinOp a .Mod b pos) (dOp rdMod ta tb):=⟨have ha:=ha.out;have hb:=hb.out;cL oN qI ha hb⟩
def rdLt:RD2:=λx y R=>match x,y with| .int i,.int j=>R (.bl (decide (i<j)))|_,_=>False
theorem kK{K:xK}:aL K (rI0 λi j=> .bl (decide (i<j))) rdLt:=by
 intro x y u v F H R Q fh h rx ry q
 unfold rdLt at h
 split at h
 ·exact⟨_,_,rep_int.mp rx,rep_int.mp ry,q _ _ F H (Grow.refl fh) h (rep_bl.mpr rfl)⟩
 ·exact h.elim
def rdGt:RD2:=λx y R=>match x,y with| .int i,.int j=>R (.bl (decide (j<i)))|_,_=>False
theorem qJ{K:xK}:aL K (rI0 λi j=> .bl (decide (j<i))) rdGt:=by
 intro x y u v F H R Q fh h rx ry q
 unfold rdGt at h
 split at h
 ·exact⟨_,_,rep_int.mp rx,rep_int.mp ry,q _ _ F H (Grow.refl fh) h (rep_bl.mpr rfl)⟩
 ·exact h.elim
def rdEq:RD2:=λx y R=>match x,y with
 | .int i,.int j=>R (.bl (decide (i=j)))
 | .bl i,.bl j=>R (.bl (decide (i=j)))
 | .str i,.str j=>R (.bl (decide (i=j)))
 | .non,.non=>R (.bl true)
 |_,_=>False
def rdNe:RD2:=λx y R=>match x,y with
 | .int i,.int j=>R (.bl (!decide (i=j)))
 | .bl i,.bl j=>R (.bl (!decide (i=j)))
 | .str i,.str j=>R (.bl (!decide (i=j)))
 | .non,.non=>R (.bl false)
 |_,_=>False
theorem gd{K:xK}:aL K rEq rdEq:=by
 intro x y u v F H R Q fh h rx ry q
 unfold rdEq at h
 split at h
 ·rw[rep_int.mp rx,rep_int.mp ry]
  refine⟨rfl,q _ _ F H (Grow.refl fh) h (rep_bl.mpr ?_)⟩
  simp
 ·rw[rep_bl.mp rx,rep_bl.mp ry]
  refine⟨rfl,q _ _ F H (Grow.refl fh) h (rep_bl.mpr ?_)⟩
  simp
 ·rw[rep_str.mp rx,rep_str.mp ry]
  refine⟨rfl,q _ _ F H (Grow.refl fh) h (rep_bl.mpr ?_)⟩
  simp
 ·rw[rep_non.mp rx,rep_non.mp ry]
  refine⟨rfl,q _ _ F H (Grow.refl fh) h (rep_bl.mpr ?_)⟩
  simp
 ·exact h.elim
theorem qK{K:xK}:aL K rNe rdNe:=by
 intro x y u v F H R Q fh h rx ry q
 unfold rdNe at h
 split at h
 ·rw[rep_int.mp rx,rep_int.mp ry]
  refine⟨rfl,q _ _ F H (Grow.refl fh) h (rep_bl.mpr ?_)⟩
  simp
 ·rw[rep_bl.mp rx,rep_bl.mp ry]
  refine⟨rfl,q _ _ F H (Grow.refl fh) h (rep_bl.mpr ?_)⟩
  simp
 ·rw[rep_str.mp rx,rep_str.mp ry]
  refine⟨rfl,q _ _ F H (Grow.refl fh) h (rep_bl.mpr ?_)⟩
  simp
 ·rw[rep_non.mp rx,rep_non.mp ry]
  refine⟨rfl,q _ _ F H (Grow.refl fh) h (rep_bl.mpr ?_)⟩
  simp
 ·exact h.elim
theorem qL[Jx](ha:WDE X a ta)(hb:WDE X b tb):WDE X (.Compare a [.Eq] [b] pos) (dOp rdEq ta tb):=⟨have ha:=ha.out;have hb:=hb.out;qC fQ gd ha hb (nomark _)⟩
def kL:D->Bool| .non=>true|_=>false
def rdIs(f:Bool->Bool):RD2:=λx y R=>match y with| .non=>R (.bl (f (kL x)))|_=>False
theorem qM{K:xK}{H:Hp}{x:D}{u:V}(r:Rep K H x u):decide (u= .non)=kL x:=by
 cases x with
 |non=>rw[rep_non.mp r];rfl
 |bl b=>rw[rep_bl.mp r];rfl
 |int b=>rw[rep_int.mp r];rfl
 |str b=>rw[rep_str.mp r];rfl
 |tup b=>obtain⟨a,vs,rfl,_⟩:=rep_tup_mp r;rfl
 |lst b=>obtain⟨a,vs,rfl,_⟩:=rep_lst.mp r;rfl
 |rol b=>obtain⟨a,vs,rfl,_⟩:=rep_rol.mp r;rfl
 |obj C b=>obtain⟨a,C,dx,vs,rfl,_⟩:=rep_obj.mp r;rfl
 |exc C b=>obtain⟨a,C,od,vs,rfl,_⟩:=rep_exc.mp r;rfl
 |own b=>exact absurd r rep_own
 |ptr b=>rw[rep_ptr.mp r];rfl
 |dti b=>obtain⟨a,rfl,_⟩:=rep_dti.mp r;rfl
theorem qN{K:xK}:aL K (λx y H Q=>y= .non/\Q (.bl (decide (x= .non))) H) (rdIs id):=by
 intro x y u v F H R Q fh h rx ry q
 unfold rdIs at h
 split at h
 ·exact⟨rep_non.mp ry,q _ _ F H (Grow.refl fh) h (rep_bl.mpr (by rw[qM rx];rfl))⟩
 ·exact h.elim
def rdIx:RD2:=λx y R=>match x,y with
 | .tup ds,.int i=>∃ d,atI ds i=some d/\R d
 | .lst ds,.int i=>∃ d,atI ds i=some d/\R d
 | .rol ds,.int i=>∃ d,atI ds i=some d/\R d
 | .str x,.int i=>∃ c,(x.length<=1000000/\atI x.cps.toList i=some c)/\R (.str ⟨#[c]⟩)
 |_,_=>False
theorem Reps.at{K:xK}{H:Hp}{ds:List D}{vs:List V}{i:Int}{d:D}(r:Reps K H ds vs)(e:atI ds i=some d):∃ v,atI vs i=some v/\Rep K H d v:=by
 unfold atI at e ⊢
 rw[r.length]
 cases q:ixN ds.length i with
 |none=>rw[q] at e;cases e
 |some j=>
  rw[q] at e
  exact r.get e
theorem kM{K:xK}:aL K (rIx K) rdIx:=by
 intro x y u v F H R Q fh h rx ry q
 unfold rdIx at h
 split at h
 ·obtain⟨d,e,h⟩:=h
  obtain⟨a,vs,e1,hq,rs⟩:=rep_tup_mp rx
  obtain⟨w,e2,rw'⟩:=rs.at e
  exact .inr (.inl ⟨a,vs,_,w,e1,rep_int.mp ry,fh.tup hq,e2,q d w F H (Grow.refl fh) h rw'⟩)
 ·obtain⟨d,e,h⟩:=h
  obtain⟨a,vs,e1,hq,rs⟩:=rep_lst.mp rx
  obtain⟨w,e2,rw'⟩:=rs.at e
  exact .inl ⟨a,vs,_,w,e1,rep_int.mp ry,fh.seq (SqL.of hq),e2,q d w F H (Grow.refl fh) h rw'⟩
 ·obtain⟨d,e,h⟩:=h
  obtain⟨a,vs,e1,hq,rs⟩:=rep_rol.mp rx
  obtain⟨w,e2,rw'⟩:=rs.at e
  exact .inl ⟨a,vs,_,w,e1,rep_int.mp ry,fh.seq hq,e2,q d w F H (Grow.refl fh) h rw'⟩
 ·obtain⟨c,⟨hz,e⟩,h⟩:=h
  exact .inr (.inr ⟨_,_,c,rep_str.mp rx,rep_int.mp ry,xU hz (by decide),e,q _ _ F H (Grow.refl fh) h (rep_str.mpr rfl)⟩)
 ·exact h.elim
theorem ai[Jx](ha:WDE X a ta)(hb:WDE X b tb)(hs:cK b:=by exact λ_ _=>rfl):WDE X (.Subscript a b pos) (dOp rdIx ta tb):=⟨have ha:=ha.out;have hb:=hb.out;qD ku kM ha hb hs⟩
def dUn(r:D->(D->Prop)->Prop)(ta:TD):TD:=λz R=>ta z λx=>r x R
def kN:D->(D->Prop)->Prop:=λx R=>match x with| .int i=>R (.int (-i))|_=>False
theorem ce[Jx](ha:WDE X a ta):WDE X (.UnaryOp .USub a pos) (dUn kN ta):=⟨have ha:=ha.out;(oH oO ha).anti λs H Q h=>by
 obtain⟨B,F,z,kf,rs,R,h1,h2⟩:=h
 have fh:=kf.fh
 refine⟨B,F,z,kf,rs,_,h1,λx u F1 H1 g1 hx rx=>?_⟩
 unfold kN at hx
 split at hx
 ·exact⟨_,rep_int.mp rx,h2 _ _ F1 H1 g1 hx (rep_int.mpr rfl)⟩
 ·exact hx.elim⟩
def dNil:TDA:=λ_ R=>R []
def qO(ta:TD)(tr:TDA):TDA:=λz R=>ta z λx=>tr z λxs=>R (x::xs)
theorem af[Jx]:WDA X [] dNil:=⟨pa_nil.anti λs H Q h=>by
 obtain⟨B,F,z,kf,rs,R,h1,h2⟩:=h
 have fh:=kf.fh
 exact h2 [] [] F H (Grow.refl fh) h1 (reps_nil.mpr rfl)⟩
theorem ac[Jx]{e:Expr}{es:List Expr}{te:TD}{t:TDA}(ha:WDE X e te)(hr:WDA X es t)(hs:zSE X e es:=by rfl):WDA X (e::es) (qO te t):=⟨have ha:=ha.out;have hr:=hr.out;(bg ha hr hs).anti λs H Q h=>by
 obtain⟨B,F,z,kf,rs,R,h1,h2⟩:=h
 have fh:=kf.fh
 refine⟨B,F,z,kf,rs,_,h1,λx u F1 H1 g1 hx rx=>?_⟩
 refine⟨B,F1,z,kf.grow g1,rs.grow g1,_,hx,λxs us F2 H2 g2 hy ry=>?_⟩
 exact h2 _ _ F2 H2 (g1.trans g2) hy (reps_cons.mpr ⟨_,_,rfl,rx.mono g2.ff,ry⟩)⟩
def dTup(t:TDA):TD:=λz R=>t z λxs=>xs.length<=1000/\R (.tup xs)
def dLst(t:TDA):TD:=λz R=>t z λxs=>xs.length<=1000/\R (.lst xs)
theorem bw[Jx]{es:List Expr}{t:TDA}{x1}(h:WDA X es t):WDE X (.Tuple es x1 pos) (dTup t):=⟨have h:=h.out;(jZ h).anti λs H Q q=>by
 obtain⟨B,F,z,kf,rs,R,h1,h2⟩:=q
 have fh:=kf.fh
 refine⟨B,F,z,kf,rs,_,h1,λds vs F1 H1 g1 hx rx=>?_⟩
 have hl:=rx.length
 refine⟨sz (by rw[hl];exact hx.1),λp hp=>?_⟩
 exact h2 _ _ _ _ (g1.trans (Grow.new g1.fh hp _)) hx.2 (rep_tupS.mpr ⟨p,vs,rfl,av,rx.mono (aK (g1.fh.free hp) _)⟩)⟩
theorem dq[Jx]{es:List Expr}{t:TDA}(h:WDA X es t):WDE X (.List es pos) (dLst t):=⟨have h:=h.out;(kd h).anti λs H Q q=>by
 obtain⟨B,F,z,kf,rs,R,h1,h2⟩:=q
 have fh:=kf.fh
 refine⟨B,F,z,kf,rs,_,h1,λds vs F1 H1 g1 hx rx=>?_⟩
 have hl:=rx.length
 refine⟨sz (by rw[hl];exact hx.1),λp hp=>?_⟩
 exact h2 _ _ _ _ (g1.trans (Grow.new g1.fh hp _)) hx.2 (rep_lst.mpr ⟨p,vs,rfl,av,rx.mono (aK (g1.fh.free hp) _)⟩)⟩
abbrev SpD:=List D->(D->Prop)->Prop
def lSp(K:xK)(S:SpD):Sp:=λvs H Q _=>∃ F ds,Same F H/\Reps K F ds vs/\∃ R:D->Prop,S ds R/\∀ d v F' H',Grow F H F' H'->R d->Rep K F' d v->Q v H'
def qP(S:SpD)(t:TDA):TD:=λz R=>t z λds=>S ds R
abbrev CalD(P:Program)(w:World)(K:xK)(mg:Str->Option Value)(base:Heap)(n:Nat)(x:Str)(ps:List Str)(S:SpD):Prop:=Cal P w K mg base n x ps (lSp K S)
theorem aV[Jx]{n m:Nat}{ps:List Str}{S:SpD}{x:Str}{p:Pos}{e:Expr}{es:List Expr}{t:TDA}(C:CalD X.prog X.w X.K X.mg X.base n x ps S)(hr:Room m X.A)(ha:WDA X (e::es) t)(hg:Gl X x:=by rfl)(hn:n<=m:=by decide)(hdb:zND x:=by decide)
  (he:zSE X e es:=by rfl) (hpl:zPL X pos es:=by rfl):WDE X (.Call (.Name x p) (e::es) [] pos) (qP S t):=⟨have ha:=ha.out;(qB C hr ha hg hn hdb he hpl).anti λs H Q h=>by
 obtain⟨B,F,z,kf,rs,R,h1,h2⟩:=h
 have fh:=kf.fh
 refine⟨B,F,z,kf,rs,_,h1,λds vs F1 H1 g1 hx rx=>?_⟩
 exact⟨F1,ds,g1.fh,by rw[yf];exact rx,R,hx,λd v F' H' g=>h2 d v F' H' (g1.trans g)⟩⟩
abbrev RDn:=List D->(D->Prop)->Prop
def cf(K:xK)(r:List V->Hp->VK->Prop)(rd:RDn):Prop:=∀ ds vs F H R Q,Same F H->rd ds R->Reps K F ds vs->(∀ d w F' H',Grow F H F' H'->R d->Rep K F' d w->Q w H')->r vs H Q
def dCB(r:RDn)(t:TDA):TD:=λz R=>t z λds=>r ds R
theorem kO[Jx]{x:Str}{p:Pos}{e:Expr}{es:List Expr}{t:TDA}{id:String}{r:List V->Hp->VK->Prop}{rd:RDn}(hc:bv X (.builtin id) r)(L:cf X.K r rd)(hm:X.mg x=none)(hv:bootBuiltins x=some (.builtin id))(ha:DA X (e::es) t)(hg:Gl X x:=by rfl)(hn:x≠"__name__":=by decide)(hdb:zND x:=by decide)
  (he:zSE X e es:=by rfl) (hpl:zPL X pos es:=by rfl):DE X (.Call (.Name x p) (e::es) [] pos) (dCB rd t):=(dN hc hg hm hv ha hn hdb he hpl).anti λs H Q h=>by
 obtain⟨B,F,z,kf,rs,R,h1,h2⟩:=h
 have fh:=kf.fh
 refine⟨B,F,z,kf,rs,_,h1,λds vs F1 H1 g1 hx rx=>?_⟩
 exact L ds vs F1 H1 R Q g1.fh hx rx λd w F' H' g=>h2 d w F' H' (g1.trans g)
def rdLen:RDn:=λds R=>match ds with
 |[.tup xs]=>R (.int xs.length)
 |[.lst xs]=>R (.int xs.length)
 |[.rol xs]=>R (.int xs.length)
 |[.str x]=>x.length<=1000000/\R (.int x.length)
 |_=>False
theorem kP{K:xK}:cf K (λxs H Q=>∃ x n,xs=[x]/\LenV K x H n/\Q (.int n) H) rdLen:=by
 intro ds vs F H R Q fh h rx q
 unfold rdLen at h
 split at h
 ·obtain⟨v,r,rfl,h1,h2⟩:=reps_cons.mp rx
  rw[reps_nil.mp h2]
  obtain⟨a,us,rfl,hq,rs⟩:=rep_tup_mp h1
  exact⟨.ref a,us.length,rfl,.inr ⟨us,fh.tup hq,rfl⟩,q _ _ F H (Grow.refl fh) h (rep_int.mpr (by rw[rs.length]))⟩
 ·obtain⟨v,r,rfl,h1,h2⟩:=reps_cons.mp rx
  rw[reps_nil.mp h2]
  obtain⟨a,us,rfl,hq,rs⟩:=rep_lst.mp h1
  exact⟨.ref a,us.length,rfl,.inl ⟨us,fh.seq (SqL.of hq),rfl⟩,q _ _ F H (Grow.refl fh) h (rep_int.mpr (by rw[rs.length]))⟩
 ·obtain⟨v,r,rfl,h1,h2⟩:=reps_cons.mp rx
  rw[reps_nil.mp h2]
  obtain⟨a,us,rfl,hq,rs⟩:=rep_rol.mp h1
  exact⟨.ref a,us.length,rfl,.inl ⟨us,fh.seq hq,rfl⟩,q _ _ F H (Grow.refl fh) h (rep_int.mpr (by rw[rs.length]))⟩
 ·obtain⟨v,r,rfl,h1,h2⟩:=reps_cons.mp rx
  rw[reps_nil.mp h2,rep_str.mp h1]
  exact⟨.str _,_,rfl,⟨xU h.1 (by decide),rfl⟩,q _ _ F H (Grow.refl fh) h.2 (rep_int.mpr rfl)⟩
 ·exact h.elim
theorem dR[Jx]{p:Pos}{e:Expr}{t:TDA}(hm:X.mg "len"=none)(ha:WDA X [e] t)(hg:Gl X "len":=by rfl)(he:zSE X e []:=by rfl):WDE X (.Call (.Name "len" p) [e] [] pos) (dCB rdLen t):=⟨have ha:=ha.out;kO fR kP hm PySem.boot_len ha hg (by decide) (by decide) he⟩
def rdAbs:RDn:=λds R=>match ds with
 |[.int i]=>R (.int (if i<0 then -i else i))
 |_=>False
theorem qQ{K:xK}:cf K (λxs H Q=>∃ i,xs=[.int i]/\Q (.int (if i<0 then -i else i)) H) rdAbs:=by
 intro ds vs F H R Q fh h rx q
 unfold rdAbs at h
 split at h
 ·obtain⟨v,r,rfl,h1,h2⟩:=reps_cons.mp rx
  rw[reps_nil.mp h2,rep_int.mp h1]
  exact⟨_,rfl,q _ _ F H (Grow.refl fh) h (rep_int.mpr rfl)⟩
 ·exact h.elim
theorem qR[Jx]{p:Pos}{e:Expr}{t:TDA}(hm:X.mg "abs"=none)(ha:WDA X [e] t)(hg:Gl X "abs":=by rfl)(he:zSE X e []:=by rfl):WDE X (.Call (.Name "abs" p) [e] [] pos) (dCB rdAbs t):=⟨have ha:=ha.out;kO oZ qQ hm PyProof.Rows.boot_abs ha hg (by decide) (by decide) he⟩
end
end My
end
section
open PySem PySem.Spec PyProof.Rows L2
namespace My
section
variable {X:Cx}{a b c e:Expr}{ta tb tc te:TD}{pos:Pos}
def dTst(t:TD):TDT:=λz R=>t z λx=>match x with| .bl k=>R k|_=>False
theorem dS[Jx]{op:CmpOp}{r:R2}{rd:RD2}(ho:OpR X (compareOp op) r)(L:aL X.K r rd)(ha:DE X a ta)(hb:DE X b tb)(hm:behindInMarks op b=false):DT X (.Compare a [op] [b] pos) (dTst (dOp rd ta tb)):=(jQ ho ha hb hm).anti λs H Q q=>by
 obtain⟨B,F,z,kf,rs,R,h1,h2⟩:=q
 have fh:=kf.fh
 refine⟨B,F,z,kf,rs,_,h1,λx u F1 H1 g1 hx rx=>?_⟩
 refine⟨B,F1,z,kf.grow g1,rs.grow g1,_,hx,λy v F2 H2 g2 hy ry=>?_⟩
 refine L x y u v F2 H2 _ _ g2.fh hy (rx.mono g2.ff) ry λd w F' H' g3 hd rd=>?_
 split at hd
 ·exact⟨_,rep_bl.mp rd,h2 _ F' H' (g1.trans (g2.trans g3)) hd⟩
 ·exact hd.elim
theorem dU[Jx](ha:WDE X a ta)(hb:WDE X b tb):WDT X (.Compare a [.Lt] [b] pos) (dTst (dOp rdLt ta tb)):=⟨have ha:=ha.out;have hb:=hb.out;dS jP kK ha hb (nomark _)⟩
theorem qS[Jx](ha:WDE X a ta)(hb:WDE X b tb):WDT X (.Compare a [.Gt] [b] pos) (dTst (dOp rdGt ta tb)):=⟨have ha:=ha.out;have hb:=hb.out;dS oQ qJ ha hb (nomark _)⟩
theorem bn[Jx](ha:WDE X a ta)(hb:WDE X b tb):WDT X (.Compare a [.Eq] [b] pos) (dTst (dOp rdEq ta tb)):=⟨have ha:=ha.out;have hb:=hb.out;dS fQ gd ha hb (nomark _)⟩
theorem kQ[Jx](ha:WDE X a ta)(hb:WDE X b tb):WDT X (.Compare a [.NotEq] [b] pos) (dTst (dOp rdNe ta tb)):=⟨have ha:=ha.out;have hb:=hb.out;dS oP qK ha hb (nomark _)⟩
def dTru(t:TD):TDT:=λz R=>t z λx=>match x with
 | .non=>R false
 | .bl k=>R k
 | .int i=>R (i !=0)
 | .str y=>y.length<=1000/\R ((y.length:Int) !=0)
 | .tup xs=>R (!xs.isEmpty)
 | .lst xs=>R (!xs.isEmpty)
 | .rol xs=>R (!xs.isEmpty)
 |_=>False
theorem Reps.isEmpty{K:xK}{H:Hp}{ds:List D}{vs:List V}(r:Reps K H ds vs):vs.isEmpty=ds.isEmpty:=by
 cases ds with
 |nil=>rw[reps_nil.mp r];rfl
 |cons d ds=>obtain⟨v,r',rfl,_⟩:=reps_cons.mp r;rfl
theorem gf[Jx](ha:WDE X a ta)(he:∀ whole,isTrue a X.env whole=(do let v <- whole;standAt a.pos;holding [v] (truthy v)):=by exact λ_=>rfl):WDT X a (dTru ta):=⟨have ha:=ha.out;(oX ha he).anti λs H Q q=>by
 obtain⟨B,F,z,kf,rs,R,h1,h2⟩:=q
 have fh:=kf.fh
 refine⟨B,F,z,kf,rs,_,h1,λx u F1 H1 g1 hx rx=>?_⟩
 split at hx
 ·rw[rep_non.mp rx];exact⟨false,rfl,h2 _ F1 H1 g1 hx⟩
 ·rw[rep_bl.mp rx];exact⟨_,rfl,h2 _ F1 H1 g1 hx⟩
 ·rw[rep_int.mp rx];exact⟨_,rfl,h2 _ F1 H1 g1 hx⟩
 ·rw[rep_str.mp rx];exact⟨_,⟨sz hx.1,rfl⟩,h2 _ F1 H1 g1 hx.2⟩
 ·obtain⟨p,vs,rfl,hq,rr⟩:=rep_tup_mp rx
  exact⟨_,.inr (.inl ⟨vs,g1.fh.tup hq,by rw[rr.isEmpty]⟩),h2 _ F1 H1 g1 hx⟩
 ·obtain⟨p,vs,rfl,hq,rr⟩:=rep_lst.mp rx
  exact⟨_,.inl ⟨vs,g1.fh.seq (SqL.of hq),by rw[rr.isEmpty]⟩,h2 _ F1 H1 g1 hx⟩
 ·obtain⟨p,vs,rfl,hq,rr⟩:=rep_rol.mp rx
  exact⟨_,.inl ⟨vs,g1.fh.seq hq,by rw[rr.isEmpty]⟩,h2 _ F1 H1 g1 hx⟩
 ·exact hx.elim⟩
variable {tA tB':TDT}{rest:List Expr}
def dNot(t:TDT):TDT:=λz R=>t z λc=>R (!c)
theorem qT[Jx](ha:WDT X a tA):WDT X (.UnaryOp .Not a pos) (dNot tA):=⟨have ha:=ha.out;(oa ha).anti λs H Q q=>by
 obtain⟨B,F,z,kf,rs,R,h1,h2⟩:=q
 have fh:=kf.fh
 exact⟨B,F,z,kf,rs,_,h1,λk F1 H1 g1 hx=>h2 _ F1 H1 g1 hx⟩⟩
def qU(ta tb:TD):TD:=λz R=>ta z λx=>match x with| .bl k=>if k=true then tb z R else R (.bl false)|_=>False
def qV(ta:TD):TD:=λz R=>ta z λx=>match x with| .bl k=>R (.bl (!k))|_=>False
theorem kR[Jx]{op}(h:WDE X a ta):WDE X (.BoolOp op [a] pos) ta:=⟨have h:=h.out;oi h⟩
theorem gh[Jx](ha:WDE X a ta)(hb:WDE X (.BoolOp .And (b::rest) pos) tb):WDE X (.BoolOp .And (a::b::rest) pos) (qU ta tb):=⟨have ha:=ha.out;have hb:=hb.out;(oj ha hb).anti λs H Q q=>by
 obtain⟨B,F,z,kf,rs,R,h1,h2⟩:=q
 have fh:=kf.fh
 refine⟨B,F,z,kf,rs,_,h1,λx u F1 H1 g1 hx rx=>?_⟩
 split at hx
 ·rename_i k
  refine⟨k,rep_bl.mp rx,?_⟩
  cases k with
  |true=>exact⟨B,F1,z,kf.grow g1,rs.grow g1,R,hx,λd v F' H' g=>h2 d v F' H' (g1.trans g)⟩
  |false=>exact h2 _ _ F1 H1 g1 hx (rep_bl.mpr rfl)
 ·exact hx.elim⟩
theorem kS[Jx](ha:WDE X a ta):WDE X (.UnaryOp .Not a pos) (qV ta):=⟨have ha:=ha.out;(ol ha).anti λs H Q q=>by
 obtain⟨B,F,z,kf,rs,R,h1,h2⟩:=q
 have fh:=kf.fh
 refine⟨B,F,z,kf,rs,_,h1,λx u F1 H1 g1 hx rx=>?_⟩
 split at hx
 ·exact⟨_,rep_bl.mp rx,h2 _ _ F1 H1 g1 hx (rep_bl.mpr rfl)⟩
 ·exact hx.elim⟩
def tyD:D->String
 | .non=>"NoneType"| .bl _=>"bool"| .int _=>"int"| .str _=>"str"| .tup _=>"tuple"| .lst _=>"list"| .rol _=>"list"| .obj _ _=>"object"| .exc _ _=>"object"| .own _=>"list"| .ptr _=>"object"| .dti _=>"dict"
def du(t:String)(x:D):Bool:=tyD x==t||(tyD x=="bool" && t=="int")
def TyQ(K:xK)(H:Hp)(x:V)(t:String):Prop:=TyOf K H x (.type t)\/(t="tuple"/\∃ a xs,x= .ref a/\SqT K H a xs)\/(t="list"/\∃ a xs,x= .ref a/\SqL K H a xs)
theorem qW:bv X (.builtin "isinstance") (λxs H Q=>∃ x t c k,xs=[x,.ty c]/\TyQ X.K H x t/\kitOne X.K (.type t) (.type c)=some k/\Q (.bl k) H):=by
 intro pins s σ H xs us Q I r h
 obtain⟨x,t,c,k,rfl,ty,e,q⟩:=h
 obtain⟨u,u',rfl,rx,rc⟩:=jR r
 cases(show u'=Value.type c from rc)
 rcases ty with ty|⟨rfl,a,ys,rfl,hq⟩|⟨rfl,a,ys,rfl,hq⟩
 ·exact pq I rx ty e λtk=>⟨.bl k,H,I.tok _,rfl,q⟩
 ·cases(show u=Value.ref a from rx)
  obtain⟨its,_,⟨o,h1,h2,_⟩,_⟩:=I.tuple hq
  exact kia_one kitx_tuple I.kIn ⟨o,h1,h2⟩ e (λz=>nomatch z) λtk=>⟨.bl k,H,I.tok _,rfl,q⟩
 ·cases(show u=Value.ref a from rx)
  obtain⟨its,_,pl,_⟩:=I.list hq
  obtain⟨o,n,h1,h2,_⟩:=pl
  exact kia_one kitx_list I.kIn ⟨o,h1,h2⟩ e (λz=>nomatch z) λtk=>⟨.bl k,H,I.tok _,rfl,q⟩
def dv:D->Bool| .obj _ _=>false| .exc _ _=>false| .ptr _=>false| .dti _=>false|_=>true
theorem qX{K:xK}{F H:Hp}{x:D}{u:V}(fh:Same F H)(r:Rep K F x u)(no:dv x=true):TyQ K H u (tyD x):=by
 cases x with
 |non=>rw[rep_non.mp r];exact .inl .non
 |bl b=>rw[rep_bl.mp r];exact .inl (.bl b)
 |int b=>rw[rep_int.mp r];exact .inl (.int b)
 |str b=>rw[rep_str.mp r];exact .inl (.str b)
 |tup b=>obtain⟨a,vs,rfl,hq,_⟩:=rep_tup_mp r;exact .inr (.inl ⟨rfl,a,vs,rfl,fh.tup hq⟩)
 |lst b=>obtain⟨a,vs,rfl,hq,_⟩:=rep_lst.mp r;exact .inr (.inr ⟨rfl,a,vs,rfl,fh.seq (SqL.of hq)⟩)
 |rol b=>obtain⟨a,vs,rfl,hq,_⟩:=rep_rol.mp r;exact .inr (.inr ⟨rfl,a,vs,rfl,fh.seq hq⟩)
 |obj C b=>cases no
 |exc C b=>cases no
 |ptr b=>cases no
 |dti b=>cases no
 |own b=>exact absurd r rep_own
def qY(t:String):D->(D->Prop)->Prop:=λx R=>match x with| .obj _ _=>False| .exc _ _=>False| .ptr _=>False| .dti _=>False|x=>R (.bl (du t x))
theorem kT[Jx]{p p2:Pos}{y:Str}{t:String}(hm:X.mg "isinstance"=none)(hmT:X.mg y=none)(ha:WDE X a ta)(hv:bootBuiltins y=some (.type t))
  (hk:∀ x:D,dv x=true->kitOne X.K (.type (tyD x)) (.type t)=some (du t x)) (hg:Gl X "isinstance":=by rfl) (hgT:Gl X y:=by rfl) (hn:y≠"__name__":=by decide) (hdb:zND y:=by decide)
  (hs1:starEach [a,.Name y p2] X.env=(false,eval a X.env)::starEach [.Name y p2] X.env:=by rfl) (hs2:starEach [.Name y p2] X.env=(false,eval (.Name y p2) X.env)::starEach [] X.env:=by rfl) (hpl:(backTo pos (starEach [.Name y p2] X.env)).any (·.1)=false:=by rfl):WDE X (.Call (.Name "isinstance" p) [a,.Name y p2] [] pos) (dUn (qY t) ta):=⟨have ha:=ha.out;(dN qW hg hm PyProof.Rows.boot_isinstance (bg ha (bg (nV (v:= .ty t) hgT hmT hv rfl hn hdb) pa_nil hs2) hs1) (by decide) (by decide) hs1 hpl).anti λs H Q q=>by
 obtain⟨B,F,z,kf,rs,R,h1,h2⟩:=q
 have fh:=kf.fh
 refine⟨B,F,z,kf,rs,_,h1,λx u F1 H1 g1 hx rx=>?_⟩
 have no:dv x=true:=by
  cases x with
  |obj C b=>exact False.elim hx
  |exc C b=>exact False.elim hx
  |ptr b=>exact False.elim hx
  |dti b=>exact False.elim hx
  |_=>rfl
 have hx':R (.bl (du t x)):=by
  cases x with
  |obj C b=>exact False.elim hx
  |exc C b=>exact False.elim hx
  |ptr b=>exact False.elim hx
  |dti b=>exact False.elim hx
  |_=>exact hx
 exact⟨u,tyD x,t,_,rfl,qX g1.fh rx no,hk x no,h2 _ _ F1 H1 g1 hx' (rep_bl.mpr rfl)⟩⟩
theorem qZ{K:xK}:∀ x:D,dv x=true->kitOne K (.type (tyD x)) (.type "int")=some (du "int" x):=by intro x no;cases x<;>first|rfl|cases no
theorem kit_bool{K:xK}:∀ x:D,dv x=true->kitOne K (.type (tyD x)) (.type "bool")=some (du "bool" x):=by intro x no;cases x<;>first|rfl|cases no
def toV:D->Option V
 | .non=>some .non| .bl b=>some (.bl b)| .int i=>some (.int i)| .str x=>some (.str x)|_=>none
def bx(d:D):Bool:=(toV d).isSome
def eqF:D->D->Bool
 | .non,.non=>true
 | .bl a,.bl b=>a==b
 | .bl a,.int b=>(if a then 1 else 0)==b
 | .int a,.bl b=>a==(if b then 1 else 0)
 | .int a,.int b=>a==b
 | .str a,.str b=>a==b
 |_,_=>false
end
section
variable {X:Cx}{a b:Expr}{ta tb:TD}{pos:Pos}
theorem Vals.getD{xs:List V}{us:List Value}{j:Nat}(r:Vals xs us)(h:j<us.length):RelV (xs.getD j .non) us[j]:=by
 have hl:=L2.Vals.length r
 obtain⟨u,q1,q2⟩:=L2.Vals.get (i:=j) (x:=xs.getD j .non) r (by rw[yk (by omega)];simp[yY,yk (show j<xs.length by omega)])
 rw[yk h] at q1
 cases q1
 exact q2
theorem eqV_of{K:xK}{H:Hp}{x y:D}{u v:V}(rx:Rep K H x u)(ry:Rep K H y v)(fx:bx x=true)(fy:bx y=true):eqV u v=eqF x y:=by
 cases x with
 |tup _=>cases fx
 |lst _=>cases fx
 |rol _=>cases fx
 |obj _ _=>cases fx
 |exc _ _=>cases fx
 |ptr _=>cases fx
 |dti _=>cases fx
 |own _=>cases fx
 |non=>rw[rep_non.mp rx];cases y with
  |tup _=>cases fy
  |lst _=>cases fy
  |rol _=>cases fy
  |obj _ _=>cases fy
  |exc _ _=>cases fy
  |ptr _=>cases fy
  |dti _=>cases fy
  |own _=>cases fy
  |non=>rw[rep_non.mp ry];rfl
  |bl _=>rw[rep_bl.mp ry];rfl
  |int _=>rw[rep_int.mp ry];rfl
  |str _=>rw[rep_str.mp ry];rfl
 |bl _=>rw[rep_bl.mp rx];cases y with
  |tup _=>cases fy
  |lst _=>cases fy
  |rol _=>cases fy
  |obj _ _=>cases fy
  |exc _ _=>cases fy
  |ptr _=>cases fy
  |dti _=>cases fy
  |own _=>cases fy
  |non=>rw[rep_non.mp ry];rfl
  |bl _=>rw[rep_bl.mp ry];rfl
  |int _=>rw[rep_int.mp ry];rfl
  |str _=>rw[rep_str.mp ry];rfl
 |int _=>rw[rep_int.mp rx];cases y with
  |tup _=>cases fy
  |lst _=>cases fy
  |rol _=>cases fy
  |obj _ _=>cases fy
  |exc _ _=>cases fy
  |ptr _=>cases fy
  |dti _=>cases fy
  |own _=>cases fy
  |non=>rw[rep_non.mp ry];rfl
  |bl _=>rw[rep_bl.mp ry];rfl
  |int _=>rw[rep_int.mp ry];rfl
  |str _=>rw[rep_str.mp ry];rfl
 |str _=>rw[rep_str.mp rx];cases y with
  |tup _=>cases fy
  |lst _=>cases fy
  |rol _=>cases fy
  |obj _ _=>cases fy
  |exc _ _=>cases fy
  |ptr _=>cases fy
  |dti _=>cases fy
  |own _=>cases fy
  |non=>rw[rep_non.mp ry];rfl
  |bl _=>rw[rep_bl.mp ry];rfl
  |int _=>rw[rep_int.mp ry];rfl
  |str _=>rw[rep_str.mp ry];rfl
theorem dW{K:xK}{H:Hp}{x:D}{u:V}(rx:Rep K H x u)(fx:bx x=true):bL u=true:=by
 cases x with
 |tup _=>cases fx
 |lst _=>cases fx
 |rol _=>cases fx
 |obj _ _=>cases fx
 |exc _ _=>cases fx
 |ptr _=>cases fx
 |dti _=>cases fx
 |own _=>cases fx
 |non=>rw[rep_non.mp rx];rfl
 |bl _=>rw[rep_bl.mp rx];rfl
 |int _=>rw[rep_int.mp rx];rfl
 |str _=>rw[rep_str.mp rx];rfl
theorem dX{K:xK}{H:Hp}:∀ {xs:List D} {us:List V},Reps K H xs us->xs.all bx=true->us.all bL=true
 |[],us,r,_=>by rw[reps_nil.mp r];rfl
 |x::xs,us,r,f=>by
  obtain⟨v,vr,rfl,r1,r2⟩:=reps_cons.mp r
  rw[zk,ym] at f ⊢
  exact⟨dW r1 f.1,dX r2 f.2⟩
end
end My
end
section
open PySem PySem.Spec PyProof.Rows L2
namespace My
section
variable {X:Cx}{a b c e:Expr}{ta tb tc te:TD}{pos:Pos}{st:Stmt}{rest:List Stmt}{t u:TSD}
def ra:TSD:=λE z=>E.nx z
def dSeq(t u:TSD):TSD:=λE z=>t {E with nx:=u E} z
theorem bz[Jx]:WDSs X [] ra:=⟨pss_nil.anti λE s H q=>by
 obtain⟨B,F0,F,z,k,rs,ED,h,e⟩:=q
 exact e.nx z s F H k h rs⟩
theorem au[Jx](h1:WDS X st t)(h2:WDSs X rest u):WDSs X (st::rest) (dSeq t u):=⟨have h1:=h1.out;have h2:=h2.out;(cZ h1 h2).anti λE s H q=>by
 obtain⟨B,F0,F,z,k,rs,ED,h,e⟩:=q
 exact⟨B,F0,F,z,k,rs,{ED with nx:=u ED},h,⟨λz' s' F' H' k' hz r'=>⟨B,F0,F',z',k',r',ED,hz,e⟩,e.rt,e.bk,e.ct⟩⟩⟩
theorem aD[Jx](h1:WDS X st t):WDSs X [st] t:=⟨have h1:=h1.out;jz h1⟩
def dRet(te:TD):TSD:=λE z=>te z E.rt
theorem aW[Jx](he:WDE X e te):WDS X (.Return (some e) pos) (dRet te):=⟨have he:=he.out;(jB he).anti λE s H q=>by
 obtain⟨B,F0,F,z,k,rs,ED,h,e⟩:=q
 exact⟨B,F,z,k.kf,rs,_,h,λd v F' H' g hd rd=>e.rt d v F' H' (k.grow g) hd rd⟩⟩
def rb(te:TD):TSD:=λE z=>te z λ_=>E.nx z
theorem rg[Jx](he:WDE X e te)(hs:swapsWith e none pos.line X.env=pure false:=by rfl):WDS X (.Expr e pos) (rb te):=⟨have he:=he.out;(jA he hs).anti λE s H q=>by
 obtain⟨B,F0,F,z,k,rs,ED,h,e⟩:=q
 exact⟨B,F,z,k.kf,rs,_,h,λd v F' H' g hd rd=>e.nx z s F' H' (k.grow g) hd (rs.grow g)⟩⟩
def dIfS(c:TDT)(t u:TSD):TSD:=λE z=>c z λb=>if b=true then t E z else u E z
theorem kU[Jx]{c:Expr}{l r:List Stmt}{tc:TDT}(hc:DT X c tc)(ha:DSs X l t)(hb:DSs X r u):DS X (.If c l r pos) (dIfS tc t u):=(jC hc ha hb).anti λE s H q=>by
 obtain⟨B,F0,F,z,k,rs,ED,h,e⟩:=q
 refine⟨B,F,z,k.kf,rs,_,h,λb F1 H1 g hk=>?_⟩
 cases b with
 |true=>exact⟨B,F0,F1,z,k.grow g,rs.grow g,ED,hk,e⟩
 |false=>exact⟨B,F0,F1,z,k.grow g,rs.grow g,ED,hk,e⟩
def dIfJ(c:TDT)(t u:TSD):TSD:=λE z=>∃ J:SD->Prop,(c z λb=>if b=true then t {E with nx:=J} z else u {E with nx:=J} z)/\∀ z',J z'->E.nx z'
theorem cg[Jx]{c:Expr}{l r:List Stmt}{tc:TDT}(hc:WDT X c tc)(ha:WDSs X l t)(hb:WDSs X r u):WDS X (.If c l r pos) (dIfJ tc t u):=⟨have hc:=hc.out;have ha:=ha.out;have hb:=hb.out;(kU hc ha hb).anti λE s H q=>by
 obtain⟨B,F0,F,z,k,rs,ED,⟨J,h,j⟩,e⟩:=q
 exact⟨B,F0,F,z,k,rs,{ED with nx:=J},h,⟨λz' s' F' H' k' hz r'=>e.nx z' s' F' H' k' (j z' hz) r',e.rt,e.bk,e.ct⟩⟩⟩
def dSet(i:Nat)(te:TD):TSD:=λE z=>∃ P:D->Prop,te z P/\∀ d,P d->E.nx (z.set i (some d))
theorem ax[Jx](i:Nat){x:Str}{pos':Pos}(hN:X.N.Nodup)(he:WDE X e te)(hi:X.N[i]?=some x:=by rfl)(hx:Loc X.env.scope x:=by first|exact Or.inl rfl|exact Or.inr rfl)(hs:swapsWith e (some (.Name x pos')) pos.line X.env=pure false:=by rfl)
  (hf:zFN X x:=by first|exact .inl rfl|exact .inr rfl|assumption):WDS X (.Assign [.Name x pos'] e pos) (dSet i te):=⟨have he:=he.out;(jE hN hi hx he hs hf).anti λE s H q=>by
 obtain⟨B,F0,F,z,k,rs,ED,⟨P,h,j⟩,e⟩:=q
 exact⟨B,F,z,k.kf,rs,P,h,λd v F' H' g hd rd=>e.nx _ _ F' H' (k.grow g) (j d hd) ((rs.grow g).set rd)⟩⟩
theorem dY{K:xK}{F:Hp}{d:D}{v:V}(r:Rep K F d v):Reps K F [d] [v]:=reps_cons.mpr ⟨v,[],rfl,r,reps_nil.mpr rfl⟩
def cw:List Nat->List D->SD->SD
 |i::is,d::ds,z=>cw is ds (z.set i (some d))
 |_,_,z=>z
def DGs(X:Cx)(ts:List Expr)(is:List Nat):Prop:=∃ u:TGs,PGs X ts u/\∀ (ds:List D) (vs:List V) (z:SD) (s:L2.St) (B F H:Hp) (Q:L2.St->Hp->Prop),ds.length=is.length->Reps X.K F ds vs->RepS X.K B F H z s->(∀ s',RepS X.K B F H (cw is ds z) s'->Q s' H)->u vs s H Q
theorem kW[Jx]:DGs X [] []:=⟨_,ou,λds vs z s B F H Q hl r rs q=>by
 cases ds with
 |nil=>exact⟨reps_nil.mp r,q s rs⟩
 |cons _ _=>cases hl⟩
theorem dg_cons[Jx](i:Nat){x:Str}{p:Pos}{es:List Expr}{is:List Nat}(hN:X.N.Nodup)(h2:DGs X es is)(hi:X.N[i]?=some x:=by rfl)(hx:Loc X.env.scope x:=by first|exact Or.inl rfl|exact Or.inr rfl)(hf:zFN X x:=by first|exact .inl rfl|exact .inr rfl|assumption)
  (hs:(assignEach (.Name x p::es) X.env).map (·.2)=assign (.Name x p) X.env::(assignEach es X.env).map (·.2):=by rfl):DGs X (.Name x p::es) (i::is):=by
 obtain⟨u,hu,k⟩:=h2
 refine⟨_,ow (dJ hN hi hx hf) hu hs,λds vs z s B F H Q hl r rs q=>?_⟩
 cases ds with
 |nil=>cases hl
 |cons d ds=>
  obtain⟨v,vr,rfl,r1,r2⟩:=reps_cons.mp r
  exact⟨v,vr,rfl,k ds vr _ _ B F H Q (Nat.succ.inj hl) r2 (rs.set r1) q⟩
def rh(c:TDT)(tb:TSD):TSD:=λE z=>∃ W:Nat->SD->Prop,(∃ m,W m z)/\∀ m z,W m z->
 c z λb=>if b=true then tb {E with nx:=λz'=>∃ m',m'<m/\W m' z',ct:=λz'=>∃ m',m'<m/\W m' z',bk:=E.nx} z else E.nx z
theorem rj[Jx]{c:Expr}{body:List Stmt}{tc:TDT}{tb:TSD}(hp:PassesOwn (model X.prog X.w) X.A X.env X.xe)(hc:WDT X c tc)(hb:WDSs X body tb):WDS X (.While c body [] pos) (rh tc tb):=⟨have hc:=hc.out;have hb:=hb.out;(jF hp hc hb).anti λE s H q=>by
 obtain⟨B,F0,F,z,k,rs,ED,⟨W,⟨m0,w0⟩,turn⟩,e⟩:=q
 refine⟨λm s' H'=>∃ F' z',Kept B F0 F' H'/\RepS X.K B F' H' z' s'/\W m z',⟨m0,F,z,k,rs,w0⟩,?_⟩
 rintro m s1 H1 ⟨F1,z1,k1,r1,w1⟩
 refine⟨B,F1,z1,k1.kf,r1,_,turn m z1 w1,λb F2 H2 g2 hk=>?_⟩
 cases b with
 |true=>
  refine⟨λs3 H3=>∃ F3 z3,Kept B F0 F3 H3/\RepS X.K B F3 H3 z3 s3/\∃ m',m'<m/\W m' z3,λs3 H3 ⟨F3,z3,k3,r3,m',l,w3⟩=>⟨m',l,F3,z3,k3,r3,w3⟩,?_⟩
  exact⟨B,F0,F2,z1,k1.grow g2,r1.grow g2,_,hk,⟨λz3 s3 F3 H3 k3 h3 r3=>⟨F3,z3,k3,r3,h3⟩,e.rt,e.nx,λz3 s3 F3 H3 k3 h3 r3=>⟨F3,z3,k3,r3,h3⟩⟩⟩
 |false=>exact e.nx z1 s1 F2 H2 (k1.grow g2) hk (r1.grow g2)⟩
abbrev TDI:=SD->(List D->Prop)->Prop
def dItR(t:TD):TDI:=λz R=>t z λx=>match x with| .int n=>(0<=n/\n<2 ^ 62)/\R ((xR n.toNat).map λk=>D.int ((k:Nat):Int))|_=>False
def dFor(i:Nat)(ti:TDI)(tb:TSD):TSD:=λE z=>ti z λds=>∃ W:Nat->SD->Prop,W 0 z/\(∀ k x z,ds[k]?=some x->W k z->tb {E with nx:=W (k+1),ct:=W (k+1),bk:=E.nx} (z.set i (some x)))/\∀ z,W ds.length z->E.nx z
theorem Reps.get'{K:xK}{H:Hp}{ds:List D}{vs:List V}{k:Nat}{v:V}(r:Reps K H ds vs)(e:vs[k]?=some v):∃ d,ds[k]?=some d/\Rep K H d v:=by
 have hk:k<ds.length:=by rw[<- r.length];exact(yi.mp e).1
 obtain⟨u,q1,q2⟩:=r.get (yk hk)
 rw[e] at q1;cases q1
 exact⟨_,yk hk,q2⟩
theorem kX[Jx](i:Nat){x:Str}{p p1 p2:Pos}{body:List Stmt}{tb:TSD}(hp:PassesOwn (model X.prog X.w) X.A X.env X.xe)(hc:X.calm=true)(hN:X.N.Nodup)(hm:X.mg "range"=none)(he:WDE X e te)(hb:WDSs X body tb)(hg:Gl X "range":=by rfl)(hi:X.N[i]?=some x:=by rfl)(hx:Loc X.env.scope x:=by first|exact Or.inl rfl|exact Or.inr rfl)
  (hf:zFN X x:=by first|exact .inl rfl|exact .inr rfl|assumption) (hs:∀ y,zFS X (.Call (.Name "range" p1) [e] [] p2) y:=by exact λ_=>rfl) (hse:zSE X e []:=by rfl) (hse2:starEach [e] X.env=[(false,eval e X.env)]:=by rfl):WDS X (.For (.Name x p) (.Call (.Name "range" p1) [e] [] p2) body [] pos) (dFor i (dItR te) tb):=⟨have he:=he.out;have hb:=hb.out;(da hp hc (fO hg hm (bg he pa_nil hse) hse2) (dJ hN hi hx hf) hb hs).anti λE s H q=>by
 obtain⟨B,F0,F,z,kp,rs,ED,h,e⟩:=q
 refine⟨B,F,z,kp.kf,rs,_,h,λd v F1 H1 g1 hd rd=>?_⟩
 split at hd
 ·rename_i n
  obtain⟨⟨b1,b2⟩,W,w0,turn,out⟩:=hd
  have hl:((xR n.toNat).map λk=>D.int ((k:Nat):Int)).length=n.toNat:=by simp
  refine⟨n,by rw[rep_int.mp rd],by omega,b2,fP (lo:=0) (n:=n.toNat) (λk s' H'=>∃ F' z',Kept B F0 F' H'/\RepS X.K B F' H' z' s'/\W k z') ⟨F1,z,kp.grow g1,rs.grow g1,w0⟩ ?_ ?_⟩
  ·rintro k s' H' hk ⟨F',z',k',r',w'⟩
   have e1:(0:Int)+(k:Int)=(k:Int):=by omega
   exact⟨B,F0,F',_,k',r'.set (d:= .int (k:Int)) (rep_int.mpr (by rw[e1])),_,turn k (.int (k:Int)) z' (by simp[hk]) w',⟨λz3 s3 F3 H3 k3 h3 r3=>⟨F3,z3,k3,r3,h3⟩,e.rt,e.nx,λz3 s3 F3 H3 k3 h3 r3=>⟨F3,z3,k3,r3,h3⟩⟩⟩
  ·rintro s' H' ⟨F',z',k',r',w'⟩
   exact e.nx z' s' F' H' k' (out z' (by rw[hl];exact w')) r'
 ·exact hd.elim⟩
end
section
variable {P:Program}{w:World}{K:xK}{mg:Str->Option Value}{base:Heap}
theorem _root_.L2.Fun.okD{x:Str}{st:Stmt}{f:Addr}{fd:FuncData}{N ps:List Str}{k:Nat}{S:SpD}(T:Fun K x x st f fd)(F:FnScope N ps (ad st))(len:∀ ds R,S ds R->ds.length=ps.length)
  (hbody:∀ (cdv:Value) (A:Around) (outer:List Env) (s:Shared) (H:Hp) (E:XK) (J:Jx),Room k (A.deeper (envOfC x (ad st) s.heap.objs.size f cdv))->
   ∃ t,DSs (cxOf (Exc.CX1 P w) P w K mg base N x (ad st) f cdv A outer s H E).nox (aA st) t/\∀ ds R,S ds R->t {nx:=λ_=>R .non,rt:=R} (startD N ds)):FnOk P w K mg base (Exc.CX1 P w) (k+1) f fd ps (lSp K S):=by
 refine Fun.okC T F (λvs H Q E h=>?_) (λcdv A outer s H vs Q E hr h=>?_)
 ·obtain⟨F,ds,fh,rs,R,h,_⟩:=h
  rw[rs.length];exact len ds R h
 ·obtain⟨F,ds,fh,rs,R,h,q⟩:=h
  letI:Jx:=⟨H,F,λ_ _ _=>False⟩
  obtain⟨t,ht,hq⟩:=hbody cdv A outer s H E inferInstance hr
  refine⟨_,ht.nox,H,F,F,startD N ds,⟨Same.refl H,fh,Same.refl F,λ_ h _=>h,rfl,Same.refl F,λ_ h _=>h⟩,dl rs,_,hq ds R h,⟨λz' s' F' H' k hn _=>q _ _ F' H' ⟨k.f0,k.fh,k.bh,k.out⟩ hn (rep_non.mpr rfl),λd v F' H' k hd rd=>q d v F' H' ⟨k.f0,k.fh,k.bh,k.out⟩ hd rd,λ_ _ _ _ _ h _=>h.elim,λ_ _ _ _ _ h _=>h.elim⟩⟩
theorem Tx.okD{x:Str}{st:Stmt}{N ps:List Str}{k:Nat}{S:SpD}(T:Tx K mg x st ps)(F:FnScope N ps (ad st))(len:∀ ds R,S ds R->ds.length=ps.length)
  (hbody:∀ (f:Addr) (cdv:Value) (A:Around) (outer:List Env) (s:Shared) (H:Hp) (E:XK) (J:Jx),Room k (A.deeper (envOfC x (ad st) s.heap.objs.size f cdv))->
   ∃ t,DSs (cxOf (Exc.CX1 P w) P w K mg base N x (ad st) f cdv A outer s H E).nox (aA st) t/\∀ ds R,S ds R->t {nx:=λ_=>R .non,rt:=R} (startD N ds)):CalD P w K mg base (k+1) x ps S:=by
 obtain⟨f,fd,T,hb,hm⟩:=T
 exact⟨f,fd,T.okD F len λcdv A outer s H E J hr=>hbody f cdv A outer s H E J hr,hb,T.kp,hm⟩
end
def cN:SpD:=λds R=>∃ ns:List Int,ds=[.rol (ns.map D.int)]/\ns.length<=63/\R (.bl true)
theorem rk{K:xK}{H:Hp}{a:Addr}{ns:List Int}(hl:ns.length<=63)(hS:SqL K H a (ns.map V.int)){E:XK}:lSp K cN [.ref a] H (λv _=>v= .bl true) E:=
 ⟨H,[.rol (ns.map D.int)],Same.refl H,reps_cons.mpr ⟨_,_,rfl,rep_rol.mpr ⟨a,_,rfl,hS,Reps.ints.mpr rfl⟩,reps_nil.mpr rfl⟩,λd=>d= .bl true,⟨ns,rfl,hl,rfl⟩,λd v F' H' _ hd rd=>by subst hd;exact rep_bl.mp rd⟩
end My
end
section
open PySem PySem.Spec PyProof.Rows L2
namespace My
section
variable {X:Cx}{a b c e:Expr}{ta tb tc te:TD}{pos:Pos}
theorem kY[Jx]{x:Str}{p:Pos}{es:List Expr}{t:TDA}{T:String}{r:List V->Hp->VK->Prop}{rd:RDn}(hc:bv X (.type T) r)(L:cf X.K r rd)(hm:X.mg x=none)(hv:bootBuiltins x=some (.type T))(ha:DA X (e::es) t)(hg:Gl X x:=by rfl)(hn:x≠"__name__":=by decide)(hdb:zND x:=by decide)
  (he:zSE X e es:=by rfl) (hpl:zPL X pos es:=by rfl):DE X (.Call (.Name x p) (e::es) [] pos) (dCB rd t):=(kj hc hg hm hv ha hn hdb he hpl).anti λs H Q h=>by
 obtain⟨B,F,z,kf,rs,R,h1,h2⟩:=h
 have fh:=kf.fh
 refine⟨B,F,z,kf,rs,_,h1,λds vs F1 H1 g1 hx rx=>?_⟩
 exact L ds vs F1 H1 R Q g1.fh hx rx λd w F' H' g=>h2 d w F' H' (g1.trans g)
def rdStr:RDn:=λds R=>match ds with|[.int i]=>i.natAbs<18446744073709551616/\R (.str (toString i))|_=>False
theorem rl{K:xK}:cf K (λxs H Q=>∃ i,xs=[.int i]/\i.natAbs.log2<1920/\Q (.str (toString i)) H) rdStr:=by
 intro ds vs F H R Q fh h rx q
 unfold rdStr at h
 split at h
 ·obtain⟨v,r,rfl,h1,h2⟩:=reps_cons.mp rx
  rw[reps_nil.mp h2,rep_int.mp h1]
  refine⟨_,rfl,?_,q _ _ F H (Grow.refl fh) h.2 (rep_str.mpr rfl)⟩
  rename_i i
  by_cases h0:i.natAbs=0
  ·rw[h0];decide
  ·have:=(Nat.log2_lt h0).mpr (show i.natAbs<2 ^ 64 from h.1)
   omega
 ·exact h.elim
theorem dZ[Jx]{p:Pos}{t:TDA}(hm:X.mg "str"=none)(ha:WDA X [e] t)(hg:Gl X "str":=by rfl)(he:zSE X e []:=by rfl):WDE X (.Call (.Name "str" p) [e] [] pos) (dCB rdStr t):=⟨have ha:=ha.out;kY pd rl hm PyProof.Rows.boot_str ha hg (by decide) (by decide) he⟩
def rdInt:RDn:=λds R=>match ds with
 |[.int i]=>R (.int i)
 |[.bl k]=>R (.int (if k then 1 else 0))
 |[.str x]=>∃ n,(PySem.intText? x=some n/\x.length<=640)/\R (.int n)
 |_=>False
theorem kZ:bv X (.type "int") (λxs H Q=>((∃ i,xs=[.int i]/\Q (.int i) H)\/∃ k,xs=[.bl k]/\Q (.int (if k then 1 else 0)) H)\/∃ x n,xs=[.str x]/\PySem.intText? x=some n/\x.length<=640/\Q (.int n) H):=by
 intro pins s σ H xs us Q I r h
 rcases h with h|⟨x,n,rfl,h1,h2,q⟩
 ·exact pb pins s σ H xs us Q I r h
 ·obtain⟨u,rfl,t,rfl⟩:=bE r
  exact PySem.W.KIN.call_text h1 h2 ⟨.int n,H,I.tok _,⟨_,rfl⟩,q⟩
theorem lf{K:xK}:cf K (λxs H Q=>((∃ i,xs=[.int i]/\Q (.int i) H)\/∃ k,xs=[.bl k]/\Q (.int (if k then 1 else 0)) H)\/∃ x n,xs=[.str x]/\PySem.intText? x=some n/\x.length<=640/\Q (.int n) H) rdInt:=by
 intro ds vs F H R Q fh h rx q
 unfold rdInt at h
 split at h
 ·obtain⟨v,r,rfl,h1,h2⟩:=reps_cons.mp rx
  rw[reps_nil.mp h2,rep_int.mp h1]
  exact .inl (.inl ⟨_,rfl,q _ _ F H (Grow.refl fh) h (rep_int.mpr rfl)⟩)
 ·obtain⟨v,r,rfl,h1,h2⟩:=reps_cons.mp rx
  rw[reps_nil.mp h2,rep_bl.mp h1]
  exact .inl (.inr ⟨_,rfl,q _ _ F H (Grow.refl fh) h (rep_int.mpr rfl)⟩)
 ·obtain⟨v,r,rfl,h1,h2⟩:=reps_cons.mp rx
  rw[reps_nil.mp h2,rep_str.mp h1]
  obtain⟨n,⟨e1,e2⟩,h⟩:=h
  exact .inr ⟨_,n,rfl,e1,e2,q _ _ F H (Grow.refl fh) h (rep_int.mpr rfl)⟩
 ·exact h.elim
theorem rn[Jx]{p:Pos}{t:TDA}(hm:X.mg "int"=none)(ha:WDA X [e] t)(hg:Gl X "int":=by rfl)(he:zSE X e []:=by rfl):WDE X (.Call (.Name "int" p) [e] [] pos) (dCB rdInt t):=⟨have ha:=ha.out;kY kZ lf hm PyProof.Rows.boot_int ha hg (by decide) (by decide) he⟩
def dOix(i:Nat)(tb:TD):TD:=λz R=>match z[i]? with
 |some (some (.own ds))=>tb z λy=>match y with| .int k=>∃ d,atI ds k=some d/\R d|_=>False
 |_=>False
theorem lh[Jx](i:Nat){x:Str}{p:Pos}(hb:WDE X b tb)(hN:X.N[i]?=some x:=by rfl)(hv:Vis X.env.scope x:=by first|exact Or.inl rfl|exact Or.inr (Or.inl rfl)|exact Or.inr (Or.inr rfl))(hd:zND x:=by decide)
  (hcd:zNC x:=by decide) (hs:cK b:=by exact λ_ _=>rfl):WDE X (.Subscript (.Name x p) b pos) (dOix i tb):=⟨have hb:=hb.out;(pe_ix ix_list (cu hN hv hd hcd) hb hs).anti λs H Q q=>by
 obtain⟨B,F,z,kf,rs,R,h1,h2⟩:=q
 have fh:=kf.fh
 unfold dOix at h1
 split at h1
 ·rename_i ds ez
  obtain⟨a,vs,q1,q2,q3,q4,q5⟩:=rs.own i ds ez
  refine⟨.ref a,q1,B,F,z,kf,rs,_,h1,λy v F1 H1 g1 hy ry=>?_⟩
  split at hy
  ·obtain⟨d,e1,hR⟩:=hy
   obtain⟨w,e2,rw'⟩:=(q5.mono g1.ff).at e1
   exact⟨a,vs,_,w,rfl,rep_int.mp ry,SqL.of (g1.hh _ _ q2),e2,h2 d w F1 H1 g1 hR rw'⟩
  ·exact hy.elim
 ·exact h1.elim⟩
def cutD(xs:List D)(lo hi:Option Int):List D:=(xs.drop (HT.sIx xs.length 0 lo)).take (HT.sIx xs.length xs.length hi - HT.sIx xs.length 0 lo)
theorem Reps.drop{K:xK}{F:Hp}:∀ (n:Nat) {xs:List D} {us:List V},Reps K F xs us->Reps K F (xs.drop n) (us.drop n)
 |0,_,_,r=>r
 |n+1,[],us,r=>by rw[reps_nil.mp r];exact reps_nil.mpr rfl
 |n+1,x::xs,us,r=>by
  obtain⟨u,ur,rfl,_,a2⟩:=reps_cons.mp r
  exact Reps.drop n a2
theorem Reps.take{K:xK}{F:Hp}:∀ (n:Nat) {xs:List D} {us:List V},Reps K F xs us->Reps K F (xs.take n) (us.take n)
 |0,_,_,_=>reps_nil.mpr rfl
 |n+1,[],us,r=>by rw[reps_nil.mp r];exact reps_nil.mpr rfl
 |n+1,x::xs,us,r=>by
  obtain⟨u,ur,rfl,a1,a2⟩:=reps_cons.mp r
  exact reps_cons.mpr ⟨u,_,rfl,a1,Reps.take n a2⟩
theorem Reps.cut{K:xK}{F:Hp}{xs:List D}{us:List V}(r:Reps K F xs us)(lo hi:Option Int):Reps K F (cutD xs lo hi) (cutV us lo hi):=by
 unfold cutD cutV
 rw[r.length]
 exact(r.drop _).take _
end
end My
end
section
open PySem PySem.Spec PyProof.Rows L2
namespace L2
theorem gj{env:Env}:∀ (names:List (Str × NameKind)) (acc:List (Str × Addr)),(∀ n,(n,NameKind.free)∈names->∃ c,env.cells.lookup n=some c)->
  ∃ cl,(forIn (m:=Sem) names acc λx r=>match x with
     |(name,kind)=>if(kind==NameKind.free)=true then(do let a <- cellOf env name;pure (ForInStep.yield ((name,a)::r))) else pure (ForInStep.yield r))=(pure cl:Sem (List (Str × Addr)))/\
   (∀ n c,cl.lookup n=some c->env.cells.lookup n=some c\/acc.lookup n=some c)/\(∀ n,(n,NameKind.free)∈names->∃ c,cl.lookup n=some c)/\∀ n c,acc.lookup n=some c->∃ c',cl.lookup n=some c'
 |[],acc,_=>⟨acc,rfl,(λ_ _ h=> .inr h),(λ_ h=>by cases h),(λ_ c h=>⟨c,h⟩)⟩
 |(name,kind)::r,acc,h=>by
  by_cases hk:(kind==NameKind.free)=true
  ·have ek:kind= .free:=by simpa using hk
   subst ek
   obtain⟨c,hc⟩:=h name xZ
   obtain⟨cl,e,p1,p2,p3⟩:=gj r ((name,c)::acc) λn q=>h n (xV _ q)
   refine⟨cl,?_,λn c' q=>?_,λn q=>?_,λn c' q=>?_⟩
   ·rw[Ai]
    have ec:cellOf env name=pure c:=by unfold cellOf;rw[hc]
    simp only[hk,if_true,ec]
    exact e
   ·rcases p1 n c' q with z|z
    ·exact .inl z
    ·rw[ya] at z
     split at z
     ·rename_i q2
      have en:n=name:=by simpa using q2
      cases z
      exact .inl (en ▸ hc)
     ·exact .inr z
   ·rcases xP.mp q with z|z
    ·cases z
     exact p3 _ c (by rw[ya];simp)
    ·exact p2 n z
   ·by_cases hn:n=name
    ·subst hn;exact p3 n c (by rw[ya];simp)
    ·exact p3 n c' (by rw[ya,beq_eq_false_iff_ne.mpr hn];exact q)
  ·obtain⟨cl,e,p1,p2,p3⟩:=gj r acc λn q=>h n (xV _ q)
   refine⟨cl,?_,p1,λn q=>?_,p3⟩
   ·rw[Ai]
    simp only[hk]
    exact e
   ·rcases xP.mp q with z|z
    ·cases z;exact absurd rfl hk
    ·exact p2 n z
theorem closure_is{env:Env}{scope:Scope}(h:∀ n,(n,NameKind.free)∈scope.names->∃ c,env.cells.lookup n=some c):
  ∃ cl,closureFor scope env=pure cl/\(∀ n c,cl.lookup n=some c->env.cells.lookup n=some c)/\∀ n,(n,NameKind.free)∈scope.names->∃ c,cl.lookup n=some c:=by
 obtain⟨cl,e,p1,p2,_⟩:=gj scope.names [] h
 refine⟨cl,?_,λn c q=>(p1 n c q).elim id (λz=>nomatch z),p2⟩
 unfold closureFor
 show(forIn (m:=Sem) scope.names [] _>>=λs=>pure s)=pure cl
 rw[e]
 rfl
theorem eg{env:Env}:∀ {names:List (Str × NameKind)} {n:Str} {k:NameKind},(∀ y∈names,y.2≠.cell)->k= .cell\/k= .free->
  (names.map λ(n,k)=>if(k==NameKind.free && env.scope.kind== .function && env.kindOf n==some .cell) then(n,NameKind.cell) else(n,k)).lookup n=some k->(n,NameKind.free)∈names
 |[],_,_,_,_,h=>by simp at h
 |(a,b)::r,n,k,hc,hk,h=>by
  rw[yc] at h
  by_cases hb:(b==NameKind.free && env.scope.kind== .function && env.kindOf a==some .cell)=true
  ·have eb:b= .free:=by
    have:=(ym _ _ ▸ ((ym _ _ ▸ hb).1)).1
    simpa using this
   simp only[hb,if_true] at h
   rw[ya] at h
   split at h
   ·rename_i q
    have en:n=a:=by simpa using q
    subst en eb
    exact xZ
   ·exact xV _ (eg (λy q=>hc y (xV _ q)) hk h)
  ·simp only[hb] at h
   rw[if_neg (by simp),ya] at h
   split at h
   ·rename_i q
    have en:n=a:=by simpa using q
    cases h
    subst en
    rcases hk with z|z
    ·exact absurd z (hc _ xZ)
    ·rw[z];exact xZ
   ·exact xV _ (eg (λy q=>hc y (xV _ q)) hk h)
section
variable {prog:Program}{w:World}{A:Around}{R:Result->Shared->Prop}{s:Shared}
abbrev ll(ifs:List Expr)(env:Env):Sem Bool:=forIn ifs true λc r=>if r=true then do let ok <- isTrue c env (eval c env);pure (ForInStep.yield ok) else pure (ForInStep.yield r)
theorem lm{elt target iter:Expr}{ifs:List Expr}{scope:Scope}{pos:Pos}{it acc:Value}{env:Env}(I:Nat->Shared->Prop)
  (turn:∀ n s,I n s->wpAny (model prog w) A (pyNext it) (λr s₁=>match r with
   |none=>R (.ok .next) s₁
   |some v=>wpAny (model prog w) A (letOwnedTupleGo target it v) (λ_ s₁'=>wpAny (model prog w) A (assign target env v) (λ_ s₂=>wpAny (model prog w) A (ll ifs env) (λok s₂'=>if ok=true then wpAny (model prog w) A (eval elt env) (λx s₃=>
     wpAny (model prog w) A (call (.builtin "list.append") [acc,x]) (λ_ s₄=>∃ m,m<n/\I m s₄) (λ_ _=>False) s₃)
     (λ_ _=>False) s₂' else ∃ m,m<n/\I m s₂') (λ_ _=>False) s₂) (λ_ _=>False) s₁') (λ_ _=>False) s₁) (λ_ _=>False) s)
  (n:Nat) (h:I n s):
  codeAny (model prog w) A (.compLoop (.ListComp elt [⟨target,iter,ifs,0⟩] scope pos) 0 it acc env) R s:=by
 refine codeAny_loop rfl I (λn s hI=>?_) n h
 show wpAny _ _ ((compTurn (.ListComp elt [⟨target,iter,ifs,0⟩] scope pos) 0 it acc env).onRaise (λx=>do noteFrame x env;theTreesLotGoes x)) _ _ s
 refine wpAny_noted ?_
 rw[compTurn_list]
 refine wpAny_bind (wpAny_standAt (wpAny_bind (wpAny_mono (turn n s hI) (λr s₁ h₁=>?_) λ_ _ h'=>h'.elim)))
 cases r with
 |none=>exact wpAny_pure h₁
 |some v=>
  refine wpAny_bind (wpAny_mono h₁ (λ_ s₁' h₁'=>wpAny_bind (wpAny_mono h₁' (λ_ s₂ h₂=>wpAny_bind (wpAny_mono h₂ (λok s₃ h₃=>?_) λ_ _ h'=>h'.elim)) λ_ _ h'=>h'.elim)) λ_ _ h'=>h'.elim)
  cases ok with
  |false=>exact wpAny_pure ⟨rfl,h₃⟩
  |true=>
   exact wpAny_bind (wpAny_bind (wpAny_mono h₃ (λx s₄ h₄=>wpAny_bind (wpAny_mono h₄ (λ_ s₅ h₅=>wpAny_pure (wpAny_pure ⟨rfl,h₅⟩)) λ_ _ h'=>h'.elim)) λ_ _ h'=>h'.elim))
end
def bU(X:Cx)(scope:Scope)(cl:List (Str × Addr))(x:Str)(s₀:Shared)(H₀:Hp)(fp:List Addr):Cx where
 prog:=X.prog
 w:=X.w
 K:=X.K
 mg:=X.mg
 base:=X.base
 A:=X.A
 N:=X.N.map (λn=>if n=x then("":Str) else n)++[x]
 s₀:=s₀
 H₀:=H₀
 env:=compEnvC scope cl s₀.heap.objs.size X.env
 outer:=X.stack
 stack:=X.stack
 ex:=fp
 fn:=λ_=>false
 calm:=X.calm
 pn:=[]
 xe:=λ_ _=>False
structure CompScope(X:Cx)(scope:Scope)(x:Str):Prop where
 kind:scope.kind= .function
 nocell:∀ y∈scope.names,y.2≠.cell
 names:∀ y∈scope.names,y.2= .local->scope.names.lookup y.1=some .local
 own:scope.names.lookup x=some .local
 free:∀ n,(n,NameKind.free)∈scope.names->X.env.kindOf n=some .cell
 vis:∀ n∈X.N,n≠x->Vis (relabel scope X.env) n->(n,NameKind.free)∈scope.names
 empty:¬ Vis (relabel scope X.env) ("":Str)
 cells:∀ n,(n,NameKind.free)∈scope.names->(relabel scope X.env).names.lookup n=some .cell
 nd:(X.N.map (λn=>if n=x then("":Str) else n)++[x]).Nodup
section
variable {X:Cx}{pins:List (Addr × Obj)}{σ:St}{H:Hp}{s:Shared}{scope:Scope}{cl:List (Str × Addr)}{x:Str}{fp:List Addr}
theorem gk(I:Inv X pins σ H s)(S:CompScope X scope x)(c1:∀ n c,cl.lookup n=some c->X.env.cells.lookup n=some c)(c2:∀ n,(n,NameKind.free)∈scope.names->∃ c,cl.lookup n=some c)
  (hf:∀ b∈fp,FpOk X pins H b) (hl:∀ b∈fp,b<s.heap.objs.size):(bU X scope cl x s H fp).Ok where
 mod:=I.ok.mod
 kind:=S.kind
 glob:=I.ok.glob
 blt:=I.ok.blt
 above:=xM _
 inj:=λy z c h1 h2=>I.ok.inj y z c (c1 y c h1) (c1 z c h2)
 has:=λn hn=>by
  rcases hn with hn|hn
  ·exact c2 n (eg S.nocell (.inl rfl) hn)
  ·exact c2 n (eg S.nocell (.inr rfl) hn)
 cab:=λ_ _ h=>nomatch h
 hd:=I.ok.hd
 frames:=I.ok.frames
 stk:= .inl rfl
 exf:=λb hb=>⟨xQ (hl b hb),λy c h=>(hf b hb).2.2.2.2.1 y c (c1 y c h)⟩
 bs:=I.bs
 bsz:=xU I.ok.bsz I.sz
 noex:=λb o e hb=>by
  have h1:=I.ok.noex b o e
  rcases(hf b hb).2.2.2.1 with z|z
  ·exact h1 z
  ·exact absurd (yb (Heap.lt_size e) (xU I.ok.bsz z)) (yJ _)
 exfs:=λb hb hs=>by
  rcases xP.mp (I.stkSub b hs) with z|z
  ·exact(hf b hb).2.1 z
  ·exact(hf b hb).2.2.1 z
 funs:=I.stack
 frf:=I.stkFree
theorem lp{h':Heap}{t':Nat}(I:Inv X pins σ H s)(S:CompScope X scope x)(c1:∀ n c,cl.lookup n=some c->X.env.cells.lookup n=some c)(c2:∀ n,(n,NameKind.free)∈scope.names->∃ c,cl.lookup n=some c)
  (hf:∀ b∈fp,FpOk X pins H b) (hl:∀ b∈fp,b<s.heap.objs.size) {m:Str->Option Value} (hn:h'.Ns s.heap.objs.size m) (k:∀ b o,s.heap.get? b=some o->h'.get? b=some o):
  Inv (bU X scope cl x s H fp) [] (σ++[none]) H {s with heap:=h',toks:=t'}:=by
 refine⟨gk I S c1 c2 hf hl,rfl,I.bare,Un.kept k,⟨m,hn,λi n v e1 e2 e3=>?_⟩,λn c e=>?_,I.hok.fresh (xM _),λn c e=>I.freeC n c (c1 n c e),λp hp=>absurd (show p∈([]:List (Addr × Obj)) from hp) (by simp),I.hok.kept k,?_⟩
 ·have hi:i<σ.length:=by
   rcases zI i σ.length with q|q
   ·exact q
   ·rw[yM q] at e2
    cases hz:i - σ.length with
    |zero=>rw[hz] at e2;simp at e2
    |succ z=>rw[hz] at e2;simp at e2
  rw[yx hi] at e2
  have hiN:i<X.N.length:=by rw[<- I.len];exact hi
  have e1':(X.N.map (λn=>if n=x then("":Str) else n)++[x])[i]?=some n:=e1
  rw[yx (by simpa using hiN),yn,yk hiN] at e1'
  simp only[Option.map_some,Option.some.injEq] at e1'
  by_cases hx:X.N[i]=x
  ·rw[if_pos hx] at e1'
   subst e1'
   exact absurd e3 S.empty
  ·rw[if_neg hx] at e1'
   subst e1'
   have hfree:=S.vis _ (zJ hiN) hx e3
   have hcell:=S.free _ hfree
   obtain⟨c,hc⟩:=c2 _ hfree
   obtain⟨mX,hnX,hlX⟩:=I.loc
   obtain⟨u,ru,lk⟩:=hlX i X.N[i] v (yk hiN) e2 (.inr (.inl hcell))
   refine⟨u,ru,.inr ⟨?_,c,hc,?_⟩⟩
   ·exact .inl (S.cells _ hfree)
   ·rcases lk with⟨kl,_⟩|⟨_,c',hc',hcl⟩
    ·rw[hcell] at kl;cases kl
    ·have:c=c':=by
      have:=c1 _ c hc
      rw[hc'] at this
      exact(Option.some.inj this).symm
     subst this
     obtain⟨o,ho,hd⟩:=hcl
     exact⟨o,k _ _ ho,hd⟩
 ·obtain⟨v,o,ho,hd⟩:=I.cell n c (c1 n c e)
  exact⟨v,o,k _ _ ho,hd⟩
 ·show(σ++[none]).length=(X.N.map _++[x]).length
  rw[xT,xT,yg,I.len]
  rfl
end
def gl(wi:TI)(tt:TT)(telt:TE):TE:=λσ H Q=>wi σ H λJ H1=>∀ D,H1 D=none->∃ W:Nat->Nat->Hp->Prop,(∃ m,W 0 m (upd H1 D (.lst [])))/\∀ i m H,W i m H->
 (J.stop i H/\Q (.ref D) H)\/(J.go i H/\∀ x H',J.yld i H x H'->tt (σ++[some x]) H' λb H1=>if b=true then telt (σ++[some x]) H1 λy H''=>∃ vs,H'' D=some (.lst vs)/\vs.length<sizeLine/\∃ m',m'<m/\W (i+1) m' (upd H'' D (.lst (vs++[y]))) else ∃ m',m'<m/\W (i+1) m' H1)
def PIf(X:Cx)(ifs:List Expr)(t:TT):Prop:=
 ∀ (pins:List (Addr × Obj)) (s:Shared) (σ:St) (H:Hp) (Q:Bool->Hp->Prop),Inv X pins σ H s->t σ H Q->wpAny (model X.prog X.w) X.A (ll ifs X.env) (TP X pins σ Q) X.xe s
theorem pif_nil{X:Cx}:PIf X [] (λ_ H Q=>Q true H):=λpins s σ H Q I q=>wpAny_tests_nil ⟨H,I,q⟩
theorem PIf.anti{X:Cx}{e:List Expr}{t t':TT}(h:PIf X e t)(a:∀ s H Q,t' s H Q->t s H Q):PIf X e t':=λpins s σ H Q I q=>h pins s σ H Q I (a _ _ _ q)
section
variable {X:Cx}
theorem rq{P:Program}{w:World}{H:Hp}{h h':Heap}{a:Addr}(x:HOk P w H h)(hn:H a=none)(hs:Heap.SameBut a h h'):HOk P w H h':=λb ob e=>by
 refine(x b ob e).stay (λc w' hc q=>(hs.2 c ?_).trans q) (λ_ q=>q) λ_ _ q=>q
 rintro rfl
 rcases hc with rfl|hc
 ·rw[hn] at e;cases e
 ·rw[hn] at hc;cases hc
theorem pe_comp{elt iter:Expr}{ifs:List Expr}{x:Str}{px:Pos}{scope:Scope}{pos:Pos}{wi:TI}{tt:TT}{telt:TE}(hc:X.calm=true)(S:CompScope X scope x)(hi:PI X (.Name x px) iter wi)
  (hq:∀ cl s₀ H₀ fp,PIf (bU X scope cl x s₀ H₀ fp) ifs tt) (he:∀ cl s₀ H₀ fp,PE (bU X scope cl x s₀ H₀ fp) elt telt) (hs:∀ y,zFS X iter y:=by exact λ_=>rfl):
  PE X (.ListComp elt [⟨.Name x px,iter,ifs,0⟩] scope pos) (gl wi tt telt):=by
 intro pins s σ H Q I h
 obtain⟨cl,hcl,c1,c2⟩:=closure_is (env:=X.env) (scope:=scope) (λn q=>I.ok.has n (.inl (S.free n q)))
 rw[eval_ListComp]
 refine wpAny_comprehension_free (use:=none) rfl hs hcl S.kind S.names (thn (hi pins s σ H _ I h) λv s1 h1=>thn h1 λitv s2 h2=>?_)
 obtain⟨it,fp,tn,J,H1,e,I1,T,st,f1,hr⟩:=h2
 subst e
 have hlt:∀ b∈fp,b<s2.heap.objs.size:=λb hb=>by
  obtain⟨o,ho,_⟩:=T.obj _ _ st b hb
  exact Heap.lt_size ho
 have hD:H1 s2.heap.objs.size=none:=I1.hok.fresh (xM _)
 obtain⟨W,⟨m0,w0⟩,step⟩:=hr _ hD
 refine wpAny_newObj_type (wpAny_newFunctionEnv S.nocell (by intro y hy;simp at hy) (λh₁ hns₁ hsb₁=>?_) S.kind)
 have I3:Inv X pins σ (upd H1 s2.heap.objs.size (.lst [])) {s2 with heap:=s2.heap.push {cls:= .type "list",data:= .seq ([]:List Value).toArray},toks:=s2.toks}:=I1.lnew (its:=[]) (ys:=[]) .nil (yj _)
 have hsz:∀ b∈fp,b<(s2.heap.push {cls:= .type "list",data:= .seq ([]:List Value).toArray}).objs.size:=λb hb=>by
  rw[Heap.size_push];exact Aj (hlt b hb)
 have hf3:∀ b∈fp,FpOk X pins (upd H1 s2.heap.objs.size (.lst [])) b:=λb hb=>⟨by rw[ah (xQ (hlt b hb))];exact(f1 b hb).1,(f1 b hb).2⟩
 have kp:∀ b o,(s2.heap.push {cls:= .type "list",data:= .seq ([]:List Value).toArray}).get? b=some o->h₁.get? b=some o:=λb o e=>
  (hsb₁.2 b (xQ (Heap.lt_size e))).trans (Heap.get?_push_of_some _ e)
 have I4:=lp (x:=x) (fp:=fp) (t':=s2.toks+([]:List (Str × Value)).length) I3 S c1 c2 hf3 hsz hns₁ kp
 have okY:=gk (x:=x) (fp:=fp) I3 S c1 c2 hf3 hsz
 generalize hY:bU X scope cl x {s2 with heap:=s2.heap.push {cls:= .type "list",data:= .seq ([]:List Value).toArray},toks:=s2.toks} (upd H1 s2.heap.objs.size (.lst [])) fp=Y at I4 okY
 have yP:Y.prog=X.prog:=by rw[<- hY];rfl
 have yW:Y.w=X.w:=by rw[<- hY];rfl
 have yK:Y.K=X.K:=by rw[<- hY];rfl
 have yA:Y.A=X.A:=by rw[<- hY];rfl
 have yN:Y.N=X.N.map (λn=>if n=x then("":Str) else n)++[x]:=by rw[<- hY];rfl
 have yE:Y.env=compEnvC scope cl (s2.heap.push {cls:= .type "list",data:= .seq ([]:List Value).toArray}).objs.size X.env:=by rw[<- hY];rfl
 have yX:Y.xe=λ_ _=>False:=by rw[<- hY];rfl
 have yC:Y.calm=true:=by rw[<- hY];exact hc
 have yex:Y.ex=fp:=by rw[<- hY];rfl
 have ypn:Y.pn=[]:=by rw[<- hY];rfl
 have yfs:Y.fs=frs X.stack:=by rw[<- hY];rfl
 have yH0:Y.H₀=upd H1 s2.heap.objs.size (.lst []):=by rw[<- hY];rfl
 have ys0:Y.s₀={s2 with heap:=s2.heap.push {cls:= .type "list",data:= .seq ([]:List Value).toArray},toks:=s2.toks}:=by rw[<- hY];rfl
 have heY:PE Y elt telt:=by rw[<- hY];exact he _ _ _ _
 have hqY:PIf Y ifs tt:=by rw[<- hY];exact hq _ _ _ _
 have stat:∀ {H':Hp},(∀ b∈fp,H' b=none)->∀ b∈fp,FpOk Y [] H' b:=λ{H'} hn b hb=>by
  have hb':b∈Y.ex:=by rw[yex];exact hb
  exact⟨hn b hb,(okY.exf b hb').1,okY.exfs b hb',.inl hb',λn c e=>(okY.exf b hb').2 n c e,by rw[ypn];simp⟩
 have locx:Y.env.scope.names.lookup x=some .local:=by rw[yE];exact lookup_relabel_local S.own
 have hix:Y.N[X.N.length]?=some x:=by rw[yN];simp
 have ndY:Y.N.Nodup:=by rw[yN];exact S.nd
 -- the end of the block
 have fin:∀ (o:Option V) (H':Hp) (s':Shared),Inv Y [] (σ++[o]) H' s'->Q (.ref s2.heap.objs.size) H'->∀ h',Heap.SameBut Y.env.locals s'.heap h'->EP X pins σ Q (.ref s2.heap.objs.size) {s' with heap:=h'}:=λo H' s' I' q h' hsb=>by
  have hloc:Y.env.locals=(s2.heap.push {cls:= .type "list",data:= .seq ([]:List Value).toArray}).objs.size:=by rw[yE];rfl
  have ne:∀ b ob,(s2.heap.push {cls:= .type "list",data:= .seq ([]:List Value).toArray}).get? b=some ob->b≠Y.env.locals:=λb ob e=>by rw[hloc];exact xQ (Heap.lt_size e)
  have bs:=I'.base
  rw[yfs,yex,yH0,ys0] at bs
  refine⟨.ref s2.heap.objs.size,H',I3.call' (ch:=fp) ?_ ⟨λb ob e n h1 h2=>?_,λb ob e n h1 h2=>?_,bs.free,λb ob e h2=>?_,bs.tups,bs.frzs,bs.tbls⟩ ?_ I'.bare ?_,rfl,q⟩
  ·have:=I'.os
   rw[ys0] at this
   exact this
  ·exact(hsb.2 b (ne b ob e)).trans (bs.keep b ob e n h1 h2)
  ·obtain⟨sl,q⟩:=bs.slot b ob e n h1 h2
   exact⟨sl,(hsb.2 b (ne b ob e)).trans q⟩
  ·obtain⟨o',q⟩:=bs.there b ob e h2
   exact⟨o',(hsb.2 b (ne b ob e)).trans q⟩
  ·have:=rq I'.hok I'.free hsb
   rw[yP,yW] at this
   exact this
  ·exact λb hb=>⟨(hf3 b hb).2.2.2.1,(hf3 b hb).2.1,(hf3 b hb).2.2.2.2.1,(hf3 b hb).2.2.2.2.2⟩
 have loop:codeAny (model X.prog X.w) X.A (.compLoop (.ListComp elt [⟨.Name x px,iter,ifs,0⟩] scope pos) 0 (.ref it) (.ref s2.heap.objs.size) (compEnvC scope cl (s2.heap.push {cls:= .type "list",data:= .seq ([]:List Value).toArray}).objs.size X.env))
   (compPost (model X.prog X.w) X.A X.xe none (EP X pins σ Q) (.ref s2.heap.objs.size) (s2.heap.push {cls:= .type "list",data:= .seq ([]:List Value).toArray}).objs.size)
   {s2 with heap:=h₁,toks:=s2.toks+([]:List (Str × Value)).length}:=by
  refine lm (λn s'=>∃ i o H',Inv Y [] (σ++[o]) H' s'/\tn i s'.heap/\(∀ b∈fp,H' b=none)/\W i n H') ?_ m0 ⟨0,none,_,I4,T.keep _ _ _ st (λb hb ob e=>kp b ob (Heap.get?_push_of_some _ e)),λb hb=>(hf3 b hb).1,w0⟩
  rintro n s3 ⟨i,o,H3,I5,t3,f3,w3⟩
  rcases step i n H3 w3 with⟨stop,q⟩|⟨go,q⟩
  ·have dn:=T.done Y yP yW yK yC i [] s3 _ H3 (λ_ _=>False) I5 (stat f3) t3 stop
   rw[yA] at dn
   refine thn dn λr s4 ⟨hr,I6⟩=>?_
   subst hr
   obtain⟨m,hn,_⟩:=I6.loc
   have hloc:Y.env.locals=(s2.heap.push {cls:= .type "list",data:= .seq ([]:List Value).toArray}).objs.size:=by rw[yE];rfl
   rw[hloc] at hn
   exact⟨m,hn,λh' hsb=>fin o H3 s4 I6 q h' (by rw[hloc];exact hsb)⟩
  ·have itm:=T.item Y yP yW yK yC i [] s3 _ H3 (λ_ _=>False) I5 (stat f3) t3 go
   rw[yA] at itm
   refine thn itm λr s4 ⟨u,hr,h4⟩=>?_
   subst hr
   refine thn h4 λ_ s5 ⟨xv,H5,I6,r5,y5,st5,fr5⟩=>?_
   have I6':=I6.pinned (stat fr5) (T.obj _ _ st5)
   rw[<- yE]
   refine wpAny_assign_Name (cY I6' ndY hix (.inl locx) r5 (λs6 I7=>?_) (.inr locx))
   have eset:(σ++[o]).set X.N.length (some xv)=σ++[some xv]:=by
    rw[<- I.len]
    simp
   rw[eset] at I7
   have tv:=hqY _ s6 _ H5 _ I7 (q xv H5 y5)
   rw[yP,yW,yA,yX] at tv
   refine thn tv λb s6' ⟨H5',I7',qb⟩=>?_
   cases b with
   |false=>
    obtain⟨m',hm,w7⟩:=qb
    refine⟨m',hm,i+1,some xv,_,I7'.unpinned,T.keep _ _ _ st5 λb hb ob e=>(I7'.pin (b,ob) (xW _ (xW _ (bK hb e)))).1,λb hb=>?_,w7⟩
    obtain⟨ob,e,d⟩:=T.obj _ _ st5 b hb
    exact(I7'.pin (b,ob) (xW _ (xW _ (bK hb e)))).2.1
   |true=>
   have ev:=heY _ s6' _ H5' _ I7' qb
   rw[yP,yW,yA,yX] at ev
   refine thn ev λyv s7 ⟨y,H6,I8,ry,vs,hDv,hlen,m',hm,w7⟩=>?_
   have ap:=fW (X:=Y) _ s7 _ H6 (.ref s2.heap.objs.size) [y] (.ref s2.heap.objs.size) [yv] (λ_ H7=>H7=upd H6 s2.heap.objs.size (.lst (vs++[y]))) I8 rfl (.cons ry .nil) ⟨_,vs,y,rfl,rfl,hDv,hlen,rfl⟩
   rw[yP,yW,yA,yX] at ap
   refine thn ap λ_ s8 ⟨_,H7,I9,_,e7⟩=>?_
   subst e7
   refine⟨m',hm,i+1,some xv,_,I9.unpinned,T.keep _ _ _ st5 λb hb ob e=>(I9.pin (b,ob) (xW _ (xW _ (bK hb e)))).1,λb hb=>?_,w7⟩
   obtain⟨ob,e,d⟩:=T.obj _ _ st5 b hb
   exact(I9.pin (b,ob) (xW _ (xW _ (bK hb e)))).2.1
 exact codeAny_compStart_list loop (T.self _ _ _ _ _ (T.keep _ _ _ st (λb hb ob e=>kp b ob (Heap.get?_push_of_some _ e))) loop)
theorem rz{elt iter:Expr}{ifs:List Expr}{x y:Str}{px py spos:Pos}{scope:Scope}{pos:Pos}{wi:TI}{tt:TT}{telt:TE}{ix:Nat}(hc:X.calm=true)(S:CompScope X scope x)(hi:PI X (.Name x px) iter wi)
  (hq:∀ cl s₀ H₀ fp,PIf (bU X scope cl x s₀ H₀ fp) ifs tt) (he:∀ cl s₀ H₀ fp,PE (bU X scope cl x s₀ H₀ fp) elt telt) (hN:X.N.Nodup) (hiy:X.N[ix]?=some y) (hy:Loc X.env.scope y) (hf:zFN X y)
  (hsw:swapsWith (.ListComp elt [⟨.Name x px,iter,ifs,0⟩] scope pos) (some (.Name y py)) spos.line X.env=pure true) (hs:∀ y,zFS X iter y:=by exact λ_=>rfl):
  PS X (.Assign [.Name y py] (.ListComp elt [⟨.Name x px,iter,ifs,0⟩] scope pos) spos) (tAsg (gl wi tt telt) (dI ix)):=by
 intro pins s σ H DE I h
 have h:wi σ H λJ H1=>∀ D,H1 D=none->∃ W:Nat->Nat->Hp->Prop,(∃ m,W 0 m (upd H1 D (.lst [])))/\∀ i m H,W i m H->
  (J.stop i H/\DE.nx (σ.set ix (some (.ref D))) H)\/(J.go i H/\∀ x H',J.yld i H x H'->tt (σ++[some x]) H' λb H1=>if b=true then telt (σ++[some x]) H1 λy H''=>∃ vs,H'' D=some (.lst vs)/\vs.length<sizeLine/\∃ m',m'<m/\W (i+1) m' (upd H'' D (.lst (vs++[y]))) else ∃ m',m'<m/\W (i+1) m' H1):=h
 obtain⟨cl,hcl,c1,c2⟩:=closure_is (env:=X.env) (scope:=scope) (λn q=>I.ok.has n (.inl (S.free n q)))
 rw[exec_Assign_Name_used _ _ _ _ hsw]
 refine wpAny_bind (wpAny_standAt (wpAny_bind ?_))
 show wpAny _ X.A (do let _ <- comprehension (.ListComp elt [⟨.Name x px,iter,ifs,0⟩] scope pos) scope X.env _ (newList []) false (eval iter X.env) (some (assign (.Name y py) X.env))) _ _ s
 refine wpAny_bind (wpAny_mono (wpAny_comprehension_free (use:=some (assign (.Name y py) X.env)) (Q:=λ_ s'=>SP X pins DE .next s') rfl hs hcl S.kind S.names
  (thn (hi pins s σ H _ I h) λv s1 h1=>thn h1 λitv s2 h2=>?_)) (λ_ s' hq=>wpAny_pure (wpAny_pure hq)) λ_ _ e=>e)
 obtain⟨it,fp,tn,J,H1,e,I1,T,st,f1,hr⟩:=h2
 subst e
 have hlt:∀ b∈fp,b<s2.heap.objs.size:=λb hb=>by
  obtain⟨o,ho,_⟩:=T.obj _ _ st b hb
  exact Heap.lt_size ho
 have hD:H1 s2.heap.objs.size=none:=I1.hok.fresh (xM _)
 obtain⟨W,⟨m0,w0⟩,step⟩:=hr _ hD
 refine wpAny_newObj_type (wpAny_newFunctionEnv S.nocell (by intro y hy;simp at hy) (λh₁ hns₁ hsb₁=>?_) S.kind)
 have I3:Inv X pins σ (upd H1 s2.heap.objs.size (.lst [])) {s2 with heap:=s2.heap.push {cls:= .type "list",data:= .seq ([]:List Value).toArray},toks:=s2.toks}:=I1.lnew (its:=[]) (ys:=[]) .nil (yj _)
 have hsz:∀ b∈fp,b<(s2.heap.push {cls:= .type "list",data:= .seq ([]:List Value).toArray}).objs.size:=λb hb=>by
  rw[Heap.size_push];exact Aj (hlt b hb)
 have hf3:∀ b∈fp,FpOk X pins (upd H1 s2.heap.objs.size (.lst [])) b:=λb hb=>⟨by rw[ah (xQ (hlt b hb))];exact(f1 b hb).1,(f1 b hb).2⟩
 have kp:∀ b o,(s2.heap.push {cls:= .type "list",data:= .seq ([]:List Value).toArray}).get? b=some o->h₁.get? b=some o:=λb o e=>
  (hsb₁.2 b (xQ (Heap.lt_size e))).trans (Heap.get?_push_of_some _ e)
 have I4:=lp (x:=x) (fp:=fp) (t':=s2.toks+([]:List (Str × Value)).length) I3 S c1 c2 hf3 hsz hns₁ kp
 have okY:=gk (x:=x) (fp:=fp) I3 S c1 c2 hf3 hsz
 generalize hY:bU X scope cl x {s2 with heap:=s2.heap.push {cls:= .type "list",data:= .seq ([]:List Value).toArray},toks:=s2.toks} (upd H1 s2.heap.objs.size (.lst [])) fp=Y at I4 okY
 have yP:Y.prog=X.prog:=by rw[<- hY];rfl
 have yW:Y.w=X.w:=by rw[<- hY];rfl
 have yK:Y.K=X.K:=by rw[<- hY];rfl
 have yA:Y.A=X.A:=by rw[<- hY];rfl
 have yN:Y.N=X.N.map (λn=>if n=x then("":Str) else n)++[x]:=by rw[<- hY];rfl
 have yE:Y.env=compEnvC scope cl (s2.heap.push {cls:= .type "list",data:= .seq ([]:List Value).toArray}).objs.size X.env:=by rw[<- hY];rfl
 have yX:Y.xe=λ_ _=>False:=by rw[<- hY];rfl
 have yC:Y.calm=true:=by rw[<- hY];exact hc
 have yex:Y.ex=fp:=by rw[<- hY];rfl
 have ypn:Y.pn=[]:=by rw[<- hY];rfl
 have yfs:Y.fs=frs X.stack:=by rw[<- hY];rfl
 have yH0:Y.H₀=upd H1 s2.heap.objs.size (.lst []):=by rw[<- hY];rfl
 have ys0:Y.s₀={s2 with heap:=s2.heap.push {cls:= .type "list",data:= .seq ([]:List Value).toArray},toks:=s2.toks}:=by rw[<- hY];rfl
 have heY:PE Y elt telt:=by rw[<- hY];exact he _ _ _ _
 have hqY:PIf Y ifs tt:=by rw[<- hY];exact hq _ _ _ _
 have stat:∀ {H':Hp},(∀ b∈fp,H' b=none)->∀ b∈fp,FpOk Y [] H' b:=λ{H'} hn b hb=>by
  have hb':b∈Y.ex:=by rw[yex];exact hb
  exact⟨hn b hb,(okY.exf b hb').1,okY.exfs b hb',.inl hb',λn c e=>(okY.exf b hb').2 n c e,by rw[ypn];simp⟩
 have locx:Y.env.scope.names.lookup x=some .local:=by rw[yE];exact lookup_relabel_local S.own
 have hix:Y.N[X.N.length]?=some x:=by rw[yN];simp
 have ndY:Y.N.Nodup:=by rw[yN];exact S.nd
 -- the end of the block
 have hloc:Y.env.locals=(s2.heap.push {cls:= .type "list",data:= .seq ([]:List Value).toArray}).objs.size:=by rw[yE];rfl
 have fin:∀ (o:Option V) (H':Hp) (s':Shared),Inv Y [] (σ++[o]) H' s'->Inv X pins σ H' s':=λo H' s' I'=>by
  have bs:=I'.base
  rw[yfs,yex,yH0,ys0] at bs
  refine I3.call' (ch:=fp) ?_ bs ?_ I'.bare ?_
  ·have:=I'.os
   rw[ys0] at this
   exact this
  ·have:=I'.hok
   rw[yP,yW] at this
   exact this
  ·exact λb hb=>⟨(hf3 b hb).2.2.2.1,(hf3 b hb).2.1,(hf3 b hb).2.2.2.2.1,(hf3 b hb).2.2.2.2.2⟩
 have loop:codeAny (model X.prog X.w) X.A (.compLoop (.ListComp elt [⟨.Name x px,iter,ifs,0⟩] scope pos) 0 (.ref it) (.ref s2.heap.objs.size) (compEnvC scope cl (s2.heap.push {cls:= .type "list",data:= .seq ([]:List Value).toArray}).objs.size X.env))
   (compPost (model X.prog X.w) X.A X.xe (some (assign (.Name y py) X.env)) (λ_ s'=>SP X pins DE .next s') (.ref s2.heap.objs.size) (s2.heap.push {cls:= .type "list",data:= .seq ([]:List Value).toArray}).objs.size)
   {s2 with heap:=h₁,toks:=s2.toks+([]:List (Str × Value)).length}:=by
  refine lm (λn s'=>∃ i o H',Inv Y [] (σ++[o]) H' s'/\tn i s'.heap/\(∀ b∈fp,H' b=none)/\W i n H') ?_ m0 ⟨0,none,_,I4,T.keep _ _ _ st (λb hb ob e=>kp b ob (Heap.get?_push_of_some _ e)),λb hb=>(hf3 b hb).1,w0⟩
  rintro n s3 ⟨i,o,H3,I5,t3,f3,w3⟩
  rcases step i n H3 w3 with⟨stop,q⟩|⟨go,q⟩
  ·have dn:=T.done Y yP yW yK yC i [] s3 _ H3 (λ_ _=>False) I5 (stat f3) t3 stop
   rw[yA] at dn
   refine thn dn λr s4 ⟨hr,I6⟩=>?_
   subst hr
   obtain⟨m,hn,_⟩:=I6.loc
   have hfr:=I6.free
   rw[hloc] at hn hfr
   have IX:=fin o H3 s4 I6
   show wpAny _ X.A (assign (.Name y py) X.env (.ref s2.heap.objs.size)) _ _ s4
   refine wpAny_assign_Name (jy IX hN hiy hy (v:= .ref s2.heap.objs.size) rfl (λs5 I7 ⟨a,hsb,ha⟩=>?_) hf)
   have hneL:(s2.heap.push {cls:= .type "list",data:= .seq ([]:List Value).toArray}).objs.size≠X.env.locals:=yB I3.lt
   have hneC:∀ z c,X.env.cells.lookup z=some c->c≠(s2.heap.push {cls:= .type "list",data:= .seq ([]:List Value).toArray}).objs.size:=λz c e=>by
    obtain⟨vv,oo,ho,_⟩:=I3.cell z c e
    exact xQ (Heap.lt_size ho)
   have hneA:(s2.heap.push {cls:= .type "list",data:= .seq ([]:List Value).toArray}).objs.size≠a:=by
    rcases ha with e|e
    ·rw[e];exact hneL
    ·exact λz=>hneC y a e z.symm
   refine⟨m,hn.sameBut hsb hneA,λh' hs'=>⟨_,H3,I7.turned (t':=s5.toks) (it:=(s2.heap.push {cls:= .type "list",data:= .seq ([]:List Value).toArray}).objs.size) (λb ob hb e=>(hs'.2 b hb).trans e) hfr hneL (.inr I3.sz) hneC (λp hp=>?_),q⟩⟩
   exact xQ (Heap.lt_size (I3.pin p hp).1)
  ·have itm:=T.item Y yP yW yK yC i [] s3 _ H3 (λ_ _=>False) I5 (stat f3) t3 go
   rw[yA] at itm
   refine thn itm λr s4 ⟨u,hr,h4⟩=>?_
   subst hr
   refine thn h4 λ_ s5 ⟨xv,H5,I6,r5,y5,st5,fr5⟩=>?_
   have I6':=I6.pinned (stat fr5) (T.obj _ _ st5)
   rw[<- yE]
   refine wpAny_assign_Name (cY I6' ndY hix (.inl locx) r5 (λs6 I7=>?_) (.inr locx))
   have eset:(σ++[o]).set X.N.length (some xv)=σ++[some xv]:=by
    rw[<- I.len]
    simp
   rw[eset] at I7
   have tv:=hqY _ s6 _ H5 _ I7 (q xv H5 y5)
   rw[yP,yW,yA,yX] at tv
   refine thn tv λb s6' ⟨H5',I7',qb⟩=>?_
   cases b with
   |false=>
    obtain⟨m',hm,w7⟩:=qb
    refine⟨m',hm,i+1,some xv,_,I7'.unpinned,T.keep _ _ _ st5 λb hb ob e=>(I7'.pin (b,ob) (xW _ (xW _ (bK hb e)))).1,λb hb=>?_,w7⟩
    obtain⟨ob,e,d⟩:=T.obj _ _ st5 b hb
    exact(I7'.pin (b,ob) (xW _ (xW _ (bK hb e)))).2.1
   |true=>
   have ev:=heY _ s6' _ H5' _ I7' qb
   rw[yP,yW,yA,yX] at ev
   refine thn ev λyv s7 ⟨y,H6,I8,ry,vs,hDv,hlen,m',hm,w7⟩=>?_
   have ap:=fW (X:=Y) _ s7 _ H6 (.ref s2.heap.objs.size) [y] (.ref s2.heap.objs.size) [yv] (λ_ H7=>H7=upd H6 s2.heap.objs.size (.lst (vs++[y]))) I8 rfl (.cons ry .nil) ⟨_,vs,y,rfl,rfl,hDv,hlen,rfl⟩
   rw[yP,yW,yA,yX] at ap
   refine thn ap λ_ s8 ⟨_,H7,I9,_,e7⟩=>?_
   subst e7
   refine⟨m',hm,i+1,some xv,_,I9.unpinned,T.keep _ _ _ st5 λb hb ob e=>(I9.pin (b,ob) (xW _ (xW _ (bK hb e)))).1,λb hb=>?_,w7⟩
   obtain⟨ob,e,d⟩:=T.obj _ _ st5 b hb
   exact(I9.pin (b,ob) (xW _ (xW _ (bK hb e)))).2.1
 exact codeAny_compStart_list loop (T.self _ _ _ _ _ (T.keep _ _ _ st (λb hb ob e=>kp b ob (Heap.get?_push_of_some _ e))) loop)
end
end L2
end
section
open PySem PySem.Spec PyProof.Rows L2
namespace My
theorem RepS.snoc{K:xK}{B F H:Hp}{z:SD}{s:L2.St}{d:D}{v:V}(h:RepS K B F H z s)(r:Rep K F d v):RepS K B F H (z++[some d]) (s++[some v]):=by
 have no:=r.noown
 have get:∀ {j:Nat} {x:D},(z++[some d])[j]?=some (some x)->(j<z.length/\z[j]?=some (some x))\/(j=z.length/\x=d):=λ{j x} e=>by
  rcases zI j z.length with q|q
  ·rw[yx q] at e;exact .inl ⟨q,e⟩
  ·rw[yM q] at e
   cases hz:j - z.length with
   |zero=>rw[hz] at e;simp at e;exact .inr ⟨by omega,e.symm⟩
   |succ n=>rw[hz] at e;simp at e
 have lt:∀ {j:Nat},j<z.length->(s++[some v])[j]?=s[j]?:=λ{j} q=>yx (by rw[h.len];exact q)
 refine⟨by rw[xT,xT,h.len];rfl,λj x e nx=>?_,λj ds e=>?_,λj k dj dk a e1 e2 e3 e4=>?_⟩
 ·rcases get e with⟨q,e⟩|⟨q,rfl⟩
  ·rw[lt q];exact h.val j x e nx
  ·exact⟨v,by rw[q,yM (by rw[h.len];exact xM _),h.len];simp,r⟩
 ·rcases get e with⟨q,e⟩|⟨q,e⟩
  ·rw[lt q];exact h.own j ds e
  ·rw[<- e] at no;cases no
 ·rcases get e1 with⟨q,e1⟩|⟨q,e1⟩
  ·rcases get e2 with⟨q2,e2⟩|⟨q2,e2⟩
   ·rw[lt q] at e3;rw[lt q2] at e4;exact h.apart j k dj dk a e1 e2 e3 e4
   ·rw[<- e2] at no;cases no
  ·rw[<- e1] at no;cases no
def okB:Bool->Bool->Prop->Prop->Prop
 |_,true,A,_=>A
 |false,false,_,B=>B
 |true,false,_,_=>False
def cmpG(nf:Bool)(tt:TDT)(te:TD)(z:SD)(R:D->Prop)(items:List D):Prop:=items.length<=100000/\∃ W:Nat->List D->Prop,W 0 []/\(∀ k x ys,items[k]?=some x->(nf=true->ys.length=k)->W k ys->tt (z++[some x]) λb=>okB nf b (te (z++[some x]) λy=>W (k+1) (ys++[y])) (W (k+1) ys))/\∀ ys,(nf=true->ys.length=items.length)->W items.length ys->R (.lst ys)
def cmpF(tt:TDT)(te:TD)(z:SD)(R:D->Prop)(items:List D):Prop:=items.length<=100000/\∃ W:Nat->List D->Prop,W 0 []/\(∀ k x ys,items[k]?=some x->W k ys->tt (z++[some x]) λb=>okB false b (te (z++[some x]) λy=>W (k+1) (ys++[y])) (W (k+1) ys))/\∀ ys,W items.length ys->R (.lst ys)
def cmpP(te:TD)(z:SD)(R:D->Prop)(items:List D):Prop:=items.length<=100000/\∃ W:Nat->List D->Prop,W 0 []/\(∀ k x ys,items[k]?=some x->ys.length=k->W k ys->te (z++[some x]) λy=>W (k+1) (ys++[y]))/\∀ ys,ys.length=items.length->W items.length ys->R (.lst ys)
def dT1:TDT:=λ_ R=>R true
abbrev DIf(X:Cx)[Jx](ifs:List Expr)(t:TDT):Prop:=PIf X ifs (lT X.K t)
theorem rA{X:Cx}[Jx]:DIf X [] dT1:=pif_nil.anti λs H Q q=>by
 obtain⟨B,F,z,kf,rs,R,h1,h2⟩:=q
 exact h2 true F H (Grow.refl kf.fh) h1
structure ItIs(K:xK)(J:It)(F1 H1:Hp)(items:List D):Prop where
 go:∀ k F' H',Grow F1 H1 F' H'->k<items.length->J.go k H'
 yld:∀ k F' H' x H'',Grow F1 H1 F' H'->k<items.length->J.yld k H' x H''->H''=H'/\∃ d,items[k]?=some d/\Rep K F' d x
 stop:∀ F' H',Grow F1 H1 F' H'->J.stop items.length H'
def ItOk[Jx](K:xK)(wi:TI)(ti:TDI):Prop:=∀ {s:L2.St} {H B F:Hp} {z:SD} {P:List D->Prop} {Q:It->Hp->Prop},Kept B Jx.F0 F H->RepS K B F H z s->ti z P->(∀ items J F1 H1,Grow F H F1 H1->P items->ItIs K J F1 H1 items->Q J H1)->wi s H Q
section
variable {X:Cx}
theorem rB[Jx]{K:xK}{B F H F1 H1:Hp}{z:SD}{s:L2.St}{Q:VK}{R:D->Prop}{nf:Bool}{tt:TDT}{te:TD}{J:It}{items:List D}(kf:Kept B Jx.F0 F H)(g1:Grow F H F1 H1)(rs:RepS K B F H z s)(h2:∀ D ys us F' H',H D=none->F' D=none->Grow F H F' H'->H' D=some (.lst us)->Reps K F' ys us->R (.lst ys)->Q (.ref D) H')
    (it:ItIs K J F1 H1 items) (hd:cmpG nf tt te z R items):
    ∀ D,H1 D=none->∃ W:Nat->Nat->Hp->Prop,(∃ m,W 0 m (upd H1 D (.lst [])))/\∀ i m H,W i m H->
      (J.stop i H/\Q (.ref D) H)\/(J.go i H/\∀ x H',J.yld i H x H'->lT K tt (s++[some x]) H' λb H1=>if b=true then lE K te (s++[some x]) H1 λy H''=>∃ vs,H'' D=some (.lst vs)/\vs.length<sizeLine/\∃ m',m'<m/\W (i+1) m' (upd H'' D (.lst (vs++[y]))) else ∃ m',m'<m/\W (i+1) m' H1):=by
  intro D hD
  obtain⟨hz,W,w0,turn,out⟩:=hd
  have hF1:F1 D=none:=g1.fh.free hD
  have hH:H D=none:=g1.hh.free hD
  refine⟨λk m H'=>m=items.length - k/\k<=items.length/\∃ F' ys us,Grow F1 H1 F' H'/\H' D=some (.lst us)/\F' D=none/\Reps K F' ys us/\(ys.length<=k/\(nf=true->ys.length=k))/\W k ys,
    ⟨items.length,by simp,yj _,F1,[],[],⟨Same.refl F1,g1.fh.trans (aK hD _),aK hD _,λb h _=>h⟩,av,hF1,reps_nil.mpr rfl,⟨xM _,λ_=>rfl⟩,w0⟩,?_⟩
  rintro k m H' ⟨rfl,hk,F',ys,us,G,hu,hF,ry,hl,w⟩
  by_cases hlt:k<items.length
  · refine .inr ⟨it.go k F' H' G hlt,λx H'' hy=>?_⟩
    obtain⟨e,d,hd,rd⟩:=it.yld k F' H' x H'' G hlt hy
    subst e
    refine⟨B,F',z++[some d],kf.grow (g1.trans G),(rs.grow (g1.trans G)).snoc rd,_,turn k d ys hd hl.2 w,λb F3 H3 g3 hb=>?_⟩
    have hu3:H3 D=some (.lst us):=g3.hh D _ hu
    have hF3:F3 D=none:=g3.out D hF (by rw[hu];exact λq=>nomatch q)
    cases b with
    |false=>
      cases nf with
      |true=>exact hb.elim
      |false=>exact⟨items.length - (k+1),by omega,rfl,by omega,F3,ys,us,G.trans g3,hu3,hF3,ry.mono g3.ff,⟨by omega,λz=>nomatch z⟩,hb⟩
    |true=>
    refine⟨B,F3,z++[some d],(kf.grow (g1.trans G)).grow g3,((rs.grow (g1.trans G)).snoc rd).grow g3,_,(show te _ _ from by cases nf<;>exact hb),λy yv F2 H2 g2 hw rv=>?_⟩
    have hu2:H2 D=some (.lst us):=g2.hh D _ hu3
    have hF2:F2 D=none:=g2.out D hF3 (by rw[hu3];exact λq=>nomatch q)
    have hul:us.length<=k:=by rw[ry.length];exact hl.1
    refine⟨us, hu2, by  have:(100000:Nat)<sizeLine:=by decide
                        omega,items.length - (k+1),by omega,rfl,by omega,F2,ys++[y],us++[yv],?_,av,hF2,((ry.mono g3.ff).mono g2.ff).append (dY rv),⟨by simp;omega,λz=>by simp[hl.2 z]⟩,hw⟩
    have GG:=(G.trans g3).trans g2
    refine⟨GG.ff,λb o e=>?_,λb o e=>?_,GG.out⟩
    · have ne:b≠D:=λq=>by rw[q,hF2] at e;cases e
      rw[ah ne];exact GG.fh b o e
    · have ne:b≠D:=λq=>by rw[q,hD] at e;cases e
      rw[ah ne];exact GG.hh b o e
  · have ek:k=items.length:=by omega
    subst ek
    exact .inl ⟨it.stop F' H' G,h2 D ys us F' H' hH hF (g1.trans G) hu ry (out ys hl.2 w)⟩
variable {elt iter:Expr}{ifs:List Expr}{x:Str}{px pos:Pos}{scope:Scope}{ti te:TD}{tt:TDT}{wi:TI}{tdi:TDI}
theorem cmpP.g{z:SD}{R:D->Prop}{items:List D}(h:cmpP te z R items):cmpG true dT1 te z R items:=
 let ⟨hz,W,w0,turn,out⟩:=h
 ⟨hz,W,w0,λk x ys e l w=>turn k x ys e (l rfl) w,λys l w=>out ys (l rfl) w⟩
theorem cmpF.g{z:SD}{R:D->Prop}{items:List D}(h:cmpF tt te z R items):cmpG false tt te z R items:=
 let ⟨hz,W,w0,turn,out⟩:=h
 ⟨hz,W,w0,λk x ys e _ w=>turn k x ys e w,λys _ w=>out ys w⟩
theorem itR[Jx]{K:xK}:ItOk K (jH (jY (lE K ti) tNil)) (dItR ti):=λ{s H B F z P Q} kf rs h1 h2=>by
 refine⟨B,F,z,kf,rs,_,h1,λd v F1 H1 g1 hd rd=>?_⟩
 split at hd
 ·rename_i n
  obtain⟨⟨b1,b2⟩,hd⟩:=hd
  have hl:((xR n.toNat).map λk=>D.int ((k:Nat):Int)).length=n.toNat:=by simp
  refine⟨n,by rw[rep_int.mp rd],by omega,b2,h2 _ _ F1 H1 g1 hd ⟨λk F' H' G hk=>by rw[hl] at hk;exact hk,λk F' H' x H'' G hk hy=>?_,λF' H' G=>by show n.toNat<=_;rw[hl];exact xM _⟩⟩
  rw[hl] at hk
  obtain⟨e,rfl⟩:=hy
  exact⟨e,.int (k:Int),by simp[hk],rep_int.mpr (by congr 1;omega)⟩
 ·exact hd.elim
end
def cO(scope fsc:Scope):List (Str × NameKind):=scope.names.map λ(n,k)=>if(k==NameKind.free && fsc.kind== .function && fsc.names.lookup n==some .cell) then(n,NameKind.cell) else(n,k)
def visB(l:List (Str × NameKind))(n:Str):Bool:=l.lookup n==some .local||l.lookup n==some .cell||l.lookup n==some .free
def gm(scope fsc:Scope)(N:List Str)(x:Str):Bool:=
 scope.kind== .function && scope.names.all (λy=>!(y.2== .cell)) && scope.names.all (λy=>!(y.2== .local)||scope.names.lookup y.1==some .local) && scope.names.lookup x==some .local &&
 scope.names.all (λy=>!(y.2== .free)||fsc.names.lookup y.1==some .cell) && N.all (λn=>decide (n=x)||!visB (cO scope fsc) n||scope.names.any (λy=>decide (y=(n,NameKind.free)))) && !visB (cO scope fsc) "" &&
 scope.names.all (λy=>!(y.2== .free)||(cO scope fsc).lookup y.1==some .cell) && decide (N.map (λn=>if n=x then("":Str) else n)++[x]).Nodup
theorem lq{l:List (Str × NameKind)}{n:Str}(h:l.lookup n=some .local\/l.lookup n=some .cell\/l.lookup n=some .free):visB l n=true:=by
 unfold visB
 rcases h with h|h|h<;>rw[h]<;>rfl
theorem compScope{X:Cx}{scope:Scope}{x:Str}(h:gm scope X.env.scope X.N x=true):CompScope X scope x:=by
 unfold gm at h
 simp only[ym] at h
 obtain⟨⟨⟨⟨⟨⟨⟨⟨h1,h2⟩,h3⟩,h4⟩,h5⟩,h6⟩,h7⟩,h8⟩,h9⟩:=h
 have er:(relabel scope X.env).names=cO scope X.env.scope:=rfl
 refine⟨by simpa using h1,λy hy=>?_,λy hy e=>?_,by simpa using h4,λn hn=>?_,λn hn ne v=>?_,λv=>?_,λn hn=>?_,of_decide_eq_true h9⟩
 ·have:=yz.mp h2 y hy
  simpa using this
 ·have:=yz.mp h3 y hy
  rw[e] at this
  simpa using this
 ·have:=yz.mp h5 _ hn
  show X.env.scope.names.lookup n=some .cell
  simpa using this
 ·have:=yz.mp h6 n hn
  have v':visB (cO scope X.env.scope) n=true:=lq v
  rw[v'] at this
  simp[ne] at this
  exact this
 ·have v':visB (cO scope X.env.scope) ""=true:=lq v
  rw[v'] at h7
  cases h7
 ·have:=yz.mp h8 _ hn
  rw[er]
  simpa using this
end My
end
section
open PySem PySem.Spec PyProof.Rows L2
namespace My
def putD(f:Str)(v:D):List (Str × D)->List (Str × D)
 |[]=>[(f,v)]
 |(g,x)::r=>if g=f then(g,v)::r else(g,x)::putD f v r
theorem RepF.put{K:xK}{F:Hp}{f:Str}{d:D}{v:V}(r:Rep K F d v):∀ {fs:List (Str × D)} {ws:List (Str × V)},RepF K F fs ws->RepF K F (putD f d fs) (putF f v ws)
 |[],ws,h=>by
  rw[repf_nil.mp h]
  exact repf_cons.mpr ⟨v,[],rfl,r,repf_nil.mpr rfl⟩
 |(g,x)::fs,ws,h=>by
  obtain⟨w,ws',rfl,h1,h2⟩:=repf_cons.mp h
  unfold putD putF
  by_cases e:g=f
  ·rw[if_pos e,if_pos e]
   exact repf_cons.mpr ⟨v,ws',rfl,r,h2⟩
  ·rw[if_neg e,if_neg e]
   exact repf_cons.mpr ⟨w,_,rfl,h1,RepF.put r h2⟩
theorem RepF.length{K:xK}{F:Hp}:∀ {fs:List (Str × D)} {ws:List (Str × V)},RepF K F fs ws->ws.length=fs.length
 |[],ws,h=>by rw[repf_nil.mp h];rfl
 |(g,x)::fs,ws,h=>by
  obtain⟨w,ws',rfl,h1,h2⟩:=repf_cons.mp h
  rw[xN,xN,RepF.length h2]
def ClsA(K:xK)(x f:Str):Prop:=∃ C,nsIn K mainGlobals x=some (some (.ref C))/\Cls K C/\NoAttr K C f
section
variable {X:Cx}{a b c e:Expr}{ta tb tc te:TD}{pos:Pos}
theorem lr[Jx]{x:Str}{d:D}{v:V}{u:Value}(hm:X.mg x=some u)(r:RelV v u)(rd:∀ H,Rep X.K H d v)(hg:Gl X x:=by rfl)(hd:zND x:=by decide):DE X (.Name x pos) (dC d):=de_c (nU hg hm r hd) rd
theorem ei[Jx]{x:Str}{i:Int}(h:∃ t,X.mg x=some (.int i t))(hg:Gl X x:=by rfl)(hd:zND x:=by decide):WDE X (.Name x pos) (dC (.int i)):=⟨by
 obtain⟨t,h⟩:=h
 exact lr (v:= .int i) h ⟨t,rfl⟩ (λ_=>rep_int.mpr rfl) hg hd⟩
theorem gp[Jx]{x y:Str}(h:∃ t,X.mg x=some (.str y t))(hg:Gl X x:=by rfl)(hd:zND x:=by decide):WDE X (.Name x pos) (dC (.str y)):=⟨by
 obtain⟨t,h⟩:=h
 exact lr (v:= .str y) h ⟨t,rfl⟩ (λ_=>rep_str.mpr rfl) hg hd⟩
structure ClsI(K:xK)(mg:Str->Option Value)(x:Str)(C:Addr):Prop where
 ns:nsIn K mainGlobals x=some (some (.ref C))
 mg:mg x=some (.ref C)
 cl:Cls K C
 ha:xO K (.ref C) "__class__"=some (some (.builtin "object.__class__"))
 hn:specialIn K (.builtin "object.__class__") "__get__"=some (some (.builtin "getset_descriptor.__get__"))
 htk:takesIn K (.builtin "object.__class__")=some true
 hm:yr K C (.type "object")=some true
 self:kitOne K (.ref C) (.ref C)=some true
end
abbrev SiD:=List D->(List (Str × D)->Prop)->Prop
def lSi(K:xK)(C:Addr)(S:SiD):Sp:=λvs H Q _=>∃ a dx us H1 F ds,vs= .ref a::us/\H=upd (upd H1 dx (.own a)) a (.ins C dx [])/\H1 a=none/\H1 dx=none/\dx≠a/\Same F H1/\Reps K F ds us/\
 ∃ R:List (Str × D)->Prop,S ds R/\∀ fs ws dx' F' H',Grow F H1 F' H'->R fs->H' a=some (.ins C dx' ws)->F' a=none->RepF K F' fs ws->Q .non H'
def CalM(P:Program)(w:World)(K:xK)(mg:Str->Option Value)(base:Heap)(n:Nat)(x:Str)(ps:List Str)(S:SiD):Prop:=
 ∃ C f fd,nsIn K mainGlobals x=some (some (.ref C))/\mg x=some (.ref C)/\Mk K C f/\FnOk P w K mg base (Exc.CX1 P w) n f fd ps (lSi K C S)/\Binds K fd ps []
def rC(x:Str)(S:SiD)(t:TDA):TD:=λz R=>t z λds=>S ds λfs=>R (.obj x fs)
theorem gq[Jx]{X:Cx}{pos:Pos}{n m:Nat}{ps:List Str}{S:SiD}{x:Str}{p:Pos}{e:Expr}{es:List Expr}{t:TDA}(M:CalM X.prog X.w X.K X.mg X.base n x ps S)(hr:Room m X.A)(ha:WDA X (e::es) t)(hg:Gl X x:=by rfl)(hn:n+1<=m:=by decide)(hdb:zND x:=by decide)
  (he:zSE X e es:=by rfl) (hpl:zPL X pos es:=by rfl):WDE X (.Call (.Name x p) (e::es) [] pos) (rC x S t):=⟨by
 have ha:=ha.out
 obtain⟨C,f,fd,hns,hmg,mk,F,hb⟩:=M
 refine(fT mk F (hr.mono hn) hg hmg hb .nil dh ha hdb he hpl).anti λs H Q q=>?_
 obtain⟨B,F,z,kf,rs,R,h1,h2⟩:=q
 have fh:=kf.fh
 refine⟨B,F,z,kf,rs,_,h1,λds vs F1 H1 g1 hx rx=>?_⟩
 intro a dx ha hdx hne
 refine⟨a,dx,vs,H1,F1,ds,by rw[yf],rfl,ha,hdx,hne,g1.fh,rx,_,hx,λfs ws dx' F' H' g hR hHa hFa rf=>⟨rfl,?_⟩⟩
 have s1:Same F' (upd F' a (.ins C dx' ws)):=aK hFa _
 refine h2 (.obj x fs) (.ref a) (upd F' a (.ins C dx' ws)) H' ⟨(g1.ff.trans g.ff).trans s1,λb o q=>?_,g1.hh.trans g.hh,λb q1 q2=>?_⟩ hR (rep_obj.mpr ⟨a,C,dx',ws,rfl,hns,av,RepF.mono s1 fs ws rf⟩)
 ·by_cases hb:b=a
  ·subst hb;rw[av] at q;cases q;exact hHa
  ·rw[ah hb] at q;exact g.fh b o q
 ·by_cases hb:b=a
  ·subst hb
   exact absurd (g1.hh.free ha) q2
  ·rw[ah hb]
   exact(g1.trans g).out b q1 q2⟩
abbrev TID:=SD->List (Str × D)->(List (Str × D)->Prop)->Prop
def lI(K:xK)[J:Jx](x:Str)(t:TID):TS:=λE σ H=>∃ C a dx ws F z fs,nsIn K mainGlobals x=some (some (.ref C))/\σ[0]?=some (some (.ref a))/\H a=some (.ins C dx ws)/\J.B a=none/\F a=none/\Kept J.B J.F0 F H/\RepS K J.B F H z σ/\RepF K F fs ws/\
 ∃ R:List (Str × D)->Prop,t z fs R/\∀ fs' ws' F' H',Kept J.B J.F0 F' H'->R fs'->H' a=some (.ins C dx ws')->F' a=none->RepF K F' fs' ws'->E.nx σ H'
abbrev DI(X:Cx)[Jx](x:Str)(st:List Stmt)(t:TID):Prop:=PSs X st (lI X.K x t)
structure WDI(X:Cx)[Jx](x:Str)(st:List Stmt)(t:TID):Prop where
 out:DI X x st t
section
variable {X:Cx}{x f:Str}{e:Expr}{te:TD}{pos pos' p:Pos}{rest:List Stmt}{tr:TID}
def lu:TID:=λ_ fs R=>R fs
def rD(f:Str)(te:TD)(tr:TID):TID:=λz fs R=>te z λd=>fs.length<1000/\tr z (putD f d fs) R
theorem cx[Jx]:WDI X x [] lu:=⟨pss_nil.anti λE s H q=>by
 obtain⟨C,a,dx,ws,F,z,fs,hn,h0,hHa,hH1,hFa,g,rs,rf,R,hR,k⟩:=q
 exact k fs ws F H g hR hHa hFa rf⟩
theorem RepS.other{K:xK}{B F H:Hp}{z:SD}{σ:L2.St}{a:Addr}{o o':HO}(rs:RepS K B F H z σ)(h:H a=some o)(hl:∀ vs,o≠.lst vs):RepS K B F (upd H a o') z σ:=
 ⟨rs.len,rs.val,λi ds e=>by
  obtain⟨b,vs,q1,q2,q⟩:=rs.own i ds e
  have ne:b≠a:=by
   rintro rfl
   rw[h] at q2
   cases q2
   exact hl vs rfl
  exact⟨b,vs,q1,by rw[ah ne];exact q2,q⟩,rs.apart⟩
theorem aZ[J:Jx]{ps:Pos}{sx:Str}(hA:ClsA X.K x f)(he:WDE X e te)(hr:WDI X x rest tr)(hN:X.N[0]?=some sx:=by rfl)(hv:Vis X.env.scope sx:=by first|exact Or.inl rfl|exact Or.inr (Or.inl rfl)|exact Or.inr (Or.inr rfl))(hd:zND sx:=by decide)
  (hcd:zNC sx:=by decide) (hs:swapsWith e (some (.Attribute (.Name sx ps) f pos')) pos.line X.env=pure false:=by rfl):WDI X x (.Assign [.Attribute (.Name sx ps) f pos'] e pos::rest) (rD f te tr):=⟨have he:=he.out;have hr:=hr.out;(cZ (jX (cu (i:=0) hN hv hd hcd) he hs) hr).anti λE s H q=>by
 obtain⟨C,a,dx,ws,F,z,fs,hn,h0,hHa,hH1,hFa,g,rs,rf,R,hR,k⟩:=q
 obtain⟨C',hn',hc,hf⟩:=hA
 rw[hn] at hn'
 cases hn'
 refine⟨_,F,z,g,rs,_,hR,λd v F2 H2 g2 hx rv=>?_⟩
 have k2:=g.grow g2
 have hH2:=g2.hh a _ hHa
 have hF2:F2 a=none:=g2.out a hFa (by rw[hHa];exact λz=>nomatch z)
 refine⟨.ref a,h0,a,C,dx,ws,rfl,hH2,hc,hf,by rw[rf.length];exact hx.1,?_⟩
 have fh2:Same F2 (upd H2 a (.ins C dx (putF f v ws))):=λb o q=>by
  have ne:b≠a:=by rintro rfl;rw[hF2] at q;cases q
  rw[ah ne];exact g2.fh b o q
 have hh2:Same J.B (upd H2 a (.ins C dx (putF f v ws))):=λb o q=>by
  have ne:b≠a:=by rintro rfl;rw[hH1] at q;cases q
  rw[ah ne];exact k2.bh b o q
 exact⟨C,a,dx,putF f v ws,F2,z,putD f d fs,hn,h0,av,hH1,hF2,⟨hh2,fh2,k2.f0,k2.out,k2.eb,k2.jf,k2.jo⟩,(rs.grow g2).other hH2 (λ_ z=>nomatch z),RepF.put rv (RepF.mono g2.ff fs ws rf),R,hx.2,k⟩⟩
end
section
variable {P:Program}{w:World}{K:xK}{mg:Str->Option Value}{base:Heap}
theorem lv{K:xK}{B F H:Hp}{z:SD}{σ:L2.St}{v:V}(rs:RepS K B F H z σ):RepS K B F H (none::z) (some v::σ):=
  ⟨by rw[xN,xN,rs.len],λi d e no=>by
    cases i with
    |zero=>cases e
    |succ i=>exact rs.val i d e no,λi ds e=>by
    cases i with
    |zero=>cases e
    |succ i=>exact rs.own i ds e,λi j di dj a e1 e2 e3 e4=>by
    cases i with
    |zero=>cases e1
    |succ i=>
      cases j with
      |zero=>cases e2
      |succ j=>rw[rs.apart i j di dj a e1 e2 e3 e4]⟩
theorem Cls.okI{x qual:Str}{st:Stmt}{f C:Addr}{fd:FuncData}{N:List Str}{p0:Str}{ps:List Str}{k:Nat}{S:SiD}(T:Fun K "__init__" qual st f fd)(hb:Binds K fd (p0::ps) [])(F:FnScope (p0::N) (p0::ps) (ad st))(len:∀ ds R,S ds R->ds.length=ps.length)
  (hns:nsIn K mainGlobals x=some (some (.ref C))) (hmg:mg x=some (.ref C)) (mk:Mk K C f)
  (hbody:∀ (cdv:Value) (A:Around) (outer:List Env) (s:Shared) (H:Hp) (E:XK) (J:Jx),Room k (A.deeper (envOfC qual (ad st) s.heap.objs.size f cdv))->
   ∃ t,DI (cxOf (Exc.CX1 P w) P w K mg base (p0::N) qual (ad st) f cdv A outer s H E).nox x (aA st) t/\∀ ds R,S ds R->t (none::startD N ds) [] R):CalM P w K mg base (k+1) x (p0::ps) S:=by
 refine⟨C,f,fd,hns,hmg,mk,Fun.okC T F (λvs H Q E h=>?_) (λcdv A outer s H vs Q E hr h=>?_),hb⟩
 ·obtain⟨a,dx,us,H1,F,ds,rfl,_,_,_,_,_,rs,R,h,_⟩:=h
  rw[xN,xN,rs.length,len ds R h]
 ·obtain⟨a,dx,us,H1,F1,ds,rfl,rfl,ha,hdx,hne,fh,rs,R,h,q⟩:=h
  letI:Jx:=⟨H1,F1,λ_ _ _=>False⟩
  obtain⟨t,ht,hq⟩:=hbody cdv A outer s _ E inferInstance hr
  have Fa:F1 a=none:=fh.free ha
  have hl:L2.start (p0::N) (.ref a::us)=some (.ref a)::L2.start N us:=by
   unfold L2.start
   rw[yc,xN,xN,Ak];rfl
  have s1:Same H1 (upd (upd H1 dx (.own a)) a (.ins C dx [])):=(aK hdx _).trans (aK (by rw[ah (Ne.symm hne)];exact ha) _)
  refine⟨_,ht.nox,C,a,dx,[],F1,none::startD N ds,[],hns,by rw[hl];rfl,av,ha,Fa,⟨s1,fh.trans s1,Same.refl F1,λ_ h _=>h,rfl,Same.refl F1,λ_ h _=>h⟩,?_,repf_nil.mpr rfl,R,hq ds R h,λfs' ws' F' H' g hR hHa hFa rf=>q fs' ws' dx F' H' ⟨g.f0,g.fh,g.bh,g.out⟩ hR hHa hFa rf⟩
  rw[hl]
  exact lv (dl rs)
end
end My
end
section
open PySem PySem.Spec PyProof.Rows L2
namespace My
section
variable {X:Cx}{a b c e:Expr}{ta tb tc te:TD}{pos:Pos}
def rE(t u:TD):TDI:=λz R=>t z λx=>u z λy=>match x,y with| .int i,.int j=>(-(2 ^ 62)<=i/\i<2 ^ 62/\-(2 ^ 62)<=j/\j<2 ^ 62)/\R ((xR (j - i).toNat).map λk=>D.int (i+((k:Nat):Int)))|_,_=>False
theorem rF[Jx](i:Nat){x:Str}{p p1 p2:Pos}{body:List Stmt}{tb':TSD}(hp:PassesOwn (model X.prog X.w) X.A X.env X.xe)(hc:X.calm=true)(hN:X.N.Nodup)(hm:X.mg "range"=none)(ha:WDE X a ta)(hb':WDE X b tb)(hb:WDSs X body tb')(hg:Gl X "range":=by rfl)(hi:X.N[i]?=some x:=by rfl)(hx:Loc X.env.scope x:=by first|exact Or.inl rfl|exact Or.inr rfl)
  (hf:zFN X x:=by first|exact .inl rfl|exact .inr rfl|assumption) (hs:∀ y,zFS X (.Call (.Name "range" p1) [a,b] [] p2) y:=by exact λ_=>rfl) (hse:zSE X a [b]:=by rfl) (hse1:zSE X b []:=by rfl) (hse2:starEach [a,b] X.env=[(false,eval a X.env),(false,eval b X.env)]:=by rfl) (hse3:starEach [b] X.env=[(false,eval b X.env)]:=by rfl):WDS X (.For (.Name x p) (.Call (.Name "range" p1) [a,b] [] p2) body [] pos) (dFor i (rE ta tb) tb'):=⟨have ha:=ha.out;have hb':=hb'.out;have hb:=hb.out;(da hp hc (oF hg hm (bg ha (bg hb' pa_nil hse1) hse) hse2 hse3) (dJ hN hi hx hf) hb hs).anti λE s H q=>by
 obtain⟨B,F0,F,z,kp,rs,ED,h,e⟩:=q
 refine⟨B,F,z,kp.kf,rs,_,h,λd1 v1 F1 H1 g1 h1 r1=>?_⟩
 refine⟨B,F1,z,kp.kf.grow g1,rs.grow g1,_,h1,λd2 v2 F2 H2 g2 h2 r2=>?_⟩
 split at h2
 ·rename_i lo hi'
  obtain⟨bd,W,w0,turn,out⟩:=h2
  have hl:((xR (hi' - lo).toNat).map λk=>D.int (lo+((k:Nat):Int))).length=(hi' - lo).toNat:=by simp
  refine⟨lo,hi',by rw[rep_int.mp r1,rep_int.mp r2],bd,fP (lo:=lo) (n:=(hi' - lo).toNat) (λk s' H'=>∃ F' z',Kept B F0 F' H'/\RepS X.K B F' H' z' s'/\W k z') ⟨F2,z,(kp.grow g1).grow g2,(rs.grow g1).grow g2,w0⟩ ?_ ?_⟩
  ·rintro k s' H' hk ⟨F',z',k',r',w'⟩
   exact⟨B,F0,F',_,k',r'.set (d:= .int (lo+(k:Int))) (rep_int.mpr rfl),_,turn k (.int (lo+(k:Int))) z' (by simp[hk]) w',⟨λz3 s3 F3 H3 k3 h3 r3=>⟨F3,z3,k3,r3,h3⟩,e.rt,e.nx,λz3 s3 F3 H3 k3 h3 r3=>⟨F3,z3,k3,r3,h3⟩⟩⟩
  ·rintro s' H' ⟨F',z',k',r',w'⟩
   exact e.nx z' s' F' H' k' (out z' (by rw[hl];exact w')) r'
 ·exact h2.elim⟩
theorem RepS.change[Jx]{K:xK}{B F0 F H:Hp}{z:SD}{s:L2.St}{i:Nat}{ds ds':List D}{a:Addr}{vs':List V}(rs:RepS K B F H z s)(k:Kept B F0 F H)(ez:z[i]?=some (some (.own ds)))(q1:s[i]?=some (some (.ref a)))(hB:B a=none)(hF:F a=none)(r:Reps K F ds' vs'):
  Kept B F0 F (upd H a (.lst vs'))/\RepS K B F (upd H a (.lst vs')) (z.set i (some (.own ds'))) s:=by
 have same:∀ {G:Hp},G a=none->Same G H->Same G (upd H a (.lst vs')):=λ{G} ga gs b o eb=>by
  have ne:b≠a:=λz=>by rw[z,ga] at eb;cases eb
  rw[ah ne];exact gs b o eb
 have r2:=rs.setOwn (i:=i) (a:=a) (vs:=vs') (ds:=ds') hB hF r (λj dj hj e1 e2=>hj (rs.apart j i dj ds a e1 ez e2 q1))
 have es:s.set i (some (.ref a))=s:=by
  apply zK
  intro n
  by_cases hn:i=n
  ·subst hn
   rw[yq (yi.mp q1).1,q1]
  ·rw[xY hn]
 rw[es] at r2
 exact⟨⟨same hB k.bh,same hF k.fh,k.f0,k.out,k.eb,k.jf,k.jo⟩,r2⟩
theorem Reps.put{K:xK}{F:Hp}{d:D}{v:V}(r:Rep K F d v):∀ {ds:List D} {vs:List V} (j:Nat),Reps K F ds vs->Reps K F (ds.set j d) (vs.set j v)
 |[],vs,j,h=>by rw[reps_nil.mp h];exact reps_nil.mpr rfl
 |x::ds,vs,0,h=>by
  obtain⟨u,us,rfl,h1,h2⟩:=reps_cons.mp h
  exact reps_cons.mpr ⟨v,us,rfl,r,h2⟩
 |x::ds,vs,j+1,h=>by
  obtain⟨u,us,rfl,h1,h2⟩:=reps_cons.mp h
  exact reps_cons.mpr ⟨u,_,rfl,h1,Reps.put r j h2⟩
def lw(i:Nat)(te ti:TD):TSD:=λE z=>match z[i]? with
 |some (some (.own ds))=>te z λd=>ti z λy=>match y with| .int k=>∃ j,ixN ds.length k=some j/\E.nx (z.set i (some (.own (ds.set j d))))|_=>False
 |_=>False
theorem lx[Jx](i:Nat){x:Str}{p1 p2:Pos}(he:WDE X e te)(hb:WDE X b tb)(hN:X.N[i]?=some x:=by rfl)(hv:Vis X.env.scope x:=by first|exact Or.inl rfl|exact Or.inr (Or.inl rfl)|exact Or.inr (Or.inr rfl))(hd:zND x:=by decide)
  (hcd:zNC x:=by decide)
  (ha:∀ v,assign (.Subscript (.Name x p1) b p2) X.env v=(do
   let ov <- holding [v] (eval (.Name x p1) X.env)
   let iv <- holding [v,ov] (eval b X.env)
   standAt p2
   holding [v,ov,iv] (setItem ov iv v)
   release [v,ov,iv] []):=by intro _;rfl)
  (hs:swapsWithSole [.Subscript (.Name x p1) b p2] e pos.line X.env=pure false:=by rfl) (hw:swappedStores [.Subscript (.Name x p1) b p2] e X.env=pure none:=by rfl)
  (h1:(assignEach [.Subscript (.Name x p1) b p2] X.env).map (·.2)=[assign (.Subscript (.Name x p1) b p2) X.env]:=by rfl):WDS X (.Assign [.Subscript (.Name x p1) b p2] e pos) (lw i te tb):=⟨have he:=he.out;have hb:=hb.out;(oz he (oy (cu hN hv hd hcd) hb pS ha) hs hw h1).anti λE s H q=>by
 obtain⟨B,F0,F,z,k,rs,ED,h,e⟩:=q
 unfold lw at h
 split at h
 ·rename_i ds ez
  refine⟨B,F,z,k.kf,rs,_,h,λd v F1 H1 g1 hx rv=>?_⟩
  obtain⟨a,vs,q1,q2,q3,q4,q5⟩:=(rs.grow g1).own i ds ez
  refine⟨.ref a,q1,B,F1,z,k.kf.grow g1,rs.grow g1,_,hx,λy w F2 H2 g2 hy ry=>?_⟩
  split at hy
  ·obtain⟨j,ej,hn⟩:=hy
   have r2:=(rs.grow g1).grow g2
   have k2:=(k.grow g1).grow g2
   have hF2:F2 a=none:=g2.out a q4 (by rw[q2];exact λz=>nomatch z)
   refine⟨a,vs,_,j,rfl,rep_int.mp ry,g2.hh _ _ q2,by rw[q5.length];exact ej,?_⟩
   obtain⟨k3,r3⟩:=r2.change k2 ez q1 q3 hF2 (Reps.put (rv.mono g2.ff) j (q5.mono g2.ff))
   exact e.nx _ s F2 _ k3 hn r3
  ·exact hy.elim
 ·exact h.elim⟩
end
end My
end
section
open PySem PySem.Spec PyProof.Rows L2
namespace My
open Exc
abbrev XD:=Str->List (Str × D)->Prop
def ErrD(K:xK)(F:Hp)(x:Str)(fs:List (Str × D))(C:Addr)(od:Option Addr):Prop:=
 nsIn K mainGlobals x=some (some (.ref C))/\∃ vs,RepF K F fs vs/\((od=none/\vs=[])\/∃ b,od=some b/\F b=some (.xd vs))
abbrev SpX:=List D->(D->Prop)->XD->Prop
def lSpX(K:xK)(S:SpX):Sp:=λvs H Q E=>∃ F ds,Same F H/\Reps K F ds vs/\∃ (R:D->Prop) (RX:XD),S ds R RX/\(∀ d v F' H',Grow F H F' H'->R d->Rep K F' d v->Q v H')/\
 ∀ x fs C od F' H',Grow F H F' H'->RX x fs->ErrD K F' x fs C od->E (.ref C) od H'
def Exd(X:Cx)(H:Hp)(s:Shared)(e C:Addr)(od:Option Addr):Prop:=
  H e=none/\X.s₀.heap.get? e=none/\(∀ p∈X.pn,p.1≠e)/\
  ((∃ sl vs,s.heap.get? e=some ⟨.ref C,od,.fields vs,sl⟩/\vs[1]?=some .none)\/
    ∃ T,ExAt s.heap e C od T .none/\X.s₀.heap.get? T=none/\H T=none/\∀ p∈X.pn,p.1≠T)
def XOk(X:Cx)[J:Jx]:Prop:=∀ (σ:L2.St) (z:SD) (F H:Hp) (s:Shared) (e C:Addr) (od:Option Addr) (x:Str) (fs:List (Str × D)),Inv X [] σ H s->Kept J.B J.F0 F H->RepS X.K J.B F H z σ->J.RX z x fs->ErrD X.K F x fs C od->Exd X H s e C od->X.xe (.ref e) s
theorem Inv.nopins{X:Cx}{pins:List (Addr × Obj)}{σ:L2.St}{H:Hp}{s:Shared}(I:Inv X pins σ H s):Inv X [] σ H s:=I.pins_of λp hp=>by cases hp
section
variable {X:Cx}{k:Nat}{f:Addr}{fd:FuncData}{ps:List Str}{sp:Sp}{E:XK}
theorem eo{pins:List (Addr × Obj)}{σ:L2.St}{H:Hp}{s:Shared}{Q:VK}{us:List Value}{vs:List V}(F:FnOk X.prog X.w X.K X.mg X.base (CX1 X.prog X.w) k f fd ps sp)(hr:Room k X.A)(hb:Binds X.K fd ps [])
  (hx:∀ e s',CX1 X.prog X.w X.stack H s E e s'->X.xe e s') (I:Inv X pins σ H s) (r:Vals vs us) (h:sp vs H Q E):wpAny (model X.prog X.w) X.A (call (.ref f) us) (EP X pins σ Q) X.xe s:=by
 have hl:us.length=ps.length:=by rw[<- L2.Vals.length r];exact F.len _ _ _ _ h
 have hb':=hb s us I.kIn (by rw[yf];exact hl)
 rw[yf] at hb'
 refine wpAny_call (codeAny_mono (F.run X.A X.stack s H ⟨us,[]⟩ us vs Q E hr I.env0 hb' r h) λr s' hq=>?_)
 cases r with
 |error e=>exact hx e s' hq
 |ok fl=>
  cases fl with
  |ret u=>exact I.after hq
  |next=>exact False.elim hq
  |brk=>exact False.elim hq
  |cont=>exact False.elim hq
end
theorem bV{X:Cx}{pins:List (Addr × Obj)}{σ:L2.St}{H:Hp}{s:Shared}{b:Addr}(I:Inv X pins σ H s)(hex:X.ex=[])(q:s.heap.get? b=none):X.s₀.heap.get? b=none:=by
 cases z:X.s₀.heap.get? b with
 |none=>rfl
 |some o=>
  obtain⟨o',z'⟩:=I.base.there b o z (by rw[hex];simp)
  rw[q] at z';cases z'
theorem pn_free{X:Cx}{pins:List (Addr × Obj)}{σ:L2.St}{H:Hp}{s:Shared}{b:Addr}(I:Inv X pins σ H s)(q:s.heap.get? b=none):∀ p∈X.pn,p.1≠b:=λp hp z=>by
 have:=(I.pin p (yL _ hp)).1
 rw[z,q] at this;cases this
theorem XOk.out{X:Cx}[J:Jx](hx:XOk X)(hex:X.ex=[]){pins:List (Addr × Obj)}{σ:L2.St}{z:SD}{H:Hp}{s s':Shared}{ev:Value}(I:Inv X pins σ H s)
  (h:CX1 X.prog X.w X.stack H s (λCv od H'=>∃ x fs C F',Cv= .ref C/\Kept J.B J.F0 F' H'/\RepS X.K J.B F' H' z σ/\J.RX z x fs/\ErrD X.K F' x fs C od) ev s'):X.xe ev s':=by
 obtain⟨e,C,od,T,H',rfl,hos,hb,un,hok,hxt,ne,nT,He,HT,x,fs,C',F',hC,kk,rr,hR,er⟩:=h
 cases hC
 have I':Inv X pins σ H' s':=I.call' hos un hok hb (λb z=>absurd z (by simp))
 exact hx σ z F' H' s' e C od x fs (Inv.nopins I') kk rr hR er ⟨He,bV I hex ne,pn_free I ne,.inr ⟨T,hxt,bV I hex nT,HT,pn_free I nT⟩⟩
abbrev CalX(P:Program)(w:World)(K:xK)(mg:Str->Option Value)(base:Heap)(n:Nat)(x:Str)(ps:List Str)(S:SpX):Prop:=Cal P w K mg base n x ps (lSpX K S)
def rG[J:Jx](S:SpX)(t:TDA):TD:=λz R=>t z λds=>S ds R (J.RX z)
theorem rH{X:Cx}[J:Jx]{pos:Pos}{n m:Nat}{ps:List Str}{S:SpX}{x:Str}{p:Pos}{e:Expr}{es:List Expr}{t:TDA}(C:CalX X.prog X.w X.K X.mg X.base n x ps S)(hx:XOk X)(hr:Room m X.A)(ha:WDA X (e::es) t)(hex:X.ex=[]:=by rfl)(hg:Gl X x:=by rfl)(hn:n<=m:=by decide)(hdb:zND x:=by decide)
  (he:zSE X e es:=by rfl) (hpl:zPL X pos es:=by rfl):WDE X (.Call (.Name x p) (e::es) [] pos) (rG S t):=⟨by
 have ha:=ha.out
 obtain⟨f,fd,F,hb,hk,hm⟩:=C
 intro pins s σ H Q I h
 obtain⟨B,Fr,z,kf,rs,R,h1,h2⟩:=h
 obtain rfl:B=J.B:=kf.eb
 refine wpAny_Call_Name_kw (bJ I hg hm ?_ hdb)
 refine callWith_K (h₀:=X.base) I.ok.mod.kin hk (thn (ha pos pins s σ H (λvs H1=>lSpX X.K S vs H1 Q (λCv od H'=>∃ x fs C F',Cv= .ref C/\Kept J.B J.F0 F' H'/\RepS X.K J.B F' H' z σ/\J.RX z x fs/\ErrD X.K F' x fs C od)) I ⟨_,Fr,z,kf,rs,_,h1,λds vs F1 H1 g1 hx rx=>?_⟩) λus s1 ⟨vs,H1,I1,r,q⟩=>⟨I1.kIn,?_⟩) he hpl
 ·exact⟨F1,ds,g1.fh,rx,R,J.RX z,hx,λd v F' H' g=>h2 d v F' H' (g1.trans g),λx fs C od F' H' g hR er=>⟨x,fs,C,F',rfl,(kf.grow g1).grow g,(rs.grow g1).grow g,hR,er⟩⟩
 ·exact eo F (hr.mono hn) hb (λe s' hq=>hx.out hex I1 hq) I1 r q⟩
section
variable {P:Program}{w:World}{K:xK}{mg:Str->Option Value}{base:Heap}
theorem rJ{N:List Str}{qual:Str}{scope:Scope}{f:Addr}{cd:Value}{A:Around}{outer:List Env}{s:Shared}{H:Hp}{E':XK}{pins:List (Addr × Obj)}{σ:L2.St}{H':Hp}{s':Shared}{e C T:Addr}{od:Option Addr}
  (I':Inv (cxOf (CX1 P w) P w K mg base N qual scope f cd A outer s H E') pins σ H' s') (hx:ExAt s'.heap e C od T .none) (ne:s.heap.get? e=none) (nT:s.heap.get? T=none) (He:H' e=none) (HT:H' T=none) (hE:E' (.ref C) od H'):
  (cxOf (CX1 P w) P w K mg base N qual scope f cd A outer s H E').xe (.ref e) s':=by
 show wpAny _ _ (leaving _ _) _ _ _
 unfold leaving
 refine wpAny_bind (kE I'.ok.frames I'.stack rfl hx λh2 T2 hx2 fr2 st2=>flight_none (s:={s' with heap:=h2}) hx2 λh3 hx3 st3=>?_)
 have nT2:s'.heap.get? T2=none:=Heap.get?_none_of_le fr2
 have f1:∀ b,s'.heap.get? b=none->s.heap.get? b=none:=λb q=>bV I' rfl q
 have hok:HOk P w H' s'.heap:=I'.hok
 have HT2:H' T2=none:=hok.fresh fr2
 have exn:∀ b∈[T,e],s.heap.get? b=none:=λb hb=>by
  rcases xP.mp hb with z|z
  ·rw[z];exact nT
  ·rw[xL.mp z];exact ne
 have u2:Un (frs outer) [] H H' s.heap h2:=dP (show Un (frs outer) [] H H' s.heap s'.heap from I'.base) st2 exn λb hb=>kF hb
 have u3:Un (frs outer) [] H H' s.heap h3:=dP u2 st3 (λb hb=>by rw[xL.mp hb];exact f1 T2 nT2) λb hb=>by cases hb
 have k2:=dg hok st2 (λb hb=>I'.stkFree b hb) (λb hb=>by
  rcases xP.mp hb with z|z
  ·rw[z];exact HT
  ·rw[xL.mp z];exact He)
 have k3:=dg k2 st3 (λb hb=>by cases hb) (λb hb=>by rw[xL.mp hb];exact HT2)
 exact⟨e,C,od,T2,H',rfl,I'.os,I'.bare,u3,k3,hx3,ne,f1 T2 nT2,He,HT2,hE⟩
end
end My
end
section
open PySem PySem.Spec PyProof.Rows L2
namespace My
open Exc
theorem ObjOk.there{P:Program}{w:World}{H:Hp}{h:Heap}{a:Addr}{o:HO}(x:ObjOk P w H h a o):∃ u,h.get? a=some u:=by
 cases o with
 |lst xs=>obtain⟨_,_,_,_,e⟩:=x;exact⟨_,e⟩
 |tup xs=>obtain⟨_,_,_,o,e,_⟩:=x;exact⟨_,e⟩
 |dK kvs=>obtain⟨_,_,_,_,o,_,_,e,_⟩:=x;exact⟨_,e⟩
 |dT kvs=>obtain⟨_,_,_,_,o,_,_,e,_⟩:=x;exact⟨_,e⟩
 |set S n=>obtain⟨o,_,_,_,e,_⟩:=x;exact⟨_,e⟩
 |ins C dx fs=>obtain⟨_,_,_,e,_⟩:=x;exact⟨_,e⟩
 |own y=>exact x
 |xd fs=>obtain⟨_,⟨_,_,_,e,_⟩,_⟩:=x;exact⟨_,e⟩
 |rng lo hi=>obtain⟨_,_,_,e⟩:=x;exact⟨_,e⟩
 |frz ob u=>obtain⟨e,_⟩:=x;exact⟨_,e⟩
 |tbl ps=>exact⟨_,(show h.get? a=some _ from x)⟩
 |met f y=>exact⟨_,(show h.get? a=some _ from x)⟩
 |ext φ=>obtain⟨_,e,_⟩:=x;exact e
theorem eu{P:Program}{w:World}{H:Hp}{h:Heap}{a:Addr}(x:HOk P w H h)(e:h.get? a=none):H a=none:=by
 cases q:H a with
 |none=>rfl
 |some o=>
  obtain⟨u,hu⟩:=ObjOk.there (x a o q)
  rw[e] at hu;cases hu
def del(H:Hp)(a:Addr):Hp:=λb=>if b=a then none else H b
theorem dw{H:Hp}{a:Addr}:del H a a=none:=by unfold del;rw[if_pos rfl]
theorem bA{H:Hp}{a b:Addr}(h:b≠a):del H a b=H b:=by unfold del;rw[if_neg h]
section
variable {X:Cx}{pins:List (Addr × Obj)}{σ:L2.St}{H:Hp}{s:Shared}{e:Addr}
theorem Inv.drop{φ:Heap->Prop}(I:Inv X pins σ H s)(h:H e=some (.ext φ))(ne:X.s₀.heap.get? e=none):Inv X pins σ (del H e) s:=by
 have nx:∀ b o,H b=some o->(∀ φ,o≠.ext φ)->b≠e:=λb o q n z=>by rw[z,h] at q;cases q;exact n φ rfl
 refine⟨I.ok,I.os,I.bare,⟨I.base.keep,I.base.slot,λb o q n hx=>?_,I.base.there,λb xs q=>?_,λb o u q=>?_,λb ps q=>?_⟩,I.loc,I.cell,?_,λx c q=>?_,λp hp=>?_,λa o q=>?_,I.len⟩
 ·have:b≠e:=λz=>by rw[z,ne] at q;cases q
  rw[bA this];exact I.base.free b o q n hx
 ·have:=I.base.tups b xs q
  rw[bA (nx b _ this λφ z=>nomatch z)];exact this
 ·have:=I.base.frzs b o u q
  rw[bA (nx b _ this λφ z=>nomatch z)];exact this
 ·obtain⟨m,this⟩:=I.base.tbls b ps q
  exact⟨m,by rw[bA (nx b _ this λφ z=>nomatch z)];exact this⟩
 ·by_cases z:X.env.locals=e
  ·rw[z];exact dw
  ·rw[bA z];exact I.free
 ·by_cases z:c=e
  ·rw[z];exact dw
  ·rw[bA z];exact I.freeC x c q
 ·obtain⟨h1,h2,h3⟩:=I.pin p hp
  refine⟨h1,?_,h3⟩
  by_cases z:p.1=e
  ·rw[z];exact dw
  ·rw[bA z];exact h2
 ·by_cases z:a=e
  ·rw[z,dw] at q;cases q
  ·rw[bA z] at q
   exact(I.hok a o q).stay (λb u _ r=>r) (λb r=>by rw[bA (nx b _ r λφ z=>nomatch z)];exact r) λb xs r=>by rw[bA (nx b _ r λφ z=>nomatch z)];exact r
theorem Inv.adopt{φ:Heap->Prop}(I:Inv X pins σ H s)(He:H e=none)(ok:ObjOk X.prog X.w H s.heap e (.ext φ))(ne:X.s₀.heap.get? e=none)(hl:e≠X.env.locals)(hc:∀ x c,X.env.cells.lookup x=some c->c≠e)(hp:∀ p∈X.pn++pins,p.1≠e):Inv X pins σ (upd H e (.ext φ)) s:=by
 refine⟨I.ok,I.os,I.bare,⟨I.base.keep,I.base.slot,λb o q n hx=>?_,I.base.there,λb xs q=>?_,λb o u q=>?_,λb ps q=>?_⟩,I.loc,I.cell,?_,λx c q=>?_,λp hp'=>?_,λa o q=>?_,I.len⟩
 ·have:b≠e:=λz=>by rw[z,ne] at q;cases q
  rw[ah this];exact I.base.free b o q n hx
 ·have:=I.base.tups b xs q
  rw[ah (bf this He)];exact this
 ·have:=I.base.frzs b o u q
  rw[ah (bf this He)];exact this
 ·obtain⟨m,this⟩:=I.base.tbls b ps q
  exact⟨m,by rw[ah (bf this He)];exact this⟩
 ·rw[ah (Ne.symm hl)];exact I.free
 ·rw[ah (hc x c q)];exact I.freeC x c q
 ·obtain⟨h1,h2,h3⟩:=I.pin p hp'
  refine⟨h1,?_,h3⟩
  rw[ah (hp p hp')];exact h2
 ·by_cases z:a=e
  ·rw[z,av] at q;cases q
   rw[z];exact ok
  ·rw[ah z] at q
   exact(I.hok a o q).stay (λb u _ r=>r) (λb r=>by rw[ah (bf r He)];exact r) λb xs r=>by rw[ah (bf r He)];exact r
end
structure ErrK(K:xK)(mg:Str->Option Value)(x:Str)(C N:Addr)(bm:List Value):Prop where
 ns:nsIn K mainGlobals x=some (some (.ref C))
 mg:mg x=some (.ref C)
 kp:keepIn K (.ref C)=true
 obj:∃ nm q bs sn sub ab col dd k0 k1 k2 k3 k5,K.lookup C=some (excClassObj nm q C N bs bm true sn sub ab col dd k0 k1 k2 k3 k5 "ValueError.__new__")
 tail:tailIn K veLine bm=true
structure ErrN(K:xK)(N:Addr):Prop where
 ok:nsOkIn K N=true
 no:nsIn K N "__init__"=some none
theorem gu{K:xK}:∀ {l:List Value},tailIn K veLine l=true->az l=true
 |[],e=>by simp[tailIn,veLine] at e
 |v::r,e=>by
  unfold tailIn at e
  rcases Bool.or_eq_true_iff.mp e with q|q
  ·rw[beq_iff_eq.mp q];decide+kernel
  ·split at q
   ·split at q
    ·simp only[ym,beq_iff_eq] at q
     unfold az
     exact gu q.2
    ·cases q
   ·cases q
theorem ErrK.base{K:xK}{mg:Str->Option Value}{x:Str}{C N:Addr}{bm:List Value}(k:ErrK K mg x C N bm):bm.contains (.type "BaseException")=true:=df (by decide+kernel) (gu k.tail)
section
variable {X:Cx}[J:Jx]{x:Str}{C N:Addr}{bm:List Value}{e:Expr}{es:List Expr}{t:TDA}{p cpos pos:Pos}
end
end My
end
section
open PySem PySem.Spec PyProof.Rows L2
namespace My
open Exc
def XN(e C:Addr)(od:Option Addr):HO:= .ext λh=>∃ t sl,h.get? e=some ⟨.ref C,od,.fields #[.ref t,.none,.none,.none,.bool false,.none],sl⟩
theorem XN.ok{P:Program}{w:World}{H:Hp}{h:Heap}{e C t:Addr}{od:Option Addr}{sl:Array (Option Value)}(q:h.get? e=some ⟨.ref C,od,.fields #[.ref t,.none,.none,.none,.bool false,.none],sl⟩):ObjOk P w H h e (XN e C od):=
 ⟨⟨t,sl,q⟩,⟨_,q⟩,λh1 h2 ⟨t,sl,q⟩ k=>⟨t,sl,k _ q⟩⟩
theorem XN.get{P:Program}{w:World}{H:Hp}{h:Heap}{e C:Addr}{od:Option Addr}(x:HOk P w H h)(q:H e=some (XN e C od)):∃ t sl,h.get? e=some ⟨.ref C,od,.fields #[.ref t,.none,.none,.none,.bool false,.none],sl⟩:=(x e _ q).1
def ErrF(K:xK)(F:Hp)(fs:List (Str × D))(od:Option Addr):Prop:=∃ vs,RepF K F fs vs/\((od=none/\vs=[])\/∃ b,od=some b/\F b=some (.xd vs))
def lEi(K:xK)(C:Addr)(S:SiD):Sp:=λvs H Q _=>∃ e us H1 F ds,vs= .ref e::us/\H=upd H1 e (XN e C none)/\H1 e=none/\Same F H1/\Reps K F ds us/\
 ∃ R:List (Str × D)->Prop,S ds R/\∀ fs od F' H',Grow F H1 F' H'->R fs->H' e=some (XN e C od)->F' e=none->ErrF K F' fs od->Q .non H'
def CalE(P:Program)(w:World)(K:xK)(mg:Str->Option Value)(base:Heap)(n:Nat)(x:Str)(ps:List Str)(S:SiD):Prop:=
 ∃ C N bm f fd,ErrK K mg x C N bm/\xO K (.ref C) "__init__"=some (some (.ref f))/\isFn K (.ref f)=true/\FnOk P w K mg base (CX1 P w) n f fd ps (lEi K C S)/\Binds K fd ps []
section
variable {X:Cx}{pins:List (Addr × Obj)}{σ:L2.St}{H:Hp}{s:Shared}{e:Addr}
theorem Inv.newx{C:Addr}{h':Heap}{us:List Value}(I:Inv X pins σ H s)(hex:X.ex=[])(hm:Heap.MadeExcOf s.heap h' e (.ref C) us):Inv X pins σ (upd H e (XN e C none)) {s with heap:=h'}:=by
 obtain⟨ta,h1,h2,h3⟩:=hm.there
 have I2:Inv X pins σ H {s with heap:=h'}:=I.kept (t':=s.toks) hm.keeps
 refine Inv.adopt I2 (eu I.hok hm.new) (XN.ok h1) (bV I hex hm.new) (λz=>?_) (λx c q z=>?_) λp hp z=>?_
 ·obtain⟨m,⟨o,_,_,ho,_⟩,_⟩:=I.loc
  rw[<- z,hm.new] at ho;cases ho
 ·obtain⟨v,o,ho,_⟩:=I.cell x c q
  rw[z,hm.new] at ho;cases ho
 ·have:=(I.pin p hp).1
  rw[z,hm.new] at this;cases this
end
section
variable {X:Cx}[J:Jx]{x:Str}{e:Expr}{es:List Expr}{t:TDA}{p cpos pos:Pos}{n m:Nat}{ps:List Str}{S:SiD}
end
structure BaseK(K:xK)(mg:Str->Option Value)(y:Str)(M:Addr):Prop where
 mg:mg y=some (.ref M)
 rd:readsIn K M (.type "type")=true
 fc:findCls K (.ref M) (.type "type") "__init__"=some (.val (.builtin "ValueError.__init__"))
 sp:specialIn K (.ref M) "__getattribute__"=some (some (.builtin "type.__getattribute__"))
structure ErrA(K:xK)(x:Str)(C:Addr)(cd:ClassData):Prop where
 ns:nsIn K mainGlobals x=some (some (.ref C))
 cl:zL K C=some cd
 mro:az cd.mro=true
 hd:cd.hasDict=true
 sa:xO K (.ref C) "__setattr__"=some (some (.builtin "object.__setattr__"))
theorem ErrK.a{x:Str}{K:xK}{mg:Str->Option Value}{C N:Addr}{bm:List Value}(k:ErrK K mg x C N bm)(sa:xO K (.ref C) "__setattr__"=some (some (.builtin "object.__setattr__"))):∃ cd,ErrA K x C cd:=by
 obtain⟨nm,q,bs,sn,sub,ab,col,dd,k0,k1,k2,k3,k5,lk⟩:=k.obj
 exact⟨_,k.ns,by unfold zL;rw[lk],by
  show az (.ref C::bm)=true
  unfold az;exact gu k.tail,rfl,sa⟩
def lX(K:xK)[J:Jx](x:Str)(t:TID):TS:=λE σ H=>∃ C e od ws F z fs,nsIn K mainGlobals x=some (some (.ref C))/\σ[0]?=some (some (.ref e))/\H e=some (XN e C od)/\J.B e=none/\F e=none/\Kept J.B J.F0 F H/\RepS K J.B F H z σ/\RepF K F fs ws/\
 ((od=none/\ws=[])\/∃ b,od=some b/\H b=some (.xd ws)/\J.B b=none/\F b=none/\b≠e/\ws≠[])/\
 ∃ R:List (Str × D)->Prop,t z fs R/\∀ fs' od' F' H',Kept J.B J.F0 F' H'->R fs'->H' e=some (XN e C od')->F' e=none->ErrF K F' fs' od'->E.nx σ H'
abbrev DX(X:Cx)[Jx](x:Str)(st:List Stmt)(t:TID):Prop:=PSs X st (lX X.K x t)
structure WDX(X:Cx)[Jx](x:Str)(st:List Stmt)(t:TID):Prop where
 out:DX X x st t
theorem ly{H:Hp}{a:Addr}{o:HO}(h:H a=some o):upd H a o=H:=by
 funext b
 unfold upd
 by_cases q:b=a
 ·rw[if_pos q,q,h]
 ·rw[if_neg q]
section
variable {X:Cx}[J:Jx]{x f:Str}{e:Expr}{te:TD}{ta:TDA}{pos pos' p:Pos}{rest:List Stmt}{tr:TID}
theorem lz:WDX X x [] lu:=⟨pss_nil.anti λE s H q=>by
 obtain⟨C,a,od,ws,F,z,fs,hn,h0,hHa,hB,hFa,k,rs,rf,hd,R,hR,kk⟩:=q
 rcases hd with⟨rfl,rfl⟩|⟨b,rfl,hb,hBb,hFb,ne,_⟩
 ·exact kk fs none F H k hR hHa hFa ⟨[],rf,.inl ⟨rfl,rfl⟩⟩
 ·have s1:Same F (upd F b (.xd ws)):=aK hFb _
  refine kk fs (some b) (upd F b (.xd ws)) H ⟨k.bh,λc o q=>?_,k.f0.trans s1,λc h1 h2=>?_,k.eb,k.jf,k.jo⟩ hR hHa (by rw[ah (Ne.symm ne)];exact hFa) ⟨ws,RepF.mono s1 fs ws rf,.inr ⟨b,rfl,av⟩⟩
  ·by_cases hc:c=b
   ·subst hc;rw[av] at q;cases q;exact hb
   ·rw[ah hc] at q;exact k.fh c o q
  ·have:c≠b:=λz=>h2 (z ▸ hBb)
   rw[ah this];exact k.out c h1 h2⟩
def rK(ta:TDA)(tr:TID):TID:=λz fs R=>ta z λds=>ds.length<=1000/\tr z fs R
theorem lB{y sx:Str}{ps py apos cpos:Pos}{es:List Expr}{pl:Sem Bool}(hb:∃ M,BaseK X.K X.mg y M)(hA:∃ C cd,ErrA X.K x C cd)(ha:WDA X es ta)(hr:WDX X x rest tr)(hg:Gl X y:=by rfl)(hN:X.N[0]?=some sx:=by rfl)(hv:Vis X.env.scope sx:=by first|exact Or.inl rfl|exact Or.inr (Or.inl rfl)|exact Or.inr (Or.inr rfl))(hd:zND sx:=by decide)
  (hcd:zNC sx:=by decide) (hdy:zND y:=by decide)
  (he:starEach (.Name sx ps::es) X.env=(false,eval (.Name sx ps) X.env)::starEach es X.env:=by rfl) (hpl:zPL X cpos es:=by rfl)
  (ht:eval (.Call (.Attribute (.Name y py) "__init__" apos) (.Name sx ps::es) [] cpos) X.env=(do
   let ov <- eval (.Name y py) X.env
   standAt apos.atName
   let (f,first) <- holding [ov] (getMethod ov "__init__" pl)
   callWith cpos f first (backTo cpos (starEach (.Name sx ps::es) X.env)) (backToKw cpos (keywordEach [] X.env))):=by rfl)
  (hs:swapsWith (.Call (.Attribute (.Name y py) "__init__" apos) (.Name sx ps::es) [] cpos) none pos.line X.env=pure false:=by rfl):WDX X x (.Expr (.Call (.Attribute (.Name y py) "__init__" apos) (.Name sx ps::es) [] cpos) pos::rest) (rK ta tr):=⟨by
 have ha:=ha.out
 have hr:=hr.out
 obtain⟨M,bk⟩:=hb
 obtain⟨C,cd,er⟩:=hA
 have step:PS X (.Expr (.Call (.Attribute (.Name y py) "__init__" apos) (.Name sx ps::es) [] cpos) pos) (λE σ H=>∃ C' e od,nsIn X.K mainGlobals x=some (some (.ref C'))/\σ[0]?=some (some (.ref e))/\
   lA X.K ta σ H (λvs H1=>H1 e=some (XN e C' od)/\vs.length<=1000/\E.nx σ H1)):=by
  intro pins s σ H D I h
  obtain⟨C',ea,od,hn,h0,h⟩:=h
  rw[er.ns] at hn
  cases hn
  refine wpAny_Expr_any (methodCall_KW (pl:=pl) (bJ I hg bk.mg ?_ hdy) ht) I.quiet hs
  refine method_cls I.kIn bk.sp (cls_value I.kIn bk.rd bk.fc (by decide+kernel) ?_)
  have I0:Inv X pins σ H {s with toks:=s.toks+1}:=I.tok _
  obtain⟨B,F,z,kf,rs,R,h1,h2⟩:=h
  refine PyProof.Rows.callWith_builtin1 (thn (bg (cu (i:=0) hN hv hd hcd) ha he cpos pins _ σ H (λvs H1=>∃ us,vs= .ref ea::us/\H1 ea=some (XN ea C od)/\us.length<=1000/\D.nx σ H1) I0 ⟨.ref ea,h0,⟨B,F,z,kf,rs,R,h1,λds vs F' H' g hx rx=>⟨vs,rfl,h2 ds vs F' H' g hx rx⟩⟩⟩) λus s1 ⟨vs,H1,I1,r,us',ev,hXN,hl,hnx⟩=>?_) he hpl
  subst ev
  cases r with
  |cons r1 r2=>
   rename_i u0 us2 _
   obtain rfl:u0=Value.ref ea:=r1
   obtain⟨t0,sl,hget⟩:=XN.get I1.hok hXN
   refine qv (K:=X.K) (C:=C) (cd:=cd) I1.kIn hget rfl rfl er.cl er.mro (by rw[<- L2.Vals.length r2];exact sz hl) λh' g1 g2=>?_
   refine⟨σ,H1,?_,hnx⟩
   have w:=I1.write (x:=ea) (e:=ea) (o:=XN ea C od) (h':=h') (t':=s1.toks) (by rw[hXN];exact True.intro) (.inl rfl) (λb u hb q=>g2 b u hb q) ⟨_,g1⟩ (XN.ok g1)
   rw[ly hXN] at w
   exact w
 refine(cZ step hr).anti λE s H q=>?_
 obtain⟨C',a,od,ws,F,z,fs,hn,h0,hHa,hB,hFa,k,rs,rf,hd',R,hR,kk⟩:=q
 refine⟨C',a,od,hn,h0,_,F,z,k,rs,_,hR,λds vs F1 H1 g hx rx=>⟨g.hh a _ hHa,by rw[rx.length];exact hx.1,?_⟩⟩
 refine⟨C',a,od,ws,F1,z,fs,hn,h0,g.hh a _ hHa,hB,g.out a hFa (by rw[hHa];exact λz=>nomatch z),k.grow g,rs.grow g,RepF.mono g.ff fs ws rf,?_,R,hx.2,kk⟩
 rcases hd' with hd'|⟨b,h1,h2,h3,h4,h5⟩
 ·exact .inl hd'
 ·exact .inr ⟨b,h1,g.hh b _ h2,h3,g.out b h4 (by rw[h2];exact λz=>nomatch z),h5⟩⟩
def rL(f:Str)(te:TD)(tr:TID):TID:=λz fs R=>fs=[]/\te z λd=>tr z [(f,d)] R
theorem lC{sx:Str}{ps:Pos}(hA:∃ C cd,ErrA X.K x C cd)(hf:∀ C,nsIn X.K mainGlobals x=some (some (.ref C))->xO X.K (.ref C) f=some none)(he:WDE X e te)(hr:WDX X x rest tr)(hN:X.N[0]?=some sx:=by rfl)(hv:Vis X.env.scope sx:=by first|exact Or.inl rfl|exact Or.inr (Or.inl rfl)|exact Or.inr (Or.inr rfl))(hd:zND sx:=by decide)
  (hcd:zNC sx:=by decide) (hs:swapsWith e (some (.Attribute (.Name sx ps) f pos')) pos.line X.env=pure false:=by rfl):WDX X x (.Assign [.Attribute (.Name sx ps) f pos'] e pos::rest) (rL f te tr):=⟨by
 have he:=he.out
 have hr:=hr.out
 obtain⟨C,cd,er⟩:=hA
 have hfa:=hf C er.ns
 have step:PS X (.Assign [.Attribute (.Name sx ps) f pos'] e pos) (λE σ H=>∃ e,σ[0]?=some (some (.ref e))/\
   lE X.K te σ H (λv H1=>H1 e=some (XN e C none)/\∀ b,H1 b=none->b≠e->E.nx σ (upd (upd H1 b (.xd [(f,v)])) e (XN e C (some b))))):=by
  intro pins s σ H D I h
  obtain⟨ea,h0,h⟩:=h
  refine plainObj_wpAny_Assign_Attribute (thn (he pins s σ H _ I h) λu s1 ⟨y,H1,I1,ry,hXN,hnx⟩=>thn (cu (i:=0) hN hv hd hcd pins s1 σ H1 (λv H'=>v= .ref ea/\H'=H1) I1 ⟨.ref ea,h0,rfl,rfl⟩) λov s2 ⟨v0,H2,I2,r0,e1,e2⟩=>?_) hs
  subst e1 e2
  obtain rfl:ov=Value.ref ea:=r0
  obtain⟨t0,sl,hget⟩:=XN.get I2.hok hXN
  refine qt (K:=X.K) (C:=C) (cd:=cd) I2.kIn hget rfl rfl rfl er.cl er.mro er.hd er.sa hfa λh' g1 g2 g3 tk=>?_
  have hfr:H2 s2.heap.objs.size=none:=I2.hok.fresh (xM _)
  have hne:s2.heap.objs.size≠ea:=yB (Heap.lt_size hget)
  have nosz:∀ b o,s2.heap.get? b=some o->b≠s2.heap.objs.size:=λb o q=>xQ (Heap.lt_size q)
  have neE:∀ b,H2 b=none->b≠ea:=λb q z=>by rw[z,hXN] at q;cases q
  refine⟨σ,_,?_,hnx _ hfr hne⟩
  have isx:∀ b o,H2 b=some o->(∀ φ,o≠.ext φ)->upd (upd H2 s2.heap.objs.size (.xd [(f,y)])) ea (XN ea C (some s2.heap.objs.size)) b=some o:=λb o q n=>by
   have n1:b≠ea:=λz=>by rw[z,hXN] at q;cases q;exact n _ rfl
   rw[ah n1,ah (bf q hfr)];exact q
  refine I2.un (h':=h') (t':=tk) ⟨λb o q n _ _=>g3 b o (neE b n) q,λb o q n _ _=>⟨o.slots,g3 b o (neE b n) q⟩,λb o q n _=>?_,λb o q _=>?_,λb xs q=>isx b _ q (λφ z=>nomatch z),λb o u q=>isx b _ q (λφ z=>nomatch z),λb ps q=>⟨#[],by rw[isx b _ q (λφ z=>nomatch z)];simp⟩⟩ λa o q=>?_
  ·rw[ah (neE b n),ah (nosz b o q)];exact n
  ·by_cases hb:b=ea
   ·rw[hb];exact⟨_,g1⟩
   ·exact⟨o,g3 b o hb q⟩
  ·by_cases ha:a=ea
   ·subst ha
    rw[av] at q;cases q
    exact XN.ok g1
   ·rw[ah ha] at q
    by_cases hb:a=s2.heap.objs.size
    ·subst hb
     rw[av] at q;cases q
     refine⟨_,g2,λg=>?_⟩
     rw[ya]
     by_cases hg:g=f
     ·subst hg;simp;exact ry
     ·have:(g==f)=false:=by simpa using hg
      rw[this,if_neg hg];exact True.intro
    ·rw[ah hb] at q
     refine(I2.hok a o q).stay (λb u hb' r=>?_) (λb r=>isx b _ r (λφ z=>nomatch z)) λb xs r=>isx b _ r (λφ z=>nomatch z)
     refine g3 b u (λz=>?_) r
     rcases hb' with e1|e1
     ·exact ha (e1 ▸ z)
     ·rw[z,hXN] at e1;cases e1
 refine(cZ step hr).anti λE s H q=>?_
 obtain⟨C',a,od,ws,F,z,fs,hn,h0,hHa,hB,hFa,k,rs,rf,hd',R,⟨rfl,hR⟩,kk⟩:=q
 rw[er.ns] at hn
 cases hn
 have ews:ws=[]:=repf_nil.mp rf
 subst ews
 refine⟨a,h0,_,F,z,k,rs,_,hR,λd v F1 H1 g hx rv=>?_⟩
 have hFa1:F1 a=none:=g.out a hFa (by rw[hHa];exact λz=>nomatch z)
 have k1:=k.grow g
 rcases hd' with⟨rfl,_⟩|⟨b,rfl,h1,h2,h3,h4⟩
 ·refine⟨g.hh a _ hHa,λb hb hne=>?_⟩
  have hBb:J.B b=none:=k1.bh.free hb
  have hFb:F1 b=none:=k1.fh.free hb
  have same:∀ {G:Hp},G a=none->G b=none->Same G H1->Same G (upd (upd H1 b (.xd [(f,v)])) a (XN a C (some b))):=λ{G} ga gb gs c o q=>by
   have n1:c≠a:=λz=>by rw[z,ga] at q;cases q
   have n2:c≠b:=λz=>by rw[z,gb] at q;cases q
   rw[ah n1,ah n2];exact gs c o q
  have rs1:=rs.grow g
  refine⟨C,a,some b,[(f,v)],F1,z,[(f,d)],er.ns,h0,av,hB,hFa1,⟨same hB hBb k1.bh,same hFa1 hFb k1.fh,k1.f0,k1.out,k1.eb,k1.jf,k1.jo⟩,?_,repf_cons.mpr ⟨v,[],rfl,rv,repf_nil.mpr rfl⟩,.inr ⟨b,rfl,by rw[ah hne];exact av,hBb,hFb,hne,λz=>nomatch z⟩,R,hx,kk⟩
  refine⟨rs1.len,rs1.val,λi ds e'=>?_,rs1.apart⟩
  obtain⟨c,vs,q1,q2,q⟩:=rs1.own i ds e'
  have n1:c≠a:=λz=>by rw[z,g.hh a _ hHa] at q2;cases q2
  have n2:c≠b:=λz=>by rw[z,hb] at q2;cases q2
  exact⟨c,vs,q1,by rw[ah n1,ah n2];exact q2,q⟩
 ·exact absurd rfl h4.2⟩
end
section
variable {P:Program}{w:World}{K:xK}{mg:Str->Option Value}{base:Heap}
theorem Cls.okE{x qual:Str}{st:Stmt}{f C N0:Addr}{bm:List Value}{fd:FuncData}{N:List Str}{p0:Str}{ps:List Str}{k:Nat}{S:SiD}(T:Fun K "__init__" qual st f fd)(hb:Binds K fd (p0::ps) [])(F:FnScope (p0::N) (p0::ps) (ad st))(len:∀ ds R,S ds R->ds.length=ps.length)
  (ek:ErrK K mg x C N0 bm) (hi:xO K (.ref C) "__init__"=some (some (.ref f))) (hf:isFn K (.ref f)=true)
  (hbody:∀ (cdv:Value) (A:Around) (outer:List Env) (s:Shared) (H:Hp) (E:XK) (J:Jx),Room k (A.deeper (envOfC qual (ad st) s.heap.objs.size f cdv))->
   ∃ t,DX (cxOf (CX1 P w) P w K mg base (p0::N) qual (ad st) f cdv A outer s H E).nox x (aA st) t/\∀ ds R,S ds R->t (none::startD N ds) [] R):CalE P w K mg base (k+1) x (p0::ps) S:=by
 refine⟨C,N0,bm,f,fd,ek,hi,hf,Fun.okC T F (λvs H Q E h=>?_) (λcdv A outer s H vs Q E hr h=>?_),hb⟩
 ·obtain⟨a,us,H1,F,ds,rfl,_,_,_,rs,R,h,_⟩:=h
  rw[xN,xN,rs.length,len ds R h]
 ·obtain⟨a,us,H1,F1,ds,rfl,rfl,ha,fh,rs,R,h,q⟩:=h
  letI:Jx:=⟨H1,F1,λ_ _ _=>False⟩
  obtain⟨t,ht,hq⟩:=hbody cdv A outer s _ E inferInstance hr
  have Fa:F1 a=none:=fh.free ha
  have hl:L2.start (p0::N) (.ref a::us)=some (.ref a)::L2.start N us:=by
   unfold L2.start
   rw[yc,xN,xN,Ak];rfl
  have s1:Same H1 (upd H1 a (XN a C none)):=aK ha _
  refine⟨_,ht.nox,C,a,none,[],F1,none::startD N ds,[],ek.ns,by rw[hl];rfl,av,ha,Fa,⟨s1,fh.trans s1,Same.refl F1,λ_ h _=>h,rfl,Same.refl F1,λ_ h _=>h⟩,?_,repf_nil.mpr rfl,.inl ⟨rfl,rfl⟩,R,hq ds R h,λfs' od' F' H' g hR hHa hFa er=>q fs' od' F' H' ⟨g.f0,g.fh,g.bh,g.out⟩ hR hHa hFa er⟩
  rw[hl]
  exact lv (dl rs)
end
end My
end
section
open PySem PySem.Spec PyProof.Rows L2
namespace My
open Exc
section
variable {M:Model}{A:Around}{E:Value->Shared->Prop}{h:Heap}{g:Array GenState}{d:Drawn}{t:Nat}{os:OsState}
variable {nm q:Str}{C N:Addr}{bs bm:List Value}{hdct:Bool}{sn:List Str}{sub:List Value}{ab:Bool}{col:Option Bool}{dd:Option Addr}{k0 k1 k2 k3 k5:Option Value}{newId:String}
variable {nm' q':Str}{C' N':Addr}{bs' bm':List Value}{hdct':Bool}{sn':List Str}{sub':List Value}{ab':Bool}{col':Option Bool}{dd':Option Addr}{k0' k1' k2' k3' k5':Option Value}{newId':String}
theorem lD{e:Addr}{oe:Obj}{b:Bool}{Q:Bool->Shared->Prop}(hC:h.get? C=some (excClassObj nm q C N bs bm hdct sn sub ab col dd k0 k1 k2 k3 k5 newId))(hD:h.get? C'=some (excClassObj nm' q' C' N' bs' bm' hdct' sn' sub' ab' col' dd' k0' k1' k2' k3' k5' newId'))
  (he:h.get? e=some oe) (hcls:oe.cls= .ref C) (hbase:bm'.contains (.type "BaseException")=true) (hb:(Value.ref C::bm).contains (.ref C')=b) (hq:Q b ⟨h,g,d,t,os⟩):wpAny M A (excMatches (.ref e) (.ref C')) Q E ⟨h,g,d,t,os⟩:=by
 have hcB:(Value.ref C'::bm').contains (.type "BaseException")=true:=by rw[zH,hbase,yU]
 have f:=tc_notTuple
 unfold excMatches
 repeat(first|(with_reducible refine wpAny_loadPart_at he ?_;rw[hcls])|with_reducible refine wpAny_loadPart_at hD ?_|(with_reducible refine wpAny_isSubtype_exc hD ?_;rw[hcB])|(with_reducible refine wpAny_isSubtype_exc hC ?_;rw[hb])|wp_step)
 cases b with
 |true=>wp_walk;exact hq
 |false=>wp_walk;exact hq
end
abbrev _root_.L2.Cx.held(X:Cx)(e:Addr):Cx:={X with A:=X.A.mark (some (.ref e)),calm:=false,xe:=λ_ _=>False}
section
variable {X:Cx}{pins:List (Addr × Obj)}{σ:L2.St}{H:Hp}{s:Shared}{e:Addr}
theorem Cx.Ok.held(ok:X.Ok):(X.held e).Ok:=
 ⟨ok.mod,ok.kind,ok.glob,ok.blt,ok.above,ok.inj,ok.has,ok.cab,(λz=>nomatch z),ok.frames,ok.stk,ok.exf,ok.bs,ok.bsz,ok.noex,ok.exfs,ok.funs,ok.frf⟩
theorem Inv.held(I:Inv X pins σ H s):Inv (X.held e) pins σ H s:=⟨Cx.Ok.held I.ok,I.os,I.bare,I.base,I.loc,I.cell,I.free,I.freeC,I.pin,I.hok,I.len⟩
theorem Inv.unheld(ok:X.Ok)(I:Inv (X.held e) pins σ H s):Inv X pins σ H s:=⟨ok,I.os,I.bare,I.base,I.loc,I.cell,I.free,I.freeC,I.pin,I.hok,I.len⟩
theorem SP.unheld{D:Ends}{f:Flow}{s':Shared}(ok:X.Ok)(h:SP (X.held e) pins D f s'):SP X pins D f s':=by
 cases f with
 |next=>obtain⟨σ',H',I,q⟩:=h;exact⟨σ',H',Inv.unheld ok I,q⟩
 |brk=>obtain⟨σ',H',I,q⟩:=h;exact⟨σ',H',Inv.unheld ok I,q⟩
 |cont=>obtain⟨σ',H',I,q⟩:=h;exact⟨σ',H',Inv.unheld ok I,q⟩
 |ret u=>obtain⟨v,σ',H',I,r,q⟩:=h;exact⟨v,σ',H',Inv.unheld ok I,r,q⟩
theorem eA{M:Model}{A:Around}{E:Value->Shared->Prop}{i:Nat}{x:Str}{pos:Pos}{Q:Unit->Shared->Prop}(I:Inv X pins σ H s)(hN:X.N.Nodup)(hi:X.N[i]?=some x)(hk:X.env.scope.names.lookup x=some .local)
  (h:∀ s',Inv X pins (σ.set i none) H s'->Q () s'):wpAny M A (do bindName X.env x .none;unbindBehindTheSuite X.env x pos) Q E s:=by
 obtain⟨m,hn,hl⟩:=id I.loc
 have hcls:(X.env.scope.kind== .class||(X.env.scope.kind== .module && X.env.locals !=X.env.globals))=false:=by rw[I.ok.kind];rfl
 have hiσ:i<σ.length:=by rw[I.len];exact(yi.mp hi).1
 have cne:=I.cne
 refine wpAny_nameGoes_keeps hk hn hcls λh' v hn' hs=>?_
 obtain⟨oL,_,_,hoL,_⟩:=id hn
 have tracked:HOk X.prog X.w H h':=λb ob e=>by
  refine(I.hok b ob e).stay (λc w' hc q=>(hs.2 c ?_).trans q) (λ_ q=>q) λ_ _ q=>q
  rintro rfl
  rcases hc with rfl|hc
  ·rw[I.free] at e;cases e
  ·rw[I.free] at hc;cases hc
 refine h _ ⟨I.ok,I.os,I.bare,⟨λb o e n hb hx=>?_,λb o e n hb hx=>?_,I.base.free,λb o e hx=>?_,I.base.tups,I.base.frzs,I.base.tbls⟩,⟨_,hn',λj y v' e1 e2 e3=>?_⟩,λy c e=>?_,I.free,I.freeC,λp hp=>?_,tracked,by simpa using I.len⟩
 ·exact(hs.2 b (xQ (yb (Heap.lt_size e) I.ok.above))).trans (I.base.keep b o e n hb hx)
 ·obtain⟨sl,e1⟩:=I.base.slot b o e n hb hx
  exact⟨sl,(hs.2 b (xQ (yb (Heap.lt_size e) I.ok.above))).trans e1⟩
 ·obtain⟨o',e1⟩:=I.base.there b o e hx
  exact⟨o',(hs.2 b (xQ (yb (Heap.lt_size e) I.ok.above))).trans e1⟩
 ·by_cases hj:j=i
  ·subst hj
   rw[yq hiσ] at e2
   cases e2
  ·rw[xY (Ne.symm hj)] at e2
   obtain⟨u',r',q⟩:=hl j y v' e1 e2 e3
   refine⟨u',r',?_⟩
   rcases q with⟨k,e⟩|⟨k,c,e,z⟩
   ·refine .inl ⟨k,?_⟩
    have:y≠x:=λe=>hj (fN hN e1 (e ▸ hi))
    simp[this,e]
   ·exact .inr ⟨k,c,e,z.sameBut hs (cne y c e)⟩
 ·obtain⟨w',z⟩:=I.cell y c e
  exact⟨w',z.sameBut hs (cne y c e)⟩
 ·obtain⟨e,n,ne,nf,d⟩:=I.pin p hp
  exact⟨(hs.2 p.1 ne).trans e,n,ne,nf,d⟩
theorem Inv.stay{h':Heap}{fs' ex:List Addr}(I:Inv X pins σ H s)(st:Stay fs' ex s.heap h')(hfs:∀ b∈fs',b∈frs X.stack)(hH:∀ b∈ex,H b=none)(h0:∀ b∈ex,X.s₀.heap.get? b=none)(hL:∀ b∈ex,b≠X.env.locals)(hc:∀ b∈ex,∀ x c,X.env.cells.lookup x=some c->c≠b)
  (hp:∀ b∈ex,∀ p∈X.pn++pins,p.1≠b):Inv X pins σ H {s with heap:=h'}:=by
 have hok:HOk X.prog X.w H h':=dg I.hok st (λb hb=>I.stkFree b (hfs b hb)) hH
 have sub:∀ b∈fs',b=X.env.locals\/b∈X.fs:=λb hb=>xP.mp (I.stkSub b (hfs b hb))
 have nL:∀ b o,X.s₀.heap.get? b=some o->b≠X.env.locals:=λb o q=>xQ (yb (Heap.lt_size q) I.ok.above)
 have nex:∀ b o,X.s₀.heap.get? b=some o->b ∉ ex:=λb o q z=>by rw[h0 b z] at q;cases q
 have cellK:∀ x c v,X.env.cells.lookup x=some c->s.heap.IsCell c v->h'.IsCell c v:=λx c v e ⟨o,ho,hd⟩=>by
  obtain⟨sl,z⟩:=st.slot c o ho (λz=>hc c z x c e rfl)
  exact⟨_,z,hd⟩
 refine⟨I.ok,I.os,I.bare,⟨λb o e n hb hx=>?_,λb o e n hb hx=>?_,I.base.free,λb o e hx=>?_,I.base.tups,I.base.frzs,I.base.tbls⟩,?_,λy c e=>?_,I.free,I.freeC,λp hp'=>?_,hok,I.len⟩
 ·exact st.keep b o (I.base.keep b o e n hb hx) (nex b o e) (λz=>(sub b z).elim (nL b o e) hb)
 ·obtain⟨sl,e1⟩:=I.base.slot b o e n hb hx
  obtain⟨sl',e2⟩:=st.slot b _ e1 (nex b o e)
  exact⟨sl',e2⟩
 ·obtain⟨o',e1⟩:=I.base.there b o e hx
  exact st.there b o' e1
 ·obtain⟨m,⟨o,es,ep,ho,r⟩,hl⟩:=I.loc
  obtain⟨sl,z⟩:=st.slot _ o ho (λz=>hL _ z rfl)
  refine⟨m,⟨_,es,ep,z,r⟩,λj y v' e1 e2 e3=>?_⟩
  obtain⟨u',r',q⟩:=hl j y v' e1 e2 e3
  refine⟨u',r',?_⟩
  rcases q with q|⟨k,c,e,z⟩
  ·exact .inl q
  ·exact .inr ⟨k,c,e,cellK y c _ e z⟩
 ·obtain⟨w',z⟩:=I.cell y c e
  exact⟨w',cellK y c _ e z⟩
 ·obtain⟨e,n,ne,nf,d⟩:=I.pin p hp'
  exact⟨st.keep _ _ e (λz=>hp _ z p hp' rfl) (λz=>(sub _ z).elim ne nf),n,ne,nf,d⟩
end
end My
end
section
open PySem PySem.Spec PyProof.Rows L2
namespace My
open Exc
def subE(x c:Str):Bool:=x==c||c=="MotifError"
structure ErrsK(K:xK)(mg:Str->Option Value)(es:List Str):Prop where
 cls:∀ x∈es,∃ C N bm,ErrK K mg x C N bm
 sub:∀ x∈es,∀ y∈es,∀ C C',nsIn K mainGlobals x=some (some (.ref C))->nsIn K mainGlobals y=some (some (.ref C'))->yr K C (.ref C')=some (subE x y)
theorem ErrsK.has{K:xK}{mg:Str->Option Value}{es:List Str}(k:ErrsK K mg es){x y:Str}{C C' N N':Addr}{bm bm':List Value}(hx:x∈es)(hy:y∈es)(a:ErrK K mg x C N bm)(b:ErrK K mg y C' N' bm'):(Value.ref C::bm).contains (.ref C')=subE x y:=by
 have h:=k.sub x hx y hy C C' a.ns b.ns
 obtain⟨nm,q,bs,sn,sub,ab,col,dd,k0,k1,k2,k3,k5,lk⟩:=a.obj
 unfold yr zL at h
 rw[lk] at h
 simp only[zn,List.isEmpty_cons,Bool.false_eq_true,if_false,Option.some.injEq] at h
 exact h
structure Held(X:Cx)(pins:List (Addr × Obj))(H:Hp)(s:Shared)(e C:Addr)(od:Option Addr)(T:Addr):Prop where
 ex:ExAt s.heap e C od T .none
 He:H e=none
 HT:H T=none
 e0:X.s₀.heap.get? e=none
 T0:X.s₀.heap.get? T=none
 eP:∀ p∈X.pn++pins,p.1≠e
 TP:∀ p∈X.pn++pins,p.1≠T
section
variable {X:Cx}{pins:List (Addr × Obj)}{σ:L2.St}{H:Hp}{s:Shared}
theorem eB{b:Addr}{o:Obj}{vs:Array Value}(I:Inv X pins σ H s)(h:s.heap.get? b=some o)(hd:o.data= .fields vs):b≠X.env.locals:=λz=>by
 obtain⟨m,⟨o',es,ep,ho,hd',_⟩,_⟩:=I.loc
 rw[<- z,h] at ho;cases ho
 rw[hd] at hd';cases hd'
theorem fld_cell{b:Addr}{o:Obj}{vs:Array Value}(I:Inv X pins σ H s)(h:s.heap.get? b=some o)(hd:o.data= .fields vs):∀ x c,X.env.cells.lookup x=some c->c≠b:=λx c q z=>by
 obtain⟨v,o',ho,hd'⟩:=I.cell x c q
 rw[z,h] at ho;cases ho
 rw[hd] at hd';cases hd'
theorem Held.flight{e C T:Addr}{od:Option Addr}{h':Heap}(I:Inv X pins σ H s)(k:Held X pins H s e C od T)(hx:ExAt h' e C od T .none)(st:Stay [] [T] s.heap h'):Inv X pins σ H {s with heap:=h'}/\Held X pins H {s with heap:=h'} e C od T:=by
 obtain⟨sl,vs,oT,ts,he,h1,hTe,hT,hdT,h3⟩:=k.ex
 refine⟨Inv.stay I st (λb hb=>by cases hb) (λb hb=>?_) (λb hb=>?_) (λb hb=>?_) (λb hb=>?_) (λb hb=>?_),⟨hx,k.He,k.HT,k.e0,k.T0,k.eP,k.TP⟩⟩<;>rw[xL.mp hb]
 ·exact k.HT
 ·exact k.T0
 ·exact eB I hT hdT
 ·exact fld_cell I hT hdT
 ·exact k.TP
theorem XO.ok{P:Program}{w:World}{h:Heap}{e C:Addr}{od:Option Addr}{vs:Array Value}{sl:Array (Option Value)}(q:h.get? e=some ⟨.ref C,od,.fields vs,sl⟩):ObjOk P w H h e (XO e C od):=
 ⟨⟨vs,sl,q⟩,⟨_,q⟩,λh1 h2 ⟨vs,sl,q⟩ k=>⟨vs,sl,k _ q⟩⟩
end
theorem RepS.unset{K:xK}{B F H:Hp}{z:SD}{s:L2.St}{i:Nat}(h:RepS K B F H z s):RepS K B F H (z.set i none) (s.set i none):=by
 have get:∀ {j:Nat} {x:D},(z.set i none)[j]?=some (some x)->j≠i/\z[j]?=some (some x):=λ{j x} e=>by
  by_cases hj:i=j
  ·subst hj
   rw[yS] at e
   simp at e
  ·rw[xY hj] at e
   exact⟨λz=>hj z.symm,e⟩
 refine⟨by rw[yy,yy];exact h.len,λj x e nx=>?_,λj ds e=>?_,λj k dj dk a e1 e2 e3 e4=>?_⟩
 ·obtain⟨hj,e⟩:=get e
  rw[xY (λz=>hj z.symm)];exact h.val j x e nx
 ·obtain⟨hj,e⟩:=get e
  rw[xY (λz=>hj z.symm)];exact h.own j ds e
 ·obtain⟨hj,e1⟩:=get e1
  obtain⟨hk,e2⟩:=get e2
  rw[xY (λz=>hj z.symm)] at e3
  rw[xY (λz=>hk z.symm)] at e4
  exact h.apart j k dj dk a e1 e2 e3 e4
abbrev TH:=Str->List (Str × D)->TSD
def DH(X:Cx)[J:Jx](hs:List ExceptHandler)(th:TH):Prop:=
 ∀ (pins:List (Addr × Obj)) (s:Shared) (σ:L2.St) (H:Hp) (D:Ends) (e C:Addr) (od:Option Addr) (T:Addr) (x:Str) (fs:List (Str × My.D)) (B F0 F:Hp) (z:SD) (ED:EndsD),Inv X pins σ H s->Held X pins H s e C od T->Kept B F0 F H->RepS X.K B F H z σ->ErrD X.K F x fs C od->
  th x fs ED z->EndsOk X.K B F0 ED D->wpAny (model X.prog X.w) X.A (handleBy (.ref e) X.env hs) (SP X pins D) X.xe s
structure WDH(X:Cx)[Jx](hs:List ExceptHandler)(th:TH):Prop where
 out:DH X hs th
section
variable {X:Cx}[J:Jx]{es:List Str}{c:Str}{b₀:Stmt}{suite:List Stmt}{pos pc:Pos}{rest:List ExceptHandler}{t:TSD}{r:TH}
def rM:TH:=λ_ _ _ _=>False
def rN(es:List Str)(c:Str)(t:TSD)(r:TH):TH:=λx fs E z=>(x∈es/\c∈es)/\if subE x c=true then t E z else r x fs E z
def dHas(es:List Str)(c:Str)(i:Nat)(t:TSD)(r:TH):TH:=λx fs E z=>(x∈es/\c∈es)/\if subE x c=true then t {nx:=λz'=>E.nx (z'.set i none),rt:=E.rt,bk:=λz'=>E.bk (z'.set i none),ct:=λz'=>E.ct (z'.set i none)} (z.set i (some (.exc x fs))) else r x fs E z
theorem rO:WDH X [] rM:=⟨λ_ _ _ _ _ _ _ _ _ _ _ _ _ _ _ _ _ _ _ _ _ h _=>h.elim⟩
theorem rP(hE:ErrsK X.K X.mg es)(hs:∀ e,WDSs (X.held e) (b₀::suite) t)(hr:WDH X rest r)(hg:Gl X c:=by rfl)(hdb:zND c:=by decide):WDH X (.ExceptHandler (some (.Name c pc)) none (b₀::suite) pos::rest) (rN es c t r):=⟨by
 have hs:=λe=>(hs e).out
 have hr:=hr.out
 intro pins s σ H D e C od T x fs B F0 F z ED I hd k rs er ht ee
 obtain⟨⟨hxe,hce⟩,ht⟩:=ht
 obtain⟨Cc,Nc,bmc,kc⟩:=hE.cls c hce
 obtain⟨Cx',Nx,bmx,kx⟩:=hE.cls x hxe
 obtain rfl:Cx'=C:=by have h1:=kx.ns;rw[er.1] at h1;cases h1;rfl
 have hb:=hE.has hxe hce kx kc
 obtain⟨nm,q,bs,sn,sub,ab,col,dd,k0,k1,k2,k3,k5,lk⟩:=kx.obj
 obtain⟨nm',q',bs',sn',sub',ab',col',dd',k0',k1',k2',k3',k5',lk'⟩:=kc.obj
 refine wpAny_handleBy_cons (codeAny_handlers_test (bJ (X:=X.held e) (Inv.held I) hg kc.mg ?_ hdb)) (by intro q;cases q)
 obtain⟨sl,vs,oT,ts,he,h1,hTe,hT,hdT,h3⟩:=id hd.ex
 refine lD (g:=s.gens) (d:=s.drawn) (t:=s.toks) (os:=s.os) (I.kIn _ _ lk) (I.kIn _ _ lk') he rfl kc.base hb ?_
 cases hsub:subE x c with
 |true=>
  rw[hsub,if_pos rfl] at ht
  refine codeAny_handlers_suite (flight_none hd.ex λh' hx' st'=>?_)
  obtain⟨I',_⟩:=Held.flight I hd hx' st'
  exact wpAny_mono (hs e pins _ σ H D (Inv.held I') ⟨B,F0,F,z,k,rs,ED,ht,ee⟩) (λf s1 q=>SP.unheld I.ok q) λ_ _ z=>False.elim z
 |false=>
  rw[hsub,if_neg xS] at ht
  exact hr pins s σ H D e Cx' od T x fs B F0 F z ED I hd k rs er ht ee⟩
theorem rQ(i:Nat){n:Str}(hE:ErrsK X.K X.mg es)(hN:X.N.Nodup)(hs:∀ e,WDSs (X.held e) (b₀::suite) t)(hr:WDH X rest r)(hg:Gl X c:=by rfl)(hi:X.N[i]?=some n:=by rfl)(hk:X.env.scope.names.lookup n=some .local:=by rfl)(hdb:zND c:=by decide):WDH X (.ExceptHandler (some (.Name c pc)) (some n) (b₀::suite) pos::rest) (dHas es c i t r):=⟨by
 have hs:=λe=>(hs e).out
 have hr:=hr.out
 intro pins s σ H D e C od T x fs B F0 F z ED I hd k rs er ht ee
 obtain⟨⟨hxe,hce⟩,ht⟩:=ht
 obtain⟨Cc,Nc,bmc,kc⟩:=hE.cls c hce
 obtain⟨Cx',Nx,bmx,kx⟩:=hE.cls x hxe
 obtain rfl:Cx'=C:=by have h1:=kx.ns;rw[er.1] at h1;cases h1;rfl
 have hb:=hE.has hxe hce kx kc
 obtain⟨nm,q,bs,sn,sub,ab,col,dd,k0,k1,k2,k3,k5,lk⟩:=kx.obj
 obtain⟨nm',q',bs',sn',sub',ab',col',dd',k0',k1',k2',k3',k5',lk'⟩:=kc.obj
 refine wpAny_handleBy_cons (codeAny_handlers_test (bJ (X:=X.held e) (Inv.held I) hg kc.mg ?_ hdb)) (by intro q;cases q)
 obtain⟨sl,vs,oT,ts,he,h1,hTe,hT,hdT,h3⟩:=id hd.ex
 refine lD (g:=s.gens) (d:=s.drawn) (t:=s.toks) (os:=s.os) (I.kIn _ _ lk) (I.kIn _ _ lk') he rfl kc.base hb ?_
 cases hsub:subE x c with
 |true=>
  rw[hsub,if_pos rfl] at ht
  refine codeAny_handlers_suite_as (flight_none hd.ex λh' hx' st'=>?_)
  obtain⟨I',hd'⟩:=Held.flight I hd hx' st'
  obtain⟨sl',vs',_,_,he',_⟩:=id hx'
  have I2:Inv X pins σ (upd H e (XO e Cx' od)) {s with heap:=h'}:=Inv.adopt I' hd.He (XO.ok he') hd.e0 (eB I' he' rfl) (fld_cell I' he' rfl) hd.eP
  refine cY (X:=X.held e) (v:= .ref e) (Inv.held I2) hN hi (.inl hk) rfl (λs2 I3=>?_) (.inr hk)
  have g:=Grow.new k.fh hd.He (XO e Cx' od)
  obtain⟨ns,ws,rf,dct⟩:=er
  have rep:Rep X.K (upd F e (XO e Cx' od)) (.exc x fs) (.ref e):=rep_exc.mpr ⟨e,Cx',od,ws,rfl,ns,av,RepF.mono g.ff fs ws rf,dct.imp id λ⟨b,q1,q2⟩=>⟨b,q1,g.ff _ _ q2⟩⟩
  have ee':EndsOk X.K B F0 {nx:=λz'=>ED.nx (z'.set i none),rt:=ED.rt,bk:=λz'=>ED.bk (z'.set i none),ct:=λz'=>ED.ct (z'.set i none)} {nx:=λσ' H'=>D.nx (σ'.set i none) H',rt:=D.rt,bk:=λσ' H'=>D.bk (σ'.set i none) H',ct:=λσ' H'=>D.ct (σ'.set i none) H'}:=
   ⟨λz' s' F' H' k hz r=>ee.nx _ _ F' H' k hz (RepS.unset r),ee.rt,λz' s' F' H' k hz r=>ee.bk _ _ F' H' k hz (RepS.unset r),λz' s' F' H' k hz r=>ee.ct _ _ F' H' k hz (RepS.unset r)⟩
  refine wpAny_mono (hs e pins s2 _ _ _ I3 ⟨B,F0,_,_,k.grow g,(rs.grow g).set rep,_,ht,ee'⟩) (λf s3 q=>?_) λ_ _ z=>False.elim z
  have q':=SP.unheld I.ok q
  cases f with
  |next=>obtain⟨σ',H',I4,q4⟩:=q';exact eA I4 hN hi hk λs5 I5=>⟨_,H',I5,q4⟩
  |brk=>obtain⟨σ',H',I4,q4⟩:=q';exact eA I4 hN hi hk λs5 I5=>⟨_,H',I5,q4⟩
  |cont=>obtain⟨σ',H',I4,q4⟩:=q';exact eA I4 hN hi hk λs5 I5=>⟨_,H',I5,q4⟩
  |ret u=>obtain⟨v,σ',H',I4,rv,q4⟩:=q';exact eA I4 hN hi hk λs5 I5=>⟨v,_,H',I5,rv,q4⟩
 |false=>
  rw[hsub,if_neg xS] at ht
  exact hr pins s σ H D e Cx' od T x fs B F0 F z ED I hd k rs er ht ee⟩
end
end My
end
section
open PySem PySem.Spec PyProof.Rows L2
namespace My
open Exc
abbrev _root_.L2.Cx.tried(X:Cx)(pn:List (Addr × Obj))(xe:Value->Shared->Prop):Cx:={X with pn:=pn,xe:=xe}
section
variable {X:Cx}{pn pins:List (Addr × Obj)}{xe:Value->Shared->Prop}{σ:L2.St}{H:Hp}{s:Shared}
theorem Cx.Ok.tried(ok:X.Ok):(X.tried pn xe).Ok:=⟨ok.mod,ok.kind,ok.glob,ok.blt,ok.above,ok.inj,ok.has,ok.cab,ok.hd,ok.frames,ok.stk,ok.exf,ok.bs,ok.bsz,ok.noex,ok.exfs,ok.funs,ok.frf⟩
theorem Inv.tried(I:Inv X pins σ H s):Inv (X.tried (X.pn++pins) xe) [] σ H s:=⟨Cx.Ok.tried I.ok,I.os,I.bare,I.base,I.loc,I.cell,I.free,I.freeC,λp hp=>I.pin p (by simpa using hp),I.hok,I.len⟩
theorem Inv.untried(ok:X.Ok)(I:Inv (X.tried (X.pn++pins) xe) [] σ H s):Inv X pins σ H s:=⟨ok,I.os,I.bare,I.base,I.loc,I.cell,I.free,I.freeC,λp hp=>I.pin p (by simpa using hp),I.hok,I.len⟩
theorem SP.untried{D:Ends}{f:Flow}{s':Shared}(ok:X.Ok)(h:SP (X.tried (X.pn++pins) xe) [] D f s'):SP X pins D f s':=by
 cases f with
 |next=>obtain⟨σ',H',I,q⟩:=h;exact⟨σ',H',Inv.untried ok I,q⟩
 |brk=>obtain⟨σ',H',I,q⟩:=h;exact⟨σ',H',Inv.untried ok I,q⟩
 |cont=>obtain⟨σ',H',I,q⟩:=h;exact⟨σ',H',Inv.untried ok I,q⟩
 |ret u=>obtain⟨v,σ',H',I,r,q⟩:=h;exact⟨v,σ',H',Inv.untried ok I,r,q⟩
end
theorem Kept.re{J:Jx}{B F0 F H:Hp}{RX:SD->XD}(k:@Kept J B F0 F H):@Kept ⟨B,F0,RX⟩ B F0 F H:=@Kept.mk ⟨B,F0,RX⟩ B F0 F H k.bh k.fh k.f0 k.out rfl (Same.refl F0) (λ_ h _=>h)
theorem Kept.un{J:Jx}{B F0 F H F' H':Hp}{RX:SD->XD}(k:@Kept J B F0 F H)(k':@Kept ⟨B,F0,RX⟩ B F0 F' H'):@Kept J B F0 F' H':=by
 obtain⟨a,b,c,d,_,_,_⟩:=k'
 exact @Kept.mk J B F0 F' H' a b c d k.eb k.jf k.jo
def dTry(tb:Jx->TSD)(th:TH):TSD:=λE z=>∃ RX:SD->XD,(∀ J:Jx,J.RX=RX->tb J E z)/\∀ z' x fs,RX z' x fs->th x fs E z'
theorem rR{X:Cx}[J:Jx]{body:List Stmt}{h₀:ExceptHandler}{hs:List ExceptHandler}{pos:Pos}{tb:Jx->TSD}{th:TH}
  (hb:∀ (pn:List (Addr × Obj)) (xe:Value->Shared->Prop) (J':Jx),PassesOwn (model X.prog X.w) X.A X.env xe->@XOk (X.tried pn xe) J'->@DSs (X.tried pn xe) J' body (tb J'))
  (hh:DH X (h₀::hs) th) (hex:X.ex=[]:=by rfl) (hstk:X.stack=X.env::X.outer:=by rfl) (hfr:X.env.frame=some X.env.locals:=by rfl):DS X (.Try body (h₀::hs) [] [] pos) (dTry tb th):=by
 intro pins s σ H D I h
 obtain⟨B,F0,F,z,k,rs,ED,⟨RX,h1,h2⟩,ee⟩:=h
 have ok:=I.ok
 have hx:@XOk (X.tried (X.pn++pins) (λe s₁=>wpAny (model X.prog X.w) X.A (noteFrame e X.env) (λ_ s₂=>wpAny (model X.prog X.w) X.A (setFlight e none) (λ_ s₃=>wpAny (model X.prog X.w) X.A (handleBy e X.env (h₀::hs)) (SP X pins D) X.xe s₃) X.xe s₂) X.xe s₁)) ⟨B,F0,RX⟩:=by
  intro σ' z' F' H' s' e C od x fs I1 kk rr hR er hd
  obtain⟨He,e0,eP,hd⟩:=hd
  have I2:Inv X pins σ' H' s':=Inv.untried ok I1
  have stk:s'.heap.FunFrames X.base (X.env::X.outer):=by rw[<- hstk];exact I2.stack
  have frm:X.A.frames=some (X.env::X.outer):=by rw[<- hstk];exact I2.ok.frames
  have k2:Kept B F0 F' H':=Kept.un k kk
  -- the error is noted here,then handled
  have fin:∀ (h2':Heap) (T2:Addr) (ex:List Addr),(∀ b∈ex,H' b=none/\X.s₀.heap.get? b=none/\(∃ o vs,s'.heap.get? b=some o/\o.data= .fields vs)/\∀ p∈X.pn++pins,p.1≠b)->ExAt h2' e C od T2 (rawInt X.env.locals)->s'.heap.objs.size<=T2->Stay (frs (X.env::X.outer)) ex s'.heap h2'->
    wpAny (model X.prog X.w) X.A (setFlight (.ref e) none) (λ_ s₃=>wpAny (model X.prog X.w) X.A (handleBy (.ref e) X.env (h₀::hs)) (SP X pins D) X.xe s₃) X.xe {s' with heap:=h2'}:=by
   intro h2' T2 ex hex' hx2 fr2 st2
   have nT2:s'.heap.get? T2=none:=Heap.get?_none_of_le fr2
   have I3:Inv X pins σ' H' {s' with heap:=h2'}:=Inv.stay I2 st2 (λb hb=>by rw[hstk];exact hb) (λb hb=>(hex' b hb).1) (λb hb=>(hex' b hb).2.1) (λb hb=>let ⟨_,_,q1,q2⟩:=(hex' b hb).2.2.1;eB I2 q1 q2) (λb hb=>let ⟨_,_,q1,q2⟩:=(hex' b hb).2.2.1;fld_cell I2 q1 q2) (λb hb=>(hex' b hb).2.2.2)
   obtain⟨sl,vs,oT,ts,he,g1,hTe,hT,hdT,g3⟩:=id hx2
   have HT2:H' T2=none:=eu I2.hok nT2
   have T0:X.s₀.heap.get? T2=none:=bV I2 hex nT2
   have TP:∀ p∈X.pn++pins,p.1≠T2:=λp hp z=>by
    have:=(I2.pin p hp).1
    rw[z,nT2] at this;cases this
   refine flight_none (s:={s' with heap:=h2'}) hx2 λh3 hx3 st3=>?_
   have I4:Inv X pins σ' H' {s' with heap:=h3}:=Inv.stay (s:={s' with heap:=h2'}) I3 st3 (λb hb=>by cases hb) (λb hb=>by rw[xL.mp hb];exact HT2) (λb hb=>by rw[xL.mp hb];exact T0) (λb hb=>by rw[xL.mp hb];exact eB I3 hT hdT) (λb hb=>by rw[xL.mp hb];exact fld_cell I3 hT hdT) (λb hb=>by rw[xL.mp hb];exact TP)
   exact hh pins _ σ' H' D e C od T2 x fs B F0 F' z' ED I4 ⟨hx3,He,HT2,e0,T0,eP,TP⟩ k2 rr er (h2 z' x fs hR) ee
  rcases hd with⟨sl,vs,he,hv⟩|⟨T,hx1,T0,HT,TP⟩
  ·refine kD frm stk hfr he hv λh2' T2 hx2 fr2 st2=>fin h2' T2 [e] (λb hb=>?_) hx2 fr2 st2
   rw[xL.mp hb]
   exact⟨He,e0,⟨_,_,he,rfl⟩,eP⟩
  ·obtain⟨sl,vs,oT,ts,he,g1,hTe,hT,hdT,g3⟩:=id hx1
   refine kE frm stk hfr hx1 λh2' T2 hx2 fr2 st2=>fin h2' T2 [T,e] (λb hb=>?_) hx2 fr2 st2
   rcases xP.mp hb with z|z
   ·rw[z];exact⟨HT,T0,⟨_,_,hT,hdT⟩,TP⟩
   ·rw[xL.mp z];exact⟨He,e0,⟨_,_,he,rfl⟩,eP⟩
 refine wpAny_Try_except (wpAny_mono (hb (X.pn++pins) _ ⟨B,F0,RX⟩ PassesOwn.looking hx [] s σ H D (Inv.tried I) ?_) (λf s1 q=>?_) λe s1 q=>q)
 ·refine⟨B,F0,F,z,Kept.re k,rs,ED,h1 ⟨B,F0,RX⟩ rfl,@EndsOk.mk ⟨B,F0,RX⟩ _ _ _ _ _ (λz' s' F' H' k'=>ee.nx z' s' F' H' (Kept.un k k')) (λd v F' H' k'=>ee.rt d v F' H' (Kept.un k k')) (λz' s' F' H' k'=>ee.bk z' s' F' H' (Kept.un k k')) (λz' s' F' H' k'=>ee.ct z' s' F' H' (Kept.un k k'))⟩
 ·have q:=SP.untried ok q
  cases f with
  |next=>exact wpAny_execs_nil q
  |ret v=>exact q
  |brk=>exact q
  |cont=>exact q
def ErrG(K:xK)(f y:Str):Prop:=∃ C cd,ErrA K y C cd/\xO K (.ref C) "__getattribute__"=some (some (.builtin "BaseException.__getattribute__"))/\xO K (.ref C) "__getattr__"=some none/\xO K (.ref C) f=some none
def rS(ys:List Str)(f:Str)(te:TD):TD:=λz R=>te z λd=>match d with| .exc y fs=>y∈ys/\∃ d,fs.lookup f=some d/\R d|_=>False
theorem rT{X:Cx}[J:Jx]{e:Expr}{te:TD}{pos:Pos}{ys:List Str}{f:Str}(hG:∀ y∈ys,ErrG X.K f y)(he:WDE X e te)(hb:attributeBase e f X.env (eval e X.env)=eval e X.env:=by rfl):WDE X (.Attribute e f pos) (rS ys f te):=⟨by
 have he:=he.out
 intro pins s σ H Q I h
 obtain⟨B,F,z,kf,rs,R,h1,h2⟩:=h
 refine attr_of hb (thn (he pins s σ H (λv H1=>∃ F1 x fs,Grow F H F1 H1/\Rep X.K F1 (.exc x fs) v/\x∈ys/\∃ d,fs.lookup f=some d/\R d) I ⟨B,F,z,kf,rs,_,h1,λd v F1 H1 g1 hx rx=>?_⟩) λu s1 ⟨v,H1,I1,rv,F1,x,fs,g1,rx,hy,d,hl,hR⟩=>?_)
 ·split at hx
  ·obtain⟨hy,d,hl,hR⟩:=hx
   exact⟨F1,_,_,g1,rx,hy,d,hl,hR⟩
  ·exact hx.elim
 ·obtain⟨a,C,od,vs,rfl,hn,hXO,rf,dct⟩:=rep_exc.mp rx
  obtain rfl:u=Value.ref a:=rv
  obtain⟨C',cd,ea,ga,gb,hf⟩:=hG x hy
  have hn':=ea.ns
  rw[hn] at hn'
  cases hn'
  obtain⟨vs',sl,hget⟩:=(I1.hok a _ (g1.fh _ _ hXO)).1
  obtain⟨w',hw,rw'⟩:=rf.look hl
  rcases dct with⟨_,e2⟩|⟨b,rfl,hb'⟩
  ·rw[e2] at hw;cases hw
  ·obtain⟨mA,hns,rel⟩:=(show ObjOk X.prog X.w H1 s1.heap b (.xd vs) from I1.hok b _ (g1.fh _ _ hb'))
   obtain⟨uv,hu,ru⟩:=RelO.some_of (v:=w') (o:=mA f) (by rw[<- hw];exact rel f)
   obtain⟨odo,ho,look⟩:=jS hns
   have hasD:hasDictIn X.K C=true:=by unfold hasDictIn;rw[ea.cl];exact ea.hd
   exact qu (K:=X.K) (ox:=⟨.ref C,some b,.fields vs',sl⟩) (od:=odo) I1.kIn ⟨hget,rfl,rfl,ho⟩ ea.cl ea.mro ga gb (findObj_own hasD hf rfl (by rw[look,hu])) (jV ru) λtk=>⟨w',H1,I1.tok tk,ru,h2 d w' F1 H1 g1 hR rw'⟩⟩
theorem lF{K:xK}:tailIn K veLine veLine=true:=by
 unfold tailIn
 rfl
theorem lG{K:xK}{N:Addr}{c:Value}{d:Option Addr}{es:Array DictEntry}{ep:Nat}{sl:Array (Option Value)}(l:K.lookup N=some ⟨c,d,.dict es ep,sl⟩)(h:es.toList.all (λe=>match e.key with| .str _ _=>true|_=>false)=true):nsOkIn K N=true:=by
 unfold nsOkIn
 rw[l]
 dsimp only
 rw[<- Al]
 exact h
theorem rV{K:xK}{M N:Addr}{c0:Value}{dd:Option Addr}{cd:ClassData}{sl:Array (Option Value)}(l:K.lookup M=some ⟨c0,dd,.cls cd,sl⟩)(hn:cd.ns=N)(h1:nsOkIn K N=true)(h2:nsIn K N "__init__"=some none):tailIn K veLine (.ref M::veLine)=true:=by
 unfold tailIn
 subst hn
 dsimp only
 rw[l]
 dsimp only
 rw[h1,h2,lF]
 simp
theorem rW{K:xK}{C:Addr}:kitOne K (.ref C) (.ref C)=some true:=by
 unfold kitOne
 rw[if_pos (beq_self_eq_true _)]
def rX(S:SpX):SpD:=λds R=>S ds R λ_ _=>False
theorem CalX.no{P:Program}{w:World}{K:xK}{mg:Str->Option Value}{base:Heap}{n:Nat}{x:Str}{ps:List Str}{S:SpX}(C:CalX P w K mg base n x ps S):CalD P w K mg base n x ps (rX S):=by
 obtain⟨f,fd,F,hb,hk,hm⟩:=C
 refine⟨f,fd,F.imp λvs H Q E h=>?_,hb,hk,hm⟩
 obtain⟨F,ds,fh,rs,R,h,q⟩:=h
 exact⟨F,ds,fh,rs,R,_,h,q,λ_ _ _ _ _ _ _ z=>z.elim⟩
end My
end
section
open PySem PySem.Spec PyProof.Rows L2
namespace My
def repS(x:Str)(n:Nat):Str:=⟨(yl n x.cps.toList).flatten.toArray⟩
theorem lH{α:Type}(l:List α):∀ m:Nat,(xR m).filterMap (λk=>l[k]?)=l.take m
 |0=>by simp
 |m+1=>by
  rw[Am,List.filterMap_append,lH l m,An]
  cases h:l[m]?<;>simp[h]
theorem rY(lo hi:Option Int)(n:Nat):Builtin.Str.strSliceIndices lo hi 1 n=(xR (HT.sIx n n hi - HT.sIx n 0 lo)).map λk=>HT.sIx n 0 lo+k:=by
 have clip:∀ (i:Int) (d:Nat),max 0 (min (if i<0 then i+(n:Int) else i) (n:Int))=((HT.sIx n d (some i):Nat):Int):=by
  intro i d
  show max 0 (min (if i<0 then i+(n:Int) else i) (n:Int))=(((if i<0 then(i+(n:Int)).toNat else min i.toNat n):Nat):Int)
  by_cases h:i<0
  ·rw[if_pos h,if_pos h];omega
  ·rw[if_neg h,if_neg h];omega
 have h1:Builtin.Str.strSliceIndices lo hi 1 n=sliceRange ((HT.sIx n 0 lo:Nat):Int) ((HT.sIx n n hi:Nat):Int) 1:=by
  unfold Builtin.Str.strSliceIndices
  simp only[show(1:Int)>0 by decide,if_true]
  cases lo with
  |none=>cases hi with
   |none=>rfl
   |some j=>rw[<- clip j n];rfl
  |some i=>cases hi with
   |none=>rw[<- clip i 0];rfl
   |some j=>rw[<- clip i 0,<- clip j n]
 rw[h1]
 unfold sliceRange
 simp only[show(1:Int)>0 by decide,if_true]
 have e3:(if((HT.sIx n 0 lo:Nat):Int)<((HT.sIx n n hi:Nat):Int) then(((HT.sIx n n hi:Nat):Int) - ((HT.sIx n 0 lo:Nat):Int)+1 - 1) / 1 else 0).toNat=HT.sIx n n hi - HT.sIx n 0 lo:=by
  split<;>omega
 rw[e3]
 apply List.map_congr_left
 intro k _
 omega
theorem slice_cps(y:Str)(lo hi:Option Int):Txt.slice y lo hi=⟨((y.cps.toList.drop (HT.sIx y.length 0 lo)).take (HT.sIx y.length y.length hi - HT.sIx y.length 0 lo)).toArray⟩:=by
 have la:HT.sIx y.length 0 lo<=y.length:=HT.sIx_le _ _ (yj _) lo
 have lb:HT.sIx y.length y.length hi<=y.length:=HT.sIx_le _ _ (xM _) hi
 unfold Txt.slice
 rw[rY]
 split
 ·rename_i h
  have hl:HT.sIx y.length y.length hi - HT.sIx y.length 0 lo=y.length:=by simpa using h
  have ha:HT.sIx y.length 0 lo=0\/y.length=0:=by omega
  rw[hl]
  obtain⟨cp⟩:=y
  have e:(zM (HT.sIx (Str.mk cp).length 0 lo) cp.toList)=cp.toList:=by
   rcases ha with ha|ha
   ·rw[ha];rfl
   ·have:cp=#[]:=Array.eq_empty_of_size_eq_zero ha
    subst this;simp
  show(⟨cp⟩:Str)=⟨((zM (HT.sIx (Str.mk cp).length 0 lo) cp.toList).take cp.size).toArray⟩
  rw[e,Ao (by simp)]
 ·congr 2
  rw[Ab]
  have:=lH (y.cps.toList.drop (HT.sIx y.length 0 lo)) (HT.sIx y.length y.length hi - HT.sIx y.length 0 lo)
  rw[<- this]
  congr 1
  funext k
  simp
section
variable {X:Cx}[J:Jx]{a b c e:Expr}{ta tb tc te:TD}{pos:Pos}
def xI:RD2:=λx y R=>match x,y with
 | .int i,.int j=>CMul i j/\R (.int (i*j))
 | .str i,.int n=>(-(2 ^ 62)<=n/\n<=1000000/\i.length*n.toNat<=1000000)/\R (.str (repS i n.toNat))
 | .lst xs,.int n=>(-(2 ^ 62)<=n/\n<=1000000/\xs.length*n.toNat<=1000000)/\R (.lst (yl n.toNat xs).flatten)
 |_,_=>False
theorem Reps.rep{K:xK}{F:Hp}{xs:List D}{us:List V}(r:Reps K F xs us):∀ n:Nat,Reps K F (yl n xs).flatten (yl n us).flatten
 |0=>reps_nil.mpr rfl
 |n+1=>by
  rw[zl,zm,zl,zm]
  exact r.append (Reps.rep r n)
theorem rZ:SlR X (λx lo hi H Q=>∃ y,x= .str y/\y.length<=sizeLine/\Q (.str (Txt.slice y lo hi)) H):=by
 intro pins s σ H x v vl vu lo hi sl Q I rx hs pl pu h
 obtain⟨y,rfl,hz,q⟩:=h
 obtain⟨t,rfl⟩:=rx
 have fin:∀ t' k,EP X pins σ Q (.str (Txt.slice y lo hi) t') {s with toks:=k}:=λt' k=>⟨.str _,H,I.tok k,⟨_,rfl⟩,q⟩
 have le:=xU (Txt.slice_le y lo hi) hz
 refine⟨"str",_,PySem.F.slot_str_getitem.lookup,typeIs_str _ _ _,?_⟩
 cases pl with
 |none=>cases pu with
  |none=>exact wpAny_getItem_str_slice (l:=none) (u:=none) (st:=none) hs rfl (post_val_or_str ⟨le,fin⟩)
  |int j tj=>exact wpAny_getItem_str_slice (l:=none) (u:=some (j,tj)) (st:=none) hs rfl (post_val_or_str ⟨le,fin⟩)
 |int i ti=>cases pu with
  |none=>exact wpAny_getItem_str_slice (l:=some (i,ti)) (u:=none) (st:=none) hs rfl (post_val_or_str ⟨le,fin⟩)
  |int j tj=>exact wpAny_getItem_str_slice (l:=some (i,ti)) (u:=some (j,tj)) (st:=none) hs rfl (post_val_or_str ⟨le,fin⟩)
abbrev TDO:=SD->(Option Int->Prop)->Prop
def sd:TDO:=λ_ R=>R none
def se(te:TD):TDO:=λz R=>te z λx=>match x with| .int i=>R (some i)|_=>False
def lO(K:xK)[J:Jx](t:TDO):TO:=λs H Q=>∃ B F z,Kept B J.F0 F H/\RepS K B F H z s/\∃ R:Option Int->Prop,t z R/\∀ o F' H',Grow F H F' H'->R o->Q o H'
abbrev DPO(X:Cx)[Jx](e:Option Expr)(t:TDO):Prop:=PO X e (lO X.K t)
structure WDPO(X:Cx)[Jx](e:Option Expr)(t:TDO):Prop where
 out:DPO X e t
theorem PO.anti{X:Cx}{e:Option Expr}{t t':TO}(h:PO X e t)(a:∀ s H Q,t' s H Q->t s H Q):PO X e t':=λpins s σ H Q I q=>h pins s σ H Q I (a _ _ _ q)
theorem sf:WDPO X none sd:=⟨PO.anti pK λs H Q q=>by
 obtain⟨B,F,z,kf,rs,R,h1,h2⟩:=q
 exact h2 none F H (Grow.refl kf.fh) h1⟩
theorem si(he:WDE X e te):WDPO X (some e) (se te):=⟨have he:=he.out;PO.anti (pL he) λs H Q q=>by
 obtain⟨B,F,z,kf,rs,R,h1,h2⟩:=q
 refine⟨B,F,z,kf,rs,_,h1,λx u F1 H1 g1 hx rx=>?_⟩
 split at hx
 ·exact⟨_,rep_int.mp rx,h2 _ F1 H1 g1 hx⟩
 ·exact hx.elim⟩
def rdSl:D->Option Int->Option Int->(D->Prop)->Prop:=λx lo hi R=>match x with
 | .str y=>y.length<=1000000/\R (.str (Txt.slice y lo hi))
 | .lst xs=>R (.lst (cutD xs lo hi))
 | .rol xs=>R (.lst (cutD xs lo hi))
 | .tup xs=>¬ (HT.sIx xs.length 0 lo=0/\HT.sIx xs.length xs.length hi=xs.length)/\R (.tup (cutD xs lo hi))
 |_=>False
def dSl(ta:TD)(tl th:TDO):TD:=λz R=>ta z λx=>tl z λlo=>th z λhi=>rdSl x lo hi R
theorem sj{lo hi:Option Expr}{tl th:TDO}{p2:Pos}(ha:WDE X a ta)(hl:WDPO X lo tl)(hu:WDPO X hi th):WDE X (.Subscript a (.Slice lo hi none p2) pos) (dSl ta tl th):=⟨have ha:=ha.out;have hl:=hl.out;have hu:=hu.out;(pM (SlR.or rZ (SlR.or pV pN)) ha hl hu).anti λs H Q q=>by
 obtain⟨B,F,z,kf,rs,R,h1,h2⟩:=q
 refine⟨B,F,z,kf,rs,_,h1,λx u F1 H1 g1 hx rx=>?_⟩
 refine⟨B,F1,z,kf.grow g1,rs.grow g1,_,hx,λlo F2 H2 g2 hy=>?_⟩
 refine⟨B,F2,z,(kf.grow g1).grow g2,(rs.grow g1).grow g2,_,hy,λhi F3 H3 g3 hw=>?_⟩
 have g:=g1.trans (g2.trans g3)
 have rx3:=(rx.mono g2.ff).mono g3.ff
 unfold rdSl at hw
 split at hw
 ·exact .inl ⟨_,rep_str.mp rx3,xU hw.1 (by decide),h2 _ _ F3 H3 g hw.2 (rep_str.mpr rfl)⟩
 ·obtain⟨l,vs,rfl,hq,rr⟩:=rep_lst.mp rx3
  refine .inr (.inl ⟨l,vs,rfl,SqL.of (g3.fh _ _ hq),λp hp=>?_⟩)
  exact h2 _ _ _ _ (g.trans (Grow.new g3.fh hp _)) hw (rep_lst.mpr ⟨p,_,rfl,av,(rr.cut _ _).mono (aK (g3.fh.free hp) _)⟩)
 ·obtain⟨l,vs,rfl,hq,rr⟩:=rep_rol.mp rx3
  refine .inr (.inl ⟨l,vs,rfl,g3.fh.seq hq,λp hp=>?_⟩)
  exact h2 _ _ _ _ (g.trans (Grow.new g3.fh hp _)) hw (rep_lst.mpr ⟨p,_,rfl,av,(rr.cut _ _).mono (aK (g3.fh.free hp) _)⟩)
 ·obtain⟨l,vs,rfl,hq,rr⟩:=rep_tup_mp rx3
  refine .inr (.inr ⟨l,vs,rfl,g3.fh.tup hq,by rw[rr.length];exact hw.1,λp hp=>?_⟩)
  exact h2 _ _ _ _ (g.trans (Grow.new g3.fh hp _)) hw.2 (rep_tupS.mpr ⟨p,_,rfl,av,(rr.cut _ _).mono (aK (g3.fh.free hp) _)⟩)
 ·exact hw.elim⟩
def rdIn(neg:Bool):RD2:=λx y R=>match x,y with
 | .str i,.str j=>R (.bl (if neg then !(!(Builtin.Str.occurrences j i 0 j.length 1).isEmpty) else !(Builtin.Str.occurrences j i 0 j.length 1).isEmpty))
 |x,.lst ys=>(bx x=true/\ys.all bx=true)/\R (.bl (if neg then !(ys.any λy=>eqF y x) else ys.any λy=>eqF y x))
 |x,.rol ys=>(bx x=true/\ys.all bx=true)/\R (.bl (if neg then !(ys.any λy=>eqF y x) else ys.any λy=>eqF y x))
 |x,.tup ys=>(bx x=true/\ys.all bx=true)/\R (.bl (if neg then !(ys.any λy=>eqF y x) else ys.any λy=>eqF y x))
 |_,_=>False
theorem eD{K:xK}{H:Hp}{x:D}{u:V}(rx:Rep K H x u)(fx:bx x=true):∀ {ys:List D} {vs:List V},Reps K H ys vs->ys.all bx=true->inV u vs=ys.any λy=>eqF y x
 |[],vs,r,_=>by rw[reps_nil.mp r];rfl
 |y::ys,vs,r,f=>by
  obtain⟨v,vr,rfl,r1,r2⟩:=reps_cons.mp r
  rw[zk,ym] at f
  have ih:=eD rx fx r2 f.2
  unfold inV at ih ⊢
  rw[yO,yO,ih,eqV_of r1 rx f.1 fx]
def rInV(K:xK)(neg:Bool):R2:=λx y H Q=>(∃ i j,x= .str i/\y= .str j/\Q (.bl (if neg then !(!(Builtin.Str.occurrences j i 0 j.length 1).isEmpty) else !(Builtin.Str.occurrences j i 0 j.length 1).isEmpty)) H)\/rIn K neg x y H Q
theorem sk{K:xK}{neg:Bool}:aL K (rInV K neg) (rdIn neg):=by
 intro x y u v F H R Q fh h rx ry q
 unfold rdIn at h
 split at h
 ·exact .inl ⟨_,_,rep_str.mp rx,rep_str.mp ry,q _ _ F H (Grow.refl fh) h (rep_bl.mpr rfl)⟩
 ·obtain⟨⟨f1,f2⟩,h⟩:=h
  obtain⟨l,vs,rfl,hq,rr⟩:=rep_lst.mp ry
  exact .inr ⟨l,vs,rfl,.inl (fh.seq (SqL.of hq)),dW rx f1,dX rr f2,q _ _ F H (Grow.refl fh) h (rep_bl.mpr (by rw[eD rx f1 rr f2]))⟩
 ·obtain⟨⟨f1,f2⟩,h⟩:=h
  obtain⟨l,vs,rfl,hq,rr⟩:=rep_rol.mp ry
  exact .inr ⟨l,vs,rfl,.inl (fh.seq hq),dW rx f1,dX rr f2,q _ _ F H (Grow.refl fh) h (rep_bl.mpr (by rw[eD rx f1 rr f2]))⟩
 ·obtain⟨⟨f1,f2⟩,h⟩:=h
  obtain⟨l,vs,rfl,hq,rr⟩:=rep_tup_mp ry
  exact .inr ⟨l,vs,rfl,.inr (fh.tup hq),dW rx f1,dX rr f2,q _ _ F H (Grow.refl fh) h (rep_bl.mpr (by rw[eD rx f1 rr f2]))⟩
 ·exact h.elim
theorem sm:OpR X (compareOp .NotIn) (rInV X.K true):=OpR.or pX pW
end
end My
end
section
open PySem PySem.Spec PyProof.Rows L2
namespace L2
end L2
namespace My
section
variable {X:Cx}[J:Jx]{a b c e:Expr}{ta tb tc te:TD}{pos:Pos}
def cy(x:Str):List D:=x.cps.toList.map λc=>D.str ⟨#[c]⟩
theorem so{x:Str}{k c:Nat}(h:x.cps[k]?=some c):(cy x)[k]?=some (.str ⟨#[c]⟩):=by
 unfold cy
 rw[yn,Array.getElem?_toList,h]
 rfl
theorem lJ(x:Str):(cy x).length=x.length:=by unfold cy;rw[yg];simp[Str.length]
variable {elt iter:Expr}{x:Str}{px:Pos}{scope:Scope}{ti:TD}
end
end My
end
section
open PySem PySem.Spec PyProof.Rows L2
namespace My
section
variable {X:Cx}[J:Jx]{a b c e o:Expr}{es:List Expr}{ta tb tc te to:TD}{t:TDA}{pos:Pos}
abbrev RTx:=Str->List D->(D->Prop)->Prop
def dTx(r:RTx)(to:TD)(t:TDA):TD:=λz R=>to z λx=>match x with| .str y=>t z λds=>r y ds R|_=>False
def MtS(X:Cx)(id:String)(r:RTx):Prop:=∃ rv:V->List V->Hp->VK->Prop,MtR X id rv/\∀ (y:Str) (ds:List D) (vs:List V) (F H:Hp) (R:D->Prop) (Q:VK),Reps X.K F ds vs->r y ds R->(∀ d v,(∀ G,Rep X.K G d v)->R d->Q v H)->rv (.str y) vs H Q
theorem gv{name:Str}{id:String}{r:RTx}{apos cpos:Pos}(slot:Slot "str" name id)(hty:typeOf (.builtin id)=pure (.type "method_descriptor"))(hm:MtS X id r)(ho:DE X o to)(ha:DA X (e::es) t)
  (hbase:attributeBase o name X.env (eval o X.env)=eval o X.env:=by rfl)
  (hfew:zHF X cpos (e::es):=by rfl)
  (hline:(apos.endLine==cpos.line)=true:=by rfl) (hs:zSE X e es:=by rfl) (hplain:zPL X cpos es:=by rfl):
  DE X (.Call (.Attribute o name apos) (e::es) [] cpos) (dTx r to t):=by
 obtain⟨rv,hm,L⟩:=hm
 refine(fV PySem.F.plainAttrs_str slot hty hm ho ha hbase hfew hline hs hplain).anti λs H Q q=>?_
 obtain⟨B,F,z,kf,rs,R,h1,h2⟩:=q
 refine⟨B,F,z,kf,rs,_,h1,λx u F1 H1 g1 hx rx=>?_⟩
 split at hx
 ·rename_i y
  rw[rep_str.mp rx]
  refine⟨rfl,B,F1,z,kf.grow g1,rs.grow g1,_,hx,λds vs F2 H2 g2 hy ry=>?_⟩
  exact L y ds vs F2 H2 R Q ry hy λd v rd hR=>h2 d v F2 H2 (g1.trans g2) hR (rd F2)
 ·exact hx.elim
def rStarts:RTx:=λy ds R=>match ds with|[.str p]=>R (.bl (Txt.startswith y p))|_=>False
theorem ms_starts:MtS X "str.startswith" rStarts:=by
 refine⟨λx vs H Q=>∃ y p,x= .str y/\vs=[.str p]/\Q (.bl (Txt.startswith y p)) H,?_,?_⟩
 ·intro pins s σ H x vs v us Q I rx rv h
  obtain⟨y,p,rfl,rfl,q⟩:=h
  obtain⟨t,rfl⟩:=rx
  obtain⟨u,rfl,t',rfl⟩:=bE rv
  exact SC.startswith ⟨.bl _,H,I,rfl,q⟩
 ·intro y ds vs F H R Q r h q
  unfold rStarts at h
  split at h
  ·obtain⟨v,vr,rfl,h1,h2⟩:=reps_cons.mp r
   rw[reps_nil.mp h2,rep_str.mp h1]
   exact⟨_,_,rfl,rfl,q _ _ (λ_=>rep_bl.mpr rfl) h⟩
  ·exact h.elim
theorem sq{apos cpos:Pos}(ho:WDE X o to)(ha:WDA X [e] t)(hbase:attributeBase o "startswith" X.env (eval o X.env)=eval o X.env:=by rfl)
  (hfew:zHF X cpos [e]:=by rfl)
  (hline:(apos.endLine==cpos.line)=true:=by rfl) (hs:zSE X e []:=by rfl):WDE X (.Call (.Attribute o "startswith" apos) [e] [] cpos) (dTx rStarts to t):=⟨have ho:=ho.out;have ha:=ha.out;gv PySem.F.slot_str_startswith PySem.F.type_str_startswith ms_starts ho ha hbase hfew hline hs⟩
def rEnds:RTx:=λy ds R=>match ds with|[.str p]=>R (.bl (Txt.endswith y p))|_=>False
theorem ms_ends:MtS X "str.endswith" rEnds:=by
 refine⟨λx vs H Q=>∃ y p,x= .str y/\vs=[.str p]/\Q (.bl (Txt.endswith y p)) H,?_,?_⟩
 ·intro pins s σ H x vs v us Q I rx rv h
  obtain⟨y,p,rfl,rfl,q⟩:=h
  obtain⟨t,rfl⟩:=rx
  obtain⟨u,rfl,t',rfl⟩:=bE rv
  exact SC.endswith ⟨.bl _,H,I,rfl,q⟩
 ·intro y ds vs F H R Q r h q
  unfold rEnds at h
  split at h
  ·obtain⟨v,vr,rfl,h1,h2⟩:=reps_cons.mp r
   rw[reps_nil.mp h2,rep_str.mp h1]
   exact⟨_,_,rfl,rfl,q _ _ (λ_=>rep_bl.mpr rfl) h⟩
  ·exact h.elim
theorem sr{apos cpos:Pos}(ho:WDE X o to)(ha:WDA X [e] t)(hbase:attributeBase o "endswith" X.env (eval o X.env)=eval o X.env:=by rfl)
  (hfew:zHF X cpos [e]:=by rfl)
  (hline:(apos.endLine==cpos.line)=true:=by rfl) (hs:zSE X e []:=by rfl):WDE X (.Call (.Attribute o "endswith" apos) [e] [] cpos) (dTx rEnds to t):=⟨have ho:=ho.out;have ha:=ha.out;gv PySem.F.slot_str_endswith PySem.F.type_str_endswith ms_ends ho ha hbase hfew hline hs⟩
def rSIndex:RTx:=λy ds R=>match ds with|[.str p]=>∃ i rest,Builtin.Str.occurrences y p 0 y.length 1=i::rest/\R (.int (i:Nat))|_=>False
theorem ss:MtS X "str.index" rSIndex:=by
 refine⟨λx vs H Q=>∃ y p i rest,x= .str y/\vs=[.str p]/\Builtin.Str.occurrences y p 0 y.length 1=i::rest/\Q (.int (i:Nat)) H,?_,?_⟩
 ·intro pins s σ H x vs v us Q I rx rv h
  obtain⟨y,p,i,rest,rfl,rfl,ho,q⟩:=h
  obtain⟨t,rfl⟩:=rx
  obtain⟨u,rfl,t',rfl⟩:=bE rv
  exact SC.index ho ⟨.int _,H,I.tok _,⟨_,rfl⟩,q⟩
 ·intro y ds vs F H R Q r h q
  unfold rSIndex at h
  split at h
  ·obtain⟨i,rest,ho,h⟩:=h
   obtain⟨v,vr,rfl,h1,h2⟩:=reps_cons.mp r
   rw[reps_nil.mp h2,rep_str.mp h1]
   exact⟨_,_,i,rest,rfl,rfl,ho,q _ _ (λ_=>rep_int.mpr rfl) h⟩
  ·exact h.elim
theorem su{apos cpos:Pos}(ho:WDE X o to)(ha:WDA X [e] t)(hbase:attributeBase o "index" X.env (eval o X.env)=eval o X.env:=by rfl)
  (hfew:zHF X cpos [e]:=by rfl)
  (hline:(apos.endLine==cpos.line)=true:=by rfl) (hs:zSE X e []:=by rfl):WDE X (.Call (.Attribute o "index" apos) [e] [] cpos) (dTx rSIndex to t):=⟨have ho:=ho.out;have ha:=ha.out;gv PySem.F.slot_str_index PySem.F.type_str_index ss ho ha hbase hfew hline hs⟩
theorem Reps.init{K:xK}{F:Hp}:∀ {ds:List D} {vs:List V},Reps K F ds vs->Reps K F ds.dropLast vs.dropLast
 |[],vs,r=>by rw[reps_nil.mp r];exact reps_nil.mpr rfl
 |[d],vs,r=>by
  obtain⟨v,vr,rfl,_,h2⟩:=reps_cons.mp r
  rw[reps_nil.mp h2]
  exact reps_nil.mpr rfl
 |d::d2::ds,vs,r=>by
  obtain⟨v,vr,rfl,h1,h2⟩:=reps_cons.mp r
  obtain⟨v2,vr2,rfl,h3,h4⟩:=reps_cons.mp h2
  rw[Ap,Ap]
  exact reps_cons.mpr ⟨v,_,rfl,h1,Reps.init h2⟩
end
end My
end
section
open PySem PySem.Spec PyProof.Rows L2
namespace My
open Exc
section
variable {K:xK}{H:Hp}
end
section
variable {K:xK}{B F H F' H':Hp}{t:SD}{s:L2.St}
end
section
variable {X:Cx}
variable {a b c:Expr}{ta tb tc:TD}{pos:Pos}
end
section
variable {X:Cx}{a b c e:Expr}{ta tb tc te:TD}{pos:Pos}
variable {tA tB':TDT}{rest:List Expr}
end
section
variable {X:Cx}{a b:Expr}{ta tb:TD}{pos:Pos}
end
section
variable {X:Cx}{a b c e:Expr}{ta tb tc te:TD}{pos:Pos}{st:Stmt}{rest:List Stmt}{t u:TSD}
theorem eE[Jx]{c:Expr}{l r:List Stmt}{tc:TDT}(hc:WDT X c tc)(ha:WDSs X l t)(hb:WDSs X r u):WDS X (.If c l r pos) (dIfS tc t u):=⟨kU (c:=c) (l:=l) (r:=r) (tc:=tc) (hc:=hc.out) (ha:=ha.out) (hb:=hb.out)⟩
end
section
variable {P:Program}{w:World}{K:xK}{mg:Str->Option Value}{base:Heap}
end
section
variable {X:Cx}{a b c e:Expr}{ta tb tc te:TD}{pos:Pos}
end
section
variable {X:Cx}
variable {elt iter:Expr}{x:Str}{px pos:Pos}{scope:Scope}{ti te:TD}
end
section
variable {X:Cx}{a b c e:Expr}{ta tb tc te:TD}{pos:Pos}
end
section
variable {X:Cx}{x f:Str}{e:Expr}{te:TD}{pos pos' p:Pos}{rest:List Stmt}{tr:TID}
end
section
variable {P:Program}{w:World}{K:xK}{mg:Str->Option Value}{base:Heap}
end
section
variable {X:Cx}{a b c e:Expr}{ta tb tc te:TD}{pos:Pos}
end
section
variable {X:Cx}{k:Nat}{f:Addr}{fd:FuncData}{ps:List Str}{sp:Sp}{E:XK}
end
section
variable {P:Program}{w:World}{K:xK}{mg:Str->Option Value}{base:Heap}
end
section
variable {X:Cx}{pins:List (Addr × Obj)}{σ:L2.St}{H:Hp}{s:Shared}{e:Addr}
end
section
variable {X:Cx}[J:Jx]{x:Str}{C N:Addr}{bm:List Value}{e:Expr}{es:List Expr}{t:TDA}{p cpos pos:Pos}
end
section
variable {X:Cx}{pins:List (Addr × Obj)}{σ:L2.St}{H:Hp}{s:Shared}{e:Addr}
end
section
variable {X:Cx}[J:Jx]{x:Str}{e:Expr}{es:List Expr}{t:TDA}{p cpos pos:Pos}{n m:Nat}{ps:List Str}{S:SiD}
end
section
variable {X:Cx}[J:Jx]{x f:Str}{e:Expr}{te:TD}{ta:TDA}{pos pos' p:Pos}{rest:List Stmt}{tr:TID}
end
section
variable {P:Program}{w:World}{K:xK}{mg:Str->Option Value}{base:Heap}
end
section
variable {M:Model}{A:Around}{E:Value->Shared->Prop}{h:Heap}{g:Array GenState}{d:Drawn}{t:Nat}{os:OsState}
variable {nm q:Str}{C N:Addr}{bs bm:List Value}{hdct:Bool}{sn:List Str}{sub:List Value}{ab:Bool}{col:Option Bool}{dd:Option Addr}{k0 k1 k2 k3 k5:Option Value}{newId:String}
variable {nm' q':Str}{C' N':Addr}{bs' bm':List Value}{hdct':Bool}{sn':List Str}{sub':List Value}{ab':Bool}{col':Option Bool}{dd':Option Addr}{k0' k1' k2' k3' k5':Option Value}{newId':String}
end
section
variable {X:Cx}{pins:List (Addr × Obj)}{σ:L2.St}{H:Hp}{s:Shared}{e:Addr}
end
section
variable {X:Cx}{pins:List (Addr × Obj)}{σ:L2.St}{H:Hp}{s:Shared}
end
section
variable {X:Cx}[J:Jx]{es:List Str}{c:Str}{b₀:Stmt}{suite:List Stmt}{pos pc:Pos}{rest:List ExceptHandler}{t:TSD}{r:TH}
end
section
variable {X:Cx}{pn pins:List (Addr × Obj)}{xe:Value->Shared->Prop}{σ:L2.St}{H:Hp}{s:Shared}
end
theorem sv{X:Cx}[J:Jx]{body:List Stmt}{h₀:ExceptHandler}{hs:List ExceptHandler}{pos:Pos}{tb:Jx->TSD}{th:TH}(hb:∀ (pn:List (Addr × Obj)) (xe:Value->Shared->Prop) (J':Jx),PassesOwn (model X.prog X.w) X.A X.env xe->@XOk (X.tried pn xe) J'->@WDSs (X.tried pn xe) J' body (tb J'))(hh:WDH X (h₀::hs) th)(hex:X.ex=[]:=by rfl)(hstk:X.stack=X.env::X.outer:=by rfl)(hfr:X.env.frame=some X.env.locals:=by rfl):WDS X (.Try body (h₀::hs) [] [] pos) (dTry tb th):=⟨rR (X:=X) (body:=body) (h₀:=h₀) (hs:=hs) (pos:=pos) (tb:=tb) (th:=th) (hb:=λa b c d e=>(hb a b c d e).out) (hh:=hh.out) (hex:=hex) (hstk:=hstk) (hfr:=hfr)⟩
section
variable {X:Cx}[J:Jx]{a b c e:Expr}{ta tb tc te:TD}{pos:Pos}
end
section
variable {X:Cx}[J:Jx]{a b c e:Expr}{ta tb tc te:TD}{pos:Pos}
variable {elt iter:Expr}{x:Str}{px:Pos}{scope:Scope}{ti:TD}
end
section
variable {X:Cx}[J:Jx]{a b c e o:Expr}{es:List Expr}{ta tb tc te to:TD}{t:TDA}{pos:Pos}
end
section
variable {P:Program}{w:World}{K:xK}{mg:Str->Option Value}{base:Heap}
theorem _root_.L2.Fun.okDW{x:Str}{st:Stmt}{f:Addr}{fd:FuncData}{N ps:List Str}{k:Nat}{S:SpD}(T:Fun K x x st f fd)(F:FnScope N ps (ad st))(len:∀ ds R,S ds R->ds.length=ps.length)
  (hbody:∀ (cdv:Value) (A:Around) (outer:List Env) (s:Shared) (H:Hp) (E:XK) (J:Jx),Room k (A.deeper (envOfC x (ad st) s.heap.objs.size f cdv))->
   ∃ t,WDSs (cxOf (Exc.CX1 P w) P w K mg base N x (ad st) f cdv A outer s H E).nox (aA st) t/\∀ ds R,S ds R->t {nx:=λ_=>R .non,rt:=R} (startD N ds)):FnOk P w K mg base (Exc.CX1 P w) (k+1) f fd ps (lSp K S):=
 T.okD F len λcdv A outer s H E J hr=>let ⟨t,h,q⟩:=hbody cdv A outer s H E J hr;⟨t,h.out,q⟩
theorem Tx.okDW{x:Str}{st:Stmt}{N ps:List Str}{k:Nat}{S:SpD}(T:Tx K mg x st ps)(F:FnScope N ps (ad st))(len:∀ ds R,S ds R->ds.length=ps.length)
  (hbody:∀ (f:Addr) (cdv:Value) (A:Around) (outer:List Env) (s:Shared) (H:Hp) (E:XK) (J:Jx),Room k (A.deeper (envOfC x (ad st) s.heap.objs.size f cdv))->
   ∃ t,WDSs (cxOf (Exc.CX1 P w) P w K mg base N x (ad st) f cdv A outer s H E).nox (aA st) t/\∀ ds R,S ds R->t {nx:=λ_=>R .non,rt:=R} (startD N ds)):CalD P w K mg base (k+1) x ps S:=
 Tx.okD T F len λf cdv A outer s H E J hr=>let ⟨t,h,q⟩:=hbody f cdv A outer s H E J hr;⟨t,h.out,q⟩
theorem Cls.okIW{x qual:Str}{st:Stmt}{f C:Addr}{fd:FuncData}{N:List Str}{p0:Str}{ps:List Str}{k:Nat}{S:SiD}(T:Fun K "__init__" qual st f fd)(hb:Binds K fd (p0::ps) [])(F:FnScope (p0::N) (p0::ps) (ad st))(len:∀ ds R,S ds R->ds.length=ps.length)
  (hns:nsIn K mainGlobals x=some (some (.ref C))) (hmg:mg x=some (.ref C)) (mk:Mk K C f)
  (hbody:∀ (cdv:Value) (A:Around) (outer:List Env) (s:Shared) (H:Hp) (E:XK) (J:Jx),Room k (A.deeper (envOfC qual (ad st) s.heap.objs.size f cdv))->
   ∃ t,WDI (cxOf (Exc.CX1 P w) P w K mg base (p0::N) qual (ad st) f cdv A outer s H E).nox x (aA st) t/\∀ ds R,S ds R->t (none::startD N ds) [] R):CalM P w K mg base (k+1) x (p0::ps) S:=
 Cls.okI T hb F len hns hmg mk λcdv A outer s H E J hr=>let ⟨t,h,q⟩:=hbody cdv A outer s H E J hr;⟨t,h.out,q⟩
theorem Cls.okEW{x qual:Str}{st:Stmt}{f C N0:Addr}{bm:List Value}{fd:FuncData}{N:List Str}{p0:Str}{ps:List Str}{k:Nat}{S:SiD}(T:Fun K "__init__" qual st f fd)(hb:Binds K fd (p0::ps) [])(F:FnScope (p0::N) (p0::ps) (ad st))(len:∀ ds R,S ds R->ds.length=ps.length)
  (ek:ErrK K mg x C N0 bm) (hi:xO K (.ref C) "__init__"=some (some (.ref f))) (hf:isFn K (.ref f)=true)
  (hbody:∀ (cdv:Value) (A:Around) (outer:List Env) (s:Shared) (H:Hp) (E:XK) (J:Jx),Room k (A.deeper (envOfC qual (ad st) s.heap.objs.size f cdv))->
   ∃ t,WDX (cxOf (CX1 P w) P w K mg base (p0::N) qual (ad st) f cdv A outer s H E).nox x (aA st) t/\∀ ds R,S ds R->t (none::startD N ds) [] R):CalE P w K mg base (k+1) x (p0::ps) S:=
 Cls.okE T hb F len ek hi hf λcdv A outer s H E J hr=>let ⟨t,h,q⟩:=hbody cdv A outer s H E J hr;⟨t,h.out,q⟩
end
end My
end
section
open PySem PySem.Spec PyProof.Rows L2
namespace My
open Exc
inductive MO where
 |ins (x:Str) (fs:List (Str × D))|lst (ds:List D)|dti (kvs:List ((Int × Int) × Int))
abbrev MS:=List (Addr × MO)
def MRep(K:xK)(F H:Hp)(a:Addr):MO->Prop
 | .ins x fs=>∃ C dx ws,nsIn K mainGlobals x=some (some (.ref C))/\H a=some (.ins C dx ws)/\RepF K F fs ws
 | .lst ds=>∃ vs,H a=some (.lst vs)/\Reps K F ds vs
 | .dti kvs=>H a=some (.dT (dtiV kvs))
def ak(M:MS):List Addr:=M.map (·.1)
def mget:MS->Addr->Option MO
 |[],_=>none
 |(b,o)::r,a=>if b=a then some o else mget r a
def mput:MS->Addr->MO->MS
 |[],_,_=>[]
 |(b,p)::r,a,o=>if b=a then(b,o)::r else(b,p)::mput r a o
def mdel:MS->Addr->MS
 |[],_=>[]
 |(b,p)::r,a=>if b=a then r else(b,p)::mdel r a
theorem bo:∀ {M:MS} {a:Addr} {o:MO},mget M a=some o->(a,o)∈M
 |[],_,_,h=>by cases h
 |(b,p)::r,a,o,h=>by
  unfold mget at h
  split at h
  ·rename_i e;subst e;cases h;exact xZ
  ·exact xV _ (bo h)
theorem bF{M:MS}{a:Addr}{o:MO}(h:(a,o)∈M):a∈ak M:=yH.mpr ⟨_,h,rfl⟩
theorem eF:∀ (M:MS) (a:Addr) (o:MO),ak (mput M a o)=ak M
 |[],_,_=>rfl
 |(b,p)::r,a,o=>by
  unfold mput
  split
  ·rfl
  ·show b::ak (mput r a o)=b::ak r
   rw[eF r a o]
theorem mem_put:∀ {M:MS} {a b:Addr} {o q:MO},(ak M).Nodup->(b,q)∈mput M a o->(b=a/\q=o/\a∈ak M)\/(b≠a/\(b,q)∈M)
 |[],_,_,_,_,_,h=>by cases h
 |(c,p)::r,a,b,o,q,nd,h=>by
  have nd':c ∉ ak r/\(ak r).Nodup:=yw.mp nd
  unfold mput at h
  split at h
  ·rename_i e
   subst e
   rcases xP.mp h with z|z
   ·cases z;exact .inl ⟨rfl,rfl,xZ⟩
   ·have:b∈ak r:=bF z
    exact .inr ⟨λe=>nd'.1 (e ▸ this),xV _ z⟩
  ·rename_i ne
   rcases xP.mp h with z|z
   ·cases z;exact .inr ⟨ne,xZ⟩
   ·rcases mem_put nd'.2 z with⟨e1,e2,e3⟩|⟨e1,e2⟩
    ·exact .inl ⟨e1,e2,xV _ e3⟩
    ·exact .inr ⟨e1,xV _ e2⟩
theorem gw:∀ {M:MS} {a b:Addr} {q:MO},(ak M).Nodup->(b,q)∈mdel M a->b≠a/\(b,q)∈M
 |[],_,_,_,_,h=>by cases h
 |(c,p)::r,a,b,q,nd,h=>by
  have nd':c ∉ ak r/\(ak r).Nodup:=yw.mp nd
  unfold mdel at h
  split at h
  ·rename_i e
   subst e
   exact⟨λe=>nd'.1 (e ▸ bF h),xV _ h⟩
  ·rename_i ne
   rcases xP.mp h with z|z
   ·cases z;exact⟨ne,xZ⟩
   ·obtain⟨e1,e2⟩:=gw nd'.2 z
    exact⟨e1,xV _ e2⟩
theorem del_sub:∀ {M:MS} {a:Addr},(ak (mdel M a)).Sublist (ak M)
 |[],_=> .slnil
 |(c,p)::r,a=>by
  unfold mdel
  split
  ·exact List.sublist_cons_self _ _
  ·exact List.Sublist.cons_cons _ del_sub
theorem MRep.mono{K:xK}{F H F' H':Hp}{a:Addr}(ff:Same F F')(hh:∀ o,H a=some o->H' a=some o):∀ {o:MO},MRep K F H a o->MRep K F' H' a o
 | .ins x fs,⟨C,dx,ws,n,h,r⟩=>⟨C,dx,ws,n,hh _ h,RepF.mono ff fs ws r⟩
 | .lst ds,⟨vs,h,r⟩=>⟨vs,hh _ h,Reps.mono ff ds vs r⟩
 | .dti kvs,h=>hh _ h
theorem MRep.there{K:xK}{F H:Hp}{a:Addr}:∀ {o:MO},MRep K F H a o->H a≠none
 | .ins x fs,⟨C,dx,ws,n,h,r⟩=>by rw[h];exact λz=>nomatch z
 | .lst ds,⟨vs,h,r⟩=>by rw[h];exact λz=>nomatch z
 | .dti kvs,h=>by rw[show H a=_ from h];exact λz=>nomatch z
structure RepM(K:xK)(F H:Hp)(M:MS):Prop where
 nd:(ak M).Nodup
 ok:∀ a o,(a,o)∈M->MRep K F H a o
 fr:∀ a,a∈ak M->F a=none
theorem RepM.nil{K:xK}{F H:Hp}:RepM K F H []:=⟨Ah,(λ_ _ h=>nomatch h),(λ_ h=>nomatch h)⟩
theorem RepM.here{K:xK}{F H:Hp}{M:MS}(r:RepM K F H M){a:Addr}(h:a∈ak M):H a≠none:=by
 obtain⟨⟨b,o⟩,h1,rfl⟩:=yH.mp h
 exact(r.ok _ _ h1).there
structure GrowM(M M':MS)(F H F' H':Hp):Prop where
 ff:Same F F'
 fh:Same F' H'
 hh:∀ b o,b ∉ ak M->H b=some o->H' b=some o
 out:∀ b,b ∉ ak M->F b=none->H b≠none->F' b=none
 ks:∀ b,b∈ak M'->b∈ak M\/H b=none
theorem Grow.toM{M:MS}{F H F' H':Hp}(g:Grow F H F' H'):GrowM M M F H F' H':=⟨g.ff,g.fh,λb o _ h=>g.hh b o h,λb _ h1 h2=>g.out b h1 h2,λb h=> .inl h⟩
theorem GrowM.refl{M:MS}{F H:Hp}(h:Same F H):GrowM M M F H F H:=(Grow.refl h).toM
theorem GrowM.trans{M M1 M2:MS}{F H F1 H1 F2 H2:Hp}(g:GrowM M M1 F H F1 H1)(k:GrowM M1 M2 F1 H1 F2 H2):GrowM M M2 F H F2 H2 where
  ff:=g.ff.trans k.ff
  fh:=k.fh
  hh:=λb o nb h=>k.hh b o (λz=>by rcases g.ks b z with q|q;exact nb q;rw[q] at h;cases h) (g.hh b o nb h)
  out:=λb nb h1 h2=>k.out b (λz=>by rcases g.ks b z with q|q;exact nb q;exact h2 q) (g.out b nb h1 h2) (by
    cases e:H b with
    |none=>exact absurd e h2
    |some o=>rw[g.hh b o nb e];exact λz=>nomatch z)
  ks := λb h=>by
    rcases k.ks b h with q|q
    · exact g.ks b q
    · by_cases nb:b∈ak M
      · exact .inl nb
      · right
        cases e:H b with
        |none=>rfl
        |some o=>rw[g.hh b o nb e] at q;cases q
theorem RepM.grow{K:xK}{F H F' H':Hp}{M:MS}(r:RepM K F H M)(g:Grow F H F' H'):RepM K F' H' M:=
 ⟨r.nd,λa o h=>(r.ok a o h).mono g.ff λo e=>g.hh a o e,λa h=>g.out a (r.fr a h) (r.here h)⟩
theorem RepM.put{K:xK}{F H:Hp}{M:MS}{a:Addr}{o o':MO}{ho:HO}(r:RepM K F H M)(e:mget M a=some o)(h:MRep K F (upd H a ho) a o'):RepM K F (upd H a ho) (mput M a o'):=
 ⟨by rw[eF];exact r.nd,λb q hb=>by
  rcases mem_put r.nd hb with⟨rfl,rfl,_⟩|⟨ne,hb⟩
  ·exact h
  ·exact(r.ok b q hb).mono (Same.refl F) λu z=>by rw[ah ne];exact z,λb hb=>r.fr b (by rw[eF] at hb;exact hb)⟩
theorem GrowM.put{F H:Hp}{M:MS}{a:Addr}{o o':MO}{ho:HO}(fh:Same F H)(fa:F a=none)(e:mget M a=some o):GrowM M (mput M a o') F H F (upd H a ho) where
 ff:=Same.refl F
 fh:=λb u z=>by
  have ne:b≠a:=by rintro rfl;rw[fa] at z;cases z
  rw[ah ne];exact fh b u z
 hh:=λb u nb z=>by
  have ne:b≠a:=by rintro rfl;exact nb (bF (bo e))
  rw[ah ne];exact z
 out:=λb _ h _=>h
 ks:=λb h=> .inl (by rw[eF] at h;exact h)
theorem RepM.new{K:xK}{F H:Hp}{M:MS}{p:Addr}{o:MO}{ho:HO}(r:RepM K F H M)(fh:Same F H)(hp:H p=none)(h:MRep K F (upd H p ho) p o):RepM K F (upd H p ho) ((p,o)::M):=by
 have np:p ∉ ak M:=λz=>r.here z hp
 refine⟨yw.mpr ⟨np,r.nd⟩,λb q hb=>?_,λb hb=>?_⟩
 ·rcases xP.mp hb with z|z
  ·cases z;exact h
  ·exact(r.ok b q z).mono (Same.refl F) λu z'=>by rw[ah (λe:b=p=>np (e ▸ bF z))];exact z'
 ·rcases xP.mp hb with z|z
  ·rw[z];exact fh.free hp
  ·exact r.fr b z
theorem GrowM.new{F H:Hp}{M:MS}{p:Addr}{o:MO}{ho:HO}(fh:Same F H)(hp:H p=none):GrowM M ((p,o)::M) F H F (upd H p ho) where
 ff:=Same.refl F
 fh:=fh.trans (aK hp _)
 hh:=λb u _ z=>aK hp _ b u z
 out:=λb _ h _=>h
 ks:=λb h=>by
  rcases xP.mp h with z|z
  ·exact .inr (by rw[z];exact hp)
  ·exact .inl z
structure RepZ(K:xK)(B F H:Hp)(z:SD)(s:L2.St)(M:MS):Prop where
 rs:RepS K B F H z s
 no:∀ (i:Nat) ds,z[i]?≠some (some (.own ds))
 rm:RepM K F H M
 mb:∀ a,a∈ak M->B a=none
theorem Kept.growM[Jx]{B F0 F H F' H':Hp}{M M':MS}(k:Kept B F0 F H)(mb:∀ a,a∈ak M->B a=none)(g:GrowM M M' F H F' H'):Kept B F0 F' H' where
 bh:=λb o e=>g.hh b o (λz=>by rw[mb b z] at e;cases e) (k.bh b o e)
 fh:=g.fh
 f0:=k.f0.trans g.ff
 out:=λb h1 h2=>g.out b (λz=>h2 (mb b z)) (k.out b h1 h2) (by
  cases e:B b with
  |none=>exact absurd e h2
  |some o=>rw[k.bh b o e];exact λz=>nomatch z)
 eb:=k.eb
 jf:=k.jf
 jo:=k.jo
theorem RepS.growM{K:xK}{B F H F' H':Hp}{z:SD}{s:L2.St}{M M':MS}(r:RepS K B F H z s)(no:∀ (i:Nat) ds,z[i]?≠some (some (.own ds)))(g:GrowM M M' F H F' H'):RepS K B F' H' z s where
 len:=r.len
 val:=λi d e n=>let ⟨v,q1,q2⟩:=r.val i d e n;⟨v,q1,q2.mono g.ff⟩
 own:=λi ds e=>absurd e (no i ds)
 apart:=r.apart
theorem RepZ.growM{K:xK}{B F H F' H':Hp}{z:SD}{s:L2.St}{M M':MS}(r:RepZ K B F H z s M)(bh:Same B H)(g:GrowM M M' F H F' H')(rm:RepM K F' H' M'):RepZ K B F' H' z s M':=
 ⟨r.rs.growM r.no g,r.no,rm,λa h=>by
  rcases g.ks a h with q|q
  ·exact r.mb a q
  ·exact bh.free q⟩
theorem RepZ.set{K:xK}{B F H:Hp}{z:SD}{s:L2.St}{M:MS}{i:Nat}{d:D}{v:V}(r:RepZ K B F H z s M)(rd:Rep K F d v):RepZ K B F H (z.set i (some d)) (s.set i (some v)) M:=
 ⟨r.rs.set rd,λj ds e=>by
  by_cases hj:i=j
  ·subst hj
   rw[yS] at e
   simp at e
   have:=rd.noown
   rw[e.2] at this
   cases this
  ·rw[xY hj] at e
   exact r.no j ds e,r.rm,r.mb⟩
class Jm extends Jx where
 RM:SD->MS->XD
abbrev TME:=SD->MS->(D->MS->Prop)->Prop
abbrev TMT:=SD->MS->(Bool->MS->Prop)->Prop
abbrev TMA:=SD->MS->(List D->MS->Prop)->Prop
structure EndsM where
 nx:SD->MS->Prop
 rt:D->MS->Prop
 bk:SD->MS->Prop:=λ_ _=>False
 ct:SD->MS->Prop:=λ_ _=>False
abbrev TMS:=EndsM->SD->MS->Prop
def mE(K:xK)[J:Jm](t:TME):TE:=λs H Q=>∃ F z M,Kept J.B J.F0 F H/\RepZ K J.B F H z s M/\∃ R:D->MS->Prop,t z M R/\∀ d v M' F' H',GrowM M M' F H F' H'->R d M'->Rep K F' d v->RepM K F' H' M'->Q v H'
def mT(K:xK)[J:Jm](t:TMT):TT:=λs H Q=>∃ F z M,Kept J.B J.F0 F H/\RepZ K J.B F H z s M/\∃ R:Bool->MS->Prop,t z M R/\∀ b M' F' H',GrowM M M' F H F' H'->R b M'->RepM K F' H' M'->Q b H'
def mA(K:xK)[J:Jm](t:TMA):TA:=λs H Q=>∃ F z M,Kept J.B J.F0 F H/\RepZ K J.B F H z s M/\∃ R:List D->MS->Prop,t z M R/\∀ ds vs M' F' H',GrowM M M' F H F' H'->R ds M'->Reps K F' ds vs->RepM K F' H' M'->Q vs H'
structure EndsOkM[J:Jm](K:xK)(F0:Hp)(ED:EndsM)(E:Ends):Prop where
 nx:∀ z' s' M' F' H',Kept J.B F0 F' H'->ED.nx z' M'->RepZ K J.B F' H' z' s' M'->E.nx s' H'
 rt:∀ d v M' F' H',Kept J.B F0 F' H'->ED.rt d M'->Rep K F' d v->RepM K F' H' M'->(∀ a,a∈ak M'->J.B a=none)->E.rt v H'
 bk:∀ z' s' M' F' H',Kept J.B F0 F' H'->ED.bk z' M'->RepZ K J.B F' H' z' s' M'->E.bk s' H'
 ct:∀ z' s' M' F' H',Kept J.B F0 F' H'->ED.ct z' M'->RepZ K J.B F' H' z' s' M'->E.ct s' H'
def mS(K:xK)[J:Jm](t:TMS):TS:=λE s H=>∃ F0 F z M,Kept J.B F0 F H/\RepZ K J.B F H z s M/\∃ ED:EndsM,t ED z M/\EndsOkM K F0 ED E
structure ME(X:Cx)[Jm](e:Expr)(t:TME):Prop where
 out:PE X e (mE X.K t)
structure MT(X:Cx)[Jm](e:Expr)(t:TMT):Prop where
 out:PT X e (mT X.K t)
structure MW(X:Cx)[Jm](e:Expr)(t:TMT):Prop where
 out:PW X e (mT X.K t)
structure MA(X:Cx)[Jm](es:List Expr)(t:TMA):Prop where
 out:PA X es (mA X.K t)
structure MSt(X:Cx)[Jm](st:Stmt)(t:TMS):Prop where
 out:PS X st (mS X.K t)
structure MSs(X:Cx)[Jm](st:List Stmt)(t:TMS):Prop where
 out:PSs X st (mS X.K t)
section
variable {X:Cx}{a b c e:Expr}{ta tb:TME}{pos:Pos}
def mP(t:TD):TME:=λz M R=>t z λd=>R d M
def mPT(t:TDT):TMT:=λz M R=>t z λd=>R d M
def mPA(t:TDA):TMA:=λz M R=>t z λd=>R d M
theorem ag[J:Jm]{t:TD}(h:WDE X e t):ME X e (mP t):=⟨PE.anti h.out λs H Q q=>by
 obtain⟨F,z,M,k,r,R,h1,h2⟩:=q
 exact⟨J.B,F,z,k,r.rs,_,h1,λd v F' H' g hd rd=>h2 d v M F' H' g.toM hd rd (r.rm.grow g)⟩⟩
theorem bG[J:Jm]{t:TDT}(h:WDT X e t):MT X e (mPT t):=⟨PT.anti h.out λs H Q q=>by
 obtain⟨F,z,M,k,r,R,h1,h2⟩:=q
 exact⟨J.B,F,z,k,r.rs,_,h1,λd F' H' g hd=>h2 d M F' H' g.toM hd (r.rm.grow g)⟩⟩
theorem aw[J:Jm]{es:List Expr}{t:TDA}(h:WDA X es t):MA X es (mPA t):=⟨PA.anti h.out λs H Q q=>by
 obtain⟨F,z,M,k,r,R,h1,h2⟩:=q
 exact⟨J.B,F,z,k,r.rs,_,h1,λd v F' H' g hd rd=>h2 d v M F' H' g.toM hd rd (r.rm.grow g)⟩⟩
def mOp(r:RD2)(ta tb:TME):TME:=λz M R=>ta z M λx M1=>tb z M1 λy M2=>r x y λd=>R d M2
theorem lK[J:Jm]{e:Expr}{r:R2}{rd:RD2}{ta tb:TME}(L:aL X.K r rd)(h:PE X e (tOp r (mE X.K ta) (mE X.K tb))):ME X e (mOp rd ta tb):=⟨h.anti λs H Q q=>by
 obtain⟨F,z,M,k,rs,R,h1,h2⟩:=q
 refine⟨F,z,M,k,rs,_,h1,λx u M1 F1 H1 g1 hx rx m1=>?_⟩
 refine⟨F1,z,M1,k.growM rs.mb g1,rs.growM k.bh g1 m1,_,hx,λy v M2 F2 H2 g2 hy ry m2=>?_⟩
 exact L x y u v F2 H2 _ Q g2.fh hy (rx.mono g2.ff) ry λd w F3 H3 g3 hd rd=>h2 d w M2 F3 H3 ((g1.trans g2).trans g3.toM) hd rd (m2.grow g3)⟩
theorem lL[J:Jm]{op:Operator}{r:R2}{rd:RD2}(ho:OpR X (binaryOp op) r)(L:aL X.K r rd)(ha:ME X a ta)(hb:ME X b tb):ME X (.BinOp a op b pos) (mOp rd ta tb):=lK L (jI ho ha.out hb.out)
theorem lM[J:Jm](ha:ME X a ta)(hb:ME X b tb)(hs:cK b:=by exact λ_ _=>rfl):ME X (.Subscript a b pos) (mOp rdIx ta tb):=lK kM (pe_ix ku ha.out hb.out hs)
theorem eG[Jm](ha:ME X a ta)(hb:ME X b tb):ME X (.BinOp a .Add b pos) (mOp rdAdd ta tb):=lL kH kI ha hb
theorem sy[Jm](ha:ME X a ta)(hb:ME X b tb):ME X (.BinOp a .Sub b pos) (mOp rdSub ta tb):=lL jK kJ ha hb
def mTst(t:TME):TMT:=λz M R=>t z M λx M1=>match x with| .bl k=>R k M1|_=>False
theorem eH[J:Jm]{op:CmpOp}{r:R2}{rd:RD2}(ho:OpR X (compareOp op) r)(L:aL X.K r rd)(ha:ME X a ta)(hb:ME X b tb)(hm:behindInMarks op b=false):MT X (.Compare a [op] [b] pos) (mTst (mOp rd ta tb)):=⟨(jQ ho ha.out hb.out hm).anti λs H Q q=>by
 obtain⟨F,z,M,k,rs,R,h1,h2⟩:=q
 refine⟨F,z,M,k,rs,_,h1,λx u M1 F1 H1 g1 hx rx m1=>?_⟩
 refine⟨F1,z,M1,k.growM rs.mb g1,rs.growM k.bh g1 m1,_,hx,λy v M2 F2 H2 g2 hy ry m2=>?_⟩
 refine L x y u v F2 H2 _ _ g2.fh hy (rx.mono g2.ff) ry λd w F3 H3 g3 hd rd=>?_
 dsimp only at hd
 split at hd
 ·exact⟨_,rep_bl.mp rd,h2 _ M2 F3 H3 ((g1.trans g2).trans g3.toM) hd (m2.grow g3)⟩
 ·exact hd.elim⟩
theorem lN[Jm](ha:ME X a ta)(hb:ME X b tb):MT X (.Compare a [.Lt] [b] pos) (mTst (mOp rdLt ta tb)):=eH jP kK ha hb (nomark _)
theorem gx[Jm](ha:ME X a ta)(hb:ME X b tb):MT X (.Compare a [.Eq] [b] pos) (mTst (mOp rdEq ta tb)):=eH fQ gd ha hb (nomark _)
theorem lP[Jm](ha:ME X a ta)(hb:ME X b tb):MT X (.Compare a [.Is] [b] pos) (mTst (mOp (rdIs id) ta tb)):=eH oR qN ha hb (nomark _)
theorem sA[Jm](ha:ME X a ta)(hb:ME X b tb)(hm:behindInMarks .NotIn b=false:=by rfl):MT X (.Compare a [.NotIn] [b] pos) (mTst (mOp (rdIn true) ta tb)):=eH sm sk ha hb hm
variable {tA tB:TMT}{rest:List Expr}
theorem mt_w[Jm](h:MW X a tA):MT X a tA:=⟨PW.pt h.out⟩
theorem sB[Jm](ha:MT X a tA):MW X (.BoolOp .And [a] pos) tA:=⟨nW ha.out⟩
theorem sC[Jm](ha:MT X a tA):MW X (.BoolOp .Or [a] pos) tA:=⟨nX ha.out⟩
def mAnd(tA tB:TMT):TMT:=λz M R=>tA z M λk M1=>if k=true then tB z M1 R else R false M1
def mOr(tA tB:TMT):TMT:=λz M R=>tA z M λk M1=>if k=true then R true M1 else tB z M1 R
theorem sD[J:Jm](ha:MT X a tA)(hb:MW X (.BoolOp .And (b::rest) pos) tB):MW X (.BoolOp .And (a::b::rest) pos) (mAnd tA tB):=⟨(nY ha.out hb.out).anti λs H Q q=>by
 obtain⟨F,z,M,k,rs,R,h1,h2⟩:=q
 refine⟨F,z,M,k,rs,_,h1,λx M1 F1 H1 g1 hx m1=>?_⟩
 cases x with
 |true=>exact⟨F1,z,M1,k.growM rs.mb g1,rs.growM k.bh g1 m1,R,hx,λy M2 F2 H2 g2 hy m2=>h2 y M2 F2 H2 (g1.trans g2) hy m2⟩
 |false=>exact h2 _ M1 F1 H1 g1 hx m1⟩
theorem sE[J:Jm](ha:MT X a tA)(hb:MW X (.BoolOp .Or (b::rest) pos) tB):MW X (.BoolOp .Or (a::b::rest) pos) (mOr tA tB):=⟨(nZ ha.out hb.out).anti λs H Q q=>by
 obtain⟨F,z,M,k,rs,R,h1,h2⟩:=q
 refine⟨F,z,M,k,rs,_,h1,λx M1 F1 H1 g1 hx m1=>?_⟩
 cases x with
 |false=>exact⟨F1,z,M1,k.growM rs.mb g1,rs.growM k.bh g1 m1,R,hx,λy M2 F2 H2 g2 hy m2=>h2 y M2 F2 H2 (g1.trans g2) hy m2⟩
 |true=>exact h2 _ M1 F1 H1 g1 hx m1⟩
def mIf(tc:TMT)(ta tb:TME):TME:=λz M R=>tc z M λk M1=>if k=true then ta z M1 R else tb z M1 R
theorem gy[J:Jm]{tc:TMT}(hc:MT X c tc)(ha:ME X a ta)(hb:ME X b tb):ME X (.IfExp c a b pos) (mIf tc ta tb):=⟨(om hc.out ha.out hb.out).anti λs H Q q=>by
 obtain⟨F,z,M,k,rs,R,h1,h2⟩:=q
 refine⟨F,z,M,k,rs,_,h1,λx M1 F1 H1 g1 hx m1=>?_⟩
 cases x with
 |true=>exact⟨F1,z,M1,k.growM rs.mb g1,rs.growM k.bh g1 m1,R,hx,λd v M2 F2 H2 g2 hy rd m2=>h2 d v M2 F2 H2 (g1.trans g2) hy rd m2⟩
 |false=>exact⟨F1,z,M1,k.growM rs.mb g1,rs.growM k.bh g1 m1,R,hx,λd v M2 F2 H2 g2 hy rd m2=>h2 d v M2 F2 H2 (g1.trans g2) hy rd m2⟩⟩
def mNil:TMA:=λ_ M R=>R [] M
def sF(ta:TME)(tr:TMA):TMA:=λz M R=>ta z M λx M1=>tr z M1 λxs M2=>R (x::xs) M2
theorem aS[J:Jm]:MA X [] mNil:=⟨pa_nil.anti λs H Q q=>by
 obtain⟨F,z,M,k,rs,R,h1,h2⟩:=q
 exact h2 [] [] M F H (GrowM.refl k.fh) h1 (reps_nil.mpr rfl) rs.rm⟩
theorem aF[J:Jm]{e:Expr}{es:List Expr}{te:TME}{t:TMA}(ha:ME X e te)(hr:MA X es t)(hs:zSE X e es:=by rfl):MA X (e::es) (sF te t):=⟨(bg ha.out hr.out hs).anti λs H Q q=>by
 obtain⟨F,z,M,k,rs,R,h1,h2⟩:=q
 refine⟨F,z,M,k,rs,_,h1,λx u M1 F1 H1 g1 hx rx m1=>?_⟩
 refine⟨F1,z,M1,k.growM rs.mb g1,rs.growM k.bh g1 m1,_,hx,λxs us M2 F2 H2 g2 hy ry m2=>?_⟩
 exact h2 _ _ M2 F2 H2 (g1.trans g2) hy (reps_cons.mpr ⟨_,_,rfl,rx.mono g2.ff,ry⟩) m2⟩
def mTup(t:TMA):TME:=λz M R=>t z M λxs M1=>xs.length<=1000/\R (.tup xs) M1
theorem sG[J:Jm]{es:List Expr}{t:TMA}{x1}(h:MA X es t):ME X (.Tuple es x1 pos) (mTup t):=⟨(jZ h.out).anti λs H Q q=>by
 obtain⟨F,z,M,k,rs,R,h1,h2⟩:=q
 refine⟨F,z,M,k,rs,_,h1,λds vs M1 F1 H1 g1 hx rx m1=>?_⟩
 have hl:=rx.length
 refine⟨sz (by rw[hl];exact hx.1),λp hp=>?_⟩
 have gn:=Grow.new g1.fh hp (.tup vs)
 exact h2 _ _ M1 _ _ (g1.trans gn.toM) hx.2 (rep_tupS.mpr ⟨p,vs,rfl,av,rx.mono (aK (g1.fh.free hp) _)⟩) (m1.grow gn)⟩
def mLst(t:TMA):TME:=λz M R=>t z M λxs M1=>xs.length<=1000/\∀ p,p ∉ ak M1->R (.ptr p) ((p,.lst xs)::M1)
theorem sH[J:Jm]{es:List Expr}{t:TMA}(h:MA X es t):ME X (.List es pos) (mLst t):=⟨(kd h.out).anti λs H Q q=>by
 obtain⟨F,z,M,k,rs,R,h1,h2⟩:=q
 refine⟨F,z,M,k,rs,_,h1,λds vs M1 F1 H1 g1 hx rx m1=>?_⟩
 have hl:=rx.length
 refine⟨sz (by rw[hl];exact hx.1),λp hp=>?_⟩
 exact h2 _ _ _ F1 _ (g1.trans (GrowM.new g1.fh hp)) (hx.2 p λz=>m1.here z hp) (rep_ptr.mpr rfl) (m1.new g1.fh hp ⟨vs,av,rx⟩)⟩
def mCB(r:RDn)(t:TMA):TME:=λz M R=>t z M λds M1=>r ds λd=>R d M1
theorem sI[J:Jm]{x:Str}{p:Pos}{e:Expr}{es:List Expr}{t:TMA}{id:String}{r:List V->Hp->VK->Prop}{rd:RDn}(hc:bv X (.builtin id) r)(L:cf X.K r rd)(hm:X.mg x=none)(hv:bootBuiltins x=some (.builtin id))(ha:MA X (e::es) t)(hg:Gl X x:=by rfl)(hn:x≠"__name__":=by decide)(hdb:zND x:=by decide)
  (he:zSE X e es:=by rfl) (hpl:zPL X pos es:=by rfl):ME X (.Call (.Name x p) (e::es) [] pos) (mCB rd t):=⟨(dN hc hg hm hv ha.out hn hdb he hpl).anti λs H Q h=>by
 obtain⟨F,z,M,k,rs,R,h1,h2⟩:=h
 refine⟨F,z,M,k,rs,_,h1,λds vs M1 F1 H1 g1 hx rx m1=>?_⟩
 exact L ds vs F1 H1 _ Q g1.fh hx rx λd w F' H' g hd rd=>h2 d w M1 F' H' (g1.trans g.toM) hd rd (m1.grow g)⟩
theorem lQ[Jm]{p:Pos}{e:Expr}{t:TMA}(hm:X.mg "len"=none)(ha:MA X [e] t)(hg:Gl X "len":=by rfl)(he:zSE X e []:=by rfl):ME X (.Call (.Name "len" p) [e] [] pos) (mCB rdLen t):=sI fR kP hm PySem.boot_len ha hg (by decide) (by decide) he
theorem sJ[J:Jm]{x:Str}{p:Pos}{e:Expr}{es:List Expr}{t:TMA}{T:String}{r:List V->Hp->VK->Prop}{rd:RDn}(hc:bv X (.type T) r)(L:cf X.K r rd)(hm:X.mg x=none)(hv:bootBuiltins x=some (.type T))(ha:MA X (e::es) t)(hg:Gl X x:=by rfl)(hn:x≠"__name__":=by decide)(hdb:zND x:=by decide)
  (he:zSE X e es:=by rfl) (hpl:zPL X pos es:=by rfl):ME X (.Call (.Name x p) (e::es) [] pos) (mCB rd t):=⟨(kj hc hg hm hv ha.out hn hdb he hpl).anti λs H Q h=>by
 obtain⟨F,z,M,k,rs,R,h1,h2⟩:=h
 refine⟨F,z,M,k,rs,_,h1,λds vs M1 F1 H1 g1 hx rx m1=>?_⟩
 exact L ds vs F1 H1 _ Q g1.fh hx rx λd w F' H' g hd rd=>h2 d w M1 F' H' (g1.trans g.toM) hd rd (m1.grow g)⟩
theorem lR[Jm]{p:Pos}{t:TMA}(hm:X.mg "int"=none)(ha:MA X [e] t)(hg:Gl X "int":=by rfl)(he:zSE X e []:=by rfl):ME X (.Call (.Name "int" p) [e] [] pos) (mCB rdInt t):=sJ kZ lf hm PyProof.Rows.boot_int ha hg (by decide) (by decide) he
def cP(M:MS)(d:D)(x:Str)(fs:List (Str × D)):Prop:=match d with| .ptr a=>mget M a=some (.ins x fs)| .obj y gs=>y=x/\gs=fs|_=>False
def mFld(x f:Str)(te:TME):TME:=λz M R=>te z M λd M1=>∃ fs,cP M1 d x fs/\∃ d',fs.lookup f=some d'/\R d' M1
theorem gz{K:xK}{F H:Hp}{M:MS}{d:D}{v:V}{x:Str}{fs:List (Str × D)}(fh:Same F H)(rm:RepM K F H M)(rd:Rep K F d v)(h:cP M d x fs):∃ a C dx ws,v= .ref a/\nsIn K mainGlobals x=some (some (.ref C))/\H a=some (.ins C dx ws)/\RepF K F fs ws:=by
 unfold cP at h
 split at h
 ·rename_i a
  obtain⟨C,dx,ws,n,h1,h2⟩:=rm.ok _ _ (bo h)
  exact⟨a,C,dx,ws,rep_ptr.mp rd,n,h1,h2⟩
 ·obtain⟨rfl,rfl⟩:=h
  obtain⟨a,C,dx,ws,e,n,h1,h2⟩:=rep_obj.mp rd
  exact⟨a,C,dx,ws,e,n,fh _ _ h1,h2⟩
 ·exact h.elim
theorem aJ[J:Jm]{x f:Str}(hA:ClsA X.K x f)(he:ME X e ta)(hb:attributeBase e f X.env (eval e X.env)=eval e X.env:=by rfl):ME X (.Attribute e f pos) (mFld x f ta):=⟨(pp he.out hb).anti λs H Q q=>by
 obtain⟨C,hn,hc,hf⟩:=hA
 obtain⟨F,z,M,k,rs,R,h1,h2⟩:=q
 refine⟨F,z,M,k,rs,_,h1,λd u M1 F1 H1 g1 hx rx m1=>?_⟩
 obtain⟨fs,hi,d',hl,hR⟩:=hx
 obtain⟨a,C',dx,ws,rfl,hn',hH,rf⟩:=gz g1.fh m1 rx hi
 rw[hn] at hn'
 cases hn'
 obtain⟨v,l,rv⟩:=rf.look hl
 exact⟨a,C,dx,ws,v,rfl,hH,hc,hf,l,h2 d' v M1 F1 H1 g1 hR rv m1⟩⟩
end
end My
end
section
open PySem PySem.Spec PyProof.Rows L2
namespace My
open Exc
abbrev XDM:=Str->List (Str × D)->MS->Prop
abbrev SpM:=List D->MS->(D->MS->Prop)->XDM->Prop
def lSpM(K:xK)(S:SpM):Sp:=λvs H Q E=>∃ F ds M,Same F H/\Reps K F ds vs/\RepM K F H M/\∃ (R:D->MS->Prop) (RX:XDM),S ds M R RX/\(∀ d v M' F' H',GrowM M M' F H F' H'->R d M'->Rep K F' d v->RepM K F' H' M'->Q v H')/\
 ∀ x fs C od M' F' H',GrowM M M' F H F' H'->RX x fs M'->ErrD K F' x fs C od->RepM K F' H' M'->E (.ref C) od H'
abbrev CalMM(P:Program)(w:World)(K:xK)(mg:Str->Option Value)(base:Heap)(n:Nat)(x:Str)(ps:List Str)(S:SpM):Prop:=Cal P w K mg base n x ps (lSpM K S)
def ofX(S:SpX):SpM:=λds M R RX=>S ds (λd=>R d M) λx fs=>RX x fs M
def ofD(S:SpD):SpM:=λds M R _=>S ds λd=>R d M
theorem sK{K:xK}{S:SpD}{vs:List V}{H:Hp}{Q:VK}{E:XK}(h:lSpM K (ofD S) vs H Q E):lSp K S vs H Q E:=by
 obtain⟨F,ds,M,fh,rs,rm,R,RX,hS,q,qx⟩:=h
 exact⟨F,ds,fh,rs,_,hS,λd v F' H' g hd rd=>q d v M F' H' g.toM hd rd (rm.grow g)⟩
section
variable {P:Program}{w:World}{K:xK}{mg:Str->Option Value}{base:Heap}{n:Nat}{x:Str}{ps:List Str}
theorem CalD.toM{S:SpD}(C:CalD P w K mg base n x ps S):CalMM P w K mg base n x ps (ofD S):=by
 obtain⟨f,fd,F,hb,hk,hm⟩:=C
 exact⟨f,fd,F.imp λvs H Q E h=>sK h,hb,hk,hm⟩
def CalMth(P:Program)(w:World)(K:xK)(mg:Str->Option Value)(base:Heap)(n:Nat)(x m:Str)(ps:List Str)(sp:Sp):Prop:=
 ∃ C f fd,nsIn K mainGlobals x=some (some (.ref C))/\Cls K C/\Meth K C m f/\FnOk P w K mg base (CX1 P w) n f fd ps sp/\Binds K fd ps []
theorem Cal.mono{sp:Sp}{n':Nat}(h:Cal P w K mg base n x ps sp)(hn:n<=n'):Cal P w K mg base n' x ps sp:=by
 obtain⟨f,fd,F,h⟩:=h
 exact⟨f,fd,F.mono hn,h⟩
theorem Cal.imp{sp sp':Sp}(h:Cal P w K mg base n x ps sp)(i:∀ vs H Q E,sp' vs H Q E->sp vs H Q E):Cal P w K mg base n x ps sp':=by
 obtain⟨f,fd,F,h⟩:=h
 exact⟨f,fd,F.imp i,h⟩
theorem CalMth.imp{m:Str}{sp sp':Sp}(h:CalMth P w K mg base n x m ps sp)(i:∀ vs H Q E,sp' vs H Q E->sp vs H Q E):CalMth P w K mg base n x m ps sp':=by
 obtain⟨C,f,fd,h1,h2,h3,h4,h5⟩:=h
 exact⟨C,f,fd,h1,h2,h3,h4.imp i,h5⟩
end
def XOkM(X:Cx)[J:Jm]:Prop:=∀ (σ:L2.St) (z:SD) (M:MS) (F H:Hp) (s:Shared) (e C:Addr) (od:Option Addr) (x:Str) (fs:List (Str × D)),Inv X [] σ H s->Kept J.B J.F0 F H->RepZ X.K J.B F H z σ M->J.RM z M x fs->ErrD X.K F x fs C od->Exd X H s e C od->X.xe (.ref e) s
def EX(X:Cx)[J:Jm](z:SD)(σ:L2.St):XK:=λCv od H'=>∃ x fs C M' F',Cv= .ref C/\Kept J.B J.F0 F' H'/\RepZ X.K J.B F' H' z σ M'/\J.RM z M' x fs/\ErrD X.K F' x fs C od
theorem XOkM.out{X:Cx}[J:Jm](hx:XOkM X)(hex:X.ex=[]){pins:List (Addr × Obj)}{σ:L2.St}{z:SD}{H:Hp}{s s':Shared}{ev:Value}(I:Inv X pins σ H s)
  (h:CX1 X.prog X.w X.stack H s (EX X z σ) ev s'):X.xe ev s':=by
 obtain⟨e,C,od,T,H',rfl,hos,hb,un,hok,hxt,ne,nT,He,HT,x,fs,C',M',F',hC,kk,rr,hR,er⟩:=h
 cases hC
 have I':Inv X pins σ H' s':=I.call' hos un hok hb (λb z=>absurd z (by simp))
 exact hx σ z M' F' H' s' e C od x fs (Inv.nopins I') kk rr hR er ⟨He,bV I hex ne,pn_free I ne,.inr ⟨T,hxt,bV I hex nT,HT,pn_free I nT⟩⟩
section
variable {X:Cx}[J:Jm]{a b c e o:Expr}{ta tb te:TME}{pos p apos cpos:Pos}{n m:Nat}{ps:List Str}{S:SpM}{x:Str}{es:List Expr}{t:TMA}
def sL(S:SpM)(t:TMA):TME:=λz M R=>t z M λds M1=>S ds M1 R λx fs M'=>J.RM z M' x fs
theorem gA{σ:L2.St}{z:SD}{M M1:MS}{F H F1 H1:Hp}{ds:List D}{vs:List V}{Q:VK}{R:D->MS->Prop}(k:Kept J.B J.F0 F H)(rs:RepZ X.K J.B F H z σ M)(g1:GrowM M M1 F H F1 H1)(m1:RepM X.K F1 H1 M1)(rx:Reps X.K F1 ds vs)
  (hS:S ds M1 R λx fs M'=>J.RM z M' x fs) (h2:∀ d v M' F' H',GrowM M M' F H F' H'->R d M'->Rep X.K F' d v->RepM X.K F' H' M'->Q v H'):lSpM X.K S vs H1 Q (EX X z σ):=
 ⟨F1,ds,M1,g1.fh,rx,m1,R,_,hS,λd v M' F' H' g hd rd m'=>h2 d v M' F' H' (g1.trans g) hd rd m',λy fs C od M' F' H' g hR er m'=>⟨y,fs,C,M',F',rfl,(k.growM rs.mb g1).growM (rs.growM k.bh g1 m1).mb g,(rs.growM k.bh g1 m1).growM (k.growM rs.mb g1).bh g m',hR,er⟩⟩
theorem aH(C:CalMM X.prog X.w X.K X.mg X.base n x ps S)(hx:XOkM X)(hr:Room m X.A)(ha:MA X (e::es) t)(hex:X.ex=[]:=by rfl)(hg:Gl X x:=by rfl)(hn:n<=m:=by decide)(hdb:zND x:=by decide)
  (he:zSE X e es:=by rfl) (hpl:zPL X pos es:=by rfl):
  ME X (.Call (.Name x p) (e::es) [] pos) (sL S t):=by
 obtain⟨f,fd,F,hb,hk,hm⟩:=C
 refine⟨λpins s σ H Q I h=>?_⟩
 obtain⟨Fr,z,M,k,rs,R,h1,h2⟩:=h
 refine wpAny_Call_Name_kw (bJ I hg hm ?_ hdb)
 refine callWith_K (h₀:=X.base) I.ok.mod.kin hk (thn (ha.out pos pins s σ H (λvs H1=>lSpM X.K S vs H1 Q (EX X z σ)) I ⟨Fr,z,M,k,rs,_,h1,λds vs M1 F1 H1 g1 hx rx m1=>gA k rs g1 m1 rx hx h2⟩) λus s1 ⟨vs,H1,I1,r,q⟩=>⟨I1.kIn,?_⟩) he hpl
 exact eo F (hr.mono hn) hb (λe s' hq=>hx.out hex I1 hq) I1 r q
def lU(cs:List Str)(m:Str)(S:Str->SpM)(to:TME)(t:TMA):TME:=λz M R=>to z M λd M1=>∃ x,x∈cs/\∃ fs,cP M1 d x fs/\fs.lookup m=none/\t z M1 λds M2=>S x (d::ds) M2 R λx fs M'=>J.RM z M' x fs
theorem aO{cs:List Str}{nm:Str}{S:Str->SpM}{pl:Sem Bool}(C:∀ x,x∈cs->CalMth X.prog X.w X.K X.mg X.base n x nm ps (lSpM X.K (S x)))(hx:XOkM X)(hr:Room m X.A)(ho:ME X o te)(ha:MA X (e::es) t)(hex:X.ex=[]:=by rfl)(hn:n<=m:=by decide)
  (hst:zSE X e es:=by rfl) (hpl:zPL X pos es:=by rfl)
  (ht:eval (.Call (.Attribute o nm apos) (e::es) [] pos) X.env=(do
   let ov <- eval o X.env
   standAt apos.atName
   let (f,first) <- holding [ov] (getMethod ov nm pl)
   callWith pos f first (backTo pos (starEach (e::es) X.env)) (backToKw pos (keywordEach [] X.env))):=by rfl):
  ME X (.Call (.Attribute o nm apos) (e::es) [] pos) (lU cs nm S te t):=by
 refine⟨λpins s σ H Q I h=>?_⟩
 obtain⟨Fr,z,M,k,rs,R,h1,h2⟩:=h
 refine methodCall_KW (pl:=pl) (thn (ho.out pins s σ H (λv H1=>∃ d M1 F1,GrowM M M1 Fr H F1 H1/\Rep X.K F1 d v/\RepM X.K F1 H1 M1/\∃ x,x∈cs/\∃ fs,cP M1 d x fs/\fs.lookup nm=none/\t z M1 λds M2=>S x (d::ds) M2 R λx fs M'=>J.RM z M' x fs) I ⟨Fr,z,M,k,rs,_,h1,λd v M1 F1 H1 g1 hd rd m1=>⟨d,M1,F1,g1,rd,m1,hd⟩⟩) λu s1 ⟨v,H1,I1,rv,d,M1,F1,g1,rd,m1,x,hxc,fs,hi,hl,hq⟩=>?_) ht
 obtain⟨C',f,fd,hns,hcl,hmt,F,hb⟩:=C x hxc
 obtain⟨a,C2,dx,ws,rfl,hns',hH,rf⟩:=gz g1.fh m1 rd hi
 rw[hns] at hns'
 cases hns'
 obtain rfl:u=Value.ref a:=rv
 refine jW I1 hH hcl hmt (rf.none hl) ?_
 refine callWith_K (first:=[.ref a]) (h₀:=X.base) I.ok.mod.kin hmt.kp (thn (ha.out pos pins s1 σ H1 (λvs H2=>lSpM X.K (S x) (.ref a::vs) H2 Q (EX X z σ)) I1 ⟨F1,z,M1,k.growM rs.mb g1,rs.growM k.bh g1 m1,_,hq,λds vs M2 F2 H2 g2 hx rx m2=>gA k rs (g1.trans g2) m2 (reps_cons.mpr ⟨_,_,rfl,rd.mono g2.ff,rx⟩) hx h2⟩) λus s2 ⟨vs,H2,I2,r,q2⟩=>⟨I2.kIn,?_⟩) hst hpl
 exact eo (us:= .ref a::us) (vs:= .ref a::vs) F (hr.mono hn) hb (λe s' hq=>hx.out hex I2 hq) I2 (.cons rfl r) q2
theorem cz{cs:List Str}{nm:Str}{S:Str->SpM}{pl:Sem Bool}(C:∀ x,x∈cs->CalMth X.prog X.w X.K X.mg X.base n x nm ps (lSpM X.K (S x)))(hx:XOkM X)(hr:Room m X.A)(ho:ME X o te)(hex:X.ex=[]:=by rfl)(hn:n<=m:=by decide)
  (ht:eval (.Call (.Attribute o nm apos) [] [] pos) X.env=(do
   let ov <- eval o X.env
   standAt apos.atName
   let (f,first) <- holding [ov] (getMethod ov nm pl)
   callWith pos f first (backTo pos (starEach [] X.env)) (backToKw pos (keywordEach [] X.env))):=by rfl):
  ME X (.Call (.Attribute o nm apos) [] [] pos) (lU cs nm S te mNil):=by
 refine⟨λpins s σ H Q I h=>?_⟩
 obtain⟨Fr,z,M,k,rs,R,h1,h2⟩:=h
 refine methodCall_KW (pl:=pl) (thn (ho.out pins s σ H (λv H1=>∃ d M1 F1,GrowM M M1 Fr H F1 H1/\Rep X.K F1 d v/\RepM X.K F1 H1 M1/\∃ x,x∈cs/\∃ fs,cP M1 d x fs/\fs.lookup nm=none/\S x [d] M1 R λx fs M'=>J.RM z M' x fs) I ⟨Fr,z,M,k,rs,_,h1,λd v M1 F1 H1 g1 hd rd m1=>⟨d,M1,F1,g1,rd,m1,hd⟩⟩) λu s1 ⟨v,H1,I1,rv,d,M1,F1,g1,rd,m1,x,hxc,fs,hi,hl,hq⟩=>?_) ht
 obtain⟨C',f,fd,hns,hcl,hmt,F,hb⟩:=C x hxc
 obtain⟨a,C2,dx,ws,rfl,hns',hH,rf⟩:=gz g1.fh m1 rd hi
 rw[hns] at hns'
 cases hns'
 obtain rfl:u=Value.ref a:=rv
 refine jW I1 hH hcl hmt (rf.none hl) ?_
 refine callWith_K0 (first:=[.ref a]) I1.kIn hmt.kp (eo (E:=EX X z σ) (us:=[.ref a]) (vs:=[.ref a]) F (hr.mono hn) hb (λe s' hq=>hx.out hex I1 hq) I1 (.cons rfl .nil) ?_)
 exact gA k rs g1 m1 (dY rd) hq h2
theorem make_of{C:Addr}{S:SiD}{x:Str}{σ:L2.St}{z:SD}{M M1:MS}{F H F1 H1:Hp}{ds:List D}{vs:List V}{a dx:Addr}{Q:VK}{E:XK}{T:List (Str × D)->Prop}(g1:GrowM M M1 F H F1 H1)(m1:RepM X.K F1 H1 M1)(rx:Reps X.K F1 ds vs)(hS:S ds T)
  (ha:H1 a=none) (hdx:H1 dx=none) (hne:dx≠a) (q:∀ fs ws dx F' H',Grow F1 H1 F' H'->T fs->H' a=some (.ins C dx ws)->F' a=none->RepF X.K F' fs ws->Q (.ref a) H'):
  lSi X.K C S (.ref a::(vs++[])) (upd (upd H1 dx (.own a)) a (.ins C dx [])) (λv H2=>v= .non/\Q (.ref a) H2) E:=
 ⟨a,dx,vs,H1,F1,ds,by rw[yf],rfl,ha,hdx,hne,g1.fh,rx,_,hS,λfs ws dx' F' H' g hR hHa hFa rf=>⟨rfl,q fs ws dx' F' H' g hR hHa hFa rf⟩⟩
def sM(x:Str)(S:SiD)(t:TMA):TME:=λz M R=>t z M λds M1=>S ds λfs=>R (.obj x fs) M1
theorem eI{S:SiD}(M:CalM X.prog X.w X.K X.mg X.base n x ps S)(hr:Room m X.A)(ha:MA X (e::es) t)(hg:Gl X x:=by rfl)(hn:n+1<=m:=by decide)(hdb:zND x:=by decide)
  (he:zSE X e es:=by rfl) (hpl:zPL X pos es:=by rfl):
  ME X (.Call (.Name x p) (e::es) [] pos) (sM x S t):=by
 obtain⟨C,f,fd,hns,hmg,mk,F,hb⟩:=M
 refine⟨(fT mk F (hr.mono hn) hg hmg hb .nil dh ha.out hdb he hpl).anti λs H Q q=>?_⟩
 obtain⟨F,z,M,k,rs,R,h1,h2⟩:=q
 refine⟨F,z,M,k,rs,_,h1,λds vs M1 F1 H1 g1 hx rx m1=>?_⟩
 intro a dx ha hdx hne
 refine make_of (σ:=s) (z:=z) (x:=x) g1 m1 rx hx ha hdx hne λfs ws dx F' H' g hR hHa hFa rf=>?_
 have s1:Same F' (upd F' a (.ins C dx ws)):=aK hFa _
 have g2:Grow F1 H1 (upd F' a (.ins C dx ws)) H':=⟨g.ff.trans s1,λb o q=>by
  by_cases hb:b=a
  ·subst hb;rw[av] at q;cases q;exact hHa
  ·rw[ah hb] at q;exact g.fh b o q,g.hh,λb q1 q2=>by
  by_cases hb:b=a
  ·subst hb;exact absurd ha q2
  ·rw[ah hb];exact g.out b q1 q2⟩
 exact h2 (.obj x fs) (.ref a) M1 (upd F' a (.ins C dx ws)) H' (g1.trans g2.toM) hR (rep_obj.mpr ⟨a,C,dx,ws,rfl,hns,av,RepF.mono s1 fs ws rf⟩) (m1.grow g2)
def sN(x:Str)(S:SiD)(t:TMA):TME:=λz M R=>t z M λds M1=>S ds λfs=>∀ a,a ∉ ak M1->R (.ptr a) ((a,.ins x fs)::M1)
theorem sO{S:SiD}(M:CalM X.prog X.w X.K X.mg X.base n x ps S)(hr:Room m X.A)(ha:MA X (e::es) t)(hg:Gl X x:=by rfl)(hn:n+1<=m:=by decide)(hdb:zND x:=by decide)
  (he:zSE X e es:=by rfl) (hpl:zPL X pos es:=by rfl):
  ME X (.Call (.Name x p) (e::es) [] pos) (sN x S t):=by
 obtain⟨C,f,fd,hns,hmg,mk,F,hb⟩:=M
 refine⟨(fT mk F (hr.mono hn) hg hmg hb .nil dh ha.out hdb he hpl).anti λs H Q q=>?_⟩
 obtain⟨F,z,M,k,rs,R,h1,h2⟩:=q
 refine⟨F,z,M,k,rs,_,h1,λds vs M1 F1 H1 g1 hx rx m1=>?_⟩
 intro a dx ha hdx hne
 refine make_of (σ:=s) (z:=z) (x:=x) g1 m1 rx hx ha hdx hne λfs ws dx F' H' g hR hHa hFa rf=>?_
 have na:a ∉ ak M1:=λz=>m1.here z ha
 have m2:=m1.grow g
 refine h2 (.ptr a) (.ref a) _ F' H' (g1.trans ⟨g.ff,g.fh,λb o _ q=>g.hh b o q,λb _ q1 q2=>g.out b q1 q2,λb q=>?_⟩) (hR a na) (rep_ptr.mpr rfl) ⟨yw.mpr ⟨na,m2.nd⟩,λb o q=>?_,λb q=>?_⟩
 ·rcases xP.mp q with q|q
  ·exact .inr (by rw[q];exact ha)
  ·exact .inl q
 ·rcases xP.mp q with q|q
  ·cases q;exact⟨C,dx,ws,hns,hHa,rf⟩
  ·exact m2.ok b o q
 ·rcases xP.mp q with q|q
  ·rw[q];exact hFa
  ·exact m2.fr b q
end
section
variable {X:Cx}{x:Str}{e:Expr}{es:List Expr}{t:TA}{p cpos pos:Pos}{n m:Nat}{ps:List Str}{S:SiD}
def eJ(X:Cx)(σ:L2.St)(F1 H1:Hp)(x:Str)(fs:List (Str × D)):Prop:=∀ F' H' s' e C od,Inv X [] σ H' s'->Grow F1 H1 F' H'->ErrD X.K F' x fs C od->Exd X H' s' e C od->X.xe (.ref e) s'
theorem sP(M:CalE X.prog X.w X.K X.mg X.base n x ps S)(hr:Room m X.A)(hc:X.calm=true)(ha:PA X (e::es) t)(hex:X.ex=[]:=by rfl)(hg:Gl X x:=by rfl)(hn:n+1<=m:=by decide)(hdb:zND x:=by decide)
  (he:zSE X e es:=by rfl) (hpl:zPL X cpos es:=by rfl):
  PS X (.Raise (some (.Call (.Name x p) (e::es) [] cpos)) none pos) (λ_ σ H=>t σ H λvs H1=>vs.length<=1000/\∃ F1 ds,Same F1 H1/\Reps X.K F1 ds vs/\∃ T:List (Str × D)->Prop,S ds T/\∀ fs,T fs->eJ X σ F1 H1 x fs):=by
 obtain⟨C,N,bm,f,fd,k,hi,hfn,Fn,hb⟩:=M
 intro pins s σ H D I h
 obtain⟨nm,q,bs,sn,sub,ab,col,dd,k0,k1,k2,k3,k5,lk⟩:=k.obj
 refine kC (nm:=nm) (q:=q) (C:=C) (N:=N) (bs:=bs) (bm:=bm) (hdct:=true) (sn:=sn) (sub:=sub) (ab:=ab) (col:=col) (dd:=dd) (k0:=k0) (k1:=k1) (k2:=k2) (k3:=k3) (k5:=k5) (newId:="ValueError.__new__") k.base (I.ok.hd hc) ?_
 refine wpAny_Call_Name_kw (bJ I hg k.mg ?_ hdb)
 refine callWith_K (h₀:=X.base) I.ok.mod.kin k.kp (thn (ha cpos pins s σ H _ I h) λus s1 ⟨vs,H1,I1,r,hl,F1,ds,fh1,rx,T,hS,hT⟩=>⟨I1.kIn,?_⟩) he hpl
 have hC:=I1.kIn _ _ lk
 have hlu:us.length<=sizeLine:=by rw[<- L2.Vals.length r];exact sz hl
 refine qy (g:=s1.gens) (d:=s1.drawn) (t:=s1.toks) (os:=s1.os) (rest:=us) I1.kIn (tail_of_in I1.kIn k.tail) hC hi (beq_iff_eq.mp hfn) (λh' ea hm=>?_) hlu
 have I2:=Inv.newx I1 hex hm
 have r2:Vals (V.ref ea::vs) (Value.ref ea::us):= .cons rfl r
 have He:H1 ea=none:=eu I1.hok hm.new
 have hsp:lEi X.K C S (V.ref ea::vs) (upd H1 ea (XN ea C none)) (λv H'=>v= .non/\∃ fs od F',Grow F1 H1 F' H'/\eJ X σ F1 H1 x fs/\H' ea=some (XN ea C od)/\F' ea=none/\ErrF X.K F' fs od) (λ_ _ _=>False):=
  ⟨ea,vs,H1,F1,ds,rfl,rfl,He,fh1,rx,_,hS,λfs od F' H' g hR h1 h2 h3=>⟨rfl,fs,od,F',g,hT fs hR,h1,h2,h3⟩⟩
 have hlen:(Value.ref ea::us).length=ps.length:=by rw[<- L2.Vals.length r2];exact Fn.len _ _ _ _ hsp
 have hb':=hb {s1 with heap:=h'} (Value.ref ea::us) I2.kIn (by rw[yf];exact hlen)
 rw[yf] at hb'
 refine wpAny_call (codeAny_mono (Fn.run _ X.stack _ _ ⟨Value.ref ea::us,[]⟩ (Value.ref ea::us) _ _ _ ((hr.mono hn).make C us []) (I2.env0.make C us []) hb' r2 hsp) λrr s' hq=>?_)
 cases rr with
 |error e'=>exact(dh (X:=X) pins σ _ _ e' s' I2 hq:X.xe e' s')
 |ok fl=>
  cases fl with
  |next=>exact False.elim hq
  |brk=>exact False.elim hq
  |cont=>exact False.elim hq
  |ret u=>
   obtain⟨v,H',I3,rv,rfl,fs,od,F',g,hR,hXN,hFe,er⟩:=I2.after hq
   obtain rfl:u=Value.none:=rv
   refine⟨rfl,?_⟩
   have e0:X.s₀.heap.get? ea=none:=bV I1 hex hm.new
   have I4:=Inv.drop I3 hXN e0
   obtain⟨ta,sl,hget⟩:=XN.get I3.hok hXN
   have g4:Grow F1 H1 F' (del H' ea):=⟨g.ff,λb o q=>by
    have:b≠ea:=λz=>by rw[z,hFe] at q;cases q
    rw[bA this];exact g.fh b o q,λb o q=>by
    have:b≠ea:=λz=>by rw[z,He] at q;cases q
    rw[bA this];exact g.hh b o q,g.out⟩
   refine⟨ea,ta,od,sl,rfl,I3.kIn _ _ lk,hget,?_⟩
   exact hR F' (del H' ea) s' ea C od (Inv.nopins I4) g4 ⟨k.ns,er⟩ ⟨dw,e0,pn_free I1 hm.new,.inl ⟨sl,_,hget,rfl⟩⟩
theorem sQ(h:∃ C N bm,ErrK X.K X.mg x C N bm/\ErrN X.K N)(hc:X.calm=true)(ha:PA X (e::es) t)(hex:X.ex=[]:=by rfl)(hg:Gl X x:=by rfl)(hdb:zND x:=by decide)
  (he:zSE X e es:=by rfl) (hpl:zPL X cpos es:=by rfl):
  PS X (.Raise (some (.Call (.Name x p) (e::es) [] cpos)) none pos) (λ_ σ H=>t σ H λvs H1=>vs.length<=1000/\∃ F1,Same F1 H1/\eJ X σ F1 H1 x []):=by
 obtain⟨C,N,bm,k,kn⟩:=h
 intro pins s σ H D I h
 obtain⟨nm,q,bs,sn,sub,ab,col,dd,k0,k1,k2,k3,k5,lk⟩:=k.obj
 refine kC (nm:=nm) (q:=q) (C:=C) (N:=N) (bs:=bs) (bm:=bm) (hdct:=true) (sn:=sn) (sub:=sub) (ab:=ab) (col:=col) (dd:=dd) (k0:=k0) (k1:=k1) (k2:=k2) (k3:=k3) (k5:=k5) (newId:="ValueError.__new__") k.base (I.ok.hd hc) ?_
 refine wpAny_Call_Name_kw (bJ I hg k.mg ?_ hdb)
 refine callWith_K (h₀:=X.base) I.ok.mod.kin k.kp (thn (ha cpos pins s σ H _ I h) λus s1 ⟨vs,H1,I1,r,hl,F1,fh1,hR⟩=>⟨I1.kIn,?_⟩) he hpl
 have hC:=I1.kIn _ _ lk
 obtain⟨hp,gg,dr,tk,os⟩:=s1
 refine wpAny_call_exc_subT PySem.F.excBase_ValueError (tail_of_in I1.kIn k.tail) hC (.of_isNs (isNs_of_in I1.kIn kn.ok)) (nsMap_none_of_in I1.kIn kn.ok kn.no) (λh' ea hm=>?_) (by show us.length<=_;rw[<- L2.Vals.length r];exact sz hl)
 obtain⟨ta,h1,h2,h3⟩:=hm.there
 have I2:Inv X pins σ H1 ⟨h',gg,dr,tk,os⟩:=I1.kept (t':=tk) hm.keeps
 refine⟨ea,ta,none,#[],rfl,hm.keeps _ _ hC,h1,?_⟩
 exact hR F1 H1 _ ea C none (Inv.nopins I2) (Grow.refl fh1) ⟨k.ns,[],repf_nil.mpr rfl,.inl ⟨rfl,rfl⟩⟩ ⟨eu I1.hok hm.new,bV I1 hex hm.new,pn_free I1 hm.new,.inl ⟨#[],_,h1,rfl⟩⟩
end
section
variable {X:Cx}[J:Jm]{x:Str}{e:Expr}{es:List Expr}{t:TMA}{p cpos pos:Pos}{n m:Nat}{ps:List Str}{S:SiD}
def sR(x:Str)(S:SiD)(t:TMA):TMS:=λ_ z M=>t z M λds M1=>ds.length<=1000/\S ds λfs=>J.RM z M1 x fs
theorem lV{σ:L2.St}{z:SD}{M M1:MS}{F H F1 H1:Hp}{fs:List (Str × D)}(hx:XOkM X)(k:Kept J.B J.F0 F H)(rs:RepZ X.K J.B F H z σ M)(g1:GrowM M M1 F H F1 H1)(m1:RepM X.K F1 H1 M1)(hR:J.RM z M1 x fs):eJ X σ F1 H1 x fs:=λF' H' s' e C od I g er ex=>
 hx σ z M1 F' H' s' e C od x fs I ((k.growM rs.mb g1).grow g) ((rs.growM k.bh g1 m1).growM (k.growM rs.mb g1).bh g.toM (m1.grow g)) hR er ex
theorem gB(M:CalE X.prog X.w X.K X.mg X.base n x ps S)(hr:Room m X.A)(hx:XOkM X)(hc:X.calm=true)(ha:MA X (e::es) t)(hex:X.ex=[]:=by rfl)(hg:Gl X x:=by rfl)(hn:n+1<=m:=by decide)(hdb:zND x:=by decide)
  (he:zSE X e es:=by rfl) (hpl:zPL X cpos es:=by rfl):
  MSt X (.Raise (some (.Call (.Name x p) (e::es) [] cpos)) none pos) (sR x S t):=⟨(sP M hr hc ha.out hex hg hn hdb he hpl).anti λE s H q=>by
 obtain⟨F0,F,z,M,k,rs,ED,h,ee⟩:=q
 exact⟨F,z,M,k.kf,rs,_,h,λds vs M1 F1 H1 g1 hx' rx m1=>⟨by rw[rx.length];exact hx'.1,F1,ds,g1.fh,rx,_,hx'.2,λfs hR=>lV hx k.kf rs g1 m1 hR⟩⟩⟩
def sS(x:Str)(t:TMA):TMS:=λ_ z M=>t z M λds M1=>ds.length<=1000/\J.RM z M1 x []
theorem sT(h:∃ C N bm,ErrK X.K X.mg x C N bm/\ErrN X.K N)(hx:XOkM X)(hc:X.calm=true)(ha:MA X (e::es) t)(hex:X.ex=[]:=by rfl)(hg:Gl X x:=by rfl)(hdb:zND x:=by decide)
  (he:zSE X e es:=by rfl) (hpl:zPL X cpos es:=by rfl):
  MSt X (.Raise (some (.Call (.Name x p) (e::es) [] cpos)) none pos) (sS x t):=⟨(sQ h hc ha.out hex hg hdb he hpl).anti λE s H q=>by
 obtain⟨F0,F,z,M,k,rs,ED,h,ee⟩:=q
 exact⟨F,z,M,k.kf,rs,_,h,λds vs M1 F1 H1 g1 hx' rx m1=>⟨by rw[rx.length];exact hx'.1,F1,g1.fh,lV hx k.kf rs g1 m1 hx'.2⟩⟩⟩
end
section
variable {X:Cx}[J:Jm]{a b c e:Expr}{ta tb tc te:TME}{pos:Pos}{st:Stmt}{rest:List Stmt}{t u:TMS}
def sU:TMS:=λE z M=>E.nx z M
def mSeq(t u:TMS):TMS:=λE z M=>t {E with nx:=u E} z M
theorem bq:MSs X [] sU:=⟨pss_nil.anti λE s H q=>by
 obtain⟨F0,F,z,M,k,rs,ED,h,e⟩:=q
 exact e.nx z s M F H k h rs⟩
theorem ar(h1:MSt X st t)(h2:MSs X rest u):MSs X (st::rest) (mSeq t u):=⟨(cZ h1.out h2.out).anti λE s H q=>by
 obtain⟨F0,F,z,M,k,rs,ED,h,e⟩:=q
 exact⟨F0,F,z,M,k,rs,{ED with nx:=u ED},h,⟨λz' s' M' F' H' k' hz r'=>⟨F0,F',z',M',k',r',ED,hz,e⟩,e.rt,e.bk,e.ct⟩⟩⟩
theorem ay(h1:MSt X st t):MSs X [st] t:=⟨jz h1.out⟩
def mRet(te:TME):TMS:=λE z M=>te z M E.rt
theorem aE(he:ME X e te):MSt X (.Return (some e) pos) (mRet te):=⟨(jB he.out).anti λE s H q=>by
 obtain⟨F0,F,z,M,k,rs,ED,h,e⟩:=q
 exact⟨F,z,M,k.kf,rs,_,h,λd v M' F' H' g hd rd m'=>e.rt d v M' F' H' (k.growM rs.mb g) hd rd m' (rs.growM k.bh g m').mb⟩⟩
def sV(te:TME):TMS:=λE z M=>te z M λ_ M1=>E.nx z M1
theorem bN(he:ME X e te)(hs:swapsWith e none pos.line X.env=pure false:=by rfl):MSt X (.Expr e pos) (sV te):=⟨(jA he.out hs).anti λE s H q=>by
 obtain⟨F0,F,z,M,k,rs,ED,h,e⟩:=q
 exact⟨F,z,M,k.kf,rs,_,h,λd v M' F' H' g hd rd m'=>e.nx z s M' F' H' (k.growM rs.mb g) hd (rs.growM k.bh g m')⟩⟩
def mIfS(c:TMT)(t u:TMS):TMS:=λE z M=>c z M λb M1=>if b=true then t E z M1 else u E z M1
theorem bB{c:Expr}{l r:List Stmt}{tc:TMT}(hc:MT X c tc)(ha:MSs X l t)(hb:MSs X r u):MSt X (.If c l r pos) (mIfS tc t u):=⟨(jC hc.out ha.out hb.out).anti λE s H q=>by
 obtain⟨F0,F,z,M,k,rs,ED,h,e⟩:=q
 refine⟨F,z,M,k.kf,rs,_,h,λb M1 F1 H1 g hk m1=>?_⟩
 cases b with
 |true=>exact⟨F0,F1,z,M1,k.growM rs.mb g,rs.growM k.bh g m1,ED,hk,e⟩
 |false=>exact⟨F0,F1,z,M1,k.growM rs.mb g,rs.growM k.bh g m1,ED,hk,e⟩⟩
def mIfJ(c:TMT)(t u:TMS):TMS:=λE z M=>∃ J:SD->MS->Prop,(c z M λb M1=>if b=true then t {E with nx:=J} z M1 else u {E with nx:=J} z M1)/\∀ z' M',J z' M'->E.nx z' M'
theorem lW{c:Expr}{l r:List Stmt}{tc:TMT}(hc:MT X c tc)(ha:MSs X l t)(hb:MSs X r u):MSt X (.If c l r pos) (mIfJ tc t u):=⟨(bB hc ha hb).out.anti λE s H q=>by
 obtain⟨F0,F,z,M,k,rs,ED,⟨J,h,j⟩,e⟩:=q
 exact⟨F0,F,z,M,k,rs,{ED with nx:=J},h,⟨λz' s' M' F' H' k' hz r'=>e.nx z' s' M' F' H' k' (j z' M' hz) r',e.rt,e.bk,e.ct⟩⟩⟩
def mSet(i:Nat)(te:TME):TMS:=λE z M=>∃ P:D->MS->Prop,te z M P/\∀ d M',P d M'->E.nx (z.set i (some d)) M'
theorem aI(i:Nat){x:Str}{pos':Pos}(hN:X.N.Nodup)(he:ME X e te)(hi:X.N[i]?=some x:=by rfl)(hx:Loc X.env.scope x:=by first|exact Or.inl rfl|exact Or.inr rfl)(hs:swapsWith e (some (.Name x pos')) pos.line X.env=pure false:=by rfl)
  (hf:zFN X x:=by first|exact .inl rfl|exact .inr rfl|assumption):MSt X (.Assign [.Name x pos'] e pos) (mSet i te):=⟨(jE hN hi hx he.out hs hf).anti λE s H q=>by
 obtain⟨F0,F,z,M,k,rs,ED,⟨P,h,j⟩,e⟩:=q
 exact⟨F,z,M,k.kf,rs,P,h,λd v M' F' H' g hd rd m'=>e.nx _ _ M' F' H' (k.growM rs.mb g) (j d M' hd) ((rs.growM k.bh g m').set rd)⟩⟩
def sW(x f:Str)(to te:TME):TMS:=λE z M=>te z M λd M1=>to z M1 λo M2=>match o with| .ptr a=>∃ fs,mget M2 a=some (.ins x fs)/\fs.length<1000/\E.nx z (mput M2 a (.ins x (putD f d fs)))|_=>False
theorem eK{x f:Str}{o:Expr}{to:TME}{pos':Pos}(hA:ClsA X.K x f)(ho:ME X o to)(he:ME X e te)(hs:swapsWith e (some (.Attribute o f pos')) pos.line X.env=pure false:=by rfl):
  MSt X (.Assign [.Attribute o f pos'] e pos) (sW x f to te):=⟨(jX ho.out he.out hs).anti λE s H q=>by
 obtain⟨C,hn,hc,hf⟩:=hA
 obtain⟨F0,F,z,M,k,rs,ED,h,ee⟩:=q
 refine⟨F,z,M,k.kf,rs,_,h,λd v M1 F1 H1 g1 hx rd m1=>?_⟩
 have k1:=k.growM rs.mb g1
 have rs1:=rs.growM k.bh g1 m1
 refine⟨F1,z,M1,k1.kf,rs1,_,hx,λo' v' M2 F2 H2 g2 hy ro m2=>?_⟩
 have k2:=k1.growM rs1.mb g2
 have rs2:=rs1.growM k1.bh g2 m2
 split at hy
 ·rename_i a
  obtain⟨fs,hm,hl,hnx⟩:=hy
  obtain⟨C',dx,ws,hn',hH,rf⟩:=m2.ok _ _ (bo hm)
  rw[hn] at hn'
  cases hn'
  have fa:=m2.fr a (bF (bo hm))
  refine⟨a,C,dx,ws,rep_ptr.mp ro,hH,hc,hf,by rw[rf.length];exact hl,?_⟩
  have m3:RepM X.K F2 (upd H2 a (.ins C dx (putF f v ws))) (mput M2 a (.ins x (putD f d fs))):=m2.put hm ⟨C,dx,_,hn,av,RepF.put (rd.mono g2.ff) rf⟩
  have g3:GrowM M2 (mput M2 a (.ins x (putD f d fs))) F2 H2 F2 (upd H2 a (.ins C dx (putF f v ws))):=GrowM.put k2.fh fa hm
  exact ee.nx z s _ F2 _ (k2.growM rs2.mb g3) hnx (rs2.growM k2.bh g3 m3)
 ·exact hy.elim⟩
def sX(c:TMT)(tb:TMS):TMS:=λE z M=>∃ W:Nat->SD->MS->Prop,(∃ m,W m z M)/\∀ m z M,W m z M->
 c z M λb M1=>if b=true then tb {E with nx:=λz' M'=>∃ m',m'<m/\W m' z' M',ct:=λz' M'=>∃ m',m'<m/\W m' z' M',bk:=E.nx} z M1 else E.nx z M1
theorem sY{c:Expr}{body:List Stmt}{tc:TMT}{tb:TMS}(hp:PassesOwn (model X.prog X.w) X.A X.env X.xe)(hc:MT X c tc)(hb:MSs X body tb):MSt X (.While c body [] pos) (sX tc tb):=⟨(jF hp hc.out hb.out).anti λE s H q=>by
 obtain⟨F0,F,z,M,k,rs,ED,⟨W,⟨m0,w0⟩,turn⟩,e⟩:=q
 refine⟨λm s' H'=>∃ F' z' M',Kept J.B F0 F' H'/\RepZ X.K J.B F' H' z' s' M'/\W m z' M',⟨m0,F,z,M,k,rs,w0⟩,?_⟩
 rintro m s1 H1 ⟨F1,z1,M1,k1,r1,w1⟩
 refine⟨F1,z1,M1,k1.kf,r1,_,turn m z1 M1 w1,λb M2 F2 H2 g2 hk m2=>?_⟩
 cases b with
 |true=>
  refine⟨λs3 H3=>∃ F3 z3 M3,Kept J.B F0 F3 H3/\RepZ X.K J.B F3 H3 z3 s3 M3/\∃ m',m'<m/\W m' z3 M3,λs3 H3 ⟨F3,z3,M3,k3,r3,m',l,w3⟩=>⟨m',l,F3,z3,M3,k3,r3,w3⟩,?_⟩
  exact⟨F0,F2,z1,M2,k1.growM r1.mb g2,r1.growM k1.bh g2 m2,_,hk,⟨λz3 s3 M3 F3 H3 k3 h3 r3=>⟨F3,z3,M3,k3,r3,h3⟩,e.rt,e.nx,λz3 s3 M3 F3 H3 k3 h3 r3=>⟨F3,z3,M3,k3,r3,h3⟩⟩⟩
 |false=>exact e.nx z1 s1 M2 F2 H2 (k1.growM r1.mb g2) hk (r1.growM k1.bh g2 m2)⟩
end
end My
end
section
open PySem PySem.Spec PyProof.Rows L2
namespace My
open Exc
section
variable {X:Cx}[J:Jm]{a b c e o:Expr}{ta tb tc te to:TME}{pos:Pos}{st:Stmt}{rest:List Stmt}{t u:TMS}
abbrev TMI:=SD->MS->(List D->MS->Prop)->Prop
def mItR(t:TME):TMI:=λz M R=>t z M λx M1=>match x with| .int n=>(0<=n/\n<2 ^ 62)/\R ((xR n.toNat).map λk=>D.int ((k:Nat):Int)) M1|_=>False
def mFor(i:Nat)(ti:TMI)(tb:TMS):TMS:=λE z M=>ti z M λds M1=>∃ W:Nat->SD->MS->Prop,W 0 z M1/\(∀ k x z M,ds[k]?=some x->W k z M->tb {E with nx:=W (k+1),ct:=W (k+1),bk:=E.nx} (z.set i (some x)) M)/\∀ z M,W ds.length z M->E.nx z M
theorem sZ(i:Nat){x:Str}{p p1 p2:Pos}{body:List Stmt}{tb:TMS}(hp:PassesOwn (model X.prog X.w) X.A X.env X.xe)(hc:X.calm=true)(hN:X.N.Nodup)(hm:X.mg "range"=none)(he:ME X e te)(hb:MSs X body tb)(hg:Gl X "range":=by rfl)(hi:X.N[i]?=some x:=by rfl)(hx:Loc X.env.scope x:=by first|exact Or.inl rfl|exact Or.inr rfl)
  (hf:zFN X x:=by first|exact .inl rfl|exact .inr rfl|assumption) (hs:∀ y,zFS X (.Call (.Name "range" p1) [e] [] p2) y:=by exact λ_=>rfl) (hse:zSE X e []:=by rfl) (hse2:starEach [e] X.env=[(false,eval e X.env)]:=by rfl):
  MSt X (.For (.Name x p) (.Call (.Name "range" p1) [e] [] p2) body [] pos) (mFor i (mItR te) tb):=⟨(da hp hc (fO hg hm (bg he.out pa_nil hse) hse2) (dJ hN hi hx hf) hb.out hs).anti λE s H q=>by
 obtain⟨F0,F,z,M,kp,rs,ED,h,e⟩:=q
 refine⟨F,z,M,kp.kf,rs,_,h,λd v M1 F1 H1 g1 hd rd m1=>?_⟩
 split at hd
 ·rename_i n
  obtain⟨⟨b1,b2⟩,W,w0,turn,out⟩:=hd
  have hl:((xR n.toNat).map λk=>D.int ((k:Nat):Int)).length=n.toNat:=by simp
  refine⟨n,by rw[rep_int.mp rd],by omega,b2,fP (lo:=0) (n:=n.toNat) (λk s' H'=>∃ F' z' M',Kept J.B F0 F' H'/\RepZ X.K J.B F' H' z' s' M'/\W k z' M') ⟨F1,z,M1,kp.growM rs.mb g1,rs.growM kp.bh g1 m1,w0⟩ ?_ ?_⟩
  ·rintro k s' H' hk ⟨F',z',M',k',r',w'⟩
   have e1:(0:Int)+(k:Int)=(k:Int):=by omega
   exact⟨F0,F',_,M',k',r'.set (d:= .int (k:Int)) (rep_int.mpr (by rw[e1])),_,turn k (.int (k:Int)) z' M' (by simp[hk]) w',⟨λz3 s3 M3 F3 H3 k3 h3 r3=>⟨F3,z3,M3,k3,r3,h3⟩,e.rt,e.nx,λz3 s3 M3 F3 H3 k3 h3 r3=>⟨F3,z3,M3,k3,r3,h3⟩⟩⟩
  ·rintro s' H' ⟨F',z',M',k',r',w'⟩
   exact e.nx z' s' M' F' H' k' (out z' M' (by rw[hl];exact w')) r'
 ·exact hd.elim⟩
def tf(te:TME):TME:=λz M R=>te z M λd M1=>match d with| .ptr a=>∃ ds,mget M1 a=some (.lst ds)/\R (.int ds.length) M1|_=>False
theorem tm{p:Pos}(hm:X.mg "len"=none)(ha:ME X e te)(hg:Gl X "len":=by rfl)(he:zSE X e []:=by rfl):ME X (.Call (.Name "len" p) [e] [] pos) (tf te):=⟨(dN fR hg hm PySem.boot_len (bg ha.out pa_nil he) (by decide) (by decide) he).anti λs H Q h=>by
 obtain⟨F,z,M,k,rs,R,h1,h2⟩:=h
 refine⟨F,z,M,k,rs,_,h1,λd v M1 F1 H1 g1 hx rx m1=>?_⟩
 split at hx
 ·rename_i a
  obtain⟨ds,hm,hR⟩:=hx
  obtain⟨vs,hH,rr⟩:=m1.ok _ _ (bo hm)
  exact⟨.ref a,vs.length,by rw[rep_ptr.mp rx],.inl ⟨vs,SqL.of hH,rfl⟩,h2 _ _ M1 F1 H1 g1 hR (rep_int.mpr (by rw[rr.length])) m1⟩
 ·exact hx.elim⟩
def mIxP(ta tb:TME):TME:=λz M R=>ta z M λx M1=>tb z M1 λy M2=>match x,y with| .ptr a,.int i=>∃ ds,mget M2 a=some (.lst ds)/\∃ d,atI ds i=some d/\R d M2|_,_=>False
theorem tq(ha:ME X a ta)(hb:ME X b tb)(hs:cK b:=by exact λ_ _=>rfl):ME X (.Subscript a b pos) (mIxP ta tb):=⟨(pe_ix ix_list ha.out hb.out hs).anti λs H Q h=>by
 obtain⟨F,z,M,k,rs,R,h1,h2⟩:=h
 refine⟨F,z,M,k,rs,_,h1,λx u M1 F1 H1 g1 hx rx m1=>?_⟩
 refine⟨F1,z,M1,k.growM rs.mb g1,rs.growM k.bh g1 m1,_,hx,λy v M2 F2 H2 g2 hy ry m2=>?_⟩
 split at hy
 ·rename_i p i
  obtain⟨ds,hm,d,hd,hR⟩:=hy
  obtain⟨vs,hH,rr⟩:=m2.ok _ _ (bo hm)
  obtain⟨w,e2,rw'⟩:=rr.at hd
  exact⟨p,vs,_,w,rep_ptr.mp rx,rep_int.mp ry,SqL.of hH,e2,h2 d w M2 F2 H2 (g1.trans g2) hR rw' m2⟩
 ·exact hy.elim⟩
def tw(to te:TME):TME:=λz M R=>to z M λo M1=>match o with| .ptr a=>(∃ ds,mget M1 a=some (.lst ds))/\te z M1 λd M2=>∃ ds,mget M2 a=some (.lst ds)/\ds.length<=100000/\R .non (mput M2 a (.lst (ds++[d])))|_=>False
theorem tz{apos cpos:Pos}(ho:ME X o to)(he:ME X e te)(hs1:zSE X e []:=by rfl)
  (hbase:attributeBase o "append" X.env (eval o X.env)=eval o X.env:=by rfl)
  (hfew:zHF X cpos [e]:=by rfl)
  (hline:(apos.endLine==cpos.line)=true:=by rfl):
  ME X (.Call (.Attribute o "append" apos) [e] [] cpos) (tw to te):=⟨(fV PySem.F.plainAttrs_list PySem.F.slot_list_append PySem.F.type_list_append fW ho.out (bg he.out pa_nil hs1) hbase hfew hline hs1).anti λs H Q h=>by
 obtain⟨F,z,M,k,rs,R,h1,h2⟩:=h
 refine⟨F,z,M,k,rs,_,h1,λx u M1 F1 H1 g1 hx rx m1=>?_⟩
 split at hx
 ·rename_i a
  obtain⟨⟨ds0,hm0⟩,hx⟩:=hx
  obtain⟨vs0,hH0,rr0⟩:=m1.ok _ _ (bo hm0)
  rw[rep_ptr.mp rx]
  refine⟨.inl ⟨rfl,vs0,SqL.of hH0⟩,?_⟩
  refine⟨F1,z,M1,k.growM rs.mb g1,rs.growM k.bh g1 m1,_,hx,λd v M2 F2 H2 g2 hd rd m2=>?_⟩
  obtain⟨ds,hm,hl,hR⟩:=hd
  obtain⟨vs,hH,rr⟩:=m2.ok _ _ (bo hm)
  have hz:vs.length<sizeLine:=by
   rw[rr.length]
   have h2:(100000:Nat)<sizeLine:=by decide
   omega
  refine⟨a,vs,v,rfl,rfl,hH,hz,?_⟩
  exact h2 _ _ _ F2 _ (g1.trans (g2.trans (GrowM.put g2.fh (m2.fr a (bF (bo hm))) hm))) hR (rep_non.mpr rfl) (m2.put hm ⟨_,av,rr.append (dY rd)⟩)
 ·exact hx.elim⟩
def frzD:MO->D| .ins x fs=> .obj x fs| .lst ds=> .lst ds| .dti kvs=> .dti kvs
def mFrz(i:Nat)(t:TMS):TMS:=λE z M=>match z[i]? with|some (some (.ptr a))=>∃ o,mget M a=some o/\t E (z.set i (some (frzD o))) (mdel M a)|_=>False
theorem lY(i:Nat){sts:List Stmt}(h:MSs X sts t):MSs X sts (mFrz i t):=⟨PSs.anti h.out λE s H q=>by
 obtain⟨F0,F,z,M,k,rs,ED,h,e⟩:=q
 unfold mFrz at h
 split at h
 ·rename_i a ez
  obtain⟨o,hm,h⟩:=h
  have mem:=bo hm
  have fa:=rs.rm.fr a (bF mem)
  have ba:=rs.mb a (bF mem)
  obtain⟨v,hv,rv⟩:=rs.rs.val i _ ez rfl
  have hva:=rep_ptr.mp rv
  subst hva
  have hok:=rs.rm.ok a o mem
  obtain⟨ho,hHa,hrep⟩:∃ ho,H a=some ho/\∀ F',Same F F'->F' a=some ho->Rep X.K F' (frzD o) (.ref a):=by
   cases o with
   |ins x fs=>obtain⟨C,dx,ws,n,h1,h2⟩:=hok;exact⟨_,h1,λF' s' hF=>rep_obj.mpr ⟨a,C,dx,ws,rfl,n,hF,RepF.mono s' fs ws h2⟩⟩
   |lst ds=>obtain⟨vs,h1,h2⟩:=hok;exact⟨_,h1,λF' s' hF=>rep_lst.mpr ⟨a,vs,rfl,hF,h2.mono s'⟩⟩
   |dti kvs=>exact⟨_,hok,λF' s' hF=>rep_dti.mpr ⟨a,rfl,hF⟩⟩
  have s1:Same F (upd F a ho):=aK fa _
  have hs:s.set i (some (.ref a))=s:=by
   apply zK
   intro n
   by_cases hn:i=n
   ·subst hn
    rw[yq (yi.mp hv).1,hv]
   ·rw[xY hn]
  have k1:Kept J.B F0 (upd F a ho) H:=⟨k.bh,λb u q=>by
   by_cases hb:b=a
   ·subst hb;rw[av] at q;cases q;exact hHa
   ·rw[ah hb] at q;exact k.fh b u q,k.f0.trans s1,λb h1 h2=>by
   by_cases hb:b=a
   ·subst hb;exact absurd ba h2
   ·rw[ah hb];exact k.out b h1 h2,k.eb,k.jf,k.jo⟩
  have r0:RepS X.K J.B (upd F a ho) H z s:=⟨rs.rs.len,λi d e n=>let ⟨v,q1,q2⟩:=rs.rs.val i d e n;⟨v,q1,q2.mono s1⟩,λi ds e=>absurd e (rs.no i ds),rs.rs.apart⟩
  have rm1:RepM X.K (upd F a ho) H (mdel M a):=⟨rs.rm.nd.sublist del_sub,λb q hb=>by
   obtain⟨ne,hb⟩:=gw rs.rm.nd hb
   exact(rs.rm.ok b q hb).mono s1 λ_ z=>z,λb hb=>by
   obtain⟨⟨b',q⟩,hb',rfl⟩:=yH.mp hb
   obtain⟨ne,hb2⟩:=gw rs.rm.nd hb'
   rw[ah ne];exact rs.rm.fr _ (bF hb2)⟩
  have z0:RepZ X.K J.B (upd F a ho) H z s (mdel M a):=⟨r0,rs.no,rm1,λb hb=>rs.mb b (del_sub.subset hb)⟩
  have z1:=z0.set (i:=i) (hrep _ s1 av)
  rw[hs] at z1
  exact⟨F0,_,_,_,k1,z1,ED,h,e⟩
 ·exact h.elim⟩
end
theorem lZ{K:xK}{F:Hp}{N:List Str}{ds:List D}{vs:List V}(rs:Reps K F ds vs):∀ (i:Nat) d,(startD N ds)[i]?≠some (some (.own d)):=by
 intro i d e
 unfold startD at e
 by_cases hi:i<ds.length
 ·rw[yx (by simpa using hi),yn] at e
  cases q:ds[i]? with
  |none=>rw[q] at e;cases e
  |some x=>
   rw[q] at e;cases e
   obtain⟨v,_,q2⟩:=rs.get q
   exact rep_own q2
 ·rw[yM (by simpa using hi),zC] at e
  split at e
  ·cases e
  ·cases e
theorem growM_nil{M':MS}{F H F' H':Hp}(g:GrowM [] M' F H F' H'):Grow F H F' H':=⟨g.ff,g.fh,λb o h=>g.hh b o (λz=>nomatch z) h,λb h1 h2=>g.out b (λz=>nomatch z) h1 h2⟩
section
variable {P:Program}{w:World}{K:xK}{mg:Str->Option Value}{base:Heap}
theorem CalMM.toX{n:Nat}{x:Str}{ps:List Str}{S:SpM}{S0:SpX}(C:CalMM P w K mg base n x ps S)(h:∀ ds R RX,S0 ds R RX->S ds [] (λd _=>R d) λx fs _=>RX x fs):CalX P w K mg base n x ps S0:=by
 obtain⟨f,fd,F,hb,hk,hm⟩:=C
 refine⟨f,fd,F.imp λvs H Q E q=>?_,hb,hk,hm⟩
 obtain⟨F,ds,fh,rs,R,RX,hS,q1,q2⟩:=q
 exact⟨F,ds,[],fh,rs,RepM.nil,_,_,h ds R RX hS,λd v M' F' H' g hd rd _=>q1 d v F' H' (growM_nil g) hd rd,λy fs C od M' F' H' g hR er _=>q2 y fs C od F' H' (growM_nil g) hR er⟩
open Classical in
theorem Fun.okM{x qual:Str}{st:Stmt}{f:Addr}{fd:FuncData}{N ps:List Str}{k:Nat}{S:SpM}(T:Fun K x qual st f fd)(F:FnScope N ps (ad st))(len:∀ ds M R RX,S ds M R RX->ds.length=ps.length)
  (hbody:∀ (cdv:Value) (A:Around) (outer:List Env) (s:Shared) (H:Hp) (E:XK) (J:Jm),Room k (A.deeper (envOfC qual (ad st) s.heap.objs.size f cdv))->XOkM (cxOf (CX1 P w) P w K mg base N qual (ad st) f cdv A outer s H E)->
   ∃ t,MSs (cxOf (CX1 P w) P w K mg base N qual (ad st) f cdv A outer s H E) (aA st) t/\∀ ds M R RX,(∀ z,J.RM z=λM' x fs=>RX x fs M')->S ds M R RX->t {nx:=λ_ M'=>R .non M',rt:=R} (startD N ds) M):FnOk P w K mg base (CX1 P w) (k+1) f fd ps (lSpM K S):=by
 refine Fun.okC T F (λvs H Q E h=>?_) (λcdv A outer s H vs Q E hr h=>?_)
 ·obtain⟨F,ds,M,fh,rs,rm,R,RX,h,_⟩:=h
  rw[rs.length];exact len ds M R RX h
 ·obtain⟨F,ds,M,fh,rs,rm,R,RX,h,q,qx⟩:=h
  let B:Hp:=λb=>if b∈ak M then none else H b
  have hB1:∀ {b:Addr},b∈ak M->B b=none:=λ{b} h=>if_pos h
  have hB2:∀ {b:Addr},b ∉ ak M->B b=H b:=λ{b} h=>if_neg h
  letI:Jm:={B:=B,F0:=F,RX:=λ_ _ _=>False,RM:=λ_ M' x fs=>RX x fs M'}
  have gr:∀ {M':MS} {F' H':Hp},Kept B F F' H'->(∀ a,a∈ak M'->B a=none)->GrowM M M' F H F' H':=λ{M' F' H'} k mb=>⟨k.f0,k.fh,λb o nb e=>k.bh b o (by rw[hB2 nb];exact e),λb nb h1 h2=>k.out b h1 (by rw[hB2 nb];exact h2),λb hb=>by
   by_cases nb:b∈ak M
   ·exact .inl nb
   ·right;rw[<- hB2 nb];exact mb b hb⟩
  have hx:XOkM (cxOf (CX1 P w) P w K mg base N qual (ad st) f cdv A outer s H E):=by
   intro σ z M' F' H' s' e C od y fs I kk rr hR er ⟨He,ne,_,hx⟩
   have hE:E (.ref C) od H':=qx y fs C od M' F' H' (gr kk rr.mb) hR er rr.rm
   rcases hx with⟨sl,vs,h1,h2⟩|⟨T,h1,h2,h3,_⟩
   ·exact qA I h1 h2 He ne hE
   ·exact rJ I h1 ne h2 He h3 hE
  obtain⟨t,ht,hq⟩:=hbody cdv A outer s H E inferInstance hr hx
  have k0:Kept B F F H:=⟨λb o e=>by
   by_cases nb:b∈ak M
   ·rw[hB1 nb] at e;cases e
   ·rw[hB2 nb] at e;exact e,fh,Same.refl F,λ_ h _=>h,rfl,Same.refl F,λ_ h _=>h⟩
  have r0:RepZ K B F H (startD N ds) (L2.start N vs) M:=⟨dl rs,lZ rs,rm,λa h=>hB1 h⟩
  exact⟨_,ht.out,F,F,startD N ds,M,k0,r0,_,hq ds M R RX (λ_=>rfl) h,⟨λz' s' M' F' H' k hn r=>q _ _ M' F' H' (gr k r.mb) hn (rep_non.mpr rfl) r.rm,λd v M' F' H' k hd rd rm' mb=>q d v M' F' H' (gr k mb) hd rd rm',λ_ _ _ _ _ _ h _=>h.elim,λ_ _ _ _ _ _ h _=>h.elim⟩⟩
theorem Tx.okM{x:Str}{st:Stmt}{N ps:List Str}{k:Nat}{S:SpM}(T:Tx K mg x st ps)(F:FnScope N ps (ad st))(len:∀ ds M R RX,S ds M R RX->ds.length=ps.length)
  (hbody:∀ (f:Addr) (cdv:Value) (A:Around) (outer:List Env) (s:Shared) (H:Hp) (E:XK) (J:Jm),Room k (A.deeper (envOfC x (ad st) s.heap.objs.size f cdv))->XOkM (cxOf (CX1 P w) P w K mg base N x (ad st) f cdv A outer s H E)->
   ∃ t,MSs (cxOf (CX1 P w) P w K mg base N x (ad st) f cdv A outer s H E) (aA st) t/\∀ ds M R RX,(∀ z,J.RM z=λM' x fs=>RX x fs M')->S ds M R RX->t {nx:=λ_ M'=>R .non M',rt:=R} (startD N ds) M):CalMM P w K mg base (k+1) x ps S:=by
 obtain⟨f,fd,T,hb,hm⟩:=T
 exact⟨f,fd,Fun.okM T F len λcdv A outer s H E J hr hx=>hbody f cdv A outer s H E J hr hx,hb,T.kp,hm⟩
def Txm(K:xK)(x m:Str)(qual:Str)(st:Stmt)(ps:List Str):Prop:=
 ∃ C f fd,nsIn K mainGlobals x=some (some (.ref C))/\Cls K C/\Meth K C m f/\Fun K m qual st f fd/\Binds K fd ps []
theorem Txm.okM{x m qual:Str}{st:Stmt}{N ps:List Str}{k:Nat}{S:SpM}(T:Txm K x m qual st ps)(F:FnScope N ps (ad st))(len:∀ ds M R RX,S ds M R RX->ds.length=ps.length)
  (hbody:∀ (f:Addr) (cdv:Value) (A:Around) (outer:List Env) (s:Shared) (H:Hp) (E:XK) (J:Jm),Room k (A.deeper (envOfC qual (ad st) s.heap.objs.size f cdv))->XOkM (cxOf (CX1 P w) P w K mg base N qual (ad st) f cdv A outer s H E)->
   ∃ t,MSs (cxOf (CX1 P w) P w K mg base N qual (ad st) f cdv A outer s H E) (aA st) t/\∀ ds M R RX,(∀ z,J.RM z=λM' x fs=>RX x fs M')->S ds M R RX->t {nx:=λ_ M'=>R .non M',rt:=R} (startD N ds) M):CalMth P w K mg base (k+1) x m ps (lSpM K S):=by
 obtain⟨C,f,fd,h1,h2,h3,T,hb⟩:=T
 exact⟨C,f,fd,h1,h2,h3,Fun.okM T F len λcdv A outer s H E J hr hx=>hbody f cdv A outer s H E J hr hx,hb⟩
end
end My
end
section
open PySem PySem.Spec PyProof.Rows L2
namespace L2
section
variable {X:Cx}{pins:List (Addr × Obj)}{σ:St}{H:Hp}{s:Shared}{h':Heap}
theorem Inv.turned2{t':Nat}{e it:Addr}(I:Inv X pins σ H s)(k:∀ b o,b≠e->b≠it->s.heap.get? b=some o->h'.get? b=some o)(he:FpOk X pins H e)(hi:FpOk X pins H it):Inv X pins σ H {s with heap:=h',toks:=t'}:=by
 obtain⟨e0,e1,e2,e3,e4,e5⟩:=he
 obtain⟨i0,i1,i2,i3,i4,i5⟩:=hi
 have nit:∀ b u,H b=some u->b≠e/\b≠it:=λb u q=>⟨(λz=>by rw[z,e0] at q;cases q),(λz=>by rw[z,i0] at q;cases q)⟩
 have nc:∀ {b:Addr},b ∉ [e,it]->b≠e/\b≠it:=λ{b} h=>⟨λz=>h (by simp[z]),λz=>h (by simp[z])⟩
 refine I.step (g':=s.gens) (d':=s.drawn) (ch:=[e,it]) (λb hb=>?_) (λb o _ _ hc q _=>k b o (nc hc).1 (nc hc).2 q) (λb o _ _ hc q _=>⟨o.slots,k b o (nc hc).1 (nc hc).2 q⟩) (λ_ _ _ _ n=>n)
  (λb o hc q=>⟨o,k b o (nc hc).1 (nc hc).2 q⟩) (λ_ _ q=>q) (λ_ _ _ q=>q) (λb ps q=>⟨#[],by rw[q];simp⟩) (λm hm=>?_) (λb u q=>?_) I.bare
 ·rcases xP.mp hb with z|z
  ·rw[z];exact⟨e3,e1,e4,e5⟩
  ·rw[xL.mp z];exact⟨i3,i1,i4,i5⟩
 ·obtain⟨o,es,ep,ho,r⟩:=hm
  exact⟨o,es,ep,k _ o (Ne.symm e1) (Ne.symm i1) ho,r⟩
 ·refine(I.hok b u q).stay (λc v hc q'=>k c v ?_ ?_ q') (λ_ q=>q) λ_ _ q=>q
  ·rcases hc with z|z
   ·rw[z];exact(nit b u q).1
   ·exact(nit c _ z).1
  ·rcases hc with z|z
   ·rw[z];exact(nit b u q).2
   ·exact(nit c _ z).2
end
def Itel(K:xK)(a:Addr):It:=
 ⟨λi H=>∃ xs x,SqL K H a xs/\xs[i]?=some x,λi H x H'=>∃ T v,H T=none/\x= .ref T/\H'=upd H T (.tup [.int i,v])/\∀ xs,SqL K H a xs->xs[i]?=some v,λi H=>∃ xs,SqL K H a xs/\xs.length<=i⟩
def Ites(x:Str):It:=⟨λi _=>i<x.length,λi H v H'=>∃ T c,H T=none/\v= .ref T/\H'=upd H T (.tup [.int i,.str ⟨#[c]⟩])/\x.cps[i]?=some c,λi _=>i=x.length⟩
theorem tD{P:Program}{w:World}{H:Hp}{h:Heap}{T:Addr}{i:Int}{t:Tok}{v:V}{u:Value}(r:RelV v u)(q:h.get? T=some {cls:= .type "tuple",data:= .seq #[.int i t,u]}):ObjOk P w H h T (.tup [.int i,v]):=
 ⟨by show 2<=sizeLine;decide,[.int i t,u],.cons ⟨t,rfl⟩ (.cons r .nil),⟨_,q,rfl,_,rfl⟩⟩
theorem ma{X:Cx}{pins:List (Addr × Obj)}{σ:St}{H:Hp}{s:Shared}{h':Heap}{t':Nat}{e it:Addr}{i:Int}{t:Tok}{v:V}{u:Value}(I:Inv X pins σ H s)(he:FpOk X pins H e)(hi:FpOk X pins H it)(le:e<s.heap.objs.size)(li:it<s.heap.objs.size)(r:RelV v u)
  (hT:h'.get? s.heap.objs.size=some {cls:= .type "tuple",data:= .seq #[.int i t,u]}) (hk:∀ b o,b≠e->b≠it->s.heap.get? b=some o->h'.get? b=some o):Inv X pins σ (upd H s.heap.objs.size (.tup [.int i,v])) {s with heap:=h',toks:=t'}:=by
 have I1:Inv X pins σ (upd H s.heap.objs.size (.tup [.int i,v])) {s with heap:=s.heap.push {cls:= .type "tuple",data:= .seq #[.int i t,u]},toks:=t'}:=
  I.laid (λb o q=>Heap.get?_push_of_some _ q) (xM _) (tD r (Heap.get?_push_size _ rfl))
 have fp:∀ {b:Addr},FpOk X pins H b->b<s.heap.objs.size->FpOk X pins (upd H s.heap.objs.size (.tup [.int i,v])) b:=λ{b} h l=>⟨by rw[ah (xQ l)];exact h.1,h.2⟩
 refine I1.turned2 (h':=h') (t':=t') (λb o h1 h2 q=>?_) (fp he le) (fp hi li)
 rcases Heap.get?_push_cases (show(s.heap.push {cls:= .type "tuple",data:= .seq #[.int i t,u]}).get? b=some o from q) with⟨rfl,rfl⟩|q2
 ·exact hT
 ·exact hk b o h1 h2 q2
theorem tE{P:Program}{w:World}{K:xK}{elts:List Expr}{x1:Nat}{tp:Pos}(a e it:Addr)(hei:e≠it):Turn P w K (.Tuple elts x1 tp) (Itel K a) [e,it] e (λi h=>(∃ old,IsEnum h e it i old)/\h.IsListIter it a i) where
 mem:=by simp
 obj:=λi h st b hb=>by
  obtain⟨⟨old,he⟩,hit⟩:=st
  rcases xP.mp hb with z|z
  ·rw[z];exact⟨_,he,λv z=>by cases z⟩
  ·rw[xL.mp z]
   obtain⟨o,ho,c,d⟩:=hit
   exact⟨o,ho,λv z=>by rw[d] at z;cases z⟩
 keep:=λi h h' st k=>⟨let ⟨old,he⟩:=st.1;⟨old,k e (by simp) _ he⟩,st.2.at λo q=>k it (by simp) o q⟩
 item:=by
  intro X hP hw hK hc i pins s σ H E I hf st hg
  subst hP hw hK
  obtain⟨xs,x,hq,hx⟩:=hg
  obtain⟨its,rv,p,hz⟩:=I.list hq
  obtain⟨u,hu,ru⟩:=rv.get hx
  obtain⟨⟨old,he⟩,hit⟩:=st
  have fe:=hf e (by simp)
  have fi:=hf it (by simp)
  have le:e<s.heap.objs.size:=Heap.lt_size he
  have li:it<s.heap.objs.size:=by obtain⟨o,ho,_⟩:=hit;exact Heap.lt_size ho
  refine wpAny_pyNext_enum_item he hit p.isList (x:=u) (by simpa using hu) hei λh' heo hit' hT hsz hk=>?_
  refine⟨_,rfl,wpAny_letOwnedTupleGo_enum heo λh2 he2 hs2=>?_⟩
  have hs2':Heap.SameBut e h' h2:=hs2
  have nT:s.heap.objs.size≠e:=yB le
  have I1:Inv X pins σ (upd H s.heap.objs.size (.tup [.int i,x])) {s with heap:=h2,toks:=s.toks+1}:=ma I fe fi le li ru ((hs2'.2 _ nT).trans hT) λb o h1 h3 q=>(hs2'.2 b h1).trans (hk b o h1 h3 q)
  refine⟨.ref s.heap.objs.size,_,I1,rfl,⟨_,x,I.hok.fresh (xM _),rfl,rfl,λys hy=>by rw[I.list_inj hy hq];exact hx⟩,⟨⟨u,by simpa using he2⟩,hit'.at λo q=>(hs2'.2 it (Ne.symm hei)).trans q⟩,λb hb=>?_⟩
  rcases xP.mp hb with z|z
  ·rw[z,ah (xQ le)];exact fe.1
  ·rw[xL.mp z,ah (xQ li)];exact fi.1
 done:=by
  intro X hP hw hK hc i pins s σ H E I hf st hg
  subst hP hw hK
  obtain⟨xs,hq,hx⟩:=hg
  obtain⟨its,rv,p,hz⟩:=I.list hq
  obtain⟨⟨old,he⟩,hit⟩:=st
  have hl:=rv.length
  obtain⟨f0,f1,f2,f3,f4,f5⟩:=hf it (by simp)
  exact wpAny_pyNext_enum_end (I.ok.hd hc) he hit p.isList (by simp;omega) λh' eb=>⟨rfl,I.turned (t':=s.toks) (λb o hb q=>eb b o hb q) f0 f1 f3 f4 f5⟩
 self:=λ_ _ _ _ _ st h=>let ⟨⟨old,he⟩,_⟩:=st;wpAny_pyIter_enum he h
theorem tF{P:Program}{w:World}{K:xK}{elts:List Expr}{x1:Nat}{tp:Pos}(x:Str)(t:Tok)(e it:Addr)(hei:e≠it):Turn P w K (.Tuple elts x1 tp) (Ites x) [e,it] e (λi h=>(∃ old,IsEnum h e it i old)/\h.IsStrIter it "str_ascii_iterator" x t i) where
 mem:=by simp
 obj:=λi h st b hb=>by
  obtain⟨⟨old,he⟩,hit⟩:=st
  rcases xP.mp hb with z|z
  ·rw[z];exact⟨_,he,λv z=>by cases z⟩
  ·rw[xL.mp z]
   obtain⟨o,ho,c,d⟩:=hit
   exact⟨o,ho,λv z=>by rw[d] at z;cases z⟩
 keep:=λi h h' st k=>⟨let ⟨old,he⟩:=st.1;⟨old,k e (by simp) _ he⟩,let ⟨o,ho,r⟩:=st.2;⟨o,k it (by simp) o ho,r⟩⟩
 item:=by
  intro X hP hw hK hc i pins s σ H E I hf st hg
  subst hP hw hK
  have hi:i<x.cps.size:=hg
  obtain⟨⟨old,he⟩,hit⟩:=st
  have fe:=hf e (by simp)
  have fi:=hf it (by simp)
  have le:e<s.heap.objs.size:=Heap.lt_size he
  have li:it<s.heap.objs.size:=by obtain⟨o,ho,_⟩:=hit;exact Heap.lt_size ho
  refine wpAny_pyNext_enum_itemD (Draws.strAscii (A:=X.A.in1) (by exact I.ok.hd hc) it x t) he hit hi hei (by simp[hei]) λu h' tk hP heo hit' hT hsz hk=>?_
  obtain⟨c,tu,hc',rfl⟩:=hP
  refine⟨_,rfl,wpAny_letOwnedTupleGo_enum heo λh2 he2 hs2=>?_⟩
  have hs2':Heap.SameBut e h' h2:=hs2
  have nT:s.heap.objs.size≠e:=yB le
  have I1:Inv X pins σ (upd H s.heap.objs.size (.tup [.int i,.str ⟨#[c]⟩])) {s with heap:=h2,toks:=tk+1}:=ma I fe fi le li ⟨tu,rfl⟩ ((hs2'.2 _ nT).trans hT) λb o h1 h3 q=>(hs2'.2 b h1).trans (hk b o h1 h3 q)
  refine⟨.ref s.heap.objs.size,_,I1,rfl,⟨_,c,I.hok.fresh (xM _),rfl,rfl,hc'⟩,⟨⟨_,by simpa using he2⟩,let ⟨o,ho,r⟩:=hit';⟨o,(hs2'.2 it (Ne.symm hei)).trans ho,r⟩⟩,λb hb=>?_⟩
  rcases xP.mp hb with z|z
  ·rw[z,ah (xQ le)];exact fe.1
  ·rw[xL.mp z,ah (xQ li)];exact fi.1
 done:=by
  intro X hP hw hK hc i pins s σ H E I hf st hg
  subst hP hw hK
  have hi:i=x.cps.size:=hg
  subst hi
  obtain⟨⟨old,he⟩,hit⟩:=st
  obtain⟨f0,f1,f2,f3,f4,f5⟩:=hf it (by simp)
  exact wpAny_pyNext_enum_endD (Draws.strAscii (A:=X.A.in1) (by exact I.ok.hd hc) it x t) he hit λh' eb=>⟨rfl,I.turned (t':=s.toks) (λb o hb q=>eb b o hb q) f0 f1 f3 f4 f5⟩
 self:=λ_ _ _ _ _ st h=>let ⟨⟨old,he⟩,_⟩:=st;wpAny_pyIter_enum he h
def iEnL(K:xK)(ta:TA):TI:=λσ H R=>ta σ H λvs H1=>∃ a,vs=[.ref a]/\(∃ xs,SqL K H1 a xs)/\R (Itel K a) H1
def iEnS(ta:TA):TI:=λσ H R=>ta σ H λvs H1=>∃ x,vs=[.str x]/\x.cps.all (·<128)=true/\R (Ites x) H1
section
variable {X:Cx}{elts:List Expr}{x1:Nat}{tp p pos:Pos}{l:Expr}{ta:TA}
theorem tG(hg:Gl X "enumerate")(hm:X.mg "enumerate"=none)(ha:PA X [l] ta)(hs:starEach [l] X.env=[(false,eval l X.env)]:=by rfl):PI X (.Tuple elts x1 tp) (.Call (.Name "enumerate" p) [l] [] pos) (iEnL X.K ta):=by
 intro pins s σ H R I h
 refine Call_ (cv I hg hm PyProof.Rows.boot_enumerate (PyProof.Rows.callWith_type1 (thn (ha pos pins s σ H _ I h) λus s1 ⟨vs,H1,I1,r1,q1⟩=>?_) hs rfl))
 obtain⟨a,rfl,⟨xs,hq⟩,q⟩:=q1
 obtain⟨u,rfl,ru⟩:=bE r1
 cases ru
 obtain⟨its,rv,pl,hz⟩:=I1.list hq
 refine call_enumerate_list pl.isList λh' he hit hsz hk=>?_
 have I2:Inv X pins σ H1 {s1 with heap:=h'}:=I1.kept (t':=s1.toks) hk
 refine wpAny_pyIter_enum he ?_
 have ne:s1.heap.objs.size+1≠s1.heap.objs.size:=Aq _
 refine⟨s1.heap.objs.size+1,[s1.heap.objs.size+1,s1.heap.objs.size],_,_,H1,rfl,I2,tE a _ _ ne,⟨⟨_,he⟩,hit⟩,λb hb=>?_,q⟩
 rcases xP.mp hb with z|z
 ·rw[z];exact I1.fpOk (yF _) (I1.hok.fresh (yF _))
 ·rw[xL.mp z];exact I1.fpOk (xM _) (I1.hok.fresh (xM _))
theorem tH(hg:Gl X "enumerate")(hm:X.mg "enumerate"=none)(ha:PA X [l] ta)(hs:starEach [l] X.env=[(false,eval l X.env)]:=by rfl):PI X (.Tuple elts x1 tp) (.Call (.Name "enumerate" p) [l] [] pos) (iEnS ta):=by
 intro pins s σ H R I h
 refine Call_ (cv I hg hm PyProof.Rows.boot_enumerate (PyProof.Rows.callWith_type1 (thn (ha pos pins s σ H _ I h) λus s1 ⟨vs,H1,I1,r1,q1⟩=>?_) hs rfl))
 obtain⟨x,rfl,hasc,q⟩:=q1
 obtain⟨u,rfl,t,rfl⟩:=bE r1
 refine call_enumerate_str λh' he hit hsz hk=>?_
 have I2:Inv X pins σ H1 {s1 with heap:=h'}:=I1.kept (t':=s1.toks) hk
 refine wpAny_pyIter_enum he ?_
 have ne:s1.heap.objs.size+1≠s1.heap.objs.size:=Aq _
 have ety:strIterType x="str_ascii_iterator":=by unfold strIterType;rw[hasc];rfl
 rw[ety] at hit
 refine⟨s1.heap.objs.size+1,[s1.heap.objs.size+1,s1.heap.objs.size],_,_,H1,rfl,I2,tF x t _ _ ne,⟨⟨_,he⟩,hit⟩,λb hb=>?_,q⟩
 rcases xP.mp hb with z|z
 ·rw[z];exact I1.fpOk (yF _) (I1.hok.fresh (yF _))
 ·rw[xL.mp z];exact I1.fpOk (xM _) (I1.hok.fresh (xM _))
end
end L2
namespace My
open Exc
section
variable {X:Cx}[J:Jm]{a b c e o:Expr}{ta tb tc te to:TME}{pos:Pos}{st:Stmt}{rest:List Stmt}{t u:TMS}
theorem me{K:xK}{F:Hp}:∀ (is:List Nat) (ds:List D) (vs:List V) (z:SD),Reps K F ds vs->(∀ (i:Nat) d,z[i]?≠some (some (.own d)))->∀ (i:Nat) d,(cw is ds z)[i]?≠some (some (.own d))
 |[],_,_,z,_,h=>h
 |_::_,[],_,z,_,h=>h
 |i::is,d::ds,vs,z,r,h=>by
  obtain⟨v,vr,rfl,r1,r2⟩:=reps_cons.mp r
  refine me is ds vr _ r2 λj q e=>?_
  by_cases hj:i=j
  ·subst hj
   rw[yS] at e
   simp at e
   have:=r1.noown
   rw[e.2] at this
   cases this
  ·rw[xY hj] at e
   exact h j q e
def mItE(t:TME):TMI:=λz M R=>t z M λx M1=>match x with| .lst ds=>R ds M1|_=>False
def tI(t:TME):TMI:=λz M R=>t z M λx M1=>match x with| .str x=>x.cps.all (·<128)=true/\R (cy x) M1|_=>False
def mf(is:List Nat)(ti:TMI)(tb:TMS):TMS:=λE z M=>ti z M λds M1=>∃ W:Nat->SD->MS->Prop,W 0 z M1/\(∀ (k:Nat) x z M,ds[k]?=some x->W k z M->tb {E with nx:=W (k+1),ct:=W (k+1),bk:=E.nx} (cw is [.int k,x] z) M)/\∀ z M,W ds.length z M->E.nx z M
theorem mh{K:xK}{F0 F1 H1:Hp}{z:SD}{s:L2.St}{M1:MS}{E:Ends}{ED:EndsM}{It':It}{g:TG}{tb:TMS}{tbv:TS}{ds:List D}{is:List Nat}(hK:K=X.K)(k1:Kept J.B F0 F1 H1)(rs1:RepZ K J.B F1 H1 z s M1)(e:EndsOkM K F0 ED E)(hlen:is.length=2)
  (go:∀ k F' H',Same F1 F'->Same F' H'->k<ds.length->It'.go k H') (stop:∀ F' H',Same F1 F'->Same F' H'->It'.stop ds.length H')
  (yld:∀ k F' H' x H'',Same F1 F'->Same F' H'->k<ds.length->It'.yld k H' x H''->∃ T d v,H' T=none/\x= .ref T/\H''=upd H' T (.tup [.int k,v])/\ds[k]?=some d/\Rep K F' d v)
  (hg:∀ (dd:List D) (vs:List V) (T:Addr) (z:SD) (s:L2.St) (F H:Hp) (Q:L2.St->Hp->Prop),dd.length=2->H T=some (.tup vs)->Reps K F dd vs->RepS K J.B F H z s->(∀ s',RepS K J.B F H (cw is dd z) s'->Q s' H)->g (.ref T) s H Q)
  (htb:∀ E s H,mS K tb E s H->tbv E s H)
  (hd:∃ W:Nat->SD->MS->Prop,W 0 z M1/\(∀ (k:Nat) x z M,ds[k]?=some x->W k z M->tb {ED with nx:=W (k+1),ct:=W (k+1),bk:=ED.nx} (cw is [.int k,x] z) M)/\∀ z M,W ds.length z M->ED.nx z M):
  ∃ W:Nat->Nat->L2.St->Hp->Prop,(∃ m,W 0 m s H1)/\∀ i m σ H,W i m σ H->
   (It'.stop i H/\E.nx σ H)\/(It'.go i H/\∃ N:L2.St->Hp->Prop,(∀ σ' H',N σ' H'->∃ m',m'<m/\W (i+1) m' σ' H')/\∀ x H',It'.yld i H x H'->g x σ H' λσ2 H2=>tbv {E with nx:=N,ct:=N,bk:=E.nx} σ2 H2):=by
 obtain⟨W,w0,turn,out⟩:=hd
 refine⟨λk m s' H'=>m=ds.length - k/\k<=ds.length/\∃ F' z' M',Kept J.B F0 F' H'/\Same F1 F'/\RepZ K J.B F' H' z' s' M'/\W k z' M',⟨ds.length,by simp,yj _,F1,z,M1,k1,Same.refl F1,rs1,w0⟩,?_⟩
 rintro k m s' H' ⟨rfl,hk,F',z',M',k',g',r',w'⟩
 by_cases hlt:k<ds.length
 ·refine .inr ⟨go k F' H' g' k'.fh hlt,λs3 H3=>∃ F3 z3 M3,Kept J.B F0 F3 H3/\Same F1 F3/\RepZ K J.B F3 H3 z3 s3 M3/\W (k+1) z3 M3,λs3 H3 h3=>⟨ds.length - (k+1),by omega,rfl,hlt,h3⟩,λx H'' hy=>?_⟩
  obtain⟨T,d,v,hT,rfl,rfl,hd,rd⟩:=yld k F' H' x H'' g' k'.fh hlt hy
  have gn:=Grow.new k'.fh hT (.tup [.int k,v])
  have k2:=k'.grow gn
  have r2:=r'.growM k'.bh gn.toM (r'.rm.grow gn)
  have rp:Reps K (upd F' T (.tup [.int k,v])) [.int k,d] [.int k,v]:=reps_cons.mpr ⟨_,_,rfl,rep_int.mpr rfl,dY (rd.mono gn.ff)⟩
  refine hg [.int k,d] _ T z' s' _ _ _ rfl av rp r2.rs λs2 rs2=>htb _ _ _ ?_
  have gF:Same F1 (upd F' T (.tup [.int k,v])):=g'.trans gn.ff
  refine⟨upd F' T (.tup [.int k,v]),upd F' T (.tup [.int k,v]),_,M',⟨k2.bh,k2.fh,Same.refl _,λb h1 _=>h1,k2.eb,k2.jf.trans k2.f0,λb h1 h2=>k2.out b (k2.jo b h1 h2) h2⟩,⟨rs2,me is _ _ z' rp r2.no,r2.rm,r2.mb⟩,_,turn k d z' M' hd w',?_⟩
  have up:∀ {F3 H3:Hp},Kept J.B (upd F' T (.tup [.int k,v])) F3 H3->Kept J.B F0 F3 H3:=λk3=>⟨k3.bh,k3.fh,k2.f0.trans k3.f0,λb h1 h2=>k3.out b (k2.out b h1 h2) h2,k2.eb,k2.jf,k2.jo⟩
  exact⟨λz3 s3 M3 F3 H3 k3 h3 r3=>⟨F3,z3,M3,up k3,gF.trans k3.f0,r3,h3⟩,λd v M3 F3 H3 k3=>e.rt d v M3 F3 H3 (up k3),λz3 s3 M3 F3 H3 k3=>e.nx z3 s3 M3 F3 H3 (up k3),λz3 s3 M3 F3 H3 k3 h3 r3=>⟨F3,z3,M3,up k3,gF.trans k3.f0,r3,h3⟩⟩
 ·have ek:k=ds.length:=by omega
  subst ek
  exact .inl ⟨stop F' H' g' k'.fh,e.nx z' s' M' F' H' k' (out z' M' w') r'⟩
theorem tJ{es:List Expr}{x1:Nat}{tp p1 p2:Pos}{is:List Nat}{body:List Stmt}{tb:TMS}(hp:PassesOwn (model X.prog X.w) X.A X.env X.xe)(hc:X.calm=true)(hm:X.mg "enumerate"=none)(he:ME X e te)(hG:DGs X es is)(hb:MSs X body tb)(hlen:is.length=2:=by rfl)(hg:Gl X "enumerate":=by rfl)
  (hn:(assignEach es X.env).length=2:=by rfl) (hst:(assignEach es X.env).findIdx? (·.1)=none:=by rfl)
  (hs:∀ y,zFS X (.Call (.Name "enumerate" p1) [e] [] p2) y:=by exact λ_=>rfl) (hse:zSE X e []:=by rfl) (hse2:starEach [e] X.env=[(false,eval e X.env)]:=by rfl):
  MSt X (.For (.Tuple es x1 tp) (.Call (.Name "enumerate" p1) [e] [] p2) body [] pos) (mf is (mItE te) tb):=by
 obtain⟨ug,hug,kk⟩:=hG
 refine⟨(da hp hc (tG hg hm (bg he.out pa_nil hse) hse2) (jD hc hug hn hst) hb.out hs).anti λE s H q=>?_⟩
 obtain⟨F0,F,z,M,kp,rs,ED,h,e⟩:=q
 refine⟨F,z,M,kp.kf,rs,_,h,λd v M1 F1 H1 g1 hd rd m1=>?_⟩
 split at hd
 ·rename_i ds
  obtain⟨p,vs,rfl,hq,rr⟩:=rep_lst.mp rd
  refine⟨p,rfl,⟨vs,SqL.of (g1.fh _ _ hq)⟩,mh (It':=Itel X.K p) rfl (kp.growM rs.mb g1) (rs.growM kp.bh g1 m1) e hlen (λk F' H' s1 s2 hk=>?_) (λF' H' s1 s2=>?_) (λk F' H' x H'' s1 s2 hk hy=>?_) (λdd vs' T z s F H Q hl hT rp rs' hQ=>?_) (λ_ _ _ h=>h) hd⟩
  ·have hk':k<vs.length:=by rw[rr.length];exact hk
   exact⟨vs,vs[k],SqL.of (s2 _ _ (s1 _ _ hq)),by simp[hk']⟩
  ·exact⟨vs,SqL.of (s2 _ _ (s1 _ _ hq)),by rw[rr.length];exact xM _⟩
  ·obtain⟨T,v,hT,e1,e2,hv⟩:=hy
   obtain⟨d,hd,rd⟩:=rr.get' (hv vs (SqL.of (s2 _ _ (s1 _ _ hq))))
   exact⟨T,d,v,hT,e1,e2,hd,rd.mono s1⟩
  ·exact⟨T,vs',rfl,SqT.of hT,by rw[rp.length];exact hl,kk dd vs' z s J.B F H Q (by rw[hl,hlen]) rp rs' hQ⟩
 ·exact hd.elim
theorem tK{es:List Expr}{x1:Nat}{tp p1 p2:Pos}{is:List Nat}{body:List Stmt}{tb:TMS}(hp:PassesOwn (model X.prog X.w) X.A X.env X.xe)(hc:X.calm=true)(hm:X.mg "enumerate"=none)(he:ME X e te)(hG:DGs X es is)(hb:MSs X body tb)(hlen:is.length=2:=by rfl)(hg:Gl X "enumerate":=by rfl)
  (hn:(assignEach es X.env).length=2:=by rfl) (hst:(assignEach es X.env).findIdx? (·.1)=none:=by rfl)
  (hs:∀ y,zFS X (.Call (.Name "enumerate" p1) [e] [] p2) y:=by exact λ_=>rfl) (hse:zSE X e []:=by rfl) (hse2:starEach [e] X.env=[(false,eval e X.env)]:=by rfl):
  MSt X (.For (.Tuple es x1 tp) (.Call (.Name "enumerate" p1) [e] [] p2) body [] pos) (mf is (tI te) tb):=by
 obtain⟨ug,hug,kk⟩:=hG
 refine⟨(da hp hc (tH hg hm (bg he.out pa_nil hse) hse2) (jD hc hug hn hst) hb.out hs).anti λE s H q=>?_⟩
 obtain⟨F0,F,z,M,kp,rs,ED,h,e⟩:=q
 refine⟨F,z,M,kp.kf,rs,_,h,λd v M1 F1 H1 g1 hd rd m1=>?_⟩
 split at hd
 ·rename_i x
  obtain⟨ha,hd⟩:=hd
  have hl:=lJ x
  refine⟨x,by rw[rep_str.mp rd],ha,mh (It':=Ites x) rfl (kp.growM rs.mb g1) (rs.growM kp.bh g1 m1) e hlen (λk F' H' s1 s2 hk=>?_) (λF' H' s1 s2=>?_) (λk F' H' x H'' s1 s2 hk hy=>?_) (λdd vs' T z s F H Q hl hT rp rs' hQ=>?_) (λ_ _ _ h=>h) hd⟩
  ·rw[hl] at hk;exact hk
  ·exact hl
  ·obtain⟨T,c,hT,e1,e2,hc⟩:=hy
   exact⟨T,.str ⟨#[c]⟩,.str ⟨#[c]⟩,hT,e1,e2,so hc,rep_str.mpr rfl⟩
  ·exact⟨T,vs',rfl,SqT.of hT,by rw[rp.length];exact hl,kk dd vs' z s J.B F H Q (by rw[hl,hlen]) rp rs' hQ⟩
 ·exact hd.elim
end
end My
end
section
open PySem PySem.Spec PyProof.Rows L2
namespace L2
section
variable {prog:Program}{w:World}{K:Type}[DecidableEq K]{knd:HeapKind prog w K}{A:Around}{E:Value->Shared->Prop}{s:Shared}{d a:Addr}{k:K}{xs:List (K × Addr × Value)}
theorem tL{v:Value}{Q:Value->Shared->Prop}(hu:knd.room A)(hkey:knd.is s.heap k a)(hm:s.heap.DictOfH knd d xs)
  (h1:∀ p,atKey xs k=some p->Q p.2 {s with toks:=s.toks+knd.draws k})
  (h2:atKey xs k=none->∀ h',h'.DictOfH knd d (xs++[(k,a,v)])->Heap.SameBut d s.heap h'->Q v {s with heap:=h',toks:=s.toks+knd.draws k})
  (hsz:xs.length<=sizeLine):wpAny (model prog w) A (dictSetDefault d (.ref a) v) Q E s:=by
 obtain⟨o,es,ep,ho,hc,hd,he,his,hn⟩:=hm
 unfold dictSetDefault
 try with_reducible refine wpAny_holding ?_
 refine wpAny_bind (knd.pyHash hu hkey ?_)
 refine wpAny_bind (wpAny_dictFind_heap (s:={s with toks:=s.toks+knd.draws k}) hu hkey ho hd he his hn ?_ ?_)
 ·intro hno
  have hnot:k ∉ xs.map (·.1):=not_mem_keys_of_get hno
  refine wpAny_bind (wpAny_rule (wpAny_bind (wpAny_updateDictKeys (hz:=by have e:=size_of_entries he;omega) (s:={s with toks:=s.toks+knd.draws k}) ho hd (wpAny_pure (h2 (atKey_none_of_get hno) _ ⟨_,_,ep+1,Heap.get?_update_self _ ho (Obj.isFreed_of_dict (Obj.data_mapDictKeys hd _)),
   hc.mapDictKeys _,Obj.data_mapDictKeys hd _,?_,?_,?_⟩ (Heap.SameBut.update ..))))))
  ·simp[he,entryOfKey]
  ·intro x hx
   rcases yu.mp hx with hx|hx
   ·exact knd.keeps (his x hx) ho hd (Heap.SameBut.update ..)
   ·simp only[xL] at hx
    subst hx
    exact knd.keeps hkey ho hd (Heap.SameBut.update ..)
  ·rw[yZ,za]
   refine⟨hn,by simp,?_⟩
   intro x hx y hy
   simp only[yc,zF,xL] at hy
   subst hy
   exact λe=>hnot (e ▸ hx)
 ·intro j p hj
  refine wpAny_bind (wpAny_dictEntries (s:={s with toks:=s.toks+knd.draws k}) ho hd ?_)
  rw[entry_at he j,hj]
  exact wpAny_bind (wpAny_rule (wpAny_pure (h1 p (atKey_of_get hn hj))))
theorem tM(knd:HeapKind prog w K)(d a:Addr)(hd:(d==sysModules)=false)(v:Value):
  MeetsIn prog w (Builtin.«dict.setdefault» ⟨[.ref d,.ref a,v],[]⟩) (λA R s=>knd.room A.in1/\∃ k xs,knd.is s.heap k a/\s.heap.DictOfH knd d xs/\xs.length<=sizeLine/\
   (∀ p,atKey xs k=some p->R (.ok (.ret p.2)) {s with toks:=s.toks+knd.draws k})/\
   (atKey xs k=none->∀ h',h'.DictOfH knd d (xs++[(k,a,v)])->Heap.SameBut d s.heap h'->R (.ok (.ret v)) {s with heap:=h',toks:=s.toks+knd.draws k})):=
 .of_wp λA R s ⟨hu,k,xs,hkey,hm,hz,h1,h2⟩=>by
  unfold Builtin.«dict.setdefault»
  refine wpAny_bind ?_
  unfold Builtin.Dict.keyAndDefault
  refine wpAny_bind (wpAny_notOrdered_dict hm.typeIs ?_)
  show wpAny _ _ (pure (d,Value.ref a,some v)) _ _ s
  refine wpAny_pure ?_
  show wpAny _ _ (if(d==sysModules)=true then _ else(dictSetDefault d (.ref a) v>>=_)) _ _ s
  rw[if_neg (by rw[hd];exact xS)]
  exact wpAny_bind (tL hu hkey hm (λp hp=>wpAny_pure ⟨p.2,rfl,h1 p hp⟩) (λhn h' hm' hs'=>wpAny_pure ⟨v,rfl,h2 hn h' hm' hs'⟩) hz)
end
end L2
namespace My
open Exc
def cA:List ((Int × Int) × Int)->Int->Int->Option Int
 |[],_,_=>none
 |((a,b),h)::r,x,y=>if a=x/\b=y then some h else cA r x y
theorem mi(x y:Int):∀ kvs:List ((Int × Int) × Int),valV (dtiV kvs) [.inl x,.inl y]=(cA kvs x y).map V.int
 |[]=>rfl
 |((a,b),h)::r=>by
  show valV (([.inl a,.inl b],V.int h)::dtiV r) _=_
  unfold cA
  by_cases e:a=x/\b=y
  ·rw[if_pos e,fX (by rw[e.1,e.2])];rfl
  ·rw[if_neg e,fY (λz=>e (by
    have z':([Sum.inl a,Sum.inl b]:List Key)=[.inl x,.inl y]:=z
    injection z' with z1 z2
    injection z2 with z2 _
    exact⟨Sum.inl.inj z1,Sum.inl.inj z2⟩)),mi x y r]
def sdD(kvs:List ((Int × Int) × Int))(x y v:Int):List ((Int × Int) × Int):=if(cA kvs x y).isSome then kvs else kvs++[((x,y),v)]
def rSdT:V->List V->Hp->VK->Prop:=λx vs H Q=>∃ a b i j d kvs,x= .ref a/\vs=[.ref b,.int d]/\H a=some (.dT (dtiV kvs))/\H b=some (.tup [.int i,.int j])/\kvs.length<100000/\∀ w,Q (.int w) (upd H a (.dT (dtiV (sdD kvs i j d))))
theorem tN{H:Hp}{a:Addr}{o:HO}(h:H a=some o):upd H a o=H:=by
 funext b
 by_cases e:b=a
 ·subst e;rw[av,h]
 ·rw[ah e]
theorem tO{X:Cx}(hu:X.A.units+1<cLine):MtR X "dict.setdefault" rSdT:=by
 intro pins s σ H x vs v us Q I rx rv h
 obtain⟨a,b,i,j,d,kvs,rfl,rfl,ha,hb,hl,q⟩:=h
 obtain⟨u,u',rfl,ru,t,rfl⟩:=jR rv
 cases(show v=Value.ref a from rx)
 cases(show u=Value.ref b from ru)
 obtain⟨z,hd,xs,rel,dd⟩:=qo I.hok ha
 have hlen:xs.length=kvs.length:=by rw[<- Paired.length rel];simp[dtiV]
 have big:(100000:Nat)<sizeLine:=by decide
 have hb':H b=some (.tup (([.inl i,.inl j]:List Key).map kV)):=hb
 have hval:=rel.val [.inl i,.inl j]
 rw[mi] at hval
 refine call_meetsIn PySem.F.slot_dict_setdefault dd.typeIs PySem.F.entry_dict_setdefault (PySem.F.args_dict_setdefault_3 _ _ _) (tM (tupleKind (bu X.prog X.w)) a b hd (.int d t)) ⟨tupleKind_room_in1 hu,[.inl i,.inl j],xs,key_of I.hok hb',dd,by omega,λp hp=>?_,λhn h' dd' hs=>?_⟩
 ·rw[hp] at hval
  cases e:cA kvs i j with
  |none=>rw[e] at hval;exact hval.elim
  |some w=>
   rw[e] at hval
   have:=q w
   unfold sdD at this
   rw[e] at this
   have e2:(if(some w:Option Int).isSome then kvs else kvs++[((i,j),d)])=kvs:=rfl
   rw[e2,tN ha] at this
   exact⟨.int w,H,I.tok _,hval,this⟩
 ·rw[hn] at hval
  cases e:cA kvs i j with
  |some w=>rw[e] at hval;exact hval.elim
  |none=>
   have e2:sdD kvs i j d=kvs++[((i,j),d)]:=by unfold sdD;rw[e];rfl
   have e3:dtiV (sdD kvs i j d)=dtiV kvs++[([.inl i,.inl j],.int d)]:=by rw[e2];simp[dtiV]
   obtain⟨o,es,ep,ho,hx,h3,h4,_,h5⟩:=dd'
   have new:ObjOk X.prog X.w (upd H a (.dT (dtiV (sdD kvs i j d)))) h' a (.dT (dtiV (sdD kvs i j d))):=by
    refine⟨by rw[e3,xT];simp[dtiV];omega,hd,_,?_,o,es,ep,ho,hx,h3,h4,h5⟩
    rw[e3]
    refine KT.keeps (H:=H) (Paired.snoc (a:=(([.inl i,.inl j]:List Key),V.int d)) (b:=(([.inl i,.inl j]:List Key),b,Value.int d t)) rel ⟨rfl,hb',⟨t,rfl⟩⟩) λc ys ec=>?_
    rw[ah (nK ec ha (λz=>nomatch z))]
    exact ec
   exact⟨.int d,_,qp I (by rw[ha];exact True.intro) hs ⟨o,ho⟩ new,⟨t,rfl⟩,q d⟩
section
variable {X:Cx}[J:Jm]{a b c e o f:Expr}{ta tb tc te to:TME}{pos apos cpos:Pos}{t:TMA}
def mD0:TME:=λ_ M R=>R (.dti []) M
theorem tP:ME X (.Dict [] [] pos) mD0:=⟨pe_dnewT.anti λs H Q q=>by
 obtain⟨F,z,M,k,rs,R,h1,h2⟩:=q
 intro p hp
 have gn:=Grow.new k.fh hp (.dT [])
 exact h2 _ _ M _ _ gn.toM h1 (rep_dti.mpr ⟨p,rfl,av⟩) (rs.rm.grow gn)⟩
def mDN:TME:=λ_ M R=>∀ p,p ∉ ak M->R (.ptr p) ((p,.dti [])::M)
theorem tQ:ME X (.Dict [] [] pos) mDN:=⟨pe_dnewT.anti λs H Q q=>by
 obtain⟨F,z,M,k,rs,R,h1,h2⟩:=q
 intro p hp
 exact h2 _ _ _ F _ (GrowM.new k.fh hp) (h1 p λz=>rs.rm.here z hp) (rep_ptr.mpr rfl) (rs.rm.new k.fh hp av)⟩
def xJ(to:TME)(t:TMA):TME:=λz M R=>to z M λd M1=>match d with| .dti kvs=>(t z M1 λds M2=>match ds with|[.tup [.int i,.int j],.int x]=>R (.int ((cA kvs i j).getD x)) M2|_=>False)|_=>False
def mDsd(to:TME)(t:TMA):TME:=λz M R=>to z M λd M1=>match d with| .ptr a=>(∃ kvs,mget M1 a=some (.dti kvs))/\(t z M1 λds M2=>match ds with|[.tup [.int i,.int j],.int x]=>∃ kvs,mget M2 a=some (.dti kvs)/\kvs.length<100000/\∀ w,R (.int w) (mput M2 a (.dti (sdD kvs i j x)))|_=>False)|_=>False
theorem tR(hu:X.A.units+1<cLine)(ho:ME X o to)(ha:MA X [e,f] t)(hbase:attributeBase o "setdefault" X.env (eval o X.env)=eval o X.env:=by rfl)
  (hfew:zHF X cpos [e,f]:=by rfl)
  (hline:(apos.endLine==cpos.line)=true:=by rfl) (hs1:zSE X e [f]:=by rfl) (hpl:zPL X cpos [f]:=by rfl):
  ME X (.Call (.Attribute o "setdefault" apos) [e,f] [] cpos) (mDsd to t):=⟨(fV PySem.F.plainAttrs_dict PySem.F.slot_dict_setdefault PySem.F.type_dict_setdefault (tO hu) ho.out ha.out hbase hfew hline hs1 hpl).anti λs H Q h=>by
 obtain⟨F,z,M,k,rs,R,h1,h2⟩:=h
 refine⟨F,z,M,k,rs,_,h1,λx u M1 F1 H1 g1 hx rx m1=>?_⟩
 split at hx
 ·rename_i a
  obtain⟨⟨kv0,hm0⟩,hx⟩:=hx
  rw[rep_ptr.mp rx]
  refine⟨.inr (.inr (.inl ⟨rfl,.inr ⟨_,m1.ok _ _ (bo hm0)⟩⟩)),?_⟩
  refine⟨F1,z,M1,k.growM rs.mb g1,rs.growM k.bh g1 m1,_,hx,λds vs M2 F2 H2 g2 hd rd m2=>?_⟩
  split at hd
  ·rename_i i j x
   obtain⟨kvs,hm,hl,hR⟩:=hd
   obtain⟨v1,r1,rfl,q1,q2⟩:=reps_cons.mp rd
   obtain⟨v2,r2,rfl,q3,q4⟩:=reps_cons.mp q2
   rw[reps_nil.mp q4,rep_int.mp q3]
   obtain⟨b,us,rfl,hb,ru⟩:=rep_tupS.mp q1
   have eus:us=[.int i,.int j]:=(Reps.ints (ns:=[i,j])).mp ru
   subst eus
   refine⟨a,b,i,j,x,kvs,rfl,rfl,m2.ok _ _ (bo hm),g2.fh _ _ hb,hl,λw=>?_⟩
   exact h2 _ _ _ F2 _ (g1.trans (g2.trans (GrowM.put g2.fh (m2.fr a (bF (bo hm))) hm))) (hR w) (rep_int.mpr rfl) (m2.put hm av)
  ·exact hd.elim
 ·exact hx.elim⟩
end
section
variable {P:Program}{w:World}{K:xK}{mg:Str->Option Value}{base:Heap}
open Classical in
theorem Cls.okIM{x qual:Str}{st:Stmt}{f C:Addr}{fd:FuncData}{N:List Str}{p0:Str}{ps:List Str}{k:Nat}{S:SiD}(T:Fun K "__init__" qual st f fd)(hb:Binds K fd (p0::ps) [])(F:FnScope N (p0::ps) (ad st))(len:∀ ds R,S ds R->ds.length=ps.length)
  (hns:nsIn K mainGlobals x=some (some (.ref C))) (hmg:mg x=some (.ref C)) (mk:Mk K C f)
  (hbody:∀ (cdv:Value) (A:Around) (outer:List Env) (s:Shared) (H:Hp) (E:XK) (J:Jm),Room k (A.deeper (envOfC qual (ad st) s.heap.objs.size f cdv))->XOkM (cxOf (CX1 P w) P w K mg base N qual (ad st) f cdv A outer s H E).nox->
   ∃ t,MSs (cxOf (CX1 P w) P w K mg base N qual (ad st) f cdv A outer s H E).nox (aA st) t/\∀ a ds R,(∀ z M x fs,¬ J.RM z M x fs)->S ds R->t {nx:=λ_ M'=>∃ fs,M'=[(a,.ins x fs)]/\R fs,rt:=λ_ _=>False} (startD N (.ptr a::ds)) [(a,.ins x [])]):CalM P w K mg base (k+1) x (p0::ps) S:=by
 refine⟨C,f,fd,hns,hmg,mk,Fun.okC T F (λvs H Q E h=>?_) (λcdv A outer s H vs Q E hr h=>?_),hb⟩
 ·obtain⟨a,dx,us,H1,F,ds,rfl,_,_,_,_,_,rs,R,h,_⟩:=h
  rw[xN,xN,rs.length,len ds R h]
 ·obtain⟨a,dx,us,H1,F1,ds,rfl,rfl,ha,hdx,hne,fh,rs,R,h,q⟩:=h
  let H:Hp:=upd (upd H1 dx (.own a)) a (.ins C dx [])
  let B:Hp:=λb=>if b=a then none else H b
  have hBa:B a=none:=if_pos rfl
  have hB:∀ {b:Addr},b≠a->B b=H b:=λ{b} h=>if_neg h
  have hH1:∀ {b:Addr} {o:HO},H1 b=some o->b≠a/\H b=some o:=λ{b o} e=>by
   have n1:b≠a:=bf e ha
   exact⟨n1,by show upd _ _ _ b=_;rw[ah n1,ah (bf e hdx)];exact e⟩
  letI:Jm:={B:=B,F0:=F1,RX:=λ_ _ _=>False,RM:=λ_ _ _ _=>False}
  have hx:XOkM (cxOf (CX1 P w) P w K mg base N qual (ad st) f cdv A outer s H E).nox:=λσ z M' F' H' s' e C od y fs I kk rr hR er _=>hR.elim
  obtain⟨t,ht,hq⟩:=hbody cdv A outer s H E inferInstance hr hx
  have Fa:F1 a=none:=fh.free ha
  have k0:Kept B F1 F1 H:=⟨λb o e=>by
   by_cases n:b=a
   ·rw[n,hBa] at e;cases e
   ·rw[hB n] at e;exact e,λb o e=>(hH1 (fh b o e)).2,Same.refl F1,λ_ h _=>h,rfl,Same.refl F1,λ_ h _=>h⟩
  have rs':Reps K F1 (.ptr a::ds) (.ref a::us):=reps_cons.mpr ⟨_,_,rfl,rep_ptr.mpr rfl,rs⟩
  have rm0:RepM K F1 H [(a,.ins x [])]:=⟨by simp[ak],λb o hb=>by
   have e:=xL.mp hb
   cases e
   exact⟨C,dx,[],hns,av,repf_nil.mpr rfl⟩,λb hb=>by
   have e:b=a:=by simpa[ak] using hb
   rw[e];exact Fa⟩
  have r0:RepZ K B F1 H (startD N (.ptr a::ds)) (L2.start N (.ref a::us)) [(a,.ins x [])]:=⟨dl rs',lZ rs',rm0,λb hb=>by
   have e:b=a:=by simpa[ak] using hb
   rw[e];exact hBa⟩
  refine⟨_,ht.out.nox,F1,F1,_,_,k0,r0,_,hq a ds R (λ_ _ _ _ z=>z) h,⟨λz' s' M' F' H' kk hn r=>?_,λd v M' F' H' kk hd rd rm' mb=>hd.elim,λ_ _ _ _ _ _ h _=>h.elim,λ_ _ _ _ _ _ h _=>h.elim⟩⟩
  obtain⟨fs,rfl,hR⟩:=hn
  obtain⟨C',dx',ws,hn',hHa,rf⟩:=r.rm.ok a _ (xL.mpr rfl)
  have hn2:nsIn K mainGlobals x=some (some (.ref C')):=hn'
  rw[hns] at hn2
  cases hn2
  exact q fs ws dx' F' H' ⟨kk.f0,kk.fh,λb o e=>kk.bh b o (by show B b=some o;rw[hB (hH1 e).1];exact(hH1 e).2),λb h1 h2=>kk.out b h1 (by
   show B b≠none
   cases e:H1 b with
   |none=>exact absurd e h2
   |some o=>rw[hB (hH1 e).1,(hH1 e).2];exact λz=>nomatch z)⟩ hR hHa (r.rm.fr a (by simp[ak])) rf
end
end My
end
section
open PySem PySem.Spec PyProof.Rows L2
namespace My
open Exc
section
variable {P:Program}{w:World}{K:xK}{mg:Str->Option Value}{base:Heap}{n:Nat}{x m:Str}{ps:List Str}
theorem CalMth.one{S:SpM}(h:CalMth P w K mg base n x m ps (lSpM K S)):∀ y,y∈[x]->CalMth P w K mg base n y m ps (lSpM K ((λ_=>S) y)):=λy hy=>by
 rw[xL.mp hy];exact h
theorem mj{f:Addr}{fd:FuncData}{sp:Sp}(h:∀ vs H Q E,¬ sp vs H Q E):FnOk P w K mg base (CX1 P w) n f fd ps sp:=⟨λvs H Q E q=>(h _ _ _ _ q).elim,λA outer s H args us vs Q E _ _ _ _ q=>(h _ _ _ _ q).elim⟩
theorem ml{S:SpM}(h:∀ ds M R RX,¬ S ds M R RX):∀ vs H Q E,¬ lSpM K S vs H Q E:=by
 rintro vs H Q E ⟨F,ds,M,_,_,_,R,RX,q,_⟩
 exact h ds M R RX q
theorem CalMth.never{qual:Str}{st:Stmt}{S:SpM}(T:Txm K x m qual st ps)(h:∀ ds M R RX,¬ S ds M R RX):CalMth P w K mg base n x m ps (lSpM K S):=by
 obtain⟨C,f,fd,h1,h2,h3,T,hb⟩:=T
 exact⟨C,f,fd,h1,h2,h3,mj (ml h),hb⟩
theorem CalMM.never{st:Stmt}{S:SpM}(T:Tx K mg x st ps)(h:∀ ds M R RX,¬ S ds M R RX):CalMM P w K mg base n x ps S:=by
 obtain⟨f,fd,T,hb,hm⟩:=T
 exact⟨f,fd,mj (ml h),hb,T.kp,hm⟩
end
section
variable {X:Cx}[J:Jm]{a b c e:Expr}{ta tb:TME}{pos:Pos}
end
def gC(S:SpM):SpM:=λds M R RX=>∃ M1 M2,M=M1++M2/\S ds M2 (λd M'=>R d (M1++M')) λx fs M'=>RX x fs (M1++M')
theorem keys_app{M1 M2:MS}{a:Addr}:a∈ak (M1++M2)↔a∈ak M1\/a∈ak M2:=by unfold ak;rw[yZ,yu]
theorem mm{K:xK}{S:SpM}{vs:List V}{H:Hp}{Q:VK}{E:XK}(h:lSpM K (gC S) vs H Q E):lSpM K S vs H Q E:=by
 obtain⟨F,ds,M,fh,rs,rm,R,RX,⟨M1,M2,rfl,hS⟩,q,qx⟩:=h
 have nd:(ak M1++ak M2).Nodup:=by have:=rm.nd;unfold ak at this ⊢;rw[yZ] at this;exact this
 have dis:∀ {a:Addr},a∈ak M1->a ∉ ak M2:=λ{a} h1 h2=>(za.mp nd).2.2 a h1 a h2 rfl
 have rm2:RepM K F H M2:=⟨(za.mp nd).2.1,λa o h=>rm.ok a o (xW _ h),λa h=>rm.fr a (keys_app.mpr (.inr h))⟩
 have up:∀ {M':MS} {F' H':Hp},GrowM M2 M' F H F' H'->RepM K F' H' M'->GrowM (M1++M2) (M1++M') F H F' H'/\RepM K F' H' (M1++M'):=λ{M' F' H'} g r=>by
  have hm1:∀ {a:Addr},a∈ak M1->H a≠none:=λ{a} h=>rm.here (keys_app.mpr (.inl h))
  have dis':∀ {a:Addr},a∈ak M1->a ∉ ak M':=λ{a} h1 h2=>by
   rcases g.ks a h2 with z|z
   ·exact dis h1 z
   ·exact hm1 h1 z
  refine⟨⟨g.ff,g.fh,λb o nb e=>g.hh b o (λz=>nb (keys_app.mpr (.inr z))) e,λb nb h1 h2=>g.out b (λz=>nb (keys_app.mpr (.inr z))) h1 h2,λb hb=>?_⟩,⟨?_,λa o h=>?_,λa h=>?_⟩⟩
  ·rcases keys_app.mp hb with z|z
   ·exact .inl (keys_app.mpr (.inl z))
   ·exact(g.ks b z).imp (λz=>keys_app.mpr (.inr z)) id
  ·unfold ak
   rw[yZ]
   exact za.mpr ⟨(za.mp nd).1,r.nd,λa h1 b h2 e=>dis' h1 (e ▸ h2)⟩
  ·rcases yu.mp h with z|z
   ·have ka:a∈ak M1:=bF z
    exact(rm.ok a o (yL _ z)).mono g.ff λo e=>g.hh a o (dis ka) e
   ·exact r.ok a o z
  ·rcases keys_app.mp h with z|z
   ·exact g.out a (dis z) (rm.fr a (keys_app.mpr (.inl z))) (hm1 z)
   ·exact r.fr a z
 exact⟨F,ds,M2,fh,rs,rm2,_,_,hS,λd v M' F' H' g hd rd m'=>q d v _ F' H' (up g m').1 hd rd (up g m').2,λx fs C od M' F' H' g hR er m'=>qx x fs C od _ F' H' (up g m').1 hR er (up g m').2⟩
section
variable {P:Program}{w:World}{K:xK}{mg:Str->Option Value}{base:Heap}{n:Nat}{x m:Str}{ps:List Str}{S:SpM}
theorem CalMM.frame(C:CalMM P w K mg base n x ps S):CalMM P w K mg base n x ps (gC S):=C.imp λ_ _ _ _ h=>mm h
theorem CalMth.frame(C:CalMth P w K mg base n x m ps (lSpM K S)):CalMth P w K mg base n x m ps (lSpM K (gC S)):=C.imp λ_ _ _ _ h=>mm h
end
def nilX(S:SpX):SpM:=λds M R RX=>M=[]/\∃ (R0:D->Prop) (RX0:XD),S ds R0 RX0/\(∀ d M',R0 d->R d M')/\∀ x fs M',RX0 x fs->RX x fs M'
theorem CalMM.nilX{P:Program}{w:World}{K:xK}{mg:Str->Option Value}{base:Heap}{n:Nat}{x:Str}{ps:List Str}{S:SpX}(C:CalMM P w K mg base n x ps (nilX S)):CalX P w K mg base n x ps S:=C.toX λ_ R RX h=>⟨rfl,R,RX,h,λ_ _ h=>h,λ_ _ _ h=>h⟩
end My
end
section
open PySem PySem.Spec PyProof.Rows L2
namespace My
section
variable {K:xK}{h:Heap}{mg:Str->Option Value}{x y m q f:Str}{st:Stmt}{ps:List Str}
abbrev NsC(K:xK)(x:Str)(C:Addr):Prop:=nsIn K mainGlobals x=some (some (.ref C))
theorem NsC.uniq{C D:Addr}(a:NsC K x C)(b:NsC K x D):C=D:=by
 have e:=a.symm.trans b
 cases e;rfl
abbrev BindA(x q:Str)(st:Stmt)(ps:List Str):Prop:=∀ (kV doc pm:Value) (an:Option Addr) (cdv ct:Value) (us:List Value),us.length=ps.length->bindArgs (fnOf x q (aX st) (aA st) (ad st) .none kV doc pm an cdv ct) ⟨us,[]⟩=pure (ps.zip us)
def FnIn(K:xK)(x:Str)(st:Stmt):Prop:=∃ f fd,NsC K x f/\Fun K x x st f fd
theorem fnIn_mk{f:Addr}{oc:Value}{od an:Option Addr}{sl:Array (Option Value)}{kV dc pm cd ct:Value}(a:nsIn K mainGlobals x=some (some (.ref f)))(l:K.lookup f=some ⟨oc,od,.func (fnOf x x (aX st) (aA st) (ad st) .none kV dc pm an cd ct),sl⟩)(c:codeIn K cd x=true)(k:keepIn K (.ref f)=true):FnIn K x st:=⟨f,_,a,dO l c k⟩
theorem FnIn.tx(T:FnIn K x st)(X:K.In h)(G:h.Ns mainGlobals mg)(b:BindA x x st ps):Tx K mg x st ps:=by
 obtain⟨f,fd,a,F⟩:=T
 exact⟨f,fd,F,F.binds b,mg_of X G a⟩
theorem FnIn.law{p:Str}(T:FnIn K x st)(X:K.In h)(G:h.Ns mainGlobals mg){fa:Addr}(hfa:mg x=some (.ref fa))(b:∀ (kV doc pm:Value) (an:Option Addr) (cdv ct v:Value),bindArgs (fnOf x x (aX st) (aA st) (ad st) .none kV doc pm an cdv ct) ⟨[v],[]⟩=pure [(p,v)]):∃ fd,(∀ (s:Shared) (v:Value),BindsTo s fd ⟨[v],[]⟩ [(p,v)])/\Fun K x x st fa fd:=by
 obtain⟨f,fd,a,F⟩:=T
 have e:=hfa.symm.trans (mg_of X G a)
 cases e
 refine⟨fd,λs v=>?_,F⟩
 obtain⟨oc,od,kV,doc,pm,an,cdv,ct,osl,rfl,lk,hcd⟩:=F.ex
 exact .of_eq (b _ _ _ _ _ _ v)
theorem bb{us:List Value}{x:Str}{xs:List Str}(h:us.length=(x::xs).length):∃ u t,us=u::t/\t.length=xs.length:=by
 cases us with
 |nil=>cases h
 |cons u t=>exact⟨u,t,rfl,Nat.succ.inj h⟩
theorem len_0{us:List Value}(h:us.length=([]:List Str).length):us=[]:=zN h
theorem tS{x0:Str}(b:∀ (kV doc pm:Value) (an:Option Addr) (cdv ct u0:Value),bindArgs (fnOf x q (aX st) (aA st) (ad st) .none kV doc pm an cdv ct) ⟨[u0],[]⟩=pure [(x0,u0)]):BindA x q st [x0]:=λkV doc pm an cdv ct us hl=>by
 obtain⟨u0,t0,rfl,h0⟩:=bb hl
 cases len_0 h0
 exact b kV doc pm an cdv ct u0
theorem bind2{x0 x1:Str}(b:∀ (kV doc pm:Value) (an:Option Addr) (cdv ct u0 u1:Value),bindArgs (fnOf x q (aX st) (aA st) (ad st) .none kV doc pm an cdv ct) ⟨[u0,u1],[]⟩=pure [(x0,u0),(x1,u1)]):BindA x q st [x0,x1]:=λkV doc pm an cdv ct us hl=>by
 obtain⟨u0,t0,rfl,h0⟩:=bb hl
 obtain⟨u1,t1,rfl,h1⟩:=bb h0
 cases len_0 h1
 exact b kV doc pm an cdv ct u0 u1
theorem bind3{x0 x1 x2:Str}(b:∀ (kV doc pm:Value) (an:Option Addr) (cdv ct u0 u1 u2:Value),bindArgs (fnOf x q (aX st) (aA st) (ad st) .none kV doc pm an cdv ct) ⟨[u0,u1,u2],[]⟩=pure [(x0,u0),(x1,u1),(x2,u2)]):BindA x q st [x0,x1,x2]:=λkV doc pm an cdv ct us hl=>by
 obtain⟨u0,t0,rfl,h0⟩:=bb hl
 obtain⟨u1,t1,rfl,h1⟩:=bb h0
 obtain⟨u2,t2,rfl,h2⟩:=bb h1
 cases len_0 h2
 exact b kV doc pm an cdv ct u0 u1 u2
theorem bind4{x0 x1 x2 x3:Str}(b:∀ (kV doc pm:Value) (an:Option Addr) (cdv ct u0 u1 u2 u3:Value),bindArgs (fnOf x q (aX st) (aA st) (ad st) .none kV doc pm an cdv ct) ⟨[u0,u1,u2,u3],[]⟩=pure [(x0,u0),(x1,u1),(x2,u2),(x3,u3)]):BindA x q st [x0,x1,x2,x3]:=λkV doc pm an cdv ct us hl=>by
 obtain⟨u0,t0,rfl,h0⟩:=bb hl
 obtain⟨u1,t1,rfl,h1⟩:=bb h0
 obtain⟨u2,t2,rfl,h2⟩:=bb h1
 obtain⟨u3,t3,rfl,h3⟩:=bb h2
 cases len_0 h3
 exact b kV doc pm an cdv ct u0 u1 u2 u3
theorem bind5{x0 x1 x2 x3 x4:Str}(b:∀ (kV doc pm:Value) (an:Option Addr) (cdv ct u0 u1 u2 u3 u4:Value),bindArgs (fnOf x q (aX st) (aA st) (ad st) .none kV doc pm an cdv ct) ⟨[u0,u1,u2,u3,u4],[]⟩=pure [(x0,u0),(x1,u1),(x2,u2),(x3,u3),(x4,u4)]):BindA x q st [x0,x1,x2,x3,x4]:=λkV doc pm an cdv ct us hl=>by
 obtain⟨u0,t0,rfl,h0⟩:=bb hl
 obtain⟨u1,t1,rfl,h1⟩:=bb h0
 obtain⟨u2,t2,rfl,h2⟩:=bb h1
 obtain⟨u3,t3,rfl,h3⟩:=bb h2
 obtain⟨u4,t4,rfl,h4⟩:=bb h3
 cases len_0 h4
 exact b kV doc pm an cdv ct u0 u1 u2 u3 u4
structure ClF(K:xK)(x:Str)(C:Addr):Prop where
 ns:NsC K x C
 cl:Cls K C
 ha:xO K (.ref C) "__class__"=some (some (.builtin "object.__class__"))
 hn:specialIn K (.builtin "object.__class__") "__get__"=some (some (.builtin "getset_descriptor.__get__"))
 ht:takesIn K (.builtin "object.__class__")=some true
 hm:yr K C (.type "object")=some true
def ClIn(K:xK)(x:Str):Prop:=∃ C,ClF K x C
theorem clIn_mk{C:Addr}(a:nsIn K mainGlobals x=some (some (.ref C)))(pg:plainGet K C Str.empty=true)(hd:hasDictIn K C=true)(po:plainOver K C=true)(sa:xO K (.ref C) "__setattr__"=some (some (.builtin "object.__setattr__")))
  (ha:xO K (.ref C) "__class__"=some (some (.builtin "object.__class__"))) (hn:specialIn K (.builtin "object.__class__") "__get__"=some (some (.builtin "getset_descriptor.__get__"))) (ht:takesIn K (.builtin "object.__class__")=some true) (hm:yr K C (.type "object")=some true):ClIn K x:=⟨C,a,⟨pg,hd,po,sa⟩,ha,hn,ht,hm⟩
theorem ClIn.i(c:ClIn K x)(X:K.In h)(G:h.Ns mainGlobals mg):∃ C,ClsI K mg x C:=by
 obtain⟨C,k⟩:=c
 exact⟨C,k.ns,mg_of X G k.ns,k.cl,k.ha,k.hn,k.ht,k.hm,rW⟩
def NoIn(K:xK)(x f:Str):Prop:=∃ C,NsC K x C/\xO K (.ref C) f=some none
theorem noIn_mk{C:Addr}(a:nsIn K mainGlobals x=some (some (.ref C)))(b:xO K (.ref C) f=some none):NoIn K x f:=⟨C,a,b⟩
theorem ClIn.a(c:ClIn K x)(n:NoIn K x f):ClsA K x f:=by
 obtain⟨C,k⟩:=c
 obtain⟨D,a,b⟩:=n
 cases NsC.uniq k.ns a
 exact⟨C,a,k.cl,b⟩
theorem NoIn.all(n:NoIn K x f):∀ C,nsIn K mainGlobals x=some (some (.ref C))->xO K (.ref C) f=some none:=λC hC=>by
 obtain⟨D,a,b⟩:=n
 cases NsC.uniq hC a
 exact b
def MtIn(K:xK)(x m q:Str)(st:Stmt):Prop:=∃ C f fd,NsC K x C/\Meth K C m f/\Fun K m q st f fd
theorem mtIn_mk{C f:Addr}{oc:Value}{od an:Option Addr}{sl:Array (Option Value)}{kV dc pm cd ct:Value}(a:nsIn K mainGlobals x=some (some (.ref C)))(b:xO K (.ref C) m=some (some (.ref f)))(i:isFn K (.ref f)=true)(l:K.lookup f=some ⟨oc,od,.func (fnOf m q (aX st) (aA st) (ad st) .none kV dc pm an cd ct),sl⟩)(c:codeIn K cd q=true)(k:keepIn K (.ref f)=true):MtIn K x m q st:=⟨C,f,_,a,⟨b,i,k⟩,dO l c k⟩
theorem MtIn.txm(T:MtIn K x m q st)(c:ClIn K x)(b:BindA m q st ps):Txm K x m q st ps:=by
 obtain⟨C,k⟩:=c
 obtain⟨D,f,fd,a,mt,F⟩:=T
 cases NsC.uniq k.ns a
 exact⟨C,f,fd,a,k.cl,mt,F,F.binds b⟩
def InIn(K:xK)(x q:Str)(st:Stmt):Prop:=∃ C f fd,NsC K x C/\Mk K C f/\Fun K "__init__" q st f fd
theorem inIn_mk{C f:Addr}{oc:Value}{od an:Option Addr}{sl:Array (Option Value)}{kV dc pm cd ct:Value}(a:nsIn K mainGlobals x=some (some (.ref C)))(mk:makesIn K C=true)(b:xO K (.ref C) "__init__"=some (some (.ref f)))(i:isFn K (.ref f)=true)(kp:keepIn K (.ref C)=true)(l:K.lookup f=some ⟨oc,od,.func (fnOf "__init__" q (aX st) (aA st) (ad st) .none kV dc pm an cd ct),sl⟩)(c:codeIn K cd q=true)(k:keepIn K (.ref f)=true):InIn K x q st:=⟨C,f,_,a,⟨mk,b,i,kp⟩,dO l c k⟩
def Txi(K:xK)(mg:Str->Option Value)(x q:Str)(st:Stmt)(ps:List Str):Prop:=∃ C f fd,NsC K x C/\mg x=some (.ref C)/\Mk K C f/\Fun K "__init__" q st f fd/\Binds K fd ps []
theorem InIn.txi(T:InIn K x q st)(X:K.In h)(G:h.Ns mainGlobals mg)(b:BindA "__init__" q st ps):Txi K mg x q st ps:=by
 obtain⟨C,f,fd,a,mk,F⟩:=T
 exact⟨C,f,fd,a,mg_of X G a,mk,F,F.binds b⟩
def CiIn(K:xK)(x:Str)(i:Int):Prop:=∃ t,nsIn K mainGlobals x=some (some (.int i t))
def CsIn(K:xK)(x y:Str):Prop:=∃ t,nsIn K mainGlobals x=some (some (.str y t))
theorem ciIn_mk{i:Int}{t:Tok}(a:nsIn K mainGlobals x=some (some (.int i t))):CiIn K x i:=⟨t,a⟩
theorem csIn_mk{t:Tok}(a:nsIn K mainGlobals x=some (some (.str y t))):CsIn K x y:=⟨t,a⟩
theorem CiIn.g{i:Int}(c:CiIn K x i)(X:K.In h)(G:h.Ns mainGlobals mg):∃ t,mg x=some (.int i t):=let ⟨t,a⟩:=c;⟨t,mg_of X G a⟩
theorem CsIn.g(c:CsIn K x y)(X:K.In h)(G:h.Ns mainGlobals mg):∃ t,mg x=some (.str y t):=let ⟨t,a⟩:=c;⟨t,mg_of X G a⟩
def NnIn(K:xK)(x:Str):Prop:=nsIn K mainGlobals x=some none
theorem nnIn_mk(a:nsIn K mainGlobals x=some none):NnIn K x:=a
structure ErF(K:xK)(x:Str)(bm:List Value)(C N:Addr):Prop where
 ns:NsC K x C
 kp:keepIn K (.ref C)=true
 ob:∃ nm q bs sn sub ab col dd k0 k1 k2 k3 k5,K.lookup C=some (excClassObj nm q C N bs bm true sn sub ab col dd k0 k1 k2 k3 k5 "ValueError.__new__")
structure ErN(K:xK)(N:Addr):Prop where
 ok:nsOkIn K N=true
 no:nsIn K N "__init__"=some none
def EbIn(K:xK):Prop:=∃ C N,ErF K "MotifError" Exc.veLine C N/\ErN K N
def EdIn(K:xK)(x:Str)(C N:Addr):Prop:=∃ B,NsC K "MotifError" B/\ErF K x (.ref B::Exc.veLine) C N
def E0In(K:xK)(x:Str):Prop:=∃ C N,EdIn K x C N/\ErN K N
def E1In(K:xK)(x q:Str)(st:Stmt):Prop:=∃ C N f fd,EdIn K x C N/\xO K (.ref C) "__init__"=some (some (.ref f))/\isFn K (.ref f)=true/\Fun K "__init__" q st f fd
def EaIn(K:xK)(x:Str):Prop:=∃ C,NsC K x C/\xO K (.ref C) "__setattr__"=some (some (.builtin "object.__setattr__"))
def EgIn(K:xK)(x:Str):Prop:=∃ C,NsC K x C/\xO K (.ref C) "__getattribute__"=some (some (.builtin "BaseException.__getattribute__"))/\xO K (.ref C) "__getattr__"=some none
def EiIn(K:xK)(x:Str):Prop:=∃ M,NsC K x M/\readsIn K M (.type "type")=true/\findCls K (.ref M) (.type "type") "__init__"=some (.val (.builtin "ValueError.__init__"))/\specialIn K (.ref M) "__getattribute__"=some (some (.builtin "type.__getattribute__"))
def EmIn(K:xK)(x y:Str):Prop:=∃ C D,NsC K x C/\NsC K y D/\yr K C (.ref D)=some (subE x y)
section
variable {B C D N:Addr}{nm qn:Str}{bs:List Value}{sn:List Str}{sub:List Value}{ab:Bool}{col:Option Bool}{dd:Option Addr}{k0 k1 k2 k3 k5:Option Value}{nc:Value}{nd:Option Addr}{ne:Array DictEntry}{np:Nat}{nl:Array (Option Value)}
theorem ebIn_mk(a:nsIn K mainGlobals "MotifError"=some (some (.ref C)))(kp:keepIn K (.ref C)=true)(o:K.lookup C=some (excClassObj nm qn C N bs Exc.veLine true sn sub ab col dd k0 k1 k2 k3 k5 "ValueError.__new__"))(nk:K.lookup N=some ⟨nc,nd,.dict ne np,nl⟩)(al:ne.toList.all (λe=>match e.key with| .str _ _=>true|_=>false)=true)(ni:nsIn K N "__init__"=some none):EbIn K:=⟨C,N,⟨a,kp,_,_,_,_,_,_,_,_,_,_,_,_,_,o⟩,lG nk al,ni⟩
theorem e0In_mk(b:nsIn K mainGlobals "MotifError"=some (some (.ref B)))(a:nsIn K mainGlobals x=some (some (.ref C)))(kp:keepIn K (.ref C)=true)(o:K.lookup C=some (excClassObj nm qn C N bs (.ref B::Exc.veLine) true sn sub ab col dd k0 k1 k2 k3 k5 "ValueError.__new__"))(nk:K.lookup N=some ⟨nc,nd,.dict ne np,nl⟩)(al:ne.toList.all (λe=>match e.key with| .str _ _=>true|_=>false)=true)(ni:nsIn K N "__init__"=some none):E0In K x:=⟨C,N,⟨B,b,a,kp,_,_,_,_,_,_,_,_,_,_,_,_,_,o⟩,lG nk al,ni⟩
theorem e1In_mk{f:Addr}{oc:Value}{od an:Option Addr}{sl:Array (Option Value)}{kV dc pm cd ct:Value}(b:nsIn K mainGlobals "MotifError"=some (some (.ref B)))(a:nsIn K mainGlobals x=some (some (.ref C)))(kp:keepIn K (.ref C)=true)(o:K.lookup C=some (excClassObj nm qn C N bs (.ref B::Exc.veLine) true sn sub ab col dd k0 k1 k2 k3 k5 "ValueError.__new__"))
  (j:xO K (.ref C) "__init__"=some (some (.ref f))) (i:isFn K (.ref f)=true) (l:K.lookup f=some ⟨oc,od,.func (fnOf "__init__" q (aX st) (aA st) (ad st) .none kV dc pm an cd ct),sl⟩) (c:codeIn K cd q=true) (k:keepIn K (.ref f)=true):E1In K x q st:=⟨C,N,f,_,⟨B,b,a,kp,_,_,_,_,_,_,_,_,_,_,_,_,_,o⟩,j,i,dO l c k⟩
theorem eaIn_mk(a:nsIn K mainGlobals x=some (some (.ref C)))(b:xO K (.ref C) "__setattr__"=some (some (.builtin "object.__setattr__"))):EaIn K x:=⟨C,a,b⟩
theorem egIn_mk(a:nsIn K mainGlobals x=some (some (.ref C)))(b:xO K (.ref C) "__getattribute__"=some (some (.builtin "BaseException.__getattribute__")))(c:xO K (.ref C) "__getattr__"=some none):EgIn K x:=⟨C,a,b,c⟩
theorem eiIn_mk(a:nsIn K mainGlobals x=some (some (.ref C)))(b:readsIn K C (.type "type")=true)(c:findCls K (.ref C) (.type "type") "__init__"=some (.val (.builtin "ValueError.__init__")))(d:specialIn K (.ref C) "__getattribute__"=some (some (.builtin "type.__getattribute__"))):EiIn K x:=⟨C,a,b,c,d⟩
theorem emIn_mkT(e:subE x y=true)(a:nsIn K mainGlobals x=some (some (.ref C)))(c:nsIn K mainGlobals y=some (some (.ref D)))(d:yr K C (.ref D)=some true):EmIn K x y:=⟨C,D,a,c,e ▸ d⟩
theorem emIn_mkF(e:subE x y=false)(a:nsIn K mainGlobals x=some (some (.ref C)))(c:nsIn K mainGlobals y=some (some (.ref D)))(d:yr K C (.ref D)=some false):EmIn K x y:=⟨C,D,a,c,e ▸ d⟩
end
theorem EbIn.k(e:EbIn K)(X:K.In h)(G:h.Ns mainGlobals mg):∃ C N bm,ErrK K mg "MotifError" C N bm/\ErrN K N:=by
 obtain⟨C,N,k,n⟩:=e
 exact⟨C,N,_,⟨k.ns,mg_of X G k.ns,k.kp,k.ob,lF⟩,n.ok,n.no⟩
theorem EdIn.k{C N:Addr}(e:EdIn K x C N)(b:EbIn K)(X:K.In h)(G:h.Ns mainGlobals mg):∃ bm,ErrK K mg x C N bm:=by
 obtain⟨B,hB,k⟩:=e
 obtain⟨B',N',kb,n⟩:=b
 cases NsC.uniq kb.ns hB
 obtain⟨_,_,_,_,_,_,_,_,_,_,_,_,_,o⟩:=kb.ob
 exact⟨_,k.ns,mg_of X G k.ns,k.kp,k.ob,rV o rfl n.ok n.no⟩
theorem E0In.k(e:E0In K x)(b:EbIn K)(X:K.In h)(G:h.Ns mainGlobals mg):∃ C N bm,ErrK K mg x C N bm/\ErrN K N:=by
 obtain⟨C,N,k,n⟩:=e
 obtain⟨bm,z⟩:=k.k b X G
 exact⟨C,N,bm,z,n.ok,n.no⟩
def Txe(K:xK)(mg:Str->Option Value)(x q:Str)(st:Stmt)(ps:List Str):Prop:=∃ C N bm f fd,ErrK K mg x C N bm/\xO K (.ref C) "__init__"=some (some (.ref f))/\isFn K (.ref f)=true/\Fun K "__init__" q st f fd/\Binds K fd ps []
theorem E1In.txe(e:E1In K x q st)(b:EbIn K)(X:K.In h)(G:h.Ns mainGlobals mg)(bi:BindA "__init__" q st ps):Txe K mg x q st ps:=by
 obtain⟨C,N,f,fd,k,i,j,F⟩:=e
 obtain⟨bm,z⟩:=k.k b X G
 exact⟨C,N,bm,f,fd,z,i,j,F,F.binds bi⟩
theorem ErrK.a'{C N:Addr}{bm:List Value}(k:ErrK K mg x C N bm)(a:EaIn K x):∃ C cd,ErrA K x C cd:=by
 obtain⟨D,hD,sa⟩:=a
 cases NsC.uniq k.ns hD
 exact⟨C,k.a sa⟩
theorem E1In.a(e:E1In K x q st)(b:EbIn K)(a:EaIn K x)(X:K.In h)(G:h.Ns mainGlobals mg):∃ C cd,ErrA K x C cd:=by
 obtain⟨C,N,f,fd,k,_⟩:=e
 obtain⟨bm,z⟩:=k.k b X G
 exact z.a' a
theorem E1In.c(e:E1In K x q st)(b:EbIn K)(X:K.In h)(G:h.Ns mainGlobals mg):∃ C N bm,ErrK K mg x C N bm:=by
 obtain⟨C,N,f,fd,k,_⟩:=e
 obtain⟨bm,z⟩:=k.k b X G
 exact⟨C,N,bm,z⟩
theorem EiIn.b(e:EiIn K x)(X:K.In h)(G:h.Ns mainGlobals mg):∃ M,BaseK K mg x M:=by
 obtain⟨M,a,b,c,d⟩:=e
 exact⟨M,mg_of X G a,b,c,d⟩
theorem EgIn.g(e:EgIn K x)(a:∃ C cd,ErrA K x C cd)(n:NoIn K x f):ErrG K f x:=by
 obtain⟨C,h1,h2,h3⟩:=e
 obtain⟨D,cd,ea⟩:=a
 cases NsC.uniq ea.ns h1
 exact⟨C,cd,ea,h2,h3,n.all C h1⟩
def AllP(p:Str->Prop):List Str->Prop
 |[]=>True
 |a::l=>p a/\AllP p l
theorem AllP.mem{p:Str->Prop}:∀ {l:List Str},AllP p l->∀ x∈l,p x
 |_::_,h,_,.head _=>h.1
 |_::_,h,_,.tail _ m=>AllP.mem h.2 _ m
theorem tT{es:List Str}(c:AllP (λx=>∃ C N bm,ErrK K mg x C N bm) es)(s:AllP (λx=>AllP (λy=>EmIn K x y) es) es):ErrsK K mg es:=by
 refine⟨c.mem,λx hx y hy C C' h1 h2=>?_⟩
 obtain⟨A,B,a,b,m⟩:=(s.mem x hx).mem y hy
 cases NsC.uniq a h1
 cases NsC.uniq b h2
 exact m
end
structure Bx where
 P:Program
 w:World
 K:xK
 mg:Str->Option Value
 base:Heap
abbrev Bx.T(V:Bx)(x:Str)(st:Stmt)(ps:List Str):Prop:=Tx V.K V.mg x st ps
abbrev Bx.Tm(V:Bx)(x m q:Str)(st:Stmt)(ps:List Str):Prop:=Txm V.K x m q st ps
abbrev Bx.Ti(V:Bx)(x q:Str)(st:Stmt)(ps:List Str):Prop:=Txi V.K V.mg x q st ps
abbrev Bx.Te(V:Bx)(x q:Str)(st:Stmt)(ps:List Str):Prop:=Txe V.K V.mg x q st ps
abbrev Bx.Ek(V:Bx)(es:List Str):Prop:=ErrsK V.K V.mg es
abbrev Bx.m(V:Bx)(x:Str):Prop:=V.mg x=none
abbrev Bx.gi(V:Bx)(x:Str)(i:Int):Prop:=∃ t,V.mg x=some (.int i t)
abbrev Bx.gs(V:Bx)(x y:Str):Prop:=∃ t,V.mg x=some (.str y t)
abbrev Bx.a(V:Bx)(x f:Str):Prop:=ClsA V.K x f
abbrev Bx.i(V:Bx)(x:Str):Prop:=∃ C,ClsI V.K V.mg x C
abbrev Bx.D(V:Bx)(n:Nat)(x:Str)(ps:List Str)(S:SpD):Prop:=CalD V.P V.w V.K V.mg V.base n x ps S
abbrev Bx.X(V:Bx)(n:Nat)(x:Str)(ps:List Str)(S:SpX):Prop:=CalX V.P V.w V.K V.mg V.base n x ps S
abbrev Bx.MM(V:Bx)(n:Nat)(x:Str)(ps:List Str)(S:SpM):Prop:=CalMM V.P V.w V.K V.mg V.base n x ps S
abbrev Bx.M(V:Bx)(n:Nat)(x:Str)(ps:List Str)(S:SiD):Prop:=CalM V.P V.w V.K V.mg V.base n x ps S
abbrev Bx.E(V:Bx)(n:Nat)(x:Str)(ps:List Str)(S:SiD):Prop:=CalE V.P V.w V.K V.mg V.base n x ps S
abbrev Bx.Q(V:Bx)(n:Nat)(x m:Str)(ps:List Str)(S:SpM):Prop:=CalMth V.P V.w V.K V.mg V.base n x m ps (lSpM V.K S)
abbrev Bx.n(V:Bx)(x:Str):Prop:=∃ C N bm,ErrK V.K V.mg x C N bm/\ErrN V.K N
abbrev Bx.b(V:Bx)(x:Str):Prop:=∃ M,BaseK V.K V.mg x M
abbrev Bx.ea(V:Bx)(x:Str):Prop:=∃ C cd,ErrA V.K x C cd
abbrev Bx.xf(V:Bx)(x f:Str):Prop:=∀ C,nsIn V.K mainGlobals x=some (some (.ref C))->xO V.K (.ref C) f=some none
abbrev Bx.x(V:Bx)(f:Str)(ys:List Str):Prop:=∀ y∈ys,ErrG V.K f y
section
variable {P:Program}{w:World}{K:xK}{mg:Str->Option Value}{base:Heap}
theorem Txi.okI{x qual:Str}{st:Stmt}{N:List Str}{p0:Str}{ps:List Str}{k:Nat}{S:SiD}(T:Txi K mg x qual st (p0::ps))(F:FnScope (p0::N) (p0::ps) (ad st))(len:∀ ds R,S ds R->ds.length=ps.length)
  (hbody:∀ (f:Addr) (cdv:Value) (A:Around) (outer:List Env) (s:Shared) (H:Hp) (E:XK) (J:Jx),Room k (A.deeper (envOfC qual (ad st) s.heap.objs.size f cdv))->
   ∃ t,WDI (cxOf (Exc.CX1 P w) P w K mg base (p0::N) qual (ad st) f cdv A outer s H E).nox x (aA st) t/\∀ ds R,S ds R->t (none::startD N ds) [] R):CalM P w K mg base (k+1) x (p0::ps) S:=by
 obtain⟨C,f,fd,a,b,c,d,e⟩:=T
 exact Cls.okIW d e F len a b c (hbody f)
theorem Txi.okIM{x qual:Str}{st:Stmt}{N:List Str}{p0:Str}{ps:List Str}{k:Nat}{S:SiD}(T:Txi K mg x qual st (p0::ps))(F:FnScope N (p0::ps) (ad st))(len:∀ ds R,S ds R->ds.length=ps.length)
  (hbody:∀ (f:Addr) (cdv:Value) (A:Around) (outer:List Env) (s:Shared) (H:Hp) (E:XK) (J:Jm),Room k (A.deeper (envOfC qual (ad st) s.heap.objs.size f cdv))->XOkM (cxOf (Exc.CX1 P w) P w K mg base N qual (ad st) f cdv A outer s H E).nox->
   ∃ t,MSs (cxOf (Exc.CX1 P w) P w K mg base N qual (ad st) f cdv A outer s H E).nox (aA st) t/\∀ a ds R,(∀ z M x fs,¬ J.RM z M x fs)->S ds R->t {nx:=λ_ M'=>∃ fs,M'=[(a,.ins x fs)]/\R fs,rt:=λ_ _=>False} (startD N (.ptr a::ds)) [(a,.ins x [])]):CalM P w K mg base (k+1) x (p0::ps) S:=by
 obtain⟨C,f,fd,a,b,c,d,e⟩:=T
 exact Cls.okIM d e F len a b c (hbody f)
theorem Txe.okE{x qual:Str}{st:Stmt}{N:List Str}{p0:Str}{ps:List Str}{k:Nat}{S:SiD}(T:Txe K mg x qual st (p0::ps))(F:FnScope (p0::N) (p0::ps) (ad st))(len:∀ ds R,S ds R->ds.length=ps.length)
  (hbody:∀ (f:Addr) (cdv:Value) (A:Around) (outer:List Env) (s:Shared) (H:Hp) (E:XK) (J:Jx),Room k (A.deeper (envOfC qual (ad st) s.heap.objs.size f cdv))->
   ∃ t,WDX (cxOf (Exc.CX1 P w) P w K mg base (p0::N) qual (ad st) f cdv A outer s H E).nox x (aA st) t/\∀ ds R,S ds R->t (none::startD N ds) [] R):CalE P w K mg base (k+1) x (p0::ps) S:=by
 obtain⟨C,N',bm,f,fd,a,b,c,d,e⟩:=T
 exact Cls.okEW d e F len a b c (hbody f)
end
end My
end
section
open PySem PySem.Spec PyProof.Rows L2
namespace My
section
variable {X:Cx}[J:Jx]{a b c e o elt iter:Expr}{es:List Expr}{ta tb tc te to ti tj:TD}{tt:TDT}{t:TDA}{pos px:Pos}{x:Str}{scope:Scope}
def mn(ix:Nat)(tdi:TDI)(te:TD):TSD:=λE z=>tdi z (cmpP te z λd=>match d with| .lst ys=>E.nx (z.set ix (some (.own ys)))|_=>False)
theorem tU{K:xK}{E:Ends}{s:L2.St}{H:Hp}{ix:Nat}{wi:TI}{tdi:TDI}(hI:ItOk K wi tdi)(q:lS K (mn ix tdi te) E s H):tAsg (gl wi (lT K dT1) (lE K te)) (dI ix) E s H:=by
 obtain⟨B,F0,F,z,k,rs,ED,h,e⟩:=q
 refine hI k.kf rs h λitems J F1 H1 g1 hg it=>rB (Q:=λv H=>E.nx (s.set ix (some v)) H) k.kf g1 rs (λD ys us F' H' hH hF GG hu ry hR=>?_) it (cmpP.g hg)
 have r2:=(rs.grow GG).setOwn (i:=ix) (a:=D) (k.bh.free hH) hF ry λj dj _ q1 q2=>by
  obtain⟨a,vs,p1,p2,_⟩:=rs.own j dj q1
  rw[p1] at q2
  cases q2
  rw[hH] at p2
  cases p2
 rw[ly hu] at r2
 exact e.nx _ _ F' H' (k.grow GG) hR r2
theorem tV(ix:Nat){y:Str}{py spos p1 p2:Pos}(hc:X.calm=true)(S:CompScope X scope x)(hN:X.N.Nodup)(hm:X.mg "range"=none)(hi:WDE X iter ti)(he:∀ cl s₀ H₀ fp,WDE (bU X scope cl x s₀ H₀ fp) elt te)(hg:Gl X "range":=by rfl)(hiy:X.N[ix]?=some y:=by rfl)(hy:Loc X.env.scope y:=by first|exact Or.inl rfl|exact Or.inr rfl)
  (hf:zFN X y:=by first|exact .inl rfl|exact .inr rfl|assumption) (hsw:swapsWith (.ListComp elt [⟨.Name x px,.Call (.Name "range" p1) [iter] [] p2,[],0⟩] scope pos) (some (.Name y py)) spos.line X.env=pure true:=by rfl)
  (hs:∀ y,zFS X (.Call (.Name "range" p1) [iter] [] p2) y:=by exact λ_=>rfl) (hse:zSE X iter []:=by rfl) (hse2:starEach [iter] X.env=[(false,eval iter X.env)]:=by rfl):
  WDS X (.Assign [.Name y py] (.ListComp elt [⟨.Name x px,.Call (.Name "range" p1) [iter] [] p2,[],0⟩] scope pos) spos) (mn ix (dItR ti) te):=⟨(rz hc S (fO hg hm (bg hi.out pa_nil hse) hse2) (λ_ _ _ _=>rA) (λa b c d=>(he a b c d).out) hN hiy hy hf hsw hs).anti λE s H q=>tU itR q⟩
end
end My
end
section
namespace My
open PySem PySem.Spec PyProof.Rows L2
theorem b64{w:Int}(h:0<w)(h':w<=720): -(2 ^ 64)<w/\w<2 ^ 64:=by omega
theorem s64{s w:Int}(h:0<=s)(h':s<w)(h'':w<=720): -(2 ^ 64)<s/\s<2 ^ 64:=by omega
theorem d30{w:Int}(h:0<w)(h':w<=720):0<w/\w<1073741824:=by omega
theorem fdm(a b:Int)(hb:b≠0):(a - a.fdiv b*b).natAbs<b.natAbs/\(a.fdiv b).natAbs<=a.natAbs+1:=by
 have e:=Int.fmod_def a b
 have e2:a - a.fdiv b*b=a.fmod b:=by rw[e,zO]
 rw[e2]
 have r:(a.fmod b).natAbs<b.natAbs:=by
  rcases(by omega:0<b\/b<0) with h|h
  ·have h1:=Ar a h
   have h2:=As a h
   omega
  ·have h1:=Ar (-a) (show 0< -b by omega)
   have h2:=As (-a) (show 0< -b by omega)
   rw[Int.neg_fmod_neg] at h1 h2
   omega
 refine⟨r,?_⟩
 have e3:(b*a.fdiv b).natAbs=b.natAbs*(a.fdiv b).natAbs:=Au _ _
 have e4:=Int.mul_fdiv_self a b
 rcases zI (a.natAbs+1) (a.fdiv b).natAbs with c|c
 ·have h1:b.natAbs*(a.natAbs+2)<=b.natAbs*(a.fdiv b).natAbs:=Nat.mul_le_mul_left _ c
  have h2:b.natAbs*(a.natAbs+2)=b.natAbs*a.natAbs+2*b.natAbs:=by rw[Nat.mul_add,Nat.mul_comm _ 2]
  have h3:1*a.natAbs<=b.natAbs*a.natAbs:=Nat.mul_le_mul_right _ (by omega)
  omega
 ·exact c
def Uni(a b c d p0 p1 q0 q1:Int):Prop:=∃ m n k l:Int,(m*l - n*k=1\/m*l - n*k=-1)/\p0=m*a+n*c/\p1=m*b+n*d/\q0=k*a+l*c/\q1=k*b+l*d
theorem Uni.refl(a b c d:Int):Uni a b c d a b c d:=⟨1,0,0,1,.inl (by decide),by omega,by omega,by omega,by omega⟩
theorem Uni.step{a b c d p0 p1 q0 q1:Int}(t:Int)(h:Uni a b c d p0 p1 q0 q1):Uni a b c d q0 q1 (p0 - t*q0) (p1 - t*q1):=by
 obtain⟨m,n,k,l,hd,rfl,rfl,rfl,rfl⟩:=h
 refine⟨k,l,m - t*k,n - t*l,?_,rfl,rfl,by grind,by grind⟩
 rcases hd with h|h
 ·right;grind
 ·left;grind
theorem Uni.neg{a b c d p0 p1 q0 q1:Int}(h:Uni a b c d p0 p1 q0 q1):Uni a b c d (-p0) (-p1) q0 q1:=by
 obtain⟨m,n,k,l,hd,rfl,rfl,rfl,rfl⟩:=h
 refine⟨-m,-n,k,l,?_,by grind,by grind,rfl,rfl⟩
 rcases hd with h|h
 ·right;grind
 ·left;grind
theorem Uni.inv{a b c d p0 p1 q0 q1:Int}(h:Uni a b c d p0 p1 q0 q1):Uni p0 p1 q0 q1 a b c d:=by
 obtain⟨m,n,k,l,hd,rfl,rfl,rfl,rfl⟩:=h
 rcases hd with h|h
 ·exact⟨l,-n,-k,m,.inl (by grind),by grind,by grind,by grind,by grind⟩
 ·exact⟨-l,n,k,-m,.inr (by grind),by grind,by grind,by grind,by grind⟩
theorem Uni.det{a b c d p0 p1 q0 q1:Int}(h:Uni a b c d p0 p1 q0 q1):p0*q1 - p1*q0=a*d - b*c\/p0*q1 - p1*q0=-(a*d - b*c):=by
 obtain⟨m,n,k,l,hd,rfl,rfl,rfl,rfl⟩:=h
 rcases hd with h|h
 ·left;grind
 ·right;grind
def Lev(a b c d p0 p1 q0:Int):Prop:=0<=p1/\Uni a b c d p0 p1 q0 0
def FamOf(a b c d w h s:Int):Prop:=0<w/\0<h/\0<=s/\s<w/\Uni a b c d w 0 s h
theorem tW(x:Int):(if x<0 then -x else x)=x\/(if x<0 then -x else x)=-x:=by
 split<;>simp
theorem tX{x:Int}(h:x≠0):0<(if x<0 then -x else x):=by split<;>omega
theorem gD{a b c d p0 p1 q0:Int}(hn:¬ a*d=b*c)(h:Lev a b c d p0 p1 q0):FamOf a b c d (if q0<0 then -q0 else q0) p1 (p0 % (if q0<0 then -q0 else q0)):=by
 obtain⟨hp,hu⟩:=h
 have dt:=hu.det
 have q0n:q0≠0:=by
  rintro rfl
  simp at dt
  omega
 have p1n:p1≠0:=by
  rintro rfl
  simp at dt
  omega
 have hw:=tX q0n
 have hs:=tW q0
 generalize (if q0<0 then -q0 else q0)=w at hw hs
 refine⟨hw,by omega,zP _ (by omega),zQ _ hw,?_⟩
 have em:=zb p0 w
 generalize p0 % w=s at em
 generalize p0 / w=t at em
 obtain⟨m,n,k,l,hd,e1,e2,e3,e4⟩:=hu
 rcases hs with e|e
 ·refine⟨k,l,m - t*k,n - t*l,?_,by grind,by grind,by grind,by grind⟩
  rcases hd with h|h
  ·right;grind
  ·left;grind
 ·refine⟨-k,-l,m+t*k,n+t*l,?_,by grind,by grind,by grind,by grind⟩
  rcases hd with h|h
  ·left;grind
  ·right;grind
theorem in_fam{w h s x y i j:Int}(hh:0<h)(ex:x=i*w+j*s)(ey:y=j*h):y % h=0/\(x - y / h*s) % w=0:=by
 subst ex ey
 rw[yo _ (by omega)]
 refine⟨zR _ _,?_⟩
 have e:i*w+j*s - j*s=i*w:=by omega
 rw[e]
 exact zR _ _
theorem FamOf.first{a b c d w h s:Int}(f:FamOf a b c d w h s):b % h=0/\(a - b / h*s) % w=0:=by
 obtain⟨hw,hh,_,_,hu⟩:=f
 obtain⟨m,n,k,l,_,e1,e2,e3,e4⟩:=hu.inv
 exact in_fam (i:=m) (j:=n) hh e1 (by omega)
theorem FamOf.second{a b c d w h s:Int}(f:FamOf a b c d w h s):d % h=0/\(c - d / h*s) % w=0:=by
 obtain⟨hw,hh,_,_,hu⟩:=f
 obtain⟨m,n,k,l,_,e1,e2,e3,e4⟩:=hu.inv
 exact in_fam (i:=k) (j:=l) hh e3 (by omega)
theorem FamOf.cells{a b c d w h s:Int}(f:FamOf a b c d w h s):w*h=a*d - b*c\/w*h=-(a*d - b*c):=by
 have:=f.2.2.2.2.det
 simpa using this
theorem bH{a d:Int}{A B:Nat}(h1:a.natAbs<=A)(h2:d.natAbs<=B):(a*d).natAbs<=A*B:=by
 rw[Au];exact Av h1 h2
theorem dz{w h:Int}(hw:0<w)(hh:0<h):w<=w*h/\h<=w*h:=by
 have h1:=Int.mul_le_mul_of_nonneg_left (show 1<=h by omega) (show 0<=w by omega)
 have h2:=yp (show 1<=w by omega) (show 0<=h by omega)
 omega
theorem FamOf.bd{a b c d w h s:Int}(f:FamOf a b c d w h s){N:Nat}(hN:(a*d - b*c).natAbs<=N):w<=N/\h<=N/\s<N:=by
 obtain⟨h1,h2⟩:=dz f.1 f.2.1
 have h3:=f.cells
 have h4:=f.2.2.2.1
 omega
def Meas(x y g u:Int):Prop:=0<=g/\(∃ i,x=i*g)/\(∃ j,y=j*g)/\∃ n,g=u*x+n*y
theorem mq{x y u g q:Int}(h:0<=g/\∃ m n k l:Int,(m*l - n*k=1\/m*l - n*k=-1)/\u=m*1+n*0/\g=m*x+n*y/\q=k*1+l*0/\0=k*x+l*y):Meas x y g u:=by
 obtain⟨h0,m,n,k,l,hd,e1,e2,e3,e4⟩:=h
 refine⟨h0,?_,?_,n,by grind⟩
 ·rcases hd with h|h
  ·exact⟨l,by grind⟩
  ·exact⟨-l,by grind⟩
 ·rcases hd with h|h
  ·exact⟨-k,by grind⟩
  ·exact⟨k,by grind⟩
theorem Meas.pos{x y g u:Int}(h:Meas x y g u)(hx:0<x):0<g:=by
 obtain⟨h0,⟨i,hi⟩,_⟩:=h
 rcases(by omega:g=0\/0<g) with e|e
 ·subst e;simp at hi;omega
 ·exact e
theorem Meas.le{x y g u:Int}(h:Meas x y g u)(hx:0<x):g<=x:=by
 have hg:=h.pos hx
 obtain⟨h0,⟨i,hi⟩,_⟩:=h
 have hi0:0<i:=by
  rcases(by omega:i<=0\/0<i) with e|e
  ·have:=zc e h0
   omega
  ·exact e
 have:=yp (show 1<=i by omega) h0
 omega
structure MetR(w1 h1 s1 w2 h2 s2 w h s A:Int):Prop where
 w0:0<w
 h0:0<h
 s0:0<=s
 sw:s<w
 in1:∃ i,w=i*w1
 in2:∃ i,w=i*w2
 up1:∃ i j,s=i*w1+j*s1/\h=j*h1
 up2:∃ i j,s=i*w2+j*s2/\h=j*h2
 A0:0<A
 cells:w*h*A=w1*h1*w2*h2
 d11:A∣w1*h1
 d12:A∣w1*h2
 d21:A∣w2*h1
 d22:A∣w2*h2
 ds:A∣s1*h2 - h1*s2
 all:∀ x y:Int,(∃ i j,x=i*w1+j*s1/\y=j*h1)->(∃ i j,x=i*w2+j*s2/\y=j*h2)->∃ i j,x=i*w+j*s/\y=j*h
 comb:∀ G:Int,G∣w1*h1->G∣w1*h2->G∣w2*h1->G∣w2*h2->G∣s1*h2 - h1*s2->G∣A
theorem cB{x y:Int}(h:0<x*y)(hy:0<y):0<x:=by
 rcases(by omega:x<=0\/0<x) with e|e
 ·have:=zc e (show 0<=y by omega)
  omega
 ·exact e
theorem gE{a b c:Int}(ha:0<a)(h:a*b=a*c):b=c:=Int.eq_of_mul_eq_mul_left (by omega) h
theorem r1(k j c:Int):k*(j*c)=j*(c*k):=by grind
theorem r2(j u c n d:Int):j*(u*c+n*d)=u*(j*c)+n*d*j:=by grind
theorem r3(u j d n j1:Int):u*(j*d)+n*d*j1=d*(u*j+n*j1):=by grind
theorem r4(j u c n d:Int):j*(u*c+n*d)=u*c*j+n*(j*d):=by grind
theorem r5(u c j n j1:Int):u*c*j+n*(j1*c)=c*(u*j+n*j1):=by grind
theorem r6(g e i1 a i2 b d T s1 c s2:Int)(q:i1*(a*(e*g))+d*T*s1=i2*(b*(e*g))+c*T*s2):g*(e*(i1*a - i2*b))=T*(c*s2 - d*s1):=by grind
theorem r7(g T f:Int):g*(T*f)=T*(f*g):=by grind
theorem r8(T v e q f:Int):T*(v*e+q*f)=v*T*e+q*(T*f):=by grind
theorem r9(v T e q m:Int):v*T*e+q*(e*m)=e*(v*T+q*m):=by grind
theorem r10(e r f:Int):e*r*f=e*(r*f):=by grind
theorem r11(i u a n b:Int):i*(u*a+n*b)=u*(i*a)+n*b*i:=by grind
theorem r12(u r f i2 b n i1:Int):u*(r*f+i2*b)+n*b*i1=u*(r*f)+b*(u*i2+n*i1):=by grind
theorem r13(u r f b M a e g d s1 t:Int):(u*(r*f)+b*M)*(a*(e*g))+d*(e*r)*s1=(M+r*t)*(a*b*(e*g))+r*(e*(d*s1)+f*u*(a*(e*g)) - a*b*(e*g)*t):=by grind
theorem r14(d e r c k:Int):d*(e*r)*(c*k)=r*(c*d*k*e):=by grind
theorem tY{a b c d e f k gg u n u' n' v q s1 s2 t s x y i1 j1 i2 j2:Int}(hk:0<k)(hgg:0<gg)(he:0<e)
  (one1:u*a+n*b=1) (one2:u'*c+n'*d=1) (gap:c*s2 - d*s1=f*gg) (one3:v*e+q*f=1)
  (hs:s=e*(d*s1)+f*u*(a*(e*gg)) - a*b*(e*gg)*t) (x1:x=i1*(a*(e*gg))+j1*s1) (y1:y=j1*(c*k)) (x2:x=i2*(b*(e*gg))+j2*s2) (y2:y=j2*(d*k)):
  ∃ i j,x=i*(a*b*(e*gg))+j*s/\y=j*(c*d*k*e):=by
 have h1:j1*c=j2*d:=gE hk (by rw[r1 k j1 c,r1 k j2 d,<- y1,<- y2])
 have ej1:j1=d*(u'*j2+n'*j1):=by
  have p:=r2 j1 u' c n' d
  rw[one2,h1,r3] at p
  omega
 have ej2:j2=c*(u'*j2+n'*j1):=by
  have p:=r4 j2 u' c n' d
  rw[one2,<- h1,r5] at p
  omega
 generalize u'*j2+n'*j1=T at ej1 ej2
 have q1:i1*(a*(e*gg))+d*T*s1=i2*(b*(e*gg))+c*T*s2:=by rw[<- ej1,<- ej2,<- x1,<- x2]
 have h2:e*(i1*a - i2*b)=T*f:=gE hgg (by rw[r6 gg e i1 a i2 b d T s1 c s2 q1,r7,gap])
 have eT:T=e*(v*T+q*(i1*a - i2*b)):=by
  have p:=r8 T v e q f
  rw[one3,<- h2,r9] at p
  omega
 generalize hr:v*T+q*(i1*a - i2*b)=r at eT
 have h3:i1*a - i2*b=r*f:=gE he (by rw[h2,eT,r10])
 have h4:i1=u*(r*f)+b*(u*i2+n*i1):=by
  have p:=r11 i1 u a n b
  have q3:i1*a=r*f+i2*b:=by omega
  rw[one1,q3,r12] at p
  omega
 generalize u*i2+n*i1=M at h4
 refine⟨M+r*t,r,?_,?_⟩
 ·rw[hs,x1,ej1,eT,<- r13,<- h4]
 ·rw[y1,ej1,eT,r14]
theorem tZ{a b c d e f k gg u n u' n' v q s1 s2 t s:Int}(ha:0<a)(hb:0<b)(hc:0<c)(hd:0<d)(he:0<e)(hk:0<k)(hgg:0<gg)
  (one1:u*a+n*b=1) (one2:u'*c+n'*d=1) (gap:c*s2 - d*s1=f*gg) (one3:v*e+q*f=1)
  (hs:s=e*(d*s1)+f*u*(a*(e*gg)) - a*b*(e*gg)*t) (m1:0<=s) (m2:s<a*b*(e*gg)):
  MetR (a*(e*gg)) (c*k) s1 (b*(e*gg)) (d*k) s2 (a*b*(e*gg)) (c*d*k*e) s (k*gg):=by
 have hg:0<e*gg:=yd he hgg
 have hW:0<a*b*(e*gg):=yd (yd ha hb) hg
 have gap2:d*s1=c*s2 - f*gg:=by omega
 have ua:u*a=1 - n*b:=by omega
 refine⟨hW,yd (yd (yd hc hd) hk) he,m1,m2,⟨b,?_⟩,⟨a,?_⟩,⟨f*u - t*b,d*e,?_,?_⟩,⟨-(f*n) - t*a,c*e,?_,?_⟩,yd hk hgg,?_,⟨a*e*c,?_⟩,⟨a*e*d,?_⟩,⟨b*e*c,?_⟩,⟨b*e*d,?_⟩,⟨-f,?_⟩,?_,?_⟩
 ·grind
 ·grind
 ·grind
 ·grind
 ·rw[hs,gap2]
  have x2:f*u*(a*(e*gg))=f*(u*a)*(e*gg):=by grind
  rw[x2,ua];grind
 ·grind
 ·grind
 ·grind
 ·grind
 ·grind
 ·grind
 ·have:s1*(d*k) - c*k*s2=-(k*(c*s2 - d*s1)):=by grind
  rw[this,gap];grind
 ·rintro x y ⟨i1,j1,x1,z1⟩ ⟨i2,j2,x2,z2⟩
  exact tY hk hgg he one1 one2 gap one3 hs x1 z1 x2 z2
 ·rintro G ⟨y1,z1⟩ ⟨y2,z2⟩ ⟨y3,z3⟩ ⟨y4,z4⟩ ⟨y5,z5⟩
  refine⟨v*(u'*u*y1+n'*u*y2+u'*n*y3+n'*n*y4) - q*y5,?_⟩
  have k1:k*(e*gg)=G*(u'*u*y1+n'*u*y2+u'*n*y3+n'*n*y4):=by
   have p1:k*(e*gg)=(u'*c+n'*d)*(u*a+n*b)*(k*(e*gg)):=by rw[one1,one2];grind
   have p2:(u'*c+n'*d)*(u*a+n*b)*(k*(e*gg))=u'*u*(a*(e*gg)*(c*k))+n'*u*(a*(e*gg)*(d*k))+u'*n*(b*(e*gg)*(c*k))+n'*n*(b*(e*gg)*(d*k)):=by grind
   rw[p1,p2,z1,z2,z3,z4];grind
  have k2:k*(f*gg)=-(G*y5):=by
   rw[<- z5,<- gap];grind
  have k3:k*gg=(v*e+q*f)*(k*gg):=by rw[one3];grind
  have k4:(v*e+q*f)*(k*gg)=v*(k*(e*gg))+q*(k*(f*gg)):=by grind
  rw[k3,k4,k1,k2];grind
theorem ms{w1 h1 s1 w2 h2 s2 g u k u' gg u'':Int}(hw1:0<w1)(hw2:0<w2)(hh1:0<h1)(hh2:0<h2)
  (M1:Meas w1 w2 g u) (M2:Meas h1 h2 k u')
  (M3:Meas g (h1*h2 / k / h2*s2 - h1*h2 / k / h1*s1) gg u''):
  MetR w1 h1 s1 w2 h2 s2 (w1*w2 / g) (h1*h2 / k*(g / gg)) ((g / gg*(h1*h2 / k / h1*s1)+g / gg*(h1*h2 / k / h2*s2 - h1*h2 / k / h1*s1) / g*u*w1) % (w1*w2 / g)) (k*gg):=by
 have hg:=M1.pos hw1
 have hk:=M2.pos hh1
 have hgg:=M3.pos hg
 obtain⟨_,⟨a,ea⟩,⟨b,eb⟩,n,en⟩:=M1
 obtain⟨_,⟨c,ec⟩,⟨d,ed⟩,n',en'⟩:=M2
 have ha:0<a:=cB (ea ▸ hw1) hg
 have hb:0<b:=cB (eb ▸ hw2) hg
 have hc:0<c:=cB (ec ▸ hh1) hk
 have hd:0<d:=cB (ed ▸ hh2) hk
 have one1:u*a+n*b=1:=by
  have p:(u*a+n*b)*g=1*g:=by
   have:(u*a+n*b)*g=u*(a*g)+n*(b*g):=by grind
   rw[this,<- ea,<- eb];omega
  exact zp (by omega) p
 have one2:u'*c+n'*d=1:=by
  have p:(u'*c+n'*d)*k=1*k:=by
   have:(u'*c+n'*d)*k=u'*(c*k)+n'*(d*k):=by grind
   rw[this,<- ec,<- ed];omega
  exact zp (by omega) p
 have eW:w1*w2 / g=a*b*g:=by
  have:w1*w2=(a*b*g)*g:=by rw[ea,eb];grind
  rw[this];exact yo _ (by omega)
 have eR:h1*h2 / k=c*d*k:=by
  have:h1*h2=(c*d*k)*k:=by rw[ec,ed];grind
  rw[this];exact yo _ (by omega)
 have eR1:h1*h2 / k / h1=d:=by
  rw[eR]
  have:c*d*k=d*h1:=by rw[ec];grind
  rw[this];exact yo _ (by omega)
 have eR2:h1*h2 / k / h2=c:=by
  rw[eR]
  have:c*d*k=c*h2:=by rw[ed];grind
  rw[this];exact yo _ (by omega)
 rw[eR1,eR2] at M3 ⊢
 obtain⟨_,⟨e,ee⟩,⟨f,ef⟩,q,eq⟩:=M3
 have he:0<e:=cB (ee ▸ hg) hgg
 have one3:u''*e+q*f=1:=by
  have p:(u''*e+q*f)*gg=1*gg:=by
   have:(u''*e+q*f)*gg=u''*(e*gg)+q*(f*gg):=by grind
   rw[this,<- ee,<- ef];omega
  exact zp (by omega) p
 have eC:g / gg=e:=by rw[ee];exact yo _ (by omega)
 have eS:e*(c*s2 - d*s1) / g=f:=by
  have:e*(c*s2 - d*s1)=f*g:=by rw[ef,ee];grind
  rw[this];exact yo _ (by omega)
 rw[eC,eS,eW,eR]
 have hW:0<a*b*g:=yd (yd ha hb) hg
 have em:=zb (e*(d*s1)+f*u*w1) (a*b*g)
 have m1:=zP (e*(d*s1)+f*u*w1) (show a*b*g≠0 by omega)
 have m2:=zQ (e*(d*s1)+f*u*w1) hW
 generalize (e*(d*s1)+f*u*w1) % (a*b*g)=s at em m1 m2 ⊢
 generalize (e*(d*s1)+f*u*w1) / (a*b*g)=t at em
 subst ea eb ec ed
 subst ee
 exact tZ ha hb hc hd he hk hgg one1 one2 ef one3 em m1 m2
theorem mv{x y g u:Int}(hx:0<x)(hy:0<y)(M:Meas x y g u):0<x*y / g/\x*y / g<=x*y/\x*y / g / x*1<=y/\0<=x*y / g / x/\x*y / g / y<=x/\0<=x*y / g / y:=by
 have hg:=M.pos hx
 obtain⟨_,⟨a,ea⟩,⟨b,eb⟩,_⟩:=M
 have ha:0<a:=cB (ea ▸ hx) hg
 have hb:0<b:=cB (eb ▸ hy) hg
 have e1:x*y / g=a*b*g:=by
  have:x*y=(a*b*g)*g:=by rw[ea,eb];grind
  rw[this];exact yo _ (by omega)
 have e2:a*b*g / x=b:=by
  have:a*b*g=b*x:=by rw[ea];grind
  rw[this];exact yo _ (by omega)
 have e3:a*b*g / y=a:=by
  have:a*b*g=a*y:=by rw[eb];grind
  rw[this];exact yo _ (by omega)
 have p1:0<a*b*g:=yd (yd ha hb) hg
 have q1:=(dz (w:=b) (h:=g) hb hg).1
 have q2:=(dz (w:=a) (h:=g) ha hg).1
 have q3:x*y=a*b*g*g:=by rw[ea,eb];grind
 have q4:=(dz (w:=a*b*g) (h:=g) p1 hg).1
 rw[e1,e2,e3]
 omega
def cell(ns:List Int)(k:Int):Int:=ns.getD k.toNat 0
theorem ub{ns:List Int}{k:Int}(h0:0<=k)(h1:k<(ns.length:Int)):atI (ns.map D.int) k=some (.int (cell ns k)):=by
 obtain⟨j,rfl⟩:∃ j:Nat,k=(j:Int):=⟨k.toNat,by omega⟩
 have hk:j<ns.length:=by omega
 refine de ?_
 rw[yn,yk hk]
 simp[cell,yY,yk hk]
theorem uc{ns:List Int}{k:Int}(h1:(ns.length:Int)<=k):cell ns k=0:=by
 have hk:ns.length<=k.toNat:=by omega
 simp[cell,yY,Aw hk]
theorem mw{a b:Int}(h:0<b):0<=a % b:=zP a (by omega)
theorem mx{a b:Int}(h:0<b):a % b<b:=zQ a h
def ud:SpD:=λds R=>∃ (ns:List Int) (k:Int),ds=[.rol (ns.map D.int),.int k]/\0<=k/\R (.int (cell ns k))
def ue:SpD:=λds R=>∃ i:Int,ds=[.int i]/\R (.bl true)
def uf:SpD:=λds R=>∃ w h s x y:Int,ds=[.tup [.int w,.int h,.int s],.int x,.int y]/\0<w/\0<h/\h<1073741824/\0<=s/\s<1073741824/\
 R (.tup [.int ((x - y / h*s) % w),.int (y % h)])
def uh:SpD:=λds R=>∃ a b c d:Int,ds=[.tup [.int a,.int b],.tup [.int c,.int d]]/\b.natAbs<1073741824/\d.natAbs<1073741824/\
 ∀ p0 p1 q0,Lev a b c d p0 p1 q0->R (.tup [.tup [.int p0,.int p1],.tup [.int q0,.int 0]])
def ui:SpD:=λds R=>∃ a b c d:Int,ds=[.tup [.int a,.int b],.tup [.int c,.int d]]/\a.natAbs<1073741824/\b.natAbs<1073741824/\c.natAbs<1073741824/\d.natAbs<1073741824/\
 (a*d=b*c->R .non)/\(¬ a*d=b*c->∀ w h s,FamOf a b c d w h s->R (.tup [.int w,.int h,.int s]))
def uj:SpD:=λds R=>∃ w h s:Int,ds=[.tup [.int w,.int h,.int s]]/\0<w/\R (.tup [.int w,.int h,.int (-s % w)])
def uk:SpD:=λds R=>∃ w h s:Int,ds=[.tup [.int w,.int h,.int s]]/\0<w/\0<h/\w<1073741824/\h<1073741824/\0<=s/\s<1073741824/\
 ∀ w' h' s',FamOf 0 w (-h) s w' h' s'->R (.tup [.int w',.int h',.int s'])
def um:SpD:=λds R=>∃ x y:Int,ds=[.int x,.int y]/\x.natAbs<1073741824/\y.natAbs<1073741824/\∀ g u,Meas x y g u->R (.tup [.int g,.int u])
def uo:SpD:=λds R=>∃ w1 h1 s1 w2 h2 s2:Int,ds=[.tup [.int w1,.int h1,.int s1],.tup [.int w2,.int h2,.int s2]]/\0<w1/\w1<=720/\0<h1/\h1<=720/\0<=s1/\s1<w1/\0<w2/\w2<=720/\0<h2/\h2<=720/\0<=s2/\s2<w2/\
 ∀ w h s A,MetR w1 h1 s1 w2 h2 s2 w h s A->w<=518400->h<=373248000->R (.tup [.int w,.int h,.int s])
def Drawn(xs:List Int):Prop:=∀ x∈xs,0<=x/\x<5040
theorem Drawn.at{xs:List Int}(h:Drawn xs)(k:Int):0<=cell xs k/\cell xs k<5040:=by
 by_cases hk:k.toNat<xs.length
 ·have:cell xs k=xs[k.toNat]:=by simp[cell,yY,yk hk]
  rw[this];exact h _ (zJ hk)
 ·have:cell xs k=0:=by simp[cell,yY,Aw (Ae hk)]
  omega
abbrev cs(x:Str):List Nat:=x.cps.toList
theorem bc(x:Str):(cs x).length=x.length:=by simp[Str.length]
theorem aQ(x y:Str):cs (x++y)=cs x++cs y:=by
 show((x++y:Str)).cps.toList=_
 rw[show(x++y:Str).cps=x.cps++y.cps from rfl,Array.toList_append]
theorem aR(x y:Str):(x++y).length=x.length+y.length:=by rw[<- bc,aQ,xT,bc,bc]
def aG(c:Nat):Prop:=c=46\/(49<=c/\c<=54)
structure Rows(L:List Str):Prop where
 many:1<=L.length/\L.length<=8
 wide:∃ w,(1<=w/\w<=8)/\∀ l∈L,l.length=w/\∀ c∈cs l,aG c
theorem Rows.of{L:List Str}{w t:Nat}(h1:1<=t)(h2:t<=8)(hl:L.length=t)(w1:1<=w)(w2:w<=8)(h:∀ l∈L,l.length=w/\∀ c∈cs l,aG c):Rows L:=⟨by omega,w,⟨w1,w2⟩,h⟩
def cQ(L:List Str)(a b c d:Int):Str:=("["++Txt.join "/" L)++((((((((";":Str)++(toString a:String))++",")++(toString b:String))++";")++(toString c:String))++",")++(toString d:String))++"]"
theorem bO{a:Int}(h: -12<=a/\a<=12):((toString a:String):Str).length<=3:=by
 have key:∀ k:Fin 25,((toString (((k.val:Nat):Int) - 12):String):Str).length<=3:=by decide+kernel
 have:=key ⟨(a+12).toNat,by omega⟩
 have e:(((a+12).toNat:Nat):Int) - 12=a:=by omega
 rw[e] at this
 exact this
def B12(a:Int):Prop:=-12<=a/\a<=12
theorem B12.lt{a:Int}(h:B12 a):a.natAbs<1073741824:=by unfold B12 at h;omega
theorem uq{L:List Str}{w:Nat}(h:∀ l∈L,l.length=w):(L.map (·.length)).sum=L.length*w:=by
 induction L with
 |nil=>simp
 |cons x L ih=>
  rw[yc,List.sum_cons,ih (λl hl=>h l (xV _ hl)),h x xZ,xN,Nat.succ_mul,Nat.add_comm]
theorem ut{L:List Str}(h:Rows L):(L.map (·.length)).sum+L.length*("/":Str).length<=72:=by
 obtain⟨h1,w,hw,h2⟩:=h
 rw[uq (λl hl=>(h2 l hl).1)]
 have e:("/":Str).length=1:=rfl
 rw[e]
 have:=Av h1.2 hw.2
 omega
structure Leaf where
 rows:List Str
 a:Int
 b:Int
 c:Int
 d:Int
 w0:Int
 w1:Int
 w2:Int
 w3:Int
 w4:Int
 w5:Int
 hues:List Int
def Leaf.D(l:Leaf):My.D:= .tup [.lst (l.rows.map D.str),.tup [.int l.a,.int l.b],.tup [.int l.c,.int l.d],.tup [.int l.w0,.int l.w1,.int l.w2,.int l.w3,.int l.w4,.int l.w5],.lst (l.hues.map D.int)]
structure Leaf.Ok(l:Leaf):Prop where
 rows:Rows l.rows
 a:B12 l.a
 b:B12 l.b
 c:B12 l.c
 d:B12 l.d
 ne:¬ l.a*l.d=l.b*l.c
 w0:l.w0.natAbs<=1
 w1:l.w1.natAbs<=1
 w2:l.w2.natAbs<=1
 w3:l.w3.natAbs<=1
 w4:l.w4.natAbs<=1000
 w5:l.w5.natAbs<=1000
 many:l.hues.length=7
 hue:∀ h∈l.hues,0<=h/\h<=6
def onB(a b c d u v:Int):Bool:=decide ((u*d - v*c).fmod (a*d - b*c)=0/\(a*v - b*u).fmod (a*d - b*c)=0)
def my(f:Int->Bool):Nat->List Nat->Option Nat
 |_,[]=>none
 |i,c::r=>if c≠46/\f i=true then some c else my f (i+1) r
def mz(f:Int->Int->Bool):Nat->List Str->Option Nat
 |_,[]=>none
 |j,l::r=>match my (λi=>f i j) 0 (cs l) with|some c=>some c|none=>mz f (j+1) r
def Leaf.hit(l:Leaf)(x y:Int):Option Nat:=mz (λi j=>onB l.a l.b l.c l.d (l.w0*x+l.w1*y+l.w4 - i) (l.w2*x+l.w3*y+l.w5 - j)) 0 l.rows
def Leaf.shows(l:Leaf)(x y:Int):Int:=match l.hit x y with|some c=>cell l.hues ((c:Int) - 48)|none=>0
theorem uu{c:Nat}:(⟨#[c]⟩:Str)="."↔c=46:=by
 constructor
 ·intro h
  have:(#[c]:Array Nat)=(".":Str).cps:=congrArg Str.cps h
  have e:(#[c]:Array Nat).toList=(".":Str).cps.toList:=by rw[this]
  have e2:(".":Str).cps.toList=[46]:=rfl
  rw[e2] at e
  simpa using e
 ·rintro rfl;rfl
theorem digit_of{c:Nat}(h:49<=c/\c<=54):PySem.intText? (⟨#[c]⟩:Str)=some ((c:Int) - 48):=by
 rcases(by omega:c=49\/c=50\/c=51\/c=52\/c=53\/c=54) with e|e|e|e|e|e<;>subst e<;>decide+kernel
theorem range_int{n:Int}{k:Nat}{x:D}(h:((xR n.toNat).map λk=>D.int ((k:Nat):Int))[k]?=some x):k<n.toNat/\x= .int (k:Int):=by
 have hk:k<n.toNat:=by simpa using(yi.mp h).1
 refine⟨hk,?_⟩
 simp[hk] at h
 exact h.symm
theorem cR{n:Int}:((xR n.toNat).map λk=>D.int ((k:Nat):Int)).length=n.toNat:=by simp
def gG(L:List Str)(a b c d:Int):Leaf:=⟨L,a,b,c,d,1,0,0,1,0,0,[0,1,2,3,4,5,6]⟩
end My
end
section
namespace My
open PySem PySem.Spec PyProof.Rows L2
inductive Pat where
 |mot (L:List Str) (a b c d:Int)
 |over (p q:Pat)
 |sh (a b:Int) (p:Pat)
 |mir (p:Pat)
 |tur (p:Pat)
 |hue (f g:Int) (p:Pat)
def Pat.text:Pat->Str
 | .mot L a b c d=>cQ L a b c d
 | .over p q=>(((("(":Str)++p.text)++"|")++q.text)++")"
 | .sh a b p=>((((("s":Str)++(toString a:String))++",")++(toString b:String))++":")++p.text
 | .mir p=>("m":Str)++p.text
 | .tur p=>("t":Str)++p.text
 | .hue f g p=>((("h":Str)++(toString f:String))++(toString g:String))++p.text
def Pat.depth:Pat->Nat
 | .mot ..=>0
 | .over p q=>1+max p.depth q.depth
 | .sh _ _ p=>p.depth+1
 | .mir p=>p.depth+1
 | .tur p=>p.depth+1
 | .hue _ _ p=>p.depth+1
def Leaf.by(l:Leaf)(b0 b1 b2 b3 b4 b5:Int):Leaf:=
 {l with w0:=l.w0*b0+l.w1*b2,w1:=l.w0*b1+l.w1*b3,w2:=l.w2*b0+l.w3*b2,w3:=l.w2*b1+l.w3*b3,w4:=l.w4+l.w0*b4+l.w1*b5,w5:=l.w5+l.w2*b4+l.w3*b5}
def mB(f g h:Int):Int:=if h=f then g else h
def Leaf.dye(l:Leaf)(f g:Int):Leaf:={l with hues:=l.hues.map (mB f g)}
def Pat.leaves:Pat->List Leaf
 | .mot L a b c d=>[gG L a b c d]
 | .over p q=>p.leaves++q.leaves
 | .sh a b p=>p.leaves.map (λl=>l.by 1 0 0 1 (-a) (-b))
 | .mir p=>p.leaves.map (λl=>l.by (-1) 0 0 1 0 0)
 | .tur p=>p.leaves.map (λl=>l.by 0 1 (-1) 0 0 0)
 | .hue f g p=>p.leaves.map (λl=>(l.by 1 0 0 1 0 0).dye f g)
def Pat.show:Pat->Int->Int->Int
 | .mot L a b c d,x,y=>(gG L a b c d).shows x y
 | .over p q,x,y=>if p.show x y≠0 then p.show x y else q.show x y
 | .sh a b p,x,y=>p.show (x - a) (y - b)
 | .mir p,x,y=>p.show (-x) y
 | .tur p,x,y=>p.show y (-x)
 | .hue f g p,x,y=>mB f g (p.show x y)
def Pat.Wf:Pat->Prop
 | .mot L a b c d=>Rows L/\B12 a/\B12 b/\B12 c/\B12 d/\¬ a*d=b*c
 | .over p q=>p.Wf/\q.Wf
 | .sh a b p=>B12 a/\B12 b/\p.Wf
 | .mir p=>p.Wf
 | .tur p=>p.Wf
 | .hue f g p=>(1<=f/\f<=6)/\(1<=g/\g<=6)/\p.Wf
structure Leaf.Near(l:Leaf)(n:Nat):Prop where
 u0:(l.w0.natAbs=1/\l.w1=0/\l.w2=0/\l.w3.natAbs=1)\/(l.w0=0/\l.w1.natAbs=1/\l.w2.natAbs=1/\l.w3=0)
 w4:l.w4.natAbs<=24*n
 w5:l.w5.natAbs<=24*n
structure Leaf.Good(l:Leaf):Prop where
 rows:Rows l.rows
 a:B12 l.a
 b:B12 l.b
 c:B12 l.c
 d:B12 l.d
 ne:¬ l.a*l.d=l.b*l.c
 many:l.hues.length=7
 hue:∀ h∈l.hues,0<=h/\h<=6
def Pat.D(p:Pat):My.D:= .lst [.str p.text,.int p.depth,.lst (p.leaves.map Leaf.D)]
def Leaf.T(dy:Bool)(old new b0 b1 b2 b3 b4 b5:Int)(l:Leaf):Leaf:=if dy then(l.by b0 b1 b2 b3 b4 b5).dye old new else l.by b0 b1 b2 b3 b4 b5
theorem mC{a:Int}(h:1<=a/\a<=6):((toString a:String):Str).length<=3:=bO (by omega)
def Wraps(p:Pat)(H:Prop)(R:My.D->Prop):Prop:=(5<=p.depth->R p.D)/\(p.depth<5->R (Pat.mir p).D/\R (Pat.tur p).D/\(∀ a b,B12 a->B12 b->R (Pat.sh a b p).D)/\(H->∀ f g:Int,(1<=f/\f<=6)->(1<=g/\g<=6)->R (Pat.hue f g p).D))
theorem Uni.trans{a b c d p0 p1 q0 q1 x0 x1 y0 y1:Int}(h:Uni a b c d p0 p1 q0 q1)(k:Uni p0 p1 q0 q1 x0 x1 y0 y1):Uni a b c d x0 x1 y0 y1:=by
 obtain⟨m,n,k1,l,hd,rfl,rfl,rfl,rfl⟩:=h
 obtain⟨m',n',k',l',hd',rfl,rfl,rfl,rfl⟩:=k
 have dt:(m'*m+n'*k1)*(k'*n+l'*l) - (m'*n+n'*l)*(k'*m+l'*k1)=(m'*l' - n'*k')*(m*l - n*k1):=by grind
 refine⟨m'*m+n'*k1,m'*n+n'*l,k'*m+l'*k1,k'*n+l'*l,?_,by grind,by grind,by grind,by grind⟩
 rw[dt]
 rcases hd with e|e<;>rcases hd' with e'|e'<;>rw[e,e']<;>decide
theorem eL:∀ (n:Nat) (a b c d:Int),d.natAbs<=n->∃ p0 p1 q0,Lev a b c d p0 p1 q0
 |n,a,b,c,d,hn=>by
  by_cases hd:d=0
  ·subst hd
   by_cases hb:0<=b
   ·exact⟨a,b,c,hb,Uni.refl a b c 0⟩
   ·exact⟨-a,-b,c,by omega,(Uni.refl a b c 0).neg⟩
  ·match n,hn with
   |0,hn=>exact absurd (by omega:d=0) hd
   |n+1,hn=>
    have lt:=(fdm b d hd).1
    obtain⟨p0,p1,q0,h0,hu⟩:=eL n c d (a - b.fdiv d*c) (b - b.fdiv d*d) (by omega)
    exact⟨p0,p1,q0,h0,((Uni.refl a b c d).step (b.fdiv d)).trans hu⟩
def Leaf.o0(l:Leaf):Int:=l.w0*l.a+l.w2*l.b
def Leaf.o1(l:Leaf):Int:=l.w1*l.a+l.w3*l.b
def Leaf.t0(l:Leaf):Int:=l.w0*l.c+l.w2*l.d
def Leaf.t1(l:Leaf):Int:=l.w1*l.c+l.w3*l.d
theorem gH(x y:Int):∃ g u,Meas x y g u:=by
 obtain⟨p0,p1,q0,hL⟩:=eL y.natAbs 1 x 0 y (xM _)
 exact⟨p1,p0,mq ⟨hL.1,hL.2⟩⟩
structure Fm(w h s:Int):Prop where
 w0:0<w
 w1:w<=720
 h0:0<h
 h1:h<=720
 s0:0<=s
 sw:s<w
def InF(w h s x y:Int):Prop:=∃ i j,x=i*w+j*s/\y=j*h
def Leaf.Lat(l:Leaf)(x y:Int):Prop:=∃ i j,x=i*l.o0+j*l.t0/\y=i*l.o1+j*l.t1
theorem FamOf.lat{a b c d w h s:Int}(f:FamOf a b c d w h s)(x y:Int):InF w h s x y↔∃ i j,x=i*a+j*c/\y=i*b+j*d:=by
 obtain⟨_,_,_,_,hu⟩:=f
 obtain⟨m,n,k,l,_,e1,e2,e3,e4⟩:=id hu
 obtain⟨m',n',k',l',_,f1,f2,f3,f4⟩:=hu.inv
 constructor
 ·rintro⟨i,j,rfl,rfl⟩
  refine⟨i*m+j*k,i*n+j*l,by rw[e1,e3];grind,?_⟩
  have z:i*0+j*h=(i*m+j*k)*b+(i*n+j*l)*d:=by rw[e2,e4];grind
  omega
 ·rintro⟨i,j,rfl,rfl⟩
  refine⟨i*m'+j*k',i*n'+j*l',by rw[f1,f3];grind,by rw[f2,f4];grind⟩
theorem MetR.lat{w1 h1 s1 w2 h2 s2 w h s A:Int}(M:MetR w1 h1 s1 w2 h2 s2 w h s A)(x y:Int):InF w h s x y↔InF w1 h1 s1 x y/\InF w2 h2 s2 x y:=by
 constructor
 ·rintro⟨i,j,rfl,rfl⟩
  obtain⟨a1,e1⟩:=M.in1
  obtain⟨a2,e2⟩:=M.in2
  obtain⟨b1,c1,e3,e4⟩:=M.up1
  obtain⟨b2,c2,e5,e6⟩:=M.up2
  refine⟨⟨i*a1+j*b1,j*c1,?_,?_⟩,⟨i*a2+j*b2,j*c2,?_,?_⟩⟩
  ·rw[e1,e3];grind
  ·rw[e4];grind
  ·rw[e2,e5];grind
  ·rw[e6];grind
 ·rintro⟨h1,h2⟩
  exact M.all x y h1 h2
theorem InF.le{w h s w' h' s':Int}(hw:0<w)(hh:0<h)(hw':0<w')(hh':0<h')(sub:∀ x y,InF w' h' s' x y->InF w h s x y):w*h<=w'*h'/\w<=w'/\h<=h':=by
 obtain⟨i,j,e1,e2⟩:=sub w' 0 ⟨1,0,by omega,by omega⟩
 have j0:j=0:=by
  rcases zS.mp e2.symm with z|z
  ·exact z
  ·omega
 subst j0
 have i1:1<=i:=by
  rcases(by omega:i<=0\/1<=i) with z|z
  ·have:=zc z (show 0<=w by omega)
   omega
  ·exact z
 obtain⟨i',j',e3,e4⟩:=sub s' h' ⟨0,1,by omega,by omega⟩
 have j1:1<=j':=by
  rcases(by omega:j'<=0\/1<=j') with z|z
  ·have:=zc z (show 0<=h by omega)
   omega
  ·exact z
 have a1:=yp i1 (show 0<=w by omega)
 have a2:=yp j1 (show 0<=h by omega)
 have b1:w<=w':=by omega
 have b2:h<=h':=by omega
 exact⟨Int.mul_le_mul b1 b2 (by omega) (by omega),b1,b2⟩
theorem InF.uniq{w h s w' h' s':Int}(hw:0<w)(hh:0<h)(hs:0<=s)(hsw:s<w)(hw':0<w')(hh':0<h')(hs':0<=s')(hsw':s'<w')(e:∀ x y,InF w h s x y↔InF w' h' s' x y):w=w'/\h=h'/\s=s':=by
 obtain⟨_,a1,a2⟩:=InF.le hw hh hw' hh' (λx y q=>(e x y).mpr q)
 obtain⟨_,b1,b2⟩:=InF.le hw' hh' hw hh (λx y q=>(e x y).mp q)
 have ew:w=w':=by omega
 have eh:h=h':=by omega
 subst ew eh
 refine⟨rfl,rfl,?_⟩
 obtain⟨i,j,e1,e2⟩:=(e s h).mp ⟨0,1,by omega,by omega⟩
 have j1:j=1:=by
  have:j*h=1*h:=by omega
  exact zp (by omega) this
 subst j1
 have:i*w=s - s':=by omega
 rcases(by omega:i<=-1\/i=0\/1<=i) with z|z|z
 ·have:=yp z (show 0<=w by omega)
  omega
 ·subst z;omega
 ·have:=yp z (show 0<=w by omega)
  omega
structure Fam0(w h s:Int):Prop where
 w0:0<w
 h0:0<h
 s0:0<=s
 sw:s<w
theorem uw{w1 h1 s1 w2 h2 s2:Int}(f:Fam0 w1 h1 s1)(k:Fam0 w2 h2 s2):∃ w h s,Fam0 w h s/\∀ x y,InF w h s x y↔InF w1 h1 s1 x y/\InF w2 h2 s2 x y:=by
 obtain⟨g,u,M1⟩:=gH w1 w2
 obtain⟨k',u',M2⟩:=gH h1 h2
 obtain⟨gg,u'',M3⟩:=gH g (h1*h2 / k' / h2*s2 - h1*h2 / k' / h1*s1)
 have M:=ms f.w0 k.w0 f.h0 k.h0 M1 M2 M3
 exact⟨_,_,_,⟨M.w0,M.h0,M.s0,M.sw⟩,M.lat⟩
end My
end
section
namespace My
open PySem PySem.Spec PyProof.Rows L2
def Pat.Lat:Pat->Int->Int->Prop
 | .mot _ a b c d,x,y=>∃ i j,x=i*a+j*c/\y=i*b+j*d
 | .over p q,x,y=>p.Lat x y/\q.Lat x y
 | .sh _ _ p,x,y=>p.Lat x y
 | .mir p,x,y=>p.Lat (-x) y
 | .tur p,x,y=>p.Lat y (-x)
 | .hue _ _ p,x,y=>p.Lat x y
structure Pat.Fam(p:Pat)(w h s:Int):Prop where
 f:Fam0 w h s
 lat:∀ x y,InF w h s x y↔p.Lat x y
theorem Pat.Fam.uniq{p:Pat}{w h s w' h' s':Int}(a:p.Fam w h s)(b:p.Fam w' h' s'):w=w'/\h=h'/\s=s':=
 InF.uniq a.f.w0 a.f.h0 a.f.s0 a.f.sw b.f.w0 b.f.h0 b.f.s0 b.f.sw λx y=>(a.lat x y).trans (b.lat x y).symm
theorem Pat.Fam.mot{L:List Str}{a b c d w h s:Int}(k:FamOf a b c d w h s):(Pat.mot L a b c d).Fam w h s:=⟨⟨k.1,k.2.1,k.2.2.1,k.2.2.2.1⟩,k.lat⟩
theorem Pat.Fam.sh{p:Pat}{w h s:Int}(a b:Int)(k:p.Fam w h s):(Pat.sh a b p).Fam w h s:=⟨k.f,k.lat⟩
theorem Pat.Fam.hue{p:Pat}{w h s:Int}(a b:Int)(k:p.Fam w h s):(Pat.hue a b p).Fam w h s:=⟨k.f,k.lat⟩
theorem Pat.Fam.mir{p:Pat}{w h s:Int}(k:p.Fam w h s):(Pat.mir p).Fam w h (-s % w):=by
 refine⟨⟨k.f.w0,k.f.h0,mw k.f.w0,mx k.f.w0⟩,λx y=>?_⟩
 show _↔p.Lat (-x) y
 rw[<- k.lat]
 have e:=zb (-s) w
 generalize -s % w=r at e
 generalize -s / w=t at e
 constructor
 ·rintro⟨i,j,rfl,rfl⟩
  exact⟨j*t - i,j,by rw[e];grind,rfl⟩
 ·rintro⟨i,j,ex,rfl⟩
  exact⟨j*t - i,j,by rw[e];grind,rfl⟩
theorem Pat.Fam.tur{p:Pat}{w h s w' h' s':Int}(k:p.Fam w h s)(f:FamOf 0 w (-h) s w' h' s'):(Pat.tur p).Fam w' h' s':=by
 refine⟨⟨f.1,f.2.1,f.2.2.1,f.2.2.2.1⟩,λx y=>?_⟩
 show _↔p.Lat y (-x)
 rw[<- k.lat,f.lat]
 constructor
 ·rintro⟨i,j,rfl,rfl⟩
  exact⟨i,j,by grind,by grind⟩
 ·rintro⟨i,j,ex,ey⟩
  exact⟨i,j,by grind,by grind⟩
theorem Pat.Fam.over{p q:Pat}{w1 h1 s1 w2 h2 s2 w h s A:Int}(k1:p.Fam w1 h1 s1)(k2:q.Fam w2 h2 s2)(M:MetR w1 h1 s1 w2 h2 s2 w h s A):(Pat.over p q).Fam w h s:=by
 refine⟨⟨M.w0,M.h0,M.s0,M.sw⟩,λx y=>?_⟩
 rw[M.lat,k1.lat,k2.lat]
 exact Iff.rfl
theorem gI{w h s:Int}(hw:0<w)(hh:0<h):∃ w' h' s',FamOf 0 w (-h) s w' h' s'/\w'*h'=w*h:=by
 have hp:0<w*h:=yd hw hh
 have hn:¬ 0*s=w* -h:=by rw[yI];omega
 obtain⟨p0,p1,q0,hL⟩:=eL s.natAbs 0 w (-h) s (xM _)
 have f:=gD hn hL
 refine⟨_,_,_,f,?_⟩
 have hp':=yd f.1 f.2.1
 have c:=f.cells
 rw[yI] at c
 omega
theorem mD{L:List Str}{a b c d:Int}(hn:¬ a*d=b*c):∃ w h s,FamOf a b c d w h s/\(Pat.mot L a b c d).Fam w h s:=by
 obtain⟨p0,p1,q0,hL⟩:=eL d.natAbs a b c d (xM _)
 have f:=gD hn hL
 exact⟨_,_,_,f,.mot f⟩
theorem Pat.fam_ex:∀ {p:Pat},p.Wf->∃ w h s,p.Fam w h s
 | .mot L a b c d,h=>by
  obtain⟨w,k,s,_,f⟩:=mD (L:=L) h.2.2.2.2.2
  exact⟨w,k,s,f⟩
 | .over p q,h=>by
  obtain⟨w1,h1,s1,f1⟩:=Pat.fam_ex h.1
  obtain⟨w2,h2,s2,f2⟩:=Pat.fam_ex h.2
  obtain⟨w,k,s,f,e⟩:=uw f1.f f2.f
  refine⟨w,k,s,f,λx y=>?_⟩
  rw[e,f1.lat,f2.lat]
  exact Iff.rfl
 | .sh a b p,h=>by
  obtain⟨w,k,s,f⟩:=Pat.fam_ex h.2.2
  exact⟨w,k,s,f.sh a b⟩
 | .mir p,h=>by
  obtain⟨w,k,s,f⟩:=Pat.fam_ex (p:=p) h
  exact⟨w,k,_,f.mir⟩
 | .tur p,h=>by
  obtain⟨w,k,s,f⟩:=Pat.fam_ex (p:=p) h
  obtain⟨w',k',s',f',_⟩:=gI (s:=s) f.f.w0 f.f.h0
  exact⟨w',k',s',f.tur f'⟩
 | .hue a b p,h=>by
  obtain⟨w,k,s,f⟩:=Pat.fam_ex h.2.2
  exact⟨w,k,s,f.hue a b⟩
def Pat.Fits(p:Pat):Prop:=∃ w h s,p.Fam w h s/\w*h<=720
theorem Pat.fits_mot{L:List Str}{a b c d:Int}(ha:B12 a)(hb:B12 b)(hc:B12 c)(hd:B12 d)(hn:¬ a*d=b*c):(Pat.mot L a b c d).Fits:=by
 obtain⟨w,h,s,k,f⟩:=mD (L:=L) hn
 refine⟨w,h,s,f,?_⟩
 have kc:=k.cells
 unfold B12 at*
 have m1:=bH (a:=a) (d:=d) (A:=12) (B:=12) (by omega) (by omega)
 have m2:=bH (a:=b) (d:=c) (A:=12) (B:=12) (by omega) (by omega)
 omega
theorem Pat.Fits.sh{p:Pat}(a b:Int)(k:p.Fits):(Pat.sh a b p).Fits:=by
 obtain⟨w,h,s,f,q⟩:=k
 exact⟨w,h,s,f.sh a b,q⟩
theorem Pat.Fits.hue{p:Pat}(a b:Int)(k:p.Fits):(Pat.hue a b p).Fits:=by
 obtain⟨w,h,s,f,q⟩:=k
 exact⟨w,h,s,f.hue a b,q⟩
theorem Pat.Fits.mir{p:Pat}(k:p.Fits):(Pat.mir p).Fits:=by
 obtain⟨w,h,s,f,q⟩:=k
 exact⟨w,h,_,f.mir,q⟩
theorem Pat.Fits.tur{p:Pat}(k:p.Fits):(Pat.tur p).Fits:=by
 obtain⟨w,h,s,f,q⟩:=k
 obtain⟨w',k',s',f',e⟩:=gI (s:=s) f.f.w0 f.f.h0
 exact⟨w',k',s',f.tur f',by omega⟩
theorem ux{L:List Str}{a b c d:Int}(hL:Rows L)(ha:B12 a)(hb:B12 b)(hc:B12 c)(hd:B12 d):(cQ L a b c d).length<=100:=by
 have la:=bO ha
 have lb:=bO hb
 have lc:=bO hc
 have ld:=bO hd
 have l1:(";":Str).length=1:=rfl
 have l2:(",":Str).length=1:=rfl
 have l3:("[":Str).length=1:=rfl
 have l4:("]":Str).length=1:=rfl
 have ls:=ut hL
 have lj:=StrLaws.join_length_le "/" L
 have lg:(Txt.join "/" L).length<=72:=by
  have e:Txt.join "/" L=Str.join "/" L:=StrLaws.glued_eq_join _ _
  rw[e];exact xU lj ls
 unfold cQ
 repeat rw[aR]
 omega
structure Pat.Ok(p:Pat):Prop where
 wf:p.Wf
 deep:p.depth<=5
 fits:p.Fits
theorem Wraps.of{p:Pat}{H:Prop}{R:My.D->Prop}(h:p.Ok)(hR:∀ q:Pat,q.Ok->R q.D):Wraps p H R:=by
 refine⟨λ_=>hR p h,λhd=>⟨hR _ ⟨h.wf,?_,h.fits.mir⟩,hR _ ⟨h.wf,?_,h.fits.tur⟩,λa b ha hb=>hR _ ⟨⟨ha,hb,h.wf⟩,?_,h.fits.sh a b⟩,λ_ f g hf hg=>hR _ ⟨⟨hf,hg,h.wf⟩,?_,h.fits.hue f g⟩⟩⟩<;>(simp only[Pat.depth];omega)
end My
end
section
namespace My
open PySem PySem.Spec PyProof.Rows L2
inductive Wt where
 |sign (c:Nat)|pat (d:Nat)|lin (w h k:Nat)|hue|num|fig|more
 deriving DecidableEq
abbrev isSg(c:Nat):Bool:=c==46||(49<=c && c<=54)
def motW(r:List Wt):List Wt:= .lin 0 0 0:: .num:: .sign 44:: .num:: .sign 59:: .num:: .sign 44:: .num:: .sign 93::r
def aT(d c:Nat)(r:List Wt):Option (List Wt):=
 if c=91 then some (motW r)
 else if d=5 then none
 else if c=40 then some (.pat (d+1):: .sign 124:: .pat (d+1):: .sign 41::r)
 else if c=115 then some (.num:: .sign 44:: .num:: .sign 58:: .pat (d+1)::r)
 else if c=104 then some (.hue:: .hue:: .pat (d+1)::r)
 else if c=109\/c=116 then some (.pat (d+1)::r)
 else none
def bW(w h k c:Nat)(r:List Wt):Option (List Wt):=
 if isSg c then(if h<(if 0<k then w else 8) then some (.lin w (h+1) k::r) else none)
 else if h=0\/(0<k/\h<w) then none
 else if c=47 then(if k<7 then some (.lin h 0 (k+1)::r) else none)
 else if c=59 then some r
 else none
def aq:List Wt->Nat->Option (List Wt)
 |[],_=>none
 | .sign s::r,c=>if c=s then some r else none
 | .pat d::r,c=>aT d c r
 | .lin w h k::r,c=>bW w h k c r
 | .hue::r,c=>if 49<=c/\c<=54 then some r else none
 | .more::r,_=>some r
 | .num::r,c=>if c=49 then some (.more::r) else if c=45 then some (.fig::r) else if 48<=c/\c<=57 then some r else none
 | .fig::r,c=>if c=49 then some (.more::r) else if 50<=c/\c<=57 then some r else none
def ao(st:List Wt)(c:Nat):List Wt:=match st with
 | .more::r=>if 48<=c/\c<=50 then st else r
 |_=>st
def step(st:List Wt)(c:Nat):Option (List Wt):=aq (ao st c) c
def walk:List Wt->List Nat->Nat->Option Nat
 |st,[],k=>if st=[] then none else some k
 |st,c::l,k=>match step st c with
  |none=>some k
  |some st'=>walk st' l (k+1)
def bP(t:Str):Option Nat:=walk [.pat 0] (cs t) 0
def Pat.Syn:Pat->Prop
 | .mot L a b c d=>Rows L/\B12 a/\B12 b/\B12 c/\B12 d
 | .over p q=>p.Syn/\q.Syn
 | .sh a b p=>B12 a/\B12 b/\p.Syn
 | .mir p=>p.Syn
 | .tur p=>p.Syn
 | .hue f g p=>(1<=f/\f<=6)/\(1<=g/\g<=6)/\p.Syn
theorem Pat.Wf.syn:∀ {p:Pat},p.Wf->p.Syn
 | .mot ..,h=>⟨h.1,h.2.1,h.2.2.1,h.2.2.2.1,h.2.2.2.2.1⟩
 | .over p q,h=>⟨Pat.Wf.syn h.1,Pat.Wf.syn h.2⟩
 | .sh a b p,h=>⟨h.1,h.2.1,Pat.Wf.syn h.2.2⟩
 | .mir p,h=>Pat.Wf.syn (p:=p) h
 | .tur p,h=>Pat.Wf.syn (p:=p) h
 | .hue f g p,h=>⟨h.1,h.2.1,Pat.Wf.syn h.2.2⟩
theorem am{st st':List Wt}{c:Nat}{l:List Nat}{k:Nat}(h:step st c=some st'):walk st (c::l) k=walk st' l (k+1):=by
 rw[walk,h]
def numL(a:Int):List Nat:=cs (toString a:String)
theorem mF{a:Int}(h:B12 a){P:Int->Prop}(hP:∀ k:Fin 25,P (((k.val:Nat):Int) - 12)):P a:=by
 unfold B12 at h
 have:=hP ⟨(a+12).toNat,by omega⟩
 have e:(((a+12).toNat:Nat):Int) - 12=a:=by omega
 rw[e] at this
 exact this
def isNumL(l:List Nat):Prop:=(∃ c,(48<=c/\c<=57)/\l=[c])\/(∃ c,(48<=c/\c<=50)/\l=[49,c])\/(∃ c,(49<=c/\c<=57)/\l=[45,c])\/∃ c,(48<=c/\c<=50)/\l=[45,49,c]
theorem numL_is{a:Int}(h:B12 a):isNumL (numL a):=by
 have key:∀ k:Fin 25,(numL (((k.val:Nat):Int) - 12))∈([[45,49,50],[45,49,49],[45,49,48],[45,57],[45,56],[45,55],[45,54],[45,53],[45,52],[45,51],[45,50],[45,49],[48],[49],[50],[51],[52],[53],[54],[55],[56],[57],[49,48],[49,49],[49,50]]:List (List Nat)):=by decide+kernel
 have h1:=mF (P:=λa=>numL a∈([[45,49,50],[45,49,49],[45,49,48],[45,57],[45,56],[45,55],[45,54],[45,53],[45,52],[45,51],[45,50],[45,49],[48],[49],[50],[51],[52],[53],[54],[55],[56],[57],[49,48],[49,49],[49,50]]:List (List Nat))) h key
 revert h1
 generalize numL a=l
 intro h1
 unfold isNumL
 simp only[xP,zd,or_false] at h1
 rcases h1 with e|e|e|e|e|e|e|e|e|e|e|e|e|e|e|e|e|e|e|e|e|e|e|e|e<;>subst e
 all_goals first
  |exact .inl ⟨_,by decide,rfl⟩
  |exact .inr (.inl ⟨_,by decide,rfl⟩)
  |exact .inr (.inr (.inl ⟨_,by decide,rfl⟩))
  |exact .inr (.inr (.inr ⟨_,by decide,rfl⟩))
theorem ci{l:List Nat}(h:isNumL l):∃ a,B12 a/\numL a=l:=by
 have key:∀ c:Fin 58,(48<=c.val->∃ k:Fin 25,numL (((k.val:Nat):Int) - 12)=[c.val])/\(48<=c.val->c.val<=50->∃ k:Fin 25,numL (((k.val:Nat):Int) - 12)=[49,c.val])/\(49<=c.val->∃ k:Fin 25,numL (((k.val:Nat):Int) - 12)=[45,c.val])/\(48<=c.val->c.val<=50->∃ k:Fin 25,numL (((k.val:Nat):Int) - 12)=[45,49,c.val]):=by decide+kernel
 have fin:∀ k:Fin 25,B12 (((k.val:Nat):Int) - 12):=λk=>by unfold B12;have:=k.isLt;omega
 rcases h with⟨c,hc,rfl⟩|⟨c,hc,rfl⟩|⟨c,hc,rfl⟩|⟨c,hc,rfl⟩
 ·obtain⟨k,e⟩:=(key ⟨c,by omega⟩).1 (by show 48<=c;omega)
  exact⟨_,fin k,e⟩
 ·obtain⟨k,e⟩:=(key ⟨c,by omega⟩).2.1 (by show 48<=c;omega) (by show c<=50;omega)
  exact⟨_,fin k,e⟩
 ·obtain⟨k,e⟩:=(key ⟨c,by omega⟩).2.2.1 (by show 49<=c;omega)
  exact⟨_,fin k,e⟩
 ·obtain⟨k,e⟩:=(key ⟨c,by omega⟩).2.2.2 (by show 48<=c;omega) (by show c<=50;omega)
  exact⟨_,fin k,e⟩
def endS(c:Nat):Prop:=c=44\/c=59\/c=58\/c=93
theorem aM{l:List Nat}(h:isNumL l){c:Nat}(hc:endS c)(r:List Wt)(t:List Nat)(k:Nat):walk (.num:: .sign c::r) (l++c::t) k=walk r t (k+l.length+1):=by
 unfold endS at hc
 have hc0:¬ (48<=c/\c<=50):=by omega
 have fin:∀ k,walk (.sign c::r) (c::t) k=walk r t (k+1):=λk=>am (by simp[step,ao,aq])
 have finM:∀ k,walk (.more:: .sign c::r) (c::t) k=walk r t (k+1):=λk=>am (by simp[step,ao,aq,hc0])
 rcases h with⟨x,hx,rfl⟩|⟨x,hx,rfl⟩|⟨x,hx,rfl⟩|⟨x,hx,rfl⟩
 ·by_cases e:x=49
  ·subst e
   show walk _ (49::c::t) k=_
   rw[am (st':= .more:: .sign c::r) (by simp[step,ao,aq]),finM];simp
  ·show walk _ (x::c::t) k=_
   rw[am (st':= .sign c::r) (by simp[step,ao,aq,e,hx,show¬ x=45 by omega]),fin];simp
 ·show walk _ (49::x::c::t) k=_
  rw[am (st':= .more:: .sign c::r) (by simp[step,ao,aq]),am (st':= .sign c::r) (by simp[step,ao,aq,hx]),fin];simp
 ·show walk _ (45::x::c::t) k=_
  rw[am (st':= .fig:: .sign c::r) (by simp[step,ao,aq])]
  by_cases e:x=49
  ·subst e
   rw[am (st':= .more:: .sign c::r) (by simp[step,ao,aq]),finM];simp
  ·rw[am (st':= .sign c::r) (by simp[step,ao,aq,e,show 50<=x/\x<=57 by omega]),fin];simp
 ·show walk _ (45::49::x::c::t) k=_
  rw[am (st':= .fig:: .sign c::r) (by simp[step,ao,aq]),am (st':= .more:: .sign c::r) (by simp[step,ao,aq]),am (st':= .sign c::r) (by simp[step,ao,aq,hx]),fin];simp
def rowsL:List (List Nat)->List Nat
 |[]=>[]
 |[x]=>x
 |x::y::r=>x++47::rowsL (y::r)
theorem uy{c:Nat}(h:aG c):isSg c=true:=by
 unfold aG at h
 unfold isSg
 rcases h with h|h
 ·subst h;rfl
 ·have:(decide (49<=c) && decide (c<=54))=true:=by simp[h]
  rw[this,yU]
theorem isSign_of{c:Nat}(h:isSg c=true):aG c:=by
 unfold isSg at h
 unfold aG
 simp at h
 omega
theorem cC{w h k c:Nat}{r:List Wt}:step (.lin w h k::r) c=bW w h k c r:=by simp[step,ao,aq]
theorem cS{w k:Nat}{r:List Wt}:∀ (x:List Nat) (h:Nat) (t:List Nat) (j:Nat),(∀ c∈x,aG c)->h+x.length<=(if 0<k then w else 8)->walk (.lin w h k::r) (x++t) j=walk (.lin w (h+x.length) k::r) t (j+x.length)
 |[],h,t,j,_,_=>rfl
 |c::x,h,t,j,hs,hl=>by
  rw[xN] at hl ⊢
  have h1:step (.lin w h k::r) c=some (.lin w (h+1) k::r):=by
   rw[cC]
   unfold bW
   rw[if_pos (uy (hs c xZ)),if_pos (by omega)]
  rw[yt,am h1,cS x (h+1) t (j+1) (λc q=>hs c (xV _ q)) (by omega)]
  rw[show h+1+x.length=h+(x.length+1) by omega,show j+1+x.length=j+(x.length+1) by omega]
theorem gJ{wd:Nat}(hw:1<=wd/\wd<=8){r:List Wt}:∀ (L:List (List Nat)) (w0 k:Nat) (t:List Nat) (j:Nat),L≠[]->(∀ x∈L,x.length=wd/\∀ c∈x,aG c)->k+L.length<=8->(0<k->w0=wd)->walk (.lin w0 0 k::r) (rowsL L++59::t) j=walk r t (j+(rowsL L).length+1)
 |[],_,_,_,_,ne,_,_,_=>absurd rfl ne
 |[x],w0,k,t,j,_,hs,hl,hk=>by
  obtain⟨h1,h2⟩:=hs x xZ
  have hb:0+x.length<=(if 0<k then w0 else 8):=by split<;>omega
  have ns:isSg 59=false:=rfl
  have h3:step (.lin w0 (0+x.length) k::r) 59=some r:=by
   rw[cC]
   unfold bW
   rw[ns,if_neg xS,if_neg (by omega),if_neg (by decide),if_pos rfl]
  show walk (.lin w0 0 k::r) (x++59::t) j=walk r t (j+x.length+1)
  rw[cS x 0 _ j h2 hb,am h3]
 |x::y::L,w0,k,t,j,_,hs,hl,hk=>by
  obtain⟨h1,h2⟩:=hs x xZ
  rw[xN,xN] at hl
  have hb:0+x.length<=(if 0<k then w0 else 8):=by split<;>omega
  have ns:isSg 47=false:=rfl
  have h3:step (.lin w0 (0+x.length) k::r) 47=some (.lin (0+x.length) 0 (k+1)::r):=by
   rw[cC]
   unfold bW
   rw[ns,if_neg xS,if_neg (by omega),if_pos rfl,if_pos (by omega)]
  show walk (.lin w0 0 k::r) ((x++47::rowsL (y::L))++59::t) j=walk r t (j+(x++47::rowsL (y::L)).length+1)
  rw[ye,yt,cS x 0 _ j h2 hb,am h3,gJ hw (y::L) (0+x.length) (k+1) t _ (λz=>nomatch z) (λz q=>hs z (xV _ q)) (by rw[xN];omega) (λ_=>by omega)]
  rw[xT,xN]
  congr 1
  omega
def motL(L:List (List Nat))(a b c d:Int):List Nat:=91::(rowsL L++59::(numL a++44::(numL b++59::(numL c++44::(numL d++[93])))))
def Pat.tl:Pat->List Nat
 | .mot L a b c d=>motL (L.map cs) a b c d
 | .over p q=>40::(p.tl++124::(q.tl++[41]))
 | .sh a b p=>115::(numL a++44::(numL b++58::p.tl))
 | .mir p=>109::p.tl
 | .tur p=>116::p.tl
 | .hue f g p=>104::(numL f++(numL g++p.tl))
theorem mG:∀ L:List Str,cs (Str.join "/" L)=rowsL (L.map cs)
 |[]=>rfl
 |[x]=>rfl
 |x::y::L=>by
  show cs (x++"/"++Str.join "/" (y::L))=cs x++47::rowsL ((y::L).map cs)
  rw[aQ,aQ,mG (y::L),ye]
  rfl
theorem bX:∀ p:Pat,cs p.text=p.tl
 | .mot L a b c d=>by
  show cs (cQ L a b c d)=motL (L.map cs) a b c d
  unfold cQ motL
  have e:Txt.join "/" L=Str.join "/" L:=StrLaws.glued_eq_join _ _
  rw[e]
  repeat rw[aQ]
  rw[mG]
  simp only[ye]
  rfl
 | .over p q=>by
  rw[Pat.text,Pat.tl]
  repeat rw[aQ]
  rw[bX p,bX q]
  simp only[ye]
  rfl
 | .sh a b p=>by
  rw[Pat.text,Pat.tl]
  repeat rw[aQ]
  rw[bX p]
  simp only[ye]
  rfl
 | .mir p=>by
  rw[Pat.text,Pat.tl,aQ,bX p]
  rfl
 | .tur p=>by
  rw[Pat.text,Pat.tl,aQ,bX p]
  rfl
 | .hue f g p=>by
  rw[Pat.text,Pat.tl]
  repeat rw[aQ]
  rw[bX p]
  simp only[ye]
  rfl
theorem hueL{f:Int}(h:1<=f/\f<=6):numL f=[(48+f).toNat]:=by
 have key:∀ k:Fin 6,numL (((k.val:Nat):Int)+1)=[49+k.val]:=by decide+kernel
 have:=key ⟨(f - 1).toNat,by omega⟩
 have e:(((f - 1).toNat:Nat):Int)+1=f:=by omega
 rw[e] at this
 rw[this]
 congr 1
 show 49+(f - 1).toNat=(48+f).toNat
 omega
theorem aU{d c:Nat}{r:List Wt}:step (.pat d::r) c=aT d c r:=by simp[step,ao,aq]
theorem mH{f:Int}(h:1<=f/\f<=6)(r:List Wt)(t:List Nat)(k:Nat):walk (.hue::r) (numL f++t) k=walk r t (k+1):=by
 rw[hueL h]
 show walk (.hue::r) ((48+f).toNat::t) k=_
 exact am (by simp[step,ao,aq];omega)
theorem uz{L:List Str}{a b c d:Int}(hL:Rows L)(ha:B12 a)(hb:B12 b)(hc:B12 c)(hd:B12 d)(n:Nat)(r:List Wt)(t:List Nat)(k:Nat):walk (.pat n::r) (motL (L.map cs) a b c d++t) k=walk r t (k+(motL (L.map cs) a b c d).length):=by
 obtain⟨h1,w,hw,hs⟩:=hL
 have hs':∀ x∈L.map cs,x.length=w/\∀ c∈x,aG c:=λx hx=>by
  obtain⟨l,q1,q2⟩:=yH.mp hx
  subst q2
  exact⟨by rw[bc];exact(hs l q1).1,(hs l q1).2⟩
 have hne:L.map cs≠[]:=λz=>by have:=congrArg yG z;simp at this;subst this;simp at h1
 unfold motL
 simp only[yt,ye,Ax]
 have fin:∀ k,walk (.sign 93::r) (93::t) k=walk r t (k+1):=λk=>am (by simp[step,ao,aq])
 rw[am (st':=motW r) (by rw[aU];simp[aT])]
 unfold motW
 rw[gJ hw (L.map cs) 0 0 _ _ hne hs' (by rw[yg];omega) (λz=>absurd z (by omega))]
 rw[aM (numL_is ha) (.inl rfl),aM (numL_is hb) (.inr (.inl rfl)),aM (numL_is hc) (.inl rfl),aM (numL_is hd) (.inr (.inr (.inr rfl)))]
 congr 1
 simp only[xN,xT,yV]
 omega
theorem bQ:∀ {p:Pat},p.Syn->∀ (d:Nat) (r:List Wt) (t:List Nat) (k:Nat),p.depth+d<=5->walk (.pat d::r) (p.tl++t) k=walk r t (k+p.tl.length)
 | .mot L a b c e,h,d,r,t,k,_=>uz h.1 h.2.1 h.2.2.1 h.2.2.2.1 h.2.2.2.2 d r t k
 | .over p q,h,d,r,t,k,hd=>by
  rw[Pat.depth] at hd
  have h1:step (.pat d::r) 40=some (.pat (d+1):: .sign 124:: .pat (d+1):: .sign 41::r):=by rw[aU];simp[aT,show¬ d=5 by omega]
  rw[Pat.tl]
  simp only[yt,ye,Ax]
  rw[am h1,bQ h.1 (d+1) _ _ _ (by omega),am (st':= .pat (d+1):: .sign 41::r) (by simp[step,ao,aq]),bQ h.2 (d+1) _ _ _ (by omega),am (st':=r) (by simp[step,ao,aq])]
  congr 1
  simp only[xN,xT,yV]
  omega
 | .sh a b p,h,d,r,t,k,hd=>by
  rw[Pat.depth] at hd
  have h1:step (.pat d::r) 115=some (.num:: .sign 44:: .num:: .sign 58:: .pat (d+1)::r):=by rw[aU];simp[aT,show¬ d=5 by omega]
  rw[Pat.tl]
  simp only[yt,ye]
  rw[am h1,aM (numL_is h.1) (.inl rfl),aM (numL_is h.2.1) (.inr (.inr (.inl rfl))),bQ h.2.2 (d+1) _ _ _ (by omega)]
  congr 1
  simp only[xN,xT]
  omega
 | .mir p,h,d,r,t,k,hd=>by
  rw[Pat.depth] at hd
  have h1:step (.pat d::r) 109=some (.pat (d+1)::r):=by rw[aU];simp[aT,show¬ d=5 by omega]
  rw[Pat.tl,yt,am h1,bQ (p:=p) h (d+1) _ _ _ (by omega),xN]
  congr 1
  omega
 | .tur p,h,d,r,t,k,hd=>by
  rw[Pat.depth] at hd
  have h1:step (.pat d::r) 116=some (.pat (d+1)::r):=by rw[aU];simp[aT,show¬ d=5 by omega]
  rw[Pat.tl,yt,am h1,bQ (p:=p) h (d+1) _ _ _ (by omega),xN]
  congr 1
  omega
 | .hue f g p,h,d,r,t,k,hd=>by
  rw[Pat.depth] at hd
  have h1:step (.pat d::r) 104=some (.hue:: .hue:: .pat (d+1)::r):=by rw[aU];simp[aT,show¬ d=5 by omega]
  rw[Pat.tl]
  simp only[yt,ye]
  rw[am h1,mH h.1,mH h.2.1,bQ h.2.2 (d+1) _ _ _ (by omega)]
  rw[hueL h.1,hueL h.2.1]
  congr 1
  simp only[xN,xT,yV]
  omega
theorem mI{p:Pat}(h:p.Syn)(hd:p.depth<=5):bP p.text=none:=by
 unfold bP
 rw[bX]
 have:=bQ h 0 [] [] 0 (by omega)
 rw[yf] at this
 rw[this]
 rfl
theorem gK{x y:Str}(h:cs x=cs y):x=y:=by
 obtain⟨a⟩:=x
 obtain⟨b⟩:=y
 have:a=b:=Ay.mp h
 rw[this]
def Pat.lineAt:Pat->Nat->Option Nat
 | .mot _ a b c d,k=>if a*d=b*c then some k else none
 | .over p q,k=>match p.lineAt (k+1) with
  |some j=>some j
  |none=>q.lineAt (k+1+p.tl.length+1)
 | .sh a b p,k=>p.lineAt (k+1+(numL a).length+1+(numL b).length+1)
 | .mir p,k=>p.lineAt (k+1)
 | .tur p,k=>p.lineAt (k+1)
 | .hue _ _ p,k=>p.lineAt (k+3)
theorem Pat.line_wf:∀ {p:Pat} (k:Nat),p.Syn->p.lineAt k=none->p.Wf
 | .mot L a b c d,k,h,e=>by
  refine⟨h.1,h.2.1,h.2.2.1,h.2.2.2.1,h.2.2.2.2,λz=>?_⟩
  rw[Pat.lineAt,if_pos z] at e;cases e
 | .over p q,k,h,e=>by
  rw[Pat.lineAt] at e
  cases hp:p.lineAt (k+1) with
  |some j=>rw[hp] at e;cases e
  |none=>rw[hp] at e;exact⟨Pat.line_wf _ h.1 hp,Pat.line_wf _ h.2 e⟩
 | .sh a b p,k,h,e=>⟨h.1,h.2.1,Pat.line_wf _ h.2.2 (by rw[Pat.lineAt] at e;exact e)⟩
 | .mir p,k,h,e=>Pat.line_wf (p:=p) (k+1) h (by rw[Pat.lineAt] at e;exact e)
 | .tur p,k,h,e=>Pat.line_wf (p:=p) (k+1) h (by rw[Pat.lineAt] at e;exact e)
 | .hue f g p,k,h,e=>⟨h.1,h.2.1,Pat.line_wf _ h.2.2 (by rw[Pat.lineAt] at e;exact e)⟩
theorem Pat.syn_len:∀ {p:Pat},p.Syn->p.text.length+10<=110*2 ^ p.depth
 | .mot L a b c d,h=>by
  have:=ux h.1 h.2.1 h.2.2.1 h.2.2.2.1 h.2.2.2.2
  show(cQ L a b c d).length+10<=110*2 ^ 0
  omega
 | .over p q,h=>by
  have h1:=Pat.syn_len h.1
  have h2:=Pat.syn_len h.2
  have m1:2 ^ p.depth<=2 ^ (max p.depth q.depth):=zT (by decide) (Nat.le_max_left _ _)
  have m2:2 ^ q.depth<=2 ^ (max p.depth q.depth):=zT (by decide) (Nat.le_max_right _ _)
  have l1:("(":Str).length=1:=rfl
  have l2:("|":Str).length=1:=rfl
  have l3:(")":Str).length=1:=rfl
  rw[Pat.text,Pat.depth,Nat.pow_add]
  repeat rw[aR]
  omega
 | .sh a b p,h=>by
  have h1:=Pat.syn_len h.2.2
  have la:=bO h.1
  have lb:=bO h.2.1
  have l1:("s":Str).length=1:=rfl
  have l2:(",":Str).length=1:=rfl
  have l3:(":":Str).length=1:=rfl
  have:0<2 ^ p.depth:=zq (by decide)
  rw[Pat.text,Pat.depth,zr]
  repeat rw[aR]
  omega
 | .mir p,h=>by
  have h1:=Pat.syn_len (p:=p) h
  have l1:("m":Str).length=1:=rfl
  have:0<2 ^ p.depth:=zq (by decide)
  rw[Pat.text,Pat.depth,zr,aR]
  omega
 | .tur p,h=>by
  have h1:=Pat.syn_len (p:=p) h
  have l1:("t":Str).length=1:=rfl
  have:0<2 ^ p.depth:=zq (by decide)
  rw[Pat.text,Pat.depth,zr,aR]
  omega
 | .hue f g p,h=>by
  have h1:=Pat.syn_len h.2.2
  have la:=mC h.1
  have lb:=mC h.2.1
  have l1:("h":Str).length=1:=rfl
  have:0<2 ^ p.depth:=zq (by decide)
  rw[Pat.text,Pat.depth,zr]
  repeat rw[aR]
  omega
theorem Pat.syn_short{p:Pat}(h:p.Syn)(hd:p.depth<=5):p.text.length<=3510:=by
 have h1:=Pat.syn_len h
 have h2:2 ^ p.depth<=2 ^ 5:=zT (by decide) hd
 omega
end My
end
section
namespace My
open PySem PySem.Spec PyProof.Rows L2
theorem ifT{c A B:Prop}[Decidable c](h:c)(a:A):if c then A else B:=by rw[if_pos h];exact a
theorem ifdT{p A B:Prop}[Decidable p](h:p)(a:A):if decide p=true then A else B:=by rw[if_pos (decide_eq_true h)];exact a
theorem ifdF{p A B:Prop}[Decidable p](h:¬ p)(b:B):if decide p=true then A else B:=by rw[if_neg (by simpa using h)];exact b
def rdF(t:Str)(k:Nat):List (Str × D):=[("text",.str t),("place",.int k)]
def RdM(a:Addr)(t:Str)(k:Nat):MS:=[(a,.ins "Reading" (rdF t k))]
theorem bR{a:Addr}{o:MO}:mget [(a,o)] a=some o:=by unfold mget;rw[if_pos rfl]
theorem cT{a:Addr}{o o':MO}:mput [(a,o)] a o'=[(a,o')]:=by unfold mput;rw[if_pos rfl]
theorem aB{a:Addr}{t:Str}{k:Nat}:mget (RdM a t k) a=some (.ins "Reading" (rdF t k)):=bR
theorem gL{t:Str}{k:Nat}:(rdF t k).lookup ("text":Str)=some (.str t):=rfl
theorem cj{t:Str}{k:Nat}:(rdF t k).lookup ("place":Str)=some (.int k):=by
 unfold rdF
 rw[ya,show(("place":Str)==("text":Str))=false by decide+kernel]
 rfl
theorem va{t:Str}{k:Nat}:putD ("place":Str) (.int ((k:Int)+1)) (rdF t k)=rdF t (k+1):=by
 unfold rdF putD
 rw[if_neg (by decide+kernel)]
 unfold putD
 rw[if_pos rfl]
 rfl
theorem bY{t:Str}{k:Nat}:(rdF t k).lookup ("may_take":Str)=none:=by
 unfold rdF
 rw[ya,show(("may_take":Str)==("text":Str))=false by decide+kernel,ya,show(("may_take":Str)==("place":Str))=false by decide+kernel]
 rfl
theorem br{t:Str}{k:Nat}:(rdF t k).lookup ("take":Str)=none:=by
 unfold rdF
 rw[ya,show(("take":Str)==("text":Str))=false by decide+kernel,ya,show(("take":Str)==("place":Str))=false by decide+kernel]
 rfl
structure At(t:Str)(k:Nat)(l:List Nat):Prop where
 eq:(cs t).drop k=l
 le:k<=t.length
 sz:t.length<=100000
theorem At.nil{t:Str}{k:Nat}(h:At t k []):k=t.length:=by
 have h1:=congrArg yG h.eq
 rw[zj,bc] at h1
 have:=h.le
 simp at h1
 omega
theorem At.lt{t:Str}{k c:Nat}{l:List Nat}(h:At t k (c::l)):k<t.length:=by
 have h1:=congrArg yG h.eq
 rw[zj,bc] at h1
 simp at h1
 omega
theorem At.get{t:Str}{k c:Nat}{l:List Nat}(h:At t k (c::l)):(cs t)[k]?=some c:=by
 have h1:=congrArg (·[0]?) h.eq
 simpa using h1
theorem At.next{t:Str}{k c:Nat}{l:List Nat}(h:At t k (c::l)):At t (k+1) l:=by
 refine⟨?_,h.lt,h.sz⟩
 have h1:=congrArg (zM 1) h.eq
 rw[List.drop_drop] at h1
 simpa using h1
theorem At.app{t:Str}:∀ {x l:List Nat} {k:Nat},At t k (x++l)->At t (k+x.length) l
 |[],_,_,h=>h
 |c::x,l,k,h=>by
  have h1:At t (k+1+x.length) l:=At.app (At.next h)
  have e:k+1+x.length=k+(c::x).length:=by rw[xN];omega
  rw[e] at h1;exact h1
theorem mJ{c:Nat}{al:Str}:(!(!(Builtin.Str.occurrences al ⟨#[c]⟩ 0 al.length 1).isEmpty))=!decide (c∈cs al):=by
 rw[StrLaws.found_one]
def mayS(al:Str):List Nat->Str|c::_=>if c∈cs al then⟨#[c]⟩ else ""|[]=>""
def mayN(al:Str):List Nat->Nat|c::_=>if c∈cs al then 1 else 0|[]=>0
theorem cD{al:Str}{c:Nat}{l:List Nat}(h:c∈cs al):mayS al (c::l)=⟨#[c]⟩:=if_pos h
theorem cE{al:Str}{c:Nat}{l:List Nat}(h:c∈cs al):mayN al (c::l)=1:=if_pos h
theorem ck{al:Str}{c:Nat}{l:List Nat}(h:c ∉ cs al):mayS al (c::l)="":=if_neg h
theorem cm{al:Str}{c:Nat}{l:List Nat}(h:c ∉ cs al):mayN al (c::l)=0:=if_neg h
def vb:SiD:=λds R=>∃ t:Str,ds=[.str t]/\R (rdF t 0)
def vc:SpM:=λds M R RX=>∃ (a:Addr) (t:Str) (k:Nat) (l:List Nat) (al:Str),ds=[.ptr a,.str al]/\M=RdM a t k/\At t k l/\R (.str (mayS al l)) (RdM a t (k+mayN al l))
def vd:SpM:=λds M R RX=>∃ (a:Addr) (t:Str) (k:Nat) (l:List Nat) (al:Str),ds=[.ptr a,.str al]/\M=RdM a t k/\At t k l/\
 (∀ c l',l=c::l'->c∈cs al->R (.str ⟨#[c]⟩) (RdM a t (k+1)))/\((∀ c l',l=c::l'->c ∉ cs al)->∀ M',RX "WrongSign" [("place",.int k)] M')
theorem walk_bad{st:List Wt}{l:List Nat}{k:Nat}(h1:st≠[])(h:∀ c l',l=c::l'->step st c=none):walk st l k=some k:=by
 cases l with
 |nil=>rw[walk,if_neg h1]
 |cons c l=>rw[walk,h c l rfl]
theorem cF{e:Nat}{r:List Wt}{l:List Nat}{k:Nat}(h:∀ l',l≠e::l'):walk (.sign e::r) l k=some k:=
 walk_bad (λz=>nomatch z) λc l' q=>by
  have:c≠e:=λz=>h l' (z ▸ q)
  simp[step,ao,aq,this]
theorem cG{e:Nat}{r:List Wt}{l:List Nat}{k:Nat}:walk (.sign e::r) (e::l) k=walk r l (k+1):=am (by simp[step,ao,aq])
theorem ve{e:Nat}{r:List Wt}{l:List Nat}{k:Nat}(h:∀ d l',l=d::l'->¬ (48<=d/\d<=50)):walk (.more:: .sign e::r) l k=walk (.sign e::r) l k:=by
 cases l with
 |nil=>simp[walk]
 |cons d l=>
  have:step (.more:: .sign e::r) d=step (.sign e::r) d:=by simp[step,ao,h d l rfl]
  rw[walk,walk,this]
theorem vf{pre:List Nat}(hp:pre=[]\/pre=[45]){c:Nat}(hc:49<=c/\c<=57){x l3 l:List Nat}(hx:(c=49/\∃ d,(48<=d/\d<=50)/\x=[d])\/(x=[]/\(c=49->∀ d l',l3=d::l'->¬ (48<=d/\d<=50))))(k e:Nat)(r:List Wt)(hl:l=pre++c::(x++l3)):
  walk (.num:: .sign e::r) l k=walk (.sign e::r) l3 (k+(pre++c::x).length):=by
 subst hl
 have fig:∀ k,walk (.fig:: .sign e::r) (c::(x++l3)) k=walk (.sign e::r) l3 (k+(c::x).length):=λk=>by
  rcases hx with⟨rfl,d,hd,rfl⟩|⟨rfl,h⟩
  ·rw[am (st':= .more:: .sign e::r) (by simp[step,ao,aq])]
   show walk _ (d::l3) _=_
   rw[am (st':= .sign e::r) (by simp[step,ao,aq,hd])]
   rfl
  ·by_cases e1:c=49
   ·subst e1
    rw[am (st':= .more:: .sign e::r) (by simp[step,ao,aq])]
    show walk _ l3 _=_
    rw[ve (h rfl)];rfl
   ·rw[am (st':= .sign e::r) (by simp[step,ao,aq,e1,show 50<=c/\c<=57 by omega])];rfl
 rcases hp with rfl|rfl
 ·have same:step (.num:: .sign e::r) c=step (.fig:: .sign e::r) c:=by
   by_cases e1:c=49
   ·subst e1;simp[step,ao,aq]
   ·simp[step,ao,aq,e1,show¬ c=45 by omega,show 48<=c/\c<=57 by omega,show 50<=c/\c<=57 by omega]
  have:=fig k
  rw[walk] at this
  show walk _ (c::(x++l3)) k=_
  rw[walk,same,this]
  simp
 ·show walk _ (45::c::(x++l3)) k=_
  rw[am (st':= .fig:: .sign e::r) (by simp[step,ao,aq]),fig]
  congr 1
  simp only[xT,xN,yV]
  omega
theorem vg{pre:List Nat}(hp:pre=[]\/pre=[45]){l l1:List Nat}(hl:l=pre++l1)(h:∀ c l',l1=c::l'->¬ (49<=c/\c<=57))(h0:pre=[]->∀ c l',l1=c::l'->c≠48/\c≠45)(k:Nat)(r:List Wt):walk (.num::r) l k=some (k+pre.length):=by
 subst hl
 rcases hp with rfl|rfl
 ·refine walk_bad (λz=>nomatch z) λc l' q=>?_
  have h1:=h c l' q
  have h2:=h0 rfl c l' q
  simp[step,ao,aq,h2.2,show¬ c=49 by omega,show¬ (48<=c/\c<=57) by omega]
 ·show walk _ (45::l1) k=_
  rw[am (st':= .fig::r) (by simp[step,ao,aq])]
  refine walk_bad (λz=>nomatch z) λc l' q=>?_
  have h1:=h c l' q
  simp[step,ao,aq,show¬ c=49 by omega,show¬ (50<=c/\c<=57) by omega]
theorem gM{x:Int}(h:B12 x):PySem.intText? ⟨(numL x).toArray⟩=some x:=
 mF (P:=λx=>PySem.intText? ⟨(numL x).toArray⟩=some x) h (by decide+kernel)
theorem cU(x y:List Nat):((⟨x.toArray⟩:Str)++⟨y.toArray⟩:Str)=⟨(x++y).toArray⟩:=by
 apply gK
 rw[aQ]
theorem digits19{c:Nat}:c∈cs "123456789"↔49<=c/\c<=57:=by
 have e:cs "123456789"=[49,50,51,52,53,54,55,56,57]:=rfl
 rw[e];simp;omega
theorem digits02{c:Nat}:c∈cs "012"↔48<=c/\c<=50:=by
 have e:cs "012"=[48,49,50]:=rfl
 rw[e];simp;omega
theorem vh(w:List Nat)(c:Nat):Txt.endswith ⟨(w++[c]).toArray⟩ "1"=decide (c=49):=by
 unfold Txt.endswith
 have e1:("1":Str).length=1:=rfl
 have e2:(⟨(w++[c]).toArray⟩:Str).length=w.length+1:=by simp[Str.length]
 rw[e1,e2]
 have e3:decide (0+1<=w.length+1)=true:=by simp
 rw[e3,Bool.true_and,Nat.add_sub_cancel]
 unfold Builtin.Str.subAt
 have e4:(⟨(w++[c]).toArray⟩:Str).cps.extract w.length (w.length+("1":Str).length)=#[c]:=by
  apply Ay.mp
  simp[Array.toList_extract,e1]
 rw[e4]
 have e5:("1":Str).cps=#[49]:=rfl
 rw[e5]
 by_cases h:c=49
 ·subst h;rfl
 ·simp[h]
def vi:SpM:=λds M R RX=>∃ (a:Addr) (t:Str) (k:Nat) (l:List Nat),ds=[.ptr a]/\M=RdM a t k/\At t k l/\
 (∀ x l',B12 x->l=numL x++l'->(∀ e r,walk (.num:: .sign e::r) l k=walk (.sign e::r) l' (k+(numL x).length))->R (.int x) (RdM a t (k+(numL x).length)))/\
 (∀ j:Nat,(∀ r,walk (.num::r) l k=some j)->∀ M',RX "WrongSign" [("place",.int j)] M')
def vj:SpM:=λds M R RX=>∃ (a:Addr) (t:Str) (k:Nat) (l:List Nat),ds=[.ptr a]/\M=RdM a t k/\At t k l/\
 (∀ x y l',B12 x->B12 y->l=numL x++44::(numL y++l')->(∀ e r,walk (.num:: .sign 44:: .num:: .sign e::r) l k=walk (.sign e::r) l' (k+(numL x).length+1+(numL y).length))->R (.tup [.int x,.int y]) (RdM a t (k+(numL x).length+1+(numL y).length)))/\
 (∀ j:Nat,(∀ r,walk (.num:: .sign 44:: .num::r) l k=some j)->∀ M',RX "WrongSign" [("place",.int j)] M')
def sgPre:Nat->List Nat->List Nat
 |0,_=>[]
 |_+1,[]=>[]
 |n+1,c::l=>if isSg c=true then c::sgPre n l else[]
theorem cV(n c:Nat)(l:List Nat):sgPre (n+1) (c::l)=if isSg c=true then c::sgPre n l else[]:=rfl
theorem sgPre_succ:∀ (n:Nat) (l:List Nat),(∃ c l',l=sgPre n l++c::l'/\(sgPre n l).length=n/\isSg c=true/\sgPre (n+1) l=sgPre n l++[c])\/(∃ l',l=sgPre n l++l'/\(∀ c l'',l'=c::l''->isSg c=false)/\∀ m,n<=m->sgPre m l=sgPre n l)
 |0,[]=> .inr ⟨[],rfl,(λ_ _ q=>nomatch q),λm _=>by cases m<;>rfl⟩
 |0,c::l=>by
  by_cases h:isSg c=true
  ·exact .inl ⟨c,l,rfl,rfl,h,by rw[cV,if_pos h];rfl⟩
  ·refine .inr ⟨c::l,rfl,λ_ _ q=>?_,λm _=>?_⟩
   ·cases q;simpa using h
   ·cases m with
    |zero=>rfl
    |succ m=>rw[cV,if_neg h];rfl
 |n+1,[]=> .inr ⟨[],rfl,(λ_ _ q=>nomatch q),λm _=>by cases m<;>rfl⟩
 |n+1,c::l=>by
  by_cases h:isSg c=true
  ·have e:∀ m,sgPre (m+1) (c::l)=c::sgPre m l:=λm=>by rw[cV,if_pos h]
   rcases sgPre_succ n l with⟨d,l',h1,h2,h3,h4⟩|⟨l',h1,h2,h3⟩
   ·refine .inl ⟨d,l',?_,by rw[e,xN,h2],h3,by rw[e,e,h4];rfl⟩
    rw[e];exact congrArg (c::·) h1
   ·refine .inr ⟨l',?_,h2,λm hm=>?_⟩
    ·rw[e];exact congrArg (c::·) h1
    ·cases m with
     |zero=>omega
     |succ m=>rw[e,e,h3 m (by omega)]
  ·refine .inr ⟨c::l,?_,λ_ _ q=>?_,λm hm=>?_⟩
   ·rw[cV,if_neg h];rfl
   ·cases q;simpa using h
   ·cases m with
    |zero=>omega
    |succ m=>rw[cV,if_neg h,cV,if_neg h]
theorem eM:∀ (n:Nat) (l:List Nat),(sgPre n l).length<=n
 |0,_=>xM _
 |n+1,[]=>yj _
 |n+1,c::l=>by
  rw[sgPre]
  split
  ·rw[xN];exact Az (eM n l)
  ·exact yj _
theorem sgPre_sign:∀ (n:Nat) (l:List Nat),∀ c∈sgPre n l,aG c
 |0,_,_,h=>by cases h
 |n+1,[],_,h=>by cases h
 |n+1,c::l,d,h=>by
  rw[sgPre] at h
  split at h
  ·rename_i q
   rcases xP.mp h with e|e
   ·rw[e];exact isSign_of q
   ·exact sgPre_sign n l d e
  ·cases h
theorem sgPre_split(n:Nat)(l:List Nat):∃ l',l=sgPre n l++l'/\((sgPre n l).length=n\/∀ c l'',l'=c::l''->isSg c=false):=by
 rcases sgPre_succ n l with⟨d,l',h1,h2,h3,h4⟩|⟨l',h1,h2,h3⟩
 ·exact⟨d::l',h1,.inl h2⟩
 ·exact⟨l',h1,.inr h2⟩
theorem signs_is{c:Nat}:c∈cs ".123456"↔isSg c=true:=by
 have e:cs ".123456"=[46,49,50,51,52,53,54]:=rfl
 rw[e]
 simp
 omega
theorem cH(x:List Nat):(⟨x.toArray⟩:Str).length=x.length:=by simp[Str.length]
def vk:SpM:=λds M R RX=>∃ (a:Addr) (t:Str) (k:Nat) (l:List Nat) (n m:Nat),ds=[.ptr a,.int n,.int m]/\M=RdM a t k/\At t k l/\n<=m/\m<=8/\
 (n<=(sgPre m l).length->R (.str ⟨(sgPre m l).toArray⟩) (RdM a t (k+(sgPre m l).length)))/\((sgPre m l).length<n->∀ M',RX "WrongSign" [("place",.int ((k+(sgPre m l).length:Nat):Int))] M')
theorem vm{p a:Addr}{o:MO}{t:Str}{k:Nat}(h:p≠a):mget ((p,o)::RdM a t k) a=some (.ins "Reading" (rdF t k)):=by
 unfold mget
 rw[if_neg h]
 exact bR
theorem bZ{p:Addr}{o:MO}{M:MS}:mget ((p,o)::M) p=some o:=by unfold mget;rw[if_pos rfl]
theorem mK{p:Addr}{o o':MO}{M:MS}:mput ((p,o)::M) p o'=(p,o')::M:=by unfold mput;rw[if_pos rfl]
theorem gN{p:Addr}{o:MO}{M:MS}:mdel ((p,o)::M) p=M:=by unfold mdel;rw[if_pos rfl]
structure RowsL(L:List (List Nat))(w:Nat):Prop where
 many:1<=L.length/\L.length<=8
 w1:1<=w
 w8:w<=8
 each:∀ x∈L,x.length=w/\∀ c∈x,aG c
theorem eN:∀ (L:List (List Nat)) (x:List Nat),L≠[]->rowsL (L++[x])=rowsL L++47::x
 |[],_,h=>absurd rfl h
 |[y],x,_=>rfl
 |y::z::L,x,_=>by
  show y++47::rowsL ((z::L)++[x])=(y++47::rowsL (z::L))++47::x
  rw[eN (z::L) x (λq=>nomatch q)]
  simp
structure LinAt(w h n:Nat)(l:List Nat):Prop where
 h1:1<=h
 n1:1<=n
 one:n=1->h=8\/∀ c l',l=c::l'->isSg c=false
 more:2<=n->w=h
theorem vn{w h n:Nat}{l:List Nat}(H:LinAt w h n l)(hn:n<=8)(stop:n=8\/∀ l',l≠47::l')(r:List Wt)(p:Nat):walk (.lin w h (n - 1)::r) l p=walk (.sign 59::r) l p:=by
 cases l with
 |nil=>simp[walk]
 |cons c l=>
  have key:step (.lin w h (n - 1)::r) c=step (.sign 59::r) c:=by
   rw[cC]
   unfold bW
   have e59:step (.sign 59::r) c=if c=59 then some r else none:=by simp[step,ao,aq]
   rw[e59]
   have h1:=H.h1
   by_cases hs:isSg c=true
   ·rw[if_pos hs]
    have nc:¬ c=59:=by rintro rfl;cases hs
    rw[if_neg nc]
    refine if_neg ?_
    by_cases n1:n=1
    ·rcases H.one n1 with e|e
     ·subst n1;simp;omega
     ·rw[e c l rfl] at hs;cases hs
    ·have n1':=H.n1
     have:=H.more (by omega)
     rw[if_pos (by omega)];omega
   ·rw[if_neg hs]
    have g:¬ (h=0\/(0<n - 1/\h<w)):=by
     have n1':=H.n1
     rintro(z|⟨z1,z2⟩)
     ·omega
     ·have:=H.more (by omega);omega
    rw[if_neg g]
    by_cases c47:c=47
    ·subst c47
     rw[if_pos rfl,if_neg (c:=47=59) (by decide)]
     refine if_neg ?_
     rcases stop with e|e
     ·omega
     ·exact absurd rfl (e l)
    ·rw[if_neg c47]
  rw[walk,walk,key]
theorem mL{w h n:Nat}{l:List Nat}(H:LinAt w h n (47::l))(hn:n<8)(r:List Wt)(p:Nat):walk (.lin w h (n - 1)::r) (47::l) p=walk (.lin h 0 n::r) l (p+1):=by
 refine am ?_
 rw[cC]
 unfold bW
 have h1:=H.h1
 have n1':=H.n1
 have ns:isSg 47=false:=rfl
 rw[ns,if_neg xS,if_neg (by
  rintro(z|⟨z1,z2⟩)
  ·omega
  ·have:=H.more (by omega);omega),if_pos rfl,if_pos (by omega)]
 congr 3
 omega
theorem mM{w n:Nat}{x l:List Nat}(hs:∀ c∈x,aG c)(hx:x.length<w)(hw:w<=8)(hn:n=0->x=[])(hl:∀ c l',l=c::l'->isSg c=false)(r:List Wt)(p:Nat):walk (.lin w 0 n::r) (x++l) p=some (p+x.length):=by
 rw[cS x 0 l p hs (by split<;>omega)]
 refine walk_bad (λz=>nomatch z) λc l' q=>?_
 rw[cC]
 unfold bW
 rw[hl c l' q,if_neg xS]
 refine if_pos ?_
 by_cases n0:n=0
 ·left;rw[hn n0];rfl
 ·right;exact⟨by omega,by omega⟩
def lstD(L:List (List Nat)):List D:=L.map λx=>D.str ⟨x.toArray⟩
def vo:SpM:=λds M R RX=>∃ (a:Addr) (t:Str) (k:Nat) (l:List Nat),ds=[.ptr a]/\M=RdM a t k/\At t k l/\
 (∀ (L:List (List Nat)) (w:Nat) l',RowsL L w->l=rowsL L++l'->(∀ r,walk (.lin 0 0 0::r) l k=walk (.sign 59::r) l' (k+(rowsL L).length))->R (.lst (lstD L)) (RdM a t (k+(rowsL L).length)))/\
 (∀ j:Nat,(∀ r,walk (.lin 0 0 0::r) l k=some j)->∀ M',RX "WrongSign" [("place",.int j)] M')
def hmX(w h s:Int)(i j:Int):Int:=(i - j / h*s) % w
def hRow(w h s:Int)(j:Nat):Nat->List Nat->List ((Int × Int) × Int)->List ((Int × Int) × Int)
 |_,[],kv=>kv
 |i,c::r,kv=>hRow w h s j (i+1) r (if c=46 then kv else sdD kv (hmX w h s i j) ((j:Int) % h) ((c:Int) - 48))
def hAll(w h s:Int):Nat->List (List Nat)->List ((Int × Int) × Int)->List ((Int × Int) × Int)
 |_,[],kv=>kv
 |j,x::r,kv=>hAll w h s (j+1) r (hRow w h s j 0 x kv)
theorem mN(kv:List ((Int × Int) × Int))(x y v:Int):(sdD kv x y v).length<=kv.length+1:=by
 unfold sdD
 split
 ·omega
 ·rw[xT];simp
theorem vp{c:Nat}(h:49<=c/\c<=54):∃ i rest,Builtin.Str.occurrences ".123456" ⟨#[c]⟩ 0 (".123456":Str).length 1=i::rest/\((i:Nat):Int)=(c:Int) - 48:=by
 rcases(by omega:c=49\/c=50\/c=51\/c=52\/c=53\/c=54) with e|e|e|e|e|e<;>subst e
 ·exact⟨1,[],by decide+kernel,by decide⟩
 ·exact⟨2,[],by decide+kernel,by decide⟩
 ·exact⟨3,[],by decide+kernel,by decide⟩
 ·exact⟨4,[],by decide+kernel,by decide⟩
 ·exact⟨5,[],by decide+kernel,by decide⟩
 ·exact⟨6,[],by decide+kernel,by decide⟩
theorem vq{x:List Nat}(h:∀ c∈x,aG c):(⟨x.toArray⟩:Str).cps.all (·<128)=true:=by
 rw[<- Al,yz]
 intro c hc
 have:=h c hc
 unfold aG at this
 simp
 omega
theorem vt{L:List (List Nat)}{j:Nat}{d:D}(h:(lstD L)[j]?=some d):∃ x,L[j]?=some x/\d= .str ⟨x.toArray⟩:=by
 unfold lstD at h
 rw[yn] at h
 cases e:L[j]? with
 |none=>rw[e] at h;cases h
 |some x=>rw[e] at h;cases h;exact⟨x,rfl,rfl⟩
theorem vw{x:List Nat}{i:Nat}{d:D}(h:(cy ⟨x.toArray⟩)[i]?=some d):∃ c,x[i]?=some c/\d= .str ⟨#[c]⟩:=by
 unfold cy at h
 rw[yn] at h
 cases e:x[i]? with
 |none=>simp[e] at h
 |some c=>simp[e] at h;exact⟨c,rfl,h.symm⟩
theorem mO{α:Type}{l:List α}{i:Nat}{x:α}(h:l[i]?=some x):l.drop i=x::l.drop (i+1):=by
 have hi:i<l.length:=(yi.mp h).1
 rw[AA hi]
 congr 1
 rw[yk hi] at h
 exact Option.some.inj h
def vx:SpM:=λds M R RX=>∃ (L:List (List Nat)) (wd:Nat) (w h s:Int),ds=[.lst (lstD L),.tup [.int w,.int h,.int s]]/\RowsL L wd/\0<w/\0<h/\h<1073741824/\0<=s/\s<1073741824/\R (.dti (hAll w h s 0 L [])) M
def moF(k:Nat)(sh:D)(hu:List ((Int × Int) × Int)):List (Str × D):=[("place",.int k),("shifts",sh),("hues",.dti hu)]
def vy:SiD:=λds R=>∃ (k:Nat) (L:List (List Nat)) (wd:Nat) (a b c d:Int),ds=[.int k,.lst (lstD L),.tup [.int a,.int b],.tup [.int c,.int d]]/\RowsL L wd/\B12 a/\B12 b/\B12 c/\B12 d/\
 (a*d=b*c->R (moF k .non []))/\(¬ a*d=b*c->∀ w h s,FamOf a b c d w h s->R (moF k (.tup [.int w,.int h,.int s]) (hAll w h s 0 L [])))
theorem vz{v:D}:putD ("place":Str) v []=([("place",v)]:List (Str × D)):=rfl
theorem mQ{u v:D}:putD ("shifts":Str) v [("place",u)]=([("place",u),("shifts",v)]:List (Str × D)):=by
 unfold putD
 rw[if_neg (by decide+kernel)]
 rfl
theorem mR{t u v:D}:putD ("hues":Str) v [("place",t),("shifts",u)]=([("place",t),("shifts",u),("hues",v)]:List (Str × D)):=by
 unfold putD
 rw[if_neg (by decide+kernel)]
 unfold putD
 rw[if_neg (by decide+kernel)]
 rfl
theorem gO{u v:D}:([("place",u),("shifts",v)]:List (Str × D)).lookup ("shifts":Str)=some v:=by
 rw[ya,show(("shifts":Str)==("place":Str))=false by decide+kernel]
 rfl
def vA:SiD:=λds R=>∃ (x y:Str) (fs gs:List (Str × D)),ds=[.obj x fs,.obj y gs]/\R [("above",.obj x fs),("below",.obj y gs)]
def vB:SiD:=λds R=>∃ (x:Str) (fs:List (Str × D)) (a b:Int),ds=[.obj x fs,.int a,.int b]/\R [("form",.obj x fs),("x",.int a),("y",.int b)]
def vC:SiD:=λds R=>∃ (x:Str) (fs:List (Str × D)),ds=[.obj x fs]/\R [("form",.obj x fs)]
def vD:SiD:=λds R=>∃ (x:Str) (fs:List (Str × D)),ds=[.obj x fs]/\R [("form",.obj x fs)]
def vE:SiD:=λds R=>∃ (x:Str) (fs:List (Str × D)) (a b:Int),ds=[.obj x fs,.int a,.int b]/\R [("form",.obj x fs),("old",.int a),("new",.int b)]
def FormOf:Pat->Nat->D->Prop
 | .mot L a b c d,k,v=>∃ sh hu,v= .obj "Motif" (moF k sh hu)/\(a*d=b*c->sh= .non)/\(¬ a*d=b*c->∃ w h s,FamOf a b c d w h s/\sh= .tup [.int w,.int h,.int s]/\hu=hAll w h s 0 (L.map cs) [])
 | .over p q,k,v=>∃ u u',v= .obj "Over" [("above",u),("below",u')]/\FormOf p (k+1) u/\FormOf q (k+1+p.tl.length+1) u'
 | .sh a b p,k,v=>∃ u,v= .obj "Shifted" [("form",u),("x",.int a),("y",.int b)]/\FormOf p (k+1+(numL a).length+1+(numL b).length+1) u
 | .mir p,k,v=>∃ u,v= .obj "Mirror" [("form",u)]/\FormOf p (k+1) u
 | .tur p,k,v=>∃ u,v= .obj "Turn" [("form",u)]/\FormOf p (k+1) u
 | .hue f g p,k,v=>∃ u,v= .obj "Rehue" [("form",u),("old",.int f),("new",.int g)]/\FormOf p (k+3) u
def Pat.cls:Pat->Str
 | .mot ..=>"Motif"| .over ..=>"Over"| .sh ..=>"Shifted"| .mir ..=>"Mirror"| .tur ..=>"Turn"| .hue ..=>"Rehue"
theorem FormOf.obj{p:Pat}{k:Nat}{v:D}(h:FormOf p k v):∃ fs,v= .obj p.cls fs:=by
 cases p with
 |mot L a b c d=>obtain⟨sh,hu,rfl,_⟩:=h;exact⟨_,rfl⟩
 |over p q=>obtain⟨_,_,rfl,_⟩:=h;exact⟨_,rfl⟩
 |sh a b p=>obtain⟨_,rfl,_⟩:=h;exact⟨_,rfl⟩
 |mir p=>obtain⟨_,rfl,_⟩:=h;exact⟨_,rfl⟩
 |tur p=>obtain⟨_,rfl,_⟩:=h;exact⟨_,rfl⟩
 |hue f g p=>obtain⟨_,rfl,_⟩:=h;exact⟨_,rfl⟩
theorem vF{L:List (List Nat)}{w:Nat}(h:RowsL L w):Rows (L.map λx=>(⟨x.toArray⟩:Str))/\(L.map λx=>(⟨x.toArray⟩:Str)).map cs=L:=by
 refine⟨⟨by rw[yg];exact h.many,w,⟨h.w1,h.w8⟩,λl hl=>?_⟩,?_⟩
 ·obtain⟨x,hx,rfl⟩:=yH.mp hl
  obtain⟨h1,h2⟩:=h.each x hx
  exact⟨by rw[cH];exact h1,h2⟩
 ·rw[List.map_map]
  simp[Function.comp_def,cs]
def vG:SpM:=λds M R RX=>∃ (a:Addr) (t:Str) (k:Nat) (l:List Nat),ds=[.ptr a]/\M=RdM a t k/\At t k l/\
 (∀ p l',p.Syn->p.depth=0->l=p.tl++l'->∀ v,FormOf p k v->R v (RdM a t (k+p.tl.length)))/\
 (∀ j:Nat,(∀ r,walk (.pat 5::r) l k=some j)->∀ M',RX "WrongSign" [("place",.int j)] M')
theorem vH{d:Nat}{l:List Nat}{k:Nat}{r:List Wt}(h:d=5\/∀ c l',l=c::l'->c ∉ cs "(smth"):walk (.pat d::r) l k=walk (.pat 5::r) l k:=by
 rcases h with rfl|h
 ·rfl
 ·cases l with
  |nil=>simp[walk]
  |cons c l=>
   have hc:=h c l rfl
   have e:cs "(smth"=[40,115,109,116,104]:=rfl
   rw[e] at hc
   simp only[xP,zd,or_false,not_or] at hc
   have:step (.pat d::r) c=step (.pat 5::r) c:=by
    rw[aU,aU]
    unfold aT
    by_cases c91:c=91
    ·rw[if_pos c91,if_pos c91]
    ·rw[if_neg c91,if_neg c91,if_pos rfl]
     split
     ·rfl
     ·rw[if_neg hc.1,if_neg hc.2.1,if_neg hc.2.2.2.2,if_neg (by rintro(z|z);exact hc.2.2.1 z;exact hc.2.2.2.1 z)]
   rw[walk,walk,this]
theorem hue_dig{c:Nat}:c∈cs "123456"↔49<=c/\c<=54:=by
 have e:cs "123456"=[49,50,51,52,53,54]:=rfl
 rw[e];simp;omega
theorem eO{c:Nat}(h:49<=c/\c<=54):numL ((c:Int) - 48)=[c]:=by
 rw[hueL (by omega)]
 congr 1
 omega
theorem gP{c:Nat}(h:49<=c/\c<=54){r:List Wt}{l:List Nat}{k:Nat}:walk (.hue::r) (c::l) k=walk r l (k+1):=am (by simp[step,ao,aq,h])
theorem mU{r:List Wt}{l:List Nat}{k:Nat}(h:∀ c l',l=c::l'->c ∉ cs "123456"):walk (.hue::r) l k=some k:=
 walk_bad (λz=>nomatch z) λc l' q=>by
  have:=λz=>h c l' q (hue_dig.mpr z)
  simp only[step,ao,aq]
  exact if_neg this
def cn(j:Nat):SpM:=λds M R RX=>∃ (a:Addr) (t:Str) (k:Nat) (l:List Nat) (d:Nat),ds=[.ptr a,.int d]/\M=RdM a t k/\At t k l/\d+j=6/\1<=j/\
 (∀ p l',p.Syn->p.depth+d<=5->l=p.tl++l'->∀ v,FormOf p k v->R v (RdM a t (k+p.tl.length)))/\(∀ i:Nat,(∀ r,walk (.pat d::r) l k=some i)->∀ M',RX "WrongSign" [("place",.int i)] M')
theorem vI{ds:List D}{M:MS}{R:D->MS->Prop}{RX:XDM}:¬ cn 0 ds M R RX:=by
 rintro⟨_,_,_,_,_,_,_,_,_,h,_⟩
 exact absurd h (by decide)
def mV(j:Nat):SpM:=λds M R RX=>∃ (a:Addr) (t:Str) (k:Nat) (l:List Nat) (d:Nat),ds=[.ptr a,.int d]/\M=RdM a t k/\At t k l/\d+j=6/\1<=j/\
 (∀ p q l',p.Syn->q.Syn->p.depth+d<=5->q.depth+d<=5->l=p.tl++124::(q.tl++41::l')->∀ u u',FormOf p k u->FormOf q (k+p.tl.length+1) u'->R (.obj "Over" [("above",u),("below",u')]) (RdM a t (k+p.tl.length+1+q.tl.length+1)))/\
 (∀ i:Nat,(∀ r,walk (.pat d:: .sign 124:: .pat d:: .sign 41::r) l k=some i)->∀ M',RX "WrongSign" [("place",.int i)] M')
def mW(j:Nat):SpM:=λds M R RX=>∃ (a:Addr) (t:Str) (k:Nat) (l:List Nat) (d:Nat),ds=[.ptr a,.int d]/\M=RdM a t k/\At t k l/\d+j=6/\1<=j/\
 (∀ x y p l',B12 x->B12 y->p.Syn->p.depth+d<=5->l=numL x++44::(numL y++58::(p.tl++l'))->∀ u,FormOf p (k+(numL x).length+1+(numL y).length+1) u->R (.obj "Shifted" [("form",u),("x",.int x),("y",.int y)]) (RdM a t (k+(numL x).length+1+(numL y).length+1+p.tl.length)))/\
 (∀ i:Nat,(∀ r,walk (.num:: .sign 44:: .num:: .sign 58:: .pat d::r) l k=some i)->∀ M',RX "WrongSign" [("place",.int i)] M')
def mY(j:Nat):SpM:=λds M R RX=>∃ (a:Addr) (t:Str) (k:Nat) (l:List Nat) (d:Nat),ds=[.ptr a,.int d]/\M=RdM a t k/\At t k l/\d+j=6/\1<=j/\
 (∀ c e p l',(49<=c/\c<=54)->(49<=e/\e<=54)->p.Syn->p.depth+d<=5->l=c::e::(p.tl++l')->∀ u,FormOf p (k+2) u->R (.obj "Rehue" [("form",u),("old",.int ((c:Int) - 48)),("new",.int ((e:Int) - 48))]) (RdM a t (k+2+p.tl.length)))/\
 (∀ i:Nat,(∀ r,walk (.hue:: .hue:: .pat d::r) l k=some i)->∀ M',RX "WrongSign" [("place",.int i)] M')
def Pat.Cal:Pat->Prop
 | .mot ..=>True
 | .over p q=>p.Cal/\q.Cal/\(p.Wf->q.Wf->p.Fits/\q.Fits)
 | .sh _ _ p=>p.Cal
 | .mir p=>p.Cal
 | .tur p=>p.Cal/\(p.Wf->p.Fits)
 | .hue _ _ p=>p.Cal
theorem Pat.cls_mem(p:Pat):p.cls∈(["Motif","Over","Shifted","Mirror","Turn","Rehue"]:List Str):=by
 cases p<;>simp[Pat.cls]
theorem no_look{f g:Str}{v:D}{r:List (Str × D)}(h:(f==g)=false)(hr:r.lookup f=none):(((g,v)::r:List (Str × D))).lookup f=none:=by
 rw[ya,h];exact hr
theorem FormOf.objm{p:Pat}{k:Nat}{v:D}(h:FormOf p k v):∃ fs,v= .obj p.cls fs/\fs.lookup ("family":Str)=none/\fs.lookup ("shows":Str)=none:=by
 cases p with
 |mot L a b c d=>obtain⟨sh,hu,rfl,_⟩:=h;exact⟨_,rfl,no_look (by decide+kernel) (no_look (by decide+kernel) (no_look (by decide+kernel) rfl)),no_look (by decide+kernel) (no_look (by decide+kernel) (no_look (by decide+kernel) rfl))⟩
 |over p q=>obtain⟨_,_,rfl,_⟩:=h;exact⟨_,rfl,no_look (by decide+kernel) (no_look (by decide+kernel) rfl),no_look (by decide+kernel) (no_look (by decide+kernel) rfl)⟩
 |sh a b p=>obtain⟨_,rfl,_⟩:=h;exact⟨_,rfl,no_look (by decide+kernel) (no_look (by decide+kernel) (no_look (by decide+kernel) rfl)),no_look (by decide+kernel) (no_look (by decide+kernel) (no_look (by decide+kernel) rfl))⟩
 |mir p=>obtain⟨_,rfl,_⟩:=h;exact⟨_,rfl,no_look (by decide+kernel) rfl,no_look (by decide+kernel) rfl⟩
 |tur p=>obtain⟨_,rfl,_⟩:=h;exact⟨_,rfl,no_look (by decide+kernel) rfl,no_look (by decide+kernel) rfl⟩
 |hue f g p=>obtain⟨_,rfl,_⟩:=h;exact⟨_,rfl,no_look (by decide+kernel) (no_look (by decide+kernel) (no_look (by decide+kernel) rfl)),no_look (by decide+kernel) (no_look (by decide+kernel) (no_look (by decide+kernel) rfl))⟩
theorem mZ{k:Nat}{sh:D}{hu:List ((Int × Int) × Int)}:(moF k sh hu).lookup ("shifts":Str)=some sh:=by
 unfold moF
 rw[ya,show(("shifts":Str)==("place":Str))=false by decide+kernel]
 rfl
theorem vJ{k:Nat}{sh:D}{hu:List ((Int × Int) × Int)}:(moF k sh hu).lookup ("place":Str)=some (.int k):=rfl
theorem gQ{f g:Str}{u v:D}{r:List (Str × D)}(h:(g==f)=false):(((f,u)::(g,v)::r:List (Str × D))).lookup g=some v:=by
 rw[ya,h,ya,beq_self_eq_true]
theorem vK{e f g:Str}{t u v:D}{r:List (Str × D)}(h1:(g==e)=false)(h2:(g==f)=false):(((e,t)::(f,u)::(g,v)::r:List (Str × D))).lookup g=some v:=by
 rw[ya,h1];exact gQ h2
theorem Pat.Fits.small{p:Pat}(h:p.Fits){w k s:Int}(f:p.Fam w k s):0<w/\w<=720/\0<k/\k<=720/\0<=s/\s<w:=by
 obtain⟨w',k',s',f',hb⟩:=h
 obtain⟨rfl,rfl,rfl⟩:=f.uniq f'
 obtain⟨h1,h2⟩:=dz f.f.w0 f.f.h0
 exact⟨f.f.w0,by omega,f.f.h0,by omega,f.f.s0,f.f.sw⟩
def bp(j:Nat)(x:Str):SpX:=λds R RX=>∃ (p:Pat) (k:Nat) (v:D),ds=[v]/\FormOf p k v/\p.Syn/\p.depth<j/\p.cls=x/\p.Cal/\(∀ i:Nat,p.lineAt k=some i->RX "OneLine" [("place",.int i)])/\(p.lineAt k=none->∀ w h s,p.Fam w h s->R (.tup [.int w,.int h,.int s]))
theorem cW{x:Str}{ds:List D}{M:MS}{R:D->MS->Prop}{RX:XDM}:¬ ofX (bp 0 x) ds M R RX:=by
 rintro⟨_,_,_,_,_,_,h,_⟩
 exact absurd h (zU _)
structure PatOf(p:Pat)(w h s:Int)(fs:List (Str × D)):Prop extends Pat.Fam p w h s where
 form:∃ k v,fs.lookup ("form":Str)=some v/\FormOf p k v
def ng(p:Pat)(d:D):Prop:=∃ w h s fs,d= .obj "Pattern" fs/\fs.lookup ("text":Str)=some (.str p.text)/\fs.lookup ("shifts":Str)=some (.tup [.int w,.int h,.int s])/\PatOf p w h s fs
theorem vL{i j:Int}{k:Nat}{x:D}(h:((xR (j - i).toNat).map λk=>D.int (i+((k:Nat):Int)))[k]?=some x):k<(j - i).toNat/\x= .int (i+(k:Int)):=by
 have hk:k<(j - i).toNat:=by simpa using(yi.mp h).1
 refine⟨hk,?_⟩
 simp[hk] at h
 exact h.symm
theorem Pat.cal_w:∀ {p:Pat} {w h s:Int},p.Wf->p.Cal->p.Fam w h s->w<=518400
 | .mot L a b c d,w,h,s,hwf,_,f=>by
  have:=(Pat.fits_mot (L:=L) hwf.2.1 hwf.2.2.1 hwf.2.2.2.1 hwf.2.2.2.2.1 hwf.2.2.2.2.2).small f
  omega
 | .over p q,w,h,s,hwf,hc,f=>by
  obtain⟨f1,f2⟩:=hc.2.2 hwf.1 hwf.2
  obtain⟨w1,k1,s1,g1⟩:=Pat.fam_ex hwf.1
  obtain⟨w2,k2,s2,g2⟩:=Pat.fam_ex hwf.2
  have a1:=f1.small g1
  have a2:=f2.small g2
  have hin:InF w h s (w1*w2) 0:=(f.lat _ _).mpr ⟨(g1.lat _ _).mp ⟨w2,0,by rw[zO];omega,by omega⟩,(g2.lat _ _).mp ⟨w1,0,by omega,by omega⟩⟩
  obtain⟨i,j,e1,e2⟩:=hin
  have hj:j=0:=by
   rcases zS.mp e2.symm with z|z
   ·exact z
   ·have:=f.f.h0;omega
  subst hj
  have hp:0<w1*w2:=yd a1.1 a2.1
  have e3:w1*w2=i*w:=by omega
  have hi:0<i:=by
   have:=f.f.w0
   rcases(by omega:i<=0\/0<i) with z|z
   ·have:=zc z (show 0<=w by omega)
    omega
   ·exact z
  have h1:=yp (show 1<=i by omega) (show 0<=w by have:=f.f.w0;omega)
  have h2:=bH (a:=w1) (d:=w2) (A:=720) (B:=720) (by omega) (by omega)
  omega
 | .sh a b p,w,h,s,hwf,hc,f=>Pat.cal_w (p:=p) hwf.2.2 hc ⟨f.f,f.lat⟩
 | .mir p,w,h,s,hwf,hc,f=>by
  obtain⟨w1,k1,s1,f1⟩:=Pat.fam_ex (p:=p) hwf
  obtain⟨rfl,_,_⟩:=f.uniq f1.mir
  exact Pat.cal_w (p:=p) hwf hc f1
 | .tur p,w,h,s,hwf,hc,f=>by
  have:=(Pat.Fits.tur (hc.2 hwf)).small f
  omega
 | .hue a b p,w,h,s,hwf,hc,f=>Pat.cal_w (p:=p) hwf.2.2 hc ⟨f.f,f.lat⟩
theorem ca{e:Nat}:∀ {a b x y:List Nat},e ∉ a->e ∉ b->a++e::x=b++e::y->a=b/\x=y
 |[],[],x,y,_,_,h=>by cases h;exact⟨rfl,rfl⟩
 |[],c::b,x,y,_,hb,h=>by
  cases h
  exact absurd xZ hb
 |c::a,[],x,y,ha,_,h=>by
  cases h
  exact absurd xZ ha
 |c::a,d::b,x,y,ha,hb,h=>by
  have h':c::(a++e::x)=d::(b++e::y):=h
  injection h' with h1 h2
  obtain⟨e1,e2⟩:=ca (λz=>ha (xV _ z)) (λz=>hb (xV _ z)) h2
  exact⟨by rw[h1,e1],e2⟩
theorem cX{a b:Int}(ha:B12 a)(hb:B12 b)(h:numL a=numL b):a=b:=by
 have h1:=gM ha
 rw[h,gM hb] at h1
 exact(Option.some.inj h1).symm
theorem vM{a:Int}(ha:B12 a):∀ c∈numL a,c=45\/(48<=c/\c<=57):=by
 rcases numL_is ha with⟨c,hc,e⟩|⟨c,hc,e⟩|⟨c,hc,e⟩|⟨c,hc,e⟩<;>rw[e]<;>simp<;>omega
theorem bC{a:Int}(ha:B12 a){e:Nat}(he:endS e):e ∉ numL a:=λz=>by
 have:=vM ha e z
 unfold endS at he
 omega
theorem rowsL_chars:∀ {L:List (List Nat)},(∀ x∈L,∀ c∈x,aG c)->∀ c∈rowsL L,aG c\/c=47
 |[],_,c,h=>by cases h
 |[x],hx,c,h=> .inl (hx x xZ c h)
 |x::y::L,hx,c,h=>by
  have h':c∈x++47::rowsL (y::L):=h
  rcases yu.mp h' with z|z
  ·exact .inl (hx x xZ c z)
  ·rcases xP.mp z with z|z
   ·exact .inr z
   ·exact rowsL_chars (λx q=>hx x (xV _ q)) c z
theorem dA{c:Nat}(h:aG c):c≠47/\c≠59:=by unfold aG at h;omega
theorem nh:∀ {L M:List (List Nat)},L≠[]->M≠[]->(∀ x∈L,∀ c∈x,aG c)->(∀ x∈M,∀ c∈x,aG c)->rowsL L=rowsL M->L=M
 |[],_,h,_,_,_,_=>absurd rfl h
 |_,[],_,h,_,_,_=>absurd rfl h
 |[x],[y],_,_,_,_,h=>by rw[show x=y from h]
 |[x],y::z::M,_,_,hx,_,h=>by
  have h':x=y++47::rowsL (z::M):=h
  have:(47:Nat)∈x:=by rw[h'];simp
  exact absurd rfl (dA (hx x xZ 47 this)).1
 |x::z::L,[y],_,_,_,hy,h=>by
  have h':x++47::rowsL (z::L)=y:=h
  have:(47:Nat)∈y:=by rw[<- h'];simp
  exact absurd rfl (dA (hy y xZ 47 this)).1
 |x::z::L,y::z'::M,_,_,hx,hy,h=>by
  have h':x++47::rowsL (z::L)=y++47::rowsL (z'::M):=h
  obtain⟨e1,e2⟩:=ca (λq=>(dA (hx x xZ 47 q)).1 rfl) (λq=>(dA (hy y xZ 47 q)).1 rfl) h'
  rw[e1,nh (L:=z::L) (M:=z'::M) (λq=>nomatch q) (λq=>nomatch q) (λx q=>hx x (xV _ q)) (λx q=>hy x (xV _ q)) e2]
theorem nj:∀ {L M:List Str},L.map cs=M.map cs->L=M
 |[],[],_=>rfl
 |[],_::_,h=>by cases h
 |_::_,[],h=>by cases h
 |x::L,y::M,h=>by
  rw[yc,yc] at h
  injection h with h1 h2
  rw[gK h1,nj h2]
theorem vN{L L':List Str}{a b c d a' b' c' d':Int}{x y:List Nat}(h:(Pat.mot L a b c d).Syn)(h':(Pat.mot L' a' b' c' d').Syn)(e:(Pat.mot L a b c d).tl++x=(Pat.mot L' a' b' c' d').tl++y):Pat.mot L a b c d=Pat.mot L' a' b' c' d'/\x=y:=by
 have e0:91::(rowsL (L.map cs)++59::(numL a++44::(numL b++59::(numL c++44::(numL d++93::x)))))=91::(rowsL (L'.map cs)++59::(numL a'++44::(numL b'++59::(numL c'++44::(numL d'++93::y))))):=by
  simpa[Pat.tl,motL] using e
 injection e0 with _ e1
 have sg:∀ {L:List Str},Rows L->∀ x∈L.map cs,∀ c∈x,aG c:=λ{L} hL x hx=>by
  obtain⟨l,hl,rfl⟩:=yH.mp hx
  obtain⟨_,w,_,q⟩:=hL
  exact(q l hl).2
 have n59:∀ {L:List Str},Rows L->(59:Nat) ∉ rowsL (L.map cs):=λ{L} hL z=>by
  rcases rowsL_chars (sg hL) 59 z with q|q
  ·exact(dA q).2 rfl
  ·cases q
 have ne:∀ {L:List Str},Rows L->L.map cs≠[]:=λ{L} hL z=>by
  have h1:=hL.many.1
  have h2:=congrArg yG z
  rw[yg] at h2
  simp at h2
  rw[h2] at h1
  simp at h1
 obtain⟨q1,e2⟩:=ca (n59 h.1) (n59 h'.1) e1
 obtain⟨q2,e3⟩:=ca (bC h.2.1 (.inl rfl)) (bC h'.2.1 (.inl rfl)) e2
 obtain⟨q3,e4⟩:=ca (bC h.2.2.1 (.inr (.inl rfl))) (bC h'.2.2.1 (.inr (.inl rfl))) e3
 obtain⟨q4,e5⟩:=ca (bC h.2.2.2.1 (.inl rfl)) (bC h'.2.2.2.1 (.inl rfl)) e4
 obtain⟨q5,e6⟩:=ca (bC h.2.2.2.2 (.inr (.inr (.inr rfl)))) (bC h'.2.2.2.2 (.inr (.inr (.inr rfl)))) e5
 rw[nj (nh (ne h.1) (ne h'.1) (sg h.1) (sg h'.1) q1),cX h.2.1 h'.2.1 q2,cX h.2.2.1 h'.2.2.1 q3,cX h.2.2.2.1 h'.2.2.2.1 q4,cX h.2.2.2.2 h'.2.2.2.2 q5]
 exact⟨rfl,e6⟩
def Pat.head:Pat->Nat
 | .mot ..=>91| .over ..=>40| .sh ..=>115| .mir ..=>109| .tur ..=>116| .hue ..=>104
theorem Pat.tl_head(p:Pat):∃ l,p.tl=p.head::l:=by cases p<;>exact⟨_,rfl⟩
theorem cI{p q:Pat}{x y:List Nat}(e:p.tl++x=q.tl++y):p.head=q.head:=by
 obtain⟨l1,e1⟩:=p.tl_head
 obtain⟨l2,e2⟩:=q.tl_head
 rw[e1,e2] at e
 have e':p.head::(l1++x)=q.head::(l2++y):=e
 injection e'
theorem nn{f g:Int}(h:1<=f/\f<=6)(h':1<=g/\g<=6)(e:(48+f).toNat=(48+g).toNat):f=g:=by omega
theorem vO{p q:Pat}{x y:List Nat}(hp:p.Syn)(hq:q.Syn)(e:p.tl++x=q.tl++y):p=q/\x=y:=by
 have hh:=cI e
 induction p generalizing q x y with
 |mot=>
  cases q with
  |mot=>exact vN hp hq e
  |_=>simp[Pat.head] at hh
 |over p q i1 i2=>
  cases q with
  |over p' q'=>
   have e0:40::(p.tl++124::(q.tl++41::x))=40::(p'.tl++124::(q'.tl++41::y)):=by simpa[Pat.tl] using e
   injection e0 with _ e1
   obtain⟨rfl,e2⟩:=i1 hp.1 hq.1 e1 (cI e1)
   injection e2 with _ e3
   obtain⟨rfl,e4⟩:=i2 hp.2 hq.2 e3 (cI e3)
   injection e4 with _ e5
   exact⟨rfl,e5⟩
  |_=>simp[Pat.head] at hh
 |sh a b p i=>
  cases q with
  |sh a' b' p'=>
   have e0:115::(numL a++44::(numL b++58::(p.tl++x)))=115::(numL a'++44::(numL b'++58::(p'.tl++y))):=by simpa[Pat.tl] using e
   injection e0 with _ e1
   obtain⟨q2,e3⟩:=ca (bC hp.1 (.inl rfl)) (bC hq.1 (.inl rfl)) e1
   obtain⟨q3,e4⟩:=ca (bC hp.2.1 (.inr (.inr (.inl rfl)))) (bC hq.2.1 (.inr (.inr (.inl rfl)))) e3
   obtain⟨rfl,e5⟩:=i hp.2.2 hq.2.2 e4 (cI e4)
   rw[cX hp.1 hq.1 q2,cX hp.2.1 hq.2.1 q3]
   exact⟨rfl,e5⟩
  |_=>simp[Pat.head] at hh
 |mir p i=>
  cases q with
  |mir p'=>
   have e0:109::(p.tl++x)=109::(p'.tl++y):=e
   injection e0 with _ e1
   obtain⟨rfl,e5⟩:=i (q:=p') hp hq e1 (cI e1)
   exact⟨rfl,e5⟩
  |_=>simp[Pat.head] at hh
 |tur p i=>
  cases q with
  |tur p'=>
   have e0:116::(p.tl++x)=116::(p'.tl++y):=e
   injection e0 with _ e1
   obtain⟨rfl,e5⟩:=i (q:=p') hp hq e1 (cI e1)
   exact⟨rfl,e5⟩
  |_=>simp[Pat.head] at hh
 |hue f g p i=>
  cases q with
  |hue f' g' p'=>
   have e0:104::(numL f++(numL g++(p.tl++x)))=104::(numL f'++(numL g'++(p'.tl++y))):=by simpa[Pat.tl] using e
   rw[hueL hp.1,hueL hp.2.1,hueL hq.1,hueL hq.2.1] at e0
   have e1:104::(48+f).toNat::(48+g).toNat::(p.tl++x)=104::(48+f').toNat::(48+g').toNat::(p'.tl++y):=e0
   injection e1 with _ e2
   injection e2 with e3 e4
   injection e4 with e5 e6
   obtain⟨rfl,e7⟩:=i hp.2.2 hq.2.2 e6 (cI e6)
   rw[nn hp.1 hq.1 e3,nn hp.2.1 hq.2.1 e5]
   exact⟨rfl,e7⟩
  |_=>simp[Pat.head] at hh
def vP:SiD:=λds R=>∃ (t:Str) (w h s:Int) (x:Str) (fs:List (Str × D)),ds=[.str t,.tup [.int w,.int h,.int s],.obj x fs]/\R [("text",.str t),("shifts",.tup [.int w,.int h,.int s]),("form",.obj x fs)]
def vQ:SiD:=λds R=>∃ i:Int,ds=[.int i]/\R [("place",.int i)]
def vR:SiD:=λds R=>∃ i:Int,ds=[.int i]/\R [("place",.int i)]
def gR:SpX:=λds R RX=>(∃ (t:Str) (k:Nat),ds=[.str t]/\t.length<=100000/\bP t=some k/\RX "WrongSign" [("place",.int k)])\/
 ∃ p:Pat,ds=[.str p.text]/\p.Syn/\p.depth<=5/\p.Cal/\(∀ k:Nat,p.lineAt 0=some k->RX "OneLine" [("place",.int k)])/\(p.lineAt 0=none->¬ p.Fits->RX "TooGreat" [])/\(p.lineAt 0=none->p.Fits->∀ d,ng p d->R d)
end My
end
section
namespace My
open PySem PySem.Spec PyProof.Rows L2
theorem vS{x n:Int}:x.fmod n=0↔n∣x:=⟨Int.dvd_of_fmod_eq_zero,Int.fmod_eq_zero_of_dvd⟩
theorem vT(a b c d u v i j:Int):onB a b c d (u+(i*a+j*c)) (v+(i*b+j*d))=onB a b c d u v:=by
 unfold onB
 have e1:(u+(i*a+j*c))*d - (v+(i*b+j*d))*c=(u*d - v*c)+(a*d - b*c)*i:=by grind
 have e2:a*(v+(i*b+j*d)) - b*(u+(i*a+j*c))=(a*v - b*u)+(a*d - b*c)*j:=by grind
 rw[e1,e2]
 simp only[vS]
 have h1:(a*d - b*c∣u*d - v*c+(a*d - b*c)*i)↔a*d - b*c∣u*d - v*c:=AB (AC _ _)
 have h2:(a*d - b*c∣a*v - b*u+(a*d - b*c)*j)↔a*d - b*c∣a*v - b*u:=AB (AC _ _)
 simp only[h1,h2]
def Pat.Keeps(p:Pat)(X Y:Int):Prop:=∀ x y,p.show (x+X) (y+Y)=p.show x y
theorem Pat.lat_keeps:∀ {p:Pat} {X Y:Int},p.Lat X Y->p.Keeps X Y
 | .mot L a b c d,_,_,⟨i,j,rfl,rfl⟩,x,y=>by
  have e:∀ u v:Int,onB a b c d (1*(x+(i*a+j*c))+0*(y+(i*b+j*d))+0 - u) (0*(x+(i*a+j*c))+1*(y+(i*b+j*d))+0 - v)=onB a b c d (1*x+0*y+0 - u) (0*x+1*y+0 - v):=λu v=>by
   rw[<- vT a b c d (1*x+0*y+0 - u) (0*x+1*y+0 - v) i j]
   congr 1<;>omega
  show Leaf.shows _ _ _=Leaf.shows _ _ _
  unfold Leaf.shows Leaf.hit
  simp only[gG,e]
 | .over p q,X,Y,h,x,y=>by
  simp only[Pat.show]
  rw[Pat.lat_keeps h.1 x y,Pat.lat_keeps h.2 x y]
 | .sh a b p,X,Y,h,x,y=>by
  have:=Pat.lat_keeps (p:=p) h (x - a) (y - b)
  simp only[Pat.show]
  rw[<- this];congr 1<;>omega
 | .mir p,X,Y,h,x,y=>by
  have:=Pat.lat_keeps (p:=p) h (-x) y
  simp only[Pat.show]
  rw[<- this];congr 1;omega
 | .tur p,X,Y,h,x,y=>by
  have:=Pat.lat_keeps (p:=p) h y (-x)
  simp only[Pat.show]
  rw[<- this];congr 1;omega
 | .hue f g p,X,Y,h,x,y=>by
  simp only[Pat.show]
  rw[Pat.lat_keeps (p:=p) h x y]
namespace Pat.Keeps
variable {p:Pat}{X Y U V:Int}
theorem zero:p.Keeps 0 0:=λx y=>by rw[zt,zt]
theorem add(h:p.Keeps X Y)(k:p.Keeps U V):p.Keeps (X+U) (Y+V):=λx y=>by
 rw[<- AD,<- AD,k,h]
theorem neg(h:p.Keeps X Y):p.Keeps (-X) (-Y):=λx y=>by
 have:=h (x+-X) (y+-Y)
 rw[<- this];congr 1<;>omega
theorem sub(h:p.Keeps X Y)(k:p.Keeps U V):p.Keeps (X - U) (Y - V):=by
 have:=h.add k.neg
 rwa [<- AE,<- AE] at this
theorem nat(h:p.Keeps X Y):∀ n:Nat,p.Keeps ((n:Int)*X) ((n:Int)*Y)
 |0=>by simpa using zero
 |n+1=>by
  have:=(nat h n).add h
  have e:∀ z:Int,((n+1:Nat):Int)*z=(n:Int)*z+z:=λz=>by rw[Int.natCast_add,Int.add_mul];simp
  rw[e,e];exact this
theorem mul(h:p.Keeps X Y)(n:Int):p.Keeps (n*X) (n*Y):=by
 rcases Int.le_total 0 n with q|q
 ·have:=h.nat n.toNat
  rwa [AF q] at this
 ·have:=(h.nat (-n).toNat).neg
  rw[AF (by omega)] at this
  simpa[ze] using this
end Pat.Keeps
theorem InF.keeps{p:Pat}{w h s x y:Int}(a:p.Keeps w 0)(b:p.Keeps s h)(q:InF w h s x y):p.Keeps x y:=by
 obtain⟨i,j,rfl,rfl⟩:=q
 have:=(a.mul i).add (b.mul j)
 rwa [AG,Int.zero_add] at this
theorem InF.one(w h s:Int):InF w h s w 0:=⟨1,0,by omega,by omega⟩
theorem InF.two(w h s:Int):InF w h s s h:=⟨0,1,by omega,by omega⟩
theorem Pat.Fam.keeps{p:Pat}{w h s x y:Int}(f:p.Fam w h s)(q:InF w h s x y):p.Keeps x y:=Pat.lat_keeps ((f.lat x y).mp q)
structure Pat.Least(p:Pat)(w h s:Int):Prop where
 f:Fam0 w h s
 lat:∀ x y,InF w h s x y↔p.Keeps x y
end My
end
section
namespace My
open PySem PySem.Spec PyProof.Rows L2
end My
end
section
namespace My
open PySem PySem.Spec PyProof.Rows L2
structure Pat.LeastW(p:Pat)(w m:Int):Prop where
 lo:1<=m
 hi:m<=w
 md:w % m=0
 k:p.Keeps m 0
 l:∀ d,1<=d->d<=w->w % d=0->p.Keeps d 0->m<=d
theorem Pat.LeastW.eq{p:Pat}{w h s w' h' s' m:Int}(F:p.Fam w h s)(L:p.Least w' h' s')(a:p.LeastW w m):m=w':=by
 have w0:=L.f.w0
 have k:p.Keeps w' 0:=(L.lat _ _).mp (InF.one _ _ _)
 obtain⟨i,j,e1,e2⟩:=(L.lat m 0).mpr a.k
 have h0:=L.f.h0
 have j0:j=0:=by
  rcases zu j 0 with q|q|q
  ·have:=zV q h0;omega
  ·exact q
  ·have:=yd q h0;omega
 subst j0
 rw[AH,zt] at e1
 have lo:=a.lo
 have i0:0<i:=by
  rcases zu i 0 with q|q|q
  ·have:=zV q w0;omega
  ·subst q;omega
  ·exact q
 have h1:w'<=m:=by
  rw[e1]
  have:=yp (show 1<=i by omega) (show 0<=w' by omega)
  omega
 obtain⟨i2,j2,f1,f2⟩:=(L.lat w 0).mpr (F.keeps (InF.one w h s))
 have j20:j2=0:=by
  rcases zu j2 0 with q|q|q
  ·have:=zV q h0;omega
  ·exact q
  ·have:=yd q h0;omega
 subst j20
 have h2:=a.l w' (by omega) (by have:=a.hi;omega) (by rw[f1,AH,zt];exact zR _ _) k
 omega
end My
end
section
namespace My
open PySem PySem.Spec PyProof.Rows L2
theorem vU{j h:Int}(h0:0<h)(e:h=j*h):j=1:=by
 have:(j - 1)*h=0:=by rw[Int.sub_mul,<- e];omega
 rcases zS.mp this with q|q<;>omega
theorem small_mul{i w:Int}(w0:0<w)(a: -w<i*w)(b:i*w<w):i=0:=by
 rcases zu i 0 with q|q|q
 ·have:=yp (show i<=-1 by omega) (show 0<=w by omega);omega
 ·exact q
 ·have:=yp (show 1<=i by omega) (show 0<=w by omega);omega
theorem Pat.Least.slant{p:Pat}{w h s t:Int}(L:p.Least w h s)(a:0<=t)(b:t<w)(k:p.Keeps t h):t=s:=by
 obtain⟨i,j,e1,e2⟩:=(L.lat t h).mpr k
 have j1:=vU L.f.h0 e2
 subst j1
 have s0:=L.f.s0
 have sw:=L.f.sw
 have:=small_mul (i:=i) L.f.w0 (by omega) (by omega)
 subst this
 omega
theorem Pat.Least.row{p:Pat}{w h s x y:Int}(L:p.Least w h s)(k:p.Keeps x y):p.Keeps (x % w) y:=by
 have e:=zb x w
 have:=k.sub (((L.lat _ _).mp (InF.one w h s)).mul (x / w))
 rw[AG,Int.sub_zero] at this
 rw[e,zO];exact this
end My
end
section
namespace My
open PySem PySem.Spec PyProof.Rows L2
theorem Pat.Least.le{p:Pat}{w h s w' h' s':Int}(F:p.Fam w h s)(L:p.Least w' h' s'):w'*h'<=w*h:=(InF.le L.f.w0 L.f.h0 F.f.w0 F.f.h0 (λx y q=>(L.lat x y).mpr (F.keeps q))).1
theorem Pat.Least.first{p:Pat}{w h s x y:Int}(L:p.Least w h s)(k:p.Keeps x y)(y0:0<=y)(yh:y<h)(x0:0<=x)(xw:x<w):x=0/\y=0:=by
 obtain⟨i,j,e1,e2⟩:=(L.lat x y).mpr k
 have h0:=L.f.h0
 have j0:=small_mul (i:=j) h0 (by omega) (by omega)
 subst j0
 have i0:=small_mul (i:=i) L.f.w0 (by omega) (by omega)
 subst i0
 omega
end My
end
section
namespace My
open PySem PySem.Spec PyProof.Rows L2
theorem nq{α:Type}(f g:Nat->α){n i:Nat}(h:∀ v,v<n->v≠i->g v=f v):((xR n).map f).set i (g i)=(xR n).map g:=by
 apply zK
 intro k
 rw[yS]
 by_cases hk:i=k
 ·subst hk
  simp only[if_true,yg,AI]
  by_cases hi:i<n
  ·simp[hi]
  ·simp[hi]
 ·rw[if_neg hk]
  by_cases hi:k<n
  ·simp[hi,h k hi (Ne.symm hk)]
  ·simp[hi]
end My
end
section
namespace My
open PySem PySem.Spec PyProof.Rows L2
theorem nr{p:Pat}(X Y:Int):(Pat.mir p).Keeps X Y↔p.Keeps (-X) Y:=by
 constructor<;>intro h x y
 ·have:=h (-x) y
  simp only[Pat.show,zv,AJ] at this
  exact this
 ·have:=h (-x) y
  simp only[Pat.show,zv]
  exact this
theorem nt{p:Pat}(X Y:Int):(Pat.tur p).Keeps X Y↔p.Keeps Y (-X):=by
 constructor<;>intro h x y
 ·have:=h (-y) x
  simp only[Pat.show,zv,AJ] at this
  exact this
 ·have:=h y (-x)
  simp only[Pat.show,zv]
  exact this
theorem nu{p:Pat}(a b X Y:Int):(Pat.sh a b p).Keeps X Y↔p.Keeps X Y:=by
 constructor<;>intro h x y
 ·have:=h (x+a) (y+b)
  simp only[Pat.show] at this
  rw[show x+a+X - a=x+X by omega,show y+b+Y - b=y+Y by omega,show x+a - a=x by omega,show y+b - b=y by omega] at this
  exact this
 ·have:=h (x - a) (y - b)
  simp only[Pat.show]
  rw[show x+X - a=x - a+X by omega,show y+Y - b=y - b+Y by omega]
  exact this
theorem Pat.Least.mir{p:Pat}{w h s:Int}(k:p.Least w h s):(Pat.mir p).Least w h (-s % w):=by
 refine⟨⟨k.f.w0,k.f.h0,mw k.f.w0,mx k.f.w0⟩,λx y=>?_⟩
 rw[nr,<- k.lat]
 have e:=zb (-s) w
 generalize -s % w=r at e
 generalize -s / w=t at e
 constructor
 ·rintro⟨i,j,rfl,rfl⟩
  exact⟨j*t - i,j,by rw[e];grind,rfl⟩
 ·rintro⟨i,j,ex,rfl⟩
  exact⟨j*t - i,j,by rw[e];grind,rfl⟩
theorem Pat.Least.tur{p:Pat}{w h s w' h' s':Int}(k:p.Least w h s)(f:FamOf 0 w (-h) s w' h' s'):(Pat.tur p).Least w' h' s':=by
 refine⟨⟨f.1,f.2.1,f.2.2.1,f.2.2.2.1⟩,λx y=>?_⟩
 rw[nt,<- k.lat,f.lat]
 constructor
 ·rintro⟨i,j,rfl,rfl⟩
  exact⟨i,j,by grind,by grind⟩
 ·rintro⟨i,j,ex,ey⟩
  exact⟨i,j,by grind,by grind⟩
theorem Pat.Least.sh{p:Pat}{w h s:Int}(a b:Int)(k:p.Least w h s):(Pat.sh a b p).Least w h s:=⟨k.f,λx y=>by rw[nu,k.lat]⟩
structure Mv(p q:Pat)(b0 b1 b2 b3:Int):Prop where
 keeps:∀ X Y,q.Keeps X Y↔p.Keeps (b0*X+b1*Y) (b2*X+b3*Y)
 leaf:∀ l ls,p.leaves=l::ls->∃ l' ls',q.leaves=l'::ls'/\l'.w0=l.w0*b0+l.w1*b2/\l'.w1=l.w0*b1+l.w1*b3/\l'.w2=l.w2*b0+l.w3*b2/\l'.w3=l.w2*b1+l.w3*b3
 area:∀ w h s,p.Least w h s->∃ w' h' s',q.Least w' h' s'/\w'*h'=w*h
theorem Mv.mir{p q:Pat}{b0 b1 b2 b3:Int}(m:Mv p q b0 b1 b2 b3):Mv p (.mir q) (-b0) b1 (-b2) b3:=by
 refine⟨λX Y=>?_,λl ls e=>?_,λw h s L=>?_⟩
 ·rw[nr,m.keeps,yI,yI,ze,ze]
 ·obtain⟨l',ls',e',h0,h1,h2,h3⟩:=m.leaf l ls e
  refine⟨_,_,by rw[Pat.leaves,e',yc],?_,?_,?_,?_⟩<;>simp only[Leaf.by,h0,h1,h2,h3]<;>grind
 ·obtain⟨w',h',s',L',e⟩:=m.area w h s L
  exact⟨_,_,_,L'.mir,e⟩
theorem Mv.tur{p q:Pat}{b0 b1 b2 b3:Int}(m:Mv p q b0 b1 b2 b3):Mv p (.tur q) (-b1) b0 (-b3) b2:=by
 refine⟨λX Y=>?_,λl ls e=>?_,λw h s L=>?_⟩
 ·rw[nt,m.keeps,yI,yI,ze,ze,AK (b0*Y),AK (b2*Y)]
 ·obtain⟨l',ls',e',h0,h1,h2,h3⟩:=m.leaf l ls e
  refine⟨_,_,by rw[Pat.leaves,e',yc],?_,?_,?_,?_⟩<;>simp only[Leaf.by,h0,h1,h2,h3]<;>grind
 ·obtain⟨w',h',s',L',e⟩:=m.area w h s L
  obtain⟨w2,h2,s2,f,e2⟩:=gI (s:=s') L'.f.w0 L'.f.h0
  exact⟨_,_,_,L'.tur f,by omega⟩
theorem Mv.sh{p q:Pat}{b0 b1 b2 b3:Int}(a b:Int)(m:Mv p q b0 b1 b2 b3):Mv p (.sh a b q) b0 b1 b2 b3:=by
 refine⟨λX Y=>?_,λl ls e=>?_,λw h s L=>?_⟩
 ·rw[nu,m.keeps]
 ·obtain⟨l',ls',e',h0,h1,h2,h3⟩:=m.leaf l ls e
  refine⟨_,_,by rw[Pat.leaves,e',yc],?_,?_,?_,?_⟩<;>simp only[Leaf.by,h0,h1,h2,h3]<;>grind
 ·obtain⟨w',h',s',L',e⟩:=m.area w h s L
  exact⟨_,_,_,L'.sh a b,e⟩
end My
end
section
namespace My
local macro_rules | `(tactic| k_memK) => `(tactic| exact⟨rfl, rfl, rfl, by decide +kernel, rfl, by decide +kernel, by decide +kernel⟩)
local macro_rules | `(tactic| k_places) => `(tactic| try simp only[List.set_cons_succ, List.set_cons_zero, My.cw])
open PySem PySem.Spec PyProof.Rows L2
def top(i:Nat):Stmt:=PySem.Challenge.pw_motiffield_k09_numbers.main.body.getD i (.Pass ⟨0,0,0,0⟩)
abbrev gS:Stmt:=top 39
abbrev gT:List Str:=["_law_script","_law_k"]
theorem vV:FnScope ["_law_script","_law_k"] gT (ad gS):=by k_memK
abbrev gU:Stmt:=top 41
abbrev gW:List Str:=["_law_cell","_law_kind"]
theorem sc__law_word:FnScope ["_law_cell","_law_kind","_law_word_here"] gW (ad gU):=by k_memK
abbrev gX:Stmt:=top 42
abbrev gY:List Str:=["_law_word_here","_law_end"]
theorem sc__law_wrong_in:FnScope ["_law_word_here","_law_end","_law_k","_law_fits","_law_number"] gY (ad gX):=by k_memK
abbrev gZ:Stmt:=aP (top 2) 0
abbrev hU:List Str:=["self","place"]
theorem vW:FnScope ["self","place"] hU (ad gZ):=by k_memK
abbrev hV:Stmt:=aP (top 27) 1
abbrev hZ:List Str:=["self","allowed"]
theorem vX:FnScope ["self","allowed"] hZ (ad hV):=by k_memK
abbrev ia:Stmt:=aP (top 27) 2
abbrev ib:List Str:=["self","allowed"]
theorem sc_Reading_take:FnScope ["self","allowed","sign"] ib (ad ia):=by k_memK
abbrev ic:Stmt:=top 30
abbrev ie:List Str:=["reading","least","most"]
theorem sc_line_from:FnScope ["reading","least","most","line","column"] ie (ad ic):=by k_memK
abbrev ig:Stmt:=top 31
abbrev ii:List Str:=["reading"]
theorem sc_lines_from:FnScope ["reading","lines","width"] ii (ad ig):=by k_memK
abbrev ij:Stmt:=top 28
abbrev ik:List Str:=["reading"]
theorem sc_number_from:FnScope ["reading","written"] ik (ad ij):=by k_memK
abbrev il:Stmt:=top 29
abbrev im:List Str:=["reading"]
theorem sc_shift_from:FnScope ["reading","x"] im (ad il):=by k_memK
abbrev io:Stmt:=top 6
abbrev ip:List Str:=["first","second"]
theorem sc_levelled:FnScope ["first","second","times","rest"] ip (ad io):=by k_memK
abbrev iq:Stmt:=top 8
abbrev ir:List Str:=["first","second"]
theorem sc_spread:FnScope ["first","second","pair","width"] ir (ad iq):=by k_memK
abbrev iu:Stmt:=top 9
abbrev iw:List Str:=["family","x","y"]
theorem sc_home:FnScope ["family","x","y","width","height","slant"] iw (ad iu):=by k_memK
abbrev iy:Stmt:=top 15
abbrev iz:List Str:=["lines","family"]
theorem sc_hues_by_home:FnScope ["lines","family","hues","row","line","column","sign"] iz (ad iy):=by k_memK
abbrev iA:Stmt:=aP (top 16) 0
abbrev iB:List Str:=["self","place","lines","first","second"]
theorem vY:FnScope ["self","place","lines","first","second"] iB (ad iA):=by k_memK
abbrev iC:Stmt:=top 32
abbrev iD:List Str:=["reading"]
theorem sc_motif_from:FnScope ["reading","place","lines","first","second"] iD (ad iC):=by k_memK
abbrev iE:Stmt:=aP (top 19) 0
abbrev iF:List Str:=["self","form"]
theorem vZ:FnScope ["self","form"] iF (ad iE):=by k_memK
abbrev iG:Stmt:=aP (top 20) 0
abbrev iH:List Str:=["self","form"]
theorem wa:FnScope ["self","form"] iH (ad iG):=by k_memK
abbrev iI:Stmt:=aP (top 17) 0
abbrev iJ:List Str:=["self","above","below"]
theorem wb:FnScope ["self","above","below"] iJ (ad iI):=by k_memK
abbrev iK:Stmt:=aP (top 18) 0
abbrev iL:List Str:=["self","form","x","y"]
theorem wc:FnScope ["self","form","x","y"] iL (ad iK):=by k_memK
abbrev iM:Stmt:=aP (top 21) 0
abbrev iN:List Str:=["self","form","old","new"]
theorem we:FnScope ["self","form","old","new"] iN (ad iM):=by k_memK
abbrev eQ:Stmt:=top 33
abbrev dB:List Str:=["reading","around"]
theorem sc_over_from:FnScope ["reading","around","above","below"] dB (ad eQ):=by k_memK
abbrev eU:Stmt:=top 34
abbrev dD:List Str:=["reading","around"]
theorem sc_shifted_from:FnScope ["reading","around","shift"] dD (ad eU):=by k_memK
abbrev eV:Stmt:=top 35
abbrev dE:List Str:=["reading","around"]
theorem sc_rehue_from:FnScope ["reading","around","old","new"] dE (ad eV):=by k_memK
abbrev eX:Stmt:=top 36
abbrev bS:List Str:=["reading","around"]
theorem sc_form_from:FnScope ["reading","around","sign"] bS (ad eX):=by k_memK
abbrev iO:Stmt:=aP (top 27) 0
abbrev iP:List Str:=["self","text"]
theorem wg:FnScope ["self","text"] iP (ad iO):=by k_memK
abbrev iQ:Stmt:=aP (top 26) 0
abbrev iR:List Str:=["self","text","shifts","form"]
theorem wj:FnScope ["self","text","shifts","form"] iR (ad iQ):=by k_memK
abbrev iS:Stmt:=aP (top 3) 0
abbrev iT:List Str:=["self","place"]
theorem wm:FnScope ["self","place"] iT (ad iS):=by k_memK
abbrev iU:Stmt:=top 7
abbrev iV:List Str:=["one","two"]
theorem sc_measure:FnScope ["one","two","last"] iV (ad iU):=by k_memK
abbrev iW:Stmt:=top 10
abbrev iX:List Str:=["one","two"]
theorem sc_met:FnScope ["one","two","common","width","rise","start","gap","climbs","steps"] iX (ad iW):=by k_memK
abbrev iY:Stmt:=top 11
abbrev iZ:List Str:=["family"]
theorem wn:FnScope ["family"] iZ (ad iY):=by k_memK
abbrev ja:Stmt:=top 12
abbrev jb:List Str:=["family"]
theorem wo:FnScope ["family"] jb (ad ja):=by k_memK
abbrev eY:Stmt:=aP (top 16) 1
abbrev bI:List Str:=["self"]
theorem wp:FnScope ["self"] bI (ad eY):=by k_memK
abbrev eZ:Stmt:=aP (top 17) 1
abbrev fb:List Str:=["self"]
theorem sc_Over_family:FnScope ["self","first"] fb (ad eZ):=by k_memK
abbrev fg:Stmt:=aP (top 18) 1
abbrev fj:List Str:=["self"]
theorem wq:FnScope ["self"] fj (ad fg):=by k_memK
abbrev fk:Stmt:=aP (top 19) 1
abbrev fm:List Str:=["self"]
theorem wr:FnScope ["self"] fm (ad fk):=by k_memK
abbrev fo:Stmt:=aP (top 20) 1
abbrev fq:List Str:=["self"]
theorem wt:FnScope ["self"] fq (ad fo):=by k_memK
abbrev ft:Stmt:=aP (top 21) 1
abbrev fu:List Str:=["self"]
theorem wu:FnScope ["self"] fu (ad ft):=by k_memK
abbrev jc:Stmt:=top 37
abbrev jd:List Str:=["text"]
theorem sc_read:FnScope ["text","reading","form","family"] jd (ad jc):=by k_memK
abbrev je:Stmt:=top 40
abbrev jg:List Str:=["_law_found"]
theorem wv:FnScope ["_law_found"] jg (ad je):=by k_memK
abbrev dF:Stmt:=top 43
abbrev jh:List Str:=["_law_script"]
theorem sc_law:FnScope ["_law_script","_law_words","_law_spot","_law_ends","_law_lines","_law_text","_law_place","_law_k","_law_wrong","_law_told","_law_good","e"] jh (ad dF):=by k_memK
theorem ww(y p:Str):Txt.startswith y p=true↔cs p<+:cs y:=by
 unfold Txt.startswith
 rw[ym,decide_eq_true_eq,StrLaws.subAt_eq,AL,beq_iff_eq]
 have l1:cs p=p.cps.toList:=rfl
 have l2:=bc p
 have l3:=bc y
 rw[AM,l2]
 constructor
 ·rintro⟨_,h⟩;exact h.symm
 ·intro h
  refine⟨?_,h.symm⟩
  have:=congrArg yG h
  rw[yT,l2,l3] at this
  omega
theorem wx(y:Str){k:Nat}(h:k<=y.length):cs (Txt.slice y none (some (k:Int)))=(cs y).take k:=by
 rw[slice_cps,HT.sIx_none,HT.sIx_nat,Nat.sub_zero,AL,AN h]
def Fit(x:Nat)(l:List Nat):Prop:=∃ n:Int,B12 n/\l<+:numL n++[x]
theorem cb{x:Nat}{m v:List Nat}(h:isNumL m)(p:v<+:m++[x]):Fit x v:=by
 obtain⟨a,ha,rfl⟩:=ci h
 exact⟨a,ha,p⟩
def PreN(v:List Nat):Prop:=v=[]\/(∃ c,(48<=c/\c<=57)/\v=[c])\/(∃ c,(48<=c/\c<=50)/\v=[49,c])\/v=[45]\/(∃ c,(49<=c/\c<=57)/\v=[45,c])\/∃ c,(48<=c/\c<=50)/\v=[45,49,c]
theorem wy{x:Nat}{v:List Nat}(h:Fit x v)(no:∀ y∈v,y≠x):PreN v:=by
 obtain⟨n,hn,⟨t,e⟩⟩:=h
 have hp:v<+:numL n:=by
  rcases AO.mp e with⟨a,h1,h2⟩|⟨a,h1,h2⟩
  ·exact⟨a,h1.symm⟩
  ·cases a with
   |nil=>rw[yf] at h1;exact⟨[],by rw[yf,h1]⟩
   |cons y a=>
    have:y=x:=by injection h2 with h3 _;exact h3.symm
    exact absurd this (no y (by rw[h1];simp))
 have hs:=numL_is hn
 generalize numL n=m at hp hs
 have e:=AM.mp hp
 generalize v.length=k at e
 rcases hs with⟨c,hc,rfl⟩|⟨c,hc,rfl⟩|⟨c,hc,rfl⟩|⟨c,hc,rfl⟩<;>rcases k with _|_|_|k<;>simp at e
 all_goals first
  |exact .inl e
  |exact .inr (.inl ⟨_,by omega,e⟩)
  |exact .inr (.inr (.inl ⟨_,by omega,e⟩))
  |exact .inr (.inr (.inr (.inl e)))
  |exact .inr (.inr (.inr (.inr (.inl ⟨_,by omega,e⟩))))
  |exact .inr (.inr (.inr (.inr (.inr ⟨_,by omega,e⟩))))
theorem wz{x:Nat}(hx:endS x){v rest:List Nat}{c:Nat}(hv:PreN v)(nf:¬ Fit x (v++[c]))(r:List Wt)(j:Nat):walk (.num:: .sign x::r) (v++c::rest) j=some (j+v.length):=by
 have stop:∀ {st:List Wt} {k:Nat},step st c=none->walk st (c::rest) k=some k:=λ{st k} h=>by rw[walk,h]
 have sg:∀ {k:Nat},c≠x->walk (.sign x::r) (c::rest) k=some k:=λ{k} h=>stop (by simp[step,ao,aq,h])
 have mo:∀ {k:Nat},c≠x->¬ (48<=c/\c<=50)->walk (.more:: .sign x::r) (c::rest) k=some k:=λ{k} h h2=>stop (by simp[step,ao,aq,h,h2])
 rcases hv with rfl|⟨d,hd,rfl⟩|⟨d,hd,rfl⟩|rfl|⟨d,hd,rfl⟩|⟨d,hd,rfl⟩
 ·have n1:c≠45:=λz=>nf (cb (m:=[45,49]) (.inr (.inr (.inl ⟨49,by decide,rfl⟩))) (by rw[z];exact⟨[49,x],rfl⟩))
  have n2:¬ (48<=c/\c<=57):=λz=>nf (cb (m:=[c]) (.inl ⟨c,z,rfl⟩) ⟨[x],rfl⟩)
  exact stop (by simp[step,ao,aq,n1,n2,show¬ c=49 by omega])
 ·have n1:c≠x:=λz=>nf (cb (m:=[d]) (.inl ⟨d,hd,rfl⟩) (by rw[z];exact⟨[],rfl⟩))
  by_cases e:d=49
  ·subst e
   have n2:¬ (48<=c/\c<=50):=λz=>nf (cb (m:=[49,c]) (.inr (.inl ⟨c,z,rfl⟩)) ⟨[x],rfl⟩)
   show walk _ (49::c::rest) j=_
   rw[am (st':= .more:: .sign x::r) (by simp[step,ao,aq]),mo n1 n2];rfl
  ·show walk _ (d::c::rest) j=_
   rw[am (st':= .sign x::r) (by simp[step,ao,aq,e,hd,show¬ d=45 by omega]),sg n1];rfl
 ·have n1:c≠x:=λz=>nf (cb (m:=[49,d]) (.inr (.inl ⟨d,hd,rfl⟩)) (by rw[z];exact⟨[],rfl⟩))
  show walk _ (49::d::c::rest) j=_
  rw[am (st':= .more:: .sign x::r) (by simp[step,ao,aq]),am (st':= .sign x::r) (by simp[step,ao,aq,hd]),sg n1];rfl
 ·have n1:¬ (49<=c/\c<=57):=λz=>nf (cb (m:=[45,c]) (.inr (.inr (.inl ⟨c,z,rfl⟩))) ⟨[x],rfl⟩)
  show walk _ (45::c::rest) j=_
  rw[am (st':= .fig:: .sign x::r) (by simp[step,ao,aq]),stop (by simp[step,ao,aq,show¬ c=49 by omega,show¬ (50<=c/\c<=57) by omega])];rfl
 ·have n1:c≠x:=λz=>nf (cb (m:=[45,d]) (.inr (.inr (.inl ⟨d,hd,rfl⟩))) (by rw[z];exact⟨[],rfl⟩))
  show walk _ (45::d::c::rest) j=_
  rw[am (st':= .fig:: .sign x::r) (by simp[step,ao,aq])]
  by_cases e:d=49
  ·subst e
   have n2:¬ (48<=c/\c<=50):=λz=>nf (cb (m:=[45,49,c]) (.inr (.inr (.inr ⟨c,z,rfl⟩))) ⟨[x],rfl⟩)
   rw[am (st':= .more:: .sign x::r) (by simp[step,ao,aq]),mo n1 n2];rfl
  ·rw[am (st':= .sign x::r) (by simp[step,ao,aq,e,show 50<=d/\d<=57 by omega]),sg n1];rfl
 ·have n1:c≠x:=λz=>nf (cb (m:=[45,49,d]) (.inr (.inr (.inr ⟨d,hd,rfl⟩))) (by rw[z];exact⟨[],rfl⟩))
  show walk _ (45::49::d::c::rest) j=_
  rw[am (st':= .fig:: .sign x::r) (by simp[step,ao,aq]),am (st':= .more:: .sign x::r) (by simp[step,ao,aq]),am (st':= .sign x::r) (by simp[step,ao,aq,hd]),sg n1];rfl
structure WrongIn(x:Nat)(u:List Nat)(k:Nat):Prop where
 le:k<=u.length
 nf:¬ Fit x ((u++[x]).take (k+1))
 ff:∀ j,j<k->Fit x ((u++[x]).take (j+1))
theorem WrongIn.walk{x:Nat}{u:List Nat}{k:Nat}(w:WrongIn x u k)(hx:endS x)(no:∀ y∈u,y≠x)(r:List Wt)(t:List Nat)(j:Nat):My.walk (.num:: .sign x::r) (u++x::t) j=some (j+k):=by
 have le:=w.le
 have hlt:k<(u++x::t).length:=by rw[xT,xN];omega
 have e1:u++x::t=(u++x::t).take k++(u++x::t)[k]::(u++x::t).drop (k+1):=by rw[<- AA hlt,List.take_append_drop]
 have e2:(u++x::t).take k=u.take k:=zW le
 have e3:(u++[x]).take (k+1)=u.take k++[(u++x::t)[k]]:=by
  have:(u++[x]).take (k+1)=(u++x::t).take (k+1):=by
   rw[show u++x::t=(u++[x])++t by simp]
   exact(zW (by rw[xT];exact Az le)).symm
  rw[this,An,e2,yk hlt]
  rfl
 have pv:PreN (u.take k):=by
  cases k with
  |zero=>exact .inl rfl
  |succ k=>
   have f:=w.ff k (zA k)
   rw[zW (by omega)] at f
   exact wy f λy hy=>no y (List.mem_of_mem_take hy)
 have nf:=w.nf
 rw[e3] at nf
 rw[e1,e2,wz hx pv nf,yT,AN le]
theorem wA{x:Nat}{u:List Nat}(no:∀ y∈u,y≠x)(hx:endS x)(h:∀ k,k<=u.length->Fit x ((u++[x]).take (k+1))):isNumL u:=by
 have f:=h u.length (xM _)
 rw[Ao (by simp)] at f
 obtain⟨n,hn,⟨t,e⟩⟩:=f
 have nx:∀ y∈numL n,y≠x:=by
  have hs:=numL_is hn
  unfold endS at hx
  intro y hy
  unfold isNumL at hs
  rcases hs with⟨c,h1,h2⟩|⟨c,h1,h2⟩|⟨c,h1,h2⟩|⟨c,h1,h2⟩<;>rw[h2] at hy<;>simp at hy<;>omega
 have:u=numL n:=by
  rw[ye] at e
  rcases AO.mp e with⟨a,h1,h2⟩|⟨a,h1,h2⟩
  ·cases a with
   |nil=>rw[h1,yf]
   |cons y a=>
    have:y=x:=by injection h2 with h3 _;exact h3.symm
    exact absurd this (nx y (by rw[h1];simp))
  ·cases a with
   |nil=>rw[h1,yf]
   |cons y a=>
    have:y=x:=by injection h2 with h3 _;exact h3.symm
    exact absurd this (no y (by rw[h1];simp))
 rw[this]
 exact numL_is hn
structure WordN(n:Nat)(u:Str):Prop where
 le:u.length<=n
 no:∀ y∈cs u,y≠44/\y≠58/\y≠59/\y≠93
def wchk(n:Nat)(u:Str):Bool:=decide (u.length<=n) && (cs u).all λy=>y !=44 && y !=58 && y !=59 && y !=93
theorem WordN.of{n:Nat}{u:Str}(h:wchk n u=true):WordN n u:=by
 unfold wchk at h
 rw[ym,decide_eq_true_eq,yz] at h
 refine⟨h.1,λy hy=>?_⟩
 have:=h.2 y hy
 simp at this
 omega
theorem WordN.app{m n:Nat}{u v:Str}(a:WordN m u)(b:WordN n v):WordN (m+n) (u++v):=by
 refine⟨by have:=a.le;have:=b.le;rw[aR];omega,λy hy=>?_⟩
 rw[aQ,yu] at hy
 exact hy.elim (a.no y) (b.no y)
theorem WordN.mono{m n:Nat}{u:Str}(a:WordN m u)(h:m<=n):WordN n u:=⟨xU a.le h,a.no⟩
theorem nv{a:Int}(h: -150<=a/\a<=150):WordN 4 (toString a:String):=by
 have key:∀ k:Fin 301,wchk 4 (toString (((k.val:Nat):Int) - 150):String)=true:=by decide+kernel
 have:=key ⟨(a+150).toNat,by omega⟩
 rw[show(((a+150).toNat:Nat):Int) - 150=a by omega] at this
 exact .of this
theorem wB{l:List Str}{i:Int}(h:0<=i/\i<l.length):∃ s∈l,atI (l.map D.str) i=some (.str s):=by
 have e:i=((i.toNat:Nat):Int):=by omega
 have hl:i.toNat<l.length:=by omega
 generalize i.toNat=n at e hl
 subst e
 exact⟨l[n],zJ hl,de (by rw[yn,yk hl];rfl)⟩
theorem ji{l:List Str}{n:Nat}(hc:∀ s∈l,wchk n s=true){i:Int}(h:0<=i/\i<l.length):∃ s,atI (l.map D.str) i=some (.str s)/\WordN n s:=by
 obtain⟨s,h1,h2⟩:=wB h
 exact⟨s,h2,.of (hc s h1)⟩
theorem nw{x:Nat}{l:List Nat}{b:Bool}{i:Nat}{c:Bool}(h:b=true↔∃ n:Int,(-12<=n/\n< -12+i)/\l<+:numL n++[x])(hc:c=true↔l<+:numL (-12+i)++[x]):(b||c)=true↔∃ n:Int,(-12<=n/\n< -12+(i+1:Nat))/\l<+:numL n++[x]:=by
 rw[Bool.or_eq_true,h,hc]
 constructor
 ·rintro(⟨n,h1,h2⟩|h2)
  ·exact⟨n,by omega,h2⟩
  ·exact⟨_,by omega,h2⟩
 ·rintro⟨n,h1,h2⟩
  by_cases e:n=-12+(i:Int)
  ·exact .inr (e ▸ h2)
  ·exact .inl ⟨n,by omega,h2⟩
def endN(i:Nat):Nat:=if i=1 then 58 else if i=3 then 59 else if i=5 then 93 else 44
theorem dG(i:Nat):endS (endN i):=by
 unfold endN endS
 split
 ·omega
 ·split
  ·omega
  ·split<;>omega
def segN(wd:Nat->Str)(ln:List Nat)(i:Nat):List Nat:=(if i=2 then 91::(ln++[59]) else[])++(cs (wd i)++[endN i])
def preT(wd:Nat->Str)(ln:List Nat):Nat->List Nat
 |0=>[115]
 |k+1=>preT wd ln k++segN wd ln k
def bt(wd:Nat->Str)(ln:List Nat)(s:Nat):Nat:=(preT wd ln s).length+if s=2 then ln.length+2 else 0
theorem pre6(wd:Nat->Str)(ln:List Nat):preT wd ln 6=115::(cs (wd 0)++44::(cs (wd 1)++58::91::(ln++59::(cs (wd 2)++44::(cs (wd 3)++59::(cs (wd 4)++44::(cs (wd 5)++93::[]))))))):=by
 simp[preT,segN,endN]
theorem wC(t:List Nat):walk [.pat 0] (115::t) 0=walk (.num:: .sign 44:: .num:: .sign 58::[.pat 1]) t 1:=am (by rw[aU];simp[aT])
theorem fv{L:List Str}(hL:Rows L)(t:List Nat)(j:Nat):walk [.pat 1] (91::(rowsL (L.map cs)++59::t)) j=walk (.num:: .sign 44:: .num:: .sign 59:: .num:: .sign 44:: .num:: .sign 93::[]) t (j+1+(rowsL (L.map cs)).length+1):=by
 obtain⟨h1,w,hw,hs⟩:=hL
 have hs':∀ x∈L.map cs,x.length=w/\∀ c∈x,aG c:=λx hx=>by
  obtain⟨l,q1,q2⟩:=yH.mp hx
  subst q2
  exact⟨by rw[bc];exact(hs l q1).1,(hs l q1).2⟩
 have hne:L.map cs≠[]:=λz=>by have:=congrArg yG z;simp at this;subst this;simp at h1
 rw[am (st':=motW []) (by rw[aU];simp[aT])]
 unfold motW
 rw[gJ hw (L.map cs) 0 0 _ _ hne hs' (by rw[yg];omega) (λz=>absurd z (by omega))]
theorem wD{wd:Nat->Str}{L:List Str}(hL:Rows L){s k:Nat}(hs:s<6)(hn:∀ i,i<6->i≠s->isNumL (cs (wd i)))(no:∀ y∈cs (wd s),y≠44/\y≠58/\y≠59/\y≠93)(w:WrongIn (endN s) (cs (wd s)) k){t:Str}(ht:cs t=preT wd (rowsL (L.map cs)) 6):bP t=some (bt wd (rowsL (L.map cs)) s+k):=by
 have nx:∀ y∈cs (wd s),y≠endN s:=λy hy=>by have:=no y hy;have:=dG s;unfold endS at this;omega
 have bad:=w.walk (dG s) nx
 unfold bP
 rw[ht,pre6,wC]
 rcases(by omega:s=0\/s=1\/s=2\/s=3\/s=4\/s=5) with rfl|rfl|rfl|rfl|rfl|rfl
 ·rw[show(44:Nat)=endN 0 from rfl,bad];rfl
 ·rw[aM (hn 0 (by decide) (by decide)) (.inl rfl),show(58:Nat)=endN 1 from rfl,bad]
  simp[bt,preT,segN];omega
 ·rw[aM (hn 0 (by decide) (by decide)) (.inl rfl),aM (hn 1 (by decide) (by decide)) (.inr (.inr (.inl rfl))),fv hL,show(44:Nat)=endN 2 from rfl,bad]
  simp[bt,preT,segN];omega
 ·rw[aM (hn 0 (by decide) (by decide)) (.inl rfl),aM (hn 1 (by decide) (by decide)) (.inr (.inr (.inl rfl))),fv hL,aM (hn 2 (by decide) (by decide)) (.inl rfl),show(59:Nat)=endN 3 from rfl,bad]
  simp[bt,preT,segN];omega
 ·rw[aM (hn 0 (by decide) (by decide)) (.inl rfl),aM (hn 1 (by decide) (by decide)) (.inr (.inr (.inl rfl))),fv hL,aM (hn 2 (by decide) (by decide)) (.inl rfl),aM (hn 3 (by decide) (by decide)) (.inr (.inl rfl)),show(44:Nat)=endN 4 from rfl,bad]
  simp[bt,preT,segN];omega
 ·rw[aM (hn 0 (by decide) (by decide)) (.inl rfl),aM (hn 1 (by decide) (by decide)) (.inr (.inr (.inl rfl))),fv hL,aM (hn 2 (by decide) (by decide)) (.inl rfl),aM (hn 3 (by decide) (by decide)) (.inr (.inl rfl)),aM (hn 4 (by decide) (by decide)) (.inl rfl),show(93:Nat)=endN 5 from rfl,bad]
  simp[bt,preT,segN];omega
theorem wE{wd:Nat->Str}{L:List Str}(hL:Rows L)(hn:∀ i,i<6->isNumL (cs (wd i))){t:Str}(ht:cs t=preT wd (rowsL (L.map cs)) 6):∃ p:Pat,t=p.text/\p.Syn/\p.depth<=5/\p.Cal/\(p.lineAt 0=none->p.Fits):=by
 obtain⟨a0,b0,e0⟩:=ci (hn 0 (by decide))
 obtain⟨a1,b1,e1⟩:=ci (hn 1 (by decide))
 obtain⟨a2,b2,e2⟩:=ci (hn 2 (by decide))
 obtain⟨a3,b3,e3⟩:=ci (hn 3 (by decide))
 obtain⟨a4,b4,e4⟩:=ci (hn 4 (by decide))
 obtain⟨a5,b5,e5⟩:=ci (hn 5 (by decide))
 have syn:(Pat.sh a0 a1 (.mot L a2 a3 a4 a5)).Syn:=⟨b0,b1,hL,b2,b3,b4,b5⟩
 refine⟨.sh a0 a1 (.mot L a2 a3 a4 a5),?_,syn,by simp[Pat.depth],trivial,λh=>?_⟩
 ·apply gK
  rw[ht,pre6,bX,<- e0,<- e1,<- e2,<- e3,<- e4,<- e5]
  rfl
 ·have wf:=Pat.line_wf 0 syn h
  exact(Pat.fits_mot b2 b3 b4 b5 wf.2.2.2.2.2.2.2).sh a0 a1
def cq(ns:List Int)(i:Nat):Str:=(toString (1+cell ns (4+(i:Int)) % 5):String)
def bD(ns:List Int)(s:Nat)(u:Str)(i:Nat):Str:=if i=s then u else if i=4 then "0" else cq ns i
theorem wF(ns:List Int)(s:Nat)(u:Str):((yR (λi=>D.str (cq ns i)) (xR 6)).set 4 (D.str "0")).set s (D.str u)=(xR 6).map λi=>D.str (bD ns s u i):=by
 have h1:(yR (λi=>D.str (cq ns i)) (xR 6)).set 4 (D.str "0")=_:=nq (n:=6) (i:=4) (λi=>D.str (cq ns i)) (λi=>D.str (if i=4 then "0" else cq ns i)) (λv _ ne=>by rw[if_neg ne])
 have h2:=nq (n:=6) (i:=s) (λi=>D.str (if i=4 then "0" else cq ns i)) (λi=>D.str (bD ns s u i)) (λv _ ne=>by unfold bD;rw[if_neg ne])
 have e:bD ns s u s=u:=if_pos rfl
 rw[e] at h2
 rw[h1,h2]
theorem ny(ns:List Int)(s:Nat)(u:Str){i:Nat}(h:i≠s):isNumL (cs (bD ns s u i))/\(bD ns s u i).length<=8:=by
 unfold bD
 rw[if_neg h]
 split
 ·exact⟨.inl ⟨48,by decide,rfl⟩,by decide⟩
 ·exact⟨numL_is (a:=1+cell ns (4+(i:Int)) % 5) ⟨by omega,by omega⟩,xU (bO (a:=1+cell ns (4+(i:Int)) % 5) (by omega)) (by decide)⟩
theorem fw{s:Str}(h:(cs s).all isSg=true):∀ c∈cs s,aG c:=λc hc=>isSign_of (yz.mp h c hc)
theorem wG{i:Int}(h:0<=i/\i<3):∃ (t:Str) (L:List Str),atI [D.str "1",.str "12",.str "1/."] i=some (.str t)/\t.length<=3/\Rows L/\cs t=rowsL (L.map cs):=by
 rcases(by omega:i=0\/i=1\/i=2) with rfl|rfl|rfl
 ·exact⟨"1",["1"],rfl,by decide,⟨by decide,1,by decide,λl hl=>by rw[xL.mp hl];exact⟨rfl,fw (by decide+kernel)⟩⟩,rfl⟩
 ·exact⟨"12",["12"],rfl,by decide,⟨by decide,2,by decide,λl hl=>by rw[xL.mp hl];exact⟨rfl,fw (by decide+kernel)⟩⟩,rfl⟩
 ·refine⟨"1/.",["1","."],rfl,by decide,⟨by decide,1,by decide,λl hl=>?_⟩,rfl⟩
  rcases xP.mp hl with rfl|hl
  ·exact⟨rfl,fw (by decide+kernel)⟩
  ·rw[xL.mp hl];exact⟨rfl,fw (by decide+kernel)⟩
theorem nz{i:Nat}(h:i<6):atI [D.str ",",.str ":",.str ",",.str ";",.str ",",.str "]"] (i:Int)=some (.str ⟨#[endN i]⟩):=by
 rcases(by omega:i=0\/i=1\/i=2\/i=3\/i=4\/i=5) with rfl|rfl|rfl|rfl|rfl|rfl<;>rfl
section
variable {V:Bx}
abbrev jj(V:Bx):Prop:=V.D 1 "_law_at" gT ud
theorem wH(T:V.T "_law_at" gS gT)(uD:V.m "len"):jj V:=by
 refine Tx.okDW T vV (λds R h=>?_) (λf cdv A outer s H E J hr=>⟨_,((au (eE (dU (aa 1) (dR uD (ac (aa 0) af))) (aD (aW (ai (aa 0) (aa 1)))) bz)
   (aD (aW ae)))),λds R h=>?_⟩)
 ·obtain⟨ns,k,rfl,_⟩:=h;rfl
 ·obtain⟨ns,k,rfl,hk,hR⟩:=h
  refine ite2 (λc=>?_) (λc=>?_)
  ·have c':=of_decide_eq_true c
   rw[yg] at c'
   exact⟨_,ub hk c',hR⟩
  ·have c':=of_decide_eq_false (zw.mpr c)
   rw[yg] at c'
   rw[uc (by omega)] at hR
   exact hR
def wI:SpD:=λds R=>∃ c k:Int,ds=[.int c,.int k]/\∀ u:Str,WordN 8 u->R (.str u)
abbrev jk(V:Bx):Prop:=V.D 1 "_law_word" gW wI
theorem wJ(T:V.T "_law_word" gU gW)(uK:V.m "str"):jk V:=by
 refine Tx.okDW T sc__law_word (λds R h=>?_) (λf cdv A outer s H E J hr=>⟨_,((au (ax 2 sc__law_word.nd (dZ uK (ac (cM (bj (aa 0) ae) ae) af)))
   (au (cg (bn (aa 1) ae) (aD (ax 2 sc__law_word.nd (dZ uK (ac (cM (bj (aa 0) ae) ae) af)))) bz)
   (au (cg (bn (aa 1) ae) (aD (ax 2 sc__law_word.nd (aN (ai (dq (ac aj (ac aj (ac aj (ac aj (ac aj af)))))) (bj (bM (aa 0) ae) ae)) (aa 2)))) bz)
   (au (cg (bn (aa 1) ae) (aD (ax 2 sc__law_word.nd (aN (aa 2) (ai (dq (ac aj (ac aj (ac aj (ac aj (ac aj (ac aj (ac aj af)))))))) (bj (bM (aa 0) ae) ae))))) bz)
   (au (cg (bn (aa 1) ae) (aD (ax 2 sc__law_word.nd (ai (dq (ac aj (ac aj (ac aj (ac aj (ac aj (ac aj (ac aj (ac aj af))))))))) (bj (bM (aa 0) ae) ae)))) bz)
   (aD (aW (aa 2))))))))),λds R h=>?_⟩)
 ·obtain⟨_,_,rfl,_⟩:=h;rfl
 ·obtain⟨c,k,rfl,hR⟩:=h
  refine⟨λd=>∃ u:Str,d= .str u/\WordN 4 u,⟨by decide,by omega,_,rfl,nv (by omega)⟩,?_⟩
  rintro _ ⟨u,rfl,hu⟩;k_places
  refine⟨λz=>∃ u:Str,z=[some (.int c),some (.int k),some (.str u)]/\WordN 4 u,ite2 (λ_=>?_) (λ_=>⟨u,rfl,hu⟩),?_⟩
  ·refine⟨λd=>∃ u:Str,d= .str u/\WordN 4 u,⟨by decide,by omega,_,rfl,nv (by omega)⟩,?_⟩
   rintro _ ⟨u,rfl,hu⟩;k_places
   exact⟨u,rfl,hu⟩
  rintro _ ⟨u,rfl,hu⟩;k_places
  refine⟨λz=>∃ u:Str,z=[some (.int c),some (.int k),some (.str u)]/\WordN 6 u,ite2 (λ_=>?_) (λ_=>⟨u,rfl,hu.mono (by decide)⟩),?_⟩
  ·obtain⟨s,h1,h2⟩:=ji (l:=["0","00","+","-"," "]) (n:=2) (by decide+kernel) (i:=c / 27 % 5) ⟨by omega,by show c / 27 % 5<5;omega⟩
   refine⟨λd=>∃ u:Str,d= .str u/\WordN 6 u,⟨by show(5:Nat)<=1000;decide,⟨by decide,by decide⟩,by decide,_,h1,by have:=h2.le;have:=hu.le;omega,_,rfl,(h2.app hu).mono (by decide)⟩,?_⟩
   rintro _ ⟨u,rfl,hu⟩;k_places
   exact⟨u,rfl,hu⟩
  rintro _ ⟨u,rfl,hu⟩;k_places
  refine⟨λz=>∃ u:Str,z=[some (.int c),some (.int k),some (.str u)]/\WordN 8 u,ite2 (λ_=>?_) (λ_=>⟨u,rfl,hu.mono (by decide)⟩),?_⟩
  ·obtain⟨s,h1,h2⟩:=ji (l:=["0","1","2","3"," ","x","."]) (n:=2) (by decide+kernel) (i:=c / 27 % 7) ⟨by omega,by show c / 27 % 7<7;omega⟩
   refine⟨λd=>∃ u:Str,d= .str u/\WordN 8 u,⟨by show(7:Nat)<=1000;decide,⟨by decide,by decide⟩,by decide,_,h1,by have:=h2.le;have:=hu.le;omega,_,rfl,hu.app h2⟩,?_⟩
   rintro _ ⟨u,rfl,hu⟩;k_places
   exact⟨u,rfl,hu⟩
  rintro _ ⟨u,rfl,hu⟩;k_places
  refine⟨λz=>∃ u:Str,z=[some (.int c),some (.int k),some (.str u)]/\WordN 8 u,ite2 (λ_=>?_) (λ_=>⟨u,rfl,hu⟩),?_⟩
  ·obtain⟨s,h1,h2⟩:=ji (l:=["","-","--","1-","-0","1_0","-1_2","5_"]) (n:=8) (by decide+kernel) (i:=c / 27 % 8) ⟨by omega,by show c / 27 % 8<8;omega⟩
   refine⟨λd=>∃ u:Str,d= .str u/\WordN 8 u,⟨by show(8:Nat)<=1000;decide,⟨by decide,by decide⟩,by decide,_,h1,_,rfl,h2⟩,?_⟩
   rintro _ ⟨u,rfl,hu⟩;k_places
   exact⟨u,rfl,hu⟩
  rintro _ ⟨u,rfl,hu⟩;k_places
  exact hR u hu
def wK:SpD:=λds R=>∃ (u e:Str) (x:Nat),ds=[.str u,.str e]/\cs e=[x]/\endS x/\WordN 8 u/\((∀ k,k<=u.length->Fit x ((cs u++[x]).take (k+1)))->R (.int (-1)))/\∀ k:Nat,WrongIn x (cs u) k->R (.int k)
abbrev jl(V:Bx):Prop:=V.D 1 "_law_wrong_in" gY wK
theorem wL(T:V.T "_law_wrong_in" gX gY)(uH:V.m "range")(uD:V.m "len")(uK:V.m "str"):jl V:=by
 refine Tx.okDW T sc__law_wrong_in (λds R h=>?_) (λf cdv A outer s H E J hr=>⟨_,((au (kX 2 PassesOwn.never rfl sc__law_wrong_in.nd uH (aN (dR uD (ac (aa 0) af)) ae) (au (ax 3 sc__law_wrong_in.nd dm)
    (au (rF 4 PassesOwn.never rfl sc__law_wrong_in.nd uH (ce ae) ae (aD (cg (gf (sq (aN (dZ uK (ac (aa 4) af)) (aa 1)) (ac (sj (aN (aa 0) (aa 1)) sf (si (aN (aa 2) ae))) af))) (aD (ax 3 sc__law_wrong_in.nd dm)) bz)))
    (aD (eE (qT (gf (aa 3))) (aD (aW (aa 2))) bz)))))
   (aD (aW (ce ae))))),λds R h=>?_⟩)
 ·obtain⟨_,_,_,rfl,_⟩:=h;rfl
 ·obtain⟨u,e,x,rfl,he,hx,hu,h1,h2⟩:=h
  have ul:=hu.le
  have el:e.length=1:=by rw[<- bc,he];rfl
  have cue:cs (u++e)=cs u++[x]:=by rw[aQ,he]
  refine⟨by omega,⟨by omega,by omega⟩,λk z=>∃ o3 o4 o5,z=[some (.str u),some (.str e),o3,o4,o5]/\∀ j,j<k->Fit x ((cs u++[x]).take (j+1)),⟨_,_,_,rfl,λj hj=>absurd hj (zU j)⟩,?_,?_⟩
  ·rintro k v z hk ⟨o3,o4,o5,rfl,hf⟩;k_places
   obtain⟨hk2,rfl⟩:=range_int hk
   have k8:k<=u.length:=by omega
   refine⟨λd=>d= .bl false,rfl,?_⟩
   rintro _ rfl;k_places
   refine⟨⟨by decide,by decide,by decide,by decide⟩,λi z=>∃ (b:Bool) (o5:Option D),z=[some (.str u),some (.str e),some (.int k),some (.bl b),o5]/\(b=true↔∃ n:Int,(-12<=n/\n< -12+i)/\(cs u++[x]).take (k+1)<+:numL n++[x]),⟨false,_,rfl,?_⟩,?_,?_⟩
   ·refine⟨(λz=>nomatch z),?_⟩
    rintro⟨n,h,_⟩
    omega
   ·rintro i v z hi ⟨b,o5,rfl,hb⟩;k_places
    obtain⟨hi2,rfl⟩:=vL hi
    have i25:i<25:=hi2
    have nl:=bO (a:=-12+(i:Int)) (by omega)
    have hc:Txt.startswith ((toString (-12+(i:Int)):String)++e) (Txt.slice (u++e) none (some ((k:Int)+1)))=true↔(cs u++[x]).take (k+1)<+:numL (-12+i)++[x]:=by
     rw[ww,aQ,he,show((k:Int)+1)=((k+1:Nat):Int) by omega,wx _ (by rw[aR];omega),cue]
     rfl
    refine⟨λz=>∃ (b:Bool) (o5:Option D),z=[some (.str u),some (.str e),some (.int k),some (.bl b),o5]/\(b=true↔∃ n:Int,(-12<=n/\n< -12+(i+1:Nat))/\(cs u++[x]).take (k+1)<+:numL n++[x]),⟨by omega,by omega,by omega,by rw[aR];omega,ite2 (λc=>?_) (λc=>?_)⟩,λz hz=>hz⟩
    ·refine⟨λd=>d= .bl true,rfl,?_⟩
     rintro _ rfl;k_places
     have:=nw hb hc
     rw[c,yU] at this
     exact⟨true,_,rfl,this⟩
    ·have:=nw hb hc
     rw[zw.mpr c,Ac] at this
     exact⟨b,_,rfl,this⟩
   ·rintro z ⟨b,o5,rfl,hb⟩;k_places
    have hb:b=true↔Fit x ((cs u++[x]).take (k+1)):=by
     rw[hb]
     show(∃ n:Int,(-12<=n/\n< -12+((25:Nat):Int))/\_)↔_
     constructor
     ·rintro⟨n,h,q⟩
      exact⟨n,⟨by omega,by omega⟩,q⟩
     ·rintro⟨n,h,q⟩
      exact⟨n,by unfold B12 at h;omega,q⟩
    cases b with
    |false=>exact h2 k ⟨by rw[bc];exact k8,(λz=>nomatch hb.mpr z),hf⟩
    |true=>
     refine⟨_,_,_,rfl,λj hj=>?_⟩
     by_cases q:j=k
     ·rw[q];exact hb.mp rfl
     ·exact hf j (by omega)
  ·rintro z ⟨o3,o4,o5,rfl,hf⟩;k_places
   rw[cR] at hf
   exact h1 λk hk=>hf k (by omega)
abbrev fz(V:Bx):Prop:=V.E 1 "WrongSign" hU vQ
theorem wM(T:V.Te "WrongSign" "WrongSign.__init__" gZ hU)(uZ:V.b "MotifError")(uW:V.ea "WrongSign")(uBH:V.xf "WrongSign" "place"):fz V:=by
 refine Txe.okE T vW (λds R h=>?_) (λf cdv A outer s H E J hr=>⟨_,((lB uZ uW (ac (aa 1) af) (lC uW uBH (aa 1) lz))),λds R h=>?_⟩)
 ·obtain⟨i,rfl,_⟩:=h;rfl
 ·obtain⟨i,rfl,hR⟩:=h
  exact⟨by show(1:Nat)<=1000;decide,rfl,hR⟩
abbrev cr(V:Bx):Prop:=V.Q 1 "Reading" "may_take" hZ vc
theorem wN(T:V.Tm "Reading" "may_take" "Reading.may_take" hV hZ)(uD:V.m "len")(uU:V.a "Reading" "text")(uC:V.a "Reading" "place"):cr V:=by
 refine Txm.okM T vX (λds M R RX h=>?_) (λf cdv A outer s H E J hr hx=>⟨_,((ar (bB (mt_w (sE (gx (aJ uC (ag (aa 0))) (lQ uD (aF (aJ uU (ag (aa 0))) aS))) (sC (sA (lM (aJ uU (ag (aa 0))) (aJ uC (ag (aa 0)))) (ag (aa 1)))))) (ay (aE (ag aj))) bq)
   (ar (eK uC (ag (aa 0)) (eG (aJ uC (ag (aa 0))) (ag ae)))
   (ay (aE (lM (aJ uU (ag (aa 0))) (sy (aJ uC (ag (aa 0))) (ag ae)))))))),λds M R RX hRX h=>?_⟩)
 ·obtain⟨_,_,_,_,_,rfl,_⟩:=h;rfl
 ·obtain⟨a,t,k,l,al,rfl,rfl,hat,hR⟩:=h
  refine⟨_,aB,_,cj,_,aB,_,gL,xU hat.sz (by decide),?_⟩
  cases l with
  |nil=>
   refine ifdT (by rw[hat.nil]) (ifT rfl ?_)
   exact hR
  |cons c l=>
   have lt:=hat.lt
   refine ifdF (by omega) ?_
   refine⟨_,aB,_,gL,_,aB,_,cj,c,⟨xU hat.sz (by decide),de hat.get⟩,?_⟩
   refine ite2 (λe=>?_) (λe=>?_)
   ·have e2:(!(!(Builtin.Str.occurrences al ⟨#[c]⟩ 0 al.length 1).isEmpty))=true:=e
    rw[mJ] at e2
    have nc:c ∉ cs al:=by simpa using e2
    rw[ck nc,cm nc] at hR
    exact hR
   ·have e2:¬ (!(!(Builtin.Str.occurrences al ⟨#[c]⟩ 0 al.length 1).isEmpty))=true:=e
    rw[mJ] at e2
    have nc:c∈cs al:=by simpa using e2
    rw[cD nc,cE nc] at hR
    refine⟨_,aB,_,cj,_,aB,by show(2:Nat)<1000;decide,?_⟩
    rw[show mput (RdM a t k) a (.ins "Reading" (putD ("place":Str) (.int ((k:Int)+1)) (rdF t k)))=RdM a t (k+1) by rw[va];exact cT]
    refine⟨_,aB,_,gL,_,aB,_,cj,c,⟨xU hat.sz (by decide),?_⟩,hR⟩
    rw[show((k+1:Nat):Int) - 1=(k:Int) by omega]
    exact de hat.get
abbrev bT(V:Bx):Prop:=V.Q 3 "Reading" "take" ib vd
theorem wO(T:V.Tm "Reading" "take" "Reading.take" ia ib)(uC:V.a "Reading" "place")(uF:cr V)(uJ:fz V):bT V:=by
 refine Txm.okM T sc_Reading_take (λds M R RX h=>?_) (λf cdv A outer s H E J hr hx=>⟨_,((ar (aI 2 sc_Reading_take.nd (aO (CalMth.one uF) hx hr (ag (aa 0)) (aw (ac (aa 1) af))))
   (ar (bB (bG (bn (aa 2) aj)) (ay (gB uJ hr hx rfl (aF (aJ uC (ag (aa 0))) aS))) bq)
   (ay (aE (ag (aa 2))))))),λds M R RX hRX h=>?_⟩)
 ·obtain⟨_,_,_,_,_,rfl,_⟩:=h;rfl
 ·obtain⟨a,t,k,l,al,rfl,rfl,hat,hR,hX⟩:=h
  refine⟨λd M'=>d= .str (mayS al l)/\M'=RdM a t (k+mayN al l),⟨_,xL.mpr rfl,_,aB,bY,a,t,k,l,al,rfl,rfl,hat,rfl,rfl⟩,?_⟩
  rintro _ _ ⟨rfl,rfl⟩;k_places
  have no:(∀ c l',l=c::l'->c ∉ cs al)->mayS al l=""/\mayN al l=0:=λh=>by
   cases l with
   |nil=>exact⟨rfl,rfl⟩
   |cons c l=>exact⟨ck (h c l rfl),cm (h c l rfl)⟩
  by_cases h:∃ c l',l=c::l'/\c∈cs al
  ·obtain⟨c,l',rfl,hc⟩:=h
   rw[cD hc,cE hc]
   exact hR c l' rfl hc
  ·have h':∀ c l',l=c::l'->c ∉ cs al:=λc l' e hc=>h ⟨c,l',e,hc⟩
   obtain⟨e1,e2⟩:=no h'
   rw[e1,e2]
   refine⟨_,aB,_,cj,by show(1:Nat)<=1000;decide,(k:Int),rfl,?_⟩
   rw[hRX]
   exact hX h' _
abbrev jm(V:Bx):Prop:=V.MM 4 "line_from" ie vk
theorem wP(T:V.T "line_from" ic ie)(uH:V.m "range")(uX:V.gs "SIGNS" ".123456")(uA:bT V)(uF:cr V):jm V:=by
 refine Tx.okM T sc_line_from (λds M R RX h=>?_) (λf cdv A outer s H E J hr hx=>⟨_,((ar (aI 3 sc_line_from.nd (ag aj))
   (ar (sZ 4 PassesOwn.leaving rfl sc_line_from.nd uH (ag (aa 2)) (ay (aI 3 sc_line_from.nd (eG (ag (aa 3)) (gy (bG (dU (aa 4) (aa 1))) (aO (CalMth.one uA) hx hr (ag (aa 0)) (aw (ac (gp uX) af))) (aO (CalMth.one uF) hx hr (ag (aa 0)) (aw (ac (gp uX) af))))))))
   (ay (aE (ag (aa 3))))))),λds M R RX hRX h=>?_⟩)
 ·obtain⟨_,_,_,_,_,_,rfl,_⟩:=h;rfl
 ·obtain⟨a,t,k,l,n,m,rfl,rfl,hat,hnm,hm8,hR,hX⟩:=h
  refine⟨λd M'=>d= .str ""/\M'=RdM a t k,⟨rfl,rfl⟩,?_⟩
  rintro _ _ ⟨rfl,rfl⟩;k_places
  refine⟨⟨by omega,by omega⟩,λi z M'=>i<=m/\∃ col,z=[some (.ptr a),some (.int n),some (.int m),some (.str ⟨(sgPre i l).toArray⟩),col]/\M'=RdM a t (k+(sgPre i l).length)/\min i n<=(sgPre i l).length,⟨yj _,none,rfl,rfl,by simp⟩,?_,?_⟩
  ·rintro i x z M' hi ⟨him,col,rfl,rfl,hmin⟩;k_places
   obtain⟨hi2,rfl⟩:=range_int hi
   have hi2:i<m:=by omega
   have hle:=eM i l
   rcases sgPre_succ i l with⟨c,l',h1,h2,h3,h4⟩|⟨l',h1,h2,h3⟩
   ·have hat1:At t (k+(sgPre i l).length) (c::l'):=by have:=hat;rw[h1] at this;exact this.app
    refine⟨λd M'=>d= .str ⟨(sgPre (i+1) l).toArray⟩/\M'=RdM a t (k+(sgPre i l).length+1),?_,?_⟩
    ·refine ite2 (λ_=>?_) (λ_=>?_)
     ·refine⟨_,xL.mpr rfl,_,aB,br,a,t,_,_,".123456",rfl,rfl,hat1,λc' l2 e hc=>?_,λhno=>absurd (signs_is.mpr h3) (hno c l' rfl)⟩
      cases e
      refine⟨by rw[cH,show(⟨#[c]⟩:Str).length=1 from rfl];omega,?_,rfl⟩
      rw[show(⟨#[c]⟩:Str)=⟨[c].toArray⟩ from rfl,cU,h4]
     ·refine⟨_,xL.mpr rfl,_,aB,bY,a,t,_,_,".123456",rfl,rfl,hat1,?_⟩
      rw[cD (signs_is.mpr h3),cE (signs_is.mpr h3)]
      refine⟨by rw[cH,show(⟨#[c]⟩:Str).length=1 from rfl];omega,?_,rfl⟩
      rw[show(⟨#[c]⟩:Str)=⟨[c].toArray⟩ from rfl,cU,h4]
    ·rintro _ _ ⟨rfl,rfl⟩;k_places
     refine⟨hi2,_,rfl,?_,?_⟩
     ·rw[h4,xT];rfl
     ·rw[h4,xT,h2];show _<=i+1;omega
   ·have hat1:At t (k+(sgPre i l).length) l':=by have:=hat;rw[h1] at this;exact this.app
    have hno:∀ c l2,l'=c::l2->c ∉ cs ".123456":=λc l2 q z=>by
     have:=h2 c l2 q
     rw[signs_is.mp z] at this
     cases this
    have hmay:mayS ".123456" l'=""/\mayN ".123456" l'=0:=by
     cases l' with
     |nil=>exact⟨rfl,rfl⟩
     |cons c l2=>exact⟨ck (hno c l2 rfl),cm (hno c l2 rfl)⟩
    refine⟨λd M'=>d= .str ⟨(sgPre (i+1) l).toArray⟩/\M'=RdM a t (k+(sgPre i l).length)/\¬ i<n,?_,?_⟩
    ·refine ite2 (λc=>?_) (λc=>?_)
     ·have c':=of_decide_eq_true c
      refine⟨_,xL.mpr rfl,_,aB,br,a,t,_,_,".123456",rfl,rfl,hat1,λc' l2 e hc=>absurd hc (hno c' l2 e),λ_ M'=>?_⟩
      rw[hRX]
      have:=hX (by rw[h3 m (by omega)];omega) M'
      rw[h3 m (by omega)] at this
      exact this
     ·have c':¬ i<n:=λz=>c (decide_eq_true (by omega))
      refine⟨_,xL.mpr rfl,_,aB,bY,a,t,_,_,".123456",rfl,rfl,hat1,?_⟩
      rw[hmay.1,hmay.2]
      refine⟨by rw[cH,show("":Str).length=0 from rfl];omega,?_,rfl,c'⟩
      rw[show("":Str)=⟨([]:List Nat).toArray⟩ from rfl,cU,yf,h3 (i+1) (by omega)]
    ·rintro _ _ ⟨rfl,rfl,hin⟩;k_places
     refine⟨hi2,_,rfl,by rw[h3 (i+1) (by omega)],?_⟩
     rw[h3 (i+1) (by omega)]
     omega
  ·intro z M' hz
   rw[cR,zE] at hz
   obtain⟨_,col,rfl,rfl,hmin⟩:=hz
   exact hR (by omega)
abbrev jn(V:Bx):Prop:=V.MM 5 "lines_from" ii vo
theorem wQ(T:V.T "lines_from" ig ii)(uD:V.m "len")(uAO:jm V)(uAT:V.gi "LONGEST" 8)(uF:cr V):jn V:=by
  refine Tx.okM T sc_lines_from (λds M R RX h=>?_) (λf cdv A outer s H E J hr hx=>⟨_,((ar (aI 1 sc_lines_from.nd (sH (aF (aH (CalMM.frame uAO) hx hr (aw (ac (aa 0) (ac ae (ac (ei uAT) af))))) aS)))
      (ar (aI 2 sc_lines_from.nd (lQ uD (aF (tq (ag (aa 1)) (ag ae)) aS)))
      (ar (sY PassesOwn.leaving (mt_w (sD (lN (tm uD (ag (aa 1))) (ag (ei uAT))) (sB (gx (aO (CalMth.one (CalMth.frame uF)) hx hr (ag (aa 0)) (aw (ac aj af))) (ag aj))))) (ay (bN (tz (ag (aa 1)) (aH (CalMM.frame uAO) hx hr (aw (ac (aa 0) (ac (aa 2) (ac (aa 2) af)))))))))
      (lY 1 (ay (aE (ag (aa 1))))))))),λds M R RX hRX h=>?_⟩)
  · obtain⟨_,_,_,_,rfl,_⟩:=h;rfl
  · obtain⟨a,t,k,l,rfl,rfl,hat,hR,hX⟩:=h
    obtain⟨l1,hl1,hg⟩:=sgPre_split 8 l
    have hs8:=sgPre_sign 8 l
    have hle8:=eM 8 l
    refine⟨λd M'=>∃ p,p≠a/\1<=(sgPre 8 l).length/\d= .ptr p/\M'=(p,.lst [.str ⟨(sgPre 8 l).toArray⟩])::RdM a t (k+(sgPre 8 l).length),⟨[],RdM a t k,rfl,a,t,k,l,1,8,rfl,rfl,hat,by decide,by decide,λh1=>⟨by show 1<=1000;decide,λp hp=>?_⟩,λh1 M'=>?_⟩,?_⟩
    · exact⟨p,λe=>hp (by rw[e];exact xL.mpr rfl),h1,rfl,rfl⟩
    · rw[hRX]
      refine hX _ (λr=>?_) _
      have e0:sgPre 8 l=[]:=zN (by omega)
      rw[e0] at hl1 hg ⊢
      rw[hl1]
      have:=mM (w:=1) (n:=0) (x:=[]) (l:=l1) (λc z=>nomatch z) (by decide) (by decide) (λ_=>rfl) (hg.resolve_left (by decide)) r k
      refine walk_bad (λz=>nomatch z) λc l' q=>?_
      rw[cC]
      unfold bW
      rw[hg.resolve_left (by decide) c l' q,if_neg xS]
      exact if_pos (.inl rfl)
    rintro _ _ ⟨p,hpa,h1,rfl,rfl⟩;k_places
    refine⟨λd M'=>d= .int (sgPre 8 l).length/\M'=(p,.lst [.str ⟨(sgPre 8 l).toArray⟩])::RdM a t (k+(sgPre 8 l).length),⟨_,bZ,_,rfl,by rw[cH];omega,by rw[cH],rfl⟩,?_⟩
    rintro _ _ ⟨rfl,rfl⟩;k_places
    refine⟨λm z M'=>∃ (L:List (List Nat)) (w0:Nat) (l2:List Nat),RowsL L (sgPre 8 l).length/\l=rowsL L++l2/\LinAt w0 (sgPre 8 l).length L.length l2/\(∀ r,walk (.lin 0 0 0::r) l k=walk (.lin w0 (sgPre 8 l).length (L.length - 1)::r) l2 (k+(rowsL L).length))/\m=8 - L.length/\z=[some (.ptr a),some (.ptr p),some (.int (sgPre 8 l).length)]/\M'=(p,.lst (lstD L))::RdM a t (k+(rowsL L).length),⟨7,[sgPre 8 l],0,l1,⟨by simp,h1,hle8,λx hx=>?_⟩,hl1,⟨h1,by simp,λ_=>hg,λz=>absurd z (by simp)⟩,λr=>?_,rfl,rfl,rfl⟩,?_⟩
    · rw[xL.mp hx];exact⟨rfl,hs8⟩
    · have:=cS (w:=0) (k:=0) (r:=r) (sgPre 8 l) 0 l1 k hs8 (by simp;omega)
      rw[<- hl1,zx] at this
      exact this
    rintro m z M' ⟨L,w0,l2,hL,hl2,hlin,hw,rfl,rfl,rfl⟩;k_places
    have hm1:=hL.many
    have hat2:At t (k+(rowsL L).length) l2:=by have:=hat;rw[hl2] at this;exact this.app
    have lenL:(lstD L).length=L.length:=by simp[lstD]
    have done:(L.length=8\/∀ l',l2≠47::l')->R (.lst (lstD L)) (RdM a t (k+(rowsL L).length)):=λst=>hR L _ l2 hL hl2 λr=>by rw[hw r,vn hlin (by omega) st]
    refine⟨_,bZ,?_⟩
    rw[lenL]
    refine ite2 (λc=>?_) (λc=>?_)
    · have c':L.length<8:=by have:=of_decide_eq_true c;omega
      refine⟨_,xL.mpr rfl,_,vm hpa,bY,[(p,_)],RdM a t _,rfl,a,t,_,l2,"/",rfl,rfl,hat2,?_⟩
      by_cases h47:∃ l',l2=47::l'
      · obtain⟨l3,rfl⟩:=h47
        have e47:(47:Nat)∈cs "/":=by decide
        rw[cD e47,cE e47]
        obtain⟨l4,hl4,hg4⟩:=sgPre_split (sgPre 8 l).length l3
        have hs4:=sgPre_sign (sgPre 8 l).length l3
        have hle4:=eM (sgPre 8 l).length l3
        refine⟨⟨_,bZ⟩,[(p,_)],RdM a t _,rfl,a,t,_,l3,(sgPre 8 l).length,(sgPre 8 l).length,rfl,rfl,hat2.next,xM _,hle8,λh2=>?_,λh2 M'=>?_⟩
        · have hlen:(sgPre (sgPre 8 l).length l3).length=(sgPre 8 l).length:=by omega
          refine⟨_,bZ,by rw[lenL];omega,?_⟩
          refine⟨8 - (L.length+1),by omega,L++[sgPre (sgPre 8 l).length l3],(sgPre 8 l).length,l4,⟨by rw[xT];simp;omega,h1,hle8,λx hx=>?_⟩,?_,⟨h1,by rw[xT];simp,λz=>?_,λ_=>rfl⟩,λr=>?_,by rw[xT];rfl,rfl,?_⟩
          · rcases yu.mp hx with q|q
            · exact hL.each x q
            · rw[xL.mp q];exact⟨hlen,hs4⟩
          · rw[eN L _ (λq=>by rw[q] at hm1;simp at hm1),ye,yt,<- hl4];exact hl2
          · rw[xT] at z;simp at z;rw[z] at hm1;simp at hm1
          · rw[hw r,mL hlin c' r]
            have:=cS (w:=(sgPre 8 l).length) (k:=L.length) (r:=r) (sgPre (sgPre 8 l).length l3) 0 l4 (k+(rowsL L).length+1) hs4 (by rw[if_pos (by omega)];omega)
            rw[<- hl4,zx,hlen] at this
            rw[this,eN L _ (λq=>by rw[q] at hm1;simp at hm1),xT,xT]
            show walk (.lin _ _ L.length::r) l4 _=walk (.lin _ _ (L.length+1 - 1)::r) l4 _
            congr 1
            rw[xN,hlen]
            omega
          · show mput ((p,MO.lst (lstD L))::RdM a t _) p _=_
            rw[mK,eN L _ (λq=>by rw[q] at hm1;simp at hm1)]
            show _::RdM a t _=_
            congr 1
            · simp[lstD]
            · congr 1
              simp
              omega
        · rw[hRX]
          refine hX _ (λr=>?_) _
          rw[hw r,mL hlin c' r]
          have:=mM (w:=(sgPre 8 l).length) (n:=L.length) hs4 h2 hle8 (λq=>by omega) (hg4.resolve_left (by omega)) r (k+(rowsL L).length+1)
          rw[<- hl4] at this
          exact this
      · have hno:∀ l',l2≠47::l':=λl' q=>h47 ⟨l',q⟩
        have hmay:mayS "/" l2=""/\mayN "/" l2=0:=by
          cases l2 with
          |nil=>exact⟨rfl,rfl⟩
          |cons c l3=>
            have:c ∉ cs "/":=λq=>hno l3 (by rw[show c=47 from xL.mp q])
            exact⟨ck this,cm this⟩
        rw[hmay.1,hmay.2]
        refine⟨_,bZ,?_⟩
        rw[show mdel ([(p,MO.lst (lstD L))]++RdM a t (k+(rowsL L).length+0)) p=RdM a t (k+(rowsL L).length) from gN]
        exact done (.inr hno)
    · have c':L.length=8:=by
        have:¬ ((L.length:Int)<8):=λz=>c (decide_eq_true z)
        omega
      refine⟨_,bZ,?_⟩
      rw[gN]
      exact done (.inl c')
abbrev jp(V:Bx):Prop:=V.MM 4 "number_from" ik vi
theorem wR(T:V.T "number_from" ij ik)(uG:V.m "int")(uF:cr V)(uA:bT V):jp V:=by
  refine Tx.okM T sc_number_from (λds M R RX h=>?_) (λf cdv A outer s H E J hr hx=>⟨_,((ar (bB (gx (aO (CalMth.one uF) hx hr (ag (aa 0)) (aw (ac aj af))) (ag aj)) (ay (aE (ag ae))) bq)
      (ar (aI 1 sc_number_from.nd (eG (aO (CalMth.one uF) hx hr (ag (aa 0)) (aw (ac aj af))) (aO (CalMth.one uA) hx hr (ag (aa 0)) (aw (ac aj af)))))
      (ar (lW (bG (gf (sr (aa 1) (ac aj af)))) (ay (aI 1 sc_number_from.nd (eG (ag (aa 1)) (aO (CalMth.one uF) hx hr (ag (aa 0)) (aw (ac aj af)))))) bq)
      (ay (aE (ag (rn uG (ac (aa 1) af))))))))),λds M R RX hRX h=>?_⟩)
  · obtain⟨_,_,_,_,rfl,_⟩:=h;rfl
  · obtain⟨a,t,k,l,rfl,rfl,hat,hR,hX⟩:=h
    refine⟨_,xL.mpr rfl,_,aB,bY,a,t,k,l,"0",rfl,rfl,hat,?_⟩
    by_cases z0:∃ l',l=48::l'
    · obtain⟨l',rfl⟩:=z0
      have e0:(48:Nat)∈cs "0":=by decide
      rw[cD e0,cE e0]
      refine hR 0 l' (by unfold B12;omega) ?_ λe r=>?_
      · rw[show numL 0=[48] by decide+kernel];rfl
      · rw[show numL 0=[48] by decide+kernel,am (st':= .sign e::r) (by simp[step,ao,aq])];rfl
    have n0:mayS "0" l=""/\mayN "0" l=0:=by
      cases l with
      |nil=>exact⟨rfl,rfl⟩
      |cons c l=>
        have:c ∉ cs "0":=λq=>z0 ⟨l,by rw[show c=48 from xL.mp q]⟩
        exact⟨ck this,cm this⟩
    rw[n0.1,n0.2]
    obtain⟨pre,l1,hp,rfl,hS,hN,h0⟩:∃ pre l1,(pre=[]\/pre=[45])/\l=pre++l1/\mayS "-" l=⟨pre.toArray⟩/\mayN "-" l=pre.length/\(pre=[]->∀ c l',l1=c::l'->c≠48/\c≠45):=by
      by_cases z1:∃ l',l=45::l'
      · obtain⟨l',rfl⟩:=z1
        exact⟨[45],l',.inr rfl,rfl,rfl,rfl,λq=>nomatch q⟩
      · refine⟨[],l,.inl rfl,rfl,?_⟩
        cases l with
        |nil=>exact⟨rfl,rfl,λ_ c l' q=>nomatch q⟩
        |cons c l=>
          have:c ∉ cs "-":=λq=>z1 ⟨l,by rw[show c=45 from xL.mp q]⟩
          refine⟨ck this,cm this,λ_ c' l' q=>?_⟩
          cases q
          exact⟨λe=>z0 ⟨l,by rw[e]⟩,λe=>z1 ⟨l,by rw[e]⟩⟩
    have hat1:=hat.app
    refine⟨λd M'=>∃ c l2,l1=c::l2/\(49<=c/\c<=57)/\d= .str ⟨(pre++[c]).toArray⟩/\M'=RdM a t (k+pre.length+1),?_,?_⟩
    · refine⟨_,xL.mpr rfl,_,aB,bY,a,t,k,_,"-",rfl,rfl,hat,?_⟩
      rw[hS,hN]
      refine⟨_,xL.mpr rfl,_,aB,br,a,t,k+pre.length,l1,"123456789",rfl,rfl,hat1,λc l2 e hc=>?_,λhno M'=>?_⟩
      · refine⟨?_,c,l2,e,digits19.mp hc,?_,rfl⟩
        · rcases hp with rfl|rfl<;>simp[Str.length]
        · rw[show(⟨#[c]⟩:Str)=⟨[c].toArray⟩ from rfl,cU]
      · rw[hRX]
        exact hX _ (vg hp rfl (λc l' q=>λz=>hno c l' q (digits19.mpr z)) h0 k) M'
    · rintro _ _ ⟨c,l2,rfl,hc,rfl,rfl⟩;k_places
      have hat2:=hat1.next
      refine⟨λz M'=>∃ x l3,((c=49/\∃ d,(48<=d/\d<=50)/\x=[d])\/(x=[]/\(c=49->∀ d l',l3=d::l'->¬ (48<=d/\d<=50))))/\l2=x++l3/\z=[some (.ptr a),some (.str ⟨(pre++c::x).toArray⟩)]/\M'=RdM a t (k+pre.length+1+x.length),?_,?_⟩
      · show if Txt.endswith ⟨(pre++[c]).toArray⟩ "1"=true then _ else _
        rw[vh]
        refine ite2 (λe=>?_) (λe=>?_)
        · have e':=of_decide_eq_true e
          by_cases z2:∃ d l3,l2=d::l3/\(48<=d/\d<=50)
          · obtain⟨d,l3,rfl,hd⟩:=z2
            refine⟨λv M'=>v= .str ⟨(pre++[c,d]).toArray⟩/\M'=RdM a t (k+pre.length+1+1),⟨_,xL.mpr rfl,_,aB,bY,a,t,_,_,"012",rfl,rfl,hat2,?_⟩,?_⟩
            · rw[cD (digits02.mpr hd),cE (digits02.mpr hd)]
              refine⟨?_,?_,rfl⟩
              · rcases hp with rfl|rfl<;>simp[Str.length]
              · rw[show(⟨#[d]⟩:Str)=⟨[d].toArray⟩ from rfl,cU];simp
            · rintro _ _ ⟨rfl,rfl⟩;k_places
              exact⟨[d],l3,.inl ⟨e',d,hd,rfl⟩,rfl,rfl,rfl⟩
          · have hno:∀ d l',l2=d::l'->¬ (48<=d/\d<=50):=λd l' q z=>z2 ⟨d,l',q,z⟩
            have hm:mayS "012" l2=""/\mayN "012" l2=0:=by
              cases l2 with
              |nil=>exact⟨rfl,rfl⟩
              |cons d l2=>exact⟨ck (λq=>hno d l2 rfl (digits02.mp q)),cm (λq=>hno d l2 rfl (digits02.mp q))⟩
            refine⟨λv M'=>v= .str ⟨(pre++[c]).toArray⟩/\M'=RdM a t (k+pre.length+1),⟨_,xL.mpr rfl,_,aB,bY,a,t,_,_,"012",rfl,rfl,hat2,?_⟩,?_⟩
            · rw[hm.1,hm.2]
              refine⟨?_,?_,rfl⟩
              · rcases hp with rfl|rfl<;>simp[Str.length,show(Str.ofString "").cps.size=0 from rfl]
              · rw[show("":Str)=⟨([]:List Nat).toArray⟩ from rfl,cU];simp
            · rintro _ _ ⟨rfl,rfl⟩;k_places
              exact⟨[],l2,.inr ⟨rfl,λ_=>hno⟩,rfl,rfl,rfl⟩
        · have e':¬ c=49:=λz=>e (decide_eq_true z)
          exact⟨[],l2,.inr ⟨rfl,λz=>absurd z e'⟩,rfl,rfl,rfl⟩
      · rintro _ _ ⟨x,l3,hx,rfl,rfl,rfl⟩;k_places
        have hn:isNumL (pre++c::x):=by
          rcases hx with⟨rfl,d,hd,rfl⟩|⟨rfl,_⟩
          · rcases hp with rfl|rfl
            · exact .inr (.inl ⟨d,hd,rfl⟩)
            · exact .inr (.inr (.inr ⟨d,hd,rfl⟩))
          · rcases hp with rfl|rfl
            · exact .inl ⟨c,by omega,rfl⟩
            · exact .inr (.inr (.inl ⟨c,hc,rfl⟩))
        obtain⟨v,hv,ev⟩:=ci hn
        refine⟨v,⟨?_,?_⟩,?_⟩
        · rw[<- ev];exact gM hv
        · rw[<- ev]
          have:=bO hv
          rw[<- bc] at this ⊢
          show(numL v).length<=640
          exact xU this (by decide)
        · have:=hR v l3 hv (by rw[ev];simp) λe r=>by rw[ev];exact vf hp hc hx k e r rfl
          rw[ev] at this
          have e2:k+(pre++c::x).length=k+pre.length+1+x.length:=by simp;omega
          rw[e2] at this
          exact this
abbrev dH(V:Bx):Prop:=V.MM 5 "shift_from" im vj
theorem wS(T:V.T "shift_from" il im)(uAR:jp V)(uA:bT V):dH V:=by
 refine Tx.okM T sc_shift_from (λds M R RX h=>?_) (λf cdv A outer s H E J hr hx=>⟨_,((ar (aI 1 sc_shift_from.nd (aH uAR hx hr (aw (ac (aa 0) af))))
   (ar (bN (aO (CalMth.one uA) hx hr (ag (aa 0)) (aw (ac aj af))))
   (ay (aE (sG (aF (ag (aa 1)) (aF (aH uAR hx hr (aw (ac (aa 0) af))) aS)))))))),λds M R RX hRX h=>?_⟩)
 ·obtain⟨_,_,_,_,rfl,_⟩:=h;rfl
 ·obtain⟨a,t,k,l,rfl,rfl,hat,hR,hX⟩:=h
  refine⟨λd M'=>∃ x l1,B12 x/\l=numL x++l1/\(∀ e r,walk (.num:: .sign e::r) l k=walk (.sign e::r) l1 (k+(numL x).length))/\d= .int x/\M'=RdM a t (k+(numL x).length),⟨a,t,k,l,rfl,rfl,hat,λx l' hx e hw=>⟨x,l',hx,e,hw,rfl,rfl⟩,λj hj M'=>?_⟩,?_⟩
  ·rw[hRX];exact hX j (λr=>hj _) M'
  rintro _ _ ⟨x,l1,hx',rfl,hw1,rfl,rfl⟩;k_places
  have hat1:=hat.app
  refine⟨_,xL.mpr rfl,_,aB,br,a,t,_,l1,",",rfl,rfl,hat1,λc l2 e hc=>?_,λhno M'=>?_⟩
  ·have ec:c=44:=xL.mp hc
   subst ec
   subst e
   refine⟨a,t,_,l2,rfl,rfl,hat1.next,λy l' hy e hw=>?_,λj hj M'=>?_⟩
   ·subst e
    refine⟨by simp,hR x y l' hx' hy rfl λe r=>?_⟩
    rw[hw1 44 _,cG,hw e r]
   ·rw[hRX]
    refine hX j (λr=>?_) M'
    rw[hw1 44 _,cG,hj]
  ·rw[hRX]
   refine hX _ (λr=>?_) M'
   rw[hw1 44 _,cF λl' q=>hno 44 l' q (by decide)]
abbrev fA(V:Bx):Prop:=V.D 1 "levelled" ip uh
theorem wT(T:V.T "levelled" io ip):fA V:=by
 refine Tx.okDW T sc_levelled (λds R h=>?_) (λf cdv A outer s H E J hr=>⟨_,((au (rj PassesOwn.never (kQ (ai (aa 1) ae) ae) (au (ax 2 sc_levelled.nd (qH (ai (aa 0) ae) (ai (aa 1) ae)))
    (au (ax 3 sc_levelled.nd (bw (ac (cM (ai (aa 0) ae) (aY (aa 2) (ai (aa 1) ae))) (ac (cM (ai (aa 0) ae) (aY (aa 2) (ai (aa 1) ae))) af))))
    (au (ax 0 sc_levelled.nd (aa 1))
    (aD (ax 1 sc_levelled.nd (aa 3)))))))
   (au (cg (dU (ai (aa 0) ae) ae) (aD (ax 0 sc_levelled.nd (bw (ac (ce (ai (aa 0) ae)) (ac (ce (ai (aa 0) ae)) af))))) bz)
   (aD (aW (bw (ac (aa 0) (ac (aa 1) af)))))))),λds R h=>?_⟩)
 ·obtain⟨a,b,c,d,rfl,_⟩:=h;rfl
 ·obtain⟨a,b,c,d,rfl,hb,hd,hR⟩:=h
  refine⟨λm z=>∃ (f0 f1 s0 s1:Int) (t r:Option D),z=[some (.tup [.int f0,.int f1]),some (.tup [.int s0,.int s1]),t,r]/\Uni a b c d f0 f1 s0 s1/\f1.natAbs<1073741824/\s1.natAbs<1073741824/\m=s1.natAbs,⟨_,a,b,c,d,none,none,rfl,Uni.refl a b c d,hb,hd,rfl⟩,?_⟩
  rintro m z ⟨f0,f1,s0,s1,t,r,rfl,hu,hf,hs,rfl⟩;k_places
  refine⟨_,rfl,ite2 (λcc=>?_) (λcc=>?_)⟩
  ·have c':¬ s1=0:=by simpa using cc
   obtain⟨g1,g2⟩:=fdm f1 s1 c'
   refine⟨λd=>d= .int (f1.fdiv s1),⟨_,rfl,_,rfl,⟨c',hs⟩,rfl⟩,?_⟩;rintro _ rfl;k_places
   refine⟨λd=>d= .tup [.int (f0 - f1.fdiv s1*s0),.int (f1 - f1.fdiv s1*s1)],⟨_,rfl,_,rfl,.inl ⟨by omega,by omega⟩,_,rfl,_,rfl,.inl ⟨by omega,by omega⟩,by simp,rfl⟩,?_⟩;rintro _ rfl;k_places
   refine⟨λd=>d= .tup [.int s0,.int s1],rfl,?_⟩;rintro _ rfl;k_places
   refine⟨λd=>d= .tup [.int (f0 - f1.fdiv s1*s0),.int (f1 - f1.fdiv s1*s1)],rfl,?_⟩;rintro _ rfl;k_places
   exact⟨_,g1,s0,s1,_,_,_,_,rfl,hu.step _,hs,by omega,rfl⟩
  ·have c':s1=0:=by simpa using cc
   subst c'
   refine⟨λz=>∃ p0 p1:Int,z=[some (.tup [.int p0,.int p1]),some (.tup [.int s0,.int 0]),t,r]/\Lev a b c d p0 p1 s0,⟨_,rfl,ite2 (λe=>?_) (λe=>?_)⟩,?_⟩
   ·have e':=of_decide_eq_true e
    refine⟨λd=>d= .tup [.int (-f0),.int (-f1)],⟨_,rfl,_,rfl,by simp,rfl⟩,?_⟩;rintro _ rfl;k_places
    exact⟨_,_,rfl,by omega,hu.neg⟩
   ·have e':=of_decide_eq_false (zw.mpr e)
    exact⟨_,_,rfl,by omega,hu⟩
   ·rintro _ ⟨p0,p1,rfl,hL⟩;k_places
    exact⟨by simp,hR p0 p1 s0 hL⟩
abbrev fB(V:Bx):Prop:=V.D 2 "spread" ir ui
theorem wU(T:V.T "spread" iq ir)(uBZ:V.m "abs")(uAB:fA V):fB V:=by
 refine Tx.okDW T sc_spread (λds R h=>?_) (λf cdv A outer s H E J hr=>⟨_,((au (eE (bn (aY (ai (aa 0) ae) (ai (aa 1) ae)) (aY (ai (aa 0) ae) (ai (aa 1) ae))) (aD (aW fZ)) bz)
   (au (ax 2 sc_spread.nd (aV uAB hr (ac (aa 0) (ac (aa 1) af))))
   (au (ax 3 sc_spread.nd (qR uBZ (ac (ai (ai (aa 2) ae) ae) af)))
   (aD (aW (bw (ac (aa 3) (ac (ai (ai (aa 2) ae) ae) (ac (bj (ai (ai (aa 2) ae) ae) (aa 3)) af)))))))))),λds R h=>?_⟩)
 ·obtain⟨a,b,c,d,rfl,_⟩:=h;rfl
 ·obtain⟨a,b,c,d,rfl,ha,hb,hc,hd,hN,hR⟩:=h
  refine⟨_,rfl,_,rfl,.inl ⟨by omega,by omega⟩,_,rfl,_,rfl,.inl ⟨by omega,by omega⟩,ite2 (λe=>?_) (λe=>?_)⟩
  ·exact hN (of_decide_eq_true e)
  ·have e':=of_decide_eq_false (zw.mpr e)
   refine⟨λx=>∃ p0 p1 q0:Int,x= .tup [.tup [.int p0,.int p1],.tup [.int q0,.int 0]]/\Lev a b c d p0 p1 q0,⟨a,b,c,d,rfl,hb,hd,λp0 p1 q0 hL=>⟨p0,p1,q0,rfl,hL⟩⟩,?_⟩
   rintro _ ⟨p0,p1,q0,rfl,hL⟩;k_places
   have hF:=gD e' hL
   refine⟨λx=>x= .int (if q0<0 then -q0 else q0),⟨_,rfl,_,rfl,rfl⟩,?_⟩;rintro _ rfl;k_places
   exact⟨_,rfl,_,rfl,_,rfl,_,rfl,hF.1,by simp,hR e' _ _ _ hF⟩
abbrev jq(V:Bx):Prop:=V.D 1 "home" iw uf
theorem wV(T:V.T "home" iu iw):jq V:=by
 refine Tx.okDW T sc_home (λds R h=>?_) (λf cdv A outer s H E J hr=>⟨_,((au (ax 3 sc_home.nd (ai (aa 0) ae))
   (au (ax 4 sc_home.nd (ai (aa 0) ae))
   (au (ax 5 sc_home.nd (ai (aa 0) ae))
   (aD (aW (bw (ac (bj (cM (aa 1) (aY (bM (aa 2) (aa 4)) (aa 5))) (aa 3)) (ac (bj (aa 2) (aa 4)) af))))))))),λds R h=>?_⟩)
 ·obtain⟨w,h,s,x,y,rfl,_⟩:=h;rfl
 ·obtain⟨w,h,s,x,y,rfl,hw,hh,hh2,hs,hs2,hR⟩:=h
  refine⟨λd=>d= .int w,⟨_,rfl,rfl⟩,?_⟩;rintro _ rfl;k_places
  refine⟨λd=>d= .int h,⟨_,rfl,rfl⟩,?_⟩;rintro _ rfl;k_places
  refine⟨λd=>d= .int s,⟨_,rfl,rfl⟩,?_⟩;rintro _ rfl;k_places
  exact⟨⟨hh,hh2⟩,.inr ⟨by omega,by omega⟩,hw,hh,by simp,hR⟩
abbrev jr(V:Bx):Prop:=V.MM 2 "hues_by_home" iz vx
theorem wW(T:V.T "hues_by_home" iy iz)(uAS:V.m "enumerate")(uBQ:jq V)(uX:V.gs "SIGNS" ".123456"):jr V:=by
 refine Tx.okM T sc_hues_by_home (λds M R RX h=>?_) (λf cdv A outer s H E J hr hx=>⟨_,((ar (aI 2 sc_hues_by_home.nd tQ)
   (ar (tJ PassesOwn.leaving rfl uAS (ag (aa 0)) (dg_cons 3 sc_hues_by_home.nd (dg_cons 4 sc_hues_by_home.nd kW)) (ay (tK PassesOwn.leaving rfl uAS (ag (aa 4)) (dg_cons 5 sc_hues_by_home.nd (dg_cons 6 sc_hues_by_home.nd kW)) (ay (lW (bG (kQ (aa 6) aj)) (ay (bN (tR (qi hr) (ag (aa 2)) (aw (ac (aV uBQ hr (ac (aa 1) (ac (aa 5) (ac (aa 3) af)))) (ac (su (gp uX) (ac (aa 6) af)) af)))))) bq)))))
   (lY 2 (ay (aE (ag (aa 2)))))))),λds M R RX hRX h=>?_⟩)
 ·obtain⟨_,_,_,_,_,rfl,_⟩:=h;rfl
 ·obtain⟨L,wd,w,h,s,rfl,hL,hw,hh,hh2,hs,hs2,hR⟩:=h
  have hwd:=hL.w8
  refine⟨λd M'=>∃ p,p ∉ ak M/\d= .ptr p/\M'=(p,.dti [])::M,λp hp=>⟨p,hp,rfl,rfl⟩,?_⟩
  rintro _ _ ⟨p,hp,rfl,rfl⟩;k_places
  refine⟨λj z M'=>∃ (kv:List ((Int × Int) × Int)) (x3 x4 x5 x6:Option D),hAll w h s j (L.drop j) kv=hAll w h s 0 L []/\kv.length<=8*j/\z=[some (.lst (lstD L)),some (.tup [.int w,.int h,.int s]),some (.ptr p),x3,x4,x5,x6]/\M'=(p,.dti kv)::M,⟨[],none,none,none,none,rfl,by simp,rfl,rfl⟩,?_,?_⟩
  ·rintro j d z M' hd ⟨kv,x3,x4,x5,x6,e1,hkv,rfl,rfl⟩;k_places
   obtain⟨x,hx',rfl⟩:=vt hd
   have hj:j<L.length:=(yi.mp hx').1
   have hj8:=hL.many
   obtain⟨xl,xs⟩:=hL.each x (zD hx')
   rw[mO hx'] at e1
   refine⟨vq xs,λi z M'=>∃ (kv':List ((Int × Int) × Int)) (x5 x6:Option D),hRow w h s j i (x.drop i) kv'=hRow w h s j 0 x kv/\kv'.length<=8*j+i/\i<=x.length/\z=[some (.lst (lstD L)),some (.tup [.int w,.int h,.int s]),some (.ptr p),some (.int j),some (.str ⟨x.toArray⟩),x5,x6]/\M'=(p,.dti kv')::M,⟨kv,x5,x6,rfl,by omega,yj _,rfl,rfl⟩,?_,?_⟩
   ·rintro i d z M' hd2 ⟨kv',y5,y6,e2,hkv',hi,rfl,rfl⟩;k_places
    obtain⟨c,hc,rfl⟩:=vw hd2
    have hi2:i<x.length:=(yi.mp hc).1
    have sc:=xs c (zD hc)
    rw[mO hc,hRow] at e2
    refine⟨λz M'=>∃ kv2:List ((Int × Int) × Int),hRow w h s j (i+1) (x.drop (i+1)) kv2=hRow w h s j 0 x kv/\kv2.length<=8*j+(i+1)/\z=[some (.lst (lstD L)),some (.tup [.int w,.int h,.int s]),some (.ptr p),some (.int j),some (.str ⟨x.toArray⟩),some (.int i),some (.str ⟨#[c]⟩)]/\M'=(p,.dti kv2)::M,?_,?_⟩
    ·show if(!decide ((⟨#[c]⟩:Str)="."))=true then _ else _
     by_cases c46:c=46
     ·subst c46
      rw[if_pos rfl] at e2
      exact⟨kv',e2,by omega,rfl,rfl⟩
     ·rw[if_neg c46] at e2
      refine ifT (by simp[uu,c46]) ?_
      have c6:49<=c/\c<=54:=by unfold aG at sc;omega
      obtain⟨ix,rest,ho,hix⟩:=vp c6
      refine⟨⟨_,bZ⟩,w,h,s,i,j,rfl,hw,hh,hh2,hs,hs2,ix,rest,ho,_,bZ,by have:=mN kv' (hmX w h s i j) ((j:Int) % h) ((c:Int) - 48);omega,λv=>?_⟩
      rw[mK,hix]
      exact⟨_,e2,by have:=mN kv' (hmX w h s i j) ((j:Int) % h) ((c:Int) - 48);omega,rfl,rfl⟩
    ·rintro z M' ⟨kv2,e3,h3,rfl,rfl⟩;k_places
     exact⟨kv2,_,_,e3,h3,hi2,rfl,rfl⟩
   ·rintro z M' hz
    rw[lJ,cH] at hz
    obtain⟨kv',y5,y6,e2,hkv',hi,rfl,rfl⟩:=hz
    rw[AQ] at e2
    refine⟨kv',_,_,_,_,?_,by omega,rfl,rfl⟩
    rw[<- e1,hAll,<- e2]
    rfl
  ·rintro z M' hz
   rw[show(lstD L).length=L.length by simp[lstD]] at hz
   obtain⟨kv,x3,x4,x5,x6,e1,hkv,rfl,rfl⟩:=hz
   rw[AQ] at e1
   refine⟨_,bZ,?_⟩
   rw[gN]
   have e2:kv=hAll w h s 0 L []:=e1
   rw[<- e2] at hR
   exact hR
abbrev js(V:Bx):Prop:=V.M 3 "Motif" iB vy
theorem wX(T:V.Ti "Motif" "Motif.__init__" iA iB)(uAA:fB V)(uBX:jr V)(uP:V.a "Motif" "place")(uI:V.a "Motif" "shifts")(uBI:V.a "Motif" "hues"):js V:=by
 refine Txi.okIM T vY (λds R h=>?_) (λf cdv A outer s H E J hr hx=>⟨_,((ar (eK uP (ag (aa 0)) (ag (aa 1)))
   (ar (eK uI (ag (aa 0)) (ag (aV uAA hr (ac (aa 3) (ac (aa 4) af)))))
   (ay (eK uBI (ag (aa 0)) (gy (lP (aJ uI (ag (aa 0))) (ag fZ)) tP (aH uBX hx hr (aF (ag (aa 2)) (aF (aJ uI (ag (aa 0))) aS))))))))),λa ds R hno h=>?_⟩)
 ·obtain⟨_,_,_,_,_,_,_,rfl,_⟩:=h;rfl
 ·obtain⟨k,L,wd,x,y,u,v,rfl,hL,hx',hy,hu,hv,h0,h1⟩:=h
  unfold B12 at hx' hy hu hv
  refine⟨_,bR,by show(0:Nat)<1000;decide,?_⟩
  rw[cT,vz]
  refine⟨x,y,u,v,rfl,by omega,by omega,by omega,by omega,λe=>?_,λe w h s F=>?_⟩
  ·refine⟨_,bR,by show(1:Nat)<1000;decide,?_⟩
   rw[cT,mQ]
   refine⟨_,bR,_,gO,?_⟩
   refine⟨_,bR,by show(2:Nat)<1000;decide,?_⟩
   rw[cT,mR]
   exact⟨_,rfl,h0 e⟩
  ·refine⟨_,bR,by show(1:Nat)<1000;decide,?_⟩
   rw[cT,mQ]
   refine⟨_,bR,_,gO,?_⟩
   obtain⟨b1,b2,b3⟩:=F.bd (N:=288) (by
    have m1:=bH (a:=x) (d:=v) (A:=12) (B:=12) (by omega) (by omega)
    have m2:=bH (a:=y) (d:=u) (A:=12) (B:=12) (by omega) (by omega)
    omega)
   refine⟨_,bR,_,gO,L,wd,w,h,s,rfl,hL,F.1,F.2.1,by omega,F.2.2.1,by omega,?_⟩
   refine⟨_,bR,by show(2:Nat)<1000;decide,?_⟩
   rw[cT,mR]
   exact⟨_,rfl,h1 e w h s F⟩
abbrev fC(V:Bx):Prop:=V.MM 6 "motif_from" iD vG
theorem wY(T:V.T "motif_from" iC iD)(uBV:jn V)(uM:dH V)(uC:V.a "Reading" "place")(uBF:js V)(uA:bT V):fC V:=by
  refine Tx.okM T sc_motif_from (λds M R RX h=>?_) (λf cdv A outer s H E J hr hx=>⟨_,((ar (aI 1 sc_motif_from.nd (aJ uC (ag (aa 0))))
      (ar (bN (aO (CalMth.one uA) hx hr (ag (aa 0)) (aw (ac aj af))))
      (ar (aI 2 sc_motif_from.nd (aH uBV hx hr (aw (ac (aa 0) af))))
      (ar (bN (aO (CalMth.one uA) hx hr (ag (aa 0)) (aw (ac aj af))))
      (ar (aI 3 sc_motif_from.nd (aH uM hx hr (aw (ac (aa 0) af))))
      (ar (bN (aO (CalMth.one uA) hx hr (ag (aa 0)) (aw (ac aj af))))
      (ar (aI 4 sc_motif_from.nd (aH uM hx hr (aw (ac (aa 0) af))))
      (ar (bN (aO (CalMth.one uA) hx hr (ag (aa 0)) (aw (ac aj af))))
      (ay (aE (ag (gq uBF hr (ac (aa 1) (ac (aa 2) (ac (aa 3) (ac (aa 4) af))))))))))))))))),λds M R RX hRX h=>?_⟩)
  · obtain⟨_,_,_,_,rfl,_⟩:=h;rfl
  · obtain⟨a,t,k,l,rfl,rfl,hat,hR,hX⟩:=h
    refine⟨λd M'=>d= .int k/\M'=RdM a t k,⟨_,aB,_,cj,rfl,rfl⟩,?_⟩
    rintro _ _ ⟨rfl,rfl⟩;k_places
    refine⟨_,xL.mpr rfl,_,aB,br,a,t,_,l,"[",rfl,rfl,hat,λc l1 e hc=>?_,λhno M'=>?_⟩
    · have ec:c=91:=xL.mp hc
      subst ec
      subst e
      have hb:∀ r,walk (.pat 5::r) (91::l1) k=walk (motW r) l1 (k+1):=λr=>am (by rw[aU];rfl)
      refine⟨λd M'=>∃ (L:List (List Nat)) (w:Nat) (l2:List Nat),RowsL L w/\l1=rowsL L++l2/\(∀ r,walk (.lin 0 0 0::r) l1 (k+1)=walk (.sign 59::r) l2 (k+1+(rowsL L).length))/\d= .lst (lstD L)/\M'=RdM a t (k+1+(rowsL L).length),⟨a,t,_,l1,rfl,rfl,hat.next,λL w l' h1 h2 h3=>⟨L,w,l',h1,h2,h3,rfl,rfl⟩,λj hj M'=>?_⟩,?_⟩
      · rw[hRX]
        exact hX j (λr=>by rw[hb];exact hj _) M'
      rintro _ _ ⟨L,w,l2,hL,rfl,hw2,rfl,rfl⟩;k_places
      have hat2:=hat.next.app
      have hb2:∀ r,walk (.pat 5::r) (91::(rowsL L++l2)) k=walk (.sign 59:: .num:: .sign 44:: .num:: .sign 59:: .num:: .sign 44:: .num:: .sign 93::r) l2 (k+1+(rowsL L).length):=λr=>by rw[hb];exact hw2 _
      refine⟨_,xL.mpr rfl,_,aB,br,a,t,_,l2,";",rfl,rfl,hat2,λc l3 e hc=>?_,λhno M'=>?_⟩
      · have ec:c=59:=xL.mp hc
        subst ec
        subst e
        have hat3:=hat2.next
        have hb3:∀ r,walk (.pat 5::r) (91::(rowsL L++59::l3)) k=walk (.num:: .sign 44:: .num:: .sign 59:: .num:: .sign 44:: .num:: .sign 93::r) l3 (k+1+(rowsL L).length+1):=λr=>by rw[hb2,cG]
        refine⟨λd M'=>∃ x y l4,B12 x/\B12 y/\l3=numL x++44::(numL y++l4)/\(∀ e r,walk (.num:: .sign 44:: .num:: .sign e::r) l3 (k+1+(rowsL L).length+1)=walk (.sign e::r) l4 (k+1+(rowsL L).length+1+(numL x).length+1+(numL y).length))/\d= .tup [.int x,.int y]/\M'=RdM a t (k+1+(rowsL L).length+1+(numL x).length+1+(numL y).length),⟨a,t,_,l3,rfl,rfl,hat3,λx y l' h1 h2 h3 h4=>⟨x,y,l',h1,h2,h3,h4,rfl,rfl⟩,λj hj M'=>?_⟩,?_⟩
        · rw[hRX]
          exact hX j (λr=>by rw[hb3];exact hj _) M'
        rintro _ _ ⟨x,y,l4,hx',hy,rfl,hw4,rfl,rfl⟩;k_places
        have hat4:At t (k+1+(rowsL L).length+1+(numL x).length+1+(numL y).length) l4:=hat3.app.next.app
        refine⟨_,xL.mpr rfl,_,aB,br,a,t,_,l4,";",rfl,rfl,hat4,λc l5 e hc=>?_,λhno M'=>?_⟩
        · have ec:c=59:=xL.mp hc
          subst ec
          subst e
          have hat5:=hat4.next
          have hb5:∀ r,walk (.pat 5::r) (91::(rowsL L++59::(numL x++44::(numL y++59::l5)))) k=walk (.num:: .sign 44:: .num:: .sign 93::r) l5 (k+1+(rowsL L).length+1+(numL x).length+1+(numL y).length+1):=λr=>by rw[hb3,hw4,cG]
          refine⟨λd M'=>∃ u v l6,B12 u/\B12 v/\l5=numL u++44::(numL v++l6)/\(∀ e r,walk (.num:: .sign 44:: .num:: .sign e::r) l5 (k+1+(rowsL L).length+1+(numL x).length+1+(numL y).length+1)=walk (.sign e::r) l6 (k+1+(rowsL L).length+1+(numL x).length+1+(numL y).length+1+(numL u).length+1+(numL v).length))/\d= .tup [.int u,.int v]/\M'=RdM a t (k+1+(rowsL L).length+1+(numL x).length+1+(numL y).length+1+(numL u).length+1+(numL v).length),⟨a,t,_,l5,rfl,rfl,hat5,λx y l' h1 h2 h3 h4=>⟨x,y,l',h1,h2,h3,h4,rfl,rfl⟩,λj hj M'=>?_⟩,?_⟩
          · rw[hRX]
            exact hX j (λr=>by rw[hb5];exact hj _) M'
          rintro _ _ ⟨u,v,l6,hu,hv,rfl,hw6,rfl,rfl⟩;k_places
          have hat6:At t (k+1+(rowsL L).length+1+(numL x).length+1+(numL y).length+1+(numL u).length+1+(numL v).length) l6:=hat5.app.next.app
          refine⟨_,xL.mpr rfl,_,aB,br,a,t,_,l6,"]",rfl,rfl,hat6,λc l7 e hc=>?_,λhno M'=>?_⟩
          · have ec:c=93:=xL.mp hc
            subst ec
            subst e
            obtain⟨hR1,hR2⟩:=vF hL
            have htl:(Pat.mot (L.map λx=>(⟨x.toArray⟩:Str)) x y u v).tl=motL L x y u v:=by rw[Pat.tl,hR2]
            have hfin:∀ w,FormOf (Pat.mot (L.map λx=>(⟨x.toArray⟩:Str)) x y u v) k w->R w (RdM a t (k+1+(rowsL L).length+1+(numL x).length+1+(numL y).length+1+(numL u).length+1+(numL v).length+1)):=λw hw=>by
              have:=hR (Pat.mot (L.map λx=>(⟨x.toArray⟩:Str)) x y u v) l7 ⟨hR1,hx',hy,hu,hv⟩ rfl (by rw[htl];simp[motL]) w hw
              rw[htl] at this
              have e:k+(motL L x y u v).length=k+1+(rowsL L).length+1+(numL x).length+1+(numL y).length+1+(numL u).length+1+(numL v).length+1:=by
                simp[motL];omega
              rw[e] at this
              exact this
            refine⟨k,L,w,x,y,u,v,rfl,hL,hx',hy,hu,hv,λe=>?_,λe w h s F=>?_⟩
            · exact hfin _ ⟨.non,[],rfl,λ_=>rfl,λz=>absurd e z⟩
            · exact hfin _ ⟨_,_,rfl,λz=>absurd z e,λ_=>⟨w,h,s,F,rfl,by rw[hR2]⟩⟩
          · rw[hRX]
            refine hX _ (λr=>?_) M'
            rw[hb5,hw6,cF λl' q=>hno 93 l' q (by decide)]
        · rw[hRX]
          refine hX _ (λr=>?_) M'
          rw[hb3,hw4,cF λl' q=>hno 59 l' q (by decide)]
      · rw[hRX]
        refine hX _ (λr=>?_) M'
        rw[hb2,cF λl' q=>hno 59 l' q (by decide)]
    · rw[hRX]
      refine hX _ (λr=>?_) M'
      refine walk_bad (λz=>nomatch z) λc l' q=>?_
      rw[aU]
      unfold aT
      have:¬ c=91:=λz=>hno c l' q (by rw[z];decide)
      rw[if_neg this,if_pos rfl]
abbrev fD(V:Bx):Prop:=V.M 1 "Mirror" iF vC
theorem wZ(T:V.Ti "Mirror" "Mirror.__init__" iE iF)(uT:V.a "Mirror" "form"):fD V:=by
 refine Txi.okI T vZ (λds R h=>?_) (λf cdv A outer s H E J hr=>⟨_,((aZ uT (aa 1) cx)),λds R h=>?_⟩)
 ·obtain⟨_,_,rfl,_⟩:=h;rfl
 ·obtain⟨x,fs,rfl,hR⟩:=h
  exact⟨by decide,hR⟩
abbrev fE(V:Bx):Prop:=V.M 1 "Turn" iH vD
theorem xa(T:V.Ti "Turn" "Turn.__init__" iG iH)(uR:V.a "Turn" "form"):fE V:=by
 refine Txi.okI T wa (λds R h=>?_) (λf cdv A outer s H E J hr=>⟨_,((aZ uR (aa 1) cx)),λds R h=>?_⟩)
 ·obtain⟨_,_,rfl,_⟩:=h;rfl
 ·obtain⟨x,fs,rfl,hR⟩:=h
  exact⟨by decide,hR⟩
abbrev fF(V:Bx):Prop:=V.M 1 "Over" iJ vA
theorem xb(T:V.Ti "Over" "Over.__init__" iI iJ)(uO:V.a "Over" "above")(uS:V.a "Over" "below"):fF V:=by
 refine Txi.okI T wb (λds R h=>?_) (λf cdv A outer s H E J hr=>⟨_,((aZ uO (aa 1) (aZ uS (aa 2) cx))),λds R h=>?_⟩)
 ·obtain⟨_,_,_,_,rfl,_⟩:=h;rfl
 ·obtain⟨x,y,fs,gs,rfl,hR⟩:=h
  refine⟨by decide,by show(1:Nat)<1000;decide,?_⟩
  show R (putD _ _ (putD _ _ []))
  rw[putD,putD,if_neg (by decide+kernel)]
  exact hR
abbrev fG(V:Bx):Prop:=V.M 1 "Shifted" iL vB
theorem xc(T:V.Ti "Shifted" "Shifted.__init__" iK iL)(uN:V.a "Shifted" "form")(uBW:V.a "Shifted" "x")(uBM:V.a "Shifted" "y"):fG V:=by
 refine Txi.okI T wc (λds R h=>?_) (λf cdv A outer s H E J hr=>⟨_,((aZ uN (aa 1) (aZ uBW (aa 2) (aZ uBM (aa 3) cx)))),λds R h=>?_⟩)
 ·obtain⟨_,_,_,_,rfl,_⟩:=h;rfl
 ·obtain⟨x,fs,a,b,rfl,hR⟩:=h
  refine⟨by decide,by show(1:Nat)<1000;decide,by show(2:Nat)<1000;decide,?_⟩
  show R (putD _ _ (putD _ _ (putD _ _ [])))
  rw[show putD ("x":Str) (.int a) (putD ("form":Str) (.obj x fs) [])=([("form",.obj x fs),("x",.int a)]:List (Str × D)) by rw[putD,putD,if_neg (by decide+kernel)];rfl,putD,if_neg (by decide+kernel),putD,if_neg (by decide+kernel)]
  exact hR
abbrev fH(V:Bx):Prop:=V.M 1 "Rehue" iN vE
theorem xg(T:V.Ti "Rehue" "Rehue.__init__" iM iN)(uQ:V.a "Rehue" "form")(uBL:V.a "Rehue" "old")(uAW:V.a "Rehue" "new"):fH V:=by
 refine Txi.okI T we (λds R h=>?_) (λf cdv A outer s H E J hr=>⟨_,((aZ uQ (aa 1) (aZ uBL (aa 2) (aZ uAW (aa 3) cx)))),λds R h=>?_⟩)
 ·obtain⟨_,_,_,_,rfl,_⟩:=h;rfl
 ·obtain⟨x,fs,a,b,rfl,hR⟩:=h
  refine⟨by decide,by show(1:Nat)<1000;decide,by show(2:Nat)<1000;decide,?_⟩
  show R (putD _ _ (putD _ _ (putD _ _ [])))
  rw[show putD ("old":Str) (.int a) (putD ("form":Str) (.obj x fs) [])=([("form",.obj x fs),("old",.int a)]:List (Str × D)) by rw[putD,putD,if_neg (by decide+kernel)];rfl,putD,if_neg (by decide+kernel),putD,if_neg (by decide+kernel)]
  exact hR
theorem xh{n j:Nat}(hL:6<=n)(T:V.T "over_from" eQ dB)(uE:V.MM n "form_from" bS (cn j))(uAM:fF V)(uA:bT V):V.MM (n+1) "over_from" dB (mV j):=by
 refine Tx.okM T sc_over_from (λds M R RX h=>?_) (λf cdv A outer s H E J hr hx=>⟨_,((ar (aI 2 sc_over_from.nd (aH (hn:=by omega) uE hx hr (aw (ac (aa 0) (ac (aa 1) af)))))
   (ar (bN (aO (hn:=by omega) (CalMth.one uA) hx hr (ag (aa 0)) (aw (ac aj af))))
   (ar (aI 3 sc_over_from.nd (aH (hn:=by omega) uE hx hr (aw (ac (aa 0) (ac (aa 1) af)))))
   (ar (bN (aO (hn:=by omega) (CalMth.one uA) hx hr (ag (aa 0)) (aw (ac aj af))))
   (ay (aE (ag (gq (hn:=by omega) uAM hr (ac (aa 2) (ac (aa 3) af))))))))))),λds M R RX hRX h=>?_⟩)
 ·obtain⟨_,_,_,_,_,rfl,_⟩:=h;rfl
 ·obtain⟨a,t,k,l,d,rfl,rfl,hat,hdj,hj1,hR,hX⟩:=h
  refine⟨λv M'=>∃ p l1,p.Syn/\p.depth+d<=5/\l=p.tl++l1/\FormOf p k v/\M'=RdM a t (k+p.tl.length),⟨a,t,k,l,d,rfl,rfl,hat,hdj,hj1,λp l' h1 h2 h3 v h4=>⟨p,l',h1,h2,h3,h4,rfl⟩,λi hi M'=>?_⟩,?_⟩
  ·rw[hRX];exact hX i (λr=>hi _) M'
  rintro v _ ⟨p,l1,hp,hpd,rfl,hv,rfl⟩;k_places
  obtain⟨fs,rfl⟩:=hv.obj
  have hat1:=hat.app
  have hw1:∀ r,walk (.pat d:: .sign 124:: .pat d:: .sign 41::r) (p.tl++l1) k=walk (.sign 124:: .pat d:: .sign 41::r) l1 (k+p.tl.length):=λr=>bQ hp d _ l1 k hpd
  refine⟨_,xL.mpr rfl,_,aB,br,a,t,_,l1,"|",rfl,rfl,hat1,λc l2 e hc=>?_,λhno M'=>?_⟩
  ·have ec:c=124:=xL.mp hc
   subst ec
   subst e
   refine⟨λv M'=>∃ q l3,q.Syn/\q.depth+d<=5/\l2=q.tl++l3/\FormOf q (k+p.tl.length+1) v/\M'=RdM a t (k+p.tl.length+1+q.tl.length),⟨a,t,_,l2,d,rfl,rfl,hat1.next,hdj,hj1,λp l' h1 h2 h3 v h4=>⟨p,l',h1,h2,h3,h4,rfl⟩,λi hi M'=>?_⟩,?_⟩
   ·rw[hRX];exact hX i (λr=>by rw[hw1,cG];exact hi _) M'
   rintro v _ ⟨q,l3,hq,hqd,rfl,hv2,rfl⟩;k_places
   obtain⟨gs,rfl⟩:=hv2.obj
   have hat3:=hat1.next.app
   have hw3:∀ r,walk (.pat d:: .sign 124:: .pat d:: .sign 41::r) (p.tl++124::(q.tl++l3)) k=walk (.sign 41::r) l3 (k+p.tl.length+1+q.tl.length):=λr=>by rw[hw1,cG,bQ hq d _ l3 _ hqd]
   refine⟨_,xL.mpr rfl,_,aB,br,a,t,_,l3,")",rfl,rfl,hat3,λc l4 e hc=>?_,λhno M'=>?_⟩
   ·have ec:c=41:=xL.mp hc
    subst ec
    subst e
    exact⟨_,_,_,_,rfl,hR p q l4 hp hq hpd hqd rfl _ _ hv hv2⟩
   ·rw[hRX]
    refine hX _ (λr=>?_) M'
    rw[hw3,cF λl' q=>hno 41 l' q (by decide)]
  ·rw[hRX]
   refine hX _ (λr=>?_) M'
   rw[hw1,cF λl' q=>hno 124 l' q (by decide)]
theorem xi{n j:Nat}(hL:6<=n)(T:V.T "shifted_from" eU dD)(uM:dH V)(uE:V.MM n "form_from" bS (cn j))(uAI:fG V)(uA:bT V):V.MM (n+1) "shifted_from" dD (mW j):=by
 refine Tx.okM T sc_shifted_from (λds M R RX h=>?_) (λf cdv A outer s H E J hr hx=>⟨_,((ar (aI 2 sc_shifted_from.nd (aH (hn:=by omega) uM hx hr (aw (ac (aa 0) af))))
   (ar (bN (aO (hn:=by omega) (CalMth.one uA) hx hr (ag (aa 0)) (aw (ac aj af))))
   (ay (aE (eI (hn:=by omega) uAI hr (aF (aH (hn:=by omega) uE hx hr (aw (ac (aa 0) (ac (aa 1) af)))) (aF (ag (ai (aa 2) ae)) (aF (ag (ai (aa 2) ae)) aS))))))))),λds M R RX hRX h=>?_⟩)
 ·obtain⟨_,_,_,_,_,rfl,_⟩:=h;rfl
 ·obtain⟨a,t,k,l,d,rfl,rfl,hat,hdj,hj1,hR,hX⟩:=h
  refine⟨λv M'=>∃ x y l1,B12 x/\B12 y/\l=numL x++44::(numL y++l1)/\(∀ e r,walk (.num:: .sign 44:: .num:: .sign e::r) l k=walk (.sign e::r) l1 (k+(numL x).length+1+(numL y).length))/\v= .tup [.int x,.int y]/\M'=RdM a t (k+(numL x).length+1+(numL y).length),⟨a,t,_,l,rfl,rfl,hat,λx y l' h1 h2 h3 h4=>⟨x,y,l',h1,h2,h3,h4,rfl,rfl⟩,λi hi M'=>?_⟩,?_⟩
  ·rw[hRX];exact hX i (λr=>hi _) M'
  rintro _ _ ⟨x,y,l1,hx',hy,rfl,hw1,rfl,rfl⟩;k_places
  have hat1:At t (k+(numL x).length+1+(numL y).length) l1:=hat.app.next.app
  refine⟨_,xL.mpr rfl,_,aB,br,a,t,_,l1,":",rfl,rfl,hat1,λc l2 e hc=>?_,λhno M'=>?_⟩
  ·have ec:c=58:=xL.mp hc
   subst ec
   subst e
   refine⟨a,t,_,l2,d,rfl,rfl,hat1.next,hdj,hj1,λp l' h1 h2 h3 v h4=>?_,λi hi M'=>?_⟩
   ·obtain⟨fs,rfl⟩:=h4.obj
    subst h3
    exact⟨_,rfl,_,rfl,_,_,_,_,rfl,hR x y p l' hx' hy h1 h2 rfl _ h4⟩
   ·rw[hRX]
    refine hX i (λr=>?_) M'
    rw[hw1,cG];exact hi _
  ·rw[hRX]
   refine hX _ (λr=>?_) M'
   rw[hw1,cF λl' q=>hno 58 l' q (by decide)]
theorem xj{n j:Nat}(hL:6<=n)(T:V.T "rehue_from" eV dE)(uG:V.m "int")(uE:V.MM n "form_from" bS (cn j))(uAK:fH V)(uA:bT V):V.MM (n+1) "rehue_from" dE (mY j):=by
 refine Tx.okM T sc_rehue_from (λds M R RX h=>?_) (λf cdv A outer s H E J hr hx=>⟨_,((ar (aI 2 sc_rehue_from.nd (lR uG (aF (aO (hn:=by omega) (CalMth.one uA) hx hr (ag (aa 0)) (aw (ac aj af))) aS)))
   (ar (aI 3 sc_rehue_from.nd (lR uG (aF (aO (hn:=by omega) (CalMth.one uA) hx hr (ag (aa 0)) (aw (ac aj af))) aS)))
   (ay (aE (eI (hn:=by omega) uAK hr (aF (aH (hn:=by omega) uE hx hr (aw (ac (aa 0) (ac (aa 1) af)))) (aF (ag (aa 2)) (aF (ag (aa 3)) aS))))))))),λds M R RX hRX h=>?_⟩)
 ·obtain⟨_,_,_,_,_,rfl,_⟩:=h;rfl
 ·obtain⟨a,t,k,l,d,rfl,rfl,hat,hdj,hj1,hR,hX⟩:=h
  refine⟨λv M'=>∃ c l1,(49<=c/\c<=54)/\l=c::l1/\v= .int ((c:Int) - 48)/\M'=RdM a t (k+1),⟨_,xL.mpr rfl,_,aB,br,a,t,_,l,"123456",rfl,rfl,hat,λc l1 e hc=>?_,λhno M'=>?_⟩,?_⟩
  ·exact⟨_,⟨digit_of (hue_dig.mp hc),by show(1:Nat)<=640;decide⟩,c,l1,hue_dig.mp hc,e,rfl,rfl⟩
  ·rw[hRX]
   exact hX _ (λr=>mU hno) M'
  rintro _ _ ⟨c,l1,hc,rfl,rfl,rfl⟩;k_places
  refine⟨λv M'=>∃ e l2,(49<=e/\e<=54)/\l1=e::l2/\v= .int ((e:Int) - 48)/\M'=RdM a t (k+2),⟨_,xL.mpr rfl,_,aB,br,a,t,_,l1,"123456",rfl,rfl,hat.next,λc l1 e hc=>?_,λhno M'=>?_⟩,?_⟩
  ·exact⟨_,⟨digit_of (hue_dig.mp hc),by show(1:Nat)<=640;decide⟩,c,l1,hue_dig.mp hc,e,rfl,rfl⟩
  ·rw[hRX]
   exact hX _ (λr=>by rw[gP hc,mU hno]) M'
  rintro _ _ ⟨e,l2,he,rfl,rfl,rfl⟩;k_places
  refine⟨a,t,_,l2,d,rfl,rfl,hat.next.next,hdj,hj1,λp l' h1 h2 h3 v h4=>?_,λi hi M'=>?_⟩
  ·obtain⟨fs,rfl⟩:=h4.obj
   subst h3
   exact⟨_,_,_,_,rfl,hR c e p l' hc he h1 h2 rfl _ h4⟩
  ·rw[hRX]
   refine hX i (λr=>?_) M'
   rw[gP hc,gP he];exact hi _
theorem xk{n j:Nat}(hL:6<=n)(T:V.T "form_from" eX bS)(uBY:V.MM n "over_from" dB (mV j))(uBG:V.MM n "shifted_from" dD (mW j))(uE:V.MM n "form_from" bS (cn j))(uBP:V.MM n "rehue_from" dE (mY j))(uAF:fC V)(uAE:V.gi "DEEP" 5)(uAJ:fD V)(uAG:fE V)(uF:cr V):V.MM (n+1) "form_from" bS (cn (j+1)):=by
 refine Tx.okM T sc_form_from (λds M R RX h=>?_) (λf cdv A outer s H E J hr hx=>⟨_,((ar (aI 2 sc_form_from.nd (gy (bG (dU (aa 1) (ei uAE))) (aO (hn:=by omega) (CalMth.one uF) hx hr (ag (aa 0)) (aw (ac aj af))) (ag aj)))
   (ar (bB (bG (bn (aa 2) aj)) (ay (aE (aH (hn:=by omega) uBY hx hr (aw (ac (aa 0) (ac (aN (aa 1) ae) af)))))) bq)
   (ar (bB (bG (bn (aa 2) aj)) (ay (aE (aH (hn:=by omega) uBG hx hr (aw (ac (aa 0) (ac (aN (aa 1) ae) af)))))) bq)
   (ar (bB (bG (bn (aa 2) aj)) (ay (aE (eI (hn:=by omega) uAJ hr (aF (aH (hn:=by omega) uE hx hr (aw (ac (aa 0) (ac (aN (aa 1) ae) af)))) aS)))) bq)
   (ar (bB (bG (bn (aa 2) aj)) (ay (aE (eI (hn:=by omega) uAG hr (aF (aH (hn:=by omega) uE hx hr (aw (ac (aa 0) (ac (aN (aa 1) ae) af)))) aS)))) bq)
   (ar (bB (bG (bn (aa 2) aj)) (ay (aE (aH (hn:=by omega) uBP hx hr (aw (ac (aa 0) (ac (aN (aa 1) ae) af)))))) bq)
   (ay (aE (aH (hn:=by omega) uAF hx hr (aw (ac (aa 0) af)))))))))))),λds M R RX hRX h=>?_⟩)
 ·obtain⟨_,_,_,_,_,rfl,_⟩:=h;rfl
 ·obtain⟨a,t,k,l,d,rfl,rfl,hat,hdj,hj1,hR,hX⟩:=h
  have hd5:d<=5:=by omega
  refine⟨λv M'=>(v= .str ""/\M'=RdM a t k/\(d=5\/∀ c l',l=c::l'->c ∉ cs "(smth"))\/(∃ c l',l=c::l'/\c∈cs "(smth"/\d<5/\v= .str ⟨#[c]⟩/\M'=RdM a t (k+1)),?_,?_⟩
  ·show if decide ((d:Int)<5)=true then _ else _
   refine ite2 (λc=>?_) (λc=>?_)
   ·have c':d<5:=by have:=of_decide_eq_true c;omega
    refine⟨_,xL.mpr rfl,_,aB,bY,a,t,_,l,"(smth",rfl,rfl,hat,?_⟩
    by_cases h:∃ c l',l=c::l'/\c∈cs "(smth"
    ·obtain⟨c,l',rfl,hc⟩:=h
     rw[cD hc,cE hc]
     exact .inr ⟨c,l',rfl,hc,c',rfl,rfl⟩
    ·have hno:∀ c l',l=c::l'->c ∉ cs "(smth":=λc l' e hc=>h ⟨c,l',e,hc⟩
     have hm:mayS "(smth" l=""/\mayN "(smth" l=0:=by
      cases l with
      |nil=>exact⟨rfl,rfl⟩
      |cons c l=>exact⟨ck (hno c l rfl),cm (hno c l rfl)⟩
     rw[hm.1,hm.2]
     exact .inl ⟨rfl,rfl,.inr hno⟩
   ·have c':d=5:=by
     have:¬ ((d:Int)<5):=λz=>c (decide_eq_true z)
     omega
    exact .inl ⟨rfl,rfl,.inl c'⟩
  rintro _ _ (⟨rfl,rfl,hno⟩|⟨c,l1,rfl,hc,hlt,rfl,rfl⟩);k_places
  ·refine⟨a,t,k,l,rfl,rfl,hat,λp l' h1 h2 h3 v h4=>hR p l' h1 (by omega) h3 v h4,λi hi M'=>?_⟩
   rw[hRX]
   exact hX i (λr=>by rw[vH hno];exact hi r) M'
  have hat1:=hat.next
  have hj:1<=j:=by omega
  have ecs:cs "(smth"=[40,115,109,116,104]:=rfl
  rw[ecs] at hc
  simp only[xP,zd,or_false] at hc
  have nd:¬ d=5:=by omega
  rcases hc with rfl|rfl|rfl|rfl|rfl
  ·have hw:∀ r,walk (.pat d::r) (40::l1) k=walk (.pat (d+1):: .sign 124:: .pat (d+1):: .sign 41::r) l1 (k+1):=λr=>am (by rw[aU];unfold aT;rw[if_neg (by decide),if_neg nd,if_pos rfl])
   refine⟨a,t,k+1,l1,d+1,rfl,rfl,hat1,by omega,hj,λp q l' h1 h2 h3 h4 h5 u u' h6 h7=>?_,λi hi M'=>?_⟩
   ·have:=hR (.over p q) l' ⟨h1,h2⟩ (by rw[Pat.depth];omega) (by rw[h5,Pat.tl];simp) _ ⟨u,u',rfl,h6,h7⟩
    have e:k+(Pat.over p q).tl.length=k+1+p.tl.length+1+q.tl.length+1:=by rw[Pat.tl];simp;omega
    rw[e] at this
    exact this
   ·rw[hRX];exact hX i (λr=>by rw[hw];exact hi r) M'
  ·have hw:∀ r,walk (.pat d::r) (115::l1) k=walk (.num:: .sign 44:: .num:: .sign 58:: .pat (d+1)::r) l1 (k+1):=λr=>am (by rw[aU];unfold aT;rw[if_neg (by decide),if_neg nd,if_neg (by decide),if_pos rfl])
   refine⟨a,t,k+1,l1,d+1,rfl,rfl,hat1,by omega,hj,λx y p l' h1 h2 h3 h4 h5 u h6=>?_,λi hi M'=>?_⟩
   ·have:=hR (.sh x y p) l' ⟨h1,h2,h3⟩ (by rw[Pat.depth];omega) (by rw[h5,Pat.tl];simp) _ ⟨u,rfl,h6⟩
    have e:k+(Pat.sh x y p).tl.length=k+1+(numL x).length+1+(numL y).length+1+p.tl.length:=by rw[Pat.tl];simp;omega
    rw[e] at this
    exact this
   ·rw[hRX];exact hX i (λr=>by rw[hw];exact hi r) M'
  ·have hw:∀ r,walk (.pat d::r) (109::l1) k=walk (.pat (d+1)::r) l1 (k+1):=λr=>am (by rw[aU];unfold aT;rw[if_neg (by decide),if_neg nd,if_neg (by decide),if_neg (by decide),if_neg (by decide),if_pos (.inl rfl)])
   refine⟨a,t,k+1,l1,d+1,rfl,rfl,hat1,by omega,hj,λp l' h1 h2 h3 v h4=>?_,λi hi M'=>?_⟩
   ·obtain⟨fs,rfl⟩:=h4.obj
    have:=hR (.mir p) l' h1 (by rw[Pat.depth];omega) (by rw[h3,Pat.tl];simp) _ ⟨_,rfl,h4⟩
    have e:k+(Pat.mir p).tl.length=k+1+p.tl.length:=by rw[Pat.tl];simp;omega
    rw[e] at this
    exact⟨_,_,rfl,this⟩
   ·rw[hRX];exact hX i (λr=>by rw[hw];exact hi r) M'
  ·have hw:∀ r,walk (.pat d::r) (116::l1) k=walk (.pat (d+1)::r) l1 (k+1):=λr=>am (by rw[aU];unfold aT;rw[if_neg (by decide),if_neg nd,if_neg (by decide),if_neg (by decide),if_neg (by decide),if_pos (.inr rfl)])
   refine⟨a,t,k+1,l1,d+1,rfl,rfl,hat1,by omega,hj,λp l' h1 h2 h3 v h4=>?_,λi hi M'=>?_⟩
   ·obtain⟨fs,rfl⟩:=h4.obj
    have:=hR (.tur p) l' h1 (by rw[Pat.depth];omega) (by rw[h3,Pat.tl];simp) _ ⟨_,rfl,h4⟩
    have e:k+(Pat.tur p).tl.length=k+1+p.tl.length:=by rw[Pat.tl];simp;omega
    rw[e] at this
    exact⟨_,_,rfl,this⟩
   ·rw[hRX];exact hX i (λr=>by rw[hw];exact hi r) M'
  ·have hw:∀ r,walk (.pat d::r) (104::l1) k=walk (.hue:: .hue:: .pat (d+1)::r) l1 (k+1):=λr=>am (by rw[aU];unfold aT;rw[if_neg (by decide),if_neg nd,if_neg (by decide),if_neg (by decide),if_pos rfl])
   refine⟨a,t,k+1,l1,d+1,rfl,rfl,hat1,by omega,hj,λc e p l' h1 h2 h3 h4 h5 u h6=>?_,λi hi M'=>?_⟩
   ·have:=hR (.hue ((c:Int) - 48) ((e:Int) - 48) p) l' ⟨by omega,by omega,h3⟩ (by rw[Pat.depth];omega) (by rw[h5,Pat.tl,eO h1,eO h2];simp) _ ⟨u,rfl,h6⟩
    have e:k+(Pat.hue ((c:Int) - 48) ((e:Int) - 48) p).tl.length=k+1+2+p.tl.length:=by rw[Pat.tl,eO h1,eO h2];simp;omega
    rw[e] at this
    exact this
   ·rw[hRX];exact hX i (λr=>by rw[hw];exact hi r) M'
theorem xm(uCX:V.T "over_from" eQ dB)(uDL:V.T "shifted_from" eU dD)(uDM:V.T "rehue_from" eV dE)(uCB:V.T "form_from" eX bS)(uAM:fF V)(uA:bT V)(uM:dH V)(uAI:fG V)(uG:V.m "int")(uAK:fH V)(uAF:fC V)(uAE:V.gi "DEEP" 5)(uAJ:fD V)(uAG:fE V)(uF:cr V):∀ j,V.MM (6+2*j) "form_from" bS (cn j):=by
 intro j
 induction j with
 |zero=>exact CalMM.never uCB (λds M R RX=>vI)
 |succ j ih=>
  have uE':=ih
  have uBY':=xh (n:=6+2*j) (j:=j) (by omega) uCX uE' uAM uA
  have uBG':=xi (n:=6+2*j) (j:=j) (by omega) uDL uM uE' uAI uA
  have uBP':=xj (n:=6+2*j) (j:=j) (by omega) uDM uG uE' uAK uA
  have uE':=Cal.mono ih (yF _)
  exact xk (n:=6+2*j+1) (j:=j) (by omega) uCB uBY' uBG' uE' uBP' uAF uAE uAJ uAG uF
abbrev jt(V:Bx):Prop:=V.M 1 "Reading" iP vb
theorem xn(T:V.Ti "Reading" "Reading.__init__" iO iP)(uU:V.a "Reading" "text")(uC:V.a "Reading" "place"):jt V:=by
 refine Txi.okI T wg (λds R h=>?_) (λf cdv A outer s H E J hr=>⟨_,((aZ uU (aa 1) (aZ uC ae cx))),λds R h=>?_⟩)
 ·obtain⟨_,rfl,_⟩:=h;rfl
 ·obtain⟨t,rfl,hR⟩:=h
  refine⟨by decide,by show(1:Nat)<1000;decide,?_⟩
  show R (putD _ _ (putD _ _ []))
  rw[putD,putD,if_neg (by decide+kernel)]
  exact hR
abbrev ju(V:Bx):Prop:=V.M 1 "Pattern" iR vP
theorem xo(T:V.Ti "Pattern" "Pattern.__init__" iQ iR)(uBO:V.a "Pattern" "text")(uBU:V.a "Pattern" "shifts")(uAZ:V.a "Pattern" "form"):ju V:=by
 refine Txi.okI T wj (λds R h=>?_) (λf cdv A outer s H E J hr=>⟨_,((aZ uBO (aa 1) (aZ uBU (aa 2) (aZ uAZ (aa 3) cx)))),λds R h=>?_⟩)
 ·obtain⟨_,_,_,_,_,_,rfl,_⟩:=h;rfl
 ·obtain⟨t,w,h,s,x,fs,rfl,hR⟩:=h
  refine⟨by decide,by show(1:Nat)<1000;decide,by show(2:Nat)<1000;decide,?_⟩
  show R (putD _ _ (putD _ _ (putD _ _ [])))
  rw[show putD ("shifts":Str) (.tup [.int w,.int h,.int s]) (putD ("text":Str) (.str t) [])=([("text",.str t),("shifts",.tup [.int w,.int h,.int s])]:List (Str × D)) by rw[putD,putD,if_neg (by decide+kernel)];rfl,putD,if_neg (by decide+kernel),putD,if_neg (by decide+kernel)]
  exact hR
abbrev fJ(V:Bx):Prop:=V.E 1 "OneLine" iT vR
theorem xp(T:V.Te "OneLine" "OneLine.__init__" iS iT)(uZ:V.b "MotifError")(uY:V.ea "OneLine")(uBC:V.xf "OneLine" "place"):fJ V:=by
 refine Txe.okE T wm (λds R h=>?_) (λf cdv A outer s H E J hr=>⟨_,((lB uZ uY (ac (aa 1) af) (lC uY uBC (aa 1) lz))),λds R h=>?_⟩)
 ·obtain⟨i,rfl,_⟩:=h;rfl
 ·obtain⟨i,rfl,hR⟩:=h
  exact⟨by show(1:Nat)<=1000;decide,rfl,hR⟩
abbrev jv(V:Bx):Prop:=V.D 2 "measure" iV um
theorem xq(T:V.T "measure" iU iV)(uAB:fA V):jv V:=by
 refine Tx.okDW T sc_measure (λds R h=>?_) (λf cdv A outer s H E J hr=>⟨_,((au (ax 2 sc_measure.nd (ai (aV uAB hr (ac (bw (ac ae (ac (aa 0) af))) (ac (bw (ac ae (ac (aa 1) af))) af))) ae))
   (aD (aW (bw (ac (ai (aa 2) ae) (ac (ai (aa 2) ae) af))))))),λds R h=>?_⟩)
 ·obtain⟨x,y,rfl,_⟩:=h;rfl
 ·obtain⟨x,y,rfl,hx,hy,hR⟩:=h
  refine⟨λd=>∃ p0 p1:Int,d= .tup [.int p0,.int p1]/\Meas x y p1 p0,⟨by simp,by simp,1,x,0,y,rfl,hx,hy,λp0 p1 q0 hL=>⟨_,rfl,p0,p1,rfl,mq ⟨hL.1,hL.2⟩⟩⟩,?_⟩
  rintro _ ⟨p0,p1,rfl,hM⟩;k_places
  exact⟨_,rfl,_,rfl,by simp,hR p1 p0 hM⟩
abbrev fK(V:Bx):Prop:=V.D 3 "met" iX uo
theorem xr(T:V.T "met" iW iX)(uAC:jv V):fK V:=by
 refine Tx.okDW T sc_met (λds R h=>?_) (λf cdv A outer s H E J hr=>⟨_,((au (ax 2 sc_met.nd (aV uAC hr (ac (ai (aa 0) ae) (ac (ai (aa 1) ae) af))))
   (au (ax 3 sc_met.nd (bM (aY (ai (aa 0) ae) (ai (aa 1) ae)) (ai (aa 2) ae)))
   (au (ax 4 sc_met.nd (bM (aY (ai (aa 0) ae) (ai (aa 1) ae)) (ai (aV uAC hr (ac (ai (aa 0) ae) (ac (ai (aa 1) ae) af))) ae)))
   (au (ax 5 sc_met.nd (aY (bM (aa 4) (ai (aa 0) ae)) (ai (aa 0) ae)))
   (au (ax 6 sc_met.nd (cM (aY (bM (aa 4) (ai (aa 1) ae)) (ai (aa 1) ae)) (aa 5)))
   (au (ax 7 sc_met.nd (bM (ai (aa 2) ae) (ai (aV uAC hr (ac (ai (aa 2) ae) (ac (aa 6) af))) ae)))
   (au (ax 8 sc_met.nd (aY (bM (aY (aa 7) (aa 6)) (ai (aa 2) ae)) (ai (aa 2) ae)))
   (aD (aW (bw (ac (aa 3) (ac (aY (aa 4) (aa 7)) (ac (bj (aN (aY (aa 7) (aa 5)) (aY (aa 8) (ai (aa 0) ae))) (aa 3)) af)))))))))))))),λds R h=>?_⟩)
 ·obtain⟨_,_,_,_,_,_,rfl,_⟩:=h;rfl
 ·obtain⟨w1,h1,s1,w2,h2,s2,rfl,a1,a2,a3,a4,a5,a6,b1,b2,b3,b4,b5,b6,hR⟩:=h
  refine⟨λd=>∃ g u:Int,d= .tup [.int g,.int u]/\Meas w1 w2 g u,⟨_,rfl,_,rfl,w1,w2,rfl,by omega,by omega,λg u M=>⟨g,u,rfl,M⟩⟩,?_⟩
  rintro _ ⟨g,u,rfl,M1⟩;k_places
  have hg:=M1.pos a1
  have hg2:=M1.le a1
  refine⟨λd=>d= .int (w1*w2 / g),⟨_,rfl,_,rfl,.inl (b64 a1 a2),_,rfl,d30 hg (zy hg2 a2),rfl⟩,?_⟩;rintro _ rfl;k_places
  refine⟨λd=>∃ k u':Int,d= .int (h1*h2 / k)/\Meas h1 h2 k u',⟨_,rfl,_,rfl,.inl (b64 a3 a4),_,rfl,_,rfl,h1,h2,rfl,by omega,by omega,λk u' M=>⟨_,rfl,d30 (M.pos a3) (zy (M.le a3) a4),k,u',rfl,M⟩⟩,?_⟩
  rintro _ ⟨k,u',rfl,M2⟩;k_places
  obtain⟨r0,r1,r2,r3,r4,r5⟩:=mv a3 b3 M2
  have hbig:h1*h2<=518400:=by
   have:=bH (a:=h1) (d:=h2) (A:=720) (B:=720) (by omega) (by omega)
   omega
  refine⟨λd=>d= .int (h1*h2 / k / h1*s1),⟨_,rfl,d30 a3 a4,_,rfl,.inr (s64 a5 a6 a2),rfl⟩,?_⟩;rintro _ rfl;k_places
  refine⟨λd=>d= .int (h1*h2 / k / h2*s2 - h1*h2 / k / h1*s1),⟨_,rfl,d30 b3 b4,_,rfl,.inr (s64 b5 b6 b2),rfl⟩,?_⟩;rintro _ rfl;k_places
  have t1:=bH (a:=h1*h2 / k / h1) (d:=s1) (A:=720) (B:=720) (by omega) (by omega)
  have t2:=bH (a:=h1*h2 / k / h2) (d:=s2) (A:=720) (B:=720) (by omega) (by omega)
  refine⟨λd=>∃ gg u'':Int,d= .int (g / gg)/\Meas g (h1*h2 / k / h2*s2 - h1*h2 / k / h1*s1) gg u'',⟨_,rfl,_,rfl,g,_,rfl,by omega,by omega,λgg u'' M=>⟨_,rfl,d30 (M.pos hg) (zy (M.le hg) (zy hg2 a2)),gg,u'',rfl,M⟩⟩,?_⟩
  rintro _ ⟨gg,u'',rfl,M3⟩;k_places
  have hgg:=M3.pos hg
  have c1:0<=g / gg:=Int.ediv_nonneg (by omega) (by omega)
  have c2:g / gg<=g:=Int.ediv_le_self _ (by omega)
  have c3:=bH (a:=g / gg) (d:=h1*h2 / k / h2*s2 - h1*h2 / k / h1*s1) (A:=720) (B:=1036800) (by omega) (by omega)
  have c4:(g / gg*(h1*h2 / k / h2*s2 - h1*h2 / k / h1*s1) / g).natAbs<=746496001:=by
   have e:=Int.natAbs_ediv_le_natAbs (g / gg*(h1*h2 / k / h2*s2 - h1*h2 / k / h1*s1)) g
   omega
  have mr:=ms a1 b1 a3 b3 M1 M2 M3
  refine⟨λd=>d= .int (g / gg*(h1*h2 / k / h2*s2 - h1*h2 / k / h1*s1) / g*u),⟨.inl ⟨by omega,by omega⟩,_,rfl,⟨by omega,by omega⟩,_,rfl,.inl ⟨by omega,by omega⟩,rfl⟩,?_⟩;rintro _ rfl;k_places
  obtain⟨w0,w3,_⟩:=mv a1 b1 M1
  have wbig:w1*w2<=518400:=by
   have:=bH (a:=w1) (d:=w2) (A:=720) (B:=720) (by omega) (by omega)
   omega
  have hb2:=bH (a:=h1*h2 / k) (d:=g / gg) (A:=518400) (B:=720) (by omega) (by omega)
  exact⟨.inl ⟨by omega,by omega⟩,.inl ⟨by omega,by omega⟩,_,rfl,.inr ⟨by omega,by omega⟩,w0,by simp,hR _ _ _ _ mr (by omega) (by omega)⟩
abbrev fL(V:Bx):Prop:=V.D 1 "mirrored" iZ uj
theorem xt(T:V.T "mirrored" iY iZ):fL V:=by
 refine Tx.okDW T wn (λds R h=>?_) (λf cdv A outer s H E J hr=>⟨_,((aD (aW (bw (ac (ai (aa 0) ae) (ac (ai (aa 0) ae) (ac (bj (ce (ai (aa 0) ae)) (ai (aa 0) ae)) af))))))),λds R h=>?_⟩)
 ·obtain⟨w,h,s,rfl,_⟩:=h;rfl
 ·obtain⟨w,h,s,rfl,hw,hR⟩:=h
  exact⟨_,rfl,_,rfl,_,rfl,_,rfl,hw,by simp,hR⟩
abbrev fM(V:Bx):Prop:=V.D 3 "turned" jb uk
theorem xu(T:V.T "turned" ja jb)(uAA:fB V):fM V:=by
 refine Tx.okDW T wo (λds R h=>?_) (λf cdv A outer s H E J hr=>⟨_,((aD (aW (aV uAA hr (ac (bw (ac ae (ac (ai (aa 0) ae) af))) (ac (bw (ac (ce (ai (aa 0) ae)) (ac (ai (aa 0) ae) af))) af)))))),λds R h=>?_⟩)
 ·obtain⟨w,h,s,rfl,_⟩:=h;rfl
 ·obtain⟨w,h,s,rfl,hw,hh,hw2,hh2,hs,hs2,hR⟩:=h
  have hp:0<w*h:=yd hw hh
  have hn:¬ 0*s=w* -h:=by rw[yI];omega
  exact⟨_,rfl,by simp,_,rfl,_,rfl,by simp,0,w,-h,s,rfl,by omega,by omega,by omega,by omega,λe=>absurd e hn,λ_ w' h' s' f=>hR w' h' s' f⟩
theorem ok_Motif_family{n j:Nat}(hL:3<=n)(T:V.Tm "Motif" "family" "Motif.family" eY bI)(uI:V.a "Motif" "shifts")(uP:V.a "Motif" "place")(uL:fJ V):V.Q (n+1) "Motif" "family" bI (ofX (bp (j+1) "Motif")):=by
 refine Txm.okM T wp (λds M R RX h=>?_) (λf cdv A outer s H E J hr hx=>⟨_,((ar (bB (lP (aJ uI (ag (aa 0))) (ag fZ)) (ay (gB (hn:=by omega) uL hr hx rfl (aF (aJ uP (ag (aa 0))) aS))) bq)
   (ay (aE (aJ uI (ag (aa 0))))))),λds M R RX hRX h=>?_⟩)
 ·obtain⟨_,_,_,rfl,_⟩:=h;rfl
 ·obtain⟨p,k,v,rfl,hv,hs,hd,hc,hcal,hX,hR⟩:=h
  cases p with
  |over p q=>exact absurd (show("Over":Str)="Motif" from hc) (by decide+kernel)
  |sh a b p=>exact absurd (show("Shifted":Str)="Motif" from hc) (by decide+kernel)
  |mir p=>exact absurd (show("Mirror":Str)="Motif" from hc) (by decide+kernel)
  |tur p=>exact absurd (show("Turn":Str)="Motif" from hc) (by decide+kernel)
  |hue f g p=>exact absurd (show("Rehue":Str)="Motif" from hc) (by decide+kernel)
  |mot L a b c d=>
   obtain⟨sh,hu,rfl,h0,h1⟩:=hv
   refine⟨_,⟨rfl,rfl⟩,_,mZ,?_⟩
   by_cases e:a*d=b*c
   ·rw[h0 e]
    refine⟨_,⟨rfl,rfl⟩,_,vJ,by show(1:Nat)<=1000;decide,(k:Int),rfl,?_⟩
    rw[hRX]
    exact hX k (by rw[Pat.lineAt,if_pos e])
   ·obtain⟨w,h,s,F,rfl,rfl⟩:=h1 e
    exact⟨_,⟨rfl,rfl⟩,_,mZ,hR (by rw[Pat.lineAt,if_neg e]) w h s (Pat.Fam.mot F)⟩
theorem xx{n j:Nat}(hL:3<=n)(T:V.Tm "Over" "family" "Over.family" eZ fb)(uAL:fK V)(uO:V.a "Over" "above")(uS:V.a "Over" "below")(uB:∀ x,x∈(["Motif","Over","Shifted","Mirror","Turn","Rehue"]:List Str)->V.Q n x "family" bI (ofX (bp j x))):V.Q (n+1) "Over" "family" fb (ofX (bp (j+1) "Over")):=by
 refine Txm.okM T sc_Over_family (λds M R RX h=>?_) (λf cdv A outer s H E J hr hx=>⟨_,((ar (aI 1 sc_Over_family.nd (cz (hn:=by omega) uB hx hr (aJ uO (ag (aa 0)))))
   (ay (aE (aH (hn:=by omega) (CalD.toM uAL) hx hr (aF (ag (aa 1)) (aF (cz (hn:=by omega) uB hx hr (aJ uS (ag (aa 0)))) aS))))))),λds M R RX hRX h=>?_⟩)
 ·obtain⟨_,_,_,rfl,_⟩:=h;rfl
 ·obtain⟨p,k,v,rfl,hv,hs,hd,hc,hcal,hX,hR⟩:=h
  cases p with
  |mot L a b c d=>exact absurd (show("Motif":Str)="Over" from hc) (by decide+kernel)
  |sh a b p=>exact absurd (show("Shifted":Str)="Over" from hc) (by decide+kernel)
  |mir p=>exact absurd (show("Mirror":Str)="Over" from hc) (by decide+kernel)
  |tur p=>exact absurd (show("Turn":Str)="Over" from hc) (by decide+kernel)
  |hue f g p=>exact absurd (show("Rehue":Str)="Over" from hc) (by decide+kernel)
  |over p q=>
   obtain⟨u,u',rfl,hu,hu'⟩:=hv
   obtain⟨fs,rfl,hf,_⟩:=hu.objm
   obtain⟨gs,rfl,hg,_⟩:=hu'.objm
   rw[Pat.depth] at hd
   refine⟨λd M'=>(∃ w h s,p.lineAt (k+1)=none/\p.Fam w h s/\d= .tup [.int w,.int h,.int s])/\M'=M,⟨_,⟨rfl,rfl⟩,_,rfl,p.cls,p.cls_mem,fs,⟨rfl,rfl⟩,hf,p,k+1,_,rfl,hu,hs.1,by omega,rfl,hcal.1,λi hi=>?_,λhn w h s F=>⟨⟨w,h,s,hn,F,rfl⟩,rfl⟩⟩,?_⟩
   ·rw[hRX]
    exact hX i (by rw[Pat.lineAt,hi])
   rintro _ _ ⟨⟨w1,h1,s1,hn1,F1,rfl⟩,rfl⟩;k_places
   refine⟨_,⟨rfl,rfl⟩,_,gQ (by decide+kernel),q.cls,q.cls_mem,gs,⟨rfl,rfl⟩,hg,q,k+1+p.tl.length+1,_,rfl,hu',hs.2,by omega,rfl,hcal.2.1,λi hi=>?_,λhn2 w2 h2 s2 F2=>?_⟩
   ·rw[hRX]
    exact hX i (by rw[Pat.lineAt,hn1];exact hi)
   ·obtain⟨f1,f2⟩:=hcal.2.2 (Pat.line_wf _ hs.1 hn1) (Pat.line_wf _ hs.2 hn2)
    obtain⟨a1,a2,a3,a4,a5,a6⟩:=f1.small F1
    obtain⟨b1,b2,b3,b4,b5,b6⟩:=f2.small F2
    exact⟨w1,h1,s1,w2,h2,s2,rfl,a1,a2,a3,a4,a5,a6,b1,b2,b3,b4,b5,b6,λw h s A MR _ _=>hR (by rw[Pat.lineAt,hn1];exact hn2) w h s (Pat.Fam.over F1 F2 MR)⟩
theorem xy{n j:Nat}(hL:3<=n)(T:V.Tm "Shifted" "family" "Shifted.family" fg fj)(uN:V.a "Shifted" "form")(uB:∀ x,x∈(["Motif","Over","Shifted","Mirror","Turn","Rehue"]:List Str)->V.Q n x "family" bI (ofX (bp j x))):V.Q (n+1) "Shifted" "family" fj (ofX (bp (j+1) "Shifted")):=by
 refine Txm.okM T wq (λds M R RX h=>?_) (λf cdv A outer s H E J hr hx=>⟨_,((ay (aE (cz (hn:=by omega) uB hx hr (aJ uN (ag (aa 0))))))),λds M R RX hRX h=>?_⟩)
 ·obtain⟨_,_,_,rfl,_⟩:=h;rfl
 ·obtain⟨p,k,v,rfl,hv,hs,hd,hc,hcal,hX,hR⟩:=h
  cases p with
  |mot L a b c d=>exact absurd (show("Motif":Str)="Shifted" from hc) (by decide+kernel)
  |over p q=>exact absurd (show("Over":Str)="Shifted" from hc) (by decide+kernel)
  |mir p=>exact absurd (show("Mirror":Str)="Shifted" from hc) (by decide+kernel)
  |tur p=>exact absurd (show("Turn":Str)="Shifted" from hc) (by decide+kernel)
  |hue f g p=>exact absurd (show("Rehue":Str)="Shifted" from hc) (by decide+kernel)
  |sh a b p=>
   obtain⟨u,rfl,hu⟩:=hv
   obtain⟨fs,rfl,hf,_⟩:=hu.objm
   rw[Pat.depth] at hd
   refine⟨_,⟨rfl,rfl⟩,_,rfl,p.cls,p.cls_mem,fs,⟨rfl,rfl⟩,hf,p,_,_,rfl,hu,hs.2.2,by omega,rfl,hcal,λi hi=>?_,λhn w h s F=>?_⟩
   ·rw[hRX]
    exact hX i (by rw[Pat.lineAt];exact hi)
   ·exact hR (by rw[Pat.lineAt];exact hn) w h s (F.sh a b)
theorem xz{n j:Nat}(hL:3<=n)(T:V.Tm "Mirror" "family" "Mirror.family" fk fm)(uAD:fL V)(uT:V.a "Mirror" "form")(uB:∀ x,x∈(["Motif","Over","Shifted","Mirror","Turn","Rehue"]:List Str)->V.Q n x "family" bI (ofX (bp j x))):V.Q (n+1) "Mirror" "family" fm (ofX (bp (j+1) "Mirror")):=by
 refine Txm.okM T wr (λds M R RX h=>?_) (λf cdv A outer s H E J hr hx=>⟨_,((ay (aE (aH (hn:=by omega) (CalD.toM uAD) hx hr (aF (cz (hn:=by omega) uB hx hr (aJ uT (ag (aa 0)))) aS))))),λds M R RX hRX h=>?_⟩)
 ·obtain⟨_,_,_,rfl,_⟩:=h;rfl
 ·obtain⟨p,k,v,rfl,hv,hs,hd,hc,hcal,hX,hR⟩:=h
  cases p with
  |mot L a b c d=>exact absurd (show("Motif":Str)="Mirror" from hc) (by decide+kernel)
  |over p q=>exact absurd (show("Over":Str)="Mirror" from hc) (by decide+kernel)
  |sh a b p=>exact absurd (show("Shifted":Str)="Mirror" from hc) (by decide+kernel)
  |tur p=>exact absurd (show("Turn":Str)="Mirror" from hc) (by decide+kernel)
  |hue f g p=>exact absurd (show("Rehue":Str)="Mirror" from hc) (by decide+kernel)
  |mir p=>
   obtain⟨u,rfl,hu⟩:=hv
   obtain⟨fs,rfl,hf,_⟩:=hu.objm
   rw[Pat.depth] at hd
   refine⟨_,⟨rfl,rfl⟩,_,rfl,p.cls,p.cls_mem,fs,⟨rfl,rfl⟩,hf,p,_,_,rfl,hu,hs,by omega,rfl,hcal,λi hi=>?_,λhn w h s F=>?_⟩
   ·rw[hRX]
    exact hX i (by rw[Pat.lineAt];exact hi)
   ·exact⟨w,h,s,rfl,F.f.w0,hR (by rw[Pat.lineAt];exact hn) w h _ F.mir⟩
theorem xA{n j:Nat}(hL:3<=n)(T:V.Tm "Turn" "family" "Turn.family" fo fq)(uAH:fM V)(uR:V.a "Turn" "form")(uB:∀ x,x∈(["Motif","Over","Shifted","Mirror","Turn","Rehue"]:List Str)->V.Q n x "family" bI (ofX (bp j x))):V.Q (n+1) "Turn" "family" fq (ofX (bp (j+1) "Turn")):=by
 refine Txm.okM T wt (λds M R RX h=>?_) (λf cdv A outer s H E J hr hx=>⟨_,((ay (aE (aH (hn:=by omega) (CalD.toM uAH) hx hr (aF (cz (hn:=by omega) uB hx hr (aJ uR (ag (aa 0)))) aS))))),λds M R RX hRX h=>?_⟩)
 ·obtain⟨_,_,_,rfl,_⟩:=h;rfl
 ·obtain⟨p,k,v,rfl,hv,hs,hd,hc,hcal,hX,hR⟩:=h
  cases p with
  |mot L a b c d=>exact absurd (show("Motif":Str)="Turn" from hc) (by decide+kernel)
  |over p q=>exact absurd (show("Over":Str)="Turn" from hc) (by decide+kernel)
  |sh a b p=>exact absurd (show("Shifted":Str)="Turn" from hc) (by decide+kernel)
  |mir p=>exact absurd (show("Mirror":Str)="Turn" from hc) (by decide+kernel)
  |hue f g p=>exact absurd (show("Rehue":Str)="Turn" from hc) (by decide+kernel)
  |tur p=>
   obtain⟨u,rfl,hu⟩:=hv
   obtain⟨fs,rfl,hf,_⟩:=hu.objm
   rw[Pat.depth] at hd
   refine⟨_,⟨rfl,rfl⟩,_,rfl,p.cls,p.cls_mem,fs,⟨rfl,rfl⟩,hf,p,_,_,rfl,hu,hs,by omega,rfl,hcal.1,λi hi=>?_,λhn w h s F=>?_⟩
   ·rw[hRX]
    exact hX i (by rw[Pat.lineAt];exact hi)
   ·obtain⟨a1,a2,a3,a4,a5,a6⟩:=(hcal.2 (Pat.line_wf _ hs hn)).small F
    exact⟨w,h,s,rfl,a1,a3,by omega,by omega,a5,by omega,λw' h' s' F'=>hR (by rw[Pat.lineAt];exact hn) w' h' s' (F.tur F')⟩
theorem xB{n j:Nat}(hL:3<=n)(T:V.Tm "Rehue" "family" "Rehue.family" ft fu)(uQ:V.a "Rehue" "form")(uB:∀ x,x∈(["Motif","Over","Shifted","Mirror","Turn","Rehue"]:List Str)->V.Q n x "family" bI (ofX (bp j x))):V.Q (n+1) "Rehue" "family" fu (ofX (bp (j+1) "Rehue")):=by
 refine Txm.okM T wu (λds M R RX h=>?_) (λf cdv A outer s H E J hr hx=>⟨_,((ay (aE (cz (hn:=by omega) uB hx hr (aJ uQ (ag (aa 0))))))),λds M R RX hRX h=>?_⟩)
 ·obtain⟨_,_,_,rfl,_⟩:=h;rfl
 ·obtain⟨p,k,v,rfl,hv,hs,hd,hc,hcal,hX,hR⟩:=h
  cases p with
  |mot L a b c d=>exact absurd (show("Motif":Str)="Rehue" from hc) (by decide+kernel)
  |over p q=>exact absurd (show("Over":Str)="Rehue" from hc) (by decide+kernel)
  |sh a b p=>exact absurd (show("Shifted":Str)="Rehue" from hc) (by decide+kernel)
  |mir p=>exact absurd (show("Mirror":Str)="Rehue" from hc) (by decide+kernel)
  |tur p=>exact absurd (show("Turn":Str)="Rehue" from hc) (by decide+kernel)
  |hue f g p=>
   obtain⟨u,rfl,hu⟩:=hv
   obtain⟨fs,rfl,hf,_⟩:=hu.objm
   rw[Pat.depth] at hd
   refine⟨_,⟨rfl,rfl⟩,_,rfl,p.cls,p.cls_mem,fs,⟨rfl,rfl⟩,hf,p,_,_,rfl,hu,hs.2.2,by omega,rfl,hcal,λi hi=>?_,λhn w h s F=>?_⟩
   ·rw[hRX]
    exact hX i (by rw[Pat.lineAt];exact hi)
   ·exact hR (by rw[Pat.lineAt];exact hn) w h s (F.hue f g)
theorem xC(uCJ:V.Tm "Motif" "family" "Motif.family" eY bI)(uCF:V.Tm "Over" "family" "Over.family" eZ fb)(uCC:V.Tm "Shifted" "family" "Shifted.family" fg fj)(uCG:V.Tm "Mirror" "family" "Mirror.family" fk fm)(uCK:V.Tm "Turn" "family" "Turn.family" fo fq)(uCD:V.Tm "Rehue" "family" "Rehue.family" ft fu)(uI:V.a "Motif" "shifts")(uP:V.a "Motif" "place")(uL:fJ V)(uAL:fK V)(uO:V.a "Over" "above")(uS:V.a "Over" "below")(uN:V.a "Shifted" "form")(uAD:fL V)(uT:V.a "Mirror" "form")(uAH:fM V)(uR:V.a "Turn" "form")(uQ:V.a "Rehue" "form"):∀ j x,x∈(["Motif","Over","Shifted","Mirror","Turn","Rehue"]:List Str)->V.Q (3+j) x "family" bI (ofX (bp j x)):=by
 intro j
 induction j with
 |zero=>
  intro x hx
  simp only[xP,zd,or_false] at hx
  rcases hx with rfl|rfl|rfl|rfl|rfl|rfl
  ·exact CalMth.never uCJ (λds M R RX=>cW)
  ·exact CalMth.never uCF (λds M R RX=>cW)
  ·exact CalMth.never uCC (λds M R RX=>cW)
  ·exact CalMth.never uCG (λds M R RX=>cW)
  ·exact CalMth.never uCK (λds M R RX=>cW)
  ·exact CalMth.never uCD (λds M R RX=>cW)
 |succ j uB'=>
  intro x hx
  simp only[xP,zd,or_false] at hx
  rcases hx with rfl|rfl|rfl|rfl|rfl|rfl
  ·exact ok_Motif_family (n:=3+j) (j:=j) (by omega) uCJ uI uP uL
  ·exact xx (n:=3+j) (j:=j) (by omega) uCF uAL uO uS uB'
  ·exact xy (n:=3+j) (j:=j) (by omega) uCC uN uB'
  ·exact xz (n:=3+j) (j:=j) (by omega) uCG uAD uT uB'
  ·exact xA (n:=3+j) (j:=j) (by omega) uCK uAH uR uB'
  ·exact xB (n:=3+j) (j:=j) (by omega) uCD uQ uB'
abbrev nA(V:Bx):Prop:=V.MM 18 "form_from" bS (cn 6)
abbrev nB(V:Bx):Prop:=∀ x,x∈(["Motif","Over","Shifted","Mirror","Turn","Rehue"]:List Str)->V.Q 9 x "family" bI (ofX (bp 6 x))
abbrev jw(V:Bx):Prop:=V.X 19 "read" jd gR
theorem xD(T:V.T "read" jc jd)(uD:V.m "len")(uE:nA V)(uBS:V.gi "MOST" 720)(uC:V.a "Reading" "place")(uBA:jt V)(uBB:ju V)(uB:nB V)(uJ:fz V)(uAY:V.n "TooGreat"):jw V:=by
 refine CalMM.nilX (Tx.okM T sc_read (λds M R RX h=>?_) (λf cdv A outer s H E J hr hx=>⟨_,((ar (aI 1 sc_read.nd (sO uBA hr (aw (ac (aa 0) af))))
   (ar (aI 2 sc_read.nd (aH uE hx hr (aw (ac (aa 1) (ac ae af)))))
   (ar (bB (lN (aJ uC (ag (aa 1))) (ag (dR uD (ac (aa 0) af)))) (ay (gB uJ hr hx rfl (aF (aJ uC (ag (aa 1))) aS))) bq)
   (ar (aI 3 sc_read.nd (cz uB hx hr (ag (aa 2))))
   (ar (bB (bG (qS (aY (ai (aa 3) ae) (ai (aa 3) ae)) (ei uBS))) (ay (sT uAY hx rfl (aw (ac aj af)))) bq)
   (ay (aE (ag (gq uBB hr (ac (aa 0) (ac (aa 3) (ac (aa 2) af))))))))))))),λds M R RX hRX h=>?_⟩))
 ·obtain⟨_,R0,RX0,h,_⟩:=h
  rcases h with⟨_,_,rfl,_⟩|⟨_,rfl,_⟩<;>rfl
 ·obtain⟨rfl,R0,RX0,h,hR,hX⟩:=h
  obtain⟨t,ht,ht2,hcase⟩:∃ t:Str,ds=[.str t]/\t.length<=100000/\((∃ k:Nat,bP t=some k/\RX0 "WrongSign" [("place",.int k)])\/∃ p:Pat,t=p.text/\p.Syn/\p.depth<=5/\p.Cal/\(∀ k:Nat,p.lineAt 0=some k->RX0 "OneLine" [("place",.int k)])/\(p.lineAt 0=none->¬ p.Fits->RX0 "TooGreat" [])/\(p.lineAt 0=none->p.Fits->∀ d,ng p d->R0 d)):=by
   rcases h with⟨t,k,e,h1,h2,h3⟩|⟨p,e,h1,h2,h3⟩
   ·exact⟨t,e,h1,.inl ⟨k,h2,h3⟩⟩
   ·exact⟨p.text,e,by have:=Pat.syn_short h1 h2;omega,.inr ⟨p,rfl,h1,h2,h3⟩⟩
  subst ht
  have hat:At t 0 (cs t):=⟨rfl,yj _,ht2⟩
  refine⟨λd M'=>∃ a,d= .ptr a/\M'=RdM a t 0,⟨t,rfl,λa _=>⟨a,rfl,rfl⟩⟩,?_⟩
  rintro _ _ ⟨a,rfl,rfl⟩;k_places
  refine⟨λv M'=>∃ p l',p.Syn/\p.depth<=5/\cs t=p.tl++l'/\FormOf p 0 v/\M'=RdM a t p.tl.length,⟨a,t,0,cs t,0,rfl,rfl,hat,rfl,by decide,λp l' h1 h2 h3 v h4=>⟨p,l',h1,by omega,h3,h4,by rw[zx]⟩,λi hi M'=>?_⟩,?_⟩
  ·rw[hRX]
   have hw:bP t=some i:=hi []
   rcases hcase with⟨k,h1,h2⟩|⟨p,rfl,h1,h2,_⟩
   ·rw[hw] at h1
    cases h1
    exact hX _ _ _ h2
   ·rw[mI h1 h2] at hw
    cases hw
  rintro v _ ⟨p,l',hp,hpd,hl,hv,rfl⟩;k_places
  have hw:bP t=walk [] l' p.tl.length:=by
   unfold bP
   rw[hl,bQ hp 0 [] l' 0 (by omega),zx]
  have hlen:t.length=p.tl.length+l'.length:=by rw[<- bc,hl,xT]
  refine⟨_,aB,_,cj,by omega,ite2 (λc=>?_) (λc=>?_)⟩
  ·have c':=of_decide_eq_true c
   refine⟨_,aB,_,cj,by show(1:Nat)<=1000;decide,(p.tl.length:Int),rfl,?_⟩
   rw[hRX]
   have hw2:bP t=some p.tl.length:=by
    rw[hw]
    cases l' with
    |nil=>simp at hlen;omega
    |cons c l=>simp[walk,step,ao,aq]
   rcases hcase with⟨k,h1,h2⟩|⟨q,rfl,h1,h2,_⟩
   ·rw[hw2] at h1
    cases h1
    exact hX _ _ _ h2
   ·rw[mI h1 h2] at hw2
    cases hw2
  have c':¬ ((p.tl.length:Int)<(t.length:Int)):=λz=>c (decide_eq_true z)
  have hl0:l'=[]:=zN (by omega)
  subst hl0
  rcases hcase with⟨k,h1,h2⟩|⟨q,rfl,h1,h2,hcal,hone,hgreat,hgood⟩
  ·rw[hw] at h1
   cases h1
  obtain⟨rfl,_⟩:=vO (p:=q) (q:=p) (x:=[]) (y:=[]) h1 hp (by rw[<- bX,hl];simp)
  obtain⟨fs,rfl,hf,_⟩:=hv.objm
  refine⟨λd M'=>∃ w h s,q.lineAt 0=none/\q.Fam w h s/\d= .tup [.int w,.int h,.int s],⟨q.cls,q.cls_mem,fs,⟨rfl,rfl⟩,hf,q,0,_,rfl,hv,hp,by omega,rfl,hcal,λi hi=>?_,λhn w h s F=>⟨w,h,s,hn,F,rfl⟩⟩,?_⟩
  ·rw[hRX]
   exact hX _ _ _ (hone i hi)
  rintro _ M' ⟨w,h,s,hn,F,rfl⟩;k_places
  have hwf:=Pat.line_wf 0 hp hn
  have hw6:=Pat.cal_w hwf hcal F
  have hw0:=F.f.w0
  refine⟨_,rfl,_,rfl,.inl ⟨by omega,by omega⟩,ite2 (λc=>?_) (λc=>?_)⟩
  ·have c2:=of_decide_eq_true c
   refine⟨by show(1:Nat)<=1000;decide,?_⟩
   rw[hRX]
   refine hX _ _ _ (hgreat hn λ⟨w',h',s',F',hb⟩=>?_)
   obtain⟨rfl,rfl,_⟩:=F.uniq F'
   omega
  ·have c2:¬ (720<w*h):=λz=>c (decide_eq_true z)
   refine⟨_,_,_,_,_,_,rfl,hR _ _ (hgood hn ⟨w,h,s,F,by omega⟩ _ ⟨w,h,s,_,rfl,rfl,gQ (by decide+kernel),⟨F,0,_,vK (by decide+kernel) (by decide+kernel),hv⟩⟩)⟩
abbrev jx(V:Bx):Prop:=V.D 1 "_law_whole" jg ue
theorem xE(T:V.T "_law_whole" je jg)(uAV:V.m "isinstance")(uAX:V.m "bool")(uG:V.m "int"):jx V:=by
 refine Tx.okDW T wv (λds R h=>?_) (λf cdv A outer s H E J hr=>⟨_,((aD (aW (gh (kT uAV uG (aa 0) PyProof.Rows.boot_int qZ) (kR (kS (kT uAV uAX (aa 0) PyProof.Rows.boot_bool kit_bool))))))),λds R h=>?_⟩)
 ·obtain⟨i,rfl,_⟩:=h;rfl
 ·obtain⟨i,rfl,hR⟩:=h
  exact hR
abbrev nC(V:Bx):Prop:=V.Ek ["MotifError","WrongSign","OneLine","TooGreat"]
theorem xF{fa:Addr}{fd:FuncData}(F:Fun V.K "law" "law" dF fa fd)(uK:V.m "str")(uH:V.m "range")(uD:V.m "len")(uV:jj V)(uBT:jk V)(uBE:jl V)(uBR:jw V)(uBD:jx V)(uBK:V.x "place" ["WrongSign","OneLine"])(ek:nC V):FnOk V.P V.w V.K V.mg V.base (Exc.CX1 V.P V.w) 20 fa fd jh (lSp V.K cN):=by
 refine Fun.okDW F sc_law (λds R h=>?_) (λcdv A outer s H E J hr=>⟨_,((au (tV 1 rfl (compScope (by change gm _ (ad dF) ["_law_script","_law_words","_law_spot","_law_ends","_law_lines","_law_text","_law_place","_law_k","_law_wrong","_law_told","_law_good","e"] _=true;decide+kernel)) sc_law.nd uH ae (λcl s0 H0 fp=>(dZ uK (ac (aN ae (bj (aV uV hr (ac (aa 0) (ac (aN ae (aa 12)) af))) ae)) af))))
   (au (lx 1 aj ae)
   (au (ax 2 sc_law.nd (bj (aV uV hr (ac (aa 0) (ac ae af))) ae))
   (au (lx 1 (aV uBT hr (ac (aV uV hr (ac (aa 0) (ac ae af))) (ac (bj (aV uV hr (ac (aa 0) (ac ae af))) ae) af))) (aa 2))
   (au (ax 3 sc_law.nd (dq (ac aj (ac aj (ac aj (ac aj (ac aj (ac aj af))))))))
   (au (ax 4 sc_law.nd (ai (dq (ac aj (ac aj (ac aj af)))) (bj (aV uV hr (ac (aa 0) (ac ae af))) ae)))
   (au (ax 5 sc_law.nd aj)
   (au (ax 6 sc_law.nd ae)
   (au (kX 7 PassesOwn.never rfl sc_law.nd uH ae (au (cg (bn (aa 7) ae) (aD (ax 5 sc_law.nd (aN (aN (aN (aa 5) aj) (aa 4)) aj))) bz)
    (au (cg (bn (aa 7) (aa 2)) (aD (ax 6 sc_law.nd (dR uD (ac (aa 5) af)))) bz)
    (aD (ax 5 sc_law.nd (aN (aN (aa 5) (lh 1 (aa 7))) (ai (aa 3) (aa 7))))))))
   (au (ax 8 sc_law.nd (aV uBE hr (ac (lh 1 (aa 2)) (ac (ai (aa 3) (aa 2)) af))))
   (au (ax 9 sc_law.nd (ce ae))
   (au (ax 10 sc_law.nd dm)
   (au (sv (λpn xe J hp hx=>(au (rg (rH uBR hx hr (ac (aa 5) af)))
    (aD (ax 10 sc_law.nd dm)))) (rQ 11 ek sc_law.nd (λe=>(aD (ax 9 sc_law.nd (rT uBK (aa 11))))) (rP ek (λe=>(aD (ax 10 sc_law.nd dm))) rO)))
   (au (eE (bn (aa 8) (ce ae)) (aD (aW (aa 10))) bz)
   (aD (aW (gh (kS (aa 10)) (gh (aV uBD hr (ac (aa 9) af)) (kR (qL (aa 9) (aN (aa 6) (aa 8))))))))))))))))))))))),λds R h=>?_⟩)
 ·obtain⟨ns,rfl,_⟩:=h;rfl
 ·obtain⟨ns,rfl,hl,hR⟩:=h
  refine⟨⟨by decide,by decide⟩,by rw[cR];decide,λk ys=>ys=(xR k).map λ(i:Nat)=>D.str (cq ns i),rfl,?_,?_⟩
  ·rintro k v ys hk hy rfl
   obtain⟨hk2,rfl⟩:=range_int hk
   refine⟨ns,_,rfl,by omega,by decide,by omega,?_⟩
   show _=yR _ (xR (k+1))
   rw[Am,yZ]
   rfl
  rintro ys hy rfl
  obtain⟨s,hs,s6⟩:∃ s:Nat,cell ns 0 % 6=(s:Int)/\s<6:=⟨(cell ns 0 % 6).toNat,by omega,by omega⟩
  refine⟨4,rfl,λd=>d= .int (s:Int),⟨ns,0,rfl,by decide,by decide,by rw[hs]⟩,?_⟩
  rintro _ rfl;k_places
  refine⟨ns,1,rfl,by decide,ns,2,rfl,by decide,by decide,_,_,rfl,λu hu=>⟨s,?_,?_⟩⟩
  ·rw[yy,yg,AI,cR]
   unfold ixN
   rw[if_pos (by omega),if_pos (by show(s:Int)<6;omega),zE]
  have ew:((yR (λi=>D.str (cq ns i)) (xR (yR (λk=>D.int ((k:Nat):Int)) (xR (Int.toNat 6))).length)).set 4 (D.str "0")).set s (D.str u)=(xR 6).map λi=>D.str (bD ns s u i):=by
   rw[cR]
   exact wF ns s u
  rw[ew]
  clear ew hy
  have hn:=λi (h:i≠s)=>(ny ns s u h).1
  have wl:∀ i,(bD ns s u i).length<=8:=λi=>by
   by_cases h:i=s
   ·unfold bD;rw[if_pos h];exact hu.le
   ·exact(ny ns s u h).2
  have es:bD ns s u s=u:=if_pos rfl
  rw[<- es] at hu
  clear es
  generalize bD ns s u=wd at*
  refine⟨λd=>d= .lst [.str ",",.str ":",.str ",",.str ";",.str ",",.str "]"],⟨by show(6:Nat)<=1000;decide,rfl⟩,?_⟩
  rintro _ rfl;k_places
  obtain⟨ln,L,hln,l3,rows,el⟩:=wG (i:=cell ns 3 % 3) (by omega)
  refine⟨λd=>d= .str ln,⟨by show(3:Nat)<=1000;decide,ns,3,rfl,by decide,by decide,_,hln,rfl⟩,?_⟩
  rintro _ rfl;k_places
  refine⟨λd=>d= .str "s",rfl,?_⟩
  rintro _ rfl;k_places
  refine⟨λd=>d= .int 0,rfl,?_⟩
  rintro _ rfl;k_places
  have own_at:∀ k:Nat,k<6->atI ((xR 6).map λi=>D.str (wd i)) (k:Int)=some (.str (wd k)):=λk h=>de (by rw[yn,List.getElem?_range h];rfl)
  refine⟨⟨by decide,by decide⟩,λk z=>∃ (t:Str) (pl:Int) (o7:Option D),z=[some (.rol (ns.map D.int)),some (.own ((xR 6).map λi=>D.str (wd i))),some (.int s),some (.lst [.str ",",.str ":",.str ",",.str ";",.str ",",.str "]"]),some (.str ln),some (.str t),some (.int pl),o7,none,none,none,none]/\cs t=preT wd (rowsL (L.map cs)) k/\t.length<=20+20*k/\(s<k->pl=bt wd (rowsL (L.map cs)) s),⟨"s",0,_,rfl,rfl,by decide,λz=>absurd z (zU _)⟩,?_,?_⟩
  ·rintro k v z hk ⟨t,pl,o7,rfl,ht,tl,hp⟩;k_places
   obtain⟨hk2,rfl⟩:=range_int hk
   have k6:k<6:=hk2
   have c1:("[":Str).length=1:=rfl
   have c2:(";":Str).length=1:=rfl
   refine⟨λz=>∃ t:Str,z=[some (.rol (ns.map D.int)),some (.own ((xR 6).map λi=>D.str (wd i))),some (.int s),some (.lst [.str ",",.str ":",.str ",",.str ";",.str ",",.str "]"]),some (.str ln),some (.str t),some (.int pl),some (.int k),none,none,none,none]/\cs t=preT wd (rowsL (L.map cs)) k++(if k=2 then 91::(rowsL (L.map cs)++[59]) else[])/\t.length<=26+20*k,ite2 (λc=>?_) (λc=>?_),?_⟩
   ·have c':k=2:=by have:=of_decide_eq_true c;omega
    refine⟨λd=>d= .str (((t++"[")++ln)++";"),⟨by omega,by rw[aR];omega,by rw[aR,aR];omega,rfl⟩,?_⟩
    rintro _ rfl;k_places
    refine⟨_,rfl,?_,by rw[aR,aR,aR];omega⟩
    rw[if_pos c',aQ,aQ,aQ,ht,el,ye,ye]
    rfl
   ·have c':¬ k=2:=λz=>c (decide_eq_true (by omega))
    exact⟨t,rfl,by rw[if_neg c',yf,ht],by omega⟩
   rintro _ ⟨t1,rfl,ht1,tl1⟩;k_places
   refine⟨λz=>∃ pl:Int,z=[some (.rol (ns.map D.int)),some (.own ((xR 6).map λi=>D.str (wd i))),some (.int s),some (.lst [.str ",",.str ":",.str ",",.str ";",.str ",",.str "]"]),some (.str ln),some (.str t1),some (.int pl),some (.int k),none,none,none,none]/\(s<k+1->pl=bt wd (rowsL (L.map cs)) s),ite2 (λc=>?_) (λc=>?_),?_⟩
   ·have c':k=s:=by have:=of_decide_eq_true c;omega
    subst c'
    refine⟨λd=>d= .int (t1.length:Int),⟨by omega,rfl⟩,?_⟩
    rintro _ rfl;k_places
    refine⟨_,rfl,λ_=>?_⟩
    rw[<- bc,ht1,xT]
    unfold bt
    split
    ·simp;omega
    ·simp
   ·have c':¬ k=s:=λz=>c (decide_eq_true (by omega))
    exact⟨pl,rfl,λq=>hp (by omega)⟩
   rintro _ ⟨pl1,rfl,hp1⟩;k_places
   have wk:=wl k
   have ek:(⟨#[endN k]⟩:Str).length=1:=rfl
   refine⟨λd=>d= .str ((t1++wd k)++⟨#[endN k]⟩),⟨_,own_at k k6,by omega,_,nz k6,by rw[aR];omega,rfl⟩,?_⟩
   rintro _ rfl;k_places
   refine⟨_,_,_,rfl,?_,by rw[aR,aR];omega,hp1⟩
   rw[aQ,aQ,ht1,preT,segN,ye,ye]
  rintro z ⟨t,pl,o7,rfl,ht,tl,hp⟩;k_places
  rw[cR] at ht tl hp
  have ht:cs t=preT wd (rowsL (L.map cs)) 6:=ht
  have tl:t.length<=140:=tl
  have hp:=hp s6
  subst hp
  have nx:∀ y∈cs (wd s),y≠endN s:=λy hy=>by have:=hu.no y hy;have:=dG s;unfold endS at this;omega
  refine⟨λd=>∃ w:Int,d= .int w/\((w=-1/\isNumL (cs (wd s)))\/∃ k:Nat,w=k/\WrongIn (endN s) (cs (wd s)) k),⟨_,own_at s s6,_,nz s6,wd s,⟨#[endN s]⟩,endN s,rfl,rfl,dG s,hu,λh=>⟨_,rfl,.inl ⟨rfl,wA nx (dG s) (by rw[bc];exact h)⟩⟩,λk hk=>⟨_,rfl,.inr ⟨k,rfl,hk⟩⟩⟩,?_⟩
  rintro _ ⟨w,rfl,hw⟩;k_places
  refine⟨λd=>d= .int (-1),rfl,?_⟩
  rintro _ rfl;k_places
  refine⟨λd=>d= .bl false,rfl,?_⟩
  rintro _ rfl;k_places
  rcases hw with⟨rfl,hg⟩|⟨k,rfl,hk⟩
  ·obtain⟨p,et,syn,dp,cal,fit⟩:=wE rows (λi _=>if h:i=s then h ▸ hg else hn i h) ht
   refine⟨λz x fs=>z=[some (.rol (ns.map D.int)),some (.own ((xR 6).map λi=>D.str (wd i))),some (.int s),some (.lst [.str ",",.str ":",.str ",",.str ";",.str ",",.str "]"]),some (.str ln),some (.str t),some (.int (bt wd (rowsL (L.map cs)) s)),o7,some (.int (-1)),some (.int (-1)),some (.bl false),none]/\x="OneLine",λJ' hJ=>?_,?_⟩
   ·show gR [.str t] _ (J'.RX _)
    rw[hJ]
    refine .inr ⟨p,by rw[et],syn,dp,cal,λk _=>⟨rfl,rfl⟩,λh1 h2=>absurd (fit h1) h2,λ_ _ d hd=>?_⟩
    refine⟨λd=>d= .bl true,rfl,?_⟩
    rintro _ rfl;k_places
    exact hR
   ·rintro z x fs ⟨rfl,rfl⟩;k_places
    refine⟨⟨by decide,by decide⟩,?_⟩
    rw[if_neg (by decide+kernel)]
    refine⟨⟨by decide,by decide⟩,?_⟩
    rw[if_pos (by decide+kernel)]
    refine⟨λd=>d= .bl true,rfl,?_⟩
    rintro _ rfl;k_places
    exact hR
  ·refine⟨λz x fs=>z=[some (.rol (ns.map D.int)),some (.own ((xR 6).map λi=>D.str (wd i))),some (.int s),some (.lst [.str ",",.str ":",.str ",",.str ";",.str ",",.str "]"]),some (.str ln),some (.str t),some (.int (bt wd (rowsL (L.map cs)) s)),o7,some (.int k),some (.int (-1)),some (.bl false),none]/\x="WrongSign"/\fs=[(("place":Str),D.int ((bt wd (rowsL (L.map cs)) s+k:Nat):Int))],λJ' hJ=>?_,?_⟩
   ·show gR [.str t] _ (J'.RX _)
    rw[hJ]
    exact .inl ⟨t,_,rfl,by omega,wD rows s6 (λi _ h=>hn i h) hu.no hk ht,rfl,rfl,rfl⟩
   ·rintro z x fs ⟨rfl,rfl,rfl⟩;k_places
    refine⟨⟨by decide,by decide⟩,?_⟩
    rw[if_pos (by decide+kernel)]
    refine⟨λd=>d= .int ((bt wd (rowsL (L.map cs)) s+k:Nat):Int),⟨by decide,_,rfl,rfl⟩,?_⟩
    rintro _ rfl;k_places
    refine ite2 (λc=>by have h:((k:Nat):Int)=-1:=of_decide_eq_true c;omega) λ_=>?_
    refine⟨_,rfl,?_⟩
    show R (.bl (decide (_=_)))
    rw[decide_eq_true (by omega)]
    exact hR
end
local macro_rules | `(tactic| walk_at "b1") => `(tactic| exact tS λ_ _ _ _ _ _ _ => rfl)
local macro_rules | `(tactic| walk_at "b2") => `(tactic| exact bind2 λ_ _ _ _ _ _ _ _ => rfl)
local macro_rules | `(tactic| walk_at "b3") => `(tactic| exact bind3 λ_ _ _ _ _ _ _ _ _ => rfl)
local macro_rules | `(tactic| walk_at "b4") => `(tactic| exact bind4 λ_ _ _ _ _ _ _ _ _ _ => rfl)
local macro_rules | `(tactic| walk_at "b5") => `(tactic| exact bind5 λ_ _ _ _ _ _ _ _ _ _ _ => rfl)
structure TopIn(K:xK):Prop where
 uCR:FnIn K "_law_at" gS
 uDP:FnIn K "_law_word" gU
 uEQ:FnIn K "_law_wrong_in" gX
 uFY:FnIn K "line_from" ic
 uCZ:FnIn K "lines_from" ig
 uFV:FnIn K "number_from" ij
 uFK:FnIn K "shift_from" il
 uEB:FnIn K "levelled" io
 uDT:FnIn K "spread" iq
 uDZ:FnIn K "home" iu
 uFJ:FnIn K "hues_by_home" iy
 uDJ:FnIn K "motif_from" iC
 uDD:FnIn K "over_from" eQ
 uDV:FnIn K "shifted_from" eU
 uFI:FnIn K "rehue_from" eV
 uEF:FnIn K "form_from" eX
 uFN:FnIn K "measure" iU
 uER:FnIn K "met" iW
 uEW:FnIn K "mirrored" iY
 uDW:FnIn K "turned" ja
 uDN:FnIn K "read" jc
 uDI:FnIn K "_law_whole" je
 uCM:FnIn K "law" dF
 uDO:NnIn K "len"
 uCN:NnIn K "str"
 uEM:NnIn K "range"
 uDB:NnIn K "int"
 uEL:NnIn K "abs"
 uEK:NnIn K "enumerate"
 uEN:NnIn K "isinstance"
 uEP:NnIn K "bool"
 uAQ:ClIn K "Reading"
 uAN:ClIn K "Motif"
 uCE:ClIn K "Mirror"
 uCH:ClIn K "Turn"
 uBJ:ClIn K "Over"
 uAU:ClIn K "Shifted"
 uAP:ClIn K "Rehue"
 uBN:ClIn K "Pattern"
 uFE:InIn K "Motif" "Motif.__init__" iA
 uED:InIn K "Mirror" "Mirror.__init__" iE
 uCT:InIn K "Turn" "Turn.__init__" iG
 uDU:InIn K "Over" "Over.__init__" iI
 uEZ:InIn K "Shifted" "Shifted.__init__" iK
 uCW:InIn K "Rehue" "Rehue.__init__" iM
 uCY:InIn K "Reading" "Reading.__init__" iO
 uFX:InIn K "Pattern" "Pattern.__init__" iQ
 uFG:MtIn K "Reading" "may_take" "Reading.may_take" hV
 uDG:MtIn K "Reading" "take" "Reading.take" ia
 uCQ:MtIn K "Motif" "family" "Motif.family" eY
 uEU:MtIn K "Over" "family" "Over.family" eZ
 uEI:MtIn K "Shifted" "family" "Shifted.family" fg
 uFF:MtIn K "Mirror" "family" "Mirror.family" fk
 uFD:MtIn K "Turn" "family" "Turn.family" fo
 uFH:MtIn K "Rehue" "family" "Rehue.family" ft
 uET:NoIn K "Reading" "text"
 uEC:NoIn K "Reading" "place"
 uFR:NoIn K "Motif" "place"
 uES:NoIn K "Motif" "shifts"
 uFW:NoIn K "Motif" "hues"
 uCS:NoIn K "Mirror" "form"
 uDS:NoIn K "Turn" "form"
 uEJ:NoIn K "Over" "above"
 uEY:NoIn K "Over" "below"
 uDR:NoIn K "Shifted" "form"
 uDX:NoIn K "Shifted" "x"
 uCU:NoIn K "Shifted" "y"
 uFS:NoIn K "Rehue" "form"
 uEH:NoIn K "Rehue" "old"
 uEA:NoIn K "Rehue" "new"
 uDK:NoIn K "Pattern" "text"
 uDA:NoIn K "Pattern" "shifts"
 uFB:NoIn K "Pattern" "form"
 uDH:CsIn K "SIGNS" ".123456"
 uFM:CiIn K "LONGEST" 8
 uEV:CiIn K "DEEP" 5
 uFQ:CiIn K "MOST" 720
 eb:EbIn K
 uJ:E1In K "WrongSign" "WrongSign.__init__" gZ
 uW:EaIn K "WrongSign"
 uCL:NoIn K "WrongSign" "place"
 uFO:EgIn K "WrongSign"
 uL:E1In K "OneLine" "OneLine.__init__" iS
 uY:EaIn K "OneLine"
 uCA:NoIn K "OneLine" "place"
 uDF:EgIn K "OneLine"
 uCI:E0In K "TooGreat"
 uFT:EiIn K "MotifError"
 uFC:EmIn K "MotifError" "MotifError"
 uCP:EmIn K "MotifError" "WrongSign"
 uEE:EmIn K "MotifError" "OneLine"
 uEG:EmIn K "MotifError" "TooGreat"
 uCV:EmIn K "WrongSign" "MotifError"
 uEX:EmIn K "WrongSign" "WrongSign"
 uFU:EmIn K "WrongSign" "OneLine"
 uDC:EmIn K "WrongSign" "TooGreat"
 uDE:EmIn K "OneLine" "MotifError"
 uDY:EmIn K "OneLine" "WrongSign"
 uCO:EmIn K "OneLine" "OneLine"
 uEO:EmIn K "OneLine" "TooGreat"
 uFL:EmIn K "TooGreat" "MotifError"
 uFA:EmIn K "TooGreat" "WrongSign"
 uDQ:EmIn K "TooGreat" "OneLine"
 uFP:EmIn K "TooGreat" "TooGreat"
theorem xG{V:Bx}{h:Heap}(t:TopIn V.K)(X:V.K.In h)(G:h.Ns mainGlobals V.mg){fa:Addr}{fd:FuncData}(F:Fun V.K "law" "law" dF fa fd):FnOk V.P V.w V.K V.mg V.base (Exc.CX1 V.P V.w) 20 fa fd jh (lSp V.K cN):=by
 have uD:=mg_none_of X G t.uDO
 have uK:=mg_none_of X G t.uCN
 have uH:=mg_none_of X G t.uEM
 have uG:=mg_none_of X G t.uDB
 have uBZ:=mg_none_of X G t.uEL
 have uAS:=mg_none_of X G t.uEK
 have uAV:=mg_none_of X G t.uEN
 have uAX:=mg_none_of X G t.uEP
 have uU:=t.uAQ.a t.uET
 have uC:=t.uAQ.a t.uEC
 have uP:=t.uAN.a t.uFR
 have uI:=t.uAN.a t.uES
 have uBI:=t.uAN.a t.uFW
 have uT:=t.uCE.a t.uCS
 have uR:=t.uCH.a t.uDS
 have uO:=t.uBJ.a t.uEJ
 have uS:=t.uBJ.a t.uEY
 have uN:=t.uAU.a t.uDR
 have uBW:=t.uAU.a t.uDX
 have uBM:=t.uAU.a t.uCU
 have uQ:=t.uAP.a t.uFS
 have uBL:=t.uAP.a t.uEH
 have uAW:=t.uAP.a t.uEA
 have uBO:=t.uBN.a t.uDK
 have uBU:=t.uBN.a t.uDA
 have uAZ:=t.uBN.a t.uFB
 have uX:=t.uDH.g X G
 have uAT:=t.uFM.g X G
 have uAE:=t.uEV.g X G
 have uBS:=t.uFQ.g X G
 have uW:=t.uJ.a t.eb t.uW X G
 have uBH:=t.uCL.all
 have uY:=t.uL.a t.eb t.uY X G
 have uBC:=t.uCA.all
 have uAY:=t.uCI.k t.eb X G
 have uZ:=t.uFT.b X G
 have uBK:V.x "place" ["WrongSign","OneLine"]:=AllP.mem ⟨t.uFO.g uW t.uCL,t.uDF.g uY t.uCA,trivial⟩
 have ek:nC V:=tT ⟨(let ⟨C,N,bm,k,_⟩:=t.eb.k X G;⟨C,N,bm,k⟩),(t.uJ.c t.eb X G),(t.uL.c t.eb X G),(let ⟨C,N,bm,k,_⟩:=t.uCI.k t.eb X G;⟨C,N,bm,k⟩),trivial⟩ ⟨⟨t.uFC,t.uCP,t.uEE,t.uEG,trivial⟩,⟨t.uCV,t.uEX,t.uFU,t.uDC,trivial⟩,⟨t.uDE,t.uDY,t.uCO,t.uEO,trivial⟩,⟨t.uFL,t.uFA,t.uDQ,t.uFP,trivial⟩,trivial⟩
 have uV:jj V:=wH (t.uCR.tx X G (by walk_at "b2")) uD
 have uBT:jk V:=wJ (t.uDP.tx X G (by walk_at "b2")) uK
 have uBE:jl V:=wL (t.uEQ.tx X G (by walk_at "b2")) uH uD uK
 have uJ:fz V:=wM (t.uJ.txe t.eb X G (by walk_at "b2")) uZ uW uBH
 have uF:cr V:=wN (t.uFG.txm t.uAQ (by walk_at "b2")) uD uU uC
 have uA:bT V:=wO (t.uDG.txm t.uAQ (by walk_at "b2")) uC uF uJ
 have uAO:jm V:=wP (t.uFY.tx X G (by walk_at "b3")) uH uX uA uF
 have uBV:jn V:=wQ (t.uCZ.tx X G (by walk_at "b1")) uD uAO uAT uF
 have uAR:jp V:=wR (t.uFV.tx X G (by walk_at "b1")) uG uF uA
 have uM:dH V:=wS (t.uFK.tx X G (by walk_at "b1")) uAR uA
 have uAB:fA V:=wT (t.uEB.tx X G (by walk_at "b2"))
 have uAA:fB V:=wU (t.uDT.tx X G (by walk_at "b2")) uBZ uAB
 have uBQ:jq V:=wV (t.uDZ.tx X G (by walk_at "b3"))
 have uBX:jr V:=wW (t.uFJ.tx X G (by walk_at "b2")) uAS uBQ uX
 have uBF:js V:=wX (t.uFE.txi X G (by walk_at "b5")) uAA uBX uP uI uBI
 have uAF:fC V:=wY (t.uDJ.tx X G (by walk_at "b1")) uBV uM uC uBF uA
 have uAJ:fD V:=wZ (t.uED.txi X G (by walk_at "b2")) uT
 have uAG:fE V:=xa (t.uCT.txi X G (by walk_at "b2")) uR
 have uAM:fF V:=xb (t.uDU.txi X G (by walk_at "b3")) uO uS
 have uAI:fG V:=xc (t.uEZ.txi X G (by walk_at "b4")) uN uBW uBM
 have uAK:fH V:=xg (t.uCW.txi X G (by walk_at "b4")) uQ uBL uAW
 have uE:nA V:=xm (t.uDD.tx X G (by walk_at "b2")) (t.uDV.tx X G (by walk_at "b2")) (t.uFI.tx X G (by walk_at "b2")) (t.uEF.tx X G (by walk_at "b2")) uAM uA uM uAI uG uAK uAF uAE uAJ uAG uF 6
 have uBA:jt V:=xn (t.uCY.txi X G (by walk_at "b2")) uU uC
 have uBB:ju V:=xo (t.uFX.txi X G (by walk_at "b4")) uBO uBU uAZ
 have uL:fJ V:=xp (t.uL.txe t.eb X G (by walk_at "b2")) uZ uY uBC
 have uAC:jv V:=xq (t.uFN.tx X G (by walk_at "b2")) uAB
 have uAL:fK V:=xr (t.uER.tx X G (by walk_at "b2")) uAC
 have uAD:fL V:=xt (t.uEW.tx X G (by walk_at "b1"))
 have uAH:fM V:=xu (t.uDW.tx X G (by walk_at "b1")) uAA
 have uB:nB V:=xC (t.uCQ.txm t.uAN (by walk_at "b1")) (t.uEU.txm t.uBJ (by walk_at "b1")) (t.uEI.txm t.uAU (by walk_at "b1")) (t.uFF.txm t.uCE (by walk_at "b1")) (t.uFD.txm t.uCH (by walk_at "b1")) (t.uFH.txm t.uAP (by walk_at "b1")) uI uP uL uAL uO uS uN uAD uT uAH uR uQ 6
 have uBR:jw V:=xD (t.uDN.tx X G (by walk_at "b1")) uD uE uBS uC uBA uBB uB uJ uAY
 have uBD:jx V:=xE (t.uDI.tx X G (by walk_at "b1")) uAV uAX uG
 exact xF F uK uH uD uV uBT uBE uBR uBD uBK ek
theorem all_mk{l:zG}{w:World}{K:xK}{h:Heap}{mg:Str->Option Value}{fa:Addr}(X:K.In h)(G:h.Ns mainGlobals mg)(hfa:mg "law"=some (.ref fa))(t:TopIn K):
  ∃ fd:FuncData,(∀ (s:Shared) (v:Value),BindsTo s fd ⟨[v],[]⟩ [("_law_script",v)])/\∀ base:Heap,K.In base->base.Ns mainGlobals mg->FnOk l.prog w K mg base (Exc.CX1 l.prog w) 20 fa fd ["_law_script"] (lSp K cN):=by
 obtain⟨fd,b,F⟩:=t.uCM.law X G hfa (λ_ _ _ _ _ _ _=>rfl)
 exact⟨fd,b,λbase _ _=>xG (V:=⟨l.prog,w,K,mg,base⟩) t X G F⟩
theorem law_walk{l:zG}{q:Program}{loose:List Str}{XP:(Str->Option Value)->Heap->Prop}{YP:World->Heap->Prop}{d:DefRec}{K:Params->xK}(hn:l.most=some 63)(hdf:d.params.defaults=[])
  (hY:∀ (w:World) (h:Heap),YP w h->(K w.params).In h)
  (F:∀ (w:World) (mg:Str->Option Value) (fa:Addr) (h:Heap),(K w.params).In h->h.Ns mainGlobals mg->mg d.name=some (.ref fa)->
   ∃ fd:FuncData,(∀ (s:Shared) (u:Value),BindsTo s fd ⟨[u],[]⟩ [("_law_script",u)])/\∀ base:Heap,(K w.params).In base->base.Ns mainGlobals mg->FnOk l.prog w (K w.params) mg base (Exc.CX1 l.prog w) 20 fa fd ["_law_script"] (lSp (K w.params) cN)):
  Af q loose XP YP l.row.toRowW d [] (λf vs=>PySem.call f vs):=
 L2.walk_of (n:=63) (k:=20) (x:="_law_script") (CX:=λw=>Exc.CX1 l.prog w) (sp:=λw=>lSp (K w.params) cN) hn (by decide) hdf ⟨rfl,by decide,by decide⟩ hY F (λ_ _ a ns hl _ hS=>rk hl hS) λ_ _ _ _ _ ⟨_,_,_,_,_,_,_,_,_,_,_,_,_,_,_,z⟩=>z
end My
open PySem PySem.W PyProof.Rows
local macro_rules | `(tactic| walk_at "top") => `(tactic| first | ((with_reducible refine' My.fnIn_mk ?a ?l ?c ?k); (case a => k_is); (case l => k_is); (case c => k_is); (case k => k_is)) | ((with_reducible refine' My.nnIn_mk ?a); (case a => k_is)) | ((with_reducible refine' My.noIn_mk ?a ?b); (case a => k_is); (case b => k_is)) | ((with_reducible refine' My.mtIn_mk ?a ?b ?i ?l ?c ?k); (case a => k_is); (case b => k_is); (case i => k_is); (case l => k_is); (case c => k_is); (case k => k_is)) | ((with_reducible refine' My.inIn_mk ?a ?mk ?b ?i ?kp ?l ?c ?k); (case a => k_is); (case mk => k_is); (case b => k_is); (case i => k_is); (case kp => k_is); (case l => k_is); (case c => k_is); (case k => k_is)) | ((with_reducible refine' My.clIn_mk ?a ?pg ?hd ?po ?sa ?ha ?hn ?ht ?hm); (case a => k_is); (case pg => k_is); (case hd => k_is); (case po => k_is); (case sa => k_is); (case ha => k_is); (case hn => k_is); (case ht => k_is); (case hm => k_is)) | ((with_reducible refine' My.ciIn_mk ?a); (case a => k_is)) | ((with_reducible refine' My.csIn_mk ?a); (case a => k_is)) | ((with_reducible refine' My.ebIn_mk ?a ?kp ?o ?nk ?al ?ni); (case a => k_is); (case kp => k_is); (case o => k_is); (case nk => k_is); (case al => rfl); (case ni => k_is)) | ((with_reducible refine' My.e0In_mk ?b ?a ?kp ?o ?nk ?al ?ni); (case b => k_is); (case a => k_is); (case kp => k_is); (case o => k_is); (case nk => k_is); (case al => rfl); (case ni => k_is)) | ((with_reducible refine' My.e1In_mk ?b ?a ?kp ?o ?j ?i ?l ?c ?k); (case b => k_is); (case a => k_is); (case kp => k_is); (case o => k_is); (case j => k_is); (case i => k_is); (case l => k_is); (case c => k_is); (case k => k_is)) | ((with_reducible refine' My.eaIn_mk ?a ?b); (case a => k_is); (case b => k_is)) | ((with_reducible refine' My.egIn_mk ?a ?b ?c); (case a => k_is); (case b => k_is); (case c => k_is)) | ((with_reducible refine' My.eiIn_mk ?a ?b ?c ?d); (case a => k_is); (case b => k_is); (case c => k_is); (case d => k_is)) | ((with_reducible refine' My.emIn_mkT ?e ?a ?c ?d); (case e => decide); (case a => k_is); (case c => k_is); (case d => k_is)) | ((with_reducible refine' My.emIn_mkF ?e ?a ?c ?d); (case e => decide); (case a => k_is); (case c => k_is); (case d => k_is)))
set_option maxRecDepth 100000 in
set_option maxHeartbeats 0 in
theorem PySem.Challenge.cw_motiffield_k09_numbers_holds : PySem.Challenge.rw_motiffield_k09_numbers.Holds := by
  w_on; o_law; k_head; (case hw => w_witness2)
  k_fill
  refine My.law_walk (l := PySem.Challenge.rw_motiffield_k09_numbers) rfl rfl (λw h Y => kIn_of Y) ?F
  case F =>
    intro w mg fa h KX G hmg
    refine My.all_mk KX G hmg ?_
    constructor
    all_goals walk_at "top"
end
